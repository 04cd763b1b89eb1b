/-
  Steady: the reference's minors; whether a polynomial is steady, of both., and what follows.
-/
import Derived.Test.YtlnkpocijfgikaaDoorPd
import Derived.Test.YtlnkpocijfgikaaDoorPe
namespace Go.Ev
open Go Go.RowKit
noncomputable def f70_r0 : List EOper := [oG 4 (.as (cG 0))]
noncomputable def f70_r1 : List EOper := [oG 5 (.mv (tG 1)), oG 6 (.bin .lss (tG 5) (cG 0)), oG 7 (.mv (tG 6)), gG 8 7 false (.mv (tG 1)), gG 9 7 false (.mv (tG 0)), gG 10 7 false (.len (tG 9)), gG 11 7 false (.bin .geq (tG 8) (tG 10)), oG 12 (.pick (tG 7) (.c (.b true)) (tG 11))]
noncomputable def f70_r2 : List EOper := [oG 4 (.as (cG 0))]
noncomputable def f70_r3 : List EOper := [oG 13 (.mv (tG 0)), oG 14 (.mv (tG 1)), oG 15 (.iads 1 (tG 13) (tG 14)), oG 16 (.ld (tG 15)), oG 4 (.as (tG 16))]
noncomputable def f70_c : EC := (.seq (.reg f70_r0) (.seq (.seq (.reg f70_r1) (.cond (tG 12) (.seq (.reg f70_r2) .ret) .skip)) (.seq (.reg f70_r3) .ret)))
noncomputable def f70 : EF := ⟨17, [.tmp (.ofNat 4)], f70_c, none⟩
theorem f70_rs : f70.rs = [.tmp (.ofNat 4)] := of_eq_true (eq_self _)
noncomputable def f71_r0 : List EOper := [oG 6 (.as (cG 0))]
noncomputable def f71_r1 : List EOper := [oG 7 (.as (cG 0)), oG 8 (.as (cG 1))]
noncomputable def f71_r2 : List EOper := [oG 10 (.mv (tG 2)), oG 11 (.bin .eql (tG 10) (cG 0))]
noncomputable def f71_r3 : List EOper := [oG 6 (.as (cG 1))]
noncomputable def f71_r4 : List EOper := [oG 9 (.as (cG 0))]
noncomputable def f71_r5 : List EOper := [oG 12 (.mv (tG 2)), oG 13 (.mv (tG 9)), oG 14 (.bin .shr (tG 12) (tG 13)), oG 15 (.bin .gtr (tG 14) (cG 0))]
noncomputable def f71_r6 : List EOper := [oG 18 (.mv (tG 2)), oG 19 (.mv (tG 9)), oG 20 (.bin .shr (tG 18) (tG 19)), oG 21 (.bin .rem (tG 20) (cG 2)), oG 22 (.bin .eql (tG 21) (cG 1))]
noncomputable def f71_r7 : List Stage := [⟨[oG 23 (.mv (tG 7)), oG 24 (.mv (tG 8)), oG 25 (.mv (tG 0)), oG 26 (.mv (tG 1)), oG 27 (.iads 1 (tG 25) (tG 26)), oG 28 (.ld (tG 27)), oG 29 (.mv (tG 9)), oG 30 (.iads 1 (tG 28) (tG 29)), oG 31 (.ld (tG 30)), oG 32 (.bin .mul (tG 24) (tG 31)), oG 33 (.mv (tG 0)), oG 34 (.mv (tG 1)), oG 35 (.bin .add (tG 34) (cG 1)), oG 36 (.mv (tG 2)), oG 37 (.mv (tG 9)), oG 38 (.bin .shl (cG 1) (tG 37)), oG 39 (.bin .andNot (tG 36) (tG 38))], [], (some (oG 40 (.call (fG 71) [(tG 33), (tG 35), (tG 39)]))), []⟩, ⟨[oG 41 (.bin .mul (tG 32) (tG 40)), oG 42 (.bin .add (tG 23) (tG 41))], [oG 23 (.mv (tG 7)), oG 24 (.mv (tG 8)), oG 25 (.mv (tG 0)), oG 26 (.mv (tG 1)), oG 27 (.iads 1 (tG 25) (tG 26)), oG 28 (.ld (tG 27)), oG 29 (.mv (tG 9)), oG 30 (.iads 1 (tG 28) (tG 29)), oG 31 (.ld (tG 30)), oG 32 (.bin .mul (tG 24) (tG 31))], (some (oG 7 (.as (tG 42)))), []⟩, ⟨[], [], none, []⟩]
noncomputable def f71_r8 : List EOper := [oG 43 (.mv (tG 8)), oG 44 (.neg (tG 43)), oG 8 (.as (tG 44))]
noncomputable def f71_r9 : List EOper := [oG 16 (.mv (tG 9)), oG 17 (.bin .add (tG 16) (cG 1)), oG 9 (.as (tG 17))]
noncomputable def f71_l0 : EC := (.seq (.seq (.reg f71_r5) (.cond (tG 15) .skip (.exit 0))) (.seq (.block 1 (.seq (.reg f71_r6) (.cond (tG 22) (.seq (.draw f71_r7) (.reg f71_r8)) .skip))) (.reg f71_r9)))
noncomputable def f71_r10 : List EOper := [oG 45 (.mv (tG 7)), oG 6 (.as (tG 45))]
noncomputable def f71_c : EC := (.seq (.reg f71_r0) (.seq (.reg f71_r1) (.seq (.seq (.reg f71_r2) (.cond (tG 11) (.seq (.reg f71_r3) .ret) .skip)) (.seq (.seq (.reg f71_r4) (.block 0 (.loop f71_l0))) (.seq (.reg f71_r10) .ret)))))
noncomputable def f71 : EF := ⟨46, [.tmp (.ofNat 6)], f71_c, none⟩
theorem f71_rs : f71.rs = [.tmp (.ofNat 6)] := of_eq_true (eq_self _)
noncomputable def f30_r0 : List EOper := [oG 2 (.as (.c .sn))]
noncomputable def f30_r1 : List EOper := [oG 10 (.mv (tG 0)), oG 11 (.len (tG 10)), oG 12 (.bin .sub (tG 11) (cG 1)), oG 3 (.as (tG 12))]
noncomputable def f30_r2 : List EOper := [oG 4 (.as (.c .sn))]
noncomputable def f30_r3 : List EOper := [oG 5 (.as (cG 1))]
noncomputable def f30_r4 : List EOper := [oG 13 (.mv (tG 5)), oG 14 (.mv (tG 3)), oG 15 (.bin .leq (tG 13) (tG 14))]
noncomputable def f30_r5 : List EOper := [oG 6 (.as (.c .sn))]
noncomputable def f30_r6 : List EOper := [oG 7 (.as (cG 1))]
noncomputable def f30_r7 : List EOper := [oG 18 (.mv (tG 7)), oG 19 (.mv (tG 3)), oG 20 (.bin .leq (tG 18) (tG 19))]
noncomputable def f30_r8 : List EOper := [oG 23 (.mv (tG 6)), oG 24 (.mv (tG 0)), oG 25 (.mv (tG 3)), oG 26 (.mv (tG 7)), oG 27 (.bin .mul (cG 2) (tG 26)), oG 28 (.bin .sub (tG 25) (tG 27)), oG 29 (.mv (tG 5)), oG 30 (.bin .add (tG 28) (tG 29)), oG 31 (.call (fG 70) [(tG 24), (tG 30)]), oG 32 (.bslice 1 1 [(.i .i64 (.ofNat 0))] [(0, 1, (tG 31))]), oG 33 (.app 1 (tG 23) (tG 32)), oG 6 (.as (tG 33))]
noncomputable def f30_r9 : List EOper := [oG 21 (.mv (tG 7)), oG 22 (.bin .add (tG 21) (cG 1)), oG 7 (.as (tG 22))]
noncomputable def f30_l0 : EC := (.seq (.seq (.reg f30_r7) (.cond (tG 20) .skip (.exit 2))) (.seq (.block 3 (.reg f30_r8)) (.reg f30_r9)))
noncomputable def f30_r10 : List EOper := [oG 34 (.mv (tG 4)), oG 35 (.mv (tG 6)), oG 36 (.bslice 1 1 [.sn] [(0, 1, (tG 35))]), oG 37 (.app 1 (tG 34) (tG 36)), oG 4 (.as (tG 37))]
noncomputable def f30_r11 : List EOper := [oG 16 (.mv (tG 5)), oG 17 (.bin .add (tG 16) (cG 1)), oG 5 (.as (tG 17))]
noncomputable def f30_l1 : EC := (.seq (.seq (.reg f30_r4) (.cond (tG 15) .skip (.exit 0))) (.seq (.block 1 (.seq (.reg f30_r5) (.seq (.seq (.reg f30_r6) (.block 2 (.loop f30_l0))) (.reg f30_r10)))) (.reg f30_r11)))
noncomputable def f30_r12 : List EOper := [oG 8 (.as (.c .sn))]
noncomputable def f30_r13 : List EOper := [oG 9 (.as (cG 1))]
noncomputable def f30_r14 : List EOper := [oG 38 (.mv (tG 9)), oG 39 (.mv (tG 3)), oG 40 (.bin .leq (tG 38) (tG 39))]
noncomputable def f30_r15 : List EOper := [oG 43 (.mv (tG 8)), oG 44 (.mv (tG 4)), oG 45 (.mv (tG 9)), oG 46 (.bin .shl (cG 1) (tG 45)), oG 47 (.bin .sub (tG 46) (cG 1)), oG 48 (.call (fG 71) [(tG 44), (cG 0), (tG 47)]), oG 49 (.bslice 1 1 [(.i .i64 (.ofNat 0))] [(0, 1, (tG 48))]), oG 50 (.app 1 (tG 43) (tG 49)), oG 8 (.as (tG 50))]
noncomputable def f30_r16 : List EOper := [oG 41 (.mv (tG 9)), oG 42 (.bin .add (tG 41) (cG 1)), oG 9 (.as (tG 42))]
noncomputable def f30_l2 : EC := (.seq (.seq (.reg f30_r14) (.cond (tG 40) .skip (.exit 4))) (.seq (.block 5 (.reg f30_r15)) (.reg f30_r16)))
noncomputable def f30_r17 : List EOper := [oG 51 (.mv (tG 8)), oG 2 (.as (tG 51))]
noncomputable def f30_c : EC := (.seq (.reg f30_r0) (.seq (.reg f30_r1) (.seq (.reg f30_r2) (.seq (.seq (.reg f30_r3) (.block 0 (.loop f30_l1))) (.seq (.reg f30_r12) (.seq (.seq (.reg f30_r13) (.block 4 (.loop f30_l2))) (.seq (.reg f30_r17) .ret)))))))
noncomputable def f30 : EF := ⟨52, [.tmp (.ofNat 2)], f30_c, none⟩
theorem f30_rs : f30.rs = [.tmp (.ofNat 2)] := of_eq_true (eq_self _)
noncomputable def f86_r0 : List EOper := [oG 2 (.as (.c (.b false)))]
noncomputable def f86_r1 : List EOper := [oG 3 (.mv (tG 0)), oG 4 (.bin .leq (tG 3) (cG 0)), oG 2 (.as (tG 4))]
noncomputable def f86_c : EC := (.seq (.reg f86_r0) (.seq (.reg f86_r1) .ret))
noncomputable def f86 : EF := ⟨5, [.tmp (.ofNat 2)], f86_c, none⟩
theorem f86_rs : f86.rs = [.tmp (.ofNat 2)] := of_eq_true (eq_self _)
noncomputable def f98_r0 : List EOper := [oG 4 (.as (cG 0))]
noncomputable def f98_r1 : List EOper := [oG 6 (.mv (tG 0)), oG 7 (.len (tG 6)), oG 8 (.mv (cG 0))]
noncomputable def f98_r2 : List EOper := [oG 9 (.bin .lss (tG 8) (tG 7))]
noncomputable def f98_r3 : List EOper := [oG 10 (.mv (tG 8)), oG 5 (.as (tG 10))]
noncomputable def f98_r4 : List EOper := [oG 11 (.mv (tG 1)), oG 12 (.mv (tG 0)), oG 13 (.mv (tG 5)), oG 14 (.iads 1 (tG 12) (tG 13)), oG 15 (.ld (tG 14)), oG 16 (.call (tG 11) [(tG 15)])]
noncomputable def f98_r5 : List EOper := [oG 17 (.mv (tG 5)), oG 4 (.as (tG 17))]
noncomputable def f98_r6 : List EOper := [oG 18 (.bin .add (tG 8) (cG 1)), oG 8 (.mv (tG 18))]
noncomputable def f98_l0 : EC := (.seq (.reg f98_r2) (.seq (.cond (tG 9) .skip (.exit 0)) (.seq (.block 1 (.seq (.reg f98_r3) (.seq (.reg f98_r4) (.cond (tG 16) (.seq (.reg f98_r5) .ret) .skip)))) (.reg f98_r6))))
noncomputable def f98_r7 : List EOper := [oG 4 (.as (.c (.i .i64 (.negSucc 0))))]
noncomputable def f98_c : EC := (.seq (.reg f98_r0) (.seq (.seq (.reg f98_r1) (.block 0 (.loop f98_l0))) (.seq (.reg f98_r7) .ret)))
noncomputable def f98 : EF := ⟨19, [.tmp (.ofNat 4)], f98_c, none⟩
noncomputable def f85_r0 : List EOper := [oG 4 (.as (.c (.b false)))]
noncomputable def f85_r1 : List EOper := [oG 5 (.mv (tG 0)), oG 6 (.mv (tG 1)), oG 7 (.call (fG 98) [(tG 5), (tG 6)]), oG 8 (.bin .geq (tG 7) (cG 0)), oG 4 (.as (tG 8))]
noncomputable def f85_c : EC := (.seq (.reg f85_r0) (.seq (.reg f85_r1) .ret))
noncomputable def f85 : EF := ⟨9, [.tmp (.ofNat 4)], f85_c, none⟩
theorem f85_rs : f85.rs = [.tmp (.ofNat 4)] := of_eq_true (eq_self _)
noncomputable def f55_r0 : List EOper := [oG 2 (.as (.c (.b false)))]
noncomputable def f55_r1 : List EOper := [oG 3 (.mv (tG 0)), oG 4 (.mv (tG 0)), oG 5 (.len (tG 4)), oG 6 (.bin .sub (tG 5) (cG 1)), oG 7 (.iads 1 (tG 3) (tG 6)), oG 8 (.ld (tG 7)), oG 9 (.bin .lss (tG 8) (cG 0))]
noncomputable def f55_r2 : List EOper := [oG 10 (.mv (tG 0)), oG 11 (.bslice 1 1 [(.i .i64 (.ofNat 0))] [(0, 1, (.c (.i .i64 (.negSucc 0))))]), oG 12 (.call (fG 67) [(tG 10), (tG 11)]), oG 0 (.as (tG 12))]
noncomputable def f55_r3 : List EOper := [oG 13 (.mv (tG 0)), oG 14 (.call (fG 57) [(tG 13)]), oG 15 (.call (fG 85) [(tG 14), (fG 86)]), oG 16 (.not (tG 15)), oG 2 (.as (tG 16))]
noncomputable def f55_c : EC := (.seq (.reg f55_r0) (.seq (.seq (.reg f55_r1) (.cond (tG 9) (.reg f55_r2) .skip)) (.seq (.reg f55_r3) .ret)))
noncomputable def f55 : EF := ⟨17, [.tmp (.ofNat 2)], f55_c, none⟩
theorem f55_rs : f55.rs = [.tmp (.ofNat 2)] := of_eq_true (eq_self _)
noncomputable def f15_r0 : List EOper := [oG 2 (.as (.c (.b false))), oG 3 (.as (cG 0))]
noncomputable def f15_r1 : List EOper := [oG 5 (.mv (tG 0)), oG 6 (.call (fG 14) [(tG 5)]), oG 4 (.as (tG 6))]
noncomputable def f15_r2 : List EOper := [oG 7 (.mv (tG 4)), oG 8 (.bin .neq (tG 7) (cG 0))]
noncomputable def f15_r3 : List EOper := [oG 9 (.mv (tG 4)), oG 2 (.as (.c (.b false))), oG 3 (.as (tG 9))]
noncomputable def f15_r4 : List EOper := [oG 10 (.mv (tG 0)), oG 11 (.call (fG 55) [(tG 10)]), oG 2 (.as (tG 11)), oG 3 (.as (cG 0))]
noncomputable def f15_c : EC := (.seq (.reg f15_r0) (.seq (.seq (.reg f15_r1) (.seq (.reg f15_r2) (.cond (tG 8) (.seq (.reg f15_r3) .ret) .skip))) (.seq (.reg f15_r4) .ret)))
noncomputable def f15 : EF := ⟨12, [.tmp (.ofNat 2), .tmp (.ofNat 3)], f15_c, none⟩
theorem f15_rs : f15.rs = [.tmp (.ofNat 2), .tmp (.ofNat 3)] := of_eq_true (eq_self _)
noncomputable def f27_r0 : List EOper := [oG 2 (.as (.c (.b false)))]
noncomputable def f27_r1 : List EOper := [oG 3 (.as (.c .sn))]
noncomputable def f27_r2 : List EOper := [oG 4 (.as (cG 0))]
noncomputable def f27_r3 : List EOper := [oG 7 (.mv (tG 4)), oG 8 (.mv (tG 0)), oG 9 (.len (tG 8)), oG 10 (.bin .lss (tG 7) (tG 9))]
noncomputable def f27_r4 : List EOper := [oG 13 (.mv (tG 0)), oG 14 (.mv (tG 0)), oG 15 (.len (tG 14)), oG 16 (.bin .sub (tG 15) (cG 1)), oG 17 (.iads 1 (tG 13) (tG 16)), oG 18 (.ld (tG 17)), oG 19 (.bin .lss (tG 18) (cG 0))]
noncomputable def f27_r5 : List EOper := [oG 20 (.mv (tG 3)), oG 21 (.mv (tG 0)), oG 22 (.mv (tG 4)), oG 23 (.iads 1 (tG 21) (tG 22)), oG 24 (.ld (tG 23)), oG 25 (.neg (tG 24)), oG 26 (.bslice 1 1 [(.i .i64 (.ofNat 0))] [(0, 1, (tG 25))]), oG 27 (.app 1 (tG 20) (tG 26)), oG 3 (.as (tG 27))]
noncomputable def f27_r6 : List EOper := [oG 28 (.mv (tG 3)), oG 29 (.mv (tG 0)), oG 30 (.mv (tG 4)), oG 31 (.iads 1 (tG 29) (tG 30)), oG 32 (.ld (tG 31)), oG 33 (.bslice 1 1 [(.i .i64 (.ofNat 0))] [(0, 1, (tG 32))]), oG 34 (.app 1 (tG 28) (tG 33)), oG 3 (.as (tG 34))]
noncomputable def f27_r7 : List EOper := [oG 11 (.mv (tG 4)), oG 12 (.bin .add (tG 11) (cG 1)), oG 4 (.as (tG 12))]
noncomputable def f27_l0 : EC := (.seq (.seq (.reg f27_r3) (.cond (tG 10) .skip (.exit 0))) (.seq (.block 1 (.seq (.reg f27_r4) (.cond (tG 19) (.reg f27_r5) (.reg f27_r6)))) (.reg f27_r7)))
noncomputable def f27_r8 : List EOper := [oG 35 (.mv (tG 3)), oG 36 (.call (fG 30) [(tG 35)]), oG 5 (.as (tG 36))]
noncomputable def f27_r9 : List EOper := [oG 6 (.as (cG 0))]
noncomputable def f27_r10 : List EOper := [oG 37 (.mv (tG 6)), oG 38 (.mv (tG 5)), oG 39 (.len (tG 38)), oG 40 (.bin .lss (tG 37) (tG 39))]
noncomputable def f27_r11 : List EOper := [oG 43 (.mv (tG 5)), oG 44 (.mv (tG 6)), oG 45 (.iads 1 (tG 43) (tG 44)), oG 46 (.ld (tG 45)), oG 47 (.bin .leq (tG 46) (cG 0))]
noncomputable def f27_r12 : List EOper := [oG 2 (.as (.c (.b false)))]
noncomputable def f27_r13 : List EOper := [oG 41 (.mv (tG 6)), oG 42 (.bin .add (tG 41) (cG 1)), oG 6 (.as (tG 42))]
noncomputable def f27_l1 : EC := (.seq (.seq (.reg f27_r10) (.cond (tG 40) .skip (.exit 2))) (.seq (.block 3 (.seq (.reg f27_r11) (.cond (tG 47) (.seq (.reg f27_r12) .ret) .skip))) (.reg f27_r13)))
noncomputable def f27_r14 : List EOper := [oG 2 (.as (.c (.b true)))]
noncomputable def f27_c : EC := (.seq (.reg f27_r0) (.seq (.reg f27_r1) (.seq (.seq (.reg f27_r2) (.block 0 (.loop f27_l0))) (.seq (.reg f27_r8) (.seq (.seq (.reg f27_r9) (.block 2 (.loop f27_l1))) (.seq (.reg f27_r14) .ret))))))
noncomputable def f27 : EF := ⟨48, [.tmp (.ofNat 2)], f27_c, none⟩
theorem f27_rs : f27.rs = [.tmp (.ofNat 2)] := of_eq_true (eq_self _)
noncomputable def f16_r0 : List EOper := [oG 2 (.as (.c (.b false))), oG 3 (.as (cG 0))]
noncomputable def f16_r1 : List EOper := [oG 7 (.mv (tG 0)), oG 8 (.call (fG 14) [(tG 7)]), oG 4 (.as (tG 8))]
noncomputable def f16_r2 : List EOper := [oG 9 (.mv (tG 4)), oG 10 (.bin .neq (tG 9) (cG 0))]
noncomputable def f16_r3 : List EOper := [oG 11 (.mv (tG 4)), oG 2 (.as (.c (.b false))), oG 3 (.as (tG 11))]
noncomputable def f16_r4 : List EOper := [oG 13 (.mv (tG 0)), oG 14 (.call (fG 56) [(tG 13)]), oG 12 (.mv (tG 14)), oG 15 (.ext (tG 12) 0), oG 16 (.ext (tG 12) 1), oG 5 (.as (tG 15)), oG 6 (.as (tG 16))]
noncomputable def f16_r5 : List EOper := [oG 17 (.mv (tG 6)), oG 18 (.mv (tG 17)), gG 19 18 true (.mv (tG 5)), gG 20 18 true (.call (fG 55) [(tG 19)]), oG 21 (.pick (tG 18) (tG 20) (.c (.b false))), oG 2 (.as (tG 21)), oG 3 (.as (cG 0))]
noncomputable def f16_c : EC := (.seq (.reg f16_r0) (.seq (.seq (.reg f16_r1) (.seq (.reg f16_r2) (.cond (tG 10) (.seq (.reg f16_r3) .ret) .skip))) (.seq (.reg f16_r4) (.seq (.reg f16_r5) .ret))))
noncomputable def f16 : EF := ⟨22, [.tmp (.ofNat 2), .tmp (.ofNat 3)], f16_c, none⟩
theorem f16_rs : f16.rs = [.tmp (.ofNat 2), .tmp (.ofNat 3)] := of_eq_true (eq_self _)
noncomputable def f28_r0 : List EOper := [oG 2 (.as (.c (.b false)))]
noncomputable def f28_r1 : List EOper := [oG 4 (.mv (tG 0)), oG 5 (.call (fG 69) [(tG 4)]), oG 3 (.as (tG 5))]
noncomputable def f28_r2 : List EOper := [oG 6 (.mv (tG 3)), oG 7 (.iads 1 (tG 6) (cG 0)), oG 8 (.ld (tG 7)), oG 9 (.bin .neq (tG 8) (cG 0)), oG 10 (.mv (tG 9)), gG 11 10 true (.mv (tG 3)), gG 12 10 true (.mv (tG 3)), gG 13 10 true (.len (tG 12)), gG 14 10 true (.bin .sub (tG 13) (cG 1)), gG 15 10 true (.iads 1 (tG 11) (tG 14)), gG 16 10 true (.ld (tG 15)), gG 17 10 true (.bin .neq (tG 16) (cG 0)), oG 18 (.pick (tG 10) (tG 17) (.c (.b false))), oG 19 (.mv (tG 18)), gG 20 19 true (.mv (tG 3)), gG 21 19 true (.call (fG 27) [(tG 20)]), oG 22 (.pick (tG 19) (tG 21) (.c (.b false))), oG 2 (.as (tG 22))]
noncomputable def f28_c : EC := (.seq (.reg f28_r0) (.seq (.reg f28_r1) (.seq (.reg f28_r2) .ret)))
noncomputable def f28 : EF := ⟨23, [.tmp (.ofNat 2)], f28_c, none⟩
theorem f28_rs : f28.rs = [.tmp (.ofNat 2)] := of_eq_true (eq_self _)
noncomputable def f17_r0 : List EOper := [oG 2 (.as (.c .sn)), oG 3 (.as (cG 0))]
noncomputable def f17_r1 : List EOper := [oG 5 (.mv (tG 0)), oG 6 (.call (fG 14) [(tG 5)]), oG 4 (.as (tG 6))]
noncomputable def f17_r2 : List EOper := [oG 7 (.mv (tG 4)), oG 8 (.bin .neq (tG 7) (cG 0))]
noncomputable def f17_r3 : List EOper := [oG 9 (.mv (tG 4)), oG 2 (.as (.c .sn)), oG 3 (.as (tG 9))]
noncomputable def f17_r4 : List EOper := [oG 10 (.mv (tG 0)), oG 11 (.call (fG 57) [(tG 10)]), oG 2 (.as (tG 11)), oG 3 (.as (cG 0))]
noncomputable def f17_c : EC := (.seq (.reg f17_r0) (.seq (.seq (.reg f17_r1) (.seq (.reg f17_r2) (.cond (tG 8) (.seq (.reg f17_r3) .ret) .skip))) (.seq (.reg f17_r4) .ret)))
noncomputable def f17 : EF := ⟨12, [.tmp (.ofNat 2), .tmp (.ofNat 3)], f17_c, none⟩
theorem f17_rs : f17.rs = [.tmp (.ofNat 2), .tmp (.ofNat 3)] := of_eq_true (eq_self _)
noncomputable def f29_r0 : List EOper := [oG 4 (.as (.c (.b false)))]
noncomputable def f29_r1 : List EOper := [oG 6 (.mv (tG 0)), oG 7 (.len (tG 6)), oG 8 (.mv (tG 1)), oG 9 (.len (tG 8)), oG 10 (.bin .neq (tG 7) (tG 9))]
noncomputable def f29_r2 : List EOper := [oG 4 (.as (.c (.b false)))]
noncomputable def f29_r3 : List EOper := [oG 5 (.as (cG 0))]
noncomputable def f29_r4 : List EOper := [oG 11 (.mv (tG 5)), oG 12 (.mv (tG 0)), oG 13 (.len (tG 12)), oG 14 (.bin .lss (tG 11) (tG 13))]
noncomputable def f29_r5 : List Stage := [⟨[oG 17 (.mv (tG 0)), oG 18 (.mv (tG 5)), oG 19 (.iads 1 (tG 17) (tG 18)), oG 20 (.ld (tG 19)), oG 21 (.mv (tG 1)), oG 22 (.mv (tG 5)), oG 23 (.iads 1 (tG 21) (tG 22)), oG 24 (.ld (tG 23)), oG 25 (.bin .neq (tG 20) (tG 24))], [], none, []⟩]
noncomputable def f29_r6 : List EOper := [oG 4 (.as (.c (.b false)))]
noncomputable def f29_r7 : List EOper := [oG 15 (.mv (tG 5)), oG 16 (.bin .add (tG 15) (cG 1)), oG 5 (.as (tG 16))]
noncomputable def f29_l0 : EC := (.seq (.seq (.reg f29_r4) (.cond (tG 14) .skip (.exit 0))) (.seq (.block 1 (.seq (.draw f29_r5) (.cond (tG 25) (.seq (.reg f29_r6) .ret) .skip))) (.reg f29_r7)))
noncomputable def f29_r8 : List EOper := [oG 4 (.as (.c (.b true)))]
noncomputable def f29_c : EC := (.seq (.reg f29_r0) (.seq (.seq (.reg f29_r1) (.cond (tG 10) (.seq (.reg f29_r2) .ret) .skip)) (.seq (.seq (.reg f29_r3) (.block 0 (.loop f29_l0))) (.seq (.reg f29_r8) .ret))))
noncomputable def f29 : EF := ⟨26, [.tmp (.ofNat 4)], f29_c, none⟩
section
variable {fs : T EF} {h : H} {v w : V} {A B L : List Int}
def atN (A : List Int) (x : Int) : Int := if x < 0 ∨ x ≥ (A.length : Int) then 0 else A.getD x.toNat 0
theorem f70_ret {x : Int} (sa : Sr iE h v A) : Ret fs f70 [v, .i .i64 x] h fun r h' => r = .i .i64 (atN A x) ∧ h' = h := by
  apply ret_of rfl
  show W fs none f70_c _ _ _
  unfold f70_c atN
  by_cases h1 : x < 0
  · have d1 : decide (x < 0) = true := decide_eq_true h1
    rw [if_pos (.inl h1)]
    simp (disch := omega) only [f70_r0, f70_r1, f70_r2, f70_rs, Option.some.injEq, exists_eq_left', Nat.reduceEqDiff, ↓reduceIte, Bool.false_eq_true, Bool.not_true, d1, and_self, bz]
  · have d1 : decide (x < 0) = false := decide_eq_false h1
    by_cases h2 : x ≥ (A.length : Int)
    · have d2 : decide (x ≥ (A.length : Int)) = true := decide_eq_true h2
      rw [if_pos (.inr h2)]
      simp (disch := omega) only [f70_r0, f70_r1, f70_r2, f70_rs, Option.some.injEq, exists_eq_left', Nat.reduceEqDiff, ↓reduceIte, Bool.false_eq_true, Bool.not_false, sa.len, d1, d2, and_self, bz]
    · have d2 : decide (x ≥ (A.length : Int)) = false := decide_eq_false h2
      rw [if_neg (by omega)]
      obtain ⟨y, rfl⟩ : ∃ y : Nat, x = y := ⟨x.toNat, by omega⟩
      have hy : y < A.length := by omega
      obtain ⟨p, p1, p2⟩ := sa.at y hy
      have p2 : loadV h p one? = .ok (.i .i64 A[y]) h := p2
      have e2 : A.getD (y : Int).toNat 0 = A[y] := by rw [Int.toNat_natCast, getD_lt hy]
      rw [e2]
      simp (disch := omega) only [f70_r0, f70_r1, f70_r3, f70_rs, Option.some.injEq, exists_eq_left', Nat.reduceEqDiff, ↓reduceIte, Bool.false_eq_true, Bool.not_false, sa.len, d1, d2, p1, p2, and_self, bz]
theorem at_el {r c : Nat} : atN A ((A.length : Int) - 1 - 2 * ((c : Int) + 1) + ((r : Int) + 1)) = elN A r c := by
  unfold atN elN
  rw [show (A.length : Int) - 1 - 2 * ((c : Int) + 1) + ((r : Int) + 1) = (A.length : Int) - 1 - 2 * c + r - 1 by omega]
  by_cases h1 : (A.length : Int) - 1 - 2 * c + r - 1 < 0
  · rw [if_pos (.inl h1), if_pos (.inl h1)]
  · by_cases h2 : (A.length : Int) - 1 - 2 * c + r - 1 > (A.length : Int) - 1
    · rw [if_pos (.inr (by omega)), if_pos (.inr h2)]
    · rw [if_neg (by omega), if_neg (by omega)]
def f71_I (h0 : H) (v : V) (row C : Nat) (B E : Nat → Int) (s c : Nat) (fr : Fr) (h1 : H) : Prop := c ≤ s ∧ h1 = h0 ∧ fr.get (K.ofNat 0) = some (v) ∧ fr.get (K.ofNat 1) = some (.i .i64 (row : Int)) ∧ fr.get (K.ofNat 2) = some (.i .i64 (C : Int)) ∧ fr.get (K.ofNat 7) = some (.i .i64 ((((List.range c).filter fun c => C.testBit c).foldl (dstep B E) (0, 1)).1)) ∧ fr.get (K.ofNat 8) = some (.i .i64 ((((List.range c).filter fun c => C.testBit c).foldl (dstep B E) (0, 1)).2)) ∧ fr.get (K.ofNat 9) = some (.i .i64 (c : Int))
theorem f71_ret {us : List V} {Ls : List (List Int)} {s : Nat} {el : Nat → Nat → Int} (h71 : fs.get (.ofNat 71) = some f71) (m : Nr iE h v us Ls) (hs : s ≤ 8) (hE : ∀ r (hr : r < Ls.length) c, c < s → ∃ hc : c < Ls[r].length, Ls[r][c] = el r c) (hl : Ls.length ≤ 8) :
    ∀ d row C : Nat, row + d ≤ Ls.length → C < 2 ^ s → (remC s C).length = d → Ret fs f71 [v, .i .i64 (row : Int), .i .i64 (C : Int)] h fun x h' => x = .i .i64 (detL el d row (remC s C)) ∧ h' = h := by
  have hp : (2 : Nat) ^ s ≤ 256 := Nat.pow_le_pow_right (n := 2) (by omega) hs
  have bv := m.out.beq
  intro d
  induction d with
  | zero =>
    intro row C hd hC hrem
    have hC0 : C = 0 := by
      rcases Nat.eq_zero_or_pos C with h0 | h0
      · exact h0
      · exact absurd (List.eq_nil_of_length_eq_zero hrem) (remC_ne hC (by omega))
    subst hC0
    have d1 : decide (((0 : Nat) : Int) = 0) = true := rfl
    apply ret_of rfl
    show W fs none f71_c _ _ _
    unfold f71_c detL
    simp (disch := omega) only [f71_r0, f71_r1, f71_r2, f71_r3, f71_rs, frame_3, Option.some.injEq, exists_eq_left', Nat.reduceEqDiff, ↓reduceIte, d1, and_self, bz]
  | succ d ih =>
    intro row C hd hC hrem
    have hC0 : C ≠ 0 := fun e => by rw [e, remC_nil] at hrem; cases hrem
    have d1 : decide ((C : Int) = 0) = false := decide_eq_false (by omega)
    have hcall : ∀ c, c < s → C.testBit c = true → ∀ P, CallP fs (.fn (K.ofNat 71) []) [v, .i .i64 ((row + 1 : Nat) : Int), .i .i64 ((lessN C (2 ^ c) : Nat) : Int)] h P = P (.i .i64 (detL el d (row + 1) ((remC s C).filter fun x => decide (x ≠ c)))) h := fun c hcs hb P => by
      refine callP_eq2 (callP_0 h71 rfl ?_)
      rw [← remC_less]
      refine ih (row + 1) (lessN C (2 ^ c)) (by omega) (lessN_lt hC) ?_
      have := filter_ne (c := c) remC_nodup (List.mem_filter.2 ⟨List.mem_range.2 hcs, hb⟩ : c ∈ remC s C)
      rw [remC_less]; omega
    have hrow : row < Ls.length := by omega
    obtain ⟨pr, pr1, pr2, pr3⟩ := m.out.atb row (by rw [m.len]; exact hrow)
    have hin := m.inn row (by rw [m.len]; exact hrow) hrow
    have bi := hin.beq
    apply ret_of rfl
    show W fs none f71_c _ _ _
    unfold f71_c
    simp (disch := omega) only [f71_r0, f71_r1, f71_r2, f71_r4, frame_3, Nat.reduceEqDiff, ↓reduceIte, Bool.false_eq_true, d1, bz]
    refine W_loop (f71_I h v row C (fun c => detL el d (row + 1) ((remC s C).filter fun x => decide (x ≠ c))) (el row) s) (fun c => s - c) ?_ 0 ⟨Nat.zero_le _, rfl, by simp (disch := omega) only [getK_set, Nat.reduceEqDiff, ↓reduceIte, and_self, Int.natCast_zero, List.range_zero, List.filter_nil, List.foldl_nil]⟩
    rintro c fr h1 ⟨hcs, rfl, g0, g1, g2, g7, g8, g9⟩
    have hsh := shr_8 (k := .i64) (t := C) (n := c) (Nat.le_refl _) (by omega)
    unfold f71_l0
    by_cases hz : C / 2 ^ c = 0
    · have hcut := remC_cut hcs hz
      rw [hcut] at g7
      have d2 : decide (((C / 2 ^ c : Nat) : Int) > 0) = false := decide_eq_false (by omega)
      simp (disch := omega) only [f71_r5, f71_r10, f71_rs, Option.some.injEq, exists_eq_left', Nat.reduceEqDiff, ↓reduceIte, Bool.false_eq_true, g2, g7, g9, hsh, d2, and_true, bz]
      rfl
    have d2 : decide (((C / 2 ^ c : Nat) : Int) > 0) = true := decide_eq_true (Int.natCast_pos.2 (Nat.pos_of_ne_zero hz))
    have hlt : c < s := by
      rcases Nat.lt_or_ge c s with h1 | h1
      · exact h1
      · exact absurd ((Nat.div_eq_zero_iff_lt (Nat.two_pow_pos c)).2 (Nat.lt_of_lt_of_le hC (Nat.pow_le_pow_right (by omega) h1))) hz
    have hmod : (((C / 2 ^ c : Nat) : Int)).tmod 2 = ((C / 2 ^ c % 2 : Nat) : Int) := rfl
    rw [testBit_mod] at hmod
    have h20 : decide ((2 : Int) = 0) = false := rfl
    have hf := rng_filter (p := fun c => C.testBit c) (c := c)
    generalize hst : ((List.range c).filter fun c => C.testBit c).foldl (dstep (fun c => detL el d (row + 1) ((remC s C).filter fun x => decide (x ≠ c))) (el row)) (0, 1) = st at *
    cases hb : C.testBit c with
    | false =>
      rw [hb] at hmod hf
      have hf : (List.range (c + 1)).filter (fun c => C.testBit c) = (List.range c).filter fun c => C.testBit c := by simpa using hf
      have hmod : (((C / 2 ^ c : Nat) : Int)).tmod 2 = 0 := by rw [hmod]; rfl
      have d3 : decide ((0 : Int) = 1) = false := rfl
      simp (disch := omega) only [f71_r5, f71_r6, f71_r9, Nat.reduceEqDiff, ↓reduceIte, Bool.false_eq_true, g2, g9, hsh, d2, hmod, d3, fw64, bz]
      exact ⟨c + 1, by omega, by omega, rfl, by rw [hf, hst]; simp (disch := omega) only [getK_set, Nat.reduceEqDiff, ↓reduceIte, g0, g1, g2, g7, g8, and_self, Int.natCast_add, Int.natCast_one]⟩
    | true =>
      rw [hb] at hmod hf
      have hf : (List.range (c + 1)).filter (fun c => C.testBit c) = ((List.range c).filter fun c => C.testBit c) ++ [c] := by simpa using hf
      have hmod : (((C / 2 ^ c : Nat) : Int)).tmod 2 = 1 := by rw [hmod]; rfl
      have d3 : decide ((1 : Int) = 1) = true := rfl
      have hshl := shl_i8 (n := c) (by omega)
      have h2c : (2 : Nat) ^ c ≤ 256 := Nat.pow_le_pow_right (n := 2) (by omega) (show c ≤ 8 by omega)
      have han := andNot_8 (m := C) (n := 2 ^ c) (by omega) (by omega)
      have hcc := hcall c hlt hb
      have er : (row : Int) + 1 = ((row + 1 : Nat) : Int) := by omega
      obtain ⟨hcl, hce⟩ := hE row hrow c hlt
      obtain ⟨q, q1, q2, q3⟩ := hin.atb c hcl
      have q2 : loadV h1 q one? = .ok (.i .i64 (el row c)) h1 := by rw [← hce]; exact q2
      have pr2 : loadV h1 pr one? = .ok (us[row]'(by rw [m.len]; exact hrow)) h1 := pr2
      have hnew : ((List.range (c + 1)).filter fun c => C.testBit c).foldl (dstep (fun c => detL el d (row + 1) ((remC s C).filter fun x => decide (x ≠ c))) (el row)) (0, 1) = (fw .i64 (st.1 + fw .i64 (fw .i64 (st.2 * el row c) * detL el d (row + 1) ((remC s C).filter fun x => decide (x ≠ c)))), fw .i64 (0 - st.2)) := by
        rw [hf, List.foldl_append, hst]; rfl
      generalize detL el d (row + 1) ((remC s C).filter fun x => decide (x ≠ c)) = D at *
      generalize us[row]'(by rw [m.len]; exact hrow) = ur at *
      simp (disch := omega) only [f71_r5, f71_r6, f71_r7, f71_r8, f71_r9, x_neg, stay_cons, again_ok, stay_mv, beq_i, stay_iads, stay_ld, stay_bin, onI_i, Nat.reduceEqDiff, ↓reduceIte, decide_eq_true_eq, g0, g1, g2, g7, g8, g9, hsh, d2, hmod, hshl, han, er, fw64, hcc, bv, bi, pr1, pr2, pr3, q1, q2, q3, isub_eq, bz]
      exact ⟨c + 1, by omega, by omega, rfl, by rw [hnew]; simp (disch := omega) only [getK_set, Nat.reduceEqDiff, ↓reduceIte, g0, g1, g2, and_self, Int.natCast_add, Int.natCast_one]⟩
def rwL (A : List Int) (r k : Nat) : List Int := (List.range k).map fun c => elN A r c
theorem rwL_succ {r k : Nat} : rwL A r (k + 1) = rwL A r k ++ [elN A r k] := by unfold rwL; rw [List.range_succ, List.map_append]; rfl
theorem rwL_len {r k : Nat} : (rwL A r k).length = k := by simp [rwL]
def mtL (A : List Int) (n k : Nat) : List (List Int) := (List.range k).map fun r => rwL A r n
theorem mtL_succ {n k : Nat} : mtL A n (k + 1) = mtL A n k ++ [rwL A k n] := by unfold mtL; rw [List.range_succ, List.map_append]; rfl
theorem mtL_len {n k : Nat} : (mtL A n k).length = k := by simp [mtL]
theorem mtL_at {n k r c : Nat} (hr : r < (mtL A n k).length) (hc : c < n) : ∃ hc : c < (mtL A n k)[r].length, (mtL A n k)[r][c] = elN A r c := by
  have e : (mtL A n k)[r] = rwL A r n := by simp [mtL]
  refine ⟨by rw [e, rwL_len]; exact hc, ?_⟩
  have : ∀ (l : List Int) (h : l = rwL A r n) (hx : c < l.length), l[c] = elN A r c := fun l h hx => by subst h; simp [rwL]
  exact this _ e _
def f30_J (h2 : H) (v w : V) (A : List Int) (r k : Nat) (fr : Fr) (h1 : H) : Prop := k ≤ A.length - 1 ∧ Grow h2.nx.nat h2 h1 ∧ ∃ u, Sl iE h1 u (rwL A r k) ∧ Own h2.nx.nat u ∧ fr.get (K.ofNat 0) = some (v) ∧ fr.get (K.ofNat 3) = some (.i .i64 ((A.length - 1 : Nat) : Int)) ∧ fr.get (K.ofNat 4) = some (w) ∧ fr.get (K.ofNat 5) = some (.i .i64 ((r + 1 : Nat) : Int)) ∧ fr.get (K.ofNat 6) = some (u) ∧ fr.get (K.ofNat 7) = some (.i .i64 ((k + 1 : Nat) : Int))
theorem f30_in0 {Q : Ex → Fr → H → Prop} {r k : Nat} {h2 h1 : H} {fr : Fr} (k70 : fs.get (.ofNat 70) = some f70) (hA1 : 1 ≤ A.length) (hA : A.length ≤ 8) (hr : r ≤ 8) (hv : Sr iE h2 v A) (hc : HC h2)
    (hI : f30_J h2 v w A r k fr h1) (hq : ∀ fr h1, f30_J h2 v w A r (A.length - 1) fr h1 → Q (.exit 2) fr h1) : W fs none (.loop f30_l0) Q fr h1 := by
  refine W_loop (f30_J h2 v w A r) (fun k => A.length - 1 - k) ?_ k hI
  clear hI fr h1
  rintro k fr h1 ⟨hk, hG, u, hs, ho, g0, g3, g4, g5, g6, g7⟩
  have hc1 := hG.hc hc
  have hv1 := hv.grow hc hG
  unfold f30_l0
  by_cases hlt : k < A.length - 1
  · have d1 : decide (((k + 1 : Nat) : Int) ≤ ((A.length - 1 : Nat) : Int)) = true := decide_eq_true (by omega)
    have b1 : fw .i64 (2 * ((k + 1 : Nat) : Int)) = 2 * ((k + 1 : Nat) : Int) := fw64 (by omega) (by omega)
    have b2 : fw .i64 (((A.length - 1 : Nat) : Int) - 2 * ((k + 1 : Nat) : Int)) = ((A.length - 1 : Nat) : Int) - 2 * ((k + 1 : Nat) : Int) := fw64 (by omega) (by omega)
    have b3 : fw .i64 (((A.length - 1 : Nat) : Int) - 2 * ((k + 1 : Nat) : Int) + ((r + 1 : Nat) : Int)) = (A.length : Int) - 1 - 2 * ((k : Int) + 1) + ((r : Int) + 1) := by rw [fw64 (by omega) (by omega)]; omega
    have b4 : fw .i64 (((k + 1 : Nat) : Int) + 1) = ((k + 1 + 1 : Nat) : Int) := by rw [fw64 (by omega) (by omega)]; rfl
    have ec := fun P => callP_eq2 (P := P) (callP_0 (args := [v, .i .i64 ((A.length : Int) - 1 - 2 * ((k : Int) + 1) + ((r : Int) + 1))]) k70 rfl (f70_ret (x := (A.length : Int) - 1 - 2 * ((k : Int) + 1) + ((r : Int) + 1)) hv1))
    rw [at_el] at ec
    obtain ⟨u', h3, a1, a2, a3, a4, _⟩ := Sl.push (e := iE) (x := elN A r k) (c := .i .i64 (elN A r k)) rfl hs ho hG.nx hc1 (by rw [rwL_len]; omega)
    rw [← rwL_succ] at a2
    simp (disch := omega) only [f30_r7, f30_r8, f30_r9, Nat.reduceEqDiff, ↓reduceIte, g0, g3, g5, g6, g7, d1, b1, b2, b3, b4, ec, a1, bz]
    exact ⟨k + 1, by omega, by omega, hG.trans a4, u', a2, a3, by simp (disch := omega) only [getK_set, Nat.reduceEqDiff, ↓reduceIte, g0, g3, g4, g5, and_self]⟩
  · have d1 : decide (((k + 1 : Nat) : Int) ≤ ((A.length - 1 : Nat) : Int)) = false := decide_eq_false (by omega)
    obtain rfl : k = A.length - 1 := by omega
    simp (disch := omega) only [f30_r7, Nat.reduceEqDiff, ↓reduceIte, Bool.false_eq_true, g3, g7, d1, bz]
    exact hq _ _ ⟨Nat.le_refl _, hG, u, hs, ho, by simp (disch := omega) only [getK_set, Nat.reduceEqDiff, ↓reduceIte, g0, g3, g4, g5, g6, g7, and_self]⟩
def f30_I (h : H) (v : V) (A : List Int) (r : Nat) (fr : Fr) (h1 : H) : Prop := r ≤ A.length - 1 ∧ Grow h.nx.nat h h1 ∧ ∃ w us, Nw iE h1 w us (mtL A (A.length - 1) r) ∧ Own h.nx.nat w ∧ fr.get (K.ofNat 0) = some (v) ∧ fr.get (K.ofNat 3) = some (.i .i64 ((A.length - 1 : Nat) : Int)) ∧ fr.get (K.ofNat 4) = some (w) ∧ fr.get (K.ofNat 5) = some (.i .i64 ((r + 1 : Nat) : Int))
def mnL (A : List Int) (k : Nat) : List Int := (List.range k).map fun i => detL (elN A) (i + 1) 0 (List.range (i + 1))
theorem mnL_succ {k : Nat} : mnL A (k + 1) = mnL A k ++ [detL (elN A) (k + 1) 0 (List.range (k + 1))] := by
  have : ∀ g : Nat → Int, (List.range (k + 1)).map g = (List.range k).map g ++ [g k] := fun g => by rw [List.range_succ, List.map_append]; rfl
  exact this _
theorem mnL_len {k : Nat} : (mnL A k).length = k := by simp [mnL]
def f30_K (h2 : H) (w : V) (A : List Int) (k : Nat) (fr : Fr) (h1 : H) : Prop := k ≤ A.length - 1 ∧ Grow h2.nx.nat h2 h1 ∧ ∃ u, Sl iE h1 u (mnL A k) ∧ Own h2.nx.nat u ∧ fr.get (K.ofNat 3) = some (.i .i64 ((A.length - 1 : Nat) : Int)) ∧ fr.get (K.ofNat 4) = some (w) ∧ fr.get (K.ofNat 8) = some (u) ∧ fr.get (K.ofNat 9) = some (.i .i64 ((k + 1 : Nat) : Int))
structure CallsR (fs : T EF) : Prop where
  c70 : fs.get (K.ofNat 70) = some f70
  c71 : fs.get (K.ofNat 71) = some f71
theorem f30_ret (k : CallsR fs) (hA1 : 1 ≤ A.length) (hA : A.length ≤ 8) (hv : Sr iE h v A) (hc : HC h) : Ret fs f30 [v] h fun r h' => Sl iE h' r (minL A) ∧ Own h.nx.nat r ∧ Grow h.nx.nat h h' := by
  apply ret_of rfl
  show W fs none f30_c _ _ _
  unfold f30_c
  have hlv := hv.len
  have en' : fw .i64 ((A.length : Int) - 1) = ((A.length - 1 : Nat) : Int) := by rw [fw64 (by omega) (by omega)]; omega
  simp (disch := omega) only [f30_r0, f30_r1, f30_r2, f30_r3, Nat.reduceEqDiff, ↓reduceIte, hlv, en', bz]
  refine W_loop (f30_I h v A) (fun r => A.length - 1 - r) ?_ 0 ⟨Nat.zero_le _, Grow.refl _ _, .sn, [], Nw.nil, Own.sn, by simp (disch := omega) only [getK_set, Nat.reduceEqDiff, ↓reduceIte, and_self, Nat.zero_add, Int.natCast_one]⟩
  rintro r fr h1 ⟨hr, hG, w, us, hn, ho, g0, g3, g4, g5⟩
  have hc1 := hG.hc hc
  have hv1 := hv.grow hc hG
  unfold f30_l1
  by_cases hlt : r < A.length - 1
  · have d1 : decide (((r + 1 : Nat) : Int) ≤ ((A.length - 1 : Nat) : Int)) = true := decide_eq_true (by omega)
    simp (disch := omega) only [f30_r4, f30_r5, f30_r6, Nat.reduceEqDiff, ↓reduceIte, g3, g5, d1, bz]
    refine f30_in0 (h2 := h1) (v := v) (w := w) (A := A) (r := r) (k := 0) k.c70 hA1 hA (by omega) hv1 hc1 ⟨Nat.zero_le _, Grow.refl _ _, .sn, Sl.nil, Own.sn, by simp (disch := omega) only [getK_set, Nat.reduceEqDiff, ↓reduceIte, g0, g3, g4, g5, and_self, Nat.zero_add, Int.natCast_one]⟩ ?_
    clear g0 g3 g4 g5 fr
    rintro fr h3 ⟨_, hG3, u, su, ou, g0, g3, g4, g5, g6, g7⟩
    have hn3 := hn.grow hc1 hG3
    have hc3 := hG3.hc hc1
    have hlw : ∀ id off n sz, w = .sl id off n sz → id.nat < h1.nx.nat := hn.out.lt hc1
    have hlu : ∀ x ∈ us, ∀ id off n sz, x = .sl id off n sz → id.nat < h1.nx.nat := fun x hx => by
      obtain ⟨i, hi, rfl⟩ := List.getElem_of_mem hx
      exact (hn.inn i hi (by rw [← hn.len]; exact hi)).lt hc1
    obtain ⟨w', h4, a1, a2, a3, a4, _⟩ := hn3.push (b := h.nx.nat) ho (Nat.le_trans hG.nx hG3.nx) hc3 (by rw [mtL_len]; omega) su (fun id off n sz e off' n' sz' e' => by
      have q1 := ou _ _ _ _ e
      have q2 := hlw _ _ _ _ e'
      omega) (fun x hx id off n sz e off' n' sz' e' => by
      have q1 := ou _ _ _ _ e
      have q2 := hlu x hx _ _ _ _ e'
      omega)
    rw [← mtL_succ] at a2
    have b4 : fw .i64 (((r + 1 : Nat) : Int) + 1) = ((r + 1 + 1 : Nat) : Int) := by rw [fw64 (by omega) (by omega)]; rfl
    have c1 : cellsN 1 u = some [u] := su.one
    simp (disch := omega) only [f30_r10, f30_r11, Nat.reduceEqDiff, ↓reduceIte, g4, g5, g6, b4, c1, a1, bz]
    exact ⟨r + 1, by omega, by omega, (hG.trans (hG3.low hG.nx)).trans a4, w', _, a2, a3, by simp (disch := omega) only [getK_set, Nat.reduceEqDiff, ↓reduceIte, g0, g3, and_self]⟩
  · have d1 : decide (((r + 1 : Nat) : Int) ≤ ((A.length - 1 : Nat) : Int)) = false := decide_eq_false (by omega)
    obtain rfl : r = A.length - 1 := by omega
    simp (disch := omega) only [f30_r4, f30_r12, f30_r13, Nat.reduceEqDiff, ↓reduceIte, Bool.false_eq_true, g3, g5, d1, bz]
    refine W_loop (f30_K h1 w A) (fun k => A.length - 1 - k) ?_ 0 ⟨Nat.zero_le _, Grow.refl _ _, .sn, Sl.nil, Own.sn, by simp (disch := omega) only [getK_set, Nat.reduceEqDiff, ↓reduceIte, g3, g4, and_self, Nat.zero_add, Int.natCast_one]⟩
    clear g0 g3 g4 g5 fr
    rintro j fr h3 ⟨hj, hG3, u, su, ou, g3, g4, g8, g9⟩
    have hn3 := hn.grow hc1 hG3
    have hc3 := hG3.hc hc1
    unfold f30_l2
    by_cases hlt : j < A.length - 1
    · have d1 : decide (((j + 1 : Nat) : Int) ≤ ((A.length - 1 : Nat) : Int)) = true := decide_eq_true (by omega)
      have hshl := shl_i8 (n := j + 1) (by omega)
      have hp : (2 : Nat) ^ (j + 1) ≤ 256 := Nat.pow_le_pow_right (n := 2) (by omega) (show j + 1 ≤ 8 by omega)
      have hp0 := Nat.two_pow_pos (j + 1)
      have b1 : fw .i64 (((2 ^ (j + 1) : Nat) : Int) - 1) = ((2 ^ (j + 1) - 1 : Nat) : Int) := by rw [fw64 (by omega) (by omega)]; omega
      have b4 : fw .i64 (((j + 1 : Nat) : Int) + 1) = ((j + 1 + 1 : Nat) : Int) := by rw [fw64 (by omega) (by omega)]; rfl
      have ec := fun P => callP_eq2 (P := P) (callP_0 (args := [w, .i .i64 ((0 : Nat) : Int), .i .i64 ((2 ^ (j + 1) - 1 : Nat) : Int)]) k.c71 rfl (f71_ret (s := j + 1) (el := elN A) k.c71 hn3.nr (by omega) (fun r hr c hcs => mtL_at hr (by omega)) (by rw [mtL_len]; omega) (j + 1) 0 (2 ^ (j + 1) - 1) (by rw [mtL_len]; omega) (by omega) (by rw [remC_all]; simp)))
      rw [remC_all] at ec
      obtain ⟨u', h4, a1, a2, a3, a4, _⟩ := Sl.push (e := iE) (x := detL (elN A) (j + 1) 0 (List.range (j + 1))) (c := .i .i64 (detL (elN A) (j + 1) 0 (List.range (j + 1)))) rfl su ou hG3.nx hc3 (by rw [mnL_len]; omega)
      rw [← mnL_succ] at a2
      generalize detL (elN A) (j + 1) 0 (List.range (j + 1)) = D at *
      have ec : ∀ P : V → H → Prop, CallP fs (.fn (K.ofNat 71) []) [w, .i .i64 0, .i .i64 ((2 ^ (j + 1) - 1 : Nat) : Int)] h3 P = P (.i .i64 D) h3 := ec
      generalize ((2 ^ (j + 1) - 1 : Nat) : Int) = X1 at *
      generalize ((2 ^ (j + 1) : Nat) : Int) = X2 at *
      simp (disch := omega) only [f30_r14, f30_r15, f30_r16, Nat.reduceEqDiff, ↓reduceIte, g3, g4, g8, g9, d1, hshl, b1, b4, ec, a1, bz]
      exact ⟨j + 1, by omega, by omega, hG3.trans a4, u', a2, a3, by simp (disch := omega) only [getK_set, Nat.reduceEqDiff, ↓reduceIte, g3, g4, and_self]⟩
    · have d1 : decide (((j + 1 : Nat) : Int) ≤ ((A.length - 1 : Nat) : Int)) = false := decide_eq_false (by omega)
      obtain rfl : j = A.length - 1 := by omega
      simp (disch := omega) only [f30_r14, f30_r17, f30_rs, Option.some.injEq, exists_eq_left', Nat.reduceEqDiff, ↓reduceIte, Bool.false_eq_true, g3, g8, g9, d1, bz]
      exact ⟨su, ou.low hG.nx, hG.trans (hG3.low hG.nx)⟩
theorem f86_ret {x : Int} : Ret fs f86 [.i .i64 x] h fun r h' => r = .b (decide (x ≤ 0)) ∧ h' = h := by
  apply ret_of rfl
  show W fs none f86_c _ _ _
  unfold f86_c
  simp (disch := omega) only [f86_r0, f86_r1, f86_rs, Option.some.injEq, exists_eq_left', Nat.reduceEqDiff, ↓reduceIte, and_self, bz]
theorem f98_same : f98 = f106 := rfl
theorem f29_same : f29 = f31 := rfl
structure CallsS (fs : T EF) : Prop extends CallsD fs, CallsM fs, CallsR fs where
  c98 : fs.get (K.ofNat 98) = some f98
  c85 : fs.get (K.ofNat 85) = some f85
  c86 : fs.get (K.ofNat 86) = some f86
  c57 : fs.get (K.ofNat 57) = some f57
  c30 : fs.get (K.ofNat 30) = some f30
  c55 : fs.get (K.ofNat 55) = some f55
  c27 : fs.get (K.ofNat 27) = some f27
theorem f85_ret (k : CallsS fs) (hv : Sr iE h v L) (hL : L.length ≤ 1000000) : Ret fs f85 [v, .fn (.ofNat 86) []] h fun r h' => r = .b (L.any fun m => decide (m ≤ 0)) ∧ h' = h := by
  apply ret_of rfl
  show W fs none f85_c _ _ _
  unfold f85_c
  have h98 : fs.get (K.ofNat 98) = some f106 := by rw [k.c98, f98_same]
  simp (disch := omega) only [f85_r0, f85_r1, Nat.reduceEqDiff, ↓reduceIte, bz]
  refine (callP_0 (ef := f106) h98 rfl (f106_ret (p := fun m => decide (m ≤ 0)) hv hL fun x _ P => callP_eq2 (callP_0 (ef := f86) k.c86 rfl f86_ret))).mono ?_
  rintro r h' ⟨⟨n, rfl, hn⟩, rfl⟩
  simp (disch := omega) only [f85_rs, Option.some.injEq, exists_eq_left', ↓reduceIte, hn, and_self, bz]
theorem f55_ret (k : CallsS fs) (hA1 : 1 ≤ A.length) (hA : A.length ≤ 8) (hv : Sr iE h v A) (hc : HC h) : Ret fs f55 [v] h fun r h' => r = .b (stB A) ∧ Grow h.nx.nat h h' := by
  apply ret_of rfl
  show W fs none f55_c _ _ _
  unfold f55_c stB
  have ei : (A.length : Int) - 1 = ((A.length - 1 : Nat) : Int) := by omega
  obtain ⟨p, p1, p2⟩ := hv.at (A.length - 1) (by omega)
  have p2 : loadV h p one? = .ok (.i .i64 (A.getD (A.length - 1) 0)) h := by rw [getD_lt (by omega)]; exact p2
  have rest : ∀ (fr : Fr) (u : V) (h1 : H), fr.get (K.ofNat 0) = some u → Sr iE h1 u (upL A) → Grow h.nx.nat h h1 → W fs none (.seq (.reg f55_r3) .ret) (retK f55 fun r h' => r = .b (!(minL (upL A)).any fun m => decide (m ≤ 0)) ∧ Grow h.nx.nat h h') fr h1 := by
    intro fr u h1 g0 hu hG
    simp (disch := omega) only [f55_r3, ↓reduceIte, g0, bz]
    refine (callP_0 (ef := f57) k.c57 rfl (f57_ret k.toCallsM (by rw [upL_len]; exact hA1) (by rw [upL_len]; exact hA) hu (hG.hc hc))).mono ?_
    rintro w h2 ⟨sw, ow, g2⟩
    have e85 := fun P => callP_eq2 (P := P) (callP_0 (args := [w, .fn (K.ofNat 86) []]) k.c85 rfl (f85_ret k sw.sr (by rw [minL_len, upL_len]; omega)))
    simp (disch := omega) only [f55_rs, Option.some.injEq, exists_eq_left', ↓reduceIte, e85, bz]
    exact hG.trans (g2.low hG.nx)
  by_cases h0 : A.getD (A.length - 1) 0 < 0
  · have d1 : decide (A.getD (A.length - 1) 0 < 0) = true := decide_eq_true h0
    have eu : upL A = prd A [-1] := by unfold upL; rw [if_pos h0, prd_neg]
    have g2 := Grow.new (Nat.le_refl h.nx.nat) (.cells (1 * 1) [.i .i64 (-1)])
    have hl := lit1 (h := h) (x := -1)
    simp (disch := omega) only [f55_r0, f55_r1, f55_r2, Nat.reduceEqDiff, ↓reduceIte, hv.len, ei, fw64, p1, p2, d1, ng0, bz]
    refine (callP_0 (ef := f67) k.c67 rfl (f67_ret k.c94 (by omega) (by simp) (hv.grow hc g2) hl.sr (g2.hc hc))).mono ?_
    rintro u h1 ⟨su, _, g1⟩
    rw [← eu] at su
    simp (disch := omega) only [↓reduceIte, bz]
    exact rest _ u h1 (by simp (disch := omega) only [getK_set, ↓reduceIte]) su.sr (g2.trans (g1.low g2.nx))
  · have d1 : decide (A.getD (A.length - 1) 0 < 0) = false := decide_eq_false h0
    have eu : upL A = A := by unfold upL; rw [if_neg h0]
    simp (disch := omega) only [f55_r0, f55_r1, Nat.reduceEqDiff, ↓reduceIte, Bool.false_eq_true, hv.len, ei, fw64, p1, p2, d1, bz]
    exact rest _ v h (by simp (disch := omega) only [getK_set, Nat.reduceEqDiff, ↓reduceIte]) (by rw [eu]; exact hv) (Grow.refl _ _)
theorem f15_ret (k : CallsS fs) (hA : plB A = true) (hv : Sr iE h v A) (hc : HC h) : Ret fs f15 [v] h fun r h' => r = .tup [.b (stB A), .i .i64 0] ∧ Grow h.nx.nat h h' := by
  obtain ⟨l1, l2, _, _⟩ := plB_len hA
  apply ret_of rfl
  show W fs none f15_c _ _ _
  unfold f15_c
  have ca : ckI A = 0 := by unfold ckI; rw [if_pos hA]
  have eA := fun P => f14_eq k.toCSm k.c54 k.c14 hv (by omega) (P := P)
  have d0 : decide ((0 : Int) ≠ 0) = false := rfl
  simp (disch := omega) only [f15_r0, f15_r1, f15_r2, f15_r4, Nat.reduceEqDiff, ↓reduceIte, Bool.false_eq_true, eA, ca, d0, bz]
  refine (callP_0 (ef := f55) k.c55 rfl (f55_ret k l1 (by omega) hv hc)).mono ?_
  rintro r h' ⟨rfl, hG⟩
  simp (disch := omega) only [f15_rs, Option.some.injEq, exists_eq_left', Nat.reduceEqDiff, ↓reduceIte, bz]
  exact hG
theorem f17_ret (k : CallsS fs) (hA : plB A = true) (hv : Sr iE h v A) (hc : HC h) : Ret fs f17 [v] h fun r h' => ∃ u, r = .tup [u, .i .i64 0] ∧ Sl iE h' u (minL A) ∧ Grow h.nx.nat h h' := by
  obtain ⟨l1, l2, _, _⟩ := plB_len hA
  apply ret_of rfl
  show W fs none f17_c _ _ _
  unfold f17_c
  have ca : ckI A = 0 := by unfold ckI; rw [if_pos hA]
  have eA := fun P => f14_eq k.toCSm k.c54 k.c14 hv (by omega) (P := P)
  have d0 : decide ((0 : Int) ≠ 0) = false := rfl
  simp (disch := omega) only [f17_r0, f17_r1, f17_r2, f17_r4, Nat.reduceEqDiff, ↓reduceIte, Bool.false_eq_true, eA, ca, d0, bz]
  refine (callP_0 (ef := f57) k.c57 rfl (f57_ret k.toCallsM l1 (by omega) hv hc)).mono ?_
  rintro r h' ⟨hs, _, hG⟩
  simp (disch := omega) only [f17_rs, Option.some.injEq, exists_eq_left', Nat.reduceEqDiff, ↓reduceIte, bz]
  exact ⟨_, rfl, hs, hG⟩
theorem f16_ret (k : CallsS fs) (hA : plB A = true) (hv : Sr iE h v A) (hc : HC h) : Ret fs f16 [v] h fun r h' => r = .tup [.b (dsOk A && stB (dsc A)), .i .i64 0] ∧ Grow h.nx.nat h h' := by
  obtain ⟨l1, l2, l3, _⟩ := plB_len hA
  have hdl : (dsc A).length = A.length := dsL_len
  apply ret_of rfl
  show W fs none f16_c _ _ _
  unfold f16_c
  have ca : ckI A = 0 := by unfold ckI; rw [if_pos hA]
  have eA := fun P => f14_eq k.toCSm k.c54 k.c14 hv (by omega) (P := P)
  have d0 : decide ((0 : Int) ≠ 0) = false := rfl
  simp (disch := omega) only [f16_r0, f16_r1, f16_r2, f16_r4, Nat.reduceEqDiff, ↓reduceIte, Bool.false_eq_true, eA, ca, d0, bz]
  refine (callP_0 (ef := f56) k.c56 rfl (f56_ret k.c94 k.c67 l1 (by omega) l3 hv hc)).mono ?_
  rintro r h' ⟨u, rfl, hs, _, hG⟩
  cases hk : dsOk A with
  | false =>
    simp (disch := omega) only [f16_r5, f16_rs, Option.some.injEq, exists_eq_left', Nat.reduceEqDiff, ↓reduceIte, Bool.false_eq_true, Bool.false_and, bz]
    exact hG
  | true =>
    simp (disch := omega) only [f16_r5, Nat.reduceEqDiff, ↓reduceIte, bz]
    refine (callP_0 (ef := f55) k.c55 rfl (f55_ret k (by omega) (by omega) hs.sr (hG.hc hc))).mono ?_
    rintro r h2 ⟨rfl, hG2⟩
    simp (disch := omega) only [f16_rs, Option.some.injEq, exists_eq_left', Nat.reduceEqDiff, ↓reduceIte, Bool.true_and, bz]
    exact hG.trans (hG2.low hG.nx)
def upT (A : List Int) (j : Nat) : List Int := (upL A).take j
theorem upT_succ {j : Nat} (hj : j < A.length) : upT A (j + 1) = upT A j ++ [(upL A)[j]'(by rw [upL_len]; exact hj)] := by
  unfold upT; rw [List.take_succ_eq_append_getElem (by rw [upL_len]; exact hj)]
theorem upL_at {j : Nat} (hj : j < A.length) : (upL A)[j]'(by rw [upL_len]; exact hj) = if A.getD (A.length - 1) 0 < 0 then fw .i64 (0 - A[j]) else A[j] := by
  by_cases h0 : A.getD (A.length - 1) 0 < 0
  · have : ∀ (l : List Int) (e : l = ngL A) (hl : j < l.length), l[j] = fw .i64 (0 - A[j]) := fun l e hl => by subst e; simp [ngL]
    rw [if_pos h0]; exact this _ (by unfold upL; rw [if_pos h0]) _
  · have : ∀ (l : List Int) (e : l = A) (hl : j < l.length), l[j] = A[j] := fun l e hl => by subst e; rfl
    rw [if_neg h0]; exact this _ (by unfold upL; rw [if_neg h0]) _
def f27_I (h : H) (v : V) (A : List Int) (j : Nat) (fr : Fr) (h1 : H) : Prop := j ≤ A.length ∧ Grow h.nx.nat h h1 ∧ ∃ u, Sl iE h1 u (upT A j) ∧ Own h.nx.nat u ∧ fr.get (K.ofNat 0) = some (v) ∧ fr.get (K.ofNat 3) = some (u) ∧ fr.get (K.ofNat 4) = some (.i .i64 (j : Int))
def f27_J (h2 : H) (w : V) (M : List Int) (j : Nat) (fr : Fr) (h1 : H) : Prop := j ≤ M.length ∧ h1 = h2 ∧ ((M.take j).any fun m => decide (m ≤ 0)) = false ∧ fr.get (K.ofNat 5) = some (w) ∧ fr.get (K.ofNat 6) = some (.i .i64 (j : Int))
theorem any_take' {p : Int → Bool} {L : List Int} {j : Nat} (hj : j < L.length) : (L.take (j + 1)).any p = ((L.take j).any p || p L[j]) := any_take hj
theorem f27_ret (k : CallsS fs) (hA1 : 1 ≤ A.length) (hA : A.length ≤ 8) (hv : Sr iE h v A) (hc : HC h) : Ret fs f27 [v] h fun r h' => r = .b (stB A) ∧ Grow h.nx.nat h h' := by
  apply ret_of rfl
  show W fs none f27_c _ _ _
  unfold f27_c stB
  simp (disch := omega) only [f27_r0, f27_r1, f27_r2, bz]
  refine W_loop (f27_I h v A) (fun j => A.length - j) ?_ 0 ⟨by omega, Grow.refl _ _, .sn, Sl.nil, Own.sn, by simp (disch := omega) only [getK_set, Nat.reduceEqDiff, ↓reduceIte, and_self, Int.natCast_zero]⟩
  rintro j fr h1 ⟨hj, hG, u, su, ou, g0, g3, g4⟩
  have hc1 := hG.hc hc
  have hv1 := hv.grow hc hG
  have e1 := hv1.len
  unfold f27_l0
  by_cases hlt : j < A.length
  · have d1 : decide ((j : Int) < (A.length : Int)) = true := decide_eq_true (by omega)
    have ei : (A.length : Int) - 1 = ((A.length - 1 : Nat) : Int) := by omega
    obtain ⟨p, p1, p2⟩ := hv1.at (A.length - 1) (by omega)
    have p2 : loadV h1 p one? = .ok (.i .i64 (A.getD (A.length - 1) 0)) h1 := by rw [getD_lt (by omega)]; exact p2
    obtain ⟨q, q1, q2⟩ := hv1.at j hlt
    have q2 : loadV h1 q one? = .ok (.i .i64 A[j]) h1 := q2
    have hul := upL_at hlt
    obtain ⟨u', h3, a1, a2, a3, a4, _⟩ := Sl.push (e := iE) (x := (upL A)[j]'(by rw [upL_len]; exact hlt)) (c := .i .i64 ((upL A)[j]'(by rw [upL_len]; exact hlt))) rfl su ou hG.nx hc1 (by unfold upT; simp; omega)
    rw [← upT_succ hlt] at a2
    rw [hul] at a1
    by_cases h0 : A.getD (A.length - 1) 0 < 0
    · have d2 : decide (A.getD (A.length - 1) 0 < 0) = true := decide_eq_true h0
      rw [if_pos h0] at a1
      simp (disch := omega) only [f27_r3, f27_r4, f27_r5, f27_r7, x_neg, onI_i, Nat.reduceEqDiff, ↓reduceIte, g0, g3, g4, e1, d1, ei, p1, p2, d2, q1, q2, isub_eq, a1, fw64, bz]
      exact ⟨j + 1, by omega, by omega, hG.trans a4, u', a2, a3, by simp (disch := omega) only [getK_set, Nat.reduceEqDiff, ↓reduceIte, g0, and_self, Int.natCast_add, Int.natCast_one]⟩
    · have d2 : decide (A.getD (A.length - 1) 0 < 0) = false := decide_eq_false h0
      rw [if_neg h0] at a1
      simp (disch := omega) only [f27_r3, f27_r4, f27_r6, f27_r7, Nat.reduceEqDiff, ↓reduceIte, Bool.false_eq_true, g0, g3, g4, e1, d1, ei, p1, p2, d2, q1, q2, a1, fw64, bz]
      exact ⟨j + 1, by omega, by omega, hG.trans a4, u', a2, a3, by simp (disch := omega) only [getK_set, Nat.reduceEqDiff, ↓reduceIte, g0, and_self, Int.natCast_add, Int.natCast_one]⟩
  · have d1 : decide ((j : Int) < (A.length : Int)) = false := decide_eq_false (by omega)
    obtain rfl : j = A.length := by omega
    have eu : upT A A.length = upL A := by unfold upT; exact List.take_of_length_le (by rw [upL_len]; omega)
    rw [eu] at su
    simp (disch := omega) only [f27_r3, f27_r8, Nat.reduceEqDiff, ↓reduceIte, Bool.false_eq_true, g0, g3, g4, e1, d1, bz]
    refine (callP_0 (ef := f30) k.c30 rfl (f30_ret k.toCallsR (by rw [upL_len]; exact hA1) (by rw [upL_len]; exact hA) su.sr hc1)).mono ?_
    rintro w h2 ⟨sw, ow, g2⟩
    have hG2 := hG.trans (g2.low hG.nx)
    have hml : (minL (upL A)).length = A.length - 1 := by rw [minL_len, upL_len]
    have ew := sw.len
    simp (disch := omega) only [f27_r9, ↓reduceIte, bz]
    generalize minL (upL A) = M at *
    refine W_loop (f27_J h2 w M) (fun j => M.length - j) ?_ 0 ⟨by omega, rfl, rfl, by simp (disch := omega) only [getK_set, Nat.reduceEqDiff, ↓reduceIte, and_self, Int.natCast_zero]⟩
    clear g0 g3 g4 fr
    rintro j fr h3 ⟨hj, rfl, hany, g5, g6⟩
    unfold f27_l1
    by_cases hlt : j < M.length
    · have d2 : decide ((j : Int) < (M.length : Int)) = true := decide_eq_true (by omega)
      obtain ⟨q, q1, q2⟩ := sw.at j hlt
      have q2 : loadV h3 q one? = .ok (.i .i64 M[j]) h3 := q2
      have hs := any_take' (p := fun m => decide (m ≤ 0)) hlt
      cases hm : decide (M[j] ≤ 0) with
      | true =>
        have hall : M.any (fun m => decide (m ≤ 0)) = true := List.any_eq_true.2 ⟨_, List.getElem_mem hlt, hm⟩
        simp (disch := omega) only [f27_r10, f27_r11, f27_r12, f27_rs, atK_r, loopK_r, Option.some.injEq, exists_eq_left', Nat.reduceEqDiff, ↓reduceIte, Bool.not_true, g5, g6, ew, d2, q1, q2, hm, hall, bz]
        exact hG2
      | false =>
        rw [hany, hm] at hs
        simp (disch := omega) only [f27_r10, f27_r11, f27_r13, Nat.reduceEqDiff, ↓reduceIte, Bool.false_eq_true, g5, g6, ew, d2, q1, q2, hm, fw64, bz]
        exact ⟨j + 1, by omega, by omega, rfl, hs, by simp (disch := omega) only [getK_set, Nat.reduceEqDiff, ↓reduceIte, g5, and_self, Int.natCast_add, Int.natCast_one]⟩
    · have d2 : decide ((j : Int) < (M.length : Int)) = false := decide_eq_false (by omega)
      rw [List.take_of_length_le (by omega)] at hany
      simp (disch := omega) only [f27_r10, f27_r14, f27_rs, Option.some.injEq, exists_eq_left', Nat.reduceEqDiff, ↓reduceIte, Bool.false_eq_true, Bool.not_false, g5, g6, ew, d2, hany, bz]
      exact hG2
theorem f28_ret (k : CallsS fs) (hA1 : 1 ≤ A.length) (hA : A.length ≤ 8) (hv : Sr iE h v A) (hc : HC h) : Ret fs f28 [v] h fun r h' => r = .b (dsOk A && stB (dsc A)) ∧ Grow h.nx.nat h h' := by
  apply ret_of rfl
  show W fs none f28_c _ _ _
  unfold f28_c
  simp (disch := omega) only [f28_r0, f28_r1, Nat.reduceEqDiff, ↓reduceIte, bz]
  refine (callP_0 (ef := f69) k.c69 rfl (f69_ret k.c79 hA1 (by omega) hv hc)).mono ?_
  rintro o h1 ⟨hs, ho, hG⟩
  have hdl : (dsc A).length = A.length := dsL_len
  obtain ⟨x, x1, x2⟩ := hs.at 0 (by omega)
  obtain ⟨y, y1, y2⟩ := hs.at (A.length - 1) (by omega)
  have b1 : (dsc A).getD 0 0 = (dsc A)[0]'(by omega) := getD_lt (by omega)
  have b2 : (dsc A).getD (A.length - 1) 0 = (dsc A)[A.length - 1]'(by omega) := getD_lt (by omega)
  have x2 : loadV h1 x one? = .ok (.i .i64 ((dsc A).getD 0 0)) h1 := by rw [b1]; exact x2
  have y2 : loadV h1 y one? = .ok (.i .i64 ((dsc A).getD (A.length - 1) 0)) h1 := by rw [b2]; exact y2
  have x1 : ∀ k (h1 : H), iadsV 1 o (.i k 0) h1 = .ok x h1 := x1
  have hle : ∀ h0, lenV o h0 = .ok (.i .i64 (A.length : Int)) h0 := fun h0 => by rw [hs.len, hdl]
  have en : (A.length : Int) - 1 = ((A.length - 1 : Nat) : Int) := by omega
  unfold dsOk
  by_cases z1 : (dsc A).getD 0 0 = 0
  · have e1 : decide ((dsc A).getD 0 0 ≠ 0) = false := decide_eq_false (by omega)
    have e1' : decide ((dsc A).getD 0 0 = 0) = true := decide_eq_true z1
    simp (disch := omega) only [f28_r2, f28_rs, Option.some.injEq, exists_eq_left', Nat.reduceEqDiff, ↓reduceIte, Bool.false_eq_true, Bool.not_true, x1, x2, e1, e1', Bool.true_or, Bool.false_and, bz]
    exact hG
  · have e1 : decide ((dsc A).getD 0 0 ≠ 0) = true := decide_eq_true z1
    have e1' : decide ((dsc A).getD 0 0 = 0) = false := decide_eq_false z1
    by_cases z2 : (dsc A).getD (A.length - 1) 0 = 0
    · have e2 : decide ((dsc A).getD (A.length - 1) 0 ≠ 0) = false := decide_eq_false (by omega)
      have e2' : decide ((dsc A).getD (A.length - 1) 0 = 0) = true := decide_eq_true z2
      simp (disch := omega) only [f28_r2, f28_rs, Option.some.injEq, exists_eq_left', Nat.reduceEqDiff, ↓reduceIte, Bool.false_eq_true, Bool.not_true, x1, x2, e1, e1', hle, en, fw64, y1, y2, e2, e2', Bool.or_true, Bool.false_and, bz]
      exact hG
    · have e2 : decide ((dsc A).getD (A.length - 1) 0 ≠ 0) = true := decide_eq_true z2
      have e2' : decide ((dsc A).getD (A.length - 1) 0 = 0) = false := decide_eq_false z2
      simp (disch := omega) only [f28_r2, Nat.reduceEqDiff, ↓reduceIte, Bool.not_false, x1, x2, e1, e1', hle, en, fw64, y1, y2, e2, e2', Bool.or_false, Bool.true_and, bz]
      refine (callP_0 (ef := f27) k.c27 rfl (f27_ret k (by omega) (by omega) hs.sr (hG.hc hc))).mono ?_
      rintro r h2 ⟨rfl, hG2⟩
      simp (disch := omega) only [f28_rs, Option.some.injEq, exists_eq_left', Nat.reduceEqDiff, ↓reduceIte, bz]
      exact hG.trans (hG2.low hG.nx)
end
end Go.Ev
namespace Go.Ev
open Go Go.RowKit
noncomputable def f89_r0 : List EOper := [oG 2 (.as (.c .sn))]
noncomputable def f89_r1 : List EOper := [oG 3 (.mv (tG 0)), oG 4 (.len (tG 3)), oG 5 (.bin .gtr (tG 4) (cG 0)), oG 6 (.mv (tG 5)), gG 7 6 true (.mv (tG 0)), gG 8 6 true (.mv (tG 0)), gG 9 6 true (.len (tG 8)), gG 10 6 true (.bin .sub (tG 9) (cG 1)), gG 11 6 true (.iads 1 (tG 7) (tG 10)), gG 12 6 true (.ld (tG 11)), gG 13 6 true (.bin .eql (tG 12) (cG 0)), oG 14 (.pick (tG 6) (tG 13) (.c (.b false)))]
noncomputable def f89_r2 : List EOper := [oG 15 (.mv (tG 0)), oG 16 (.mv (tG 0)), oG 17 (.len (tG 16)), oG 18 (.bin .sub (tG 17) (cG 1)), oG 19 (.slice 1 (tG 15) none (some (tG 18)) none), oG 0 (.as (tG 19))]
noncomputable def f89_l0 : EC := (.seq (.seq (.reg f89_r1) (.cond (tG 14) .skip (.exit 0))) (.block 1 (.reg f89_r2)))
noncomputable def f89_r3 : List EOper := [oG 20 (.mv (tG 0)), oG 2 (.as (tG 20))]
noncomputable def f89_c : EC := (.seq (.reg f89_r0) (.seq (.block 0 (.loop f89_l0)) (.seq (.reg f89_r3) .ret)))
noncomputable def f89 : EF := ⟨21, [.tmp (.ofNat 2)], f89_c, none⟩
theorem f89_rs : f89.rs = [.tmp (.ofNat 2)] := of_eq_true (eq_self _)
noncomputable def f58_r0 : List EOper := [oG 2 (.alloc 2 [.sn, .sn])]
noncomputable def f58_r1 : List EOper := [oG 3 (.alloc 2 [.sn, .sn])]
noncomputable def f58_r2 : List EOper := [oG 6 (.mv (tG 0)), oG 7 (.len (tG 6)), oG 8 (.mv (cG 0))]
noncomputable def f58_r3 : List EOper := [oG 9 (.bin .lss (tG 8) (tG 7))]
noncomputable def f58_r4 : List EOper := [oG 10 (.mv (tG 8)), oG 11 (.iads 1 (tG 6) (tG 8)), oG 12 (.ld (tG 11)), oG 4 (.as (tG 10)), oG 5 (.as (tG 12))]
noncomputable def f58_r5 : List EOper := [oG 13 (.mv (tG 4)), oG 14 (.bin .rem (tG 13) (cG 2)), oG 15 (.mv (tG 4)), oG 16 (.bin .rem (tG 15) (cG 2)), oG 17 (.iadr 2 1 (tG 3) (tG 16)), oG 18 (.ld (tG 17)), oG 19 (.mv (tG 5)), oG 20 (.bslice 1 1 [(.i .i64 (.ofNat 0))] [(0, 1, (tG 19))]), oG 21 (.app 1 (tG 18) (tG 20)), oG 22 (.iadr 2 1 (tG 3) (tG 14)), ⟨none, none, .st 1 (tG 22) (tG 21)⟩]
noncomputable def f58_r6 : List EOper := [oG 23 (.bin .add (tG 8) (cG 1)), oG 8 (.mv (tG 23))]
noncomputable def f58_l0 : EC := (.seq (.reg f58_r3) (.seq (.cond (tG 9) .skip (.exit 0)) (.seq (.block 1 (.seq (.reg f58_r4) (.reg f58_r5))) (.reg f58_r6))))
noncomputable def f58_r7 : List Stage := [⟨[oG 24 (.iadr 2 1 (tG 3) (cG 0)), oG 25 (.ld (tG 24)), oG 27 (.iadr 2 1 (tG 3) (cG 1)), oG 28 (.ld (tG 27))], [], (some (oG 26 (.call (fG 89) [(tG 25)]))), []⟩, ⟨[], [oG 27 (.iadr 2 1 (tG 3) (cG 1)), oG 28 (.ld (tG 27))], (some (oG 29 (.call (fG 89) [(tG 28)]))), []⟩, ⟨[oG 30 (.build [.sn, .sn] [(0, 1, (tG 26)), (1, 1, (tG 29))])], [], (some ⟨none, none, .st 2 (tG 2) (tG 30)⟩), []⟩, ⟨[], [], none, []⟩]
noncomputable def f58_c : EC := (.seq (.reg f58_r0) (.seq (.reg f58_r1) (.seq (.seq (.reg f58_r2) (.block 0 (.loop f58_l0))) (.seq (.draw f58_r7) .ret))))
noncomputable def f58 : EF := ⟨31, [.celln (.ofNat 2) 2], f58_c, none⟩
theorem f58_rs : f58.rs = [.celln (.ofNat 2) 2] := of_eq_true (eq_self _)
noncomputable def f18_r0 : List EOper := [oG 2 (.alloc 2 [.sn, .sn]), oG 3 (.as (cG 0))]
noncomputable def f18_r1 : List EOper := [oG 5 (.mv (tG 0)), oG 6 (.call (fG 14) [(tG 5)]), oG 4 (.as (tG 6))]
noncomputable def f18_r2 : List EOper := [oG 7 (.mv (tG 4)), oG 8 (.bin .neq (tG 7) (cG 0))]
noncomputable def f18_r3 : List EOper := [oG 9 (.build [.sn, .sn] []), oG 10 (.mv (tG 4)), ⟨none, none, .st 2 (tG 2) (tG 9)⟩, oG 3 (.as (tG 10))]
noncomputable def f18_r4 : List EOper := [oG 11 (.mv (tG 0)), oG 12 (.call (fG 58) [(tG 11)]), ⟨none, none, .st 2 (tG 2) (tG 12)⟩, oG 3 (.as (cG 0))]
noncomputable def f18_c : EC := (.seq (.reg f18_r0) (.seq (.seq (.reg f18_r1) (.seq (.reg f18_r2) (.cond (tG 8) (.seq (.reg f18_r3) .ret) .skip))) (.seq (.reg f18_r4) .ret)))
noncomputable def f18 : EF := ⟨13, [.celln (.ofNat 2) 2, .tmp (.ofNat 3)], f18_c, none⟩
theorem f18_rs : f18.rs = [.celln (.ofNat 2) 2, .tmp (.ofNat 3)] := of_eq_true (eq_self _)
noncomputable def f68_r0 : List EOper := [oG 2 (.as (.c .sn))]
noncomputable def f68_r1 : List EOper := [oG 4 (.mv (tG 0)), oG 5 (.len (tG 4)), oG 3 (.as (tG 5))]
noncomputable def f68_r2 : List EOper := [oG 6 (.mv (tG 3)), oG 7 (.bin .gtr (tG 6) (cG 0)), oG 8 (.mv (tG 7)), gG 9 8 true (.mv (tG 0)), gG 10 8 true (.mv (tG 3)), gG 11 8 true (.bin .sub (tG 10) (cG 1)), gG 12 8 true (.iads 1 (tG 9) (tG 11)), gG 13 8 true (.ld (tG 12)), gG 14 8 true (.bin .eql (tG 13) (cG 0)), oG 15 (.pick (tG 8) (tG 14) (.c (.b false)))]
noncomputable def f68_r3 : List EOper := [oG 16 (.mv (tG 3)), oG 17 (.bin .sub (tG 16) (cG 1)), oG 3 (.as (tG 17))]
noncomputable def f68_l0 : EC := (.seq (.seq (.reg f68_r2) (.cond (tG 15) .skip (.exit 0))) (.block 1 (.reg f68_r3)))
noncomputable def f68_r4 : List EOper := [oG 18 (.mv (tG 0)), oG 19 (.mv (tG 3)), oG 20 (.slice 1 (tG 18) none (some (tG 19)) none), oG 2 (.as (tG 20))]
noncomputable def f68_c : EC := (.seq (.reg f68_r0) (.seq (.reg f68_r1) (.seq (.block 0 (.loop f68_l0)) (.seq (.reg f68_r4) .ret))))
noncomputable def f68 : EF := ⟨21, [.tmp (.ofNat 2)], f68_c, none⟩
theorem f68_rs : f68.rs = [.tmp (.ofNat 2)] := of_eq_true (eq_self _)
noncomputable def f26_r0 : List EOper := [oG 2 (.alloc 2 [.sn, .sn])]
noncomputable def f26_r1 : List EOper := [oG 3 (.alloc 2 [.sn, .sn])]
noncomputable def f26_r2 : List EOper := [oG 4 (.as (cG 0))]
noncomputable def f26_r3 : List EOper := [oG 6 (.mv (tG 4)), oG 7 (.mv (tG 0)), oG 8 (.len (tG 7)), oG 9 (.bin .lss (tG 6) (tG 8))]
noncomputable def f26_r4 : List EOper := [oG 12 (.mv (tG 4)), oG 13 (.bin .rem (tG 12) (cG 2)), oG 14 (.iadr 2 1 (tG 3) (tG 13)), oG 15 (.ld (tG 14)), oG 5 (.as (tG 15))]
noncomputable def f26_r5 : List EOper := [oG 16 (.mv (tG 4)), oG 17 (.bin .rem (tG 16) (cG 2)), oG 18 (.mv (tG 5)), oG 19 (.mv (tG 0)), oG 20 (.mv (tG 4)), oG 21 (.iads 1 (tG 19) (tG 20)), oG 22 (.ld (tG 21)), oG 23 (.bslice 1 1 [(.i .i64 (.ofNat 0))] [(0, 1, (tG 22))]), oG 24 (.app 1 (tG 18) (tG 23)), oG 25 (.iadr 2 1 (tG 3) (tG 17)), ⟨none, none, .st 1 (tG 25) (tG 24)⟩]
noncomputable def f26_r6 : List EOper := [oG 10 (.mv (tG 4)), oG 11 (.bin .add (tG 10) (cG 1)), oG 4 (.as (tG 11))]
noncomputable def f26_l0 : EC := (.seq (.seq (.reg f26_r3) (.cond (tG 9) .skip (.exit 0))) (.seq (.block 1 (.seq (.reg f26_r4) (.reg f26_r5))) (.reg f26_r6)))
noncomputable def f26_r7 : List Stage := [⟨[oG 26 (.iadr 2 1 (tG 3) (cG 0)), oG 27 (.ld (tG 26)), oG 29 (.iadr 2 1 (tG 3) (cG 1)), oG 30 (.ld (tG 29))], [], (some (oG 28 (.call (fG 68) [(tG 27)]))), []⟩, ⟨[], [oG 29 (.iadr 2 1 (tG 3) (cG 1)), oG 30 (.ld (tG 29))], (some (oG 31 (.call (fG 68) [(tG 30)]))), []⟩, ⟨[oG 32 (.build [.sn, .sn] [(0, 1, (tG 28)), (1, 1, (tG 31))])], [], (some ⟨none, none, .st 2 (tG 2) (tG 32)⟩), []⟩, ⟨[], [], none, []⟩]
noncomputable def f26_c : EC := (.seq (.reg f26_r0) (.seq (.reg f26_r1) (.seq (.seq (.reg f26_r2) (.block 0 (.loop f26_l0))) (.seq (.draw f26_r7) .ret))))
noncomputable def f26 : EF := ⟨33, [.celln (.ofNat 2) 2], f26_c, none⟩
theorem f26_rs : f26.rs = [.celln (.ofNat 2) 2] := of_eq_true (eq_self _)
noncomputable def f64_r0 : List EOper := [oG 2 (.as (.c .sn))]
noncomputable def f64_r1 : List EOper := [oG 3 (.mv (tG 0)), oG 4 (.isnil false (tG 3))]
noncomputable def f64_r2 : List EOper := [oG 2 (.as (.c .sn))]
noncomputable def f64_r3 : List EOper := [oG 5 (.bslice 0 1 [] []), oG 6 (.mv (tG 0)), oG 7 (.app 1 (tG 5) (tG 6)), oG 2 (.as (tG 7))]
noncomputable def f64_c : EC := (.seq (.reg f64_r0) (.seq (.seq (.reg f64_r1) (.cond (tG 4) (.seq (.reg f64_r2) .ret) .skip)) (.seq (.reg f64_r3) .ret)))
noncomputable def f64 : EF := ⟨8, [.tmp (.ofNat 2)], f64_c, none⟩
theorem f64_rs : f64.rs = [.tmp (.ofNat 2)] := of_eq_true (eq_self _)
noncomputable def f65_r0 : List EOper := [oG 4 (.mv (tG 0)), oG 5 (.len (tG 4)), oG 6 (.bin .sub (tG 5) (cG 1)), oG 2 (.as (cG 0)), oG 3 (.as (tG 6))]
noncomputable def f65_r1 : List EOper := [oG 7 (.mv (tG 2)), oG 8 (.mv (tG 3)), oG 9 (.bin .lss (tG 7) (tG 8))]
noncomputable def f65_r2 : List Stage := [⟨[oG 14 (.mv (tG 0)), oG 15 (.mv (tG 2)), oG 16 (.mv (tG 0)), oG 17 (.mv (tG 3)), oG 18 (.mv (tG 0)), oG 19 (.mv (tG 3)), oG 20 (.iads 1 (tG 18) (tG 19)), oG 21 (.ld (tG 20)), oG 22 (.mv (tG 0)), oG 23 (.mv (tG 2)), oG 24 (.iads 1 (tG 22) (tG 23)), oG 25 (.ld (tG 24)), oG 26 (.iads 1 (tG 14) (tG 15))], [], (some ⟨none, none, .st 1 (tG 26) (tG 21)⟩), []⟩, ⟨[oG 27 (.iads 1 (tG 16) (tG 17))], [oG 16 (.mv (tG 0)), oG 17 (.mv (tG 3))], (some ⟨none, none, .st 1 (tG 27) (tG 25)⟩), []⟩, ⟨[], [], none, []⟩]
noncomputable def f65_r3 : List EOper := [oG 10 (.mv (tG 2)), oG 11 (.bin .add (tG 10) (cG 1)), oG 12 (.mv (tG 3)), oG 13 (.bin .sub (tG 12) (cG 1)), oG 2 (.as (tG 11)), oG 3 (.as (tG 13))]
noncomputable def f65_l0 : EC := (.seq (.seq (.reg f65_r1) (.cond (tG 9) .skip (.exit 0))) (.seq (.block 1 (.draw f65_r2)) (.reg f65_r3)))
noncomputable def f65_c : EC := (.seq (.reg f65_r0) (.block 0 (.loop f65_l0)))
noncomputable def f65 : EF := ⟨28, [], f65_c, none⟩
theorem f65_rs : f65.rs = [] := of_eq_true (eq_self _)
noncomputable def f22_r0 : List EOper := [oG 2 (.as (.c .sn)), oG 3 (.as (cG 0))]
noncomputable def f22_r1 : List EOper := [oG 6 (.mv (tG 0)), oG 7 (.call (fG 14) [(tG 6)]), oG 4 (.as (tG 7))]
noncomputable def f22_r2 : List EOper := [oG 8 (.mv (tG 4)), oG 9 (.bin .neq (tG 8) (cG 0))]
noncomputable def f22_r3 : List EOper := [oG 10 (.mv (tG 4)), oG 2 (.as (.c .sn)), oG 3 (.as (tG 10))]
noncomputable def f22_r4 : List EOper := [oG 11 (.mv (tG 0)), oG 12 (.iads 1 (tG 11) (cG 0)), oG 13 (.ld (tG 12)), oG 14 (.bin .eql (tG 13) (cG 0))]
noncomputable def f22_r5 : List EOper := [oG 2 (.as (.c .sn)), oG 3 (.as (cG 1))]
noncomputable def f22_r6 : List EOper := [oG 15 (.mv (tG 0)), oG 16 (.call (fG 64) [(tG 15)]), oG 5 (.as (tG 16))]
noncomputable def f22_r7 : List EOper := [oG 17 (.mv (tG 5)), oG 18 (.call (fG 65) [(tG 17)])]
noncomputable def f22_r8 : List EOper := [oG 19 (.mv (tG 5)), oG 2 (.as (tG 19)), oG 3 (.as (cG 0))]
noncomputable def f22_c : EC := (.seq (.reg f22_r0) (.seq (.seq (.reg f22_r1) (.seq (.reg f22_r2) (.cond (tG 9) (.seq (.reg f22_r3) .ret) .skip))) (.seq (.seq (.reg f22_r4) (.cond (tG 14) (.seq (.reg f22_r5) .ret) .skip)) (.seq (.reg f22_r6) (.seq (.reg f22_r7) (.seq (.reg f22_r8) .ret))))))
noncomputable def f22 : EF := ⟨20, [.tmp (.ofNat 2), .tmp (.ofNat 3)], f22_c, none⟩
theorem f22_rs : f22.rs = [.tmp (.ofNat 2), .tmp (.ofNat 3)] := of_eq_true (eq_self _)
noncomputable def f32_r0 : List EOper := [oG 2 (.as (.c .sn))]
noncomputable def f32_r1 : List EOper := [oG 3 (.as (.c .sn))]
noncomputable def f32_r2 : List EOper := [oG 5 (.mv (tG 0)), oG 6 (.len (tG 5)), oG 7 (.bin .sub (tG 6) (cG 1)), oG 4 (.as (tG 7))]
noncomputable def f32_r3 : List EOper := [oG 8 (.mv (tG 4)), oG 9 (.bin .geq (tG 8) (cG 0))]
noncomputable def f32_r4 : List EOper := [oG 12 (.mv (tG 3)), oG 13 (.mv (tG 0)), oG 14 (.mv (tG 4)), oG 15 (.iads 1 (tG 13) (tG 14)), oG 16 (.ld (tG 15)), oG 17 (.bslice 1 1 [(.i .i64 (.ofNat 0))] [(0, 1, (tG 16))]), oG 18 (.app 1 (tG 12) (tG 17)), oG 3 (.as (tG 18))]
noncomputable def f32_r5 : List EOper := [oG 10 (.mv (tG 4)), oG 11 (.bin .sub (tG 10) (cG 1)), oG 4 (.as (tG 11))]
noncomputable def f32_l0 : EC := (.seq (.seq (.reg f32_r3) (.cond (tG 9) .skip (.exit 0))) (.seq (.block 1 (.reg f32_r4)) (.reg f32_r5)))
noncomputable def f32_r6 : List EOper := [oG 19 (.mv (tG 3)), oG 2 (.as (tG 19))]
noncomputable def f32_c : EC := (.seq (.reg f32_r0) (.seq (.reg f32_r1) (.seq (.seq (.reg f32_r2) (.block 0 (.loop f32_l0))) (.seq (.reg f32_r6) .ret))))
noncomputable def f32 : EF := ⟨20, [.tmp (.ofNat 2)], f32_c, none⟩
theorem f32_rs : f32.rs = [.tmp (.ofNat 2)] := of_eq_true (eq_self _)
section
variable {fs : T EF} {h : H} {v w : V} {A B L : List Int}
def f89_I (h0 : H) (v : V) (L : List Int) (j : Nat) (fr : Fr) (h1 : H) : Prop := j ≤ L.length ∧ h1 = h0 ∧ trN L L.length = trN L j ∧ ∃ u, Sr iE h0 u (L.take j) ∧ (∀ b, Own b v → Own b u) ∧ fr.get (K.ofNat 0) = some (u)
theorem f89_ret (hv : Sr iE h v L) (hL : L.length ≤ 1000) : Ret fs f89 [v] h fun r h' => Sr iE h r (trm L) ∧ (∀ b, Own b v → Own b r) ∧ h' = h := by
  apply ret_of rfl
  show W fs none f89_c _ _ _
  unfold f89_c
  simp (disch := omega) only [f89_r0, bz]
  refine W_loop (f89_I h v L) (fun j => j) ?_ L.length ⟨Nat.le_refl _, rfl, rfl, v, by rw [List.take_length]; exact hv, (fun _ h => h), by simp (disch := omega) only [getK_set, Nat.reduceEqDiff, ↓reduceIte]⟩
  rintro j fr h1 ⟨hj, rfl, hn, u, su, ou, g0⟩
  have hlen : (L.take j).length = j := by simp; omega
  have e1 : ∀ h, lenV u h = .ok (.i .i64 (j : Int)) h := fun h => by rw [su.len, hlen]
  unfold f89_l0
  have out : trN L L.length = j → Sr iE h1 u (trm L) := fun e => by unfold trm; rw [e]; exact su
  by_cases h0 : j = 0
  · have d1 : decide ((j : Int) > 0) = false := decide_eq_false (by omega)
    simp (disch := omega) only [f89_r1, f89_r3, f89_rs, Option.some.injEq, exists_eq_left', Nat.reduceEqDiff, ↓reduceIte, Bool.false_eq_true, g0, e1, d1, and_true, bz]
    exact ⟨out (by rw [hn, h0]; rfl), ou⟩
  · have d1 : decide ((j : Int) > 0) = true := decide_eq_true (by omega)
    have ei : (j : Int) - 1 = ((j - 1 : Nat) : Int) := by omega
    obtain ⟨p, p1, p2⟩ := su.at (j - 1) (by omega)
    have hx : (L.take j)[j - 1]'(by omega) = L.getD (j - 1) 0 := by rw [List.getElem_take, getD_lt (by omega)]
    have p2 : loadV h1 p one? = .ok (.i .i64 (L.getD (j - 1) 0)) h1 := by rw [← hx]; exact p2
    have hs : trN L j = if L.getD (j - 1) 0 = 0 then trN L (j - 1) else j := by
      obtain ⟨i, rfl⟩ : ∃ i, j = i + 1 := ⟨j - 1, by omega⟩
      rfl
    by_cases hz : L.getD (j - 1) 0 = 0
    · have d2 : decide (L.getD (j - 1) 0 = 0) = true := decide_eq_true hz
      rw [if_pos hz] at hs
      obtain ⟨u', q1, q2, q3, _⟩ := su.cut (lo := none) (hi := some (.i .i64 ((j - 1 : Nat) : Int))) (l := 0) (u := j - 1) bnd_none bnd_i (by omega) (by omega)
      rw [List.drop_zero, List.take_take, Nat.min_eq_left (by omega)] at q2
      simp (disch := omega) only [f89_r1, f89_r2, x_slice, sliceV_eq, Option.map_none, Option.map_some, Nat.reduceEqDiff, ↓reduceIte, g0, e1, d1, ei, fw64, p1, p2, d2, q1, bz]
      exact ⟨j - 1, by omega, by omega, rfl, by rw [hn, hs], u', q2, (fun b hb => q3 b (ou b hb)), by simp (disch := omega) only [getK_set, ↓reduceIte]⟩
    · have d2 : decide (L.getD (j - 1) 0 = 0) = false := decide_eq_false hz
      rw [if_neg hz] at hs
      simp (disch := omega) only [f89_r1, f89_r3, f89_rs, Option.some.injEq, exists_eq_left', Nat.reduceEqDiff, ↓reduceIte, Bool.false_eq_true, g0, e1, d1, ei, fw64, p1, p2, d2, and_true, bz]
      exact ⟨out (by rw [hn, hs]), ou⟩
def f68_I (h0 : H) (v : V) (L : List Int) (j : Nat) (fr : Fr) (h1 : H) : Prop := j ≤ L.length ∧ h1 = h0 ∧ trN L L.length = trN L j ∧ fr.get (K.ofNat 0) = some (v) ∧ fr.get (K.ofNat 3) = some (.i .i64 (j : Int))
theorem f68_ret (hv : Sr iE h v L) (hL : L.length ≤ 1000) : Ret fs f68 [v] h fun r h' => Sr iE h r (trm L) ∧ (∀ b, Own b v → Own b r) ∧ h' = h := by
  apply ret_of rfl
  show W fs none f68_c _ _ _
  unfold f68_c
  have e1 := hv.len
  simp (disch := omega) only [f68_r0, f68_r1, Nat.reduceEqDiff, ↓reduceIte, e1, bz]
  refine W_loop (f68_I h v L) (fun j => j) ?_ L.length ⟨Nat.le_refl _, rfl, rfl, by simp (disch := omega) only [getK_set, Nat.reduceEqDiff, ↓reduceIte, and_self]⟩
  rintro j fr h1 ⟨hj, rfl, hn, g0, g3⟩
  unfold f68_l0
  have out : trN L L.length = j → ∃ u, (∀ h1, sliceB 1 v none (some (.i .i64 (j : Int))) none h1 = .ok u h1) ∧ Sr iE h1 u (trm L) ∧ ∀ b, Own b v → Own b u := fun e => by
    obtain ⟨u', q1, q2, q3, _⟩ := hv.cut (lo := none) (hi := some (.i .i64 (j : Int))) (l := 0) (u := j) bnd_none bnd_i (by omega) (by omega)
    rw [List.drop_zero] at q2
    exact ⟨u', q1, by unfold trm; rw [e]; exact q2, q3⟩
  by_cases h0 : j = 0
  · have d1 : decide ((j : Int) > 0) = false := decide_eq_false (by omega)
    obtain ⟨u, q1, q2, q3⟩ := out (by rw [hn, h0]; rfl)
    simp (disch := omega) only [f68_r2, f68_r4, f68_rs, x_slice, sliceV_eq, Option.map_none, Option.map_some, Option.some.injEq, exists_eq_left', Nat.reduceEqDiff, ↓reduceIte, Bool.false_eq_true, g0, g3, d1, q1, and_true, bz]
    exact ⟨q2, q3⟩
  · have d1 : decide ((j : Int) > 0) = true := decide_eq_true (by omega)
    have ei : (j : Int) - 1 = ((j - 1 : Nat) : Int) := by omega
    obtain ⟨p, p1, p2⟩ := hv.at (j - 1) (by omega)
    have p2 : loadV h1 p one? = .ok (.i .i64 (L.getD (j - 1) 0)) h1 := by rw [getD_lt (by omega)]; exact p2
    have hs : trN L j = if L.getD (j - 1) 0 = 0 then trN L (j - 1) else j := by
      obtain ⟨i, rfl⟩ : ∃ i, j = i + 1 := ⟨j - 1, by omega⟩
      rfl
    by_cases hz : L.getD (j - 1) 0 = 0
    · have d2 : decide (L.getD (j - 1) 0 = 0) = true := decide_eq_true hz
      rw [if_pos hz] at hs
      simp (disch := omega) only [f68_r2, f68_r3, Nat.reduceEqDiff, ↓reduceIte, g0, g3, d1, ei, fw64, p1, p2, d2, bz]
      exact ⟨j - 1, by omega, by omega, rfl, by rw [hn, hs], by simp (disch := omega) only [getK_set, Nat.reduceEqDiff, ↓reduceIte, g0, and_self]⟩
    · have d2 : decide (L.getD (j - 1) 0 = 0) = false := decide_eq_false hz
      rw [if_neg hz] at hs
      obtain ⟨u, q1, q2, q3⟩ := out (by rw [hn, hs])
      simp (disch := omega) only [f68_r2, f68_r4, f68_rs, x_slice, sliceV_eq, Option.map_none, Option.map_some, Option.some.injEq, exists_eq_left', Nat.reduceEqDiff, ↓reduceIte, Bool.false_eq_true, g0, g3, d1, ei, fw64, p1, p2, d2, q1, and_true, bz]
      exact ⟨q2, q3⟩
structure HvI (h2 h1 : H) (id : K) (u0 u1 : V) (L0 L1 : List Int) : Prop where
  s0 : Sl iE h1 u0 L0
  s1 : Sl iE h1 u1 L1
  o0 : Own (id.nat + 1) u0
  o1 : Own (id.nat + 1) u1
  sep : ∀ k off n sz, u1 = .sl k off n sz → NotIn k u0
  gr : Grow id.nat h2 h1
  eb : h1.get id = .cells 2 [u0, u1]
  nx : id.nat + 1 ≤ h1.nx.nat
theorem HvI.ld0 {h2 h1 : H} {id : K} {u0 u1 : V} {L0 L1 : List Int} (t : HvI h2 h1 id u0 u1 L0 L1) : loadV h1 (.p id (0 + 0 * 1)) one? = .ok u0 h1 := load_p t.eb rfl
theorem HvI.ld1 {h2 h1 : H} {id : K} {u0 u1 : V} {L0 L1 : List Int} (t : HvI h2 h1 id u0 u1 L0 L1) : loadV h1 (.p id (0 + 1 * 1)) one? = .ok u1 h1 := load_p t.eb rfl
theorem HvI.push0 {h2 h1 : H} {id : K} {u0 u1 : V} {L0 L1 : List Int} (t : HvI h2 h1 id u0 u1 L0 L1) (hc : HC h1) (hn : L0.length < 16777216) (x : Int) :
    ∃ u0' h3, appV 1 (h1.new (.cells (1 * 1) [.i .i64 x])) u0 (.sl h1.nx 0 1 1) = .ok u0' h3 ∧ storeV h3 1 (.p id (0 + 0 * 1)) u0' = .ok undefV (h3.put id (.cells 2 [u0', u1])) ∧ HvI h2 (h3.put id (.cells 2 [u0', u1])) id u0' u1 (L0 ++ [x]) L1 := by
  obtain ⟨u0', h3, a1, a2, a3, a4, a5⟩ := Sl.push (e := iE) (x := x) (c := .i .i64 x) rfl t.s0 t.o0 t.nx hc hn
  have hid : h3.get id = .cells 2 [u0, u1] := (a4.old id (Nat.lt_succ_self _)).trans t.eb
  have ps := Nat.le_trans t.nx a4.nx
  have s1' : Sl iE h3 u1 L1 := t.s1.same fun k off n sz e => (a5 k (t.s1.lt hc _ _ _ _ e) (t.sep _ _ _ _ e)).1
  refine ⟨u0', h3, a1, by rw [store_p (m := 2) (cs := [u0, u1]) (xs := [u0']) hid a2.one (by omega)]; rfl, ⟨a2.put (a3.notIn (by omega)) _, s1'.put (t.o1.notIn (by omega)) _, a3, t.o1, fun k off n sz e => (a5 k (t.s1.lt hc _ _ _ _ e) (t.sep _ _ _ _ e)).2, (t.gr.trans (a4.low (by omega))).trans (Grow.put (Nat.le_refl _) (by omega) _), get_put_same, by rw [nx_put]; omega⟩⟩
theorem HvI.push1 {h2 h1 : H} {id : K} {u0 u1 : V} {L0 L1 : List Int} (t : HvI h2 h1 id u0 u1 L0 L1) (hc : HC h1) (hn : L1.length < 16777216) (x : Int) :
    ∃ u1' h3, appV 1 (h1.new (.cells (1 * 1) [.i .i64 x])) u1 (.sl h1.nx 0 1 1) = .ok u1' h3 ∧ storeV h3 1 (.p id (0 + 1 * 1)) u1' = .ok undefV (h3.put id (.cells 2 [u0, u1'])) ∧ HvI h2 (h3.put id (.cells 2 [u0, u1'])) id u0 u1' L0 (L1 ++ [x]) := by
  obtain ⟨u1', h3, a1, a2, a3, a4, a5⟩ := Sl.push (e := iE) (x := x) (c := .i .i64 x) rfl t.s1 t.o1 t.nx hc hn
  have hid : h3.get id = .cells 2 [u0, u1] := (a4.old id (Nat.lt_succ_self _)).trans t.eb
  have ps := Nat.le_trans t.nx a4.nx
  have sep' : ∀ k off n sz, u0 = .sl k off n sz → NotIn k u1 := fun k off n sz e off' n' sz' e' => t.sep k off' n' sz' e' off n sz e
  have s0' : Sl iE h3 u0 L0 := t.s0.same fun k off n sz e => (a5 k (t.s0.lt hc _ _ _ _ e) (sep' _ _ _ _ e)).1
  refine ⟨u1', h3, a1, by rw [store_p (m := 2) (cs := [u0, u1]) (xs := [u1']) hid a2.one (by omega)]; rfl, ⟨s0'.put (t.o0.notIn (by omega)) _, a2.put (a3.notIn (by omega)) _, t.o0, a3, fun k off n sz e off' n' sz' e' => (a5 k (t.s0.lt hc _ _ _ _ e') (sep' _ _ _ _ e')).2 off n sz e, (t.gr.trans (a4.low (by omega))).trans (Grow.put (Nat.le_refl _) (by omega) _), get_put_same, by rw [nx_put]; omega⟩⟩
def f58_I (h2 : H) (v : V) (idr id : K) (A : List Int) (j : Nat) (fr : Fr) (h1 : H) : Prop := j ≤ A.length ∧ ∃ u0 u1, HvI h2 h1 id u0 u1 (evL A j) (odL A j) ∧ fr.get (K.ofNat 2) = some (.p idr 0) ∧ fr.get (K.ofNat 3) = some (.p id 0) ∧ fr.get (K.ofNat 6) = some (v) ∧ fr.get (K.ofNat 7) = some (.i .i64 (A.length : Int)) ∧ fr.get (K.ofNat 8) = some (.i .i64 (j : Int))
theorem two_new (h : H) : Grow h.nx.nat h ((h.new (.cells 2 [.sn, .sn])).new (.cells 2 [.sn, .sn])) ∧ ((h.new (.cells 2 [.sn, .sn])).new (.cells 2 [.sn, .sn])).get h.nx = .cells 2 [.sn, .sn] ∧ ((h.new (.cells 2 [.sn, .sn])).new (.cells 2 [.sn, .sn])).get (h.new (.cells 2 [.sn, .sn])).nx = .cells 2 [.sn, .sn] ∧ (h.new (.cells 2 [.sn, .sn])).nx.nat = h.nx.nat + 1 ∧ ((h.new (.cells 2 [.sn, .sn])).new (.cells 2 [.sn, .sn])).nx.nat = h.nx.nat + 2 := by
  have n1 := nx_new h (.cells 2 [.sn, .sn])
  have n2 := nx_new (h.new (.cells 2 [.sn, .sn])) (.cells 2 [.sn, .sn])
  exact ⟨(Grow.new (Nat.le_refl _) _).trans (Grow.new (by omega) _), (get_new_old (by omega)).trans get_new_same, get_new_same, n1, by omega⟩
theorem HvI.end_ {h2 h1 : H} {id idr : K} {u0 u1 x0 x1 : V} {L0 L1 M0 M1 : List Int} (t : HvI h2 h1 id u0 u1 L0 L1) (hr : idr.nat < id.nat) (e : h2.get idr = .cells 2 [.sn, .sn]) (s0 : Sr iE h1 x0 M0) (s1 : Sr iE h1 x1 M1) (o0 : Own (id.nat + 1) x0) (o1 : Own (id.nat + 1) x1) :
    storeV h1 2 (.p idr 0) (.agg [x0, x1]) = .ok undefV (h1.put idr (.cells 2 [x0, x1])) ∧ readP (h1.put idr (.cells 2 [x0, x1])) (.p idr 0) (many? 2) = some (.agg [x0, x1]) ∧ Sr iE (h1.put idr (.cells 2 [x0, x1])) x0 M0 ∧ Sr iE (h1.put idr (.cells 2 [x0, x1])) x1 M1 ∧ Grow idr.nat h1 (h1.put idr (.cells 2 [x0, x1])) := by
  have ei : h1.get idr = .cells 2 [.sn, .sn] := (t.gr.old _ hr).trans e
  have hn := t.nx
  refine ⟨?_, ?_, s0.put (o0.notIn (by omega)) _, s1.put (o1.notIn (by omega)) _, Grow.put (Nat.le_refl _) (by omega) _⟩
  · rw [store_p (m := 2) (cs := [.sn, .sn]) (xs := [x0, x1]) ei rfl (by omega)]; rfl
  · show ((h1.put idr (.cells 2 [x0, x1])).get idr).onC none (fun n cs => many? 2 cs n 0) = _
    rw [get_put_same]; rfl
theorem f58_ret (k89 : fs.get (.ofNat 89) = some f89) (hA : A.length ≤ 100) (hv : Sr iE h v A) (hc : HC h) : Ret fs f58 [v] h fun r h' => ∃ x0 x1, r = .agg [x0, x1] ∧ Sr iE h' x0 (trm (evL A A.length)) ∧ Sr iE h' x1 (trm (odL A A.length)) ∧ Own h.nx.nat x0 ∧ Own h.nx.nat x1 ∧ Grow h.nx.nat h h' := by
  apply ret_of rfl
  show W fs none f58_c _ _ _
  unfold f58_c
  obtain ⟨gA, e1, e2, n1, n2⟩ := two_new h
  simp (disch := omega) only [f58_r0, f58_r1, f58_r2, Nat.reduceEqDiff, ↓reduceIte, hv.len, bz]
  generalize hidd : (h.new (.cells 2 [.sn, .sn])).nx = id at *
  generalize (h.new (.cells 2 [.sn, .sn])).new (.cells 2 [.sn, .sn]) = h2 at *
  refine W_loop (f58_I h2 v h.nx id A) (fun j => A.length - j) ?_ 0 ⟨Nat.zero_le _, .sn, .sn, ⟨Sl.nil, Sl.nil, Own.sn, Own.sn, (fun _ _ _ _ e => by cases e), Grow.refl _ _, e2, by omega⟩, by simp (disch := omega) only [getK_set, Nat.reduceEqDiff, ↓reduceIte, and_self, Int.natCast_zero]⟩
  rintro j fr h1 ⟨hj, u0, u1, t, g2, g3, g6, g7, g8⟩
  have hG := gA.trans (t.gr.low (by omega))
  have hc1 := hG.hc hc
  have hv1 := hv.grow hc hG
  unfold f58_l0
  by_cases hlt : j < A.length
  · have d1 : decide ((j : Int) < (A.length : Int)) = true := decide_eq_true (by omega)
    obtain ⟨p, p1, p2⟩ := hv1.at j hlt
    have p2 : loadV h1 p one? = .ok (.i .i64 (A.getD j 0)) h1 := by rw [getD_lt hlt]; exact p2
    have h20 : decide ((2 : Int) = 0) = false := rfl
    rcases Nat.mod_two_eq_zero_or_one j with hm | hm
    · have em : (j : Int).tmod 2 = 0 := by rw [show (2 : Int) = ((2 : Nat) : Int) from rfl, ← Int.ofNat_tmod, hm]; rfl
      obtain ⟨u0', h3, a1, a2, t'⟩ := t.push0 hc1 (by have := evL_le (A := A) (j := j); omega) (A.getD j 0)
      rw [← evL_s0 hm, show odL A j = odL A (j + 1) from (odL_s0 hm).symm] at t'
      simp (disch := omega) only [f58_r3, f58_r4, f58_r5, f58_r6, Nat.reduceEqDiff, ↓reduceIte, g3, g6, g7, g8, d1, p1, p2, em, t.ld0, a1, a2, fw64, bz]
      exact ⟨j + 1, by omega, by omega, u0', u1, t', by simp (disch := omega) only [getK_set, Nat.reduceEqDiff, ↓reduceIte, g2, g3, g6, g7, and_self, Int.natCast_add, Int.natCast_one]⟩
    · have em : (j : Int).tmod 2 = 1 := by rw [show (2 : Int) = ((2 : Nat) : Int) from rfl, ← Int.ofNat_tmod, hm]; rfl
      obtain ⟨u1', h3, a1, a2, t'⟩ := t.push1 hc1 (by have := odL_le (A := A) (j := j); omega) (A.getD j 0)
      rw [← odL_s1 hm, show evL A j = evL A (j + 1) from (evL_s1 hm).symm] at t'
      simp (disch := omega) only [f58_r3, f58_r4, f58_r5, f58_r6, Nat.reduceEqDiff, ↓reduceIte, g3, g6, g7, g8, d1, p1, p2, em, t.ld1, a1, a2, fw64, bz]
      exact ⟨j + 1, by omega, by omega, u0, u1', t', by simp (disch := omega) only [getK_set, Nat.reduceEqDiff, ↓reduceIte, g2, g3, g6, g7, and_self, Int.natCast_add, Int.natCast_one]⟩
  · have d1 : decide ((j : Int) < (A.length : Int)) = false := decide_eq_false (by omega)
    obtain rfl : j = A.length := by omega
    have l0 := evL_le (A := A) (j := A.length)
    have l1 := odL_le (A := A) (j := A.length)
    have b1 := t.s1.beq
    simp (disch := omega) only [f58_r3, f58_r7, xg_iadr, Nat.reduceEqDiff, ↓reduceIte, Bool.false_eq_true, g3, g7, g8, d1, t.ld0, t.ld1, bz]
    refine (callP_0 (ef := f89) k89 rfl (f89_ret t.s0.sr (by omega))).mono ?_
    rintro x0 h3 ⟨s0, o0, rfl⟩
    simp (disch := omega) only [stay_cons, again_ok, stay_ld, beq_p, Nat.reduceEqDiff, ↓reduceIte, stay_iadr, g3, t.ld1, b1, bz]
    refine (callP_0 (ef := f89) k89 rfl (f89_ret t.s1.sr (by omega))).mono ?_
    rintro x1 h3 ⟨s1, o1, rfl⟩
    obtain ⟨q1, q2, q3, q4, q5⟩ := t.end_ (idr := h.nx) (by omega) e1 s0 s1 (o0 _ t.o0) (o1 _ t.o1)
    have c0 : cellsN 1 x0 = some [x0] := s0.one
    have c1 : cellsN 1 x1 = some [x1] := s1.one
    simp (disch := omega) only [f58_rs, xg_build, readRs_n, Option.some.injEq, exists_eq_left', Nat.reduceEqDiff, ↓reduceIte, g2, c0, c1, q1, q2, bz]
    exact ⟨_, _, rfl, q3, q4, (o0 _ t.o0).low (by omega), (o1 _ t.o1).low (by omega), hG.trans q5⟩
def f26_I (h2 : H) (v : V) (idr id : K) (A : List Int) (j : Nat) (fr : Fr) (h1 : H) : Prop := j ≤ A.length ∧ ∃ u0 u1, HvI h2 h1 id u0 u1 (evL A j) (odL A j) ∧ fr.get (K.ofNat 0) = some (v) ∧ fr.get (K.ofNat 2) = some (.p idr 0) ∧ fr.get (K.ofNat 3) = some (.p id 0) ∧ fr.get (K.ofNat 4) = some (.i .i64 (j : Int))
theorem f26_ret (k68 : fs.get (.ofNat 68) = some f68) (hA : A.length ≤ 100) (hv : Sr iE h v A) (hc : HC h) : Ret fs f26 [v] h fun r h' => ∃ x0 x1, r = .agg [x0, x1] ∧ Sr iE h' x0 (trm (evL A A.length)) ∧ Sr iE h' x1 (trm (odL A A.length)) ∧ Own h.nx.nat x0 ∧ Own h.nx.nat x1 ∧ Grow h.nx.nat h h' := by
  apply ret_of rfl
  show W fs none f26_c _ _ _
  unfold f26_c
  obtain ⟨gA, e1, e2, n1, n2⟩ := two_new h
  simp (disch := omega) only [f26_r0, f26_r1, f26_r2, bz]
  generalize hidd : (h.new (.cells 2 [.sn, .sn])).nx = id at *
  generalize (h.new (.cells 2 [.sn, .sn])).new (.cells 2 [.sn, .sn]) = h2 at *
  refine W_loop (f26_I h2 v h.nx id A) (fun j => A.length - j) ?_ 0 ⟨Nat.zero_le _, .sn, .sn, ⟨Sl.nil, Sl.nil, Own.sn, Own.sn, (fun _ _ _ _ e => by cases e), Grow.refl _ _, e2, by omega⟩, by simp (disch := omega) only [getK_set, Nat.reduceEqDiff, ↓reduceIte, and_self, Int.natCast_zero]⟩
  rintro j fr h1 ⟨hj, u0, u1, t, g0, g2, g3, g4⟩
  have hG := gA.trans (t.gr.low (by omega))
  have hc1 := hG.hc hc
  have hv1 := hv.grow hc hG
  have hl := hv1.len
  unfold f26_l0
  by_cases hlt : j < A.length
  · have d1 : decide ((j : Int) < (A.length : Int)) = true := decide_eq_true (by omega)
    obtain ⟨p, p1, p2⟩ := hv1.at j hlt
    have p2 : loadV h1 p one? = .ok (.i .i64 (A.getD j 0)) h1 := by rw [getD_lt hlt]; exact p2
    have h20 : decide ((2 : Int) = 0) = false := rfl
    rcases Nat.mod_two_eq_zero_or_one j with hm | hm
    · have em : (j : Int).tmod 2 = 0 := by rw [show (2 : Int) = ((2 : Nat) : Int) from rfl, ← Int.ofNat_tmod, hm]; rfl
      obtain ⟨u0', h3, a1, a2, t'⟩ := t.push0 hc1 (by have := evL_le (A := A) (j := j); omega) (A.getD j 0)
      rw [← evL_s0 hm, show odL A j = odL A (j + 1) from (odL_s0 hm).symm] at t'
      simp (disch := omega) only [f26_r3, f26_r4, f26_r5, f26_r6, Nat.reduceEqDiff, ↓reduceIte, g0, g3, g4, hl, d1, p1, p2, em, t.ld0, a1, a2, fw64, bz]
      exact ⟨j + 1, by omega, by omega, u0', u1, t', by simp (disch := omega) only [getK_set, Nat.reduceEqDiff, ↓reduceIte, g0, g2, g3, and_self, Int.natCast_add, Int.natCast_one]⟩
    · have em : (j : Int).tmod 2 = 1 := by rw [show (2 : Int) = ((2 : Nat) : Int) from rfl, ← Int.ofNat_tmod, hm]; rfl
      obtain ⟨u1', h3, a1, a2, t'⟩ := t.push1 hc1 (by have := odL_le (A := A) (j := j); omega) (A.getD j 0)
      rw [← odL_s1 hm, show evL A j = evL A (j + 1) from (evL_s1 hm).symm] at t'
      simp (disch := omega) only [f26_r3, f26_r4, f26_r5, f26_r6, Nat.reduceEqDiff, ↓reduceIte, g0, g3, g4, hl, d1, p1, p2, em, t.ld1, a1, a2, fw64, bz]
      exact ⟨j + 1, by omega, by omega, u0, u1', t', by simp (disch := omega) only [getK_set, Nat.reduceEqDiff, ↓reduceIte, g0, g2, g3, and_self, Int.natCast_add, Int.natCast_one]⟩
  · have d1 : decide ((j : Int) < (A.length : Int)) = false := decide_eq_false (by omega)
    obtain rfl : j = A.length := by omega
    have l0 := evL_le (A := A) (j := A.length)
    have l1 := odL_le (A := A) (j := A.length)
    have b1 := t.s1.beq
    simp (disch := omega) only [f26_r3, f26_r7, xg_iadr, Nat.reduceEqDiff, ↓reduceIte, Bool.false_eq_true, g0, g3, g4, hl, d1, t.ld0, t.ld1, bz]
    refine (callP_0 (ef := f68) k68 rfl (f68_ret t.s0.sr (by omega))).mono ?_
    rintro x0 h3 ⟨s0, o0, rfl⟩
    simp (disch := omega) only [stay_cons, again_ok, stay_ld, beq_p, Nat.reduceEqDiff, ↓reduceIte, stay_iadr, g3, t.ld1, b1, bz]
    refine (callP_0 (ef := f68) k68 rfl (f68_ret t.s1.sr (by omega))).mono ?_
    rintro x1 h3 ⟨s1, o1, rfl⟩
    obtain ⟨q1, q2, q3, q4, q5⟩ := t.end_ (idr := h.nx) (by omega) e1 s0 s1 (o0 _ t.o0) (o1 _ t.o1)
    have c0 : cellsN 1 x0 = some [x0] := s0.one
    have c1 : cellsN 1 x1 = some [x1] := s1.one
    simp (disch := omega) only [f26_rs, xg_build, readRs_n, Option.some.injEq, exists_eq_left', Nat.reduceEqDiff, ↓reduceIte, g2, c0, c1, q1, q2, bz]
    exact ⟨_, _, rfl, q3, q4, (o0 _ t.o0).low (by omega), (o1 _ t.o1).low (by omega), hG.trans q5⟩
structure CallsH (fs : T EF) : Prop extends CallsS fs where
  c89 : fs.get (K.ofNat 89) = some f89
  c68 : fs.get (K.ofNat 68) = some f68
  c58 : fs.get (K.ofNat 58) = some f58
  c64 : fs.get (K.ofNat 64) = some f64
  c65 : fs.get (K.ofNat 65) = some f65
theorem f18_ret (k : CallsH fs) (hA : plB A = true) (hv : Sr iE h v A) (hc : HC h) : Ret fs f18 [v] h fun r h' => ∃ x0 x1, r = .tup [.agg [x0, x1], .i .i64 0] ∧ Sr iE h' x0 (trm (evL A A.length)) ∧ Sr iE h' x1 (trm (odL A A.length)) ∧ Grow h.nx.nat h h' := by
  obtain ⟨l1, l2, _, _⟩ := plB_len hA
  apply ret_of rfl
  show W fs none f18_c _ _ _
  unfold f18_c
  have ca : ckI A = 0 := by unfold ckI; rw [if_pos hA]
  have gA := Grow.new (Nat.le_refl h.nx.nat) (.cells 2 [.sn, .sn])
  have n1 := nx_new h (.cells 2 [.sn, .sn])
  have e1 : (h.new (.cells 2 [.sn, .sn])).get h.nx = .cells 2 [.sn, .sn] := get_new_same
  have hcA := gA.hc hc
  have hvA := hv.grow hc gA
  have d0 : decide ((0 : Int) ≠ 0) = false := rfl
  simp (disch := omega) only [f18_r0, bz]
  generalize h.new (.cells 2 [.sn, .sn]) = hA0 at *
  have eA := fun P => f14_eq k.toCSm k.c54 k.c14 hvA (by omega) (P := P)
  simp (disch := omega) only [f18_r1, f18_r2, f18_r4, Nat.reduceEqDiff, ↓reduceIte, Bool.false_eq_true, eA, ca, d0, bz]
  refine (callP_0 (ef := f58) k.c58 rfl (f58_ret k.c89 (by omega) hvA hcA)).mono ?_
  rintro r h1 ⟨x0, x1, rfl, s0, s1, o0, o1, g1⟩
  have ei : h1.get h.nx = .cells 2 [.sn, .sn] := (g1.old _ (by omega)).trans e1
  have hlt : h.nx.nat < h1.nx.nat := by have := g1.nx; omega
  have st : storeV h1 2 (.p h.nx 0) (.agg [x0, x1]) = .ok undefV (h1.put h.nx (.cells 2 [x0, x1])) := by
    rw [store_p (m := 2) (cs := [.sn, .sn]) (xs := [x0, x1]) ei rfl (by omega)]; rfl
  have rd : readP (h1.put h.nx (.cells 2 [x0, x1])) (.p h.nx 0) (many? 2) = some (.agg [x0, x1]) := by
    show ((h1.put h.nx (.cells 2 [x0, x1])).get h.nx).onC none (fun n cs => many? 2 cs n 0) = _
    rw [get_put_same]; rfl
  simp (disch := omega) only [f18_rs, readRs_n, Option.some.injEq, exists_eq_left', Nat.reduceEqDiff, ↓reduceIte, st, rd, bz]
  exact ⟨x0, x1, rfl, s0.put (o0.notIn (by omega)) _, s1.put (o1.notIn (by omega)) _, (gA.trans (g1.low (by omega))).trans (Grow.put (Nat.le_refl _) hlt _)⟩
theorem f64_ret (hL : L ≠ []) (hl : L.length ≤ 1000) (hv : Sr iE h v L) (hc : HC h) : Ret fs f64 [v] h fun r h' => Sl iE h' r L ∧ Own h.nx.nat r ∧ Grow h.nx.nat h h' := by
  apply ret_of rfl
  show W fs none f64_c _ _ _
  unfold f64_c
  obtain ⟨id, off, hve⟩ : ∃ id off, v = .sl id off L.length 1 := by
    rcases hv with ⟨_, e⟩ | ⟨id, off, _, _, e, _⟩
    · exact absurd e hL
    · exact ⟨id, off, e⟩
  have hnil : ∀ h0, isnilV false v h0 = .ok (.b false) h0 := fun h0 => by rw [hve]; rfl
  have g0 := Grow.new (Nat.le_refl h.nx.nat) (.cells (0 * 1) [])
  have s0 : Sl iE (h.new (.cells (0 * 1) [])) (.sl h.nx 0 0 1) ([] : List Int) := .inr ⟨h.nx, 0, 0 * 1, [], rfl, get_new_same, rfl, by simp, fun i hi => by simp at hi⟩
  have o0 : Own h.nx.nat (.sl h.nx 0 0 1) := fun id off n sz e => by cases e; exact Nat.le_refl _
  obtain ⟨r, h2, q1, q2, q3, q4, _⟩ := Sl.appR (e := iE) (b := h.nx.nat) s0 o0 g0.nx (hv.grow hc g0) (g0.hc hc) (by simp; omega)
  rw [List.nil_append] at q2
  simp (disch := omega) only [f64_r0, f64_r1, f64_r3, f64_rs, x_isnil, Option.some.injEq, exists_eq_left', Nat.reduceEqDiff, ↓reduceIte, Bool.false_eq_true, fill_0, hnil, fill_0, q1, bz]
  exact ⟨q2, q3, g0.trans q4⟩
theorem f65_ret {h0 : H} (hL : L.length ≤ 1000) (hv : Sl iE h v L) (ho : Own h0.nx.nat v) (hG0 : Grow h0.nx.nat h0 h) (hc : HC h) : Ret fs f65 [v] h fun _ h' => Sl iE h' v L.reverse ∧ Grow h0.nx.nat h0 h' := by
  apply ret_of rfl
  show W fs none f65_c _ _ _
  unfold f65_c
  have b1 : fw .i64 ((L.length : Int) - 1) = (L.length : Int) - 1 := fw64 (by omega) (by omega)
  simp (disch := omega) only [f65_r0, Nat.reduceEqDiff, ↓reduceIte, hv.len, b1, bz]
  refine W_loop (fun i fr h1 => 2 * i ≤ L.length ∧ Grow h0.nx.nat h0 h1 ∧ HC h1 ∧ Sl iE h1 v (rvT L i) ∧ fr.get (K.ofNat 0) = some (v) ∧ fr.get (K.ofNat 2) = some (.i .i64 (i : Int)) ∧ fr.get (K.ofNat 3) = some (.i .i64 ((L.length : Int) - 1 - (i : Int)))) (fun i => L.length - i) ?_ 0 ⟨by omega, hG0, hc, by rw [rvT_0]; exact hv, by simp (disch := omega) only [getK_set, Nat.reduceEqDiff, ↓reduceIte, and_self, Int.natCast_zero, Int.sub_zero]⟩
  rintro i fr h1 ⟨hi, hG, hc1, hs, g0, g2, g3⟩
  unfold f65_l0
  by_cases hlt : 2 * i + 1 < L.length
  · have d1 : decide ((i : Int) < (L.length : Int) - 1 - (i : Int)) = true := decide_eq_true (by omega)
    have ej : (L.length : Int) - 1 - (i : Int) = ((L.length - 1 - i : Nat) : Int) := by omega
    have hl := rvT_len (L := L) (i := i)
    obtain ⟨p, p1, p2, p3⟩ := hs.atb i (by omega)
    obtain ⟨q, q1, q2, q3⟩ := hs.atb (L.length - 1 - i) (by omega)
    rw [rvT_at, if_neg (by omega)] at p2 q2
    have p2 : loadV h1 p one? = .ok (.i .i64 (L.getD i 0)) h1 := p2
    have q2 : loadV h1 q one? = .ok (.i .i64 (L.getD (L.length - 1 - i) 0)) h1 := q2
    obtain ⟨p', id, m, cs', a1, a2, a3, ⟨off, n', sz, a4⟩, a5⟩ := hs.st (i := i) (by omega) (x := L.getD (L.length - 1 - i) 0) (c := .i .i64 (L.getD (L.length - 1 - i) 0)) rfl rfl hc1
    obtain rfl : p = p' := by have := p1 .i64 h1; rw [a1] at this; cases this; rfl
    have gA : Grow h0.nx.nat h0 (h1.put id (.cells m cs')) := hG.trans (Grow.put (ho _ _ _ _ a4) a5 _)
    have hcA := (Grow.put (b := 0) (Nat.zero_le _) a5 (.cells m cs')).hc hc1
    obtain ⟨q', id', m', cs'', b1, b2, b3, ⟨off', n'', sz', b4⟩, b5⟩ := a3.st (i := L.length - 1 - i) (by rw [List.length_set]; omega) (x := L.getD i 0) (c := .i .i64 (L.getD i 0)) rfl rfl hcA
    rw [rvT_set hlt] at b3
    obtain rfl : q = q' := by have := q1 .i64 h1; rw [b1] at this; cases this; rfl
    have gB := gA.trans (Grow.put (ho _ _ _ _ b4) b5 (.cells m' cs''))
    have hcB := (Grow.put (b := 0) (Nat.zero_le _) b5 (.cells m' cs'')).hc hcA
    have bv := hs.beq
    have e1 : fw .i64 ((i : Int) + 1) = ((i + 1 : Nat) : Int) := by rw [fw64 (by omega) (by omega)]; rfl
    have e2 : fw .i64 (((L.length - 1 - i : Nat) : Int) - 1) = (L.length : Int) - 1 - ((i + 1 : Nat) : Int) := by rw [fw64 (by omega) (by omega)]; omega
    rw [ej] at d1 g3
    simp (disch := omega) only [f65_r1, f65_r2, f65_r3, stay_cons, stay_mv, beq_i, Option.some.injEq, Nat.reduceEqDiff, ↓reduceIte, g0, g2, g3, d1, p1, p2, q1, q2, a2, b2, bv, e1, e2, bz]
    exact ⟨i + 1, by omega, by omega, gB, hcB, b3, by simp (disch := omega) only [and_self]⟩
  · have d1 : decide ((i : Int) < (L.length : Int) - 1 - (i : Int)) = false := decide_eq_false (by omega)
    rw [rvT_end (by omega)] at hs
    simp (disch := omega) only [f65_r1, f65_rs, retK_n, Option.some.injEq, exists_eq_left', Nat.reduceEqDiff, ↓reduceIte, Bool.false_eq_true, g2, g3, d1, bz]
    exact ⟨hs, hG⟩
theorem f22_ret (k : CallsH fs) (hA : plB A = true) (hv : Sr iE h v A) (hc : HC h) : Ret fs f22 [v] h fun r h' => TupL h' h.nx.nat r A.reverse (if A.getD 0 0 = 0 then 1 else 0) ∧ Grow h.nx.nat h h' := by
  obtain ⟨l1, l2, _, _⟩ := plB_len hA
  apply ret_of rfl
  show W fs none f22_c _ _ _
  unfold f22_c
  have ca : ckI A = 0 := by unfold ckI; rw [if_pos hA]
  have eA := fun P => f14_eq k.toCSm k.c54 k.c14 hv (by omega) (P := P)
  have d0 : decide ((0 : Int) ≠ 0) = false := rfl
  obtain ⟨p, p1, p2⟩ := hv.at 0 (by omega)
  have p1 : ∀ k (h1 : H), iadsV 1 v (.i k 0) h1 = .ok p h1 := p1
  have p2 : loadV h p one? = .ok (.i .i64 (A.getD 0 0)) h := by rw [getD_lt (by omega)]; exact p2
  by_cases hz : A.getD 0 0 = 0
  · have d1 : decide (A.getD 0 0 = 0) = true := decide_eq_true hz
    rw [if_pos hz]
    simp (disch := omega) only [f22_r0, f22_r1, f22_r2, f22_r4, f22_r5, f22_rs, Option.some.injEq, exists_eq_left', Nat.reduceEqDiff, ↓reduceIte, Bool.false_eq_true, eA, ca, d0, p1, p2, d1, bz]
    exact ⟨⟨.sn, rfl, fun e => absurd e (by omega), fun _ => rfl⟩, Grow.refl _ _⟩
  · have d1 : decide (A.getD 0 0 = 0) = false := decide_eq_false hz
    rw [if_neg hz]
    simp (disch := omega) only [f22_r0, f22_r1, f22_r2, f22_r4, f22_r6, Nat.reduceEqDiff, ↓reduceIte, Bool.false_eq_true, eA, ca, d0, p1, p2, d1, bz]
    refine (callP_0 (ef := f64) k.c64 rfl (f64_ret (L := A) (fun e => by rw [e] at l1; simp at l1) (by omega) hv hc)).mono ?_
    rintro u h1 ⟨su, ou, g1⟩
    simp (disch := omega) only [f22_r7, ↓reduceIte, bz]
    refine (callP_0 (ef := f65) k.c65 rfl (f65_ret (h0 := h) (by omega) su ou g1 (g1.hc hc))).mono ?_
    rintro r h2 ⟨s2, g2⟩
    simp (disch := omega) only [f22_r8, f22_rs, Option.some.injEq, exists_eq_left', Nat.reduceEqDiff, ↓reduceIte, bz]
    exact ⟨⟨u, rfl, fun _ => ⟨s2, ou⟩, fun e => absurd rfl e⟩, g2⟩
def f32_I (h : H) (v : V) (L : List Int) (j : Nat) (fr : Fr) (h1 : H) : Prop := j ≤ L.length ∧ Grow h.nx.nat h h1 ∧ ∃ u, Sl iE h1 u (L.reverse.take j) ∧ Own h.nx.nat u ∧ fr.get (K.ofNat 0) = some (v) ∧ fr.get (K.ofNat 3) = some (u) ∧ fr.get (K.ofNat 4) = some (.i .i64 ((L.length : Int) - 1 - (j : Int)))
theorem f32_ret (hL : L.length ≤ 1000) (hv : Sr iE h v L) (hc : HC h) : Ret fs f32 [v] h fun r h' => Sl iE h' r L.reverse ∧ Grow h.nx.nat h h' := by
  apply ret_of rfl
  show W fs none f32_c _ _ _
  unfold f32_c
  have b1 : fw .i64 ((L.length : Int) - 1) = (L.length : Int) - 1 := fw64 (by omega) (by omega)
  simp (disch := omega) only [f32_r0, f32_r1, f32_r2, Nat.reduceEqDiff, ↓reduceIte, hv.len, b1, bz]
  refine W_loop (f32_I h v L) (fun j => L.length - j) ?_ 0 ⟨by omega, Grow.refl _ _, .sn, Sl.nil, Own.sn, by simp (disch := omega) only [getK_set, Nat.reduceEqDiff, ↓reduceIte, and_self, Int.natCast_zero, Int.sub_zero]⟩
  rintro j fr h1 ⟨hj, hG, u, su, ou, g0, g3, g4⟩
  have hc1 := hG.hc hc
  have hv1 := hv.grow hc hG
  unfold f32_l0
  by_cases hlt : j < L.length
  · have d1 : decide ((L.length : Int) - 1 - (j : Int) ≥ 0) = true := decide_eq_true (by omega)
    have ej : (L.length : Int) - 1 - (j : Int) = ((L.length - 1 - j : Nat) : Int) := by omega
    obtain ⟨p, p1, p2⟩ := hv1.at (L.length - 1 - j) (by omega)
    have hx : L.reverse[j]'(by simpa using hlt) = L[L.length - 1 - j]'(by omega) := by rw [List.getElem_reverse]
    have p2 : loadV h1 p one? = .ok (.i .i64 (L.reverse[j]'(by simpa using hlt))) h1 := by rw [hx]; exact p2
    obtain ⟨u', h3, a1, a2, a3, a4, _⟩ := Sl.push (e := iE) (x := L.reverse[j]'(by simpa using hlt)) (c := .i .i64 (L.reverse[j]'(by simpa using hlt))) rfl su ou hG.nx hc1 (by simp; omega)
    rw [← List.take_succ_eq_append_getElem (by simpa using hlt)] at a2
    have e2 : fw .i64 (((L.length - 1 - j : Nat) : Int) - 1) = (L.length : Int) - 1 - ((j + 1 : Nat) : Int) := by rw [fw64 (by omega) (by omega)]; omega
    rw [ej] at d1 g4
    generalize L.reverse[j]'(by simpa using hlt) = y at *
    simp (disch := omega) only [f32_r3, f32_r4, f32_r5, Nat.reduceEqDiff, ↓reduceIte, g0, g3, g4, d1, p1, p2, a1, e2, bz]
    exact ⟨j + 1, by omega, by omega, hG.trans a4, u', a2, a3, by simp (disch := omega) only [getK_set, Nat.reduceEqDiff, ↓reduceIte, g0, and_self]⟩
  · have d1 : decide ((L.length : Int) - 1 - (j : Int) ≥ 0) = false := decide_eq_false (by omega)
    rw [List.take_of_length_le (by simp; omega)] at su
    simp (disch := omega) only [f32_r3, f32_r6, f32_rs, Option.some.injEq, exists_eq_left', Nat.reduceEqDiff, ↓reduceIte, Bool.false_eq_true, g3, g4, d1, bz]
    exact ⟨su, hG⟩
end
end Go.Ev
namespace Go.Ev
open Go Go.RowKit
noncomputable def f4_r0 : List EOper := [oG 2 (.as (.c (.b false)))]
noncomputable def f4_r1 : List EOper := [oG 15 (.mv (tG 0)), oG 16 (.call (fG 25) [(tG 15)]), oG 3 (.as (tG 16))]
noncomputable def f4_r2 : List EOper := [oG 18 (.mv (tG 3)), oG 19 (.call (fG 15) [(tG 18)]), oG 17 (.mv (tG 19)), oG 20 (.ext (tG 17) 0), oG 21 (.ext (tG 17) 1), oG 4 (.as (tG 20)), oG 5 (.as (tG 21))]
noncomputable def f4_r3 : List EOper := [oG 23 (.mv (tG 3)), oG 24 (.call (fG 16) [(tG 23)]), oG 22 (.mv (tG 24)), oG 25 (.ext (tG 22) 0), oG 26 (.ext (tG 22) 1), oG 6 (.as (tG 25)), oG 7 (.as (tG 26))]
noncomputable def f4_r4 : List EOper := [oG 28 (.mv (tG 3)), oG 29 (.call (fG 17) [(tG 28)]), oG 27 (.mv (tG 29)), oG 30 (.ext (tG 27) 0), oG 31 (.ext (tG 27) 1), oG 8 (.as (tG 30)), oG 9 (.as (tG 31))]
noncomputable def f4_r5 : List EOper := [oG 33 (.mv (tG 3)), oG 34 (.call (fG 18) [(tG 33)]), oG 32 (.mv (tG 34)), oG 35 (.ext (tG 32) 0), oG 36 (.ext (tG 32) 1), oG 10 (.alloc 2 [.sn, .sn]), ⟨none, none, .st 2 (tG 10) (tG 35)⟩, oG 11 (.as (tG 36))]
noncomputable def f4_r6 : List EOper := [oG 38 (.mv (tG 3)), oG 39 (.call (fG 22) [(tG 38)]), oG 37 (.mv (tG 39)), oG 40 (.ext (tG 37) 0), oG 41 (.ext (tG 37) 1), oG 12 (.as (tG 40)), oG 13 (.as (tG 41))]
noncomputable def f4_r7 : List EOper := [oG 42 (.mv (tG 3)), oG 43 (.call (fG 26) [(tG 42)]), oG 14 (.alloc 2 [.sn, .sn]), ⟨none, none, .st 2 (tG 14) (tG 43)⟩]
noncomputable def f4_r8 : List EOper := [oG 44 (.mv (tG 5)), oG 45 (.bin .neq (tG 44) (cG 0)), oG 46 (.mv (tG 45)), gG 47 46 false (.mv (tG 4)), gG 48 46 false (.mv (tG 3)), gG 49 46 false (.call (fG 27) [(tG 48)]), gG 50 46 false (.eqk (.one none) true (tG 47) (tG 49)), oG 51 (.pick (tG 46) (.c (.b true)) (tG 50)), oG 52 (.mv (tG 51)), gG 53 52 false (.mv (tG 7)), gG 54 52 false (.bin .neq (tG 53) (cG 0)), oG 55 (.pick (tG 52) (.c (.b true)) (tG 54)), oG 56 (.mv (tG 55)), gG 57 56 false (.mv (tG 6)), gG 58 56 false (.mv (tG 3)), gG 59 56 false (.call (fG 28) [(tG 58)]), gG 60 56 false (.eqk (.one none) true (tG 57) (tG 59)), oG 61 (.pick (tG 56) (.c (.b true)) (tG 60)), oG 62 (.mv (tG 61)), gG 63 62 false (.mv (tG 9)), gG 64 62 false (.bin .neq (tG 63) (cG 0)), oG 65 (.pick (tG 62) (.c (.b true)) (tG 64)), oG 66 (.mv (tG 65)), gG 67 66 false (.mv (tG 8)), gG 68 66 false (.mv (tG 3)), gG 69 66 false (.call (fG 30) [(tG 68)]), gG 70 66 false (.call (fG 29) [(tG 67), (tG 69)]), gG 71 66 false (.not (tG 70)), oG 72 (.pick (tG 66) (.c (.b true)) (tG 71)), oG 73 (.mv (tG 72)), gG 74 73 false (.mv (tG 11)), gG 75 73 false (.bin .neq (tG 74) (cG 0)), oG 76 (.pick (tG 73) (.c (.b true)) (tG 75)), oG 77 (.mv (tG 76)), gG 78 77 false (.iadr 2 1 (tG 10) (cG 0)), gG 79 77 false (.ld (tG 78)), gG 80 77 false (.iadr 2 1 (tG 14) (cG 0)), gG 81 77 false (.ld (tG 80)), gG 82 77 false (.call (fG 31) [(tG 79), (tG 81)]), gG 83 77 false (.not (tG 82)), oG 84 (.pick (tG 77) (.c (.b true)) (tG 83)), oG 85 (.mv (tG 84)), gG 86 85 false (.iadr 2 1 (tG 10) (cG 1)), gG 87 85 false (.ld (tG 86)), gG 88 85 false (.iadr 2 1 (tG 14) (cG 1)), gG 89 85 false (.ld (tG 88)), gG 90 85 false (.call (fG 31) [(tG 87), (tG 89)]), gG 91 85 false (.not (tG 90)), oG 92 (.pick (tG 85) (.c (.b true)) (tG 91))]
noncomputable def f4_r9 : List EOper := [oG 2 (.as (.c (.b false)))]
noncomputable def f4_r10 : List EOper := [oG 93 (.mv (tG 3)), oG 94 (.iads 1 (tG 93) (cG 0)), oG 95 (.ld (tG 94)), oG 96 (.bin .eql (tG 95) (cG 0))]
noncomputable def f4_r11 : List EOper := [oG 97 (.mv (tG 13)), oG 98 (.bin .eql (tG 97) (cG 1)), oG 99 (.mv (tG 98)), gG 100 99 true (.mv (tG 12)), gG 101 99 true (.len (tG 100)), gG 102 99 true (.bin .eql (tG 101) (cG 0)), oG 103 (.pick (tG 99) (tG 102) (.c (.b false))), oG 104 (.mv (tG 103)), gG 105 104 true (.call (fG 19) []), oG 106 (.pick (tG 104) (tG 105) (.c (.b false))), oG 2 (.as (tG 106))]
noncomputable def f4_r12 : List EOper := [oG 107 (.mv (tG 13)), oG 108 (.bin .eql (tG 107) (cG 0)), oG 109 (.mv (tG 108)), gG 110 109 true (.mv (tG 12)), gG 111 109 true (.mv (tG 3)), gG 112 109 true (.call (fG 32) [(tG 111)]), gG 113 109 true (.call (fG 31) [(tG 110), (tG 112)]), oG 114 (.pick (tG 109) (tG 113) (.c (.b false))), oG 115 (.mv (tG 114)), gG 116 115 true (.call (fG 19) []), oG 117 (.pick (tG 115) (tG 116) (.c (.b false))), oG 2 (.as (tG 117))]
noncomputable def f4_c : EC := (.seq (.reg f4_r0) (.seq (.reg f4_r1) (.seq (.reg f4_r2) (.seq (.reg f4_r3) (.seq (.reg f4_r4) (.seq (.reg f4_r5) (.seq (.reg f4_r6) (.seq (.reg f4_r7) (.seq (.seq (.reg f4_r8) (.cond (tG 92) (.seq (.reg f4_r9) .ret) .skip)) (.seq (.seq (.reg f4_r10) (.cond (tG 96) (.seq (.reg f4_r11) .ret) .skip)) (.seq (.reg f4_r12) .ret)))))))))))
noncomputable def f4 : EF := ⟨118, [.tmp (.ofNat 2)], f4_c, none⟩
theorem f4_rs : f4.rs = [.tmp (.ofNat 2)] := of_eq_true (eq_self _)
section
variable {fs : T EF} {h : H} {v w : V} {A B L : List Int}
structure CallsTe (fs : T EF) : Prop extends CallsH fs where
  c25 : fs.get (K.ofNat 25) = some f25
  c15 : fs.get (K.ofNat 15) = some f15
  c16 : fs.get (K.ofNat 16) = some f16
  c17 : fs.get (K.ofNat 17) = some f17
  c18 : fs.get (K.ofNat 18) = some f18
  c22 : fs.get (K.ofNat 22) = some f22
  c26 : fs.get (K.ofNat 26) = some f26
  c28 : fs.get (K.ofNat 28) = some f28
  c29 : fs.get (K.ofNat 29) = some f29
  c31 : fs.get (K.ofNat 31) = some f31
  c32 : fs.get (K.ofNat 32) = some f32
  aw : ∀ (h : H) (P : V → H → Prop), CallP fs (.fn (K.ofNat 19) []) [] h P = P (.b true) h
theorem keq_b {x : Bool} : keyEq (.one none) (.b x) (.b x) = some true := by cases x <;> rfl
theorem box2 {h : H} {x0 x1 : V} (c0 : cellsN 1 x0 = some [x0]) (c1 : cellsN 1 x1 = some [x1]) : storeV (h.new (.cells 2 [.sn, .sn])) 2 (.p h.nx 0) (.agg [x0, x1]) = .ok undefV ((h.new (.cells 2 [.sn, .sn])).put h.nx (.cells 2 [x0, x1])) ∧ Grow h.nx.nat h ((h.new (.cells 2 [.sn, .sn])).put h.nx (.cells 2 [x0, x1])) ∧ ((h.new (.cells 2 [.sn, .sn])).put h.nx (.cells 2 [x0, x1])).get h.nx = .cells 2 [x0, x1] ∧ ((h.new (.cells 2 [.sn, .sn])).put h.nx (.cells 2 [x0, x1])).nx.nat = h.nx.nat + 1 := by
  have n1 := nx_new h (.cells 2 [.sn, .sn])
  have _ := c0
  have _ := c1
  refine ⟨?_, (Grow.new (Nat.le_refl _) _).trans (Grow.put (Nat.le_refl _) (by omega) _), get_put_same, by rw [nx_put]; exact n1⟩
  rw [store_p (m := 2) (cs := [.sn, .sn]) (xs := [x0, x1]) get_new_same rfl (by omega)]; rfl
theorem f4_ret (k : CallsTe fs) (hv : Sr iE h v L) (_ : L.length ≤ 9223372036854775807) (hc : HC h) : Ret fs f4 [v] h fun u h' => u = .b true ∧ Grow h.nx.nat h h' := by
  apply ret_of rfl
  show W fs none f4_c _ _ _
  unfold f4_c
  simp (disch := omega) only [f4_r0, f4_r1, Nat.reduceEqDiff, ↓reduceIte, bz]
  refine (callP_0 (ef := f25) k.c25 rfl (f25_ret hv hc)).mono ?_
  rintro a h1 ⟨A, sA, oA, pA, gA⟩
  obtain ⟨l1, l2, l3, _⟩ := plB_len pA
  have hc1 := gA.hc hc
  have sa1 := sA.sr
  clear hv oA sA
  simp (disch := omega) only [f4_r2, ↓reduceIte, bz]
  refine (callP_0 (ef := f15) k.c15 rfl (f15_ret k.toCallsS pA sa1 hc1)).mono ?_
  rintro r h2 ⟨rfl, g2⟩
  have sa2 := sa1.grow hc1 g2
  have hc2 := g2.hc hc1
  have G2 := gA.trans (g2.low gA.nx)
  simp (disch := omega) only [f4_r3, Nat.reduceEqDiff, ↓reduceIte, bz]
  refine (callP_0 (ef := f16) k.c16 rfl (f16_ret k.toCallsS pA sa2 hc2)).mono ?_
  rintro r h3 ⟨rfl, g3⟩
  have sa3 := sa2.grow hc2 g3
  have hc3 := g3.hc hc2
  have G3 := G2.trans (g3.low G2.nx)
  simp (disch := omega) only [f4_r4, Nat.reduceEqDiff, ↓reduceIte, bz]
  refine (callP_0 (ef := f17) k.c17 rfl (f17_ret k.toCallsS pA sa3 hc3)).mono ?_
  rintro r h4 ⟨m, rfl, sm4, g4⟩
  have sa4 := sa3.grow hc3 g4
  have hc4 := g4.hc hc3
  have G4 := G3.trans (g4.low G3.nx)
  simp (disch := omega) only [f4_r5, Nat.reduceEqDiff, ↓reduceIte, bz]
  refine (callP_0 (ef := f18) k.c18 rfl (f18_ret k.toCallsH pA sa4 hc4)).mono ?_
  rintro r h5 ⟨x0, x1, rfl, s05, s15, g5⟩
  have sa5 := sa4.grow hc4 g5
  have sm5 := sm4.sr.grow hc4 g5
  have hc5 := g5.hc hc4
  have G5 := G4.trans (g5.low G4.nx)
  obtain ⟨b1, b2, b3, b4⟩ := box2 (h := h5) s05.one s15.one
  simp (disch := omega) only [f4_r6, Nat.reduceEqDiff, ↓reduceIte, b1, bz]
  generalize hid : h5.nx = id at *
  generalize (h5.new (.cells 2 [.sn, .sn])).put id (.cells 2 [x0, x1]) = h6 at *
  have sa6 := sa5.grow hc5 (by rw [hid]; exact b2)
  have sm6 := sm5.grow hc5 (by rw [hid]; exact b2)
  have s06 := s05.grow hc5 (by rw [hid]; exact b2)
  have s16 := s15.grow hc5 (by rw [hid]; exact b2)
  have hc6 := b2.hc hc5
  have G6 := G5.trans (b2.low (by rw [← hid]; exact G5.nx))
  refine (callP_0 (ef := f22) k.c22 rfl (f22_ret k.toCallsH pA sa6 hc6)).mono ?_
  rintro r h7 ⟨⟨t, rfl, t0, t1⟩, g7⟩
  have sa7 := sa6.grow hc6 g7
  have sm7 := sm6.grow hc6 g7
  have s07 := s06.grow hc6 g7
  have s17 := s16.grow hc6 g7
  have e7 : h7.get id = .cells 2 [x0, x1] := (g7.old _ (by omega)).trans b3
  have hc7 := g7.hc hc6
  have G7 := G6.trans (g7.low G6.nx)
  simp (disch := omega) only [f4_r7, Nat.reduceEqDiff, ↓reduceIte, bz]
  refine (callP_0 (ef := f26) k.c26 rfl (f26_ret k.c68 (by omega) sa7 hc7)).mono ?_
  rintro r h8 ⟨y0, y1, rfl, z08, z18, _, _, g8⟩
  have sa8 := sa7.grow hc7 g8
  have sm8 := sm7.grow hc7 g8
  have s08 := s07.grow hc7 g8
  have s18 := s17.grow hc7 g8
  have e8 : h8.get id = .cells 2 [x0, x1] := (g8.old _ (by have := g7.nx; omega)).trans e7
  have hc8 := g8.hc hc7
  have G8 := G7.trans (g8.low G7.nx)
  have t8 : A.getD 0 0 ≠ 0 → Sr iE h8 t A.reverse := fun e => (t0 (by rw [if_neg e])).1.sr.grow hc7 g8
  have nn : h6.nx.nat ≤ h8.nx.nat := Nat.le_trans g7.nx g8.nx
  obtain ⟨d1, d2, d3, d4⟩ := box2 (h := h8) z08.one z18.one
  simp (disch := omega) only [Nat.reduceEqDiff, ↓reduceIte, d1, bz]
  generalize hfr : T.set (K.ofNat 14) _ _ = fr
  have g3 : fr.get (K.ofNat 3) = some (a) := by rw [← hfr]; simp only [getK_set, Nat.reduceEqDiff, ↓reduceIte]
  have g4 : fr.get (K.ofNat 4) = some (.b (stB A)) := by rw [← hfr]; simp only [getK_set, Nat.reduceEqDiff, ↓reduceIte]
  have g5 : fr.get (K.ofNat 5) = some (.i .i64 0) := by rw [← hfr]; simp only [getK_set, Nat.reduceEqDiff, ↓reduceIte]
  have g6 : fr.get (K.ofNat 6) = some (.b (dsOk A && stB (dsc A))) := by rw [← hfr]; simp only [getK_set, Nat.reduceEqDiff, ↓reduceIte]
  have g7 : fr.get (K.ofNat 7) = some (.i .i64 0) := by rw [← hfr]; simp only [getK_set, Nat.reduceEqDiff, ↓reduceIte]
  have g8 : fr.get (K.ofNat 8) = some (m) := by rw [← hfr]; simp only [getK_set, Nat.reduceEqDiff, ↓reduceIte]
  have g9 : fr.get (K.ofNat 9) = some (.i .i64 0) := by rw [← hfr]; simp only [getK_set, Nat.reduceEqDiff, ↓reduceIte]
  have g10 : fr.get (K.ofNat 10) = some (.p id 0) := by rw [← hfr]; simp only [getK_set, Nat.reduceEqDiff, ↓reduceIte]
  have g11 : fr.get (K.ofNat 11) = some (.i .i64 0) := by rw [← hfr]; simp only [getK_set, Nat.reduceEqDiff, ↓reduceIte]
  have g12 : fr.get (K.ofNat 12) = some (t) := by rw [← hfr]; simp only [getK_set, Nat.reduceEqDiff, ↓reduceIte]
  have g13 : fr.get (K.ofNat 13) = some (.i .i64 (if A.getD 0 0 = 0 then 1 else 0)) := by rw [← hfr]; simp only [getK_set, Nat.reduceEqDiff, ↓reduceIte]
  have g14 : fr.get (K.ofNat 14) = some (.p h8.nx 0) := by rw [← hfr]; simp only [getK_set, ↓reduceIte]
  clear hfr
  generalize hjd : h8.nx = jd at *
  generalize (h8.new (.cells 2 [.sn, .sn])).put jd (.cells 2 [y0, y1]) = h9 at *
  have gg9 : Grow h8.nx.nat h8 h9 := by rw [hjd]; exact d2
  have hh9 := gg9.nx
  have hjn : h8.nx.nat = jd.nat := by rw [hjd]
  have hin : h5.nx.nat = id.nat := by rw [hid]
  have sa9 := sa8.grow hc8 gg9
  have sm9 := sm8.grow hc8 gg9
  have s09 := s08.grow hc8 gg9
  have s19 := s18.grow hc8 gg9
  have z09 := z08.grow hc8 gg9
  have z19 := z18.grow hc8 gg9
  have e9 : h9.get id = .cells 2 [x0, x1] := (gg9.old _ (by omega)).trans e8
  have hc9 := gg9.hc hc8
  have G9 := G8.trans (gg9.low G8.nx)
  have t9 : A.getD 0 0 ≠ 0 → Sr iE h9 t A.reverse := fun e => (t8 e).grow hc8 gg9
  have q0 : decide ((0 : Int) ≠ 0) = false := rfl
  simp (maxSteps := 5000000) (disch := omega) only [f4_r8, Nat.reduceEqDiff, ↓reduceIte, Bool.not_false, g3, g4, g5, q0, bz]
  refine (callP_0 (ef := f27) k.c27 rfl (f27_ret k.toCallsS l1 (by omega) sa9 hc9)).mono ?_
  rintro r h10 ⟨rfl, k10⟩
  have sa10 := sa9.grow hc9 k10
  have hc10 := k10.hc hc9
  simp (maxSteps := 5000000) (disch := omega) only [x_eqk, Nat.reduceEqDiff, ↓reduceIte, Bool.false_eq_true, Bool.not_true, Bool.not_false, g3, g6, g7, q0, keq_b, cond_true, bz]
  refine (callP_0 (ef := f28) k.c28 rfl (f28_ret k.toCallsS l1 (by omega) sa10 hc10)).mono ?_
  rintro r h11 ⟨rfl, k11⟩
  have sa11 := sa10.grow hc10 k11
  have hc11 := k11.hc hc10
  simp (maxSteps := 5000000) (disch := omega) only [x_eqk, Nat.reduceEqDiff, ↓reduceIte, Bool.false_eq_true, Bool.not_true, Bool.not_false, g3, g8, g9, q0, keq_b, cond_true, bz]
  refine (callP_0 (ef := f30) k.c30 rfl (f30_ret k.toCallsR l1 (by omega) sa11 hc11)).mono ?_
  rintro m' h12 ⟨sm', om', k12⟩
  have hc12 := k12.hc hc11
  have ga : Grow h9.nx.nat h9 h12 := (k10.trans (k11.low k10.nx)).trans (k12.low (Nat.le_trans k10.nx k11.nx))
  have sa12 := sa9.grow hc9 ga
  have sm12 := sm9.grow hc9 ga
  have s012 := s09.grow hc9 ga
  have s112 := s19.grow hc9 ga
  have z012 := z09.grow hc9 ga
  have z112 := z19.grow hc9 ga
  have e12 : h12.get id = .cells 2 [x0, x1] := (ga.old _ (by omega)).trans e9
  have f12 : h12.get jd = .cells 2 [y0, y1] := (ga.old _ (by omega)).trans d3
  have G12 := G9.trans (ga.low G9.nx)
  have t12 : A.getD 0 0 ≠ 0 → Sr iE h12 t A.reverse := fun e => (t9 e).grow hc9 ga
  have hml := minL_len (A := A)
  have k29 : fs.get (K.ofNat 29) = some f31 := by rw [k.c29, f29_same]
  have e29 := fun P => callP_eq2 (P := P) (callP_0 (args := [m, m']) k29 rfl (f31_ret sm12 sm'.sr (by omega)))
  rw [decide_eq_true rfl] at e29
  have le0 := trN_le (L := evL A A.length) (k := (evL A A.length).length)
  have le1 := trN_le (L := odL A A.length) (k := (odL A A.length).length)
  have ll0 := evL_le (A := A) (j := A.length)
  have ll1 := odL_le (A := A) (j := A.length)
  have e31a := fun P => f31_eq (P := P) k.c31 s012 z012 (by unfold trm; simp; omega)
  rw [decide_eq_true rfl] at e31a
  have e31b := fun P => f31_eq (P := P) k.c31 s112 z112 (by unfold trm; simp; omega)
  rw [decide_eq_true rfl] at e31b
  have w0 : loadV h12 (.p id (0 + 0 * 1)) one? = .ok x0 h12 := load_p e12 rfl
  have w1 : loadV h12 (.p id (0 + 1 * 1)) one? = .ok x1 h12 := load_p e12 rfl
  have w2 : loadV h12 (.p jd (0 + 0 * 1)) one? = .ok y0 h12 := load_p f12 rfl
  have w3 : loadV h12 (.p jd (0 + 1 * 1)) one? = .ok y1 h12 := load_p f12 rfl
  obtain ⟨p, p1, p2⟩ := sa12.at 0 (by omega)
  have p1 : ∀ k (h1 : H), iadsV 1 a (.i k 0) h1 = .ok p h1 := p1
  have p2 : loadV h12 p one? = .ok (.i .i64 (A.getD 0 0)) h12 := by rw [getD_lt (by omega)]; exact p2
  by_cases hz : A.getD 0 0 = 0
  · have q1 : decide (A.getD 0 0 = 0) = true := decide_eq_true hz
    rw [if_pos hz] at t1 g13
    obtain rfl := t1 (by omega)
    have q2 : decide ((1 : Int) = 1) = true := rfl
    have q3 : decide ((0 : Int) = 0) = true := rfl
    simp (maxSteps := 5000000) (disch := omega) only [f4_r10, f4_r11, f4_rs, len_sn, Option.some.injEq, exists_eq_left', Nat.reduceEqDiff, ↓reduceIte, Bool.false_eq_true, decide_eq_true_eq, Bool.not_true, Bool.not_false, g3, g10, g11, g12, g13, g14, e29, e31a, e31b, w0, w1, w2, w3, p1, p2, q0, q1, k.aw, bz]
    exact G12
  · have q1 : decide (A.getD 0 0 = 0) = false := decide_eq_false hz
    rw [if_neg hz] at t1 g13
    have st := t12 hz
    have q3 : decide ((0 : Int) = 0) = true := rfl
    simp (maxSteps := 5000000) (disch := omega) only [f4_r10, f4_r12, Nat.reduceEqDiff, ↓reduceIte, Bool.false_eq_true, decide_eq_true_eq, Bool.not_true, Bool.not_false, g3, g10, g11, g12, g13, g14, e29, e31a, e31b, w0, w1, w2, w3, p1, p2, q0, q1, bz]
    refine (callP_0 (ef := f32) k.c32 rfl (f32_ret (by omega) sa12 hc12)).mono ?_
    rintro y h13 ⟨sy, gy⟩
    have e31c := fun P => f31_eq (P := P) k.c31 (st.grow hc12 gy) sy.sr (by simp; omega)
    rw [decide_eq_true rfl] at e31c
    simp (maxSteps := 5000000) (disch := omega) only [f4_rs, Option.some.injEq, exists_eq_left', Nat.reduceEqDiff, ↓reduceIte, decide_eq_true_eq, e31c, k.aw, bz]
    exact G12.trans (gy.low G12.nx)
end
end Go.Ev
