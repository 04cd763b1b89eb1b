/-
  Orders: arrows sorted in place: at most 21 arrows (unbalanced parts are stirred)., and what follows.
-/
import Derived.Test.YtdmnejhjlmeodaaGreatPe
import Derived.Test.YtdmnejhjlmeodaaGreatPi
import Derived.Test.YtdmnejhjlmeodaaGreatPg
import Derived.Test.YtdmnejhjlmeodaaGreatPh
namespace Go.Ev
open Go Go.RowKit
noncomputable def f113_r0:List EOper := [oG 2 (.as (.c (.i .u64 (.ofNat 0))))]
noncomputable def f113_r1:List EOper := [oG 3 (.mv (tG 0)),oG 4 (.conv .u64 (tG 3)),oG 5 (.call (fG 95) [(tG 4)]),oG 6 (.bin .shl (.c (.i .u64 (.ofNat 1))) (tG 5)),oG 2 (.as (tG 6))]
noncomputable def f113_c:EC:=(.seq (.reg f113_r0) (.seq (.reg f113_r1) .ret))
noncomputable def f113:EF:=⟨7, [.tmp (.ofNat 2)],f113_c,none⟩
theorem f113_rs:f113.rs = [.tmp (.ofNat 2)]:=of_eq_true (eq_self _)
noncomputable def f114_r0:List EOper := [oG 2 (.as (.c (.i .u64 (.ofNat 0))))]
noncomputable def f114_r1:List Stage := [⟨[oG 3 (.mv (tG 0)),oG 4 (.nilck (tG 3)),oG 5 (.ld (tG 4)),oG 6 (.mv (tG 0)),oG 7 (.nilck (tG 6)),oG 8 (.ld (tG 7)),oG 9 (.bin .shl (tG 8) (.c (.i .u64 (.ofNat 13)))),oG 10 (.bin .xor (tG 5) (tG 9)),oG 11 (.nilck (tG 3))], [],(some ⟨none,none, .st 1 (tG 11) (tG 10)⟩), []⟩,⟨[], [],none, []⟩]
noncomputable def f114_r2:List Stage := [⟨[oG 12 (.mv (tG 0)),oG 13 (.nilck (tG 12)),oG 14 (.ld (tG 13)),oG 15 (.mv (tG 0)),oG 16 (.nilck (tG 15)),oG 17 (.ld (tG 16)),oG 18 (.bin .shr (tG 17) (.c (.i .u64 (.ofNat 7)))),oG 19 (.bin .xor (tG 14) (tG 18)),oG 20 (.nilck (tG 12))], [],(some ⟨none,none, .st 1 (tG 20) (tG 19)⟩), []⟩,⟨[], [],none, []⟩]
noncomputable def f114_r3:List Stage := [⟨[oG 21 (.mv (tG 0)),oG 22 (.nilck (tG 21)),oG 23 (.ld (tG 22)),oG 24 (.mv (tG 0)),oG 25 (.nilck (tG 24)),oG 26 (.ld (tG 25)),oG 27 (.bin .shl (tG 26) (.c (.i .u64 (.ofNat 17)))),oG 28 (.bin .xor (tG 23) (tG 27)),oG 29 (.nilck (tG 21))], [],(some ⟨none,none, .st 1 (tG 29) (tG 28)⟩), []⟩,⟨[], [],none, []⟩]
noncomputable def f114_r4:List EOper := [oG 30 (.mv (tG 0)),oG 31 (.nilck (tG 30)),oG 32 (.ld (tG 31)),oG 2 (.as (tG 32))]
noncomputable def f114_c:EC:=(.seq (.reg f114_r0) (.seq (.draw f114_r1) (.seq (.draw f114_r2) (.seq (.draw f114_r3) (.seq (.reg f114_r4) .ret)))))
noncomputable def f114:EF:=⟨33, [.tmp (.ofNat 2)],f114_c,none⟩
theorem f114_rs:f114.rs = [.tmp (.ofNat 2)]:=of_eq_true (eq_self _)
noncomputable def f102_r0:List EOper := [oG 13 (.mv (tG 2)),oG 14 (.mv (tG 1)),oG 15 (.bin .sub (tG 13) (tG 14)),oG 8 (.as (tG 15))]
noncomputable def f102_r1:List EOper := [oG 16 (.mv (tG 8)),oG 17 (.bin .geq (tG 16) (cG 8))]
noncomputable def f102_r2:List EOper := [oG 18 (.mv (tG 8)),oG 19 (.conv .u64 (tG 18)),oG 9 (.alloc 1 [(.i .u64 (.ofNat 0))]),⟨none,none, .st 1 (tG 9) (tG 19)⟩]
noncomputable def f102_r3:List EOper := [oG 20 (.mv (tG 8)),oG 21 (.call (fG 113) [(tG 20)]),oG 10 (.as (tG 21))]
noncomputable def f102_r4:List EOper := [oG 22 (.mv (tG 1)),oG 23 (.mv (tG 8)),oG 24 (.bin .quo (tG 23) (cG 4)),oG 25 (.bin .mul (tG 24) (cG 2)),oG 26 (.bin .add (tG 22) (tG 25)),oG 27 (.bin .sub (tG 26) (cG 1)),oG 11 (.as (tG 27))]
noncomputable def f102_r5:List EOper := [oG 28 (.mv (tG 11)),oG 29 (.mv (tG 1)),oG 30 (.mv (tG 8)),oG 31 (.bin .quo (tG 30) (cG 4)),oG 32 (.bin .mul (tG 31) (cG 2)),oG 33 (.bin .add (tG 29) (tG 32)),oG 34 (.bin .add (tG 33) (cG 1)),oG 35 (.bin .leq (tG 28) (tG 34))]
noncomputable def f102_r6:List EOper := [oG 38 (.call (fG 114) [(tG 9)]),oG 39 (.mv (tG 10)),oG 40 (.bin .sub (tG 39) (.c (.i .u64 (.ofNat 1)))),oG 41 (.bin .and (tG 38) (tG 40)),oG 42 (.conv .i64 (tG 41)),oG 12 (.as (tG 42))]
noncomputable def f102_r7:List EOper := [oG 43 (.mv (tG 12)),oG 44 (.mv (tG 8)),oG 45 (.bin .geq (tG 43) (tG 44))]
noncomputable def f102_r8:List EOper := [oG 46 (.mv (tG 12)),oG 47 (.mv (tG 8)),oG 48 (.bin .sub (tG 46) (tG 47)),oG 12 (.as (tG 48))]
noncomputable def f102_r9:List Stage := [⟨[oG 49 (.mv (tG 0)),oG 50 (.mv (tG 11)),oG 51 (.mv (tG 0)),oG 52 (.mv (tG 1)),oG 53 (.mv (tG 12)),oG 54 (.bin .add (tG 52) (tG 53)),oG 55 (.mv (tG 0)),oG 56 (.mv (tG 1)),oG 57 (.mv (tG 12)),oG 58 (.bin .add (tG 56) (tG 57)),oG 59 (.iads 2 (tG 55) (tG 58)),oG 60 (.ldn 2 (tG 59)),oG 61 (.mv (tG 0)),oG 62 (.mv (tG 11)),oG 63 (.iads 2 (tG 61) (tG 62)),oG 64 (.ldn 2 (tG 63)),oG 65 (.iads 2 (tG 49) (tG 50))], [],(some ⟨none,none, .st 2 (tG 65) (tG 60)⟩), []⟩,⟨[oG 66 (.iads 2 (tG 51) (tG 54))], [oG 51 (.mv (tG 0)),oG 52 (.mv (tG 1)),oG 53 (.mv (tG 12)),oG 54 (.bin .add (tG 52) (tG 53))],(some ⟨none,none, .st 2 (tG 66) (tG 64)⟩), []⟩,⟨[], [],none, []⟩]
noncomputable def f102_r10:List EOper := [oG 36 (.mv (tG 11)),oG 37 (.bin .add (tG 36) (cG 1)),oG 11 (.as (tG 37))]
noncomputable def f102_l0:EC:=(.seq (.seq (.reg f102_r5) (.cond (tG 35) .skip (.exit 0))) (.seq (.block 1 (.seq (.reg f102_r6) (.seq (.seq (.reg f102_r7) (.cond (tG 45) (.reg f102_r8) .skip)) (.draw f102_r9)))) (.reg f102_r10)))
noncomputable def f102_c:EC:=(.seq (.reg f102_r0) (.seq (.reg f102_r1) (.cond (tG 17) (.seq (.reg f102_r2) (.seq (.reg f102_r3) (.seq (.reg f102_r4) (.block 0 (.loop f102_l0))))) .skip)))
noncomputable def f102:EF:=⟨67, [],f102_c,none⟩
theorem f102_rs:f102.rs = []:=of_eq_true (eq_self _)
structure CallsTr (fs:T EF):Prop extends CallsTq fs where
  c102:fs.get (K.ofNat 102)=some f102
  c113:fs.get (K.ofNat 113)=some f113
  c114:fs.get (K.ofNat 114)=some f114
section
variable {fs:T EF} {h:H} {v:V} {Z W1 W2:List (Int × Int)} {idb:K} {a b a' b':Nat} {fr:Fr} {h1 h2:H}
theorem u64_fw (z:Nat):∃ m:Nat,fw .u64 (z:Int)=(m:Int)∧m ≤ kmax .u64:=by
  by_cases hz:z ≤ kmax .u64
  · exact ⟨z,by show (bif Nat.ble z (kmax .u64) then Int.ofNat z else _)=_; rw [Nat.ble_eq_true_of_le hz]; rfl,hz⟩
  · refine ⟨z % 2 ^ 64,?_,?_⟩
    · have : Nat.ble z (kmax .u64) = false := by
        cases e:Nat.ble z (kmax .u64) with
        | true=>exact absurd (Nat.le_of_ble_eq_true e) hz
        | false=>rfl
      show (bif Nat.ble z (kmax .u64) then Int.ofNat z else _)=_
      rw [this]
      rfl
    · have:z % 2 ^ 64 < 2 ^ 64:=Nat.mod_lt _ (by decide)
      show _ ≤ 18446744073709551615
      omega
theorem u64_xor {m n:Nat} (hm:m ≤ kmax .u64) (hn:n ≤ kmax .u64):m ^^^ n ≤ kmax .u64:=by
  have hm:m < 2 ^ 64:=by have hm:m ≤ 18446744073709551615:=hm; omega
  have hn:n < 2 ^ 64:=by have hn:n ≤ 18446744073709551615:=hn; omega
  have:=Nat.xor_lt_two_pow hm hn
  show _ ≤ 18446744073709551615
  omega
theorem st1u {ids:K} {x y:V} (hi:h.get ids = .cells 1 [x]) (hy:cellsN 1 y=some [y]):storeV h 1 (.p ids 0) y = .ok undefV (h.put ids (.cells 1 [y])):=by
  have:=store_p (n:=1) (off:=0) hi hy (by omega)
  exact this
theorem f114_ret {x:Nat} {ids:K} (hx:x ≤ kmax .u64) (hi:h.get ids = .cells 1 [.i .u64 (x:Int)]) (hc:HC h):Ret fs f114 [.p ids 0] h fun r h'=>∃ y:Nat,r = .i .u64 (y:Int)∧y ≤ kmax .u64∧h'.get ids = .cells 1 [.i .u64 (y:Int)]∧Grow ids.nat h h':=by
  have hlt:=hc.cells hi
  apply ret_of rfl
  show W fs none f114_c _ _ _
  unfold f114_c
  obtain ⟨m1,e1,b1⟩:=u64_fw (x * 2 ^ 13)
  have q1:binV .shl (.i .u64 (x:Int)) (.i .u64 13)=some (.i .u64 (m1:Int)):=by rw [bin_shl (by decide),← e1]; rfl
  have y1b:=u64_xor hx b1
  have l0:=load_p (off:=0) hi (show nth [V.i .u64 (x:Int)] 0=some _ from rfl)
  have s1:storeV h 1 (.p ids 0) (.i .u64 ((x ^^^ m1:Nat):Int)) = .ok undefV (h.put ids (.cells 1 [.i .u64 ((x ^^^ m1:Nat):Int)])):=st1u hi rfl
  have x1:=bin_xor hx b1
  have i1:(h.put ids (.cells 1 [.i .u64 ((x ^^^ m1:Nat):Int)])).get ids = .cells 1 [.i .u64 ((x ^^^ m1:Nat):Int)]:=get_put_same
  have g1:Grow ids.nat h (h.put ids (.cells 1 [.i .u64 ((x ^^^ m1:Nat):Int)])):=Grow.put (Nat.le_refl _) hlt _
  simp (disch:=omega) only [f114_r0,f114_r1,xg_nilck,Nat.reduceEqDiff,↓reduceIte,nn_p,of13,l0,q1,x1,s1,bz]
  generalize h.put ids (.cells 1 [.i .u64 ((x ^^^ m1:Nat):Int)])=h2 at *
  generalize x ^^^ m1=y1 at *
  have hlt2:ids.nat < h2.nx.nat:=by have:=g1.nx; omega
  have q2:binV .shr (.i .u64 (y1:Int)) (.i .u64 7)=some (.i .u64 ((y1 / 2 ^ 7:Nat):Int)):=bin_shr (n:=7)
  have b2:y1 / 2 ^ 7 ≤ kmax .u64:=Nat.le_trans (Nat.div_le_self _ _) y1b
  have y2b:=u64_xor y1b b2
  have x2:=bin_xor y1b b2
  have l1:=load_p (off:=0) i1 (show nth [V.i .u64 (y1:Int)] 0=some _ from rfl)
  have s2:storeV h2 1 (.p ids 0) (.i .u64 ((y1 ^^^ (y1 / 2 ^ 7):Nat):Int)) = .ok undefV (h2.put ids (.cells 1 [.i .u64 ((y1 ^^^ (y1 / 2 ^ 7):Nat):Int)])):=st1u i1 rfl
  have i2:(h2.put ids (.cells 1 [.i .u64 ((y1 ^^^ (y1 / 2 ^ 7):Nat):Int)])).get ids = .cells 1 [.i .u64 ((y1 ^^^ (y1 / 2 ^ 7):Nat):Int)]:=get_put_same
  have g2:Grow ids.nat h2 (h2.put ids (.cells 1 [.i .u64 ((y1 ^^^ (y1 / 2 ^ 7):Nat):Int)])):=Grow.put (Nat.le_refl _) hlt2 _
  generalize hy2:y1 / 2 ^ 7=z2 at *
  simp (disch:=omega) only [f114_r2,xg_nilck,Nat.reduceEqDiff,↓reduceIte,nn_p,l1,q2,x2,s2,bz]
  generalize h2.put ids (.cells 1 [.i .u64 ((y1 ^^^ z2:Nat):Int)])=h3 at *
  generalize y1 ^^^ z2=y2 at *
  have hlt3:ids.nat < h3.nx.nat:=by have:=g2.nx; omega
  obtain ⟨m3,e3,b3⟩:=u64_fw (y2 * 2 ^ 17)
  have q3:binV .shl (.i .u64 (y2:Int)) (.i .u64 17)=some (.i .u64 (m3:Int)):=by rw [bin_shl (by decide),← e3]; rfl
  have y3b:=u64_xor y2b b3
  have x3:=bin_xor y2b b3
  have l2:=load_p (off:=0) i2 (show nth [V.i .u64 (y2:Int)] 0=some _ from rfl)
  have s3:storeV h3 1 (.p ids 0) (.i .u64 ((y2 ^^^ m3:Nat):Int)) = .ok undefV (h3.put ids (.cells 1 [.i .u64 ((y2 ^^^ m3:Nat):Int)])):=st1u i2 rfl
  have i3:(h3.put ids (.cells 1 [.i .u64 ((y2 ^^^ m3:Nat):Int)])).get ids = .cells 1 [.i .u64 ((y2 ^^^ m3:Nat):Int)]:=get_put_same
  have g3:Grow ids.nat h3 (h3.put ids (.cells 1 [.i .u64 ((y2 ^^^ m3:Nat):Int)])):=Grow.put (Nat.le_refl _) hlt3 _
  have l3:=load_p (off:=0) i3 (show nth [V.i .u64 ((y2 ^^^ m3:Nat):Int)] 0=some _ from rfl)
  simp (disch:=omega) only [f114_r3,f114_r4,f114_rs,x_nilck,xg_nilck,Option.some.injEq,exists_eq_left',Nat.reduceEqDiff,↓reduceIte,nn_p,of17,l2,q3,x3,s3,l3,bz]
  exact ⟨_,rfl,y3b,i3,(g1.trans g2).trans g3⟩
theorem f109x_ret {n:Nat} (hn:n ≤ 21):Ret fs f109 [.i .u64 (n:Int)] h fun r h'=>(∃ b:Nat,r = .i .i64 (b:Int)∧(12 < n→b=if n ≤ 15 then 4 else 5))∧h'=h:=by
  rcases (show n ≤ 15 ∨ n=16 ∨ n=17 ∨ n=18 ∨ n=19 ∨ n=20 ∨ n=21 by omega) with hs | rfl | rfl | rfl | rfl | rfl | rfl
  · rcases (show n=0 ∨ n=1 ∨ n=2 ∨ n=3 ∨ n=4 ∨ n=5 ∨ n=6 ∨ n=7 ∨ n=8 ∨ n=9 ∨ n=10 ∨ n=11 ∨ n=12 ∨ n=13 ∨ n=14 ∨ n=15 by omega) with rfl | rfl | rfl | rfl | rfl | rfl | rfl | rfl | rfl | rfl | rfl | rfl | rfl | rfl | rfl | rfl
    · exact ⟨20,_,_,rfl,⟨0,rfl,by omega⟩,rfl⟩
    · exact ⟨20,_,_,rfl,⟨1,rfl,by omega⟩,rfl⟩
    · exact ⟨20,_,_,rfl,⟨2,rfl,by omega⟩,rfl⟩
    · exact ⟨20,_,_,rfl,⟨2,rfl,by omega⟩,rfl⟩
    · exact ⟨20,_,_,rfl,⟨3,rfl,by omega⟩,rfl⟩
    · exact ⟨20,_,_,rfl,⟨3,rfl,by omega⟩,rfl⟩
    · exact ⟨20,_,_,rfl,⟨3,rfl,by omega⟩,rfl⟩
    · exact ⟨20,_,_,rfl,⟨3,rfl,by omega⟩,rfl⟩
    · exact ⟨20,_,_,rfl,⟨4,rfl,by omega⟩,rfl⟩
    · exact ⟨20,_,_,rfl,⟨4,rfl,by omega⟩,rfl⟩
    · exact ⟨20,_,_,rfl,⟨4,rfl,by omega⟩,rfl⟩
    · exact ⟨20,_,_,rfl,⟨4,rfl,by omega⟩,rfl⟩
    · exact ⟨20,_,_,rfl,⟨4,rfl,by omega⟩,rfl⟩
    · exact ⟨20,_,_,rfl,⟨4,rfl,fun _=>rfl⟩,rfl⟩
    · exact ⟨20,_,_,rfl,⟨4,rfl,fun _=>rfl⟩,rfl⟩
    · exact ⟨20,_,_,rfl,⟨4,rfl,fun _=>rfl⟩,rfl⟩
  all_goals exact ⟨20,_,_,rfl,⟨5,rfl,fun _=>rfl⟩,rfl⟩
theorem f95x_ret {n:Nat} (k:CallsTr fs) (hn:n ≤ 21):Ret fs f95 [.i .u64 (n:Int)] h fun r h'=>(∃ b:Nat,r = .i .i64 (b:Int)∧(12 < n→b=if n ≤ 15 then 4 else 5))∧h'=h:=by
  apply ret_of rfl
  show W fs none f95_c _ _ _
  unfold f95_c
  simp (disch:=omega) only [f95_r0,f95_r2,Nat.reduceEqDiff,↓reduceIte,Bool.false_eq_true,bz]
  refine (callP_0 (ef:=f109) k.c109 rfl (f109x_ret hn)).mono ?_
  rintro r h1 ⟨⟨b,rfl,hb⟩,rfl⟩
  simp (disch:=omega) only [f95_rs,Option.some.injEq,exists_eq_left',↓reduceIte,and_true,bz]
  exact ⟨b,rfl,hb⟩
theorem f113_ret {n:Nat} (k:CallsTr fs) (h12:12 < n) (hn:n ≤ 21):Ret fs f113 [.i .i64 (n:Int)] h fun r h'=>(∃ M:Nat,r = .i .u64 (M:Int)∧1 ≤ M∧M ≤ 32∧M ≤ 2 * n)∧h'=h:=by
  apply ret_of rfl
  show W fs none f113_c _ _ _
  unfold f113_c
  have fu:fw .u64 (n:Int)=(n:Int):=by
    show (bif Nat.ble n (kmax .u64) then Int.ofNat n else _)=_
    rw [Nat.ble_eq_true_of_le (show n ≤ kmax .u64 from by show n ≤ 18446744073709551615; omega)]; rfl
  simp (disch:=omega) only [f113_r0,f113_r1,Nat.reduceEqDiff,↓reduceIte,fu,bz]
  refine (callP_0 (ef:=f95) k.c95 rfl (f95x_ret k hn)).mono ?_
  rintro r h1 ⟨⟨b,rfl,hb⟩,rfl⟩
  rw [hb h12]
  by_cases hs:n ≤ 15
  · have q:binV .shl (.i .u64 1) (.i .i64 ((if n ≤ 15 then 4 else 5:Nat):Int))=some (.i .u64 ((16:Nat):Int)):=by rw [if_pos hs]; rfl
    simp (disch:=omega) only [f113_rs,Option.some.injEq,exists_eq_left',↓reduceIte,q,and_true,bz]
    exact ⟨16,rfl,by omega,by omega,by omega⟩
  · have q:binV .shl (.i .u64 1) (.i .i64 ((if n ≤ 15 then 4 else 5:Nat):Int))=some (.i .u64 ((32:Nat):Int)):=by rw [if_neg hs]; rfl
    simp (disch:=omega) only [f113_rs,Option.some.injEq,exists_eq_left',↓reduceIte,q,and_true,bz]
    exact ⟨32,rfl,by omega,by omega,by omega⟩
def f102_I (h:H) (v:V) (idb ids:K) (Z:List (Int × Int)) (a b l M x0:Nat) (x:Nat) (fr:Fr) (h1:H):Prop:=x0 ≤ x∧x ≤ x0 + 3∧(∃ W1,Mem h v idb W1 h1∧Pm a b Z W1)∧(∃ y:Nat,y ≤ kmax .u64∧h1.get ids = .cells 1 [.i .u64 (y:Int)])∧fr.get (K.ofNat 0)=some (v)∧fr.get (K.ofNat 1)=some (.i .i64 (a:Int))∧fr.get (K.ofNat 2)=some (.i .i64 (b:Int))∧fr.get (K.ofNat 8)=some (.i .i64 (l:Int))∧fr.get (K.ofNat 9)=some (.p ids 0)∧fr.get (K.ofNat 10)=some (.i .u64 (M:Int))∧fr.get (K.ofNat 11)=some (.i .i64 (x:Int))
theorem f102_ret (k:CallsTr fs) (s:SoT idb v h) (hv:Sk 2 qE h v Z) (hab:a + 12 < b) (hl:b ≤ a + 21) (hb:b ≤ Z.length) (hW:Z.length ≤ 40):Ret fs f102 [v, .i .i64 (a:Int), .i .i64 (b:Int),cmV idb] h fun r h'=>r = .tup [] ∧ ∃ W1,Mem h v idb W1 h'∧Pm a b Z W1:=by
  apply ret_of rfl
  show W fs none f102_c _ _ _
  unfold f102_c
  obtain ⟨l,hl13,hbl⟩:∃ l:Nat,13 ≤ l∧b=a + l:=⟨b - a,by omega,by omega⟩
  obtain ⟨q,hq,hq3,hq4⟩:∃ q:Nat,q=l / 4∧3 ≤ q∧q * 4 ≤ l:=⟨l / 4,rfl,by omega,by omega⟩
  have el:(b:Int) - (a:Int)=(l:Int):=by omega
  have d8:decide ((l:Int) ≥ 8)=true:=decide_eq_true (by omega)
  have fu:fw .u64 (l:Int)=(l:Int):=by
    show (bif Nat.ble l (kmax .u64) then Int.ofNat l else _)=_
    rw [Nat.ble_eq_true_of_le (show l ≤ kmax .u64 from by show l ≤ 18446744073709551615; omega)]; rfl
  have n1:=nx_new h (.cells 1 [.i .u64 0])
  have g1:Grow h.nx.nat h (h.new (.cells 1 [.i .u64 0])):=Grow.new (Nat.le_refl _) _
  have c1:(h.new (.cells 1 [.i .u64 0])).get h.nx = .cells 1 [.i .u64 0]:=get_new_same
  have s1:storeV (h.new (.cells 1 [.i .u64 0])) 1 (.p h.nx 0) (.i .u64 (l:Int)) = .ok undefV ((h.new (.cells 1 [.i .u64 0])).put h.nx (.cells 1 [.i .u64 (l:Int)])):=st1u c1 rfl
  have g2:Grow h.nx.nat h ((h.new (.cells 1 [.i .u64 0])).put h.nx (.cells 1 [.i .u64 (l:Int)])):=g1.trans (Grow.put (Nat.le_refl _) (by omega) _)
  have c2:((h.new (.cells 1 [.i .u64 0])).put h.nx (.cells 1 [.i .u64 (l:Int)])).get h.nx = .cells 1 [.i .u64 (l:Int)]:=get_put_same
  have hidb:=s.hc.cells s.e
  have hvl:=hv.lt s.hc
  simp (disch:=omega) only [f102_r0,f102_r1,f102_r2,f102_r3,of8,Nat.reduceEqDiff,↓reduceIte,el,d8,fu,s1,bz]
  generalize (h.new (.cells 1 [.i .u64 0])).put h.nx (.cells 1 [.i .u64 (l:Int)])=h2 at *
  refine (callP_0 (ef:=f113) k.c113 rfl (f113_ret k (by omega) (by omega))).mono ?_
  rintro r h3 ⟨⟨M,rfl,M1,M32,M2⟩,rfl⟩
  have eq4:(l:Int).tdiv 4=(q:Int):=by rw [hq]; rfl
  have ex:(a:Int) + (q:Int) * 2 - 1=((a + q * 2 - 1:Nat):Int):=by omega
  have ex0:(a:Int) + (q:Int) * 2=((a + q * 2:Nat):Int):=by omega
  have ex1:((a + q * 2:Nat):Int) - 1=((a + q * 2 - 1:Nat):Int):=by omega
  have ex2:((a + q * 2:Nat):Int) + 1=((a + q * 2 + 1:Nat):Int):=by omega
  have m3:Mem h v idb Z h3:=⟨hv.grow s.hc g2,Onl.of g2,s.onl (Onl.of g2)⟩
  simp (disch:=omega) only [f102_r4,bin_mul,of4,Nat.reduceEqDiff,↓reduceIte,eq4,ex0,ex1,bz]
  refine W_loop (f102_I h v idb h.nx Z a b l M (a + q * 2 - 1)) (fun x=>a + q * 2 + 5 - x) ?_ (a + q * 2 - 1) ⟨Nat.le_refl _,by omega,⟨Z,m3,Pm.refl⟩,⟨l,by show l ≤ 18446744073709551615; omega,c2⟩,by simp (disch:=omega) only [getK_set,Nat.reduceEqDiff,↓reduceIte,and_self]⟩
  rintro x fr h4 ⟨hx0,hx3,⟨W1,m4,pm⟩,⟨y,hy,cy⟩,g0,g1,g2,g8,g9,g10,g11⟩
  have hl1:=pm.len
  unfold f102_l0
  by_cases hx:x ≤ a + q * 2 + 1
  · have d0:decide ((x:Int) ≤ ((a + q * 2 + 1:Nat):Int))=true:=decide_eq_true (by omega)
    simp (disch:=omega) only [f102_r5,f102_r6,bin_mul,of4,Nat.reduceEqDiff,↓reduceIte,g1,g8,g9,g11,eq4,ex0,ex2,d0,bz]
    refine (callP_0 (ef:=f114) k.c114 rfl (f114_ret hy cy m4.s.hc)).mono ?_
    rintro r h5 ⟨z,rfl,hz,cz,g5⟩
    have hlt5:h.nx.nat < h5.nx.nat:=by have:=g5.nx; have:=m4.s.hc.cells cy; omega
    have hcE:h5.get idb = .cells 1 [.fn (K.ofNat 57) []]:=(g5.old idb hidb).trans m4.s.e
    have hs5:Sk 2 qE h5 v W1:=m4.sk.same fun id off n sz e=>g5.old id (hvl _ _ _ _ e)
    have o5:Onl v h h5:=⟨Nat.le_trans m4.o.nx g5.nx,fun id hi hn=>(g5.old id hi).trans (m4.o.old id hi hn),fun c=>g5.hc (m4.o.hc c)⟩
    have m5:Mem h v idb W1 h5:=⟨hs5,o5,⟨hcE,m4.s.ni,g5.hc m4.s.hc⟩⟩
    have fuM:fw .u64 ((M:Int) - 1)=((M - 1:Nat):Int):=by
      have e:(M:Int) - 1=((M - 1:Nat):Int):=by omega
      rw [e]
      show (bif Nat.ble (M - 1) (kmax .u64) then Int.ofNat (M - 1) else _)=_
      rw [Nat.ble_eq_true_of_le (show M - 1 ≤ kmax .u64 from by show M - 1 ≤ 18446744073709551615; omega)]; rfl
    have ba:=bin_and (k := .u64) hz (show M - 1 ≤ kmax .u64 from by show M - 1 ≤ 18446744073709551615; omega)
    have bo:z &&& (M - 1) ≤ M - 1:=Nat.and_le_right
    generalize z &&& (M - 1)=o at *
    obtain ⟨o',ho',hcase⟩:∃ o',o' < l∧((o < l∧o'=o) ∨ (¬ o < l∧o'=o - l)):=by
      by_cases hol:o < l
      · exact ⟨o,hol, .inl ⟨hol,rfl⟩⟩
      · exact ⟨o - l,by omega, .inr ⟨hol,rfl⟩⟩
    have eo:(a:Int) + (o':Int)=((a + o':Nat):Int):=by omega
    have ex':(x:Int) + 1=((x + 1:Nat):Int):=by omega
    obtain ⟨pi,pj,h6,h7,x1,x2,x3,x4,x5,x6,x7,x8,x9⟩:=m5.sk.xch m5.s.hc (i:=x) (j:=a + o') (by omega) (by omega)
    have m6:Mem h v idb (xch W1 x (a + o')) h7:=⟨x7,m5.o.trans x8,m5.s.onl x8⟩
    have hvb:=m5.sk.beq
    have c7:h7.get h.nx = .cells 1 [.i .u64 (z:Int)]:=(x8.old h.nx hlt5 (fun off n sz e=>by have:=hvl _ _ _ _ e; omega)).trans cz
    have pm6:Pm a b Z (xch W1 x (a + o')):=pm.trans (Pm.ex (by omega) (by omega) (by omega) (by omega) (by omega))
    rcases hcase with ⟨hol,rfl⟩ | ⟨hol,rfl⟩
    · have d1:decide ((o':Int) ≥ (l:Int))=false:=decide_eq_false (by omega)
      simp (disch:=omega) only [f102_r7,f102_r9,f102_r10,stay_bin,Nat.reduceEqDiff,↓reduceIte,Bool.false_eq_true,g0,g1,g8,g10,g11,fuM,ba,d1,eo,ex',x1,x2,x3,x4,x5,x6,hvb,bz]
      exact ⟨x + 1,by omega,by omega,by omega,⟨_,m6,pm6⟩,⟨z,hz,c7⟩,by simp (disch:=omega) only [getK_set,Nat.reduceEqDiff,↓reduceIte,g0,g1,g2,g8,g9,g10,and_self]⟩
    · have d1:decide ((o:Int) ≥ (l:Int))=true:=decide_eq_true (by omega)
      have eol:(o:Int) - (l:Int)=((o - l:Nat):Int):=by omega
      simp (disch:=omega) only [f102_r7,f102_r8,f102_r9,f102_r10,stay_bin,Nat.reduceEqDiff,↓reduceIte,g0,g1,g8,g10,g11,fuM,ba,d1,eol,eo,ex',x1,x2,x3,x4,x5,x6,hvb,bz]
      exact ⟨x + 1,by omega,by omega,by omega,⟨_,m6,pm6⟩,⟨z,hz,c7⟩,by simp (disch:=omega) only [getK_set,Nat.reduceEqDiff,↓reduceIte,g0,g1,g2,g8,g9,g10,and_self]⟩
  · have d0:decide ((x:Int) ≤ ((a + q * 2 + 1:Nat):Int))=false:=decide_eq_false (by omega)
    simp (disch:=omega) only [f102_r5,f102_rs,bin_mul,of4,Option.some.injEq,exists_eq_left',Nat.reduceEqDiff,↓reduceIte,Bool.false_eq_true,g1,g8,g11,eq4,ex0,ex2,d0,bz]
    exact ⟨W1,m4,pm⟩
end
end Go.Ev
namespace Go.Ev
open Go Go.RowKit
section
variable {fs:T EF} {h:H} {v:V} {Z W1 W2:List (Int × Int)} {idb:K} {a b a' b':Nat} {fr:Fr} {h1 h2:H}
structure Wsx (h:H) (v:V) (idb:K) (Z:List (Int × Int)) (a b a' b':Nat) (W1:List (Int × Int)) (h1:H):Prop where
  aa:a ≤ a'
  ab:a' < b'
  bb:b' ≤ b
  bl:b ≤ Z.length
  nd:Z.Nodup
  l:b' ≤ a' + 21
  mem:Mem h v idb W1 h1
  pm:Pm a b Z W1
  win:Win a b a' b' W1
  lo:0 < a' → ∀ t,a' ≤ t→t < b'→bfB (gW W1 (a' - 1)) (gW W1 t)=true
theorem Wsx.pm2 (w:Wsx h v idb Z a b a' b' W1 h1) (m:Mem h1 v idb W2 h2) (p:Pm a' b' W1 W2):Wsx h v idb Z a b a' b' W2 h2:=by
  have h1:=w.aa
  have h2:=w.bb
  have h3:=w.bl
  have h4:=w.pm.len
  have hn:=w.pm.nodup w.nd
  refine { w with mem:=w.mem.tr m,pm:=w.pm.trans (p.mono h1 h2),win:=w.win.pm p hn h1 h2 (by omega),lo:=fun z t t1 t2=>?_ }
  obtain ⟨k,k1,k2,k3⟩:=p.src hn (by omega) t1 t2
  rw [p.out _ (by omega),k3]
  exact w.lo z k k1 k2
def f94_Ix (h:H) (v:V) (idb:K) (Z:List (Int × Int)) (a b:Nat) (s:Nat × Nat) (fr:Fr) (h1:H):Prop:=∃ (W1:List (Int × Int)) (q bal:Bool) (lim:Nat),Wsx h v idb Z a b s.1 s.2 W1 h1∧(s.2 + (if bal=true then 0 else 2) ≤ s.1 + 2 * lim + 11∧lim ≤ 100)∧fr.get (K.ofNat 0)=some (v)∧fr.get (K.ofNat 1)=some (.i .i64 (s.1:Int))∧fr.get (K.ofNat 2)=some (.i .i64 (s.2:Int))∧fr.get (K.ofNat 3)=some (.i .i64 (lim:Int))∧fr.get (K.ofNat 4)=some (cmV idb)∧fr.get (K.ofNat 10)=some (.b bal)∧fr.get (K.ofNat 11)=some (.b q)
def f94_Px (v:V) (idb:K) (a' b' lim p:Nat) (bal:Bool) (fr:Fr):Prop:=fr.get (K.ofNat 0)=some (v)∧fr.get (K.ofNat 1)=some (.i .i64 (a':Int))∧fr.get (K.ofNat 2)=some (.i .i64 (b':Int))∧fr.get (K.ofNat 3)=some (.i .i64 (lim:Int))∧fr.get (K.ofNat 4)=some (cmV idb)∧fr.get (K.ofNat 10)=some (.b bal)∧fr.get (K.ofNat 12)=some (.i .i64 ((b' - a':Nat):Int))∧fr.get (K.ofNat 13)=some (.i .i64 (p:Int))
theorem f94_R3_x {lim p : Nat} {bal : Bool} {Q : Ex → Fr → H → Prop} (k : CallsTr fs) (hW : Z.length ≤ 40) (w : Wsx h v idb Z a b a' b' W1 h1) (h12 : a' + 12 < b') (hb' : b' ≤ a' + 2 * lim + 11 ∧ lim ≤ 100) (p1 : a' ≤ p) (p2 : p < b') (md : Mid a' b' p W1) (g : f94_Px v idb a' b' lim p bal fr)
    (hQ:∀ (s:Nat × Nat) fr h2,s.2 - s.1 < b' - a'→f94_Ix h v idb Z a b s fr h2→Q .normal fr h2):W fs none f94_R3 Q fr h1:=by
  obtain ⟨g0,g1,g2,g3,g4,g10,g12,g13⟩:=g
  have aa:=w.aa
  have bb:=w.bb
  have bl:=w.bl
  have hl:=w.pm.len
  have hn:=w.pm.nodup w.nd
  have wl:=w.l
  unfold f94_R3
  simp (disch:=omega) only [f94_r20,Nat.reduceEqDiff,↓reduceIte,g0,g1,g2,g4,g13,bz]
  refine (callP_0 (ef:=f107) k.c107 rfl (f107_ret k.toCallsTv w.mem.s w.mem.sk hn p1 p2 (by omega) (by omega) (by omega))).mono ?_
  rintro r h3 ⟨m,q,rfl,W2,m2,pm2,cut,em⟩
  obtain ⟨c1,c2⟩:=cut.in pm2 em md hn (by omega)
  have w2:=w.pm2 m2 pm2
  have hn2:=pm2.nodup hn
  have hl2:=pm2.len
  have e1:(m:Int) - (a':Int)=((m - a':Nat):Int):=by omega
  have e2:(b':Int) - (m:Int)=((b' - m:Nat):Int):=by omega
  obtain ⟨t8,e3,ht8⟩:∃ t8:Nat,((b' - a':Nat):Int).tdiv 8=(t8:Int)∧t8 ≤ 2:=⟨(b' - a') / 8,rfl,by omega⟩
  have em1:(m:Int) + 1=((m + 1:Nat):Int):=by omega
  clear md em p1 p2 w
  by_cases hs:m - a' < b' - m
  · have d0:decide (((m - a':Nat):Int) < ((b' - m:Nat):Int))=true:=decide_eq_true (by omega)
    simp (disch:=omega) only [f94_r21,f94_r22,f94_r23,f94_r24,f94_r25,f94_r26,of8,Nat.reduceEqDiff,↓reduceIte,g0,g1,g2,g3,g4,g12,e1,e2,e3,d0,bz]
    refine (callP_0 (ef:=f94) k.c94 rfl (f106s_ret (n:=(lim:Int)) (a:=a') (b:=m) k.toCallsTq w2.mem.s w2.mem.sk hn2 (by omega) (by omega) (by omega) (by omega))).mono ?_
    rintro r h4 ⟨rfl,W3,m3,pm3,sr⟩
    have cut3:=cut.pmL pm3 hn2 (by omega)
    have pm3':Pm a' b' W2 W3:=pm3.mono (Nat.le_refl _) (by omega)
    have w3:=w2.pm2 m3 pm3'
    simp (disch:=omega) only [f94_r27,Nat.reduceEqDiff,↓reduceIte,em1,bz]
    refine hQ (m + 1,b') _ _ (show b' - (m + 1) < b' - a' by omega) ⟨W3,q,decide (((m - a':Nat):Int) ≥ (t8:Int)),lim,?_,?_,by simp (disch:=omega) only [getK_set,Nat.reduceEqDiff,↓reduceIte,g0,g2,g3,g4,and_self]⟩
    · exact { w3 with aa:=by omega,ab:=by show m + 1 < b'; omega,l:=by show b' ≤ m + 1 + 21; omega,win:=w3.win.right cut3 sr,lo:=fun _ t (t1:m + 1 ≤ t) t2=>cut3.more t (by omega) t2 }
    · refine ⟨?_,hb'.2⟩
      show b' + (if _ then 0 else 2) ≤ m + 1 + 2 * lim + 11
      split <;> omega
  · have d0:decide (((m - a':Nat):Int) < ((b' - m:Nat):Int))=false:=decide_eq_false (by omega)
    simp (disch:=omega) only [f94_r21,f94_r22,f94_r23,f94_r24,f94_r28,f94_r29,of8,Nat.reduceEqDiff,↓reduceIte,Bool.false_eq_true,g0,g1,g2,g3,g4,g12,e1,e2,e3,d0,em1,bz]
    refine (callP_0 (ef:=f94) k.c94 rfl (f106s_ret (n:=(lim:Int)) (a:=m + 1) (b:=b') k.toCallsTq w2.mem.s w2.mem.sk hn2 (by omega) (by omega) (by omega) (by omega))).mono ?_
    rintro r h4 ⟨rfl,W3,m3,pm3,sr⟩
    have cut3:=cut.pmR pm3 hn2 (by omega)
    have pm3':Pm a' b' W2 W3:=pm3.mono (by omega) (Nat.le_refl _)
    have w3:=w2.pm2 m3 pm3'
    simp (disch:=omega) only [f94_r30,Nat.reduceEqDiff,↓reduceIte,bz]
    refine hQ (a',m) _ _ (show m - a' < b' - a' by omega) ⟨W3,q,decide (((b' - m:Nat):Int) ≥ (t8:Int)),lim,?_,?_,by simp (disch:=omega) only [getK_set,Nat.reduceEqDiff,↓reduceIte,g0,g1,g3,g4,and_self]⟩
    · exact { w3 with ab:=by show a' < m; omega,bb:=by show m ≤ b; omega,l:=by show m ≤ a' + 21; omega,win:=w3.win.left cut3 sr,lo:=fun z t t1 (t2:t < m)=>w3.lo z t t1 (show t < b' by omega) }
    · refine ⟨?_,hb'.2⟩
      show m + (if _ then 0 else 2) ≤ a' + 2 * lim + 11
      split <;> omega
theorem f94_R2_x {lim p : Nat} {bal : Bool} {Q : Ex → Fr → H → Prop} (k : CallsTr fs) (hW : Z.length ≤ 40) (w : Wsx h v idb Z a b a' b' W1 h1) (h12 : a' + 12 < b') (hb' : b' ≤ a' + 2 * lim + 11 ∧ lim ≤ 100) (p1 : a' ≤ p) (p2 : p < b') (md : Mid a' b' p W1) (g : f94_Px v idb a' b' lim p bal fr)
    (hQ:∀ (s:Nat × Nat) fr h2,s.2 - s.1 < b' - a'→f94_Ix h v idb Z a b s fr h2→Q .normal fr h2):W fs none f94_R2 Q fr h1:=by
  obtain ⟨g0,g1,g2,g3,g4,g10,g12,g13⟩:=g
  have bb:=w.bb
  have bl:=w.bl
  have hl:=w.pm.len
  unfold f94_R2
  by_cases hz:0 < a'
  · have d0:decide ((a':Int) > 0)=true:=decide_eq_true (by omega)
    have ea:(a':Int) - 1=((a' - 1:Nat):Int):=by omega
    obtain ⟨q1,a1,a2⟩:=w.mem.sk.atp (i:=a' - 1) (by omega)
    obtain ⟨q0,b1,b2⟩:=w.mem.sk.atp (i:=p) (by omega)
    simp (disch:=omega) only [f94_r17,Nat.reduceEqDiff,↓reduceIte,g0,g1,g4,g13,d0,ea,a1,a2,b1,b2,bz]
    refine cm_call k.toCallsTs w.mem.s w.mem.sk ?_
    intro h4 hs4 o4 s4
    have dlt:=w.lo hz p p1 p2
    simp (disch:=omega) only [Nat.reduceEqDiff,↓reduceIte,Bool.false_eq_true,Bool.not_true,cmP_lt,dlt,bz]
    exact f94_R3_x (bal:=bal) k hW (w.pm2 ⟨hs4,o4,s4⟩ Pm.refl) h12 hb' p1 p2 md (by unfold f94_Px; simp (disch:=omega) only [getK_set,Nat.reduceEqDiff,↓reduceIte,g0,g1,g2,g3,g4,g10,g12,g13,and_self]) hQ
  · have d0:decide ((a':Int) > 0)=false:=decide_eq_false (by omega)
    simp (disch:=omega) only [f94_r17,Nat.reduceEqDiff,↓reduceIte,Bool.false_eq_true,g1,d0,bz]
    exact f94_R3_x (bal:=bal) k hW w h12 hb' p1 p2 md (by unfold f94_Px; simp (disch:=omega) only [getK_set,Nat.reduceEqDiff,↓reduceIte,g0,g1,g2,g3,g4,g10,g12,g13,and_self]) hQ
theorem f94_R1_x {lim p e : Nat} {q bal : Bool} {Q : Ex → Fr → H → Prop} (k : CallsTr fs) (hW : Z.length ≤ 40) (w : Wsx h v idb Z a b a' b' W1 h1) (h12 : a' + 12 < b') (hb' : b' ≤ a' + 2 * lim + 11 ∧ lim ≤ 100) (p1 : a' ≤ p) (p2 : p < b') (md : Mid a' b' p W1) (g : f94_Px v idb a' b' lim p bal fr) (g11 : fr.get (.ofNat 11) = some (.b q)) (g14 : fr.get (.ofNat 14) = some (.i .i64 (e : Int)))
    (hR:∀ fr h2,Mem h v idb W1 h2→Srd a b W1→Q .ret fr h2)
    (hQ:∀ (s:Nat × Nat) fr h2,s.2 - s.1 < b' - a'→f94_Ix h v idb Z a b s fr h2→Q .normal fr h2):W fs none f94_R1 Q fr h1:=by
  have g':=g
  obtain ⟨g0,g1,g2,g3,g4,g10,g12,g13⟩:=g
  have ab:=w.ab
  have bb:=w.bb
  have bl:=w.bl
  have hl:=w.pm.len
  have hn:=w.pm.nodup w.nd
  unfold f94_R1
  by_cases hq:bal=true∧q=true∧e=1
  · obtain ⟨rfl,rfl,rfl⟩:=hq
    have d0:decide (((1:Nat):Int)=1)=true:=rfl
    simp (disch:=omega) only [f94_r15,f94_r16,Nat.reduceEqDiff,↓reduceIte,g0,g1,g2,g4,g10,g11,g14,d0,bz]
    refine (callP_0 (ef:=f105) k.c105 rfl (f105_ret k.toCallsTs w.mem.s w.mem.sk hn ab (by omega) (by omega))).mono ?_
    rintro r h4 ⟨⟨t,rfl,ht⟩,hs4,o4,s4⟩
    have m4:Mem h1 v idb W1 h4:=⟨hs4,o4,s4⟩
    cases t with
    | true =>
      simp (disch:=omega) only [↓reduceIte,bz]
      exact hR _ _ (w.mem.tr m4) (w.win.srd (ht rfl))
    | false =>
      simp (disch:=omega) only [↓reduceIte,Bool.false_eq_true,bz]
      exact f94_R2_x (bal:=true) k hW (w.pm2 m4 Pm.refl) h12 hb' p1 p2 md (by unfold f94_Px; simp (disch:=omega) only [getK_set,Nat.reduceEqDiff,↓reduceIte,g0,g1,g2,g3,g4,g10,g12,g13,and_self]) hQ
  · have go:∀ fr',f94_Px v idb a' b' lim p bal fr'→W fs none f94_R2 Q fr' h1:=fun fr' g'=>f94_R2_x k hW w h12 hb' p1 p2 md g' hQ
    cases bal with
    | false =>
      simp (disch:=omega) only [f94_r15,Nat.reduceEqDiff,↓reduceIte,Bool.false_eq_true,g10,bz]
      exact go _ (by unfold f94_Px; simp (disch:=omega) only [getK_set,Nat.reduceEqDiff,↓reduceIte,g0,g1,g2,g3,g4,g10,g12,g13,and_self])
    | true =>
      cases q with
      | false =>
        simp (disch:=omega) only [f94_r15,Nat.reduceEqDiff,↓reduceIte,Bool.false_eq_true,g10,g11,bz]
        exact go _ (by unfold f94_Px; simp (disch:=omega) only [getK_set,Nat.reduceEqDiff,↓reduceIte,g0,g1,g2,g3,g4,g10,g12,g13,and_self])
      | true =>
        have d0:decide ((e:Int)=1)=false:=decide_eq_false (fun q=>hq ⟨rfl,rfl,by omega⟩)
        simp (disch:=omega) only [f94_r15,Nat.reduceEqDiff,↓reduceIte,Bool.false_eq_true,g10,g11,g14,d0,bz]
        exact go _ (by unfold f94_Px; simp (disch:=omega) only [getK_set,Nat.reduceEqDiff,↓reduceIte,g0,g1,g2,g3,g4,g10,g12,g13,and_self])
noncomputable def f94_R0:EC:=(.seq (.reg f94_r10) (.seq (.seq (.reg f94_r11) (.cond (.t (.ofNat 56)) (.seq (.reg f94_r12) (.seq (.reg f94_r13) (.reg f94_r14))) .skip)) f94_R1))
theorem f94_l0_e0:f94_l0=(.block 1 (.seq (.reg f94_r2) (.seq (.seq (.reg f94_r3) (.cond (.t (.ofNat 25)) (.seq (.reg f94_r4) .ret) .skip)) (.seq (.seq (.reg f94_r5) (.cond (.t (.ofNat 32)) (.seq (.reg f94_r6) .ret) .skip)) (.seq (.seq (.reg f94_r7) (.cond (.t (.ofNat 39)) (.seq (.reg f94_r8) (.reg f94_r9)) .skip)) f94_R0))))):=rfl
theorem f94_R0_x {lim : Nat} {q bal : Bool} {Q : Ex → Fr → H → Prop} (k : CallsTr fs) (hW : Z.length ≤ 40) (w : Wsx h v idb Z a b a' b' W1 h1) (h12 : a' + 12 < b') (hb' : b' ≤ a' + 2 * lim + 11 ∧ lim ≤ 100)
    (g0:fr.get (K.ofNat 0)=some v) (g1:fr.get (K.ofNat 1)=some (.i .i64 (a':Int))) (g2:fr.get (K.ofNat 2)=some (.i .i64 (b':Int))) (g3:fr.get (K.ofNat 3)=some (.i .i64 (lim:Int))) (g4:fr.get (K.ofNat 4)=some (cmV idb)) (g10:fr.get (K.ofNat 10)=some (.b bal)) (g11:fr.get (K.ofNat 11)=some (.b q)) (g12:fr.get (K.ofNat 12)=some (.i .i64 ((b' - a':Nat):Int)))
    (hR:∀ fr h2 W2,Wsx h v idb Z a b a' b' W2 h2→Srd a b W2→Q .ret fr h2)
    (hQ:∀ (s:Nat × Nat) fr h2,s.2 - s.1 < b' - a'→f94_Ix h v idb Z a b s fr h2→Q .normal fr h2):W fs none f94_R0 Q fr h1:=by
  have ab:=w.ab
  have bb:=w.bb
  have bl:=w.bl
  have hl:=w.pm.len
  have hn1:=w.pm.nodup w.nd
  unfold f94_R0
  simp (disch:=omega) only [f94_r10,Nat.reduceEqDiff,↓reduceIte,g0,g1,g2,g4,bz]
  refine (callP_0 (ef:=f103) k.c103 rfl (f103_ret k.toCallsTv w.mem.s w.mem.sk hn1 (by omega) (by omega) (by omega))).mono ?_
  rintro r h3 ⟨⟨p,e,rfl,e2,p1,p2,md⟩,hs3,o3,s3⟩
  have w3:=w.pm2 ⟨hs3,o3,s3⟩ Pm.refl
  by_cases he:e=2
  · subst he
    have d2:decide (((2:Nat):Int)=2)=true:=rfl
    have eb:(b':Int) - 1=((b' - 1:Nat):Int):=by omega
    have ep:(p:Int) - (a':Int)=((p - a':Nat):Int):=by omega
    have ex:((b' - 1:Nat):Int) - ((p - a':Nat):Int)=((b' - 1 - (p - a'):Nat):Int):=by omega
    simp (disch:=omega) only [f94_r11,f94_r12,Nat.reduceEqDiff,↓reduceIte,g0,g1,g2,g4,d2,bz]
    refine (callP_0 (ef:=f104) k.c104 rfl (f104_ret w3.mem.s w3.mem.sk ab (by omega) (by omega))).mono ?_
    rintro r h4 ⟨rfl,W2,hs4,pm4,rv,o4,s4⟩
    have w4:=w3.pm2 ⟨hs4,o4,s4⟩ pm4
    have epv:gW W2 (b' - 1 - (p - a'))=gW W1 p:=by
      rw [rv _ (by omega) (by omega)]; congr 1; omega
    have md4:Mid a' b' (b' - 1 - (p - a')) W2:=by
      obtain ⟨⟨i,i1,i2,i3⟩,⟨j,j1,j2,j3⟩⟩:=md
      obtain ⟨i',k1,k2,k3⟩:=pm4.symm.src (pm4.nodup hn1) (by rw [pm4.len]; omega) i1 i2
      obtain ⟨j',l1,l2,l3⟩:=pm4.symm.src (pm4.nodup hn1) (by rw [pm4.len]; omega) j1 j2
      exact ⟨⟨i',k1,k2,by rw [epv,← k3]; exact i3⟩,j',l1,l2,by rw [epv,← l3]; exact j3⟩
    simp (disch:=omega) only [f94_r13,f94_r14,Nat.reduceEqDiff,↓reduceIte,g1,g2,eb,ep,ex,bz]
    exact f94_R1_x (lim:=lim) (p:=b' - 1 - (p - a')) (e:=1) (q:=q) (bal:=bal) k (by omega) w4 h12 hb' (by omega) (by omega) md4 (by unfold f94_Px; simp (disch:=omega) only [getK_set,Nat.reduceEqDiff,↓reduceIte,g0,g1,g2,g3,g4,g10,g12,and_self]) (by simp (disch:=omega) only [getK_set,Nat.reduceEqDiff,↓reduceIte,g11]) (by simp (disch:=omega) only [getK_set,↓reduceIte,Int.natCast_one])
      (fun fr h2 m sr=>hR fr h2 W2 { w4 with mem:=m } sr) hQ
  · have d2:decide ((e:Int)=2)=false:=decide_eq_false (by omega)
    simp (disch:=omega) only [f94_r11,Nat.reduceEqDiff,↓reduceIte,Bool.false_eq_true,d2,bz]
    exact f94_R1_x (lim:=lim) (p:=p) (e:=e) (q:=q) (bal:=bal) k (by omega) w3 h12 hb' p1 p2 md (by unfold f94_Px; simp (disch:=omega) only [getK_set,Nat.reduceEqDiff,↓reduceIte,g0,g1,g2,g3,g4,g10,g12,and_self]) (by simp (disch:=omega) only [getK_set,Nat.reduceEqDiff,↓reduceIte,g11]) (by simp (disch:=omega) only [getK_set,Nat.reduceEqDiff,↓reduceIte])
      (fun fr h2 m sr=>hR fr h2 W1 { w3 with mem:=m } sr) hQ
theorem f94x_ret {lim:Nat} (k:CallsTr fs) (s:SoT idb v h) (hv:Sk 2 qE h v Z) (hn:Z.Nodup) (hW:Z.length ≤ 21) (h0:0 < Z.length) (hlim:12 < Z.length→Z.length ≤ 2 * lim + 11∧lim ≤ 100):Ret fs f94 [v, .i .i64 0, .i .i64 (Z.length:Int), .i .i64 (lim:Int),cmV idb] h fun r h'=>r = .tup [] ∧ ∃ W1,Mem h v idb W1 h'∧Pm 0 Z.length Z W1∧Srd 0 Z.length W1:=by
  by_cases hsm:Z.length ≤ 12
  · exact f106s_ret (a:=0) k.toCallsTq s hv hn h0 (by omega) (Nat.le_refl _) (by omega)
  have hlim:=hlim (by omega)
  apply ret_of rfl
  show W fs none f94_c _ _ _
  unfold f94_c
  simp (disch:=omega) only [f94_r0,f94_r1,bz]
  refine W_loop (f94_Ix h v idb Z 0 Z.length) (fun s=>s.2 - s.1) ?_ (0,Z.length) ⟨Z,true,true,lim,⟨Nat.le_refl _,h0,Nat.le_refl _,Nat.le_refl _,hn,by simpa using hW,⟨hv,Onl.refl,s⟩,Pm.refl,Win.all,fun z=>absurd z (Nat.lt_irrefl _)⟩,by rw [if_pos rfl]; exact ⟨by show Z.length + 0 ≤ 0 + 2 * lim + 11; omega,hlim.2⟩,by simp (disch:=omega) only [getK_set,Nat.reduceEqDiff,↓reduceIte,and_self,Int.natCast_zero]⟩
  rintro ⟨a',b'⟩ fr h1 ⟨W1,q,bal,lim,w,⟨hbl,hl100⟩,g0,g1,g2,g3,g4,g10,g11⟩
  have ab:a' < b':=w.ab
  have bb:b' ≤ Z.length:=w.bb
  have wl:b' ≤ a' + 21:=w.l
  have hbl:b' + (if bal=true then 0 else 2) ≤ a' + 2 * lim + 11:=hbl
  have hl:=w.pm.len
  have hn1:=w.pm.nodup w.nd
  rw [f94_l0_e0]
  have el:(b':Int) - (a':Int)=((b' - a':Nat):Int):=by omega
  have e12:((b' - a':Nat):Int)=((b' - a':Nat):Int):=rfl
  by_cases h12:b' ≤ a' + 12
  · have d0:decide (((b' - a':Nat):Int) ≤ 12)=true:=decide_eq_true (by omega)
    simp (disch:=omega) only [f94_r2,f94_r3,f94_r4,Nat.reduceEqDiff,↓reduceIte,g0,g1,g2,g4,el,d0,bz]
    refine (callP_0 (ef:=f100) k.c100 rfl (f100_ret k.toCallsTs w.mem.s w.mem.sk hn1 ab (by omega) (by omega))).mono ?_
    rintro r h3 ⟨rfl,W2,hs,pm,sr,ho,s3⟩
    have w2:=w.pm2 ⟨hs,ho,s3⟩ pm
    simp (disch:=omega) only [f94_rs,Option.some.injEq,exists_eq_left',bz]
    exact ⟨W2,w2.mem,w2.pm,w2.win.srd sr⟩
  · have d0:decide (((b' - a':Nat):Int) ≤ 12)=false:=decide_eq_false (by omega)
    have hl0:1 ≤ lim:=by split at hbl <;> omega
    have d1:decide ((lim:Int)=0)=false:=decide_eq_false (by omega)
    cases bal with
    | true =>
      rw [if_pos rfl] at hbl
      simp (disch:=omega) only [f94_r2,f94_r3,f94_r5,f94_r7,Nat.reduceEqDiff,↓reduceIte,Bool.false_eq_true,Bool.not_true,g1,g2,g3,g10,el,d0,d1,bz]
      refine f94_R0_x (lim:=lim) (q:=q) (bal:=true) k (by omega) w (by omega) (by omega) ?_ ?_ ?_ ?_ ?_ ?_ ?_ ?_ ?_ ?_
      any_goals (first | exact (fun fr h2 W2 w2 sr=>by simp (disch:=omega) only [f94_rs,Option.some.injEq,exists_eq_left',bz]; exact ⟨W2,w2.mem,w2.pm,sr⟩) | exact (fun s fr h2 hs hI=>by simp (disch:=omega) only [atK_n,loopK_n]; exact ⟨s,hs,hI⟩))
      all_goals simp (disch:=omega) only [getK_set,Nat.reduceEqDiff,↓reduceIte,g0,g1,g2,g3,g4,g10,g11]
    | false =>
      rw [if_neg (by simp)] at hbl
      have elm:(lim:Int) - 1=((lim - 1:Nat):Int):=by omega
      simp (disch:=omega) only [f94_r2,f94_r3,f94_r5,f94_r7,f94_r8,Nat.reduceEqDiff,↓reduceIte,Bool.false_eq_true,Bool.not_false,g0,g1,g2,g3,g4,g10,el,d0,d1,bz]
      refine (callP_0 (ef:=f102) k.c102 rfl (f102_ret k w.mem.s w.mem.sk (by omega) wl (by omega) (by omega))).mono ?_
      rintro r h3 ⟨rfl,W2,m2,pm2⟩
      have w2:=w.pm2 m2 pm2
      simp (disch:=omega) only [f94_r9,Nat.reduceEqDiff,↓reduceIte,g3,elm,bz]
      refine f94_R0_x (lim:=lim - 1) (q:=q) (bal:=false) k (by omega) w2 (by omega) (by omega) ?_ ?_ ?_ ?_ ?_ ?_ ?_ ?_ ?_ ?_
      any_goals (first | exact (fun fr h2 W2 w2 sr=>by simp (disch:=omega) only [f94_rs,Option.some.injEq,exists_eq_left',bz]; exact ⟨W2,w2.mem,w2.pm,sr⟩) | exact (fun s fr h2 hs hI=>by simp (disch:=omega) only [atK_n,loopK_n]; exact ⟨s,hs,hI⟩))
      all_goals simp (disch:=omega) only [getK_set,Nat.reduceEqDiff,↓reduceIte,g0,g1,g2,g4,g10,g11]
theorem f82x_ret (k:CallsTr fs) (s:SoT idb v h) (hv:Sk 2 qE h v Z) (hn:Z.Nodup) (hW:Z.length ≤ 21):Ret fs f82 [v,cmV idb] h fun r h'=>r = .tup [] ∧ ∃ W1,Mem h v idb W1 h'∧W1.Perm Z∧W1.Pairwise fun x y=>bfB x y=true:=by
  apply ret_of rfl
  show W fs none f82_c _ _ _
  unfold f82_c
  have hl:=hv.len
  have fu:fw .u64 (Z.length:Int)=(Z.length:Int):=by
    show (bif Nat.ble Z.length (kmax .u64) then Int.ofNat Z.length else _)=_
    rw [Nat.ble_eq_true_of_le (show Z.length ≤ kmax .u64 from by show Z.length ≤ 18446744073709551615; omega)]; rfl
  simp (disch:=omega) only [f82_r0,f82_r1,Nat.reduceEqDiff,↓reduceIte,hl,fu,bz]
  refine (callP_0 (ef:=f95) k.c95 rfl (f95x_ret k hW)).mono ?_
  rintro r h2 ⟨⟨b,rfl,hb⟩,rfl⟩
  simp (disch:=omega) only [Nat.reduceEqDiff,↓reduceIte,bz]
  by_cases h0:0 < Z.length
  · refine (callP_0 (ef:=f94) k.c94 rfl (f94x_ret k s hv hn hW h0 (fun h12=>by have:=hb h12; split at this <;> exact ⟨by omega,by omega⟩))).mono ?_
    rintro r h3 ⟨rfl,W1,m,pm,sr⟩
    simp (disch:=omega) only [f82_rs,Option.some.injEq,exists_eq_left',bz]
    refine ⟨W1,m,pm.perm,Srd.pair ?_⟩
    rw [pm.len]; exact sr
  · have hz:Z = []:=List.length_eq_zero_iff.1 (by omega)
    subst hz
    refine (callP_0 (ef:=f94) k.c94 rfl (P:=fun r h'=>r = .tup []∧h'=h2) ?_).mono ?_
    · apply ret_of rfl
      show W fs none f94_c _ _ _
      unfold f94_c
      have d0:decide ((0:Int) ≤ 12)=true:=rfl
      simp (disch:=omega) only [f94_r0,f94_r1,List.length_nil,Int.natCast_zero,bz]
      refine W_loop (fun (_:Unit) fr h1=>h1=h2∧fr.get (K.ofNat 0)=some (v)∧fr.get (K.ofNat 1)=some (.i .i64 0)∧fr.get (K.ofNat 2)=some (.i .i64 0)∧fr.get (K.ofNat 4)=some (cmV idb)) (fun _=>0) ?_ () ⟨rfl,by simp (disch:=omega) only [getK_set,Nat.reduceEqDiff,↓reduceIte,and_self]⟩
      rintro _ fr h2 ⟨rfl,g0,g1,g2,g4⟩
      rw [f94_l0_e]
      simp (disch:=omega) only [f94_r2,f94_r3,f94_r4,Nat.reduceEqDiff,↓reduceIte,g0,g1,g2,g4,Int.sub_self,d0,bz]
      refine (callP_0 (ef:=f100) k.c100 rfl (f111e_ret hv)).mono ?_
      rintro r h3 ⟨rfl,rfl⟩
      simp (disch:=omega) only [f94_rs,Option.some.injEq,exists_eq_left',and_self,bz]
    · rintro r h3 ⟨rfl,rfl⟩
      simp (disch:=omega) only [f82_rs,Option.some.injEq,exists_eq_left',bz]
      exact ⟨[],⟨hv,Onl.refl,s⟩, .refl _, .nil⟩
theorem f56x_ret {bd:Nat} (k:CallsTr fs) (hv:Sk 2 qE h v Z) (hn:Z.Nodup) (hW:Z.length ≤ 21) (ho:Own bd v) (hb:bd ≤ h.nx.nat) (hc:HC h):Ret fs f56 [v, .fn (K.ofNat 57) []] h fun r h'=>r = .tup [] ∧ ∃ W1,Sk 2 qE h' v W1∧W1.Perm Z∧(W1.Pairwise fun x y=>bfB x y=true)∧Grow bd h h':=by
  apply ret_of rfl
  show W fs none f56_c _ _ _
  unfold f56_c
  have cf:cellsN 1 (.fn (K.ofNat 57) [])=some [.fn (K.ofNat 57) []]:=rfl
  have gr1:Grow h.nx.nat h (h.new (.cells 1 [.fn (K.ofNat 57) []])):=Grow.new (Nat.le_refl _) _
  have e1:(h.new (.cells 1 [.fn (K.ofNat 57) []])).get h.nx = .cells 1 [.fn (K.ofNat 57) []]:=get_new_same
  simp (disch:=omega) only [f56_r0,f56_r1,x_mkfn,Nat.reduceEqDiff,↓reduceIte,cf,bz]
  generalize h.new (.cells 1 [.fn (K.ofNat 57) []])=h2 at *
  have hlt:=hv.lt hc
  refine (callP_0 (ef:=f82) k.c82 rfl (f82x_ret (idb:=h.nx) k ⟨e1,fun off n sz e=>by have:=hlt _ _ _ _ e; omega,gr1.hc hc⟩ (hv.grow hc gr1) hn hW)).mono ?_
  rintro r h3 ⟨rfl,W1,m,pm,pw⟩
  simp (disch:=omega) only [f56_rs,Option.some.injEq,exists_eq_left',bz]
  exact ⟨W1,m.sk,pm,pw,(gr1.low hb).trans (m.o.grow ho (Nat.le_trans hb gr1.nx))⟩
end
end Go.Ev
namespace Go.Ev
open Go Go.RowKit
noncomputable def f19_r0:List EOper := [oG 4 (.as (.c .sn)),oG 5 (.as (cG 0))]
noncomputable def f19_r1:List EOper := [oG 10 (.mv (tG 0)),oG 11 (.mv (tG 1)),oG 12 (.call (fG 9) [(tG 10),(tG 11)]),oG 6 (.as (tG 12))]
noncomputable def f19_r2:List EOper := [oG 13 (.mv (tG 6)),oG 14 (.bin .neq (tG 13) (cG 0))]
noncomputable def f19_r3:List EOper := [oG 15 (.mv (tG 6)),oG 4 (.as (.c .sn)),oG 5 (.as (tG 15))]
noncomputable def f19_r4:List EOper := [oG 16 (.mv (tG 1)),oG 17 (.len (tG 16)),oG 18 (.mkslice 2 [(.i .i64 (.ofNat 0)),(.i .i64 (.ofNat 0))] (tG 17)),oG 7 (.as (tG 18))]
noncomputable def f19_r5:List EOper := [oG 19 (.mv (tG 1)),oG 20 (.len (tG 19)),oG 21 (.mv (cG 0))]
noncomputable def f19_r6:List EOper := [oG 22 (.bin .lss (tG 21) (tG 20))]
noncomputable def f19_r7:List EOper := [oG 23 (.mv (tG 21)),oG 24 (.iads 2 (tG 19) (tG 21)),oG 25 (.ldn 2 (tG 24)),oG 9 (.alloc 2 [(.i .i64 (.ofNat 0)),(.i .i64 (.ofNat 0))]),oG 8 (.as (tG 23)),⟨none,none, .st 2 (tG 9) (tG 25)⟩]
noncomputable def f19_r8:List EOper := [oG 26 (.mv (tG 7)),oG 27 (.mv (tG 8)),oG 28 (.ldn 2 (tG 9)),oG 29 (.call (fG 45) [(tG 28)]),oG 30 (.call (fG 54) [(tG 29)]),oG 31 (.call (fG 55) [(tG 30)]),oG 32 (.iads 2 (tG 26) (tG 27)),⟨none,none, .st 2 (tG 32) (tG 31)⟩]
noncomputable def f19_r9:List EOper := [oG 33 (.bin .add (tG 21) (cG 1)),oG 21 (.mv (tG 33))]
noncomputable def f19_l0:EC:=(.seq (.reg f19_r6) (.seq (.cond (tG 22) .skip (.exit 0)) (.seq (.block 1 (.seq (.reg f19_r7) (.reg f19_r8))) (.reg f19_r9))))
noncomputable def f19_r10:List EOper := [oG 34 (.mv (tG 7)),oG 35 (.call (fG 56) [(tG 34),(fG 57)])]
noncomputable def f19_r11:List EOper := [oG 36 (.mv (tG 7)),oG 4 (.as (tG 36)),oG 5 (.as (cG 0))]
noncomputable def f19_c:EC:=(.seq (.reg f19_r0) (.seq (.seq (.reg f19_r1) (.seq (.reg f19_r2) (.cond (tG 14) (.seq (.reg f19_r3) .ret) .skip))) (.seq (.reg f19_r4) (.seq (.seq (.reg f19_r5) (.block 0 (.loop f19_l0))) (.seq (.reg f19_r10) (.seq (.reg f19_r11) .ret))))))
noncomputable def f19:EF:=⟨37, [.tmp (.ofNat 4), .tmp (.ofNat 5)],f19_c,none⟩
theorem f19_rs:f19.rs = [.tmp (.ofNat 4), .tmp (.ofNat 5)]:=of_eq_true (eq_self _)
theorem ordN_len7 {n:Nat} {F:List Bool} (o:OrdN n F):(arI (rat F)).length ≤ 21:=by
  have e:(arI (rat F)).length=(arw (rat F)).length:=by unfold arI; rw [List.length_map]
  rw [e]
  have inj:∀ x y:Nat × Nat,swN x=swN y→x=y:=fun x y h=>by
    have h1:=congrArg Prod.fst h
    have h2:=congrArg Prod.snd h
    exact Prod.ext h2 h1
  have nd:(arw (rat F) ++ (arw (rat F)).map swN).Nodup:=by
    rw [List.nodup_append]
    refine ⟨arw_nd,?_,fun x hx y hy e=>?_⟩
    · rw [List.Nodup,List.pairwise_map]
      exact (arw_nd (f:=rat F)).imp fun {x y} hxy e=>hxy (inj _ _ e)
    · obtain ⟨z,hz,rfl⟩:=List.mem_map.1 hy
      subst e
      exact o.one (arw_lt hz).2.2 (arw_lt hx).2.2
  have:=nodup_leO nd (m:=arw fun a b => !decide (a=b)) (fun x hx=>by
    have key:∀ a b,rat F a b=true→(a,b) ∈ arw (fun a b => !decide (a=b))∧(b,a) ∈ arw fun a b => !decide (a=b):=fun a b h=>by
      have h1:=rat_lt h
      have h3:a ≠ b:=fun e=>o.irr a (by rw [← e] at h; exact h)
      rw [mem_arw,mem_arw]
      simp
      omega
    rcases List.mem_append.1 hx with hx | hx
    · exact (key x.1 x.2 (arw_lt hx).2.2).1
    · obtain ⟨z,hz,rfl⟩:=List.mem_map.1 hx
      exact (key z.1 z.2 (arw_lt hz).2.2).2)
  rw [List.length_append,List.length_map] at this
  have e42:(arw fun a b => !decide (a=b)).length=42:=rfl
  omega
section
variable {fs:T EF} {h h':H}
theorem swI_in7 {x y:Int × Int} (h:swI x=swI y):x=y:=Prod.ext (congrArg Prod.snd h) (congrArg Prod.fst h)
theorem fill_st7 {A:List (Int × Int)} {z:Int × Int} {i:Nat} (hi:i < A.length):((A.take i).map swI ++ List.replicate (A.length - i) z).set i (swI A[i])=(A.take (i + 1)).map swI ++ List.replicate (A.length - (i + 1)) z:=by
  have e1:A.length - i=(A.length - (i + 1)) + 1:=by omega
  have l1:((A.take i).map swI).length=i:=by simp; omega
  rw [e1,List.replicate_succ,List.take_succ_eq_append_getElem hi,List.map_append,List.set_append_right _ _ (by omega),l1,Nat.sub_self,List.set_cons_zero,List.append_assoc]
  rfl
structure CallsTt (fs:T EF):Prop extends CallsCk fs,CallsTr fs where
  c9:fs.get (K.ofNat 9)=some f9
  c56:fs.get (K.ofNat 56)=some f56
def f19_Ix (h:H) (v u:V) (A:List (Int × Int)) (i:Nat) (fr:Fr) (h1:H):Prop:=i ≤ A.length∧Grow h.nx.nat h h1∧Sk 2 qE h1 u ((A.take i).map swI ++ List.replicate (A.length - i) (0,0))∧fr.get (K.ofNat 7)=some (u)∧fr.get (K.ofNat 19)=some (v)∧fr.get (K.ofNat 20)=some (.i .i64 (A.length:Int))∧fr.get (K.ofNat 21)=some (.i .i64 (i:Int))
theorem f19x_ret {n:Nat} {v:V} {F:List Bool} (k:CallsTt fs) (o:OrdN n F) (h1:1 ≤ n) (hn:n ≤ 7) (hv:Srp h v (arI (rat F))) (hc:HC h):Ret fs f19 [.i .i64 (n:Int),v] h fun r h'=>∃ u,r = .tup [u, .i .i64 0]∧Sk 2 qE h' u (arI (rat (turnR F)))∧Own h.nx.nat u∧Grow h.nx.nat h h':=by
  have l15:=ordN_len7 o
  apply ret_of rfl
  show W fs none f19_c _ _ _
  unfold f19_c
  simp (disch:=omega) only [f19_r0,f19_r1,Nat.reduceEqDiff,↓reduceIte,bz]
  refine (callP_0 (ef:=f9) k.c9 rfl (f9_ret k.toCallsCk hv (by omega) hc)).mono ?_
  rintro r h2 ⟨rfl,g2⟩
  rw [ckO_o h1 (by omega) o]
  have hc2:=g2.hc hc
  have hv2:=hv.grow hc g2
  have d0:decide ((0:Int) ≠ 0)=false:=rfl
  generalize hA:arI (rat F)=A at *
  have hmk:∀ {k:IntKind},mksV 2 [.i .i64 0, .i .i64 0] h2 (.i k (A.length:Int)) = .ok (.sl h2.nx 0 A.length 2) (h2.new (.cells (A.length * 2) (rep (qE (0,0)) A.length))):=mks_p (by omega)
  have hs0:=mksp_sl (h:=h2) (n:=A.length)
  have gl:=Grow.new g2.nx (.cells (A.length * 2) (rep (qE (0,0)) A.length))
  have n3:=nx_new h2 (.cells (A.length * 2) (rep (qE (0,0)) A.length))
  have gA:=g2.trans gl
  have ho:Own h.nx.nat (.sl h2.nx 0 A.length 2):=fun id off m sz e=>by cases e; exact g2.nx
  have hlen:=hv2.len
  simp (disch:=omega) only [f19_r2,f19_r4,f19_r5,x_mks,Nat.reduceEqDiff,↓reduceIte,Bool.false_eq_true,d0,hlen,hmk,bz]
  generalize (V.sl h2.nx 0 A.length 2)=u at *
  generalize h2.new (.cells (A.length * 2) (rep (qE (0,0)) A.length))=h3 at *
  refine W_loop (f19_Ix h v u A) (fun i=>A.length - i) ?_ 0 ⟨by omega,gA,by simpa using hs0,by simp (disch:=omega) only [getK_set,Nat.reduceEqDiff,↓reduceIte,and_self,Int.natCast_zero]⟩
  rintro i fr h4 ⟨hi,hG,hs,g7,g19,g20,g21⟩
  have hc4:=hG.hc hc
  unfold f19_l0
  by_cases hlt:i < A.length
  · have d1:decide ((i:Int) < (A.length:Int))=true:=decide_eq_true (by omega)
    obtain ⟨id,q,p1,p2,_⟩:=(hv.grow hc hG).at2 hlt
    have p2':loadV h4 (.p id q) (many? 2) = .ok (pV A[i]) h4:=p2
    have hst:storeV (h4.new (.cells 2 [.i .i64 0, .i .i64 0])) 2 (.p h4.nx 0) (pV A[i]) = .ok undefV ((h4.new (.cells 2 [.i .i64 0, .i .i64 0])).put h4.nx (.cells 2 [.i .i64 A[i].1, .i .i64 A[i].2])):=st2 (a := .i .i64 0) (b := .i .i64 0) get_new_same
    have n1:=nx_new h4 (.cells 2 [.i .i64 0, .i .i64 0])
    have gB:Grow h4.nx.nat h4 ((h4.new (.cells 2 [.i .i64 0, .i .i64 0])).put h4.nx (.cells 2 [.i .i64 A[i].1, .i .i64 A[i].2])):=(Grow.new (Nat.le_refl _) _).trans (Grow.put (Nat.le_refl _) (by omega) _)
    have c7:((h4.new (.cells 2 [.i .i64 0, .i .i64 0])).put h4.nx (.cells 2 [.i .i64 A[i].1, .i .i64 A[i].2])).get h4.nx = .cells 2 [.i .i64 A[i].1, .i .i64 A[i].2]:=get_put_same
    have l7:loadV ((h4.new (.cells 2 [.i .i64 0, .i .i64 0])).put h4.nx (.cells 2 [.i .i64 A[i].1, .i .i64 A[i].2])) (.p h4.nx 0) (many? 2) = .ok (pV A[i]) ((h4.new (.cells 2 [.i .i64 0, .i .i64 0])).put h4.nx (.cells 2 [.i .i64 A[i].1, .i .i64 A[i].2])):=ldn2 c7
    have hs5:=hs.grow hc4 gB
    have hc5:=gB.hc hc4
    have hG5:=hG.trans (gB.low hG.nx)
    obtain ⟨p,id',m',cs',x1,x2,x3,x4,x5⟩:=hs5.st2 (i:=i) (by simp; omega) (x:=swI A[i]) hc5
    rw [fill_st7 hlt] at x3
    have x2':storeV ((h4.new (.cells 2 [.i .i64 0, .i .i64 0])).put h4.nx (.cells 2 [.i .i64 A[i].1, .i .i64 A[i].2])) 2 p (pV (A[i].2,A[i].1)) = .ok undefV _:=x2
    have gC:=Grow.put (b:=h.nx.nat) (by obtain ⟨off,m,sz,e⟩:=x4; exact ho _ _ _ _ e) x5 (.cells m' cs')
    simp (disch:=omega) only [f19_r6,f19_r7,f19_r8,f19_r9,Nat.reduceEqDiff,↓reduceIte,g7,g19,g20,g21,d1,p1,p2',hst,l7,k.n45,k.n54,k.n55,x1,x2',bz]
    exact ⟨i + 1,by omega,by omega,hG5.trans gC,x3,by simp (disch:=omega) only [getK_set,Nat.reduceEqDiff,↓reduceIte,g7,g19,g20,and_self,Int.natCast_add,Int.natCast_one]⟩
  · have d1:decide ((i:Int) < (A.length:Int))=false:=decide_eq_false (by omega)
    have ei:i=A.length:=by omega
    rw [ei,List.take_length,Nat.sub_self,List.replicate_zero,List.append_nil] at hs
    have nd:(A.map swI).Nodup:=by
      rw [List.Nodup,List.pairwise_map,← hA]
      exact (arI_pw (f:=rat F)).imp fun {x y} hxy e=>bfB_ne hxy (swI_in7 e)
    simp (disch:=omega) only [f19_r6,f19_r10,Nat.reduceEqDiff,↓reduceIte,Bool.false_eq_true,g7,g20,g21,d1,bz]
    refine (callP_0 (ef:=f56) k.c56 rfl (f56x_ret (bd:=h.nx.nat) k.toCallsTr hs nd (by simpa using l15) ho hG.nx hc4)).mono ?_
    rintro r h5 ⟨rfl,W1,hs5,pm,pw,g5⟩
    simp (disch:=omega) only [f19_r11,f19_rs,Option.some.injEq,exists_eq_left',Nat.reduceEqDiff,↓reduceIte,g7,bz]
    rw [← hA] at pm
    have e:=arI_turn pm pw
    subst e
    exact ⟨u,rfl,hs5,ho,hG.trans g5⟩
end
end Go.Ev
namespace Go.Ev
open Go Go.RowKit
noncomputable def f25_r0:List EOper := [oG 4 (.as (.c .sn))]
noncomputable def f25_r1:List EOper := [oG 8 (.mv (tG 0)),oG 9 (.mkslice 1 [(.i .i64 (.ofNat 0))] (tG 8)),oG 5 (.as (tG 9))]
noncomputable def f25_r2:List EOper := [oG 6 (.as (cG 0))]
noncomputable def f25_r3:List EOper := [oG 10 (.mv (tG 6)),oG 11 (.mv (tG 0)),oG 12 (.bin .lss (tG 10) (tG 11))]
noncomputable def f25_r4:List EOper := [oG 7 (.as (cG 0))]
noncomputable def f25_r5:List EOper := [oG 15 (.mv (tG 7)),oG 16 (.mv (tG 1)),oG 17 (.len (tG 16)),oG 18 (.bin .lss (tG 15) (tG 17))]
noncomputable def f25_r6:List Stage := [⟨[oG 21 (.mv (tG 5)),oG 22 (.mv (tG 1)),oG 23 (.mv (tG 7)),oG 24 (.iads 2 (tG 22) (tG 23)),oG 25 (.iadr 2 1 (tG 24) (cG 1)),oG 26 (.ld (tG 25)),oG 27 (.mv (tG 5)),oG 28 (.mv (tG 1)),oG 29 (.mv (tG 7)),oG 30 (.iads 2 (tG 28) (tG 29)),oG 31 (.iadr 2 1 (tG 30) (cG 1)),oG 32 (.ld (tG 31)),oG 33 (.iads 1 (tG 27) (tG 32)),oG 34 (.ld (tG 33)),oG 35 (.mv (tG 5)),oG 36 (.mv (tG 1)),oG 37 (.mv (tG 7)),oG 38 (.iads 2 (tG 36) (tG 37)),oG 39 (.iadr 2 1 (tG 38) (cG 0)),oG 40 (.ld (tG 39)),oG 41 (.iads 1 (tG 35) (tG 40)),oG 42 (.ld (tG 41)),oG 43 (.bin .add (tG 42) (cG 1)),oG 44 (.max (tG 34) (tG 43)),oG 45 (.iads 1 (tG 21) (tG 26))], [],(some ⟨none,none, .st 1 (tG 45) (tG 44)⟩), []⟩,⟨[], [],none, []⟩]
noncomputable def f25_r7:List EOper := [oG 19 (.mv (tG 7)),oG 20 (.bin .add (tG 19) (cG 1)),oG 7 (.as (tG 20))]
noncomputable def f25_l0:EC:=(.seq (.seq (.reg f25_r5) (.cond (tG 18) .skip (.exit 2))) (.seq (.block 3 (.draw f25_r6)) (.reg f25_r7)))
noncomputable def f25_r8:List EOper := [oG 13 (.mv (tG 6)),oG 14 (.bin .add (tG 13) (cG 1)),oG 6 (.as (tG 14))]
noncomputable def f25_l1:EC:=(.seq (.seq (.reg f25_r3) (.cond (tG 12) .skip (.exit 0))) (.seq (.block 1 (.seq (.reg f25_r4) (.block 2 (.loop f25_l0)))) (.reg f25_r8)))
noncomputable def f25_r9:List EOper := [oG 46 (.mv (tG 5)),oG 4 (.as (tG 46))]
noncomputable def f25_c:EC:=(.seq (.reg f25_r0) (.seq (.reg f25_r1) (.seq (.seq (.reg f25_r2) (.block 0 (.loop f25_l1))) (.seq (.reg f25_r9) .ret))))
noncomputable def f25:EF:=⟨47, [.tmp (.ofNat 4)],f25_c,none⟩
theorem f25_rs:f25.rs = [.tmp (.ofNat 4)]:=of_eq_true (eq_self _)
noncomputable def f27_r0:List EOper := [oG 4 (.as (.c .sn))]
noncomputable def f27_r1:List EOper := [oG 5 (.as (.c .sn))]
noncomputable def f27_r2:List EOper := [oG 6 (.as (cG 0))]
noncomputable def f27_r3:List EOper := [oG 8 (.mv (tG 6)),oG 9 (.mv (tG 0)),oG 10 (.bin .lss (tG 8) (tG 9))]
noncomputable def f27_r4:List EOper := [oG 7 (.as (cG 0))]
noncomputable def f27_r5:List EOper := [oG 13 (.mv (tG 7)),oG 14 (.mv (tG 0)),oG 15 (.bin .lss (tG 13) (tG 14))]
noncomputable def f27_r6:List EOper := [oG 18 (.mv (tG 1)),oG 19 (.mv (tG 7)),oG 20 (.mv (tG 6)),oG 21 (.build [(.i .i64 (.ofNat 0)),(.i .i64 (.ofNat 0))] [(0,1,(tG 19)),(1,1,(tG 20))]),oG 22 (.call (fG 36) [(tG 18),(tG 21)])]
noncomputable def f27_r7:List EOper := [oG 23 (.mv (tG 5)),oG 24 (.mv (tG 6)),oG 25 (.mv (tG 7)),oG 26 (.build [(.i .i64 (.ofNat 0)),(.i .i64 (.ofNat 0))] [(0,1,(tG 24)),(1,1,(tG 25))]),oG 27 (.bslice 1 2 [(.i .i64 (.ofNat 0)),(.i .i64 (.ofNat 0))] [(0,2,(tG 26))]),oG 28 (.app 2 (tG 23) (tG 27)),oG 5 (.as (tG 28))]
noncomputable def f27_r8:List EOper := [oG 16 (.mv (tG 7)),oG 17 (.bin .add (tG 16) (cG 1)),oG 7 (.as (tG 17))]
noncomputable def f27_l0:EC:=(.seq (.seq (.reg f27_r5) (.cond (tG 15) .skip (.exit 2))) (.seq (.block 3 (.seq (.reg f27_r6) (.cond (tG 22) (.reg f27_r7) .skip))) (.reg f27_r8)))
noncomputable def f27_r9:List EOper := [oG 11 (.mv (tG 6)),oG 12 (.bin .add (tG 11) (cG 1)),oG 6 (.as (tG 12))]
noncomputable def f27_l1:EC:=(.seq (.seq (.reg f27_r3) (.cond (tG 10) .skip (.exit 0))) (.seq (.block 1 (.seq (.reg f27_r4) (.block 2 (.loop f27_l0)))) (.reg f27_r9)))
noncomputable def f27_r10:List EOper := [oG 29 (.mv (tG 5)),oG 4 (.as (tG 29))]
noncomputable def f27_c:EC:=(.seq (.reg f27_r0) (.seq (.reg f27_r1) (.seq (.seq (.reg f27_r2) (.block 0 (.loop f27_l1))) (.seq (.reg f27_r10) .ret))))
noncomputable def f27:EF:=⟨30, [.tmp (.ofNat 4)],f27_c,none⟩
theorem f27_rs:f27.rs = [.tmp (.ofNat 4)]:=of_eq_true (eq_self _)
noncomputable def f28_r0:List EOper := [oG 6 (.as (.c (.b false)))]
noncomputable def f28_r1:List EOper := [oG 7 (.as (cG 0))]
noncomputable def f28_r2:List EOper := [oG 8 (.mv (tG 7)),oG 9 (.mv (tG 2)),oG 10 (.len (tG 9)),oG 11 (.bin .lss (tG 8) (tG 10))]
noncomputable def f28_r3:List Stage := [⟨[oG 14 (.mv (tG 2)),oG 15 (.mv (tG 7)),oG 16 (.iads 1 (tG 14) (tG 15)),oG 17 (.ld (tG 16)),oG 18 (.bin .lss (tG 17) (cG 0)),oG 19 (.mv (tG 18)),gG 20 19 false (.mv (tG 2)),gG 21 19 false (.mv (tG 7)),gG 22 19 false (.iads 1 (tG 20) (tG 21)),gG 23 19 false (.ld (tG 22)),gG 24 19 false (.mv (tG 0)),gG 25 19 false (.bin .geq (tG 23) (tG 24)),oG 26 (.pick (tG 19) (.c (.b true)) (tG 25)),oG 27 (.mv (tG 26)),gG 28 27 false (.mv (tG 7)),gG 29 27 false (.bin .gtr (tG 28) (cG 0)),gG 30 27 false (.mv (tG 29)),gG 31 30 true (.mv (tG 1)),gG 32 30 true (.mv (tG 2)),gG 33 30 true (.mv (tG 7)),gG 34 30 true (.bin .sub (tG 33) (cG 1)),gG 35 30 true (.iads 1 (tG 32) (tG 34)),gG 36 30 true (.ld (tG 35)),gG 37 30 true (.mv (tG 2)),gG 38 30 true (.mv (tG 7)),gG 39 30 true (.iads 1 (tG 37) (tG 38)),gG 40 30 true (.ld (tG 39)),gG 41 30 true (.build [(.i .i64 (.ofNat 0)),(.i .i64 (.ofNat 0))] [(0,1,(tG 36)),(1,1,(tG 40))])], [],(some (gG 42 30 true (.call (fG 36) [(tG 31),(tG 41)]))), []⟩,⟨[gG 43 30 true (.not (tG 42)),gG 44 27 false (.pick (tG 30) (tG 43) (.c (.b false))),oG 45 (.pick (tG 27) (.c (.b true)) (tG 44))], [],none, []⟩]
noncomputable def f28_r4:List EOper := [oG 6 (.as (.c (.b false)))]
noncomputable def f28_r5:List EOper := [oG 12 (.mv (tG 7)),oG 13 (.bin .add (tG 12) (cG 1)),oG 7 (.as (tG 13))]
noncomputable def f28_l0:EC:=(.seq (.seq (.reg f28_r2) (.cond (tG 11) .skip (.exit 0))) (.seq (.block 1 (.seq (.draw f28_r3) (.cond (tG 45) (.seq (.reg f28_r4) .ret) .skip))) (.reg f28_r5)))
noncomputable def f28_r6:List EOper := [oG 46 (.mv (tG 2)),oG 47 (.len (tG 46)),oG 48 (.bin .geq (tG 47) (cG 1)),oG 6 (.as (tG 48))]
noncomputable def f28_c:EC:=(.seq (.reg f28_r0) (.seq (.seq (.reg f28_r1) (.block 0 (.loop f28_l0))) (.seq (.reg f28_r6) .ret)))
noncomputable def f28:EF:=⟨49, [.tmp (.ofNat 6)],f28_c,none⟩
theorem f28_rs:f28.rs = [.tmp (.ofNat 6)]:=of_eq_true (eq_self _)
noncomputable def f29_r0:List EOper := [oG 4 (.as (.c (.b false)))]
noncomputable def f29_r1:List EOper := [oG 6 (.mv (tG 0)),oG 7 (.len (tG 6)),oG 8 (.mv (tG 1)),oG 9 (.len (tG 8)),oG 10 (.bin .neq (tG 7) (tG 9))]
noncomputable def f29_r2:List EOper := [oG 4 (.as (.c (.b false)))]
noncomputable def f29_r3:List EOper := [oG 5 (.as (cG 0))]
noncomputable def f29_r4:List EOper := [oG 11 (.mv (tG 5)),oG 12 (.mv (tG 0)),oG 13 (.len (tG 12)),oG 14 (.bin .lss (tG 11) (tG 13))]
noncomputable def f29_r5:List Stage := [⟨[oG 17 (.mv (tG 0)),oG 18 (.mv (tG 5)),oG 19 (.iads 1 (tG 17) (tG 18)),oG 20 (.ld (tG 19)),oG 21 (.mv (tG 1)),oG 22 (.mv (tG 5)),oG 23 (.iads 1 (tG 21) (tG 22)),oG 24 (.ld (tG 23)),oG 25 (.bin .neq (tG 20) (tG 24))], [],none, []⟩]
noncomputable def f29_r6:List EOper := [oG 4 (.as (.c (.b false)))]
noncomputable def f29_r7:List EOper := [oG 15 (.mv (tG 5)),oG 16 (.bin .add (tG 15) (cG 1)),oG 5 (.as (tG 16))]
noncomputable def f29_l0:EC:=(.seq (.seq (.reg f29_r4) (.cond (tG 14) .skip (.exit 0))) (.seq (.block 1 (.seq (.draw f29_r5) (.cond (tG 25) (.seq (.reg f29_r6) .ret) .skip))) (.reg f29_r7)))
noncomputable def f29_r8:List EOper := [oG 4 (.as (.c (.b true)))]
noncomputable def f29_c:EC:=(.seq (.reg f29_r0) (.seq (.seq (.reg f29_r1) (.cond (tG 10) (.seq (.reg f29_r2) .ret) .skip)) (.seq (.seq (.reg f29_r3) (.block 0 (.loop f29_l0))) (.seq (.reg f29_r8) .ret))))
noncomputable def f29:EF:=⟨26, [.tmp (.ofNat 4)],f29_c,none⟩
theorem f29_rs:f29.rs = [.tmp (.ofNat 4)]:=of_eq_true (eq_self _)
noncomputable def f31_r0:List EOper := [oG 4 (.as (.c .sn))]
noncomputable def f31_r1:List EOper := [oG 5 (.as (.c .sn))]
noncomputable def f31_r2:List EOper := [oG 6 (.as (cG 0))]
noncomputable def f31_r3:List EOper := [oG 8 (.mv (tG 6)),oG 9 (.mv (tG 0)),oG 10 (.bin .lss (tG 8) (tG 9))]
noncomputable def f31_r4:List EOper := [oG 13 (.mv (tG 6)),oG 14 (.bin .add (tG 13) (cG 1)),oG 7 (.as (tG 14))]
noncomputable def f31_r5:List EOper := [oG 15 (.mv (tG 7)),oG 16 (.mv (tG 0)),oG 17 (.bin .lss (tG 15) (tG 16))]
noncomputable def f31_r6:List EOper := [oG 20 (.mv (tG 1)),oG 21 (.mv (tG 6)),oG 22 (.mv (tG 7)),oG 23 (.build [(.i .i64 (.ofNat 0)),(.i .i64 (.ofNat 0))] [(0,1,(tG 21)),(1,1,(tG 22))]),oG 24 (.call (fG 36) [(tG 20),(tG 23)]),oG 25 (.mv (tG 24)),gG 26 25 false (.mv (tG 1)),gG 27 25 false (.mv (tG 7)),gG 28 25 false (.mv (tG 6)),gG 29 25 false (.build [(.i .i64 (.ofNat 0)),(.i .i64 (.ofNat 0))] [(0,1,(tG 27)),(1,1,(tG 28))]),gG 30 25 false (.call (fG 36) [(tG 26),(tG 29)]),oG 31 (.pick (tG 25) (.c (.b true)) (tG 30))]
noncomputable def f31_r7:List EOper := [oG 32 (.mv (tG 5)),oG 33 (.mv (tG 6)),oG 34 (.mv (tG 7)),oG 35 (.build [(.i .i64 (.ofNat 0)),(.i .i64 (.ofNat 0))] [(0,1,(tG 33)),(1,1,(tG 34))]),oG 36 (.bslice 1 2 [(.i .i64 (.ofNat 0)),(.i .i64 (.ofNat 0))] [(0,2,(tG 35))]),oG 37 (.app 2 (tG 32) (tG 36)),oG 5 (.as (tG 37))]
noncomputable def f31_r8:List EOper := [oG 18 (.mv (tG 7)),oG 19 (.bin .add (tG 18) (cG 1)),oG 7 (.as (tG 19))]
noncomputable def f31_l0:EC:=(.seq (.seq (.reg f31_r5) (.cond (tG 17) .skip (.exit 2))) (.seq (.block 3 (.seq (.reg f31_r6) (.cond (tG 31) (.reg f31_r7) .skip))) (.reg f31_r8)))
noncomputable def f31_r9:List EOper := [oG 11 (.mv (tG 6)),oG 12 (.bin .add (tG 11) (cG 1)),oG 6 (.as (tG 12))]
noncomputable def f31_l1:EC:=(.seq (.seq (.reg f31_r3) (.cond (tG 10) .skip (.exit 0))) (.seq (.block 1 (.seq (.reg f31_r4) (.block 2 (.loop f31_l0)))) (.reg f31_r9)))
noncomputable def f31_r10:List EOper := [oG 38 (.mv (tG 5)),oG 4 (.as (tG 38))]
noncomputable def f31_c:EC:=(.seq (.reg f31_r0) (.seq (.reg f31_r1) (.seq (.seq (.reg f31_r2) (.block 0 (.loop f31_l1))) (.seq (.reg f31_r10) .ret))))
noncomputable def f31:EF:=⟨39, [.tmp (.ofNat 4)],f31_c,none⟩
theorem f31_rs:f31.rs = [.tmp (.ofNat 4)]:=of_eq_true (eq_self _)
section
variable {fs:T EF} {h h':H}
/-! ### The reference's Graph -/
def f31_A (h0:H) (n:Nat) (v:V) (G:Nat→Nat→Bool) (a:Nat) (fr:Fr) (h1:H):Prop:=a ≤ n ∧ ∃ u,Sk 2 qE h1 u (arP G (7 * a))∧Own h0.nx.nat u∧Grow h0.nx.nat h0 h1∧fr.get (K.ofNat 0)=some (.i .i64 (n:Int))∧fr.get (K.ofNat 1)=some (v)∧fr.get (K.ofNat 5)=some (u)∧fr.get (K.ofNat 6)=some (.i .i64 (a:Int))
def f31_B (h0:H) (n:Nat) (v:V) (G:Nat→Nat→Bool) (a:Nat) (b:Nat) (fr:Fr) (h1:H):Prop:=a + 1 ≤ b∧b ≤ n ∧ ∃ u,Sk 2 qE h1 u (arP G (7 * a + b))∧Own h0.nx.nat u∧Grow h0.nx.nat h0 h1∧fr.get (K.ofNat 0)=some (.i .i64 (n:Int))∧fr.get (K.ofNat 1)=some (v)∧fr.get (K.ofNat 5)=some (u)∧fr.get (K.ofNat 6)=some (.i .i64 (a:Int))∧fr.get (K.ofNat 7)=some (.i .i64 (b:Int))
theorem f31_ret {n:Nat} {v:V} {g:Nat→Nat→Bool} {F:List Bool} (h40:fs.get (.ofNat 36)=some f36) (hg:Gph n g) (hgF:∀ a b,a < b→(g a b=true ↔ rat F a b=true ∨ rat F b a=true)) (hv:Srp h v (arI (rat F))) (hc:HC h):Ret fs f31 [.i .i64 (n:Int),v] h fun r h'=>Sk 2 qE h' r (arI g)∧Own h.nx.nat r∧Grow h.nx.nat h h':=by
  have hlb:=arI_len (g:=rat F)
  have hn7:=hg.n7
  apply ret_of rfl
  show W fs none f31_c _ _ _
  unfold f31_c
  simp (disch:=omega) only [f31_r0,f31_r1,f31_r2,bz]
  refine W_loop (f31_A h n v g) (fun a=>n - a) ?_ 0 ⟨by omega, .sn,Sk.nil,Own.sn,Grow.refl _ _,by simp (disch:=omega) only [getK_set,Nat.reduceEqDiff,↓reduceIte,and_self,Int.natCast_zero]⟩
  rintro a fr h1 ⟨ha,u,hs,ho,hG,g0,g1,g5,g6⟩
  unfold f31_l1
  by_cases hlt:a < n
  · have d0:decide ((a:Int) < (n:Int))=true:=decide_eq_true (by omega)
    have e0:arP g (7 * a + (a + 1))=arP g (7 * a):=by
      have:=arP_skip (g:=g) (a:=a) (b:=0) (c:=a + 1) (by omega) (by omega) (fun d _ hd=>by
        cases e:g a d with
        | false=>rfl
        | true=>have:=(hg.up _ _ e).1; omega)
      rw [this,Nat.add_zero]
    simp (disch:=omega) only [f31_r3,f31_r4,Nat.reduceEqDiff,↓reduceIte,g0,g6,d0,bz]
    refine W_loop (f31_B h n v g a) (fun b=>n + 1 - b) ?_ (a + 1) ⟨by omega,by omega,u,by rw [e0]; exact hs,ho,hG,by simp (disch:=omega) only [getK_set,Nat.reduceEqDiff,↓reduceIte,g0,g1,g5,g6,and_self,Int.natCast_add,Int.natCast_one]⟩
    clear hs ho hG g0 g1 g5 g6 fr
    rintro b fr h2 ⟨hab,hb,u,hs,ho,hG,g0,g1,g5,g6,g7⟩
    have hc2:=hG.hc hc
    have hv2:=hv.grow hc hG
    unfold f31_l0
    by_cases hlt2:b < n
    · have d1:decide ((b:Int) < (n:Int))=true:=decide_eq_true (by omega)
      have hsu:=arP_succ (g:=g) (a:=a) (b:=b) (by omega)
      have hpa:V.agg [.i .i64 (a:Int), .i .i64 (b:Int)]=pV ((a:Int),(b:Int)):=rfl
      have hpb:V.agg [.i .i64 (b:Int), .i .i64 (a:Int)]=pV ((b:Int),(a:Int)):=rfl
      have ia:decide (((a:Int),(b:Int)) ∈ arI (rat F))=rat F a b:=by
        rw [Bool.eq_iff_iff,decide_eq_true_eq,mem_arI']
        exact ⟨fun h=>h.2.2,fun h=>⟨by omega,by omega,h⟩⟩
      have ib:decide (((b:Int),(a:Int)) ∈ arI (rat F))=rat F b a:=by
        rw [Bool.eq_iff_iff,decide_eq_true_eq,mem_arI']
        exact ⟨fun h=>h.2.2,fun h=>⟨by omega,by omega,h⟩⟩
      have push:∀ {h3:H},Grow h.nx.nat h h3→HC h3→Sk 2 qE h3 u (arP g (7 * a + b)) → ∃ u' h4,appV 2 (h3.new (.cells (1 * 2) [.i .i64 (a:Int), .i .i64 (b:Int)])) u (.sl h3.nx 0 1 2) = .ok u' h4∧Sk 2 qE h4 u' (arP g (7 * a + b) ++ [((a:Int),(b:Int))])∧Own h.nx.nat u'∧Grow h.nx.nat h3 h4:=fun {h3} gB hc3 hs3=>by
        have hl:=arP_len (g:=g) (i:=7 * a + b)
        obtain ⟨u',h4,a1,s1,o1,gr1,_⟩:=Sk.push qE_len (by omega) (x:=((a:Int),(b:Int))) hs3 ho gB.nx hc3 (by omega)
        exact ⟨u',h4,a1,s1,o1,gr1⟩
      have cp:cellsN 2 (.agg [.i .i64 (a:Int), .i .i64 (b:Int)])=some [.i .i64 (a:Int), .i .i64 (b:Int)]:=rfl
      have cp2:cellsN 2 (pV ((a:Int),(b:Int)))=some [.i .i64 (a:Int), .i .i64 (b:Int)]:=rfl
      have sp:setMany [V.i .i64 0,V.i .i64 0] 0 [V.i .i64 (a:Int),V.i .i64 (b:Int)] = [V.i .i64 (a:Int),V.i .i64 (b:Int)]:=rfl
      simp (disch:=omega) only [f31_r5,f31_r6,Nat.reduceEqDiff,↓reduceIte,g0,g1,g6,g7,d1,hpa,bz]
      refine (callP_0 (ef:=f36) h40 rfl (f36_ret hv2 inI_arI (x:=((a:Int),(b:Int))) (inI_nat (by omega) (by omega)) (by omega) hc2)).mono ?_
      rintro r h3 ⟨rfl,g3⟩
      rw [ia]
      have hc3:=g3.hc hc2
      have hs3:=hs.grow hc2 g3
      have gB:=hG.trans (g3.low hG.nx)
      cases hr:rat F a b with
      | true =>
        rw [if_pos ((hgF a b (by omega)).2 (.inl hr))] at hsu
        obtain ⟨u',h4,a1,s1,o1,gr1⟩:=push gB hc3 hs3
        simp (disch:=omega) only [f31_r7,f31_r8,Nat.reduceEqDiff,↓reduceIte,Bool.false_eq_true,Bool.not_true,g5,g6,g7,hpa,fill_c,cp2,sp,a1,bz]
        exact ⟨b + 1,by omega,by omega,by omega,u',by rw [hsu]; exact s1,o1,gB.trans gr1,by simp (disch:=omega) only [getK_set,Nat.reduceEqDiff,↓reduceIte,g0,g1,g6,and_self,Int.natCast_add,Int.natCast_one]⟩
      | false =>
        simp (disch:=omega) only [Nat.reduceEqDiff,↓reduceIte,Bool.not_false,g1,g6,g7,hpb,bz]
        refine (callP_0 (ef:=f36) h40 rfl (f36_ret (hv2.grow hc2 g3) inI_arI (x:=((b:Int),(a:Int))) (inI_nat (by omega) (by omega)) (by omega) hc3)).mono ?_
        rintro r h4 ⟨rfl,g4⟩
        rw [ib]
        have hc4:=g4.hc hc3
        have hs4:=hs3.grow hc3 g4
        have gC:=gB.trans (g4.low gB.nx)
        cases hr2:rat F b a with
        | true =>
          rw [if_pos ((hgF a b (by omega)).2 (.inr hr2))] at hsu
          obtain ⟨u',h5,a1,s1,o1,gr1⟩:=push gC hc4 hs4
          simp (disch:=omega) only [f31_r7,f31_r8,Nat.reduceEqDiff,↓reduceIte,Bool.false_eq_true,g5,g6,g7,hpa,fill_c,cp2,sp,a1,bz]
          exact ⟨b + 1,by omega,by omega,by omega,u',by rw [hsu]; exact s1,o1,gC.trans gr1,by simp (disch:=omega) only [getK_set,Nat.reduceEqDiff,↓reduceIte,g0,g1,g6,and_self,Int.natCast_add,Int.natCast_one]⟩
        | false =>
          rw [if_neg (fun h => by rcases (hgF a b (by omega)).1 h with h | h
                                  · rw [h] at hr; cases hr
                                  · rw [h] at hr2; cases hr2),List.append_nil] at hsu
          simp (disch:=omega) only [f31_r8,Nat.reduceEqDiff,↓reduceIte,Bool.false_eq_true,g7,bz]
          exact ⟨b + 1,by omega,by omega,by omega,u,by rw [hsu]; exact hs4,ho,gC,by simp (disch:=omega) only [getK_set,Nat.reduceEqDiff,↓reduceIte,g0,g1,g5,g6,and_self,Int.natCast_add,Int.natCast_one]⟩
    · have d1:decide ((b:Int) < (n:Int))=false:=decide_eq_false (by omega)
      have eb:b=n:=by omega
      have e1:arP g (7 * (a + 1))=arP g (7 * a + b):=arP_row (by omega) (fun d hd _=>by
        cases e:g a d with
        | false=>rfl
        | true=>have:=(hg.up _ _ e).2; omega)
      simp (disch:=omega) only [f31_r5,f31_r9,Nat.reduceEqDiff,↓reduceIte,Bool.false_eq_true,g0,g6,g7,d1,bz]
      exact ⟨a + 1,by omega,by omega,u,by rw [e1]; exact hs,ho,hG,by simp (disch:=omega) only [getK_set,Nat.reduceEqDiff,↓reduceIte,g0,g1,g5,and_self,Int.natCast_add,Int.natCast_one]⟩
  · have d0:decide ((a:Int) < (n:Int))=false:=decide_eq_false (by omega)
    have ea:a=n:=by omega
    have e1:arP g (7 * a)=arI g:=arP_end (by omega) (fun x d hx _ hd=>by
      cases e:g x d with
      | false=>rfl
      | true=>have:=hg.up _ _ e; omega)
    rw [e1] at hs
    simp (disch:=omega) only [f31_r3,f31_r10,f31_rs,Option.some.injEq,exists_eq_left',Nat.reduceEqDiff,↓reduceIte,Bool.false_eq_true,g0,g5,g6,d0,bz]
    exact ⟨hs,ho,hG⟩

/-! ### The reference's Turned -/
def f27_A (h0:H) (n:Nat) (v:V) (G:Nat→Nat→Bool) (a:Nat) (fr:Fr) (h1:H):Prop:=a ≤ n ∧ ∃ u,Sk 2 qE h1 u (arP G (7 * a))∧Own h0.nx.nat u∧Grow h0.nx.nat h0 h1∧fr.get (K.ofNat 0)=some (.i .i64 (n:Int))∧fr.get (K.ofNat 1)=some (v)∧fr.get (K.ofNat 5)=some (u)∧fr.get (K.ofNat 6)=some (.i .i64 (a:Int))
def f27_B (h0:H) (n:Nat) (v:V) (G:Nat→Nat→Bool) (a:Nat) (b:Nat) (fr:Fr) (h1:H):Prop:=b ≤ n ∧ ∃ u,Sk 2 qE h1 u (arP G (7 * a + b))∧Own h0.nx.nat u∧Grow h0.nx.nat h0 h1∧fr.get (K.ofNat 0)=some (.i .i64 (n:Int))∧fr.get (K.ofNat 1)=some (v)∧fr.get (K.ofNat 5)=some (u)∧fr.get (K.ofNat 6)=some (.i .i64 (a:Int))∧fr.get (K.ofNat 7)=some (.i .i64 (b:Int))
theorem f27_ret {n:Nat} {v:V} {F:List Bool} (h36:fs.get (.ofNat 36)=some f36) (o:OrdN n F) (hn7:n ≤ 7) (hv:Srp h v (arI (rat F))) (hc:HC h):Ret fs f27 [.i .i64 (n:Int),v] h fun r h'=>Sk 2 qE h' r (arI (rat (turnR F)))∧Own h.nx.nat r∧Grow h.nx.nat h h':=by
  have hlb:=arI_len (g:=rat F)
  have o':=o.turn
  apply ret_of rfl
  show W fs none f27_c _ _ _
  unfold f27_c
  simp (disch:=omega) only [f27_r0,f27_r1,f27_r2,bz]
  refine W_loop (f27_A h n v (rat (turnR F))) (fun a=>n - a) ?_ 0 ⟨by omega, .sn,Sk.nil,Own.sn,Grow.refl _ _,by simp (disch:=omega) only [getK_set,Nat.reduceEqDiff,↓reduceIte,and_self,Int.natCast_zero]⟩
  rintro a fr h1 ⟨ha,u,hs,ho,hG,g0,g1,g5,g6⟩
  unfold f27_l1
  by_cases hlt:a < n
  · have d0:decide ((a:Int) < (n:Int))=true:=decide_eq_true (by omega)
    simp (disch:=omega) only [f27_r3,f27_r4,Nat.reduceEqDiff,↓reduceIte,g0,g6,d0,bz]
    refine W_loop (f27_B h n v (rat (turnR F)) a) (fun b=>n - b) ?_ 0 ⟨by omega,u,by rw [Nat.add_zero]; exact hs,ho,hG,by simp (disch:=omega) only [getK_set,Nat.reduceEqDiff,↓reduceIte,g0,g1,g5,g6,and_self,Int.natCast_zero]⟩
    clear hs ho hG g0 g1 g5 g6 fr
    rintro b fr h2 ⟨hb,u,hs,ho,hG,g0,g1,g5,g6,g7⟩
    have hc2:=hG.hc hc
    have hv2:=hv.grow hc hG
    unfold f27_l0
    by_cases hlt2:b < n
    · have d1:decide ((b:Int) < (n:Int))=true:=decide_eq_true (by omega)
      have hsu:=arP_succ (g:=rat (turnR F)) (a:=a) (b:=b) (by omega)
      have hpb:V.agg [.i .i64 (b:Int), .i .i64 (a:Int)]=pV ((b:Int),(a:Int)):=rfl
      have ib:decide (((b:Int),(a:Int)) ∈ arI (rat F))=rat (turnR F) a b:=by
        rw [Bool.eq_iff_iff,decide_eq_true_eq,mem_arI',turnR_iff]
        exact ⟨fun h=>h.2.2,fun h=>⟨by omega,by omega,h⟩⟩
      have cp:cellsN 2 (.agg [.i .i64 (a:Int), .i .i64 (b:Int)])=some [.i .i64 (a:Int), .i .i64 (b:Int)]:=rfl
      have cp2:cellsN 2 (pV ((a:Int),(b:Int)))=some [.i .i64 (a:Int), .i .i64 (b:Int)]:=rfl
      have hpa:V.agg [.i .i64 (a:Int), .i .i64 (b:Int)]=pV ((a:Int),(b:Int)):=rfl
      have sp:setMany [V.i .i64 0,V.i .i64 0] 0 [V.i .i64 (a:Int),V.i .i64 (b:Int)] = [V.i .i64 (a:Int),V.i .i64 (b:Int)]:=rfl
      simp (disch:=omega) only [f27_r5,f27_r6,Nat.reduceEqDiff,↓reduceIte,g0,g1,g6,g7,d1,hpb,bz]
      refine (callP_0 (ef:=f36) h36 rfl (f36_ret hv2 inI_arI (x:=((b:Int),(a:Int))) (inI_nat (by omega) (by omega)) (by omega) hc2)).mono ?_
      rintro r h3 ⟨rfl,g3⟩
      rw [ib]
      have hc3:=g3.hc hc2
      have hs3:=hs.grow hc2 g3
      have gB:=hG.trans (g3.low hG.nx)
      cases hr:rat (turnR F) a b with
      | true =>
        rw [if_pos hr] at hsu
        have hl:=arP_len (g:=rat (turnR F)) (i:=7 * a + b)
        obtain ⟨u',h4,a1,s1,o1,gr1,_⟩:=Sk.push qE_len (by omega) (x:=((a:Int),(b:Int))) hs3 ho gB.nx hc3 (by omega)
        have a1:appV 2 (h3.new (.cells (1 * 2) [.i .i64 (a:Int), .i .i64 (b:Int)])) u (.sl h3.nx 0 1 2) = .ok u' h4:=a1
        simp (disch:=omega) only [f27_r7,f27_r8,Nat.reduceEqDiff,↓reduceIte,g5,g6,g7,hpa,fill_c,cp2,sp,a1,bz]
        exact ⟨b + 1,by omega,by omega,u',by rw [← Nat.add_assoc] at *; rw [hsu]; exact s1,o1,gB.trans gr1,by simp (disch:=omega) only [getK_set,Nat.reduceEqDiff,↓reduceIte,g0,g1,g6,and_self,Int.natCast_add,Int.natCast_one]⟩
      | false =>
        rw [if_neg (by rw [hr]; simp),List.append_nil] at hsu
        simp (disch:=omega) only [f27_r8,Nat.reduceEqDiff,↓reduceIte,Bool.false_eq_true,g7,bz]
        exact ⟨b + 1,by omega,by omega,u,by rw [hsu]; exact hs3,ho,gB,by simp (disch:=omega) only [getK_set,Nat.reduceEqDiff,↓reduceIte,g0,g1,g5,g6,and_self,Int.natCast_add,Int.natCast_one]⟩
    · have d1:decide ((b:Int) < (n:Int))=false:=decide_eq_false (by omega)
      have eb:b=n:=by omega
      subst eb
      have e1:arP (rat (turnR F)) (7 * (a + 1))=arP (rat (turnR F)) (7 * a + b):=arP_row (by omega) (fun d hd _=>by
        cases e:rat (turnR F) a d with
        | false=>rfl
        | true=>have:=(o'.lt _ _ e).2; omega)
      simp (disch:=omega) only [f27_r5,f27_r9,Nat.reduceEqDiff,↓reduceIte,Bool.false_eq_true,g0,g6,g7,d1,bz]
      exact ⟨a + 1,by omega,by omega,u,by rw [e1]; exact hs,ho,hG,by simp (disch:=omega) only [getK_set,Nat.reduceEqDiff,↓reduceIte,g0,g1,g5,and_self,Int.natCast_add,Int.natCast_one]⟩
  · have d0:decide ((a:Int) < (n:Int))=false:=decide_eq_false (by omega)
    have ea:a=n:=by omega
    subst ea
    have e1:arP (rat (turnR F)) (7 * a)=arI (rat (turnR F)):=arP_end (by omega) (fun x d hx _ hd=>by
      cases e:rat (turnR F) x d with
      | false=>rfl
      | true=>have:=(o'.lt _ _ e).1; omega)
    rw [e1] at hs
    simp (disch:=omega) only [f27_r3,f27_r10,f27_rs,Option.some.injEq,exists_eq_left',Nat.reduceEqDiff,↓reduceIte,Bool.false_eq_true,g0,g5,g6,d0,bz]
    exact ⟨hs,ho,hG⟩

/-! ### The reference's Layers -/
def f25_A (h0:H) (n:Nat) (v u:V) (F:List Bool) (k:Nat) (fr:Fr) (h1:H):Prop:=k ≤ n∧Grow h0.nx.nat h0 h1∧Sl iE h1 u (nL n (lyS F k))∧fr.get (K.ofNat 0)=some (.i .i64 (n:Int))∧fr.get (K.ofNat 1)=some (v)∧fr.get (K.ofNat 5)=some (u)∧fr.get (K.ofNat 6)=some (.i .i64 (k:Int))
def f25_B (h0:H) (n:Nat) (v u:V) (F:List Bool) (k:Nat) (i:Nat) (fr:Fr) (h1:H):Prop:=i ≤ (arw (rat F)).length∧Grow h0.nx.nat h0 h1∧Sl iE h1 u (nL n (rlL (lyS F k) ((arw (rat F)).take i)))∧fr.get (K.ofNat 0)=some (.i .i64 (n:Int))∧fr.get (K.ofNat 1)=some (v)∧fr.get (K.ofNat 5)=some (u)∧fr.get (K.ofNat 6)=some (.i .i64 (k:Int))∧fr.get (K.ofNat 7)=some (.i .i64 (i:Int))
theorem f25_ret {n:Nat} {v:V} {F:List Bool} (o:OrdN n F) (hn7:n ≤ 7) (hv:Srp h v (arI (rat F))) (hc:HC h):Ret fs f25 [.i .i64 (n:Int),v] h fun r h'=>Sl iE h' r (nL n (lyR F n))∧Own h.nx.nat r∧Grow h.nx.nat h h':=by
  have hlb:=arI_len (g:=rat F)
  have hla:(arI (rat F)).length=(arw (rat F)).length:=by unfold arI; rw [List.length_map]
  apply ret_of rfl
  show W fs none f25_c _ _ _
  unfold f25_c
  have hmk:∀ {k:IntKind},mksV 1 [.i .i64 0] h (.i k (n:Int)) = .ok (.sl h.nx 0 n 1) (h.new (.cells (n * 1) (rep [.i .i64 0] n))):=mks_ints (by omega)
  have hs0:=mks_sl (h:=h) (n:=n)
  have gl:=Grow.new (Nat.le_refl h.nx.nat) (.cells (n * 1) (rep [.i .i64 0] n))
  have ho:Own h.nx.nat (.sl h.nx 0 n 1):=fun id off m sz e=>by cases e; exact Nat.le_refl _
  have e0:List.replicate n (0:Int)=nL n (lyS F 0):=by
    apply List.ext_getElem (by rw [nL_len]; simp)
    intro i h1 h2
    rw [nL_at (by simpa [nL_len] using h2)]
    simp [lyS]
  rw [e0] at hs0
  simp (disch:=omega) only [f25_r0,f25_r1,f25_r2,x_mks,Nat.reduceEqDiff,↓reduceIte,hmk,bz]
  generalize (V.sl h.nx 0 n 1)=u at *
  generalize h.new (.cells (n * 1) (rep [.i .i64 0] n))=h1 at *
  refine W_loop (f25_A h n v u F) (fun k=>n - k) ?_ 0 ⟨by omega,gl,hs0,by simp (disch:=omega) only [getK_set,Nat.reduceEqDiff,↓reduceIte,and_self,Int.natCast_zero]⟩
  rintro k fr h2 ⟨hk,hG,hs,g0,g1,g5,g6⟩
  unfold f25_l1
  by_cases hlt:k < n
  · have d0:decide ((k:Int) < (n:Int))=true:=decide_eq_true (by omega)
    simp (disch:=omega) only [f25_r3,f25_r4,Nat.reduceEqDiff,↓reduceIte,g0,g6,d0,bz]
    refine W_loop (f25_B h n v u F k) (fun i=>(arw (rat F)).length - i) ?_ 0 ⟨by omega,hG,by rw [List.take_zero]; exact hs,by simp (disch:=omega) only [getK_set,Nat.reduceEqDiff,↓reduceIte,g0,g1,g5,g6,and_self,Int.natCast_zero]⟩
    clear hs hG g0 g1 g5 g6 fr
    rintro i fr h3 ⟨hi,hG,hs,g0,g1,g5,g6,g7⟩
    have hc3:=hG.hc hc
    have hv3:=hv.grow hc hG
    have hlen:=hv3.len
    have hvb:beqV u u=true:=hs.beq
    unfold f25_l0
    by_cases hlt2:i < (arw (rat F)).length
    · have d1:decide ((i:Int) < ((arI (rat F)).length:Int))=true:=decide_eq_true (by omega)
      obtain ⟨id,q,pa,_,pc,pd⟩:=hv3.at2 (i:=i) (by omega)
      have hx7:=arw_lt (List.getElem_mem hlt2)
      have hgx:(arI (rat F))[i]'(by omega)=toI (arw (rat F))[i]:=List.getElem_map toI
      rw [hgx] at pc pd
      generalize hxe:(arw (rat F))[i]=x at *
      have hxn:=o.lt _ _ hx7.2.2
      have pc:loadV h3 (.p id (q + 0 * 1)) one? = .ok (.i .i64 (x.1:Int)) h3:=pc
      have pd:loadV h3 (.p id (q + 1 * 1)) one? = .ok (.i .i64 (x.2:Int)) h3:=pd
      have htk:(arw (rat F)).take (i + 1)=(arw (rat F)).take i ++ [x]:=by rw [List.take_succ_eq_append_getElem hlt2,hxe]
      have hdb:rlL (lyS F k) ((arw (rat F)).take i) x.1 + 1 ≤ n:=(rlL_ch (fun y hy=>(arw_lt (List.mem_of_mem_take hy)).2.2) (ly_ch k) x.1).bound o hxn.1
      generalize hd:rlL (lyS F k) ((arw (rat F)).take i)=d at *
      have hd1:rlL (lyS F k) ((arw (rat F)).take (i + 1))=rlx d x:=by rw [htk,rlL_snoc,hd]
      obtain ⟨p1,a1,a2⟩:=hs.at x.1 (by rw [nL_len]; exact hxn.1)
      obtain ⟨p2,b1,b2⟩:=hs.at x.2 (by rw [nL_len]; exact hxn.2)
      rw [nL_at hxn.1] at a2
      rw [nL_at hxn.2] at b2
      have a2:loadV h3 p1 one? = .ok (.i .i64 (d x.1:Int)) h3:=a2
      have b2:loadV h3 p2 one? = .ok (.i .i64 (d x.2:Int)) h3:=b2
      obtain ⟨p,id',m',cs',z1,z2,z3,⟨off',n',sz',hid⟩,z5⟩:=hs.st (i:=x.2) (by rw [nL_len]; exact hxn.2) (x:=max (d x.2:Int) ((d x.1:Int) + 1)) (c := .i .i64 (max (d x.2:Int) ((d x.1:Int) + 1))) rfl rfl hc3
      obtain rfl:p2=p:=by have:=(b1 .i64 h3).symm.trans (z1 .i64 h3); injection this
      rw [nL_set hxn.2] at z3
      simp (disch:=omega) only [f25_r5,f25_r6,f25_r7,xg_max,Nat.reduceEqDiff,↓reduceIte,g1,g5,g7,hlen,d1,pa,pc,pd,a1,a2,b1,b2,z2,bz]
      exact ⟨i + 1,by omega,by omega,hG.trans (Grow.put (ho _ _ _ _ hid) z5 _),by rw [hd1]; exact z3,by simp (disch:=omega) only [getK_set,Nat.reduceEqDiff,↓reduceIte,g0,g1,g5,g6,and_self,Int.natCast_add,Int.natCast_one]⟩
    · have d1:decide ((i:Int) < ((arI (rat F)).length:Int))=false:=decide_eq_false (by omega)
      have ei:i=(arw (rat F)).length:=by omega
      rw [ei,List.take_length] at hs
      simp (disch:=omega) only [f25_r5,f25_r8,Nat.reduceEqDiff,↓reduceIte,Bool.false_eq_true,g1,g6,g7,hlen,d1,bz]
      exact ⟨k + 1,by omega,by omega,hG,hs,by simp (disch:=omega) only [getK_set,Nat.reduceEqDiff,↓reduceIte,g0,g1,g5,and_self,Int.natCast_add,Int.natCast_one]⟩
  · have d0:decide ((k:Int) < (n:Int))=false:=decide_eq_false (by omega)
    have ek:k=n:=by omega
    subst ek
    simp (disch:=omega) only [f25_r3,f25_r9,f25_rs,Option.some.injEq,exists_eq_left',Nat.reduceEqDiff,↓reduceIte,Bool.false_eq_true,g0,g5,g6,d0,bz]
    exact ⟨hs,ho,hG⟩

/-! ### Two lists of numbers -/
def f29_I (h0:H) (v w:V) (L:List Int) (i:Nat) (fr:Fr) (h1:H):Prop:=i ≤ L.length∧h1=h0∧fr.get (K.ofNat 0)=some (v)∧fr.get (K.ofNat 1)=some (w)∧fr.get (K.ofNat 5)=some (.i .i64 (i:Int))
theorem f29_ret {v w:V} {L:List Int} (hv:Sl iE h v L) (hw:Sl iE h w L) (hl:L.length ≤ 1000000):Ret fs f29 [v,w] h fun r h'=>r = .b true∧h'=h:=by
  apply ret_of rfl
  show W fs none f29_c _ _ _
  unfold f29_c
  have e1:=hv.len
  have e2:=hw.len
  have d0:decide ((L.length:Int) ≠ (L.length:Int))=false:=by simp
  simp (disch:=omega) only [f29_r0,f29_r1,f29_r3,Nat.reduceEqDiff,↓reduceIte,Bool.false_eq_true,e1,e2,d0,bz]
  refine W_loop (f29_I h v w L) (fun i=>L.length - i) ?_ 0 ⟨by omega,rfl,by simp (disch:=omega) only [getK_set,Nat.reduceEqDiff,↓reduceIte,and_self,Int.natCast_zero]⟩
  rintro i fr h1 ⟨hi,rfl,g0,g1,g5⟩
  have bv:=hv.beq
  have bw:=hw.beq
  unfold f29_l0
  by_cases hlt:i < L.length
  · have d1:decide ((i:Int) < (L.length:Int))=true:=decide_eq_true (by omega)
    obtain ⟨p,p1,p2⟩:=hv.at i hlt
    obtain ⟨q,q1,q2⟩:=hw.at i hlt
    have p2:loadV h1 p one? = .ok (.i .i64 L[i]) h1:=p2
    have q2:loadV h1 q one? = .ok (.i .i64 L[i]) h1:=q2
    have d2:decide (L[i] ≠ L[i])=false:=by simp
    simp (disch:=omega) only [f29_r4,f29_r5,f29_r7,Nat.reduceEqDiff,↓reduceIte,Bool.false_eq_true,g0,g1,g5,e1,d1,p1,p2,q1,q2,d2,bz]
    exact ⟨i + 1,by omega,by omega,rfl,by simp (disch:=omega) only [getK_set,Nat.reduceEqDiff,↓reduceIte,g0,g1,and_self,Int.natCast_add,Int.natCast_one]⟩
  · have d1:decide ((i:Int) < (L.length:Int))=false:=decide_eq_false (by omega)
    simp (disch:=omega) only [f29_r4,f29_r8,f29_rs,Option.some.injEq,exists_eq_left',Nat.reduceEqDiff,↓reduceIte,Bool.false_eq_true,g0,g5,e1,d1,and_self,bz]
/-! ### The reference's Chain -/
def f28_I (h0:H) (n:Nat) (v w:V) (L:Nat) (i:Nat) (fr:Fr) (h1:H):Prop:=i ≤ L∧Grow h0.nx.nat h0 h1∧fr.get (K.ofNat 0)=some (.i .i64 (n:Int))∧fr.get (K.ofNat 1)=some (v)∧fr.get (K.ofNat 2)=some (w)∧fr.get (K.ofNat 7)=some (.i .i64 (i:Int))
theorem f28_ret {n top:Nat} {v w:V} {F:List Bool} {c:Nat→Nat} (h36:fs.get (.ofNat 36)=some f36) (hn7:n ≤ 7) (ht:top ≤ 100) (k:ChI F n top 0 c) (hv:Srp h v (arI (rat F))) (hw:Sl iE h w (nL (top + 1) c)) (hc:HC h):Ret fs f28 [.i .i64 (n:Int),v,w] h fun r h'=>r = .b true∧Grow h.nx.nat h h':=by
  have hlb:=arI_len (g:=rat F)
  apply ret_of rfl
  show W fs none f28_c _ _ _
  unfold f28_c
  simp (disch:=omega) only [f28_r0,f28_r1,bz]
  refine W_loop (f28_I h n v w (top + 1)) (fun i=>top + 1 - i) ?_ 0 ⟨by omega,Grow.refl _ _,by simp (disch:=omega) only [getK_set,Nat.reduceEqDiff,↓reduceIte,and_self,Int.natCast_zero]⟩
  rintro i fr h1 ⟨hi,hG,g0,g1,g2,g7⟩
  have hc1:=hG.hc hc
  have hw1:=hw.grow hc hG
  have hv1:=hv.grow hc hG
  have el:∀ h',lenV w h' = .ok (.i .i64 ((top + 1:Nat):Int)) h':=fun h'=>by rw [hw1.len,nL_len]
  have bw:=hw.beq
  unfold f28_l0
  by_cases hlt:i < top + 1
  · have d1:decide ((i:Int) < ((top + 1:Nat):Int))=true:=decide_eq_true (by omega)
    obtain ⟨p,p1,p2⟩:=hw1.at i (by rw [nL_len]; exact hlt)
    rw [nL_at hlt] at p2
    have p2:loadV h1 p one? = .ok (.i .i64 (c i:Int)) h1:=p2
    have cl:=k.lt i
    have d2:decide ((c i:Int) < 0)=false:=decide_eq_false (by omega)
    have d3:decide ((c i:Int) ≥ (n:Int))=false:=decide_eq_false (by omega)
    by_cases hz:0 < i
    · have d4:decide ((i:Int) > 0)=true:=decide_eq_true (by omega)
      have ei:(i:Int) - 1=((i - 1:Nat):Int):=by omega
      obtain ⟨q,q1,q2⟩:=hw1.at (i - 1) (by rw [nL_len]; omega)
      rw [nL_at (by omega)] at q2
      have q2:loadV h1 q one? = .ok (.i .i64 (c (i - 1):Int)) h1:=q2
      have cl':=k.lt (i - 1)
      have har:rat F (c (i - 1)) (c i)=true:=by
        have:=k.ar (i - 1) (by omega) (by omega)
        rwa [show i - 1 + 1=i by omega] at this
      have hp:V.agg [.i .i64 (c (i - 1):Int), .i .i64 (c i:Int)]=pV ((c (i - 1):Int),(c i:Int)):=rfl
      have hb:decide (((c (i - 1):Int),(c i:Int)) ∈ arI (rat F))=true:=decide_eq_true (mem_arI'.2 ⟨by omega,by omega,har⟩)
      simp (disch:=omega) only [f28_r2,f28_r3,Nat.reduceEqDiff,↓reduceIte,Bool.false_eq_true,Bool.not_false,g0,g1,g2,g7,el,d1,p1,p2,d2,d3,d4,ei,q1,q2,hp,bz]
      refine (callP_0 (ef:=f36) h36 rfl (f36_ret hv1 inI_arI (x:=((c (i - 1):Int),(c i:Int))) (inI_nat (by omega) (by omega)) (by omega) hc1)).mono ?_
      rintro r h3 ⟨rfl,g3⟩
      rw [hb]
      simp (disch:=omega) only [f28_r5,Nat.reduceEqDiff,↓reduceIte,Bool.false_eq_true,Bool.not_true,Bool.not_false,g7,bz]
      exact ⟨i + 1,by omega,by omega,hG.trans (g3.low hG.nx),by simp (disch:=omega) only [getK_set,Nat.reduceEqDiff,↓reduceIte,g0,g1,g2,and_self,Int.natCast_add,Int.natCast_one]⟩
    · have d4:decide ((i:Int) > 0)=false:=decide_eq_false (by omega)
      simp (disch:=omega) only [f28_r2,f28_r3,f28_r5,Nat.reduceEqDiff,↓reduceIte,Bool.false_eq_true,Bool.not_false,g0,g2,g7,el,d1,p1,p2,d2,d3,d4,bz]
      exact ⟨i + 1,by omega,by omega,hG,by simp (disch:=omega) only [getK_set,Nat.reduceEqDiff,↓reduceIte,g0,g1,g2,and_self,Int.natCast_add,Int.natCast_one]⟩
  · have d1:decide ((i:Int) < ((top + 1:Nat):Int))=false:=decide_eq_false (by omega)
    have d2:decide (((top + 1:Nat):Int) ≥ 1)=true:=decide_eq_true (by omega)
    simp (disch:=omega) only [f28_r2,f28_r6,f28_rs,Option.some.injEq,exists_eq_left',Nat.reduceEqDiff,↓reduceIte,Bool.false_eq_true,g2,g7,el,d1,d2,bz]
    exact hG
end
end Go.Ev
namespace Go.Ev
open Go Go.RowKit
noncomputable def f35_r0:List EOper := [oG 2 (.box 2 (tG 0)),oG 3 (.box 2 (tG 1)),oG 4 (.as (.c (.b false)))]
noncomputable def f35_r1:List EOper := [oG 5 (.iadr 2 1 (tG 2) (cG 0)),oG 6 (.ld (tG 5)),oG 7 (.iadr 2 1 (tG 3) (cG 0)),oG 8 (.ld (tG 7)),oG 9 (.bin .lss (tG 6) (tG 8)),oG 10 (.mv (tG 9)),gG 11 10 false (.iadr 2 1 (tG 2) (cG 0)),gG 12 10 false (.ld (tG 11)),gG 13 10 false (.iadr 2 1 (tG 3) (cG 0)),gG 14 10 false (.ld (tG 13)),gG 15 10 false (.bin .eql (tG 12) (tG 14)),gG 16 10 false (.mv (tG 15)),gG 17 16 true (.iadr 2 1 (tG 2) (cG 1)),gG 18 16 true (.ld (tG 17)),gG 19 16 true (.iadr 2 1 (tG 3) (cG 1)),gG 20 16 true (.ld (tG 19)),gG 21 16 true (.bin .lss (tG 18) (tG 20)),gG 22 10 false (.pick (tG 16) (tG 21) (.c (.b false))),oG 23 (.pick (tG 10) (.c (.b true)) (tG 22)),oG 4 (.as (tG 23))]
noncomputable def f35_c:EC:=(.seq (.reg f35_r0) (.seq (.reg f35_r1) .ret))
noncomputable def f35:EF:=⟨24, [.tmp (.ofNat 4)],f35_c,none⟩
theorem f35_rs:f35.rs = [.tmp (.ofNat 4)]:=of_eq_true (eq_self _)
noncomputable def f7_r0:List EOper := [oG 4 (.as (.c (.b false)))]
noncomputable def f7_r1:List EOper := [oG 5 (.as (cG 0))]
noncomputable def f7_r2:List EOper := [oG 9 (.mv (tG 5)),oG 10 (.mv (tG 1)),oG 11 (.len (tG 10)),oG 12 (.bin .lss (tG 9) (tG 11))]
noncomputable def f7_r3:List Stage := [⟨[oG 15 (.mv (tG 1)),oG 16 (.mv (tG 5)),oG 17 (.iads 2 (tG 15) (tG 16)),oG 18 (.iadr 2 1 (tG 17) (cG 0)),oG 19 (.ld (tG 18)),oG 20 (.mv (tG 1)),oG 21 (.mv (tG 5)),oG 22 (.iads 2 (tG 20) (tG 21)),oG 23 (.iadr 2 1 (tG 22) (cG 1)),oG 24 (.ld (tG 23))], [],(some (oG 6 (.as (tG 19)))), []⟩,⟨[], [oG 20 (.mv (tG 1)),oG 21 (.mv (tG 5)),oG 22 (.iads 2 (tG 20) (tG 21)),oG 23 (.iadr 2 1 (tG 22) (cG 1)),oG 24 (.ld (tG 23))],(some (oG 7 (.as (tG 24)))), []⟩,⟨[], [],none, []⟩]
noncomputable def f7_r4:List Stage := [⟨[oG 25 (.mv (tG 6)),oG 26 (.bin .lss (tG 25) (cG 0)),oG 27 (.mv (tG 26)),gG 28 27 false (.mv (tG 7)),gG 29 27 false (.bin .lss (tG 28) (cG 0)),oG 30 (.pick (tG 27) (.c (.b true)) (tG 29)),oG 31 (.mv (tG 30)),gG 32 31 false (.mv (tG 6)),gG 33 31 false (.mv (tG 0)),gG 34 31 false (.bin .geq (tG 32) (tG 33)),oG 35 (.pick (tG 31) (.c (.b true)) (tG 34)),oG 36 (.mv (tG 35)),gG 37 36 false (.mv (tG 7)),gG 38 36 false (.mv (tG 0)),gG 39 36 false (.bin .geq (tG 37) (tG 38)),oG 40 (.pick (tG 36) (.c (.b true)) (tG 39)),oG 41 (.mv (tG 40)),gG 42 41 false (.mv (tG 6)),gG 43 41 false (.mv (tG 7)),gG 44 41 false (.bin .eql (tG 42) (tG 43)),oG 45 (.pick (tG 41) (.c (.b true)) (tG 44)),oG 46 (.mv (tG 45)),gG 47 46 false (.mv (tG 1)),gG 48 46 false (.mv (tG 7)),gG 49 46 false (.mv (tG 6)),gG 50 46 false (.build [(.i .i64 (.ofNat 0)),(.i .i64 (.ofNat 0))] [(0,1,(tG 48)),(1,1,(tG 49))])], [],(some (gG 51 46 false (.call (fG 36) [(tG 47),(tG 50)]))), []⟩,⟨[oG 52 (.pick (tG 46) (.c (.b true)) (tG 51)),oG 53 (.mv (tG 52)),gG 54 53 false (.mv (tG 5)),gG 55 53 false (.bin .gtr (tG 54) (cG 0)),gG 56 53 false (.mv (tG 55)),gG 57 56 true (.mv (tG 1)),gG 58 56 true (.mv (tG 5)),gG 59 56 true (.bin .sub (tG 58) (cG 1)),gG 60 56 true (.iads 2 (tG 57) (tG 59)),gG 61 56 true (.ldn 2 (tG 60)),gG 62 56 true (.mv (tG 1)),gG 63 56 true (.mv (tG 5)),gG 64 56 true (.iads 2 (tG 62) (tG 63)),gG 65 56 true (.ldn 2 (tG 64))], [],(some (gG 66 56 true (.call (fG 35) [(tG 61),(tG 65)]))), []⟩,⟨[gG 67 56 true (.not (tG 66)),gG 68 53 false (.pick (tG 56) (tG 67) (.c (.b false))),oG 69 (.pick (tG 53) (.c (.b true)) (tG 68))], [],none, []⟩]
noncomputable def f7_r5:List EOper := [oG 4 (.as (.c (.b false)))]
noncomputable def f7_r6:List EOper := [oG 8 (.as (cG 0))]
noncomputable def f7_r7:List EOper := [oG 70 (.mv (tG 8)),oG 71 (.mv (tG 1)),oG 72 (.len (tG 71)),oG 73 (.bin .lss (tG 70) (tG 72))]
noncomputable def f7_r8:List EOper := [oG 76 (.mv (tG 1)),oG 77 (.mv (tG 8)),oG 78 (.iads 2 (tG 76) (tG 77)),oG 79 (.iadr 2 1 (tG 78) (cG 0)),oG 80 (.ld (tG 79)),oG 81 (.mv (tG 7)),oG 82 (.bin .eql (tG 80) (tG 81)),oG 83 (.mv (tG 82)),gG 84 83 true (.mv (tG 1)),gG 85 83 true (.mv (tG 6)),gG 86 83 true (.mv (tG 1)),gG 87 83 true (.mv (tG 8)),gG 88 83 true (.iads 2 (tG 86) (tG 87)),gG 89 83 true (.iadr 2 1 (tG 88) (cG 1)),gG 90 83 true (.ld (tG 89)),gG 91 83 true (.build [(.i .i64 (.ofNat 0)),(.i .i64 (.ofNat 0))] [(0,1,(tG 85)),(1,1,(tG 90))]),gG 92 83 true (.call (fG 36) [(tG 84),(tG 91)]),gG 93 83 true (.not (tG 92)),oG 94 (.pick (tG 83) (tG 93) (.c (.b false)))]
noncomputable def f7_r9:List EOper := [oG 4 (.as (.c (.b false)))]
noncomputable def f7_r10:List EOper := [oG 74 (.mv (tG 8)),oG 75 (.bin .add (tG 74) (cG 1)),oG 8 (.as (tG 75))]
noncomputable def f7_l0:EC:=(.seq (.seq (.reg f7_r7) (.cond (tG 73) .skip (.exit 2))) (.seq (.block 3 (.seq (.reg f7_r8) (.cond (tG 94) (.seq (.reg f7_r9) .ret) .skip))) (.reg f7_r10)))
noncomputable def f7_r11:List EOper := [oG 13 (.mv (tG 5)),oG 14 (.bin .add (tG 13) (cG 1)),oG 5 (.as (tG 14))]
noncomputable def f7_l1:EC:=(.seq (.seq (.reg f7_r2) (.cond (tG 12) .skip (.exit 0))) (.seq (.block 1 (.seq (.draw f7_r3) (.seq (.seq (.draw f7_r4) (.cond (tG 69) (.seq (.reg f7_r5) .ret) .skip)) (.seq (.reg f7_r6) (.block 2 (.loop f7_l0)))))) (.reg f7_r11)))
noncomputable def f7_r12:List EOper := [oG 4 (.as (.c (.b true)))]
noncomputable def f7_c:EC:=(.seq (.reg f7_r0) (.seq (.seq (.reg f7_r1) (.block 0 (.loop f7_l1))) (.seq (.reg f7_r12) .ret)))
noncomputable def f7:EF:=⟨95, [.tmp (.ofNat 4)],f7_c,none⟩
theorem f7_rs:f7.rs = [.tmp (.ofNat 4)]:=of_eq_true (eq_self _)
section
variable {fs:T EF} {h h':H}
theorem f35_ret {x y:Nat × Nat} (hlt:x.1 < y.1 ∨ (x.1=y.1∧x.2 < y.2)) (hc:HC h):Ret fs f35 [aV x,aV y] h fun r h'=>r = .b true∧Grow h.nx.nat h h':=by
  have _:=hc
  apply ret_of rfl
  show W fs none f35_c _ _ _
  unfold f35_c
  have cx:cellsN 2 (aV x)=some [.i .i64 (x.1:Int), .i .i64 (x.2:Int)]:=rfl
  have cy:cellsN 2 (aV y)=some [.i .i64 (y.1:Int), .i .i64 (y.2:Int)]:=rfl
  have n1:=nx_new h (.cells 2 [.i .i64 (x.1:Int), .i .i64 (x.2:Int)])
  have g1:Grow h.nx.nat h (h.new (.cells 2 [.i .i64 (x.1:Int), .i .i64 (x.2:Int)])):=Grow.new (Nat.le_refl _) _
  have e1:(h.new (.cells 2 [.i .i64 (x.1:Int), .i .i64 (x.2:Int)])).get h.nx = .cells 2 [.i .i64 (x.1:Int), .i .i64 (x.2:Int)]:=get_new_same
  simp (disch:=omega) only [f35_r0,Nat.reduceEqDiff,↓reduceIte,cx,cy,bz]
  generalize h.new (.cells 2 [.i .i64 (x.1:Int), .i .i64 (x.2:Int)])=h1 at *
  have n2:=nx_new h1 (.cells 2 [.i .i64 (y.1:Int), .i .i64 (y.2:Int)])
  have g2:Grow h1.nx.nat h1 (h1.new (.cells 2 [.i .i64 (y.1:Int), .i .i64 (y.2:Int)])):=Grow.new (Nat.le_refl _) _
  have e2:(h1.new (.cells 2 [.i .i64 (y.1:Int), .i .i64 (y.2:Int)])).get h1.nx = .cells 2 [.i .i64 (y.1:Int), .i .i64 (y.2:Int)]:=get_new_same
  generalize h1.new (.cells 2 [.i .i64 (y.1:Int), .i .i64 (y.2:Int)])=h2 at *
  have a1:=(g2.old h.nx (by omega)).trans e1
  have l10:=ld20 a1
  have l11:=ld21 a1
  have l20:=ld20 e2
  have l21:=ld21 e2
  have gA:Grow h.nx.nat h h2:=g1.trans (g2.low (by omega))
  by_cases e:x.1 < y.1
  · have d0:decide ((x.1:Int) < (y.1:Int))=true:=decide_eq_true (by omega)
    simp (disch:=omega) only [f35_r1,f35_rs,Option.some.injEq,exists_eq_left',Nat.reduceEqDiff,↓reduceIte,Bool.false_eq_true,Bool.not_true,l10,l20,d0,bz]
    exact gA
  · have d0:decide ((x.1:Int) < (y.1:Int))=false:=decide_eq_false (by omega)
    have d1:decide ((x.1:Int)=(y.1:Int))=true:=decide_eq_true (by omega)
    have d2:decide ((x.2:Int) < (y.2:Int))=true:=decide_eq_true (by omega)
    simp (disch:=omega) only [f35_r1,f35_rs,Option.some.injEq,exists_eq_left',Nat.reduceEqDiff,↓reduceIte,Bool.false_eq_true,Bool.not_false,l10,l20,l11,l21,d0,d1,d2,bz]
    exact gA
def okAt (C:List Bool) (x:Nat × Nat):Prop:=x.1 ≠ x.2∧rat C x.2 x.1=false ∧ ∀ c,rat C x.2 c=true→rat C x.1 c=true
def isoP (C:List Bool):Prop:=∀ x:Nat × Nat,rat C x.1 x.2=true→okAt C x
structure CallsIo (fs:T EF):Prop where
  c36:fs.get (K.ofNat 36)=some f36
  c35:fs.get (K.ofNat 35)=some f35
def f7_I (h0:H) (n:Nat) (v:V) (C:List Bool) (i:Nat) (fr:Fr) (h1:H):Prop:=i ≤ (arw (rat C)).length∧(∀ (j:Nat) (x:Nat × Nat),j < i→(arw (rat C))[j]? = some x→okAt C x)∧Grow h0.nx.nat h0 h1∧fr.get (K.ofNat 0)=some (.i .i64 (n:Int))∧fr.get (K.ofNat 1)=some (v)∧fr.get (K.ofNat 5)=some (.i .i64 (i:Int))
def f7_J (h0:H) (n:Nat) (v:V) (C:List Bool) (i:Nat) (x:Nat × Nat) (kk:Nat) (fr:Fr) (h1:H):Prop:=kk ≤ (arw (rat C)).length∧(∀ (j:Nat) (y:Nat × Nat),j < kk→(arw (rat C))[j]? = some y→y.1=x.2→rat C x.1 y.2=true)∧Grow h0.nx.nat h0 h1∧fr.get (K.ofNat 0)=some (.i .i64 (n:Int))∧fr.get (K.ofNat 1)=some (v)∧fr.get (K.ofNat 5)=some (.i .i64 (i:Int))∧fr.get (K.ofNat 6)=some (.i .i64 (x.1:Int))∧fr.get (K.ofNat 7)=some (.i .i64 (x.2:Int))∧fr.get (K.ofNat 8)=some (.i .i64 (kk:Int))
theorem f7_ret {n:Nat} {v:V} {C:List Bool} (k:CallsIo fs) (hC:∀ a b,rat C a b=true→a < n∧b < n) (hv:Srp h v (arI (rat C))) (hc:HC h):Ret fs f7 [.i .i64 (n:Int),v] h fun r h'=>∃ bb,r = .b bb∧(bb=true ↔ isoP C)∧Grow h.nx.nat h h':=by
  have hlb:=arI_len (g:=rat C)
  have hlw:(arI (rat C)).length=(arw (rat C)).length:=by unfold arI; rw [List.length_map]
  apply ret_of rfl
  show W fs none f7_c _ _ _
  unfold f7_c
  have hlen:∀ h1,lenV v h1 = .ok (.i .i64 ((arw (rat C)).length:Int)) h1:=fun h1=>by rw [hv.len,hlw]
  simp (disch:=omega) only [f7_r0,f7_r1,bz]
  refine W_loop (f7_I h n v C) (fun i=>(arw (rat C)).length - i) ?_ 0 ⟨by omega,fun j x hj=>by omega,Grow.refl _ _,by simp (disch:=omega) only [getK_set,Nat.reduceEqDiff,↓reduceIte,and_self,Int.natCast_zero]⟩
  rintro i fr h1 ⟨hi,hok,hG,g0,g1,g5⟩
  have hc1:=hG.hc hc
  have hv1:=hv.grow hc hG
  have hvb:=hv.beq
  have z0:∀ ff:Nat→RV,idxV (.i .i64 0) 2 ff=ff 0:=fun _=>rfl
  have z1:∀ ff:Nat→RV,idxV (.i .i64 1) 2 ff=ff 1:=fun _=>rfl
  unfold f7_l1
  by_cases hlt:i < (arw (rat C)).length
  · have d0:decide ((i:Int) < ((arw (rat C)).length:Int))=true:=decide_eq_true (by omega)
    obtain ⟨x,hx⟩:∃ x,(arw (rat C))[i]? = some x:=⟨_,List.getElem?_eq_getElem hlt⟩
    obtain ⟨xl1,xl2,hxC⟩:=arw_lt (List.mem_of_getElem? hx)
    have hxn:=hC _ _ hxC
    obtain ⟨id,q,p1,p2,p3,p4⟩:=hv1.at2 (i:=i) (by omega)
    rw [arI_at hx (by omega)] at p3 p4
    have p3:loadV h1 (.p id (q + 0 * 1)) one? = .ok (.i .i64 (x.1:Int)) h1:=p3
    have p4:loadV h1 (.p id (q + 1 * 1)) one? = .ok (.i .i64 (x.2:Int)) h1:=p4
    have p2:loadV h1 (.p id q) (many? 2) = .ok (aV x) h1:=by rw [arI_at hx (by omega)] at p2; exact p2
    have a0:decide ((x.1:Int) < 0)=false:=decide_eq_false (by omega)
    have a1:decide ((x.2:Int) < 0)=false:=decide_eq_false (by omega)
    have a2:decide ((x.1:Int) ≥ (n:Int))=false:=decide_eq_false (by omega)
    have a3:decide ((x.2:Int) ≥ (n:Int))=false:=decide_eq_false (by omega)
    by_cases e:x.1=x.2
    · have a4:decide ((x.1:Int)=(x.2:Int))=true:=decide_eq_true (by omega)
      simp (disch:=omega) only [f7_r2,f7_r3,f7_r4,f7_r5,f7_rs,stay_iads,stay_ld,beq_p,Option.some.injEq,exists_eq_left',Nat.reduceEqDiff,↓reduceIte,Bool.false_eq_true,Bool.not_true,Bool.not_false,stay_iadr,g0,g1,g5,hlen,d0,p1,p3,p4,z0,z1,hvb,a0,a1,a2,a3,a4,bz]
      exact ⟨false,rfl,⟨(fun h=>by cases h),fun h=>absurd e (h x hxC).1⟩,hG⟩
    · have a4:decide ((x.1:Int)=(x.2:Int))=false:=decide_eq_false (by omega)
      have hav:V.agg [.i .i64 (x.2:Int), .i .i64 (x.1:Int)]=aV (x.2,x.1):=rfl
      simp (disch:=omega) only [f7_r2,f7_r3,f7_r4,stay_iads,stay_ld,beq_p,Nat.reduceEqDiff,↓reduceIte,Bool.false_eq_true,Bool.not_false,stay_iadr,g0,g1,g5,hlen,d0,p1,p3,p4,z0,z1,hvb,a0,a1,a2,a3,a4,hav,bz]
      refine (callP_0 (ef:=f36) k.c36 rfl (f36_ret (x:=((x.2:Int),(x.1:Int))) hv1 inI_arI (inI_nat xl2 xl1) (by omega) hc1)).mono ?_
      rintro r h2 ⟨rfl,gr2⟩
      have hc2:=gr2.hc hc1
      have hG2:=hG.trans (gr2.low hG.nx)
      have hv2:=hv.grow hc hG2
      have d2:decide (((x.2:Int),(x.1:Int)) ∈ arI (rat C))=rat C x.2 x.1:=by
        rw [Bool.eq_iff_iff,decide_eq_true_eq,mem_arI']
        exact ⟨fun h=>h.2.2,fun h=>⟨xl2,xl1,h⟩⟩
      rw [d2]
      cases hr:rat C x.2 x.1 with
      | true =>
        simp (disch:=omega) only [f7_r5,f7_rs,Option.some.injEq,exists_eq_left',Nat.reduceEqDiff,↓reduceIte,Bool.false_eq_true,Bool.not_true,bz]
        exact ⟨false,rfl,⟨(fun h=>by cases h),fun h=>by have:=(h x hxC).2.1; rw [hr] at this; cases this⟩,hG2⟩
      | false =>
        -- the inner loop
        have inner : ∀ (fr : Fr) (h3 : H), Grow h.nx.nat h h3 → fr.get (K.ofNat 0) = some (.i .i64 (n : Int)) ∧ fr.get (K.ofNat 1) = some (v) ∧ fr.get (K.ofNat 5) = some (.i .i64 (i : Int)) ∧ fr.get (K.ofNat 6) = some (.i .i64 (x.1 : Int)) ∧ fr.get (K.ofNat 7) = some (.i .i64 (x.2 : Int)) →
            W fs none (.reg f7_r6) (seqK (W fs none (.block 2 (.loop f7_l0))) (atK 1 (seqK (W fs none (.reg f7_r11)) (loopK (f7_I h n v C) (fun i=>(arw (rat C)).length - i) i (atK 0 (seqK (W fs none (.seq (.reg f7_r12) .ret)) (retK f7 fun r h'=>∃ bb,r = .b bb∧(bb=true ↔ isoP C)∧Grow h.nx.nat h h'))))))) fr h3:=by
          clear g0 g1 g5 fr
          rintro fr h3 hG3 ⟨g0,g1,g5,g6,g7⟩
          simp (disch:=omega) only [f7_r6,bz]
          refine W_loop (f7_J h n v C i x) (fun kk=>(arw (rat C)).length - kk) ?_ 0 ⟨by omega,fun j y hj=>by omega,hG3,by simp (disch:=omega) only [getK_set,Nat.reduceEqDiff,↓reduceIte,g0,g1,g5,g6,g7,and_self,Int.natCast_zero]⟩
          clear g0 g1 g5 g6 g7 hG3
          rintro kk fr h4 ⟨hkk,hin,hG4,g0,g1,g5,g6,g7,g8⟩
          have hc4:=hG4.hc hc
          have hv4:=hv.grow hc hG4
          unfold f7_l0
          by_cases hlt2:kk < (arw (rat C)).length
          · have d3:decide ((kk:Int) < ((arw (rat C)).length:Int))=true:=decide_eq_true (by omega)
            obtain ⟨y,hy⟩:∃ y,(arw (rat C))[kk]? = some y:=⟨_,List.getElem?_eq_getElem hlt2⟩
            obtain ⟨yl1,yl2,hyC⟩:=arw_lt (List.mem_of_getElem? hy)
            obtain ⟨id4,q4,w1,_,w3,w4⟩:=hv4.at2 (i:=kk) (by omega)
            rw [arI_at hy (by omega)] at w3 w4
            have w3:loadV h4 (.p id4 (q4 + 0 * 1)) one? = .ok (.i .i64 (y.1:Int)) h4:=w3
            have w4:loadV h4 (.p id4 (q4 + 1 * 1)) one? = .ok (.i .i64 (y.2:Int)) h4:=w4
            by_cases e2:y.1=x.2
            · have d4:decide ((y.1:Int)=(x.2:Int))=true:=decide_eq_true (by omega)
              have hav2:V.agg [.i .i64 (x.1:Int), .i .i64 (y.2:Int)]=aV (x.1,y.2):=rfl
              simp (disch:=omega) only [f7_r7,f7_r8,Nat.reduceEqDiff,↓reduceIte,g1,g6,g7,g8,hlen,d3,w1,z0,z1,w3,w4,d4,hav2,bz]
              refine (callP_0 (ef:=f36) k.c36 rfl (f36_ret (x:=((x.1:Int),(y.2:Int))) hv4 inI_arI (inI_nat xl1 yl2) (by omega) hc4)).mono ?_
              rintro r h5 ⟨rfl,gr5⟩
              have d5:decide (((x.1:Int),(y.2:Int)) ∈ arI (rat C))=rat C x.1 y.2:=by
                rw [Bool.eq_iff_iff,decide_eq_true_eq,mem_arI']
                exact ⟨fun h=>h.2.2,fun h=>⟨xl1,yl2,h⟩⟩
              rw [d5]
              cases hr2:rat C x.1 y.2 with
              | true =>
                simp (disch:=omega) only [f7_r10,Nat.reduceEqDiff,↓reduceIte,Bool.false_eq_true,Bool.not_true,g8,bz]
                refine ⟨kk + 1,by omega,by omega,fun j z hj hz hz2=>?_,hG4.trans (gr5.low hG4.nx),by simp (disch:=omega) only [getK_set,Nat.reduceEqDiff,↓reduceIte,g0,g1,g5,g6,g7,and_self,Int.natCast_add,Int.natCast_one]⟩
                by_cases ej:j=kk
                · subst ej; rw [hy] at hz; cases hz; exact hr2
                · exact hin j z (by omega) hz hz2
              | false =>
                simp (disch:=omega) only [f7_r9,f7_rs,Option.some.injEq,exists_eq_left',Nat.reduceEqDiff,↓reduceIte,Bool.not_false,bz]
                refine ⟨false,rfl,⟨(fun h=>by cases h),fun h=>?_⟩,hG4.trans (gr5.low hG4.nx)⟩
                have:=(h x hxC).2.2 y.2 (by rw [← e2]; exact hyC)
                rw [hr2] at this; cases this
            · have d4:decide ((y.1:Int)=(x.2:Int))=false:=decide_eq_false (by omega)
              simp (disch:=omega) only [f7_r7,f7_r8,f7_r10,Nat.reduceEqDiff,↓reduceIte,Bool.false_eq_true,g1,g7,g8,hlen,d3,w1,z0,w3,d4,bz]
              refine ⟨kk + 1,by omega,by omega,fun j z hj hz hz2=>?_,hG4,by simp (disch:=omega) only [getK_set,Nat.reduceEqDiff,↓reduceIte,g0,g1,g5,g6,g7,and_self,Int.natCast_add,Int.natCast_one]⟩
              by_cases ej:j=kk
              · subst ej; rw [hy] at hz; cases hz; exact absurd hz2 e2
              · exact hin j z (by omega) hz hz2
          · have d3:decide ((kk:Int) < ((arw (rat C)).length:Int))=false:=decide_eq_false (by omega)
            simp (disch:=omega) only [f7_r7,f7_r11,Nat.reduceEqDiff,↓reduceIte,Bool.false_eq_true,g1,g5,g8,hlen,d3,bz]
            refine ⟨i + 1,by omega,by omega,fun j z hj hz=>?_,hG4,by simp (disch:=omega) only [getK_set,Nat.reduceEqDiff,↓reduceIte,g0,g1,and_self,Int.natCast_add,Int.natCast_one]⟩
            by_cases ej:j=i
            · subst ej
              rw [hx] at hz; cases hz
              refine ⟨e,hr,fun c hcc=>?_⟩
              obtain ⟨jj,hjj,ejj⟩:=List.getElem_of_mem (mem_arw.2 ⟨(rat_lt hcc).1,(rat_lt hcc).2,hcc⟩)
              exact hin jj (x.2,c) (by omega) (by rw [List.getElem?_eq_getElem hjj,ejj]) rfl
            · exact hok j z (by omega) hz
        by_cases hi0:i=0
        · have d3:decide ((i:Int) > 0)=false:=decide_eq_false (by omega)
          simp (disch:=omega) only [Nat.reduceEqDiff,↓reduceIte,Bool.false_eq_true,Bool.not_false,g5,d3,bz]
          exact inner _ _ hG2 (by simp (disch:=omega) only [getK_set,Nat.reduceEqDiff,↓reduceIte,g0,g1,g5,and_self])
        · have d3:decide ((i:Int) > 0)=true:=decide_eq_true (by omega)
          obtain ⟨i',hi'⟩:∃ i',i=i' + 1:=⟨i - 1,by omega⟩
          obtain ⟨y,hy⟩:∃ y,(arw (rat C))[i']? = some y:=⟨_,List.getElem?_eq_getElem (by omega)⟩
          obtain ⟨id4,q4,w1,w2,_,_⟩:=hv2.at2 (i:=i') (by omega)
          have w2:loadV h2 (.p id4 q4) (many? 2) = .ok (aV y) h2:=by rw [arI_at hy (by omega)] at w2; exact w2
          obtain ⟨id5,q5,v1,v2,_,_⟩:=hv2.at2 (i:=i) (by omega)
          have v2:loadV h2 (.p id5 q5) (many? 2) = .ok (aV x) h2:=by rw [arI_at hx (by omega)] at v2; exact v2
          have esub:(i:Int) - 1=(i':Int):=by omega
          have hsort:=arw_sorted (g:=rat C) (i:=i') (by omega)
          have ey:(arw (rat C))[i']'(by omega)=y:=by
            rw [List.getElem?_eq_getElem (by omega)] at hy; exact Option.some.inj hy
          have ex:(arw (rat C))[i' + 1]'(by omega)=x:=by
            have hx':=hx
            rw [hi',List.getElem?_eq_getElem (by omega)] at hx'; exact Option.some.inj hx'
          rw [ey,ex] at hsort
          obtain ⟨yl1,yl2,_⟩:=arw_lt (List.mem_of_getElem? hy)
          simp (disch:=omega) only [Nat.reduceEqDiff,↓reduceIte,Bool.false_eq_true,Bool.not_false,g1,g5,d3,esub,w1,w2,v1,v2,bz]
          refine (callP_0 (ef:=f35) k.c35 rfl (f35_ret (x:=y) (y:=x) (by omega) hc2)).mono ?_
          rintro r h3 ⟨rfl,gr3⟩
          simp (disch:=omega) only [Nat.reduceEqDiff,↓reduceIte,Bool.false_eq_true,Bool.not_true,Bool.not_false,bz]
          exact inner _ _ (hG2.trans (gr3.low hG2.nx)) (by simp (disch:=omega) only [getK_set,Nat.reduceEqDiff,↓reduceIte,g0,g1,g5,and_self])
  · have d0:decide ((i:Int) < ((arw (rat C)).length:Int))=false:=decide_eq_false (by omega)
    simp (disch:=omega) only [f7_r2,f7_r12,f7_rs,Option.some.injEq,exists_eq_left',Nat.reduceEqDiff,↓reduceIte,Bool.false_eq_true,g1,g5,hlen,d0,bz]
    refine ⟨true,rfl,⟨fun _ x hx=>?_,fun _=>rfl⟩,hG⟩
    obtain ⟨j,hj,ej⟩:=List.getElem_of_mem (mem_arw.2 ⟨(rat_lt hx).1,(rat_lt hx).2,hx⟩)
    exact hok j x (by omega) (by rw [List.getElem?_eq_getElem hj,ej])
end
end Go.Ev
namespace Go.Ev
open Go Go.RowKit
noncomputable def f4_r0:List EOper := [oG 6 (.as (.c (.b false)))]
noncomputable def f4_r1:List EOper := [oG 28 (.mv (tG 0)),oG 29 (.mv (tG 1)),oG 30 (.call (fG 24) [(tG 28),(tG 29),(cG 7)]),oG 27 (.mv (tG 30)),oG 31 (.ext (tG 27) 0),oG 32 (.ext (tG 27) 1),oG 7 (.as (tG 31)),oG 8 (.as (tG 32))]
noncomputable def f4_r2:List EOper := [oG 34 (.mv (tG 7)),oG 35 (.mv (tG 8)),oG 36 (.call (fG 14) [(tG 34),(tG 35)]),oG 33 (.mv (tG 36)),oG 37 (.ext (tG 33) 0),oG 38 (.ext (tG 33) 1),oG 39 (.ext (tG 33) 2),oG 9 (.as (tG 37)),oG 10 (.as (tG 38)),oG 11 (.as (tG 39))]
noncomputable def f4_r3:List EOper := [oG 40 (.mv (tG 11)),oG 41 (.bin .neq (tG 40) (cG 0))]
noncomputable def f4_r4:List EOper := [oG 6 (.as (.c (.b false)))]
noncomputable def f4_r5:List EOper := [oG 42 (.mv (tG 10)),oG 43 (.not (tG 42))]
noncomputable def f4_r6:List EOper := [oG 44 (.mv (tG 7)),oG 45 (.bin .rem (tG 44) (cG 5)),oG 46 (.bin .add (cG 1) (tG 45)),oG 7 (.as (tG 46)),oG 9 (.as (.c .sn))]
noncomputable def f4_r7:List EOper := [oG 12 (.as (cG 0))]
noncomputable def f4_r8:List EOper := [oG 47 (.mv (tG 12)),oG 48 (.mv (tG 7)),oG 49 (.bin .lss (tG 47) (tG 48))]
noncomputable def f4_r9:List EOper := [oG 52 (.mv (tG 12)),oG 53 (.bin .add (tG 52) (cG 1)),oG 13 (.as (tG 53))]
noncomputable def f4_r10:List EOper := [oG 54 (.mv (tG 13)),oG 55 (.mv (tG 7)),oG 56 (.bin .lss (tG 54) (tG 55))]
noncomputable def f4_r11:List EOper := [oG 59 (.mv (tG 9)),oG 60 (.mv (tG 12)),oG 61 (.mv (tG 13)),oG 62 (.build [(.i .i64 (.ofNat 0)),(.i .i64 (.ofNat 0))] [(0,1,(tG 60)),(1,1,(tG 61))]),oG 63 (.bslice 1 2 [(.i .i64 (.ofNat 0)),(.i .i64 (.ofNat 0))] [(0,2,(tG 62))]),oG 64 (.app 2 (tG 59) (tG 63)),oG 9 (.as (tG 64))]
noncomputable def f4_r12:List EOper := [oG 57 (.mv (tG 13)),oG 58 (.bin .add (tG 57) (cG 1)),oG 13 (.as (tG 58))]
noncomputable def f4_l0:EC:=(.seq (.seq (.reg f4_r10) (.cond (tG 56) .skip (.exit 2))) (.seq (.block 3 (.reg f4_r11)) (.reg f4_r12)))
noncomputable def f4_r13:List EOper := [oG 50 (.mv (tG 12)),oG 51 (.bin .add (tG 50) (cG 1)),oG 12 (.as (tG 51))]
noncomputable def f4_l1:EC:=(.seq (.seq (.reg f4_r8) (.cond (tG 49) .skip (.exit 0))) (.seq (.block 1 (.seq (.reg f4_r9) (.block 2 (.loop f4_l0)))) (.reg f4_r13)))
noncomputable def f4_r14:List EOper := [oG 65 (.mv (tG 7)),oG 66 (.mv (tG 9)),oG 67 (.call (fG 7) [(tG 65),(tG 66)]),oG 68 (.not (tG 67))]
noncomputable def f4_r15:List EOper := [oG 6 (.as (.c (.b false)))]
noncomputable def f4_r16:List EOper := [oG 70 (.mv (tG 7)),oG 71 (.mv (tG 9)),oG 72 (.call (fG 19) [(tG 70),(tG 71)]),oG 69 (.mv (tG 72)),oG 73 (.ext (tG 69) 0),oG 74 (.ext (tG 69) 1),oG 14 (.as (tG 73)),oG 15 (.as (tG 74))]
noncomputable def f4_r17:List EOper := [oG 76 (.mv (tG 7)),oG 77 (.mv (tG 9)),oG 78 (.call (fG 20) [(tG 76),(tG 77)]),oG 75 (.mv (tG 78)),oG 79 (.ext (tG 75) 0),oG 80 (.ext (tG 75) 1),oG 16 (.as (tG 79)),oG 17 (.as (tG 80))]
noncomputable def f4_r18:List EOper := [oG 82 (.mv (tG 7)),oG 83 (.mv (tG 9)),oG 84 (.call (fG 21) [(tG 82),(tG 83)]),oG 81 (.mv (tG 84)),oG 85 (.ext (tG 81) 0),oG 86 (.ext (tG 81) 1),oG 18 (.as (tG 85)),oG 19 (.as (tG 86))]
noncomputable def f4_r19:List EOper := [oG 88 (.mv (tG 7)),oG 89 (.mv (tG 9)),oG 90 (.call (fG 22) [(tG 88),(tG 89)]),oG 87 (.mv (tG 90)),oG 91 (.ext (tG 87) 0),oG 92 (.ext (tG 87) 1),oG 93 (.ext (tG 87) 2),oG 20 (.alloc 2 [.sn, .sn]),⟨none,none, .st 2 (tG 20) (tG 91)⟩,oG 21 (.as (tG 92)),oG 22 (.as (tG 93))]
noncomputable def f4_r20:List EOper := [oG 94 (.mv (tG 7)),oG 95 (.mv (tG 9)),oG 96 (.call (fG 25) [(tG 94),(tG 95)]),oG 23 (.as (tG 96))]
noncomputable def f4_r21:List EOper := [oG 24 (.as (cG 0))]
noncomputable def f4_r22:List EOper := [oG 25 (.as (cG 0))]
noncomputable def f4_r23:List EOper := [oG 97 (.mv (tG 25)),oG 98 (.mv (tG 7)),oG 99 (.bin .lss (tG 97) (tG 98))]
noncomputable def f4_r24:List EOper := [oG 102 (.mv (tG 24)),oG 103 (.mv (tG 23)),oG 104 (.mv (tG 25)),oG 105 (.iads 1 (tG 103) (tG 104)),oG 106 (.ld (tG 105)),oG 107 (.bin .add (tG 106) (cG 1)),oG 108 (.max (tG 102) (tG 107)),oG 24 (.as (tG 108))]
noncomputable def f4_r25:List EOper := [oG 100 (.mv (tG 25)),oG 101 (.bin .add (tG 100) (cG 1)),oG 25 (.as (tG 101))]
noncomputable def f4_l2:EC:=(.seq (.seq (.reg f4_r23) (.cond (tG 99) .skip (.exit 4))) (.seq (.block 5 (.reg f4_r24)) (.reg f4_r25)))
noncomputable def f4_r26:List EOper := [oG 109 (.mv (tG 15)),oG 110 (.bin .neq (tG 109) (cG 0)),oG 111 (.mv (tG 110)),gG 112 111 false (.mv (tG 14)),gG 113 111 false (.mv (tG 7)),gG 114 111 false (.mv (tG 9)),gG 115 111 false (.call (fG 27) [(tG 113),(tG 114)]),gG 116 111 false (.call (fG 26) [(tG 112),(tG 115)]),gG 117 111 false (.not (tG 116)),oG 118 (.pick (tG 111) (.c (.b true)) (tG 117)),oG 119 (.mv (tG 118)),gG 120 119 false (.mv (tG 17)),gG 121 119 false (.bin .neq (tG 120) (cG 0)),oG 122 (.pick (tG 119) (.c (.b true)) (tG 121)),oG 123 (.mv (tG 122)),gG 124 123 false (.mv (tG 16)),gG 125 123 false (.len (tG 124)),gG 126 123 false (.mv (tG 24)),gG 127 123 false (.bin .neq (tG 125) (tG 126)),oG 128 (.pick (tG 123) (.c (.b true)) (tG 127)),oG 129 (.mv (tG 128)),gG 130 129 false (.mv (tG 7)),gG 131 129 false (.mv (tG 9)),gG 132 129 false (.mv (tG 16)),gG 133 129 false (.call (fG 28) [(tG 130),(tG 131),(tG 132)]),gG 134 129 false (.not (tG 133)),oG 135 (.pick (tG 129) (.c (.b true)) (tG 134)),oG 136 (.mv (tG 135)),gG 137 136 false (.mv (tG 19)),gG 138 136 false (.bin .neq (tG 137) (cG 0)),oG 139 (.pick (tG 136) (.c (.b true)) (tG 138)),oG 140 (.mv (tG 139)),gG 141 140 false (.mv (tG 18)),gG 142 140 false (.mv (tG 23)),gG 143 140 false (.call (fG 29) [(tG 141),(tG 142)]),gG 144 140 false (.not (tG 143)),oG 145 (.pick (tG 140) (.c (.b true)) (tG 144)),oG 146 (.mv (tG 145)),gG 147 146 false (.mv (tG 22)),gG 148 146 false (.bin .neq (tG 147) (cG 0)),oG 149 (.pick (tG 146) (.c (.b true)) (tG 148))]
noncomputable def f4_r27:List EOper := [oG 6 (.as (.c (.b false)))]
noncomputable def f4_r28:List EOper := [oG 150 (.mv (tG 7)),oG 151 (.mv (tG 7)),oG 152 (.mv (tG 9)),oG 153 (.call (fG 31) [(tG 151),(tG 152)]),oG 154 (.call (fG 30) [(tG 150),(tG 153)]),oG 26 (.as (tG 154))]
noncomputable def f4_r29:List EOper := [oG 155 (.mv (tG 21)),oG 156 (.mv (tG 7)),oG 157 (.mv (tG 26)),oG 158 (.call (fG 32) [(tG 156),(tG 157)]),oG 159 (.bin .eql (tG 158) (cG 0)),oG 160 (.eqk (.one none) true (tG 155) (tG 159))]
noncomputable def f4_r30:List EOper := [oG 6 (.as (.c (.b false)))]
noncomputable def f4_r31:List EOper := [oG 161 (.mv (tG 21)),oG 162 (.mv (tG 161)),gG 163 162 true (.mv (tG 7)),gG 164 162 true (.ldn 2 (tG 20)),gG 165 162 true (.call (fG 33) [(tG 163),(tG 164)]),oG 166 (.pick (tG 162) (tG 165) (.c (.b false))),oG 167 (.mv (tG 166)),gG 168 167 true (.mv (tG 7)),gG 169 167 true (.ldn 2 (tG 20)),gG 170 167 true (.call (fG 34) [(tG 168),(tG 169)]),gG 171 167 true (.mv (tG 9)),gG 172 167 true (.call (fG 26) [(tG 170),(tG 171)]),oG 173 (.pick (tG 167) (tG 172) (.c (.b false))),oG 174 (.mv (tG 173)),gG 175 174 false (.mv (tG 21)),gG 176 174 false (.not (tG 175)),gG 177 174 false (.mv (tG 176)),gG 178 177 true (.iadr 2 1 (tG 20) (cG 0)),gG 179 177 true (.ld (tG 178)),gG 180 177 true (.len (tG 179)),gG 181 177 true (.iadr 2 1 (tG 20) (cG 1)),gG 182 177 true (.ld (tG 181)),gG 183 177 true (.len (tG 182)),gG 184 177 true (.bin .add (tG 180) (tG 183)),gG 185 177 true (.bin .eql (tG 184) (cG 0)),gG 186 174 false (.pick (tG 177) (tG 185) (.c (.b false))),oG 187 (.pick (tG 174) (.c (.b true)) (tG 186)),oG 188 (.mv (tG 187)),gG 189 188 true (.call (fG 23) []),oG 190 (.pick (tG 188) (tG 189) (.c (.b false))),oG 6 (.as (tG 190))]
noncomputable def f4_c:EC:=(.seq (.reg f4_r0) (.seq (.reg f4_r1) (.seq (.reg f4_r2) (.seq (.seq (.reg f4_r3) (.cond (tG 41) (.seq (.reg f4_r4) .ret) .skip)) (.seq (.seq (.reg f4_r5) (.cond (tG 43) (.seq (.reg f4_r6) (.seq (.reg f4_r7) (.block 0 (.loop f4_l1)))) .skip)) (.seq (.seq (.reg f4_r14) (.cond (tG 68) (.seq (.reg f4_r15) .ret) .skip)) (.seq (.reg f4_r16) (.seq (.reg f4_r17) (.seq (.reg f4_r18) (.seq (.reg f4_r19) (.seq (.reg f4_r20) (.seq (.reg f4_r21) (.seq (.seq (.reg f4_r22) (.block 4 (.loop f4_l2))) (.seq (.seq (.reg f4_r26) (.cond (tG 149) (.seq (.reg f4_r27) .ret) .skip)) (.seq (.reg f4_r28) (.seq (.seq (.reg f4_r29) (.cond (tG 160) (.seq (.reg f4_r30) .ret) .skip)) (.seq (.reg f4_r31) .ret)))))))))))))))))
noncomputable def f4:EF:=⟨191, [.tmp (.ofNat 6)],f4_c,none⟩
theorem f4_rs:f4.rs = [.tmp (.ofNat 6)]:=of_eq_true (eq_self _)
/-! ### Plain -/
def gO (n:Nat) (F:List Bool) (a b:Nat):Bool:=decide (a < b∧b < n) && (rat F a b || rat F b a)
theorem gO_iff {n:Nat} {F:List Bool} (o:OrdN n F) {a b:Nat} (h:a < b):gO n F a b=true ↔ rat F a b=true ∨ rat F b a=true:=by
  unfold gO
  rw [Bool.and_eq_true,Bool.or_eq_true,decide_eq_true_eq]
  exact ⟨fun h=>h.2,fun h2=>⟨⟨h,h2.elim (fun q=>(o.lt _ _ q).2) fun q=>(o.lt _ _ q).1⟩,h2⟩⟩
theorem gO_gph {n:Nat} {F:List Bool} (h1:1 ≤ n) (h7:n ≤ 7):Gph n (gO n F):=⟨h1,h7,fun a b h=>by
  unfold gO at h
  rw [Bool.and_eq_true,decide_eq_true_eq] at h
  exact h.1⟩
theorem gO_ord {n:Nat} {F:List Bool} (h1:1 ≤ n) (h7:n ≤ 7) (o:OrdN n F):Ord (Er (gR (arI (gO n F)))) (Er F) where
  sub:=fun a b h=>by
    have h:rat F a b=true:=h
    refine (gR_arI (gO_gph h1 h7)).2 ?_
    unfold sy
    rw [Bool.or_eq_true]
    by_cases hab:a < b
    · exact .inl ((gO_iff o hab).2 (.inl h))
    · have:a ≠ b:=fun e=>o.irr a (by rw [← e] at h; exact h)
      exact .inr ((gO_iff o (by omega)).2 (.inr h))
  all:=fun a b h=>by
    have h:=(gR_arI (gO_gph h1 h7)).1 h
    unfold sy at h
    rw [Bool.or_eq_true] at h
    rcases h with h | h
    · exact (gO_iff o ((gO_gph h1 h7).up _ _ h).1).1 h
    · exact ((gO_iff o ((gO_gph h1 h7).up _ _ h).1).1 h).symm
  one:=fun _ _ h=>o.one h
  tr:=fun _ _ _ h1 h2=>o.tr _ _ _ h1 h2
theorem Two.symm {n:Nat} {A B:List Bool} (t:Two n A B):Two n B A where
  a:=t.b
  b:=t.a
  all:=fun x y hx hy h=>by rcases t.all x y hx hy h with h | h | h | h <;> simp [h]
  no:=fun x y h=>⟨fun h2=>(t.no x y h2).1 h,fun h2=>(t.no y x h2).2 h⟩
theorem ordN_iso {n:Nat} {F:List Bool} (o:OrdN n F):isoP F:=fun x h=>⟨fun e=>o.irr x.1 (by rw [← e] at h; exact h),by
  cases e:rat F x.2 x.1 with
  | false=>rfl
  | true=>exact absurd e (o.one h),fun c hc=>o.tr _ _ _ h hc⟩
def allF (n:Nat):List Bool:=rl fun a b=>decide (a < b∧b < n)
theorem allF_ord {n:Nat}:OrdN n (allF n):=by
  have k:∀ a b,rat (allF n) a b=true ↔ (a < 7∧b < 7)∧a < b∧b < n:=fun a b=>by
    unfold allF; rw [rat_rl]; simp only [Bool.and_eq_true,decide_eq_true_eq]
  exact ⟨rl_len,fun a b h=>by have:=(k a b).1 h; omega,fun a h=>by have:=(k a a).1 h; omega,fun a b c h1 h2=>by
    have h1:=(k a b).1 h1
    have h2:=(k b c).1 h2
    exact (k a c).2 (by omega)⟩
def mxS (d:Nat→Nat):Nat→Nat
  | 0=>0
  | i + 1=>max (mxS d i) (d i + 1)
theorem mxS_eq {d:Nat→Nat}:∀ {n:Nat},1 ≤ n→mxS d n=mxT d n + 1
  | 0,h=>by omega
  | 1,_=>by simp [mxS,mxT]
  | n + 2,_=>by
    have:=mxS_eq (d:=d) (n:=n + 1) (by omega)
    show max (mxS d (n + 1)) (d (n + 1) + 1)=max (mxT d (n + 1)) (d (n + 1)) + 1
    rw [this]; omega
noncomputable def f4_T:EC:=(.seq (.seq (.reg f4_r14) (.cond (.t (.ofNat 68)) (.seq (.reg f4_r15) .ret) .skip)) (.seq (.reg f4_r16) (.seq (.reg f4_r17) (.seq (.reg f4_r18) (.seq (.reg f4_r19) (.seq (.reg f4_r20) (.seq (.reg f4_r21) (.seq (.seq (.reg f4_r22) (.block 4 (.loop f4_l2))) (.seq (.seq (.reg f4_r26) (.cond (.t (.ofNat 149)) (.seq (.reg f4_r27) .ret) .skip)) (.seq (.reg f4_r28) (.seq (.seq (.reg f4_r29) (.cond (.t (.ofNat 160)) (.seq (.reg f4_r30) .ret) .skip)) (.seq (.reg f4_r31) .ret))))))))))))
theorem f4_c_e:f4_c=(.seq (.reg f4_r0) (.seq (.reg f4_r1) (.seq (.reg f4_r2) (.seq (.seq (.reg f4_r3) (.cond (.t (.ofNat 41)) (.seq (.reg f4_r4) .ret) .skip)) (.seq (.seq (.reg f4_r5) (.cond (.t (.ofNat 43)) (.seq (.reg f4_r6) (.seq (.reg f4_r7) (.block 0 (.loop f4_l1)))) .skip)) f4_T))))):=rfl
section
variable {fs:T EF} {h:H}
structure CallsOo (fs:T EF):Prop extends CallsOr fs,CallsTt fs,CallsCh fs,CallsRe fs,CallsKl fs,CallsIo fs where
  c24:fs.get (K.ofNat 24)=some f24
  c14:fs.get (K.ofNat 14)=some f14
  c7:fs.get (K.ofNat 7)=some f7
  c19:fs.get (K.ofNat 19)=some f19
  c20:fs.get (K.ofNat 20)=some f20
  c21:fs.get (K.ofNat 21)=some f21
  c22:fs.get (K.ofNat 22)=some f22
  c25:fs.get (K.ofNat 25)=some f25
  c26:fs.get (K.ofNat 26)=some f26
  c27:fs.get (K.ofNat 27)=some f27
  c28:fs.get (K.ofNat 28)=some f28
  c29:fs.get (K.ofNat 29)=some f29
  c30:fs.get (K.ofNat 30)=some f30
  c31:fs.get (K.ofNat 31)=some f31
  c32:fs.get (K.ofNat 32)=some f32
  c33:fs.get (K.ofNat 33)=some f33
  c34:fs.get (K.ofNat 34)=some f34
  c58:fs.get (K.ofNat 58)=some f58
  c65:fs.get (K.ofNat 65)=some f65
  aw:∀ h P,CallP fs (.fn (K.ofNat 23) []) [] h P=P (.b true) h
def f4_I (h0:H) (n:Nat) (v u1 u2 u3 u4:V) (p:K) (ok:Bool) (d:Nat→Nat) (i:Nat) (fr:Fr) (h1:H):Prop:=i ≤ n∧h1=h0∧fr.get (K.ofNat 7)=some (.i .i64 (n:Int))∧fr.get (K.ofNat 9)=some (v)∧fr.get (K.ofNat 14)=some (u1)∧fr.get (K.ofNat 15)=some (.i .i64 0)∧fr.get (K.ofNat 16)=some (u2)∧fr.get (K.ofNat 17)=some (.i .i64 0)∧fr.get (K.ofNat 18)=some (u3)∧fr.get (K.ofNat 19)=some (.i .i64 0)∧fr.get (K.ofNat 20)=some (.p p 0)∧fr.get (K.ofNat 21)=some (.b ok)∧fr.get (K.ofNat 22)=some (.i .i64 0)∧fr.get (K.ofNat 23)=some (u4)∧fr.get (K.ofNat 24)=some (.i .i64 (mxS d i:Int))∧fr.get (K.ofNat 25)=some (.i .i64 (i:Int))
set_option maxRecDepth 100000 in
theorem f4_T_w {n : Nat} {v : V} {F : List Bool} {fr : Fr} {h0 : H} (k : CallsOo fs) (hn1 : 1 ≤ n) (hn7 : n ≤ 7) (o : OrdN n F) (hs : Sk 2 qE h v (arI (rat F))) (hc : HC h) (hG : Grow h0.nx.nat h0 h) (g7 : fr.get (.ofNat 7) = some (.i .i64 (n : Int))) (g9 : fr.get (.ofNat 9) = some v) :
    W fs none f4_T (retK f4 fun r h'=>r = .b true∧Grow h0.nx.nat h0 h') fr h:=by
  have hlb:=arI_len (g:=rat F)
  have hg:=gO_gph (F:=F) hn1 hn7
  have og:=gO_ord hn1 hn7 o
  have ne0:decide ((0:Int) ≠ 0)=false:=rfl
  have eq0:decide ((0:Int)=0)=true:=rfl
  unfold f4_T
  simp (disch:=omega) only [f4_r14,Nat.reduceEqDiff,↓reduceIte,g7,g9,bz]
  refine (callP_0 (ef:=f7) k.c7 rfl (f7_ret k.toCallsIo o.lt hs.srpo hc)).mono ?_
  rintro r h1 ⟨bb,rfl,hbb,g1⟩
  obtain rfl:bb=true:=hbb.2 (ordN_iso o)
  have hc1:=g1.hc hc
  have hs1:=hs.grow hc g1
  have G1:=hG.trans (g1.low hG.nx)
  simp (disch:=omega) only [f4_r16,Nat.reduceEqDiff,↓reduceIte,Bool.false_eq_true,Bool.not_true,g7,g9,bz]
  refine (callP_0 (ef:=f19) k.c19 rfl (f19x_ret k.toCallsTt o hn1 hn7 hs1.srpo hc1)).mono ?_
  rintro r h2 ⟨u1,rfl,su1,ou1,g2⟩
  have hc2:=g2.hc hc1
  have hs2:=hs1.grow hc1 g2
  have G2:=G1.trans (g2.low G1.nx)
  simp (disch:=omega) only [f4_r17,Nat.reduceEqDiff,↓reduceIte,g7,g9,bz]
  refine (callP_0 (ef:=f20) k.c20 rfl (f20_ret k.toCallsCh k.c9 k.c58 o hn1 hn7 hs2.srpo hc2)).mono ?_
  rintro r h3 ⟨u2,c,rfl,ch,su2,ou2,g3⟩
  have hc3:=g3.hc hc2
  have hs3:=hs2.grow hc2 g3
  have G3:=G2.trans (g3.low G2.nx)
  simp (disch:=omega) only [f4_r18,Nat.reduceEqDiff,↓reduceIte,g7,g9,bz]
  refine (callP_0 (ef:=f21) k.c21 rfl (f21_ret k.toCallsCh k.c9 o hn1 hn7 hs3.srpo hc3)).mono ?_
  rintro r h4 ⟨u3,rfl,su3,ou3,g4⟩
  have hc4:=g4.hc hc3
  have hs4:=hs3.grow hc3 g4
  have G4:=G3.trans (g4.low G3.nx)
  have hE:=gR_ord hg o.len og
  simp (disch:=omega) only [f4_r19,Nat.reduceEqDiff,↓reduceIte,g7,g9,bz]
  refine (callP_0 (ef:=f22) k.c22 rfl (f22_ret k.toCallsRe hg o hE hs4.srpo hc4)).mono ?_
  rintro r h5 ⟨⟨b',F',hO',hF',hcase⟩,g5⟩
  have hc5:=g5.hc hc4
  have hs5:=hs4.grow hc4 g5
  have G5:=G4.trans (g5.low G4.nx)
  obtain ⟨x,y,rfl,hxy⟩:∃ x y,r = .tup [.agg [x,y], .b b', .i .i64 0]∧((b'=true∧Sl iE h5 x (lnL (jnR [F,F']) n)∧Sl iE h5 y (lnL (jnR [F,turnR F']) n)) ∨ (b'=false∧x = .sn∧y = .sn)):=by
    rcases hcase with ⟨rfl,u,w,rfl,a,b,_,_⟩ | ⟨rfl,rfl⟩
    · exact ⟨u,w,rfl, .inl ⟨rfl,a,b⟩⟩
    · exact ⟨.sn, .sn,rfl, .inr ⟨rfl,rfl,rfl⟩⟩
  have cxy:cellsN 2 (.agg [x,y])=some [x,y]:=rfl
  have n6:=nx_new h5 (.cells 2 [.sn, .sn])
  have st6:storeV (h5.new (.cells 2 [.sn, .sn])) 2 (.p h5.nx 0) (.agg [x,y]) = .ok undefV ((h5.new (.cells 2 [.sn, .sn])).put h5.nx (.cells 2 [x,y])):=store_p get_new_same cxy (by omega)
  have g6:Grow h5.nx.nat h5 ((h5.new (.cells 2 [.sn, .sn])).put h5.nx (.cells 2 [x,y])):=(Grow.new (Nat.le_refl _) _).trans (Grow.put (Nat.le_refl _) (by omega) _)
  have e6:((h5.new (.cells 2 [.sn, .sn])).put h5.nx (.cells 2 [x,y])).get h5.nx = .cells 2 [x,y]:=get_put_same
  have hc6:=g6.hc hc5
  have hs6:=hs5.grow hc5 g6
  have G6:=G5.trans (g6.low G5.nx)
  have hlt6:h5.nx.nat < ((h5.new (.cells 2 [.sn, .sn])).put h5.nx (.cells 2 [x,y])).nx.nat:=hc6.cells e6
  simp (disch:=omega) only [f4_r20,nth2,Nat.reduceEqDiff,↓reduceIte,g7,g9,st6,bz]
  generalize (h5.new (.cells 2 [.sn, .sn])).put h5.nx (.cells 2 [x,y])=h6 at *
  refine (callP_0 (ef:=f25) k.c25 rfl (f25_ret o hn7 hs6.srpo hc6)).mono ?_
  rintro u4 h7 ⟨su4,ou4,g7'⟩
  have hc7:=g7'.hc hc6
  have hs7:=hs6.grow hc6 g7'
  have G7:=G6.trans (g7'.low G6.nx)
  have e7:=(g7'.old h5.nx hlt6).trans e6
  have hlt7:h5.nx.nat < h7.nx.nat:=hc7.cells e7

  have g67:Grow h5.nx.nat h5 h7:=g6.trans (g7'.low g6.nx)
  have g57:Grow h4.nx.nat h4 h7:=g5.trans (g67.low g5.nx)
  have g47:Grow h3.nx.nat h3 h7:=g4.trans (g57.low g4.nx)
  have g37:Grow h2.nx.nat h2 h7:=g3.trans (g47.low g3.nx)
  have su1':=su1.grow hc2 g37
  have su2':=su2.grow hc3 g47
  have su3':=su3.grow hc4 g57
  simp (disch:=omega) only [f4_r21,f4_r22,↓reduceIte,bz]
  refine W_loop (f4_I h7 n v u1 u2 u3 u4 h5.nx b' (lyR F n)) (fun i=>n - i) ?_ 0 ⟨by omega,rfl,by simp (disch:=omega) only [getK_set,Nat.reduceEqDiff,↓reduceIte,g7,g9,and_self,Int.natCast_zero,mxS]⟩
  clear g7 g9 fr
  rintro i fr h8 ⟨hi,rfl,g7,g9,g14,g15,g16,g17,g18,g19,g20,g21,g22,g23,g24,g25⟩
  have b4:=su4.beq
  unfold f4_l2
  by_cases hlt:i < n
  · have d0:decide ((i:Int) < (n:Int))=true:=decide_eq_true (by omega)
    obtain ⟨p,p1,p2⟩:=su4.at i (by rw [nL_len]; exact hlt)
    rw [nL_at hlt] at p2
    have p2:loadV h8 p one? = .ok (.i .i64 (lyR F n i:Int)) h8:=p2
    have hl:=ly_lt o hlt
    have em:max (mxS (lyR F n) i:Int) ((lyR F n i:Int) + 1)=((mxS (lyR F n) (i + 1):Nat):Int):=by
      show _=((max (mxS (lyR F n) i) (lyR F n i + 1):Nat):Int)
      omega
    simp (disch:=omega) only [f4_r23,f4_r24,f4_r25,x_max,Nat.reduceEqDiff,↓reduceIte,g7,g23,g24,g25,d0,p1,p2,em,bz]
    exact ⟨i + 1,by omega,by omega,rfl,by simp (disch:=omega) only [getK_set,Nat.reduceEqDiff,↓reduceIte,g7,g9,g14,g15,g16,g17,g18,g19,g20,g21,g22,g23,and_self,Int.natCast_add,Int.natCast_one]⟩
  · have d0:decide ((i:Int) < (n:Int))=false:=decide_eq_false (by omega)
    have ei:i=n:=by omega
    subst ei
    rw [mxS_eq hn1] at g24
    have el:∀ h',lenV u2 h' = .ok (.i .i64 ((mxT (lyR F i) i + 1:Nat):Int)) h':=fun h'=>by rw [su2.len,nL_len]
    have dl:decide (((mxT (lyR F i) i + 1:Nat):Int) ≠ ((mxT (lyR F i) i + 1:Nat):Int))=false:=by simp
    have ht:mxT (lyR F i) i ≤ 100:=by
      obtain ⟨v0,v1,v2⟩:=mxT_at (d:=lyR F i) hn1
      have:=ly_lt o v1
      omega
    simp (disch:=omega) only [f4_r23,f4_r26,Nat.reduceEqDiff,↓reduceIte,Bool.false_eq_true,Bool.not_false,g7,g9,g14,g15,g25,d0,ne0,bz]
    refine (callP_0 (ef:=f27) k.c27 rfl (f27_ret k.c36 o hn7 hs7.srpo hc7)).mono ?_
    rintro u5 h9 ⟨su5,_,g9'⟩
    have hc9:=g9'.hc hc7
    have G9:=G7.trans (g9'.low G7.nx)
    have hs9:=hs7.grow hc7 g9'
    simp (disch:=omega) only [Nat.reduceEqDiff,↓reduceIte,Bool.not_false,bz]
    refine (callP_0 (ef:=f26) k.c26 rfl (f26_ret (su1'.grow hc7 g9').srpo su5.srpo inI_arI (by have:=arI_len (g:=rat (turnR F)); omega))).mono ?_
    rintro r h9' ⟨rfl,rfl⟩
    simp (disch:=omega) only [Nat.reduceEqDiff,↓reduceIte,Bool.false_eq_true,Bool.not_true,Bool.not_false,g7,g9,g16,g17,g24,ne0,el,dl,bz]
    refine (callP_0 (ef:=f28) k.c28 rfl (f28_ret k.c36 hn7 ht ch hs9.srpo (su2'.grow hc7 g9') hc9)).mono ?_
    rintro r h10 ⟨rfl,g10⟩
    have hc10:=g10.hc hc9
    have G10:=G9.trans (g10.low G9.nx)
    have hs10:=hs9.grow hc9 g10
    have g710:Grow h8.nx.nat h8 h10:=g9'.trans (g10.low g9'.nx)
    simp (disch:=omega) only [Nat.reduceEqDiff,↓reduceIte,Bool.false_eq_true,Bool.not_true,Bool.not_false,g18,g19,g23,ne0,bz]
    refine (callP_0 (ef:=f29) k.c29 rfl (f29_ret (su3'.grow hc7 g710) (su4.grow hc7 g710) (by rw [nL_len]; omega))).mono ?_
    rintro r h10' ⟨rfl,rfl⟩
    simp (disch:=omega) only [f4_r28,Nat.reduceEqDiff,↓reduceIte,Bool.false_eq_true,Bool.not_true,Bool.not_false,g7,g9,g22,ne0,bz]
    refine (callP_0 (ef:=f31) k.c31 rfl (f31_ret k.c36 hg (fun a b hab=>gO_iff o hab) hs10.srpo hc10)).mono ?_
    rintro u6 h11 ⟨su6,_,g11⟩
    have hc11:=g11.hc hc10
    have hs11:=hs10.grow hc10 g11
    have G11:=G10.trans (g11.low G10.nx)
    simp (disch:=omega) only [Nat.reduceEqDiff,↓reduceIte,bz]
    refine (callP_0 (ef:=f30) k.c30 rfl (f30_ret k.toCallsJn hg su6.srpo hc11)).mono ?_
    rintro u7 h12 ⟨su7,_,g12⟩
    have hc12:=g12.hc hc11
    have hs12:=hs11.grow hc11 g12
    have G12:=G11.trans (g12.low G11.nx)
    simp (disch:=omega) only [f4_r29,Nat.reduceEqDiff,↓reduceIte,g7,g21,bz]
    refine (callP_0 (ef:=f32) k.c32 rfl (f32_ret k.toCallsKl (oth_gph hg) su7.srpo hc12)).mono ?_
    rintro r h13 ⟨rfl,g13⟩
    have hc13:=g13.hc hc12
    have hs13:=hs12.grow hc12 g13
    have G13:=G12.trans (g13.low G12.nx)
    have g113:Grow h8.nx.nat h8 h13:=((g710.trans (g11.low g710.nx)).trans (g12.low (Nat.le_trans g710.nx g11.nx))).trans (g13.low (Nat.le_trans g710.nx (Nat.le_trans g11.nx g12.nx)))
    have e13:=(g113.old h5.nx hlt7).trans e7
    have hbc:decide ((clD (gR (arI (oth i (gO i F)))):Int)=0)=b':=by
      have sy':=symR_g (oth_gph hg)
      cases b' with
      | true=>exact decide_eq_true (by have:=clD_zero.2 ((hF'.yes rfl).cf sy'.gr); omega)
      | false=>exact decide_eq_false (fun h=>(hF'.no rfl).2 (clD_zero.1 (by omega)))
    have kb:keyEq (.one none) (.b b') (.b b')=some true:=by cases b' <;> rfl
    have l70:=ld20 e13
    have l71:=ld21 e13
    have l7:=ldn2 e13
    cases b' with
    | false =>
      rcases hxy with ⟨q,_⟩ | ⟨_,rfl,rfl⟩
      · cases q
      simp (disch:=omega) only [f4_r31,f4_rs,len_sn,Option.some.injEq,exists_eq_left',Nat.reduceEqDiff,↓reduceIte,Bool.false_eq_true,decide_eq_true_eq,Bool.not_true,Bool.not_false,g20,g21,hbc,kb,cond_true,l70,l71,k.aw,Int.add_zero,bz]
      exact G13
    | true =>
      rcases hxy with ⟨_,sx,sy_⟩ | ⟨q,_⟩
      · have kX:lnOk i (lnL (jnR [F,F']) i):=lnL_ok
        have kY:lnOk i (lnL (jnR [F,turnR F']) i):=lnL_ok
        have lX:(lnL (jnR [F,F']) i).length ≤ 1000000:=by rw [kX.1]; omega
        have lY:(lnL (jnR [F,turnR F']) i).length ≤ 1000000:=by rw [kY.1]; omega
        have g513:Grow h5.nx.nat h5 h13:=g67.trans (g113.low g67.nx)
        have sx13:=sx.grow hc5 g513
        have sy13:=sy_.grow hc5 g513
        have t:Two i F F':=(two_g hg o.len hF'.len og (hF'.yes rfl)).symm
        have eC:arI (cmN i (lnL (jnR [F,F']) i) (lnL (jnR [F,turnR F']) i))=arI (rat F):=by
          rw [← cmN_ag hn7 kX kY]
          refine arI_congr fun a b _ _=>?_
          rw [Bool.eq_iff_iff,agR_iff hn7 kX kY]
          by_cases hab:a < i∧b < i
          · exact t.ag hab.1 hab.2
          · exact ⟨fun h=>by have:=bf_lt kX h.1; exact absurd ⟨this.1,this.2.1⟩ hab,fun h=>absurd (o.lt _ _ h) hab⟩
        simp (disch:=omega) only [f4_r31,Nat.reduceEqDiff,↓reduceIte,Bool.false_eq_true,Bool.not_true,g7,g20,g21,hbc,kb,cond_true,l7,bz]
        refine (callP_0 (ef:=f33) k.c33 rfl (f33_ret hn1 hn7 sx13.sr.rx sy13.sr.rx lX lY hc13)).mono ?_
        rintro r h14 ⟨b,rfl,hb,g14'⟩
        obtain rfl:b=true:=hb.2 ⟨kX,kY⟩
        have hc14:=g14'.hc hc13
        have G14:=G13.trans (g14'.low G13.nx)
        have l8:=ldn2 ((g14'.old h5.nx (hc13.cells e13)).trans e13)
        simp (disch:=omega) only [Nat.reduceEqDiff,↓reduceIte,g7,g20,l8,bz]
        refine (callP_0 (ef:=f34) k.c34 rfl (f34_ret k.c65 hn7 (sx13.grow hc13 g14').sr.rx (sy13.grow hc13 g14').sr.rx lX lY hc14)).mono ?_
        rintro u8 h15 ⟨su8,_,g15'⟩
        have G15:=G14.trans (g15'.low G14.nx)
        rw [eC] at su8
        have hs15:=(hs13.grow hc13 g14').grow hc14 g15'
        simp (disch:=omega) only [Nat.reduceEqDiff,↓reduceIte,g9,bz]
        refine (callP_0 (ef:=f26) k.c26 rfl (f26_ret su8.srpo hs15.srpo inI_arI (by omega))).mono ?_
        rintro r h15' ⟨rfl,rfl⟩
        simp (disch:=omega) only [f4_rs,Option.some.injEq,exists_eq_left',Nat.reduceEqDiff,↓reduceIte,Bool.false_eq_true,Bool.not_true,k.aw,bz]
        exact G15
      · cases q
def f4_A (h0:H) (n:Nat) (G:Nat→Nat→Bool) (a:Nat) (fr:Fr) (h1:H):Prop:=a ≤ n ∧ ∃ u,Sk 2 qE h1 u (arP G (7 * a))∧Own h0.nx.nat u∧Grow h0.nx.nat h0 h1∧fr.get (K.ofNat 7)=some (.i .i64 (n:Int))∧fr.get (K.ofNat 9)=some (u)∧fr.get (K.ofNat 12)=some (.i .i64 (a:Int))
def f4_B (h0:H) (n:Nat) (G:Nat→Nat→Bool) (a:Nat) (b:Nat) (fr:Fr) (h1:H):Prop:=a + 1 ≤ b∧b ≤ n ∧ ∃ u,Sk 2 qE h1 u (arP G (7 * a + b))∧Own h0.nx.nat u∧Grow h0.nx.nat h0 h1∧fr.get (K.ofNat 7)=some (.i .i64 (n:Int))∧fr.get (K.ofNat 9)=some (u)∧fr.get (K.ofNat 12)=some (.i .i64 (a:Int))∧fr.get (K.ofNat 13)=some (.i .i64 (b:Int))
theorem f4_ret {n z:Int} {v:V} {l:List (Int × Int)} (k:CallsOo fs) (hv:Srp h v l) (hc:HC h):Ret fs f4 [.i .i64 n,v, .i .i64 z] h fun r h'=>r = .b true∧Grow h.nx.nat h h':=by
  apply ret_of rfl
  show W fs none f4_c _ _ _
  rw [f4_c_e]
  have o7:Int.ofNat 7=((7:Nat):Int):=rfl
  simp (disch:=omega) only [f4_r0,f4_r1,Nat.reduceEqDiff,↓reduceIte,bz]
  refine (callP_0 (ef:=f24) k.c24 rfl (f24_ret (n:=n) (w:=7) hv (by omega) (by omega) hc)).mono ?_
  rintro r h1 ⟨m,e,g,rfl,hm7,hg,he,hoe,gr1⟩
  have hc1:=gr1.hc hc
  simp (disch:=omega) only [f4_r2,Nat.reduceEqDiff,↓reduceIte,bz]
  refine (callP_0 (ef:=f14) k.c14 rfl (f14_ret k.toCallsOr hg he.srpo hc1)).mono ?_
  rintro r h2 ⟨b,F,u,rfl,hF,hu,huo,gr2⟩
  have hc2:=gr2.hc hc1
  have gA:=gr1.trans (gr2.low gr1.nx)
  have ne0:decide ((0:Int) ≠ 0)=false:=rfl
  cases b with
  | true =>
    simp (disch:=omega) only [f4_r3,f4_r5,nth2,Nat.reduceEqDiff,↓reduceIte,Bool.false_eq_true,Bool.not_true,ne0,bz]
    exact f4_T_w k hg.n1 hm7 (ord_n hg hF.len (hF.yes rfl)) hu hc2 gA (by simp (disch:=omega) only [getK_set,Nat.reduceEqDiff,↓reduceIte]) (by simp (disch:=omega) only [getK_set,Nat.reduceEqDiff,↓reduceIte])
  | false =>
    obtain ⟨N,hN,hN1,hN5⟩:∃ N:Nat,1 + (m:Int).tmod 5=(N:Int)∧1 ≤ N∧N ≤ 5:=⟨1 + m % 5,by have:(m:Int).tmod 5=((m % 5:Nat):Int):=rfl; omega,by omega,by omega⟩
    have o:=allF_ord (n:=N)
    simp (disch:=omega) only [f4_r3,f4_r5,f4_r6,f4_r7,bin_rem,nth2,Nat.reduceEqDiff,↓reduceIte,Bool.false_eq_true,Bool.not_false,of5,ne0,hN,bz]
    refine W_loop (f4_A h N (rat (allF N))) (fun a=>N - a) ?_ 0 ⟨by omega, .sn,Sk.nil,Own.sn,gA,by simp (disch:=omega) only [getK_set,Nat.reduceEqDiff,↓reduceIte,and_self,Int.natCast_zero]⟩
    rintro a fr h3 ⟨ha,u,hs,ho,hG,g7,g9,g12⟩
    unfold f4_l1
    by_cases hlt:a < N
    · have d0:decide ((a:Int) < (N:Int))=true:=decide_eq_true (by omega)
      have ke:∀ x y,rat (allF N) x y=true ↔ (x < 7∧y < 7)∧x < y∧y < N:=fun x y=>by
        unfold allF; rw [rat_rl]; simp only [Bool.and_eq_true,decide_eq_true_eq]
      have e0:arP (rat (allF N)) (7 * a + (a + 1))=arP (rat (allF N)) (7 * a):=by
        have:=arP_skip (g:=rat (allF N)) (a:=a) (b:=0) (c:=a + 1) (by omega) (by omega) (fun d _ hd=>by
          cases e:rat (allF N) a d with
          | false=>rfl
          | true=>have:=(ke _ _).1 e; omega)
        rw [this,Nat.add_zero]
      simp (disch:=omega) only [f4_r8,f4_r9,Nat.reduceEqDiff,↓reduceIte,g7,g12,d0,bz]
      refine W_loop (f4_B h N (rat (allF N)) a) (fun b=>N + 1 - b) ?_ (a + 1) ⟨by omega,by omega,u,by rw [e0]; exact hs,ho,hG,by simp (disch:=omega) only [getK_set,Nat.reduceEqDiff,↓reduceIte,g7,g9,g12,and_self,Int.natCast_add,Int.natCast_one]⟩
      clear hs ho hG g7 g9 g12 fr
      rintro b fr h4 ⟨hab,hb,u,hs,ho,hG,g7,g9,g12,g13⟩
      have hc4:=hG.hc hc
      unfold f4_l0
      by_cases hlt2:b < N
      · have d1:decide ((b:Int) < (N:Int))=true:=decide_eq_true (by omega)
        have hsu:=arP_succ (g:=rat (allF N)) (a:=a) (b:=b) (by omega)
        rw [if_pos ((ke _ _).2 (by omega))] at hsu
        have cp:cellsN 2 (.agg [.i .i64 (a:Int), .i .i64 (b:Int)])=some [.i .i64 (a:Int), .i .i64 (b:Int)]:=rfl
        have cp2:cellsN 2 (pV ((a:Int),(b:Int)))=some [.i .i64 (a:Int), .i .i64 (b:Int)]:=rfl
        have hpa:V.agg [.i .i64 (a:Int), .i .i64 (b:Int)]=pV ((a:Int),(b:Int)):=rfl
        have sp:setMany [V.i .i64 0,V.i .i64 0] 0 [V.i .i64 (a:Int),V.i .i64 (b:Int)] = [V.i .i64 (a:Int),V.i .i64 (b:Int)]:=rfl
        have hl:=arP_len (g:=rat (allF N)) (i:=7 * a + b)
        obtain ⟨u',h5,a1,s1,o1,gr5,_⟩:=Sk.push qE_len (by omega) (x:=((a:Int),(b:Int))) hs ho hG.nx hc4 (by omega)
        have a1:appV 2 (h4.new (.cells (1 * 2) [.i .i64 (a:Int), .i .i64 (b:Int)])) u (.sl h4.nx 0 1 2) = .ok u' h5:=a1
        simp (disch:=omega) only [f4_r10,f4_r11,f4_r12,Nat.reduceEqDiff,↓reduceIte,g7,g9,g12,g13,d1,hpa,fill_c,cp2,sp,a1,bz]
        exact ⟨b + 1,by omega,by omega,by omega,u',by rw [hsu]; exact s1,o1,hG.trans gr5,by simp (disch:=omega) only [getK_set,Nat.reduceEqDiff,↓reduceIte,g7,g12,and_self,Int.natCast_add,Int.natCast_one]⟩
      · have d1:decide ((b:Int) < (N:Int))=false:=decide_eq_false (by omega)
        have eb:b=N:=by omega
        have e1:arP (rat (allF N)) (7 * (a + 1))=arP (rat (allF N)) (7 * a + b):=arP_row (by omega) (fun d hd _=>by
          cases e:rat (allF N) a d with
          | false=>rfl
          | true=>have:=(ke _ _).1 e; omega)
        simp (disch:=omega) only [f4_r10,f4_r13,Nat.reduceEqDiff,↓reduceIte,Bool.false_eq_true,g7,g12,g13,d1,bz]
        exact ⟨a + 1,by omega,by omega,u,by rw [e1]; exact hs,ho,hG,by simp (disch:=omega) only [getK_set,Nat.reduceEqDiff,↓reduceIte,g7,g9,and_self,Int.natCast_add,Int.natCast_one]⟩
    · have d0:decide ((a:Int) < (N:Int))=false:=decide_eq_false (by omega)
      have ea:a=N:=by omega
      have e1:arP (rat (allF N)) (7 * a)=arI (rat (allF N)):=arP_end (by omega) (fun x d hx _ hd=>by
        cases e:rat (allF N) x d with
        | false=>rfl
        | true=>have:=(o.lt _ _ e).1; omega)
      rw [e1] at hs
      simp (disch:=omega) only [f4_r8,Nat.reduceEqDiff,↓reduceIte,Bool.false_eq_true,g7,g12,d0,bz]
      exact f4_T_w k hN1 (by omega) o hs (hG.hc hc) hG (by simp (disch:=omega) only [getK_set,Nat.reduceEqDiff,↓reduceIte,g7]) (by simp (disch:=omega) only [getK_set,Nat.reduceEqDiff,↓reduceIte,g9])
end
end Go.Ev
