/-
  Orders: arrows sorted in place: a part is parted at a pivot., and what follows.
-/
import Derived.Test.YtdmnejhjlmeodaaGreatPe
import Derived.Test.YtdmnejhjlmeodaaGreatPh
import Derived.Test.YtdmnejhjlmeodaaGreatPg
namespace Go.Ev
open Go Go.RowKit
noncomputable def f107_r0:List EOper := [oG 10 (.as (cG 0)),oG 11 (.as (.c (.b false)))]
noncomputable def f107_r1:List Stage := [⟨[oG 14 (.mv (tG 0)),oG 15 (.mv (tG 1)),oG 16 (.mv (tG 0)),oG 17 (.mv (tG 3)),oG 18 (.mv (tG 0)),oG 19 (.mv (tG 3)),oG 20 (.iads 2 (tG 18) (tG 19)),oG 21 (.ldn 2 (tG 20)),oG 22 (.mv (tG 0)),oG 23 (.mv (tG 1)),oG 24 (.iads 2 (tG 22) (tG 23)),oG 25 (.ldn 2 (tG 24)),oG 26 (.iads 2 (tG 14) (tG 15))], [],(some ⟨none,none, .st 2 (tG 26) (tG 21)⟩), []⟩,⟨[oG 27 (.iads 2 (tG 16) (tG 17))], [oG 16 (.mv (tG 0)),oG 17 (.mv (tG 3))],(some ⟨none,none, .st 2 (tG 27) (tG 25)⟩), []⟩,⟨[], [],none, []⟩]
noncomputable def f107_r2:List EOper := [oG 28 (.mv (tG 1)),oG 29 (.bin .add (tG 28) (cG 1)),oG 30 (.mv (tG 2)),oG 31 (.bin .sub (tG 30) (cG 1)),oG 12 (.as (tG 29)),oG 13 (.as (tG 31))]
noncomputable def f107_r3:List Stage := [⟨[oG 32 (.mv (tG 12)),oG 33 (.mv (tG 13)),oG 34 (.bin .leq (tG 32) (tG 33)),oG 35 (.mv (tG 34)),gG 36 35 true (.mv (tG 4)),gG 37 35 true (.mv (tG 0)),gG 38 35 true (.mv (tG 12)),gG 39 35 true (.iads 2 (tG 37) (tG 38)),gG 40 35 true (.ldn 2 (tG 39)),gG 41 35 true (.mv (tG 0)),gG 42 35 true (.mv (tG 1)),gG 43 35 true (.iads 2 (tG 41) (tG 42)),gG 44 35 true (.ldn 2 (tG 43))], [],(some (gG 45 35 true (.call (tG 36) [(tG 40),(tG 44)]))), []⟩,⟨[gG 46 35 true (.bin .lss (tG 45) (cG 0)),oG 47 (.pick (tG 35) (tG 46) (.c (.b false)))], [],none, []⟩]
noncomputable def f107_r4:List EOper := [oG 48 (.mv (tG 12)),oG 49 (.bin .add (tG 48) (cG 1)),oG 12 (.as (tG 49))]
noncomputable def f107_l0:EC:=(.seq (.seq (.draw f107_r3) (.cond (tG 47) .skip (.exit 0))) (.block 1 (.reg f107_r4)))
noncomputable def f107_r5:List Stage := [⟨[oG 50 (.mv (tG 12)),oG 51 (.mv (tG 13)),oG 52 (.bin .leq (tG 50) (tG 51)),oG 53 (.mv (tG 52)),gG 54 53 true (.mv (tG 4)),gG 55 53 true (.mv (tG 0)),gG 56 53 true (.mv (tG 13)),gG 57 53 true (.iads 2 (tG 55) (tG 56)),gG 58 53 true (.ldn 2 (tG 57)),gG 59 53 true (.mv (tG 0)),gG 60 53 true (.mv (tG 1)),gG 61 53 true (.iads 2 (tG 59) (tG 60)),gG 62 53 true (.ldn 2 (tG 61))], [],(some (gG 63 53 true (.call (tG 54) [(tG 58),(tG 62)]))), []⟩,⟨[gG 64 53 true (.bin .lss (tG 63) (cG 0)),gG 65 53 true (.not (tG 64)),oG 66 (.pick (tG 53) (tG 65) (.c (.b false)))], [],none, []⟩]
noncomputable def f107_r6:List EOper := [oG 67 (.mv (tG 13)),oG 68 (.bin .sub (tG 67) (cG 1)),oG 13 (.as (tG 68))]
noncomputable def f107_l1:EC:=(.seq (.seq (.draw f107_r5) (.cond (tG 66) .skip (.exit 2))) (.block 3 (.reg f107_r6)))
noncomputable def f107_r7:List EOper := [oG 69 (.mv (tG 12)),oG 70 (.mv (tG 13)),oG 71 (.bin .gtr (tG 69) (tG 70))]
noncomputable def f107_r8:List Stage := [⟨[oG 72 (.mv (tG 0)),oG 73 (.mv (tG 13)),oG 74 (.mv (tG 0)),oG 75 (.mv (tG 1)),oG 76 (.mv (tG 0)),oG 77 (.mv (tG 1)),oG 78 (.iads 2 (tG 76) (tG 77)),oG 79 (.ldn 2 (tG 78)),oG 80 (.mv (tG 0)),oG 81 (.mv (tG 13)),oG 82 (.iads 2 (tG 80) (tG 81)),oG 83 (.ldn 2 (tG 82)),oG 84 (.iads 2 (tG 72) (tG 73))], [],(some ⟨none,none, .st 2 (tG 84) (tG 79)⟩), []⟩,⟨[oG 85 (.iads 2 (tG 74) (tG 75))], [oG 74 (.mv (tG 0)),oG 75 (.mv (tG 1))],(some ⟨none,none, .st 2 (tG 85) (tG 83)⟩), []⟩,⟨[], [],none, []⟩]
noncomputable def f107_r9:List EOper := [oG 86 (.mv (tG 13)),oG 10 (.as (tG 86)),oG 11 (.as (.c (.b true)))]
noncomputable def f107_r10:List Stage := [⟨[oG 87 (.mv (tG 0)),oG 88 (.mv (tG 12)),oG 89 (.mv (tG 0)),oG 90 (.mv (tG 13)),oG 91 (.mv (tG 0)),oG 92 (.mv (tG 13)),oG 93 (.iads 2 (tG 91) (tG 92)),oG 94 (.ldn 2 (tG 93)),oG 95 (.mv (tG 0)),oG 96 (.mv (tG 12)),oG 97 (.iads 2 (tG 95) (tG 96)),oG 98 (.ldn 2 (tG 97)),oG 99 (.iads 2 (tG 87) (tG 88))], [],(some ⟨none,none, .st 2 (tG 99) (tG 94)⟩), []⟩,⟨[oG 100 (.iads 2 (tG 89) (tG 90))], [oG 89 (.mv (tG 0)),oG 90 (.mv (tG 13))],(some ⟨none,none, .st 2 (tG 100) (tG 98)⟩), []⟩,⟨[], [],none, []⟩]
noncomputable def f107_r11:List EOper := [oG 101 (.mv (tG 12)),oG 102 (.bin .add (tG 101) (cG 1)),oG 12 (.as (tG 102))]
noncomputable def f107_r12:List EOper := [oG 103 (.mv (tG 13)),oG 104 (.bin .sub (tG 103) (cG 1)),oG 13 (.as (tG 104))]
noncomputable def f107_r13:List Stage := [⟨[oG 105 (.mv (tG 12)),oG 106 (.mv (tG 13)),oG 107 (.bin .leq (tG 105) (tG 106)),oG 108 (.mv (tG 107)),gG 109 108 true (.mv (tG 4)),gG 110 108 true (.mv (tG 0)),gG 111 108 true (.mv (tG 12)),gG 112 108 true (.iads 2 (tG 110) (tG 111)),gG 113 108 true (.ldn 2 (tG 112)),gG 114 108 true (.mv (tG 0)),gG 115 108 true (.mv (tG 1)),gG 116 108 true (.iads 2 (tG 114) (tG 115)),gG 117 108 true (.ldn 2 (tG 116))], [],(some (gG 118 108 true (.call (tG 109) [(tG 113),(tG 117)]))), []⟩,⟨[gG 119 108 true (.bin .lss (tG 118) (cG 0)),oG 120 (.pick (tG 108) (tG 119) (.c (.b false)))], [],none, []⟩]
noncomputable def f107_r14:List EOper := [oG 121 (.mv (tG 12)),oG 122 (.bin .add (tG 121) (cG 1)),oG 12 (.as (tG 122))]
noncomputable def f107_l2:EC:=(.seq (.seq (.draw f107_r13) (.cond (tG 120) .skip (.exit 6))) (.block 7 (.reg f107_r14)))
noncomputable def f107_r15:List Stage := [⟨[oG 123 (.mv (tG 12)),oG 124 (.mv (tG 13)),oG 125 (.bin .leq (tG 123) (tG 124)),oG 126 (.mv (tG 125)),gG 127 126 true (.mv (tG 4)),gG 128 126 true (.mv (tG 0)),gG 129 126 true (.mv (tG 13)),gG 130 126 true (.iads 2 (tG 128) (tG 129)),gG 131 126 true (.ldn 2 (tG 130)),gG 132 126 true (.mv (tG 0)),gG 133 126 true (.mv (tG 1)),gG 134 126 true (.iads 2 (tG 132) (tG 133)),gG 135 126 true (.ldn 2 (tG 134))], [],(some (gG 136 126 true (.call (tG 127) [(tG 131),(tG 135)]))), []⟩,⟨[gG 137 126 true (.bin .lss (tG 136) (cG 0)),gG 138 126 true (.not (tG 137)),oG 139 (.pick (tG 126) (tG 138) (.c (.b false)))], [],none, []⟩]
noncomputable def f107_r16:List EOper := [oG 140 (.mv (tG 13)),oG 141 (.bin .sub (tG 140) (cG 1)),oG 13 (.as (tG 141))]
noncomputable def f107_l3:EC:=(.seq (.seq (.draw f107_r15) (.cond (tG 139) .skip (.exit 8))) (.block 9 (.reg f107_r16)))
noncomputable def f107_r17:List EOper := [oG 142 (.mv (tG 12)),oG 143 (.mv (tG 13)),oG 144 (.bin .gtr (tG 142) (tG 143))]
noncomputable def f107_r18:List Stage := [⟨[oG 145 (.mv (tG 0)),oG 146 (.mv (tG 12)),oG 147 (.mv (tG 0)),oG 148 (.mv (tG 13)),oG 149 (.mv (tG 0)),oG 150 (.mv (tG 13)),oG 151 (.iads 2 (tG 149) (tG 150)),oG 152 (.ldn 2 (tG 151)),oG 153 (.mv (tG 0)),oG 154 (.mv (tG 12)),oG 155 (.iads 2 (tG 153) (tG 154)),oG 156 (.ldn 2 (tG 155)),oG 157 (.iads 2 (tG 145) (tG 146))], [],(some ⟨none,none, .st 2 (tG 157) (tG 152)⟩), []⟩,⟨[oG 158 (.iads 2 (tG 147) (tG 148))], [oG 147 (.mv (tG 0)),oG 148 (.mv (tG 13))],(some ⟨none,none, .st 2 (tG 158) (tG 156)⟩), []⟩,⟨[], [],none, []⟩]
noncomputable def f107_r19:List EOper := [oG 159 (.mv (tG 12)),oG 160 (.bin .add (tG 159) (cG 1)),oG 12 (.as (tG 160))]
noncomputable def f107_r20:List EOper := [oG 161 (.mv (tG 13)),oG 162 (.bin .sub (tG 161) (cG 1)),oG 13 (.as (tG 162))]
noncomputable def f107_l4:EC:=(.block 5 (.seq (.block 6 (.loop f107_l2)) (.seq (.block 8 (.loop f107_l3)) (.seq (.seq (.reg f107_r17) (.cond (tG 144) (.exit 4) .skip)) (.seq (.draw f107_r18) (.seq (.reg f107_r19) (.reg f107_r20)))))))
noncomputable def f107_r21:List Stage := [⟨[oG 163 (.mv (tG 0)),oG 164 (.mv (tG 13)),oG 165 (.mv (tG 0)),oG 166 (.mv (tG 1)),oG 167 (.mv (tG 0)),oG 168 (.mv (tG 1)),oG 169 (.iads 2 (tG 167) (tG 168)),oG 170 (.ldn 2 (tG 169)),oG 171 (.mv (tG 0)),oG 172 (.mv (tG 13)),oG 173 (.iads 2 (tG 171) (tG 172)),oG 174 (.ldn 2 (tG 173)),oG 175 (.iads 2 (tG 163) (tG 164))], [],(some ⟨none,none, .st 2 (tG 175) (tG 170)⟩), []⟩,⟨[oG 176 (.iads 2 (tG 165) (tG 166))], [oG 165 (.mv (tG 0)),oG 166 (.mv (tG 1))],(some ⟨none,none, .st 2 (tG 176) (tG 174)⟩), []⟩,⟨[], [],none, []⟩]
noncomputable def f107_r22:List EOper := [oG 177 (.mv (tG 13)),oG 10 (.as (tG 177)),oG 11 (.as (.c (.b false)))]
noncomputable def f107_c:EC:=(.seq (.reg f107_r0) (.seq (.draw f107_r1) (.seq (.reg f107_r2) (.seq (.block 0 (.loop f107_l0)) (.seq (.block 2 (.loop f107_l1)) (.seq (.seq (.reg f107_r7) (.cond (tG 71) (.seq (.draw f107_r8) (.seq (.reg f107_r9) .ret)) .skip)) (.seq (.draw f107_r10) (.seq (.reg f107_r11) (.seq (.reg f107_r12) (.seq (.block 4 (.loop f107_l4)) (.seq (.draw f107_r21) (.seq (.reg f107_r22) .ret))))))))))))
noncomputable def f107:EF:=⟨178, [.tmp (.ofNat 10), .tmp (.ofNat 11)],f107_c,none⟩
theorem f107_rs:f107.rs = [.tmp (.ofNat 10), .tmp (.ofNat 11)]:=of_eq_true (eq_self _)
structure Par (Z:List (Int × Int)) (a b p:Nat) (W1:List (Int × Int)) (i j:Nat):Prop where
  ai:a < i
  ij:i ≤ j + 1
  aj:a ≤ j
  jb:j < b
  bl:b ≤ Z.length
  nd:Z.Nodup
  pm:Pm a b Z W1
  pv:gW W1 a=gW Z p
  less:∀ t,a < t→t < i→bfB (gW W1 t) (gW Z p)=true
  more:∀ t,j < t→t < b→bfB (gW Z p) (gW W1 t)=true
section
variable {Z W1:List (Int × Int)} {a b p i j:Nat}
theorem Par.ne (q:Par Z a b p W1 i j) {t:Nat} (h1:a < t) (h2:t < b) (h:bfB (gW W1 t) (gW Z p)=false):bfB (gW Z p) (gW W1 t)=true:=by
  refine bfB_tot (fun e=>?_) h
  have hl:=q.pm.len
  have hb:=q.bl
  have:=gW_inj (q.pm.nodup q.nd) (i:=t) (j:=a) (by omega) (by omega) (e.trans q.pv.symm)
  omega
theorem Par.up (q:Par Z a b p W1 i j) (h:i ≤ j) (h1:bfB (gW W1 i) (gW Z p)=true):Par Z a b p W1 (i + 1) j := { q with
  ai:=by have:=q.ai; omega
  ij:=by omega
  less:=fun t t1 t2=>by
    by_cases e:t=i
    · rw [e]; exact h1
    · exact q.less t t1 (by omega) }
theorem Par.down (q:Par Z a b p W1 i j) (h:i ≤ j) (h1:bfB (gW W1 j) (gW Z p)=false):Par Z a b p W1 i (j - 1) := { q with
  ij:=by have:=q.ai; omega
  aj:=by have:=q.ai; omega
  jb:=by have:=q.jb; omega
  more:=fun t t1 t2=>by
    have:=q.ai
    by_cases e:t=j
    · rw [e]; exact q.ne (by omega) q.jb h1
    · exact q.more t (by omega) t2 }
theorem Par.ex (q:Par Z a b p W1 i j) (h:i ≤ j) (h1:bfB (gW W1 i) (gW Z p)=false) (h2:bfB (gW W1 j) (gW Z p)=true):i < j∧Par Z a b p (xch W1 i j) (i + 1) (j - 1):=by
  have hij:i < j:=by
    by_cases e:i=j
    · rw [e,h2] at h1; cases h1
    · omega
  have:=q.ai
  have:=q.jb
  have:=q.bl
  have hl:=q.pm.len
  refine ⟨hij, { q with ai:=by omega,ij:=by omega,aj:=by omega,jb:=by omega,pm:=q.pm.trans (Pm.ex (by omega) (by omega) (by omega) (by omega) (by omega)),pv:=?_,less:=fun t t1 t2=>?_,more:=fun t t1 t2=>?_ }⟩
  · rw [gW_xch (by omega) (by omega),if_neg (by omega),if_neg (by omega)]; exact q.pv
  · rw [gW_xch (by omega) (by omega),if_neg (by omega)]
    by_cases e:t=i
    · rw [if_pos e]; exact h2
    · rw [if_neg e]; exact q.less t t1 (by omega)
  · rw [gW_xch (by omega) (by omega)]
    by_cases e:t=j
    · rw [if_pos e]; exact q.ne (by omega) (by omega) h1
    · rw [if_neg e,if_neg (by omega)]; exact q.more t (by omega) t2
theorem Par.fin (q:Par Z a b p W1 i j) (h:j < i):Pm a b Z (xch W1 j a)∧Cut a b j (xch W1 j a)∧gW (xch W1 j a) j=gW Z p:=by
  have:=q.ij
  have:=q.aj
  have:=q.jb
  have:=q.bl
  have hl:=q.pm.len
  have ej:gW (xch W1 j a) j=gW Z p:=by
    rw [gW_xch (by omega) (by omega)]
    by_cases e:j=a
    · rw [if_pos e,e]; exact q.pv
    · rw [if_neg e,if_pos rfl]; exact q.pv
  refine ⟨q.pm.trans (Pm.ex (by omega) (by omega) (by omega) (by omega) (by omega)),⟨q.aj,q.jb,fun t t1 t2=>?_,fun t t1 t2=>?_⟩,ej⟩
  · rw [ej,gW_xch (by omega) (by omega)]
    by_cases e:t=a
    · rw [if_pos e]; exact q.less j (by omega) (by omega)
    · rw [if_neg e,if_neg (by omega)]; exact q.less t (by omega) (by omega)
  · rw [ej,gW_xch (by omega) (by omega),if_neg (by omega),if_neg (by omega)]
    exact q.more t t1 t2
theorem Par.start (hn:Z.Nodup) (hb:b ≤ Z.length) (h1:a ≤ p) (h2:p < b) (h3:a + 1 < b):Par Z a b p (xch Z a p) (a + 1) (b - 1):=⟨by omega,by omega,by omega,by omega,hb,hn,Pm.ex hb (Nat.le_refl _) (by omega) h1 h2,by
  rw [gW_xch (by omega) (by omega)]
  by_cases e:a=p
  · rw [if_pos e,e]
  · rw [if_neg e,if_pos rfl],fun t t1 t2=>by omega,fun t t1 t2=>by omega⟩
end
section
variable {fs:T EF} {h:H} {v:V} {Z W1:List (Int × Int)} {idb:K} {a b p:Nat} {fr:Fr}
structure Mem (h:H) (v:V) (idb:K) (W1:List (Int × Int)) (h1:H):Prop where
  sk:Sk 2 qE h1 v W1
  o:Onl v h h1
  s:SoT idb v h1
def Sl8 (v:V) (idb:K) (a b i j:Nat) (fr:Fr):Prop:=fr.get (K.ofNat 0)=some (v)∧fr.get (K.ofNat 1)=some (.i .i64 (a:Int))∧fr.get (K.ofNat 2)=some (.i .i64 (b:Int))∧fr.get (K.ofNat 4)=some (cmV idb)∧fr.get (K.ofNat 12)=some (.i .i64 (i:Int))∧fr.get (K.ofNat 13)=some (.i .i64 (j:Int))

def f107_up0I (h:H) (v:V) (idb:K) (Z W1:List (Int × Int)) (a b p j:Nat) (i:Nat) (fr:Fr) (h1:H):Prop:=Par Z a b p W1 i j∧Mem h v idb W1 h1∧Sl8 v idb a b i j fr
theorem f107_up0 {i j : Nat} {h1 : H} {Q : Ex → Fr → H → Prop} (k : CallsTv fs) (hW : Z.length ≤ 1000) (q : Par Z a b p W1 i j) (m : Mem h v idb W1 h1) (g : Sl8 v idb a b i j fr)
    (hQ:∀ i fr h1,Par Z a b p W1 i j→Mem h v idb W1 h1→Sl8 v idb a b i j fr→(j < i ∨ bfB (gW W1 i) (gW Z p)=false)→Q (.exit 0) fr h1):W fs none (.loop f107_l0) Q fr h1:=by
  refine W_loop (f107_up0I h v idb Z W1 a b p j) (fun i=>b - i) ?_ i ⟨q,m,g⟩
  clear q m g
  rintro i fr h1 ⟨q,m,g0,g1,g2,g4,g12,g13⟩
  have:=q.ai
  have:=q.jb
  have:=q.bl
  have hl:=q.pm.len
  unfold f107_l0
  by_cases hlt:i ≤ j
  · have d0:decide ((i:Int) ≤ (j:Int))=true:=decide_eq_true (by omega)
    obtain ⟨p1,a1,a2⟩:=m.sk.atp (i:=i) (by omega)
    obtain ⟨p0,b1,b2⟩:=m.sk.atp (i:=a) (by omega)
    simp (disch:=omega) only [f107_r3,Nat.reduceEqDiff,↓reduceIte,g0,g1,g4,g12,g13,d0,a1,a2,b1,b2,bz]
    refine cm_call k.toCallsTs m.s m.sk ?_
    intro h4 hs4 o4 s4
    rw [q.pv]
    cases d2:bfB (gW W1 i) (gW Z p) with
    | true =>
      simp (disch:=omega) only [f107_r4,Nat.reduceEqDiff,↓reduceIte,g12,cmP_lt,d2,bz]
      exact ⟨i + 1,by omega,q.up hlt d2,⟨hs4,m.o.trans o4,s4⟩,by unfold Sl8; simp (disch:=omega) only [getK_set,Nat.reduceEqDiff,↓reduceIte,g0,g1,g2,g4,g13,and_self,Int.natCast_add,Int.natCast_one]⟩
    | false =>
      simp (disch:=omega) only [f107_r4,Nat.reduceEqDiff,↓reduceIte,Bool.false_eq_true,cmP_lt,d2,bz]
      exact hQ i _ _ q ⟨hs4,m.o.trans o4,s4⟩ (by unfold Sl8; simp (disch:=omega) only [getK_set,Nat.reduceEqDiff,↓reduceIte,g0,g1,g2,g4,g12,g13,and_self]) (.inr d2)
  · have d0:decide ((i:Int) ≤ (j:Int))=false:=decide_eq_false (by omega)
    simp (disch:=omega) only [f107_r3,f107_r4,Nat.reduceEqDiff,↓reduceIte,Bool.false_eq_true,g12,g13,d0,bz]
    exact hQ i _ _ q m (by unfold Sl8; simp (disch:=omega) only [getK_set,Nat.reduceEqDiff,↓reduceIte,g0,g1,g2,g4,g12,g13,and_self]) (.inl (by omega))

def f107_dn0I (h:H) (v:V) (idb:K) (Z W1:List (Int × Int)) (a b p i j0:Nat) (j:Nat) (fr:Fr) (h1:H):Prop:=j ≤ j0∧Par Z a b p W1 i j∧Mem h v idb W1 h1∧Sl8 v idb a b i j fr
theorem f107_dn0 {i j : Nat} {h1 : H} {Q : Ex → Fr → H → Prop} (k : CallsTv fs) (hW : Z.length ≤ 1000) (q : Par Z a b p W1 i j) (m : Mem h v idb W1 h1) (g : Sl8 v idb a b i j fr)
    (hQ:∀ j' fr h1,j' ≤ j→Par Z a b p W1 i j'→Mem h v idb W1 h1→Sl8 v idb a b i j' fr→(j' < i ∨ bfB (gW W1 j') (gW Z p)=true)→Q (.exit 2) fr h1):W fs none (.loop f107_l1) Q fr h1:=by
  refine W_loop (f107_dn0I h v idb Z W1 a b p i j) (fun j=>j) ?_ j ⟨Nat.le_refl _,q,m,g⟩
  clear q m g
  rintro j' fr h1 ⟨hj,q,m,g0,g1,g2,g4,g12,g13⟩
  have:=q.ai
  have:=q.jb
  have:=q.bl
  have hl:=q.pm.len
  unfold f107_l1
  by_cases hlt:i ≤ j'
  · have d0:decide ((i:Int) ≤ (j':Int))=true:=decide_eq_true (by omega)
    have ej:(j':Int) - 1=((j' - 1:Nat):Int):=by omega
    obtain ⟨p1,a1,a2⟩:=m.sk.atp (i:=j') (by omega)
    obtain ⟨p0,b1,b2⟩:=m.sk.atp (i:=a) (by omega)
    simp (disch:=omega) only [f107_r5,Nat.reduceEqDiff,↓reduceIte,g0,g1,g4,g12,g13,d0,a1,a2,b1,b2,bz]
    refine cm_call k.toCallsTs m.s m.sk ?_
    intro h4 hs4 o4 s4
    rw [q.pv]
    cases d2:bfB (gW W1 j') (gW Z p) with
    | false =>
      simp (disch:=omega) only [f107_r6,Nat.reduceEqDiff,↓reduceIte,Bool.not_false,g13,ej,cmP_lt,d2,bz]
      exact ⟨j' - 1,by omega,by omega,q.down hlt d2,⟨hs4,m.o.trans o4,s4⟩,by unfold Sl8; simp (disch:=omega) only [getK_set,Nat.reduceEqDiff,↓reduceIte,g0,g1,g2,g4,g12,and_self]⟩
    | true =>
      simp (disch:=omega) only [f107_r6,Nat.reduceEqDiff,↓reduceIte,Bool.false_eq_true,Bool.not_true,cmP_lt,d2,bz]
      exact hQ j' _ _ hj q ⟨hs4,m.o.trans o4,s4⟩ (by unfold Sl8; simp (disch:=omega) only [getK_set,Nat.reduceEqDiff,↓reduceIte,g0,g1,g2,g4,g12,g13,and_self]) (.inr d2)
  · have d0:decide ((i:Int) ≤ (j':Int))=false:=decide_eq_false (by omega)
    simp (disch:=omega) only [f107_r5,f107_r6,Nat.reduceEqDiff,↓reduceIte,Bool.false_eq_true,g12,g13,d0,bz]
    exact hQ j' _ _ hj q m (by unfold Sl8; simp (disch:=omega) only [getK_set,Nat.reduceEqDiff,↓reduceIte,g0,g1,g2,g4,g12,g13,and_self]) (.inl (by omega))

def f107_up1I (h:H) (v:V) (idb:K) (Z W1:List (Int × Int)) (a b p j:Nat) (i:Nat) (fr:Fr) (h1:H):Prop:=Par Z a b p W1 i j∧Mem h v idb W1 h1∧Sl8 v idb a b i j fr
theorem f107_up1 {i j : Nat} {h1 : H} {Q : Ex → Fr → H → Prop} (k : CallsTv fs) (hW : Z.length ≤ 1000) (q : Par Z a b p W1 i j) (m : Mem h v idb W1 h1) (g : Sl8 v idb a b i j fr)
    (hQ:∀ i fr h1,Par Z a b p W1 i j→Mem h v idb W1 h1→Sl8 v idb a b i j fr→(j < i ∨ bfB (gW W1 i) (gW Z p)=false)→Q (.exit 6) fr h1):W fs none (.loop f107_l2) Q fr h1:=by
  refine W_loop (f107_up1I h v idb Z W1 a b p j) (fun i=>b - i) ?_ i ⟨q,m,g⟩
  clear q m g
  rintro i fr h1 ⟨q,m,g0,g1,g2,g4,g12,g13⟩
  have:=q.ai
  have:=q.jb
  have:=q.bl
  have hl:=q.pm.len
  unfold f107_l2
  by_cases hlt:i ≤ j
  · have d0:decide ((i:Int) ≤ (j:Int))=true:=decide_eq_true (by omega)
    obtain ⟨p1,a1,a2⟩:=m.sk.atp (i:=i) (by omega)
    obtain ⟨p0,b1,b2⟩:=m.sk.atp (i:=a) (by omega)
    simp (disch:=omega) only [f107_r13,Nat.reduceEqDiff,↓reduceIte,g0,g1,g4,g12,g13,d0,a1,a2,b1,b2,bz]
    refine cm_call k.toCallsTs m.s m.sk ?_
    intro h4 hs4 o4 s4
    rw [q.pv]
    cases d2:bfB (gW W1 i) (gW Z p) with
    | true =>
      simp (disch:=omega) only [f107_r14,Nat.reduceEqDiff,↓reduceIte,g12,cmP_lt,d2,bz]
      exact ⟨i + 1,by omega,q.up hlt d2,⟨hs4,m.o.trans o4,s4⟩,by unfold Sl8; simp (disch:=omega) only [getK_set,Nat.reduceEqDiff,↓reduceIte,g0,g1,g2,g4,g13,and_self,Int.natCast_add,Int.natCast_one]⟩
    | false =>
      simp (disch:=omega) only [f107_r14,Nat.reduceEqDiff,↓reduceIte,Bool.false_eq_true,cmP_lt,d2,bz]
      exact hQ i _ _ q ⟨hs4,m.o.trans o4,s4⟩ (by unfold Sl8; simp (disch:=omega) only [getK_set,Nat.reduceEqDiff,↓reduceIte,g0,g1,g2,g4,g12,g13,and_self]) (.inr d2)
  · have d0:decide ((i:Int) ≤ (j:Int))=false:=decide_eq_false (by omega)
    simp (disch:=omega) only [f107_r13,f107_r14,Nat.reduceEqDiff,↓reduceIte,Bool.false_eq_true,g12,g13,d0,bz]
    exact hQ i _ _ q m (by unfold Sl8; simp (disch:=omega) only [getK_set,Nat.reduceEqDiff,↓reduceIte,g0,g1,g2,g4,g12,g13,and_self]) (.inl (by omega))

def f107_dn1I (h:H) (v:V) (idb:K) (Z W1:List (Int × Int)) (a b p i j0:Nat) (j:Nat) (fr:Fr) (h1:H):Prop:=j ≤ j0∧Par Z a b p W1 i j∧Mem h v idb W1 h1∧Sl8 v idb a b i j fr
theorem f107_dn1 {i j : Nat} {h1 : H} {Q : Ex → Fr → H → Prop} (k : CallsTv fs) (hW : Z.length ≤ 1000) (q : Par Z a b p W1 i j) (m : Mem h v idb W1 h1) (g : Sl8 v idb a b i j fr)
    (hQ:∀ j' fr h1,j' ≤ j→Par Z a b p W1 i j'→Mem h v idb W1 h1→Sl8 v idb a b i j' fr→(j' < i ∨ bfB (gW W1 j') (gW Z p)=true)→Q (.exit 8) fr h1):W fs none (.loop f107_l3) Q fr h1:=by
  refine W_loop (f107_dn1I h v idb Z W1 a b p i j) (fun j=>j) ?_ j ⟨Nat.le_refl _,q,m,g⟩
  clear q m g
  rintro j' fr h1 ⟨hj,q,m,g0,g1,g2,g4,g12,g13⟩
  have:=q.ai
  have:=q.jb
  have:=q.bl
  have hl:=q.pm.len
  unfold f107_l3
  by_cases hlt:i ≤ j'
  · have d0:decide ((i:Int) ≤ (j':Int))=true:=decide_eq_true (by omega)
    have ej:(j':Int) - 1=((j' - 1:Nat):Int):=by omega
    obtain ⟨p1,a1,a2⟩:=m.sk.atp (i:=j') (by omega)
    obtain ⟨p0,b1,b2⟩:=m.sk.atp (i:=a) (by omega)
    simp (disch:=omega) only [f107_r15,Nat.reduceEqDiff,↓reduceIte,g0,g1,g4,g12,g13,d0,a1,a2,b1,b2,bz]
    refine cm_call k.toCallsTs m.s m.sk ?_
    intro h4 hs4 o4 s4
    rw [q.pv]
    cases d2:bfB (gW W1 j') (gW Z p) with
    | false =>
      simp (disch:=omega) only [f107_r16,Nat.reduceEqDiff,↓reduceIte,Bool.not_false,g13,ej,cmP_lt,d2,bz]
      exact ⟨j' - 1,by omega,by omega,q.down hlt d2,⟨hs4,m.o.trans o4,s4⟩,by unfold Sl8; simp (disch:=omega) only [getK_set,Nat.reduceEqDiff,↓reduceIte,g0,g1,g2,g4,g12,and_self]⟩
    | true =>
      simp (disch:=omega) only [f107_r16,Nat.reduceEqDiff,↓reduceIte,Bool.false_eq_true,Bool.not_true,cmP_lt,d2,bz]
      exact hQ j' _ _ hj q ⟨hs4,m.o.trans o4,s4⟩ (by unfold Sl8; simp (disch:=omega) only [getK_set,Nat.reduceEqDiff,↓reduceIte,g0,g1,g2,g4,g12,g13,and_self]) (.inr d2)
  · have d0:decide ((i:Int) ≤ (j':Int))=false:=decide_eq_false (by omega)
    simp (disch:=omega) only [f107_r15,f107_r16,Nat.reduceEqDiff,↓reduceIte,Bool.false_eq_true,g12,g13,d0,bz]
    exact hQ j' _ _ hj q m (by unfold Sl8; simp (disch:=omega) only [getK_set,Nat.reduceEqDiff,↓reduceIte,g0,g1,g2,g4,g12,g13,and_self]) (.inl (by omega))

def f107_M (h:H) (v:V) (idb:K) (Z:List (Int × Int)) (a b p:Nat) (s:Nat × Nat) (fr:Fr) (h1:H):Prop:=∃ W1,Par Z a b p W1 s.1 s.2∧Mem h v idb W1 h1∧Sl8 v idb a b s.1 s.2 fr
theorem Mem.ex {h1:H} {i j:Nat} (m:Mem h v idb W1 h1) (hi:i < W1.length) (hj:j < W1.length):∃ pi pj h2 h3,(∀ k h',iadsV 2 v (.i k (i:Int)) h' = .ok pi h')∧(∀ k h',iadsV 2 v (.i k (j:Int)) h' = .ok pj h')∧loadV h1 pi (many? 2) = .ok (pV (gW W1 i)) h1∧loadV h1 pj (many? 2) = .ok (pV (gW W1 j)) h1∧storeV h1 2 pi (pV (gW W1 j)) = .ok undefV h2∧storeV h2 2 pj (pV (gW W1 i)) = .ok undefV h3∧Mem h v idb (xch W1 i j) h3:=by
  obtain ⟨pi,pj,h5,h6,x1,x2,x3,x4,x5,x6,x7,x8,x9⟩:=m.sk.xch m.s.hc hi hj
  exact ⟨pi,pj,h5,h6,x1,x2,x3,x4,x5,x6,x7,m.o.trans x8,m.s.onl x8⟩
theorem f107_ret (k:CallsTv fs) (s:SoT idb v h) (hv:Sk 2 qE h v Z) (hn:Z.Nodup) (h1:a ≤ p) (h2:p < b) (h3:a + 1 < b) (hb:b ≤ Z.length) (hW:Z.length ≤ 1000):Ret fs f107 [v, .i .i64 (a:Int), .i .i64 (b:Int), .i .i64 (p:Int),cmV idb] h fun r h'=>∃ (m:Nat) (q:Bool),r = .tup [.i .i64 (m:Int), .b q] ∧ ∃ W1,Mem h v idb W1 h'∧Pm a b Z W1∧Cut a b m W1∧gW W1 m=gW Z p:=by
  apply ret_of rfl
  show W fs none f107_c _ _ _
  unfold f107_c
  have ea:(a:Int) + 1=((a + 1:Nat):Int):=by omega
  have eb:(b:Int) - 1=((b - 1:Nat):Int):=by omega
  have m0:Mem h v idb Z h:=⟨hv,Onl.refl,s⟩
  have hvb:=hv.beq
  obtain ⟨pi,pj,h5,h6,x1,x2,x3,x4,x5,x6,m1⟩:=m0.ex (i:=a) (j:=p) (by omega) (by omega)
  have q1:=Par.start hn hb h1 h2 h3
  simp (disch:=omega) only [f107_r0,f107_r1,f107_r2,Nat.reduceEqDiff,↓reduceIte,ea,eb,x1,x2,x3,x4,x5,x6,hvb,bz]
  clear x1 x2 x3 x4 x5 x6 m0
  refine f107_up0 k hW q1 m1 (by unfold Sl8; simp (disch:=omega) only [getK_set,Nat.reduceEqDiff,↓reduceIte,and_self]) ?_
  clear q1 m1
  intro i fr h7 q m g hu
  simp (disch:=omega) only [↓reduceIte,bz]
  refine f107_dn0 k hW q m g ?_
  clear q m g fr h7
  intro j fr h7 hj q m g hd
  obtain ⟨g0,g1,g2,g4,g12,g13⟩:=g
  replace hu:j < i ∨ bfB (gW (xch Z a p) i) (gW Z p)=false:=hu.imp (fun e=>by omega) id
  generalize xch Z a p=W1 at *
  have hl:=q.pm.len
  have hjb:=q.jb
  have hai:=q.ai
  by_cases hij:j < i
  · have d0:decide ((i:Int) > (j:Int))=true:=decide_eq_true (by omega)
    obtain ⟨pi,pj,h8,h9,x1,x2,x3,x4,x5,x6,m2⟩:=m.ex (i:=j) (j:=a) (by omega) (by omega)
    obtain ⟨f1,f2,f3⟩:=q.fin hij
    simp (disch:=omega) only [f107_r7,f107_r8,f107_r9,f107_rs,Option.some.injEq,exists_eq_left',Nat.reduceEqDiff,↓reduceIte,g0,g1,g12,g13,d0,x1,x2,x3,x4,x5,x6,hvb,bz]
    exact ⟨j,true,rfl,_,m2,f1,f2,f3⟩
  · have d0:decide ((i:Int) > (j:Int))=false:=decide_eq_false (by omega)
    have ej:(j:Int) - 1=((j - 1:Nat):Int):=by omega
    obtain ⟨pi,pj,h8,h9,x1,x2,x3,x4,x5,x6,m2⟩:=m.ex (i:=i) (j:=j) (by omega) (by omega)
    obtain ⟨f1,f2⟩:=q.ex (by omega) (hu.resolve_left hij) (hd.resolve_left hij)
    simp (disch:=omega) only [f107_r7,f107_r10,f107_r11,f107_r12,Nat.reduceEqDiff,↓reduceIte,Bool.false_eq_true,g0,g12,g13,d0,ej,x1,x2,x3,x4,x5,x6,hvb,bz]
    clear x1 x2 x3 x4 x5 x6
    refine W_loop (f107_M h v idb Z a b p) (fun s=>s.2) ?_ (i + 1,j - 1) ⟨_,f2,m2,by unfold Sl8; simp (disch:=omega) only [getK_set,Nat.reduceEqDiff,↓reduceIte,g0,g1,g2,g4,and_self,Int.natCast_add,Int.natCast_one]⟩
    clear g0 g1 g2 g4 g12 g13 f1 f2 m2 q m hu hd hij d0 ej hl hjb hai fr hj W1 ea eb
    rintro ⟨i,j⟩ fr h7 ⟨W1,q,m,g⟩
    unfold f107_l4
    simp (disch:=omega) only [w_seq,w_block]
    refine f107_up1 k hW q m g ?_
    clear q m g fr h7
    intro i fr h7 q m g hu
    simp (disch:=omega) only [↓reduceIte,bz]
    refine f107_dn1 k hW q m g ?_
    clear q m g fr h7
    intro j' fr h7 hj q m g hd
    obtain ⟨g0,g1,g2,g4,g12,g13⟩:=g
    replace hu:j' < i ∨ bfB (gW W1 i) (gW Z p)=false:=hu.imp (fun e=>Nat.lt_of_le_of_lt hj e) id
    have hl:=q.pm.len
    have hjb:=q.jb
    have hai:=q.ai
    by_cases hij:j' < i
    · have d0:decide ((i:Int) > (j':Int))=true:=decide_eq_true (by omega)
      obtain ⟨pi,pj,h8,h9,x1,x2,x3,x4,x5,x6,m2⟩:=m.ex (i:=j') (j:=a) (by omega) (by omega)
      obtain ⟨f1,f2,f3⟩:=q.fin hij
      simp (disch:=omega) only [f107_r17,f107_r21,f107_r22,f107_rs,Option.some.injEq,exists_eq_left',Nat.reduceEqDiff,↓reduceIte,g0,g1,g12,g13,d0,x1,x2,x3,x4,x5,x6,hvb,bz]
      exact ⟨j',false,rfl,_,m2,f1,f2,f3⟩
    · have d0:decide ((i:Int) > (j':Int))=false:=decide_eq_false (by omega)
      have ej:(j':Int) - 1=((j' - 1:Nat):Int):=by omega
      obtain ⟨pi,pj,h8,h9,x1,x2,x3,x4,x5,x6,m2⟩:=m.ex (i:=i) (j:=j') (by omega) (by omega)
      obtain ⟨f1,f2⟩:=q.ex (by omega) (hu.resolve_left hij) (hd.resolve_left hij)
      have hj:j' ≤ j:=hj
      simp (disch:=omega) only [f107_r17,f107_r18,f107_r19,f107_r20,Nat.reduceEqDiff,↓reduceIte,Bool.false_eq_true,g0,g12,g13,d0,ej,x1,x2,x3,x4,x5,x6,hvb,bz]
      refine ⟨(i + 1,j' - 1),?_,_,f2,m2,by unfold Sl8; simp (disch:=omega) only [getK_set,Nat.reduceEqDiff,↓reduceIte,g0,g1,g2,g4,and_self,Int.natCast_add,Int.natCast_one]⟩
      show j' - 1 < j
      omega
end
end Go.Ev
namespace Go.Ev
open Go Go.RowKit
noncomputable def f94_r0:List EOper := [oG 10 (.as (.c (.b true)))]
noncomputable def f94_r1:List EOper := [oG 11 (.as (.c (.b true)))]
noncomputable def f94_r2:List EOper := [oG 21 (.mv (tG 2)),oG 22 (.mv (tG 1)),oG 23 (.bin .sub (tG 21) (tG 22)),oG 12 (.as (tG 23))]
noncomputable def f94_r3:List EOper := [oG 24 (.mv (tG 12)),oG 25 (.bin .leq (tG 24) (cG 12))]
noncomputable def f94_r4:List EOper := [oG 26 (.mv (tG 0)),oG 27 (.mv (tG 1)),oG 28 (.mv (tG 2)),oG 29 (.mv (tG 4)),oG 30 (.call (fG 100) [(tG 26),(tG 27),(tG 28),(tG 29)])]
noncomputable def f94_r5:List EOper := [oG 31 (.mv (tG 3)),oG 32 (.bin .eql (tG 31) (cG 0))]
noncomputable def f94_r6:List EOper := [oG 33 (.mv (tG 0)),oG 34 (.mv (tG 1)),oG 35 (.mv (tG 2)),oG 36 (.mv (tG 4)),oG 37 (.call (fG 101) [(tG 33),(tG 34),(tG 35),(tG 36)])]
noncomputable def f94_r7:List EOper := [oG 38 (.mv (tG 10)),oG 39 (.not (tG 38))]
noncomputable def f94_r8:List EOper := [oG 40 (.mv (tG 0)),oG 41 (.mv (tG 1)),oG 42 (.mv (tG 2)),oG 43 (.mv (tG 4)),oG 44 (.call (fG 102) [(tG 40),(tG 41),(tG 42),(tG 43)])]
noncomputable def f94_r9:List EOper := [oG 45 (.mv (tG 3)),oG 46 (.bin .sub (tG 45) (cG 1)),oG 3 (.as (tG 46))]
noncomputable def f94_r10:List EOper := [oG 48 (.mv (tG 0)),oG 49 (.mv (tG 1)),oG 50 (.mv (tG 2)),oG 51 (.mv (tG 4)),oG 52 (.call (fG 103) [(tG 48),(tG 49),(tG 50),(tG 51)]),oG 47 (.mv (tG 52)),oG 53 (.ext (tG 47) 0),oG 54 (.ext (tG 47) 1),oG 13 (.as (tG 53)),oG 14 (.as (tG 54))]
noncomputable def f94_r11:List EOper := [oG 55 (.mv (tG 14)),oG 56 (.bin .eql (tG 55) (cG 2))]
noncomputable def f94_r12:List EOper := [oG 57 (.mv (tG 0)),oG 58 (.mv (tG 1)),oG 59 (.mv (tG 2)),oG 60 (.mv (tG 4)),oG 61 (.call (fG 104) [(tG 57),(tG 58),(tG 59),(tG 60)])]
noncomputable def f94_r13:List EOper := [oG 62 (.mv (tG 2)),oG 63 (.bin .sub (tG 62) (cG 1)),oG 64 (.mv (tG 13)),oG 65 (.mv (tG 1)),oG 66 (.bin .sub (tG 64) (tG 65)),oG 67 (.bin .sub (tG 63) (tG 66)),oG 13 (.as (tG 67))]
noncomputable def f94_r14:List EOper := [oG 14 (.as (cG 1))]
noncomputable def f94_r15:List EOper := [oG 68 (.mv (tG 10)),oG 69 (.mv (tG 68)),gG 70 69 true (.mv (tG 11)),oG 71 (.pick (tG 69) (tG 70) (.c (.b false))),oG 72 (.mv (tG 71)),gG 73 72 true (.mv (tG 14)),gG 74 72 true (.bin .eql (tG 73) (cG 1)),oG 75 (.pick (tG 72) (tG 74) (.c (.b false)))]
noncomputable def f94_r16:List EOper := [oG 76 (.mv (tG 0)),oG 77 (.mv (tG 1)),oG 78 (.mv (tG 2)),oG 79 (.mv (tG 4)),oG 80 (.call (fG 105) [(tG 76),(tG 77),(tG 78),(tG 79)])]
noncomputable def f94_r17:List Stage := [⟨[oG 81 (.mv (tG 1)),oG 82 (.bin .gtr (tG 81) (cG 0)),oG 83 (.mv (tG 82)),gG 84 83 true (.mv (tG 4)),gG 85 83 true (.mv (tG 0)),gG 86 83 true (.mv (tG 1)),gG 87 83 true (.bin .sub (tG 86) (cG 1)),gG 88 83 true (.iads 2 (tG 85) (tG 87)),gG 89 83 true (.ldn 2 (tG 88)),gG 90 83 true (.mv (tG 0)),gG 91 83 true (.mv (tG 13)),gG 92 83 true (.iads 2 (tG 90) (tG 91)),gG 93 83 true (.ldn 2 (tG 92))], [],(some (gG 94 83 true (.call (tG 84) [(tG 89),(tG 93)]))), []⟩,⟨[gG 95 83 true (.bin .lss (tG 94) (cG 0)),gG 96 83 true (.not (tG 95)),oG 97 (.pick (tG 83) (tG 96) (.c (.b false)))], [],none, []⟩]
noncomputable def f94_r18:List EOper := [oG 98 (.mv (tG 0)),oG 99 (.mv (tG 1)),oG 100 (.mv (tG 2)),oG 101 (.mv (tG 13)),oG 102 (.mv (tG 4)),oG 103 (.call (fG 106) [(tG 98),(tG 99),(tG 100),(tG 101),(tG 102)]),oG 15 (.as (tG 103))]
noncomputable def f94_r19:List EOper := [oG 104 (.mv (tG 15)),oG 1 (.as (tG 104))]
noncomputable def f94_r20:List EOper := [oG 106 (.mv (tG 0)),oG 107 (.mv (tG 1)),oG 108 (.mv (tG 2)),oG 109 (.mv (tG 13)),oG 110 (.mv (tG 4)),oG 111 (.call (fG 107) [(tG 106),(tG 107),(tG 108),(tG 109),(tG 110)]),oG 105 (.mv (tG 111)),oG 112 (.ext (tG 105) 0),oG 113 (.ext (tG 105) 1),oG 16 (.as (tG 112)),oG 17 (.as (tG 113))]
noncomputable def f94_r21:List EOper := [oG 114 (.mv (tG 17)),oG 11 (.as (tG 114))]
noncomputable def f94_r22:List EOper := [oG 115 (.mv (tG 16)),oG 116 (.mv (tG 1)),oG 117 (.bin .sub (tG 115) (tG 116)),oG 118 (.mv (tG 2)),oG 119 (.mv (tG 16)),oG 120 (.bin .sub (tG 118) (tG 119)),oG 18 (.as (tG 117)),oG 19 (.as (tG 120))]
noncomputable def f94_r23:List EOper := [oG 121 (.mv (tG 12)),oG 122 (.bin .quo (tG 121) (cG 8)),oG 20 (.as (tG 122))]
noncomputable def f94_r24:List EOper := [oG 123 (.mv (tG 18)),oG 124 (.mv (tG 19)),oG 125 (.bin .lss (tG 123) (tG 124))]
noncomputable def f94_r25:List EOper := [oG 126 (.mv (tG 18)),oG 127 (.mv (tG 20)),oG 128 (.bin .geq (tG 126) (tG 127)),oG 10 (.as (tG 128))]
noncomputable def f94_r26:List EOper := [oG 129 (.mv (tG 0)),oG 130 (.mv (tG 1)),oG 131 (.mv (tG 16)),oG 132 (.mv (tG 3)),oG 133 (.mv (tG 4)),oG 134 (.call (fG 94) [(tG 129),(tG 130),(tG 131),(tG 132),(tG 133)])]
noncomputable def f94_r27:List EOper := [oG 135 (.mv (tG 16)),oG 136 (.bin .add (tG 135) (cG 1)),oG 1 (.as (tG 136))]
noncomputable def f94_r28:List EOper := [oG 137 (.mv (tG 19)),oG 138 (.mv (tG 20)),oG 139 (.bin .geq (tG 137) (tG 138)),oG 10 (.as (tG 139))]
noncomputable def f94_r29:List EOper := [oG 140 (.mv (tG 0)),oG 141 (.mv (tG 16)),oG 142 (.bin .add (tG 141) (cG 1)),oG 143 (.mv (tG 2)),oG 144 (.mv (tG 3)),oG 145 (.mv (tG 4)),oG 146 (.call (fG 94) [(tG 140),(tG 142),(tG 143),(tG 144),(tG 145)])]
noncomputable def f94_r30:List EOper := [oG 147 (.mv (tG 16)),oG 2 (.as (tG 147))]
noncomputable def f94_l0:EC:=(.block 1 (.seq (.reg f94_r2) (.seq (.seq (.reg f94_r3) (.cond (tG 25) (.seq (.reg f94_r4) .ret) .skip)) (.seq (.seq (.reg f94_r5) (.cond (tG 32) (.seq (.reg f94_r6) .ret) .skip)) (.seq (.seq (.reg f94_r7) (.cond (tG 39) (.seq (.reg f94_r8) (.reg f94_r9)) .skip)) (.seq (.reg f94_r10) (.seq (.seq (.reg f94_r11) (.cond (tG 56) (.seq (.reg f94_r12) (.seq (.reg f94_r13) (.reg f94_r14))) .skip)) (.seq (.seq (.reg f94_r15) (.cond (tG 75) (.seq (.reg f94_r16) (.cond (tG 80) .ret .skip)) .skip)) (.seq (.seq (.draw f94_r17) (.cond (tG 97) (.seq (.reg f94_r18) (.seq (.reg f94_r19) (.exit 1))) .skip)) (.seq (.reg f94_r20) (.seq (.reg f94_r21) (.seq (.reg f94_r22) (.seq (.reg f94_r23) (.seq (.reg f94_r24) (.cond (tG 125) (.seq (.reg f94_r25) (.seq (.reg f94_r26) (.reg f94_r27))) (.seq (.reg f94_r28) (.seq (.reg f94_r29) (.reg f94_r30))))))))))))))))))
noncomputable def f94_c:EC:=(.seq (.reg f94_r0) (.seq (.reg f94_r1) (.block 0 (.loop f94_l0))))
noncomputable def f94:EF:=⟨148, [],f94_c,none⟩
theorem f94_rs:f94.rs = []:=of_eq_true (eq_self _)
noncomputable def f82_r0:List EOper := [oG 5 (.mv (tG 0)),oG 6 (.len (tG 5)),oG 4 (.as (tG 6))]
noncomputable def f82_r1:List EOper := [oG 7 (.mv (tG 0)),oG 8 (.mv (tG 4)),oG 9 (.mv (tG 4)),oG 10 (.conv .u64 (tG 9)),oG 11 (.call (fG 95) [(tG 10)]),oG 12 (.mv (tG 1)),oG 13 (.call (fG 94) [(tG 7),(cG 0),(tG 8),(tG 11),(tG 12)])]
noncomputable def f82_c:EC:=(.seq (.reg f82_r0) (.reg f82_r1))
noncomputable def f82:EF:=⟨14, [],f82_c,none⟩
theorem f82_rs:f82.rs = []:=of_eq_true (eq_self _)
noncomputable def f56_r0:List EOper := [oG 3 (.box 1 (tG 1))]
noncomputable def f56_r1:List EOper := [oG 4 (.mv (tG 0)),oG 5 (.mkfn (.ofNat 83) [(tG 3)]),oG 6 (.call (fG 82) [(tG 4),(tG 5)])]
noncomputable def f56_c:EC:=(.seq (.reg f56_r0) (.reg f56_r1))
noncomputable def f56:EF:=⟨7, [],f56_c,none⟩
theorem f56_rs:f56.rs = []:=of_eq_true (eq_self _)
noncomputable def f94_R3:EC:=(.seq (.reg f94_r20) (.seq (.reg f94_r21) (.seq (.reg f94_r22) (.seq (.reg f94_r23) (.seq (.reg f94_r24) (.cond (.t (.ofNat 125)) (.seq (.reg f94_r25) (.seq (.reg f94_r26) (.reg f94_r27))) (.seq (.reg f94_r28) (.seq (.reg f94_r29) (.reg f94_r30)))))))))
noncomputable def f94_R2:EC:=(.seq (.seq (.draw f94_r17) (.cond (.t (.ofNat 97)) (.seq (.reg f94_r18) (.seq (.reg f94_r19) (.exit 1))) .skip)) f94_R3)
noncomputable def f94_R1:EC:=(.seq (.seq (.reg f94_r15) (.cond (.t (.ofNat 75)) (.seq (.reg f94_r16) (.cond (.t (.ofNat 80)) .ret .skip)) .skip)) f94_R2)
theorem f94_l0_e:f94_l0=(.block 1 (.seq (.reg f94_r2) (.seq (.seq (.reg f94_r3) (.cond (.t (.ofNat 25)) (.seq (.reg f94_r4) .ret) .skip)) (.seq (.seq (.reg f94_r5) (.cond (.t (.ofNat 32)) (.seq (.reg f94_r6) .ret) .skip)) (.seq (.seq (.reg f94_r7) (.cond (.t (.ofNat 39)) (.seq (.reg f94_r8) (.reg f94_r9)) .skip)) (.seq (.reg f94_r10) (.seq (.seq (.reg f94_r11) (.cond (.t (.ofNat 56)) (.seq (.reg f94_r12) (.seq (.reg f94_r13) (.reg f94_r14))) .skip)) f94_R1))))))):=rfl
structure CallsTq (fs:T EF):Prop extends CallsTv fs where
  c100:fs.get (K.ofNat 100)=some f100
  c103:fs.get (K.ofNat 103)=some f103
  c104:fs.get (K.ofNat 104)=some f104
  c105:fs.get (K.ofNat 105)=some f105
  c107:fs.get (K.ofNat 107)=some f107
  c94:fs.get (K.ofNat 94)=some f94
  c95:fs.get (K.ofNat 95)=some f95
  c109:fs.get (K.ofNat 109)=some f109
  c82:fs.get (K.ofNat 82)=some f82
section
variable {fs:T EF} {h:H} {v:V} {Z W1 W2:List (Int × Int)} {idb:K} {a b a' b':Nat} {fr:Fr} {h1 h2:H}
theorem Mem.tr (m:Mem h v idb W1 h1) (n:Mem h1 v idb W2 h2):Mem h v idb W2 h2:=⟨n.sk,m.o.trans n.o,n.s⟩
theorem f111e_ret (hv:Sk 2 qE h v []):Ret fs f100 [v, .i .i64 0, .i .i64 0,cmV idb] h fun r h'=>r = .tup []∧h'=h:=by
  apply ret_of rfl
  show W fs none f100_c _ _ _
  unfold f100_c
  have d0:decide ((1:Int) < 0)=false:=rfl
  simp (disch:=omega) only [f100_r0,Nat.reduceEqDiff,↓reduceIte,Int.zero_add,bz]
  refine W_loop (fun (_:Unit) fr h1=>h1=h∧fr.get (K.ofNat 0)=some (v)∧fr.get (K.ofNat 1)=some (.i .i64 0)∧fr.get (K.ofNat 2)=some (.i .i64 0)∧fr.get (K.ofNat 3)=some (cmV idb)∧fr.get (K.ofNat 8)=some (.i .i64 1)) (fun _=>0) ?_ () ⟨rfl,by simp (disch:=omega) only [getK_set,Nat.reduceEqDiff,↓reduceIte,and_self]⟩
  rintro _ fr h2 ⟨rfl,g0,g1,g2,g3,g8⟩
  unfold f100_l1
  simp (disch:=omega) only [f100_r1,f100_rs,Option.some.injEq,exists_eq_left',Nat.reduceEqDiff,↓reduceIte,Bool.false_eq_true,g2,g8,d0,and_self,bz]
theorem f106s_ret {n:Int} (k:CallsTq fs) (s:SoT idb v h) (hv:Sk 2 qE h v Z) (hn:Z.Nodup) (hab:a < b) (hl:b ≤ a + 12) (hb:b ≤ Z.length) (hW:Z.length ≤ 40):Ret fs f94 [v, .i .i64 (a:Int), .i .i64 (b:Int), .i .i64 n,cmV idb] h fun r h'=>r = .tup [] ∧ ∃ W1,Mem h v idb W1 h'∧Pm a b Z W1∧Srd a b W1:=by
  apply ret_of rfl
  show W fs none f94_c _ _ _
  unfold f94_c
  have d0:decide ((b:Int) - (a:Int) ≤ 12)=true:=decide_eq_true (by omega)
  simp (disch:=omega) only [f94_r0,f94_r1,bz]
  refine W_loop (fun (_:Unit) fr h1=>h1=h∧fr.get (K.ofNat 0)=some (v)∧fr.get (K.ofNat 1)=some (.i .i64 (a:Int))∧fr.get (K.ofNat 2)=some (.i .i64 (b:Int))∧fr.get (K.ofNat 4)=some (cmV idb)) (fun _=>0) ?_ () ⟨rfl,by simp (disch:=omega) only [getK_set,Nat.reduceEqDiff,↓reduceIte,and_self]⟩
  rintro _ fr h2 ⟨rfl,g0,g1,g2,g4⟩
  rw [f94_l0_e]
  simp (disch:=omega) only [f94_r2,f94_r3,f94_r4,Nat.reduceEqDiff,↓reduceIte,g0,g1,g2,g4,d0,bz]
  refine (callP_0 (ef:=f100) k.c100 rfl (f100_ret k.toCallsTs s hv hn hab hb (by omega))).mono ?_
  rintro r h3 ⟨rfl,W1,hs,pm,sr,ho,s3⟩
  simp (disch:=omega) only [f94_rs,Option.some.injEq,exists_eq_left',bz]
  exact ⟨W1,⟨hs,ho,s3⟩,pm,sr⟩
end
end Go.Ev
namespace Go.Ev
open Go Go.RowKit
section
variable {fs:T EF} {h h':H}
end
end Go.Ev
namespace Go.Ev
open Go Go.RowKit
section
variable {fs:T EF} {h h':H}
end
end Go.Ev
namespace Go.Ev
open Go Go.RowKit
section
variable {fs:T EF} {h h':H}
theorem fcY_frcB {G:List Bool} (sy:SymR G) {x y:Nat × Nat} (hy:rat G y.1 y.2=true):decide (y ∈ fcY G x.1 x.2)=frcB G x y:=by
  rw [Bool.eq_iff_iff,decide_eq_true_eq,mem_fcY]
  unfold frcB fcA fcB
  simp only [Bool.and_eq_true,Bool.or_eq_true,Bool.not_eq_true',decide_eq_true_eq]
  have hirr:∀ a,rat G a a=false:=fun a=>by
    cases e:rat G a a with
    | false=>rfl
    | true=>exact absurd e (sy.gr.irr a)
  constructor
  · rintro (⟨h1,h2,h3⟩ | ⟨h1,h2,h3,h4⟩)
    · right
      rw [if_pos h1.symm]
      simpa using h3
    · right
      rw [if_neg (fun e=>h2 e.symm)]
      simp only [Bool.and_eq_true,decide_eq_true_eq,Bool.not_eq_true']
      refine ⟨h1.symm,?_⟩
      cases e:rat G x.1 y.1 with
      | false=>rfl
      | true=>have:=sy.gr.sym _ _ e; have this:rat G y.1 x.1=true:=this; rw [h4] at this; cases this
  · rintro (rfl | h)
    · exact .inl ⟨rfl,hy,hirr _⟩
    · by_cases e:x.1=y.1
      · rw [if_pos e] at h
        exact .inl ⟨e.symm,by rw [e]; exact hy,by simpa using h⟩
      · rw [if_neg e] at h
        simp only [Bool.and_eq_true,decide_eq_true_eq,Bool.not_eq_true'] at h
        refine .inr ⟨h.1.symm,fun e2=>e e2.symm,by rw [h.1]; exact hy,?_⟩
        cases e2:rat G y.1 x.1 with
        | false=>rfl
        | true=>have:=sy.gr.sym _ _ e2; have this:rat G x.1 y.1=true:=this; rw [h.2] at this; cases this
end
end Go.Ev
namespace Go.Ev
open Go Go.RowKit
inductive RchN (G:List Bool) (s:Nat × Nat):Nat→Nat × Nat→Prop where
  | zero:RchN G s 0 s
  | step {d:Nat} {x p:Nat × Nat}:RchN G s d x→p ∈ fcY G x.1 x.2→RchN G s (d + 1) p
theorem fcY_arr {G:List Bool} {x p:Nat × Nat} (h:p ∈ fcY G x.1 x.2):rat G p.1 p.2=true:=by
  rcases mem_fcY.1 h with ⟨e,h3⟩ | ⟨e,h3⟩
  · unfold fcA at h3
    simp only [Bool.and_eq_true] at h3
    rw [e]; exact h3.1
  · unfold fcB at h3
    simp only [Bool.and_eq_true] at h3
    rw [e]; exact h3.2.1
theorem RchN.rch {G:List Bool} {s:Nat × Nat} {d:Nat} {x:Nat × Nat} (h:RchN G s d x):Rch (Er G) s.1 s.2 x.1 x.2:=by
  induction h with
  | zero=>exact .refl
  | step _ hp ih=>exact fcY_rch hp ih
theorem RchN.of {G:List Bool} {s:Nat × Nat} {a b:Nat} (h:Rch (Er G) s.1 s.2 a b):∃ d,RchN G s d (a,b):=by
  induction h with
  | refl=>exact ⟨0, .zero⟩
  | @out c d e _ h1 h2 ih =>
    have h2:¬ rat G d e=true:=h2
    have h1:rat G c e=true:=h1
    obtain ⟨m,hm⟩:=ih
    exact ⟨m + 1, .step (p:=(c,e)) hm (mem_fcY.2 (.inl ⟨rfl,by unfold fcA; rw [h1]; simpa using h2⟩))⟩
  | @inn c d e _ h1 h2 ih =>
    have h2:¬ rat G e c=true:=h2
    have h1:rat G e d=true:=h1
    obtain ⟨m,hm⟩:=ih
    by_cases ee:e=c
    · rw [ee]; exact ⟨m,hm⟩
    · exact ⟨m + 1, .step (p:=(e,d)) hm (mem_fcY.2 (.inr ⟨rfl,by unfold fcB; rw [h1,decide_eq_true ee]; simpa using h2⟩))⟩
def IsD (G:List Bool) (s y:Nat × Nat) (d:Nat):Prop:=RchN G s d y ∧ ∀ m,RchN G s m y→d ≤ m
noncomputable def dN (G:List Bool) (s y:Nat × Nat):Option Nat:=Classical.epsilon fun o=>match o with | some d=>IsD G s y d | none=>∀ d,¬ RchN G s d y
theorem dN_some {G:List Bool} {s y:Nat × Nat} {d:Nat} (h:IsD G s y d):dN G s y=some d:=by
  have hs:=Classical.epsilon_spec (p:=fun o:Option Nat=>match o with | some d=>IsD G s y d | none=>∀ d,¬ RchN G s d y) ⟨some d,h⟩
  unfold dN
  generalize Classical.epsilon (fun o:Option Nat=>match o with | some d=>IsD G s y d | none=>∀ d,¬ RchN G s d y)=o at hs
  cases o with
  | none=>exact absurd h.1 (hs d)
  | some e =>
    have hs:IsD G s y e:=hs
    have h1:=hs.2 _ h.1
    have h2:=h.2 _ hs.1
    rw [show e=d by omega]
theorem dN_none {G:List Bool} {s y:Nat × Nat} (h:∀ d,¬ RchN G s d y):dN G s y=none:=by
  have hs:=Classical.epsilon_spec (p:=fun o:Option Nat=>match o with | some d=>IsD G s y d | none=>∀ d,¬ RchN G s d y) ⟨none,h⟩
  unfold dN
  generalize Classical.epsilon (fun o:Option Nat=>match o with | some d=>IsD G s y d | none=>∀ d,¬ RchN G s d y)=o at hs
  cases o with
  | none=>rfl
  | some e=>exact absurd (show IsD G s y e from hs).1 (h e)
structure Lv (G:List Bool) (s:Nat × Nat) (N:DM) (i:Nat):Prop where
  beg:N[0]? = some (s,0)
  par:∀ j x d,N[j]? = some (x,d)→0 < j → ∃ i' v e,i' < j∧N[i']? = some (v,e)∧d=e + 1∧x ∈ fcY G v.1 v.2
  mono:∀ (j j':Nat) a b,j ≤ j'→N[j]? = some a→N[j']? = some b→a.2 ≤ b.2
  top:∀ (j:Nat) a e,N[i]? = some e→N[j]? = some a→a.2 ≤ e.2 + 1
  clo:∀ j x d,j < i→N[j]? = some (x,d) → ∀ p ∈ fcY G x.1 x.2,∃ (j':Nat) (d':Nat),N[j']? = some (p,d')∧d' ≤ d + 1
theorem get_one {α:Type} {x a : α} {j:Nat} (h : [x][j]? = some a):j=0∧a=x:=by
  cases j with
  | zero=>simp at h; exact ⟨rfl,h.symm⟩
  | succ j=>simp at h
theorem Lv.one {G:List Bool} {s:Nat × Nat}:Lv G s [(s,0)] 0 where
  beg:=rfl
  par:=fun j x d h h0=>by have:=(get_one h).1; omega
  mono:=fun j j' a b _ h1 h2=>by rw [(get_one h1).2,(get_one h2).2]; exact Nat.le_refl _
  top:=fun j a e h1 h2=>by rw [(get_one h1).2,(get_one h2).2]; exact Nat.le_succ _
  clo:=fun j x d hj=>by omega
theorem get_snoc {α:Type} {N:List α} {y a : α} {j:Nat} (h:(N ++ [y])[j]? = some a):N[j]? = some a ∨ (j=N.length∧a=y):=by
  by_cases hj:j < N.length
  · rw [List.getElem?_append_left hj] at h; exact .inl h
  · rw [List.getElem?_append_right (by omega)] at h
    obtain ⟨h1,h2⟩:=get_one h
    exact .inr ⟨by omega,h2⟩
theorem get_up {α:Type} {N:List α} {y a : α} {j:Nat} (h:N[j]? = some a):(N ++ [y])[j]? = some a:=by
  rw [List.getElem?_append_left (get_lt h)]; exact h
theorem Lv.add {G:List Bool} {s:Nat × Nat} {N:DM} {i:Nat} (k:Lv G s N i) {x p:Nat × Nat} {d:Nat} (hi:N[i]? = some (x,d)) (hp:p ∈ fcY G x.1 x.2):Lv G s (N ++ [(p,d + 1)]) i where
  beg:=get_up k.beg
  par:=fun j y c h h0=>by
    rcases get_snoc h with h | ⟨h1,h2⟩
    · obtain ⟨i',v,e,q1,q2,q3,q4⟩:=k.par j y c h h0
      exact ⟨i',v,e,q1,get_up q2,q3,q4⟩
    · injection h2 with h2 h3
      exact ⟨i,x,d,by have:=get_lt hi; omega,get_up hi,h3,by rw [h2]; exact hp⟩
  mono:=fun j j' a b hjj h1 h2=>by
    rcases get_snoc h1 with h1 | ⟨h1,e1⟩
    · rcases get_snoc h2 with h2 | ⟨h2,e2⟩
      · exact k.mono j j' a b hjj h1 h2
      · rw [e2]; exact k.top j a _ hi h1
    · rcases get_snoc h2 with h2 | ⟨h2,e2⟩
      · have:=get_lt h2; omega
      · rw [e1,e2]; exact Nat.le_refl _
  top:=fun j a e h1 h2=>by
    have h1 : N[i]? = some e := by rcases get_snoc h1 with h | ⟨h, _⟩
                                   · exact h
                                   · have:=get_lt hi; omega
    rw [hi] at h1
    obtain rfl:=Option.some.inj h1
    rcases get_snoc h2 with h2 | ⟨_,e2⟩
    · exact k.top j a _ hi h2
    · rw [e2]; exact Nat.le_refl _
  clo:=fun j y c hj h q hq=>by
    rcases get_snoc h with h | ⟨h1,_⟩
    · obtain ⟨j',d',q1,q2⟩:=k.clo j y c hj h q hq
      exact ⟨j',d',get_up q1,q2⟩
    · have:=get_lt hi; omega
theorem Lv.next {G:List Bool} {s:Nat × Nat} {N:DM} {i:Nat} (k:Lv G s N i) (hc:∀ x d,N[i]? = some (x,d) → ∀ p ∈ fcY G x.1 x.2,p ∈ N.map Prod.fst):Lv G s N (i + 1) where
  beg:=k.beg
  par:=k.par
  mono:=k.mono
  top:=fun j a e h1 h2=>by
    have hl:=get_lt h1
    obtain ⟨b,hb⟩:∃ b,N[i]? = some b:=⟨N[i],List.getElem?_eq_getElem (by omega)⟩
    have:=k.top j a b hb h2
    have:=k.mono i (i + 1) b e (by omega) hb h1
    omega
  clo:=fun j x d hj h p hp=>by
    by_cases e:j=i
    · subst e
      obtain ⟨⟨p',d'⟩,hm,rfl⟩:=List.mem_map.1 (hc x d h p hp)
      obtain ⟨j',hj',ej⟩:=List.getElem_of_mem hm
      have hj2:N[j']? = some (p',d'):=by rw [List.getElem?_eq_getElem hj',ej]
      exact ⟨j',d',hj2,k.top j' _ _ h hj2⟩
    · exact k.clo j x d (by omega) h p hp
theorem Lv.rch {G:List Bool} {s:Nat × Nat} {N:DM} {i:Nat} (k:Lv G s N i):∀ (j:Nat) x d,N[j]? = some (x,d)→RchN G s d x:=by
  intro j
  induction j using Nat.strongRecOn with
  | ind j ih =>
    intro x d h
    by_cases h0:0 < j
    · obtain ⟨i',v,e,q1,q2,q3,q4⟩:=k.par j x d h h0
      rw [q3]; exact .step (ih i' q1 v e q2) q4
    · have:j=0:=by omega
      subst this
      rw [k.beg] at h
      obtain ⟨rfl,rfl⟩:=Prod.mk.inj (Option.some.inj h)
      exact .zero
theorem Lv.fin {G:List Bool} {s:Nat × Nat} {N:DM} {i:Nat} (k:Lv G s N i) (hi:N.length ≤ i) {m:Nat} {z:Nat × Nat} (h:RchN G s m z):∃ (j:Nat) (d':Nat),N[j]? = some (z,d')∧d' ≤ m:=by
  induction h with
  | zero=>exact ⟨0,0,k.beg,Nat.le_refl _⟩
  | @step m x p _ hp ih =>
    obtain ⟨j,d',h1,h2⟩:=ih
    obtain ⟨j',d2,h3,h4⟩:=k.clo j x d' (by have:=get_lt h1; omega) h1 p hp
    exact ⟨j',d2,h3,by omega⟩
theorem nd_same {N:DM} (hn:(kyD N).Nodup) {j j':Nat} {z:Nat × Nat} {d d':Nat} (h1:N[j]? = some (z,d)) (h2:N[j']? = some (z,d')):d=d':=by
  have e1:=lkD_at hn h1
  have e2:=lkD_at hn h2
  rw [e1] at e2; exact Option.some.inj e2
theorem Lv.isD {G:List Bool} {s:Nat × Nat} {N:DM} {i:Nat} (k:Lv G s N i) (hn:(kyD N).Nodup) (hi:N.length ≤ i) {j:Nat} {z:Nat × Nat} {d:Nat} (h:N[j]? = some (z,d)):IsD G s z d :=
  ⟨k.rch j z d h,fun m hm=>by
    obtain ⟨j',d',h1,h2⟩:=k.fin hi hm
    have:=nd_same hn h h1
    omega⟩
theorem BfsR.lv {G:List Bool} (sy:SymR G) {s:Nat × Nat} (hs:rat G s.1 s.2=true) {i k:Nat} {M:DM} (r:BfsR G s i k M):Lv G s M i:=by
  induction r with
  | start=>exact Lv.one
  | skip _ _ _ _ ih=>exact ih
  | @add i k M x p d _ h1 h2 _ h4 ih =>
    exact ih.add h1 (of_decide_eq_true (by rw [fcY_frcB sy (arw_lt (List.mem_of_getElem? h2)).2.2]; exact h4))
  | @next i M r hi ih =>
    have bi:=r.inv sy hs
    refine ih.next fun x d hx p hp=>?_
    have hpa:=fcY_arr hp
    have hl:=rat_lt hpa
    obtain ⟨q,hq,eq⟩:=List.getElem_of_mem (mem_arw.2 ⟨hl.1,hl.2,hpa⟩:(p.1,p.2) ∈ arw (rat G))
    exact bi.cur q x p d hq hx (by rw [List.getElem?_eq_getElem hq,eq]) (by rw [← fcY_frcB sy hpa]; exact decide_eq_true hp)
theorem BfsR.dN {G:List Bool} (sy:SymR G) {s:Nat × Nat} (hs:rat G s.1 s.2=true) {M:DM} (r:BfsR G s M.length 0 M) (y:Nat × Nat):dN G s y=lkD M y:=by
  have bi:=r.inv sy hs
  have lv:=r.lv sy hs
  cases h:lkD M y with
  | none =>
    refine dN_none fun d hd=>?_
    obtain ⟨j,d',h1,_⟩:=lv.fin (Nat.le_refl _) hd
    exact lkD_none.1 h (List.mem_map.2 ⟨_,List.mem_of_getElem? h1,rfl⟩)
  | some d =>
    have hm:y ∈ kyD M:=Classical.byContradiction fun hn=>by rw [lkD_none.2 hn] at h; cases h
    obtain ⟨⟨y',d'⟩,hm2,rfl⟩:=List.mem_map.1 hm
    obtain ⟨j,hj,ej⟩:=List.getElem_of_mem hm2
    have hj2:M[j]? = some (y',d'):=by rw [List.getElem?_eq_getElem hj,ej]
    have:=lkD_at bi.nd hj2
    rw [this] at h
    obtain rfl:=Option.some.inj h
    exact dN_some (lv.isD bi.nd (Nat.le_refl _) hj2)
def minC (best:Nat) (o:Option Nat):Nat:=match o with | none=>best | some d=>if best=0 ∨ d + 1 < best then d + 1 else best
noncomputable def clT (G:List Bool) (k:Nat):Nat:=((arw (rat G)).take k).foldl (fun b x=>minC b (dN G x (swN x))) 0
noncomputable def clD (G:List Bool):Nat:=clT G (arw (rat G)).length
theorem clT_succ {G:List Bool} {k:Nat} {x:Nat × Nat} (h:(arw (rat G))[k]? = some x):clT G (k + 1)=minC (clT G k) (dN G x (swN x)):=by
  unfold clT
  rw [List.take_add_one,h,List.foldl_append]; rfl
theorem clT_zero {G:List Bool}:∀ k,k ≤ (arw (rat G)).length→(clT G k=0 ↔ ∀ x ∈ (arw (rat G)).take k,dN G x (swN x)=none)
  | 0,_=>by simp [clT]
  | k + 1,hk=>by
    obtain ⟨x,hx⟩:∃ x,(arw (rat G))[k]? = some x:=⟨(arw (rat G))[k]'(by omega),List.getElem?_eq_getElem (by omega)⟩
    rw [clT_succ hx,List.take_add_one,hx]
    have ih:=clT_zero (G:=G) k (by omega)
    constructor
    · intro h
      cases hd:dN G x (swN x) with
      | none =>
        rw [hd] at h
        have h:=ih.1 h
        intro y hy
        rcases List.mem_append.1 hy with hy | hy
        · exact h y hy
        · simp at hy; rw [hy]; exact hd
      | some d =>
        rw [hd] at h
        unfold minC at h
        simp only at h
        split at h <;> omega
    · intro h
      rw [h x (by simp)]
      exact ih.2 fun y hy=>h y (List.mem_append_left _ hy)
theorem clD_zero {G:List Bool}:clD G=0 ↔ CF (Er G):=by
  unfold clD
  rw [clT_zero _ (Nat.le_refl _),List.take_length]
  constructor
  · intro h a b hab hr
    have hl:=rat_lt hab
    have h1:=h (a,b) (mem_arw.2 ⟨hl.1,hl.2,hab⟩)
    obtain ⟨m,hm⟩:=RchN.of (s:=(a,b)) hr
    obtain ⟨d,hd⟩:∃ d,IsD G (a,b) (b,a) d:=by
      have:∀ m,RchN G (a,b) m (b,a) → ∃ d,IsD G (a,b) (b,a) d:=by
        intro m
        induction m using Nat.strongRecOn with
        | ind m ih =>
          intro hm
          by_cases e:∃ m',m' < m∧RchN G (a,b) m' (b,a)
          · obtain ⟨m',h1,h2⟩:=e
            exact ih m' h1 h2
          · exact ⟨m,hm,fun m' h'=>Classical.byContradiction fun hn=>e ⟨m',by omega,h'⟩⟩
      exact this m hm
    have h2:=dN_some hd
    have h1:dN G (a,b) (b,a)=none:=h1
    rw [h1] at h2; cases h2
  · rintro h ⟨a,b⟩ hx
    refine dN_none fun d hd=>h a b (arw_lt hx).2.2 hd.rch
end Go.Ev
namespace Go.Ev
open Go Go.RowKit
noncomputable def f32_r0:List EOper := [oG 4 (.as (cG 0))]
noncomputable def f32_r1:List EOper := [oG 11 (.mv (tG 0)),oG 12 (.mv (tG 1)),oG 13 (.call (fG 63) [(tG 11),(tG 12)]),oG 5 (.as (tG 13))]
noncomputable def f32_r2:List EOper := [oG 6 (.as (cG 0))]
noncomputable def f32_r3:List EOper := [oG 7 (.as (cG 0))]
noncomputable def f32_r4:List EOper := [oG 14 (.mv (tG 7)),oG 15 (.mv (tG 5)),oG 16 (.len (tG 15)),oG 17 (.bin .lss (tG 14) (tG 16))]
noncomputable def f32_r5:List EOper := [oG 21 (.mv (tG 0)),oG 22 (.mv (tG 1)),oG 23 (.mv (tG 5)),oG 24 (.mv (tG 7)),oG 25 (.iads 2 (tG 23) (tG 24)),oG 26 (.ldn 2 (tG 25)),oG 27 (.call (fG 64) [(tG 21),(tG 22),(tG 26)]),oG 20 (.mv (tG 27)),oG 28 (.ext (tG 20) 0),oG 29 (.ext (tG 20) 1),oG 8 (.as (tG 28)),oG 9 (.as (tG 29))]
noncomputable def f32_r6:List EOper := [oG 10 (.as (cG 0))]
noncomputable def f32_r7:List EOper := [oG 30 (.mv (tG 10)),oG 31 (.mv (tG 8)),oG 32 (.len (tG 31)),oG 33 (.bin .lss (tG 30) (tG 32))]
noncomputable def f32_r8:List Stage := [⟨[oG 36 (.mv (tG 8)),oG 37 (.mv (tG 10)),oG 38 (.iads 2 (tG 36) (tG 37)),oG 39 (.ldn 2 (tG 38)),oG 40 (.mv (tG 5)),oG 41 (.mv (tG 7)),oG 42 (.iads 2 (tG 40) (tG 41)),oG 43 (.iadr 2 1 (tG 42) (cG 1)),oG 44 (.ld (tG 43)),oG 45 (.mv (tG 5)),oG 46 (.mv (tG 7)),oG 47 (.iads 2 (tG 45) (tG 46)),oG 48 (.iadr 2 1 (tG 47) (cG 0)),oG 49 (.ld (tG 48)),oG 50 (.build [(.i .i64 (.ofNat 0)),(.i .i64 (.ofNat 0))] [(0,1,(tG 44)),(1,1,(tG 49))]),oG 51 (.eqk (.many [(some .i64),(some .i64)]) false (tG 39) (tG 50)),oG 52 (.mv (tG 51)),gG 53 52 true (.mv (tG 6)),gG 54 52 true (.bin .eql (tG 53) (cG 0)),gG 55 52 true (.mv (tG 54)),gG 56 55 false (.mv (tG 9)),gG 57 55 false (.mv (tG 10)),gG 58 55 false (.iads 1 (tG 56) (tG 57)),gG 59 55 false (.ld (tG 58)),gG 60 55 false (.bin .add (tG 59) (cG 1)),gG 61 55 false (.mv (tG 6)),gG 62 55 false (.bin .lss (tG 60) (tG 61)),gG 63 52 true (.pick (tG 55) (.c (.b true)) (tG 62)),oG 64 (.pick (tG 52) (tG 63) (.c (.b false)))], [],none, []⟩]
noncomputable def f32_r9:List EOper := [oG 65 (.mv (tG 9)),oG 66 (.mv (tG 10)),oG 67 (.iads 1 (tG 65) (tG 66)),oG 68 (.ld (tG 67)),oG 69 (.bin .add (tG 68) (cG 1)),oG 6 (.as (tG 69))]
noncomputable def f32_r10:List EOper := [oG 34 (.mv (tG 10)),oG 35 (.bin .add (tG 34) (cG 1)),oG 10 (.as (tG 35))]
noncomputable def f32_l0:EC:=(.seq (.seq (.reg f32_r7) (.cond (tG 33) .skip (.exit 2))) (.seq (.block 3 (.seq (.draw f32_r8) (.cond (tG 64) (.reg f32_r9) .skip))) (.reg f32_r10)))
noncomputable def f32_r11:List EOper := [oG 18 (.mv (tG 7)),oG 19 (.bin .add (tG 18) (cG 1)),oG 7 (.as (tG 19))]
noncomputable def f32_l1:EC:=(.seq (.seq (.reg f32_r4) (.cond (tG 17) .skip (.exit 0))) (.seq (.block 1 (.seq (.reg f32_r5) (.seq (.reg f32_r6) (.block 2 (.loop f32_l0))))) (.reg f32_r11)))
noncomputable def f32_r12:List EOper := [oG 70 (.mv (tG 6)),oG 4 (.as (tG 70))]
noncomputable def f32_c:EC:=(.seq (.reg f32_r0) (.seq (.reg f32_r1) (.seq (.reg f32_r2) (.seq (.seq (.reg f32_r3) (.block 0 (.loop f32_l1))) (.seq (.reg f32_r12) .ret)))))
noncomputable def f32:EF:=⟨71, [.tmp (.ofNat 4)],f32_c,none⟩
theorem f32_rs:f32.rs = [.tmp (.ofNat 4)]:=of_eq_true (eq_self _)
section
variable {fs:T EF} {h h':H}
noncomputable def inB (G:List Bool) (x:Nat × Nat) (P:List (Nat × Nat)) (best i:Nat):Nat:=if swN x ∈ P.take i then minC best (dN G x (swN x)) else best
theorem minC_twice {b d:Nat}:minC (minC b (some d)) (some d)=minC b (some d):=by
  unfold minC
  simp only
  split
  · rw [if_neg (by omega)]
  · rfl
theorem inB_succ {G:List Bool} {x p:Nat × Nat} {P:List (Nat × Nat)} {best i:Nat} (hp:P[i]? = some p):inB G x P best (i + 1)=if p=swN x then minC (inB G x P best i) (dN G x p) else inB G x P best i:=by
  unfold inB
  rw [List.take_add_one,hp]
  by_cases e:p=swN x
  · rw [if_pos e,if_pos (by rw [e]; simp),e]
    split
    · cases dN G x (swN x) with
      | none=>rfl
      | some d=>exact minC_twice.symm
    · rfl
  · rw [if_neg e]
    have:(swN x ∈ P.take i ++ (some p).toList) ↔ swN x ∈ P.take i:=by
      rw [List.mem_append]
      exact ⟨fun h=>h.elim id fun h=>absurd (by simpa using h) (fun h2=>e (Eq.symm h2)), .inl⟩
    by_cases h:swN x ∈ P.take i
    · rw [if_pos h,if_pos (this.2 h)]
    · rw [if_neg h,if_neg (fun h2=>h (this.1 h2))]
structure CallsKl (fs:T EF):Prop extends CallsCs fs where
  c64:fs.get (K.ofNat 64)=some f64
def f32_I (h0:H) (n:Nat) (v al:V) (G:List Bool) (k:Nat) (fr:Fr) (h1:H):Prop:=k ≤ (arw (rat G)).length∧Grow h0.nx.nat h0 h1∧HC h1∧fr.get (K.ofNat 0)=some (.i .i64 (n:Int))∧fr.get (K.ofNat 1)=some (v)∧fr.get (K.ofNat 5)=some (al)∧fr.get (K.ofNat 6)=some (.i .i64 (clT G k:Int))∧fr.get (K.ofNat 7)=some (.i .i64 (k:Int))
def f32_J (h0:H) (n:Nat) (v al c w:V) (G:List Bool) (k:Nat) (x:Nat × Nat) (i:Nat) (fr:Fr) (h1:H):Prop:=i ≤ (arw (rat (clsR G x))).length∧h1=h0∧fr.get (K.ofNat 0)=some (.i .i64 (n:Int))∧fr.get (K.ofNat 1)=some (v)∧fr.get (K.ofNat 5)=some (al)∧fr.get (K.ofNat 6)=some (.i .i64 (inB G x (arw (rat (clsR G x))) (clT G k) i:Int))∧fr.get (K.ofNat 7)=some (.i .i64 (k:Int))∧fr.get (K.ofNat 8)=some (c)∧fr.get (K.ofNat 9)=some (w)∧fr.get (K.ofNat 10)=some (.i .i64 (i:Int))
theorem f32_ret {n:Nat} {v:V} {g:Nat→Nat→Bool} (k:CallsKl fs) (hg:Gph n g) (hv:Srp h v (arI g)) (hc:HC h):Ret fs f32 [.i .i64 (n:Int),v] h fun r h'=>r = .i .i64 (clD (gR (arI g)):Int)∧Grow h.nx.nat h h':=by
  have hlb:=arI_len (g:=g)
  have sy:=symR_g hg
  apply ret_of rfl
  show W fs none f32_c _ _ _
  unfold f32_c
  simp (disch:=omega) only [f32_r0,f32_r1,Nat.reduceEqDiff,↓reduceIte,bz]
  refine (callP_0 (ef:=f63) k.c63 rfl (f63_ret k.toCallsJn hg hv hc)).mono ?_
  rintro al h1 ⟨hal,hoal,gr1⟩
  have hc1:=gr1.hc hc
  have hlw:(arI (rat (gR (arI g)))).length=(arw (rat (gR (arI g)))).length:=by unfold arI; rw [List.length_map]
  have hlA:(arw (rat (gR (arI g)))).length ≤ 49:=by rw [← hlw]; exact arI_len
  have hall:∀ h1,lenV al h1 = .ok (.i .i64 ((arw (rat (gR (arI g)))).length:Int)) h1:=fun h1=>by rw [hal.len,hlw]
  simp (disch:=omega) only [f32_r2,f32_r3,↓reduceIte,bz]
  refine W_loop (f32_I h1 n v al (gR (arI g))) (fun k=>(arw (rat (gR (arI g)))).length - k) ?_ 0 ⟨by omega,Grow.refl _ _,hc1,by simp (disch:=omega) only [getK_set,Nat.reduceEqDiff,↓reduceIte,and_self,Int.natCast_zero,clT,List.take_zero,List.foldl_nil]⟩
  rintro kk fr h2 ⟨hkk,hG,hc2,g0,g1,g5,g6,g7⟩
  unfold f32_l1
  by_cases hlt:kk < (arw (rat (gR (arI g)))).length
  · have d0:decide ((kk:Int) < ((arw (rat (gR (arI g)))).length:Int))=true:=decide_eq_true (by omega)
    obtain ⟨x,hx⟩:∃ x,(arw (rat (gR (arI g))))[kk]? = some x:=⟨_,List.getElem?_eq_getElem hlt⟩
    have hxm:=arw_lt (List.mem_of_getElem? hx)
    have hx7:in7 x:=⟨hxm.1,hxm.2.1⟩
    have hkl:kk < (arI (rat (gR (arI g)))).length:=by rw [hlw]; exact hlt
    have hal2:=hal.grow hc1 hG
    obtain ⟨id,q,pa,pb,pc,pd⟩:=hal2.srpo.at2 hkl
    rw [arI_at hx hkl] at pb
    have pb:loadV h2 (.p id q) (many? 2) = .ok (aV x) h2:=pb
    simp (disch:=omega) only [f32_r4,f32_r5,Nat.reduceEqDiff,↓reduceIte,g0,g1,g5,g7,hall,d0,pa,pb,bz]
    refine (callP_0 (ef:=f64) k.c64 rfl (f64_ret (s:=x) k.toCallsCs hg ((hv.grow hc gr1).grow hc1 hG) hxm.2.2 hc2)).mono ?_
    rintro r h3 ⟨c,w,M,rfl,hr,sc,oc,sw,ow,gr3⟩
    have hc3:=gr3.hc hc2
    have hG3:=hG.trans (gr3.low hG.nx)
    have hal3:=hal2.grow hc2 gr3
    have bi:=hr.inv sy hxm.2.2
    have hlc:(arI (rat (clsR (gR (arI g)) x))).length=(arw (rat (clsR (gR (arI g)) x))).length:=by unfold arI; rw [List.length_map]
    have hlC:(arw (rat (clsR (gR (arI g)) x))).length ≤ 49:=by rw [← hlc]; exact arI_len
    have hcl:∀ h1,lenV c h1 = .ok (.i .i64 ((arw (rat (clsR (gR (arI g)) x))).length:Int)) h1:=fun h1=>by rw [sc.len,hlc]
    obtain ⟨id',q',pa3,_,pc3,pd3⟩:=hal3.srpo.at2 hkl
    rw [arI_at hx hkl] at pc3 pd3
    have pc3:loadV h3 (.p id' (q' + 0 * 1)) one? = .ok (.i .i64 (x.1:Int)) h3:=pc3
    have pd3:loadV h3 (.p id' (q' + 1 * 1)) one? = .ok (.i .i64 (x.2:Int)) h3:=pd3
    have hdn:=hr.dN sy hxm.2.2
    simp (disch:=omega) only [f32_r6,Nat.reduceEqDiff,↓reduceIte,bz]
    refine W_loop (f32_J h3 n v al c w (gR (arI g)) kk x) (fun i=>(arw (rat (clsR (gR (arI g)) x))).length - i) ?_ 0 ⟨by omega,rfl,by simp (disch:=omega) only [getK_set,Nat.reduceEqDiff,↓reduceIte,g0,g1,g5,g6,g7,and_self,Int.natCast_zero,inB,List.take_zero,List.not_mem_nil]⟩
    clear g0 g1 g5 g6 g7 fr
    rintro i fr h4 ⟨hi,rfl,g0,g1,g5,g6,g7,g8,g9,g10⟩
    unfold f32_l0
    by_cases hil:i < (arw (rat (clsR (gR (arI g)) x))).length
    · have d1:decide ((i:Int) < ((arw (rat (clsR (gR (arI g)) x))).length:Int))=true:=decide_eq_true (by omega)
      obtain ⟨p,hp⟩:∃ p,(arw (rat (clsR (gR (arI g)) x)))[i]? = some p:=⟨_,List.getElem?_eq_getElem hil⟩
      have hpm:=arw_lt (List.mem_of_getElem? hp)
      have hp7:in7 p:=⟨hpm.1,hpm.2.1⟩
      have hcli:i < (arI (rat (clsR (gR (arI g)) x))).length:=by rw [hlc]; exact hil
      obtain ⟨id2,q2,ca,cb,_,_⟩:=sc.srpo.at2 hcli
      rw [arI_at hp hcli] at cb
      have cb:loadV h4 (.p id2 q2) (many? 2) = .ok (aV p) h4:=cb
      obtain ⟨wp,wa,wb⟩:=sw.at i (by rw [List.length_map]; exact hil)
      rw [List.getElem_map] at wb
      have hpe:(arw (rat (clsR (gR (arI g)) x)))[i]=p:=by rw [List.getElem?_eq_getElem hil] at hp; exact Option.some.inj hp
      rw [hpe] at wb
      obtain ⟨d,hd⟩:∃ d,lkD M p=some d:=by
        cases e:lkD M p with
        | some d=>exact ⟨d,rfl⟩
        | none=>exact absurd ((bi.cls sy hxm.2.2 p).2 hpm.2.2) (lkD_none.1 e)
      rw [hd] at wb
      have wb:loadV h4 wp one? = .ok (.i .i64 (d:Int)) h4:=wb
      have hdl:d + 1 ≤ 49:=by
        have hin:=bi.dl (p,d) (by
          have hm:p ∈ kyD M:=Classical.byContradiction fun hn=>by rw [lkD_none.2 hn] at hd; cases hd
          obtain ⟨⟨p',d'⟩,hm2,rfl⟩:=List.mem_map.1 hm
          obtain ⟨j,hj,ej⟩:=List.getElem_of_mem hm2
          have:=lkD_at bi.nd (show M[j]? = some (p',d') by rw [List.getElem?_eq_getElem hj,ej])
          rw [this] at hd
          rw [← Option.some.inj hd]; exact hm2)
        have:=bi.len
        have hin:d + 1 ≤ M.length:=hin
        omega
      have hsw:in7 (swN x):=⟨hx7.2,hx7.1⟩
      have hq:=keyEq_aV hp7 hsw
      have hav:V.agg [.i .i64 (x.2:Int), .i .i64 (x.1:Int)]=aV (swN x):=rfl
      have hsu:=inB_succ (G:=gR (arI g)) (x:=x) (best:=clT (gR (arI g)) kk) hp
      generalize hb:inB (gR (arI g)) x (arw (rat (clsR (gR (arI g)) x))) (clT (gR (arI g)) kk) i=B at *
      have hdn2:=hdn p
      rw [hd] at hdn2
      by_cases e:p=swN x
      · have e1:decide (p=swN x)=true:=decide_eq_true e
        rw [e1] at hq
        rw [if_pos e,hdn2] at hsu
        unfold minC at hsu
        simp only at hsu
        by_cases hB:B=0
        · have e2:decide ((B:Int)=0)=true:=decide_eq_true (by omega)
          rw [if_pos (.inl hB)] at hsu
          simp (disch:=omega) only [f32_r7,f32_r8,f32_r9,f32_r10,Nat.reduceEqDiff,↓reduceIte,Bool.false_eq_true,Bool.not_true,g5,g6,g7,g8,g9,g10,hcl,d1,ca,cb,pa3,pc3,pd3,hav,hq,cond_false,e2,wa,wb,bz]
          exact ⟨i + 1,by omega,by omega,rfl,by rw [hsu]; simp (disch:=omega) only [getK_set,Nat.reduceEqDiff,↓reduceIte,g0,g1,g5,g7,g8,g9,and_self,Int.natCast_add,Int.natCast_one]⟩
        · have e2:decide ((B:Int)=0)=false:=decide_eq_false (by omega)
          by_cases hlt2:d + 1 < B
          · have e3:decide ((d:Int) + 1 < (B:Int))=true:=decide_eq_true (by omega)
            rw [if_pos (.inr hlt2)] at hsu
            simp (disch:=omega) only [f32_r7,f32_r8,f32_r9,f32_r10,Nat.reduceEqDiff,↓reduceIte,Bool.false_eq_true,Bool.not_false,g5,g6,g7,g8,g9,g10,hcl,d1,ca,cb,pa3,pc3,pd3,hav,hq,cond_false,e2,e3,wa,wb,bz]
            exact ⟨i + 1,by omega,by omega,rfl,by rw [hsu]; simp (disch:=omega) only [getK_set,Nat.reduceEqDiff,↓reduceIte,g0,g1,g5,g7,g8,g9,and_self,Int.natCast_add,Int.natCast_one]⟩
          · have e3:decide ((d:Int) + 1 < (B:Int))=false:=decide_eq_false (by omega)
            rw [if_neg (by omega)] at hsu
            simp (disch:=omega) only [f32_r7,f32_r8,f32_r10,Nat.reduceEqDiff,↓reduceIte,Bool.false_eq_true,Bool.not_false,g5,g6,g7,g8,g9,g10,hcl,d1,ca,cb,pa3,pc3,pd3,hav,hq,cond_false,e2,e3,wa,wb,bz]
            exact ⟨i + 1,by omega,by omega,rfl,by rw [hsu]; simp (disch:=omega) only [getK_set,Nat.reduceEqDiff,↓reduceIte,g0,g1,g5,g6,g7,g8,g9,and_self,Int.natCast_add,Int.natCast_one]⟩
      · have e1:decide (p=swN x)=false:=decide_eq_false e
        rw [e1] at hq
        rw [if_neg e] at hsu
        simp (disch:=omega) only [f32_r7,f32_r8,f32_r10,Nat.reduceEqDiff,↓reduceIte,Bool.false_eq_true,g5,g7,g8,g10,hcl,d1,ca,cb,pa3,pc3,pd3,hav,hq,cond_false,bz]
        exact ⟨i + 1,by omega,by omega,rfl,by rw [hsu]; simp (disch:=omega) only [getK_set,Nat.reduceEqDiff,↓reduceIte,g0,g1,g5,g6,g7,g8,g9,and_self,Int.natCast_add,Int.natCast_one]⟩
    · have d1:decide ((i:Int) < ((arw (rat (clsR (gR (arI g)) x))).length:Int))=false:=decide_eq_false (by omega)
      have ei:i=(arw (rat (clsR (gR (arI g)) x))).length:=by omega
      have hend:inB (gR (arI g)) x (arw (rat (clsR (gR (arI g)) x))) (clT (gR (arI g)) kk) i=clT (gR (arI g)) (kk + 1):=by
        rw [clT_succ hx,ei]
        unfold inB
        rw [List.take_length]
        by_cases hm:swN x ∈ arw (rat (clsR (gR (arI g)) x))
        · rw [if_pos hm]
        · rw [if_neg hm]
          have:dN (gR (arI g)) x (swN x)=none:=by
            rw [hdn,lkD_none,bi.cls sy hxm.2.2]
            exact fun h=>hm (mem_arw.2 ⟨hx7.2,hx7.1,h⟩)
          rw [this]; rfl
      rw [hend] at g6
      simp (disch:=omega) only [f32_r7,f32_r11,Nat.reduceEqDiff,↓reduceIte,Bool.false_eq_true,g7,g8,g10,hcl,d1,bz]
      exact ⟨kk + 1,by omega,by omega,hG3,hc3,by simp (disch:=omega) only [getK_set,Nat.reduceEqDiff,↓reduceIte,g0,g1,g5,g6,and_self,Int.natCast_add,Int.natCast_one]⟩
  · have d0:decide ((kk:Int) < ((arw (rat (gR (arI g)))).length:Int))=false:=decide_eq_false (by omega)
    have ek:kk=(arw (rat (gR (arI g)))).length:=by omega
    subst ek
    simp (disch:=omega) only [f32_r4,f32_r12,f32_rs,Option.some.injEq,exists_eq_left',Nat.reduceEqDiff,↓reduceIte,Bool.false_eq_true,g5,g6,g7,hall,d0,bz]
    exact ⟨rfl,gr1.trans (hG.low gr1.nx)⟩
end
end Go.Ev
namespace Go.Ev
open Go Go.RowKit
noncomputable def f65_r0:List EOper := [oG 6 (.as (.c (.b false)))]
noncomputable def f65_r1:List EOper := [oG 7 (.as (cG 0))]
noncomputable def f65_r2:List EOper := [oG 8 (.mv (tG 7)),oG 9 (.mv (tG 0)),oG 10 (.len (tG 9)),oG 11 (.bin .lss (tG 8) (tG 10))]
noncomputable def f65_r3:List EOper := [oG 14 (.mv (tG 0)),oG 15 (.mv (tG 7)),oG 16 (.iads 1 (tG 14) (tG 15)),oG 17 (.ld (tG 16)),oG 18 (.mv (tG 1)),oG 19 (.bin .eql (tG 17) (tG 18))]
noncomputable def f65_r4:List EOper := [oG 6 (.as (.c (.b true)))]
noncomputable def f65_r5:List EOper := [oG 20 (.mv (tG 0)),oG 21 (.mv (tG 7)),oG 22 (.iads 1 (tG 20) (tG 21)),oG 23 (.ld (tG 22)),oG 24 (.mv (tG 2)),oG 25 (.bin .eql (tG 23) (tG 24))]
noncomputable def f65_r6:List EOper := [oG 6 (.as (.c (.b false)))]
noncomputable def f65_r7:List EOper := [oG 12 (.mv (tG 7)),oG 13 (.bin .add (tG 12) (cG 1)),oG 7 (.as (tG 13))]
noncomputable def f65_l0:EC:=(.seq (.seq (.reg f65_r2) (.cond (tG 11) .skip (.exit 0))) (.seq (.block 1 (.seq (.seq (.reg f65_r3) (.cond (tG 19) (.seq (.reg f65_r4) .ret) .skip)) (.seq (.reg f65_r5) (.cond (tG 25) (.seq (.reg f65_r6) .ret) .skip)))) (.reg f65_r7)))
noncomputable def f65_r8:List EOper := [oG 6 (.as (.c (.b false)))]
noncomputable def f65_c:EC:=(.seq (.reg f65_r0) (.seq (.seq (.reg f65_r1) (.block 0 (.loop f65_l0))) (.seq (.reg f65_r8) .ret)))
noncomputable def f65:EF:=⟨26, [.tmp (.ofNat 6)],f65_c,none⟩
theorem f65_rs:f65.rs = [.tmp (.ofNat 6)]:=of_eq_true (eq_self _)
noncomputable def f33_r0:List EOper := [oG 3 (.box 2 (tG 1)),oG 4 (.as (.c (.b false)))]
noncomputable def f33_r1:List EOper := [oG 5 (.as (cG 0))]
noncomputable def f33_r2:List EOper := [oG 9 (.mv (tG 5)),oG 10 (.bin .lss (tG 9) (cG 2))]
noncomputable def f33_r3:List EOper := [oG 6 (.as (cG 0))]
noncomputable def f33_r4:List EOper := [oG 7 (.as (cG 0))]
noncomputable def f33_r5:List EOper := [oG 13 (.mv (tG 7)),oG 14 (.mv (tG 5)),oG 15 (.iadr 2 1 (tG 3) (tG 14)),oG 16 (.ld (tG 15)),oG 17 (.len (tG 16)),oG 18 (.bin .lss (tG 13) (tG 17))]
noncomputable def f33_r6:List EOper := [oG 21 (.mv (tG 5)),oG 22 (.iadr 2 1 (tG 3) (tG 21)),oG 23 (.ld (tG 22)),oG 24 (.mv (tG 7)),oG 25 (.iads 1 (tG 23) (tG 24)),oG 26 (.ld (tG 25)),oG 8 (.as (tG 26))]
noncomputable def f33_r7:List EOper := [oG 27 (.mv (tG 8)),oG 28 (.bin .lss (tG 27) (cG 0)),oG 29 (.mv (tG 28)),gG 30 29 false (.mv (tG 8)),gG 31 29 false (.mv (tG 0)),gG 32 29 false (.bin .geq (tG 30) (tG 31)),oG 33 (.pick (tG 29) (.c (.b true)) (tG 32)),oG 34 (.mv (tG 33)),gG 35 34 false (.mv (tG 6)),gG 36 34 false (.mv (tG 8)),gG 37 34 false (.bin .shr (tG 35) (tG 36)),gG 38 34 false (.bin .rem (tG 37) (cG 2)),gG 39 34 false (.bin .eql (tG 38) (cG 1)),oG 40 (.pick (tG 34) (.c (.b true)) (tG 39))]
noncomputable def f33_r8:List EOper := [oG 4 (.as (.c (.b false)))]
noncomputable def f33_r9:List EOper := [oG 41 (.mv (tG 6)),oG 42 (.mv (tG 8)),oG 43 (.bin .shl (cG 1) (tG 42)),oG 44 (.bin .or (tG 41) (tG 43)),oG 6 (.as (tG 44))]
noncomputable def f33_r10:List EOper := [oG 19 (.mv (tG 7)),oG 20 (.bin .add (tG 19) (cG 1)),oG 7 (.as (tG 20))]
noncomputable def f33_l0:EC:=(.seq (.seq (.reg f33_r5) (.cond (tG 18) .skip (.exit 2))) (.seq (.block 3 (.seq (.reg f33_r6) (.seq (.seq (.reg f33_r7) (.cond (tG 40) (.seq (.reg f33_r8) .ret) .skip)) (.reg f33_r9)))) (.reg f33_r10)))
noncomputable def f33_r11:List EOper := [oG 45 (.mv (tG 5)),oG 46 (.iadr 2 1 (tG 3) (tG 45)),oG 47 (.ld (tG 46)),oG 48 (.len (tG 47)),oG 49 (.mv (tG 0)),oG 50 (.bin .neq (tG 48) (tG 49))]
noncomputable def f33_r12:List EOper := [oG 4 (.as (.c (.b false)))]
noncomputable def f33_r13:List EOper := [oG 11 (.mv (tG 5)),oG 12 (.bin .add (tG 11) (cG 1)),oG 5 (.as (tG 12))]
noncomputable def f33_l1:EC:=(.seq (.seq (.reg f33_r2) (.cond (tG 10) .skip (.exit 0))) (.seq (.block 1 (.seq (.reg f33_r3) (.seq (.seq (.reg f33_r4) (.block 2 (.loop f33_l0))) (.seq (.reg f33_r11) (.cond (tG 50) (.seq (.reg f33_r12) .ret) .skip))))) (.reg f33_r13)))
noncomputable def f33_r14:List EOper := [oG 51 (.mv (tG 0)),oG 52 (.bin .geq (tG 51) (cG 1)),oG 53 (.mv (tG 52)),gG 54 53 true (.mv (tG 0)),gG 55 53 true (.bin .leq (tG 54) (cG 7)),oG 56 (.pick (tG 53) (tG 55) (.c (.b false))),oG 4 (.as (tG 56))]
noncomputable def f33_c:EC:=(.seq (.reg f33_r0) (.seq (.seq (.reg f33_r1) (.block 0 (.loop f33_l1))) (.seq (.reg f33_r14) .ret)))
noncomputable def f33:EF:=⟨57, [.tmp (.ofNat 4)],f33_c,none⟩
theorem f33_rs:f33.rs = [.tmp (.ofNat 4)]:=of_eq_true (eq_self _)
noncomputable def f34_r0:List EOper := [oG 3 (.box 2 (tG 1)),oG 4 (.as (.c .sn))]
noncomputable def f34_r1:List EOper := [oG 5 (.as (.c .sn))]
noncomputable def f34_r2:List EOper := [oG 6 (.as (cG 0))]
noncomputable def f34_r3:List EOper := [oG 8 (.mv (tG 6)),oG 9 (.mv (tG 0)),oG 10 (.bin .lss (tG 8) (tG 9))]
noncomputable def f34_r4:List EOper := [oG 7 (.as (cG 0))]
noncomputable def f34_r5:List EOper := [oG 13 (.mv (tG 7)),oG 14 (.mv (tG 0)),oG 15 (.bin .lss (tG 13) (tG 14))]
noncomputable def f34_r6:List EOper := [oG 18 (.mv (tG 6)),oG 19 (.mv (tG 7)),oG 20 (.bin .neq (tG 18) (tG 19)),oG 21 (.mv (tG 20)),gG 22 21 true (.iadr 2 1 (tG 3) (cG 0)),gG 23 21 true (.ld (tG 22)),gG 24 21 true (.mv (tG 6)),gG 25 21 true (.mv (tG 7)),gG 26 21 true (.call (fG 65) [(tG 23),(tG 24),(tG 25)]),oG 27 (.pick (tG 21) (tG 26) (.c (.b false))),oG 28 (.mv (tG 27)),gG 29 28 true (.iadr 2 1 (tG 3) (cG 1)),gG 30 28 true (.ld (tG 29)),gG 31 28 true (.mv (tG 6)),gG 32 28 true (.mv (tG 7)),gG 33 28 true (.call (fG 65) [(tG 30),(tG 31),(tG 32)]),oG 34 (.pick (tG 28) (tG 33) (.c (.b false)))]
noncomputable def f34_r7:List EOper := [oG 35 (.mv (tG 5)),oG 36 (.mv (tG 6)),oG 37 (.mv (tG 7)),oG 38 (.build [(.i .i64 (.ofNat 0)),(.i .i64 (.ofNat 0))] [(0,1,(tG 36)),(1,1,(tG 37))]),oG 39 (.bslice 1 2 [(.i .i64 (.ofNat 0)),(.i .i64 (.ofNat 0))] [(0,2,(tG 38))]),oG 40 (.app 2 (tG 35) (tG 39)),oG 5 (.as (tG 40))]
noncomputable def f34_r8:List EOper := [oG 16 (.mv (tG 7)),oG 17 (.bin .add (tG 16) (cG 1)),oG 7 (.as (tG 17))]
noncomputable def f34_l0:EC:=(.seq (.seq (.reg f34_r5) (.cond (tG 15) .skip (.exit 2))) (.seq (.block 3 (.seq (.reg f34_r6) (.cond (tG 34) (.reg f34_r7) .skip))) (.reg f34_r8)))
noncomputable def f34_r9:List EOper := [oG 11 (.mv (tG 6)),oG 12 (.bin .add (tG 11) (cG 1)),oG 6 (.as (tG 12))]
noncomputable def f34_l1:EC:=(.seq (.seq (.reg f34_r3) (.cond (tG 10) .skip (.exit 0))) (.seq (.block 1 (.seq (.reg f34_r4) (.block 2 (.loop f34_l0)))) (.reg f34_r9)))
noncomputable def f34_r10:List EOper := [oG 41 (.mv (tG 5)),oG 4 (.as (tG 41))]
noncomputable def f34_c:EC:=(.seq (.reg f34_r0) (.seq (.reg f34_r1) (.seq (.seq (.reg f34_r2) (.block 0 (.loop f34_l1))) (.seq (.reg f34_r10) .ret))))
noncomputable def f34:EF:=⟨42, [.tmp (.ofNat 4)],f34_c,none⟩
theorem f34_rs:f34.rs = [.tmp (.ofNat 4)]:=of_eq_true (eq_self _)
section
variable {fs:T EF} {h h':H}
def Rx (h:H) (v:V) (L:List Int):Prop:=∃ v0,Sr iE h v0 L∧(∀ h1,lenV v h1 = .ok (.i .i64 (L.length:Int)) h1)∧(∀ y h1,iadsV 1 v y h1=iadsV 1 v0 y h1)∧(∀ hi h1,sliceB 1 v none hi none h1=sliceB 1 v0 none hi none h1)∧beqV v v=true∧cellsN 1 v=some [v]
theorem Sr.rx {v:V} {L:List Int} (s:Sr iE h v L):Rx h v L:=⟨v,s,s.len,fun _ _=>rfl,fun _ _=>rfl,s.beq,s.one⟩
theorem Rx.len {v:V} {L:List Int} (s:Rx h v L) (h1:H):lenV v h1 = .ok (.i .i64 (L.length:Int)) h1:=by obtain ⟨_,_,e,_⟩:=s; exact e h1
theorem Rx.at {v:V} {L:List Int} (s:Rx h v L) (i:Nat) (hi:i < L.length):∃ p,(∀ k h1,iadsV 1 v (.i k (i:Int)) h1 = .ok p h1)∧loadV h p one? = .ok (iE L[i]) h:=by
  obtain ⟨_,s0,_,e,_⟩:=s
  obtain ⟨p,p1,p2⟩:=s0.at i hi
  exact ⟨p,fun k h1=>(e _ _).trans (p1 k h1),p2⟩
theorem Rx.grow {v:V} {L:List Int} (s:Rx h v L) (hc:HC h) (hG:Grow h.nx.nat h h'):Rx h' v L:=by
  obtain ⟨v0,s0,e⟩:=s
  exact ⟨v0,s0.grow hc hG,e⟩
def befL:List Int→Int→Int→Bool
  | [],_,_=>false
  | x :: X,a,b=>if x=a then true else if x=b then false else befL X a b
theorem befL_c {x a b:Int} {X:List Int}:befL (x :: X) a b=if x=a then true else if x=b then false else befL X a b:=rfl
theorem befL_iff {a b:Int} (hab:a ≠ b):∀ {X:List Int},befL X a b=true ↔ ∃ i:Nat,X[i]? = some a ∧ ∀ t,t < i→X[t]? ≠ some b
  | []=>by simp [befL]
  | x :: X=>by
    unfold befL
    by_cases h1:x=a
    · rw [if_pos h1]
      exact ⟨fun _=>⟨0,by simp [h1],fun t ht=>by omega⟩,fun _=>rfl⟩
    · rw [if_neg h1]
      by_cases h2:x=b
      · rw [if_pos h2]
        constructor
        · intro h; cases h
        · rintro ⟨i,q1,q2⟩
          cases i with
          | zero=>simp at q1; exact absurd q1 h1
          | succ i=>exact absurd (by simp [h2]) (q2 0 (by omega))
      · rw [if_neg h2,befL_iff hab (X:=X)]
        constructor
        · rintro ⟨i,q1,q2⟩
          refine ⟨i + 1,by simpa using q1,fun t ht=>?_⟩
          cases t with
          | zero=>simp; exact h2
          | succ t=>simp; exact q2 t (by omega)
        · rintro ⟨i,q1,q2⟩
          cases i with
          | zero=>simp at q1; exact absurd q1 h1
          | succ i=>exact ⟨i,by simpa using q1,fun t ht=>by have:=q2 (t + 1) (by omega); simpa using this⟩
theorem befL_bf {n:Nat} {X:List Int} (k:lnOk n X) {a b:Nat} (_ha:a < n) (hb:b < n) (hab:a ≠ b):befL X (a:Int) (b:Int)=bfT X X.length a b:=by
  rw [Bool.eq_iff_iff,befL_iff (by omega),bfT_iff]
  constructor
  · rintro ⟨i,q1,q2⟩
    obtain ⟨j,hj⟩:=nodup_fill k hb
    refine ⟨j,i,get_lt hj,?_,hj,q1⟩
    refine Classical.byContradiction fun hn=>?_
    by_cases e:i=j
    · subst e; rw [q1] at hj; have:=Option.some.inj hj; omega
    · exact q2 j (by omega) hj
  · rintro ⟨j,t,_,q1,q2,q3⟩
    exact ⟨t,q3,fun s hs e=>by have:=k.uniq q2 e; omega⟩
def f65_I (h0:H) (v:V) (X:List Int) (a b:Int) (i:Nat) (fr:Fr) (h1:H):Prop:=i ≤ X.length∧h1=h0∧befL X a b=befL (X.drop i) a b∧fr.get (K.ofNat 0)=some (v)∧fr.get (K.ofNat 1)=some (.i .i64 a)∧fr.get (K.ofNat 2)=some (.i .i64 b)∧fr.get (K.ofNat 7)=some (.i .i64 (i:Int))
theorem f65_ret {v:V} {X:List Int} {a b:Int} (hv:Rx h v X) (hX:X.length ≤ 1000000):Ret fs f65 [v, .i .i64 a, .i .i64 b] h fun r h'=>r = .b (befL X a b)∧h'=h:=by
  apply ret_of rfl
  show W fs none f65_c _ _ _
  unfold f65_c
  have hlen:=hv.len
  simp (disch:=omega) only [f65_r0,f65_r1,bz]
  refine W_loop (f65_I h v X a b) (fun i=>X.length - i) ?_ 0 ⟨by omega,rfl,rfl,by simp (disch:=omega) only [getK_set,Nat.reduceEqDiff,↓reduceIte,and_self,Int.natCast_zero]⟩
  rintro i fr h1 ⟨hi,rfl,hb,g0,g1,g2,g7⟩
  unfold f65_l0
  by_cases hlt:i < X.length
  · have d0:decide ((i:Int) < (X.length:Int))=true:=decide_eq_true (by omega)
    obtain ⟨p,p1,p2⟩:=hv.at i hlt
    have p2:loadV h1 p one? = .ok (.i .i64 X[i]) h1:=p2
    have hdr:X.drop i=X[i] :: X.drop (i + 1):=List.drop_eq_getElem_cons hlt
    rw [hdr,befL_c] at hb
    by_cases e1:X[i]=a
    · have d1:decide (X[i]=a)=true:=decide_eq_true e1
      rw [if_pos e1] at hb
      simp (disch:=omega) only [f65_r2,f65_r3,f65_r4,f65_rs,Option.some.injEq,exists_eq_left',Nat.reduceEqDiff,↓reduceIte,g0,g1,g7,hlen,d0,p1,p2,d1,and_true,bz]
      rw [hb]
    · have d1:decide (X[i]=a)=false:=decide_eq_false e1
      rw [if_neg e1] at hb
      by_cases e2:X[i]=b
      · have d2:decide (X[i]=b)=true:=decide_eq_true e2
        rw [if_pos e2] at hb
        simp (disch:=omega) only [f65_r2,f65_r3,f65_r5,f65_r6,f65_rs,Option.some.injEq,exists_eq_left',Nat.reduceEqDiff,↓reduceIte,Bool.false_eq_true,g0,g1,g2,g7,hlen,d0,p1,p2,d1,d2,and_true,bz]
        rw [hb]
      · have d2:decide (X[i]=b)=false:=decide_eq_false e2
        rw [if_neg e2] at hb
        simp (disch:=omega) only [f65_r2,f65_r3,f65_r5,f65_r7,Nat.reduceEqDiff,↓reduceIte,Bool.false_eq_true,g0,g1,g2,g7,hlen,d0,p1,p2,d1,d2,bz]
        exact ⟨i + 1,by omega,by omega,rfl,hb,by simp (disch:=omega) only [getK_set,Nat.reduceEqDiff,↓reduceIte,g0,g1,g2,and_self,Int.natCast_add,Int.natCast_one]⟩
  · have d0:decide ((i:Int) < (X.length:Int))=false:=decide_eq_false (by omega)
    rw [List.drop_eq_nil_of_le (by omega)] at hb
    simp (disch:=omega) only [f65_r2,f65_r8,f65_rs,Option.some.injEq,exists_eq_left',Nat.reduceEqDiff,↓reduceIte,Bool.false_eq_true,g0,g7,hlen,d0,and_true,bz]
    rw [hb]; rfl
theorem bit_o {m x:Nat} (hx:x ≤ 6):binV .shr (.i .i64 (m:Int)) (.i .i64 (x:Int))=some (.i .i64 ((m / 2 ^ x:Nat):Int))∧((m / 2 ^ x:Nat):Int).tmod 2=((m / 2 ^ x % 2:Nat):Int)∧decide (((m / 2 ^ x % 2:Nat):Int)=1)=m.testBit x∧binV .shl (.i .i64 1) (.i .i64 (x:Int))=some (.i .i64 ((2 ^ x:Nat):Int))∧2 ^ x ≤ 64:=by
  have hp:2 ^ x ≤ 2 ^ 6:=Nat.pow_le_pow_right (by omega) hx
  have hp2':2 ^ 6=64:=by decide
  refine ⟨by rw [bin_shr,show min x (IntKind.bits .i64)=x by show min x 64=x; omega],rfl,?_,?_,by omega⟩
  · rw [Nat.testBit_eq_decide_div_mod_eq]
    congr 1
    apply propext
    omega
  · rw [bin_shl (by omega),show min ((x:Int).toNat) (IntKind.bits .i64)=x by show min ((x:Int).toNat) 64=x; omega,Int.one_mul]
    have hz:(2:Int) ^ x=((2 ^ x:Nat):Int):=by rw [Int.natCast_pow]; rfl
    rw [hz,fw64 (by have:(0:Int) ≤ ((2 ^ x:Nat):Int):=Int.natCast_nonneg _; omega) (by omega)]
structure Met7 (Z:List Int) (i m:Nat):Prop where
  lt:m < 128
  bit:∀ a:Nat,m.testBit a=true ↔ ∃ t,t < i∧Z[t]? = some (a:Int)
theorem Met7.add {Z:List Int} {i m x:Nat} (k:Met7 Z i m) (hx:x < 7) (hi:Z[i]? = some (x:Int)):Met7 Z (i + 1) (m ||| 2 ^ x):=by
  refine ⟨?_,fun a=>?_⟩
  · have h1:2 ^ x < 2 ^ 7:=Nat.pow_lt_pow_right (by omega) hx
    exact Nat.or_lt_two_pow (n:=7) k.lt h1
  · rw [Nat.testBit_or,Bool.or_eq_true,k.bit,Nat.testBit_two_pow,decide_eq_true_eq]
    constructor
    · rintro (⟨t,h1,h2⟩ | rfl)
      · exact ⟨t,by omega,h2⟩
      · exact ⟨i,by omega,hi⟩
    · rintro ⟨t,h1,h2⟩
      by_cases e:t=i
      · subst e
        rw [hi] at h2
        have:=Option.some.inj h2
        exact .inr (by omega)
      · exact .inl ⟨t,by omega,h2⟩
def f33_I (h0:H) (id:K) (n:Nat) (X Y:List Int) (kk:Nat) (fr:Fr) (h1:H):Prop:=kk ≤ 2∧(1 ≤ kk→lnOk n X)∧(2 ≤ kk→lnOk n Y)∧h1=h0∧fr.get (K.ofNat 0)=some (.i .i64 (n:Int))∧fr.get (K.ofNat 3)=some (.p id 0)∧fr.get (K.ofNat 5)=some (.i .i64 (kk:Int))
def f33_J (h0:H) (id:K) (n:Nat) (Z:List Int) (kk:Nat) (i:Nat) (fr:Fr) (h1:H):Prop:=i ≤ Z.length∧OkT n Z i ∧ ∃ m,Met7 Z i m∧h1=h0∧fr.get (K.ofNat 0)=some (.i .i64 (n:Int))∧fr.get (K.ofNat 3)=some (.p id 0)∧fr.get (K.ofNat 5)=some (.i .i64 (kk:Int))∧fr.get (K.ofNat 6)=some (.i .i64 (m:Int))∧fr.get (K.ofNat 7)=some (.i .i64 (i:Int))
theorem f33_ret {n:Nat} {v w:V} {X Y:List Int} (hn1:1 ≤ n) (hn7:n ≤ 7) (hv:Rx h v X) (hw:Rx h w Y) (hX:X.length ≤ 1000000) (hY:Y.length ≤ 1000000) (hc:HC h):Ret fs f33 [.i .i64 (n:Int), .agg [v,w]] h fun r h'=>∃ b,r = .b b∧(b=true ↔ lnOk n X∧lnOk n Y)∧Grow h.nx.nat h h':=by
  apply ret_of rfl
  show W fs none f33_c _ _ _
  unfold f33_c
  have cvw:cellsN 2 (.agg [v,w])=some [v,w]:=rfl
  have g1_:Grow h.nx.nat h (h.new (.cells 2 [v,w])):=Grow.new (Nat.le_refl _) _
  have e1:(h.new (.cells 2 [v,w])).get h.nx = .cells 2 [v,w]:=get_new_same
  simp (disch:=omega) only [f33_r0,f33_r1,↓reduceIte,cvw,bz]
  generalize h.new (.cells 2 [v,w])=h1 at *
  have hv1:=hv.grow hc g1_
  have hw1:=hw.grow hc g1_
  refine W_loop (f33_I h1 h.nx n X Y) (fun kk=>2 - kk) ?_ 0 ⟨by omega,fun h=>by omega,fun h=>by omega,rfl,by simp (disch:=omega) only [getK_set,Nat.reduceEqDiff,↓reduceIte,and_self,Int.natCast_zero]⟩
  rintro kk fr h2 ⟨hkk,oX,oY,rfl,g0,g3,g5⟩
  unfold f33_l1
  by_cases hk:kk < 2
  · have d0:decide ((kk:Int) < 2)=true:=decide_eq_true (by omega)
    obtain ⟨z,Z,hz,hZl,lz,hno,hyes⟩:∃ z Z,Rx h2 z Z∧Z.length ≤ 1000000∧loadV h2 (.p h.nx (0 + kk * 1)) one? = .ok z h2∧(¬ lnOk n Z → ¬ (lnOk n X∧lnOk n Y))∧(lnOk n Z→(1 ≤ kk + 1→lnOk n X)∧(2 ≤ kk + 1→lnOk n Y)):=by
      by_cases e:kk=0
      · subst e; exact ⟨v,X,hv1,hX,load_p e1 rfl,fun h h2=>h h2.1,fun h=>⟨fun _=>h,fun h=>by omega⟩⟩
      · have:kk=1:=by omega
        subst this; exact ⟨w,Y,hw1,hY,load_p e1 rfl,fun h h2=>h h2.2,fun h=>⟨fun _=>oX (by omega),fun _=>h⟩⟩
    have zlen:=hz.len
    simp (disch:=omega) only [f33_r2,f33_r3,f33_r4,↓reduceIte,g5,d0,bz]
    refine W_loop (f33_J h2 h.nx n Z kk) (fun i=>Z.length - i) ?_ 0 ⟨by omega,⟨fun j hj=>by omega,fun j t _ hj=>by omega⟩,0,⟨by omega,fun a=>by simp⟩,rfl,by simp (disch:=omega) only [getK_set,Nat.reduceEqDiff,↓reduceIte,g0,g3,g5,and_self,Int.natCast_zero]⟩
    clear g0 g3 g5 fr
    rintro i fr h3 ⟨hi,hok,m,hm,rfl,g0,g3,g5,g6,g7⟩
    unfold f33_l0
    by_cases hlt:i < Z.length
    · have d1:decide ((i:Int) < (Z.length:Int))=true:=decide_eq_true (by omega)
      obtain ⟨p,p1,p2⟩:=hz.at i hlt
      obtain ⟨x,hx⟩:∃ x,Z[i]=x:=⟨_,rfl⟩
      rw [hx] at p2
      have p2:loadV h3 p one? = .ok (.i .i64 x) h3:=p2
      have hXi:Z[i]? = some x:=by rw [List.getElem?_eq_getElem hlt,hx]
      by_cases hx0:x < 0
      · have d2:decide (x < 0)=true:=decide_eq_true hx0
        simp (disch:=omega) only [f33_r5,f33_r6,f33_r7,f33_r8,f33_rs,Option.some.injEq,exists_eq_left',Nat.reduceEqDiff,↓reduceIte,Bool.false_eq_true,Bool.not_true,g3,g5,g7,lz,zlen,d1,p1,p2,d2,bz]
        refine ⟨false,rfl,⟨(fun h=>by cases h),fun h=>absurd h (hno fun h=>?_)⟩,g1_⟩
        obtain ⟨a,_,e⟩:=h.2.lt i hlt
        rw [hXi] at e; have:=Option.some.inj e; omega
      · have d2:decide (x < 0)=false:=decide_eq_false hx0
        by_cases hxn:(n:Int) ≤ x
        · have d3:decide ((n:Int) ≤ x)=true:=decide_eq_true hxn
          simp (disch:=omega) only [f33_r5,f33_r6,f33_r7,f33_r8,f33_rs,Option.some.injEq,exists_eq_left',Nat.reduceEqDiff,↓reduceIte,Bool.false_eq_true,Bool.not_true,Bool.not_false,g0,g3,g5,g7,lz,zlen,d1,p1,p2,d2,d3,bz]
          refine ⟨false,rfl,⟨(fun h=>by cases h),fun h=>absurd h (hno fun h=>?_)⟩,g1_⟩
          obtain ⟨a,_,e⟩:=h.2.lt i hlt
          rw [hXi] at e; have:=Option.some.inj e; omega
        · have d3:decide ((n:Int) ≤ x)=false:=decide_eq_false hxn
          obtain ⟨y,rfl⟩:∃ y:Nat,x=(y:Int):=⟨x.toNat,by omega⟩
          have hy7:y < 7:=by omega
          obtain ⟨b1,b2,b3,b4,b5⟩:=bit_o (m:=m) (x:=y) (by omega)
          have hr2:∀ a,binV .rem (.i .i64 a) (.i .i64 2)=some (.i .i64 (a.tmod 2)):=fun a=>bin_rem (by omega)
          have hmt:=hm.lt
          cases hb:m.testBit y with
          | true =>
            rw [hb] at b3
            simp (disch:=omega) only [f33_r5,f33_r6,f33_r7,f33_r8,f33_rs,Option.some.injEq,exists_eq_left',Nat.reduceEqDiff,↓reduceIte,Bool.false_eq_true,Bool.not_false,g0,g3,g5,g6,g7,lz,zlen,d1,p1,p2,d2,d3,b1,hr2,b2,b3,bz]
            refine ⟨false,rfl,⟨(fun h=>by cases h),fun h=>absurd h (hno fun h=>?_)⟩,g1_⟩
            obtain ⟨t,h1,h2⟩:=(hm.bit y).1 hb
            exact h.2.nd i t h1 hlt (by rw [hXi,h2])
          | false =>
            rw [hb] at b3
            have hor:binV .or (.i .i64 (m:Int)) (.i .i64 ((2 ^ y:Nat):Int))=some (.i .i64 ((m ||| 2 ^ y:Nat):Int)):=bin_or (by show m ≤ 9223372036854775807; omega) (by show 2 ^ y ≤ 9223372036854775807; omega)
            have hok':OkT n Z (i + 1):=by
              refine ⟨fun j hj=>?_,fun j t htj hj e=>?_⟩
              · by_cases e:j=i
                · subst e; exact ⟨y,by omega,hXi⟩
                · exact hok.lt j (by omega)
              · by_cases e2:j=i
                · subst e2
                  have:=(hm.bit y).2 ⟨t,htj,by rw [← e,hXi]⟩
                  rw [hb] at this; cases this
                · exact hok.nd j t htj (by omega) e
            simp (disch:=omega) only [f33_r5,f33_r6,f33_r7,f33_r9,f33_r10,Nat.reduceEqDiff,↓reduceIte,Bool.false_eq_true,Bool.not_false,g0,g3,g5,g6,g7,lz,zlen,d1,p1,p2,d2,d3,b1,hr2,b2,b3,b4,hor,bz]
            exact ⟨i + 1,by omega,by omega,hok',_,hm.add hy7 hXi,rfl,by simp (disch:=omega) only [getK_set,Nat.reduceEqDiff,↓reduceIte,g0,g3,g5,and_self,Int.natCast_add,Int.natCast_one]⟩
    · have d1:decide ((i:Int) < (Z.length:Int))=false:=decide_eq_false (by omega)
      have ei:i=Z.length:=by omega
      by_cases hZn:Z.length=n
      · have d2:decide ((Z.length:Int) ≠ (n:Int))=false:=decide_eq_false (by omega)
        obtain ⟨q1,q2⟩:=hyes ⟨hZn,by rw [ei] at hok; exact hok⟩
        simp (disch:=omega) only [f33_r5,f33_r11,f33_r13,Nat.reduceEqDiff,↓reduceIte,Bool.false_eq_true,g0,g3,g5,g7,lz,zlen,d1,d2,bz]
        exact ⟨kk + 1,by omega,by omega,q1,q2,rfl,by simp (disch:=omega) only [getK_set,Nat.reduceEqDiff,↓reduceIte,g0,g3,and_self,Int.natCast_add,Int.natCast_one]⟩
      · have d2:decide ((Z.length:Int) ≠ (n:Int))=true:=decide_eq_true (by omega)
        simp (disch:=omega) only [f33_r5,f33_r11,f33_r12,f33_rs,Option.some.injEq,exists_eq_left',Nat.reduceEqDiff,↓reduceIte,Bool.false_eq_true,g0,g3,g5,g7,lz,zlen,d1,d2,bz]
        exact ⟨false,rfl,⟨(fun h=>by cases h),fun h=>absurd h (hno fun h=>hZn h.1)⟩,g1_⟩
  · have d0:decide ((kk:Int) < 2)=false:=decide_eq_false (by omega)
    have d1:decide (1 ≤ (n:Int))=true:=decide_eq_true (by omega)
    have d2:decide ((n:Int) ≤ 7)=true:=decide_eq_true (by omega)
    simp (disch:=omega) only [f33_r2,f33_r14,f33_rs,Option.some.injEq,exists_eq_left',Nat.reduceEqDiff,↓reduceIte,Bool.false_eq_true,g0,g5,d0,d1,d2,bz]
    exact ⟨true,rfl,⟨fun _=>⟨oX (by omega),oY (by omega)⟩,fun _=>rfl⟩,g1_⟩
def f35_A (h0:H) (n:Nat) (id:K) (G:Nat→Nat→Bool) (a:Nat) (fr:Fr) (h1:H):Prop:=a ≤ n ∧ ∃ u,Sk 2 qE h1 u (arP G (7 * a))∧Own h0.nx.nat u∧Grow h0.nx.nat h0 h1∧fr.get (K.ofNat 0)=some (.i .i64 (n:Int))∧fr.get (K.ofNat 3)=some (.p id 0)∧fr.get (K.ofNat 5)=some (u)∧fr.get (K.ofNat 6)=some (.i .i64 (a:Int))
def cmN (n:Nat) (X Y:List Int) (a b:Nat):Bool:=decide (a < n∧b < n∧a ≠ b) && (befL X a b && befL Y a b)
def f34_B (h0:H) (n:Nat) (id:K) (G:Nat→Nat→Bool) (a:Nat) (b:Nat) (fr:Fr) (h1:H):Prop:=b ≤ n ∧ ∃ u,Sk 2 qE h1 u (arP G (7 * a + b))∧Own h0.nx.nat u∧Grow h0.nx.nat h0 h1∧fr.get (K.ofNat 0)=some (.i .i64 (n:Int))∧fr.get (K.ofNat 3)=some (.p id 0)∧fr.get (K.ofNat 5)=some (u)∧fr.get (K.ofNat 6)=some (.i .i64 (a:Int))∧fr.get (K.ofNat 7)=some (.i .i64 (b:Int))
theorem f34_ret {n:Nat} {v w:V} {X Y:List Int} (h67:fs.get (.ofNat 65)=some f65) (hn7:n ≤ 7) (hv:Rx h v X) (hw:Rx h w Y) (hX:X.length ≤ 1000000) (hY:Y.length ≤ 1000000) (hc:HC h):Ret fs f34 [.i .i64 (n:Int), .agg [v,w]] h fun r h'=>Sk 2 qE h' r (arI (cmN n X Y))∧Own h.nx.nat r∧Grow h.nx.nat h h':=by
  have up:∀ a b,cmN n X Y a b=true→a < n∧b < n:=fun a b h=>by
    unfold cmN at h
    rw [Bool.and_eq_true,decide_eq_true_eq] at h
    exact ⟨h.1.1,h.1.2.1⟩
  apply ret_of rfl
  show W fs none f34_c _ _ _
  unfold f34_c
  have cvw:cellsN 2 (.agg [v,w])=some [v,w]:=rfl
  have n1:=nx_new h (.cells 2 [v,w])
  have g1_:Grow h.nx.nat h (h.new (.cells 2 [v,w])):=Grow.new (Nat.le_refl _) _
  have e1:(h.new (.cells 2 [v,w])).get h.nx = .cells 2 [v,w]:=get_new_same
  simp (disch:=omega) only [f34_r0,f34_r1,f34_r2,↓reduceIte,cvw,bz]
  generalize h.new (.cells 2 [v,w])=h0 at *
  have hc0:=g1_.hc hc
  have hv0:=hv.grow hc g1_
  have hw0:=hw.grow hc g1_
  refine W_loop (f35_A h0 n h.nx (cmN n X Y)) (fun a=>n - a) ?_ 0 ⟨by omega, .sn,Sk.nil,Own.sn,Grow.refl _ _,by simp (disch:=omega) only [getK_set,Nat.reduceEqDiff,↓reduceIte,and_self,Int.natCast_zero]⟩
  rintro a fr h1 ⟨ha,u,hs,ho,hG,g0,g3,g5,g6⟩
  unfold f34_l1
  by_cases hlt:a < n
  · have d0:decide ((a:Int) < (n:Int))=true:=decide_eq_true (by omega)
    simp (disch:=omega) only [f34_r3,f34_r4,Nat.reduceEqDiff,↓reduceIte,g0,g6,d0,bz]
    refine W_loop (f34_B h0 n h.nx (cmN n X Y) a) (fun b=>n + 1 - b) ?_ 0 ⟨by omega,u,by rw [Nat.add_zero]; exact hs,ho,hG,by simp (disch:=omega) only [getK_set,Nat.reduceEqDiff,↓reduceIte,g0,g3,g5,g6,and_self,Int.natCast_zero]⟩
    clear hs ho hG g0 g3 g5 g6 fr
    rintro b fr h2 ⟨hb,u,hs,ho,hG,g0,g3,g5,g6,g7⟩
    have hc2:=hG.hc hc0
    have hv2:=hv0.grow hc0 hG
    have hw2:=hw0.grow hc0 hG
    unfold f34_l0
    by_cases hlt2:b < n
    · have d1:decide ((b:Int) < (n:Int))=true:=decide_eq_true (by omega)
      have hsu:=arP_succ (g:=cmN n X Y) (a:=a) (b:=b) (by omega)
      have e2:=(hG.old h.nx (by omega)).trans e1
      have l0:=ld20 e2
      have l1:=ld21 e2
      have no:cmN n X Y a b=false→arP (cmN n X Y) (7 * a + (b + 1))=arP (cmN n X Y) (7 * a + b):=fun h=>by rw [hsu,h]; simp
      by_cases hab:a=b
      · have d2:decide ((a:Int) ≠ (b:Int))=false:=decide_eq_false (by omega)
        have hno:=no (by unfold cmN; rw [decide_eq_false (fun h=>h.2.2 hab)]; rfl)
        simp (disch:=omega) only [f34_r5,f34_r6,f34_r8,Nat.reduceEqDiff,↓reduceIte,Bool.false_eq_true,g0,g6,g7,d1,d2,bz]
        exact ⟨b + 1,by omega,by omega,u,by rw [hno]; exact hs,ho,hG,by simp (disch:=omega) only [getK_set,Nat.reduceEqDiff,↓reduceIte,g0,g3,g5,g6,and_self,Int.natCast_add,Int.natCast_one]⟩
      · have d2:decide ((a:Int) ≠ (b:Int))=true:=decide_eq_true (by omega)
        have hcm:cmN n X Y a b=(befL X a b && befL Y a b):=by unfold cmN; rw [decide_eq_true (show a < n∧b < n∧a ≠ b from ⟨hlt,hlt2,hab⟩)]; rfl
        simp (disch:=omega) only [f34_r5,f34_r6,Nat.reduceEqDiff,↓reduceIte,g0,g3,g6,g7,d1,d2,l0,bz]
        refine (callP_0 (ef:=f65) h67 rfl (f65_ret (a:=(a:Int)) (b:=(b:Int)) hv2 hX)).mono ?_
        rintro r h3 ⟨rfl,rfl⟩
        cases hx:befL X a b with
        | false =>
          have hno:=no (by rw [hcm,hx]; rfl)
          simp (disch:=omega) only [f34_r8,Nat.reduceEqDiff,↓reduceIte,Bool.false_eq_true,g7,bz]
          exact ⟨b + 1,by omega,by omega,u,by rw [hno]; exact hs,ho,hG,by simp (disch:=omega) only [getK_set,Nat.reduceEqDiff,↓reduceIte,g0,g3,g5,g6,and_self,Int.natCast_add,Int.natCast_one]⟩
        | true =>
          simp (disch:=omega) only [Nat.reduceEqDiff,↓reduceIte,g3,g6,g7,l1,bz]
          refine (callP_0 (ef:=f65) h67 rfl (f65_ret (a:=(a:Int)) (b:=(b:Int)) hw2 hY)).mono ?_
          rintro r h3 ⟨rfl,rfl⟩
          cases hy:befL Y a b with
          | false =>
            have hno:=no (by rw [hcm,hx,hy]; rfl)
            simp (disch:=omega) only [f34_r8,Nat.reduceEqDiff,↓reduceIte,Bool.false_eq_true,g7,bz]
            exact ⟨b + 1,by omega,by omega,u,by rw [hno]; exact hs,ho,hG,by simp (disch:=omega) only [getK_set,Nat.reduceEqDiff,↓reduceIte,g0,g3,g5,g6,and_self,Int.natCast_add,Int.natCast_one]⟩
          | true =>
            rw [hcm,hx,hy,Bool.and_self,if_pos rfl] at hsu
            have hl:=arP_len (g:=cmN n X Y) (i:=7 * a + b)
            obtain ⟨u',h4,a1,s1,o1,gr1,_⟩:=Sk.push qE_len (by omega) (x:=((a:Int),(b:Int))) hs ho hG.nx hc2 (by omega)
            have a1':appV 2 (h3.new (.cells (1 * 2) [.i .i64 (a:Int), .i .i64 (b:Int)])) u (.sl h3.nx 0 1 2) = .ok u' h4:=a1
            have cp:cellsN 2 (.agg [.i .i64 (a:Int), .i .i64 (b:Int)])=some [.i .i64 (a:Int), .i .i64 (b:Int)]:=rfl
            have sp:setMany [V.i .i64 0,V.i .i64 0] 0 [V.i .i64 (a:Int),V.i .i64 (b:Int)] = [V.i .i64 (a:Int),V.i .i64 (b:Int)]:=rfl
            simp (disch:=omega) only [f34_r7,f34_r8,Nat.reduceEqDiff,↓reduceIte,g5,g6,g7,fill_c,cp,sp,a1',bz]
            exact ⟨b + 1,by omega,by omega,u',by rw [hsu]; exact s1,o1,hG.trans gr1,by simp (disch:=omega) only [getK_set,Nat.reduceEqDiff,↓reduceIte,g0,g3,g6,and_self,Int.natCast_add,Int.natCast_one]⟩
    · have d1:decide ((b:Int) < (n:Int))=false:=decide_eq_false (by omega)
      have eb:b=n:=by omega
      have e1:arP (cmN n X Y) (7 * (a + 1))=arP (cmN n X Y) (7 * a + b):=arP_row (by omega) (fun d hd _=>by
        cases e:cmN n X Y a d with
        | false=>rfl
        | true=>have:=(up _ _ e).2; omega)
      simp (disch:=omega) only [f34_r5,f34_r9,Nat.reduceEqDiff,↓reduceIte,Bool.false_eq_true,g0,g6,g7,d1,bz]
      exact ⟨a + 1,by omega,by omega,u,by rw [e1]; exact hs,ho,hG,by simp (disch:=omega) only [getK_set,Nat.reduceEqDiff,↓reduceIte,g0,g3,g5,and_self,Int.natCast_add,Int.natCast_one]⟩
  · have d0:decide ((a:Int) < (n:Int))=false:=decide_eq_false (by omega)
    have ea:a=n:=by omega
    have e1:arP (cmN n X Y) (7 * a)=arI (cmN n X Y):=arP_end (by omega) (fun x d hx _ hd=>by
      cases e:cmN n X Y x d with
      | false=>rfl
      | true=>have:=up _ _ e; omega)
    rw [e1] at hs
    simp (disch:=omega) only [f34_r3,f34_r10,f34_rs,Option.some.injEq,exists_eq_left',Nat.reduceEqDiff,↓reduceIte,Bool.false_eq_true,g0,g5,g6,d0,bz]
    exact ⟨hs,ho.low (by omega),g1_.trans (hG.low (by omega))⟩
end
end Go.Ev
namespace Go.Ev
open Go Go.RowKit
noncomputable def f53_r0:List EOper := [oG 4 (.box 49 (tG 1)),oG 5 (.box 49 (tG 2)),oG 6 (.alloc 2 [.sn, .sn])]
noncomputable def f53_r1:List Stage := [⟨[oG 7 (.mv (tG 0)),oG 8 (.ldn 49 (tG 4)),oG 9 (.ldn 49 (tG 5)),oG 10 (.bslice 2 49 (List.replicate 98 (.b false)) [(0,49,(tG 8)),(49,49,(tG 9))]),oG 13 (.mv (tG 0)),oG 14 (.ldn 49 (tG 4)),oG 15 (.ldn 49 (tG 5))], [],(some (oG 11 (.call (fG 69) [(tG 10)]))), [(.ofNat 10)]⟩,⟨[], [oG 7 (.mv (tG 0)),oG 13 (.mv (tG 0)),oG 14 (.ldn 49 (tG 4)),oG 15 (.ldn 49 (tG 5))],(some (oG 12 (.call (fG 81) [(tG 7),(tG 11)]))), []⟩,⟨[], [oG 13 (.mv (tG 0)),oG 14 (.ldn 49 (tG 4)),oG 15 (.ldn 49 (tG 5))],(some (oG 16 (.call (fG 70) [(tG 15)]))), []⟩,⟨[oG 17 (.bslice 2 49 (List.replicate 98 (.b false)) [(0,49,(tG 14)),(49,49,(tG 16))])], [oG 13 (.mv (tG 0)),oG 14 (.ldn 49 (tG 4))],(some (oG 18 (.call (fG 69) [(tG 17)]))), [(.ofNat 17)]⟩,⟨[], [oG 13 (.mv (tG 0))],(some (oG 19 (.call (fG 81) [(tG 13),(tG 18)]))), []⟩,⟨[oG 20 (.build [.sn, .sn] [(0,1,(tG 12)),(1,1,(tG 19))])], [],(some ⟨none,none, .st 2 (tG 6) (tG 20)⟩), []⟩,⟨[], [],none, []⟩]
noncomputable def f53_c:EC:=(.seq (.reg f53_r0) (.seq (.draw f53_r1) .ret))
noncomputable def f53:EF:=⟨21, [.celln (.ofNat 6) 2],f53_c,none⟩
theorem f53_rs:f53.rs = [.celln (.ofNat 6) 2]:=of_eq_true (eq_self _)
noncomputable def f22_r0:List EOper := [oG 4 (.alloc 2 [.sn, .sn]),oG 5 (.as (.c (.b false))),oG 6 (.as (cG 0))]
noncomputable def f22_r1:List EOper := [oG 10 (.mv (tG 0)),oG 11 (.mv (tG 1)),oG 12 (.call (fG 9) [(tG 10),(tG 11)]),oG 7 (.as (tG 12))]
noncomputable def f22_r2:List EOper := [oG 13 (.mv (tG 7)),oG 14 (.bin .neq (tG 13) (cG 0))]
noncomputable def f22_r3:List EOper := [oG 15 (.build [.sn, .sn] []),oG 16 (.mv (tG 7)),⟨none,none, .st 2 (tG 4) (tG 15)⟩,oG 5 (.as (.c (.b false))),oG 6 (.as (tG 16))]
noncomputable def f22_r4:List EOper := [oG 18 (.mv (tG 1)),oG 19 (.call (fG 40) [(tG 18)]),oG 20 (.mv (tG 0)),oG 21 (.call (fG 41) [(tG 19),(tG 20)]),oG 22 (.call (fG 49) [(tG 21)]),oG 17 (.mv (tG 22)),oG 23 (.ext (tG 17) 0),oG 24 (.ext (tG 17) 1),oG 8 (.alloc 49 (List.replicate 49 (.b false))),⟨none,none, .st 49 (tG 8) (tG 23)⟩,oG 9 (.as (tG 24))]
noncomputable def f22_r5:List EOper := [oG 25 (.mv (tG 9)),oG 26 (.not (tG 25))]
noncomputable def f22_r6:List EOper := [oG 27 (.build [.sn, .sn] []),⟨none,none, .st 2 (tG 4) (tG 27)⟩,oG 5 (.as (.c (.b false))),oG 6 (.as (cG 0))]
noncomputable def f22_r7:List Stage := [⟨[oG 28 (.mv (tG 0)),oG 29 (.mv (tG 1)),oG 31 (.ldn 49 (tG 8))], [],(some (oG 30 (.call (fG 38) [(tG 29)]))), []⟩,⟨[], [oG 28 (.mv (tG 0)),oG 31 (.ldn 49 (tG 8))],(some (oG 32 (.call (fG 53) [(tG 28),(tG 30),(tG 31)]))), []⟩,⟨[], [],(some ⟨none,none, .st 2 (tG 4) (tG 32)⟩), []⟩,⟨[], [],(some (oG 5 (.as (.c (.b true))))), []⟩,⟨[], [],(some (oG 6 (.as (cG 0)))), []⟩,⟨[], [],none, []⟩]
noncomputable def f22_c:EC:=(.seq (.reg f22_r0) (.seq (.seq (.reg f22_r1) (.seq (.reg f22_r2) (.cond (tG 14) (.seq (.reg f22_r3) .ret) .skip))) (.seq (.reg f22_r4) (.seq (.seq (.reg f22_r5) (.cond (tG 26) (.seq (.reg f22_r6) .ret) .skip)) (.seq (.draw f22_r7) .ret)))))
noncomputable def f22:EF:=⟨33, [.celln (.ofNat 4) 2, .tmp (.ofNat 5), .tmp (.ofNat 6)],f22_c,none⟩
theorem f22_rs:f22.rs = [.celln (.ofNat 4) 2, .tmp (.ofNat 5), .tmp (.ofNat 6)]:=of_eq_true (eq_self _)
structure CallsTw (fs:T EF):Prop extends Nat4 fs,CallsSo fs where
  c81:fs.get (K.ofNat 81)=some f81
section
variable {fs:T EF} {h:H}
theorem f53_ret {n:Nat} {A B:List Bool} (k:CallsTw fs) (hA:A.length=49) (hB:B.length=49) (hn1:1 ≤ n) (hn:n ≤ 7) (hc:HC h):Ret fs f53 [.i .i64 (n:Int),rV A,rV B] h fun r h'=>∃ u w,r = .agg [u,w]∧Sl iE h' u (lnL (jnR [A,B]) n)∧Sl iE h' w (lnL (jnR [A,turnR B]) n)∧Own h.nx.nat u∧Own h.nx.nat w∧Grow h.nx.nat h h':=by
  apply ret_of rfl
  show W fs none f53_c _ _ _
  unfold f53_c
  have cA:=rC_cells hA
  have cB:=rC_cells hB
  have hT:(turnR B).length=49:=rl_len
  have cT:=rC_cells hT
  have n1:=nx_new h (.cells 49 (A.map V.b))
  have g1:Grow h.nx.nat h (h.new (.cells 49 (A.map V.b))):=Grow.new (Nat.le_refl _) _
  have e1:(h.new (.cells 49 (A.map V.b))).get h.nx=rC A:=get_new_same
  have n2:=nx_new (h.new (.cells 49 (A.map V.b))) (.cells 49 (B.map V.b))
  have n3:=nx_new ((h.new (.cells 49 (A.map V.b))).new (.cells 49 (B.map V.b))) (.cells 2 [.sn, .sn])
  simp (disch:=omega) only [f53_r0,Nat.reduceEqDiff,↓reduceIte,cA,cB,bz]
  generalize h.new (.cells 49 (A.map V.b))=h1 at *
  have g2:Grow h1.nx.nat h1 (h1.new (.cells 49 (B.map V.b))):=Grow.new (Nat.le_refl _) _
  have e2:(h1.new (.cells 49 (B.map V.b))).get h1.nx=rC B:=get_new_same
  generalize h1.new (.cells 49 (B.map V.b))=h2 at *
  have g3:Grow h2.nx.nat h2 (h2.new (.cells 2 [.sn, .sn])):=Grow.new (Nat.le_refl _) _
  have e3:(h2.new (.cells 2 [.sn, .sn])).get h2.nx = .cells 2 [.sn, .sn]:=get_new_same
  generalize h2.new (.cells 2 [.sn, .sn])=h3 at *
  have gA:Grow h.nx.nat h h3:=g1.trans ((g2.low (by omega)).trans (g3.low (by omega)))
  have hc3:=gA.hc hc
  have a1:=(g3.old h.nx (by omega)).trans ((g2.old h.nx (by omega)).trans e1)
  have a2:=(g3.old h1.nx (by omega)).trans e2
  have la:∀ {hh:H},Grow h3.nx.nat h3 hh→loadV hh (.p h.nx 0) (many? 49) = .ok (rV A) hh:=fun {hh} g=>rC_ldn hA ((g.old h.nx (by omega)).trans a1)
  have lb:∀ {hh:H},Grow h3.nx.nat h3 hh→loadV hh (.p h1.nx 0) (many? 49) = .ok (rV B) hh:=fun {hh} g=>rC_ldn hB ((g.old h1.nx (by omega)).trans a2)
  have z3:=Grow.refl h3.nx.nat h3
  have dd:=hc3.dead
  have k70:=k.n70 B
  have gL:Grow h3.nx.nat h3 (h3.new (.cells (2 * 49) (A.map V.b ++ B.map V.b))):=Grow.new (Nat.le_refl _) _
  simp (disch:=omega) only [f53_r1,Option.some.injEq,exists_eq_left',Nat.reduceEqDiff,↓reduceIte,la z3,lb z3,la gL,lb gL,fill_c,cA,cB,set98a hA,set98b hA hB,dd,bz]
  refine ⟨fresh_one (n:=2) (sz:=49) (by simp (disch:=omega) only [getK_set,Nat.reduceEqDiff,↓reduceIte]),?_⟩
  have hr8:=Rs.two (h:=h3) (L:=A) hA hB
  have n4:=nx_new h3 (.cells (2 * 49) (A.map V.b ++ B.map V.b))
  have hc4:=gL.hc hc3
  generalize h3.new (.cells (2 * 49) (A.map V.b ++ B.map V.b))=h4 at *
  have hall:∀ z ∈ [A,B],z.length=49:=fun z hz=>by
    simp only [List.mem_cons,List.not_mem_nil,or_false] at hz
    rcases hz with rfl | rfl
    · exact hA
    · exact hB
  refine (callP_0 (ef:=f69) k.c69 rfl (f69_ret k.c76 k.c90 hr8 hall (by simp) hc4)).mono ?_
  rintro r h5 ⟨rfl,g5⟩
  have hc5:=g5.hc hc4
  have gB:=gL.trans (g5.low gL.nx)
  have hJ:(jnR [A,B]).length=49:=rl_len
  simp (disch:=omega) only [Nat.reduceEqDiff,↓reduceIte,la gB,lb gB,beq_rV,bz]
  refine (callP_0 (ef:=f81) k.c81 rfl (f81_ret k.toCallsSo hJ hn1 hn hc5)).mono ?_
  rintro u h6 ⟨su,ou,g6⟩
  have hc6:=g6.hc hc5
  have gC:=gB.trans (g6.low gB.nx)
  have gCn:=gC.nx
  simp (disch:=omega) only [Option.some.injEq,exists_eq_left',Nat.reduceEqDiff,↓reduceIte,la gC,lb gC,beq_rV,k70 _ _ hB,fill_c,cA,cT,set98a hA,set98b hA hT,hc6.dead,bz]
  refine ⟨fresh_one (n:=2) (sz:=49) (by simp (disch:=omega) only [getK_set,↓reduceIte]),?_⟩
  have gL2:Grow h6.nx.nat h6 (h6.new (.cells (2 * 49) (A.map V.b ++ (turnR B).map V.b))):=Grow.new (Nat.le_refl _) _
  have hr9:=Rs.two (h:=h6) (L:=A) hA hT
  have n7:=nx_new h6 (.cells (2 * 49) (A.map V.b ++ (turnR B).map V.b))
  have hc7:=gL2.hc hc6
  have gD:=gC.trans (gL2.low gC.nx)
  simp (disch:=omega) only [true_and,again_ok,la gD,beq_rV]
  generalize h6.new (.cells (2 * 49) (A.map V.b ++ (turnR B).map V.b))=h7 at *
  have hall2:∀ z ∈ [A,turnR B],z.length=49:=fun z hz=>by
    simp only [List.mem_cons,List.not_mem_nil,or_false] at hz
    rcases hz with rfl | rfl
    · exact hA
    · exact hT
  refine (callP_0 (ef:=f69) k.c69 rfl (f69_ret k.c76 k.c90 hr9 hall2 (by simp) hc7)).mono ?_
  rintro r h8 ⟨rfl,g8⟩
  have hc8:=g8.hc hc7
  have gE:=gD.trans (g8.low gD.nx)
  have hJ2:(jnR [A,turnR B]).length=49:=rl_len
  simp (disch:=omega) only [Nat.reduceEqDiff,↓reduceIte,bz]
  refine (callP_0 (ef:=f81) k.c81 rfl (f81_ret k.toCallsSo hJ2 hn1 hn hc8)).mono ?_
  rintro w h9 ⟨sw,ow,g9⟩
  have hc9:=g9.hc hc8
  have gF:=gE.trans (g9.low gE.nx)
  have su9:=su.grow hc6 (gL2.trans ((g8.low gL2.nx).trans (g9.low (by have:=gL2.nx; have:=g8.nx; omega))))
  have e9:=(gF.old h2.nx (by omega)).trans e3
  have s9:storeV h9 2 (.p h2.nx 0) (.agg [u,w]) = .ok undefV (h9.put h2.nx (.cells 2 [u,w])):=store_p e9 (show cellsN 2 (.agg [u,w])=some [u,w] from rfl) (by omega)
  have rd:readP (h9.put h2.nx (.cells 2 [u,w])) (.p h2.nx 0) (many? 2)=some (.agg [u,w]):=rd2 get_put_same
  have g5n:=g5.nx
  have gEn:=gE.nx
  have o1:Own h3.nx.nat u:=ou.low (by have:=gL.nx; omega)
  have o2:Own h3.nx.nat w:=ow.low (by omega)
  have gp:Grow h.nx.nat h9 (h9.put h2.nx (.cells 2 [u,w])):=Grow.put (by omega) (hc9.cells e9) _
  simp (disch:=omega) only [f53_rs,Option.some.injEq,exists_eq_left',Nat.reduceEqDiff,↓reduceIte,su9.one,sw.one,s9,rd,bz]
  exact ⟨u,w,rfl,su9.put (o1.notIn (by omega)) _,sw.put (o2.notIn (by omega)) _,o1.low gA.nx,o2.low gA.nx,(gA.trans (gF.low gA.nx)).trans gp⟩
/-! ### Draw -/
theorem gR_oth {n:Nat} {g:Nat→Nat→Bool} (hg:Gph n g):otR n (gR (arI g))=gR (arI (oth n g)):=by
  have h7:=hg.n7
  refine rel_ext otR_len gR_len fun a b ha hb=>?_
  have hgr:rat (gR (arI g)) a b=true ↔ g a b=true ∨ g b a=true:=by rw [gR_arI hg]; unfold sy; rw [Bool.or_eq_true]
  rw [Bool.eq_iff_iff,gR_arI (oth_gph hg)]
  unfold otR sy oth
  rw [woR_iff,rat_rl,hgr]
  simp only [Bool.and_eq_true,Bool.or_eq_true,decide_eq_true_eq,Bool.not_eq_true']
  have u1:=fun h=>hg.up a b h
  have u2:=fun h=>hg.up b a h
  constructor
  · rintro ⟨⟨_,⟨h1,h2⟩,h3⟩,h4⟩
    rcases Nat.lt_or_gt_of_ne h3 with h | h
    · exact .inl ⟨⟨h,h2⟩,by cases e:g a b with | false=>rfl | true=>exact absurd (.inl e) h4⟩
    · exact .inr ⟨⟨h,h1⟩,by cases e:g b a with | false=>rfl | true=>exact absurd (.inr e) h4⟩
  · rintro (⟨⟨h1,h2⟩,h3⟩ | ⟨⟨h1,h2⟩,h3⟩)
    · refine ⟨⟨⟨ha,hb⟩,⟨by omega,h2⟩,by omega⟩,fun h=>?_⟩
      rcases h with h | h
      · rw [h] at h3; cases h3
      · have:=u2 h; omega
    · refine ⟨⟨⟨ha,hb⟩,⟨h2,by omega⟩,by omega⟩,fun h=>?_⟩
      rcases h with h | h
      · have:=u1 h; omega
      · rw [h] at h3; cases h3
structure CallsDw (fs:T EF):Prop extends CallsOr fs,CallsTw fs where
  c53:fs.get (K.ofNat 53)=some f53
end
end Go.Ev
namespace Go.Ev
open Go Go.RowKit
structure ReI (n:Nat) (g:Nat→Nat→Bool) (F:List Bool) (h0:Nat) (r:V) (h':H):Prop where
  out:∃ b' F',orV (gR (arI (oth n g))) = .tup [rV F', .b b']∧OrI (oth n g) b' F' ∧
    ((b'=true ∧ ∃ u w,r = .tup [.agg [u,w], .b true, .i .i64 0]∧Sl iE h' u (lnL (jnR [F,F']) n)∧Sl iE h' w (lnL (jnR [F,turnR F']) n)∧Own h0 u∧Own h0 w) ∨
     (b'=false∧r = .tup [.agg [.sn, .sn], .b false, .i .i64 0]))
theorem gR_ord {n:Nat} {g:Nat→Nat→Bool} {F:List Bool} (hg:Gph n g) (_hF:F.length=49) (o:Ord (Er (gR (arI g))) (Er F)):gR (arI (rat F))=gR (arI g):=by
  have sy:=symR_g hg
  refine rel_ext gR_len gR_len fun a b ha hb=>?_
  rw [Bool.eq_iff_iff,gR_iff nd_arI,mem_arI',mem_arI']
  constructor
  · rintro (⟨_,_,h⟩ | ⟨_,_,h⟩)
    · exact o.sub _ _ h
    · exact sy.gr.sym _ _ (o.sub _ _ h)
  · intro h
    rcases o.all _ _ h with h | h
    · exact .inl ⟨ha,hb,h⟩
    · exact .inr ⟨hb,ha,h⟩
structure CallsRe (fs:T EF):Prop extends CallsDw fs where
  c9:fs.get (K.ofNat 9)=some f9
section
variable {fs:T EF} {h:H}
theorem f22_ret {n:Nat} {v:V} {g:Nat→Nat→Bool} {F:List Bool} (k:CallsRe fs) (hg:Gph n g) (o:OrdN n F) (hE:gR (arI (rat F))=gR (arI g)) (hv:Srp h v (arI (rat F))) (hc:HC h):Ret fs f22 [.i .i64 (n:Int),v] h fun r h'=>ReI n g F h.nx.nat r h'∧Grow h.nx.nat h h':=by
  have hlb:=arI_len (g:=rat F)
  apply ret_of rfl
  show W fs none f22_c _ _ _
  unfold f22_c
  have n1:=nx_new h (.cells 2 [.sn, .sn])
  have g1:Grow h.nx.nat h (h.new (.cells 2 [.sn, .sn])):=Grow.new (Nat.le_refl _) _
  have e1:(h.new (.cells 2 [.sn, .sn])).get h.nx = .cells 2 [.sn, .sn]:=get_new_same
  simp (disch:=omega) only [f22_r0,f22_r1,Nat.reduceEqDiff,↓reduceIte,bz]
  generalize h.new (.cells 2 [.sn, .sn])=h1 at *
  have hc1:=g1.hc hc
  have hv1:=hv.grow hc g1
  refine (callP_0 (ef:=f9) k.c9 rfl (f9_ret k.toCallsCk hv1 (by omega) hc1)).mono ?_
  rintro r h2 ⟨rfl,g2⟩
  rw [ckO_o hg.n1 hg.n7 o]
  have ne0:decide ((0:Int) ≠ 0)=false:=rfl
  simp (disch:=omega) only [f22_r2,f22_r4,Nat.reduceEqDiff,↓reduceIte,Bool.false_eq_true,ne0,bz]
  have hc2:=g2.hc hc1
  have hv2:=hv1.grow hc1 g2
  refine (callP_0 (ef:=f40) k.c40 rfl (f40_ret k.toNat2 hv2 nd_arI (by omega) hc2)).mono ?_
  rintro r h3 ⟨rfl,g3⟩
  rw [hE]
  have hc3:=g3.hc hc2
  have a1:∀ {hh:H},Grow h1.nx.nat h1 hh→hh.get h.nx = .cells 2 [.sn, .sn]:=fun {hh} g=>(g.old h.nx (by omega)).trans e1
  have g13:Grow h1.nx.nat h1 h3:=g2.trans (g3.low g2.nx)
  obtain ⟨b',F',hO',hF'⟩:=orI_of (oth_gph hg)
  have hGl:(gR (arI g)).length=49:=gR_len
  have k49:=k.n41 (gR (arI g)) n
  rw [gR_oth hg] at k49
  have s3:=rC_stn hF'.len rl_len (M:=rl fun _ _=>false) (h:=h3.new (.cells 49 (List.replicate 49 (.b false)))) (id:=h3.nx) (by rw [rl_false]; exact get_new_same)
  have n3:=nx_new h3 (.cells 49 (List.replicate 49 (.b false)))
  have g4:Grow h3.nx.nat h3 ((h3.new (.cells 49 (List.replicate 49 (.b false)))).put h3.nx (rC F')):=(Grow.new (Nat.le_refl _) _).trans (Grow.put (Nat.le_refl _) (by omega) _)
  have e4:((h3.new (.cells 49 (List.replicate 49 (.b false)))).put h3.nx (rC F')).get h3.nx=rC F':=get_put_same
  have g14:=g13.trans (g4.low g13.nx)
  have n4:((h3.new (.cells 49 (List.replicate 49 (.b false)))).put h3.nx (rC F')).nx.nat=h3.nx.nat + 1:=n3
  simp (disch:=omega) only [Nat.reduceEqDiff,↓reduceIte,s3,k49 _ _ hGl hg.n7,k.n49 _ _ _ (symR_g (oth_gph hg)),hO',bz]
  generalize (h3.new (.cells 49 (List.replicate 49 (.b false)))).put h3.nx (rC F')=h4 at *
  have hc4:=g14.hc hc1
  have a4:=a1 g14
  have hv4:=hv1.grow hc1 g14
  have g14n:=g14.nx
  have st:∀ {hh:H} {x y:V},Grow h1.nx.nat h1 hh→storeV hh 2 (.p h.nx 0) (.agg [x,y]) = .ok undefV (hh.put h.nx (.cells 2 [x,y])):=fun {hh x y} g=>store_p (a1 g) (show cellsN 2 (.agg [x,y])=some [x,y] from rfl) (by omega)
  have rd:∀ {hh:H} {x y:V},readP (hh.put h.nx (.cells 2 [x,y])) (.p h.nx 0) (many? 2)=some (.agg [x,y]):=rd2 get_put_same
  have gO:∀ {hh:H} {B:Blk},Grow h1.nx.nat h1 hh→Grow h.nx.nat h (hh.put h.nx B):=fun {hh B} g=>(g1.trans (g.low g1.nx)).trans (Grow.put (Nat.le_refl _) (by have:=g.nx; omega) _)
  cases b' with
  | false =>
    simp (disch:=omega) only [f22_r5,f22_r6,f22_rs,Option.some.injEq,exists_eq_left',Nat.reduceEqDiff,↓reduceIte,Bool.not_false,st g14,rd,bz]
    exact ⟨⟨_,_,hO',hF', .inr ⟨rfl,rfl⟩⟩,gO g14⟩
  | true =>
    have lF:=rC_ldn hF'.len e4
    simp (disch:=omega) only [f22_r5,f22_r7,Nat.reduceEqDiff,↓reduceIte,Bool.false_eq_true,Bool.not_true,lF,bz]
    refine (callP_0 (ef:=f38) k.c38 rfl (f38_ret hv4 nd_arI (by omega) hc4)).mono ?_
    rintro r h5 ⟨rfl,g5⟩
    rw [relR_arI o.len]
    have hc5:=g5.hc hc4
    have g15:=g14.trans (g5.low g14.nx)
    have e5:=(g5.old h3.nx (by omega)).trans e4
    have lF5:=rC_ldn hF'.len e5
    simp (disch:=omega) only [Nat.reduceEqDiff,↓reduceIte,lF5,beq_rV,bz]
    refine (callP_0 (ef:=f53) k.c53 rfl (f53_ret k.toCallsTw o.len hF'.len hg.n1 hg.n7 hc5)).mono ?_
    rintro r h6 ⟨u,w,rfl,su,sw,ou,ow,g6⟩
    have g16:=g15.trans (g6.low g15.nx)
    have g15n:=g15.nx
    simp (disch:=omega) only [f22_rs,Option.some.injEq,exists_eq_left',Nat.reduceEqDiff,↓reduceIte,st g16,rd,bz]
    exact ⟨⟨_,_,hO',hF', .inl ⟨rfl,u,w,rfl,su.put (ou.notIn (by omega)) _,sw.put (ow.notIn (by omega)) _,ou.low (by omega),ow.low (by omega)⟩⟩,gO g16⟩
end
end Go.Ev
namespace Go.Ev
open Go Go.RowKit
structure Two (n:Nat) (A B:List Bool):Prop where
  a:OrdN n A
  b:OrdN n B
  all:∀ x y,x < n→y < n→x ≠ y→rat A x y=true ∨ rat A y x=true ∨ rat B x y=true ∨ rat B y x=true
  no:∀ x y,rat A x y=true → ¬ rat B x y=true ∧ ¬ rat B y x=true
theorem OrdN.turn {n:Nat} {B:List Bool} (o:OrdN n B):OrdN n (turnR B) where
  len:=rl_len
  lt:=fun a b h=>by rw [turnR_iff] at h; exact (o.lt _ _ h).symm
  irr:=fun a h=>by rw [turnR_iff] at h; exact o.irr a h
  tr:=fun a b c h1 h2=>by rw [turnR_iff] at *; exact o.tr _ _ _ h2 h1
theorem OrdN.one {n:Nat} {B:List Bool} (o:OrdN n B) {a b:Nat} (h:rat B a b=true):¬ rat B b a=true:=fun h2=>o.irr a (o.tr _ _ _ h h2)
theorem Two.turn {n:Nat} {A B:List Bool} (t:Two n A B):Two n A (turnR B) where
  a:=t.a
  b:=t.b.turn
  all:=fun x y hx hy hxy=>by
    rw [turnR_iff,turnR_iff]
    rcases t.all x y hx hy hxy with h | h | h | h
    · exact .inl h
    · exact .inr (.inl h)
    · exact .inr (.inr (.inr h))
    · exact .inr (.inr (.inl h))
  no:=fun x y h=>by
    rw [turnR_iff,turnR_iff]
    exact (t.no x y h).symm
theorem Two.irr {n:Nat} {A B:List Bool} (t:Two n A B) {x:Nat}:¬ rat (jnR [A,B]) x x=true:=by
  rw [show jnR [A,B]=jn2 A B from rfl,jn2_iff]
  rintro (h | h)
  · exact t.a.irr x h
  · exact t.b.irr x h
theorem Two.tr {n:Nat} {A B:List Bool} (t:Two n A B) {x y z:Nat} (h1:rat (jnR [A,B]) x y=true) (h2:rat (jnR [A,B]) y z=true):rat (jnR [A,B]) x z=true:=by
  rw [show jnR [A,B]=jn2 A B from rfl] at *
  rw [jn2_iff] at *
  rcases h1 with h1 | h1 <;> rcases h2 with h2 | h2
  · exact .inl (t.a.tr _ _ _ h1 h2)
  · have l1:=t.a.lt _ _ h1
    have l2:=t.b.lt _ _ h2
    have hne:x ≠ z:=fun e=>(t.no _ _ h1).2 (by rw [e]; exact h2)
    rcases t.all x z l1.1 l2.2 hne with h | h | h | h
    · exact .inl h
    · exact absurd h2 (t.no _ _ (t.a.tr _ _ _ h h1)).2
    · exact .inr h
    · exact absurd (t.b.tr _ _ _ h2 h) (t.no _ _ h1).2
  · have l1:=t.b.lt _ _ h1
    have l2:=t.a.lt _ _ h2
    have hne:x ≠ z:=fun e=>(t.no _ _ h2).2 (by rw [← e]; exact h1)
    rcases t.all x z l1.1 l2.2 hne with h | h | h | h
    · exact .inl h
    · exact absurd h1 (t.no _ _ (t.a.tr _ _ _ h2 h)).2
    · exact .inr h
    · exact absurd (t.b.tr _ _ _ h h1) (t.no _ _ h2).2
  · exact .inr (t.b.tr _ _ _ h1 h2)
def nodeP (n:Nat) (x:Int):Prop:=∃ a:Nat,a < n∧x=(a:Int)
theorem Two.lto {n:Nat} {A B:List Bool} (t:Two n A B):LtO (ltR (jnR [A,B])) (nodeP n) where
  tot:=fun x y hx hy hxy=>by
    obtain ⟨a,ha,rfl⟩:=hx
    obtain ⟨b,hb,rfl⟩:=hy
    unfold ltR
    rw [Int.toNat_natCast,Int.toNat_natCast,show jnR [A,B]=jn2 A B from rfl,jn2_iff,jn2_iff]
    rcases t.all a b ha hb (fun e=>hxy (by rw [e])) with h | h | h | h
    · exact .inl (.inl h)
    · exact .inr (.inl h)
    · exact .inl (.inr h)
    · exact .inr (.inr h)
  tr:=fun x y z hx hy hz h1 h2=>by
    obtain ⟨a,ha,rfl⟩:=hx
    obtain ⟨b,hb,rfl⟩:=hy
    obtain ⟨c,hc,rfl⟩:=hz
    unfold ltR at *
    rw [Int.toNat_natCast,Int.toNat_natCast] at *
    exact t.tr h1 h2
theorem rng_nd {n:Nat}:((List.range n).map fun a:Nat=>(a:Int)).Nodup:=by
  rw [List.Nodup,List.pairwise_map]
  exact List.nodup_range.imp fun h e=>h (by omega)
theorem lnL_ok {L:List Bool} {n:Nat}:lnOk n (lnL L n):=by
  have p:(lnL L n).Perm ((List.range n).map fun a:Nat=>(a:Int)):=srtR_perm
  refine RowP.ok ⟨by rw [p.length_eq]; simp,p.nodup_iff.2 rng_nd,fun x hx=>?_⟩
  obtain ⟨a,ha,rfl⟩:=List.mem_map.1 (p.mem_iff.1 hx)
  exact ⟨a,List.mem_range.1 ha,rfl⟩
theorem Two.bf {n:Nat} {A B:List Bool} (t:Two n A B) {a b:Nat} (ha:a < n) (hb:b < n):bfT (lnL (jnR [A,B]) n) (lnL (jnR [A,B]) n).length a b=true ↔ rat (jnR [A,B]) a b=true:=by
  have hs:(lnL (jnR [A,B]) n).Pairwise fun x y=>ltR (jnR [A,B]) x y=true:=srtR_srt t.lto (fun y hy=>by
    obtain ⟨c,hc,rfl⟩:=List.mem_map.1 hy
    exact ⟨c,List.mem_range.1 hc,rfl⟩) rng_nd
  have go:∀ a b:Nat,bfT (lnL (jnR [A,B]) n) (lnL (jnR [A,B]) n).length a b=true→rat (jnR [A,B]) a b=true:=fun a b h=>by
    obtain ⟨j,s,h1,h2,h3,h4⟩:=bfT_iff.1 h
    have hl:=get_lt h4
    have:=List.pairwise_iff_getElem.1 hs s j hl h1 h2
    rw [List.getElem?_eq_getElem h1] at h3
    rw [List.getElem?_eq_getElem hl] at h4
    rw [Option.some.inj h3,Option.some.inj h4] at this
    exact this
  refine ⟨go a b,fun h=>?_⟩
  have hne:a ≠ b:=fun e=>t.irr (x:=b) (by rw [e] at h; exact h)
  rcases bf_tot (lnL_ok (L:=jnR [A,B])) ha hb hne with h1 | h1
  · exact h1
  · exact absurd (t.tr h (go _ _ h1)) t.irr
theorem Two.ag {n:Nat} {A B:List Bool} (t:Two n A B) {a b:Nat} (ha:a < n) (hb:b < n):(bfT (lnL (jnR [A,B]) n) (lnL (jnR [A,B]) n).length a b=true∧bfT (lnL (jnR [A,turnR B]) n) (lnL (jnR [A,turnR B]) n).length a b=true) ↔ rat A a b=true:=by
  rw [t.bf ha hb,t.turn.bf ha hb,show jnR [A,B]=jn2 A B from rfl,show jnR [A,turnR B]=jn2 A (turnR B) from rfl,jn2_iff,jn2_iff,turnR_iff]
  constructor
  · rintro ⟨h1 | h1,h2 | h2⟩
    · exact h1
    · exact h1
    · exact h2
    · exact absurd h2 (t.b.one h1)
  · exact fun h=>⟨.inl h, .inl h⟩
theorem two_g {n:Nat} {g:Nat→Nat→Bool} {F F':List Bool} (hg:Gph n g) (hF:F.length=49) (hF':F'.length=49) (o:Ord (Er (gR (arI g))) (Er F)) (o':Ord (Er (gR (arI (oth n g)))) (Er F')):Two n F' F:=by
  have ho:=oth_gph hg
  have h1:=ord_n ho hF' o'
  have h2:=ord_n hg hF o
  have ed:∀ x y,Er (gR (arI (oth n g))) x y → ¬ Er (gR (arI g)) x y:=fun x y h h2=>by
    have h:rat (gR (arI (oth n g))) x y=true:=h
    have h2:rat (gR (arI g)) x y=true:=h2
    rw [gR_arI ho] at h
    rw [gR_arI hg] at h2
    unfold sy oth at h
    unfold sy at h2
    simp only [Bool.or_eq_true,Bool.and_eq_true,decide_eq_true_eq,Bool.not_eq_true'] at h h2
    have u1:=fun h=>hg.up x y h
    have u2:=fun h=>hg.up y x h
    rcases h with ⟨q1,q2⟩ | ⟨q1,q2⟩ <;> rcases h2 with h2 | h2
    · rw [h2] at q2; cases q2
    · have:=u2 h2; omega
    · have:=u1 h2; omega
    · rw [h2] at q2; cases q2
  refine ⟨h1,h2,fun x y hx hy hxy=>?_,fun x y h=>⟨fun h3=>ed x y (o'.sub _ _ h) (o.sub _ _ h3),fun h3=>ed x y (o'.sub _ _ h) ((symR_g hg).gr.sym _ _ (o.sub _ _ h3))⟩⟩
  by_cases he:Er (gR (arI g)) x y
  · rcases o.all _ _ he with h | h
    · exact .inr (.inr (.inl h))
    · exact .inr (.inr (.inr h))
  · have he' : Er (gR (arI (oth n g))) x y := by
      show rat (gR (arI (oth n g))) x y=true
      have he:¬ rat (gR (arI g)) x y=true:=he
      rw [gR_arI hg] at he
      rw [gR_arI ho]
      unfold sy at he
      unfold sy oth
      simp only [Bool.or_eq_true,Bool.and_eq_true,decide_eq_true_eq,Bool.not_eq_true',not_or,Bool.not_eq_true] at he ⊢
      rcases Nat.lt_or_gt_of_ne hxy with h | h
      · exact .inl ⟨⟨h,hy⟩,he.1⟩
      · exact .inr ⟨⟨h,hx⟩,he.2⟩
    rcases o'.all _ _ he' with h | h
    · exact .inl h
    · exact .inr (.inl h)
theorem cmN_ag {n:Nat} {X Y:List Int} (hn:n ≤ 7) (kX:lnOk n X) (kY:lnOk n Y):arI (rat (agR X Y))=arI (cmN n X Y):=by
  refine arI_congr fun a b ha hb=>?_
  rw [Bool.eq_iff_iff,agR_iff hn kX kY]
  unfold cmN
  by_cases hab:a < n∧b < n∧a ≠ b
  · rw [decide_eq_true hab,Bool.true_and,befL_bf kX hab.1 hab.2.1 hab.2.2,befL_bf kY hab.1 hab.2.1 hab.2.2,Bool.and_eq_true]
  · rw [decide_eq_false hab,Bool.false_and]
    exact ⟨fun h=>absurd (by have:=bf_lt kX h.1; exact this) hab,fun h=>by cases h⟩
end Go.Ev
namespace Go.Ev
open Go Go.RowKit
section
variable {G:List Bool} {C:Nat→Nat→Prop}
end
theorem arI_pw {f:Nat→Nat→Bool}:(arI f).Pairwise fun x y=>bfB x y=true:=by
  rw [List.pairwise_iff_getElem]
  intro i j hi hj hij
  have key:Srd 0 (arI f).length (arI f):=Srd.of fun t t1 t2=>by
    have hl:(arI f).length=(arw f).length:=by unfold arI; rw [List.length_map]
    have hs:=arw_sorted (g:=f) (i:=t - 1) (by omega)
    have ge:∀ k (hk:k < (arI f).length),gW (arI f) k=toI ((arw f)[k]'(by omega)):=fun k hk=>(gW_lt hk).trans (List.getElem_map toI)
    rw [ge _ (by omega),ge _ t2,bfB_iff]
    have b1:=arw_lt (List.getElem_mem (show t - 1 < (arw f).length by omega))
    have b2:=arw_lt (List.getElem_mem (show t - 1 + 1 < (arw f).length by omega))
    have e:t - 1 + 1=t:=by omega
    simp only [e] at hs b2
    unfold toI
    simp only
    omega
  rw [← gW_lt hi,← gW_lt hj]
  exact key i j (Nat.zero_le _) hij hj
def swI (x:Int × Int):Int × Int:=(x.2,x.1)
theorem arI_turn {F:List Bool} {W:List (Int × Int)} (p:W.Perm ((arI (rat F)).map swI)) (hw:W.Pairwise fun x y=>bfB x y=true):W=arI (rat (turnR F)):=by
  refine srd_uniq ?_ hw arI_pw
  have inj:∀ x y:Int × Int,swI x=swI y→x=y:=fun x y h=>Prod.ext (congrArg Prod.snd h) (congrArg Prod.fst h)
  have nd1:((arI (rat F)).map swI).Nodup:=by
    rw [List.Nodup,List.pairwise_map]
    exact (arI_pw (f:=rat F)).imp fun {x y} hxy e=>bfB_ne hxy (inj _ _ e)
  have nd2:(arI (rat (turnR F))).Nodup:=(arI_pw (f:=rat (turnR F))).imp fun {x y} hxy=>bfB_ne hxy
  refine p.trans ((List.perm_ext_iff_of_nodup nd1 nd2).2 fun x=>?_)
  rw [List.mem_map,mem_arI]
  constructor
  · rintro ⟨y,hy,rfl⟩
    obtain ⟨a,b,ha,hb,h,rfl⟩:=mem_arI.1 hy
    exact ⟨b,a,hb,ha,turnR_iff.2 h,rfl⟩
  · rintro ⟨a,b,ha,hb,h,rfl⟩
    exact ⟨((b:Int),(a:Int)),mem_arI.2 ⟨b,a,hb,ha,turnR_iff.1 h,rfl⟩,rfl⟩
end Go.Ev
