/-
  Orders: Has, joined of the reference; Orient; CheckOrder., and what follows.
-/
import Derived.Test.YtdmnejhjlmeodaaGreatPe
import Derived.Test.YtdmnejhjlmeodaaGreatPf
namespace Go.Ev
open Go Go.RowKit
noncomputable def f36_r0:List EOper := [oG 3 (.box 2 (tG 1)),oG 4 (.as (.c (.b false)))]
noncomputable def f36_r1:List EOper := [oG 5 (.as (cG 0))]
noncomputable def f36_r2:List EOper := [oG 6 (.mv (tG 5)),oG 7 (.mv (tG 0)),oG 8 (.len (tG 7)),oG 9 (.bin .lss (tG 6) (tG 8))]
noncomputable def f36_r3:List Stage := [⟨[oG 12 (.mv (tG 0)),oG 13 (.mv (tG 5)),oG 14 (.iads 2 (tG 12) (tG 13)),oG 15 (.ldn 2 (tG 14)),oG 16 (.ldn 2 (tG 3)),oG 17 (.eqk (.many [(some .i64),(some .i64)]) false (tG 15) (tG 16))], [],none, []⟩]
noncomputable def f36_r4:List EOper := [oG 4 (.as (.c (.b true)))]
noncomputable def f36_r5:List EOper := [oG 10 (.mv (tG 5)),oG 11 (.bin .add (tG 10) (cG 1)),oG 5 (.as (tG 11))]
noncomputable def f36_l0:EC:=(.seq (.seq (.reg f36_r2) (.cond (tG 9) .skip (.exit 0))) (.seq (.block 1 (.seq (.draw f36_r3) (.cond (tG 17) (.seq (.reg f36_r4) .ret) .skip))) (.reg f36_r5)))
noncomputable def f36_r6:List EOper := [oG 4 (.as (.c (.b false)))]
noncomputable def f36_c:EC:=(.seq (.reg f36_r0) (.seq (.seq (.reg f36_r1) (.block 0 (.loop f36_l0))) (.seq (.reg f36_r6) .ret)))
noncomputable def f36:EF:=⟨18, [.tmp (.ofNat 4)],f36_c,none⟩
theorem f36_rs:f36.rs = [.tmp (.ofNat 4)]:=of_eq_true (eq_self _)
noncomputable def f62_r0:List EOper := [oG 6 (.as (.c (.b false)))]
noncomputable def f62_r1:List EOper := [oG 7 (.mv (tG 0)),oG 8 (.mv (tG 1)),oG 9 (.mv (tG 2)),oG 10 (.min (tG 8) (tG 9)),oG 11 (.mv (tG 1)),oG 12 (.mv (tG 2)),oG 13 (.max (tG 11) (tG 12)),oG 14 (.build [(.i .i64 (.ofNat 0)),(.i .i64 (.ofNat 0))] [(0,1,(tG 10)),(1,1,(tG 13))]),oG 15 (.call (fG 36) [(tG 7),(tG 14)]),oG 6 (.as (tG 15))]
noncomputable def f62_c:EC:=(.seq (.reg f62_r0) (.seq (.reg f62_r1) .ret))
noncomputable def f62:EF:=⟨16, [.tmp (.ofNat 6)],f62_c,none⟩
theorem f62_rs:f62.rs = [.tmp (.ofNat 6)]:=of_eq_true (eq_self _)
noncomputable def f14_r0:List EOper := [oG 4 (.as (.c .sn)),oG 5 (.as (.c (.b false))),oG 6 (.as (cG 0))]
noncomputable def f14_r1:List EOper := [oG 10 (.mv (tG 0)),oG 11 (.mv (tG 1)),oG 12 (.call (fG 8) [(tG 10),(tG 11)]),oG 7 (.as (tG 12))]
noncomputable def f14_r2:List EOper := [oG 13 (.mv (tG 7)),oG 14 (.bin .neq (tG 13) (cG 0))]
noncomputable def f14_r3:List EOper := [oG 15 (.mv (tG 7)),oG 4 (.as (.c .sn)),oG 5 (.as (.c (.b false))),oG 6 (.as (tG 15))]
noncomputable def f14_r4:List EOper := [oG 17 (.mv (tG 1)),oG 18 (.call (fG 40) [(tG 17)]),oG 19 (.call (fG 49) [(tG 18)]),oG 16 (.mv (tG 19)),oG 20 (.ext (tG 16) 0),oG 21 (.ext (tG 16) 1),oG 8 (.alloc 49 (List.replicate 49 (.b false))),⟨none,none, .st 49 (tG 8) (tG 20)⟩,oG 9 (.as (tG 21))]
noncomputable def f14_r5:List EOper := [oG 22 (.ldn 49 (tG 8)),oG 23 (.call (fG 47) [(tG 22)]),oG 24 (.mv (tG 9)),oG 4 (.as (tG 23)),oG 5 (.as (tG 24)),oG 6 (.as (cG 0))]
noncomputable def f14_c:EC:=(.seq (.reg f14_r0) (.seq (.seq (.reg f14_r1) (.seq (.reg f14_r2) (.cond (tG 14) (.seq (.reg f14_r3) .ret) .skip))) (.seq (.reg f14_r4) (.seq (.reg f14_r5) .ret))))
noncomputable def f14:EF:=⟨25, [.tmp (.ofNat 4), .tmp (.ofNat 5), .tmp (.ofNat 6)],f14_c,none⟩
theorem f14_rs:f14.rs = [.tmp (.ofNat 4), .tmp (.ofNat 5), .tmp (.ofNat 6)]:=of_eq_true (eq_self _)
noncomputable def f9_r0:List EOper := [oG 4 (.as (cG 0))]
noncomputable def f9_r1:List EOper := [oG 5 (.mv (tG 0)),oG 6 (.bin .lss (tG 5) (cG 1)),oG 7 (.mv (tG 6)),gG 8 7 false (.mv (tG 0)),gG 9 7 false (.bin .gtr (tG 8) (cG 7)),oG 10 (.pick (tG 7) (.c (.b true)) (tG 9))]
noncomputable def f9_r2:List EOper := [oG 4 (.as (cG 1))]
noncomputable def f9_r3:List EOper := [oG 11 (.mv (tG 0)),oG 12 (.mv (tG 1)),oG 13 (.call (fG 37) [(tG 11),(tG 12)]),oG 14 (.not (tG 13)),oG 15 (.mv (tG 14)),gG 16 15 false (.mv (tG 1)),gG 17 15 false (.call (fG 38) [(tG 16)]),gG 18 15 false (.call (fG 39) [(tG 17)]),gG 19 15 false (.not (tG 18)),oG 20 (.pick (tG 15) (.c (.b true)) (tG 19))]
noncomputable def f9_r4:List EOper := [oG 4 (.as (cG 30))]
noncomputable def f9_r5:List EOper := [oG 4 (.as (cG 0))]
noncomputable def f9_c:EC:=(.seq (.reg f9_r0) (.seq (.seq (.reg f9_r1) (.cond (tG 10) (.seq (.reg f9_r2) .ret) .skip)) (.seq (.seq (.reg f9_r3) (.cond (tG 20) (.seq (.reg f9_r4) .ret) .skip)) (.seq (.reg f9_r5) .ret))))
noncomputable def f9:EF:=⟨21, [.tmp (.ofNat 4)],f9_c,none⟩
theorem f9_rs:f9.rs = [.tmp (.ofNat 4)]:=of_eq_true (eq_self _)
section
variable {fs:T EF} {h h':H}
def inI (x:Int × Int):Prop:=inR .i64 x.1=true∧inR .i64 x.2=true
theorem inI_nat {a b:Nat} (ha:a < 7) (hb:b < 7):inI ((a:Int),(b:Int)):=by
  have r:∀ n:Nat,n < 7→inR .i64 (n:Int)=true:=fun n hn=>by
    show Nat.ble n (kmax .i64)=true
    exact Nat.ble_eq_true_of_le (by show n ≤ 9223372036854775807; omega)
  exact ⟨r _ ha,r _ hb⟩
theorem inI_arI {f:Nat→Nat→Bool}:∀ x ∈ arI f,inI x:=fun x hx=>by
  obtain ⟨a,b,h1,h2,_,rfl⟩:=mem_arI.1 hx
  exact inI_nat h1 h2
theorem keyEq_pVO {x y:Int × Int} (hx:inI x) (hy:inI y):keyEq (.many [some .i64,some .i64]) (pV x) (pV y)=some (decide (x=y)):=by
  have:=keyEq_2 hx.1 hx.2 hy.1 hy.2
  rw [show keyEq (.many [some .i64,some .i64]) (pV x) (pV y)=_ from this]
  congr 1
  rw [← Bool.decide_and]
  exact decide_eq_decide.2 ⟨fun h=>Prod.ext h.1 h.2,fun h=>by rw [h]; exact ⟨rfl,rfl⟩⟩
def f36_I (h0:H) (id3:K) (v:V) (L:List (Int × Int)) (x:Int × Int) (i:Nat) (fr:Fr) (h1:H):Prop:=i ≤ L.length∧h1=h0∧x ∉ L.take i∧fr.get (K.ofNat 0)=some (v)∧fr.get (K.ofNat 3)=some (.p id3 0)∧fr.get (K.ofNat 5)=some (.i .i64 (i:Int))
theorem f36_ret {v:V} {L:List (Int × Int)} {x:Int × Int} (hv:Srp h v L) (hL:∀ y ∈ L,inI y) (hx:inI x) (hb:L.length ≤ 1000000) (hc:HC h):Ret fs f36 [v,pV x] h fun r h'=>r = .b (decide (x ∈ L))∧Grow h.nx.nat h h':=by
  apply ret_of rfl
  show W fs none f36_c _ _ _
  unfold f36_c
  have c1:cellsN 2 (pV x)=some [.i .i64 x.1, .i .i64 x.2]:=rfl
  have gr1:Grow h.nx.nat h (h.new (.cells 2 [.i .i64 x.1, .i .i64 x.2])):=Grow.new (Nat.le_refl _) _
  have e1:(h.new (.cells 2 [.i .i64 x.1, .i .i64 x.2])).get h.nx = .cells 2 [.i .i64 x.1, .i .i64 x.2]:=get_new_same
  simp (disch:=omega) only [f36_r0,f36_r1,↓reduceIte,c1,bz]
  generalize h.new (.cells 2 [.i .i64 x.1, .i .i64 x.2])=h1 at *
  have hv1:=hv.grow hc gr1
  have hlen:=hv1.len
  have l1:=ldn2 e1
  have hvb:=hv.beq
  refine W_loop (f36_I h1 h.nx v L x) (fun i=>L.length - i) ?_ 0 ⟨by omega,rfl,by simp,by simp (disch:=omega) only [getK_set,Nat.reduceEqDiff,↓reduceIte,and_self,Int.natCast_zero]⟩
  rintro i fr h2 ⟨hi,rfl,hn,g0,g3,g5⟩
  unfold f36_l0
  by_cases hlt:i < L.length
  · have d0:decide ((i:Int) < (L.length:Int))=true:=decide_eq_true (by omega)
    obtain ⟨id,q,p1,p2,_⟩:=hv1.at2 hlt
    have hq:=keyEq_pVO (hL _ (List.getElem_mem hlt)) hx
    have hav1:V.agg [.i .i64 L[i].1, .i .i64 L[i].2]=pV L[i]:=rfl
    have hav2:V.agg [.i .i64 x.1, .i .i64 x.2]=pV x:=rfl
    by_cases e:L[i]=x
    · have d1:decide (L[i]=x)=true:=decide_eq_true e
      rw [d1] at hq
      simp (disch:=omega) only [f36_r2,f36_r3,f36_r4,f36_rs,Option.some.injEq,exists_eq_left',Nat.reduceEqDiff,↓reduceIte,g0,g3,g5,hlen,d0,p1,p2,l1,hav1,hav2,hq,cond_false,bz]
      exact ⟨by rw [decide_eq_true (show x ∈ L by rw [← e]; exact List.getElem_mem hlt)],gr1⟩
    · have d1:decide (L[i]=x)=false:=decide_eq_false e
      rw [d1] at hq
      simp (disch:=omega) only [f36_r2,f36_r3,f36_r5,Nat.reduceEqDiff,↓reduceIte,Bool.false_eq_true,g0,g3,g5,hlen,d0,p1,p2,l1,hav1,hav2,hq,cond_false,bz]
      refine ⟨i + 1,by omega,hlt,rfl,?_,by simp (disch:=omega) only [getK_set,Nat.reduceEqDiff,↓reduceIte,g0,g3,and_self,Int.natCast_add,Int.natCast_one]⟩
      rw [List.take_succ_eq_append_getElem hlt,List.mem_append,List.mem_singleton]
      exact fun h=>h.elim hn (fun h=>e h.symm)
  · have d0:decide ((i:Int) < (L.length:Int))=false:=decide_eq_false (by omega)
    have ei:i=L.length:=by omega
    subst ei
    rw [List.take_length] at hn
    simp (disch:=omega) only [f36_r2,f36_r6,f36_rs,Option.some.injEq,exists_eq_left',Nat.reduceEqDiff,↓reduceIte,Bool.false_eq_true,g0,g5,hlen,d0,bz]
    exact ⟨by rw [decide_eq_false hn],gr1⟩
theorem f62_ret {v:V} {L:List (Int × Int)} {a b:Int} (h40:fs.get (.ofNat 36)=some f36) (hv:Srp h v L) (hL:∀ y ∈ L,inI y) (hx:inI (min a b,max a b)) (hb:L.length ≤ 1000000) (hc:HC h):Ret fs f62 [v, .i .i64 a, .i .i64 b] h fun r h'=>r = .b (decide ((min a b,max a b) ∈ L))∧Grow h.nx.nat h h':=by
  apply ret_of rfl
  show W fs none f62_c _ _ _
  unfold f62_c
  have hav:V.agg [.i .i64 (min a b), .i .i64 (max a b)]=pV (min a b,max a b):=rfl
  simp (disch:=omega) only [f62_r0,f62_r1,x_min,x_max,min_ii,Nat.reduceEqDiff,↓reduceIte,hav,bz]
  refine (callP_0 (ef:=f36) h40 rfl (f36_ret hv hL hx hb hc)).mono ?_
  rintro r h1 ⟨rfl,hG⟩
  simp (disch:=omega) only [f62_rs,Option.some.injEq,exists_eq_left',↓reduceIte,bz]
  exact hG
/-! ### Orient -/
structure CallsOr (fs:T EF):Prop extends CallsCk fs where
  c8:fs.get (K.ofNat 8)=some f8
  c40:fs.get (K.ofNat 40)=some f40
  c47:fs.get (K.ofNat 47)=some f47
  n49:∀ L h P,SymR L→CallP fs (.fn (K.ofNat 49) []) [rV L] h P=P (orV L) h
structure OrI (g:Nat→Nat→Bool) (b:Bool) (F:List Bool):Prop where
  len:F.length=49
  yes:b=true→Ord (Er (gR (arI g))) (Er F)
  no:b=false→F=rl (fun _ _=>false) ∧ ¬ CF (Er (gR (arI g)))
theorem orI_of {n:Nat} {g:Nat→Nat→Bool} (hg:Gph n g):∃ b F,orV (gR (arI g)) = .tup [rV F, .b b]∧OrI g b F:=by
  unfold orV
  rcases orO_spec (symR_g hg) with ⟨ps,e,o⟩ | ⟨e,o⟩
  · exact ⟨true,jnR ps,by rw [e],rl_len,fun _=>o,fun e=>by cases e⟩
  · exact ⟨false,rl fun _ _=>false,by rw [e],rl_len,(fun e=>by cases e),fun _=>⟨rfl,o⟩⟩
theorem f14_ret {n:Nat} {v:V} {g:Nat→Nat→Bool} (k:CallsOr fs) (hg:Gph n g) (hv:Srp h v (arI g)) (hc:HC h):Ret fs f14 [.i .i64 (n:Int),v] h fun r h'=>∃ b F u,r = .tup [u, .b b, .i .i64 0]∧OrI g b F∧Sk 2 qE h' u (arI (rat F))∧Own h.nx.nat u∧Grow h.nx.nat h h':=by
  have hlb:=arI_len (g:=g)
  apply ret_of rfl
  show W fs none f14_c _ _ _
  unfold f14_c
  simp (disch:=omega) only [f14_r0,f14_r1,Nat.reduceEqDiff,↓reduceIte,bz]
  refine (callP_0 (ef:=f8) k.c8 rfl (f8_ret k.toCallsCk hv (by omega) hc)).mono ?_
  rintro r h1 ⟨rfl,gr1⟩
  rw [chkG_g hg]
  have ne0:decide ((0:Int) ≠ 0)=false:=rfl
  simp (disch:=omega) only [f14_r2,f14_r4,Nat.reduceEqDiff,↓reduceIte,Bool.false_eq_true,ne0,bz]
  have hc1:=gr1.hc hc
  refine (callP_0 (ef:=f40) k.c40 rfl (f40_ret k.toNat2 (hv.grow hc gr1) nd_arI (by omega) hc1)).mono ?_
  rintro r h2 ⟨rfl,gr2⟩
  have hc2:=gr2.hc hc1
  obtain ⟨b,F,hO,hF⟩:=orI_of hg
  have s2:=rC_stn hF.len rl_len (M:=rl fun _ _=>false) (h:=h2.new (.cells 49 (List.replicate 49 (.b false)))) (id:=h2.nx) (by rw [rl_false]; exact get_new_same)
  have n3:=nx_new h2 (.cells 49 (List.replicate 49 (.b false)))
  have gr3:Grow h2.nx.nat h2 ((h2.new (.cells 49 (List.replicate 49 (.b false)))).put h2.nx (rC F)):=(Grow.new (Nat.le_refl _) _).trans (Grow.put (Nat.le_refl _) (by omega) _)
  have e3:((h2.new (.cells 49 (List.replicate 49 (.b false)))).put h2.nx (rC F)).get h2.nx=rC F:=get_put_same
  have l3:=rC_ldn hF.len e3
  simp (disch:=omega) only [f14_r5,Nat.reduceEqDiff,↓reduceIte,k.n49 _ _ _ (symR_g hg),hO,s2,l3,bz]
  generalize (h2.new (.cells 49 (List.replicate 49 (.b false)))).put h2.nx (rC F)=h3 at *
  have gA:Grow h.nx.nat h h3:=gr1.trans ((gr2.low gr1.nx).trans (gr3.low (by have:=gr1.nx; have:=gr2.nx; omega)))
  refine (callP_0 (ef:=f47) k.c47 rfl (f47_ret k.toNat4 hF.len (gr3.hc hc2))).mono ?_
  rintro u h4 ⟨hs,ho,gr4⟩
  simp (disch:=omega) only [f14_rs,Option.some.injEq,exists_eq_left',Nat.reduceEqDiff,↓reduceIte,bz]
  exact ⟨b,F,u,rfl,hF,hs,ho.low gA.nx,gA.trans (gr4.low gA.nx)⟩
theorem f9_ret {n:Int} {v:V} {L:List (Int × Int)} (k:CallsCk fs) (hv:Srp h v L) (hb:L.length ≤ 1000000) (hc:HC h):Ret fs f9 [.i .i64 n,v] h fun r h'=>r = .i .i64 (ckO n L)∧Grow h.nx.nat h h':=by
  apply ret_of rfl
  show W fs none f9_c _ _ _
  unfold f9_c
  by_cases hn:n < 1 ∨ 7 < n
  · have hg:ckO n L=1:=by unfold ckO; rw [if_pos hn]
    by_cases h1:n < 1
    · have d1:decide (n < 1)=true:=decide_eq_true h1
      simp (disch:=omega) only [f9_r0,f9_r1,f9_r2,f9_rs,Option.some.injEq,exists_eq_left',Nat.reduceEqDiff,↓reduceIte,Bool.false_eq_true,Bool.not_true,d1,bz]
      exact ⟨by rw [hg],Grow.refl _ _⟩
    · have d1:decide (n < 1)=false:=decide_eq_false h1
      have d2:decide (n > 7)=true:=decide_eq_true (by omega)
      simp (disch:=omega) only [f9_r0,f9_r1,f9_r2,f9_rs,Option.some.injEq,exists_eq_left',Nat.reduceEqDiff,↓reduceIte,Bool.false_eq_true,Bool.not_false,d1,d2,bz]
      exact ⟨by rw [hg],Grow.refl _ _⟩
  · have d1:decide (n < 1)=false:=decide_eq_false (by omega)
    have d2:decide (n > 7)=false:=decide_eq_false (by omega)
    simp (disch:=omega) only [f9_r0,f9_r1,f9_r3,Nat.reduceEqDiff,↓reduceIte,Bool.false_eq_true,Bool.not_false,d1,d2,bz]
    refine (callP_0 (ef:=f37) k.c37 rfl (f37_ret k.toNat4 hv (by omega) hc)).mono ?_
    rintro r h1 ⟨rfl,hG⟩
    cases hr:risB n L with
    | false =>
      have hg:ckO n L=30:=by unfold ckO; rw [if_neg hn,if_neg (by rw [hr]; simp)]
      simp (disch:=omega) only [f9_r4,f9_rs,Option.some.injEq,exists_eq_left',Nat.reduceEqDiff,↓reduceIte,Bool.false_eq_true,Bool.not_true,Bool.not_false,of30,bz]
      exact ⟨by rw [hg],hG⟩
    | true =>
      have hnd:=ris_nd (by omega) hr
      have hR:(relR L).length=49:=rl_len
      simp (disch:=omega) only [Nat.reduceEqDiff,↓reduceIte,Bool.not_true,Bool.not_false,bz]
      refine (callP_0 (ef:=f38) k.c38 rfl (f38_ret (hv.grow hc hG) hnd hb (hG.hc hc))).mono ?_
      rintro r h2 ⟨rfl,hG2⟩
      have gA:=hG.trans (hG2.low hG.nx)
      cases ht:trB (relR L) with
      | false =>
        have hg:ckO n L=30:=by unfold ckO; rw [if_neg hn,if_neg (by rw [ht]; simp)]
        simp (disch:=omega) only [f9_r4,f9_rs,Option.some.injEq,exists_eq_left',Nat.reduceEqDiff,↓reduceIte,Bool.false_eq_true,Bool.not_false,of30,k.n39 _ _ _ hR,ht,bz]
        exact ⟨by rw [hg],gA⟩
      | true =>
        have hg:ckO n L=0:=by unfold ckO; rw [if_neg hn,if_pos ⟨hr,ht⟩]
        simp (disch:=omega) only [f9_r5,f9_rs,Option.some.injEq,exists_eq_left',Nat.reduceEqDiff,↓reduceIte,Bool.false_eq_true,Bool.not_true,Bool.not_false,k.n39 _ _ _ hR,ht,bz]
        exact ⟨by rw [hg],gA⟩
end
end Go.Ev
namespace Go.Ev
open Go Go.RowKit
theorem HC.empty:HC ⟨.e, .nil⟩:=fun _ _=>by show getB (T.get _ .nil)=_; rw [T.get_nil]; rfl
theorem pV_inj {x y:Int × Int} (h:pV x=pV y):x=y:=by
  unfold pV at h
  injection h with h
  injection h with h1 h
  injection h with h2 _
  injection h1 with _ h1
  injection h2 with _ h2
  exact Prod.ext h1 h2
theorem aV_inj {x y:Nat × Nat} (h:aV x=aV y):x=y:=by
  rw [aV_pV,aV_pV] at h
  have:=pV_inj h
  injection this with h1 h2
  exact Prod.ext (by omega) (by omega)
theorem iV_inj {k:IntKind} {a b:Int} (h:V.i k a=V.i k b):a=b:=by injection h
section
variable {Y:Rig} {fs:T EF}
theorem frV_plain {L:List Bool}:(frV L).plainT=true:=by unfold frV; split <;> rfl
theorem orV_plain {L:List Bool}:(orV L).plainT=true:=by
  unfold orV
  split
  · show ([rV _,V.b true].all V.plain)=true
    simp only [List.all_cons,List.all_nil,rV_plain,Bool.true_and]; rfl
  · show ([rV _,V.b false].all V.plain)=true
    simp only [List.all_cons,List.all_nil,rV_plain,Bool.true_and]; rfl
theorem rV_plainT {L:List Bool}:(rV L).plainT=true:=rV_plain (L:=L)
def D66:Type := {_x:Int × Int // True}
noncomputable def A66:D66→List V:=fun ⟨x,_⟩ => [V.i .i64 x.1,V.i .i64 x.2]
noncomputable def F66:D66→V:=fun ⟨x,_⟩=>V.b (nodeB x.1 x.2)
theorem I66:∀ x y,A66 x=A66 y→F66 x=F66 y:=by
  rintro ⟨x,p⟩ ⟨y,q⟩ h
  have h : [V.i .i64 x.1,V.i .i64 x.2] = [V.i .i64 y.1,V.i .i64 y.2]:=h
  injection h with h0 h
  have e0:=iV_inj h0
  injection h with h1 h
  have e1:=iV_inj h1
  have e:x=y:=by
    exact Prod.ext e0 e1
  subst e
  rfl
theorem P66:∀ x,(A66 x).all V.plain=true:=by
  rintro ⟨x,p⟩
  show ([V.i .i64 x.1,V.i .i64 x.2].all V.plain)=true
  first | rfl | (simp only [List.all_cons,List.all_nil,rV_plain,Bool.true_and,Bool.and_true]; done) | (simp only [List.all_cons,List.all_nil,rV_plain,Bool.true_and,Bool.and_true]; rfl)
theorem Q66:∀ x,(F66 x).plainT=true:=fun ⟨_,_⟩=>rfl
theorem G66 (hfs:Fns Y fs) (hf:f66.nv=none ∧ ∃ fn c,FnOk Y (K.ofNat 66) f66 fn c):∀ args v,dataG A66 F66 args=some v→Gives Y (K.ofNat 66) args v:=dataG_gives hfs hf P66 Q66 fun ⟨_,p⟩=>by have _:=p; exact f66_ret
theorem E66 {ef:EF} (hf:fs.get (K.ofNat 66)=some ef) (hn:ef.nv=some (flatG (dataG A66 F66))) (x:Int × Int) (p:True) (h:H) (P:V→H→Prop):CallP fs (.fn (K.ofNat 66) []) (A66 ⟨x,p⟩) h P=P (F66 ⟨x,p⟩) h:=callP_data hf hn I66 _ h P
def D54:Type := {_x:Int × Int // True}
noncomputable def A54:D54→List V:=fun ⟨x,_⟩ => [pV x]
noncomputable def F54:D54→V:=fun ⟨x,_⟩=>pV (x.2,x.1)
theorem I54:∀ x y,A54 x=A54 y→F54 x=F54 y:=by
  rintro ⟨x,p⟩ ⟨y,q⟩ h
  have h : [pV x] = [pV y]:=h
  injection h with h0 h
  have e0:=pV_inj h0
  have e:x=y:=by
    exact e0
  subst e
  rfl
theorem P54:∀ x,(A54 x).all V.plain=true:=by
  rintro ⟨x,p⟩
  show ([pV x].all V.plain)=true
  first | rfl | (simp only [List.all_cons,List.all_nil,rV_plain,Bool.true_and,Bool.and_true]; done) | (simp only [List.all_cons,List.all_nil,rV_plain,Bool.true_and,Bool.and_true]; rfl)
theorem Q54:∀ x,(F54 x).plainT=true:=fun ⟨_,_⟩=>rfl
theorem G54 (hfs:Fns Y fs) (hf:f54.nv=none ∧ ∃ fn c,FnOk Y (K.ofNat 54) f54 fn c):∀ args v,dataG A54 F54 args=some v→Gives Y (K.ofNat 54) args v:=dataG_gives hfs hf P54 Q54 fun ⟨_,p⟩=>by have _:=p; exact f54_ret
theorem E54 {ef:EF} (hf:fs.get (K.ofNat 54)=some ef) (hn:ef.nv=some (flatG (dataG A54 F54))) (x:Int × Int) (p:True) (h:H) (P:V→H→Prop):CallP fs (.fn (K.ofNat 54) []) (A54 ⟨x,p⟩) h P=P (F54 ⟨x,p⟩) h:=callP_data hf hn I54 _ h P
def D55:Type := {_x:Int × Int // True}
noncomputable def A55:D55→List V:=fun ⟨x,_⟩ => [pV x]
noncomputable def F55:D55→V:=fun ⟨x,_⟩=>pV x
theorem I55:∀ x y,A55 x=A55 y→F55 x=F55 y:=by
  rintro ⟨x,p⟩ ⟨y,q⟩ h
  have h : [pV x] = [pV y]:=h
  injection h with h0 h
theorem P55:∀ x,(A55 x).all V.plain=true:=by
  rintro ⟨x,p⟩
  show ([pV x].all V.plain)=true
  first | rfl | (simp only [List.all_cons,List.all_nil,rV_plain,Bool.true_and,Bool.and_true]; done) | (simp only [List.all_cons,List.all_nil,rV_plain,Bool.true_and,Bool.and_true]; rfl)
theorem Q55:∀ x,(F55 x).plainT=true:=fun ⟨_,_⟩=>rfl
theorem G55 (hfs:Fns Y fs) (hf:f55.nv=none ∧ ∃ fn c,FnOk Y (K.ofNat 55) f55 fn c):∀ args v,dataG A55 F55 args=some v→Gives Y (K.ofNat 55) args v:=dataG_gives hfs hf P55 Q55 fun ⟨_,p⟩=>by have _:=p; exact f55_ret
theorem E55 {ef:EF} (hf:fs.get (K.ofNat 55)=some ef) (hn:ef.nv=some (flatG (dataG A55 F55))) (x:Int × Int) (p:True) (h:H) (P:V→H→Prop):CallP fs (.fn (K.ofNat 55) []) (A55 ⟨x,p⟩) h P=P (F55 ⟨x,p⟩) h:=callP_data hf hn I55 _ h P
def D45:Type := {_x:Int × Int // True}
noncomputable def A45:D45→List V:=fun ⟨x,_⟩ => [pV x]
noncomputable def F45:D45→V:=fun ⟨x,_⟩=>pV x
theorem I45:∀ x y,A45 x=A45 y→F45 x=F45 y:=by
  rintro ⟨x,p⟩ ⟨y,q⟩ h
  have h : [pV x] = [pV y]:=h
  injection h with h0 h
theorem P45:∀ x,(A45 x).all V.plain=true:=by
  rintro ⟨x,p⟩
  show ([pV x].all V.plain)=true
  first | rfl | (simp only [List.all_cons,List.all_nil,rV_plain,Bool.true_and,Bool.and_true]; done) | (simp only [List.all_cons,List.all_nil,rV_plain,Bool.true_and,Bool.and_true]; rfl)
theorem Q45:∀ x,(F45 x).plainT=true:=fun ⟨_,_⟩=>rfl
theorem G45 (hfs:Fns Y fs) (hf:f45.nv=none ∧ ∃ fn c,FnOk Y (K.ofNat 45) f45 fn c):∀ args v,dataG A45 F45 args=some v→Gives Y (K.ofNat 45) args v:=dataG_gives hfs hf P45 Q45 fun ⟨_,p⟩=>by have _:=p; exact f45_ret
theorem E45 {ef:EF} (hf:fs.get (K.ofNat 45)=some ef) (hn:ef.nv=some (flatG (dataG A45 F45))) (x:Int × Int) (p:True) (h:H) (P:V→H→Prop):CallP fs (.fn (K.ofNat 45) []) (A45 ⟨x,p⟩) h P=P (F45 ⟨x,p⟩) h:=callP_data hf hn I45 _ h P
def D70:Type := {x:List Bool // x.length=49}
noncomputable def A70:D70→List V:=fun ⟨x,_⟩ => [rV x]
noncomputable def F70:D70→V:=fun ⟨x,_⟩=>rV (turnR x)
theorem I70:∀ x y,A70 x=A70 y→F70 x=F70 y:=by
  rintro ⟨x,p⟩ ⟨y,q⟩ h
  have h : [rV x] = [rV y]:=h
  injection h with h0 h
  have e0:=rV_inj h0
  have e:x=y:=by
    exact e0
  subst e
  rfl
theorem P70:∀ x,(A70 x).all V.plain=true:=by
  rintro ⟨x,p⟩
  show ([rV x].all V.plain)=true
  first | rfl | (simp only [List.all_cons,List.all_nil,rV_plain,Bool.and_true]; done) | (simp only [List.all_cons,List.all_nil,rV_plain,Bool.true_and,Bool.and_true]; rfl)
theorem Q70:∀ x,(F70 x).plainT=true:=fun ⟨_,_⟩=>rV_plainT
theorem G70 (h84:fs.get (K.ofNat 76)=some f76) (h101:fs.get (K.ofNat 90)=some f90) (hfs:Fns Y fs) (hf:f70.nv=none ∧ ∃ fn c,FnOk Y (K.ofNat 70) f70 fn c):∀ args v,dataG A70 F70 args=some v→Gives Y (K.ofNat 70) args v:=dataG_gives hfs hf P70 Q70 fun ⟨_,p⟩=>by have _:=p; exact (f70_ret p h84 h101 HC.empty).mono fun _ _ h=>h.1
theorem E70 {ef:EF} (hf:fs.get (K.ofNat 70)=some ef) (hn:ef.nv=some (flatG (dataG A70 F70))) (x:List Bool) (p:x.length=49) (h:H) (P:V→H→Prop):CallP fs (.fn (K.ofNat 70) []) (A70 ⟨x,p⟩) h P=P (F70 ⟨x,p⟩) h:=callP_data hf hn I70 _ h P
def D71:Type := {x:List Bool × List Bool // x.1.length=49∧x.2.length=49}
noncomputable def A71:D71→List V:=fun ⟨x,_⟩ => [rV x.1,rV x.2]
noncomputable def F71:D71→V:=fun ⟨x,_⟩=>rV (woR x.1 x.2)
theorem I71:∀ x y,A71 x=A71 y→F71 x=F71 y:=by
  rintro ⟨x,p⟩ ⟨y,q⟩ h
  have h : [rV x.1,rV x.2] = [rV y.1,rV y.2]:=h
  injection h with h0 h
  have e0:=rV_inj h0
  injection h with h1 h
  have e1:=rV_inj h1
  have e:x=y:=by
    exact Prod.ext e0 e1
  subst e
  rfl
theorem P71:∀ x,(A71 x).all V.plain=true:=by
  rintro ⟨x,p⟩
  show ([rV x.1,rV x.2].all V.plain)=true
  first | rfl | (simp only [List.all_cons,List.all_nil,rV_plain,Bool.and_true]; done) | (simp only [List.all_cons,List.all_nil,rV_plain,Bool.true_and,Bool.and_true]; rfl)
theorem Q71:∀ x,(F71 x).plainT=true:=fun ⟨_,_⟩=>rV_plainT
theorem G71 (h84:fs.get (K.ofNat 76)=some f76) (h101:fs.get (K.ofNat 90)=some f90) (hfs:Fns Y fs) (hf:f71.nv=none ∧ ∃ fn c,FnOk Y (K.ofNat 71) f71 fn c):∀ args v,dataG A71 F71 args=some v→Gives Y (K.ofNat 71) args v:=dataG_gives hfs hf P71 Q71 fun ⟨_,p⟩=>by have _:=p; exact f71_ret p.1 p.2 h84 h101 HC.empty
theorem E71 {ef:EF} (hf:fs.get (K.ofNat 71)=some ef) (hn:ef.nv=some (flatG (dataG A71 F71))) (x:List Bool × List Bool) (p:x.1.length=49∧x.2.length=49) (h:H) (P:V→H→Prop):CallP fs (.fn (K.ofNat 71) []) (A71 ⟨x,p⟩) h P=P (F71 ⟨x,p⟩) h:=callP_data hf hn I71 _ h P
def D74:Type := {x:List Bool × (Int × Int) // x.1.length=49}
noncomputable def A74:D74→List V:=fun ⟨x,_⟩ => [rV x.1,pV x.2]
noncomputable def F74:D74→V:=fun ⟨x,_⟩=>V.b (hasR x.1 x.2)
theorem I74:∀ x y,A74 x=A74 y→F74 x=F74 y:=by
  rintro ⟨x,p⟩ ⟨y,q⟩ h
  have h : [rV x.1,pV x.2] = [rV y.1,pV y.2]:=h
  injection h with h0 h
  have e0:=rV_inj h0
  injection h with h1 h
  have e1:=pV_inj h1
  have e:x=y:=by
    exact Prod.ext e0 e1
  subst e
  rfl
theorem P74:∀ x,(A74 x).all V.plain=true:=by
  rintro ⟨x,p⟩
  show ([rV x.1,pV x.2].all V.plain)=true
  first | rfl | (simp only [List.all_cons,List.all_nil,rV_plain,Bool.true_and,Bool.and_true]; done) | (simp only [List.all_cons,List.all_nil,rV_plain,Bool.true_and,Bool.and_true]; rfl)
theorem Q74:∀ x,(F74 x).plainT=true:=fun ⟨_,_⟩=>rfl
theorem G74 (k:Nat1 fs) (hfs:Fns Y fs) (hf:f74.nv=none ∧ ∃ fn c,FnOk Y (K.ofNat 74) f74 fn c):∀ args v,dataG A74 F74 args=some v→Gives Y (K.ofNat 74) args v:=dataG_gives hfs hf P74 Q74 fun ⟨_,p⟩=>by have _:=p; exact f74_ret k p
theorem E74 {ef:EF} (hf:fs.get (K.ofNat 74)=some ef) (hn:ef.nv=some (flatG (dataG A74 F74))) (x:List Bool × (Int × Int)) (p:x.1.length=49) (h:H) (P:V→H→Prop):CallP fs (.fn (K.ofNat 74) []) (A74 ⟨x,p⟩) h P=P (F74 ⟨x,p⟩) h:=callP_data hf hn I74 _ h P
def D77:Type := {x:List Bool // x.length=49}
noncomputable def A77:D77→List V:=fun ⟨x,_⟩ => [rV x]
noncomputable def F77:D77→V:=fun ⟨x,_⟩=>frV x
theorem I77:∀ x y,A77 x=A77 y→F77 x=F77 y:=by
  rintro ⟨x,p⟩ ⟨y,q⟩ h
  have h : [rV x] = [rV y]:=h
  injection h with h0 h
  have e0:=rV_inj h0
  have e:x=y:=by
    exact e0
  subst e
  rfl
theorem P77:∀ x,(A77 x).all V.plain=true:=by
  rintro ⟨x,p⟩
  show ([rV x].all V.plain)=true
  first | rfl | (simp only [List.all_cons,List.all_nil,rV_plain,Bool.and_true]; done) | (simp only [List.all_cons,List.all_nil,rV_plain,Bool.true_and,Bool.and_true]; rfl)
theorem Q77:∀ x,(F77 x).plainT=true:=fun ⟨_,_⟩=>frV_plain
theorem G77 (k:Nat2 fs) (hfs:Fns Y fs) (hf:f77.nv=none ∧ ∃ fn c,FnOk Y (K.ofNat 77) f77 fn c):∀ args v,dataG A77 F77 args=some v→Gives Y (K.ofNat 77) args v:=dataG_gives hfs hf P77 Q77 fun ⟨_,p⟩=>by have _:=p; exact f77_ret k p HC.empty
theorem E77 {ef:EF} (hf:fs.get (K.ofNat 77)=some ef) (hn:ef.nv=some (flatG (dataG A77 F77))) (x:List Bool) (p:x.length=49) (h:H) (P:V→H→Prop):CallP fs (.fn (K.ofNat 77) []) (A77 ⟨x,p⟩) h P=P (F77 ⟨x,p⟩) h:=callP_data hf hn I77 _ h P
def D68:Type := {x:List Bool // x.length=49}
noncomputable def A68:D68→List V:=fun ⟨x,_⟩ => [rV x]
noncomputable def F68:D68→V:=fun ⟨x,_⟩=>rV (spR x)
theorem I68:∀ x y,A68 x=A68 y→F68 x=F68 y:=by
  rintro ⟨x,p⟩ ⟨y,q⟩ h
  have h : [rV x] = [rV y]:=h
  injection h with h0 h
  have e0:=rV_inj h0
  have e:x=y:=by
    exact e0
  subst e
  rfl
theorem P68:∀ x,(A68 x).all V.plain=true:=by
  rintro ⟨x,p⟩
  show ([rV x].all V.plain)=true
  first | rfl | (simp only [List.all_cons,List.all_nil,rV_plain,Bool.and_true]; done) | (simp only [List.all_cons,List.all_nil,rV_plain,Bool.true_and,Bool.and_true]; rfl)
theorem Q68:∀ x,(F68 x).plainT=true:=fun ⟨_,_⟩=>rV_plainT
theorem G68 (k:Nat2 fs) (hfs:Fns Y fs) (hf:f68.nv=none ∧ ∃ fn c,FnOk Y (K.ofNat 68) f68 fn c):∀ args v,dataG A68 F68 args=some v→Gives Y (K.ofNat 68) args v:=dataG_gives hfs hf P68 Q68 fun ⟨_,p⟩=>by have _:=p; exact f68_ret k p HC.empty
theorem E68 {ef:EF} (hf:fs.get (K.ofNat 68)=some ef) (hn:ef.nv=some (flatG (dataG A68 F68))) (x:List Bool) (p:x.length=49) (h:H) (P:V→H→Prop):CallP fs (.fn (K.ofNat 68) []) (A68 ⟨x,p⟩) h P=P (F68 ⟨x,p⟩) h:=callP_data hf hn I68 _ h P
def D67:Type := {x:List Bool × List Bool // x.1.length=49∧x.2.length=49}
noncomputable def A67:D67→List V:=fun ⟨x,_⟩ => [rV x.1,rV x.2]
noncomputable def F67:D67→V:=fun ⟨x,_⟩=>V.b (cvB x.1 x.2)
theorem I67:∀ x y,A67 x=A67 y→F67 x=F67 y:=by
  rintro ⟨x,p⟩ ⟨y,q⟩ h
  have h : [rV x.1,rV x.2] = [rV y.1,rV y.2]:=h
  injection h with h0 h
  have e0:=rV_inj h0
  injection h with h1 h
  have e1:=rV_inj h1
  have e:x=y:=by
    exact Prod.ext e0 e1
  subst e
  rfl
theorem P67:∀ x,(A67 x).all V.plain=true:=by
  rintro ⟨x,p⟩
  show ([rV x.1,rV x.2].all V.plain)=true
  first | rfl | (simp only [List.all_cons,List.all_nil,rV_plain,Bool.and_true]; done) | (simp only [List.all_cons,List.all_nil,rV_plain,Bool.true_and,Bool.and_true]; rfl)
theorem Q67:∀ x,(F67 x).plainT=true:=fun ⟨_,_⟩=>rfl
theorem G67 (k:Nat2 fs) (hfs:Fns Y fs) (hf:f67.nv=none ∧ ∃ fn c,FnOk Y (K.ofNat 67) f67 fn c):∀ args v,dataG A67 F67 args=some v→Gives Y (K.ofNat 67) args v:=dataG_gives hfs hf P67 Q67 fun ⟨_,p⟩=>by have _:=p; exact f67_ret k p.1 p.2 HC.empty
theorem E67 {ef:EF} (hf:fs.get (K.ofNat 67)=some ef) (hn:ef.nv=some (flatG (dataG A67 F67))) (x:List Bool × List Bool) (p:x.1.length=49∧x.2.length=49) (h:H) (P:V→H→Prop):CallP fs (.fn (K.ofNat 67) []) (A67 ⟨x,p⟩) h P=P (F67 ⟨x,p⟩) h:=callP_data hf hn I67 _ h P
def D41:Type := {x:List Bool × Nat // x.1.length=49∧x.2 ≤ 7}
noncomputable def A41:D41→List V:=fun ⟨x,_⟩ => [rV x.1,V.i .i64 (x.2:Int)]
noncomputable def F41:D41→V:=fun ⟨x,_⟩=>rV (otR x.2 x.1)
theorem I41:∀ x y,A41 x=A41 y→F41 x=F41 y:=by
  rintro ⟨x,p⟩ ⟨y,q⟩ h
  have h : [rV x.1,V.i .i64 (x.2:Int)] = [rV y.1,V.i .i64 (y.2:Int)]:=h
  injection h with h0 h
  have e0:=rV_inj h0
  injection h with h1 h
  have e1:=iV_inj h1
  have e:x=y:=by
    exact Prod.ext e0 (by omega)
  subst e
  rfl
theorem P41:∀ x,(A41 x).all V.plain=true:=by
  rintro ⟨x,p⟩
  show ([rV x.1,V.i .i64 (x.2:Int)].all V.plain)=true
  first | rfl | (simp only [List.all_cons,List.all_nil,rV_plain,Bool.true_and,Bool.and_true]; done) | (simp only [List.all_cons,List.all_nil,rV_plain,Bool.true_and,Bool.and_true]; rfl)
theorem Q41:∀ x,(F41 x).plainT=true:=fun ⟨_,_⟩=>rV_plainT
theorem G41 (k:Nat2 fs) (hfs:Fns Y fs) (hf:f41.nv=none ∧ ∃ fn c,FnOk Y (K.ofNat 41) f41 fn c):∀ args v,dataG A41 F41 args=some v→Gives Y (K.ofNat 41) args v:=dataG_gives hfs hf P41 Q41 fun ⟨_,p⟩=>by have _:=p; exact f41_ret k p.1 p.2 HC.empty
theorem E41 {ef:EF} (hf:fs.get (K.ofNat 41)=some ef) (hn:ef.nv=some (flatG (dataG A41 F41))) (x:List Bool × Nat) (p:x.1.length=49∧x.2 ≤ 7) (h:H) (P:V→H→Prop):CallP fs (.fn (K.ofNat 41) []) (A41 ⟨x,p⟩) h P=P (F41 ⟨x,p⟩) h:=callP_data hf hn I41 _ h P
def D46:Type := {x:List Bool × (Nat × Nat) // x.1.length=49∧(x.2.1 < 7∧x.2.2 < 7)}
noncomputable def A46:D46→List V:=fun ⟨x,_⟩ => [rV x.1,aV x.2]
noncomputable def F46:D46→V:=fun ⟨x,_⟩=>rV (clsR x.1 x.2)
theorem I46:∀ x y,A46 x=A46 y→F46 x=F46 y:=by
  rintro ⟨x,p⟩ ⟨y,q⟩ h
  have h : [rV x.1,aV x.2] = [rV y.1,aV y.2]:=h
  injection h with h0 h
  have e0:=rV_inj h0
  injection h with h1 h
  have e1:=aV_inj h1
  have e:x=y:=by
    exact Prod.ext e0 e1
  subst e
  rfl
theorem P46:∀ x,(A46 x).all V.plain=true:=by
  rintro ⟨x,p⟩
  show ([rV x.1,aV x.2].all V.plain)=true
  first | rfl | (simp only [List.all_cons,List.all_nil,rV_plain,Bool.true_and,Bool.and_true]; done) | (simp only [List.all_cons,List.all_nil,rV_plain,Bool.true_and,Bool.and_true]; rfl)
theorem Q46:∀ x,(F46 x).plainT=true:=fun ⟨_,_⟩=>rV_plainT
theorem G46 (k:Nat3 fs) (h86:fs.get (K.ofNat 75)=some f75) (h102:fs.get (K.ofNat 89)=some f89) (hfs:Fns Y fs) (hf:f46.nv=none ∧ ∃ fn c,FnOk Y (K.ofNat 46) f46 fn c):∀ args v,dataG A46 F46 args=some v→Gives Y (K.ofNat 46) args v:=dataG_gives hfs hf P46 Q46 fun ⟨_,p⟩=>by have _:=p; exact f46_ret k h86 h102 p.1 p.2 HC.empty
theorem E46 {ef:EF} (hf:fs.get (K.ofNat 46)=some ef) (hn:ef.nv=some (flatG (dataG A46 F46))) (x:List Bool × (Nat × Nat)) (p:x.1.length=49∧(x.2.1 < 7∧x.2.2 < 7)) (h:H) (P:V→H→Prop):CallP fs (.fn (K.ofNat 46) []) (A46 ⟨x,p⟩) h P=P (F46 ⟨x,p⟩) h:=callP_data hf hn I46 _ h P
def D44:Type := {x:List Bool × ((Nat × Nat) × (Nat × Nat)) // x.1.length=49∧((x.2.1.1 < 7∧x.2.1.2 < 7)∧(x.2.2.1 < 7∧x.2.2.2 < 7))}
noncomputable def A44:D44→List V:=fun ⟨x,_⟩ => [rV x.1,aV x.2.1,aV x.2.2]
noncomputable def F44:D44→V:=fun ⟨x,_⟩=>V.b (decide (x.2.2 ∈ fcY x.1 x.2.1.1 x.2.1.2))
theorem I44:∀ x y,A44 x=A44 y→F44 x=F44 y:=by
  rintro ⟨x,p⟩ ⟨y,q⟩ h
  have h : [rV x.1,aV x.2.1,aV x.2.2] = [rV y.1,aV y.2.1,aV y.2.2]:=h
  injection h with h0 h
  have e0:=rV_inj h0
  injection h with h1 h
  have e1:=aV_inj h1
  injection h with h2 h
  have e2:=aV_inj h2
  have e:x=y:=by
    exact Prod.ext e0 (Prod.ext e1 e2)
  subst e
  rfl
theorem P44:∀ x,(A44 x).all V.plain=true:=by
  rintro ⟨x,p⟩
  show ([rV x.1,aV x.2.1,aV x.2.2].all V.plain)=true
  first | rfl | (simp only [List.all_cons,List.all_nil,rV_plain,Bool.true_and,Bool.and_true]; done) | (simp only [List.all_cons,List.all_nil,rV_plain,Bool.true_and,Bool.and_true]; rfl)
theorem Q44:∀ x,(F44 x).plainT=true:=fun ⟨_,_⟩=>rfl
theorem G44 (h86:fs.get (K.ofNat 75)=some f75) (h102:fs.get (K.ofNat 89)=some f89) (hfs:Fns Y fs) (hf:f44.nv=none ∧ ∃ fn c,FnOk Y (K.ofNat 44) f44 fn c):∀ args v,dataG A44 F44 args=some v→Gives Y (K.ofNat 44) args v:=dataG_gives hfs hf P44 Q44 fun ⟨_,p⟩=>by have _:=p; exact f44_ret h86 h102 p.1 p.2.1 p.2.2 HC.empty
theorem E44 {ef:EF} (hf:fs.get (K.ofNat 44)=some ef) (hn:ef.nv=some (flatG (dataG A44 F44))) (x:List Bool × ((Nat × Nat) × (Nat × Nat))) (p:x.1.length=49∧((x.2.1.1 < 7∧x.2.1.2 < 7)∧(x.2.2.1 < 7∧x.2.2.2 < 7))) (h:H) (P:V→H→Prop):CallP fs (.fn (K.ofNat 44) []) (A44 ⟨x,p⟩) h P=P (F44 ⟨x,p⟩) h:=callP_data hf hn I44 _ h P
def D39:Type := {x:List Bool // x.length=49}
noncomputable def A39:D39→List V:=fun ⟨x,_⟩ => [rV x]
noncomputable def F39:D39→V:=fun ⟨x,_⟩=>V.b (trB x)
theorem I39:∀ x y,A39 x=A39 y→F39 x=F39 y:=by
  rintro ⟨x,p⟩ ⟨y,q⟩ h
  have h : [rV x] = [rV y]:=h
  injection h with h0 h
  have e0:=rV_inj h0
  have e:x=y:=by
    exact e0
  subst e
  rfl
theorem P39:∀ x,(A39 x).all V.plain=true:=by
  rintro ⟨x,p⟩
  show ([rV x].all V.plain)=true
  first | rfl | (simp only [List.all_cons,List.all_nil,rV_plain,Bool.and_true]; done) | (simp only [List.all_cons,List.all_nil,rV_plain,Bool.true_and,Bool.and_true]; rfl)
theorem Q39:∀ x,(F39 x).plainT=true:=fun ⟨_,_⟩=>rfl
theorem G39 (k:Nat3 fs) (hfs:Fns Y fs) (hf:f39.nv=none ∧ ∃ fn c,FnOk Y (K.ofNat 39) f39 fn c):∀ args v,dataG A39 F39 args=some v→Gives Y (K.ofNat 39) args v:=dataG_gives hfs hf P39 Q39 fun ⟨_,p⟩=>by have _:=p; exact f39_ret k p
theorem E39 {ef:EF} (hf:fs.get (K.ofNat 39)=some ef) (hn:ef.nv=some (flatG (dataG A39 F39))) (x:List Bool) (p:x.length=49) (h:H) (P:V→H→Prop):CallP fs (.fn (K.ofNat 39) []) (A39 ⟨x,p⟩) h P=P (F39 ⟨x,p⟩) h:=callP_data hf hn I39 _ h P
def D57:Type := {_x:(Int × Int) × (Int × Int) // True}
noncomputable def A57:D57→List V:=fun ⟨x,_⟩ => [pV x.1,pV x.2]
noncomputable def F57:D57→V:=fun ⟨x,_⟩=>V.b (bfB x.1 x.2)
theorem I57:∀ x y,A57 x=A57 y→F57 x=F57 y:=by
  rintro ⟨x,p⟩ ⟨y,q⟩ h
  have h : [pV x.1,pV x.2] = [pV y.1,pV y.2]:=h
  injection h with h0 h
  have e0:=pV_inj h0
  injection h with h1 h
  have e1:=pV_inj h1
  have e:x=y:=by
    exact Prod.ext e0 e1
  subst e
  rfl
theorem P57:∀ x,(A57 x).all V.plain=true:=by
  rintro ⟨x,p⟩
  show ([pV x.1,pV x.2].all V.plain)=true
  first | rfl | (simp only [List.all_cons,List.all_nil,rV_plain,Bool.true_and,Bool.and_true]; done) | (simp only [List.all_cons,List.all_nil,rV_plain,Bool.true_and,Bool.and_true]; rfl)
theorem Q57:∀ x,(F57 x).plainT=true:=fun ⟨_,_⟩=>rfl
theorem G57 (h99:fs.get (K.ofNat 84)=some f84) (h108:fs.get (K.ofNat 96)=some f96) (h121:fs.get (K.ofNat 110)=some f110) (hfs:Fns Y fs) (hf:f57.nv=none ∧ ∃ fn c,FnOk Y (K.ofNat 57) f57 fn c):∀ args v,dataG A57 F57 args=some v→Gives Y (K.ofNat 57) args v:=dataG_gives hfs hf P57 Q57 fun ⟨_,p⟩=>by have _:=p; exact f57_ret h99 h108 h121
theorem E57 {ef:EF} (hf:fs.get (K.ofNat 57)=some ef) (hn:ef.nv=some (flatG (dataG A57 F57))) (x:(Int × Int) × (Int × Int)) (p:True) (h:H) (P:V→H→Prop):CallP fs (.fn (K.ofNat 57) []) (A57 ⟨x,p⟩) h P=P (F57 ⟨x,p⟩) h:=callP_data hf hn I57 _ h P
def D49:Type := {x:List Bool // SymR x}
noncomputable def A49:D49→List V:=fun ⟨x,_⟩ => [rV x]
noncomputable def F49:D49→V:=fun ⟨x,_⟩=>orV x
theorem I49:∀ x y,A49 x=A49 y→F49 x=F49 y:=by
  rintro ⟨x,p⟩ ⟨y,q⟩ h
  have h : [rV x] = [rV y]:=h
  injection h with h0 h
  have e0:=rV_inj h0
  have e:x=y:=by
    exact e0
  subst e
  rfl
theorem P49:∀ x,(A49 x).all V.plain=true:=by
  rintro ⟨x,p⟩
  show ([rV x].all V.plain)=true
  first | rfl | (simp only [List.all_cons,List.all_nil,rV_plain,Bool.and_true]; done) | (simp only [List.all_cons,List.all_nil,rV_plain,Bool.true_and,Bool.and_true]; rfl)
theorem Q49:∀ x,(F49 x).plainT=true:=fun ⟨_,_⟩=>orV_plain
theorem G49 (k:Nat4 fs) (hfs:Fns Y fs) (hf:f49.nv=none ∧ ∃ fn c,FnOk Y (K.ofNat 49) f49 fn c):∀ args v,dataG A49 F49 args=some v→Gives Y (K.ofNat 49) args v:=dataG_gives hfs hf P49 Q49 fun ⟨_,p⟩=>by have _:=p; exact f49_ret k p HC.empty
theorem E49 {ef:EF} (hf:fs.get (K.ofNat 49)=some ef) (hn:ef.nv=some (flatG (dataG A49 F49))) (x:List Bool) (p:SymR x) (h:H) (P:V→H→Prop):CallP fs (.fn (K.ofNat 49) []) (A49 ⟨x,p⟩) h P=P (F49 ⟨x,p⟩) h:=callP_data hf hn I49 _ h P
end
end Go.Ev
namespace Go.Ev
open Go Go.RowKit
def rlx (d:Nat→Nat) (x:Nat × Nat) (v:Nat):Nat:=if v=x.2 then max (d v) (d x.1 + 1) else d v
def rlL (d:Nat→Nat) (l:List (Nat × Nat)):Nat→Nat:=l.foldl rlx d
def lyS (L:List Bool):Nat→Nat→Nat
  | 0=>fun _=>0
  | k + 1=>rlL (lyS L k) (arw (rat L))
def lyR (L:List Bool) (n:Nat):Nat→Nat:=lyS L n
inductive Ch (L:List Bool):Nat→Nat→Prop
  | zero (v:Nat):Ch L 0 v
  | step {t u v:Nat}:Ch L t u→rat L u v=true→Ch L (t + 1) v
theorem rlL_snoc {d:Nat→Nat} {l:List (Nat × Nat)} {x:Nat × Nat}:rlL d (l ++ [x])=rlx (rlL d l) x:=by unfold rlL; rw [List.foldl_append]; rfl
theorem rlx_le {d:Nat→Nat} {x:Nat × Nat} {v:Nat}:d v ≤ rlx d x v:=by unfold rlx; split <;> omega
theorem rlL_le {l:List (Nat × Nat)}:∀ {d:Nat→Nat} {v:Nat},d v ≤ rlL d l v:=by
  induction l with
  | nil=>exact fun {d v}=>Nat.le_refl _
  | cons x l ih=>exact fun {d v}=>Nat.le_trans (rlx_le (x:=x)) (ih (d:=rlx d x))
theorem nodup_leO {α:Type} [DecidableEq α]:∀ {l m:List α},l.Nodup→(∀ x ∈ l,x ∈ m)→l.length ≤ m.length
  | [],_,_,_=>Nat.zero_le _
  | x :: l,m,hn,hs=>by
    rw [List.nodup_cons] at hn
    have hx:x ∈ m:=hs x (by simp)
    have:=nodup_leO (l:=l) (m:=m.erase x) hn.2 fun y hy=>(List.mem_erase_of_ne (fun e:y=x=>hn.1 (e ▸ hy))).2 (hs y (by simp [hy]))
    rw [List.length_erase_of_mem hx] at this
    have:0 < m.length:=List.length_pos_of_mem hx
    rw [List.length_cons]; omega
section
variable {L:List Bool} {n:Nat}
theorem Ch.bound (o:OrdN n L) {t v:Nat} (h:Ch L t v) (hv:v < n):t + 1 ≤ n:=by
  -- the nodes of the chain
  have key:∀ {t v:Nat},Ch L t v → ∃ l:List Nat,l.length=t∧l.Nodup∧(∀ u ∈ l,rat L u v=true):=by
    intro t v h
    induction h with
    | zero v=>exact ⟨[],rfl,List.nodup_nil,fun u hu=>by cases hu⟩
    | @step t u v _ hr ih =>
      obtain ⟨l,h1,h2,h3⟩:=ih
      refine ⟨u :: l,by simp [h1],List.nodup_cons.2 ⟨fun hu=>o.irr u (h3 u hu),h2⟩,fun w hw=>?_⟩
      rcases List.mem_cons.1 hw with rfl | hw
      · exact hr
      · exact o.tr _ _ _ (h3 w hw) hr
  obtain ⟨l,h1,h2,h3⟩:=key h
  have hd:(v :: l).Nodup:=List.nodup_cons.2 ⟨fun hu=>o.irr v (h3 v hu),h2⟩
  have hsub:∀ w ∈ v :: l,w ∈ List.range n:=fun w hw=>by
    rw [List.mem_range]
    rcases List.mem_cons.1 hw with rfl | hw
    · exact hv
    · exact (o.lt _ _ (h3 w hw)).1
  have:=nodup_leO hd hsub
  simp at this
  omega
theorem rlL_ch {l:List (Nat × Nat)}:∀ {d:Nat→Nat},(∀ x ∈ l,rat L x.1 x.2=true)→(∀ v,Ch L (d v) v) → ∀ v,Ch L (rlL d l v) v:=by
  induction l with
  | nil=>exact fun {d} _ h v=>h v
  | cons x l ih =>
    intro d hl h v
    refine ih (d:=rlx d x) (fun y hy=>hl y (List.mem_cons_of_mem _ hy)) (fun w=>?_) v
    unfold rlx
    split
    · rename_i e
      rcases Nat.le_total (d x.1 + 1) (d w) with q | q
      · rw [Nat.max_eq_left q]; exact h w
      · rw [Nat.max_eq_right q]
        have:=(h x.1).step (hl x List.mem_cons_self)
        rw [e]; exact this
    · exact h w
theorem rlL_at {l:List (Nat × Nat)}:∀ {d:Nat→Nat} {x:Nat × Nat},x ∈ l→d x.1 + 1 ≤ rlL d l x.2:=by
  induction l with
  | nil=>intro d x h; cases h
  | cons y l ih =>
    intro d x hx
    rcases List.mem_cons.1 hx with rfl | hx
    · refine Nat.le_trans ?_ (rlL_le (d:=rlx d x))
      unfold rlx
      rw [if_pos rfl]; exact Nat.le_max_right _ _
    · refine Nat.le_trans ?_ (ih (d:=rlx d y) hx)
      have:=rlx_le (d:=d) (x:=y) (v:=x.1)
      omega
theorem ly_ch (k:Nat):∀ v,Ch L (lyS L k v) v:=by
  induction k with
  | zero=>exact fun v => .zero v
  | succ k ih=>exact rlL_ch (fun x hx=>(mem_arw.1 hx).2.2) ih
theorem ly_ge {k:Nat}:∀ {t v:Nat},Ch L t v→t ≤ k→t ≤ lyS L k v:=by
  induction k with
  | zero=>intro t v _ h; omega
  | succ k ih =>
    intro t v h hk
    cases h with
    | zero=>exact Nat.zero_le _
    | @step t u _ h hr =>
      have h1:=ih h (by omega)
      have h2:=rlL_at (d:=lyS L k) (x:=(u,v)) (mem_arw.2 ⟨(rat_lt hr).1,(rat_lt hr).2,hr⟩)
      have h2:lyS L k u + 1 ≤ lyS L (k + 1) v:=h2
      omega
theorem ly_lt (o:OrdN n L) {v:Nat} (hv:v < n):lyR L n v < n:=by
  have:=(ly_ch (L:=L) n v).bound o hv
  unfold lyR; omega
theorem ly_max (o:OrdN n L) {t v:Nat} (hv:v < n) (h:Ch L t v):t ≤ lyR L n v:=ly_ge h (by have:=h.bound o hv; omega)
theorem ly_up (o:OrdN n L) {u v:Nat} (h:rat L u v=true):lyR L n u + 1 ≤ lyR L n v:=ly_max o (o.lt _ _ h).2 ((ly_ch n u).step h)
theorem ly_down (o:OrdN n L) {t v:Nat} (h:lyR L n v=t + 1):∃ u,rat L u v=true∧lyR L n u=t:=by
  have hc:=ly_ch (L:=L) n v
  rw [show lyS L n v=t + 1 from h] at hc
  cases hc with
  | @step _ u _ h1 hr =>
    have h2:=ly_max o (o.lt _ _ hr).1 h1
    have h3:=ly_up o hr
    exact ⟨u,hr,by omega⟩
end
end Go.Ev
namespace Go.Ev
open Go Go.RowKit
noncomputable def f59_r0:List EOper := [oG 2 (.box 49 (tG 0)),oG 4 (.as (.c .sn))]
noncomputable def f59_r1:List EOper := [oG 7 (.mv (tG 1)),oG 8 (.mkslice 1 [(.i .i64 (.ofNat 0))] (tG 7)),oG 5 (.alloc 1 [.sn]),⟨none,none, .st 1 (tG 5) (tG 8)⟩]
noncomputable def f59_r2:List EOper := [oG 9 (.mv (tG 1)),oG 10 (.mv (cG 0))]
noncomputable def f59_r3:List EOper := [oG 11 (.bin .lss (tG 10) (tG 9))]
noncomputable def f59_r4:List EOper := [oG 12 (.ldn 49 (tG 2)),oG 13 (.call (fG 76) [(tG 12)])]
noncomputable def f59_r5:List EOper := [oG 6 (.alloc 2 [(.i .i64 (.ofNat 0)),(.i .i64 (.ofNat 0))]),⟨none,none, .st 2 (tG 6) (tG 14)⟩]
noncomputable def f59_a0:EC:=(.reg f59_r5)
noncomputable def f59_r6:List Stage := [⟨[oG 15 (.ld (tG 5)),oG 16 (.fadr 1 (tG 6)),oG 17 (.ld (tG 16)),oG 18 (.ld (tG 5)),oG 19 (.fadr 1 (tG 6)),oG 20 (.ld (tG 19)),oG 21 (.iads 1 (tG 18) (tG 20)),oG 22 (.ld (tG 21)),oG 23 (.ld (tG 5)),oG 24 (.fadr 0 (tG 6)),oG 25 (.ld (tG 24)),oG 26 (.iads 1 (tG 23) (tG 25)),oG 27 (.ld (tG 26)),oG 28 (.bin .add (tG 27) (cG 1)),oG 29 (.max (tG 22) (tG 28)),oG 30 (.iads 1 (tG 15) (tG 17))], [],(some ⟨none,none, .st 1 (tG 30) (tG 29)⟩), []⟩,⟨[], [],none, []⟩]
noncomputable def f59_b0:EC:=(.block 3 (.draw f59_r6))
noncomputable def f59_r7:List EOper := [oG 31 (.bin .add (tG 10) (cG 1)),oG 10 (.mv (tG 31))]
noncomputable def f59_l0:EC:=(.seq (.reg f59_r3) (.seq (.cond (tG 11) .skip (.exit 0)) (.seq (.block 1 (.seq (.reg f59_r4) (.block 2 (.rangeF (tG 13) [(.ofNat 14)] f59_a0 f59_b0)))) (.reg f59_r7))))
noncomputable def f59_r8:List EOper := [oG 32 (.ld (tG 5)),oG 4 (.as (tG 32))]
noncomputable def f59_c:EC:=(.seq (.reg f59_r0) (.seq (.reg f59_r1) (.seq (.seq (.reg f59_r2) (.block 0 (.loop f59_l0))) (.seq (.reg f59_r8) .ret))))
noncomputable def f59:EF:=⟨33, [.tmp (.ofNat 4)],f59_c,none⟩
theorem f59_rs:f59.rs = [.tmp (.ofNat 4)]:=of_eq_true (eq_self _)
noncomputable def f85_r0:List EOper := [oG 2 (.as (cG 0))]
noncomputable def f85_r1:List EOper := [oG 5 (.mv (tG 0)),oG 6 (.len (tG 5)),oG 7 (.bin .lss (tG 6) (cG 1))]
noncomputable def f85_r2:List EOper := [⟨none,none, .no⟩,⟨none,none, .no⟩]
noncomputable def f85_r3:List EOper := [oG 9 (.mv (tG 0)),oG 10 (.iads 1 (tG 9) (cG 0)),oG 11 (.ld (tG 10)),oG 3 (.as (tG 11))]
noncomputable def f85_r4:List EOper := [oG 4 (.as (cG 1))]
noncomputable def f85_r5:List EOper := [oG 12 (.mv (tG 4)),oG 13 (.mv (tG 0)),oG 14 (.len (tG 13)),oG 15 (.bin .lss (tG 12) (tG 14))]
noncomputable def f85_r6:List EOper := [oG 18 (.mv (tG 3)),oG 19 (.mv (tG 0)),oG 20 (.mv (tG 4)),oG 21 (.iads 1 (tG 19) (tG 20)),oG 22 (.ld (tG 21)),oG 23 (.max (tG 18) (tG 22)),oG 3 (.as (tG 23))]
noncomputable def f85_r7:List EOper := [oG 16 (.mv (tG 4)),oG 17 (.bin .add (tG 16) (cG 1)),oG 4 (.as (tG 17))]
noncomputable def f85_l0:EC:=(.seq (.seq (.reg f85_r5) (.cond (tG 15) .skip (.exit 0))) (.seq (.block 1 (.reg f85_r6)) (.reg f85_r7)))
noncomputable def f85_r8:List EOper := [oG 24 (.mv (tG 3)),oG 2 (.as (tG 24))]
noncomputable def f85_c:EC:=(.seq (.reg f85_r0) (.seq (.seq (.reg f85_r1) (.cond (tG 7) (.reg f85_r2) .skip)) (.seq (.reg f85_r3) (.seq (.seq (.reg f85_r4) (.block 0 (.loop f85_l0))) (.seq (.reg f85_r8) .ret)))))
noncomputable def f85:EF:=⟨25, [.tmp (.ofNat 2)],f85_c,none⟩
theorem f85_rs:f85.rs = [.tmp (.ofNat 2)]:=of_eq_true (eq_self _)
noncomputable def f58_r0:List EOper := [oG 2 (.box 49 (tG 0)),oG 4 (.as (.c .sn))]
noncomputable def f58_r1:List EOper := [oG 10 (.ldn 49 (tG 2)),oG 11 (.mv (tG 1)),oG 12 (.call (fG 59) [(tG 10),(tG 11)]),oG 5 (.as (tG 12))]
noncomputable def f58_r2:List EOper := [oG 13 (.mv (tG 5)),oG 14 (.call (fG 85) [(tG 13)]),oG 6 (.as (tG 14))]
noncomputable def f58_r3:List EOper := [oG 15 (.mv (tG 6)),oG 16 (.bin .add (tG 15) (cG 1)),oG 17 (.mkslice 1 [(.i .i64 (.ofNat 0))] (tG 16)),oG 7 (.as (tG 17))]
noncomputable def f58_r4:List EOper := [oG 18 (.mv (tG 6)),oG 8 (.as (tG 18))]
noncomputable def f58_r5:List EOper := [oG 19 (.mv (tG 8)),oG 20 (.bin .geq (tG 19) (cG 0))]
noncomputable def f58_r6:List EOper := [oG 23 (.mv (tG 1)),oG 24 (.mv (cG 0))]
noncomputable def f58_r7:List EOper := [oG 25 (.bin .lss (tG 24) (tG 23))]
noncomputable def f58_r8:List EOper := [oG 26 (.mv (tG 24)),oG 9 (.as (tG 26))]
noncomputable def f58_r9:List Stage := [⟨[oG 27 (.mv (tG 5)),oG 28 (.mv (tG 9)),oG 29 (.iads 1 (tG 27) (tG 28)),oG 30 (.ld (tG 29)),oG 31 (.mv (tG 8)),oG 32 (.bin .eql (tG 30) (tG 31)),oG 33 (.mv (tG 32)),gG 34 33 true (.mv (tG 8)),gG 35 33 true (.mv (tG 6)),gG 36 33 true (.bin .eql (tG 34) (tG 35)),gG 37 33 true (.mv (tG 36)),gG 38 37 false (.mv (tG 9)),gG 39 37 false (.mv (tG 7)),gG 40 37 false (.mv (tG 8)),gG 41 37 false (.bin .add (tG 40) (cG 1)),gG 42 37 false (.iads 1 (tG 39) (tG 41)),gG 43 37 false (.ld (tG 42)),gG 44 37 false (.iadr 7 7 (tG 2) (tG 38)),gG 45 37 false (.iadr 7 1 (tG 44) (tG 43)),gG 46 37 false (.ld (tG 45)),gG 47 33 true (.pick (tG 37) (.c (.b true)) (tG 46)),oG 48 (.pick (tG 33) (tG 47) (.c (.b false)))], [],none, []⟩]
noncomputable def f58_r10:List EOper := [oG 49 (.mv (tG 7)),oG 50 (.mv (tG 8)),oG 51 (.mv (tG 9)),oG 52 (.iads 1 (tG 49) (tG 50)),⟨none,none, .st 1 (tG 52) (tG 51)⟩]
noncomputable def f58_r11:List EOper := [oG 53 (.bin .add (tG 24) (cG 1)),oG 24 (.mv (tG 53))]
noncomputable def f58_l0:EC:=(.seq (.reg f58_r7) (.seq (.cond (tG 25) .skip (.exit 2)) (.seq (.block 3 (.seq (.reg f58_r8) (.seq (.draw f58_r9) (.cond (tG 48) (.reg f58_r10) .skip)))) (.reg f58_r11))))
noncomputable def f58_r12:List EOper := [oG 21 (.mv (tG 8)),oG 22 (.bin .sub (tG 21) (cG 1)),oG 8 (.as (tG 22))]
noncomputable def f58_l1:EC:=(.seq (.seq (.reg f58_r5) (.cond (tG 20) .skip (.exit 0))) (.seq (.block 1 (.seq (.reg f58_r6) (.block 2 (.loop f58_l0)))) (.reg f58_r12)))
noncomputable def f58_r13:List EOper := [oG 54 (.mv (tG 7)),oG 4 (.as (tG 54))]
noncomputable def f58_c:EC:=(.seq (.reg f58_r0) (.seq (.reg f58_r1) (.seq (.reg f58_r2) (.seq (.reg f58_r3) (.seq (.seq (.reg f58_r4) (.block 0 (.loop f58_l1))) (.seq (.reg f58_r13) .ret))))))
noncomputable def f58:EF:=⟨55, [.tmp (.ofNat 4)],f58_c,none⟩
theorem f58_rs:f58.rs = [.tmp (.ofNat 4)]:=of_eq_true (eq_self _)
noncomputable def f20_r0:List EOper := [oG 4 (.as (.c .sn)),oG 5 (.as (cG 0))]
noncomputable def f20_r1:List EOper := [oG 7 (.mv (tG 0)),oG 8 (.mv (tG 1)),oG 9 (.call (fG 9) [(tG 7),(tG 8)]),oG 6 (.as (tG 9))]
noncomputable def f20_r2:List EOper := [oG 10 (.mv (tG 6)),oG 11 (.bin .neq (tG 10) (cG 0))]
noncomputable def f20_r3:List EOper := [oG 12 (.mv (tG 6)),oG 4 (.as (.c .sn)),oG 5 (.as (tG 12))]
noncomputable def f20_r4:List EOper := [oG 13 (.mv (tG 1)),oG 14 (.call (fG 38) [(tG 13)]),oG 15 (.mv (tG 0)),oG 16 (.call (fG 58) [(tG 14),(tG 15)]),oG 4 (.as (tG 16)),oG 5 (.as (cG 0))]
noncomputable def f20_c:EC:=(.seq (.reg f20_r0) (.seq (.seq (.reg f20_r1) (.seq (.reg f20_r2) (.cond (tG 11) (.seq (.reg f20_r3) .ret) .skip))) (.seq (.reg f20_r4) .ret)))
noncomputable def f20:EF:=⟨17, [.tmp (.ofNat 4), .tmp (.ofNat 5)],f20_c,none⟩
theorem f20_rs:f20.rs = [.tmp (.ofNat 4), .tmp (.ofNat 5)]:=of_eq_true (eq_self _)
noncomputable def f21_r0:List EOper := [oG 4 (.as (.c .sn)),oG 5 (.as (cG 0))]
noncomputable def f21_r1:List EOper := [oG 7 (.mv (tG 0)),oG 8 (.mv (tG 1)),oG 9 (.call (fG 9) [(tG 7),(tG 8)]),oG 6 (.as (tG 9))]
noncomputable def f21_r2:List EOper := [oG 10 (.mv (tG 6)),oG 11 (.bin .neq (tG 10) (cG 0))]
noncomputable def f21_r3:List EOper := [oG 12 (.mv (tG 6)),oG 4 (.as (.c .sn)),oG 5 (.as (tG 12))]
noncomputable def f21_r4:List EOper := [oG 13 (.mv (tG 1)),oG 14 (.call (fG 38) [(tG 13)]),oG 15 (.mv (tG 0)),oG 16 (.call (fG 59) [(tG 14),(tG 15)]),oG 4 (.as (tG 16)),oG 5 (.as (cG 0))]
noncomputable def f21_c:EC:=(.seq (.reg f21_r0) (.seq (.seq (.reg f21_r1) (.seq (.reg f21_r2) (.cond (tG 11) (.seq (.reg f21_r3) .ret) .skip))) (.seq (.reg f21_r4) .ret)))
noncomputable def f21:EF:=⟨17, [.tmp (.ofNat 4), .tmp (.ofNat 5)],f21_c,none⟩
theorem f21_rs:f21.rs = [.tmp (.ofNat 4), .tmp (.ofNat 5)]:=of_eq_true (eq_self _)
section
variable {fs:T EF} {h h':H}
def nL (n:Nat) (d:Nat→Nat):List Int:=(List.range n).map fun v=>(d v:Int)
theorem nL_len {n:Nat} {d:Nat→Nat}:(nL n d).length=n:=by simp [nL]
theorem nL_at {n:Nat} {d:Nat→Nat} {v:Nat} (hv:v < n):(nL n d)[v]'(by rw [nL_len]; exact hv)=(d v:Int):=by simp [nL]
theorem nL_set {n:Nat} {d:Nat→Nat} {x:Nat × Nat} (_hx:x.2 < n):(nL n d).set x.2 (max (d x.2:Int) ((d x.1:Int) + 1))=nL n (rlx d x):=by
  apply List.ext_getElem
  · rw [List.length_set,nL_len,nL_len]
  · intro i h1 h2
    rw [nL_len] at h2
    have e1:=nL_at (d:=rlx d x) h2
    have e2:=nL_at (d:=d) h2
    rw [List.getElem_set,e1,e2]
    unfold rlx
    by_cases e:x.2=i
    · rw [if_pos e,if_pos e.symm,← e]; omega
    · rw [if_neg e,if_neg (fun h=>e h.symm)]
def f59_I (h0:H) (id2 id5:K) (n:Nat) (L:List Bool) (i:Nat) (fr:Fr) (h1:H):Prop:=i ≤ n∧Grow h0.nx.nat h0 h1 ∧ ∃ w,h1.get id5 = .cells 1 [w]∧Sl iE h1 w (nL n (lyS L i))∧Own h0.nx.nat w∧NotIn id5 w∧NotIn id2 w∧h1.get id2=rC L∧fr.get (K.ofNat 2)=some (.p id2 0)∧fr.get (K.ofNat 5)=some (.p id5 0)∧fr.get (K.ofNat 9)=some (.i .i64 (n:Int))∧fr.get (K.ofNat 10)=some (.i .i64 (i:Int))
theorem f59_ret {L:List Bool} {n:Nat} (k:Nat4 fs) (o:OrdN n L) (hn:n ≤ 7) (hc:HC h):Ret fs f59 [rV L, .i .i64 (n:Int)] h fun r h'=>Sl iE h' r (nL n (lyR L n))∧Own h.nx.nat r∧Grow h.nx.nat h h':=by
  have hL:=o.len
  apply ret_of rfl
  show W fs none f59_c _ _ _
  unfold f59_c
  have c1:=rC_cells hL
  have n1:=nx_new h (.cells 49 (L.map V.b))
  have gr1:Grow h.nx.nat h (h.new (.cells 49 (L.map V.b))):=Grow.new (Nat.le_refl _) _
  have e1:(h.new (.cells 49 (L.map V.b))).get h.nx=rC L:=get_new_same
  simp (disch:=omega) only [f59_r0,Nat.reduceEqDiff,↓reduceIte,c1,bz]
  generalize h.new (.cells 49 (L.map V.b))=h1 at *
  have hc1:=gr1.hc hc
  have hmk:=mks_ints (h:=h1) (k := .i64) (n:=n) (by omega)
  have hs0:=mks_sl (h:=h1) (n:=n)
  have gr2:Grow h1.nx.nat h1 (h1.new (.cells (n * 1) (rep [.i .i64 0] n))):=Grow.new (Nat.le_refl _) _
  have n2:=nx_new h1 (.cells (n * 1) (rep [.i .i64 0] n))
  have e0:List.replicate n (0:Int)=nL n (lyS L 0):=by
    apply List.ext_getElem
    · simp [nL_len]
    · intro i h1 h2; rw [nL_len] at h2; rw [nL_at h2]; simp [lyS]
  rw [e0] at hs0
  simp (disch:=omega) only [f59_r1,x_mks,Nat.reduceEqDiff,↓reduceIte,hmk,bz]
  generalize h1.new (.cells (n * 1) (rep [.i .i64 0] n))=h2 at *
  have hc2:=gr2.hc hc1
  have n3:=nx_new h2 (.cells 1 [.sn])
  have s3:storeV (h2.new (.cells 1 [.sn])) 1 (.p h2.nx 0) (.sl h1.nx 0 n 1) = .ok undefV ((h2.new (.cells 1 [.sn])).put h2.nx (.cells 1 [.sl h1.nx 0 n 1])):=st1 (a := .sn) get_new_same rfl
  have gr3:Grow h2.nx.nat h2 ((h2.new (.cells 1 [.sn])).put h2.nx (.cells 1 [.sl h1.nx 0 n 1])):=(Grow.new (Nat.le_refl _) _).trans (Grow.put (Nat.le_refl _) (by omega) _)
  have e3:((h2.new (.cells 1 [.sn])).put h2.nx (.cells 1 [.sl h1.nx 0 n 1])).get h2.nx = .cells 1 [.sl h1.nx 0 n 1]:=get_put_same
  simp (disch:=omega) only [f59_r2,Nat.reduceEqDiff,↓reduceIte,s3,bz]
  generalize (h2.new (.cells 1 [.sn])).put h2.nx (.cells 1 [.sl h1.nx 0 n 1])=h3 at *
  have gA:Grow h.nx.nat h h3:=gr1.trans ((gr2.low (by omega)).trans (gr3.low (by omega)))
  have gA1:Grow h1.nx.nat h1 h3:=gr2.trans (gr3.low (by omega))
  refine W_loop (f59_I h1 h.nx h2.nx n L) (fun i=>n - i) ?_ 0 ⟨by omega,gA1, .sl h1.nx 0 n 1,e3,hs0.grow hc2 gr3,(fun _ _ _ _ e=>by cases e; exact Nat.le_refl _),(fun _ _ _ e=>by injection e with e; have:=congrArg K.nat e; omega),(fun _ _ _ e=>by injection e with e; have:=congrArg K.nat e; omega),(gA1.old h.nx (by omega)).trans e1,by simp (disch:=omega) only [getK_set,Nat.reduceEqDiff,↓reduceIte,and_self,Int.natCast_zero]⟩
  clear hs0 hmk s3 e3 gr3 gA gA1 h3
  rintro i fr h3 ⟨hi,hG,w,hw,hs,how,ni5,ni2,e2,g2,g5,g9,g10⟩
  have hc3:=hG.hc hc1
  have gn:=hG.nx
  unfold f59_l0
  by_cases hlt:i < n
  · have d0:decide ((i:Int) < (n:Int))=true:=decide_eq_true (by omega)
    have l3:=rC_ldn hL e2
    have l5l:=hc3.cells hw
    simp (disch:=omega) only [f59_r3,f59_r4,Nat.reduceEqDiff,↓reduceIte,g2,g9,g10,d0,l3,bz]
    refine (callP_0 (ef:=f76) k.c76 rfl (f76_ret hL)).mono ?_
    rintro r h4 ⟨rfl,rfl⟩
    have n4:=nx_new h3 (rC L)
    have gr4:Grow h3.nx.nat h3 (h3.new (rC L)):=Grow.new (Nat.le_refl _) _
    have e4:(h3.new (rC L)).get h3.nx=rC L:=get_new_same
    have hc4:=gr4.hc hc3
    have hw4:=(gr4.old h2.nx (by omega)).trans hw
    have hs4:=hs.grow hc3 gr4
    have e24:=(gr4.old h.nx (by omega)).trans e2
    have hwl:=hs.lt hc3
    simp (disch:=omega) only [bz]
    generalize h3.new (rC L)=h4 at *
    generalize hfr:T.set (K.ofNat 13) _ _=fr
    have g2:fr.get (K.ofNat 2)=some (.p h.nx 0):=by rw [← hfr]; simp only [getK_set,Nat.reduceEqDiff,↓reduceIte,g2]
    have g5:fr.get (K.ofNat 5)=some (.p h2.nx 0):=by rw [← hfr]; simp only [getK_set,Nat.reduceEqDiff,↓reduceIte,g5]
    have g9:fr.get (K.ofNat 9)=some (.i .i64 (n:Int)):=by rw [← hfr]; simp only [getK_set,Nat.reduceEqDiff,↓reduceIte,g9]
    have g10:fr.get (K.ofNat 10)=some (.i .i64 (i:Int)):=by rw [← hfr]; simp only [getK_set,Nat.reduceEqDiff,↓reduceIte,g10]
    have g13:fr.get (K.ofNat 13)=some (.fn (K.ofNat 90) [.p h3.nx 0]):=by rw [← hfr]; simp only [getK_set,↓reduceIte]
    clear hfr
    refine W_itr (by simp (disch:=omega) only [ev_t,getV_some,g13]) (all_yieldsR hL k.c90) (fun id=>∃ off nn sz,w = .sl id off nn sz) (fun j h5=>Sl iE h5 w (nL n (rlL (lyS L i) ((arw (rat L)).take j)))) (fun _ _=>False) hc4 rfl (by rintro id ⟨off,nn,sz,e⟩; have:=hwl _ _ _ _ e; omega)
      (fun h5 ks=>(ks.old _ (by omega) (by rintro ⟨off,nn,sz,e⟩; have:=hwl _ _ _ _ e; omega)).trans e4) ?_ (fun _ _ _ h _ _ _=>h.elim) ?_ ?_ ?_ (fun _ _ _ h=>h.elim)
    · intro j h5 h6 q1 hc5 hn5 ho
      exact q1.same fun id off nn sz e=>ho _ (q1.lt hc5 _ _ _ _ e) (fun e2=>by have:=hwl _ _ _ _ e; rw [e2] at this; omega)
    · intro h5 hg
      rw [List.take_zero]
      exact hs4.grow hc4 hg
    · rintro j ⟨x,y⟩ h5 hx hk hn5 q1
      obtain ⟨l1,l2,hr⟩:=arw_lt (List.mem_of_getElem? hx)
      have hxn:=(o.lt _ _ hr).1
      have hyn:=(o.lt _ _ hr).2
      have hxn:x < n:=hxn
      have hyn:y < n:=hyn
      obtain ⟨hst,gB,c7,n6⟩:=arr_var (h:=h5) (x:=x) (y:=y)
      have b1:=(gB.old h2.nx (by omega)).trans ((hk.old h2.nx (by omega) (fun ⟨off,nn,sz,e⟩=>ni5 _ _ _ e)).trans hw4)
      have b2:=q1.grow hk.hc gB
      unfold f59_a0
      simp (disch:=omega) only [f59_r5,Nat.reduceEqDiff,↓reduceIte,hst,itA_n,bz]
      generalize (h5.new (.cells 2 [.i .i64 0, .i .i64 0])).put h5.nx (.cells 2 [.i .i64 (x:Int), .i .i64 (y:Int)])=h6 at *
      refine ⟨gB,fun h7 n7 hc7 o7 _=>?_⟩
      have n7':h7.nx.nat=h6.nx.nat:=congrArg K.nat n7
      have c7':=(o7 _ (kNe hn5).symm).trans c7
      have l0:=ld20 c7'
      have l1:=ld21 c7'
      have lw:=load_p (off:=0) ((o7 h2.nx (kNe (by omega))).trans b1) (show nth [w] 0=some w from rfl)
      have b2':Sl iE h7 w (nL n (rlL (lyS L i) ((arw (rat L)).take j))):=b2.same fun id off nn sz e=>o7 _ (fun e2=>by have:=hwl _ _ _ _ e; rw [e2] at this; omega)
      have hin:=Nat.lt_of_lt_of_le hyn (Nat.le_of_eq (nL_len (n:=n) (d:=rlL (lyS L i) ((arw (rat L)).take j))).symm)
      have hin2:=Nat.lt_of_lt_of_le hxn (Nat.le_of_eq (nL_len (n:=n) (d:=rlL (lyS L i) ((arw (rat L)).take j))).symm)
      obtain ⟨p,p1,p2⟩:=b2'.at y hin
      obtain ⟨q,q2,q3⟩:=b2'.at x hin2
      rw [nL_at hyn] at p2
      rw [nL_at hxn] at q3
      have p2:loadV h7 p one? = .ok (.i .i64 ((rlL (lyS L i) ((arw (rat L)).take j) y:Nat):Int)) h7:=p2
      have q3:loadV h7 q one? = .ok (.i .i64 ((rlL (lyS L i) ((arw (rat L)).take j) x:Nat):Int)) h7:=q3
      have bd:∀ v,v < n→rlL (lyS L i) ((arw (rat L)).take j) v < n:=fun v hv=>by
        have:=(rlL_ch (L:=L) (l:=(arw (rat L)).take j) (d:=lyS L i) (fun z hz=>(mem_arw.1 (List.mem_of_mem_take hz)).2.2) (ly_ch i) v).bound o hv
        omega
      have bx:=bd x hxn
      have hsu:rlL (lyS L i) ((arw (rat L)).take (j + 1))=rlx (rlL (lyS L i) ((arw (rat L)).take j)) (x,y):=by
        rw [List.take_add_one,hx]; exact rlL_snoc
      obtain ⟨pz,id,m,cs',w1,w2,w3,⟨off,nn,sz,w4⟩,w5⟩:=b2'.st (i:=y) hin (x:=max ((rlL (lyS L i) ((arw (rat L)).take j) y:Nat):Int) (((rlL (lyS L i) ((arw (rat L)).take j) x:Nat):Int) + 1)) (c := .i .i64 (max ((rlL (lyS L i) ((arw (rat L)).take j) y:Nat):Int) (((rlL (lyS L i) ((arw (rat L)).take j) x:Nat):Int) + 1))) rfl rfl hc7
      obtain rfl:p=pz:=by have:=(p1 .i64 h7).symm.trans (w1 .i64 h7); injection this
      have hset:=nL_set (d:=rlL (lyS L i) ((arw (rat L)).take j)) (x:=(x,y)) hyn
      rw [show (x,y).2=y from rfl,show (x,y).1=x from rfl] at hset
      rw [hset,← hsu] at w3
      unfold f59_b0
      simp (disch:=omega) only [f59_r6,xg_max,Nat.reduceEqDiff,↓reduceIte,g5,lw,l0,l1,p1,p2,q2,q3,w2,itC_n,bz]
      refine ⟨w3,?_⟩
      have hk0:Kr (fun id=>∃ off nn sz,w = .sl id off nn sz) h4.nx h7 h7:=Kr.refl hc7
      exact hk0.put w5 (.inl ⟨off,nn,sz,w4⟩) _
    · intro h5 q1 hk hn5
      rw [List.take_length] at q1
      have hG5:Grow h1.nx.nat h1 h5:=(hG.trans (gr4.low gn)).trans (hk.toGrow (by rintro id ⟨off,nn,sz,e⟩; exact how _ _ _ _ e) (by omega))
      simp (disch:=omega) only [f59_r7,↓reduceIte,g10,bz]
      exact ⟨i + 1,by omega,by omega,hG5,w,(hk.old h2.nx (by omega) (fun ⟨off,nn,sz,e⟩=>ni5 _ _ _ e)).trans hw4,q1,how,ni5,ni2,(hk.old h.nx (by omega) (fun ⟨off,nn,sz,e⟩=>ni2 _ _ _ e)).trans e24,by simp (disch:=omega) only [getK_set,Nat.reduceEqDiff,↓reduceIte,g2,g5,g9,and_self,Int.natCast_add,Int.natCast_one]⟩
  · have d0:decide ((i:Int) < (n:Int))=false:=decide_eq_false (by omega)
    have ei:i=n:=by omega
    subst ei
    have lw:=load_p (off:=0) hw (show nth [w] 0=some w from rfl)
    simp (disch:=omega) only [f59_r3,f59_r8,f59_rs,Option.some.injEq,exists_eq_left',Nat.reduceEqDiff,↓reduceIte,Bool.false_eq_true,g5,g9,g10,d0,lw,bz]
    exact ⟨hs,how.low (by omega),gr1.trans (hG.low (by omega))⟩
end
end Go.Ev
namespace Go.Ev
open Go Go.RowKit
section
variable {fs:T EF} {h h':H}
def mxT (d:Nat→Nat):Nat→Nat
  | 0=>0
  | i + 1=>max (mxT d i) (d i)
theorem mxT_ge {d:Nat→Nat}:∀ {n v:Nat},v < n→d v ≤ mxT d n
  | n + 1,v,hv=>by
    show d v ≤ max (mxT d n) (d n)
    by_cases e:v=n
    · rw [e]; exact Nat.le_max_right _ _
    · exact Nat.le_trans (mxT_ge (show v < n by omega)) (Nat.le_max_left _ _)
theorem mxT_at {d:Nat→Nat}:∀ {n:Nat},1 ≤ n → ∃ v,v < n∧d v=mxT d n
  | 1,_=>⟨0,by omega,by show d 0=max 0 (d 0); omega⟩
  | n + 2,_=>by
    obtain ⟨v,h1,h2⟩:=mxT_at (d:=d) (n:=n + 1) (by omega)
    rcases Nat.le_total (d (n + 1)) (mxT d (n + 1)) with q | q
    · exact ⟨v,by omega,by show d v=max (mxT d (n + 1)) (d (n + 1)); omega⟩
    · exact ⟨n + 1,by omega,by show d (n + 1)=max (mxT d (n + 1)) (d (n + 1)); omega⟩
def f85_I (h0:H) (v:V) (n:Nat) (d:Nat→Nat) (i:Nat) (fr:Fr) (h1:H):Prop:=1 ≤ i∧i ≤ n∧h1=h0∧fr.get (K.ofNat 0)=some (v)∧fr.get (K.ofNat 3)=some (.i .i64 (mxT d i:Int))∧fr.get (K.ofNat 4)=some (.i .i64 (i:Int))
theorem f85_ret {v:V} {n:Nat} {d:Nat→Nat} (hv:Sl iE h v (nL n d)) (hn:1 ≤ n) (hn7:n ≤ 7):Ret fs f85 [v] h fun r h'=>r = .i .i64 (mxT d n:Int)∧h'=h:=by
  apply ret_of rfl
  show W fs none f85_c _ _ _
  unfold f85_c
  have hlen:∀ h1,lenV v h1 = .ok (.i .i64 (n:Int)) h1:=fun h1=>by rw [hv.len,nL_len]
  have d1:decide ((n:Int) < 1)=false:=decide_eq_false (by omega)
  obtain ⟨p,p1,p2⟩:=hv.at 0 (by rw [nL_len]; omega)
  rw [nL_at (by omega)] at p2
  have p2:loadV h p one? = .ok (.i .i64 (d 0:Int)) h:=p2
  have p1:∀ h1,iadsV 1 v (.i .i64 0) h1 = .ok p h1:=fun h1=>p1 .i64 h1
  simp (disch:=omega) only [f85_r0,f85_r1,f85_r3,f85_r4,Nat.reduceEqDiff,↓reduceIte,Bool.false_eq_true,hlen,d1,p1,p2,bz]
  refine W_loop (f85_I h v n d) (fun i => n - i) ?_ 1 ⟨by omega, by omega, rfl, by have e : max 0 (d 0) = d 0 := by omega
                                                                                   simp (disch:=omega) only [getK_set,Nat.reduceEqDiff,↓reduceIte,and_self,Int.natCast_one,mxT,e]⟩
  rintro i fr h1 ⟨h1i,hi,rfl,g0,g3,g4⟩
  unfold f85_l0
  by_cases hlt:i < n
  · have d0:decide ((i:Int) < (n:Int))=true:=decide_eq_true (by omega)
    obtain ⟨q,q1,q2⟩:=hv.at i (by rw [nL_len]; omega)
    rw [nL_at hlt] at q2
    have q2:loadV h1 q one? = .ok (.i .i64 (d i:Int)) h1:=q2
    have em:max (mxT d i:Int) (d i:Int)=((mxT d (i + 1):Nat):Int):=by show _=((max (mxT d i) (d i):Nat):Int); omega
    simp (disch:=omega) only [f85_r5,f85_r6,f85_r7,x_max,Nat.reduceEqDiff,↓reduceIte,g0,g3,g4,hlen,d0,q1,q2,em,bz]
    exact ⟨i + 1,by omega,by omega,by omega,rfl,by simp (disch:=omega) only [getK_set,Nat.reduceEqDiff,↓reduceIte,g0,and_self,Int.natCast_add,Int.natCast_one]⟩
  · have d0:decide ((i:Int) < (n:Int))=false:=decide_eq_false (by omega)
    have ei:i=n:=by omega
    subst ei
    simp (disch:=omega) only [f85_r5,f85_r8,f85_rs,Option.some.injEq,exists_eq_left',Nat.reduceEqDiff,↓reduceIte,Bool.false_eq_true,g0,g3,g4,hlen,d0,and_self,bz]
structure ChI (L:List Bool) (n top q:Nat) (c:Nat→Nat):Prop where
  lt:∀ l,c l < n
  ly:∀ l,q ≤ l→l ≤ top→lyR L n (c l)=l
  ar:∀ l,q ≤ l→l < top→rat L (c l) (c (l + 1))=true
def mtB (L:List Bool) (n top l:Nat) (c:Nat→Nat) (j:Nat):Prop:=lyR L n j=l∧(l=top ∨ rat L j (c (l + 1))=true)
def f58_I (h0:H) (id2:K) (n:Nat) (L:List Bool) (top:Nat) (y:V) (q:Nat) (fr:Fr) (h1:H):Prop:=q ≤ top + 1∧Grow h0.nx.nat h0 h1 ∧ ∃ w c,ChI L n top q c∧Sl iE h1 w (nL (top + 1) c)∧Own h0.nx.nat w∧fr.get (K.ofNat 1)=some (.i .i64 (n:Int))∧fr.get (K.ofNat 2)=some (.p id2 0)∧fr.get (K.ofNat 5)=some (y)∧fr.get (K.ofNat 6)=some (.i .i64 (top:Int))∧fr.get (K.ofNat 7)=some (w)∧fr.get (K.ofNat 8)=some (.i .i64 ((q:Int) - 1))
def f58_J (h0:H) (id2:K) (n:Nat) (L:List Bool) (top:Nat) (y:V) (l:Nat) (j:Nat) (fr:Fr) (h1:H):Prop:=j ≤ n∧Grow h0.nx.nat h0 h1 ∧ ∃ w c,ChI L n top (l + 1) c∧(∀ i,i < j→mtB L n top l c i→mtB L n top l c (c l))∧Sl iE h1 w (nL (top + 1) c)∧Own h0.nx.nat w∧fr.get (K.ofNat 1)=some (.i .i64 (n:Int))∧fr.get (K.ofNat 2)=some (.p id2 0)∧fr.get (K.ofNat 5)=some (y)∧fr.get (K.ofNat 6)=some (.i .i64 (top:Int))∧fr.get (K.ofNat 7)=some (w)∧fr.get (K.ofNat 8)=some (.i .i64 (l:Int))∧fr.get (K.ofNat 23)=some (.i .i64 (n:Int))∧fr.get (K.ofNat 24)=some (.i .i64 (j:Int))
theorem nL_set1 {n:Nat} {d:Nat→Nat} {l v:Nat} (_hl:l < n):(nL n d).set l (v:Int)=nL n (fun x=>if x=l then v else d x):=by
  apply List.ext_getElem
  · rw [List.length_set,nL_len,nL_len]
  · intro i h1 h2
    rw [nL_len] at h2
    have e1:=nL_at (d:=fun x=>if x=l then v else d x) h2
    have e2:=nL_at (d:=d) h2
    rw [List.getElem_set,e1,e2]
    by_cases e:l=i
    · rw [if_pos e,if_pos e.symm]
    · rw [if_neg e,if_neg (fun h=>e h.symm)]
structure CallsCh (fs:T EF):Prop extends CallsCk fs where
  c59:fs.get (K.ofNat 59)=some f59
  c85:fs.get (K.ofNat 85)=some f85
theorem f58_ret {L:List Bool} {n:Nat} (k:CallsCh fs) (o:OrdN n L) (hn1:1 ≤ n) (hn:n ≤ 7) (hc:HC h):Ret fs f58 [rV L, .i .i64 (n:Int)] h fun r h'=>∃ c,ChI L n (mxT (lyR L n) n) 0 c∧Sl iE h' r (nL (mxT (lyR L n) n + 1) c)∧Own h.nx.nat r∧Grow h.nx.nat h h':=by
  have hL:=o.len
  apply ret_of rfl
  show W fs none f58_c _ _ _
  unfold f58_c
  have c1:=rC_cells hL
  have n1:=nx_new h (.cells 49 (L.map V.b))
  have gr1:Grow h.nx.nat h (h.new (.cells 49 (L.map V.b))):=Grow.new (Nat.le_refl _) _
  have e1:(h.new (.cells 49 (L.map V.b))).get h.nx=rC L:=get_new_same
  have l1:=rC_ldn hL e1
  simp (disch:=omega) only [f58_r0,f58_r1,Nat.reduceEqDiff,↓reduceIte,c1,l1,bz]
  generalize h.new (.cells 49 (L.map V.b))=h1 at *
  have hc1:=gr1.hc hc
  refine (callP_0 (ef:=f59) k.c59 rfl (f59_ret k.toNat4 o hn hc1)).mono ?_
  rintro y h2 ⟨hy,hoy,gr2⟩
  have hc2:=gr2.hc hc1
  simp (disch:=omega) only [f58_r2,↓reduceIte,bz]
  refine (callP_0 (ef:=f85) k.c85 rfl (f85_ret hy hn1 hn)).mono ?_
  rintro r h3 ⟨rfl,rfl⟩
  obtain ⟨top,htop⟩:∃ top,top=mxT (lyR L n) n:=⟨_,rfl⟩
  obtain ⟨vt,hvt1,hvt2⟩:=mxT_at (d:=lyR L n) hn1
  have htn:top < n:=by rw [htop,← hvt2]; exact ly_lt o hvt1
  have hge:∀ v,v < n→lyR L n v ≤ top:=fun v hv=>by rw [htop]; exact mxT_ge hv
  rw [← htop] at hvt2
  rw [← htop]
  have et:(top:Int) + 1=((top + 1:Nat):Int):=by omega
  have hmk:=mks_ints (h:=h3) (k := .i64) (n:=top + 1) (by omega)
  have hs0:=mks_sl (h:=h3) (n:=top + 1)
  have gr4:Grow h3.nx.nat h3 (h3.new (.cells ((top + 1) * 1) (rep [.i .i64 0] (top + 1)))):=Grow.new (Nat.le_refl _) _
  have e0:List.replicate (top + 1) (0:Int)=nL (top + 1) (fun _=>0):=by
    apply List.ext_getElem
    · simp [nL_len]
    · intro i h1 h2; rw [nL_len] at h2; rw [nL_at h2]; simp
  rw [e0] at hs0
  have g2n:=gr2.nx
  simp (disch:=omega) only [f58_r3,f58_r4,x_mks,Nat.reduceEqDiff,↓reduceIte,et,hmk,bz]
  generalize h3.new (.cells ((top + 1) * 1) (rep [.i .i64 0] (top + 1)))=h4 at *
  have hq1:(((top + 1:Nat):Int)) - 1=(top:Int):=by omega
  refine W_loop (f58_I h3 h.nx n L top y) (fun q=>q) ?_ (top + 1) ⟨Nat.le_refl _,gr4, .sl h3.nx 0 (top + 1) 1,fun _=>0,⟨fun _=>by omega,fun l h1 h2=>by omega,fun l h1 h2=>by omega⟩,hs0,(fun _ _ _ _ e=>by cases e; exact Nat.le_refl _),by simp (disch:=omega) only [getK_set,Nat.reduceEqDiff,↓reduceIte,and_self,hq1]⟩
  clear hs0 hmk gr4 h4
  rintro q fr h4 ⟨hq,hG,w,c,hci,hw,how,g1,g2,g5,g6,g7,g8⟩
  have hc4:=hG.hc hc2
  have e24:h4.get h.nx=rC L:=(hG.old _ (by omega)).trans ((gr2.old h.nx (by omega)).trans e1)
  unfold f58_l1
  by_cases hq0:0 < q
  · obtain ⟨l,rfl⟩:∃ l,q=l + 1:=⟨q - 1,by omega⟩
    have eq1:(((l + 1:Nat):Int)) - 1=(l:Int):=by omega
    rw [eq1] at g8
    have d0:decide ((l:Int) ≥ 0)=true:=decide_eq_true (by omega)
    simp (disch:=omega) only [f58_r5,f58_r6,Nat.reduceEqDiff,↓reduceIte,g1,g8,d0,bz]
    refine W_loop (f58_J h3 h.nx n L top y l) (fun j=>n - j) ?_ 0 ⟨by omega,hG,w,c,hci,fun i hi=>by omega,hw,how,by simp (disch:=omega) only [getK_set,Nat.reduceEqDiff,↓reduceIte,g1,g2,g5,g6,g7,g8,and_self,Int.natCast_zero]⟩
    clear hci hw how g1 g2 g5 g6 g7 g8 fr hG hc4 e24
    rintro j fr h4 ⟨hj,hG,w,c,hci,hm,hw,how,g1,g2,g5,g6,g7,g8,g23,g24⟩
    have hc4:=hG.hc hc2
    have e24:h4.get h.nx=rC L:=(hG.old _ (by omega)).trans ((gr2.old h.nx (by omega)).trans e1)
    have hy4:=hy.grow hc2 hG
    have hyb:=hy.sr.beq
    have hwb:=hw.sr.beq
    unfold f58_l0
    by_cases hlt:j < n
    · have d1:decide ((j:Int) < (n:Int))=true:=decide_eq_true (by omega)
      obtain ⟨p,p1,p2⟩:=hy4.at j (by rw [nL_len]; omega)
      rw [nL_at hlt] at p2
      have p2:loadV h4 p one? = .ok (.i .i64 (lyR L n j:Int)) h4:=p2
      have step:(mtB L n top l c j→False) → ∀ i,i < j + 1→mtB L n top l c i→mtB L n top l c (c l):=fun hno i hi hmi=>by
        by_cases e:i=j
        · rw [e] at hmi; exact (hno hmi).elim
        · exact hm i (by omega) hmi
      simp (disch:=omega) only [f58_r7,f58_r8,Nat.reduceEqDiff,↓reduceIte,g23,g24,d1,bz]
      -- the node is put into the chain
      have put:mtB L n top l c j → ∃ p id m cs',(∀ k h1,iadsV 1 w (.i k (l:Int)) h1 = .ok p h1)∧storeV h4 1 p (.i .i64 (j:Int)) = .ok undefV (h4.put id (.cells m cs'))∧Grow h3.nx.nat h3 (h4.put id (.cells m cs'))∧ChI L n top (l + 1) (fun x=>if x=l then j else c x)∧(∀ i,i < j + 1→mtB L n top l (fun x=>if x=l then j else c x) i→mtB L n top l (fun x=>if x=l then j else c x) ((fun x=>if x=l then j else c x) l))∧Sl iE (h4.put id (.cells m cs')) w (nL (top + 1) (fun x=>if x=l then j else c x)):=fun hmt=>by
        obtain ⟨pz,id,m,cs',w1,w2,w3,⟨off,nn,sz,w4⟩,w5⟩:=hw.st (i:=l) (by rw [nL_len]; omega) (x:=(j:Int)) (c := .i .i64 (j:Int)) rfl rfl hc4
        rw [nL_set1 (by omega)] at w3
        refine ⟨pz,id,m,cs',w1,w2,hG.trans (Grow.put (how _ _ _ _ w4) w5 _),⟨fun x=>?_,fun x h1 h2=>?_,fun x h1 h2=>?_⟩,fun i hi _=>?_,w3⟩
        · by_cases e:x=l
          · simp only [if_pos e]; exact hlt
          · simp only [if_neg e]; exact hci.lt x
        · simp only [if_neg (show x ≠ l by omega)]; exact hci.ly x h1 h2
        · simp only [if_neg (show x ≠ l by omega),if_neg (show x + 1 ≠ l by omega)]; exact hci.ar x h1 h2
        · unfold mtB at hmt ⊢
          simp only [if_pos,if_neg (show l + 1 ≠ l by omega)]
          exact hmt
      by_cases h1:lyR L n j=l
      · have d2:decide ((lyR L n j:Int)=(l:Int))=true:=decide_eq_true (by omega)
        by_cases h2:l=top
        · have d3:decide ((l:Int)=(top:Int))=true:=decide_eq_true (by omega)
          obtain ⟨pz,id,m,cs',w1,w2,gw,wci,wm,w3⟩:=put ⟨h1, .inl h2⟩
          simp (disch:=omega) only [f58_r9,f58_r10,f58_r11,Nat.reduceEqDiff,↓reduceIte,Bool.false_eq_true,Bool.not_true,g5,g6,g7,g8,g24,p1,p2,d2,d3,w1,w2,bz]
          exact ⟨j + 1,by omega,hlt,gw,w,_,wci,wm,w3,how,by simp (disch:=omega) only [getK_set,Nat.reduceEqDiff,↓reduceIte,g1,g2,g5,g6,g7,g8,g23,and_self,Int.natCast_add,Int.natCast_one]⟩
        · have d3:decide ((l:Int)=(top:Int))=false:=decide_eq_false (by omega)
          have el:(l:Int) + 1=((l + 1:Nat):Int):=by omega
          obtain ⟨pc,q1,q2⟩:=hw.at (l + 1) (by rw [nL_len]; omega)
          rw [nL_at (by omega)] at q2
          have q2:loadV h4 pc one? = .ok (.i .i64 (c (l + 1):Int)) h4:=q2
          have hcl:=hci.lt (l + 1)
          have lr:=rC_ld (a:=j) (b:=c (l + 1)) (by omega) (by omega) hL e24
          have hlt7:j < 7:=by omega
          have hcl7:c (l + 1) < 7:=by omega
          cases hr:rat L j (c (l + 1)) with
          | true =>
            rw [hr] at lr
            obtain ⟨pz,id,m,cs',w1,w2,gw,wci,wm,w3⟩:=put ⟨h1, .inr hr⟩
            simp (disch:=omega) only [f58_r9,f58_r10,f58_r11,Nat.reduceEqDiff,↓reduceIte,Bool.false_eq_true,Bool.not_false,g2,g5,g6,g7,g8,g24,p1,p2,d2,d3,el,q1,q2,lr,w1,w2,bz]
            exact ⟨j + 1,by omega,hlt,gw,w,_,wci,wm,w3,how,by simp (disch:=omega) only [getK_set,Nat.reduceEqDiff,↓reduceIte,g1,g2,g5,g6,g7,g8,g23,and_self,Int.natCast_add,Int.natCast_one]⟩
          | false =>
            rw [hr] at lr
            simp (disch:=omega) only [f58_r9,f58_r11,Nat.reduceEqDiff,↓reduceIte,Bool.false_eq_true,Bool.not_false,g2,g5,g6,g7,g8,g24,p1,p2,d2,d3,el,q1,q2,lr,bz]
            exact ⟨j + 1,by omega,hlt,hG,w,c,hci,step (fun hmt=>by rcases hmt.2 with e | e; exact h2 e; rw [hr] at e; cases e),hw,how,by simp (disch:=omega) only [getK_set,Nat.reduceEqDiff,↓reduceIte,g1,g2,g5,g6,g7,g8,g23,and_self,Int.natCast_add,Int.natCast_one]⟩
      · have d2:decide ((lyR L n j:Int)=(l:Int))=false:=decide_eq_false (by omega)
        simp (disch:=omega) only [f58_r9,f58_r11,Nat.reduceEqDiff,↓reduceIte,Bool.false_eq_true,g5,g8,g24,p1,p2,d2,bz]
        exact ⟨j + 1,by omega,hlt,hG,w,c,hci,step (fun hmt=>h1 hmt.1),hw,how,by simp (disch:=omega) only [getK_set,Nat.reduceEqDiff,↓reduceIte,g1,g2,g5,g6,g7,g8,g23,and_self,Int.natCast_add,Int.natCast_one]⟩
    · have d1:decide ((j:Int) < (n:Int))=false:=decide_eq_false (by omega)
      have ej:j=n:=by omega
      subst ej
      have hmt:mtB L j top l c (c l):=by
        by_cases h2:l=top
        · exact hm vt hvt1 ⟨by rw [hvt2,h2], .inl h2⟩
        · obtain ⟨u,u1,u2⟩:=ly_down o (hci.ly (l + 1) (Nat.le_refl _) (by omega))
          exact hm u (o.lt _ _ u1).1 ⟨u2, .inr u1⟩
      simp (disch:=omega) only [f58_r7,f58_r12,Nat.reduceEqDiff,↓reduceIte,Bool.false_eq_true,g8,g23,g24,d1,bz]
      refine ⟨l,by omega,by omega,hG,w,c,⟨hci.lt,fun x h1 h2=>?_,fun x h1 h2=>?_⟩,hw,how,by simp (disch:=omega) only [getK_set,Nat.reduceEqDiff,↓reduceIte,g1,g2,g5,g6,g7,and_self]⟩
      · by_cases e:x=l
        · rw [e]; exact hmt.1
        · exact hci.ly x (by omega) h2
      · by_cases e:x=l
        · rw [e]; rcases hmt.2 with e2 | e2
          · omega
          · exact e2
        · exact hci.ar x (by omega) h2
  · have e0:q=0:=by omega
    subst e0
    have d0:decide (((0:Nat):Int) - 1 ≥ 0)=false:=by decide
    simp (disch:=omega) only [f58_r5,f58_r13,f58_rs,Option.some.injEq,exists_eq_left',Nat.reduceEqDiff,↓reduceIte,Bool.false_eq_true,g7,g8,d0,bz]
    exact ⟨c,hci,hw,how.low (by omega),gr1.trans ((gr2.low (by omega)).trans (hG.low (by omega)))⟩
theorem f20_ret {n:Nat} {v:V} {L:List Bool} (k:CallsCh fs) (h45:fs.get (.ofNat 9)=some f9) (h72:fs.get (.ofNat 58)=some f58) (o:OrdN n L) (hn1:1 ≤ n) (hn:n ≤ 7) (hv:Srp h v (arI (rat L))) (hc:HC h):Ret fs f20 [.i .i64 (n:Int),v] h fun r h'=>∃ u c,r = .tup [u, .i .i64 0]∧ChI L n (mxT (lyR L n) n) 0 c∧Sl iE h' u (nL (mxT (lyR L n) n + 1) c)∧Own h.nx.nat u∧Grow h.nx.nat h h':=by
  have hlb:=arI_len (g:=rat L)
  apply ret_of rfl
  show W fs none f20_c _ _ _
  unfold f20_c
  simp (disch:=omega) only [f20_r0,f20_r1,Nat.reduceEqDiff,↓reduceIte,bz]
  refine (callP_0 (ef:=f9) h45 rfl (f9_ret k.toCallsCk hv (by omega) hc)).mono ?_
  rintro r h1 ⟨rfl,gr1⟩
  rw [ckO_o hn1 hn o]
  have ne0:decide ((0:Int) ≠ 0)=false:=rfl
  simp (disch:=omega) only [f20_r2,f20_r4,Nat.reduceEqDiff,↓reduceIte,Bool.false_eq_true,ne0,bz]
  have hc1:=gr1.hc hc
  refine (callP_0 (ef:=f38) k.c38 rfl (f38_ret (hv.grow hc gr1) nd_arI (by omega) hc1)).mono ?_
  rintro r h2 ⟨rfl,gr2⟩
  rw [relR_arI o.len]
  simp (disch:=omega) only [Nat.reduceEqDiff,↓reduceIte,bz]
  refine (callP_0 (ef:=f58) h72 rfl (f58_ret k o hn1 hn (gr2.hc hc1))).mono ?_
  rintro u h3 ⟨c,q1,q2,q3,gr3⟩
  have g1n:=gr1.nx; have g2n:=gr2.nx
  simp (disch:=omega) only [f20_rs,Option.some.injEq,exists_eq_left',Nat.reduceEqDiff,↓reduceIte,bz]
  exact ⟨u,c,rfl,q1,q2,q3.low (by omega),gr1.trans ((gr2.low (by omega)).trans (gr3.low (by omega)))⟩
theorem f21_ret {n:Nat} {v:V} {L:List Bool} (k:CallsCh fs) (h45:fs.get (.ofNat 9)=some f9) (o:OrdN n L) (hn1:1 ≤ n) (hn:n ≤ 7) (hv:Srp h v (arI (rat L))) (hc:HC h):Ret fs f21 [.i .i64 (n:Int),v] h fun r h'=>∃ u,r = .tup [u, .i .i64 0]∧Sl iE h' u (nL n (lyR L n))∧Own h.nx.nat u∧Grow h.nx.nat h h':=by
  have hlb:=arI_len (g:=rat L)
  apply ret_of rfl
  show W fs none f21_c _ _ _
  unfold f21_c
  simp (disch:=omega) only [f21_r0,f21_r1,Nat.reduceEqDiff,↓reduceIte,bz]
  refine (callP_0 (ef:=f9) h45 rfl (f9_ret k.toCallsCk hv (by omega) hc)).mono ?_
  rintro r h1 ⟨rfl,gr1⟩
  rw [ckO_o hn1 hn o]
  have ne0:decide ((0:Int) ≠ 0)=false:=rfl
  simp (disch:=omega) only [f21_r2,f21_r4,Nat.reduceEqDiff,↓reduceIte,Bool.false_eq_true,ne0,bz]
  have hc1:=gr1.hc hc
  refine (callP_0 (ef:=f38) k.c38 rfl (f38_ret (hv.grow hc gr1) nd_arI (by omega) hc1)).mono ?_
  rintro r h2 ⟨rfl,gr2⟩
  rw [relR_arI o.len]
  simp (disch:=omega) only [Nat.reduceEqDiff,↓reduceIte,bz]
  refine (callP_0 (ef:=f59) k.c59 rfl (f59_ret k.toNat4 o hn (gr2.hc hc1))).mono ?_
  rintro u h3 ⟨q2,q3,gr3⟩
  have g1n:=gr1.nx; have g2n:=gr2.nx
  simp (disch:=omega) only [f21_rs,Option.some.injEq,exists_eq_left',Nat.reduceEqDiff,↓reduceIte,bz]
  exact ⟨u,rfl,q2,q3.low (by omega),gr1.trans ((gr2.low (by omega)).trans (gr3.low (by omega)))⟩
end
end Go.Ev
namespace Go.Ev
open Go Go.RowKit
section
variable {g:Nat→Nat→Bool} {k n:Nat}
end
end Go.Ev
namespace Go.Ev
open Go Go.RowKit
def in7 (x:Nat × Nat):Prop:=x.1 < 7∧x.2 < 7
theorem fcY_rch {L:List Bool} {x:Nat × Nat} {p:Nat × Nat} (h:p ∈ fcY L x.1 x.2) {a b:Nat} (k:Rch (Er L) a b x.1 x.2):Rch (Er L) a b p.1 p.2:=by
  rcases mem_fcY.1 h with ⟨e,h3⟩ | ⟨e,h3⟩
  · unfold fcA at h3
    simp only [Bool.and_eq_true,Bool.not_eq_true'] at h3
    rw [e]
    exact k.out h3.1 (fun h=>by have h:rat L x.2 p.2=true:=h; rw [h3.2] at h; cases h)
  · unfold fcB at h3
    simp only [Bool.and_eq_true,Bool.not_eq_true'] at h3
    rw [e]
    exact k.inn h3.2.1 (fun h=>by have h:rat L p.1 x.1=true:=h; rw [h3.2.2] at h; cases h)
end Go.Ev
namespace Go.Ev
open Go Go.RowKit
section
variable {fs:T EF} {h h':H}
end
end Go.Ev
namespace Go.Ev
open Go Go.RowKit
section
variable {fs:T EF} {h h':H}
def swN (x:Nat × Nat):Nat × Nat:=(x.2,x.1)
end
end Go.Ev
namespace Go.Ev
open Go Go.RowKit
noncomputable def f87_r0:List EOper := [oG 4 (.box 2 (tG 1)),oG 5 (.box 2 (tG 2)),oG 6 (.as (.c (.b false)))]
noncomputable def f87_r1:List EOper := [oG 7 (.ldn 2 (tG 4)),oG 8 (.ldn 2 (tG 5)),oG 9 (.eqk (.many [(some .i64),(some .i64)]) false (tG 7) (tG 8))]
noncomputable def f87_r2:List EOper := [oG 6 (.as (.c (.b true)))]
noncomputable def f87_r3:List EOper := [oG 10 (.iadr 2 1 (tG 4) (cG 0)),oG 11 (.ld (tG 10)),oG 12 (.iadr 2 1 (tG 5) (cG 0)),oG 13 (.ld (tG 12)),oG 14 (.bin .eql (tG 11) (tG 13))]
noncomputable def f87_r4:List EOper := [oG 15 (.mv (tG 0)),oG 16 (.iadr 2 1 (tG 4) (cG 1)),oG 17 (.ld (tG 16)),oG 18 (.iadr 2 1 (tG 5) (cG 1)),oG 19 (.ld (tG 18)),oG 20 (.call (fG 62) [(tG 15),(tG 17),(tG 19)]),oG 21 (.not (tG 20)),oG 6 (.as (tG 21))]
noncomputable def f87_r5:List EOper := [oG 22 (.iadr 2 1 (tG 4) (cG 1)),oG 23 (.ld (tG 22)),oG 24 (.iadr 2 1 (tG 5) (cG 1)),oG 25 (.ld (tG 24)),oG 26 (.bin .eql (tG 23) (tG 25)),oG 27 (.mv (tG 26)),gG 28 27 true (.mv (tG 0)),gG 29 27 true (.iadr 2 1 (tG 4) (cG 0)),gG 30 27 true (.ld (tG 29)),gG 31 27 true (.iadr 2 1 (tG 5) (cG 0)),gG 32 27 true (.ld (tG 31)),gG 33 27 true (.call (fG 62) [(tG 28),(tG 30),(tG 32)]),gG 34 27 true (.not (tG 33)),oG 35 (.pick (tG 27) (tG 34) (.c (.b false))),oG 6 (.as (tG 35))]
noncomputable def f87_c:EC:=(.seq (.reg f87_r0) (.seq (.seq (.reg f87_r1) (.cond (tG 9) (.seq (.reg f87_r2) .ret) .skip)) (.seq (.seq (.reg f87_r3) (.cond (tG 14) (.seq (.reg f87_r4) .ret) .skip)) (.seq (.reg f87_r5) .ret))))
noncomputable def f87:EF:=⟨36, [.tmp (.ofNat 6)],f87_c,none⟩
theorem f87_rs:f87.rs = [.tmp (.ofNat 6)]:=of_eq_true (eq_self _)
noncomputable def f63_r0:List EOper := [oG 4 (.as (.c .sn))]
noncomputable def f63_r1:List EOper := [oG 5 (.as (.c .sn))]
noncomputable def f63_r2:List EOper := [oG 6 (.as (cG 0))]
noncomputable def f63_r3:List EOper := [oG 8 (.mv (tG 6)),oG 9 (.mv (tG 0)),oG 10 (.bin .lss (tG 8) (tG 9))]
noncomputable def f63_r4:List EOper := [oG 7 (.as (cG 0))]
noncomputable def f63_r5:List EOper := [oG 13 (.mv (tG 7)),oG 14 (.mv (tG 0)),oG 15 (.bin .lss (tG 13) (tG 14))]
noncomputable def f63_r6:List EOper := [oG 18 (.mv (tG 6)),oG 19 (.mv (tG 7)),oG 20 (.bin .neq (tG 18) (tG 19)),oG 21 (.mv (tG 20)),gG 22 21 true (.mv (tG 1)),gG 23 21 true (.mv (tG 6)),gG 24 21 true (.mv (tG 7)),gG 25 21 true (.call (fG 62) [(tG 22),(tG 23),(tG 24)]),oG 26 (.pick (tG 21) (tG 25) (.c (.b false)))]
noncomputable def f63_r7:List EOper := [oG 27 (.mv (tG 5)),oG 28 (.mv (tG 6)),oG 29 (.mv (tG 7)),oG 30 (.build [(.i .i64 (.ofNat 0)),(.i .i64 (.ofNat 0))] [(0,1,(tG 28)),(1,1,(tG 29))]),oG 31 (.bslice 1 2 [(.i .i64 (.ofNat 0)),(.i .i64 (.ofNat 0))] [(0,2,(tG 30))]),oG 32 (.app 2 (tG 27) (tG 31)),oG 5 (.as (tG 32))]
noncomputable def f63_r8:List EOper := [oG 16 (.mv (tG 7)),oG 17 (.bin .add (tG 16) (cG 1)),oG 7 (.as (tG 17))]
noncomputable def f63_l0:EC:=(.seq (.seq (.reg f63_r5) (.cond (tG 15) .skip (.exit 2))) (.seq (.block 3 (.seq (.reg f63_r6) (.cond (tG 26) (.reg f63_r7) .skip))) (.reg f63_r8)))
noncomputable def f63_r9:List EOper := [oG 11 (.mv (tG 6)),oG 12 (.bin .add (tG 11) (cG 1)),oG 6 (.as (tG 12))]
noncomputable def f63_l1:EC:=(.seq (.seq (.reg f63_r3) (.cond (tG 10) .skip (.exit 0))) (.seq (.block 1 (.seq (.reg f63_r4) (.block 2 (.loop f63_l0)))) (.reg f63_r9)))
noncomputable def f63_r10:List EOper := [oG 33 (.mv (tG 5)),oG 4 (.as (tG 33))]
noncomputable def f63_c:EC:=(.seq (.reg f63_r0) (.seq (.reg f63_r1) (.seq (.seq (.reg f63_r2) (.block 0 (.loop f63_l1))) (.seq (.reg f63_r10) .ret))))
noncomputable def f63:EF:=⟨34, [.tmp (.ofNat 4)],f63_c,none⟩
theorem f63_rs:f63.rs = [.tmp (.ofNat 4)]:=of_eq_true (eq_self _)
section
variable {fs:T EF} {h h':H}
theorem jn_sy {n:Nat} {g:Nat→Nat→Bool} (hg:Gph n g) {a b:Nat}:decide ((min (a:Int) (b:Int),max (a:Int) (b:Int)) ∈ arI g)=rat (gR (arI g)) a b:=by
  rw [Bool.eq_iff_iff,decide_eq_true_eq,gR_arI hg]
  unfold sy
  rw [Bool.or_eq_true]
  have h7:=hg.n7
  by_cases h:a ≤ b
  · rw [show min (a:Int) (b:Int)=(a:Int) by omega,show max (a:Int) (b:Int)=(b:Int) by omega,mem_arI']
    exact ⟨fun h => .inl h.2.2,fun h1=>h1.elim (fun h1=>by have:=hg.up _ _ h1; exact ⟨by omega,by omega,h1⟩) (fun h1=>by have:=hg.up _ _ h1; omega)⟩
  · rw [show min (a:Int) (b:Int)=(b:Int) by omega,show max (a:Int) (b:Int)=(a:Int) by omega,mem_arI']
    exact ⟨fun h => .inr h.2.2,fun h1=>h1.elim (fun h1=>by have:=hg.up _ _ h1; omega) (fun h1=>by have:=hg.up _ _ h1; exact ⟨by omega,by omega,h1⟩)⟩
theorem inI_mm {a b:Nat} (ha:a < 7) (hb:b < 7):inI (min (a:Int) (b:Int),max (a:Int) (b:Int)):=by
  by_cases h:a ≤ b
  · rw [show min (a:Int) (b:Int)=(a:Int) by omega,show max (a:Int) (b:Int)=(b:Int) by omega]; exact inI_nat ha hb
  · rw [show min (a:Int) (b:Int)=(b:Int) by omega,show max (a:Int) (b:Int)=(a:Int) by omega]; exact inI_nat hb ha
def frcB (G:List Bool) (x y:Nat × Nat):Bool:=decide (x=y) || (if x.1=y.1 then !rat G x.2 y.2 else (decide (x.2=y.2) && !rat G x.1 y.1))
structure CallsJn (fs:T EF):Prop where
  c36:fs.get (K.ofNat 36)=some f36
  c62:fs.get (K.ofNat 62)=some f62
theorem f87_ret {n:Nat} {v:V} {g:Nat→Nat→Bool} {x y:Nat × Nat} (k:CallsJn fs) (hg:Gph n g) (hv:Srp h v (arI g)) (hx:in7 x) (hy:in7 y) (hc:HC h):Ret fs f87 [v,aV x,aV y] h fun r h'=>r = .b (frcB (gR (arI g)) x y)∧Grow h.nx.nat h h':=by
  have hlb:=arI_len (g:=g)
  apply ret_of rfl
  show W fs none f87_c _ _ _
  unfold f87_c
  have cx:cellsN 2 (aV x)=some [.i .i64 (x.1:Int), .i .i64 (x.2:Int)]:=rfl
  have cy:cellsN 2 (aV y)=some [.i .i64 (y.1:Int), .i .i64 (y.2:Int)]:=rfl
  have n1:=nx_new h (.cells 2 [.i .i64 (x.1:Int), .i .i64 (x.2:Int)])
  have g1:Grow h.nx.nat h (h.new (.cells 2 [.i .i64 (x.1:Int), .i .i64 (x.2:Int)])):=Grow.new (Nat.le_refl _) _
  have e1:(h.new (.cells 2 [.i .i64 (x.1:Int), .i .i64 (x.2:Int)])).get h.nx = .cells 2 [.i .i64 (x.1:Int), .i .i64 (x.2:Int)]:=get_new_same
  simp (disch:=omega) only [f87_r0,Nat.reduceEqDiff,↓reduceIte,cx,cy,bz]
  generalize h.new (.cells 2 [.i .i64 (x.1:Int), .i .i64 (x.2:Int)])=h1 at *
  have n2:=nx_new h1 (.cells 2 [.i .i64 (y.1:Int), .i .i64 (y.2:Int)])
  have g2:Grow h1.nx.nat h1 (h1.new (.cells 2 [.i .i64 (y.1:Int), .i .i64 (y.2:Int)])):=Grow.new (Nat.le_refl _) _
  have e2:(h1.new (.cells 2 [.i .i64 (y.1:Int), .i .i64 (y.2:Int)])).get h1.nx = .cells 2 [.i .i64 (y.1:Int), .i .i64 (y.2:Int)]:=get_new_same
  generalize h1.new (.cells 2 [.i .i64 (y.1:Int), .i .i64 (y.2:Int)])=h2 at *
  have a1:=(g2.old h.nx (by omega)).trans e1
  have l1:=ldn2 a1
  have l2:=ldn2 e2
  have l10:=ld20 a1
  have l11:=ld21 a1
  have l20:=ld20 e2
  have l21:=ld21 e2
  have hax:V.agg [.i .i64 (x.1:Int), .i .i64 (x.2:Int)]=aV x:=rfl
  have hay:V.agg [.i .i64 (y.1:Int), .i .i64 (y.2:Int)]=aV y:=rfl
  have hq:=keyEq_aV hx hy
  have gA:Grow h.nx.nat h h2:=g1.trans (g2.low (by omega))
  have hc2:=gA.hc hc
  have hv2:=hv.grow hc gA
  by_cases e:x=y
  · rw [decide_eq_true e] at hq
    simp (disch:=omega) only [f87_r1,f87_r2,f87_rs,Option.some.injEq,exists_eq_left',Nat.reduceEqDiff,↓reduceIte,Bool.not_true,l1,l2,hax,hay,hq,bz]
    exact ⟨by unfold frcB; rw [decide_eq_true e]; rfl,gA⟩
  · rw [decide_eq_false e] at hq
    by_cases e0:x.1=y.1
    · have d0:decide ((x.1:Int)=(y.1:Int))=true:=decide_eq_true (by omega)
      simp (disch:=omega) only [f87_r1,f87_r3,f87_r4,Nat.reduceEqDiff,↓reduceIte,Bool.false_eq_true,l1,l2,hax,hay,hq,cond_false,l10,l20,l11,l21,d0,bz]
      refine (callP_0 (ef:=f62) k.c62 rfl (f62_ret k.c36 hv2 inI_arI (inI_mm hx.2 hy.2) (by omega) hc2)).mono ?_
      rintro r h3 ⟨rfl,g3⟩
      rw [jn_sy hg]
      simp (disch:=omega) only [f87_rs,Option.some.injEq,exists_eq_left',↓reduceIte,bz]
      exact ⟨by unfold frcB; rw [decide_eq_false e,if_pos e0]; rfl,gA.trans (g3.low gA.nx)⟩
    · have d0:decide ((x.1:Int)=(y.1:Int))=false:=decide_eq_false (by omega)
      by_cases e1_:x.2=y.2
      · have d1:decide ((x.2:Int)=(y.2:Int))=true:=decide_eq_true (by omega)
        simp (disch:=omega) only [f87_r1,f87_r3,f87_r5,Nat.reduceEqDiff,↓reduceIte,Bool.false_eq_true,l1,l2,hax,hay,hq,cond_false,l10,l20,l11,l21,d0,d1,bz]
        refine (callP_0 (ef:=f62) k.c62 rfl (f62_ret k.c36 hv2 inI_arI (inI_mm hx.1 hy.1) (by omega) hc2)).mono ?_
        rintro r h3 ⟨rfl,g3⟩
        rw [jn_sy hg]
        simp (disch:=omega) only [f87_rs,Option.some.injEq,exists_eq_left',Nat.reduceEqDiff,↓reduceIte,bz]
        exact ⟨by unfold frcB; rw [decide_eq_false e,if_neg e0,decide_eq_true e1_]; rfl,gA.trans (g3.low gA.nx)⟩
      · have d1:decide ((x.2:Int)=(y.2:Int))=false:=decide_eq_false (by omega)
        simp (disch:=omega) only [f87_r1,f87_r3,f87_r5,f87_rs,Option.some.injEq,exists_eq_left',Nat.reduceEqDiff,↓reduceIte,Bool.false_eq_true,l1,l2,hax,hay,hq,cond_false,l10,l20,l11,l21,d0,d1,bz]
        exact ⟨by unfold frcB; rw [decide_eq_false e,if_neg e0,decide_eq_false e1_]; rfl,gA⟩
def f63_A (h0:H) (n:Nat) (v:V) (G:Nat→Nat→Bool) (a:Nat) (fr:Fr) (h1:H):Prop:=a ≤ n ∧ ∃ u,Sk 2 qE h1 u (arP G (7 * a))∧Own h0.nx.nat u∧Grow h0.nx.nat h0 h1∧fr.get (K.ofNat 0)=some (.i .i64 (n:Int))∧fr.get (K.ofNat 1)=some (v)∧fr.get (K.ofNat 5)=some (u)∧fr.get (K.ofNat 6)=some (.i .i64 (a:Int))
def f63_B (h0:H) (n:Nat) (v:V) (G:Nat→Nat→Bool) (a:Nat) (b:Nat) (fr:Fr) (h1:H):Prop:=b ≤ n ∧ ∃ u,Sk 2 qE h1 u (arP G (7 * a + b))∧Own h0.nx.nat u∧Grow h0.nx.nat h0 h1∧fr.get (K.ofNat 0)=some (.i .i64 (n:Int))∧fr.get (K.ofNat 1)=some (v)∧fr.get (K.ofNat 5)=some (u)∧fr.get (K.ofNat 6)=some (.i .i64 (a:Int))∧fr.get (K.ofNat 7)=some (.i .i64 (b:Int))
theorem f63_ret {n:Nat} {v:V} {g:Nat→Nat→Bool} (k:CallsJn fs) (hg:Gph n g) (hv:Srp h v (arI g)) (hc:HC h):Ret fs f63 [.i .i64 (n:Int),v] h fun r h'=>Sk 2 qE h' r (arI (rat (gR (arI g))))∧Own h.nx.nat r∧Grow h.nx.nat h h':=by
  have hlb:=arI_len (g:=g)
  have hn7:=hg.n7
  apply ret_of rfl
  show W fs none f63_c _ _ _
  unfold f63_c
  simp (disch:=omega) only [f63_r0,f63_r1,f63_r2,bz]
  refine W_loop (f63_A h n v (rat (gR (arI g)))) (fun a=>n - a) ?_ 0 ⟨by omega, .sn,Sk.nil,Own.sn,Grow.refl _ _,by simp (disch:=omega) only [getK_set,Nat.reduceEqDiff,↓reduceIte,and_self,Int.natCast_zero]⟩
  rintro a fr h1 ⟨ha,u,hs,ho,hG,g0,g1,g5,g6⟩
  unfold f63_l1
  by_cases hlt:a < n
  · have d0:decide ((a:Int) < (n:Int))=true:=decide_eq_true (by omega)
    simp (disch:=omega) only [f63_r3,f63_r4,Nat.reduceEqDiff,↓reduceIte,g0,g6,d0,bz]
    refine W_loop (f63_B h n v (rat (gR (arI g))) a) (fun b=>n - b) ?_ 0 ⟨by omega,u,hs,ho,hG,by simp (disch:=omega) only [getK_set,Nat.reduceEqDiff,↓reduceIte,g0,g1,g5,g6,and_self,Int.natCast_zero]⟩
    clear hs ho hG g0 g1 g5 g6 fr
    rintro b fr h2 ⟨hb,u,hs,ho,hG,g0,g1,g5,g6,g7⟩
    have hc2:=hG.hc hc
    have hv2:=hv.grow hc hG
    unfold f63_l0
    by_cases hlt2:b < n
    · have d1:decide ((b:Int) < (n:Int))=true:=decide_eq_true (by omega)
      have hsu:=arP_succ (g:=rat (gR (arI g))) (a:=a) (b:=b) (by omega)
      by_cases e:a=b
      · have d2:decide ((a:Int) ≠ (b:Int))=false:=decide_eq_false (by omega)
        have hno:¬ rat (gR (arI g)) a b=true:=fun h=>(Er_lt hg h).2.2 e
        rw [if_neg hno,List.append_nil] at hsu
        simp (disch:=omega) only [f63_r5,f63_r6,f63_r8,Nat.reduceEqDiff,↓reduceIte,Bool.false_eq_true,g0,g6,g7,d1,d2,bz]
        exact ⟨b + 1,by omega,by omega,u,by rw [hsu]; exact hs,ho,hG,by simp (disch:=omega) only [getK_set,Nat.reduceEqDiff,↓reduceIte,g0,g1,g5,g6,and_self,Int.natCast_add,Int.natCast_one]⟩
      · have d2:decide ((a:Int) ≠ (b:Int))=true:=decide_eq_true (by omega)
        simp (disch:=omega) only [f63_r5,f63_r6,Nat.reduceEqDiff,↓reduceIte,g0,g1,g6,g7,d1,d2,bz]
        refine (callP_0 (ef:=f62) k.c62 rfl (f62_ret k.c36 hv2 inI_arI (inI_mm (by omega) (by omega)) (by omega) hc2)).mono ?_
        rintro r h3 ⟨rfl,g3⟩
        rw [jn_sy hg]
        have hc3:=g3.hc hc2
        have hs3:=hs.grow hc2 g3
        have gB:=hG.trans (g3.low hG.nx)
        cases hr:rat (gR (arI g)) a b with
        | false =>
          rw [if_neg (by rw [hr]; simp),List.append_nil] at hsu
          simp (disch:=omega) only [f63_r8,Nat.reduceEqDiff,↓reduceIte,Bool.false_eq_true,g7,bz]
          exact ⟨b + 1,by omega,by omega,u,by rw [hsu]; exact hs3,ho,gB,by simp (disch:=omega) only [getK_set,Nat.reduceEqDiff,↓reduceIte,g0,g1,g5,g6,and_self,Int.natCast_add,Int.natCast_one]⟩
        | true =>
          rw [if_pos hr] at hsu
          have hl:=arP_len (g:=rat (gR (arI g))) (i:=7 * a + b)
          obtain ⟨u',h4,a1,s1,o1,gr1,_⟩:=Sk.push qE_len (by omega) (x:=((a:Int),(b:Int))) hs3 ho gB.nx hc3 (by omega)
          have a1':appV 2 (h3.new (.cells (1 * 2) [.i .i64 (a:Int), .i .i64 (b:Int)])) u (.sl h3.nx 0 1 2) = .ok u' h4:=a1
          have cp:cellsN 2 (.agg [.i .i64 (a:Int), .i .i64 (b:Int)])=some [.i .i64 (a:Int), .i .i64 (b:Int)]:=rfl
          have sp:setMany [V.i .i64 0,V.i .i64 0] 0 [V.i .i64 (a:Int),V.i .i64 (b:Int)] = [V.i .i64 (a:Int),V.i .i64 (b:Int)]:=rfl
          simp (disch:=omega) only [f63_r7,f63_r8,Nat.reduceEqDiff,↓reduceIte,g5,g6,g7,fill_c,cp,sp,a1',bz]
          exact ⟨b + 1,by omega,by omega,u',by rw [hsu]; exact s1,o1,gB.trans gr1,by simp (disch:=omega) only [getK_set,Nat.reduceEqDiff,↓reduceIte,g0,g1,g6,and_self,Int.natCast_add,Int.natCast_one]⟩
    · have d1:decide ((b:Int) < (n:Int))=false:=decide_eq_false (by omega)
      have eb:b=n:=by omega
      have e1:arP (rat (gR (arI g))) (7 * (a + 1))=arP (rat (gR (arI g))) (7 * a + b):=arP_row (by omega) (fun d hd _=>by
        cases e:rat (gR (arI g)) a d with
        | false=>rfl
        | true=>have:=(Er_lt hg e).2.1; omega)
      simp (disch:=omega) only [f63_r5,f63_r9,Nat.reduceEqDiff,↓reduceIte,Bool.false_eq_true,g0,g6,g7,d1,bz]
      exact ⟨a + 1,by omega,by omega,u,by rw [e1]; exact hs,ho,hG,by simp (disch:=omega) only [getK_set,Nat.reduceEqDiff,↓reduceIte,g0,g1,g5,and_self,Int.natCast_add,Int.natCast_one]⟩
  · have d0:decide ((a:Int) < (n:Int))=false:=decide_eq_false (by omega)
    have ea:a=n:=by omega
    have e1:arP (rat (gR (arI g))) (7 * a)=arI (rat (gR (arI g))):=arP_end (by omega) (fun x d hx _ hd=>by
      cases e:rat (gR (arI g)) x d with
      | false=>rfl
      | true=>have:=(Er_lt hg e).1; omega)
    rw [e1] at hs
    simp (disch:=omega) only [f63_r3,f63_r10,f63_rs,Option.some.injEq,exists_eq_left',Nat.reduceEqDiff,↓reduceIte,Bool.false_eq_true,g0,g5,g6,d0,bz]
    exact ⟨hs,ho,hG⟩
end
end Go.Ev
namespace Go.Ev
open Go Go.RowKit
section
variable {fs:T EF} {h h':H} {b:Nat}
end
end Go.Ev
namespace Go.Ev
open Go Go.RowKit
noncomputable def f30_r0:List EOper := [oG 4 (.as (.c .sn))]
noncomputable def f30_r1:List EOper := [oG 5 (.as (.c .sn))]
noncomputable def f30_r2:List EOper := [oG 6 (.as (cG 0))]
noncomputable def f30_r3:List EOper := [oG 8 (.mv (tG 6)),oG 9 (.mv (tG 0)),oG 10 (.bin .lss (tG 8) (tG 9))]
noncomputable def f30_r4:List EOper := [oG 13 (.mv (tG 6)),oG 14 (.bin .add (tG 13) (cG 1)),oG 7 (.as (tG 14))]
noncomputable def f30_r5:List EOper := [oG 15 (.mv (tG 7)),oG 16 (.mv (tG 0)),oG 17 (.bin .lss (tG 15) (tG 16))]
noncomputable def f30_r6:List EOper := [oG 20 (.mv (tG 1)),oG 21 (.mv (tG 6)),oG 22 (.mv (tG 7)),oG 23 (.call (fG 62) [(tG 20),(tG 21),(tG 22)]),oG 24 (.not (tG 23))]
noncomputable def f30_r7:List EOper := [oG 25 (.mv (tG 5)),oG 26 (.mv (tG 6)),oG 27 (.mv (tG 7)),oG 28 (.build [(.i .i64 (.ofNat 0)),(.i .i64 (.ofNat 0))] [(0,1,(tG 26)),(1,1,(tG 27))]),oG 29 (.bslice 1 2 [(.i .i64 (.ofNat 0)),(.i .i64 (.ofNat 0))] [(0,2,(tG 28))]),oG 30 (.app 2 (tG 25) (tG 29)),oG 5 (.as (tG 30))]
noncomputable def f30_r8:List EOper := [oG 18 (.mv (tG 7)),oG 19 (.bin .add (tG 18) (cG 1)),oG 7 (.as (tG 19))]
noncomputable def f30_l0:EC:=(.seq (.seq (.reg f30_r5) (.cond (tG 17) .skip (.exit 2))) (.seq (.block 3 (.seq (.reg f30_r6) (.cond (tG 24) (.reg f30_r7) .skip))) (.reg f30_r8)))
noncomputable def f30_r9:List EOper := [oG 11 (.mv (tG 6)),oG 12 (.bin .add (tG 11) (cG 1)),oG 6 (.as (tG 12))]
noncomputable def f30_l1:EC:=(.seq (.seq (.reg f30_r3) (.cond (tG 10) .skip (.exit 0))) (.seq (.block 1 (.seq (.reg f30_r4) (.block 2 (.loop f30_l0)))) (.reg f30_r9)))
noncomputable def f30_r10:List EOper := [oG 31 (.mv (tG 5)),oG 4 (.as (tG 31))]
noncomputable def f30_c:EC:=(.seq (.reg f30_r0) (.seq (.reg f30_r1) (.seq (.seq (.reg f30_r2) (.block 0 (.loop f30_l1))) (.seq (.reg f30_r10) .ret))))
noncomputable def f30:EF:=⟨32, [.tmp (.ofNat 4)],f30_c,none⟩
theorem f30_rs:f30.rs = [.tmp (.ofNat 4)]:=of_eq_true (eq_self _)
noncomputable def f26_r0:List EOper := [oG 4 (.as (.c (.b false)))]
noncomputable def f26_r1:List EOper := [oG 6 (.mv (tG 0)),oG 7 (.len (tG 6)),oG 8 (.mv (tG 1)),oG 9 (.len (tG 8)),oG 10 (.bin .neq (tG 7) (tG 9))]
noncomputable def f26_r2:List EOper := [oG 4 (.as (.c (.b false)))]
noncomputable def f26_r3:List EOper := [oG 5 (.as (cG 0))]
noncomputable def f26_r4:List EOper := [oG 11 (.mv (tG 5)),oG 12 (.mv (tG 0)),oG 13 (.len (tG 12)),oG 14 (.bin .lss (tG 11) (tG 13))]
noncomputable def f26_r5:List Stage := [⟨[oG 17 (.mv (tG 0)),oG 18 (.mv (tG 5)),oG 19 (.iads 2 (tG 17) (tG 18)),oG 20 (.ldn 2 (tG 19)),oG 21 (.mv (tG 1)),oG 22 (.mv (tG 5)),oG 23 (.iads 2 (tG 21) (tG 22)),oG 24 (.ldn 2 (tG 23)),oG 25 (.eqk (.many [(some .i64),(some .i64)]) true (tG 20) (tG 24))], [],none, []⟩]
noncomputable def f26_r6:List EOper := [oG 4 (.as (.c (.b false)))]
noncomputable def f26_r7:List EOper := [oG 15 (.mv (tG 5)),oG 16 (.bin .add (tG 15) (cG 1)),oG 5 (.as (tG 16))]
noncomputable def f26_l0:EC:=(.seq (.seq (.reg f26_r4) (.cond (tG 14) .skip (.exit 0))) (.seq (.block 1 (.seq (.draw f26_r5) (.cond (tG 25) (.seq (.reg f26_r6) .ret) .skip))) (.reg f26_r7)))
noncomputable def f26_r8:List EOper := [oG 4 (.as (.c (.b true)))]
noncomputable def f26_c:EC:=(.seq (.reg f26_r0) (.seq (.seq (.reg f26_r1) (.cond (tG 10) (.seq (.reg f26_r2) .ret) .skip)) (.seq (.seq (.reg f26_r3) (.block 0 (.loop f26_l0))) (.seq (.reg f26_r8) .ret))))
noncomputable def f26:EF:=⟨26, [.tmp (.ofNat 4)],f26_c,none⟩
theorem f26_rs:f26.rs = [.tmp (.ofNat 4)]:=of_eq_true (eq_self _)
section
variable {fs:T EF} {h h':H} {b:Nat}
def oth (n:Nat) (g:Nat→Nat→Bool) (a b:Nat):Bool:=decide (a < b∧b < n) && !g a b
theorem oth_gph {n:Nat} {g:Nat→Nat→Bool} (hg:Gph n g):Gph n (oth n g):=⟨hg.n1,hg.n7,fun a b h=>by
  unfold oth at h
  rw [Bool.and_eq_true,decide_eq_true_eq] at h
  exact h.1⟩
end
end Go.Ev
namespace Go.Ev
open Go Go.RowKit
section
variable {fs:T EF} {h h':H} {b:Nat}
def f30_A (h0:H) (n:Nat) (v:V) (G:Nat→Nat→Bool) (a:Nat) (fr:Fr) (h1:H):Prop:=a ≤ n ∧ ∃ u,Sk 2 qE h1 u (arP G (7 * a))∧Own h0.nx.nat u∧Grow h0.nx.nat h0 h1∧fr.get (K.ofNat 0)=some (.i .i64 (n:Int))∧fr.get (K.ofNat 1)=some (v)∧fr.get (K.ofNat 5)=some (u)∧fr.get (K.ofNat 6)=some (.i .i64 (a:Int))
def f30_B (h0:H) (n:Nat) (v:V) (G:Nat→Nat→Bool) (a:Nat) (b:Nat) (fr:Fr) (h1:H):Prop:=a + 1 ≤ b∧b ≤ n ∧ ∃ u,Sk 2 qE h1 u (arP G (7 * a + b))∧Own h0.nx.nat u∧Grow h0.nx.nat h0 h1∧fr.get (K.ofNat 0)=some (.i .i64 (n:Int))∧fr.get (K.ofNat 1)=some (v)∧fr.get (K.ofNat 5)=some (u)∧fr.get (K.ofNat 6)=some (.i .i64 (a:Int))∧fr.get (K.ofNat 7)=some (.i .i64 (b:Int))
theorem f30_ret {n:Nat} {v:V} {g:Nat→Nat→Bool} (k:CallsJn fs) (hg:Gph n g) (hv:Srp h v (arI g)) (hc:HC h):Ret fs f30 [.i .i64 (n:Int),v] h fun r h'=>Sk 2 qE h' r (arI (oth n g))∧Own h.nx.nat r∧Grow h.nx.nat h h':=by
  have hlb:=arI_len (g:=g)
  have hn7:=hg.n7
  have og:=oth_gph hg
  apply ret_of rfl
  show W fs none f30_c _ _ _
  unfold f30_c
  simp (disch:=omega) only [f30_r0,f30_r1,f30_r2,bz]
  refine W_loop (f30_A h n v (oth n g)) (fun a=>n - a) ?_ 0 ⟨by omega, .sn,Sk.nil,Own.sn,Grow.refl _ _,by simp (disch:=omega) only [getK_set,Nat.reduceEqDiff,↓reduceIte,and_self,Int.natCast_zero]⟩
  rintro a fr h1 ⟨ha,u,hs,ho,hG,g0,g1,g5,g6⟩
  unfold f30_l1
  by_cases hlt:a < n
  · have d0:decide ((a:Int) < (n:Int))=true:=decide_eq_true (by omega)
    have e0:arP (oth n g) (7 * a + (a + 1))=arP (oth n g) (7 * a):=by
      have:=arP_skip (g:=oth n g) (a:=a) (b:=0) (c:=a + 1) (by omega) (by omega) (fun d _ hd=>by
        cases e:oth n g a d with
        | false=>rfl
        | true=>have:=(og.up _ _ e).1; omega)
      rw [this,Nat.add_zero]
    simp (disch:=omega) only [f30_r3,f30_r4,Nat.reduceEqDiff,↓reduceIte,g0,g6,d0,bz]
    refine W_loop (f30_B h n v (oth n g) a) (fun b=>n + 1 - b) ?_ (a + 1) ⟨by omega,by omega,u,by rw [e0]; exact hs,ho,hG,by simp (disch:=omega) only [getK_set,Nat.reduceEqDiff,↓reduceIte,g0,g1,g5,g6,and_self,Int.natCast_add,Int.natCast_one]⟩
    clear hs ho hG g0 g1 g5 g6 fr
    rintro b fr h2 ⟨hab,hb,u,hs,ho,hG,g0,g1,g5,g6,g7⟩
    have hc2:=hG.hc hc
    have hv2:=hv.grow hc hG
    unfold f30_l0
    by_cases hlt2:b < n
    · have d1:decide ((b:Int) < (n:Int))=true:=decide_eq_true (by omega)
      have hsu:=arP_succ (g:=oth n g) (a:=a) (b:=b) (by omega)
      simp (disch:=omega) only [f30_r5,f30_r6,Nat.reduceEqDiff,↓reduceIte,g0,g1,g6,g7,d1,bz]
      refine (callP_0 (ef:=f62) k.c62 rfl (f62_ret k.c36 hv2 inI_arI (inI_mm (by omega) (by omega)) (by omega) hc2)).mono ?_
      rintro r h3 ⟨rfl,g3⟩
      rw [jn_sy hg]
      have hc3:=g3.hc hc2
      have hs3:=hs.grow hc2 g3
      have gB:=hG.trans (g3.low hG.nx)
      have hgr:rat (gR (arI g)) a b=g a b:=by
        rw [Bool.eq_iff_iff,gR_arI hg]
        unfold sy
        rw [Bool.or_eq_true]
        exact ⟨fun h=>h.elim id fun h=>by have:=hg.up _ _ h; omega, .inl⟩
      rw [hgr]
      cases hr:g a b with
      | true =>
        rw [if_neg (by unfold oth; rw [hr]; simp),List.append_nil] at hsu
        simp (disch:=omega) only [f30_r8,Nat.reduceEqDiff,↓reduceIte,Bool.false_eq_true,Bool.not_true,g7,bz]
        exact ⟨b + 1,by omega,by omega,by omega,u,by rw [hsu]; exact hs3,ho,gB,by simp (disch:=omega) only [getK_set,Nat.reduceEqDiff,↓reduceIte,g0,g1,g5,g6,and_self,Int.natCast_add,Int.natCast_one]⟩
      | false =>
        rw [if_pos (by unfold oth; rw [hr,decide_eq_true (show a < b∧b < n by omega)]; rfl)] at hsu
        have hl:=arP_len (g:=oth n g) (i:=7 * a + b)
        obtain ⟨u',h4,a1,s1,o1,gr1,_⟩:=Sk.push qE_len (by omega) (x:=((a:Int),(b:Int))) hs3 ho gB.nx hc3 (by omega)
        have a1':appV 2 (h3.new (.cells (1 * 2) [.i .i64 (a:Int), .i .i64 (b:Int)])) u (.sl h3.nx 0 1 2) = .ok u' h4:=a1
        have cp:cellsN 2 (.agg [.i .i64 (a:Int), .i .i64 (b:Int)])=some [.i .i64 (a:Int), .i .i64 (b:Int)]:=rfl
        have sp:setMany [V.i .i64 0,V.i .i64 0] 0 [V.i .i64 (a:Int),V.i .i64 (b:Int)] = [V.i .i64 (a:Int),V.i .i64 (b:Int)]:=rfl
        simp (disch:=omega) only [f30_r7,f30_r8,Nat.reduceEqDiff,↓reduceIte,Bool.not_false,g5,g6,g7,fill_c,cp,sp,a1',bz]
        exact ⟨b + 1,by omega,by omega,by omega,u',by rw [hsu]; exact s1,o1,gB.trans gr1,by simp (disch:=omega) only [getK_set,Nat.reduceEqDiff,↓reduceIte,g0,g1,g6,and_self,Int.natCast_add,Int.natCast_one]⟩
    · have d1:decide ((b:Int) < (n:Int))=false:=decide_eq_false (by omega)
      have eb:b=n:=by omega
      have e1:arP (oth n g) (7 * (a + 1))=arP (oth n g) (7 * a + b):=arP_row (by omega) (fun d hd _=>by
        cases e:oth n g a d with
        | false=>rfl
        | true=>have:=(og.up _ _ e).2; omega)
      simp (disch:=omega) only [f30_r5,f30_r9,Nat.reduceEqDiff,↓reduceIte,Bool.false_eq_true,g0,g6,g7,d1,bz]
      exact ⟨a + 1,by omega,by omega,u,by rw [e1]; exact hs,ho,hG,by simp (disch:=omega) only [getK_set,Nat.reduceEqDiff,↓reduceIte,g0,g1,g5,and_self,Int.natCast_add,Int.natCast_one]⟩
  · have d0:decide ((a:Int) < (n:Int))=false:=decide_eq_false (by omega)
    have ea:a=n:=by omega
    have e1:arP (oth n g) (7 * a)=arI (oth n g):=arP_end (by omega) (fun x d hx _ hd=>by
      cases e:oth n g x d with
      | false=>rfl
      | true=>have:=og.up _ _ e; omega)
    rw [e1] at hs
    simp (disch:=omega) only [f30_r3,f30_r10,f30_rs,Option.some.injEq,exists_eq_left',Nat.reduceEqDiff,↓reduceIte,Bool.false_eq_true,g0,g5,g6,d0,bz]
    exact ⟨hs,ho,hG⟩
def f26_I (h0:H) (v w:V) (A:List (Int × Int)) (i:Nat) (fr:Fr) (h1:H):Prop:=i ≤ A.length∧h1=h0∧fr.get (K.ofNat 0)=some (v)∧fr.get (K.ofNat 1)=some (w)∧fr.get (K.ofNat 5)=some (.i .i64 (i:Int))
theorem f26_ret {v w:V} {A:List (Int × Int)} (hv:Srp h v A) (hw:Srp h w A) (hA:∀ x ∈ A,inI x) (hl:A.length ≤ 1000000):Ret fs f26 [v,w] h fun r h'=>r = .b true∧h'=h:=by
  apply ret_of rfl
  show W fs none f26_c _ _ _
  unfold f26_c
  have hlv:=hv.len
  have hlw:=hw.len
  have nel:decide ((A.length:Int) ≠ (A.length:Int))=false:=by simp
  simp (disch:=omega) only [f26_r0,f26_r1,f26_r3,Nat.reduceEqDiff,↓reduceIte,Bool.false_eq_true,hlv,hlw,nel,bz]
  refine W_loop (f26_I h v w A) (fun i=>A.length - i) ?_ 0 ⟨by omega,rfl,by simp (disch:=omega) only [getK_set,Nat.reduceEqDiff,↓reduceIte,and_self,Int.natCast_zero]⟩
  rintro i fr h1 ⟨hi,rfl,g0,g1,g5⟩
  unfold f26_l0
  by_cases hlt:i < A.length
  · have d0:decide ((i:Int) < (A.length:Int))=true:=decide_eq_true (by omega)
    obtain ⟨id,q,p1,p2,_⟩:=hv.at2 hlt
    obtain ⟨id2,q2,w1,w2,_⟩:=hw.at2 hlt
    have hav:V.agg [.i .i64 A[i].1, .i .i64 A[i].2]=pV A[i]:=rfl
    have hq:=keyEq_pVO (hA _ (List.getElem_mem hlt)) (hA _ (List.getElem_mem hlt))
    have dt:decide (A[i]=A[i])=true:=by simp
    rw [dt] at hq
    have hvb:=hv.beq
    have hwb:=hw.beq
    simp (disch:=omega) only [f26_r4,f26_r5,f26_r7,Nat.reduceEqDiff,↓reduceIte,Bool.false_eq_true,Bool.not_true,g0,g1,g5,hlv,d0,p1,p2,w1,w2,hav,hq,cond_true,bz]
    exact ⟨i + 1,by omega,hlt,rfl,by simp (disch:=omega) only [getK_set,Nat.reduceEqDiff,↓reduceIte,g0,g1,and_self,Int.natCast_add,Int.natCast_one]⟩
  · have d0:decide ((i:Int) < (A.length:Int))=false:=decide_eq_false (by omega)
    simp (disch:=omega) only [f26_r4,f26_r8,f26_rs,Option.some.injEq,exists_eq_left',Nat.reduceEqDiff,↓reduceIte,Bool.false_eq_true,g0,g5,hlv,d0,and_self,bz]
end
end Go.Ev
namespace Go.Ev
open Go Go.RowKit
section
variable {fs:T EF} {h h':H}
def bfT (X:List Int) (i:Nat) (a b:Nat):Bool:=(List.range i).any fun j=>decide (X[j]? = some (b:Int)) && (List.range j).any fun t=>decide (X[t]? = some (a:Int))
structure OkT (n:Nat) (X:List Int) (i:Nat):Prop where
  lt:∀ j,j < i → ∃ a:Nat,a < n∧X[j]? = some (a:Int)
  nd:∀ j t,t < j→j < i→X[j]? ≠ X[t]?
end
end Go.Ev
