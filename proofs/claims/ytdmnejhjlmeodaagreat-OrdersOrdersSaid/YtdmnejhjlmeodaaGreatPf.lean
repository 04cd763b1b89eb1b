/-
  Orders: what an arrow forces (an iterator)., and what follows.
-/
import Derived.Test.YtdmnejhjlmeodaaGreatPe
namespace Go.Ev
open Go Go.RowKit
noncomputable def f75_r0:List EOper := [oG 2 (.box 49 (tG 0)),oG 3 (.box 2 (tG 1)),oG 4 (.as (.c .fnil))]
noncomputable def f75_r1:List EOper := [oG 5 (.mkfn (.ofNat 89) [(tG 2),(tG 3)]),oG 4 (.as (tG 5))]
noncomputable def f75_c:EC:=(.seq (.reg f75_r0) (.seq (.reg f75_r1) .ret))
noncomputable def f75:EF:=⟨6, [.tmp (.ofNat 4)],f75_c,none⟩
theorem f75_rs:f75.rs = [.tmp (.ofNat 4)]:=of_eq_true (eq_self _)
noncomputable def f89_r0:List EOper := [oG 5 (.mv (cG 0))]
noncomputable def f89_r1:List EOper := [oG 6 (.bin .lss (tG 5) (cG 7))]
noncomputable def f89_r2:List EOper := [oG 7 (.mv (tG 5)),oG 4 (.as (tG 7))]
noncomputable def f89_r3:List EOper := [oG 8 (.fadr 0 (tG 2)),oG 9 (.ld (tG 8)),oG 10 (.mv (tG 4)),oG 11 (.iadr 7 7 (tG 1) (tG 9)),oG 12 (.iadr 7 1 (tG 11) (tG 10)),oG 13 (.ld (tG 12)),oG 14 (.mv (tG 13)),gG 15 14 true (.fadr 1 (tG 2)),gG 16 14 true (.ld (tG 15)),gG 17 14 true (.mv (tG 4)),gG 18 14 true (.iadr 7 7 (tG 1) (tG 16)),gG 19 14 true (.iadr 7 1 (tG 18) (tG 17)),gG 20 14 true (.ld (tG 19)),gG 21 14 true (.not (tG 20)),oG 22 (.pick (tG 14) (tG 21) (.c (.b false))),oG 23 (.mv (tG 22)),gG 24 23 true (.mv (tG 0)),gG 25 23 true (.fadr 0 (tG 2)),gG 26 23 true (.ld (tG 25)),gG 27 23 true (.mv (tG 4)),gG 28 23 true (.build [(.i .i64 (.ofNat 0)),(.i .i64 (.ofNat 0))] [(0,1,(tG 26)),(1,1,(tG 27))]),gG 29 23 true (.call (tG 24) [(tG 28)]),gG 30 23 true (.not (tG 29)),oG 31 (.pick (tG 23) (tG 30) (.c (.b false)))]
noncomputable def f89_r4:List Stage := [⟨[oG 32 (.mv (tG 4)),oG 33 (.fadr 0 (tG 2)),oG 34 (.ld (tG 33)),oG 35 (.bin .neq (tG 32) (tG 34)),oG 36 (.mv (tG 35)),gG 37 36 true (.mv (tG 4)),gG 38 36 true (.fadr 1 (tG 2)),gG 39 36 true (.ld (tG 38)),gG 40 36 true (.iadr 7 7 (tG 1) (tG 37)),gG 41 36 true (.iadr 7 1 (tG 40) (tG 39)),gG 42 36 true (.ld (tG 41)),oG 43 (.pick (tG 36) (tG 42) (.c (.b false))),oG 44 (.mv (tG 43)),gG 45 44 true (.mv (tG 4)),gG 46 44 true (.fadr 0 (tG 2)),gG 47 44 true (.ld (tG 46)),gG 48 44 true (.iadr 7 7 (tG 1) (tG 45)),gG 49 44 true (.iadr 7 1 (tG 48) (tG 47)),gG 50 44 true (.ld (tG 49)),gG 51 44 true (.not (tG 50)),oG 52 (.pick (tG 44) (tG 51) (.c (.b false))),oG 53 (.mv (tG 52)),gG 54 53 true (.mv (tG 0)),gG 55 53 true (.mv (tG 4)),gG 56 53 true (.fadr 1 (tG 2)),gG 57 53 true (.ld (tG 56)),gG 58 53 true (.build [(.i .i64 (.ofNat 0)),(.i .i64 (.ofNat 0))] [(0,1,(tG 55)),(1,1,(tG 57))])], [],(some (gG 59 53 true (.call (tG 54) [(tG 58)]))), []⟩,⟨[gG 60 53 true (.not (tG 59)),oG 61 (.pick (tG 53) (tG 60) (.c (.b false)))], [],none, []⟩]
noncomputable def f89_r5:List EOper := [oG 62 (.bin .add (tG 5) (cG 1)),oG 5 (.mv (tG 62))]
noncomputable def f89_l0:EC:=(.seq (.reg f89_r1) (.seq (.cond (tG 6) .skip (.exit 0)) (.seq (.block 1 (.seq (.reg f89_r2) (.seq (.seq (.reg f89_r3) (.cond (tG 31) .ret .skip)) (.seq (.draw f89_r4) (.cond (tG 61) .ret .skip))))) (.reg f89_r5))))
noncomputable def f89_c:EC:=(.seq (.reg f89_r0) (.block 0 (.loop f89_l0)))
noncomputable def f89:EF:=⟨63, [],f89_c,none⟩
theorem f89_rs:f89.rs = []:=of_eq_true (eq_self _)
noncomputable def f44_r0:List EOper := [oG 3 (.box 49 (tG 0)),oG 4 (.box 2 (tG 1)),oG 5 (.box 2 (tG 2)),oG 6 (.alloc 1 [(.b false)])]
noncomputable def f44_r1:List EOper := [oG 8 (.ldn 49 (tG 3)),oG 9 (.ldn 2 (tG 4)),oG 10 (.call (fG 75) [(tG 8),(tG 9)])]
noncomputable def f44_r2:List EOper := [oG 7 (.alloc 2 [(.i .i64 (.ofNat 0)),(.i .i64 (.ofNat 0))]),⟨none,none, .st 2 (tG 7) (tG 11)⟩]
noncomputable def f44_a0:EC:=(.reg f44_r2)
noncomputable def f44_r3:List EOper := [oG 12 (.ldn 2 (tG 7)),oG 13 (.ldn 2 (tG 5)),oG 14 (.eqk (.many [(some .i64),(some .i64)]) false (tG 12) (tG 13))]
noncomputable def f44_r4:List EOper := [⟨none,none, .st 1 (tG 6) (.c (.b true))⟩]
noncomputable def f44_b0:EC:=(.block 1 (.seq (.reg f44_r3) (.cond (tG 14) (.seq (.reg f44_r4) .ret) .skip)))
noncomputable def f44_r5:List EOper := [⟨none,none, .st 1 (tG 6) (.c (.b false))⟩]
noncomputable def f44_c:EC:=(.seq (.reg f44_r0) (.seq (.seq (.reg f44_r1) (.block 0 (.rangeF (tG 10) [(.ofNat 11)] f44_a0 f44_b0))) (.seq (.reg f44_r5) .ret)))
noncomputable def f44:EF:=⟨15, [.cell (.ofNat 6)],f44_c,none⟩
theorem f44_rs:f44.rs = [.cell (.ofNat 6)]:=of_eq_true (eq_self _)
section
variable {fs:T EF} {h h':H}
def fcA (L:List Bool) (x y d:Nat):Bool:=rat L x d && !rat L y d
def fcB (L:List Bool) (x y d:Nat):Bool:=decide (d ≠ x) && (rat L d y && !rat L d x)
def fcN (L:List Bool) (x y d:Nat):List (Nat × Nat):=(if fcA L x y d=true then [(x,d)] else []) ++ (if fcB L x y d=true then [(d,y)] else [])
def fcT (L:List Bool) (x y i:Nat):List (Nat × Nat):=(List.range i).flatMap (fcN L x y)
def fcY (L:List Bool) (x y:Nat):List (Nat × Nat):=fcT L x y 7
theorem fcT_succ {L:List Bool} {x y i:Nat}:fcT L x y (i + 1)=fcT L x y i ++ fcN L x y i:=by
  unfold fcT; rw [List.range_succ,List.flatMap_append]; simp
theorem fcT_split {L:List Bool} {x y i:Nat}:∀ k,i < k → ∃ R,fcT L x y k=fcT L x y i ++ (fcN L x y i ++ R)
  | 0,h=>by omega
  | k + 1,h=>by
    rw [fcT_succ]
    by_cases e:i=k
    · subst e; exact ⟨[],by simp⟩
    · obtain ⟨R,hR⟩:=fcT_split (L:=L) (x:=x) (y:=y) (i:=i) k (by omega)
      exact ⟨R ++ fcN L x y k,by rw [hR]; simp⟩
theorem mem_fcY {L:List Bool} {x y:Nat} {p:Nat × Nat}:p ∈ fcY L x y ↔ (p.1=x∧fcA L x y p.2=true) ∨ (p.2=y∧fcB L x y p.1=true):=by
  unfold fcY fcT fcN
  simp only [List.mem_flatMap,List.mem_range,List.mem_append]
  constructor
  · rintro ⟨d,hd,h | h⟩
    · split at h
      · rename_i e; rw [List.mem_singleton] at h; subst h; exact .inl ⟨rfl,e⟩
      · cases h
    · split at h
      · rename_i e; rw [List.mem_singleton] at h; subst h; exact .inr ⟨rfl,e⟩
      · cases h
  · obtain ⟨p1,p2⟩:=p
    rintro (⟨rfl,h⟩ | ⟨rfl,h⟩)
    · have h:fcA L p1 y p2=true:=h
      have l:rat L p1 p2=true:=by unfold fcA at h; simp only [Bool.and_eq_true] at h; exact h.1
      exact ⟨p2,(rat_lt l).2, .inl (by rw [if_pos h]; exact List.mem_singleton.2 rfl)⟩
    · have h:fcB L x p2 p1=true:=h
      have l:rat L p1 p2=true:=by unfold fcB at h; simp only [Bool.and_eq_true] at h; exact h.2.1
      exact ⟨p1,(rat_lt l).1, .inr (by rw [if_pos h]; exact List.mem_singleton.2 rfl)⟩
theorem fcY_lt {L:List Bool} {x y:Nat} (hx:x < 7) (hy:y < 7) {p:Nat × Nat} (h:p ∈ fcY L x y):p.1 < 7∧p.2 < 7∧rat L p.1 p.2=true:=by
  rcases mem_fcY.1 h with ⟨h1,h2⟩ | ⟨h1,h2⟩
  · have l:rat L x p.2=true:=by unfold fcA at h2; simp only [Bool.and_eq_true] at h2; exact h2.1
    rw [h1]; exact ⟨hx,(rat_lt l).2,l⟩
  · have l:rat L p.1 y=true:=by unfold fcB at h2; simp only [Bool.and_eq_true] at h2; exact h2.2.1
    rw [h1]; exact ⟨(rat_lt l).1,hy,l⟩
def fcM (idr ida:K) (L:List Bool) (x y:Nat) (h:H):Prop:=h.get idr=rC L∧h.get ida = .cells 2 [.i .i64 (x:Int), .i .i64 (y:Int)]
def f89_I (id idr ida:K) (L:List Bool) (x y:Nat) (I:Nat→H→Prop) (d:Nat) (fr:Fr) (h1:H):Prop:=d ≤ 7∧I (fcT L x y d).length h1∧fr.get (K.ofNat 0)=some (.yl id)∧fr.get (K.ofNat 1)=some (.p idr 0)∧fr.get (K.ofNat 2)=some (.p ida 0)∧fr.get (K.ofNat 5)=some (.i .i64 (d:Int))
theorem forced_yields {idr ida:K} {L:List Bool} {x y:Nat} (hL:L.length=49) (hx:x < 7) (hy:y < 7) (h102:fs.get (K.ofNat 89)=some f89):YieldsM fs (K.ofNat 89) [.p idr 0, .p ida 0] (fcM idr ida L x y) BA (fcY L x y):=by
  intro id I D h hN h0 round
  refine callP_of (ef:=f89) h102 rfl ?_
  show Ret fs f89 [.yl id, .p idr 0, .p ida 0] h _
  apply ret_of rfl
  show W fs none f89_c _ _ _
  unfold f89_c
  simp (disch:=omega) only [f89_r0,bz]
  refine W_loop (f89_I id idr ida L x y I) (fun d=>7 - d) ?_ 0 ⟨by omega,h0,by simp (disch:=omega) only [getK_set,Nat.reduceEqDiff,↓reduceIte,and_self,Int.natCast_zero]⟩
  rintro d fr h1 ⟨hd,hI,g0,g1,g2,g5⟩
  unfold f89_l0
  by_cases hlt:d < 7
  · have d0:decide ((d:Int) < 7)=true:=decide_eq_true (by omega)
    obtain ⟨er,ea⟩:=(hN _ _ hI).1
    have la0:=ld20 ea
    have la1:=ld21 ea
    have lxd:=rC_ld hx hlt hL er
    have lyd:=rC_ld hy hlt hL er
    obtain ⟨R,hR⟩:=fcT_split (L:=L) (x:=x) (y:=y) (i:=d) 7 hlt
    have hsu:=fcT_succ (L:=L) (x:=x) (y:=y) (i:=d)
    -- behind the first yield
    have rest : ∀ (fr : Fr) (h1 : H) (pre : List (Nat × Nat)), pre = fcT L x y d ++ (if fcA L x y d = true then [(x, d)] else []) → I pre.length h1 → fr.get (K.ofNat 0) = some (.yl id) ∧ fr.get (K.ofNat 1) = some (.p idr 0) ∧ fr.get (K.ofNat 2) = some (.p ida 0) ∧ fr.get (K.ofNat 4) = some (.i .i64 (d : Int)) ∧ fr.get (K.ofNat 5) = some (.i .i64 (d : Int)) →
        XD fs f89_r4 (seqK (W fs none (.cond (.t (K.ofNat 61)) .ret .skip)) (atK 1 (seqK (W fs none (.reg f89_r5)) (loopK (f89_I id idr ida L x y I) (fun d=>7 - d) d (atK 0 (retK f89 fun r h'=>r = .tup []∧((∃ h1,I (fcY L x y).length h1∧Grow h1.nx.nat h1 h') ∨ D h')))))) .normal) fr h1:=by
      clear g0 g1 g2 g5 fr hI la0 la1 lxd lyd er ea h1
      rintro fr h1 pre hpre hI ⟨g0,g1,g2,g4,g5⟩
      obtain ⟨er,ea⟩:=(hN _ _ hI).1
      have la0:=ld20 ea
      have la1:=ld21 ea
      have ldy:=rC_ld hlt hy hL er
      have ldx:=rC_ld hlt hx hL er
      have fin:fcB L x y d=false→fcT L x y (d + 1)=pre:=fun e=>by rw [hsu,hpre]; unfold fcN; rw [if_neg (show ¬ fcB L x y d=true by rw [e]; simp)]; simp
      by_cases e1:d=x
      · have d1:decide ((d:Int) ≠ (x:Int))=false:=decide_eq_false (by omega)
        have hb:fcB L x y d=false:=by unfold fcB; rw [decide_eq_false (by omega)]; rfl
        simp (disch:=omega) only [f89_r4,f89_r5,Nat.reduceEqDiff,↓reduceIte,Bool.false_eq_true,g2,g4,g5,la0,d1,bz]
        exact ⟨d + 1,by omega,by omega,by rw [fin hb]; exact hI,by simp (disch:=omega) only [getK_set,Nat.reduceEqDiff,↓reduceIte,g0,g1,g2,and_self,Int.natCast_add,Int.natCast_one]⟩
      · have d1:decide ((d:Int) ≠ (x:Int))=true:=decide_eq_true (by omega)
        have hb0:fcB L x y d=(rat L d y && !rat L d x):=by unfold fcB; rw [decide_eq_true (by omega),Bool.true_and]
        cases h2:rat L d y with
        | false =>
          rw [h2] at ldy
          have hb:fcB L x y d=false:=by rw [hb0,h2]; rfl
          simp (disch:=omega) only [f89_r4,f89_r5,Nat.reduceEqDiff,↓reduceIte,Bool.false_eq_true,g1,g2,g4,g5,la0,la1,d1,ldy,bz]
          exact ⟨d + 1,by omega,by omega,by rw [fin hb]; exact hI,by simp (disch:=omega) only [getK_set,Nat.reduceEqDiff,↓reduceIte,g0,g1,g2,and_self,Int.natCast_add,Int.natCast_one]⟩
        | true =>
          rw [h2] at ldy
          cases h3:rat L d x with
          | true =>
            rw [h3] at ldx
            have hb:fcB L x y d=false:=by rw [hb0,h2,h3]; rfl
            simp (disch:=omega) only [f89_r4,f89_r5,Nat.reduceEqDiff,↓reduceIte,Bool.false_eq_true,Bool.not_true,g1,g2,g4,g5,la0,la1,d1,ldy,ldx,bz]
            exact ⟨d + 1,by omega,by omega,by rw [fin hb]; exact hI,by simp (disch:=omega) only [getK_set,Nat.reduceEqDiff,↓reduceIte,g0,g1,g2,and_self,Int.natCast_add,Int.natCast_one]⟩
          | false =>
            rw [h3] at ldx
            have hb:fcB L x y d=true:=by rw [hb0,h2,h3]; rfl
            have hsp:fcY L x y=pre ++ ((d,y) :: R):=by
              unfold fcY; rw [hR,hpre]; unfold fcN; rw [if_pos hb]; simp
            have hi:pre.length < (fcY L x y).length:=by rw [hsp]; simp
            have hg:(fcY L x y)[pre.length]=(d,y):=by simp [hsp]
            obtain ⟨r,h',⟨n,hn⟩,hT,hF⟩:=round pre.length h1 h1 (aV (d,y)) hi hI (Grow.refl _ _) (by show aV (d,y)=aV _; rw [hg]) (fun _ _ _ _ e=>by cases e)
            have hnx:fcT L x y (d + 1)=pre ++ [(d,y)]:=by rw [hsu,hpre]; unfold fcN; rw [if_pos hb]; simp
            have hav:V.agg [.i .i64 (d:Int), .i .i64 (y:Int)]=aV (d,y):=rfl
            simp (disch:=omega) only [f89_r4,Nat.reduceEqDiff,↓reduceIte,Bool.not_false,g0,g1,g2,g4,la0,la1,d1,ldy,ldx,hav,bz]
            refine ⟨n,_,_,hn,?_⟩
            cases r with
            | true =>
              simp (disch:=omega) only [f89_r5,Nat.reduceEqDiff,↓reduceIte,Bool.false_eq_true,Bool.not_true,g5,bz]
              exact ⟨d + 1,by omega,by omega,by rw [hnx,List.length_append]; exact hT rfl,by simp (disch:=omega) only [getK_set,Nat.reduceEqDiff,↓reduceIte,g0,g1,g2,and_self,Int.natCast_add,Int.natCast_one]⟩
            | false =>
              simp (disch:=omega) only [f89_rs,Option.some.injEq,exists_eq_left',Nat.reduceEqDiff,↓reduceIte,Bool.not_false,bz]
              exact .inr (hF rfl)
    cases h2:rat L x d with
    | false =>
      rw [h2] at lxd
      have hb:¬ fcA L x y d=true:=by unfold fcA; rw [h2]; simp
      simp (disch:=omega) only [f89_r1,f89_r2,f89_r3,Nat.reduceEqDiff,↓reduceIte,Bool.false_eq_true,g1,g2,g5,d0,la0,lxd,bz]
      exact rest _ _ _ (by rw [if_neg hb,List.append_nil]) hI (by simp (disch:=omega) only [getK_set,Nat.reduceEqDiff,↓reduceIte,g0,g1,g2,g5,and_self])
    | true =>
      rw [h2] at lxd
      cases h3:rat L y d with
      | true =>
        rw [h3] at lyd
        have hb:¬ fcA L x y d=true:=by unfold fcA; rw [h2,h3]; simp
        simp (disch:=omega) only [f89_r1,f89_r2,f89_r3,Nat.reduceEqDiff,↓reduceIte,Bool.false_eq_true,Bool.not_true,g1,g2,g5,d0,la0,la1,lxd,lyd,bz]
        exact rest _ _ _ (by rw [if_neg hb,List.append_nil]) hI (by simp (disch:=omega) only [getK_set,Nat.reduceEqDiff,↓reduceIte,g0,g1,g2,g5,and_self])
      | false =>
        rw [h3] at lyd
        have hb:fcA L x y d=true:=by unfold fcA; rw [h2,h3]; rfl
        have hsp:fcY L x y=fcT L x y d ++ ((x,d) :: ((if fcB L x y d=true then [(d,y)] else []) ++ R)):=by
          unfold fcY; rw [hR]; unfold fcN; rw [if_pos hb]; simp
        have hi:(fcT L x y d).length < (fcY L x y).length:=by rw [hsp]; simp
        have hg:(fcY L x y)[(fcT L x y d).length]=(x,d):=by simp [hsp]
        obtain ⟨r,h',⟨n,hn⟩,hT,hF⟩:=round (fcT L x y d).length h1 h1 (aV (x,d)) hi hI (Grow.refl _ _) (by show aV (x,d)=aV _; rw [hg]) (fun _ _ _ _ e=>by cases e)
        have hav:V.agg [.i .i64 (x:Int), .i .i64 (d:Int)]=aV (x,d):=rfl
        simp (disch:=omega) only [f89_r1,f89_r2,f89_r3,Nat.reduceEqDiff,↓reduceIte,Bool.not_false,g0,g1,g2,g5,d0,la0,la1,lxd,lyd,hav,bz]
        refine ⟨n,_,_,hn,?_⟩
        cases r with
        | true =>
          simp (disch:=omega) only [Nat.reduceEqDiff,↓reduceIte,Bool.false_eq_true,Bool.not_true,bz]
          exact rest _ _ (fcT L x y d ++ [(x,d)]) (by rw [if_pos hb]) (by rw [List.length_append]; exact hT rfl) (by simp (disch:=omega) only [getK_set,Nat.reduceEqDiff,↓reduceIte,g0,g1,g2,g5,and_self])
        | false =>
          simp (disch:=omega) only [f89_rs,Option.some.injEq,exists_eq_left',Nat.reduceEqDiff,↓reduceIte,Bool.not_false,bz]
          exact .inr (hF rfl)
  · have d0:decide ((d:Int) < 7)=false:=decide_eq_false (by omega)
    have e7:d=7:=by omega
    subst e7
    simp (disch:=omega) only [f89_r1,f89_rs,Option.some.injEq,exists_eq_left',↓reduceIte,Bool.false_eq_true,g5,d0,bz]
    exact .inl ⟨h1,hI,Grow.refl _ _⟩
theorem f75_ret {L:List Bool} {x:Nat × Nat} (hL:L.length=49) (hc:HC h):Ret fs f75 [rV L,aV x] h fun r h'=>∃ idr ida,r = .fn (.ofNat 89) [.p idr 0, .p ida 0]∧h.nx.nat ≤ idr.nat∧h.nx.nat ≤ ida.nat∧idr.nat < h'.nx.nat∧ida.nat < h'.nx.nat∧Grow h.nx.nat h h'∧h'.get idr=rC L∧h'.get ida = .cells 2 [.i .i64 (x.1:Int), .i .i64 (x.2:Int)]:=by
  have _:=hc
  apply ret_of rfl
  show W fs none f75_c _ _ _
  unfold f75_c
  have c1:=rC_cells hL
  have c2:cellsN 2 (aV x)=some [.i .i64 (x.1:Int), .i .i64 (x.2:Int)]:=rfl
  have n1:=nx_new h (.cells 49 (L.map V.b))
  have gr1:Grow h.nx.nat h (h.new (.cells 49 (L.map V.b))):=Grow.new (Nat.le_refl _) _
  have e1:(h.new (.cells 49 (L.map V.b))).get h.nx=rC L:=get_new_same
  simp (disch:=omega) only [f75_r0,f75_r1,f75_rs,x_mkfn,Option.some.injEq,exists_eq_left',Nat.reduceEqDiff,↓reduceIte,c1,c2,bz]
  generalize h.new (.cells 49 (L.map V.b))=h1 at *
  have n2:=nx_new h1 (.cells 2 [.i .i64 (x.1:Int), .i .i64 (x.2:Int)])
  have gr2:Grow h1.nx.nat h1 (h1.new (.cells 2 [.i .i64 (x.1:Int), .i .i64 (x.2:Int)])):=Grow.new (Nat.le_refl _) _
  exact ⟨h.nx,h1.nx,rfl,Nat.le_refl _,by omega,by omega,by omega,gr1.trans (gr2.low (by omega)),(gr2.old _ (by omega)).trans e1,get_new_same⟩
theorem keyEq_aV {x y:Nat × Nat} (hx:x.1 < 7∧x.2 < 7) (hy:y.1 < 7∧y.2 < 7):keyEq (.many [some .i64,some .i64]) (aV x) (aV y)=some (decide (x=y)):=by
  have r:∀ n:Nat,n < 7→inR .i64 (n:Int)=true:=fun n hn=>by
    show Nat.ble n (kmax .i64)=true
    exact Nat.ble_eq_true_of_le (by show n ≤ 9223372036854775807; omega)
  have:=keyEq_2 (r _ hx.1) (r _ hx.2) (r _ hy.1) (r _ hy.2)
  rw [show keyEq (.many [some .i64,some .i64]) (aV x) (aV y)=_ from this]
  congr 1
  rw [← Bool.decide_and]
  exact decide_eq_decide.2 ⟨fun h=>Prod.ext (by omega) (by omega),fun h=>by rw [h]; exact ⟨rfl,rfl⟩⟩
theorem f44_ret {L:List Bool} {x y:Nat × Nat} (h86:fs.get (.ofNat 75)=some f75) (h102:fs.get (.ofNat 89)=some f89) (hL:L.length=49) (hx:x.1 < 7∧x.2 < 7) (hy:y.1 < 7∧y.2 < 7) (hc:HC h):Ret fs f44 [rV L,aV x,aV y] h fun r _=>r = .b (decide (y ∈ fcY L x.1 x.2)):=by
  apply ret_of rfl
  show W fs none f44_c _ _ _
  unfold f44_c
  have c1:=rC_cells hL
  have c2:cellsN 2 (aV x)=some [.i .i64 (x.1:Int), .i .i64 (x.2:Int)]:=rfl
  have c3:cellsN 2 (aV y)=some [.i .i64 (y.1:Int), .i .i64 (y.2:Int)]:=rfl
  have n1:=nx_new h (.cells 49 (L.map V.b))
  have gr1:Grow h.nx.nat h (h.new (.cells 49 (L.map V.b))):=Grow.new (Nat.le_refl _) _
  have e1:(h.new (.cells 49 (L.map V.b))).get h.nx=rC L:=get_new_same
  simp (disch:=omega) only [f44_r0,Nat.reduceEqDiff,↓reduceIte,c1,c2,c3,bz]
  generalize h.new (.cells 49 (L.map V.b))=h1 at *
  have n2:=nx_new h1 (.cells 2 [.i .i64 (x.1:Int), .i .i64 (x.2:Int)])
  have gr2:Grow h1.nx.nat h1 (h1.new (.cells 2 [.i .i64 (x.1:Int), .i .i64 (x.2:Int)])):=Grow.new (Nat.le_refl _) _
  have e2:(h1.new (.cells 2 [.i .i64 (x.1:Int), .i .i64 (x.2:Int)])).get h1.nx = .cells 2 [.i .i64 (x.1:Int), .i .i64 (x.2:Int)]:=get_new_same
  generalize h1.new (.cells 2 [.i .i64 (x.1:Int), .i .i64 (x.2:Int)])=h2 at *
  have n3:=nx_new h2 (.cells 2 [.i .i64 (y.1:Int), .i .i64 (y.2:Int)])
  have gr3:Grow h2.nx.nat h2 (h2.new (.cells 2 [.i .i64 (y.1:Int), .i .i64 (y.2:Int)])):=Grow.new (Nat.le_refl _) _
  have e3:(h2.new (.cells 2 [.i .i64 (y.1:Int), .i .i64 (y.2:Int)])).get h2.nx = .cells 2 [.i .i64 (y.1:Int), .i .i64 (y.2:Int)]:=get_new_same
  generalize h2.new (.cells 2 [.i .i64 (y.1:Int), .i .i64 (y.2:Int)])=h3 at *
  have n4:=nx_new h3 (.cells 1 [.b false])
  have gr4:Grow h3.nx.nat h3 (h3.new (.cells 1 [.b false])):=Grow.new (Nat.le_refl _) _
  have e4:(h3.new (.cells 1 [.b false])).get h3.nx = .cells 1 [.b false]:=get_new_same
  generalize h3.new (.cells 1 [.b false])=h4 at *
  have hc4:=gr4.hc (gr3.hc (gr2.hc (gr1.hc hc)))
  have e1':=(gr4.old h.nx (by omega)).trans ((gr3.old h.nx (by omega)).trans ((gr2.old h.nx (by omega)).trans e1))
  have e2':=(gr4.old h1.nx (by omega)).trans ((gr3.old h1.nx (by omega)).trans e2)
  have e3':=(gr4.old h2.nx (by omega)).trans e3
  have hav:V.agg [.i .i64 (x.1:Int), .i .i64 (x.2:Int)]=aV x:=rfl
  simp (disch:=omega) only [f44_r1,Nat.reduceEqDiff,↓reduceIte,rC_ldn hL e1',ldn2 e2',hav,bz]
  refine (callP_0 (ef:=f75) h86 rfl (f75_ret hL hc4)).mono ?_
  rintro r h5 ⟨idr,ida,rfl,o1,o2,o3,o4,gr5,er,ea⟩
  have hc5:=gr5.hc hc4
  have e3'':=(gr5.old h2.nx (by omega)).trans e3'
  have e4':=(gr5.old h3.nx (by omega)).trans e4
  have n5:=gr5.nx
  simp (disch:=omega) only [bz]
  generalize hfr:T.set (K.ofNat 10) _ _=fr
  have g3:fr.get (K.ofNat 3)=some (.p h.nx 0):=by rw [← hfr]; simp only [getK_set,Nat.reduceEqDiff,↓reduceIte]
  have g4:fr.get (K.ofNat 4)=some (.p h1.nx 0):=by rw [← hfr]; simp only [getK_set,Nat.reduceEqDiff,↓reduceIte]
  have g5:fr.get (K.ofNat 5)=some (.p h2.nx 0):=by rw [← hfr]; simp only [getK_set,Nat.reduceEqDiff,↓reduceIte]
  have g6:fr.get (K.ofNat 6)=some (.p h3.nx 0):=by rw [← hfr]; simp only [getK_set,Nat.reduceEqDiff,↓reduceIte]
  have g10:fr.get (K.ofNat 10)=some (.fn (K.ofNat 89) [.p idr 0, .p ida 0]):=by rw [← hfr]; simp only [getK_set,↓reduceIte]
  clear hfr
  refine W_itr (by simp (disch:=omega) only [ev_t,getV_some,g10]) (forced_yields hL hx.1 hx.2 h102) (fun id=>id=h3.nx) (fun i h6=>y ∉ (fcY L x.1 x.2).take i∧h6.get h3.nx = .cells 1 [.b false]) (fun e h6=>e = .ret∧y ∈ fcY L x.1 x.2∧h6.get h3.nx = .cells 1 [.b true]) hc5 rfl (by rintro id rfl; omega)
    (fun h6 ks=>⟨(ks.old _ (by omega) (fun e=>by have:=congrArg K.nat e; omega)).trans er,(ks.old _ (by omega) (fun e=>by have:=congrArg K.nat e; omega)).trans ea⟩) ?_ ?_ ?_ ?_ ?_ ?_
  · rintro i h6 h7 ⟨he,q2⟩ _ hn ho
    exact ⟨he,by rw [ho _ (by omega) (kNe (by omega))]; exact q2⟩
  · rintro e h6 h7 ⟨he,q1,q2⟩ _ hn ho
    exact ⟨he,q1,by rw [ho _ (by omega) (kNe (by omega))]; exact q2⟩
  · exact fun h6 hg=>⟨by simp,(hg.old _ (by omega)).trans e4'⟩
  · rintro i ⟨a,b⟩ h6 hxi hk hn ⟨q1,q2⟩
    obtain ⟨hst,gB,c7,n7⟩:=arr_var (h:=h6) (x:=a) (y:=b)
    obtain ⟨ha,hb,_⟩:=fcY_lt hx.1 hx.2 (List.mem_of_getElem? hxi)
    have b2:=(gB.old h3.nx (by omega)).trans q2
    have b3:=(gB.old h2.nx (by omega)).trans ((hk.old h2.nx (by omega) (fun e=>by have:=congrArg K.nat e; omega)).trans e3'')
    unfold f44_a0
    simp (disch:=omega) only [f44_r2,Nat.reduceEqDiff,↓reduceIte,hst,itA_n,bz]
    generalize (h6.new (.cells 2 [.i .i64 0, .i .i64 0])).put h6.nx (.cells 2 [.i .i64 (a:Int), .i .i64 (b:Int)])=h7 at *
    refine ⟨gB,fun h8 n8 hc8 o8 _=>?_⟩
    have n8':h8.nx.nat=h7.nx.nat:=congrArg K.nat n8
    have l1:=ldn2 ((o8 _ (kNe hn).symm).trans c7)
    have b2':=(o8 h3.nx (kNe (by omega))).trans b2
    have l2:=ldn2 ((o8 h2.nx (kNe (by omega))).trans b3)
    have ht:(fcY L x.1 x.2).take (i + 1)=(fcY L x.1 x.2).take i ++ [(a,b)]:=by rw [List.take_add_one,hxi]; rfl
    have hq:=keyEq_aV (x:=(a,b)) (y:=y) ⟨ha,hb⟩ hy
    have hav1:V.agg [.i .i64 (a:Int), .i .i64 (b:Int)]=aV (a,b):=rfl
    have hav2:V.agg [.i .i64 (y.1:Int), .i .i64 (y.2:Int)]=aV y:=rfl
    unfold f44_b0
    by_cases e:(a,b)=y
    · have d0:decide ((a,b)=y)=true:=decide_eq_true e
      rw [d0] at hq
      have s1:storeV h8 1 (.p h3.nx 0) (.b true) = .ok undefV (h8.put h3.nx (.cells 1 [.b true])):=st1 b2' rfl
      simp (disch:=omega) only [f44_r3,f44_r4,Nat.reduceEqDiff,↓reduceIte,g5,g6,l1,l2,hav1,hav2,hq,s1,cond_false,itC_r,bz]
      refine ⟨⟨by rw [← e]; exact List.mem_of_getElem? hxi,get_put_same⟩,?_⟩
      have hk8:Kr (fun id=>id=h3.nx) h5.nx h8 h8:=Kr.refl hc8
      exact hk8.put (by omega) (.inl rfl) _
    · have d0:decide ((a,b)=y)=false:=decide_eq_false e
      rw [d0] at hq
      simp (disch:=omega) only [f44_r3,Nat.reduceEqDiff,↓reduceIte,Bool.false_eq_true,g5,l1,l2,hav1,hav2,hq,cond_false,itC_n,bz]
      refine ⟨⟨by rw [ht,List.mem_append,List.mem_singleton]; exact fun h=>h.elim q1 (fun h=>e h.symm),b2'⟩,Kr.refl hc8⟩
  · rintro h6 ⟨q1,q2⟩ hk hn
    rw [List.take_length] at q1
    have s1:storeV h6 1 (.p h3.nx 0) (.b false) = .ok undefV (h6.put h3.nx (.cells 1 [.b false])):=st1 q2 rfl
    have r1:readP (h6.put h3.nx (.cells 1 [.b false])) (.p h3.nx 0) one? = some (.b false):=rd1 get_put_same
    simp (disch:=omega) only [f44_r5,f44_rs,readRs_c,Option.some.injEq,exists_eq_left',g6,s1,r1,bz]
    rw [decide_eq_false q1]
  · rintro e h6 _ ⟨rfl,q1,q2⟩ hk hn
    have r1:readP h6 (.p h3.nx 0) one? = some (.b true):=rd1 q2
    simp (disch:=omega) only [f44_rs,readRs_c,Option.some.injEq,exists_eq_left',g6,r1,bz]
    rw [decide_eq_true q1]
end
end Go.Ev
namespace Go.Ev
open Go Go.RowKit
noncomputable def f46_r0:List EOper := [oG 2 (.box 49 (tG 0)),oG 3 (.box 2 (tG 1)),oG 4 (.alloc 49 (List.replicate 49 (.b false)))]
noncomputable def f46_r1:List EOper := [oG 9 (.ldn 2 (tG 3)),oG 10 (.call (fG 55) [(tG 9)]),oG 11 (.bslice 1 2 [(.i .i64 (.ofNat 0)),(.i .i64 (.ofNat 0))] [(0,2,(tG 10))]),oG 12 (.call (fG 38) [(tG 11)]),oG 5 (.alloc 49 (List.replicate 49 (.b false))),⟨none,none, .st 49 (tG 5) (tG 12)⟩]
noncomputable def f46_r2:List EOper := [oG 13 (.ldn 49 (tG 5)),oG 6 (.alloc 49 (List.replicate 49 (.b false))),⟨none,none, .st 49 (tG 6) (tG 13)⟩]
noncomputable def f46_r3:List EOper := [oG 14 (.ldn 49 (tG 5)),oG 15 (.call (fG 76) [(tG 14)])]
noncomputable def f46_r4:List EOper := [oG 7 (.alloc 2 [(.i .i64 (.ofNat 0)),(.i .i64 (.ofNat 0))]),⟨none,none, .st 2 (tG 7) (tG 16)⟩]
noncomputable def f46_a0:EC:=(.reg f46_r4)
noncomputable def f46_r5:List EOper := [oG 17 (.ldn 49 (tG 2)),oG 18 (.ldn 2 (tG 7)),oG 19 (.call (fG 75) [(tG 17),(tG 18)])]
noncomputable def f46_r6:List EOper := [oG 8 (.alloc 2 [(.i .i64 (.ofNat 0)),(.i .i64 (.ofNat 0))]),⟨none,none, .st 2 (tG 8) (tG 20)⟩]
noncomputable def f46_a1:EC:=(.reg f46_r6)
noncomputable def f46_r7:List Stage := [⟨[oG 21 (.fadr 0 (tG 8)),oG 22 (.ld (tG 21)),oG 23 (.fadr 1 (tG 8)),oG 24 (.ld (tG 23)),oG 25 (.iadr 7 7 (tG 6) (tG 22)),oG 26 (.iadr 7 1 (tG 25) (tG 24))], [],(some ⟨none,none, .st 1 (tG 26) (.c (.b true))⟩), []⟩,⟨[], [],none, []⟩]
noncomputable def f46_b0:EC:=(.block 5 (.draw f46_r7))
noncomputable def f46_b1:EC:=(.block 3 (.seq (.reg f46_r5) (.block 4 (.rangeF (tG 19) [(.ofNat 20)] f46_a1 f46_b0))))
noncomputable def f46_r8:List EOper := [oG 27 (.ldn 49 (tG 6)),oG 28 (.ldn 49 (tG 5)),oG 29 (.eqk (.many (List.replicate 49 none)) false (tG 27) (tG 28))]
noncomputable def f46_r9:List EOper := [oG 30 (.ldn 49 (tG 5)),⟨none,none, .st 49 (tG 4) (tG 30)⟩]
noncomputable def f46_r10:List EOper := [oG 31 (.ldn 49 (tG 6)),⟨none,none, .st 49 (tG 5) (tG 31)⟩]
noncomputable def f46_l0:EC:=(.block 1 (.seq (.reg f46_r2) (.seq (.seq (.reg f46_r3) (.block 2 (.rangeF (tG 15) [(.ofNat 16)] f46_a0 f46_b1))) (.seq (.seq (.reg f46_r8) (.cond (tG 29) (.seq (.reg f46_r9) .ret) .skip)) (.reg f46_r10)))))
noncomputable def f46_c:EC:=(.seq (.reg f46_r0) (.seq (.reg f46_r1) (.block 0 (.loop f46_l0))))
noncomputable def f46:EF:=⟨32, [.celln (.ofNat 4) 49],f46_c,none⟩
theorem f46_rs:f46.rs = [.celln (.ofNat 4) 49]:=of_eq_true (eq_self _)
section
variable {fs:T EF} {h h':H}
theorem Sk.lit2o {x:Int × Int}:Sk 2 qE (h.new (.cells (1 * 2) [.i .i64 x.1, .i .i64 x.2])) (.sl h.nx 0 1 2) [x] := .inr ⟨h.nx,0,1 * 2,_,rfl,get_new_same,rfl,by simp,rfl⟩
theorem Sk.srpo {v:V} {L:List (Int × Int)} (hs:Sk 2 qE h v L):Srp h v L:=by
  rcases hs with ⟨rfl,rfl⟩ | ⟨id,off,m,cs,rfl,h1,h2,h3,h4⟩
  · exact .inl ⟨rfl,rfl,rfl⟩
  · exact .inr ⟨id,off,m,cs,rfl, .inl h1,h2,h3,h4⟩
def Er (L:List Bool) (a b:Nat):Prop:=rat L a b=true
open Classical in
noncomputable def clsR (L:List Bool) (x:Nat × Nat):List Bool:=rl fun a b=>decide (Rch (Er L) x.1 x.2 a b)
theorem clsR_len {L:List Bool} {x:Nat × Nat}:(clsR L x).length=49:=rl_len
theorem clsR_iff {L:List Bool} {x:Nat × Nat} (hx:x.1 < 7∧x.2 < 7) {a b:Nat}:rat (clsR L x) a b=true ↔ Rch (Er L) x.1 x.2 a b:=by
  unfold clsR
  rw [rat_rl]
  simp only [Bool.and_eq_true,decide_eq_true_eq]
  refine ⟨fun h=>h.2,fun h=>⟨?_,h⟩⟩
  cases h with
  | refl=>exact hx
  | out _ h1 _=>exact rat_lt h1
  | inn _ h1 _=>exact rat_lt h1
def cntT (C:List Bool):Nat:=C.count true
theorem cntT_le {C:List Bool} (h:C.length=49):cntT C ≤ 49:=by unfold cntT; rw [← h]; exact List.count_le_length
theorem cntT_lt:∀ {C D:List Bool},C.length=D.length→(∀ i (h1:i < C.length) (h2:i < D.length),C[i]=true→D[i]=true)→cntT C ≤ cntT D∧(C ≠ D→cntT C < cntT D)
  | [], [],_,_=>⟨Nat.le_refl _,fun h=>absurd rfl h⟩
  | [],_ :: _,h,_=>by simp at h
  | _ :: _, [],h,_=>by simp at h
  | x :: C,y :: D,hl,hi=>by
    obtain ⟨h1,h2⟩:=cntT_lt (C:=C) (D:=D) (by simpa using hl) fun i q1 q2 hq=>hi (i + 1) (by simpa using q1) (by simpa using q2) hq
    have h0:=hi 0 (by simp) (by simp)
    simp only [List.getElem_cons_zero] at h0
    unfold cntT at h1 h2 ⊢
    rw [List.count_cons,List.count_cons]
    cases x <;> cases y <;> simp_all
    · omega
def clP (L C:List Bool) (i:Nat) (a b:Nat):Bool:=rat C a b || ((arw (rat C)).take i).any fun p=>decide ((a,b) ∈ fcY L p.1 p.2)
def clN (L C:List Bool):List Bool:=rl (clP L C (arw (rat C)).length)
theorem clP_succ {L C:List Bool} {i:Nat} {x:Nat × Nat} (hx:(arw (rat C))[i]? = some x):rl (onF (fcY L x.1 x.2) true (clP L C i))=rl (clP L C (i + 1)):=by
  refine rl_congr fun a b _ _=>?_
  unfold onF clP
  rw [List.take_add_one,hx]
  simp only [Option.toList_some,List.any_append,List.any_cons,List.any_nil,Bool.or_false]
  by_cases e:(a,b) ∈ fcY L x.1 x.2
  · rw [if_pos e,decide_eq_true e]; simp
  · rw [if_neg e,decide_eq_false e]; simp
theorem clN_iff {L C:List Bool} {a b:Nat}:rat (clN L C) a b=true ↔ a < 7∧b < 7∧(rat C a b=true ∨ ∃ p:Nat × Nat,rat C p.1 p.2=true∧(a,b) ∈ fcY L p.1 p.2):=by
  unfold clN clP
  rw [rat_rl,List.take_length]
  simp only [Bool.and_eq_true,decide_eq_true_eq,Bool.or_eq_true,List.any_eq_true,and_assoc]
  refine and_congr Iff.rfl (and_congr Iff.rfl (or_congr Iff.rfl ⟨?_,?_⟩))
  · rintro ⟨⟨p,q⟩,h1,h2⟩
    exact ⟨(p,q),(mem_arw.1 h1).2.2,h2⟩
  · rintro ⟨⟨p,q⟩,h1,h2⟩
    exact ⟨(p,q),mem_arw.2 ⟨(rat_lt h1).1,(rat_lt h1).2,h1⟩,h2⟩
structure ClI (L:List Bool) (x:Nat × Nat) (C:List Bool):Prop where
  len:C.length=49
  beg:rat C x.1 x.2=true
  inn:∀ a b,rat C a b=true→Rch (Er L) x.1 x.2 a b
theorem ClI.step {L C:List Bool} {x:Nat × Nat} (k:ClI L x C):ClI L x (clN L C):=by
  refine ⟨rl_len,clN_iff.2 ⟨(rat_lt k.beg).1,(rat_lt k.beg).2, .inl k.beg⟩,fun a b h=>?_⟩
  rcases (clN_iff.1 h).2.2 with h | ⟨p,h1,h2⟩
  · exact k.inn _ _ h
  · have:=k.inn _ _ h1
    rcases mem_fcY.1 h2 with ⟨e,h3⟩ | ⟨e,h3⟩
    · unfold fcA at h3
      simp only [Bool.and_eq_true,Bool.not_eq_true'] at h3
      have e:a=p.1:=e
      rw [e]
      exact this.out h3.1 (fun h=>by have h:rat L p.2 b=true:=h; rw [h3.2] at h; cases h)
    · unfold fcB at h3
      simp only [Bool.and_eq_true,Bool.not_eq_true'] at h3
      have e:b=p.2:=e
      rw [e]
      exact this.inn h3.2.1 (fun h=>by have h:rat L a p.1=true:=h; rw [h3.2.2] at h; cases h)
theorem ClI.fin {L C:List Bool} {x:Nat × Nat} (k:ClI L x C) (he:clN L C=C):C=clsR L x:=by
  have hx:=rat_lt k.beg
  refine rel_ext k.len clsR_len fun a b _ _=>?_
  rw [Bool.eq_iff_iff,clsR_iff hx]
  have cl:∀ {c d:Nat} {p:Nat × Nat},rat C c d=true→p ∈ fcY L c d→rat C p.1 p.2=true:=fun {c d p} h1 h2=>by
    have l:=fcY_lt (rat_lt h1).1 (rat_lt h1).2 h2
    have:rat (clN L C) p.1 p.2=true:=clN_iff.2 ⟨l.1,l.2.1, .inr ⟨(c,d),h1,h2⟩⟩
    rw [he] at this
    exact this
  refine ⟨k.inn a b,fun h=>?_⟩
  have all:∀ {a b:Nat},Rch (Er L) x.1 x.2 a b→rat C a b=true:=fun {a b} h=>by
    induction h with
    | refl=>exact k.beg
    | @out c d e _ h1 h2 ih =>
      have h2:¬ rat L d e=true:=h2
      have h1:rat L c e=true:=h1
      exact cl (p:=(c,e)) ih (mem_fcY.2 (.inl ⟨rfl,by unfold fcA; rw [h1]; simpa using h2⟩))
    | @inn c d e _ h1 h2 ih =>
      have h2:¬ rat L e c=true:=h2
      have h1:rat L e d=true:=h1
      by_cases ee:e=c
      · rw [ee]; exact ih
      · exact cl (p:=(e,d)) ih (mem_fcY.2 (.inr ⟨rfl,by unfold fcB; rw [h1,decide_eq_true ee]; simpa using h2⟩))
  exact all h
theorem clN_cnt {L C:List Bool} (hC:C.length=49):C ≠ clN L C→cntT C < cntT (clN L C):=by
  refine (cntT_lt (by rw [hC]; exact rl_len.symm) fun i h1 h2 hi=>?_).2
  have hi49:i < 49:=by omega
  have e:∀ (M:List Bool) (hM:M.length=49),M[i]'(by omega)=rat M (i / 7) (i % 7):=fun M hM=>by
    unfold rat
    rw [decide_eq_true (show i / 7 < 7 by omega),decide_eq_true (show i % 7 < 7 by omega),show 7 * (i / 7) + i % 7=i by omega,List.getD_eq_getElem?_getD,List.getElem?_eq_getElem (show i < M.length by omega)]
    rfl
  rw [e _ hC] at hi
  rw [e _ (show (clN L C).length=49 from rl_len)]
  exact clN_iff.2 ⟨by omega,by omega, .inl hi⟩
def f46_I (h0:H) (id2 id4 id5:K) (L:List Bool) (x:Nat × Nat) (C:List Bool) (fr:Fr) (h1:H):Prop:=ClI L x C∧Kp id5 h0 h1∧h1.get id5=rC C∧fr.get (K.ofNat 2)=some (.p id2 0)∧fr.get (K.ofNat 4)=some (.p id4 0)∧fr.get (K.ofNat 5)=some (.p id5 0)
theorem f46_ret {L:List Bool} {x:Nat × Nat} (k:Nat3 fs) (h86:fs.get (.ofNat 75)=some f75) (h102:fs.get (.ofNat 89)=some f89) (hL:L.length=49) (hx:x.1 < 7∧x.2 < 7) (hc:HC h):Ret fs f46 [rV L,aV x] h fun r _=>r=rV (clsR L x):=by
  apply ret_of rfl
  show W fs none f46_c _ _ _
  unfold f46_c
  have c1:=rC_cells hL
  have c2:cellsN 2 (aV x)=some [.i .i64 (x.1:Int), .i .i64 (x.2:Int)]:=rfl
  have n1:=nx_new h (.cells 49 (L.map V.b))
  have gr1:Grow h.nx.nat h (h.new (.cells 49 (L.map V.b))):=Grow.new (Nat.le_refl _) _
  have e1:(h.new (.cells 49 (L.map V.b))).get h.nx=rC L:=get_new_same
  simp (disch:=omega) only [f46_r0,Nat.reduceEqDiff,↓reduceIte,c1,c2,bz]
  generalize h.new (.cells 49 (L.map V.b))=h1 at *
  have n2:=nx_new h1 (.cells 2 [.i .i64 (x.1:Int), .i .i64 (x.2:Int)])
  have gr2:Grow h1.nx.nat h1 (h1.new (.cells 2 [.i .i64 (x.1:Int), .i .i64 (x.2:Int)])):=Grow.new (Nat.le_refl _) _
  have e2:(h1.new (.cells 2 [.i .i64 (x.1:Int), .i .i64 (x.2:Int)])).get h1.nx = .cells 2 [.i .i64 (x.1:Int), .i .i64 (x.2:Int)]:=get_new_same
  generalize h1.new (.cells 2 [.i .i64 (x.1:Int), .i .i64 (x.2:Int)])=h2 at *
  have n3:=nx_new h2 (.cells 49 (List.replicate 49 (.b false)))
  have gr3:Grow h2.nx.nat h2 (h2.new (.cells 49 (List.replicate 49 (.b false)))):=Grow.new (Nat.le_refl _) _
  have e3:(h2.new (.cells 49 (List.replicate 49 (.b false)))).get h2.nx=rC (rl fun _ _=>false):=by rw [rl_false]; exact get_new_same
  generalize h2.new (.cells 49 (List.replicate 49 (.b false)))=h3 at *
  have hc3:=gr3.hc (gr2.hc (gr1.hc hc))
  have e1':=(gr3.old h.nx (by omega)).trans ((gr2.old h.nx (by omega)).trans e1)
  have e2':=(gr3.old h1.nx (by omega)).trans e2
  have hav:V.agg [.i .i64 (x.1:Int), .i .i64 (x.2:Int)]=pV ((x.1:Int),(x.2:Int)):=rfl
  have n4:=nx_new h3 (.cells (1 * 2) [.i .i64 (x.1:Int), .i .i64 (x.2:Int)])
  have gr4:Grow h3.nx.nat h3 (h3.new (.cells (1 * 2) [.i .i64 (x.1:Int), .i .i64 (x.2:Int)])):=Grow.new (Nat.le_refl _) _
  have hsk:Sk 2 qE (h3.new (.cells (1 * 2) [.i .i64 (x.1:Int), .i .i64 (x.2:Int)])) (.sl h3.nx 0 1 2) [((x.1:Int),(x.2:Int))]:=Sk.lit2o
  have cp:cellsN 2 (pV ((x.1:Int),(x.2:Int)))=some [.i .i64 (x.1:Int), .i .i64 (x.2:Int)]:=rfl
  have sp:setMany [V.i .i64 0,V.i .i64 0] 0 [V.i .i64 (x.1:Int),V.i .i64 (x.2:Int)] = [V.i .i64 (x.1:Int),V.i .i64 (x.2:Int)]:=rfl
  simp (disch:=omega) only [f46_r1,Nat.reduceEqDiff,↓reduceIte,ldn2 e2',hav,k.n55,fill_c,cp,sp,bz]
  have hc4:=gr4.hc hc3
  generalize h3.new (.cells (1 * 2) [.i .i64 (x.1:Int), .i .i64 (x.2:Int)])=h4 at *
  refine (callP_0 (ef:=f38) k.c38 rfl (f38_ret hsk.srpo (fun z hz=>by rw [List.mem_singleton.1 hz]; show ((0:Int) ≤ (x.1:Int)∧(x.1:Int) < 7)∧((0:Int) ≤ (x.2:Int)∧(x.2:Int) < 7); omega) (by simp) hc4)).mono ?_
  rintro r h5 ⟨rfl,gr5⟩
  have n5:=gr5.nx
  have hR:(relR [((x.1:Int),(x.2:Int))]).length=49:=rl_len
  have hCI:ClI L x (relR [((x.1:Int),(x.2:Int))]):=by
    refine ⟨rl_len,?_,fun a b h=>?_⟩
    · unfold relR; rw [rat_rl,decide_eq_true hx.1,decide_eq_true hx.2]; simp
    · unfold relR at h
      rw [rat_rl] at h
      simp only [Bool.and_eq_true,decide_eq_true_eq,List.mem_singleton,Prod.mk.injEq] at h
      rw [show a=x.1 by omega,show b=x.2 by omega]
      exact .refl
  generalize relR [((x.1:Int),(x.2:Int))]=C0 at *
  have n6:=nx_new h5 (.cells 49 (List.replicate 49 (.b false)))
  have s6:=rC_stn hR rl_len (M:=rl fun _ _=>false) (h:=h5.new (.cells 49 (List.replicate 49 (.b false)))) (id:=h5.nx) (by rw [rl_false]; exact get_new_same)
  have gr6:Grow h5.nx.nat h5 ((h5.new (.cells 49 (List.replicate 49 (.b false)))).put h5.nx (rC C0)):=(Grow.new (Nat.le_refl _) _).trans (Grow.put (Nat.le_refl _) (by omega) _)
  have n6':((h5.new (.cells 49 (List.replicate 49 (.b false)))).put h5.nx (rC C0)).nx.nat=h5.nx.nat + 1:=n6
  have e6:((h5.new (.cells 49 (List.replicate 49 (.b false)))).put h5.nx (rC C0)).get h5.nx=rC C0:=get_put_same
  simp (disch:=omega) only [Nat.reduceEqDiff,↓reduceIte,s6,bz]
  generalize (h5.new (.cells 49 (List.replicate 49 (.b false)))).put h5.nx (rC C0)=h6 at *
  have hc6:=gr6.hc (gr5.hc hc4)
  have e1'':h6.get h.nx=rC L:=(gr6.old _ (by omega)).trans ((gr5.old _ (by omega)).trans ((gr4.old _ (by omega)).trans e1'))
  have e3'':h6.get h2.nx=rC (rl fun _ _=>false):=(gr6.old _ (by omega)).trans ((gr5.old _ (by omega)).trans ((gr4.old _ (by omega)).trans e3))
  refine W_loop (f46_I h6 h.nx h2.nx h5.nx L x) (fun C=>49 - cntT C) ?_ C0 ⟨hCI,Kp.refl hc6,e6,by simp (disch:=omega) only [getK_set,Nat.reduceEqDiff,↓reduceIte,and_self]⟩
  clear s6 n6 hCI hR
  rintro C fr h7 ⟨hCI,hk,hB,g2,g4,g5⟩
  have hkn:=hk.nx
  have hC:=hCI.len
  have l7:=rC_ldn hC hB
  have n8:=nx_new h7 (.cells 49 (List.replicate 49 (.b false)))
  have s8:=rC_stn hC rl_len (M:=rl fun _ _=>false) (h:=h7.new (.cells 49 (List.replicate 49 (.b false)))) (id:=h7.nx) (by rw [rl_false]; exact get_new_same)
  have gr8:Grow h7.nx.nat h7 ((h7.new (.cells 49 (List.replicate 49 (.b false)))).put h7.nx (rC C)):=(Grow.new (Nat.le_refl _) _).trans (Grow.put (Nat.le_refl _) (by omega) _)
  have n8':((h7.new (.cells 49 (List.replicate 49 (.b false)))).put h7.nx (rC C)).nx.nat=h7.nx.nat + 1:=n8
  have e8:((h7.new (.cells 49 (List.replicate 49 (.b false)))).put h7.nx (rC C)).get h7.nx=rC C:=get_put_same
  have l8:loadV ((h7.new (.cells 49 (List.replicate 49 (.b false)))).put h7.nx (rC C)) (.p h5.nx 0) (many? 49) = .ok (rV C) _:=rC_ldn hC ((gr8.old _ (by omega)).trans hB)
  unfold f46_l0
  simp (disch:=omega) only [f46_r2,f46_r3,Nat.reduceEqDiff,↓reduceIte,g5,l7,s8,l8,bz]
  generalize (h7.new (.cells 49 (List.replicate 49 (.b false)))).put h7.nx (rC C)=h8 at *
  have k8:=hk.grow gr8 hkn
  refine (callP_0 (ef:=f76) k.c76 rfl (f76_ret hC)).mono ?_
  rintro r h9 ⟨rfl,rfl⟩
  have n9:=nx_new h8 (rC C)
  have gr9:Grow h8.nx.nat h8 (h8.new (rC C)):=Grow.new (Nat.le_refl _) _
  have e9:(h8.new (rC C)).get h8.nx=rC C:=get_new_same
  have k9:=k8.grow gr9 (by omega)
  have b9:=(gr9.old h7.nx (by omega)).trans e8
  have eL9:=(k9.old h.nx (by omega) (kNe (by omega))).trans e1''
  simp (disch:=omega) only [bz]
  generalize h8.new (rC C)=h9 at *
  generalize hfr:T.set (K.ofNat 15) _ _=fr
  have g2:fr.get (K.ofNat 2)=some (.p h.nx 0):=by rw [← hfr]; simp only [getK_set,Nat.reduceEqDiff,↓reduceIte,g2]
  have g4:fr.get (K.ofNat 4)=some (.p h2.nx 0):=by rw [← hfr]; simp only [getK_set,Nat.reduceEqDiff,↓reduceIte,g4]
  have g5:fr.get (K.ofNat 5)=some (.p h5.nx 0):=by rw [← hfr]; simp only [getK_set,Nat.reduceEqDiff,↓reduceIte,g5]
  have g6:fr.get (K.ofNat 6)=some (.p h7.nx 0):=by rw [← hfr]; simp only [getK_set,Nat.reduceEqDiff,↓reduceIte]
  have g15:fr.get (K.ofNat 15)=some (.fn (K.ofNat 90) [.p h8.nx 0]):=by rw [← hfr]; simp only [getK_set,↓reduceIte]
  clear hfr
  have eP0:rl (clP L C 0)=C:=by
    rw [← rl_rat hC]
    refine rl_congr fun a b _ _=>?_
    unfold clP; rw [rl_rat hC]; simp
  refine W_itr (by simp (disch:=omega) only [ev_t,getV_some,g15]) (all_yieldsR hC k.c90) (fun id=>id=h7.nx) (fun i h1=>h1.get h7.nx=rC (rl (clP L C i))) (fun _ _=>False) k9.hc rfl (by rintro id rfl; omega)
    (fun h1 ks=>(ks.old _ (by omega) (fun e=>by have:=congrArg K.nat e; omega)).trans e9) ?_ (fun _ _ _ h _ _ _=>h.elim) ?_ ?_ ?_ (fun _ _ _ h=>h.elim)
  · intro i h1 h2 q1 _ hn ho
    rw [ho _ (by omega) (kNe (by omega))]; exact q1
  · intro h1 hg
    rw [hg.old _ (by omega),b9,eP0]
  · rintro i ⟨a,b⟩ ha hxi hka hn q1
    obtain ⟨l1,l2,_⟩:=arw_lt (List.mem_of_getElem? hxi)
    have l1:a < 7:=l1
    have l2:b < 7:=l2
    obtain ⟨hst,gB,c7,nb⟩:=arr_var (h:=ha) (x:=a) (y:=b)
    have qb:=(gB.old h7.nx (by omega)).trans q1
    have qL:=(gB.old h.nx (by omega)).trans ((hka.old h.nx (by omega) (fun e=>by have:=congrArg K.nat e; omega)).trans eL9)
    unfold f46_a0
    simp (disch:=omega) only [f46_r4,Nat.reduceEqDiff,↓reduceIte,hst,itA_n,bz]
    generalize (ha.new (.cells 2 [.i .i64 0, .i .i64 0])).put ha.nx (.cells 2 [.i .i64 (a:Int), .i .i64 (b:Int)])=hb at *
    refine ⟨gB,fun h3 n3 hc3 o3 lp3=>?_⟩
    have n3':h3.nx.nat=hb.nx.nat:=congrArg K.nat n3
    have lL:=rC_ldn hL ((o3 h.nx (kNe (by omega))).trans qL)
    have la:=ldn2 ((o3 _ (kNe hn).symm).trans c7)
    have qb3:=(o3 h7.nx (kNe (by omega))).trans qb
    have hav1:V.agg [.i .i64 (a:Int), .i .i64 (b:Int)]=aV (a,b):=rfl
    unfold f46_b1
    simp (disch:=omega) only [f46_r5,Nat.reduceEqDiff,↓reduceIte,g2,lL,la,hav1,bz]
    refine (callP_0 (ef:=f75) h86 rfl (f75_ret (x:=(a,b)) hL hc3)).mono ?_
    rintro r h4 ⟨idr,ida,rfl,o1,o2,o3',o4,gr10,er,ea⟩
    have hc4':=gr10.hc hc3
    have n10:=gr10.nx
    have qb4:=(gr10.old h7.nx (by omega)).trans qb3
    have kr4:Kr (fun id=>id=h7.nx) h9.nx h3 h4:=Kr.of hc3 gr10 (by omega)
    simp (disch:=omega) only [bz]
    generalize hfr:T.set (K.ofNat 19) _ _=fr2
    have f19:fr2.get (K.ofNat 19)=some (.fn (K.ofNat 89) [.p idr 0, .p ida 0]):=by rw [← hfr]; simp only [getK_set,↓reduceIte]
    have f6:fr2.get (K.ofNat 6)=some (.p h7.nx 0):=by rw [← hfr]; simp only [getK_set,Nat.reduceEqDiff,↓reduceIte,g6]
    clear hfr
    refine W_itr (by simp (disch:=omega) only [ev_t,getV_some,f19]) (forced_yields hL l1 l2 h102) (fun id=>id=h7.nx) (fun j h1=>h1.get h7.nx=rC (rl (onF ((fcY L a b).take j) true (clP L C i)))) (fun _ _=>False) hc4' (by show (h4.get h9.nx).isL=true; rw [gr10.old _ (by omega)]; exact lp3) (by rintro id rfl; omega)
      (fun h1 ks=>⟨(ks.old _ (by omega) (fun e=>by have:=congrArg K.nat e; omega)).trans er,(ks.old _ (by omega) (fun e=>by have:=congrArg K.nat e; omega)).trans ea⟩) ?_ (fun _ _ _ h _ _ _=>h.elim) ?_ ?_ ?_ (fun _ _ _ h=>h.elim)
    · intro j h1 h2 q1 _ hn ho
      rw [ho _ (by omega) (kNe (by omega))]; exact q1
    · intro h1 hg
      rw [hg.old _ (by omega),qb4,List.take_zero,onF_nil]
    · rintro j ⟨c,d⟩ hd hxj hkd hnd q2
      obtain ⟨m1,m2,_⟩:=fcY_lt l1 l2 (List.mem_of_getElem? hxj)
      have m1:c < 7:=m1
      have m2:d < 7:=m2
      obtain ⟨hst,gD,c7,nd⟩:=arr_var (h:=hd) (x:=c) (y:=d)
      have qd:=(gD.old h7.nx (by omega)).trans q2
      unfold f46_a1
      simp (disch:=omega) only [f46_r6,Nat.reduceEqDiff,↓reduceIte,hst,itA_n,bz]
      generalize (hd.new (.cells 2 [.i .i64 0, .i .i64 0])).put hd.nx (.cells 2 [.i .i64 (c:Int), .i .i64 (d:Int)])=he at *
      refine ⟨gD,fun h1 n1 hc1 o1 _=>?_⟩
      have n1':h1.nx.nat=he.nx.nat:=congrArg K.nat n1
      have l0:=ld20 ((o1 _ (kNe hnd).symm).trans c7)
      have l1:=ld21 ((o1 _ (kNe hnd).symm).trans c7)
      have hs:=rC_st (v:=true) m1 m2 ((o1 h7.nx (kNe (by omega))).trans qd)
      unfold f46_b0
      simp (disch:=omega) only [f46_r7,Nat.reduceEqDiff,↓reduceIte,f6,l0,l1,hs,itC_n,bz]
      have hk0:Kr (fun id=>id=h7.nx) h4.nx h1 h1:=Kr.refl hc1
      refine ⟨?_,hk0.put (id':=h7.nx) (by omega) (.inl rfl) _⟩
      rw [get_put_same,List.take_add_one,hxj]
      simp only [Option.toList_some,onF_snoc]
    · intro h1 q2 hk1 hn1
      rw [List.take_length,clP_succ hxi] at q2
      simp (disch:=omega) only [atK_n,itC_n]
      exact ⟨q2,kr4.trans (hk1.kr (by omega))⟩
  · intro h1 q1 hk1 hn1
    have q1:h1.get h7.nx=rC (clN L C):=q1
    have hN:(clN L C).length=49:=rl_len
    have n1:=hk1.nx
    have ne7:∀ {id:K},id.nat < h7.nx.nat → ¬ id=h7.nx:=fun h e=>by rw [e] at h; omega
    have b5:=(hk1.old h5.nx (by omega) (ne7 (by omega))).trans ((gr9.old h5.nx (by omega)).trans ((gr8.old h5.nx (by omega)).trans hB))
    have k1:Kp h5.nx h6 h1:=⟨by omega,fun id hi hn=>(hk1.old id (by omega) (ne7 (by omega))).trans (k9.old id hi hn),hk1.hc⟩
    have lN:=rC_ldn hN q1
    have lC:=rC_ldn hC b5
    have hq:=keyEq_rel2 hN hC
    by_cases e:clN L C=C
    · have d0:decide (clN L C=C)=true:=decide_eq_true e
      have hfin:=hCI.fin e
      have hs5:=rC_stn hC rl_len (M:=rl fun _ _=>false) ((k1.old h2.nx (by omega) (kNe (by omega))).trans e3'')
      have hr5:readP (h1.put h2.nx (rC C)) (.p h2.nx 0) (many? 49)=some (rV C):=rC_read hC get_put_same
      rw [d0] at hq
      simp (disch:=omega) only [f46_r8,f46_r9,f46_rs,Option.some.injEq,exists_eq_left',Nat.reduceEqDiff,↓reduceIte,g4,g5,g6,lN,lC,hq,cond_false,hs5,hr5,bz]
      rw [hfin]
    · have d0:decide (clN L C=C)=false:=decide_eq_false e
      have hs5:=rC_stn hN hC b5
      rw [d0] at hq
      simp (disch:=omega) only [f46_r8,f46_r10,Nat.reduceEqDiff,↓reduceIte,Bool.false_eq_true,g5,g6,lN,lC,hq,cond_false,hs5,bz]
      have hlt:=clN_cnt (L:=L) hC (fun h=>e h.symm)
      have:=cntT_le hN
      exact ⟨clN L C,by omega,hCI.step,k1.put (by omega) _,get_put_same,by simp (disch:=omega) only [getK_set,Nat.reduceEqDiff,↓reduceIte,g2,g4,g5,and_self]⟩
end
end Go.Ev
namespace Go.Ev
open Go Go.RowKit
noncomputable def f110_r0:List EOper := [oG 2 (.as (.c (.b false)))]
noncomputable def f110_r1:List EOper := [oG 3 (.mv (tG 0)),oG 4 (.mv (tG 0)),oG 5 (.bin .neq (tG 3) (tG 4)),oG 2 (.as (tG 5))]
noncomputable def f110_c:EC:=(.seq (.reg f110_r0) (.seq (.reg f110_r1) .ret))
noncomputable def f110:EF:=⟨6, [.tmp (.ofNat 2)],f110_c,none⟩
theorem f110_rs:f110.rs = [.tmp (.ofNat 2)]:=of_eq_true (eq_self _)
noncomputable def f96_r0:List EOper := [oG 4 (.as (cG 0))]
noncomputable def f96_r1:List EOper := [oG 7 (.mv (tG 0)),oG 8 (.call (fG 110) [(tG 7)]),oG 5 (.as (tG 8))]
noncomputable def f96_r2:List EOper := [oG 9 (.mv (tG 1)),oG 10 (.call (fG 110) [(tG 9)]),oG 6 (.as (tG 10))]
noncomputable def f96_r3:List EOper := [oG 11 (.mv (tG 5))]
noncomputable def f96_r4:List EOper := [oG 12 (.mv (tG 6))]
noncomputable def f96_r5:List EOper := [oG 4 (.as (cG 0))]
noncomputable def f96_r6:List EOper := [oG 4 (.as (.c (.i .i64 (.negSucc 0))))]
noncomputable def f96_r7:List EOper := [oG 13 (.mv (tG 6))]
noncomputable def f96_r8:List EOper := [oG 4 (.as (cG 1))]
noncomputable def f96_r9:List EOper := [oG 14 (.mv (tG 0)),oG 15 (.mv (tG 1)),oG 16 (.bin .lss (tG 14) (tG 15))]
noncomputable def f96_r10:List EOper := [oG 4 (.as (.c (.i .i64 (.negSucc 0))))]
noncomputable def f96_r11:List EOper := [oG 17 (.mv (tG 0)),oG 18 (.mv (tG 1)),oG 19 (.bin .gtr (tG 17) (tG 18))]
noncomputable def f96_r12:List EOper := [oG 4 (.as (cG 1))]
noncomputable def f96_r13:List EOper := [oG 4 (.as (cG 0))]
noncomputable def f96_c:EC:=(.seq (.reg f96_r0) (.seq (.reg f96_r1) (.seq (.reg f96_r2) (.seq (.seq (.reg f96_r3) (.cond (tG 11) (.seq (.seq (.reg f96_r4) (.cond (tG 12) (.seq (.reg f96_r5) .ret) .skip)) (.seq (.reg f96_r6) .ret)) .skip)) (.seq (.seq (.reg f96_r7) (.cond (tG 13) (.seq (.reg f96_r8) .ret) .skip)) (.seq (.seq (.reg f96_r9) (.cond (tG 16) (.seq (.reg f96_r10) .ret) .skip)) (.seq (.seq (.reg f96_r11) (.cond (tG 19) (.seq (.reg f96_r12) .ret) .skip)) (.seq (.reg f96_r13) .ret))))))))
noncomputable def f96:EF:=⟨20, [.tmp (.ofNat 4)],f96_c,none⟩
theorem f96_rs:f96.rs = [.tmp (.ofNat 4)]:=of_eq_true (eq_self _)
noncomputable def f84_r0:List EOper := [oG 4 (.as (cG 0))]
noncomputable def f84_r1:List EOper := [oG 9 (.mv (tG 0)),oG 10 (.len (tG 9)),oG 11 (.mv (cG 0))]
noncomputable def f84_r2:List EOper := [oG 12 (.bin .lss (tG 11) (tG 10))]
noncomputable def f84_r3:List EOper := [oG 13 (.mv (tG 11)),oG 14 (.iads 1 (tG 9) (tG 11)),oG 15 (.ld (tG 14)),oG 5 (.as (tG 13)),oG 6 (.as (tG 15))]
noncomputable def f84_r4:List EOper := [oG 16 (.mv (tG 5)),oG 17 (.mv (tG 1)),oG 18 (.len (tG 17)),oG 19 (.bin .geq (tG 16) (tG 18))]
noncomputable def f84_r5:List EOper := [oG 4 (.as (cG 1))]
noncomputable def f84_r6:List EOper := [oG 20 (.mv (tG 1)),oG 21 (.mv (tG 5)),oG 22 (.iads 1 (tG 20) (tG 21)),oG 23 (.ld (tG 22)),oG 7 (.as (tG 23))]
noncomputable def f84_r7:List EOper := [oG 24 (.mv (tG 6)),oG 25 (.mv (tG 7)),oG 26 (.call (fG 96) [(tG 24),(tG 25)]),oG 8 (.as (tG 26))]
noncomputable def f84_r8:List EOper := [oG 27 (.mv (tG 8)),oG 28 (.bin .neq (tG 27) (cG 0))]
noncomputable def f84_r9:List EOper := [oG 29 (.mv (tG 8)),oG 4 (.as (tG 29))]
noncomputable def f84_r10:List EOper := [oG 30 (.bin .add (tG 11) (cG 1)),oG 11 (.mv (tG 30))]
noncomputable def f84_l0:EC:=(.seq (.reg f84_r2) (.seq (.cond (tG 12) .skip (.exit 0)) (.seq (.block 1 (.seq (.reg f84_r3) (.seq (.seq (.reg f84_r4) (.cond (tG 19) (.seq (.reg f84_r5) .ret) .skip)) (.seq (.reg f84_r6) (.seq (.reg f84_r7) (.seq (.reg f84_r8) (.cond (tG 28) (.seq (.reg f84_r9) .ret) .skip))))))) (.reg f84_r10))))
noncomputable def f84_r11:List EOper := [oG 31 (.mv (tG 0)),oG 32 (.len (tG 31)),oG 33 (.mv (tG 1)),oG 34 (.len (tG 33)),oG 35 (.bin .lss (tG 32) (tG 34))]
noncomputable def f84_r12:List EOper := [oG 4 (.as (.c (.i .i64 (.negSucc 0))))]
noncomputable def f84_r13:List EOper := [oG 4 (.as (cG 0))]
noncomputable def f84_c:EC:=(.seq (.reg f84_r0) (.seq (.seq (.reg f84_r1) (.block 0 (.loop f84_l0))) (.seq (.seq (.reg f84_r11) (.cond (tG 35) (.seq (.reg f84_r12) .ret) .skip)) (.seq (.reg f84_r13) .ret))))
noncomputable def f84:EF:=⟨36, [.tmp (.ofNat 4)],f84_c,none⟩
theorem f84_rs:f84.rs = [.tmp (.ofNat 4)]:=of_eq_true (eq_self _)
noncomputable def f57_r0:List EOper := [oG 2 (.box 2 (tG 0)),oG 3 (.box 2 (tG 1)),oG 4 (.as (.c (.b false)))]
noncomputable def f57_r1:List Stage := [⟨[oG 5 (.slcA 2 1 (tG 2) none none),oG 6 (.slcA 2 1 (tG 3) none none)], [],(some (oG 7 (.call (fG 84) [(tG 5),(tG 6)]))), []⟩,⟨[oG 8 (.bin .lss (tG 7) (cG 0))], [],(some (oG 4 (.as (tG 8)))), []⟩,⟨[], [],none, []⟩]
noncomputable def f57_c:EC:=(.seq (.reg f57_r0) (.seq (.draw f57_r1) .ret))
noncomputable def f57:EF:=⟨9, [.tmp (.ofNat 4)],f57_c,none⟩
theorem f57_rs:f57.rs = [.tmp (.ofNat 4)]:=of_eq_true (eq_self _)
noncomputable def f37_r0:List EOper := [oG 4 (.as (.c (.b false)))]
noncomputable def f37_r1:List EOper := [oG 7 (.mv (tG 1)),oG 8 (.len (tG 7)),oG 9 (.mv (cG 0))]
noncomputable def f37_r2:List EOper := [oG 10 (.bin .lss (tG 9) (tG 8))]
noncomputable def f37_r3:List EOper := [oG 11 (.mv (tG 9)),oG 12 (.iads 2 (tG 7) (tG 9)),oG 13 (.ldn 2 (tG 12)),oG 6 (.alloc 2 [(.i .i64 (.ofNat 0)),(.i .i64 (.ofNat 0))]),oG 5 (.as (tG 11)),⟨none,none, .st 2 (tG 6) (tG 13)⟩]
noncomputable def f37_r4:List EOper := [oG 14 (.mv (tG 0)),oG 15 (.iadr 2 1 (tG 6) (cG 0)),oG 16 (.ld (tG 15)),oG 17 (.call (fG 66) [(tG 14),(tG 16)]),oG 18 (.not (tG 17)),oG 19 (.mv (tG 18)),gG 20 19 false (.mv (tG 0)),gG 21 19 false (.iadr 2 1 (tG 6) (cG 1)),gG 22 19 false (.ld (tG 21)),gG 23 19 false (.call (fG 66) [(tG 20),(tG 22)]),gG 24 19 false (.not (tG 23)),oG 25 (.pick (tG 19) (.c (.b true)) (tG 24)),oG 26 (.mv (tG 25)),gG 27 26 false (.iadr 2 1 (tG 6) (cG 0)),gG 28 26 false (.ld (tG 27)),gG 29 26 false (.iadr 2 1 (tG 6) (cG 1)),gG 30 26 false (.ld (tG 29)),gG 31 26 false (.bin .eql (tG 28) (tG 30)),oG 32 (.pick (tG 26) (.c (.b true)) (tG 31))]
noncomputable def f37_r5:List EOper := [oG 4 (.as (.c (.b false)))]
noncomputable def f37_r6:List Stage := [⟨[oG 33 (.mv (tG 5)),oG 34 (.bin .gtr (tG 33) (cG 0)),oG 35 (.mv (tG 34)),gG 36 35 true (.mv (tG 1)),gG 37 35 true (.mv (tG 5)),gG 38 35 true (.bin .sub (tG 37) (cG 1)),gG 39 35 true (.iads 2 (tG 36) (tG 38)),gG 40 35 true (.ldn 2 (tG 39)),gG 41 35 true (.ldn 2 (tG 6))], [],(some (gG 42 35 true (.call (fG 57) [(tG 40),(tG 41)]))), []⟩,⟨[gG 43 35 true (.not (tG 42)),oG 44 (.pick (tG 35) (tG 43) (.c (.b false)))], [],none, []⟩]
noncomputable def f37_r7:List EOper := [oG 4 (.as (.c (.b false)))]
noncomputable def f37_r8:List EOper := [oG 45 (.bin .add (tG 9) (cG 1)),oG 9 (.mv (tG 45))]
noncomputable def f37_l0:EC:=(.seq (.reg f37_r2) (.seq (.cond (tG 10) .skip (.exit 0)) (.seq (.block 1 (.seq (.reg f37_r3) (.seq (.seq (.reg f37_r4) (.cond (tG 32) (.seq (.reg f37_r5) .ret) .skip)) (.seq (.draw f37_r6) (.cond (tG 44) (.seq (.reg f37_r7) .ret) .skip))))) (.reg f37_r8))))
noncomputable def f37_r9:List EOper := [oG 4 (.as (.c (.b true)))]
noncomputable def f37_c:EC:=(.seq (.reg f37_r0) (.seq (.seq (.reg f37_r1) (.block 0 (.loop f37_l0))) (.seq (.reg f37_r9) .ret)))
noncomputable def f37:EF:=⟨46, [.tmp (.ofNat 4)],f37_c,none⟩
theorem f37_rs:f37.rs = [.tmp (.ofNat 4)]:=of_eq_true (eq_self _)
noncomputable def f8_r0:List EOper := [oG 4 (.as (cG 0))]
noncomputable def f8_r1:List EOper := [oG 7 (.mv (tG 0)),oG 8 (.bin .lss (tG 7) (cG 1)),oG 9 (.mv (tG 8)),gG 10 9 false (.mv (tG 0)),gG 11 9 false (.bin .gtr (tG 10) (cG 7)),oG 12 (.pick (tG 9) (.c (.b true)) (tG 11))]
noncomputable def f8_r2:List EOper := [oG 4 (.as (cG 1))]
noncomputable def f8_r3:List EOper := [oG 13 (.mv (tG 0)),oG 14 (.mv (tG 1)),oG 15 (.call (fG 37) [(tG 13),(tG 14)]),oG 16 (.not (tG 15))]
noncomputable def f8_r4:List EOper := [oG 4 (.as (cG 20))]
noncomputable def f8_r5:List EOper := [oG 17 (.mv (tG 1)),oG 18 (.len (tG 17)),oG 19 (.mv (cG 0))]
noncomputable def f8_r6:List EOper := [oG 20 (.bin .lss (tG 19) (tG 18))]
noncomputable def f8_r7:List EOper := [oG 21 (.iads 2 (tG 17) (tG 19)),oG 22 (.ldn 2 (tG 21)),oG 6 (.alloc 2 [(.i .i64 (.ofNat 0)),(.i .i64 (.ofNat 0))]),⟨none,none, .st 2 (tG 6) (tG 22)⟩]
noncomputable def f8_r8:List EOper := [oG 23 (.iadr 2 1 (tG 6) (cG 0)),oG 24 (.ld (tG 23)),oG 25 (.iadr 2 1 (tG 6) (cG 1)),oG 26 (.ld (tG 25)),oG 27 (.bin .gtr (tG 24) (tG 26))]
noncomputable def f8_r9:List EOper := [oG 4 (.as (cG 20))]
noncomputable def f8_r10:List EOper := [oG 28 (.bin .add (tG 19) (cG 1)),oG 19 (.mv (tG 28))]
noncomputable def f8_l0:EC:=(.seq (.reg f8_r6) (.seq (.cond (tG 20) .skip (.exit 0)) (.seq (.block 1 (.seq (.reg f8_r7) (.seq (.reg f8_r8) (.cond (tG 27) (.seq (.reg f8_r9) .ret) .skip)))) (.reg f8_r10))))
noncomputable def f8_r11:List EOper := [oG 4 (.as (cG 0))]
noncomputable def f8_c:EC:=(.seq (.reg f8_r0) (.seq (.seq (.reg f8_r1) (.cond (tG 12) (.seq (.reg f8_r2) .ret) .skip)) (.seq (.seq (.reg f8_r3) (.cond (tG 16) (.seq (.reg f8_r4) .ret) .skip)) (.seq (.seq (.reg f8_r5) (.block 0 (.loop f8_l0))) (.seq (.reg f8_r11) .ret)))))
noncomputable def f8:EF:=⟨29, [.tmp (.ofNat 4)],f8_c,none⟩
theorem f8_rs:f8.rs = [.tmp (.ofNat 4)]:=of_eq_true (eq_self _)
section
variable {fs:T EF}
theorem f110_ret {h:H} {a:Int}:Ret fs f110 [.i .i64 a] h fun r h'=>r = .b false∧h'=h:=by
  apply ret_of rfl
  show W fs none f110_c _ _ _
  unfold f110_c
  have d:decide (a ≠ a)=false:=by simp
  simp (disch:=omega) only [f110_r0,f110_r1,f110_rs,Option.some.injEq,exists_eq_left',Nat.reduceEqDiff,↓reduceIte,d,and_self,bz]
def cmpI (a b:Int):Int:=if a < b then -1 else if b < a then 1 else 0
theorem f96_ret {h:H} {a b:Int} (h121:fs.get (.ofNat 110)=some f110):Ret fs f96 [.i .i64 a, .i .i64 b] h fun r h'=>r = .i .i64 (cmpI a b)∧h'=h:=by
  apply ret_of rfl
  show W fs none f96_c _ _ _
  unfold f96_c
  simp (disch:=omega) only [f96_r0,f96_r1,Nat.reduceEqDiff,↓reduceIte,bz]
  refine (callP_0 (ef:=f110) h121 rfl f110_ret).mono ?_
  rintro r h1 ⟨rfl,hq⟩
  subst hq
  simp (disch:=omega) only [f96_r2,Nat.reduceEqDiff,↓reduceIte,bz]
  refine (callP_0 (ef:=f110) h121 rfl f110_ret).mono ?_
  rintro r h2 ⟨rfl,hq⟩
  subst hq
  unfold cmpI
  have hm:Int.negSucc 0 = -1:=rfl
  by_cases h1:a < b
  · have d1:decide (a < b)=true:=by simpa using h1
    simp (disch:=omega) only [f96_r3,f96_r7,f96_r9,f96_r10,f96_rs,Option.some.injEq,exists_eq_left',Nat.reduceEqDiff,↓reduceIte,Bool.false_eq_true,decide_eq_true_eq,h1,hm,and_self,bz]
  · have d1:decide (a < b)=false:=by simpa using h1
    by_cases h2:b < a
    · have d2:decide (a > b)=true:=by simpa using h2
      simp (disch:=omega) only [f96_r3,f96_r7,f96_r9,f96_r11,f96_r12,f96_rs,Option.some.injEq,exists_eq_left',Nat.reduceEqDiff,↓reduceIte,Bool.false_eq_true,decide_eq_true_eq,h1,h2,and_self,bz]
    · have d2:decide (a > b)=false:=by simpa using h2
      simp (disch:=omega) only [f96_r3,f96_r7,f96_r9,f96_r11,f96_r13,f96_rs,Option.some.injEq,exists_eq_left',Nat.reduceEqDiff,↓reduceIte,Bool.false_eq_true,decide_eq_true_eq,h1,h2,and_self,bz]
def cmpL:List Int→List Int→Int
  | [], []=>0
  | [],_ :: _ => -1
  | _ :: _, []=>1
  | a :: L,b :: M=>if cmpI a b ≠ 0 then cmpI a b else cmpL L M
def f84_I (h:H) (v w:V) (L M:List Int) (i:Nat) (fr:Fr) (h1:H):Prop:=h1=h∧i ≤ L.length∧cmpL (L.drop i) (M.drop i)=cmpL L M∧i ≤ M.length∧fr.get (K.ofNat 0)=some (v)∧fr.get (K.ofNat 1)=some (w)∧fr.get (K.ofNat 9)=some (v)∧fr.get (K.ofNat 10)=some (.i .i64 (L.length:Int))∧fr.get (K.ofNat 11)=some (.i .i64 (i:Int))
theorem f84_ret {h:H} {v w:V} {L M:List Int} (h108:fs.get (.ofNat 96)=some f96) (h121:fs.get (.ofNat 110)=some f110) (hv:Sr iE h v L) (hw:Sr iE h w M) (hL:L.length ≤ 1000000):Ret fs f84 [v,w] h fun r h'=>r = .i .i64 (cmpL L M)∧h'=h:=by
  apply ret_of rfl
  show W fs none f84_c _ _ _
  unfold f84_c
  have hm:Int.negSucc 0 = -1:=rfl
  simp (disch:=omega) only [f84_r0,f84_r1,Nat.reduceEqDiff,↓reduceIte,hv.len,bz]
  refine W_loop (f84_I h v w L M) (fun i=>L.length - i) ?_ 0 ⟨rfl,by omega,rfl,by omega,by simp (disch:=omega) only [getK_set,Nat.reduceEqDiff,↓reduceIte,and_self,Int.natCast_zero]⟩
  rintro i fr h1 ⟨rfl,hi,hc,hiM,g0,g1,g9,g10,g11⟩
  unfold f84_l0
  by_cases hlt:i < L.length
  · have d0:decide ((i:Int) < (L.length:Int))=true:=by simpa using hlt
    obtain ⟨p,hp1,hp2⟩:=hv.at i hlt
    rw [List.drop_eq_getElem_cons hlt] at hc
    by_cases hm2:i < M.length
    · have d1:decide ((i:Int) ≥ (M.length:Int))=false:=by simp; omega
      obtain ⟨p',hp3,hp4⟩:=hw.at i hm2
      rw [List.drop_eq_getElem_cons hm2] at hc
      simp (disch:=omega) only [f84_r2,f84_r3,f84_r4,f84_r6,f84_r7,Nat.reduceEqDiff,↓reduceIte,Bool.false_eq_true,g1,g9,g10,g11,d0,d1,hp1,hp2,hp3,hp4,hw.len,iE,bz]
      refine (callP_0 (ef:=f96) h108 rfl (f96_ret (a:=L[i]) (b:=M[i]) h121)).mono ?_
      rintro r h2 ⟨rfl,hq⟩
      subst hq
      have hc:(if cmpI L[i] M[i] ≠ 0 then cmpI L[i] M[i] else cmpL (L.drop (i + 1)) (M.drop (i + 1)))=cmpL L M:=hc
      by_cases h0:cmpI L[i] M[i]=0
      · have d2:decide (cmpI L[i] M[i] ≠ 0)=false:=by simpa using h0
        rw [if_neg (by simpa using h0)] at hc
        simp (disch:=omega) only [f84_r8,f84_r10,Nat.reduceEqDiff,↓reduceIte,Bool.false_eq_true,g11,d2,bz]
        exact ⟨i + 1,by omega,rfl,by omega,hc,by omega,by simp (disch:=omega) only [getK_set,Nat.reduceEqDiff,↓reduceIte,g0,g1,g9,g10,and_self,Int.natCast_add,Int.natCast_one]⟩
      · have d2:decide (cmpI L[i] M[i] ≠ 0)=true:=by simpa using h0
        rw [if_pos h0] at hc
        simp (disch:=omega) only [f84_r8,f84_r9,f84_rs,Option.some.injEq,exists_eq_left',Nat.reduceEqDiff,↓reduceIte,d2,← hc,and_self,bz]
    · have d1:decide ((i:Int) ≥ (M.length:Int))=true:=by simp; omega
      rw [show List.drop i M = [] from List.drop_of_length_le (by omega)] at hc
      have hc:(1:Int)=cmpL L M:=hc
      simp (disch:=omega) only [f84_r2,f84_r3,f84_r4,f84_r5,f84_rs,Option.some.injEq,exists_eq_left',Nat.reduceEqDiff,↓reduceIte,g1,g9,g10,g11,d0,d1,hp1,hp2,hw.len,iE,← hc,and_self,bz]
  · have d0:decide ((i:Int) < (L.length:Int))=false:=by simpa using hlt
    rw [show List.drop i L = [] from List.drop_of_length_le (by omega)] at hc
    by_cases hm2:L.length < M.length
    · have d1:decide ((L.length:Int) < (M.length:Int))=true:=by simpa using hm2
      rw [List.drop_eq_getElem_cons (show i < M.length by omega)] at hc
      have hc:(-1:Int)=cmpL L M:=hc
      simp (disch:=omega) only [f84_r2,f84_r11,f84_r12,f84_rs,Option.some.injEq,exists_eq_left',Nat.reduceEqDiff,↓reduceIte,Bool.false_eq_true,g0,g1,g10,g11,d0,d1,hv.len,hw.len,hm,hc,and_self,bz]
    · have d1:decide ((L.length:Int) < (M.length:Int))=false:=by simpa using hm2
      rw [show List.drop i M = [] from List.drop_of_length_le (by omega)] at hc
      have hc:(0:Int)=cmpL L M:=hc
      simp (disch:=omega) only [f84_r2,f84_r11,f84_r13,f84_rs,Option.some.injEq,exists_eq_left',Nat.reduceEqDiff,↓reduceIte,Bool.false_eq_true,g0,g1,g10,g11,d0,d1,hv.len,hw.len,← hc,and_self,bz]
def bfB (a b:Int × Int):Bool:=decide (a.1 < b.1) || (decide (a.1=b.1) && decide (a.2 < b.2))
theorem cmpL_2 (a b:Int × Int):decide (cmpL [a.1,a.2] [b.1,b.2] < 0)=bfB a b:=by
  unfold bfB cmpL cmpL cmpL cmpI
  by_cases h1:a.1 < b.1
  · simp [h1]
  · by_cases h2:b.1 < a.1
    · have:a.1 ≠ b.1:=by omega
      simp [h1,h2,this]
    · have h3:a.1=b.1:=by omega
      by_cases h4:a.2 < b.2
      · simp [h3,h4]
      · by_cases h5:b.2 < a.2 <;> simp [h3,h4,h5]
theorem slcA_2 {fr:Fr} {h:H} {id:K} {a b:V} (hb:h.get id = .cells 2 [a,b]):slcAV fr 2 1 (.p id 0) none none h = .ok (.sl id 0 2 1) h:=by
  show (h.get id).onC RV.no _=_
  rw [hb]; rfl
theorem sl_2 {h:H} {id:K} {a b:Int} (hb:h.get id = .cells 2 [.i .i64 a, .i .i64 b]):Sl iE h (.sl id 0 2 1) [a,b]:=by
  refine .inr ⟨id,0,2,_,rfl,hb,rfl,by simp,fun i hi=>?_⟩
  have:i=0 ∨ i=1:=by simp at hi; omega
  rcases this with rfl | rfl <;> rfl
theorem f57_ret {h:H} {a b:Int × Int} (h99:fs.get (.ofNat 84)=some f84) (h108:fs.get (.ofNat 96)=some f96) (h121:fs.get (.ofNat 110)=some f110):Ret fs f57 [pV a,pV b] h fun r _=>r = .b (bfB a b):=by
  apply ret_of rfl
  show W fs none f57_c _ _ _
  unfold f57_c
  have n1:=nx_new h (.cells 2 [.i .i64 a.1, .i .i64 a.2])
  have n2:=nx_new (h.new (.cells 2 [.i .i64 a.1, .i .i64 a.2])) (.cells 2 [.i .i64 b.1, .i .i64 b.2])
  have e1:((h.new (.cells 2 [.i .i64 a.1, .i .i64 a.2])).new (.cells 2 [.i .i64 b.1, .i .i64 b.2])).get h.nx = .cells 2 [.i .i64 a.1, .i .i64 a.2]:=by rw [get_new_old (by omega),get_new_same]
  have e2:((h.new (.cells 2 [.i .i64 a.1, .i .i64 a.2])).new (.cells 2 [.i .i64 b.1, .i .i64 b.2])).get (h.new (.cells 2 [.i .i64 a.1, .i .i64 a.2])).nx = .cells 2 [.i .i64 b.1, .i .i64 b.2]:=get_new_same
  have c1:cellsN 2 (pV a)=some [.i .i64 a.1, .i .i64 a.2]:=rfl
  have c2:cellsN 2 (pV b)=some [.i .i64 b.1, .i .i64 b.2]:=rfl
  simp (disch:=omega) only [f57_r0,f57_r1,xg_slcA,Nat.reduceEqDiff,↓reduceIte,c1,c2,bz]
  generalize (h.new (.cells 2 [.i .i64 a.1, .i .i64 a.2])).nx=id2 at *
  generalize (h.new (.cells 2 [.i .i64 a.1, .i .i64 a.2])).new (.cells 2 [.i .i64 b.1, .i .i64 b.2])=h2 at *
  simp (disch:=omega) only [xg_slcA,Nat.reduceEqDiff,↓reduceIte,slcA_2 e1,slcA_2 e2,bz]
  refine (callP_0 (ef:=f84) h99 rfl (f84_ret h108 h121 (sl_2 e1).sr (sl_2 e2).sr (by simp))).mono ?_
  rintro r h3 ⟨rfl,hq⟩
  subst hq
  simp (disch:=omega) only [f57_rs,Option.some.injEq,exists_eq_left',↓reduceIte,cmpL_2,bz]

structure Nat4 (fs:T EF):Prop extends Nat3 fs where
  n46:∀ L (x:Nat × Nat) h P,L.length=49→(x.1 < 7∧x.2 < 7)→CallP fs (.fn (K.ofNat 46) []) [rV L,aV x] h P=P (rV (clsR L x)) h
  n44:∀ L (x y:Nat × Nat) h P,L.length=49→(x.1 < 7∧x.2 < 7)→(y.1 < 7∧y.2 < 7)→CallP fs (.fn (K.ofNat 44) []) [rV L,aV x,aV y] h P=P (.b (decide (y ∈ fcY L x.1 x.2))) h
  n39:∀ L h P,L.length=49→CallP fs (.fn (K.ofNat 39) []) [rV L] h P=P (.b (trB L)) h
  n57:∀ a b h P,CallP fs (.fn (K.ofNat 57) []) [pV a,pV b] h P=P (.b (bfB a b)) h
/-! ### Rising pairs -/
def okE (n:Int) (x:Int × Int):Bool:=nodeB n x.1 && (nodeB n x.2 && decide (x.1 ≠ x.2))
def risAt (n:Int) (L:List (Int × Int)) (j:Nat):Prop:=okE n (L.getD j (0,0))=true∧(0 < j→bfB (L.getD (j - 1) (0,0)) (L.getD j (0,0))=true)
def RisT (n:Int) (L:List (Int × Int)) (i:Nat):Prop:=∀ j,j < i→risAt n L j
open Classical in
noncomputable def risB (n:Int) (L:List (Int × Int)):Bool:=decide (RisT n L L.length)
section
variable {h:H}
def f37_I (h0:H) (n:Int) (v:V) (L:List (Int × Int)) (i:Nat) (fr:Fr) (h1:H):Prop:=i ≤ L.length∧Grow h0.nx.nat h0 h1∧RisT n L i∧fr.get (K.ofNat 0)=some (.i .i64 n)∧fr.get (K.ofNat 1)=some (v)∧fr.get (K.ofNat 7)=some (v)∧fr.get (K.ofNat 8)=some (.i .i64 (L.length:Int))∧fr.get (K.ofNat 9)=some (.i .i64 (i:Int))
theorem f37_ret {n:Int} {v:V} {L:List (Int × Int)} (k:Nat4 fs) (hv:Srp h v L) (hb:L.length ≤ 9223372036854775807) (hc:HC h):Ret fs f37 [.i .i64 n,v] h fun r h'=>r = .b (risB n L)∧Grow h.nx.nat h h':=by
  apply ret_of rfl
  show W fs none f37_c _ _ _
  unfold f37_c
  have hlen:=hv.len
  simp (disch:=omega) only [f37_r0,f37_r1,Nat.reduceEqDiff,↓reduceIte,hlen,bz]
  refine W_loop (f37_I h n v L) (fun i=>L.length - i) ?_ 0 ⟨by omega,Grow.refl _ _,fun j hj=>by omega,by simp (disch:=omega) only [getK_set,Nat.reduceEqDiff,↓reduceIte,and_self,Int.natCast_zero]⟩
  rintro i fr h1 ⟨hi,hG,hR,g0,g1,g7,g8,g9⟩
  have hc1:=hG.hc hc
  unfold f37_l0
  by_cases hlt:i < L.length
  · have d0:decide ((i:Int) < (L.length:Int))=true:=decide_eq_true (by omega)
    have hv1:=hv.grow hc hG
    obtain ⟨id,q,p1,p2,_⟩:=hv1.at2 hlt
    have hgd:L.getD i (0,0)=L[i]:=by rw [List.getD_eq_getElem?_getD,List.getElem?_eq_getElem hlt]; rfl
    have hno:¬ risAt n L i→risB n L=false:=fun h=>by unfold risB; exact @decide_eq_false _ (Classical.propDecidable _) (fun hh=>h (hh i hlt))
    have hst:storeV (h1.new (.cells 2 [.i .i64 0, .i .i64 0])) 2 (.p h1.nx 0) (.agg [.i .i64 L[i].1, .i .i64 L[i].2]) = .ok undefV ((h1.new (.cells 2 [.i .i64 0, .i .i64 0])).put h1.nx (.cells 2 [.i .i64 L[i].1, .i .i64 L[i].2])):=st2 (a := .i .i64 0) (b := .i .i64 0) get_new_same
    have n1:=nx_new h1 (.cells 2 [.i .i64 0, .i .i64 0])
    have gB:Grow h1.nx.nat h1 ((h1.new (.cells 2 [.i .i64 0, .i .i64 0])).put h1.nx (.cells 2 [.i .i64 L[i].1, .i .i64 L[i].2])):=(Grow.new (Nat.le_refl _) _).trans (Grow.put (Nat.le_refl _) (by omega) _)
    have c7:((h1.new (.cells 2 [.i .i64 0, .i .i64 0])).put h1.nx (.cells 2 [.i .i64 L[i].1, .i .i64 L[i].2])).get h1.nx = .cells 2 [.i .i64 L[i].1, .i .i64 L[i].2]:=get_put_same
    simp (disch:=omega) only [f37_r2,f37_r3,Nat.reduceEqDiff,↓reduceIte,g7,g8,g9,d0,p1,p2,hst,bz]
    generalize (h1.new (.cells 2 [.i .i64 0, .i .i64 0])).put h1.nx (.cells 2 [.i .i64 L[i].1, .i .i64 L[i].2])=h2 at *
    have gC:=hG.trans (gB.low hG.nx)
    have l0:=ld20 c7
    have l1:=ld21 c7
    have l2:=ldn2 c7
    have z0:∀ ff:Nat→RV,idxV (.i .i64 0) 2 ff=ff 0:=fun _=>rfl
    have z1:∀ ff:Nat→RV,idxV (.i .i64 1) 2 ff=ff 1:=fun _=>rfl
    cases k1:nodeB n L[i].1 with
    | false =>
      have hf:=hno (fun h=>by have h:=h.1; rw [hgd] at h; unfold okE at h; rw [k1] at h; cases h)
      simp (disch:=omega) only [f37_r4,f37_r5,f37_rs,Option.some.injEq,exists_eq_left',Nat.reduceEqDiff,↓reduceIte,Bool.false_eq_true,Bool.not_true,Bool.not_false,g0,z0,l0,k.n66,k1,bz]
      exact ⟨by rw [hf],gC⟩
    | true =>
    cases k2:nodeB n L[i].2 with
    | false =>
      have hf:=hno (fun h=>by have h:=h.1; rw [hgd] at h; unfold okE at h; rw [k1,k2] at h; cases h)
      simp (disch:=omega) only [f37_r4,f37_r5,f37_rs,Option.some.injEq,exists_eq_left',Nat.reduceEqDiff,↓reduceIte,Bool.false_eq_true,Bool.not_true,Bool.not_false,g0,z0,z1,l0,l1,k.n66,k1,k2,bz]
      exact ⟨by rw [hf],gC⟩
    | true =>
    by_cases k3:L[i].1=L[i].2
    · have d3:decide (L[i].1=L[i].2)=true:=decide_eq_true k3
      have hf:=hno (fun h=>by have h:=h.1; rw [hgd] at h; unfold okE at h; rw [k1,k2] at h; simp [k3] at h)
      simp (disch:=omega) only [f37_r4,f37_r5,f37_rs,Option.some.injEq,exists_eq_left',Nat.reduceEqDiff,↓reduceIte,Bool.false_eq_true,Bool.not_true,Bool.not_false,g0,z0,z1,l0,l1,k.n66,k1,k2,d3,bz]
      exact ⟨by rw [hf],gC⟩
    · have d3:decide (L[i].1=L[i].2)=false:=decide_eq_false k3
      have hok:okE n (L.getD i (0,0))=true:=by rw [hgd]; unfold okE; rw [k1,k2,decide_eq_true k3]; rfl
      simp (disch:=omega) only [f37_r4,Nat.reduceEqDiff,↓reduceIte,Bool.false_eq_true,Bool.not_true,Bool.not_false,g0,z0,z1,l0,l1,k.n66,k1,k2,d3,bz]
      by_cases h0:i=0
      · have d4:decide ((i:Int) > 0)=false:=decide_eq_false (by omega)
        simp (disch:=omega) only [f37_r6,f37_r8,Nat.reduceEqDiff,↓reduceIte,Bool.false_eq_true,g9,d4,bz]
        exact ⟨i + 1,by omega,hlt,gC,fun j hj=>by
          by_cases e:j < i
          · exact hR j e
          · rw [show j=i by omega]; exact ⟨hok,fun h=>by omega⟩,by simp (disch:=omega) only [getK_set,Nat.reduceEqDiff,↓reduceIte,g0,g1,g7,g8,and_self,Int.natCast_add,Int.natCast_one]⟩
      · have d4:decide ((i:Int) > 0)=true:=decide_eq_true (by omega)
        have e1:(i:Int) - 1=((i - 1:Nat):Int):=by omega
        have hlt1:i - 1 < L.length:=by omega
        obtain ⟨id',q',p1',p2',_⟩:=(hv.grow hc gC).at2 hlt1
        have hgd1:L.getD (i - 1) (0,0)=L[i - 1]:=by rw [List.getD_eq_getElem?_getD,List.getElem?_eq_getElem hlt1]; rfl
        have hq:=k.n57 L[i - 1] L[i]
        have hav1:V.agg [.i .i64 L[i - 1].1, .i .i64 L[i - 1].2]=pV L[i - 1]:=rfl
        have hav2:V.agg [.i .i64 L[i].1, .i .i64 L[i].2]=pV L[i]:=rfl
        cases hb:bfB L[i - 1] L[i] with
        | false =>
          have hf:=hno (fun h=>by have h:=h.2 (by omega); rw [hgd,hgd1,hb] at h; cases h)
          simp (disch:=omega) only [f37_r6,f37_r7,f37_rs,Option.some.injEq,exists_eq_left',Nat.reduceEqDiff,↓reduceIte,Bool.not_false,g1,d4,e1,p1',p2',l2,hav1,hav2,hq,hb,bz]
          exact ⟨by rw [hf],gC⟩
        | true =>
          simp (disch:=omega) only [f37_r6,f37_r8,Nat.reduceEqDiff,↓reduceIte,Bool.false_eq_true,Bool.not_true,g1,g9,d4,e1,p1',p2',l2,hav1,hav2,hq,hb,bz]
          exact ⟨i + 1,by omega,hlt,gC,fun j hj=>by
            by_cases e:j < i
            · exact hR j e
            · rw [show j=i by omega]; exact ⟨hok,fun _=>by rw [hgd,hgd1]; exact hb⟩,by simp (disch:=omega) only [getK_set,Nat.reduceEqDiff,↓reduceIte,g0,g1,g7,g8,and_self,Int.natCast_add,Int.natCast_one]⟩
  · have d0:decide ((i:Int) < (L.length:Int))=false:=decide_eq_false (by omega)
    have ei:i=L.length:=by omega
    subst ei
    have hf:risB n L=true:=by unfold risB; exact @decide_eq_true _ (Classical.propDecidable _) hR
    simp (disch:=omega) only [f37_r2,f37_r9,f37_rs,Option.some.injEq,exists_eq_left',↓reduceIte,Bool.false_eq_true,g8,g9,d0,bz]
    exact ⟨by rw [hf],hG⟩
def UpT (L:List (Int × Int)) (i:Nat):Prop:=∀ j,j < i→(L.getD j (0,0)).1 ≤ (L.getD j (0,0)).2
open Classical in
noncomputable def chkG (n:Int) (L:List (Int × Int)):Int:=if n < 1 ∨ 7 < n then 1 else if risB n L=true∧UpT L L.length then 0 else 20
def f8_I (h0:H) (n:Int) (v:V) (L:List (Int × Int)) (i:Nat) (fr:Fr) (h1:H):Prop:=i ≤ L.length∧Grow h0.nx.nat h0 h1∧UpT L i∧fr.get (K.ofNat 0)=some (.i .i64 n)∧fr.get (K.ofNat 1)=some (v)∧fr.get (K.ofNat 17)=some (v)∧fr.get (K.ofNat 18)=some (.i .i64 (L.length:Int))∧fr.get (K.ofNat 19)=some (.i .i64 (i:Int))
structure CallsCk (fs:T EF):Prop extends Nat4 fs where
  c37:fs.get (K.ofNat 37)=some f37
theorem f8_ret {n:Int} {v:V} {L:List (Int × Int)} (k:CallsCk fs) (hv:Srp h v L) (hb:L.length ≤ 9223372036854775807) (hc:HC h):Ret fs f8 [.i .i64 n,v] h fun r h'=>r = .i .i64 (chkG n L)∧Grow h.nx.nat h h':=by
  apply ret_of rfl
  show W fs none f8_c _ _ _
  unfold f8_c
  by_cases hn:n < 1 ∨ 7 < n
  · have hg:chkG n L=1:=by unfold chkG; rw [if_pos hn]
    by_cases h1:n < 1
    · have d1:decide (n < 1)=true:=decide_eq_true h1
      simp (disch:=omega) only [f8_r0,f8_r1,f8_r2,f8_rs,Option.some.injEq,exists_eq_left',Nat.reduceEqDiff,↓reduceIte,Bool.false_eq_true,Bool.not_true,d1,bz]
      exact ⟨by rw [hg],Grow.refl _ _⟩
    · have d1:decide (n < 1)=false:=decide_eq_false h1
      have d2:decide (n > 7)=true:=decide_eq_true (by omega)
      simp (disch:=omega) only [f8_r0,f8_r1,f8_r2,f8_rs,Option.some.injEq,exists_eq_left',Nat.reduceEqDiff,↓reduceIte,Bool.false_eq_true,Bool.not_false,d1,d2,bz]
      exact ⟨by rw [hg],Grow.refl _ _⟩
  · have d1:decide (n < 1)=false:=decide_eq_false (by omega)
    have d2:decide (n > 7)=false:=decide_eq_false (by omega)
    simp (disch:=omega) only [f8_r0,f8_r1,f8_r3,Nat.reduceEqDiff,↓reduceIte,Bool.false_eq_true,Bool.not_false,d1,d2,bz]
    refine (callP_0 (ef:=f37) k.c37 rfl (f37_ret k.toNat4 hv hb hc)).mono ?_
    rintro r h1 ⟨rfl,hG⟩
    cases hr:risB n L with
    | false =>
      have hg:chkG n L=20:=by unfold chkG; rw [if_neg hn,if_neg (by rw [hr]; simp)]
      simp (disch:=omega) only [f8_r4,f8_rs,Option.some.injEq,exists_eq_left',↓reduceIte,Bool.not_false,of20,bz]
      exact ⟨by rw [hg],hG⟩
    | true =>
      have hv1:=hv.grow hc hG
      have hlen:=hv1.len
      simp (disch:=omega) only [f8_r5,Nat.reduceEqDiff,↓reduceIte,Bool.false_eq_true,Bool.not_true,hlen,bz]
      refine W_loop (f8_I h n v L) (fun i=>L.length - i) ?_ 0 ⟨by omega,hG,fun j hj=>by omega,by simp (disch:=omega) only [getK_set,Nat.reduceEqDiff,↓reduceIte,and_self,Int.natCast_zero]⟩
      clear hG hv1 hlen
      rintro i fr h1 ⟨hi,hG,hR,g0,g1,g17,g18,g19⟩
      have hc1:=hG.hc hc
      unfold f8_l0
      by_cases hlt:i < L.length
      · have d0:decide ((i:Int) < (L.length:Int))=true:=decide_eq_true (by omega)
        obtain ⟨id,q,p1,p2,_⟩:=(hv.grow hc hG).at2 hlt
        have hgd:L.getD i (0,0)=L[i]:=by rw [List.getD_eq_getElem?_getD,List.getElem?_eq_getElem hlt]; rfl
        have hst:storeV (h1.new (.cells 2 [.i .i64 0, .i .i64 0])) 2 (.p h1.nx 0) (.agg [.i .i64 L[i].1, .i .i64 L[i].2]) = .ok undefV ((h1.new (.cells 2 [.i .i64 0, .i .i64 0])).put h1.nx (.cells 2 [.i .i64 L[i].1, .i .i64 L[i].2])):=st2 (a := .i .i64 0) (b := .i .i64 0) get_new_same
        have n1:=nx_new h1 (.cells 2 [.i .i64 0, .i .i64 0])
        have gB:Grow h1.nx.nat h1 ((h1.new (.cells 2 [.i .i64 0, .i .i64 0])).put h1.nx (.cells 2 [.i .i64 L[i].1, .i .i64 L[i].2])):=(Grow.new (Nat.le_refl _) _).trans (Grow.put (Nat.le_refl _) (by omega) _)
        have c7:((h1.new (.cells 2 [.i .i64 0, .i .i64 0])).put h1.nx (.cells 2 [.i .i64 L[i].1, .i .i64 L[i].2])).get h1.nx = .cells 2 [.i .i64 L[i].1, .i .i64 L[i].2]:=get_put_same
        simp (disch:=omega) only [f8_r6,f8_r7,Nat.reduceEqDiff,↓reduceIte,g17,g18,g19,d0,p1,p2,hst,bz]
        generalize (h1.new (.cells 2 [.i .i64 0, .i .i64 0])).put h1.nx (.cells 2 [.i .i64 L[i].1, .i .i64 L[i].2])=h2 at *
        have gC:=hG.trans (gB.low hG.nx)
        have l0:=ld20 c7
        have l1:=ld21 c7
        have z0:∀ ff:Nat→RV,idxV (.i .i64 0) 2 ff=ff 0:=fun _=>rfl
        have z1:∀ ff:Nat→RV,idxV (.i .i64 1) 2 ff=ff 1:=fun _=>rfl
        by_cases h3:L[i].1 ≤ L[i].2
        · have d3:decide (L[i].1 > L[i].2)=false:=decide_eq_false (by omega)
          simp (disch:=omega) only [f8_r8,f8_r10,Nat.reduceEqDiff,↓reduceIte,Bool.false_eq_true,g19,z0,z1,l0,l1,d3,bz]
          exact ⟨i + 1,by omega,hlt,gC,fun j hj=>by
            by_cases e:j < i
            · exact hR j e
            · rw [show j=i by omega,hgd]; exact h3,by simp (disch:=omega) only [getK_set,Nat.reduceEqDiff,↓reduceIte,g0,g1,g17,g18,and_self,Int.natCast_add,Int.natCast_one]⟩
        · have d3:decide (L[i].1 > L[i].2)=true:=decide_eq_true (by omega)
          have hg:chkG n L=20:=by unfold chkG; rw [if_neg hn,if_neg (fun h=>h3 (by have:=h.2 i hlt; rw [hgd] at this; exact this))]
          simp (disch:=omega) only [f8_r8,f8_r9,f8_rs,Option.some.injEq,exists_eq_left',Nat.reduceEqDiff,↓reduceIte,of20,z0,z1,l0,l1,d3,bz]
          exact ⟨by rw [hg],gC⟩
      · have d0:decide ((i:Int) < (L.length:Int))=false:=decide_eq_false (by omega)
        have ei:i=L.length:=by omega
        subst ei
        have hg:chkG n L=0:=by unfold chkG; rw [if_neg hn,if_pos ⟨hr,hR⟩]
        simp (disch:=omega) only [f8_r6,f8_r11,f8_rs,Option.some.injEq,exists_eq_left',↓reduceIte,Bool.false_eq_true,g18,g19,d0,bz]
        exact ⟨by rw [hg],hG⟩
end
end
end Go.Ev
namespace Go.Ev
open Go Go.RowKit
def toI (x:Nat × Nat):Int × Int:=((x.1:Int),(x.2:Int))
def arP (g:Nat→Nat→Bool) (i:Nat):List (Int × Int):=((List.range i).filter fun j=>g (j / 7) (j % 7)).map fun j=>toI (j / 7,j % 7)
def arI (g:Nat→Nat→Bool):List (Int × Int):=(arw g).map toI
theorem arP_all {g:Nat→Nat→Bool}:arP g 49=arI g:=by unfold arP arI arw; rw [List.map_map]; rfl
theorem arP_succ {g:Nat→Nat→Bool} {a b:Nat} (hb:b < 7):arP g (7 * a + (b + 1))=arP g (7 * a + b) ++ (if g a b=true then [((a:Int),(b:Int))] else []):=by
  unfold arP
  rw [show 7 * a + (b + 1)=7 * a + b + 1 by omega,List.range_succ,List.filter_append,List.map_append]
  congr 1
  have e1:(7 * a + b) / 7=a:=by omega
  have e2:(7 * a + b) % 7=b:=by omega
  by_cases h:g a b=true
  · rw [if_pos h]; simp [e1,e2,h,toI]; omega
  · rw [if_neg h]; simp [e1,e2,h]
theorem arP_skip {g:Nat→Nat→Bool} {a b c:Nat} (hbc:b ≤ c) (hc:c ≤ 7) (hg:∀ d,b ≤ d→d < c→g a d=false):arP g (7 * a + c)=arP g (7 * a + b):=by
  induction c with
  | zero => have : b = 0 := by omega
            rw [this]
  | succ c ih =>
    by_cases e:b=c + 1
    · rw [e]
    · rw [arP_succ (by omega),if_neg (by rw [hg c (by omega) (by omega)]; simp),List.append_nil]
      exact ih (by omega) (by omega) (fun d h1 h2=>hg d h1 (by omega))
theorem arP_row {g:Nat→Nat→Bool} {a n:Nat} (hn:n ≤ 7) (hg:∀ d,n ≤ d→d < 7→g a d=false):arP g (7 * (a + 1))=arP g (7 * a + n):=by
  rw [show 7 * (a + 1)=7 * a + 7 by omega]
  exact arP_skip hn (Nat.le_refl _) hg
theorem arP_end {g:Nat→Nat→Bool} {n:Nat} (hn:n ≤ 7) (hg:∀ a d,n ≤ a→a < 7→d < 7→g a d=false):arP g (7 * n)=arI g:=by
  rw [← arP_all]
  have key:∀ k,n + k ≤ 7→arP g (7 * (n + k))=arP g (7 * n):=by
    intro k
    induction k with
    | zero=>intro _; rfl
    | succ k ih =>
      intro hk
      rw [show n + (k + 1)=n + k + 1 by omega,arP_row (n:=0) (by omega) (fun d _ hd=>hg _ _ (by omega) (by omega) hd),Nat.add_zero]
      exact ih (by omega)
  have:=key (7 - n) (by omega)
  rw [show 7 * (n + (7 - n))=49 by omega] at this
  exact this.symm
theorem arP_len {g:Nat→Nat→Bool} {i:Nat}:(arP g i).length ≤ i:=by
  unfold arP
  rw [List.length_map]
  exact Nat.le_trans (List.length_filter_le _ _) (by simp)
theorem arI_len {g:Nat→Nat→Bool}:(arI g).length ≤ 49:=by rw [← arP_all]; exact arP_len
theorem arI_congr {f g:Nat→Nat→Bool} (h:∀ a b,a < 7→b < 7→f a b=g a b):arI f=arI g:=by unfold arI; rw [arw_congr h]
theorem mem_arI {g:Nat→Nat→Bool} {x:Int × Int}:x ∈ arI g ↔ ∃ a b:Nat,a < 7∧b < 7∧g a b=true∧x=((a:Int),(b:Int)):=by
  unfold arI
  rw [List.mem_map]
  constructor
  · rintro ⟨⟨a,b⟩,h,rfl⟩
    obtain ⟨h1,h2,h3⟩:=mem_arw.1 h
    exact ⟨a,b,h1,h2,h3,rfl⟩
  · rintro ⟨a,b,h1,h2,h3,rfl⟩
    exact ⟨(a,b),mem_arw.2 ⟨h1,h2,h3⟩,rfl⟩
theorem mem_arI' {g:Nat→Nat→Bool} {a b:Nat}:((a:Int),(b:Int)) ∈ arI g ↔ a < 7∧b < 7∧g a b=true:=by
  rw [mem_arI]
  constructor
  · rintro ⟨c,d,h1,h2,h3,h4⟩
    injection h4 with h4 h5
    have e1:a=c:=by omega
    have e2:b=d:=by omega
    rw [e1,e2]; exact ⟨h1,h2,h3⟩
  · rintro ⟨h1,h2,h3⟩; exact ⟨a,b,h1,h2,h3,rfl⟩
structure Gph (n:Nat) (g:Nat→Nat→Bool):Prop where
  n1:1 ≤ n
  n7:n ≤ 7
  up:∀ a b,g a b=true→a < b∧b < n
def sy (g:Nat→Nat→Bool) (a b:Nat):Bool:=g a b || g b a
theorem arw_sorted {g:Nat→Nat→Bool} {i:Nat} (hi:i + 1 < (arw g).length):7 * (arw g)[i].1 + (arw g)[i].2 < 7 * (arw g)[i + 1].1 + (arw g)[i + 1].2:=by
  have hs:((List.range 49).filter fun i=>g (i / 7) (i % 7)).Pairwise (· < ·):=List.Pairwise.sublist List.filter_sublist List.pairwise_lt_range
  have hl:(arw g).length=((List.range 49).filter fun i=>g (i / 7) (i % 7)).length:=by unfold arw; rw [List.length_map]
  have:=List.pairwise_iff_getElem.1 hs i (i + 1) (by omega) (by omega) (by omega)
  have e:∀ j (h:j < (arw g).length),(arw g)[j]=((((List.range 49).filter fun i=>g (i / 7) (i % 7))[j]'(by omega)) / 7,(((List.range 49).filter fun i=>g (i / 7) (i % 7))[j]'(by omega)) % 7):=fun j h=>List.getElem_map (fun i=>(i / 7,i % 7))
  rw [e,e]
  simp only
  omega
end Go.Ev
namespace Go.Ev
open Go Go.RowKit
noncomputable def f24_r0:List EOper := [oG 6 (.as (cG 0)),oG 7 (.as (.c .sn))]
noncomputable def f24_r1:List EOper := [oG 14 (.mv (tG 0)),oG 15 (.conv .u64 (tG 14)),oG 16 (.mv (tG 2)),oG 17 (.conv .u64 (tG 16)),oG 18 (.bin .rem (tG 15) (tG 17)),oG 19 (.conv .i64 (tG 18)),oG 20 (.bin .add (cG 1) (tG 19)),oG 0 (.as (tG 20))]
noncomputable def f24_r2:List EOper := [oG 8 (.as (.c .sn))]
noncomputable def f24_r3:List EOper := [oG 9 (.as (cG 0))]
noncomputable def f24_r4:List EOper := [oG 21 (.mv (tG 9)),oG 22 (.mv (tG 0)),oG 23 (.bin .lss (tG 21) (tG 22))]
noncomputable def f24_r5:List EOper := [oG 26 (.mv (tG 9)),oG 27 (.bin .add (tG 26) (cG 1)),oG 10 (.as (tG 27))]
noncomputable def f24_r6:List EOper := [oG 28 (.mv (tG 10)),oG 29 (.mv (tG 0)),oG 30 (.bin .lss (tG 28) (tG 29))]
noncomputable def f24_r7:List EOper := [oG 11 (.as (cG 0))]
noncomputable def f24_r8:List EOper := [oG 33 (.mv (tG 11)),oG 34 (.mv (tG 1)),oG 35 (.len (tG 34)),oG 36 (.bin .lss (tG 33) (tG 35)),oG 37 (.mv (tG 36)),gG 38 37 true (.mv (tG 11)),gG 39 37 true (.bin .lss (tG 38) (cG 25)),oG 40 (.pick (tG 37) (tG 39) (.c (.b false)))]
noncomputable def f24_r9:List Stage := [⟨[oG 43 (.mv (tG 1)),oG 44 (.mv (tG 11)),oG 45 (.iads 2 (tG 43) (tG 44)),oG 46 (.iadr 2 1 (tG 45) (cG 0)),oG 47 (.ld (tG 46)),oG 48 (.conv .u64 (tG 47)),oG 49 (.mv (tG 0)),oG 50 (.conv .u64 (tG 49)),oG 51 (.bin .rem (tG 48) (tG 50)),oG 52 (.conv .i64 (tG 51)),oG 53 (.mv (tG 1)),oG 54 (.mv (tG 11)),oG 55 (.iads 2 (tG 53) (tG 54)),oG 56 (.iadr 2 1 (tG 55) (cG 1)),oG 57 (.ld (tG 56)),oG 58 (.conv .u64 (tG 57)),oG 59 (.mv (tG 0)),oG 60 (.conv .u64 (tG 59)),oG 61 (.bin .rem (tG 58) (tG 60)),oG 62 (.conv .i64 (tG 61))], [],(some (oG 12 (.as (tG 52)))), []⟩,⟨[], [oG 53 (.mv (tG 1)),oG 54 (.mv (tG 11)),oG 55 (.iads 2 (tG 53) (tG 54)),oG 56 (.iadr 2 1 (tG 55) (cG 1)),oG 57 (.ld (tG 56)),oG 58 (.conv .u64 (tG 57)),oG 59 (.mv (tG 0)),oG 60 (.conv .u64 (tG 59)),oG 61 (.bin .rem (tG 58) (tG 60)),oG 62 (.conv .i64 (tG 61))],(some (oG 13 (.as (tG 62)))), []⟩,⟨[], [],none, []⟩]
noncomputable def f24_r10:List EOper := [oG 63 (.mv (tG 12)),oG 64 (.mv (tG 13)),oG 65 (.min (tG 63) (tG 64)),oG 66 (.mv (tG 9)),oG 67 (.bin .eql (tG 65) (tG 66)),oG 68 (.mv (tG 67)),gG 69 68 true (.mv (tG 12)),gG 70 68 true (.mv (tG 13)),gG 71 68 true (.max (tG 69) (tG 70)),gG 72 68 true (.mv (tG 10)),gG 73 68 true (.bin .eql (tG 71) (tG 72)),oG 74 (.pick (tG 68) (tG 73) (.c (.b false)))]
noncomputable def f24_r11:List EOper := [oG 75 (.mv (tG 8)),oG 76 (.mv (tG 9)),oG 77 (.mv (tG 10)),oG 78 (.build [(.i .i64 (.ofNat 0)),(.i .i64 (.ofNat 0))] [(0,1,(tG 76)),(1,1,(tG 77))]),oG 79 (.bslice 1 2 [(.i .i64 (.ofNat 0)),(.i .i64 (.ofNat 0))] [(0,2,(tG 78))]),oG 80 (.app 2 (tG 75) (tG 79)),oG 8 (.as (tG 80))]
noncomputable def f24_r12:List EOper := [oG 41 (.mv (tG 11)),oG 42 (.bin .add (tG 41) (cG 1)),oG 11 (.as (tG 42))]
noncomputable def f24_l0:EC:=(.seq (.seq (.reg f24_r8) (.cond (tG 40) .skip (.exit 4))) (.seq (.block 5 (.seq (.draw f24_r9) (.seq (.reg f24_r10) (.cond (tG 74) (.seq (.reg f24_r11) (.exit 4)) .skip)))) (.reg f24_r12)))
noncomputable def f24_r13:List EOper := [oG 31 (.mv (tG 10)),oG 32 (.bin .add (tG 31) (cG 1)),oG 10 (.as (tG 32))]
noncomputable def f24_l1:EC:=(.seq (.seq (.reg f24_r6) (.cond (tG 30) .skip (.exit 2))) (.seq (.block 3 (.seq (.reg f24_r7) (.block 4 (.loop f24_l0)))) (.reg f24_r13)))
noncomputable def f24_r14:List EOper := [oG 24 (.mv (tG 9)),oG 25 (.bin .add (tG 24) (cG 1)),oG 9 (.as (tG 25))]
noncomputable def f24_l2:EC:=(.seq (.seq (.reg f24_r4) (.cond (tG 23) .skip (.exit 0))) (.seq (.block 1 (.seq (.reg f24_r5) (.block 2 (.loop f24_l1)))) (.reg f24_r14)))
noncomputable def f24_r15:List EOper := [oG 81 (.mv (tG 0)),oG 82 (.mv (tG 8)),oG 6 (.as (tG 81)),oG 7 (.as (tG 82))]
noncomputable def f24_c:EC:=(.seq (.reg f24_r0) (.seq (.reg f24_r1) (.seq (.reg f24_r2) (.seq (.seq (.reg f24_r3) (.block 0 (.loop f24_l2))) (.seq (.reg f24_r15) .ret)))))
noncomputable def f24:EF:=⟨83, [.tmp (.ofNat 6), .tmp (.ofNat 7)],f24_c,none⟩
theorem f24_rs:f24.rs = [.tmp (.ofNat 6), .tmp (.ofNat 7)]:=of_eq_true (eq_self _)
noncomputable def f47_r0:List EOper := [oG 1 (.box 49 (tG 0)),oG 2 (.as (.c .sn))]
noncomputable def f47_r1:List EOper := [oG 3 (.alloc 1 [.sn])]
noncomputable def f47_r2:List EOper := [oG 5 (.ldn 49 (tG 1)),oG 6 (.call (fG 76) [(tG 5)])]
noncomputable def f47_r3:List EOper := [oG 4 (.alloc 2 [(.i .i64 (.ofNat 0)),(.i .i64 (.ofNat 0))]),⟨none,none, .st 2 (tG 4) (tG 7)⟩]
noncomputable def f47_a0:EC:=(.reg f47_r3)
noncomputable def f47_r4:List Stage := [⟨[oG 8 (.ld (tG 3)),oG 9 (.ldn 2 (tG 4))], [],(some (oG 10 (.call (fG 55) [(tG 9)]))), []⟩,⟨[oG 11 (.bslice 1 2 [(.i .i64 (.ofNat 0)),(.i .i64 (.ofNat 0))] [(0,2,(tG 10))])], [oG 8 (.ld (tG 3))],(some (oG 12 (.app 2 (tG 8) (tG 11)))), [(.ofNat 11)]⟩,⟨[], [],(some ⟨none,none, .st 1 (tG 3) (tG 12)⟩), []⟩,⟨[], [],none, []⟩]
noncomputable def f47_b0:EC:=(.block 1 (.draw f47_r4))
noncomputable def f47_r5:List EOper := [oG 13 (.ld (tG 3)),oG 2 (.as (tG 13))]
noncomputable def f47_c:EC:=(.seq (.reg f47_r0) (.seq (.reg f47_r1) (.seq (.seq (.reg f47_r2) (.block 0 (.rangeF (tG 6) [(.ofNat 7)] f47_a0 f47_b0))) (.seq (.reg f47_r5) .ret))))
noncomputable def f47:EF:=⟨14, [.tmp (.ofNat 2)],f47_c,none⟩
theorem f47_rs:f47.rs = [.tmp (.ofNat 2)]:=of_eq_true (eq_self _)
section
variable {fs:T EF} {h:H}
theorem rem_kO (x:Int) {k:Nat} (hk:0 < k) (hk2:k ≤ 1000):∃ q:Nat,q < k∧fw .i64 ((fw .u64 x).tmod (k:Int))=(q:Int):=by
  have h0:0 ≤ fw .u64 x:=by rw [fw_eq]; exact Int.emod_nonneg _ (by decide)
  obtain ⟨m,hm⟩:=Int.eq_ofNat_of_zero_le h0
  have h1:(fw .u64 x).tmod (k:Int)=((m % k:Nat):Int):=by rw [hm]; rfl
  have h2:m % k < k:=Nat.mod_lt _ hk
  exact ⟨m % k,by omega,by rw [h1,fw64 (by omega) (by omega)]⟩
noncomputable def tmF (m:Nat) (l:List (Int × Int)) (i a b:Nat):Bool:=(l.take i).any fun x=>decide (min (fw .i64 ((fw .u64 x.1).tmod (m:Int))) (fw .i64 ((fw .u64 x.2).tmod (m:Int)))=(a:Int)) && decide (max (fw .i64 ((fw .u64 x.1).tmod (m:Int))) (fw .i64 ((fw .u64 x.2).tmod (m:Int)))=(b:Int))
noncomputable def tmG (m:Nat) (l:List (Int × Int)) (a b:Nat):Bool:=decide (a < b∧b < m) && tmF m l (min l.length 25) a b
theorem tmG_gph {m:Nat} {l:List (Int × Int)} (h1:1 ≤ m) (h7:m ≤ 7):Gph m (tmG m l):=⟨h1,h7,fun a b h=>by unfold tmG at h; simp only [Bool.and_eq_true,decide_eq_true_eq] at h; exact h.1⟩
def f24_A (h:H) (v:V) (m w:Nat) (l:List (Int × Int)) (a b:Nat) (i:Nat) (fr:Fr) (h1:H):Prop:=i ≤ min l.length 25∧tmF m l i a b=false ∧ ∃ u,Sk 2 qE h1 u (arP (tmG m l) (7 * a + b))∧Own h.nx.nat u∧Grow h.nx.nat h h1∧fr.get (K.ofNat 0)=some (.i .i64 (m:Int))∧fr.get (K.ofNat 1)=some (v)∧fr.get (K.ofNat 2)=some (.i .i64 (w:Int))∧fr.get (K.ofNat 8)=some (u)∧fr.get (K.ofNat 9)=some (.i .i64 (a:Int))∧fr.get (K.ofNat 10)=some (.i .i64 (b:Int))∧fr.get (K.ofNat 11)=some (.i .i64 (i:Int))
def f24_B (h:H) (v:V) (m w:Nat) (l:List (Int × Int)) (a:Nat) (b:Nat) (fr:Fr) (h1:H):Prop:=a < b∧b ≤ m ∧ ∃ u,Sk 2 qE h1 u (arP (tmG m l) (7 * a + b))∧Own h.nx.nat u∧Grow h.nx.nat h h1∧fr.get (K.ofNat 0)=some (.i .i64 (m:Int))∧fr.get (K.ofNat 1)=some (v)∧fr.get (K.ofNat 2)=some (.i .i64 (w:Int))∧fr.get (K.ofNat 8)=some (u)∧fr.get (K.ofNat 9)=some (.i .i64 (a:Int))∧fr.get (K.ofNat 10)=some (.i .i64 (b:Int))
def f24_C (h:H) (v:V) (m w:Nat) (l:List (Int × Int)) (a:Nat) (fr:Fr) (h1:H):Prop:=a ≤ m ∧ ∃ u,Sk 2 qE h1 u (arP (tmG m l) (7 * a))∧Own h.nx.nat u∧Grow h.nx.nat h h1∧fr.get (K.ofNat 0)=some (.i .i64 (m:Int))∧fr.get (K.ofNat 1)=some (v)∧fr.get (K.ofNat 2)=some (.i .i64 (w:Int))∧fr.get (K.ofNat 8)=some (u)∧fr.get (K.ofNat 9)=some (.i .i64 (a:Int))
theorem loop_monoO {ro:Option K} {c:EC} {Q Q':Ex→Fr→H→Prop} {fr:Fr} {h:H} (hq:∀ e fr h,Q e fr h→Q' e fr h) (hw:W fs ro (.loop c) Q fr h):W fs ro (.loop c) Q' fr h:=by
  obtain ⟨e,fr',h',r,q⟩:=hw
  exact ⟨e,fr',h',r,hq _ _ _ q⟩
def f24_Q (h:H) (v:V) (m w:Nat) (l:List (Int × Int)) (a b:Nat) (e:Ex) (fr:Fr) (h1:H):Prop:=e = .exit 4 ∧ ∃ u,Sk 2 qE h1 u (arP (tmG m l) (7 * a + (b + 1)))∧Own h.nx.nat u∧Grow h.nx.nat h h1∧fr.get (K.ofNat 0)=some (.i .i64 (m:Int))∧fr.get (K.ofNat 1)=some (v)∧fr.get (K.ofNat 2)=some (.i .i64 (w:Int))∧fr.get (K.ofNat 8)=some (u)∧fr.get (K.ofNat 9)=some (.i .i64 (a:Int))∧fr.get (K.ofNat 10)=some (.i .i64 (b:Int))
theorem f24_ret {n:Int} {v:V} {w:Nat} {l:List (Int × Int)} (hv:Srp h v l) (hw:1 ≤ w) (hw7:w ≤ 7) (hc:HC h):Ret fs f24 [.i .i64 n,v, .i .i64 (w:Int)] h fun r h'=>∃ (m:Nat) (u:V) (g:Nat→Nat→Bool),r = .tup [.i .i64 (m:Int),u]∧m ≤ w∧Gph m g∧Sk 2 qE h' u (arI g)∧Own h.nx.nat u∧Grow h.nx.nat h h':=by
  apply ret_of rfl
  show W fs none f24_c _ _ _
  unfold f24_c
  obtain ⟨q,hq6,hqe⟩:=rem_kO n (k:=w) (by omega) (by omega)
  obtain ⟨m,hm⟩:∃ m:Nat,m=1 + q:=⟨_,rfl⟩
  have em:1 + (q:Int)=(m:Int):=by omega
  have hww:fw .u64 (w:Int)=(w:Int):=fwu64 (by omega) (by omega)
  have hrw:∀ a,binV .rem (.i .u64 a) (.i .u64 (w:Int))=some (.i .u64 (a.tmod (w:Int))):=fun a=>bin_rem (by omega)
  simp (disch:=omega) only [f24_r0,f24_r1,f24_r2,f24_r3,Nat.reduceEqDiff,↓reduceIte,hww,hrw,hqe,em,bz]
  have hgp:=tmG_gph (m:=m) (l:=l) (by omega) (by omega)
  have hb25:∀ i,tmF m l i=tmF m l i:=fun _=>rfl
  refine W_loop (f24_C h v m w l) (fun a=>m - a) ?_ 0 ⟨by omega, .sn,Sk.nil,Own.sn,Grow.refl _ _,by simp (disch:=omega) only [getK_set,Nat.reduceEqDiff,↓reduceIte,and_self,Int.natCast_zero]⟩
  rintro a fr h1 ⟨ha,u,hs,ho,hG,g0,g1,g2,g8,g9⟩
  unfold f24_l2
  by_cases hlt:a < m
  · have d0:decide ((a:Int) < (m:Int))=true:=decide_eq_true (by omega)
    have e0:arP (tmG m l) (7 * a + (a + 1))=arP (tmG m l) (7 * a):=by
      have:=arP_skip (g:=tmG m l) (a:=a) (b:=0) (c:=a + 1) (by omega) (by omega) (fun d _ hd=>by
        cases e:tmG m l a d with
        | false=>rfl
        | true=>have:=(hgp.up _ _ e).1; omega)
      rw [this,Nat.add_zero]
    simp (disch:=omega) only [f24_r4,f24_r5,Nat.reduceEqDiff,↓reduceIte,g0,g9,d0,bz]
    refine W_loop (f24_B h v m w l a) (fun b=>m + 1 - b) ?_ (a + 1) ⟨by omega,by omega,u,by rw [e0]; exact hs,ho,hG,by simp (disch:=omega) only [getK_set,Nat.reduceEqDiff,↓reduceIte,g0,g1,g2,g8,g9,and_self,Int.natCast_add,Int.natCast_one]⟩
    clear hs ho hG g0 g1 g2 g8 g9
    rintro b fr h2 ⟨hab,hb,u,hs,ho,hG,g0,g1,g2,g8,g9,g10⟩
    unfold f24_l1
    by_cases hlt2:b < m
    · have d1:decide ((b:Int) < (m:Int))=true:=decide_eq_true (by omega)
      have hsu:=arP_succ (g:=tmG m l) (a:=a) (b:=b) (by omega)
      have hgv:tmG m l a b=tmF m l (min l.length 25) a b:=by unfold tmG; rw [decide_eq_true ⟨hab,hlt2⟩,Bool.true_and]
      simp (disch:=omega) only [f24_r6,f24_r7,Nat.reduceEqDiff,↓reduceIte,g0,g10,d1,bz]
      refine loop_monoO (Q:=f24_Q h v m w l a b) ?_ (W_loop (f24_A h v m w l a b) (fun i=>l.length - i) ?_ 0 ⟨by omega,rfl,u,hs,ho,hG,by simp (disch:=omega) only [getK_set,Nat.reduceEqDiff,↓reduceIte,g0,g1,g2,g8,g9,g10,and_self,Int.natCast_zero]⟩)
      · clear hs ho hG g0 g1 g2 g8 g9 g10 fr
        rintro e fr h4 ⟨rfl,u,hs,ho,hG,g0,g1,g2,g8,g9,g10⟩
        simp (disch:=omega) only [f24_r13,↓reduceIte,g10,bz]
        exact ⟨b + 1,by omega,by omega,by omega,u,hs,ho,hG,by simp (disch:=omega) only [getK_set,Nat.reduceEqDiff,↓reduceIte,g0,g1,g2,g8,g9,and_self,Int.natCast_add,Int.natCast_one]⟩
      clear hs ho hG g0 g1 g2 g8 g9 g10
      rintro i fr h3 ⟨hi,hno,u,hs,ho,hG,g0,g1,g2,g8,g9,g10,g11⟩
      have hc3:=hG.hc hc
      have hv3:=hv.grow hc hG
      unfold f24_l0
      have stop:min l.length 25=i→arP (tmG m l) (7 * a + (b + 1))=arP (tmG m l) (7 * a + b):=fun e=>by rw [hsu,hgv,e,hno,if_neg (by simp),List.append_nil]
      by_cases hlt3:i < l.length
      · have d2:decide ((i:Int) < (l.length:Int))=true:=decide_eq_true (by omega)
        by_cases hE:i < 25
        · have d3:decide ((i:Int) < 25)=true:=decide_eq_true (by omega)
          obtain ⟨ide,qq,hp1,_,hp2,hp3⟩:=hv3.at2 hlt3
          have hvb:=hv.beq
          have hmw:fw .u64 (m:Int)=(m:Int):=fwu64 (by omega) (by omega)
          have hrem:∀ a,binV .rem (.i .u64 a) (.i .u64 (m:Int))=some (.i .u64 (a.tmod (m:Int))):=fun a=>bin_rem (by omega)
          have z0:∀ ff:Nat→RV,idxV (.i .i64 0) 2 ff=ff 0:=fun _=>rfl
          have z1:∀ ff:Nat→RV,idxV (.i .i64 1) 2 ff=ff 1:=fun _=>rfl
          obtain ⟨c,hc'⟩:∃ c,fw .i64 ((fw .u64 l[i].1).tmod (m:Int))=c:=⟨_,rfl⟩
          obtain ⟨d,hd'⟩:∃ d,fw .i64 ((fw .u64 l[i].2).tmod (m:Int))=d:=⟨_,rfl⟩
          have hstep:tmF m l (i + 1) a b=(decide (min c d=(a:Int)) && decide (max c d=(b:Int))):=by
            have hno':(l.take i).any (fun x=>decide (min (fw .i64 ((fw .u64 x.1).tmod (m:Int))) (fw .i64 ((fw .u64 x.2).tmod (m:Int)))=(a:Int)) && decide (max (fw .i64 ((fw .u64 x.1).tmod (m:Int))) (fw .i64 ((fw .u64 x.2).tmod (m:Int)))=(b:Int)))=false:=hno
            unfold tmF
            rw [List.take_succ_eq_append_getElem hlt3,List.any_append,hno',Bool.false_or,← hc',← hd']
            simp
          simp (disch:=omega) only [f24_r8,f24_r9,xg_conv,stay_iads,stay_ld,stay_bin,beq_p,Nat.reduceEqDiff,↓reduceIte,stay_iadr,stay_conv,of25,g0,g1,g11,hv3.len,d2,d3,hp1,z0,z1,hp2,hp3,hvb,hmw,hrem,hc',hd',bz]
          cases d4:decide (min c d=(a:Int)) with
          | false =>
            simp (disch:=omega) only [f24_r10,f24_r12,x_min,min_ii,Nat.reduceEqDiff,↓reduceIte,Bool.false_eq_true,g9,g11,d4,bz]
            exact ⟨i + 1,by omega,by omega,by rw [hstep,d4]; rfl,u,hs,ho,hG,by simp (disch:=omega) only [getK_set,Nat.reduceEqDiff,↓reduceIte,g0,g1,g2,g8,g9,g10,and_self,Int.natCast_add,Int.natCast_one]⟩
          | true =>
          cases d5:decide (max c d=(b:Int)) with
          | false =>
            simp (disch:=omega) only [f24_r10,f24_r12,x_min,x_max,min_ii,Nat.reduceEqDiff,↓reduceIte,Bool.false_eq_true,g9,g10,g11,d4,d5,bz]
            exact ⟨i + 1,by omega,by omega,by rw [hstep,d4,d5]; rfl,u,hs,ho,hG,by simp (disch:=omega) only [getK_set,Nat.reduceEqDiff,↓reduceIte,g0,g1,g2,g8,g9,g10,and_self,Int.natCast_add,Int.natCast_one]⟩
          | true =>
            have hl:=arP_len (g:=tmG m l) (i:=7 * a + b)
            obtain ⟨u',h4,a1,s1,o1,gr1,_⟩:=Sk.push qE_len (by omega) (x:=((a:Int),(b:Int))) hs ho hG.nx hc3 (by omega)
            have a1':appV 2 (h3.new (.cells (1 * 2) [.i .i64 (a:Int), .i .i64 (b:Int)])) u (.sl h3.nx 0 1 2) = .ok u' h4:=a1
            have cp:cellsN 2 (.agg [.i .i64 (a:Int), .i .i64 (b:Int)])=some [.i .i64 (a:Int), .i .i64 (b:Int)]:=rfl
            have sp:setMany [V.i .i64 0,V.i .i64 0] 0 [V.i .i64 (a:Int),V.i .i64 (b:Int)] = [V.i .i64 (a:Int),V.i .i64 (b:Int)]:=rfl
            have htr:tmG m l a b=true:=by
              rw [hgv]
              have h1:tmF m l (i + 1) a b=true:=by rw [hstep,d4,d5]; rfl
              unfold tmF at h1 ⊢
              rw [List.any_eq_true] at h1 ⊢
              obtain ⟨x,hx,hy⟩:=h1
              refine ⟨x,?_,hy⟩
              obtain ⟨j,hj,rfl⟩:=List.getElem_of_mem hx
              rw [List.length_take] at hj
              rw [List.getElem_take]
              exact List.mem_take_iff_getElem.2 ⟨j,by omega,rfl⟩
            rw [htr,if_pos rfl] at hsu
            simp (disch:=omega) only [f24_r10,f24_r11,x_min,x_max,min_ii,Nat.reduceEqDiff,↓reduceIte,g8,g9,g10,d4,d5,fill_c,cp,sp,a1',bz]
            exact ⟨rfl,u',by rw [hsu]; exact s1,o1,hG.trans gr1,by simp (disch:=omega) only [getK_set,Nat.reduceEqDiff,↓reduceIte,g0,g1,g2,g9,g10,and_self]⟩
        · have d3:decide ((i:Int) < 25)=false:=decide_eq_false (by omega)
          simp (disch:=omega) only [f24_r8,Nat.reduceEqDiff,↓reduceIte,Bool.false_eq_true,of25,g1,g11,hv3.len,d2,d3,bz]
          exact ⟨rfl,u,by rw [stop (by omega)]; exact hs,ho,hG,by simp (disch:=omega) only [getK_set,Nat.reduceEqDiff,↓reduceIte,g0,g1,g2,g8,g9,g10,and_self]⟩
      · have d2:decide ((i:Int) < (l.length:Int))=false:=decide_eq_false (by omega)
        simp (disch:=omega) only [f24_r8,Nat.reduceEqDiff,↓reduceIte,Bool.false_eq_true,of25,g1,g11,hv3.len,d2,bz]
        exact ⟨rfl,u,by rw [stop (by omega)]; exact hs,ho,hG,by simp (disch:=omega) only [getK_set,Nat.reduceEqDiff,↓reduceIte,g0,g1,g2,g8,g9,g10,and_self]⟩
    · have d1:decide ((b:Int) < (m:Int))=false:=decide_eq_false (by omega)
      have eb:b=m:=by omega
      have e1:arP (tmG m l) (7 * (a + 1))=arP (tmG m l) (7 * a + b):=arP_row (by omega) (fun d hd _=>by
        cases e:tmG m l a d with
        | false=>rfl
        | true=>have:=(hgp.up _ _ e).2; omega)
      simp (disch:=omega) only [f24_r6,f24_r14,Nat.reduceEqDiff,↓reduceIte,Bool.false_eq_true,g0,g9,g10,d1,bz]
      exact ⟨a + 1,by omega,by omega,u,by rw [e1]; exact hs,ho,hG,by simp (disch:=omega) only [getK_set,Nat.reduceEqDiff,↓reduceIte,g0,g1,g2,g8,and_self,Int.natCast_add,Int.natCast_one]⟩
  · have d0:decide ((a:Int) < (m:Int))=false:=decide_eq_false (by omega)
    have ea:a=m:=by omega
    have e1:arP (tmG m l) (7 * a)=arI (tmG m l):=arP_end (by omega) (fun x d hx _ hd=>by
      cases e:tmG m l x d with
      | false=>rfl
      | true=>have:=hgp.up _ _ e; omega)
    rw [e1] at hs
    simp (disch:=omega) only [f24_r4,f24_r15,f24_rs,Option.some.injEq,exists_eq_left',Nat.reduceEqDiff,↓reduceIte,Bool.false_eq_true,g0,g8,g9,d0,bz]
    exact ⟨m,u,_,rfl,by omega,hgp,hs,ho,hG⟩
end
end Go.Ev
namespace Go.Ev
open Go Go.RowKit
def jn2 (C D:List Bool):List Bool:=jnR [C,D]
theorem jn2_iff {C D:List Bool} {a b:Nat}:rat (jn2 C D) a b=true ↔ rat C a b=true ∨ rat D a b=true:=by
  unfold jn2 jnR
  rw [rat_rl]
  simp only [List.any_cons,List.any_nil,Bool.or_false,Bool.and_eq_true,decide_eq_true_eq,Bool.or_eq_true]
  exact ⟨fun h=>h.2,fun h=>⟨by rcases h with h | h; exact rat_lt h; exact rat_lt h,h⟩⟩
theorem jnR_iff {Ls:List (List Bool)} {a b:Nat}:rat (jnR Ls) a b=true ↔ ∃ L ∈ Ls,rat L a b=true:=by
  unfold jnR
  rw [rat_rl]
  simp only [Bool.and_eq_true,decide_eq_true_eq,List.any_eq_true]
  exact ⟨fun h=>h.2,fun h=>⟨by obtain ⟨L,_,h⟩:=h; exact rat_lt h,h⟩⟩
theorem woR_iff {L M:List Bool} {a b:Nat}:rat (woR L M) a b=true ↔ rat L a b=true ∧ ¬ rat M a b=true:=by
  unfold woR
  rw [rat_rl]
  simp only [Bool.and_eq_true,decide_eq_true_eq,Bool.not_eq_true',Bool.not_eq_true]
  exact ⟨fun h=>h.2,fun h=>⟨rat_lt h.1,h⟩⟩
theorem turnR_iff {L:List Bool} {a b:Nat}:rat (turnR L) a b=true ↔ rat L b a=true:=by
  unfold turnR
  rw [rat_rl]
  simp only [Bool.and_eq_true,decide_eq_true_eq]
  exact ⟨fun h=>h.2,fun h=>⟨⟨(rat_lt h).2,(rat_lt h).1⟩,h⟩⟩
structure SymR (L:List Bool):Prop where
  len:L.length=49
  gr:Gr (Er L)
theorem frO_some {L:List Bool} {x:Nat × Nat} (h:frO L=some x):x.1 < 7∧x.2 < 7∧rat L x.1 x.2=true:=by
  unfold frO at h
  exact arw_lt (List.mem_of_mem_head? (by rw [h]; rfl))
theorem frO_none {L:List Bool} (h:frO L=none) (a b:Nat):¬ rat L a b=true:=by
  unfold frO at h
  rw [List.head?_eq_none_iff] at h
  intro hr
  have:(a,b) ∈ arw (rat L):=mem_arw.2 ⟨(rat_lt hr).1,(rat_lt hr).2,hr⟩
  rw [h] at this
  cases this
noncomputable def nxR (L:List Bool) (x:Nat × Nat):List Bool:=woR L (jn2 (clsR L x) (turnR (clsR L x)))
theorem nxR_len {L:List Bool} {x:Nat × Nat}:(nxR L x).length=49:=by unfold nxR woR; exact rl_len
theorem nxR_iff {L:List Bool} {x:Nat × Nat} (hx:x.1 < 7∧x.2 < 7) {a b:Nat}:rat (nxR L x) a b=true ↔ Wo (Er L) x.1 x.2 a b:=by
  unfold nxR
  rw [woR_iff,jn2_iff,turnR_iff,clsR_iff hx,clsR_iff hx]
  exact and_congr Iff.rfl ⟨fun h=>⟨fun k=>h (.inl k),fun k=>h (.inr k)⟩,fun h k=>k.elim h.1 h.2⟩
theorem SymR.next {L:List Bool} (s:SymR L) {x:Nat × Nat} (hx:x.1 < 7∧x.2 < 7):SymR (nxR L x):=by
  have g:=Wo.gr s.gr (x:=x.1) (y:=x.2)
  exact ⟨nxR_len,⟨fun a b h=>(nxR_iff hx).2 (g.sym _ _ ((nxR_iff hx).1 h)),fun a h=>g.irr a ((nxR_iff hx).1 h)⟩⟩
inductive OrS:List Bool→Option (List (List Bool))→Prop
  | done {L:List Bool} (h:frO L=none):OrS L (some [])
  | clash {L:List Bool} {x:Nat × Nat} (h:frO L=some x) (h1:clsR L x=turnR (clsR L x)):OrS L none
  | step {L:List Bool} {x:Nat × Nat} {r:Option (List (List Bool))} (h:frO L=some x) (h1:clsR L x ≠ turnR (clsR L x)) (h2:OrS (nxR L x) r):OrS L (r.map (clsR L x :: ·))
theorem OrS.one {L:List Bool} {r s:Option (List (List Bool))} (h:OrS L r):OrS L s→r=s:=by
  induction h generalizing s with
  | done h0 =>
    intro k
    cases k with
    | done _=>rfl
    | clash h1 _=>rw [h0] at h1; cases h1
    | step h1 _ _=>rw [h0] at h1; cases h1
  | clash h0 e0 =>
    intro k
    cases k with
    | done h1=>rw [h0] at h1; cases h1
    | clash _ _=>rfl
    | step h1 e1 _=>rw [h0] at h1; cases h1; exact absurd e0 e1
  | step h0 e0 _ ih =>
    intro k
    cases k with
    | done h1=>rw [h0] at h1; cases h1
    | clash h1 e1=>rw [h0] at h1; cases h1; exact absurd e1 e0
    | step h1 _ k2=>rw [h0] at h1; cases h1; rw [ih k2]
theorem cls_turn {L:List Bool} (s:SymR L) {x:Nat × Nat} (h:rat L x.1 x.2=true) (hx:x.1 < 7∧x.2 < 7):clsR L x=turnR (clsR L x) ↔ Rch (Er L) x.1 x.2 x.2 x.1:=by
  constructor
  · intro e
    have h1:rat (clsR L x) x.1 x.2=true:=(clsR_iff hx).2 .refl
    rw [e,turnR_iff] at h1
    exact (clsR_iff hx).1 h1
  · intro k
    refine rel_ext clsR_len rl_len fun a b _ _=>?_
    rw [Bool.eq_iff_iff,turnR_iff,clsR_iff hx,clsR_iff hx]
    have h':Er L x.2 x.1:=s.gr.sym _ _ h
    exact ⟨fun q=>k.trans (q.inv s.gr),fun q=>by
      have:=(q.inv s.gr)
      exact k.trans this⟩
theorem OrS.sound {L:List Bool} {r:Option (List (List Bool))} (h:OrS L r) (s:SymR L):(∀ ps,r=some ps→Ord (Er L) (Er (jnR ps)) ∧ ∀ C ∈ ps,C.length=49)∧(r=none → ¬ CF (Er L)):=by
  induction h with
  | @done L h0 =>
    refine ⟨fun ps e=>?_,fun e=>by cases e⟩
    cases e
    have hj:∀ a b,¬ Er (jnR []) a b:=fun a b h=>by obtain ⟨L,hL,_⟩:=jnR_iff.1 h; cases hL
    exact ⟨⟨fun a b h=>absurd h (hj a b),fun a b h=>absurd h (frO_none h0 a b),fun a b h=>absurd h (hj a b),fun a b c h=>absurd h (hj a b)⟩,fun C hC=>by cases hC⟩
  | @clash L x h0 e0 =>
    obtain ⟨hx1,hx2,hx⟩:=frO_some h0
    exact ⟨(fun ps e=>by cases e),fun _ hC=>hC _ _ hx ((cls_turn s hx ⟨hx1,hx2⟩).1 e0)⟩
  | @step L x r h0 e0 _ ih =>
    obtain ⟨hx1,hx2,hx⟩:=frO_some h0
    have hno:¬ Rch (Er L) x.1 x.2 x.2 x.1:=fun k=>e0 ((cls_turn s hx ⟨hx1,hx2⟩).2 k)
    obtain ⟨i1,i2⟩:=ih (s.next ⟨hx1,hx2⟩)
    have eW:Er (nxR L x)=Wo (Er L) x.1 x.2:=by
      funext a b; exact propext (nxR_iff ⟨hx1,hx2⟩)
    rw [eW] at i1 i2
    refine ⟨fun ps e=>?_,fun e=>?_⟩
    · cases r with
      | none=>cases e
      | some qs =>
        cases e
        obtain ⟨o,hl⟩:=i1 qs rfl
        have:=o.add s.gr hx hno
        have eF:(fun a b=>Rch (Er L) x.1 x.2 a b ∨ Er (jnR qs) a b)=Er (jnR (clsR L x :: qs)):=by
          funext a b
          apply propext
          show _ ↔ rat (jnR (clsR L x :: qs)) a b=true
          rw [jnR_iff]
          constructor
          · rintro (h | h)
            · exact ⟨_,List.mem_cons_self,(clsR_iff ⟨hx1,hx2⟩).2 h⟩
            · obtain ⟨C,hC,h⟩:=jnR_iff.1 h; exact ⟨C,List.mem_cons_of_mem _ hC,h⟩
          · rintro ⟨C,hC,h⟩
            rcases List.mem_cons.1 hC with rfl | hC
            · exact .inl ((clsR_iff ⟨hx1,hx2⟩).1 h)
            · exact .inr (jnR_iff.2 ⟨C,hC,h⟩)
        rw [eF] at this
        refine ⟨this,fun C hC=>?_⟩
        rcases List.mem_cons.1 hC with rfl | hC
        · exact clsR_len
        · exact hl C hC
    · cases r with
      | none=>exact fun hC=>i2 rfl (hC.wo s.gr hx)
      | some qs=>cases e
theorem nxR_cnt {L:List Bool} (s:SymR L) {x:Nat × Nat} (h:frO L=some x):cntT (nxR L x) < cntT L:=by
  obtain ⟨hx1,hx2,hx⟩:=frO_some h
  have e:∀ (M:List Bool) (hM:M.length=49) (i:Nat) (hi:i < M.length),M[i]=rat M (i / 7) (i % 7):=fun M hM i hi=>by
    unfold rat
    rw [decide_eq_true (show i / 7 < 7 by omega),decide_eq_true (show i % 7 < 7 by omega),show 7 * (i / 7) + i % 7=i by omega,List.getD_eq_getElem?_getD,List.getElem?_eq_getElem hi]
    rfl
  have hN:(nxR L x).length=49:=nxR_len
  refine (cntT_lt (by rw [hN,s.len]) fun i h1 h2 hi=>?_).2 fun eq=>?_
  · rw [e _ hN] at hi
    rw [e _ s.len]
    exact ((nxR_iff ⟨hx1,hx2⟩).1 hi).1
  · have:=(nxR_iff (L:=L) ⟨hx1,hx2⟩ (a:=x.1) (b:=x.2)).1 (by rw [eq]; exact hx)
    exact this.2.1 .refl
noncomputable def orO (L:List Bool):Option (List (List Bool)):=Classical.epsilon (OrS L)
theorem orO_eq {L:List Bool} {r:Option (List (List Bool))} (h:OrS L r):orO L=r:=(Classical.epsilon_spec (p:=OrS L) ⟨r,h⟩).one h
noncomputable def orV (L:List Bool):V:=match orO L with
  | some ps => .tup [rV (jnR ps), .b true]
  | none => .tup [rV (rl fun _ _=>false), .b false]
end Go.Ev
namespace Go.Ev
open Go Go.RowKit
noncomputable def f49_r0:List EOper := [oG 1 (.box 49 (tG 0)),oG 2 (.alloc 49 (List.replicate 49 (.b false))),oG 3 (.as (.c (.b false)))]
noncomputable def f49_r1:List EOper := [oG 4 (.as (.c .sn))]
noncomputable def f49_r2:List EOper := [oG 10 (.ldn 49 (tG 1)),oG 11 (.call (fG 77) [(tG 10)]),oG 9 (.mv (tG 11)),oG 12 (.ext (tG 9) 0),oG 13 (.ext (tG 9) 1),oG 5 (.alloc 2 [(.i .i64 (.ofNat 0)),(.i .i64 (.ofNat 0))]),⟨none,none, .st 2 (tG 5) (tG 12)⟩,oG 6 (.as (tG 13))]
noncomputable def f49_r3:List EOper := [oG 14 (.mv (tG 6))]
noncomputable def f49_r4:List EOper := [oG 20 (.ldn 49 (tG 1)),oG 21 (.ldn 2 (tG 5)),oG 22 (.call (fG 46) [(tG 20),(tG 21)]),oG 7 (.alloc 49 (List.replicate 49 (.b false))),⟨none,none, .st 49 (tG 7) (tG 22)⟩]
noncomputable def f49_r5:List EOper := [oG 23 (.ldn 49 (tG 7)),oG 24 (.call (fG 70) [(tG 23)]),oG 8 (.alloc 49 (List.replicate 49 (.b false))),⟨none,none, .st 49 (tG 8) (tG 24)⟩]
noncomputable def f49_r6:List EOper := [oG 25 (.ldn 49 (tG 7)),oG 26 (.ldn 49 (tG 8)),oG 27 (.eqk (.many (List.replicate 49 none)) false (tG 25) (tG 26))]
noncomputable def f49_r7:List EOper := [oG 28 (.build (List.replicate 49 (.b false)) []),⟨none,none, .st 49 (tG 2) (tG 28)⟩,oG 3 (.as (.c (.b false)))]
noncomputable def f49_r8:List EOper := [oG 29 (.mv (tG 4)),oG 30 (.ldn 49 (tG 7)),oG 31 (.bslice 1 49 (List.replicate 49 (.b false)) [(0,49,(tG 30))]),oG 32 (.app 49 (tG 29) (tG 31)),oG 4 (.as (tG 32))]
noncomputable def f49_r9:List Stage := [⟨[oG 33 (.ldn 49 (tG 1)),oG 34 (.ldn 49 (tG 7)),oG 35 (.ldn 49 (tG 8)),oG 36 (.bslice 2 49 (List.replicate 98 (.b false)) [(0,49,(tG 34)),(49,49,(tG 35))])], [],(some (oG 37 (.call (fG 69) [(tG 36)]))), [(.ofNat 36)]⟩,⟨[], [oG 33 (.ldn 49 (tG 1))],(some (oG 38 (.call (fG 71) [(tG 33),(tG 37)]))), []⟩,⟨[], [],(some ⟨none,none, .st 49 (tG 1) (tG 38)⟩), []⟩,⟨[], [],none, []⟩]
noncomputable def f49_r10:List EOper := [oG 39 (.ldn 2 (tG 5))]
noncomputable def f49_r11:List EOper := [oG 5 (.alloc 2 [(.i .i64 (.ofNat 0)),(.i .i64 (.ofNat 0))]),⟨none,none, .st 2 (tG 5) (tG 39)⟩]
noncomputable def f49_r12:List EOper := [oG 16 (.ldn 49 (tG 1)),oG 17 (.call (fG 77) [(tG 16)]),oG 15 (.mv (tG 17)),oG 18 (.ext (tG 15) 0),oG 19 (.ext (tG 15) 1),⟨none,none, .st 2 (tG 5) (tG 18)⟩,oG 6 (.as (tG 19))]
noncomputable def f49_l0:EC:=(.seq (.seq (.reg f49_r3) (.cond (tG 14) .skip (.exit 0))) (.seq (.block 1 (.seq (.reg f49_r4) (.seq (.reg f49_r5) (.seq (.seq (.reg f49_r6) (.cond (tG 27) (.seq (.reg f49_r7) .ret) .skip)) (.seq (.reg f49_r8) (.draw f49_r9)))))) (.seq (.seq (.reg f49_r10) (.reg f49_r11)) (.reg f49_r12))))
noncomputable def f49_r13:List EOper := [oG 40 (.mv (tG 4)),oG 41 (.call (fG 69) [(tG 40)]),⟨none,none, .st 49 (tG 2) (tG 41)⟩,oG 3 (.as (.c (.b true)))]
noncomputable def f49_c:EC:=(.seq (.reg f49_r0) (.seq (.reg f49_r1) (.seq (.seq (.reg f49_r2) (.block 0 (.loop f49_l0))) (.seq (.reg f49_r13) .ret))))
noncomputable def f49:EF:=⟨42, [.celln (.ofNat 2) 49, .tmp (.ofNat 3)],f49_c,none⟩
theorem f49_rs:f49.rs = [.celln (.ofNat 2) 49, .tmp (.ofNat 3)]:=of_eq_true (eq_self _)
section
variable {fs:T EF} {h h':H}
theorem f47_ret {L:List Bool} (k:Nat4 fs) (hL:L.length=49) (hc:HC h):Ret fs f47 [rV L] h fun r h'=>Sk 2 qE h' r (arI (rat L))∧Own h.nx.nat r∧Grow h.nx.nat h h':=by
  apply ret_of rfl
  show W fs none f47_c _ _ _
  unfold f47_c
  have c1:=rC_cells hL
  have n1:=nx_new h (.cells 49 (L.map V.b))
  have gr1:Grow h.nx.nat h (h.new (.cells 49 (L.map V.b))):=Grow.new (Nat.le_refl _) _
  have e1:(h.new (.cells 49 (L.map V.b))).get h.nx=rC L:=get_new_same
  simp (disch:=omega) only [f47_r0,↓reduceIte,c1,bz]
  generalize h.new (.cells 49 (L.map V.b))=h1 at *
  have n2:=nx_new h1 (.cells 1 [.sn])
  have gr2:Grow h1.nx.nat h1 (h1.new (.cells 1 [.sn])):=Grow.new (Nat.le_refl _) _
  have e2:(h1.new (.cells 1 [.sn])).get h1.nx = .cells 1 [.sn]:=get_new_same
  simp (disch:=omega) only [f47_r1,bz]
  generalize h1.new (.cells 1 [.sn])=h2 at *
  have hc2:=gr2.hc (gr1.hc hc)
  have l2:=rC_ldn hL ((gr2.old h.nx (by omega)).trans e1)
  simp (disch:=omega) only [f47_r2,Nat.reduceEqDiff,↓reduceIte,l2,bz]
  refine (callP_0 (ef:=f76) k.c76 rfl (f76_ret hL)).mono ?_
  rintro r h3 ⟨rfl,rfl⟩
  have n3:=nx_new h2 (rC L)
  have gr3:Grow h2.nx.nat h2 (h2.new (rC L)):=Grow.new (Nat.le_refl _) _
  have e3:(h2.new (rC L)).get h2.nx=rC L:=get_new_same
  have hc3:=gr3.hc hc2
  have e2':=(gr3.old h1.nx (by omega)).trans e2
  simp (disch:=omega) only [bz]
  generalize h2.new (rC L)=h3 at *
  generalize hfr:T.set (K.ofNat 6) _ _=fr
  have g3:fr.get (K.ofNat 3)=some (.p h1.nx 0):=by rw [← hfr]; simp only [getK_set,Nat.reduceEqDiff,↓reduceIte]
  have g6:fr.get (K.ofNat 6)=some (.fn (K.ofNat 90) [.p h2.nx 0]):=by rw [← hfr]; simp only [getK_set,↓reduceIte]
  clear hfr
  refine W_itr (by simp (disch:=omega) only [ev_t,getV_some,g6]) (all_yieldsR hL k.c90) (fun id=>id=h1.nx) (fun i h5=>∃ u,h5.get h1.nx = .cells 1 [u]∧Sk 2 qE h5 u (((arw (rat L)).take i).map toI)∧Own (h3.nx.nat + 1) u) (fun _ _=>False) hc3 rfl (by rintro id rfl; omega)
    (fun h5 ks=>(ks.old _ (by omega) (fun e=>by have:=congrArg K.nat e; omega)).trans e3) ?_ (fun _ _ _ h _ _ _=>h.elim) ?_ ?_ ?_ (fun _ _ _ h=>h.elim)
  · rintro i h5 h6 ⟨u,q1,q2,q3⟩ hc5 hn ho
    exact ⟨u,by rw [ho _ (by omega) (kNe (by omega))]; exact q1,q2.same fun id off n sz e=>ho _ (q2.lt hc5 _ _ _ _ e) (fun e2=>by have:=q3 _ _ _ _ e; rw [e2] at this; omega),q3⟩
  · exact fun h5 hg=>⟨.sn,(hg.old _ (by omega)).trans e2',Sk.nil,Own.sn⟩
  · rintro i ⟨x,y⟩ h5 hx hk hn ⟨u,q1,q2,q3⟩
    obtain ⟨hst,gB,c7,n5⟩:=arr_var (h:=h5) (x:=x) (y:=y)
    have b1:=(gB.old h1.nx (by omega)).trans q1
    have b2:=q2.grow hk.hc gB
    unfold f47_a0
    simp (disch:=omega) only [f47_r3,Nat.reduceEqDiff,↓reduceIte,hst,itA_n,bz]
    generalize (h5.new (.cells 2 [.i .i64 0, .i .i64 0])).put h5.nx (.cells 2 [.i .i64 (x:Int), .i .i64 (y:Int)])=h6 at *
    refine ⟨gB,fun h7 n7 hc7 o7 _=>?_⟩
    have n7':h7.nx.nat=h6.nx.nat:=congrArg K.nat n7
    have l1:=ldn2 ((o7 _ (kNe hn).symm).trans c7)
    have b1':=(o7 h1.nx (kNe (by omega))).trans b1
    have l0:=load_p (off:=0) b1' (show nth [u] 0=some u from rfl)
    have b2':Sk 2 qE h7 u (((arw (rat L)).take i).map toI):=b2.same fun id off n sz e=>o7 _ (fun e2=>by have:=q3 _ _ _ _ e; rw [e2] at this; omega)
    have hlen:(((arw (rat L)).take i).map toI).length < 16777216:=by
      have:=arI_len (g:=rat L)
      unfold arI at this
      rw [List.length_map] at this ⊢
      rw [List.length_take]; omega
    obtain ⟨u',h8,a1,s1,o1,gr8,k8⟩:=Sk.push qE_len (by omega) (x:=toI (x,y)) b2' q3 (by omega) hc7 hlen
    have a1':appV 2 (h7.new (.cells (1 * 2) [.i .i64 (x:Int), .i .i64 (y:Int)])) u (.sl h7.nx 0 1 2) = .ok u' h8:=a1
    obtain ⟨k81,k82⟩:=k8 h1.nx (by omega) (q3.notIn (by omega))
    have hav:V.agg [.i .i64 (x:Int), .i .i64 (y:Int)]=pV (toI (x,y)):=rfl
    have cp:cellsN 2 (pV (toI (x,y)))=some [.i .i64 (x:Int), .i .i64 (y:Int)]:=rfl
    have sp:setMany [V.i .i64 0,V.i .i64 0] 0 [V.i .i64 (x:Int),V.i .i64 (y:Int)] = [V.i .i64 (x:Int),V.i .i64 (y:Int)]:=rfl
    have s8:storeV h8 1 (.p h1.nx 0) u' = .ok undefV (h8.put h1.nx (.cells 1 [u'])):=st1 (k81.trans b1') s1.one
    have hbq:=q2.beq
    unfold f47_b0
    simp (disch:=omega) only [f47_r4,stay_ld,Option.some.injEq,exists_eq_left',Nat.reduceEqDiff,↓reduceIte,g3,l0,l1,hav,k.n55,fill_c,cp,sp,hc7.dead,bz]
    refine ⟨fresh_one (n:=1) (sz:=2) (by simp (disch:=omega) only [getK_set,↓reduceIte]),?_⟩
    have gL:Grow h7.nx.nat h7 (h7.new (.cells (1 * 2) [.i .i64 (x:Int), .i .i64 (y:Int)])):=Grow.new (Nat.le_refl _) _
    have l0':=load_p (off:=0) ((gL.old h1.nx (by omega)).trans b1') (show nth [u] 0=some u from rfl)
    simp (disch:=omega) only [Nat.reduceEqDiff,↓reduceIte,g3,l0',hbq,a1',s8,itC_n,and_self,bz]
    have g8n:=gr8.nx
    refine ⟨⟨u',get_put_same,?_,o1⟩,?_⟩
    · rw [List.take_add_one,hx]
      simp only [Option.toList_some,List.map_append,List.map_cons,List.map_nil]
      exact s1.put k82 _
    · have h0:Kr (fun id=>id=h1.nx) h3.nx h7 h8:=Kr.of hc7 gr8 (by omega)
      exact h0.put (by omega) (.inl rfl) _
  · rintro h5 ⟨u,q1,q2,q3⟩ hk hn
    rw [List.take_length] at q2
    have l5:=load_p (off:=0) q1 (show nth [u] 0=some u from rfl)
    simp (disch:=omega) only [f47_r5,f47_rs,Option.some.injEq,exists_eq_left',↓reduceIte,g3,l5,bz]
    exact ⟨q2,q3.low (by omega),gr1.trans ((gr2.low (by omega)).trans ((gr3.low (by omega)).trans (hk.toGrow (by rintro id rfl; omega) (by omega))))⟩
/-! ### Slices of relations that are gathered -/
noncomputable def eR (L:List Bool):List V:=(rl (rat L)).map V.b
theorem eR_len:∀ x,(eR x).length=49:=fun x=>by simp [eR,rl_len]
theorem eR_eq {L:List Bool} (hL:L.length=49):eR L=L.map V.b:=by unfold eR; rw [rl_rat hL]
theorem Rs.ofSk {v:V} {Ls:List (List Bool)} (s:Sk 49 eR h v Ls) (hl:∀ L ∈ Ls,L.length=49):Rs h v Ls:=by
  refine ⟨s.len,fun i hi=>?_⟩
  rcases s with ⟨_,rfl⟩ | ⟨id,off,m,cs,rfl,h1,h2,h3,h4⟩
  · simp at hi
  · have hh:=flat_drop eR_len Ls i hi
    rw [← h4,List.drop_take,List.take_take,List.drop_drop,Nat.min_eq_left (by omega)] at hh
    refine ⟨id,off + i * 49,m,cs,fun h1=>by rw [iads_sl,idx_n hi],h1,?_,?_⟩
    · have:(i + 1) * 49 ≤ Ls.length * 49:=Nat.mul_le_mul_right _ hi
      omega
    · rw [takeN_eq,dropN_eq,hh,eR_eq (hl _ (List.getElem_mem hi))]
def f49_I (h0:H) (id1 id2:K) (L0:List Bool) (s:List Bool × List (List Bool)) (fr:Fr) (h1:H):Prop:=SymR s.1∧(∀ C ∈ s.2,C.length=49)∧cntT s.1 + s.2.length ≤ 49∧(∀ r,OrS s.1 r→OrS L0 (r.map (s.2 ++ ·)))∧Kp id1 h0 h1∧h1.get id1=rC s.1 ∧
  ∃ u id5 x,Sk 49 eR h1 u s.2∧Own (h0.nx.nat) u∧h0.nx.nat ≤ id5.nat∧id5.nat < h1.nx.nat∧NotIn id5 u∧h1.get id5 = .cells 2 [.i .i64 ((x:Nat × Nat).1:Int), .i .i64 (x.2:Int)]∧(∀ y,frO s.1=some y→x=y)∧fr.get (K.ofNat 1)=some (.p id1 0)∧fr.get (K.ofNat 2)=some (.p id2 0)∧fr.get (K.ofNat 4)=some (u)∧fr.get (K.ofNat 5)=some (.p id5 0)∧fr.get (K.ofNat 6)=some (.b (frO s.1).isSome)
def frX (L:List Bool):Nat × Nat:=(frO L).getD (0,0)
theorem frV_eq {L:List Bool}:frV L = .tup [aV (frX L), .b (frO L).isSome]:=by
  unfold frV frX
  cases frO L <;> rfl
theorem zero49:(V.agg (List.replicate 49 (.b false)))=rV (rl fun _ _=>false):=rfl
theorem set49a {L:List Bool} (hL:L.length=49):setMany (List.replicate 49 (.b false)) 0 (L.map V.b)=L.map V.b:=by
  rw [setMany_eq _ _ _ (by simp [hL])]; simp [hL]
theorem f49_ret {L0:List Bool} (k:Nat4 fs) (sy:SymR L0) (hc:HC h):Ret fs f49 [rV L0] h fun r _=>r=orV L0:=by
  have hL:=sy.len
  apply ret_of rfl
  show W fs none f49_c _ _ _
  unfold f49_c
  have c1:=rC_cells hL
  have n1:=nx_new h (.cells 49 (L0.map V.b))
  have gr1:Grow h.nx.nat h (h.new (.cells 49 (L0.map V.b))):=Grow.new (Nat.le_refl _) _
  have e1:(h.new (.cells 49 (L0.map V.b))).get h.nx=rC L0:=get_new_same
  simp (disch:=omega) only [f49_r0,↓reduceIte,c1,bz]
  generalize h.new (.cells 49 (L0.map V.b))=h1 at *
  have n2:=nx_new h1 (.cells 49 (List.replicate 49 (.b false)))
  have gr2:Grow h1.nx.nat h1 (h1.new (.cells 49 (List.replicate 49 (.b false)))):=Grow.new (Nat.le_refl _) _
  have e2:(h1.new (.cells 49 (List.replicate 49 (.b false)))).get h1.nx=rC (rl fun _ _=>false):=by rw [rl_false]; exact get_new_same
  generalize h1.new (.cells 49 (List.replicate 49 (.b false)))=h2 at *
  have hc2:=gr2.hc (gr1.hc hc)
  have e1':=(gr2.old h.nx (by omega)).trans e1
  have e2':=e2
  have l2:=rC_ldn hL e1'
  obtain ⟨hst,gB,c7,n5⟩:=arr_var (h:=h2) (x:=(frX L0).1) (y:=(frX L0).2)
  replace hst:storeV (h2.new (.cells 2 [.i .i64 0, .i .i64 0])) 2 (.p h2.nx 0) (aV (frX L0))=_:=hst
  simp (disch:=omega) only [f49_r1,f49_r2,Nat.reduceEqDiff,↓reduceIte,l2,k.n77 _ _ _ hL,frV_eq,hst,bz]
  generalize (h2.new (.cells 2 [.i .i64 0, .i .i64 0])).put h2.nx (.cells 2 [.i .i64 ((frX L0).1:Int), .i .i64 ((frX L0).2:Int)])=h3 at *
  have k3:Kp h.nx h2 h3:=Kp.of hc2 gB (Nat.le_refl _)
  refine W_loop (f49_I h2 h.nx h1.nx L0) (fun s=>cntT s.1) ?_ (L0, []) ⟨sy,fun C hC=>(by cases hC),by have:=cntT_le hL; simpa using this,fun r hr=>by cases r <;> exact hr,k3,(gB.old h.nx (by omega)).trans e1', .sn,h2.nx,frX L0,Sk.nil,Own.sn,Nat.le_refl _,by omega,NotIn.sn,c7,fun y hy=>by unfold frX; rw [hy]; rfl,by simp (disch:=omega) only [getK_set,Nat.reduceEqDiff,↓reduceIte,and_self]⟩
  clear c7 hst n5 gB k3 h3
  rintro ⟨L,P⟩ fr h3 ⟨sL,hP,hcn,hO,hk,hB,u,id5,x,hu,hou,h5a,h5b,h5n,e5,hx,g1,g2,g4,g5,g6⟩
  simp only at sL hP hcn hO hB hu hx g6
  have hkn:=hk.nx
  have hLl:=sL.len
  unfold f49_l0
  cases hf:frO L with
  | none =>
    rw [hf] at g6
    have g6:fr.get (K.ofNat 6)=some (.b false):=g6
    have hor:orO L0=some P:=by
      have:=orO_eq (hO _ (.done hf))
      simpa using this
    simp (disch:=omega) only [f49_r3,f49_r13,Nat.reduceEqDiff,↓reduceIte,Bool.false_eq_true,g4,g6,bz]
    have hRs:Rs h3 u P:=Rs.ofSk hu hP
    refine (callP_0 (ef:=f69) k.c69 rfl (f69_ret k.c76 k.c90 hRs hP (by omega) hk.hc)).mono ?_
    rintro r h4 ⟨rfl,gr4⟩
    have hJ:(jnR P).length=49:=rl_len
    have s4:=rC_stn hJ rl_len (M:=rl fun _ _=>false) ((gr4.old h1.nx (by omega)).trans ((hk.old h1.nx (by omega) (kNe (by omega)).symm).trans e2'))
    have hr4:readP (h4.put h1.nx (rC (jnR P))) (.p h1.nx 0) (many? 49)=some (rV (jnR P)):=rC_read hJ get_put_same
    simp (disch:=omega) only [f49_rs,Option.some.injEq,exists_eq_left',Nat.reduceEqDiff,↓reduceIte,g2,s4,hr4,bz]
    unfold orV
    rw [hor]
  | some y =>
    have hxy:=hx y hf
    subst hxy
    rw [hf] at g6
    have g6:fr.get (K.ofNat 6)=some (.b true):=g6
    obtain ⟨hx1,hx2,hxr⟩:=frO_some hf
    have l3:=rC_ldn hLl hB
    have l5:=ldn2 e5
    have hav:V.agg [.i .i64 (x.1:Int), .i .i64 (x.2:Int)]=aV x:=rfl
    have hC:(clsR L x).length=49:=clsR_len
    have hT:(turnR (clsR L x)).length=49:=rl_len
    have hnx:nxR L x=woR L (jnR [clsR L x,turnR (clsR L x)]):=rfl
    have hct:=nxR_cnt sL hf
    have hstep:=fun r hne=>OrS.step (r:=r) hf hne
    have hclash:=OrS.clash hf
    have sN:=sL.next (x:=x) ⟨hx1,hx2⟩
    have hcls:=k.n46 L x
    generalize clsR L x=C at *
    have n4:=nx_new h3 (.cells 49 (List.replicate 49 (.b false)))
    have s4:=rC_stn hC rl_len (M:=rl fun _ _=>false) (h:=h3.new (.cells 49 (List.replicate 49 (.b false)))) (id:=h3.nx) (by rw [rl_false]; exact get_new_same)
    have gr4:Grow h3.nx.nat h3 ((h3.new (.cells 49 (List.replicate 49 (.b false)))).put h3.nx (rC C)):=(Grow.new (Nat.le_refl _) _).trans (Grow.put (Nat.le_refl _) (by omega) _)
    have n4':((h3.new (.cells 49 (List.replicate 49 (.b false)))).put h3.nx (rC C)).nx.nat=h3.nx.nat + 1:=n4
    have e4:((h3.new (.cells 49 (List.replicate 49 (.b false)))).put h3.nx (rC C)).get h3.nx=rC C:=get_put_same
    simp (disch:=omega) only [f49_r3,f49_r4,Nat.reduceEqDiff,↓reduceIte,g1,g5,g6,l3,l5,hav,hcls _ _ hLl ⟨hx1,hx2⟩,s4,bz]
    generalize (h3.new (.cells 49 (List.replicate 49 (.b false)))).put h3.nx (rC C)=h4 at *
    have l4:=rC_ldn hC e4
    have n6:=nx_new h4 (.cells 49 (List.replicate 49 (.b false)))
    have s6:=rC_stn hT rl_len (M:=rl fun _ _=>false) (h:=h4.new (.cells 49 (List.replicate 49 (.b false)))) (id:=h4.nx) (by rw [rl_false]; exact get_new_same)
    have gr6:Grow h4.nx.nat h4 ((h4.new (.cells 49 (List.replicate 49 (.b false)))).put h4.nx (rC (turnR C))):=(Grow.new (Nat.le_refl _) _).trans (Grow.put (Nat.le_refl _) (by omega) _)
    have n6':((h4.new (.cells 49 (List.replicate 49 (.b false)))).put h4.nx (rC (turnR C))).nx.nat=h4.nx.nat + 1:=n6
    have e6:((h4.new (.cells 49 (List.replicate 49 (.b false)))).put h4.nx (rC (turnR C))).get h4.nx=rC (turnR C):=get_put_same
    simp (disch:=omega) only [f49_r5,Nat.reduceEqDiff,↓reduceIte,l4,k.n70 _ _ _ hC,s6,bz]
    generalize (h4.new (.cells 49 (List.replicate 49 (.b false)))).put h4.nx (rC (turnR C))=h5 at *
    have gA:Grow h3.nx.nat h3 h5:=gr4.trans (gr6.low (by omega))
    have hc5:=gA.hc hk.hc
    have lC:=rC_ldn hC ((gr6.old h3.nx (by omega)).trans e4)
    have lT:=rC_ldn hT e6
    have hq:=keyEq_rel2 hC hT
    by_cases e:C=turnR C
    · have d0:decide (C=turnR C)=true:=decide_eq_true e
      have hor:orO L0=none:=by
        have:=orO_eq (hO _ (hclash e))
        simpa using this
      rw [d0] at hq
      have s7:=rC_stn (L:=rl fun _ _=>false) rl_len rl_len (M:=rl fun _ _=>false) ((gA.old h1.nx (by omega)).trans ((hk.old h1.nx (by omega) (kNe (by omega)).symm).trans e2'))
      have hr7:readP (h5.put h1.nx (rC (rl fun _ _=>false))) (.p h1.nx 0) (many? 49)=some (rV (rl fun _ _=>false)):=rC_read rl_len get_put_same
      simp (disch:=omega) only [f49_r6,f49_r7,f49_rs,Option.some.injEq,exists_eq_left',Nat.reduceEqDiff,↓reduceIte,g2,lC,lT,hq,cond_false,zero49,s7,hr7,bz]
      unfold orV
      rw [hor]
    · have d0:decide (C=turnR C)=false:=decide_eq_false e
      rw [d0] at hq
      have cC:=rC_cells hC
      have cT:=rC_cells hT
      have hu5:=hu.grow hk.hc gA
      obtain ⟨u',h7,a1,s1,o1,gr7,k7⟩:=Sk.push (b:=h2.nx.nat) eR_len (by omega) (x:=C) hu5 hou (by omega) hc5 (by omega)
      rw [eR_eq hC] at a1
      have hc7:=gr7.hc hc5
      have g7n:=gr7.nx
      -- what is older than these parts
      have old7:∀ id:K,id.nat < h5.nx.nat→NotIn id u→h7.get id=h5.get id:=fun id hi hn=>(k7 id hi hn).1
      have nlt:∀ id:K,id.nat < h2.nx.nat→NotIn id u:=fun id hi=>hou.notIn hi
      have nge:∀ id:K,h3.nx.nat ≤ id.nat→NotIn id u:=fun id hi off n sz ee=>by have:=hu.lt hk.hc _ _ _ _ ee; omega
      have e1_7:h7.get h.nx=rC L:=(old7 h.nx (by omega) (nlt _ (by omega))).trans ((gA.old h.nx (by omega)).trans hB)
      have eC_7:h7.get h3.nx=rC C:=(old7 h3.nx (by omega) (nge _ (Nat.le_refl _))).trans ((gr6.old h3.nx (by omega)).trans e4)
      have eT_7:h7.get h4.nx=rC (turnR C):=(old7 h4.nx (by omega) (nge _ (by omega))).trans e6
      have e5_7:h7.get id5 = .cells 2 [.i .i64 (x.1:Int), .i .i64 (x.2:Int)]:=(old7 id5 (by omega) h5n).trans ((gA.old id5 (by omega)).trans e5)
      have gL:Grow h7.nx.nat h7 (h7.new (.cells (2 * 49) (C.map V.b ++ (turnR C).map V.b))):=Grow.new (Nat.le_refl _) _
      have lL7:=rC_ldn hLl e1_7
      have lC7:=rC_ldn hC eC_7
      have lT7:=rC_ldn hT eT_7
      simp (disch:=omega) only [f49_r6,f49_r8,Nat.reduceEqDiff,↓reduceIte,Bool.false_eq_true,g4,lC,lT,hq,cond_false,fill_c,cC,set49a hC,a1,bz]
      simp (disch:=omega) only [f49_r9,Option.some.injEq,exists_eq_left',Nat.reduceEqDiff,↓reduceIte,g1,lL7,lC7,lT7,fill_c,cC,cT,set98a hC,set98b hC hT,hc7.dead,bz]
      refine ⟨fresh_one (n:=2) (sz:=49) (by simp (disch:=omega) only [getK_set,↓reduceIte]),?_⟩
      have hr8:=Rs.two (h:=h7) hC hT
      have n8:=nx_new h7 (.cells (2 * 49) (C.map V.b ++ (turnR C).map V.b))
      have hc8:=gL.hc hc7
      generalize h7.new (.cells (2 * 49) (C.map V.b ++ (turnR C).map V.b))=h8 at *
      have hall:∀ z ∈ [C,turnR C],z.length=49:=fun z hz=>by
        simp only [List.mem_cons,List.not_mem_nil,or_false] at hz
        rcases hz with rfl | rfl
        · exact hC
        · exact hT
      refine (callP_0 (ef:=f69) k.c69 rfl (f69_ret k.c76 k.c90 hr8 hall (by simp) hc8)).mono ?_
      rintro r h9 ⟨rfl,gr9⟩
      have gD:Grow h7.nx.nat h7 h9:=gL.trans (gr9.low (by omega))
      have hc9:=gr9.hc hc8
      have g9n:=gr9.nx
      have hJ:(jnR [C,turnR C]).length=49:=rl_len
      have hN:(woR L (jnR [C,turnR C])).length=49:=rl_len
      have e1_9:=(gD.old h.nx (by omega)).trans e1_7
      have lL9:=rC_ldn hLl e1_9
      have s9:=rC_stn hN hLl e1_9
      have kk:Kp h.nx h2 h9:=((hk.grow gA hkn).grow gr7 (Nat.le_refl _)).grow gD (by omega)
      have kP:=kk.put (by have:=hkn; omega) (rC (woR L (jnR [C,turnR C])))
      have e5_9:=(gD.old id5 (by omega)).trans e5_7
      have nid5:id5 ≠ h.nx:=fun e=>by have:=congrArg K.nat e; omega
      have e5_10:(h9.put h.nx (rC (woR L (jnR [C,turnR C])))).get id5 = .cells 2 [.i .i64 (x.1:Int), .i .i64 (x.2:Int)]:=by rw [get_put_other nid5]; exact e5_9
      have e1_10:(h9.put h.nx (rC (woR L (jnR [C,turnR C])))).get h.nx=rC (woR L (jnR [C,turnR C])):=get_put_same
      have u_10:Sk 49 eR (h9.put h.nx (rC (woR L (jnR [C,turnR C])))) u' (P ++ [C]):=(s1.grow hc7 gD).put (o1.notIn (by omega)) _
      have n10:(h9.put h.nx (rC (woR L (jnR [C,turnR C])))).nx.nat=h9.nx.nat:=rfl
      have hn81:=k.n71 L (jnR [C,turnR C])
      simp (disch:=omega) only [Nat.reduceEqDiff,↓reduceIte,g1,lL9,beq_rV,hn81 _ _ hLl hJ,s9,bz]
      generalize h9.put h.nx (rC (woR L (jnR [C,turnR C])))=h10 at *
      have l10:=ldn2 e5_10
      obtain ⟨hst,gB,c7,n11⟩:=arr_var (h:=h10) (x:=x.1) (y:=x.2)
      replace hst:storeV (h10.new (.cells 2 [.i .i64 0, .i .i64 0])) 2 (.p h10.nx 0) (aV x)=_:=hst
      simp (disch:=omega) only [f49_r10,f49_r11,Nat.reduceEqDiff,↓reduceIte,g5,l10,hav,hst,bz]
      generalize (h10.new (.cells 2 [.i .i64 0, .i .i64 0])).put h10.nx (.cells 2 [.i .i64 (x.1:Int), .i .i64 (x.2:Int)])=h11 at *
      have l11:=rC_ldn hN ((gB.old h.nx (by omega)).trans e1_10)
      have s11:storeV h11 2 (.p h10.nx 0) (aV (frX (woR L (jnR [C,turnR C])))) = .ok undefV (h11.put h10.nx (.cells 2 [.i .i64 ((frX (woR L (jnR [C,turnR C]))).1:Int), .i .i64 ((frX (woR L (jnR [C,turnR C]))).2:Int)])):=st2 c7
      simp (disch:=omega) only [f49_r12,Nat.reduceEqDiff,↓reduceIte,g1,l11,k.n77 _ _ _ hN,frV_eq,s11,bz]
      have gE:Grow h10.nx.nat h10 (h11.put h10.nx (.cells 2 [.i .i64 ((frX (woR L (jnR [C,turnR C]))).1:Int), .i .i64 ((frX (woR L (jnR [C,turnR C]))).2:Int)])):=gB.trans (Grow.put (Nat.le_refl _) (by omega) _)
      rw [hnx] at hct hstep sN
      refine ⟨(woR L (jnR [C,turnR C]),P ++ [C]),hct,sN,fun z hz=>?_,?_,fun r hr=>?_,kP.grow gE (by omega),(gE.old h.nx (by omega)).trans e1_10,u',h10.nx,frX (woR L (jnR [C,turnR C])),u_10.grow kP.hc gE,o1,by omega,by rw [nx_put]; omega,fun off n sz ee=>by have:=u_10.lt kP.hc _ _ _ _ ee; omega,get_put_same,fun y hy=>by unfold frX; rw [hy]; rfl,by simp (disch:=omega) only [getK_set,Nat.reduceEqDiff,↓reduceIte,g1,g2,and_self]⟩
      · rcases List.mem_append.1 hz with hz | hz
        · exact hP z hz
        · rw [List.mem_singleton.1 hz]; exact hC
      · simp only at hct hcn ⊢
        rw [List.length_append]
        show cntT (woR L (jnR [C,turnR C])) + (P.length + 1) ≤ 49
        omega
      · have:=hO _ (hstep r e hr)
        cases r with
        | none=>exact this
        | some qs =>
          simp only [Option.map_some] at this ⊢
          rw [List.append_assoc]; exact this
end
end Go.Ev
namespace Go.Ev
open Go Go.RowKit
theorem nd_arI {f:Nat→Nat→Bool}:Nd (arI f):=fun x hx=>by
  obtain ⟨a,b,h1,h2,_,rfl⟩:=mem_arI.1 hx
  show ((0:Int) ≤ (a:Int)∧(a:Int) < 7)∧((0:Int) ≤ (b:Int)∧(b:Int) < 7)
  omega
theorem relR_arI {L:List Bool} (hL:L.length=49):relR (arI (rat L))=L:=by
  refine rel_ext rl_len hL fun a b ha hb=>?_
  unfold relR
  rw [rat_rl,decide_eq_true ha,decide_eq_true hb,Bool.true_and,Bool.true_and,Bool.eq_iff_iff,decide_eq_true_eq,mem_arI']
  exact ⟨fun h=>h.2.2,fun h=>⟨ha,hb,h⟩⟩
theorem relR_iff {L:List (Int × Int)} {a b:Nat} (hn:Nd L):rat (relR L) a b=true ↔ ((a:Int),(b:Int)) ∈ L:=by
  unfold relR
  rw [rat_rl]
  simp only [Bool.and_eq_true,decide_eq_true_eq]
  exact ⟨fun h=>h.2,fun h=>⟨by have:=hn _ h; simp only at this; omega,h⟩⟩
theorem gR_iff {L:List (Int × Int)} {a b:Nat} (hn:Nd L):rat (gR L) a b=true ↔ ((a:Int),(b:Int)) ∈ L ∨ ((b:Int),(a:Int)) ∈ L:=by
  unfold gR
  rw [show jnR [relR L,turnR (relR L)]=jn2 (relR L) (turnR (relR L)) from rfl,jn2_iff,turnR_iff,relR_iff hn,relR_iff hn]
theorem gR_arI {n:Nat} {g:Nat→Nat→Bool} (hg:Gph n g) {a b:Nat}:rat (gR (arI g)) a b=true ↔ sy g a b=true:=by
  rw [gR_iff nd_arI,mem_arI',mem_arI']
  unfold sy
  rw [Bool.or_eq_true]
  have h7:=hg.n7
  exact or_congr ⟨fun h=>h.2.2,fun h=>by have:=hg.up _ _ h; exact ⟨by omega,by omega,h⟩⟩ ⟨fun h=>h.2.2,fun h=>by have:=hg.up _ _ h; exact ⟨by omega,by omega,h⟩⟩
theorem symR_g {n:Nat} {g:Nat→Nat→Bool} (hg:Gph n g):SymR (gR (arI g)):=by
  refine ⟨gR_len,⟨fun a b h=>?_,fun a h=>?_⟩⟩
  · have h:=(gR_arI hg).1 h
    exact (gR_arI hg).2 (by unfold sy at h ⊢; rw [Bool.or_comm]; exact h)
  · have h:=(gR_arI hg).1 h
    unfold sy at h
    rw [Bool.or_self] at h
    have:=hg.up _ _ h
    omega
theorem Er_lt {n:Nat} {g:Nat→Nat→Bool} (hg:Gph n g) {a b:Nat} (h:Er (gR (arI g)) a b):a < n∧b < n∧a ≠ b:=by
  have h:=(gR_arI hg).1 h
  unfold sy at h
  rcases Bool.or_eq_true _ _ ▸ h with h | h
  · have:=hg.up _ _ h; omega
  · have:=hg.up _ _ h; omega
theorem ris_arI {f:Nat→Nat→Bool} {n:Nat} (hf:∀ a b,a < 7→b < 7→f a b=true→a < n∧b < n∧a ≠ b):risB (n:Int) (arI f)=true:=by
  unfold risB
  refine @decide_eq_true _ (Classical.propDecidable _) fun j hj=>?_
  have hl:(arI f).length=(arw f).length:=by unfold arI; rw [List.length_map]
  have e:∀ i (hi:i < (arw f).length),(arI f).getD i (0,0)=toI (arw f)[i]:=fun i hi=>by
    rw [List.getD_eq_getElem?_getD]
    unfold arI
    rw [List.getElem?_map,List.getElem?_eq_getElem hi]; rfl
  refine ⟨?_,fun h0=>?_⟩
  · rw [e j (by omega)]
    obtain ⟨h1,h2,h3⟩:=arw_lt (List.getElem_mem (show j < (arw f).length by omega))
    obtain ⟨q1,q2,q3⟩:=hf _ _ h1 h2 h3
    unfold okE nodeB toI
    rw [decide_eq_true (show (0:Int) ≤ ((arw f)[j].1:Int)∧((arw f)[j].1:Int) < (n:Int) by omega),decide_eq_true (show (0:Int) ≤ ((arw f)[j].2:Int)∧((arw f)[j].2:Int) < (n:Int) by omega),decide_eq_true (show ((arw f)[j].1:Int) ≠ ((arw f)[j].2:Int) by omega)]
    try rfl
  · rw [e j (by omega),e (j - 1) (by omega)]
    have hs:=arw_sorted (g:=f) (i:=j - 1) (by omega)
    have ej:j - 1 + 1=j:=by omega
    simp only [ej] at hs
    obtain ⟨_,h2,_⟩:=arw_lt (List.getElem_mem (show j < (arw f).length by omega))
    obtain ⟨_,k2,_⟩:=arw_lt (List.getElem_mem (show j - 1 < (arw f).length by omega))
    unfold bfB toI
    by_cases e1:(arw f)[j - 1].1 < (arw f)[j].1
    · rw [decide_eq_true (show ((arw f)[j - 1].1:Int) < ((arw f)[j].1:Int) by omega)]; rfl
    · rw [decide_eq_true (show ((arw f)[j - 1].1:Int)=((arw f)[j].1:Int) by omega),decide_eq_true (show ((arw f)[j - 1].2:Int) < ((arw f)[j].2:Int) by omega)]
      simp
theorem chkG_g {n:Nat} {g:Nat→Nat→Bool} (hg:Gph n g):chkG (n:Int) (arI g)=0:=by
  have h1:=hg.n1; have h7:=hg.n7
  have hu:UpT (arI g) (arI g).length:=fun j hj=>by
    have hl:(arI g).length=(arw g).length:=by unfold arI; rw [List.length_map]
    rw [List.getD_eq_getElem?_getD]
    unfold arI
    rw [List.getElem?_map,List.getElem?_eq_getElem (show j < (arw g).length by omega)]
    obtain ⟨_,_,h3⟩:=arw_lt (List.getElem_mem (show j < (arw g).length by omega))
    have:=hg.up _ _ h3
    show ((arw g)[j].1:Int) ≤ ((arw g)[j].2:Int)
    omega
  unfold chkG
  rw [if_neg (by omega),if_pos ⟨ris_arI fun a b _ _ h=>by have:=hg.up _ _ h; omega,hu⟩]
open Classical in
noncomputable def ckO (n:Int) (L:List (Int × Int)):Int:=if n < 1 ∨ 7 < n then 1 else if risB n L=true∧trB (relR L)=true then 0 else 30
theorem trB_iff {L:List Bool} (hL:L.length=49):trB L=true ↔ ∀ a b c,rat L a b=true→rat L b c=true→rat L a c=true:=by
  unfold trB
  rw [cvB_iff hL]
  exact ⟨fun h a b c h1 h2=>h a c (spR_iff.2 ⟨b,h1,h2⟩),fun h a c h1=>by obtain ⟨b,h2,h3⟩:=spR_iff.1 h1; exact h a b c h2 h3⟩
structure OrdN (n:Nat) (L:List Bool):Prop where
  len:L.length=49
  lt:∀ a b,rat L a b=true→a < n∧b < n
  irr:∀ a,¬ rat L a a=true
  tr:∀ a b c,rat L a b=true→rat L b c=true→rat L a c=true
theorem ckO_o {n:Nat} {L:List Bool} (h1:1 ≤ n) (h7:n ≤ 7) (o:OrdN n L):ckO (n:Int) (arI (rat L))=0:=by
  unfold ckO
  rw [if_neg (by omega),if_pos ⟨ris_arI fun a b _ _ h=>by have:=o.lt _ _ h; exact ⟨this.1,this.2,fun e=>o.irr a (by rw [← e] at h; exact h)⟩,by rw [relR_arI o.len,trB_iff o.len]; exact o.tr⟩]
theorem ris_nd {n:Int} {L:List (Int × Int)} (hn:n ≤ 7) (h:risB n L=true):Nd L:=fun x hx=>by
  unfold risB at h
  have h := @of_decide_eq_true _ (Classical.propDecidable _) h
  obtain ⟨i,hi,rfl⟩:=List.getElem_of_mem hx
  have:=(h i hi).1
  rw [List.getD_eq_getElem?_getD,List.getElem?_eq_getElem hi] at this
  have this:okE n L[i]=true:=this
  unfold okE nodeB at this
  simp only [Bool.and_eq_true,decide_eq_true_eq] at this
  omega
theorem ord_n {n:Nat} {g:Nat→Nat→Bool} (hg:Gph n g) {L:List Bool} (hL:L.length=49) (o:Ord (Er (gR (arI g))) (Er L)):OrdN n L :=
  ⟨hL,fun _a _b h=>⟨(Er_lt hg (o.sub _ _ h)).1,(Er_lt hg (o.sub _ _ h)).2.1⟩,fun a h=>(symR_g hg).gr.irr a (o.sub _ _ h),o.tr⟩
theorem OrS.total:∀ (m:Nat) {L:List Bool},SymR L→cntT L ≤ m → ∃ r,OrS L r:=by
  intro m
  induction m with
  | zero =>
    intro L s hm
    cases hf:frO L with
    | none=>exact ⟨_, .done hf⟩
    | some x=>have:=nxR_cnt s hf; omega
  | succ m ih =>
    intro L s hm
    cases hf:frO L with
    | none=>exact ⟨_, .done hf⟩
    | some x =>
      by_cases e:clsR L x=turnR (clsR L x)
      · exact ⟨_, .clash hf e⟩
      · obtain ⟨h1,h2,_⟩:=frO_some hf
        obtain ⟨r,hr⟩:=ih (s.next ⟨h1,h2⟩) (by have:=nxR_cnt s hf; omega)
        exact ⟨_, .step hf e hr⟩
theorem orO_spec {L:List Bool} (s:SymR L):(∃ ps,orO L=some ps∧Ord (Er L) (Er (jnR ps))) ∨ (orO L=none ∧ ¬ CF (Er L)):=by
  obtain ⟨r,hr⟩:=OrS.total _ s (Nat.le_refl _)
  have h1:=orO_eq hr
  have h2:=hr.sound s
  cases r with
  | none=>exact .inr ⟨h1,h2.2 rfl⟩
  | some ps=>exact .inl ⟨ps,h1,(h2.1 ps rfl).1⟩
end Go.Ev
