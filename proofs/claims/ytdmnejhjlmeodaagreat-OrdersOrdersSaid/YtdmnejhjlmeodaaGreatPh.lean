/-
  Orders: the reference's search of a class (Class)., and what follows.
-/
import Derived.Test.YtdmnejhjlmeodaaGreatPe
import Derived.Test.YtdmnejhjlmeodaaGreatPg
import Derived.Test.YtdmnejhjlmeodaaGreatPd
import Derived.Test.YtdmnejhjlmeodaaGreatPf
namespace Go.Ev
open Go Go.RowKit
noncomputable def f64_r0:List EOper := [oG 5 (.box 2 (tG 2)),oG 6 (.as (.c .sn)),oG 7 (.as (.c .sn))]
noncomputable def f64_r1:List EOper := [oG 20 (.mv (tG 0)),oG 21 (.mv (tG 1)),oG 22 (.call (fG 63) [(tG 20),(tG 21)]),oG 8 (.as (tG 22))]
noncomputable def f64_r2:List EOper := [oG 23 (.mkmap 23),oG 24 (.ldn 2 (tG 5)),⟨none,none, .mupd 23 (.many [(some .i64),(some .i64)]) (tG 23) (tG 24) (cG 0)⟩,oG 25 (.mv (tG 23)),oG 9 (.as (tG 25))]
noncomputable def f64_r3:List EOper := [oG 26 (.ldn 2 (tG 5)),oG 27 (.bslice 1 2 [(.i .i64 (.ofNat 0)),(.i .i64 (.ofNat 0))] [(0,2,(tG 26))]),oG 10 (.as (tG 27))]
noncomputable def f64_r4:List EOper := [oG 11 (.as (cG 0))]
noncomputable def f64_r5:List EOper := [oG 28 (.mv (tG 11)),oG 29 (.mv (tG 10)),oG 30 (.len (tG 29)),oG 31 (.bin .lss (tG 28) (tG 30))]
noncomputable def f64_r6:List EOper := [oG 12 (.as (cG 0))]
noncomputable def f64_r7:List EOper := [oG 34 (.mv (tG 12)),oG 35 (.mv (tG 8)),oG 36 (.len (tG 35)),oG 37 (.bin .lss (tG 34) (tG 36))]
noncomputable def f64_r8:List EOper := [oG 41 (.mv (tG 9)),oG 42 (.mv (tG 8)),oG 43 (.mv (tG 12)),oG 44 (.iads 2 (tG 42) (tG 43)),oG 45 (.ldn 2 (tG 44)),oG 46 (.look 23 (.many [(some .i64),(some .i64)]) (.i .i64 (.ofNat 0)) (tG 41) (tG 45) true),oG 40 (.mv (tG 46)),oG 47 (.ext (tG 40) 0),oG 48 (.ext (tG 40) 1),oG 13 (.as (tG 47)),oG 14 (.as (tG 48))]
noncomputable def f64_r9:List Stage := [⟨[oG 49 (.mv (tG 14)),oG 50 (.not (tG 49)),oG 51 (.mv (tG 50)),gG 52 51 true (.mv (tG 1)),gG 53 51 true (.mv (tG 10)),gG 54 51 true (.mv (tG 11)),gG 55 51 true (.iads 2 (tG 53) (tG 54)),gG 56 51 true (.ldn 2 (tG 55)),gG 57 51 true (.mv (tG 8)),gG 58 51 true (.mv (tG 12)),gG 59 51 true (.iads 2 (tG 57) (tG 58)),gG 60 51 true (.ldn 2 (tG 59))], [],(some (gG 61 51 true (.call (fG 87) [(tG 52),(tG 56),(tG 60)]))), []⟩,⟨[oG 62 (.pick (tG 51) (tG 61) (.c (.b false)))], [],none, []⟩]
noncomputable def f64_r10:List Stage := [⟨[oG 63 (.mv (tG 9)),oG 64 (.mv (tG 8)),oG 65 (.mv (tG 12)),oG 66 (.iads 2 (tG 64) (tG 65)),oG 67 (.ldn 2 (tG 66)),oG 68 (.mv (tG 9)),oG 69 (.mv (tG 10)),oG 70 (.mv (tG 11)),oG 71 (.iads 2 (tG 69) (tG 70)),oG 72 (.ldn 2 (tG 71)),oG 73 (.look 23 (.many [(some .i64),(some .i64)]) (.i .i64 (.ofNat 0)) (tG 68) (tG 72) false),oG 74 (.bin .add (tG 73) (cG 1))], [],(some ⟨none,none, .mupd 23 (.many [(some .i64),(some .i64)]) (tG 63) (tG 67) (tG 74)⟩), []⟩,⟨[], [],none, []⟩]
noncomputable def f64_r11:List EOper := [oG 75 (.mv (tG 10)),oG 76 (.mv (tG 8)),oG 77 (.mv (tG 12)),oG 78 (.iads 2 (tG 76) (tG 77)),oG 79 (.ldn 2 (tG 78)),oG 80 (.bslice 1 2 [(.i .i64 (.ofNat 0)),(.i .i64 (.ofNat 0))] [(0,2,(tG 79))]),oG 81 (.app 2 (tG 75) (tG 80)),oG 10 (.as (tG 81))]
noncomputable def f64_r12:List EOper := [oG 38 (.mv (tG 12)),oG 39 (.bin .add (tG 38) (cG 1)),oG 12 (.as (tG 39))]
noncomputable def f64_l0:EC:=(.seq (.seq (.reg f64_r7) (.cond (tG 37) .skip (.exit 2))) (.seq (.block 3 (.seq (.reg f64_r8) (.seq (.draw f64_r9) (.cond (tG 62) (.seq (.draw f64_r10) (.reg f64_r11)) .skip)))) (.reg f64_r12)))
noncomputable def f64_r13:List EOper := [oG 32 (.mv (tG 11)),oG 33 (.bin .add (tG 32) (cG 1)),oG 11 (.as (tG 33))]
noncomputable def f64_l1:EC:=(.seq (.seq (.reg f64_r5) (.cond (tG 31) .skip (.exit 0))) (.seq (.block 1 (.seq (.reg f64_r6) (.block 2 (.loop f64_l0)))) (.reg f64_r13)))
noncomputable def f64_r14:List EOper := [oG 15 (.as (.c .sn))]
noncomputable def f64_r15:List EOper := [oG 16 (.as (.c .sn))]
noncomputable def f64_r16:List EOper := [oG 17 (.as (cG 0))]
noncomputable def f64_r17:List EOper := [oG 82 (.mv (tG 17)),oG 83 (.mv (tG 8)),oG 84 (.len (tG 83)),oG 85 (.bin .lss (tG 82) (tG 84))]
noncomputable def f64_r18:List EOper := [oG 89 (.mv (tG 9)),oG 90 (.mv (tG 8)),oG 91 (.mv (tG 17)),oG 92 (.iads 2 (tG 90) (tG 91)),oG 93 (.ldn 2 (tG 92)),oG 94 (.look 23 (.many [(some .i64),(some .i64)]) (.i .i64 (.ofNat 0)) (tG 89) (tG 93) true),oG 88 (.mv (tG 94)),oG 95 (.ext (tG 88) 0),oG 96 (.ext (tG 88) 1),oG 18 (.as (tG 95)),oG 19 (.as (tG 96))]
noncomputable def f64_r19:List EOper := [oG 97 (.mv (tG 19))]
noncomputable def f64_r20:List EOper := [oG 98 (.mv (tG 15)),oG 99 (.mv (tG 8)),oG 100 (.mv (tG 17)),oG 101 (.iads 2 (tG 99) (tG 100)),oG 102 (.ldn 2 (tG 101)),oG 103 (.bslice 1 2 [(.i .i64 (.ofNat 0)),(.i .i64 (.ofNat 0))] [(0,2,(tG 102))]),oG 104 (.app 2 (tG 98) (tG 103)),oG 15 (.as (tG 104))]
noncomputable def f64_r21:List EOper := [oG 105 (.mv (tG 16)),oG 106 (.mv (tG 18)),oG 107 (.bslice 1 1 [(.i .i64 (.ofNat 0))] [(0,1,(tG 106))]),oG 108 (.app 1 (tG 105) (tG 107)),oG 16 (.as (tG 108))]
noncomputable def f64_r22:List EOper := [oG 86 (.mv (tG 17)),oG 87 (.bin .add (tG 86) (cG 1)),oG 17 (.as (tG 87))]
noncomputable def f64_l2:EC:=(.seq (.seq (.reg f64_r17) (.cond (tG 85) .skip (.exit 4))) (.seq (.block 5 (.seq (.reg f64_r18) (.seq (.reg f64_r19) (.cond (tG 97) (.seq (.reg f64_r20) (.reg f64_r21)) .skip)))) (.reg f64_r22)))
noncomputable def f64_r23:List EOper := [oG 109 (.mv (tG 15)),oG 110 (.mv (tG 16)),oG 6 (.as (tG 109)),oG 7 (.as (tG 110))]
noncomputable def f64_c:EC:=(.seq (.reg f64_r0) (.seq (.reg f64_r1) (.seq (.reg f64_r2) (.seq (.reg f64_r3) (.seq (.seq (.reg f64_r4) (.block 0 (.loop f64_l1))) (.seq (.reg f64_r14) (.seq (.reg f64_r15) (.seq (.seq (.reg f64_r16) (.block 4 (.loop f64_l2))) (.seq (.reg f64_r23) .ret)))))))))
noncomputable def f64:EF:=⟨111, [.tmp (.ofNat 6), .tmp (.ofNat 7)],f64_c,none⟩
theorem f64_rs:f64.rs = [.tmp (.ofNat 6), .tmp (.ofNat 7)]:=of_eq_true (eq_self _)
/-! ### Plain -/
abbrev DM:=List ((Nat × Nat) × Nat)
def kyD (M:DM):List (Nat × Nat):=M.map Prod.fst
def lkD:DM→Nat × Nat→Option Nat
  | [],_=>none
  | e :: M,x=>if x=e.1 then some e.2 else lkD M x
inductive BfsR (G:List Bool) (s:Nat × Nat):Nat→Nat→DM→Prop where
  | start:BfsR G s 0 0 [(s,0)]
  | skip {i k:Nat} {M:DM} {x p:Nat × Nat} {d:Nat}:BfsR G s i k M→M[i]? = some (x,d)→(arw (rat G))[k]? = some p→(p ∈ kyD M ∨ frcB G x p=false)→BfsR G s i (k + 1) M
  | add {i k:Nat} {M:DM} {x p:Nat × Nat} {d:Nat}:BfsR G s i k M→M[i]? = some (x,d)→(arw (rat G))[k]? = some p→p ∉ kyD M→frcB G x p=true→BfsR G s i (k + 1) (M ++ [(p,d + 1)])
  | next {i:Nat} {M:DM}:BfsR G s i (arw (rat G)).length M→i < M.length→BfsR G s (i + 1) 0 M
structure BfsI (G:List Bool) (s:Nat × Nat) (i k:Nat) (M:DM):Prop where
  nd:(kyD M).Nodup
  arr:∀ p ∈ kyD M,rat G p.1 p.2=true∧Rch (Er G) s.1 s.2 p.1 p.2
  beg:M[0]? = some (s,0)
  dl:∀ e ∈ M,e.2 + 1 ≤ M.length
  clo:∀ (j:Nat) (x:Nat × Nat) (d:Nat),j < i→M[j]? = some (x,d) → ∀ p,rat G p.1 p.2=true→frcB G x p=true→p ∈ kyD M
  cur:∀ (j:Nat) (x p:Nat × Nat) (d:Nat),j < k→M[i]? = some (x,d)→(arw (rat G))[j]? = some p→frcB G x p=true→p ∈ kyD M
theorem frcB_rch {G:List Bool} (sy:SymR G) {x p:Nat × Nat} (hp:rat G p.1 p.2=true) (h:frcB G x p=true) {a b:Nat} (k:Rch (Er G) a b x.1 x.2):Rch (Er G) a b p.1 p.2:=by
  unfold frcB at h
  rcases Bool.or_eq_true _ _ ▸ h with h | h
  · rw [← of_decide_eq_true h]; exact k
  · by_cases e:x.1=p.1
    · rw [if_pos e] at h
      rw [← e] at hp ⊢
      exact k.out hp (fun h2=>by have h2:rat G x.2 p.2=true:=h2; rw [h2] at h; cases h)
    · rw [if_neg e] at h
      simp only [Bool.and_eq_true,decide_eq_true_eq] at h
      rw [← h.1] at hp ⊢
      exact k.inn hp (fun h2=>by
        have h2:rat G x.1 p.1=true:=sy.gr.sym _ _ h2
        rw [h2] at h; exact absurd h.2 (by simp))
theorem at_app {α:Type} {M:List α} {x y : α} {j:Nat} (h:(M ++ [y])[j]? = some x) (hj:j < M.length):M[j]? = some x:=by
  rw [List.getElem?_append_left hj] at h; exact h
theorem get_lt {α:Type} {M:List α} {x : α} {j:Nat} (h:M[j]? = some x):j < M.length:=by
  by_cases e:j < M.length
  · exact e
  · rw [List.getElem?_eq_none (by omega)] at h; cases h
theorem BfsR.inv {G:List Bool} (sy:SymR G) {s:Nat × Nat} (hs:rat G s.1 s.2=true) {i k:Nat} {M:DM} (r:BfsR G s i k M):BfsI G s i k M:=by
  induction r with
  | start =>
    exact ⟨by simp [kyD],fun p hp=>by simp [kyD] at hp; rw [hp]; exact ⟨hs, .refl⟩,rfl,fun e he=>by simp at he; rw [he]; simp,fun j x d hj=>by omega,fun j x p d hj=>by omega⟩
  | @skip i k M x p d _ h1 h2 h3 ih =>
    refine ⟨ih.nd,ih.arr,ih.beg,ih.dl,ih.clo,fun j x' p' d' hj h1' h2' h3'=>?_⟩
    by_cases e:j=k
    · subst e
      rw [h1] at h1'; cases h1'
      rw [h2] at h2'; cases h2'
      rcases h3 with h3 | h3
      · exact h3
      · rw [h3] at h3'; cases h3'
    · exact ih.cur j x' p' d' (by omega) h1' h2' h3'
  | @add i k M x p d _ h1 h2 h3 h4 ih =>
    have hil:=get_lt h1
    have hpG:rat G p.1 p.2=true:=(arw_lt (List.mem_of_getElem? h2)).2.2
    have hk:kyD (M ++ [(p,d + 1)])=kyD M ++ [p]:=by unfold kyD; simp
    have hxm:x ∈ kyD M:=List.mem_map.2 ⟨(x,d),List.mem_of_getElem? h1,rfl⟩
    have up:∀ {q},q ∈ kyD M→q ∈ kyD (M ++ [(p,d + 1)]):=fun h=>by rw [hk]; exact List.mem_append_left _ h
    refine ⟨?_,fun q hq=>?_,?_,fun e he=>?_,fun j y e hj hy q hq hf=>up (ih.clo j y e hj (at_app hy (by omega)) q hq hf),fun j y q e hj hy hq hf=>?_⟩
    · rw [hk,List.nodup_append]
      refine ⟨ih.nd,by simp,fun a ha b hb e=>h3 ?_⟩
      rw [List.mem_singleton] at hb
      rw [← hb,← e]; exact ha
    · rw [hk,List.mem_append,List.mem_singleton] at hq
      rcases hq with hq | rfl
      · exact ih.arr q hq
      · exact ⟨hpG,frcB_rch sy hpG h4 (ih.arr x hxm).2⟩
    · rw [List.getElem?_append_left (get_lt ih.beg)]; exact ih.beg
    · rw [List.length_append,List.length_singleton]
      rcases List.mem_append.1 he with he | he
      · have:=ih.dl e he; omega
      · rw [List.mem_singleton.1 he]
        have:=ih.dl _ (List.mem_of_getElem? h1)
        show d + 1 + 1 ≤ M.length + 1
        have:d + 1 ≤ M.length:=this
        omega
    · by_cases e2:j=k
      · subst e2
        rw [h2] at hq; cases hq
        rw [hk]; simp
      · exact up (ih.cur j y q e (by omega) (at_app hy hil) hq hf)
  | @next i M _ hi ih =>
    refine ⟨ih.nd,ih.arr,ih.beg,ih.dl,fun j x d hj hx p hp hf=>?_,fun j x p d hj=>by omega⟩
    by_cases e:j=i
    · subst e
      obtain ⟨k,hk,ek⟩:=List.getElem_of_mem (mem_arw.2 ⟨(rat_lt hp).1,(rat_lt hp).2,hp⟩:(p.1,p.2) ∈ arw (rat G))
      exact ih.cur k x p d hk hx (by rw [List.getElem?_eq_getElem hk,ek]) hf
    · exact ih.clo j x d (by omega) hx p hp hf
theorem BfsI.len {G:List Bool} {s:Nat × Nat} {i k:Nat} {M:DM} (b:BfsI G s i k M):M.length ≤ 49:=by
  have h:=nodup_leO (m:=arw (rat G)) b.nd fun x hx=>mem_arw.2 ⟨(rat_lt (b.arr x hx).1).1,(rat_lt (b.arr x hx).1).2,(b.arr x hx).1⟩
  have:=arI_len (g:=rat G)
  unfold arI at this
  unfold kyD at h
  rw [List.length_map] at h this
  omega
theorem BfsI.cls {G:List Bool} (sy:SymR G) {s:Nat × Nat} (hs:rat G s.1 s.2=true) {M:DM} (b:BfsI G s M.length 0 M) (p:Nat × Nat):p ∈ kyD M ↔ rat (clsR G s) p.1 p.2=true:=by
  rw [clsR_iff (rat_lt hs)]
  refine ⟨fun h=>(b.arr p h).2,fun h=>?_⟩
  have cl:∀ {x q:Nat × Nat},x ∈ kyD M→rat G q.1 q.2=true→frcB G x q=true→q ∈ kyD M:=fun {x q} hx hq hf=>by
    obtain ⟨⟨y,d⟩,he,rfl⟩:=List.mem_map.1 hx
    obtain ⟨j,hj,ej⟩:=List.getElem_of_mem he
    exact b.clo j y d hj (by rw [List.getElem?_eq_getElem hj,ej]) q hq hf
  have all:∀ {c d:Nat},Rch (Er G) s.1 s.2 c d→(c,d) ∈ kyD M:=fun {c d} h=>by
    induction h with
    | refl=>exact List.mem_map.2 ⟨(s,0),List.mem_of_getElem? b.beg,rfl⟩
    | @out c d e _ h1 h2 ih =>
      have h2:¬ rat G d e=true:=h2
      exact cl (q:=(c,e)) ih h1 (by unfold frcB; simp only [if_true,Bool.or_eq_true]; exact .inr (by simpa using h2))
    | @inn c d e _ h1 h2 ih =>
      have h2:¬ rat G e c=true:=h2
      have h3:¬ rat G c e=true:=fun h=>h2 (sy.gr.sym _ _ h)
      by_cases ee:c=e
      · rw [← ee]; exact ih
      · exact cl (q:=(e,d)) ih h1 (by unfold frcB; simp only [if_neg ee,decide_true,Bool.true_and,Bool.or_eq_true]; exact .inr (by simpa using h3))
  exact all h
theorem lkD_none {M:DM} {x:Nat × Nat}:lkD M x=none ↔ x ∉ kyD M:=by
  induction M with
  | nil=>simp [lkD,kyD]
  | cons e M ih =>
    show (if x=e.1 then some e.2 else lkD M x)=none ↔ x ∉ e.1 :: kyD M
    rw [List.mem_cons,not_or]
    by_cases h:x=e.1
    · rw [if_pos h]; simp [h]
    · rw [if_neg h,ih]; simp [h]
theorem lkD_app {M:DM} {x y:Nat × Nat} {v:Nat} (hx:x ∉ kyD M):lkD (M ++ [(x,v)]) y=if y=x then some v else lkD M y:=by
  induction M with
  | nil=>rfl
  | cons e M ih =>
    have hx':x ≠ e.1∧x ∉ kyD M:=by
      have:x ∉ e.1 :: kyD M:=hx
      rw [List.mem_cons,not_or] at this
      exact this
    show (if y=e.1 then some e.2 else lkD (M ++ [(x,v)]) y)=if y=x then some v else if y=e.1 then some e.2 else lkD M y
    rw [ih hx'.2]
    by_cases h:y=e.1
    · rw [if_pos h,if_neg (fun e2=>hx'.1 (e2.symm.trans h)),if_pos h]
    · rw [if_neg h,if_neg h]
theorem lkD_at {M:DM} {i:Nat} {x:Nat × Nat} {d:Nat} (hn:(kyD M).Nodup) (h:M[i]? = some (x,d)):lkD M x=some d:=by
  induction M generalizing i with
  | nil=>simp at h
  | cons e M ih =>
    have hn:(e.1 :: kyD M).Nodup:=hn
    rw [List.nodup_cons] at hn
    show (if x=e.1 then some e.2 else lkD M x)=some d
    cases i with
    | zero=>simp at h; subst h; rw [if_pos rfl]
    | succ i =>
      have h:M[i]? = some (x,d):=by simpa using h
      have hx:x ∈ kyD M:=List.mem_map.2 ⟨(x,d),List.mem_of_getElem? h,rfl⟩
      rw [if_neg (fun e2=>hn.1 (by rw [← e2]; exact hx))]
      exact ih hn.2 h
def dF (M:DM) (z:Int × Int):Option Int:=if 0 ≤ z.1∧0 ≤ z.2 then (lkD M (z.1.toNat,z.2.toNat)).map Int.ofNat else none
theorem dF_toI {M:DM} {x:Nat × Nat}:dF M (toI x)=(lkD M x).map Int.ofNat:=by
  unfold dF toI
  rw [if_pos (by simp only; omega)]
  rfl
theorem dF_app {M:DM} {x:Nat × Nat} {v:Nat} (hx:x ∉ kyD M):dF (M ++ [(x,v)])=fun y=>if y=toI x then some (v:Int) else dF M y:=by
  funext y
  by_cases h:0 ≤ y.1∧0 ≤ y.2
  · have e:y=toI (y.1.toNat,y.2.toNat):=Prod.ext (show y.1=(y.1.toNat:Int) by omega) (show y.2=(y.2.toNat:Int) by omega)
    rw [e,dF_toI,dF_toI,lkD_app hx]
    by_cases h2:(y.1.toNat,y.2.toNat)=x
    · rw [if_pos h2,if_pos (by rw [h2])]; rfl
    · rw [if_neg h2,if_neg (fun h3=>h2 ?_)]
      unfold toI at h3
      injection h3 with h3 h4
      exact Prod.ext (by simp only at h3 ⊢; omega) (by simp only at h4 ⊢; omega)
  · have h2:¬ y=toI x:=fun e=>h (by rw [e]; unfold toI; simp only; omega)
    rw [if_neg h2]
    unfold dF
    rw [if_neg h,if_neg h]
theorem dF_one {s:Nat × Nat}:dF [(s,0)]=fun y=>if y=toI s then some 0 else none:=by
  rw [show [(s,0)]=([]:DM) ++ [(s,0)] from rfl,dF_app (by simp [kyD])]
  funext y
  by_cases h:y=toI s
  · rw [if_pos h,if_pos h]; rfl
  · rw [if_neg h,if_neg h]; unfold dF; split <;> rfl
theorem MapF.look0 {h:H} {id:K} {kt:Nat} {f:Int × Int→Option Int} {x:Int × Int} {v:Int} {z:V} (hm:MapF h id kt f) (hx:in2 x) (hv:f x=some v):lookV kt (.many [some .i64,some .i64]) z h (.m id) (pZ x) false = .ok (.i .i64 v) h:=by
  obtain ⟨M,e1,e2,e3⟩:=hm
  show ((h.get id).onM kt fun es=>oGet (findE (.many [some .i64,some .i64]) (pZ x) es) RV.no fun r=>bif false then RV.ok (oGet r (.tup [z, .b false]) fun v => .tup [v, .b true]) h else RV.ok (oGet r z fun v=>v) h)=_
  rw [e1]
  show (bif Nat.beq kt kt then (oGet (findE (.many [some .i64,some .i64]) (pZ x) (entZ M)) RV.no fun r=>RV.ok (oGet r z fun v=>v) h) else _)=_
  rw [Nat.beq_same,find_z hx M e2,e3,hv]; rfl
theorem MapF.lt_nx {h:H} {id:K} {kt:Nat} {f:Int × Int→Option Int} (hm:MapF h id kt f) (hc:HC h):id.nat < h.nx.nat:=by
  obtain ⟨M,e1,_⟩:=hm
  by_cases e:id.nat < h.nx.nat
  · exact e
  · have:=hc id (by omega)
    rw [e1] at this; cases this
theorem arw_filter {f:Nat→Nat→Bool} {p:Nat × Nat→Bool}:(arw f).filter p=arw fun a b=>f a b && p (a,b):=by
  unfold arw
  rw [List.filter_map,List.filter_filter]
  congr 1
  refine List.filter_congr fun i _=>?_
  rw [Bool.and_comm]; rfl
section
variable {fs:T EF} {h h':H}
def kyI (M:DM):List (Int × Int):=(kyD M).map toI
theorem kyI_len {M:DM}:(kyI M).length=M.length:=by unfold kyI kyD; rw [List.length_map,List.length_map]
theorem kyI_at {M:DM} {i:Nat} {x:Nat × Nat} {d:Nat} (h:M[i]? = some (x,d)) (hi:i < (kyI M).length):(kyI M)[i]=toI x:=by
  have:(kyI M)[i]? = some (toI x):=by
    unfold kyI kyD
    rw [List.getElem?_map,List.getElem?_map,h]; rfl
  rw [List.getElem?_eq_getElem hi] at this
  exact Option.some.inj this
theorem arI_at {G:Nat→Nat→Bool} {k:Nat} {p:Nat × Nat} (h:(arw G)[k]? = some p) (hk:k < (arI G).length):(arI G)[k]=toI p:=by
  have:(arI G)[k]? = some (toI p):=by
    unfold arI
    rw [List.getElem?_map,h]; rfl
  rw [List.getElem?_eq_getElem hk] at this
  exact Option.some.inj this
structure CallsCs (fs:T EF):Prop extends CallsJn fs where
  c87:fs.get (K.ofNat 87)=some f87
  c63:fs.get (K.ofNat 63)=some f63
structure Mq (h3:H) (M:DM) (q:V) (h1:H):Prop where
  gr:Grow h3.nx.nat h3 h1
  hc:HC h1
  mp:MapF h1 h3.nx 23 (dF M)
  sk:Sk 2 qE h1 q (kyI M)
  own:Own (h3.nx.nat + 1) q
def f64_A (h3:H) (v al:V) (G:List Bool) (s:Nat × Nat) (z:Nat × DM) (fr:Fr) (h1:H):Prop:=z.1 ≤ z.2.length∧BfsR G s z.1 0 z.2 ∧ ∃ q,Mq h3 z.2 q h1∧fr.get (K.ofNat 1)=some (v)∧fr.get (K.ofNat 8)=some (al)∧fr.get (K.ofNat 9)=some (.m h3.nx)∧fr.get (K.ofNat 10)=some (q)∧fr.get (K.ofNat 11)=some (.i .i64 (z.1:Int))
def f64_B (h3:H) (v al:V) (G:List Bool) (s:Nat × Nat) (i:Nat) (z:Nat × DM) (fr:Fr) (h1:H):Prop:=z.1 ≤ (arw (rat G)).length∧i < z.2.length∧BfsR G s i z.1 z.2 ∧ ∃ q,Mq h3 z.2 q h1∧fr.get (K.ofNat 1)=some (v)∧fr.get (K.ofNat 8)=some (al)∧fr.get (K.ofNat 9)=some (.m h3.nx)∧fr.get (K.ofNat 10)=some (q)∧fr.get (K.ofNat 11)=some (.i .i64 (i:Int))∧fr.get (K.ofNat 12)=some (.i .i64 (z.1:Int))
def kn (M:DM) (p:Nat × Nat):Bool:=(lkD M p).isSome
def outT (G:List Bool) (M:DM) (k:Nat):List (Nat × Nat):=((arw (rat G)).take k).filter (kn M)
def farT (G:List Bool) (M:DM) (k:Nat):List Int:=(outT G M k).map fun p=>(((lkD M p).getD 0:Nat):Int)
def f64_C (h4:H) (al:V) (G:List Bool) (M:DM) (idm:K) (k:Nat) (fr:Fr) (h1:H):Prop:=k ≤ (arw (rat G)).length ∧ ∃ u w,Grow h4.nx.nat h4 h1∧HC h1∧Sk 2 qE h1 u ((outT G M k).map toI)∧Own h4.nx.nat u∧Sl iE h1 w (farT G M k)∧Own h4.nx.nat w∧(∀ id off n sz,u = .sl id off n sz→NotIn id w)∧fr.get (K.ofNat 8)=some (al)∧fr.get (K.ofNat 9)=some (.m idm)∧fr.get (K.ofNat 15)=some (u)∧fr.get (K.ofNat 16)=some (w)∧fr.get (K.ofNat 17)=some (.i .i64 (k:Int))
theorem f64_ret {n:Nat} {v:V} {g:Nat→Nat→Bool} {s:Nat × Nat} (k:CallsCs fs) (hg:Gph n g) (hv:Srp h v (arI g)) (hs:rat (gR (arI g)) s.1 s.2=true) (hc:HC h):Ret fs f64 [.i .i64 (n:Int),v,aV s] h fun r h'=>∃ u w M,r = .tup [u,w]∧BfsR (gR (arI g)) s M.length 0 M∧Sk 2 qE h' u (arI (rat (clsR (gR (arI g)) s)))∧Own h.nx.nat u∧Sl iE h' w ((arw (rat (clsR (gR (arI g)) s))).map fun p=>(((lkD M p).getD 0:Nat):Int))∧Own h.nx.nat w∧Grow h.nx.nat h h':=by
  have hlb:=arI_len (g:=g)
  have sy:=symR_g hg
  have hs7:=rat_lt hs
  apply ret_of rfl
  show W fs none f64_c _ _ _
  unfold f64_c
  have cs:cellsN 2 (aV s)=some [.i .i64 (s.1:Int), .i .i64 (s.2:Int)]:=rfl
  have n1:=nx_new h (.cells 2 [.i .i64 (s.1:Int), .i .i64 (s.2:Int)])
  have g1:Grow h.nx.nat h (h.new (.cells 2 [.i .i64 (s.1:Int), .i .i64 (s.2:Int)])):=Grow.new (Nat.le_refl _) _
  have e1:(h.new (.cells 2 [.i .i64 (s.1:Int), .i .i64 (s.2:Int)])).get h.nx = .cells 2 [.i .i64 (s.1:Int), .i .i64 (s.2:Int)]:=get_new_same
  simp (disch:=omega) only [f64_r0,f64_r1,Nat.reduceEqDiff,↓reduceIte,cs,bz]
  generalize h.new (.cells 2 [.i .i64 (s.1:Int), .i .i64 (s.2:Int)])=h1 at *
  have hc1:=g1.hc hc
  refine (callP_0 (ef:=f63) k.c63 rfl (f63_ret k.toCallsJn hg (hv.grow hc g1) hc1)).mono ?_
  rintro al h2 ⟨hal,hoal,g2⟩
  have hc2:=g2.hc hc1
  have gA:=g1.trans (g2.low g1.nx)
  have hv2:=hv.grow hc gA
  have e2:=(g2.old h.nx (by omega)).trans e1
  have hav:V.agg [.i .i64 (s.1:Int), .i .i64 (s.2:Int)]=aV s:=rfl
  have i2:in2 (toI s):=inI_nat hs7.1 hs7.2
  have n3:=nx_new h2 (.map 23 [])
  have g3:Grow h2.nx.nat h2 (h2.new (.map 23 [])):=Grow.new (Nat.le_refl _) _
  have l3:=ldn2 ((g3.old h.nx (by have:=g2.nx; omega)).trans e2)
  obtain ⟨es,m1,m2⟩:=(MapF.nil (h:=h2) (kt:=23)).put (v:=0) i2
  have m1:mupdV 23 (.many [some .i64,some .i64]) (h2.new (.map 23 [])) (.m h2.nx) (aV s) (.i .i64 0) = .ok undefV ((h2.new (.map 23 [])).put h2.nx (.map 23 es)):=m1
  rw [← dF_one] at m2
  have g4:Grow h2.nx.nat h2 ((h2.new (.map 23 [])).put h2.nx (.map 23 es)):=g3.trans (Grow.put (Nat.le_refl _) (by omega) _)
  have n4:((h2.new (.map 23 [])).put h2.nx (.map 23 es)).nx.nat=h2.nx.nat + 1:=n3
  simp (disch:=omega) only [f64_r2,x_mkmap,x_mupd,Nat.reduceEqDiff,↓reduceIte,l3,hav,m1,bz]
  generalize (h2.new (.map 23 [])).put h2.nx (.map 23 es)=h3 at *
  have hc3:=g4.hc hc2
  have l4:=ldn2 ((g4.old h.nx (by have:=g2.nx; omega)).trans e2)
  have sp:setMany [V.i .i64 0,V.i .i64 0] 0 [V.i .i64 (s.1:Int),V.i .i64 (s.2:Int)] = [V.i .i64 (s.1:Int),V.i .i64 (s.2:Int)]:=rfl
  have n5:=nx_new h3 (.cells (1 * 2) [.i .i64 (s.1:Int), .i .i64 (s.2:Int)])
  have g5:Grow h3.nx.nat h3 (h3.new (.cells (1 * 2) [.i .i64 (s.1:Int), .i .i64 (s.2:Int)])):=Grow.new (Nat.le_refl _) _
  have k5:Sk 2 qE (h3.new (.cells (1 * 2) [.i .i64 (s.1:Int), .i .i64 (s.2:Int)])) (.sl h3.nx 0 1 2) [toI s]:=Sk.lit2o
  simp (disch:=omega) only [f64_r3,f64_r4,Nat.reduceEqDiff,↓reduceIte,l4,hav,fill_c,cs,sp,bz]
  generalize h3.new (.cells (1 * 2) [.i .i64 (s.1:Int), .i .i64 (s.2:Int)])=h5 at *
  have hc5:=g5.hc hc3
  have mq0:Mq h2 [(s,0)] (.sl h3.nx 0 1 2) h5:=⟨g4.trans (g5.low (by omega)),hc5,m2.same (g5.old _ (by omega)),k5,fun id off n sz e=>by cases e; omega⟩
  have hA49:(arw (rat (gR (arI g)))).length ≤ 49:=by
    have:=arI_len (g:=rat (gR (arI g)))
    unfold arI at this
    rw [List.length_map] at this; exact this
  refine loop_monoO (Q:=fun e fr hh=>e = .exit 0 ∧ ∃ M q,BfsR (gR (arI g)) s M.length 0 M∧Mq h2 M q hh∧fr.get (K.ofNat 8)=some (al)∧fr.get (K.ofNat 9)=some (.m h2.nx)) ?_ (W_loop (f64_A h2 v al (gR (arI g)) s) (fun z=>50 - z.1) ?_ (0, [(s,0)]) ⟨by simp, .start,_,mq0,by simp (disch:=omega) only [getK_set,Nat.reduceEqDiff,↓reduceIte,and_self,Int.natCast_zero]⟩)
  · rintro e fr h6 ⟨rfl,M,q,hr,mq,g8,g9⟩
    have bi:=hr.inv sy hs
    have hal6:=hal.grow hc2 mq.gr
    have hall:∀ h1,lenV al h1 = .ok (.i .i64 ((arw (rat (gR (arI g)))).length:Int)) h1:=fun h1=>by rw [hal.len]; unfold arI; rw [List.length_map]
    simp (disch:=omega) only [f64_r14,f64_r15,f64_r16,↓reduceIte,bz]
    refine W_loop (f64_C h6 al (gR (arI g)) M h2.nx) (fun k=>(arw (rat (gR (arI g)))).length - k) ?_ 0 ⟨by omega, .sn, .sn,Grow.refl _ _,mq.hc,Sk.nil,Own.sn,Sl.nil,Own.sn,(fun _ _ _ _ _=>NotIn.sn),by simp (disch:=omega) only [getK_set,Nat.reduceEqDiff,↓reduceIte,g8,g9,and_self,Int.natCast_zero]⟩
    clear g8 g9 fr
    rintro kk fr h7 ⟨hkk,u,w,hG,hc7,su,ou,sw,ow,hnw,g8,g9,g15,g16,g17⟩
    have m7:MapF h7 h2.nx 23 (dF M):=mq.mp.same (hG.old _ (mq.mp.lt_nx mq.hc))
    unfold f64_l2
    by_cases hlt:kk < (arw (rat (gR (arI g)))).length
    · have d0:decide ((kk:Int) < ((arw (rat (gR (arI g)))).length:Int))=true:=decide_eq_true (by omega)
      obtain ⟨p,hp⟩:∃ p,(arw (rat (gR (arI g))))[kk]? = some p:=⟨_,List.getElem?_eq_getElem hlt⟩
      obtain ⟨pl1,pl2,_⟩:=arw_lt (List.mem_of_getElem? hp)
      have hkl:kk < (arI (rat (gR (arI g)))).length:=by unfold arI; rw [List.length_map]; exact hlt
      obtain ⟨pq,pa,pb⟩:=(hal6.grow mq.hc hG).at2 hkl
      have pb:loadV h7 pq (many? 2) = .ok (aV p) h7:=by rw [arI_at hp hkl] at pb; exact pb
      have hlook:lookV 23 (.many [some .i64,some .i64]) (.i .i64 0) h7 (.m h2.nx) (aV p) true = .ok (okZ (.i .i64 0) (dF M (toI p))) h7:=m7.look (inI_nat pl1 pl2)
      rw [dF_toI] at hlook
      have hsu:outT (gR (arI g)) M (kk + 1)=outT (gR (arI g)) M kk ++ (if kn M p=true then [p] else []):=by
        unfold outT
        rw [List.take_add_one,hp,List.filter_append]
        simp only [Option.toList_some]
        by_cases h:kn M p=true
        · rw [if_pos h]; simp [h]
        · rw [if_neg h]; simp [h]
      have hl1:(outT (gR (arI g)) M kk).length ≤ 49:=by
        unfold outT
        have:=List.length_filter_le (kn M) ((arw (rat (gR (arI g)))).take kk)
        rw [List.length_take] at this
        omega
      cases hlk:lkD M p with
      | none =>
        rw [hlk] at hlook
        have hok:okZ (.i .i64 0) none = .tup [.i .i64 0, .b false]:=rfl
        rw [if_neg (show ¬ kn M p=true by unfold kn; rw [hlk]; simp),List.append_nil] at hsu
        simp (disch:=omega) only [f64_r17,f64_r18,f64_r19,f64_r22,x_look,Option.map_none,Nat.reduceEqDiff,↓reduceIte,Bool.false_eq_true,g8,g9,g17,hall,d0,pa,pb,hlook,hok,bz]
        exact ⟨kk + 1,by omega,by omega,u,w,hG,hc7,by rw [hsu]; exact su,ou,by unfold farT; rw [hsu]; exact sw,ow,hnw,by simp (disch:=omega) only [getK_set,Nat.reduceEqDiff,↓reduceIte,g8,g9,g15,g16,and_self,Int.natCast_add,Int.natCast_one]⟩
      | some d =>
        rw [hlk] at hlook
        have hok:okZ (.i .i64 0) (some (Int.ofNat d)) = .tup [.i .i64 (d:Int), .b true]:=rfl
        rw [if_pos (show kn M p=true by unfold kn; rw [hlk]; rfl)] at hsu
        have cp:cellsN 2 (aV p)=some [.i .i64 (p.1:Int), .i .i64 (p.2:Int)]:=rfl
        have sp:setMany [V.i .i64 0,V.i .i64 0] 0 [V.i .i64 (p.1:Int),V.i .i64 (p.2:Int)] = [V.i .i64 (p.1:Int),V.i .i64 (p.2:Int)]:=rfl
        obtain ⟨u',h8,a1,s1,o1,gr8,k8⟩:=Sk.push (b:=h6.nx.nat) qE_len (by omega) (x:=toI p) su ou hG.nx hc7 (by rw [List.length_map]; omega)
        have a1':appV 2 (h7.new (.cells (1 * 2) [.i .i64 (p.1:Int), .i .i64 (p.2:Int)])) u (.sl h7.nx 0 1 2) = .ok u' h8:=a1
        have hc8:=gr8.hc hc7
        have wlt:=sw.lt hc7
        have gr8n:=gr8.nx
        have hGn:=hG.nx
        have notu:∀ id off n sz,w = .sl id off n sz→NotIn id u:=fun id off n sz e off' n' sz' e'=>hnw _ _ _ _ e' _ _ _ e
        have sw8:Sl iE h8 w (farT (gR (arI g)) M kk):=sw.same fun id off n sz e=>(k8 id (wlt _ _ _ _ e) (notu _ _ _ _ e)).1
        obtain ⟨w',h9,a2,s2,o2,gr9,k9⟩:=Sl.push (b:=h6.nx.nat) (e:=iE) (x:=(d:Int)) (c := .i .i64 (d:Int)) rfl sw8 ow (by omega) hc8 (by unfold farT; rw [List.length_map]; omega)
        have hc9:=gr9.hc hc8
        -- the block of the new list
        have uin:∀ id off n sz,u' = .sl id off n sz→id.nat < h7.nx.nat → ∃ off n sz,u = .sl id off n sz:=fun id off n sz e hid =>
          Classical.byContradiction fun hno=>(k8 id hid fun off n sz e=>hno ⟨off,n,sz,e⟩).2 off n sz e
        have hnw':∀ id off n sz,u' = .sl id off n sz→NotIn id w:=fun id off n sz e off' n' sz' e'=>by
          have hid:=wlt _ _ _ _ e'
          obtain ⟨_,_,_,e2⟩:=uin id off n sz e hid
          exact hnw _ _ _ _ e2 _ _ _ e'
        have u8lt:=s1.lt hc8
        simp (disch:=omega) only [f64_r17,f64_r18,f64_r19,f64_r20,f64_r21,f64_r22,x_look,Option.map_some,set_1,Nat.reduceEqDiff,↓reduceIte,g8,g9,g15,g16,g17,hall,d0,pa,pb,hlook,hok,fill_c,cp,sp,a1',set_1,a2,bz]
        refine ⟨kk + 1,by omega,by omega,u',w',hG.trans (gr8.trans gr9),hc9,?_,o1,?_,o2,?_,by simp (disch:=omega) only [getK_set,Nat.reduceEqDiff,↓reduceIte,g8,g9,and_self,Int.natCast_add,Int.natCast_one]⟩
        · rw [hsu,List.map_append]
          exact s1.same fun id off n sz e=>(k9 id (u8lt _ _ _ _ e) (hnw' _ _ _ _ e)).1
        · have : farT (gR (arI g)) M (kk + 1) = farT (gR (arI g)) M kk ++ [(d : Int)] := by
            unfold farT; rw [hsu,List.map_append]; simp [hlk]
          rw [this]; exact s2
        · exact fun id off n sz e=>(k9 id (u8lt _ _ _ _ e) (hnw' _ _ _ _ e)).2
    · have d0:decide ((kk:Int) < ((arw (rat (gR (arI g)))).length:Int))=false:=decide_eq_false (by omega)
      have ek:kk=(arw (rat (gR (arI g)))).length:=by omega
      subst ek
      have hout:outT (gR (arI g)) M (arw (rat (gR (arI g)))).length=arw (rat (clsR (gR (arI g)) s)):=by
        unfold outT
        rw [List.take_length,arw_filter]
        refine arw_congr fun a b ha hb=>?_
        rw [Bool.eq_iff_iff,Bool.and_eq_true,← bi.cls sy hs (a,b)]
        unfold kn
        constructor
        · rintro ⟨_,h2⟩
          refine Classical.byContradiction fun hno=>?_
          rw [lkD_none.2 hno] at h2; cases h2
        · intro hm
          refine ⟨(bi.arr _ hm).1,?_⟩
          cases hl:lkD M (a,b) with
          | none=>exact absurd hm (lkD_none.1 hl)
          | some d=>rfl
      rw [hout] at su
      unfold farT at sw
      rw [hout] at sw
      have gE:Grow h.nx.nat h h7:=gA.trans ((mq.gr.low gA.nx).trans (hG.low (by have:=gA.nx; have:=mq.gr.nx; omega)))
      have hlow:h.nx.nat ≤ h6.nx.nat:=by have:=gA.nx; have:=mq.gr.nx; omega
      simp (disch:=omega) only [f64_r17,f64_r23,f64_rs,Option.some.injEq,exists_eq_left',Nat.reduceEqDiff,↓reduceIte,Bool.false_eq_true,g8,g15,g16,g17,hall,d0,bz]
      exact ⟨u,w,M,rfl,hr,su,ou.low hlow,sw,ow.low hlow,gE⟩
  · clear mq0 k5 n5 sp l4 m2 m1 l3 e2 e1
    have hall:∀ h1,lenV al h1 = .ok (.i .i64 ((arw (rat (gR (arI g)))).length:Int)) h1:=fun h1=>by rw [hal.len]; unfold arI; rw [List.length_map]
    rintro ⟨i,M⟩ fr h6 ⟨hi,hr,q,mq,g1,g8,g9,g10,g11⟩
    have hi:i ≤ M.length:=hi
    have h49:M.length ≤ 49:=(hr.inv sy hs).len
    have ql:=mq.sk.len
    rw [kyI_len] at ql
    unfold f64_l1
    by_cases hlt:i < M.length
    · have d0:decide ((i:Int) < (M.length:Int))=true:=decide_eq_true (by omega)
      simp (disch:=omega) only [f64_r5,f64_r6,Nat.reduceEqDiff,↓reduceIte,g10,g11,ql,d0,bz]
      refine W_loop (f64_B h2 v al (gR (arI g)) s i) (fun z=>(arw (rat (gR (arI g)))).length - z.1) ?_ (0,M) ⟨by simp,hlt,hr,q,mq,by simp (disch:=omega) only [getK_set,Nat.reduceEqDiff,↓reduceIte,g1,g8,g9,g10,g11,and_self,Int.natCast_zero]⟩
      clear g1 g8 g9 g10 g11 ql hlt d0 hi hr mq h49
      rintro ⟨kk,M⟩ fr h7 ⟨hkk,hlt,hr,q,mq,g1,g8,g9,g10,g11,g12⟩
      have hlt:i < M.length:=hlt
      have hkk:kk ≤ (arw (rat (gR (arI g)))).length:=hkk
      have bi:=hr.inv sy hs
      have h49:M.length ≤ 49:=bi.len
      have hc7:=mq.hc
      unfold f64_l0
      by_cases hk:kk < (arw (rat (gR (arI g)))).length
      · have d1:decide ((kk:Int) < ((arw (rat (gR (arI g)))).length:Int))=true:=decide_eq_true (by omega)
        obtain ⟨p,hp⟩:∃ p,(arw (rat (gR (arI g))))[kk]? = some p:=⟨_,List.getElem?_eq_getElem hk⟩
        obtain ⟨pl1,pl2,_⟩:=arw_lt (List.mem_of_getElem? hp)
        have hkl:kk < (arI (rat (gR (arI g)))).length:=by unfold arI; rw [List.length_map]; exact hk
        have hal7:=hal.grow hc2 mq.gr
        obtain ⟨pq,pa,pb⟩:=hal7.at2 hkl
        have pb:loadV h7 pq (many? 2) = .ok (aV p) h7:=by rw [arI_at hp hkl] at pb; exact pb
        have hlook:lookV 23 (.many [some .i64,some .i64]) (.i .i64 0) h7 (.m h2.nx) (aV p) true = .ok (okZ (.i .i64 0) (dF M (toI p))) h7:=mq.mp.look (inI_nat pl1 pl2)
        rw [dF_toI] at hlook
        obtain ⟨⟨x,d⟩,hx⟩:∃ e,M[i]? = some e:=⟨M[i],List.getElem?_eq_getElem hlt⟩
        have hql:i < (kyI M).length:=by rw [kyI_len]; exact hlt
        have hxm:x ∈ kyD M:=List.mem_map.2 ⟨(x,d),List.mem_of_getElem? hx,rfl⟩
        have hx7:=rat_lt (bi.arr x hxm).1
        have hdl:d + 1 ≤ M.length:=bi.dl _ (List.mem_of_getElem? hx)
        cases hlk:lkD M p with
        | some d' =>
          rw [hlk] at hlook
          have hok:okZ (.i .i64 0) (some (Int.ofNat d')) = .tup [.i .i64 (d':Int), .b true]:=rfl
          have hin:p ∈ kyD M:=Classical.byContradiction fun hno=>by rw [lkD_none.2 hno] at hlk; cases hlk
          simp (disch:=omega) only [f64_r7,f64_r8,f64_r9,f64_r12,x_look,Option.map_some,Nat.reduceEqDiff,↓reduceIte,Bool.false_eq_true,Bool.not_true,g8,g9,g12,hall,d1,pa,pb,hlook,hok,bz]
          exact ⟨(kk + 1,M),by simp only; omega,by simp only; omega,hlt,hr.skip hx hp (.inl hin),q,mq,by simp (disch:=omega) only [getK_set,Nat.reduceEqDiff,↓reduceIte,g1,g8,g9,g10,g11,and_self,Int.natCast_add,Int.natCast_one]⟩
        | none =>
          rw [hlk] at hlook
          have hok:okZ (.i .i64 0) none = .tup [.i .i64 0, .b false]:=rfl
          have hnin:=lkD_none.1 hlk
          obtain ⟨qq,qa,qb⟩:=mq.sk.at2 hql
          have qb:loadV h7 qq (many? 2) = .ok (aV x) h7:=by rw [kyI_at hx hql] at qb; exact qb
          have hqb:=mq.sk.beq
          have hab:=hal.beq
          simp (disch:=omega) only [f64_r7,f64_r8,f64_r9,x_look,Option.map_none,Nat.reduceEqDiff,↓reduceIte,Bool.not_false,g1,g8,g9,g10,g11,g12,hall,d1,pa,pb,qa,qb,hlook,hok,bz]
          refine (callP_0 (ef:=f87) k.c87 rfl (f87_ret k.toCallsJn hg (hv2.grow hc2 mq.gr) hx7 ⟨pl1,pl2⟩ hc7)).mono ?_
          rintro r h8 ⟨rfl,g8_⟩
          have hc8:=g8_.hc hc7
          have mlt:=mq.mp.lt_nx hc7
          have mq8:Mq h2 M q h8:=⟨mq.gr.trans (g8_.low mq.gr.nx),hc8,mq.mp.same (g8_.old _ mlt),mq.sk.grow hc7 g8_,mq.own⟩
          cases hf:frcB (gR (arI g)) x p with
          | false =>
            simp (disch:=omega) only [f64_r12,Nat.reduceEqDiff,↓reduceIte,Bool.false_eq_true,g12,bz]
            exact ⟨(kk + 1,M),by simp only; omega,by simp only; omega,hlt,hr.skip hx hp (.inr hf),q,mq8,by simp (disch:=omega) only [getK_set,Nat.reduceEqDiff,↓reduceIte,g1,g8,g9,g10,g11,and_self,Int.natCast_add,Int.natCast_one]⟩
          | true =>
            obtain ⟨pq2,pa2,pb2⟩:=(hal.grow hc2 mq8.gr).at2 hkl
            have pb2:loadV h8 pq2 (many? 2) = .ok (aV p) h8:=by rw [arI_at hp hkl] at pb2; exact pb2
            obtain ⟨qq2,qa2,qb2⟩:=mq8.sk.at2 hql
            have qb2:loadV h8 qq2 (many? 2) = .ok (aV x) h8:=by rw [kyI_at hx hql] at qb2; exact qb2
            have hlk2:lookV 23 (.many [some .i64,some .i64]) (.i .i64 0) h8 (.m h2.nx) (aV x) false = .ok (.i .i64 (d:Int)) h8:=mq8.mp.look0 (x:=toI x) (inI_nat hx7.1 hx7.2) (by rw [dF_toI,lkD_at bi.nd hx]; rfl)
            obtain ⟨es2,mp1,mp2⟩:=mq8.mp.put (x:=toI p) (v:=(d:Int) + 1) (inI_nat pl1 pl2)
            have mp1:mupdV 23 (.many [some .i64,some .i64]) h8 (.m h2.nx) (aV p) (.i .i64 ((d:Int) + 1)) = .ok undefV (h8.put h2.nx (.map 23 es2)):=mp1
            have hdd:dF (M ++ [(p,d + 1)])=fun y=>if y=toI p then some ((d:Int) + 1) else dF M y:=by rw [dF_app hnin]; funext y; simp
            rw [← hdd] at mp2
            have h8n:h2.nx.nat < h8.nx.nat:=mq8.mp.lt_nx hc8
            have g9_:Grow h2.nx.nat h8 (h8.put h2.nx (.map 23 es2)):=Grow.put (Nat.le_refl _) h8n _
            have n9_:(h8.put h2.nx (.map 23 es2)).nx.nat=h8.nx.nat:=rfl
            have bm:beqV (.m h2.nx) (.m h2.nx)=true:=K.beq_refl _
            have s9:Sk 2 qE (h8.put h2.nx (.map 23 es2)) q (kyI M):=mq8.sk.put (mq8.own.notIn (by omega)) _
            have hal9:Sk 2 qE (h8.put h2.nx (.map 23 es2)) al (arI (rat (gR (arI g)))):=(hal.grow hc2 mq8.gr).put (fun off n sz e=>by have:=hal.lt hc2 _ _ _ _ e; omega) _
            simp (disch:=omega) only [f64_r10,x_mupd,xg_look,Nat.reduceEqDiff,↓reduceIte,g8,g9,g10,g11,g12,pa2,pb2,qa2,qb2,hlk2,mp1,bz]
            have hc9:=g9_.hc hc8
            generalize h8.put h2.nx (.map 23 es2)=h9 at *
            obtain ⟨pq3,pa3,pb3⟩:=hal9.at2 hkl
            have pb3:loadV h9 pq3 (many? 2) = .ok (aV p) h9:=by rw [arI_at hp hkl] at pb3; exact pb3
            have cp:cellsN 2 (aV p)=some [.i .i64 (p.1:Int), .i .i64 (p.2:Int)]:=rfl
            have sp:setMany [V.i .i64 0,V.i .i64 0] 0 [V.i .i64 (p.1:Int),V.i .i64 (p.2:Int)] = [V.i .i64 (p.1:Int),V.i .i64 (p.2:Int)]:=rfl
            obtain ⟨q',h10,a1,s1,o1,gr10,_⟩:=Sk.push (b:=h2.nx.nat + 1) qE_len (by omega) (x:=toI p) s9 mq8.own (by omega) hc9 (by rw [kyI_len]; omega)
            have a1':appV 2 (h9.new (.cells (1 * 2) [.i .i64 (p.1:Int), .i .i64 (p.2:Int)])) q (.sl h9.nx 0 1 2) = .ok q' h10:=a1
            simp (disch:=omega) only [f64_r11,f64_r12,Nat.reduceEqDiff,↓reduceIte,g8,g10,g12,pa3,pb3,fill_c,cp,sp,a1',bz]
            have hky:kyI (M ++ [(p,d + 1)])=kyI M ++ [toI p]:=by unfold kyI kyD; simp
            exact ⟨(kk + 1,M ++ [(p,d + 1)]),by simp only; omega,by simp only; omega,by simp only [List.length_append]; omega,hr.add hx hp hnin hf,q',⟨mq8.gr.trans (g9_.trans (gr10.low (by omega))),gr10.hc hc9,mp2.same (gr10.old _ (by omega)),by rw [hky]; exact s1,o1⟩,by simp (disch:=omega) only [getK_set,Nat.reduceEqDiff,↓reduceIte,g1,g8,g9,g11,and_self,Int.natCast_add,Int.natCast_one]⟩
      · have d1:decide ((kk:Int) < ((arw (rat (gR (arI g)))).length:Int))=false:=decide_eq_false (by omega)
        have ek:kk=(arw (rat (gR (arI g)))).length:=by omega
        subst ek
        simp (disch:=omega) only [f64_r7,f64_r13,Nat.reduceEqDiff,↓reduceIte,Bool.false_eq_true,g8,g11,g12,hall,d1,bz]
        exact ⟨(i + 1,M),by simp only; omega,by simp only; omega,hr.next hlt,q,mq,by simp (disch:=omega) only [getK_set,Nat.reduceEqDiff,↓reduceIte,g1,g8,g9,g10,and_self,Int.natCast_add,Int.natCast_one]⟩
    · have d0:decide ((i:Int) < (M.length:Int))=false:=decide_eq_false (by omega)
      have ei:i=M.length:=by omega
      subst ei
      simp (disch:=omega) only [f64_r5,Nat.reduceEqDiff,↓reduceIte,Bool.false_eq_true,g8,g9,g10,g11,ql,d0,bz]
      exact ⟨M,q,hr,mq,by simp (disch:=omega) only []⟩
end
end Go.Ev
namespace Go.Ev
open Go Go.RowKit


section
variable {G:List Bool} {C C':Nat→Nat→Prop}
end
end Go.Ev
namespace Go.Ev
open Go Go.RowKit
section
variable {fs:T EF} {h h':H} {fr:Fr}
end
end Go.Ev
namespace Go.Ev
open Go Go.RowKit
section
variable {fs:T EF} {h h':H}
def lnOk (n:Nat) (X:List Int):Prop:=X.length=n∧OkT n X X.length
def bfR (X:List Int):List Bool:=rl (bfT X X.length)
def agR (X Y:List Int):List Bool:=woR (bfR X) (turnR (bfR Y))
end
end Go.Ev
namespace Go.Ev
open Go Go.RowKit
section
variable {fs:T EF} {h h':H}
structure RowP (v:Nat) (R:List Int):Prop where
  len:R.length=v
  nd:R.Nodup
  lt:∀ x ∈ R,∃ a:Nat,a < v∧x=(a:Int)
theorem RowP.ok {v:Nat} {R:List Int} (r:RowP v R):lnOk v R:=by
  refine ⟨r.len,⟨fun j hj=>?_,fun j t htj hj e=>?_⟩⟩
  · obtain ⟨a,h1,h2⟩:=r.lt _ (List.getElem_mem hj)
    exact ⟨a,h1,by rw [List.getElem?_eq_getElem hj,h2]⟩
  · rw [List.getElem?_eq_getElem hj,List.getElem?_eq_getElem (by omega)] at e
    exact (List.pairwise_iff_getElem.1 r.nd) t j (by omega) hj htj (Option.some.inj e).symm
end
end Go.Ev
namespace Go.Ev
open Go Go.RowKit
theorem bfT_iff {X:List Int} {i a b:Nat}:bfT X i a b=true ↔ ∃ j t,j < i∧t < j∧X[j]? = some (b:Int)∧X[t]? = some (a:Int):=by
  unfold bfT
  simp only [List.any_eq_true,List.mem_range,Bool.and_eq_true,decide_eq_true_eq]
  constructor
  · rintro ⟨j,h1,h2,t,h3,h4⟩; exact ⟨j,t,h1,h3,h2,h4⟩
  · rintro ⟨j,t,h1,h3,h2,h4⟩; exact ⟨j,h1,h2,t,h3,h4⟩
theorem lnOk.uniq {n:Nat} {X:List Int} (k:lnOk n X) {i j:Nat} {x:Int} (h1:X[i]? = some x) (h2:X[j]? = some x):i=j:=by
  have l1:=get_lt h1
  have l2:=get_lt h2
  rcases Nat.lt_trichotomy i j with h | h | h
  · exact absurd (h2.trans h1.symm) (k.2.nd j i h l2)
  · exact h
  · exact absurd (h1.trans h2.symm) (k.2.nd i j h l1)
theorem nodup_fill {n:Nat} {X:List Int} (k:lnOk n X) {a:Nat} (ha:a < n):∃ i:Nat,X[i]? = some (a:Int):=by
  have nd:X.Nodup:=by
    rw [List.Nodup,List.pairwise_iff_getElem]
    intro i j hi hj hij e
    exact k.2.nd j i hij hj (by rw [List.getElem?_eq_getElem hj,List.getElem?_eq_getElem hi,e])
  have hm:(a:Int) ∈ X:=by
    refine Classical.byContradiction fun hn=>?_
    have h1:=nodup_leO (l:=(a:Int) :: X) (m:=(List.range n).map fun b:Nat=>(b:Int)) (by rw [List.nodup_cons]; exact ⟨hn,nd⟩) fun x hx=>by
      rcases List.mem_cons.1 hx with rfl | hx
      · exact List.mem_map.2 ⟨a,List.mem_range.2 ha,rfl⟩
      · obtain ⟨j,hj,rfl⟩:=List.getElem_of_mem hx
        obtain ⟨c,h1,h2⟩:=k.2.lt j hj
        rw [List.getElem?_eq_getElem hj] at h2
        exact List.mem_map.2 ⟨c,List.mem_range.2 h1,(Option.some.inj h2).symm⟩
    simp only [List.length_cons,List.length_map,List.length_range] at h1
    have:=k.1
    omega
  obtain ⟨i,hi,e⟩:=List.getElem_of_mem hm
  exact ⟨i,by rw [List.getElem?_eq_getElem hi,e]⟩
theorem bf_tot {n:Nat} {X:List Int} (k:lnOk n X) {a b:Nat} (ha:a < n) (hb:b < n) (hab:a ≠ b):bfT X X.length a b=true ∨ bfT X X.length b a=true:=by
  obtain ⟨i,hi⟩:=nodup_fill k ha
  obtain ⟨j,hj⟩:=nodup_fill k hb
  have l1:=get_lt hi
  have l2:=get_lt hj
  rcases Nat.lt_trichotomy i j with h | h | h
  · exact .inl (bfT_iff.2 ⟨j,i,l2,h,hj,hi⟩)
  · subst h
    rw [hi] at hj
    have:=Option.some.inj hj
    omega
  · exact .inr (bfT_iff.2 ⟨i,j,l1,h,hi,hj⟩)
theorem bf_one {n:Nat} {X:List Int} (k:lnOk n X) {a b:Nat} (h1:bfT X X.length a b=true):bfT X X.length b a=false:=by
  cases h2:bfT X X.length b a with
  | false=>rfl
  | true =>
    obtain ⟨j,t,_,h3,h4,h5⟩:=bfT_iff.1 h1
    obtain ⟨j',t',_,h6,h7,h8⟩:=bfT_iff.1 h2
    have e1:=k.uniq h4 h8
    have e2:=k.uniq h5 h7
    omega
theorem bf_lt {n:Nat} {X:List Int} (k:lnOk n X) {a b:Nat} (h1:bfT X X.length a b=true):a < n∧b < n∧a ≠ b:=by
  obtain ⟨j,t,h2,h3,h4,h5⟩:=bfT_iff.1 h1
  obtain ⟨c,hc,e⟩:=k.2.lt j h2
  obtain ⟨d,hd,e'⟩:=k.2.lt t (by omega)
  rw [h4] at e
  rw [h5] at e'
  have e:=Option.some.inj e
  have e':=Option.some.inj e'
  refine ⟨by omega,by omega,fun e2=>?_⟩
  subst e2
  have:=k.uniq h4 h5
  omega
theorem agR_iff {n:Nat} {X Y:List Int} (hn:n ≤ 7) (kX:lnOk n X) (kY:lnOk n Y) {a b:Nat}:rat (agR X Y) a b=true ↔ bfT X X.length a b=true∧bfT Y Y.length a b=true:=by
  unfold agR bfR
  rw [woR_iff,turnR_iff,rat_rl,rat_rl]
  simp only [Bool.and_eq_true,decide_eq_true_eq]
  constructor
  · rintro ⟨⟨⟨ha,hb⟩,h1⟩,h2⟩
    have l:=bf_lt kX h1
    exact ⟨h1,(bf_tot kY l.1 l.2.1 l.2.2).elim id fun h=>absurd ⟨⟨hb,ha⟩,h⟩ h2⟩
  · rintro ⟨h1,h2⟩
    have l:=bf_lt kX h1
    exact ⟨⟨⟨by omega,by omega⟩,h1⟩,fun h=>by rw [bf_one kY h2] at h; exact absurd h.2 (by simp)⟩
end Go.Ev
namespace Go.Ev
open Go Go.RowKit
section
variable {fs:T EF} {h h':H}
end
end Go.Ev
namespace Go.Ev
open Go Go.RowKit
section
variable {fs:T EF} {h h':H}
end
end Go.Ev
namespace Go.Ev
open Go Go.RowKit
section
variable {fs:T EF} {h h':H}
theorem arw_nd {f:Nat→Nat→Bool}:(arw f).Nodup:=by
  unfold arw
  refine List.Pairwise.map _ (fun a b hab e=>hab ?_) (List.Pairwise.filter _ List.nodup_range)
  have e1:a / 7=b / 7:=congrArg Prod.fst e
  have e2:a % 7=b % 7:=congrArg Prod.snd e
  omega
end
end Go.Ev
namespace Go.Ev
open Go Go.RowKit
end Go.Ev
namespace Go.Ev
open Go Go.RowKit
def stopI (lt:Int→Int→Bool) (x:Int) (P:List Int):Nat→Nat
  | 0=>0
  | j + 1=>bif lt x (P.getD j 0) then stopI lt x P j else j + 1
def insR (lt:Int→Int→Bool) (x:Int) (P:List Int):List Int:=P.take (stopI lt x P P.length) ++ x :: P.drop (stopI lt x P P.length)
def srtR (lt:Int→Int→Bool) (S:List Int):List Int:=S.foldl (fun P x=>insR lt x P) []
theorem stopI_le {lt:Int→Int→Bool} {x:Int} {P:List Int}:∀ j,stopI lt x P j ≤ j
  | 0=>Nat.le_refl _
  | j + 1=>by
    unfold stopI
    cases lt x (P.getD j 0) with
    | true=>have:=stopI_le (lt:=lt) (x:=x) (P:=P) j; show stopI lt x P j ≤ _; omega
    | false=>exact Nat.le_refl _
theorem stopI_ge {lt:Int→Int→Bool} {x:Int} {P:List Int}:∀ j i,stopI lt x P j ≤ i→i < j→lt x (P.getD i 0)=true
  | 0,i,_,h=>by omega
  | j + 1,i,h1,h2=>by
    unfold stopI at h1
    cases e:lt x (P.getD j 0) with
    | true =>
      rw [e] at h1
      by_cases h:i=j
      · rw [h,e]
      · exact stopI_ge j i h1 (by omega)
    | false=>rw [e] at h1; have h1:j + 1 ≤ i:=h1; omega
theorem stopI_lt {lt:Int→Int→Bool} {x:Int} {P:List Int}:∀ j k,stopI lt x P j=k + 1→lt x (P.getD k 0)=false
  | 0,k,h=>by unfold stopI at h; omega
  | j + 1,k,h=>by
    unfold stopI at h
    cases e:lt x (P.getD j 0) with
    | true=>rw [e] at h; exact stopI_lt j k h
    | false=>rw [e] at h; have h:j + 1=k + 1:=h; rw [← e]; congr 3; omega
theorem insR_perm {lt:Int→Int→Bool} {x:Int} {P:List Int}:(insR lt x P).Perm (x :: P):=by
  unfold insR
  refine List.perm_middle.trans ?_
  rw [List.take_append_drop]
theorem srtR_aux {lt:Int→Int→Bool}:∀ (S P:List Int),(S.foldl (fun P x=>insR lt x P) P).Perm (P ++ S)
  | [],P=>by simp
  | x :: S,P=>by
    refine (srtR_aux S (insR lt x P)).trans ?_
    have h1:(insR lt x P ++ S).Perm ((x :: P) ++ S):=insR_perm.append_right S
    refine h1.trans ?_
    exact List.perm_middle.symm
theorem srtR_perm {lt:Int→Int→Bool} {S:List Int}:(srtR lt S).Perm S:=srtR_aux S []
theorem srtR_snoc {lt:Int→Int→Bool} {S:List Int} {x:Int}:srtR lt (S ++ [x])=insR lt x (srtR lt S):=by unfold srtR; rw [List.foldl_append]; rfl
theorem srtR_len {lt:Int→Int→Bool} {S:List Int}:(srtR lt S).length=S.length:=srtR_perm.length_eq
structure LtO (lt:Int→Int→Bool) (D:Int→Prop):Prop where
  tot:∀ x y,D x→D y→x ≠ y→lt x y=true ∨ lt y x=true
  tr:∀ x y z,D x→D y→D z→lt x y=true→lt y z=true→lt x z=true
theorem insR_srt {lt:Int→Int→Bool} {D:Int→Prop} (o:LtO lt D) {x:Int} {P:List Int} (hx:D x) (hP:∀ y ∈ P,D y) (hn:x ∉ P) (hs:P.Pairwise fun a b=>lt a b=true):(insR lt x P).Pairwise fun a b=>lt a b=true:=by
  have hk:=stopI_le (lt:=lt) (x:=x) (P:=P) P.length
  have gd:∀ i (hi:i < P.length),P.getD i 0=P[i]:=fun i hi=>by rw [List.getD_eq_getElem?_getD,List.getElem?_eq_getElem hi]; rfl
  have hge:∀ y ∈ P.drop (stopI lt x P P.length),lt x y=true:=fun y hy=>by
    obtain ⟨j,hj,rfl⟩:=List.getElem_of_mem hy
    rw [List.length_drop] at hj
    rw [List.getElem_drop,← gd _ (by omega)]
    exact stopI_ge P.length _ (by omega) (by omega)
  have hlt:∀ y ∈ P.take (stopI lt x P P.length),lt y x=true:=fun y hy=>by
    obtain ⟨j,hj,rfl⟩:=List.getElem_of_mem hy
    rw [List.length_take] at hj
    rw [List.getElem_take]
    obtain ⟨k,hk'⟩:∃ k,stopI lt x P P.length=k + 1:=⟨stopI lt x P P.length - 1,by omega⟩
    have hkl:k < P.length:=by omega
    have h1:=stopI_lt P.length k hk'
    rw [gd _ hkl] at h1
    have hm:P[k] ∈ P:=List.getElem_mem _
    have h2:lt P[k] x=true:=by
      rcases o.tot x P[k] hx (hP _ hm) (fun e=>hn (by rw [e]; exact hm)) with h | h
      · rw [h] at h1; cases h1
      · exact h
    by_cases e:j=k
    · subst e; exact h2
    · exact o.tr _ _ _ (hP _ (List.getElem_mem _)) (hP _ hm) hx (List.pairwise_iff_getElem.1 hs j k (by omega) hkl (by omega)) h2
  unfold insR
  rw [List.pairwise_append]
  refine ⟨hs.sublist (List.take_sublist _ _),List.pairwise_cons.2 ⟨hge,hs.sublist (List.drop_sublist _ _)⟩,fun a ha b hb=>?_⟩
  rcases List.mem_cons.1 hb with rfl | hb
  · exact hlt a ha
  · exact o.tr _ x _ (hP _ (List.mem_of_mem_take ha)) hx (hP _ (List.mem_of_mem_drop hb)) (hlt a ha) (hge b hb)
theorem srtR_srt_aux {lt:Int→Int→Bool} {D:Int→Prop} (o:LtO lt D):∀ (S P:List Int),(∀ y ∈ P ++ S,D y)→(P ++ S).Nodup→(P.Pairwise fun a b=>lt a b=true)→(S.foldl (fun P x=>insR lt x P) P).Pairwise fun a b=>lt a b=true
  | [],P,_,_,h=>h
  | x :: S,P,hD,hn,h=>by
    have hp:(insR lt x P ++ S).Perm (P ++ x :: S):=(insR_perm.append_right S).trans List.perm_middle.symm
    refine srtR_srt_aux o S (insR lt x P) (fun y hy=>hD y (hp.mem_iff.1 hy)) (hp.nodup_iff.2 hn) (insR_srt o (hD x (by simp)) (fun y hy=>hD y (by simp [hy])) ?_ h)
    rw [List.nodup_append] at hn
    exact fun hx=>hn.2.2 x hx x (by simp) rfl
theorem srtR_srt {lt:Int→Int→Bool} {D:Int→Prop} (o:LtO lt D) {S:List Int} (hD:∀ y ∈ S,D y) (hn:S.Nodup):(srtR lt S).Pairwise fun a b=>lt a b=true:=srtR_srt_aux o S [] hD hn .nil
end Go.Ev
namespace Go.Ev
open Go Go.RowKit
noncomputable def f93_r0:List EOper := [oG 5 (.as (.c (.b false)))]
noncomputable def f93_r1:List EOper := [oG 6 (.mv (tG 0)),oG 7 (.mv (tG 1)),oG 8 (.iadr 7 7 (tG 2) (tG 6)),oG 9 (.iadr 7 1 (tG 8) (tG 7)),oG 10 (.ld (tG 9)),oG 5 (.as (tG 10))]
noncomputable def f93_c:EC:=(.seq (.reg f93_r0) (.seq (.reg f93_r1) .ret))
noncomputable def f93:EF:=⟨11, [.tmp (.ofNat 5)],f93_c,none⟩
theorem f93_rs:f93.rs = [.tmp (.ofNat 5)]:=of_eq_true (eq_self _)
noncomputable def f99_r0:List EOper := [oG 5 (.as (cG 0))]
noncomputable def f99_r1:List EOper := [oG 7 (.ld (tG 2)),oG 8 (.mv (tG 0)),oG 9 (.mv (tG 1)),oG 10 (.call (tG 7) [(tG 8),(tG 9)]),oG 6 (.as (tG 10))]
noncomputable def f99_r2:List EOper := [oG 5 (.as (.c (.i .i64 (.negSucc 0))))]
noncomputable def f99_r3:List EOper := [oG 12 (.ld (tG 2)),oG 13 (.mv (tG 1)),oG 14 (.mv (tG 0)),oG 15 (.call (tG 12) [(tG 13),(tG 14)]),oG 11 (.as (tG 15))]
noncomputable def f99_r4:List EOper := [oG 5 (.as (cG 1))]
noncomputable def f99_r5:List EOper := [oG 5 (.as (cG 0))]
noncomputable def f99_c:EC:=(.seq (.reg f99_r0) (.seq (.block 0 (.seq (.reg f99_r1) (.cond (tG 6) (.seq (.reg f99_r2) .ret) (.seq (.reg f99_r3) (.cond (tG 11) (.seq (.reg f99_r4) .ret) .skip))))) (.seq (.reg f99_r5) .ret)))
noncomputable def f99:EF:=⟨16, [.tmp (.ofNat 5)],f99_c,none⟩
theorem f99_rs:f99.rs = [.tmp (.ofNat 5)]:=of_eq_true (eq_self _)
noncomputable def f117_r0:List EOper := [oG 10 (.mv (tG 1)),oG 11 (.bin .add (tG 10) (cG 1)),oG 8 (.as (tG 11))]
noncomputable def f117_r1:List EOper := [oG 12 (.mv (tG 8)),oG 13 (.mv (tG 2)),oG 14 (.bin .lss (tG 12) (tG 13))]
noncomputable def f117_r2:List EOper := [oG 17 (.mv (tG 8)),oG 9 (.as (tG 17))]
noncomputable def f117_r3:List Stage := [⟨[oG 18 (.mv (tG 9)),oG 19 (.mv (tG 1)),oG 20 (.bin .gtr (tG 18) (tG 19)),oG 21 (.mv (tG 20)),gG 22 21 true (.mv (tG 3)),gG 23 21 true (.mv (tG 0)),gG 24 21 true (.mv (tG 9)),gG 25 21 true (.iads 1 (tG 23) (tG 24)),gG 26 21 true (.ld (tG 25)),gG 27 21 true (.mv (tG 0)),gG 28 21 true (.mv (tG 9)),gG 29 21 true (.bin .sub (tG 28) (cG 1)),gG 30 21 true (.iads 1 (tG 27) (tG 29)),gG 31 21 true (.ld (tG 30))], [],(some (gG 32 21 true (.call (tG 22) [(tG 26),(tG 31)]))), []⟩,⟨[gG 33 21 true (.bin .lss (tG 32) (cG 0)),oG 34 (.pick (tG 21) (tG 33) (.c (.b false)))], [],none, []⟩]
noncomputable def f117_r4:List Stage := [⟨[oG 37 (.mv (tG 0)),oG 38 (.mv (tG 9)),oG 39 (.mv (tG 0)),oG 40 (.mv (tG 9)),oG 41 (.bin .sub (tG 40) (cG 1)),oG 42 (.mv (tG 0)),oG 43 (.mv (tG 9)),oG 44 (.bin .sub (tG 43) (cG 1)),oG 45 (.iads 1 (tG 42) (tG 44)),oG 46 (.ld (tG 45)),oG 47 (.mv (tG 0)),oG 48 (.mv (tG 9)),oG 49 (.iads 1 (tG 47) (tG 48)),oG 50 (.ld (tG 49)),oG 51 (.iads 1 (tG 37) (tG 38))], [],(some ⟨none,none, .st 1 (tG 51) (tG 46)⟩), []⟩,⟨[oG 52 (.iads 1 (tG 39) (tG 41))], [oG 39 (.mv (tG 0)),oG 40 (.mv (tG 9)),oG 41 (.bin .sub (tG 40) (cG 1))],(some ⟨none,none, .st 1 (tG 52) (tG 50)⟩), []⟩,⟨[], [],none, []⟩]
noncomputable def f117_r5:List EOper := [oG 35 (.mv (tG 9)),oG 36 (.bin .sub (tG 35) (cG 1)),oG 9 (.as (tG 36))]
noncomputable def f117_l0:EC:=(.seq (.seq (.draw f117_r3) (.cond (tG 34) .skip (.exit 2))) (.seq (.block 3 (.draw f117_r4)) (.reg f117_r5)))
noncomputable def f117_r6:List EOper := [oG 15 (.mv (tG 8)),oG 16 (.bin .add (tG 15) (cG 1)),oG 8 (.as (tG 16))]
noncomputable def f117_l1:EC:=(.seq (.seq (.reg f117_r1) (.cond (tG 14) .skip (.exit 0))) (.seq (.block 1 (.seq (.reg f117_r2) (.block 2 (.loop f117_l0)))) (.reg f117_r6)))
noncomputable def f117_c:EC:=(.seq (.reg f117_r0) (.block 0 (.loop f117_l1)))
noncomputable def f117:EF:=⟨53, [],f117_c,none⟩
theorem f117_rs:f117.rs = []:=of_eq_true (eq_self _)
noncomputable def f109_r0:List EOper := [oG 2 (.as (cG 0))]
noncomputable def f109_r1:List EOper := [oG 3 (.mv (tG 0)),oG 4 (.bin .geq (tG 3) (.c (.i .u64 (.ofNat 4294967296))))]
noncomputable def f109_r2:List EOper := [oG 5 (.mv (tG 0)),oG 6 (.bin .shr (tG 5) (.c (.i .u64 (.ofNat 32)))),oG 0 (.as (tG 6))]
noncomputable def f109_r3:List EOper := [oG 2 (.as (cG 32))]
noncomputable def f109_r4:List EOper := [oG 7 (.mv (tG 0)),oG 8 (.bin .geq (tG 7) (.c (.i .u64 (.ofNat 65536))))]
noncomputable def f109_r5:List EOper := [oG 9 (.mv (tG 0)),oG 10 (.bin .shr (tG 9) (.c (.i .u64 (.ofNat 16)))),oG 0 (.as (tG 10))]
noncomputable def f109_r6:List EOper := [oG 11 (.mv (tG 2)),oG 12 (.bin .add (tG 11) (cG 16)),oG 2 (.as (tG 12))]
noncomputable def f109_r7:List EOper := [oG 13 (.mv (tG 0)),oG 14 (.bin .geq (tG 13) (.c (.i .u64 (.ofNat 256))))]
noncomputable def f109_r8:List EOper := [oG 15 (.mv (tG 0)),oG 16 (.bin .shr (tG 15) (.c (.i .u64 (.ofNat 8)))),oG 0 (.as (tG 16))]
noncomputable def f109_r9:List EOper := [oG 17 (.mv (tG 2)),oG 18 (.bin .add (tG 17) (cG 8)),oG 2 (.as (tG 18))]
noncomputable def f109_r10:List EOper := [oG 19 (.mv (tG 2)),oG 20 (.mv (tG 0)),oG 21 (.conv .u8 (tG 20)),oG 22 (.pr .sidx (.c (.s ⟨#[0,1,2,2,3,3,3,3,4,4,4,4,4,4,4,4,5,5,5,5,5,5,5,5,5,5,5,5,5,5,5,5,6,6,6,6,6,6,6,6,6,6,6,6,6,6,6,6,6,6,6,6,6,6,6,6,6,6,6,6,6,6,6,6,7,7,7,7,7,7,7,7,7,7,7,7,7,7,7,7,7,7,7,7,7,7,7,7,7,7,7,7,7,7,7,7,7,7,7,7,7,7,7,7,7,7,7,7,7,7,7,7,7,7,7,7,7,7,7,7,7,7,7,7,7,7,7,7,8,8,8,8,8,8,8,8,8,8,8,8,8,8,8,8,8,8,8,8,8,8,8,8,8,8,8,8,8,8,8,8,8,8,8,8,8,8,8,8,8,8,8,8,8,8,8,8,8,8,8,8,8,8,8,8,8,8,8,8,8,8,8,8,8,8,8,8,8,8,8,8,8,8,8,8,8,8,8,8,8,8,8,8,8,8,8,8,8,8,8,8,8,8,8,8,8,8,8,8,8,8,8,8,8,8,8,8,8,8,8,8,8,8,8,8,8,8,8,8,8,8,8,8,8,8,8,8]⟩)) (tG 21)),oG 23 (.conv .i64 (tG 22)),oG 24 (.bin .add (tG 19) (tG 23)),oG 2 (.as (tG 24))]
noncomputable def f109_c:EC:=(.seq (.reg f109_r0) (.seq (.seq (.reg f109_r1) (.cond (tG 4) (.seq (.reg f109_r2) (.reg f109_r3)) .skip)) (.seq (.seq (.reg f109_r4) (.cond (tG 8) (.seq (.reg f109_r5) (.reg f109_r6)) .skip)) (.seq (.seq (.reg f109_r7) (.cond (tG 14) (.seq (.reg f109_r8) (.reg f109_r9)) .skip)) (.seq (.reg f109_r10) .ret)))))
noncomputable def f109:EF:=⟨25, [.tmp (.ofNat 2)],f109_c,none⟩
noncomputable def f95_r0:List EOper := [oG 2 (.as (cG 0))]
noncomputable def f95_r1:List EOper := [oG 3 (.mv (tG 0)),oG 4 (.conv .u32 (tG 3)),oG 5 (.call (fG 108) [(tG 4)]),oG 2 (.as (tG 5))]
noncomputable def f95_r2:List EOper := [oG 6 (.mv (tG 0)),oG 7 (.call (fG 109) [(tG 6)]),oG 2 (.as (tG 7))]
noncomputable def f95_c:EC:=(.seq (.reg f95_r0) (.seq (.cond (.c (.b false)) (.seq (.reg f95_r1) .ret) .skip) (.seq (.reg f95_r2) .ret)))
noncomputable def f95:EF:=⟨8, [.tmp (.ofNat 2)],f95_c,none⟩
theorem f95_rs:f95.rs = [.tmp (.ofNat 2)]:=of_eq_true (eq_self _)
noncomputable def f111_r0:List EOper := [oG 10 (.as (.c (.b true)))]
noncomputable def f111_r1:List EOper := [oG 11 (.as (.c (.b true)))]
noncomputable def f111_r2:List EOper := [oG 21 (.mv (tG 2)),oG 22 (.mv (tG 1)),oG 23 (.bin .sub (tG 21) (tG 22)),oG 12 (.as (tG 23))]
noncomputable def f111_r3:List EOper := [oG 24 (.mv (tG 12)),oG 25 (.bin .leq (tG 24) (cG 12))]
noncomputable def f111_r4:List EOper := [oG 26 (.mv (tG 0)),oG 27 (.mv (tG 1)),oG 28 (.mv (tG 2)),oG 29 (.mv (tG 4)),oG 30 (.call (fG 117) [(tG 26),(tG 27),(tG 28),(tG 29)])]
noncomputable def f111_r5:List EOper := [oG 31 (.mv (tG 3)),oG 32 (.bin .eql (tG 31) (cG 0))]
noncomputable def f111_r6:List EOper := [oG 33 (.mv (tG 0)),oG 34 (.mv (tG 1)),oG 35 (.mv (tG 2)),oG 36 (.mv (tG 4)),oG 37 (.call (fG 118) [(tG 33),(tG 34),(tG 35),(tG 36)])]
noncomputable def f111_r7:List EOper := [oG 38 (.mv (tG 10)),oG 39 (.not (tG 38))]
noncomputable def f111_r8:List EOper := [oG 40 (.mv (tG 0)),oG 41 (.mv (tG 1)),oG 42 (.mv (tG 2)),oG 43 (.mv (tG 4)),oG 44 (.call (fG 119) [(tG 40),(tG 41),(tG 42),(tG 43)])]
noncomputable def f111_r9:List EOper := [oG 45 (.mv (tG 3)),oG 46 (.bin .sub (tG 45) (cG 1)),oG 3 (.as (tG 46))]
noncomputable def f111_r10:List EOper := [oG 48 (.mv (tG 0)),oG 49 (.mv (tG 1)),oG 50 (.mv (tG 2)),oG 51 (.mv (tG 4)),oG 52 (.call (fG 120) [(tG 48),(tG 49),(tG 50),(tG 51)]),oG 47 (.mv (tG 52)),oG 53 (.ext (tG 47) 0),oG 54 (.ext (tG 47) 1),oG 13 (.as (tG 53)),oG 14 (.as (tG 54))]
noncomputable def f111_r11:List EOper := [oG 55 (.mv (tG 14)),oG 56 (.bin .eql (tG 55) (cG 2))]
noncomputable def f111_r12:List EOper := [oG 57 (.mv (tG 0)),oG 58 (.mv (tG 1)),oG 59 (.mv (tG 2)),oG 60 (.mv (tG 4)),oG 61 (.call (fG 121) [(tG 57),(tG 58),(tG 59),(tG 60)])]
noncomputable def f111_r13:List EOper := [oG 62 (.mv (tG 2)),oG 63 (.bin .sub (tG 62) (cG 1)),oG 64 (.mv (tG 13)),oG 65 (.mv (tG 1)),oG 66 (.bin .sub (tG 64) (tG 65)),oG 67 (.bin .sub (tG 63) (tG 66)),oG 13 (.as (tG 67))]
noncomputable def f111_r14:List EOper := [oG 14 (.as (cG 1))]
noncomputable def f111_r15:List EOper := [oG 68 (.mv (tG 10)),oG 69 (.mv (tG 68)),gG 70 69 true (.mv (tG 11)),oG 71 (.pick (tG 69) (tG 70) (.c (.b false))),oG 72 (.mv (tG 71)),gG 73 72 true (.mv (tG 14)),gG 74 72 true (.bin .eql (tG 73) (cG 1)),oG 75 (.pick (tG 72) (tG 74) (.c (.b false)))]
noncomputable def f111_r16:List EOper := [oG 76 (.mv (tG 0)),oG 77 (.mv (tG 1)),oG 78 (.mv (tG 2)),oG 79 (.mv (tG 4)),oG 80 (.call (fG 122) [(tG 76),(tG 77),(tG 78),(tG 79)])]
noncomputable def f111_r17:List Stage := [⟨[oG 81 (.mv (tG 1)),oG 82 (.bin .gtr (tG 81) (cG 0)),oG 83 (.mv (tG 82)),gG 84 83 true (.mv (tG 4)),gG 85 83 true (.mv (tG 0)),gG 86 83 true (.mv (tG 1)),gG 87 83 true (.bin .sub (tG 86) (cG 1)),gG 88 83 true (.iads 1 (tG 85) (tG 87)),gG 89 83 true (.ld (tG 88)),gG 90 83 true (.mv (tG 0)),gG 91 83 true (.mv (tG 13)),gG 92 83 true (.iads 1 (tG 90) (tG 91)),gG 93 83 true (.ld (tG 92))], [],(some (gG 94 83 true (.call (tG 84) [(tG 89),(tG 93)]))), []⟩,⟨[gG 95 83 true (.bin .lss (tG 94) (cG 0)),gG 96 83 true (.not (tG 95)),oG 97 (.pick (tG 83) (tG 96) (.c (.b false)))], [],none, []⟩]
noncomputable def f111_r18:List EOper := [oG 98 (.mv (tG 0)),oG 99 (.mv (tG 1)),oG 100 (.mv (tG 2)),oG 101 (.mv (tG 13)),oG 102 (.mv (tG 4)),oG 103 (.call (fG 123) [(tG 98),(tG 99),(tG 100),(tG 101),(tG 102)]),oG 15 (.as (tG 103))]
noncomputable def f111_r19:List EOper := [oG 104 (.mv (tG 15)),oG 1 (.as (tG 104))]
noncomputable def f111_r20:List EOper := [oG 106 (.mv (tG 0)),oG 107 (.mv (tG 1)),oG 108 (.mv (tG 2)),oG 109 (.mv (tG 13)),oG 110 (.mv (tG 4)),oG 111 (.call (fG 124) [(tG 106),(tG 107),(tG 108),(tG 109),(tG 110)]),oG 105 (.mv (tG 111)),oG 112 (.ext (tG 105) 0),oG 113 (.ext (tG 105) 1),oG 16 (.as (tG 112)),oG 17 (.as (tG 113))]
noncomputable def f111_r21:List EOper := [oG 114 (.mv (tG 17)),oG 11 (.as (tG 114))]
noncomputable def f111_r22:List EOper := [oG 115 (.mv (tG 16)),oG 116 (.mv (tG 1)),oG 117 (.bin .sub (tG 115) (tG 116)),oG 118 (.mv (tG 2)),oG 119 (.mv (tG 16)),oG 120 (.bin .sub (tG 118) (tG 119)),oG 18 (.as (tG 117)),oG 19 (.as (tG 120))]
noncomputable def f111_r23:List EOper := [oG 121 (.mv (tG 12)),oG 122 (.bin .quo (tG 121) (cG 8)),oG 20 (.as (tG 122))]
noncomputable def f111_r24:List EOper := [oG 123 (.mv (tG 18)),oG 124 (.mv (tG 19)),oG 125 (.bin .lss (tG 123) (tG 124))]
noncomputable def f111_r25:List EOper := [oG 126 (.mv (tG 18)),oG 127 (.mv (tG 20)),oG 128 (.bin .geq (tG 126) (tG 127)),oG 10 (.as (tG 128))]
noncomputable def f111_r26:List EOper := [oG 129 (.mv (tG 0)),oG 130 (.mv (tG 1)),oG 131 (.mv (tG 16)),oG 132 (.mv (tG 3)),oG 133 (.mv (tG 4)),oG 134 (.call (fG 111) [(tG 129),(tG 130),(tG 131),(tG 132),(tG 133)])]
noncomputable def f111_r27:List EOper := [oG 135 (.mv (tG 16)),oG 136 (.bin .add (tG 135) (cG 1)),oG 1 (.as (tG 136))]
noncomputable def f111_r28:List EOper := [oG 137 (.mv (tG 19)),oG 138 (.mv (tG 20)),oG 139 (.bin .geq (tG 137) (tG 138)),oG 10 (.as (tG 139))]
noncomputable def f111_r29:List EOper := [oG 140 (.mv (tG 0)),oG 141 (.mv (tG 16)),oG 142 (.bin .add (tG 141) (cG 1)),oG 143 (.mv (tG 2)),oG 144 (.mv (tG 3)),oG 145 (.mv (tG 4)),oG 146 (.call (fG 111) [(tG 140),(tG 142),(tG 143),(tG 144),(tG 145)])]
noncomputable def f111_r30:List EOper := [oG 147 (.mv (tG 16)),oG 2 (.as (tG 147))]
noncomputable def f111_l0:EC:=(.block 1 (.seq (.reg f111_r2) (.seq (.seq (.reg f111_r3) (.cond (tG 25) (.seq (.reg f111_r4) .ret) .skip)) (.seq (.seq (.reg f111_r5) (.cond (tG 32) (.seq (.reg f111_r6) .ret) .skip)) (.seq (.seq (.reg f111_r7) (.cond (tG 39) (.seq (.reg f111_r8) (.reg f111_r9)) .skip)) (.seq (.reg f111_r10) (.seq (.seq (.reg f111_r11) (.cond (tG 56) (.seq (.reg f111_r12) (.seq (.reg f111_r13) (.reg f111_r14))) .skip)) (.seq (.seq (.reg f111_r15) (.cond (tG 75) (.seq (.reg f111_r16) (.cond (tG 80) .ret .skip)) .skip)) (.seq (.seq (.draw f111_r17) (.cond (tG 97) (.seq (.reg f111_r18) (.seq (.reg f111_r19) (.exit 1))) .skip)) (.seq (.reg f111_r20) (.seq (.reg f111_r21) (.seq (.reg f111_r22) (.seq (.reg f111_r23) (.seq (.reg f111_r24) (.cond (tG 125) (.seq (.reg f111_r25) (.seq (.reg f111_r26) (.reg f111_r27))) (.seq (.reg f111_r28) (.seq (.reg f111_r29) (.reg f111_r30))))))))))))))))))
noncomputable def f111_c:EC:=(.seq (.reg f111_r0) (.seq (.reg f111_r1) (.block 0 (.loop f111_l0))))
noncomputable def f111:EF:=⟨148, [],f111_c,none⟩
theorem f111_rs:f111.rs = []:=of_eq_true (eq_self _)
noncomputable def f98_r0:List EOper := [oG 5 (.mv (tG 0)),oG 6 (.len (tG 5)),oG 4 (.as (tG 6))]
noncomputable def f98_r1:List EOper := [oG 7 (.mv (tG 0)),oG 8 (.mv (tG 4)),oG 9 (.mv (tG 4)),oG 10 (.conv .u64 (tG 9)),oG 11 (.call (fG 95) [(tG 10)]),oG 12 (.mv (tG 1)),oG 13 (.call (fG 111) [(tG 7),(cG 0),(tG 8),(tG 11),(tG 12)])]
noncomputable def f98_c:EC:=(.seq (.reg f98_r0) (.reg f98_r1))
noncomputable def f98:EF:=⟨14, [],f98_c,none⟩
theorem f98_rs:f98.rs = []:=of_eq_true (eq_self _)
noncomputable def f92_r0:List EOper := [oG 3 (.box 1 (tG 1))]
noncomputable def f92_r1:List EOper := [oG 4 (.mv (tG 0)),oG 5 (.mkfn (.ofNat 99) [(tG 3)]),oG 6 (.call (fG 98) [(tG 4),(tG 5)])]
noncomputable def f92_c:EC:=(.seq (.reg f92_r0) (.reg f92_r1))
noncomputable def f92:EF:=⟨7, [],f92_c,none⟩
theorem f92_rs:f92.rs = []:=of_eq_true (eq_self _)
noncomputable def f81_r0:List EOper := [oG 3 (.box 49 (tG 1)),oG 4 (.as (.c .sn))]
noncomputable def f81_r1:List EOper := [oG 7 (.mv (tG 0)),oG 8 (.mkslice 1 [(.i .i64 (.ofNat 0))] (tG 7)),oG 5 (.as (tG 8))]
noncomputable def f81_r2:List EOper := [oG 9 (.mv (tG 0)),oG 10 (.mv (cG 0))]
noncomputable def f81_r3:List EOper := [oG 11 (.bin .lss (tG 10) (tG 9))]
noncomputable def f81_r4:List EOper := [oG 12 (.mv (tG 10)),oG 6 (.as (tG 12))]
noncomputable def f81_r5:List EOper := [oG 13 (.mv (tG 5)),oG 14 (.mv (tG 6)),oG 15 (.mv (tG 6)),oG 16 (.iads 1 (tG 13) (tG 14)),⟨none,none, .st 1 (tG 16) (tG 15)⟩]
noncomputable def f81_r6:List EOper := [oG 17 (.bin .add (tG 10) (cG 1)),oG 10 (.mv (tG 17))]
noncomputable def f81_l0:EC:=(.seq (.reg f81_r3) (.seq (.cond (tG 11) .skip (.exit 0)) (.seq (.block 1 (.seq (.reg f81_r4) (.reg f81_r5))) (.reg f81_r6))))
noncomputable def f81_r7:List EOper := [oG 18 (.mv (tG 5)),oG 19 (.mkfn (.ofNat 93) [(tG 3)]),oG 20 (.call (fG 92) [(tG 18),(tG 19)])]
noncomputable def f81_r8:List EOper := [oG 21 (.mv (tG 5)),oG 4 (.as (tG 21))]
noncomputable def f81_c:EC:=(.seq (.reg f81_r0) (.seq (.reg f81_r1) (.seq (.seq (.reg f81_r2) (.block 0 (.loop f81_l0))) (.seq (.reg f81_r7) (.seq (.reg f81_r8) .ret)))))
noncomputable def f81:EF:=⟨22, [.tmp (.ofNat 4)],f81_c,none⟩
theorem f81_rs:f81.rs = [.tmp (.ofNat 4)]:=of_eq_true (eq_self _)
structure OnlyO (v:V) (h h':H):Prop where
  nx:h'.nx=h.nx
  old:∀ id,NotIn id v→h'.get id=h.get id
theorem OnlyO.refl {v:V} {h:H}:OnlyO v h h:=⟨rfl,fun _ _=>rfl⟩
theorem OnlyO.hc {v:V} {h h':H} (o:OnlyO v h h') (hc:HC h) (hv:∀ id off n sz,v = .sl id off n sz→id.nat < h.nx.nat):HC h':=fun id hid=>by
  rw [o.nx] at hid
  rw [o.old id (fun off n sz e=>by have:=hv _ _ _ _ e; omega)]
  exact hc id hid
theorem OnlyO.put {v:V} {h h':H} {id:K} {x:Blk} (o:OnlyO v h h') (hv:∃ off n sz,v = .sl id off n sz):OnlyO v h (h'.put id x):=⟨o.nx,fun id' hn=>by
  obtain ⟨off,n,sz,e⟩:=hv
  rw [get_put_other (fun q=>hn off n sz (by rw [q]; exact e))]
  exact o.old id' hn⟩
theorem OnlyO.grow {v:V} {h h':H} {b:Nat} (o:OnlyO v h h') (ho:Own b v) (hv:∀ id off n sz,v = .sl id off n sz→id.nat < h.nx.nat):Grow b h h':=⟨by rw [o.nx]; exact Nat.le_refl _,fun id hi=>o.old id (ho.notIn hi),fun hc=>o.hc hc hv⟩
theorem swap_o {p x:Int} {B:List Int}:∀ {A:List Int},((A ++ p :: x :: B).set (A.length + 1) p).set A.length x=A ++ x :: p :: B
  | []=>rfl
  | a :: A=>by simp
def ltR (L:List Bool) (x y:Int):Bool:=rat L x.toNat y.toNat
def cmR (L:List Bool) (x y:Nat):Int:=if rat L x y=true then -1 else if rat L y x=true then 1 else 0
def All7 (S:List Int):Prop:=∀ x ∈ S,∃ a:Nat,a < 7∧x=(a:Int)
structure SoE (L:List Bool) (idr idb:K) (h:H):Prop where
  er:h.get idr=rC L
  eb:h.get idb = .cells 1 [.fn (K.ofNat 93) [.p idr 0]]
structure CallsSo (fs:T EF):Prop where
  c93:fs.get (K.ofNat 93)=some f93
  c99:fs.get (K.ofNat 99)=some f99
  c117:fs.get (K.ofNat 117)=some f117
  c109:fs.get (K.ofNat 109)=some f109
  c95:fs.get (K.ofNat 95)=some f95
  c111:fs.get (K.ofNat 111)=some f111
  c98:fs.get (K.ofNat 98)=some f98
  c92:fs.get (K.ofNat 92)=some f92
section
variable {fs:T EF} {h:H} {v:V} {S:List Int} {L:List Bool} {idr idb:K}
theorem f93_ret {x y:Nat} (hL:L.length=49) (hx:x < 7) (hy:y < 7) (er:h.get idr=rC L):Ret fs f93 [.i .i64 (x:Int), .i .i64 (y:Int), .p idr 0] h fun r h'=>r = .b (rat L x y)∧h'=h:=by
  apply ret_of rfl
  show W fs none f93_c _ _ _
  unfold f93_c
  have l:=rC_ld hx hy hL er
  simp (disch:=omega) only [f93_r0,f93_r1,f93_rs,Option.some.injEq,exists_eq_left',Nat.reduceEqDiff,↓reduceIte,l,and_self,bz]
theorem f99_ret {x y:Nat} (k:CallsSo fs) (hL:L.length=49) (hx:x < 7) (hy:y < 7) (e:SoE L idr idb h):Ret fs f99 [.i .i64 (x:Int), .i .i64 (y:Int), .p idb 0] h fun r h'=>r = .i .i64 (cmR L x y)∧h'=h:=by
  apply ret_of rfl
  show W fs none f99_c _ _ _
  unfold f99_c
  have l:=load_p (off:=0) e.eb (show nth [V.fn (K.ofNat 93) [.p idr 0]] 0=some _ from rfl)
  unfold cmR
  simp (disch:=omega) only [f99_r0,f99_r1,Nat.reduceEqDiff,↓reduceIte,l,bz]
  refine (callP_of (ef:=f93) (args := [.i .i64 (x:Int), .i .i64 (y:Int)]) (caps := [.p idr 0]) k.c93 rfl (f93_ret hL hx hy e.er)).mono ?_
  rintro r h1 ⟨rfl,rfl⟩
  cases h1_:rat L x y with
  | true =>
    simp (disch:=omega) only [f99_r2,f99_rs,Option.some.injEq,exists_eq_left',↓reduceIte,bz]
    exact ⟨rfl,trivial⟩
  | false =>
    simp (disch:=omega) only [f99_r3,Nat.reduceEqDiff,↓reduceIte,Bool.false_eq_true,l,bz]
    refine (callP_of (ef:=f93) (args := [.i .i64 (y:Int), .i .i64 (x:Int)]) (caps := [.p idr 0]) k.c93 rfl (f93_ret hL hy hx e.er)).mono ?_
    rintro r h1 ⟨rfl,rfl⟩
    cases h2_:rat L y x with
    | true=>simp (disch:=omega) only [f99_r4,f99_rs,Option.some.injEq,exists_eq_left',↓reduceIte,and_self,bz]
    | false=>simp (disch:=omega) only [f99_r5,f99_rs,Option.some.injEq,exists_eq_left',↓reduceIte,Bool.false_eq_true,and_self,Bool.false_eq_true,bz]
def f117_I (h:H) (v c:V) (L:List Bool) (S:List Int) (i:Nat) (fr:Fr) (h1:H):Prop:=1 ≤ i∧i ≤ S.length∧OnlyO v h h1∧Sl iE h1 v (srtR (ltR L) (S.take i) ++ S.drop i)∧fr.get (K.ofNat 0)=some (v)∧fr.get (K.ofNat 1)=some (.i .i64 0)∧fr.get (K.ofNat 2)=some (.i .i64 (S.length:Int))∧fr.get (K.ofNat 3)=some (c)∧fr.get (K.ofNat 8)=some (.i .i64 (i:Int))
def f117_J (h:H) (v c:V) (L:List Bool) (S P R:List Int) (x:Int) (i j:Nat) (fr:Fr) (h1:H):Prop:=j ≤ i∧OnlyO v h h1∧Sl iE h1 v ((P.take j ++ x :: P.drop j) ++ R)∧stopI (ltR L) x P P.length=stopI (ltR L) x P j∧fr.get (K.ofNat 0)=some (v)∧fr.get (K.ofNat 1)=some (.i .i64 0)∧fr.get (K.ofNat 2)=some (.i .i64 (S.length:Int))∧fr.get (K.ofNat 3)=some (c)∧fr.get (K.ofNat 8)=some (.i .i64 (i:Int))∧fr.get (K.ofNat 9)=some (.i .i64 (j:Int))
theorem f117_ret (k:CallsSo fs) (hL:L.length=49) (hv:Sl iE h v S) (hS:S.length ≤ 1000) (h1:1 ≤ S.length) (h7:All7 S) (e:SoE L idr idb h) (nr:NotIn idr v) (nb:NotIn idb v) (hc:HC h):Ret fs f117 [v, .i .i64 0, .i .i64 (S.length:Int), .fn (.ofNat 99) [.p idb 0]] h fun r h'=>r = .tup []∧Sl iE h' v (srtR (ltR L) S)∧OnlyO v h h':=by
  have hlt0:=hv.lt hc
  apply ret_of rfl
  show W fs none f117_c _ _ _
  unfold f117_c
  simp (disch:=omega) only [f117_r0,Nat.reduceEqDiff,↓reduceIte,bz]
  refine W_loop (f117_I h v (.fn (K.ofNat 99) [.p idb 0]) L S) (fun i=>S.length - i) ?_ 1 ⟨by omega,h1,OnlyO.refl,?_,by simp (disch:=omega) only [getK_set,Nat.reduceEqDiff,↓reduceIte,and_self,Int.natCast_one,Int.zero_add]⟩
  · rintro i fr h2 ⟨hi0,hi,hO,hs,g0,g1,g2,g3,g8⟩
    unfold f117_l1
    by_cases hlt:i < S.length
    · have d0:decide ((i:Int) < (S.length:Int))=true:=decide_eq_true (by omega)
      have hP:(srtR (ltR L) (S.take i)).length=i:=by rw [srtR_len]; simp; omega
      have hsn:srtR (ltR L) (S.take (i + 1))=insR (ltR L) S[i] (srtR (ltR L) (S.take i)):=by rw [List.take_succ_eq_append_getElem hlt,srtR_snoc]
      have hdr:S.drop i=S[i] :: S.drop (i + 1):=List.drop_eq_getElem_cons hlt
      have hx7:=h7 S[i] (List.getElem_mem _)
      have hP7:All7 (srtR (ltR L) (S.take i)):=fun y hy=>h7 y (List.mem_of_mem_take (srtR_perm.mem_iff.1 hy))
      generalize S[i]=x at *
      generalize srtR (ltR L) (S.take i)=P at *
      generalize hRe:S.drop (i + 1)=R at *
      obtain ⟨xn,hxn,hxe⟩:=hx7
      simp (disch:=omega) only [f117_r1,f117_r2,Nat.reduceEqDiff,↓reduceIte,g2,g8,d0,bz]
      refine W_loop (f117_J h v (.fn (K.ofNat 99) [.p idb 0]) L S P R x i) (fun j=>j) ?_ i ⟨Nat.le_refl _,hO,by rw [List.take_of_length_le (by omega),List.drop_eq_nil_of_le (by omega),List.append_assoc]; rw [hdr] at hs; exact hs,by rw [hP],by simp (disch:=omega) only [getK_set,Nat.reduceEqDiff,↓reduceIte,g0,g1,g2,g3,g8,and_self]⟩
      clear hs hO g0 g1 g2 g3 g8 fr
      rintro j fr h3 ⟨hj,hO,hs,hB,g0,g1,g2,g3,g8,g9⟩
      have fin:stopI (ltR L) x P j=j→Sl iE h3 v (srtR (ltR L) (S.take (i + 1)) ++ R):=fun q=>by
        rw [hsn]; unfold insR; rw [hB,q]; exact hs
      unfold f117_l0
      rcases j with _ | j
      · have d1:decide ((0:Int) > 0)=false:=rfl
        simp (disch:=omega) only [f117_r3,f117_r6,Nat.reduceEqDiff,↓reduceIte,Bool.false_eq_true,g1,g8,g9,Int.natCast_zero,d1,bz]
        exact ⟨i + 1,by omega,by omega,by omega,hO,by rw [hRe]; exact fin rfl,by simp (disch:=omega) only [getK_set,Nat.reduceEqDiff,↓reduceIte,g0,g1,g2,g3,and_self,Int.natCast_add,Int.natCast_one]⟩
      · have d1:decide (((j + 1:Nat):Int) > 0)=true:=decide_eq_true (by omega)
        have hj1:((j + 1:Nat):Int) - 1=(j:Int):=by omega
        have hjP:j < P.length:=by omega
        have htk:P.take (j + 1)=P.take j ++ [P[j]]:=List.take_succ_eq_append_getElem hjP
        have hdj:P.drop j=P[j] :: P.drop (j + 1):=List.drop_eq_getElem_cons hjP
        have hgd:P.getD j 0=P[j]:=by rw [List.getD_eq_getElem?_getD,List.getElem?_eq_getElem hjP]; rfl
        have hst:stopI (ltR L) x P (j + 1)=bif ltR L x P[j] then stopI (ltR L) x P j else j + 1:=by rw [← hgd]; rfl
        have hA:(P.take j).length=j:=by simp; omega
        have hp7:=hP7 P[j] (List.getElem_mem _)
        rw [htk] at hs
        have hs':Sl iE h3 v (P.take j ++ P[j] :: x :: (P.drop (j + 1) ++ R)):=by rw [List.append_assoc (P.take j),List.append_assoc (P.take j)] at hs; exact hs
        have hTe:P.take (j + 1)=P.take j ++ [P[j]]:=htk
        generalize P[j]=p at *
        generalize hAe:P.take j=A at *
        generalize hBe:P.drop (j + 1)=B at *
        obtain ⟨pn,hpn,hpe⟩:=hp7
        have hlen:(A ++ p :: x :: (B ++ R)).length=A.length + (B ++ R).length + 2:=by simp; omega
        obtain ⟨p1,a1,a2⟩:=hs'.at (j + 1) (by omega)
        obtain ⟨p0,b1,b2⟩:=hs'.at j (by omega)
        have x1:(A ++ p :: x :: (B ++ R))[j + 1]'(by omega)=x:=by simp [← hA]
        have x0:(A ++ p :: x :: (B ++ R))[j]'(by omega)=p:=by simp [← hA]
        rw [x1] at a2
        rw [x0] at b2
        have e3:SoE L idr idb h3:=⟨(hO.old _ nr).trans e.er,(hO.old _ nb).trans e.eb⟩
        have hcall:=callP_of (fs:=fs) (h:=h3) (ef:=f99) (args := [.i .i64 (xn:Int), .i .i64 (pn:Int)]) (caps := [.p idb 0]) k.c99 rfl (f99_ret k hL hxn hpn e3)
        rw [← hxe,← hpe] at hcall
        have hltx:ltR L x p=rat L xn pn:=by unfold ltR; rw [hxe,hpe]; rfl
        have hc3:=hO.hc hc hlt0
        cases d2:rat L xn pn with
        | false =>
          have dc:decide (cmR L xn pn < 0)=false:=by
            unfold cmR; rw [d2,if_neg (by simp)]
            split <;> rfl
          rw [hltx,d2] at hst
          simp (disch:=omega) only [f117_r3,Nat.reduceEqDiff,↓reduceIte,g0,g1,g3,g9,d1,hj1,a1,a2,b1,b2,iE,bz]
          refine hcall.mono ?_
          rintro r h4 ⟨rfl,rfl⟩
          simp (disch:=omega) only [f117_r6,Nat.reduceEqDiff,↓reduceIte,Bool.false_eq_true,g8,dc,bz]
          exact ⟨i + 1,by omega,by omega,by omega,hO,by rw [hRe]; exact fin hst,by simp (disch:=omega) only [getK_set,Nat.reduceEqDiff,↓reduceIte,g0,g1,g2,g3,and_self,Int.natCast_add,Int.natCast_one]⟩
        | true =>
          have dc:decide (cmR L xn pn < 0)=true:=by
            unfold cmR; rw [d2,if_pos rfl]; rfl
          rw [hltx,d2] at hst
          obtain ⟨p1',id,m,cs',z1,z2,z3,⟨off,nn,sz,z4⟩,z5⟩:=hs'.st (i:=j + 1) (by omega) (x:=p) (c := .i .i64 p) rfl rfl hc3
          obtain rfl:p1=p1':=by have:=(a1 .i64 h3).symm.trans (z1 .i64 h3); injection this
          have hc4:=(hO.put (x := .cells m cs') ⟨_,_,_,z4⟩).hc hc hlt0
          obtain ⟨p0',id2,m2,cs2,y1,y2,y3,y4,y5⟩:=z3.st (i:=j) (by simp; omega) (x:=x) (c := .i .i64 x) rfl rfl hc4
          obtain rfl:p0=p0':=by have:=(b1 .i64 h3).symm.trans (y1 .i64 h3); injection this
          have hsw:((A ++ p :: x :: (B ++ R)).set (j + 1) p).set j x=(A ++ x :: (p :: B)) ++ R:=by
            have:=swap_o (p:=p) (x:=x) (B:=B ++ R) (A:=A)
            rw [hA] at this
            rw [this]; simp
          rw [hsw] at y3
          have hvb:=hs.beq
          simp (disch:=omega) only [f117_r3,Nat.reduceEqDiff,↓reduceIte,g0,g1,g3,g9,d1,hj1,a1,a2,b1,b2,iE,bz]
          refine hcall.mono ?_
          rintro r h4 ⟨rfl,rfl⟩
          simp (disch:=omega) only [f117_r4,f117_r5,stay_bin,Nat.reduceEqDiff,↓reduceIte,g0,g9,dc,hj1,a1,a2,b1,b2,z2,y2,hvb,iE,bz]
          refine ⟨j,by omega,by omega,(hO.put ⟨_,_,_,z4⟩).put y4,?_,by rw [hB]; exact hst,by simp (disch:=omega) only [getK_set,Nat.reduceEqDiff,↓reduceIte,g0,g1,g2,g3,g8,and_self]⟩
          rw [hAe,hdj]; exact y3
    · have d0:decide ((i:Int) < (S.length:Int))=false:=decide_eq_false (by omega)
      have ei:i=S.length:=by omega
      rw [ei,List.take_length,List.drop_length,List.append_nil] at hs
      simp (disch:=omega) only [f117_r1,f117_rs,Option.some.injEq,exists_eq_left',Nat.reduceEqDiff,↓reduceIte,Bool.false_eq_true,g2,g8,d0,bz]
      exact ⟨hs,hO⟩
  · have:S.take 1 = [S[0]]:=by rw [List.take_succ_eq_append_getElem (by omega)]; simp
    rw [this,show srtR (ltR L) [S[0]] = [S[0]] from rfl,← this,List.take_append_drop]; exact hv
theorem f109_ret {n:Nat} (hn:n ≤ 12):Ret fs f109 [.i .u64 (n:Int)] h fun r h'=>(∃ b,r = .i .i64 b)∧h'=h:=by
  rcases (show n=0 ∨ n=1 ∨ n=2 ∨ n=3 ∨ n=4 ∨ n=5 ∨ n=6 ∨ n=7 ∨ n=8 ∨ n=9 ∨ n=10 ∨ n=11 ∨ n=12 by omega) with rfl | rfl | rfl | rfl | rfl | rfl | rfl | rfl | rfl | rfl | rfl | rfl | rfl <;> exact ⟨20,_,_,rfl,⟨_,rfl⟩,rfl⟩
theorem f95_ret {n:Nat} (k:CallsSo fs) (hn:n ≤ 12):Ret fs f95 [.i .u64 (n:Int)] h fun r h'=>(∃ b,r = .i .i64 b)∧h'=h:=by
  apply ret_of rfl
  show W fs none f95_c _ _ _
  unfold f95_c
  simp (disch:=omega) only [f95_r0,f95_r2,Nat.reduceEqDiff,↓reduceIte,Bool.false_eq_true,bz]
  refine (callP_0 (ef:=f109) k.c109 rfl (f109_ret hn)).mono ?_
  rintro r h1 ⟨⟨b,rfl⟩,rfl⟩
  simp (disch:=omega) only [f95_rs,Option.some.injEq,exists_eq_left',↓reduceIte,and_true,bz]
  exact ⟨b,rfl⟩
theorem f111_ret {b:Int} (k:CallsSo fs) (hL:L.length=49) (hv:Sl iE h v S) (hS:S.length ≤ 12) (h1:1 ≤ S.length) (h7:All7 S) (e:SoE L idr idb h) (nr:NotIn idr v) (nb:NotIn idb v) (hc:HC h):Ret fs f111 [v, .i .i64 0, .i .i64 (S.length:Int), .i .i64 b, .fn (.ofNat 99) [.p idb 0]] h fun r h'=>r = .tup []∧Sl iE h' v (srtR (ltR L) S)∧OnlyO v h h':=by
  apply ret_of rfl
  show W fs none f111_c _ _ _
  unfold f111_c
  have d0:decide ((S.length:Int) ≤ 12)=true:=decide_eq_true (by omega)
  have e0:(S.length:Int) - 0=(S.length:Int):=Int.sub_zero _
  simp (disch:=omega) only [f111_r0,f111_r1,bz]
  refine W_loop (fun (_:Unit) fr h1=>h1=h∧fr.get (K.ofNat 0)=some (v)∧fr.get (K.ofNat 1)=some (.i .i64 0)∧fr.get (K.ofNat 2)=some (.i .i64 (S.length:Int))∧fr.get (K.ofNat 4)=some (.fn (K.ofNat 99) [.p idb 0])) (fun _=>0) ?_ () ⟨rfl,by simp (disch:=omega) only [getK_set,Nat.reduceEqDiff,↓reduceIte,and_self]⟩
  rintro _ fr h2 ⟨rfl,g0,g1,g2,g4⟩
  unfold f111_l0
  simp (disch:=omega) only [f111_r2,f111_r3,f111_r4,Nat.reduceEqDiff,↓reduceIte,g0,g1,g2,g4,e0,d0,bz]
  refine (callP_0 (ef:=f117) k.c117 rfl (f117_ret k hL hv (by omega) h1 h7 e nr nb hc)).mono ?_
  rintro r h3 ⟨rfl,hs,hO⟩
  simp (disch:=omega) only [f111_rs,Option.some.injEq,exists_eq_left',bz]
  exact ⟨hs,hO⟩
theorem f98_ret (k:CallsSo fs) (hL:L.length=49) (hv:Sl iE h v S) (hS:S.length ≤ 12) (h1:1 ≤ S.length) (h7:All7 S) (e:SoE L idr idb h) (nr:NotIn idr v) (nb:NotIn idb v) (hc:HC h):Ret fs f98 [v, .fn (.ofNat 99) [.p idb 0]] h fun r h'=>r = .tup []∧Sl iE h' v (srtR (ltR L) S)∧OnlyO v h h':=by
  apply ret_of rfl
  show W fs none f98_c _ _ _
  unfold f98_c
  have hl:=hv.len
  have fu:fw .u64 (S.length:Int)=(S.length:Int):=by
    show (bif Nat.ble S.length (kmax .u64) then Int.ofNat S.length else _)=_
    rw [Nat.ble_eq_true_of_le (show S.length ≤ kmax .u64 from by show S.length ≤ 18446744073709551615; omega)]; rfl
  simp (disch:=omega) only [f98_r0,f98_r1,Nat.reduceEqDiff,↓reduceIte,hl,fu,bz]
  refine (callP_0 (ef:=f95) k.c95 rfl (f95_ret k hS)).mono ?_
  rintro r h2 ⟨⟨b,rfl⟩,rfl⟩
  simp (disch:=omega) only [Nat.reduceEqDiff,↓reduceIte,bz]
  refine (callP_0 (ef:=f111) k.c111 rfl (f111_ret k hL hv hS h1 h7 e nr nb hc)).mono ?_
  rintro r h3 ⟨rfl,hs,hO⟩
  simp (disch:=omega) only [f98_rs,Option.some.injEq,exists_eq_left',bz]
  exact ⟨hs,hO⟩
theorem f92_ret {b:Nat} (k:CallsSo fs) (hL:L.length=49) (hv:Sl iE h v S) (ho:Own b v) (hb:b ≤ h.nx.nat) (hS:S.length ≤ 12) (h1:1 ≤ S.length) (h7:All7 S) (er:h.get idr=rC L) (nr:NotIn idr v) (hc:HC h):Ret fs f92 [v, .fn (.ofNat 93) [.p idr 0]] h fun r h'=>r = .tup []∧Sl iE h' v (srtR (ltR L) S)∧Grow b h h':=by
  apply ret_of rfl
  show W fs none f92_c _ _ _
  unfold f92_c
  have cf:cellsN 1 (.fn (K.ofNat 93) [.p idr 0])=some [.fn (K.ofNat 93) [.p idr 0]]:=rfl
  have n1:=nx_new h (.cells 1 [.fn (K.ofNat 93) [.p idr 0]])
  have gr1:Grow h.nx.nat h (h.new (.cells 1 [.fn (K.ofNat 93) [.p idr 0]])):=Grow.new (Nat.le_refl _) _
  have e1:(h.new (.cells 1 [.fn (K.ofNat 93) [.p idr 0]])).get h.nx = .cells 1 [.fn (K.ofNat 93) [.p idr 0]]:=get_new_same
  simp (disch:=omega) only [f92_r0,f92_r1,x_mkfn,Nat.reduceEqDiff,↓reduceIte,cf,bz]
  generalize h.new (.cells 1 [.fn (K.ofNat 93) [.p idr 0]])=h2 at *
  have hc2:=gr1.hc hc
  have hlt:=hv.lt hc
  have hv2:=hv.grow hc gr1
  refine (callP_0 (ef:=f98) k.c98 rfl (f98_ret k hL hv2 hS h1 h7 ⟨(gr1.old _ (hc.cells er)).trans er,e1⟩ nr (fun off n sz e=>by have:=hlt _ _ _ _ e; omega) hc2)).mono ?_
  rintro r h3 ⟨rfl,hs,hO⟩
  simp (disch:=omega) only [f92_rs,Option.some.injEq,exists_eq_left',bz]
  exact ⟨hs,(gr1.low hb).trans (hO.grow ho (hv2.lt hc2))⟩
def lnL (L:List Bool) (n:Nat):List Int:=srtR (ltR L) ((List.range n).map fun a:Nat=>(a:Int))
theorem all7_range {n:Nat} (hn:n ≤ 7):All7 ((List.range n).map fun a:Nat=>(a:Int)):=fun x hx=>by
  obtain ⟨a,ha,rfl⟩:=List.mem_map.1 hx
  exact ⟨a,by have:=List.mem_range.1 ha; omega,rfl⟩
theorem range_set {n i:Nat} (hi:i < n):(((List.range i).map fun a:Nat=>(a:Int)) ++ List.replicate (n - i) 0).set i (i:Int)=((List.range (i + 1)).map fun a:Nat=>(a:Int)) ++ List.replicate (n - (i + 1)) 0:=by
  apply List.ext_getElem
  · simp; omega
  · intro a h1 h2
    simp only [List.length_set,List.length_append,List.length_map,List.length_range,List.length_replicate] at h1
    rw [List.getElem_set]
    by_cases e:i=a
    · subst e
      rw [if_pos rfl,List.getElem_append_left (by simp)]; simp
    · rw [if_neg e]
      by_cases h:a < i
      · rw [List.getElem_append_left (by simpa using h),List.getElem_append_left (by simp; omega)]; simp
      · rw [List.getElem_append_right (by simp; omega),List.getElem_append_right (by simp; omega)]; simp
def f81_I (h0:H) (idr:K) (w:V) (L:List Bool) (n:Nat) (i:Nat) (fr:Fr) (h1:H):Prop:=i ≤ n∧Grow h0.nx.nat h0 h1∧HC h1∧h1.get idr=rC L∧Sl iE h1 w (((List.range i).map fun a:Nat=>(a:Int)) ++ List.replicate (n - i) 0)∧fr.get (K.ofNat 3)=some (.p idr 0)∧fr.get (K.ofNat 5)=some (w)∧fr.get (K.ofNat 9)=some (.i .i64 (n:Int))∧fr.get (K.ofNat 10)=some (.i .i64 (i:Int))
theorem f81_ret {n:Nat} (k:CallsSo fs) (hL:L.length=49) (hn1:1 ≤ n) (hn:n ≤ 7) (hc:HC h):Ret fs f81 [.i .i64 (n:Int),rV L] h fun r h'=>Sl iE h' r (lnL L n)∧Own h.nx.nat r∧Grow h.nx.nat h h':=by
  apply ret_of rfl
  show W fs none f81_c _ _ _
  unfold f81_c
  have c1:=rC_cells hL
  have n1:=nx_new h (.cells 49 (L.map V.b))
  have gr1:Grow h.nx.nat h (h.new (.cells 49 (L.map V.b))):=Grow.new (Nat.le_refl _) _
  have e1:(h.new (.cells 49 (L.map V.b))).get h.nx=rC L:=get_new_same
  simp (disch:=omega) only [f81_r0,↓reduceIte,c1,bz]
  generalize h.new (.cells 49 (L.map V.b))=h1 at *
  have hc1:=gr1.hc hc
  have hmk:=mks_ints (h:=h1) (k := .i64) (n:=n) (by omega)
  have hs0:=mks_sl (h:=h1) (n:=n)
  have gr2:Grow h1.nx.nat h1 (h1.new (.cells (n * 1) (rep [.i .i64 0] n))):=Grow.new (Nat.le_refl _) _
  have n2:=nx_new h1 (.cells (n * 1) (rep [.i .i64 0] n))
  simp (disch:=omega) only [f81_r1,f81_r2,x_mks,Nat.reduceEqDiff,↓reduceIte,hmk,bz]
  generalize h1.new (.cells (n * 1) (rep [.i .i64 0] n))=h2 at *
  have hc2:=gr2.hc hc1
  have gA:Grow h.nx.nat h h2:=gr1.trans (gr2.low (by omega))
  have er:=(gr2.old h.nx (by omega)).trans e1
  have ow:Own h1.nx.nat (.sl h1.nx 0 n 1):=fun id off n sz e=>by cases e; exact Nat.le_refl _
  have nrw:NotIn h.nx (.sl h1.nx 0 n 1):=ow.notIn (by omega)
  refine W_loop (f81_I h h.nx (.sl h1.nx 0 n 1) L n) (fun i=>n - i) ?_ 0 ⟨by omega,gA,hc2,er,by simpa using hs0,by simp (disch:=omega) only [getK_set,Nat.reduceEqDiff,↓reduceIte,and_self,Int.natCast_zero]⟩
  rintro i fr h3 ⟨hi,hG,hc3,er3,hs,g3,g5,g9,g10⟩
  unfold f81_l0
  by_cases hlt:i < n
  · have d0:decide ((i:Int) < (n:Int))=true:=decide_eq_true (by omega)
    obtain ⟨p,id,m,cs',z1,z2,z3,⟨off,nn,sz,z4⟩,z5⟩:=hs.st (i:=i) (by simp; omega) (x:=(i:Int)) (c := .i .i64 (i:Int)) rfl rfl hc3
    rw [range_set hlt] at z3
    have hid:id=h1.nx:=by cases z4; rfl
    subst hid
    have hlt3:=hs.lt hc3 _ _ _ _ rfl
    have gp:Grow h.nx.nat h3 (h3.put h1.nx (.cells m cs')):=Grow.put (by omega) hlt3 _
    simp (disch:=omega) only [f81_r3,f81_r4,f81_r5,f81_r6,Nat.reduceEqDiff,↓reduceIte,g5,g9,g10,d0,z1,z2,bz]
    exact ⟨i + 1,by omega,by omega,hG.trans gp,gp.hc hc3,(get_put_other (kNe (by omega))).trans er3,z3,by simp (disch:=omega) only [getK_set,Nat.reduceEqDiff,↓reduceIte,g3,g5,g9,and_self,Int.natCast_add,Int.natCast_one]⟩
  · have d0:decide ((i:Int) < (n:Int))=false:=decide_eq_false (by omega)
    have ei:i=n:=by omega
    subst ei
    rw [Nat.sub_self,List.replicate_zero,List.append_nil] at hs
    have hlen:((List.range i).map fun a:Nat=>(a:Int)).length=i:=by simp
    simp (disch:=omega) only [f81_r3,f81_r7,x_mkfn,Nat.reduceEqDiff,↓reduceIte,Bool.false_eq_true,g3,g5,g9,g10,d0,bz]
    refine (callP_0 (ef:=f92) k.c92 rfl (f92_ret (b:=h1.nx.nat) k hL hs ow (by have:=hG.nx; have:=hs.lt hc3 _ _ _ _ rfl; omega) (by omega) (by omega) (all7_range hn) er3 nrw hc3)).mono ?_
    rintro r h4 ⟨rfl,hs4,g4⟩
    simp (disch:=omega) only [f81_r8,f81_rs,Option.some.injEq,exists_eq_left',Nat.reduceEqDiff,↓reduceIte,g5,bz]
    exact ⟨hs4,ow.low (by omega),hG.trans (g4.low (by omega))⟩
end
end Go.Ev
namespace Go.Ev
open Go Go.RowKit
theorem bfB_iff {x y:Int × Int}:bfB x y=true ↔ x.1 < y.1 ∨ (x.1=y.1∧x.2 < y.2):=by
  unfold bfB; rw [Bool.or_eq_true,Bool.and_eq_true,decide_eq_true_eq,decide_eq_true_eq,decide_eq_true_eq]
theorem bfB_tot {x y:Int × Int} (h:x ≠ y) (h1:bfB x y=false):bfB y x=true:=by
  rw [bfB_iff]
  have h2:¬ bfB x y=true:=by rw [h1]; simp
  rw [bfB_iff] at h2
  have h3:¬ (x.1=y.1∧x.2=y.2):=fun h4=>h (Prod.ext h4.1 h4.2)
  omega
theorem bfB_tr {x y z:Int × Int} (h1:bfB x y=true) (h2:bfB y z=true):bfB x z=true:=by
  rw [bfB_iff] at *; omega
theorem bfB_as {x y:Int × Int} (h1:bfB x y=true):bfB y x=false:=by
  cases h:bfB y x with
  | false=>rfl
  | true=>rw [bfB_iff] at *; omega
theorem bfB_ne {x y:Int × Int} (h1:bfB x y=true):x ≠ y:=fun e=>by subst e; rw [bfB_iff] at h1; omega
abbrev gW (W:List (Int × Int)) (i:Nat):Int × Int:=W.getD i (0,0)
theorem gW_lt {W:List (Int × Int)} {i:Nat} (h:i < W.length):gW W i=W[i]:=by
  show W.getD i (0,0)=_
  rw [List.getD_eq_getElem?_getD,List.getElem?_eq_getElem h]; rfl
def xch (W:List (Int × Int)) (i j:Nat):List (Int × Int):=(W.set i (gW W j)).set j (gW W i)
theorem xch_perm {W:List (Int × Int)} {i j:Nat} (hi:i < W.length) (hj:j < W.length):(xch W i j).Perm W:=by
  unfold xch
  rw [gW_lt hi,gW_lt hj]
  exact List.set_set_perm hi hj
theorem gW_xch {W:List (Int × Int)} {i j k:Nat} (hi:i < W.length) (hj:j < W.length):gW (xch W i j) k=if k=j then gW W i else if k=i then gW W j else gW W k:=by
  unfold xch
  generalize gW W i=x
  generalize gW W j=y
  show ((W.set i y).set j x).getD k (0,0)=_
  rw [List.getD_eq_getElem?_getD,List.getElem?_set,List.length_set]
  by_cases h1:k=j
  · rw [if_pos h1,if_pos h1.symm,if_pos hj]; rfl
  · rw [if_neg h1,if_neg (Ne.symm h1),List.getElem?_set]
    by_cases h2:k=i
    · rw [if_pos h2,if_pos h2.symm,if_pos hi]; rfl
    · rw [if_neg h2,if_neg (Ne.symm h2)]
      show _=W.getD k (0,0)
      rw [List.getD_eq_getElem?_getD]
structure Pm (a b:Nat) (W W':List (Int × Int)):Prop where
  perm:W'.Perm W
  out:∀ i,i < a ∨ b ≤ i→gW W' i=gW W i
section
variable {a b a' b':Nat} {W W' W2:List (Int × Int)}
theorem Pm.refl:Pm a b W W:=⟨.refl _,fun _ _=>rfl⟩
theorem Pm.symm (p:Pm a b W W'):Pm a b W' W:=⟨p.perm.symm,fun i h=>(p.out i h).symm⟩
theorem Pm.trans (p:Pm a b W W') (q:Pm a b W' W2):Pm a b W W2:=⟨q.perm.trans p.perm,fun i h=>(q.out i h).trans (p.out i h)⟩
theorem Pm.mono (p:Pm a b W W') (h1:a' ≤ a) (h2:b ≤ b'):Pm a' b' W W':=⟨p.perm,fun i h=>p.out i (by omega)⟩
theorem Pm.len (p:Pm a b W W'):W'.length=W.length:=p.perm.length_eq
theorem Pm.nodup (p:Pm a b W W') (hn:W.Nodup):W'.Nodup:=p.perm.nodup_iff.2 hn
theorem Pm.ex {i j:Nat} (hb:b ≤ W.length) (h1:a ≤ i) (h2:i < b) (h3:a ≤ j) (h4:j < b):Pm a b W (xch W i j):=⟨xch_perm (by omega) (by omega),fun k hk=>by rw [gW_xch (by omega) (by omega),if_neg (by omega),if_neg (by omega)]⟩
theorem gW_inj (hn:W.Nodup) {i j:Nat} (hi:i < W.length) (hj:j < W.length) (e:gW W i=gW W j):i=j:=by
  rw [gW_lt hi,gW_lt hj] at e
  exact (List.getElem_inj hn).1 e
theorem Pm.src (p:Pm a b W W') (hn:W.Nodup) (hb:b ≤ W.length) {j:Nat} (h1:a ≤ j) (h2:j < b):∃ k,a ≤ k∧k < b∧gW W' j=gW W k:=by
  have hl:=p.len
  have hm:gW W' j ∈ W:=by rw [gW_lt (by omega)]; exact p.perm.mem_iff.1 (List.getElem_mem _)
  obtain ⟨k,hk,e⟩:=List.getElem_of_mem hm
  rw [← gW_lt hk] at e
  refine ⟨k,?_⟩
  by_cases h:k < a ∨ b ≤ k
  · have:=(p.out k h).trans e
    have:=gW_inj (p.nodup hn) (by omega) (by omega) this
    omega
  · exact ⟨by omega,by omega,e.symm⟩
def Srd (a b:Nat) (W:List (Int × Int)):Prop:=∀ i j,a ≤ i→i < j→j < b→bfB (gW W i) (gW W j)=true
def Win (a b a' b':Nat) (W:List (Int × Int)):Prop:=∀ i j,a ≤ i→i < j→j < b→(a' ≤ i∧j < b') ∨ bfB (gW W i) (gW W j)=true
theorem Win.all:Win a b a b W:=fun _ _ h1 _ h3 => .inl ⟨h1,h3⟩
theorem Win.pm (w:Win a b a' b' W) (p:Pm a' b' W W') (hn:W.Nodup) (ha:a ≤ a') (hb':b' ≤ b) (hb:b ≤ W.length):Win a b a' b' W':=fun i j h1 h2 h3=>by
  by_cases hw:a' ≤ i∧j < b'
  · exact .inl hw
  · refine .inr ?_
    by_cases hi:a' ≤ i∧i < b'
    · obtain ⟨k,k1,k2,k3⟩:=p.src hn (by omega) hi.1 hi.2
      rw [k3,p.out j (by omega)]
      rcases w k j (by omega) (by omega) h3 with h | h
      · omega
      · exact h
    · by_cases hj:a' ≤ j∧j < b'
      · obtain ⟨k,k1,k2,k3⟩:=p.src hn (by omega) hj.1 hj.2
        rw [k3,p.out i (by omega)]
        rcases w i k h1 (by omega) (by omega) with h | h
        · omega
        · exact h
      · rw [p.out i (by omega),p.out j (by omega)]
        rcases w i j h1 h2 h3 with h | h
        · exact absurd h hw
        · exact h
theorem Win.srd (w:Win a b a' b' W) (s:Srd a' b' W):Srd a b W:=fun i j h1 h2 h3=>(w i j h1 h2 h3).elim (fun h=>s i j h.1 h2 h.2) id
structure Cut (a b m:Nat) (W:List (Int × Int)):Prop where
  lo:a ≤ m
  hi:m < b
  less:∀ i,a ≤ i→i < m→bfB (gW W i) (gW W m)=true
  more:∀ i,m < i→i < b→bfB (gW W m) (gW W i)=true
theorem Cut.pmL {m:Nat} (c:Cut a b m W) (p:Pm a m W W') (hn:W.Nodup) (hb:b ≤ W.length):Cut a b m W':=by
  have h1:=c.hi
  have e:=p.out m (by omega)
  refine ⟨c.lo,c.hi,fun i i1 i2=>?_,fun i i1 i2=>?_⟩
  · obtain ⟨k,k1,k2,k3⟩:=p.src hn (by omega) i1 i2
    rw [e,k3]; exact c.less k k1 k2
  · rw [e,p.out i (by omega)]; exact c.more i i1 i2
theorem Cut.pmR {m:Nat} (c:Cut a b m W) (p:Pm (m + 1) b W W') (hn:W.Nodup) (hb:b ≤ W.length):Cut a b m W':=by
  have h1:=c.hi
  have e:=p.out m (by omega)
  refine ⟨c.lo,c.hi,fun i i1 i2=>?_,fun i i1 i2=>?_⟩
  · rw [e,p.out i (by omega)]; exact c.less i i1 i2
  · obtain ⟨k,k1,k2,k3⟩:=p.src hn (by omega) (show m + 1 ≤ i by omega) i2
    rw [e,k3]; exact c.more k (by omega) k2
theorem Win.right {m:Nat} (w:Win a b a' b' W) (c:Cut a' b' m W) (s:Srd a' m W):Win a b (m + 1) b' W:=fun i j h1 h2 h3=>by
  rcases w i j h1 h2 h3 with h | h
  · by_cases hi:m + 1 ≤ i
    · exact .inl ⟨hi,h.2⟩
    · refine .inr ?_
      by_cases e:i=m
      · rw [e]; exact c.more j (by omega) h.2
      · by_cases hj:j < m
        · exact s i j h.1 h2 hj
        · by_cases ej:j=m
          · rw [ej]; exact c.less i h.1 (by omega)
          · exact bfB_tr (c.less i h.1 (by omega)) (c.more j (by omega) h.2)
  · exact .inr h
theorem Win.left {m:Nat} (w:Win a b a' b' W) (c:Cut a' b' m W) (s:Srd (m + 1) b' W):Win a b a' m W:=fun i j h1 h2 h3=>by
  rcases w i j h1 h2 h3 with h | h
  · by_cases hj:j < m
    · exact .inl ⟨h.1,hj⟩
    · refine .inr ?_
      by_cases ej:j=m
      · rw [ej]; exact c.less i h.1 (by omega)
      · by_cases hi:m + 1 ≤ i
        · exact s i j hi h2 h.2
        · by_cases e:i=m
          · rw [e]; exact c.more j (by omega) h.2
          · exact bfB_tr (c.less i h.1 (by omega)) (c.more j (by omega) h.2)
  · exact .inr h
def Mid (a b p:Nat) (W:List (Int × Int)):Prop:=(∃ i,a ≤ i∧i < b∧bfB (gW W i) (gW W p)=true) ∧ ∃ i,a ≤ i∧i < b∧bfB (gW W p) (gW W i)=true
theorem Cut.in {p m:Nat} (c:Cut a b m W') (pm:Pm a b W W') (e:gW W' m=gW W p) (d:Mid a b p W) (hn:W.Nodup) (hb:b ≤ W.length):a + 1 ≤ m∧m + 2 ≤ b:=by
  obtain ⟨⟨i,i1,i2,i3⟩,⟨j,j1,j2,j3⟩⟩:=d
  have hl:=pm.len
  have:=c.lo
  have:=c.hi
  obtain ⟨i',k1,k2,k3⟩:=pm.symm.src (pm.nodup hn) (by omega) i1 i2
  obtain ⟨j',l1,l2,l3⟩:=pm.symm.src (pm.nodup hn) (by omega) j1 j2
  rw [k3,← e] at i3
  rw [l3,← e] at j3
  constructor
  · by_cases h:a + 1 ≤ m
    · exact h
    · by_cases h2:i'=m
      · rw [h2] at i3; exact absurd rfl (bfB_ne i3)
      · rw [bfB_as (c.more i' (by omega) k2)] at i3; cases i3
  · by_cases h:m + 2 ≤ b
    · exact h
    · by_cases h2:j'=m
      · rw [h2] at j3; exact absurd rfl (bfB_ne j3)
      · rw [bfB_as (c.less j' l1 (by omega))] at j3; cases j3
theorem srd_uniq:∀ {A B:List (Int × Int)},A.Perm B→(A.Pairwise fun x y=>bfB x y=true)→(B.Pairwise fun x y=>bfB x y=true)→A=B
  | [],B,p,_,_=>by rw [List.Perm.nil_eq p]
  | x :: A, [],p,_,_=>by have:=p.length_eq; simp at this
  | x :: A,y :: B,p,h1,h2=>by
    rw [List.pairwise_cons] at h1 h2
    have e:x=y:=by
      have m1:x ∈ y :: B:=p.mem_iff.1 (by simp)
      have m2:y ∈ x :: A:=p.mem_iff.2 (by simp)
      rcases List.mem_cons.1 m1 with h | h
      · exact h
      · rcases List.mem_cons.1 m2 with h' | h'
        · exact h'.symm
        · have:=bfB_as (h1.1 y h')
          rw [h2.1 x h] at this; cases this
    subst e
    rw [srd_uniq (List.perm_cons x |>.1 p) h1.2 h2.2]
theorem Srd.pair (s:Srd 0 W.length W):W.Pairwise fun x y=>bfB x y=true:=by
  rw [List.pairwise_iff_getElem]
  intro i j hi hj hij
  rw [← gW_lt hi,← gW_lt hj]
  exact s i j (Nat.zero_le _) hij hj
theorem Srd.of (h:∀ i,a < i→i < b→bfB (gW W (i - 1)) (gW W i)=true):Srd a b W:=by
  intro i j h1 h2 h3
  induction j with
  | zero=>omega
  | succ j ih =>
    have hj:=h (j + 1) (by omega) h3
    rw [Nat.add_sub_cancel] at hj
    by_cases e:i=j
    · rw [e]; exact hj
    · exact bfB_tr (ih (by omega) (by omega)) hj
end
end Go.Ev
namespace Go.Ev
open Go Go.RowKit
noncomputable def f83_r0:List EOper := [oG 3 (.box 2 (tG 0)),oG 4 (.box 2 (tG 1)),oG 5 (.as (cG 0))]
noncomputable def f83_r1:List EOper := [oG 7 (.ld (tG 2)),oG 8 (.ldn 2 (tG 3)),oG 9 (.ldn 2 (tG 4)),oG 10 (.call (tG 7) [(tG 8),(tG 9)]),oG 6 (.as (tG 10))]
noncomputable def f83_r2:List EOper := [oG 5 (.as (.c (.i .i64 (.negSucc 0))))]
noncomputable def f83_r3:List EOper := [oG 12 (.ld (tG 2)),oG 13 (.ldn 2 (tG 4)),oG 14 (.ldn 2 (tG 3)),oG 15 (.call (tG 12) [(tG 13),(tG 14)]),oG 11 (.as (tG 15))]
noncomputable def f83_r4:List EOper := [oG 5 (.as (cG 1))]
noncomputable def f83_r5:List EOper := [oG 5 (.as (cG 0))]
noncomputable def f83_c:EC:=(.seq (.reg f83_r0) (.seq (.block 0 (.seq (.reg f83_r1) (.cond (tG 6) (.seq (.reg f83_r2) .ret) (.seq (.reg f83_r3) (.cond (tG 11) (.seq (.reg f83_r4) .ret) .skip))))) (.seq (.reg f83_r5) .ret)))
noncomputable def f83:EF:=⟨16, [.tmp (.ofNat 5)],f83_c,none⟩
theorem f83_rs:f83.rs = [.tmp (.ofNat 5)]:=of_eq_true (eq_self _)
noncomputable def f100_r0:List EOper := [oG 10 (.mv (tG 1)),oG 11 (.bin .add (tG 10) (cG 1)),oG 8 (.as (tG 11))]
noncomputable def f100_r1:List EOper := [oG 12 (.mv (tG 8)),oG 13 (.mv (tG 2)),oG 14 (.bin .lss (tG 12) (tG 13))]
noncomputable def f100_r2:List EOper := [oG 17 (.mv (tG 8)),oG 9 (.as (tG 17))]
noncomputable def f100_r3:List Stage := [⟨[oG 18 (.mv (tG 9)),oG 19 (.mv (tG 1)),oG 20 (.bin .gtr (tG 18) (tG 19)),oG 21 (.mv (tG 20)),gG 22 21 true (.mv (tG 3)),gG 23 21 true (.mv (tG 0)),gG 24 21 true (.mv (tG 9)),gG 25 21 true (.iads 2 (tG 23) (tG 24)),gG 26 21 true (.ldn 2 (tG 25)),gG 27 21 true (.mv (tG 0)),gG 28 21 true (.mv (tG 9)),gG 29 21 true (.bin .sub (tG 28) (cG 1)),gG 30 21 true (.iads 2 (tG 27) (tG 29)),gG 31 21 true (.ldn 2 (tG 30))], [],(some (gG 32 21 true (.call (tG 22) [(tG 26),(tG 31)]))), []⟩,⟨[gG 33 21 true (.bin .lss (tG 32) (cG 0)),oG 34 (.pick (tG 21) (tG 33) (.c (.b false)))], [],none, []⟩]
noncomputable def f100_r4:List Stage := [⟨[oG 37 (.mv (tG 0)),oG 38 (.mv (tG 9)),oG 39 (.mv (tG 0)),oG 40 (.mv (tG 9)),oG 41 (.bin .sub (tG 40) (cG 1)),oG 42 (.mv (tG 0)),oG 43 (.mv (tG 9)),oG 44 (.bin .sub (tG 43) (cG 1)),oG 45 (.iads 2 (tG 42) (tG 44)),oG 46 (.ldn 2 (tG 45)),oG 47 (.mv (tG 0)),oG 48 (.mv (tG 9)),oG 49 (.iads 2 (tG 47) (tG 48)),oG 50 (.ldn 2 (tG 49)),oG 51 (.iads 2 (tG 37) (tG 38))], [],(some ⟨none,none, .st 2 (tG 51) (tG 46)⟩), []⟩,⟨[oG 52 (.iads 2 (tG 39) (tG 41))], [oG 39 (.mv (tG 0)),oG 40 (.mv (tG 9)),oG 41 (.bin .sub (tG 40) (cG 1))],(some ⟨none,none, .st 2 (tG 52) (tG 50)⟩), []⟩,⟨[], [],none, []⟩]
noncomputable def f100_r5:List EOper := [oG 35 (.mv (tG 9)),oG 36 (.bin .sub (tG 35) (cG 1)),oG 9 (.as (tG 36))]
noncomputable def f100_l0:EC:=(.seq (.seq (.draw f100_r3) (.cond (tG 34) .skip (.exit 2))) (.seq (.block 3 (.draw f100_r4)) (.reg f100_r5)))
noncomputable def f100_r6:List EOper := [oG 15 (.mv (tG 8)),oG 16 (.bin .add (tG 15) (cG 1)),oG 8 (.as (tG 16))]
noncomputable def f100_l1:EC:=(.seq (.seq (.reg f100_r1) (.cond (tG 14) .skip (.exit 0))) (.seq (.block 1 (.seq (.reg f100_r2) (.block 2 (.loop f100_l0)))) (.reg f100_r6)))
noncomputable def f100_c:EC:=(.seq (.reg f100_r0) (.block 0 (.loop f100_l1)))
noncomputable def f100:EF:=⟨53, [],f100_c,none⟩
theorem f100_rs:f100.rs = []:=of_eq_true (eq_self _)
structure Onl (v:V) (h h':H):Prop where
  nx:h.nx.nat ≤ h'.nx.nat
  old:∀ id:K,id.nat < h.nx.nat→NotIn id v→h'.get id=h.get id
  hc:HC h→HC h'
theorem Onl.refl {v:V} {h:H}:Onl v h h:=⟨Nat.le_refl _,fun _ _ _=>rfl,id⟩
theorem Onl.trans {v:V} {h h' h2:H} (o:Onl v h h') (p:Onl v h' h2):Onl v h h2:=⟨Nat.le_trans o.nx p.nx,fun id hi hn=>(p.old id (Nat.lt_of_lt_of_le hi o.nx) hn).trans (o.old id hi hn),fun c=>p.hc (o.hc c)⟩
theorem Onl.of {v:V} {h h':H} (g:Grow h.nx.nat h h'):Onl v h h':=⟨g.nx,fun id hi _=>g.old id hi,g.hc⟩
theorem Onl.put {v:V} {h:H} {id:K} {x:Blk} (hv:∃ off n sz,v = .sl id off n sz) (hl:id.nat < h.nx.nat):Onl v h (h.put id x):=⟨Nat.le_refl _,fun id' _ hn=>by
  obtain ⟨off,n,sz,e⟩:=hv
  exact get_put_other (fun q=>hn off n sz (by rw [q]; exact e)),(Grow.put (b:=0) (Nat.zero_le _) hl x).hc⟩
theorem Onl.grow {v:V} {h h':H} {b:Nat} (o:Onl v h h') (ho:Own b v) (hb:b ≤ h.nx.nat):Grow b h h':=⟨o.nx,fun id hi=>o.old id (by omega) (ho.notIn hi),o.hc⟩
theorem Sk.atp {h:H} {v:V} {L:List (Int × Int)} (hs:Sk 2 qE h v L) {i:Nat} (hi:i < L.length):∃ p,(∀ k h1,iadsV 2 v (.i k (i:Int)) h1 = .ok p h1)∧loadV h p (many? 2) = .ok (pV (gW L i)) h:=by
  obtain ⟨p,h1,h2⟩:=hs.at2 hi
  refine ⟨p,h1,?_⟩
  rw [gW_lt hi]; exact h2
theorem Sk.xch {h:H} {v:V} {Z:List (Int × Int)} (hs:Sk 2 qE h v Z) (hc:HC h) {i j:Nat} (hi:i < Z.length) (hj:j < Z.length):∃ pi pj h1 h2,(∀ k h',iadsV 2 v (.i k (i:Int)) h' = .ok pi h')∧(∀ k h',iadsV 2 v (.i k (j:Int)) h' = .ok pj h')∧loadV h pi (many? 2) = .ok (pV (gW Z i)) h∧loadV h pj (many? 2) = .ok (pV (gW Z j)) h∧storeV h 2 pi (pV (gW Z j)) = .ok undefV h1∧storeV h1 2 pj (pV (gW Z i)) = .ok undefV h2∧Sk 2 qE h2 v (xch Z i j)∧Onl v h h2∧HC h2:=by
  obtain ⟨pi,a1,a2⟩:=hs.atp hi
  obtain ⟨pj,b1,b2⟩:=hs.atp hj
  obtain ⟨p,id,m,cs,z1,z2,z3,z4,z5⟩:=hs.st2 hi (x:=gW Z j) hc
  obtain rfl:pi=p:=by have:=(a1 .i64 h).symm.trans (z1 .i64 h); injection this
  have o1:Onl v h (h.put id (.cells m cs)):=Onl.put z4 z5
  obtain ⟨p,id2,m2,cs2,y1,y2,y3,y4,y5⟩:=z3.st2 (i:=j) (by rw [List.length_set]; exact hj) (x:=gW Z i) (o1.hc hc)
  obtain rfl:pj=p:=by have:=(b1 .i64 h).symm.trans (y1 .i64 h); injection this
  have o2:=o1.trans (Onl.put (x := .cells m2 cs2) y4 y5)
  exact ⟨pi,pj,_,_,a1,b1,a2,b2,z2,y2,y3,o2,o2.hc hc⟩
def cmP (x y:Int × Int):Int:=if bfB x y=true then -1 else if bfB y x=true then 1 else 0
theorem cmP_lt (x y:Int × Int):decide (cmP x y < 0)=bfB x y:=by
  unfold cmP
  cases bfB x y with
  | true=>rfl
  | false=>rw [if_neg (by simp)]; split <;> rfl
noncomputable abbrev cmV (idb:K):V := .fn (K.ofNat 83) [.p idb 0]
structure CallsTs (fs:T EF):Prop where
  n57:∀ a b h P,CallP fs (.fn (K.ofNat 57) []) [pV a,pV b] h P=P (.b (bfB a b)) h
  c83:fs.get (K.ofNat 83)=some f83
section
variable {fs:T EF} {h:H} {v:V} {Z:List (Int × Int)} {idb:K}
theorem f83_ret {x y:Int × Int} (k:CallsTs fs) (e:h.get idb = .cells 1 [.fn (.ofNat 57) []]) (hc:HC h):Ret fs f83 [pV x,pV y, .p idb 0] h fun r h'=>r = .i .i64 (cmP x y)∧Grow h.nx.nat h h':=by
  apply ret_of rfl
  show W fs none f83_c _ _ _
  unfold f83_c
  have n1:=nx_new h (.cells 2 [.i .i64 x.1, .i .i64 x.2])
  have g1:Grow h.nx.nat h (h.new (.cells 2 [.i .i64 x.1, .i .i64 x.2])):=Grow.new (Nat.le_refl _) _
  have g2:Grow h.nx.nat (h.new (.cells 2 [.i .i64 x.1, .i .i64 x.2])) ((h.new (.cells 2 [.i .i64 x.1, .i .i64 x.2])).new (.cells 2 [.i .i64 y.1, .i .i64 y.2])):=Grow.new (by omega) _
  have e1:((h.new (.cells 2 [.i .i64 x.1, .i .i64 x.2])).new (.cells 2 [.i .i64 y.1, .i .i64 y.2])).get h.nx = .cells 2 [.i .i64 x.1, .i .i64 x.2]:=by rw [get_new_old (by omega),get_new_same]
  have e2:((h.new (.cells 2 [.i .i64 x.1, .i .i64 x.2])).new (.cells 2 [.i .i64 y.1, .i .i64 y.2])).get (h.new (.cells 2 [.i .i64 x.1, .i .i64 x.2])).nx = .cells 2 [.i .i64 y.1, .i .i64 y.2]:=get_new_same
  have c1:cellsN 2 (pV x)=some [.i .i64 x.1, .i .i64 x.2]:=rfl
  have c2:cellsN 2 (pV y)=some [.i .i64 y.1, .i .i64 y.2]:=rfl
  have gg:=g1.trans g2
  have l0:=load_p (off:=0) ((gg.old idb (hc.cells e)).trans e) (show nth [V.fn (K.ofNat 57) []] 0=some _ from rfl)
  have l1:loadV _ (.p h.nx 0) (many? 2) = .ok (pV x) _:=ldn2 e1
  have l2:loadV _ (.p (h.new (.cells 2 [.i .i64 x.1, .i .i64 x.2])).nx 0) (many? 2) = .ok (pV y) _:=ldn2 e2
  simp (disch:=omega) only [f83_r0,Nat.reduceEqDiff,↓reduceIte,c1,c2,bz]
  generalize (h.new (.cells 2 [.i .i64 x.1, .i .i64 x.2])).nx=id2 at *
  generalize (h.new (.cells 2 [.i .i64 x.1, .i .i64 x.2])).new (.cells 2 [.i .i64 y.1, .i .i64 y.2])=h2 at *
  unfold cmP
  cases d1:bfB x y with
  | true =>
    simp (disch:=omega) only [f83_r1,f83_r2,f83_rs,Option.some.injEq,exists_eq_left',Nat.reduceEqDiff,↓reduceIte,l0,l1,l2,k.n57,d1,bz]
    exact ⟨rfl,gg⟩
  | false =>
    cases d2:bfB y x with
    | true =>
      simp (disch:=omega) only [f83_r1,f83_r3,f83_r4,f83_rs,Option.some.injEq,exists_eq_left',Nat.reduceEqDiff,↓reduceIte,Bool.false_eq_true,l0,l1,l2,k.n57,d1,d2,Bool.false_eq_true,bz]
      exact gg
    | false =>
      simp (disch:=omega) only [f83_r1,f83_r3,f83_r5,f83_rs,Option.some.injEq,exists_eq_left',Nat.reduceEqDiff,↓reduceIte,Bool.false_eq_true,l0,l1,l2,k.n57,d1,d2,Bool.false_eq_true,bz]
      exact gg
structure SoT (idb:K) (v:V) (h:H):Prop where
  e:h.get idb = .cells 1 [.fn (K.ofNat 57) []]
  ni:NotIn idb v
  hc:HC h
theorem SoT.onl {h':H} (s:SoT idb v h) (o:Onl v h h'):SoT idb v h':=⟨(o.old _ (s.hc.cells s.e) s.ni).trans s.e,s.ni,o.hc s.hc⟩
theorem cm_call {x y:Int × Int} (k:CallsTs fs) (s:SoT idb v h) (hs:Sk 2 qE h v Z) {P:V→H→Prop} (hP:∀ h',Sk 2 qE h' v Z→Onl v h h'→SoT idb v h'→P (.i .i64 (cmP x y)) h'):CallP fs (cmV idb) [pV x,pV y] h P :=
  (callP_of (ef:=f83) (args := [pV x,pV y]) (caps := [.p idb 0]) k.c83 rfl (f83_ret k s.e s.hc)).mono fun r h' hr=>by
    obtain ⟨rfl,g⟩:=hr
    exact hP h' (hs.grow s.hc g) (Onl.of g) (s.onl (Onl.of g))
def f100_I (h:H) (v c:V) (idb:K) (Z:List (Int × Int)) (a b:Nat) (i:Nat) (fr:Fr) (h1:H):Prop:=a < i∧i ≤ b∧Onl v h h1∧SoT idb v h1∧(∃ W1,Sk 2 qE h1 v W1∧Pm a b Z W1∧Srd a i W1)∧fr.get (K.ofNat 0)=some (v)∧fr.get (K.ofNat 1)=some (.i .i64 (a:Int))∧fr.get (K.ofNat 2)=some (.i .i64 (b:Int))∧fr.get (K.ofNat 3)=some (c)∧fr.get (K.ofNat 8)=some (.i .i64 (i:Int))
def f100_J (h:H) (v c:V) (idb:K) (Z:List (Int × Int)) (a b i:Nat) (j:Nat) (fr:Fr) (h1:H):Prop:=a ≤ j∧j ≤ i∧Onl v h h1∧SoT idb v h1∧(∃ W1,Sk 2 qE h1 v W1∧Pm a b Z W1∧(∀ s t,a ≤ s→s < t→t ≤ i→t ≠ j→bfB (gW W1 s) (gW W1 t)=true))∧fr.get (K.ofNat 0)=some (v)∧fr.get (K.ofNat 1)=some (.i .i64 (a:Int))∧fr.get (K.ofNat 2)=some (.i .i64 (b:Int))∧fr.get (K.ofNat 3)=some (c)∧fr.get (K.ofNat 8)=some (.i .i64 (i:Int))∧fr.get (K.ofNat 9)=some (.i .i64 (j:Int))
theorem f100_ret {a b:Nat} (k:CallsTs fs) (s:SoT idb v h) (hv:Sk 2 qE h v Z) (hn:Z.Nodup) (hab:a < b) (hb:b ≤ Z.length) (hW:Z.length ≤ 1000):Ret fs f100 [v, .i .i64 (a:Int), .i .i64 (b:Int),cmV idb] h fun r h'=>r = .tup [] ∧ ∃ W1,Sk 2 qE h' v W1∧Pm a b Z W1∧Srd a b W1∧Onl v h h'∧SoT idb v h':=by
  apply ret_of rfl
  show W fs none f100_c _ _ _
  unfold f100_c
  have ea:(a:Int) + 1=((a + 1:Nat):Int):=by omega
  simp (disch:=omega) only [f100_r0,Nat.reduceEqDiff,↓reduceIte,ea,bz]
  refine W_loop (f100_I h v (cmV idb) idb Z a b) (fun i=>b - i) ?_ (a + 1) ⟨by omega,hab,Onl.refl,s,⟨Z,hv,Pm.refl,fun i j h1 h2 h3=>by omega⟩,by simp (disch:=omega) only [getK_set,Nat.reduceEqDiff,↓reduceIte,and_self]⟩
  rintro i fr h2 ⟨hi0,hi,hO,s2,⟨W1,hs,pm,sr⟩,g0,g1,g2,g3,g8⟩
  unfold f100_l1
  by_cases hlt:i < b
  · have d0:decide ((i:Int) < (b:Int))=true:=decide_eq_true (by omega)
    simp (disch:=omega) only [f100_r1,f100_r2,Nat.reduceEqDiff,↓reduceIte,g2,g8,d0,bz]
    refine W_loop (f100_J h v (cmV idb) idb Z a b i) (fun j=>j) ?_ i ⟨by omega,Nat.le_refl _,hO,s2,⟨W1,hs,pm,fun s t h1 h2 h3 h4=>sr s t h1 h2 (by omega)⟩,by simp (disch:=omega) only [getK_set,Nat.reduceEqDiff,↓reduceIte,g0,g1,g2,g3,g8,and_self]⟩
    clear hs hO s2 g0 g1 g2 g3 g8 fr pm sr W1 h2
    rintro j fr h3 ⟨hj0,hj,hO,s3,⟨W1,hs,pm,ord⟩,g0,g1,g2,g3,g8,g9⟩
    have hl1:=pm.len
    unfold f100_l0
    by_cases hja:a < j
    · have d1:decide ((j:Int) > (a:Int))=true:=decide_eq_true (by omega)
      have ej:(j:Int) - 1=((j - 1:Nat):Int):=by omega
      obtain ⟨p1,a1,a2⟩:=hs.atp (i:=j) (by omega)
      obtain ⟨p0,b1,b2⟩:=hs.atp (i:=j - 1) (by omega)
      simp (disch:=omega) only [f100_r3,Nat.reduceEqDiff,↓reduceIte,g0,g1,g3,g9,d1,ej,a1,a2,b1,b2,bz]
      refine cm_call k s3 hs ?_
      intro h4 hs4 o4 s4
      have hO4:=hO.trans o4
      cases d2:bfB (gW W1 j) (gW W1 (j - 1)) with
      | false =>
        simp (disch:=omega) only [f100_r6,Nat.reduceEqDiff,↓reduceIte,Bool.false_eq_true,g8,cmP_lt,d2,bz]
        exact ⟨i + 1,by omega,by omega,by omega,hO4,s4,⟨W1,hs4,pm,Srd.of (fun t t1 t2=>by
          by_cases et:t=j
          · rw [et]
            refine bfB_tot (fun e=>?_) d2
            have:=gW_inj (pm.nodup hn) (by omega) (by omega) e
            omega
          · exact ord (t - 1) t (by omega) (by omega) (by omega) et)⟩,by simp (disch:=omega) only [getK_set,Nat.reduceEqDiff,↓reduceIte,g0,g1,g2,g3,and_self,Int.natCast_add,Int.natCast_one]⟩
      | true =>
        obtain ⟨pi,pj,h5,h6,x1,x2,x3,x4,x5,x6,x7,x8,x9⟩:=hs4.xch s4.hc (i:=j) (j:=j - 1) (by omega) (by omega)
        have hvb:=hs4.beq
        simp (disch:=omega) only [f100_r4,f100_r5,stay_bin,Nat.reduceEqDiff,↓reduceIte,g0,g9,cmP_lt,d2,ej,x1,x2,x3,x4,x5,x6,hvb,bz]
        refine ⟨j - 1,by omega,by omega,by omega,hO4.trans x8,s4.onl x8,⟨_,x7,pm.trans (Pm.ex (by omega) (by omega) (by omega) (by omega) (by omega)),fun s t t1 t2 t3 t4=>?_⟩,by simp (disch:=omega) only [getK_set,Nat.reduceEqDiff,↓reduceIte,g0,g1,g2,g3,g8,and_self]⟩
        rw [gW_xch (by omega) (by omega),gW_xch (by omega) (by omega)]
        by_cases c1:t=j
        · rw [if_neg t4,if_pos c1]
          by_cases c2:s=j - 1
          · rw [if_pos c2]; exact d2
          · rw [if_neg c2,if_neg (by omega)]; exact ord s (j - 1) t1 (by omega) (by omega) (by omega)
        · rw [if_neg t4,if_neg c1]
          by_cases c2:s=j - 1
          · rw [if_pos c2]; exact ord j t (by omega) (by omega) t3 c1
          · rw [if_neg c2]
            by_cases c3:s=j
            · rw [if_pos c3]; exact ord (j - 1) t (by omega) (by omega) t3 c1
            · rw [if_neg c3]; exact ord s t t1 t2 t3 c1
    · have d1:decide ((j:Int) > (a:Int))=false:=decide_eq_false (by omega)
      simp (disch:=omega) only [f100_r3,f100_r6,Nat.reduceEqDiff,↓reduceIte,Bool.false_eq_true,g1,g8,g9,d1,bz]
      exact ⟨i + 1,by omega,by omega,by omega,hO,s3,⟨W1,hs,pm,fun s t t1 t2 t3=>ord s t t1 t2 (by omega) (by omega)⟩,by simp (disch:=omega) only [getK_set,Nat.reduceEqDiff,↓reduceIte,g0,g1,g2,g3,and_self,Int.natCast_add,Int.natCast_one]⟩
  · have d0:decide ((i:Int) < (b:Int))=false:=decide_eq_false (by omega)
    have ei:i=b:=by omega
    rw [ei] at sr
    simp (disch:=omega) only [f100_r1,f100_rs,Option.some.injEq,exists_eq_left',Nat.reduceEqDiff,↓reduceIte,Bool.false_eq_true,g2,g8,d0,bz]
    exact ⟨W1,hs,pm,sr,hO,s2⟩
end
end Go.Ev
namespace Go.Ev
open Go Go.RowKit
noncomputable def f104_r0:List EOper := [oG 10 (.mv (tG 1)),oG 8 (.as (tG 10))]
noncomputable def f104_r1:List EOper := [oG 11 (.mv (tG 2)),oG 12 (.bin .sub (tG 11) (cG 1)),oG 9 (.as (tG 12))]
noncomputable def f104_r2:List EOper := [oG 13 (.mv (tG 8)),oG 14 (.mv (tG 9)),oG 15 (.bin .lss (tG 13) (tG 14))]
noncomputable def f104_r3:List Stage := [⟨[oG 16 (.mv (tG 0)),oG 17 (.mv (tG 8)),oG 18 (.mv (tG 0)),oG 19 (.mv (tG 9)),oG 20 (.mv (tG 0)),oG 21 (.mv (tG 9)),oG 22 (.iads 2 (tG 20) (tG 21)),oG 23 (.ldn 2 (tG 22)),oG 24 (.mv (tG 0)),oG 25 (.mv (tG 8)),oG 26 (.iads 2 (tG 24) (tG 25)),oG 27 (.ldn 2 (tG 26)),oG 28 (.iads 2 (tG 16) (tG 17))], [],(some ⟨none,none, .st 2 (tG 28) (tG 23)⟩), []⟩,⟨[oG 29 (.iads 2 (tG 18) (tG 19))], [oG 18 (.mv (tG 0)),oG 19 (.mv (tG 9))],(some ⟨none,none, .st 2 (tG 29) (tG 27)⟩), []⟩,⟨[], [],none, []⟩]
noncomputable def f104_r4:List EOper := [oG 30 (.mv (tG 8)),oG 31 (.bin .add (tG 30) (cG 1)),oG 8 (.as (tG 31))]
noncomputable def f104_r5:List EOper := [oG 32 (.mv (tG 9)),oG 33 (.bin .sub (tG 32) (cG 1)),oG 9 (.as (tG 33))]
noncomputable def f104_l0:EC:=(.seq (.seq (.reg f104_r2) (.cond (tG 15) .skip (.exit 0))) (.block 1 (.seq (.draw f104_r3) (.seq (.reg f104_r4) (.reg f104_r5)))))
noncomputable def f104_c:EC:=(.seq (.reg f104_r0) (.seq (.reg f104_r1) (.block 0 (.loop f104_l0))))
noncomputable def f104:EF:=⟨34, [],f104_c,none⟩
theorem f104_rs:f104.rs = []:=of_eq_true (eq_self _)
noncomputable def f105_r0:List EOper := [oG 8 (.as (.c (.b false)))]
noncomputable def f105_r1:List EOper := [oG 13 (.mv (tG 1)),oG 14 (.bin .add (tG 13) (cG 1)),oG 9 (.as (tG 14))]
noncomputable def f105_r2:List EOper := [oG 10 (.as (cG 0))]
noncomputable def f105_r3:List EOper := [oG 15 (.mv (tG 10)),oG 16 (.bin .lss (tG 15) (cG 5))]
noncomputable def f105_r4:List Stage := [⟨[oG 19 (.mv (tG 9)),oG 20 (.mv (tG 2)),oG 21 (.bin .lss (tG 19) (tG 20)),oG 22 (.mv (tG 21)),gG 23 22 true (.mv (tG 3)),gG 24 22 true (.mv (tG 0)),gG 25 22 true (.mv (tG 9)),gG 26 22 true (.iads 2 (tG 24) (tG 25)),gG 27 22 true (.ldn 2 (tG 26)),gG 28 22 true (.mv (tG 0)),gG 29 22 true (.mv (tG 9)),gG 30 22 true (.bin .sub (tG 29) (cG 1)),gG 31 22 true (.iads 2 (tG 28) (tG 30)),gG 32 22 true (.ldn 2 (tG 31))], [],(some (gG 33 22 true (.call (tG 23) [(tG 27),(tG 32)]))), []⟩,⟨[gG 34 22 true (.bin .lss (tG 33) (cG 0)),gG 35 22 true (.not (tG 34)),oG 36 (.pick (tG 22) (tG 35) (.c (.b false)))], [],none, []⟩]
noncomputable def f105_r5:List EOper := [oG 37 (.mv (tG 9)),oG 38 (.bin .add (tG 37) (cG 1)),oG 9 (.as (tG 38))]
noncomputable def f105_l0:EC:=(.seq (.seq (.draw f105_r4) (.cond (tG 36) .skip (.exit 2))) (.block 3 (.reg f105_r5)))
noncomputable def f105_r6:List EOper := [oG 39 (.mv (tG 9)),oG 40 (.mv (tG 2)),oG 41 (.bin .eql (tG 39) (tG 40))]
noncomputable def f105_r7:List EOper := [oG 8 (.as (.c (.b true)))]
noncomputable def f105_r8:List EOper := [oG 42 (.mv (tG 2)),oG 43 (.mv (tG 1)),oG 44 (.bin .sub (tG 42) (tG 43)),oG 45 (.bin .lss (tG 44) (cG 50))]
noncomputable def f105_r9:List EOper := [oG 8 (.as (.c (.b false)))]
noncomputable def f105_r10:List Stage := [⟨[oG 46 (.mv (tG 0)),oG 47 (.mv (tG 9)),oG 48 (.mv (tG 0)),oG 49 (.mv (tG 9)),oG 50 (.bin .sub (tG 49) (cG 1)),oG 51 (.mv (tG 0)),oG 52 (.mv (tG 9)),oG 53 (.bin .sub (tG 52) (cG 1)),oG 54 (.iads 2 (tG 51) (tG 53)),oG 55 (.ldn 2 (tG 54)),oG 56 (.mv (tG 0)),oG 57 (.mv (tG 9)),oG 58 (.iads 2 (tG 56) (tG 57)),oG 59 (.ldn 2 (tG 58)),oG 60 (.iads 2 (tG 46) (tG 47))], [],(some ⟨none,none, .st 2 (tG 60) (tG 55)⟩), []⟩,⟨[oG 61 (.iads 2 (tG 48) (tG 50))], [oG 48 (.mv (tG 0)),oG 49 (.mv (tG 9)),oG 50 (.bin .sub (tG 49) (cG 1))],(some ⟨none,none, .st 2 (tG 61) (tG 59)⟩), []⟩,⟨[], [],none, []⟩]
noncomputable def f105_r11:List EOper := [oG 62 (.mv (tG 9)),oG 63 (.mv (tG 1)),oG 64 (.bin .sub (tG 62) (tG 63)),oG 65 (.bin .geq (tG 64) (cG 2))]
noncomputable def f105_r12:List EOper := [oG 66 (.mv (tG 9)),oG 67 (.bin .sub (tG 66) (cG 1)),oG 11 (.as (tG 67))]
noncomputable def f105_r13:List EOper := [oG 68 (.mv (tG 11)),oG 69 (.bin .geq (tG 68) (cG 1))]
noncomputable def f105_r14:List Stage := [⟨[oG 72 (.mv (tG 3)),oG 73 (.mv (tG 0)),oG 74 (.mv (tG 11)),oG 75 (.iads 2 (tG 73) (tG 74)),oG 76 (.ldn 2 (tG 75)),oG 77 (.mv (tG 0)),oG 78 (.mv (tG 11)),oG 79 (.bin .sub (tG 78) (cG 1)),oG 80 (.iads 2 (tG 77) (tG 79)),oG 81 (.ldn 2 (tG 80))], [],(some (oG 82 (.call (tG 72) [(tG 76),(tG 81)]))), []⟩,⟨[oG 83 (.bin .lss (tG 82) (cG 0)),oG 84 (.not (tG 83))], [],none, []⟩]
noncomputable def f105_r15:List Stage := [⟨[oG 85 (.mv (tG 0)),oG 86 (.mv (tG 11)),oG 87 (.mv (tG 0)),oG 88 (.mv (tG 11)),oG 89 (.bin .sub (tG 88) (cG 1)),oG 90 (.mv (tG 0)),oG 91 (.mv (tG 11)),oG 92 (.bin .sub (tG 91) (cG 1)),oG 93 (.iads 2 (tG 90) (tG 92)),oG 94 (.ldn 2 (tG 93)),oG 95 (.mv (tG 0)),oG 96 (.mv (tG 11)),oG 97 (.iads 2 (tG 95) (tG 96)),oG 98 (.ldn 2 (tG 97)),oG 99 (.iads 2 (tG 85) (tG 86))], [],(some ⟨none,none, .st 2 (tG 99) (tG 94)⟩), []⟩,⟨[oG 100 (.iads 2 (tG 87) (tG 89))], [oG 87 (.mv (tG 0)),oG 88 (.mv (tG 11)),oG 89 (.bin .sub (tG 88) (cG 1))],(some ⟨none,none, .st 2 (tG 100) (tG 98)⟩), []⟩,⟨[], [],none, []⟩]
noncomputable def f105_r16:List EOper := [oG 70 (.mv (tG 11)),oG 71 (.bin .sub (tG 70) (cG 1)),oG 11 (.as (tG 71))]
noncomputable def f105_l1:EC:=(.seq (.seq (.reg f105_r13) (.cond (tG 69) .skip (.exit 4))) (.seq (.block 5 (.seq (.seq (.draw f105_r14) (.cond (tG 84) (.exit 4) .skip)) (.draw f105_r15))) (.reg f105_r16)))
noncomputable def f105_r17:List EOper := [oG 101 (.mv (tG 2)),oG 102 (.mv (tG 9)),oG 103 (.bin .sub (tG 101) (tG 102)),oG 104 (.bin .geq (tG 103) (cG 2))]
noncomputable def f105_r18:List EOper := [oG 105 (.mv (tG 9)),oG 106 (.bin .add (tG 105) (cG 1)),oG 12 (.as (tG 106))]
noncomputable def f105_r19:List EOper := [oG 107 (.mv (tG 12)),oG 108 (.mv (tG 2)),oG 109 (.bin .lss (tG 107) (tG 108))]
noncomputable def f105_r20:List Stage := [⟨[oG 112 (.mv (tG 3)),oG 113 (.mv (tG 0)),oG 114 (.mv (tG 12)),oG 115 (.iads 2 (tG 113) (tG 114)),oG 116 (.ldn 2 (tG 115)),oG 117 (.mv (tG 0)),oG 118 (.mv (tG 12)),oG 119 (.bin .sub (tG 118) (cG 1)),oG 120 (.iads 2 (tG 117) (tG 119)),oG 121 (.ldn 2 (tG 120))], [],(some (oG 122 (.call (tG 112) [(tG 116),(tG 121)]))), []⟩,⟨[oG 123 (.bin .lss (tG 122) (cG 0)),oG 124 (.not (tG 123))], [],none, []⟩]
noncomputable def f105_r21:List Stage := [⟨[oG 125 (.mv (tG 0)),oG 126 (.mv (tG 12)),oG 127 (.mv (tG 0)),oG 128 (.mv (tG 12)),oG 129 (.bin .sub (tG 128) (cG 1)),oG 130 (.mv (tG 0)),oG 131 (.mv (tG 12)),oG 132 (.bin .sub (tG 131) (cG 1)),oG 133 (.iads 2 (tG 130) (tG 132)),oG 134 (.ldn 2 (tG 133)),oG 135 (.mv (tG 0)),oG 136 (.mv (tG 12)),oG 137 (.iads 2 (tG 135) (tG 136)),oG 138 (.ldn 2 (tG 137)),oG 139 (.iads 2 (tG 125) (tG 126))], [],(some ⟨none,none, .st 2 (tG 139) (tG 134)⟩), []⟩,⟨[oG 140 (.iads 2 (tG 127) (tG 129))], [oG 127 (.mv (tG 0)),oG 128 (.mv (tG 12)),oG 129 (.bin .sub (tG 128) (cG 1))],(some ⟨none,none, .st 2 (tG 140) (tG 138)⟩), []⟩,⟨[], [],none, []⟩]
noncomputable def f105_r22:List EOper := [oG 110 (.mv (tG 12)),oG 111 (.bin .add (tG 110) (cG 1)),oG 12 (.as (tG 111))]
noncomputable def f105_l2:EC:=(.seq (.seq (.reg f105_r19) (.cond (tG 109) .skip (.exit 6))) (.seq (.block 7 (.seq (.seq (.draw f105_r20) (.cond (tG 124) (.exit 6) .skip)) (.draw f105_r21))) (.reg f105_r22)))
noncomputable def f105_r23:List EOper := [oG 17 (.mv (tG 10)),oG 18 (.bin .add (tG 17) (cG 1)),oG 10 (.as (tG 18))]
noncomputable def f105_l3:EC:=(.seq (.seq (.reg f105_r3) (.cond (tG 16) .skip (.exit 0))) (.seq (.block 1 (.seq (.block 2 (.loop f105_l0)) (.seq (.seq (.reg f105_r6) (.cond (tG 41) (.seq (.reg f105_r7) .ret) .skip)) (.seq (.seq (.reg f105_r8) (.cond (tG 45) (.seq (.reg f105_r9) .ret) .skip)) (.seq (.draw f105_r10) (.seq (.seq (.reg f105_r11) (.cond (tG 65) (.seq (.reg f105_r12) (.block 4 (.loop f105_l1))) .skip)) (.seq (.reg f105_r17) (.cond (tG 104) (.seq (.reg f105_r18) (.block 6 (.loop f105_l2))) .skip)))))))) (.reg f105_r23)))
noncomputable def f105_r24:List EOper := [oG 8 (.as (.c (.b false)))]
noncomputable def f105_c:EC:=(.seq (.reg f105_r0) (.seq (.reg f105_r1) (.seq (.seq (.reg f105_r2) (.block 0 (.loop f105_l3))) (.seq (.reg f105_r24) .ret))))
noncomputable def f105:EF:=⟨141, [.tmp (.ofNat 8)],f105_c,none⟩
theorem f105_rs:f105.rs = [.tmp (.ofNat 8)]:=of_eq_true (eq_self _)
noncomputable def f125_r0:List EOper := [oG 10 (.as (cG 0)),oG 11 (.as (cG 0))]
noncomputable def f125_r1:List Stage := [⟨[oG 12 (.mv (tG 4)),oG 13 (.mv (tG 0)),oG 14 (.mv (tG 2)),oG 15 (.iads 2 (tG 13) (tG 14)),oG 16 (.ldn 2 (tG 15)),oG 17 (.mv (tG 0)),oG 18 (.mv (tG 1)),oG 19 (.iads 2 (tG 17) (tG 18)),oG 20 (.ldn 2 (tG 19))], [],(some (oG 21 (.call (tG 12) [(tG 16),(tG 20)]))), []⟩,⟨[oG 22 (.bin .lss (tG 21) (cG 0))], [],none, []⟩]
noncomputable def f125_r2:List EOper := [oG 23 (.mv (tG 3)),oG 24 (.nilck (tG 23)),oG 25 (.ld (tG 24)),oG 26 (.bin .add (tG 25) (cG 1)),oG 27 (.nilck (tG 23)),⟨none,none, .st 1 (tG 27) (tG 26)⟩]
noncomputable def f125_r3:List EOper := [oG 28 (.mv (tG 2)),oG 29 (.mv (tG 1)),oG 10 (.as (tG 28)),oG 11 (.as (tG 29))]
noncomputable def f125_r4:List EOper := [oG 30 (.mv (tG 1)),oG 31 (.mv (tG 2)),oG 10 (.as (tG 30)),oG 11 (.as (tG 31))]
noncomputable def f125_c:EC:=(.seq (.reg f125_r0) (.seq (.seq (.draw f125_r1) (.cond (tG 22) (.seq (.reg f125_r2) (.seq (.reg f125_r3) .ret)) .skip)) (.seq (.reg f125_r4) .ret)))
noncomputable def f125:EF:=⟨32, [.tmp (.ofNat 10), .tmp (.ofNat 11)],f125_c,none⟩
theorem f125_rs:f125.rs = [.tmp (.ofNat 10), .tmp (.ofNat 11)]:=of_eq_true (eq_self _)
noncomputable def f116_r0:List EOper := [oG 12 (.as (cG 0))]
noncomputable def f116_r1:List EOper := [oG 14 (.mv (tG 0)),oG 15 (.mv (tG 1)),oG 16 (.mv (tG 2)),oG 17 (.mv (tG 4)),oG 18 (.mv (tG 5)),oG 19 (.call (fG 125) [(tG 14),(tG 15),(tG 16),(tG 17),(tG 18)]),oG 13 (.mv (tG 19)),oG 20 (.ext (tG 13) 0),oG 21 (.ext (tG 13) 1),oG 1 (.as (tG 20)),oG 2 (.as (tG 21))]
noncomputable def f116_r2:List EOper := [oG 23 (.mv (tG 0)),oG 24 (.mv (tG 2)),oG 25 (.mv (tG 3)),oG 26 (.mv (tG 4)),oG 27 (.mv (tG 5)),oG 28 (.call (fG 125) [(tG 23),(tG 24),(tG 25),(tG 26),(tG 27)]),oG 22 (.mv (tG 28)),oG 29 (.ext (tG 22) 0),oG 30 (.ext (tG 22) 1),oG 2 (.as (tG 29)),oG 3 (.as (tG 30))]
noncomputable def f116_r3:List EOper := [oG 32 (.mv (tG 0)),oG 33 (.mv (tG 1)),oG 34 (.mv (tG 2)),oG 35 (.mv (tG 4)),oG 36 (.mv (tG 5)),oG 37 (.call (fG 125) [(tG 32),(tG 33),(tG 34),(tG 35),(tG 36)]),oG 31 (.mv (tG 37)),oG 38 (.ext (tG 31) 0),oG 39 (.ext (tG 31) 1),oG 1 (.as (tG 38)),oG 2 (.as (tG 39))]
noncomputable def f116_r4:List EOper := [oG 40 (.mv (tG 2)),oG 12 (.as (tG 40))]
noncomputable def f116_c:EC:=(.seq (.reg f116_r0) (.seq (.reg f116_r1) (.seq (.reg f116_r2) (.seq (.reg f116_r3) (.seq (.reg f116_r4) .ret)))))
noncomputable def f116:EF:=⟨41, [.tmp (.ofNat 12)],f116_c,none⟩
theorem f116_rs:f116.rs = [.tmp (.ofNat 12)]:=of_eq_true (eq_self _)
noncomputable def f103_r0:List EOper := [oG 8 (.as (cG 0)),oG 9 (.as (cG 0))]
noncomputable def f103_r1:List EOper := [oG 15 (.mv (tG 2)),oG 16 (.mv (tG 1)),oG 17 (.bin .sub (tG 15) (tG 16)),oG 10 (.as (tG 17))]
noncomputable def f103_r2:List EOper := [oG 11 (.alloc 1 [(.i .i64 (.ofNat 0))])]
noncomputable def f103_r3:List EOper := [oG 18 (.mv (tG 1)),oG 19 (.mv (tG 10)),oG 20 (.bin .quo (tG 19) (cG 4)),oG 21 (.bin .mul (tG 20) (cG 1)),oG 22 (.bin .add (tG 18) (tG 21)),oG 12 (.as (tG 22))]
noncomputable def f103_r4:List EOper := [oG 23 (.mv (tG 1)),oG 24 (.mv (tG 10)),oG 25 (.bin .quo (tG 24) (cG 4)),oG 26 (.bin .mul (tG 25) (cG 2)),oG 27 (.bin .add (tG 23) (tG 26)),oG 13 (.as (tG 27))]
noncomputable def f103_r5:List EOper := [oG 28 (.mv (tG 1)),oG 29 (.mv (tG 10)),oG 30 (.bin .quo (tG 29) (cG 4)),oG 31 (.bin .mul (tG 30) (cG 3)),oG 32 (.bin .add (tG 28) (tG 31)),oG 14 (.as (tG 32))]
noncomputable def f103_r6:List EOper := [oG 33 (.mv (tG 10)),oG 34 (.bin .geq (tG 33) (cG 8))]
noncomputable def f103_r7:List EOper := [oG 35 (.mv (tG 10)),oG 36 (.bin .geq (tG 35) (cG 50))]
noncomputable def f103_r8:List EOper := [oG 37 (.mv (tG 0)),oG 38 (.mv (tG 12)),oG 39 (.mv (tG 3)),oG 40 (.call (fG 115) [(tG 37),(tG 38),(tG 11),(tG 39)]),oG 12 (.as (tG 40))]
noncomputable def f103_r9:List EOper := [oG 41 (.mv (tG 0)),oG 42 (.mv (tG 13)),oG 43 (.mv (tG 3)),oG 44 (.call (fG 115) [(tG 41),(tG 42),(tG 11),(tG 43)]),oG 13 (.as (tG 44))]
noncomputable def f103_r10:List EOper := [oG 45 (.mv (tG 0)),oG 46 (.mv (tG 14)),oG 47 (.mv (tG 3)),oG 48 (.call (fG 115) [(tG 45),(tG 46),(tG 11),(tG 47)]),oG 14 (.as (tG 48))]
noncomputable def f103_r11:List EOper := [oG 49 (.mv (tG 0)),oG 50 (.mv (tG 12)),oG 51 (.mv (tG 13)),oG 52 (.mv (tG 14)),oG 53 (.mv (tG 3)),oG 54 (.call (fG 116) [(tG 49),(tG 50),(tG 51),(tG 52),(tG 11),(tG 53)]),oG 13 (.as (tG 54))]
noncomputable def f103_r12:List EOper := [oG 55 (.ld (tG 11))]
noncomputable def f103_r13:List EOper := [oG 58 (.bin .eql (tG 55) (cG 0)),oG 57 (.as (tG 58))]
noncomputable def f103_r14:List EOper := [oG 59 (.mv (tG 13)),oG 8 (.as (tG 59)),oG 9 (.as (cG 1))]
noncomputable def f103_r15:List EOper := [oG 61 (.bin .eql (tG 55) (cG 12)),oG 60 (.as (tG 61))]
noncomputable def f103_r16:List EOper := [oG 62 (.mv (tG 13)),oG 8 (.as (tG 62)),oG 9 (.as (cG 2))]
noncomputable def f103_r17:List EOper := [oG 56 (.mv (tG 13)),oG 8 (.as (tG 56)),oG 9 (.as (cG 0))]
noncomputable def f103_c:EC:=(.seq (.reg f103_r0) (.seq (.reg f103_r1) (.seq (.reg f103_r2) (.seq (.reg f103_r3) (.seq (.reg f103_r4) (.seq (.reg f103_r5) (.seq (.seq (.reg f103_r6) (.cond (tG 34) (.seq (.seq (.reg f103_r7) (.cond (tG 36) (.seq (.reg f103_r8) (.seq (.reg f103_r9) (.reg f103_r10))) .skip)) (.reg f103_r11)) .skip)) (.seq (.reg f103_r12) (.block 0 (.seq (.reg f103_r13) (.cond (tG 57) (.seq (.reg f103_r14) .ret) (.seq (.reg f103_r15) (.cond (tG 60) (.seq (.reg f103_r16) .ret) (.seq (.reg f103_r17) .ret))))))))))))))
noncomputable def f103:EF:=⟨63, [.tmp (.ofNat 8), .tmp (.ofNat 9)],f103_c,none⟩
theorem f103_rs:f103.rs = [.tmp (.ofNat 8), .tmp (.ofNat 9)]:=of_eq_true (eq_self _)
structure CallsTv (fs:T EF):Prop extends CallsTs fs where
  c125:fs.get (K.ofNat 125)=some f125
  c116:fs.get (K.ofNat 116)=some f116
section
variable {fs:T EF} {h:H} {v:V} {Z:List (Int × Int)} {idb:K}
def f104_I (h:H) (v c:V) (idb:K) (Z:List (Int × Int)) (a b:Nat) (i:Nat) (fr:Fr) (h1:H):Prop:=∃ j:Nat,i + j + 1=a + b∧a ≤ i∧i ≤ j + 2∧i ≤ b∧Onl v h h1∧SoT idb v h1∧(∃ W1,Sk 2 qE h1 v W1∧Pm a b Z W1∧(∀ t,a ≤ t→t < b→gW W1 t=if i ≤ t∧t ≤ j then gW Z t else gW Z (a + b - 1 - t)))∧fr.get (K.ofNat 0)=some (v)∧fr.get (K.ofNat 1)=some (.i .i64 (a:Int))∧fr.get (K.ofNat 2)=some (.i .i64 (b:Int))∧fr.get (K.ofNat 3)=some (c)∧fr.get (K.ofNat 8)=some (.i .i64 (i:Int))∧fr.get (K.ofNat 9)=some (.i .i64 (j:Int))
theorem f104_ret {a b:Nat} (s:SoT idb v h) (hv:Sk 2 qE h v Z) (hab:a < b) (hb:b ≤ Z.length) (hW:Z.length ≤ 1000):Ret fs f104 [v, .i .i64 (a:Int), .i .i64 (b:Int),cmV idb] h fun r h'=>r = .tup [] ∧ ∃ W1,Sk 2 qE h' v W1∧Pm a b Z W1∧(∀ t,a ≤ t→t < b→gW W1 t=gW Z (a + b - 1 - t))∧Onl v h h'∧SoT idb v h':=by
  apply ret_of rfl
  show W fs none f104_c _ _ _
  unfold f104_c
  have eb:(b:Int) - 1=((b - 1:Nat):Int):=by omega
  simp (disch:=omega) only [f104_r0,f104_r1,Nat.reduceEqDiff,↓reduceIte,eb,bz]
  refine W_loop (f104_I h v (cmV idb) idb Z a b) (fun i=>b - i) ?_ a ⟨b - 1,by omega,by omega,by omega,by omega,Onl.refl,s,⟨Z,hv,Pm.refl,fun t h1 h2=>by rw [if_pos (by omega)]⟩,by simp (disch:=omega) only [getK_set,Nat.reduceEqDiff,↓reduceIte,and_self]⟩
  rintro i fr h2 ⟨j,hij,hai,hi2,hib,hO,s2,⟨W1,hs,pm,hg⟩,g0,g1,g2,g3,g8,g9⟩
  have hl:=pm.len
  unfold f104_l0
  by_cases hlt:i < j
  · have d0:decide ((i:Int) < (j:Int))=true:=decide_eq_true (by omega)
    have ej:(j:Int) - 1=((j - 1:Nat):Int):=by omega
    obtain ⟨pi,pj,h5,h6,x1,x2,x3,x4,x5,x6,x7,x8,x9⟩:=hs.xch s2.hc (i:=i) (j:=j) (by omega) (by omega)
    have hvb:=hs.beq
    simp (disch:=omega) only [f104_r2,f104_r3,f104_r4,f104_r5,Nat.reduceEqDiff,↓reduceIte,g0,g8,g9,d0,ej,x1,x2,x3,x4,x5,x6,hvb,bz]
    refine ⟨i + 1,by omega,j - 1,by omega,by omega,by omega,by omega,hO.trans x8,s2.onl x8,⟨_,x7,pm.trans (Pm.ex (by omega) (by omega) (by omega) (by omega) (by omega)),fun t h1 h2=>?_⟩,by simp (disch:=omega) only [getK_set,Nat.reduceEqDiff,↓reduceIte,g0,g1,g2,g3,and_self,Int.natCast_add,Int.natCast_one]⟩
    rw [gW_xch (by omega) (by omega)]
    by_cases c1:t=j
    · rw [if_pos c1,if_neg (by omega),hg i (by omega) (by omega),if_pos (by omega)]
      congr 1; omega
    · rw [if_neg c1]
      by_cases c2:t=i
      · rw [if_pos c2,if_neg (by omega),hg j (by omega) (by omega),if_pos (by omega)]
        congr 1; omega
      · rw [if_neg c2,hg t h1 h2]
        by_cases c3:i ≤ t∧t ≤ j
        · rw [if_pos c3,if_pos (by omega)]
        · rw [if_neg c3,if_neg (by omega)]
  · have d0:decide ((i:Int) < (j:Int))=false:=decide_eq_false (by omega)
    simp (disch:=omega) only [f104_r2,f104_rs,Option.some.injEq,exists_eq_left',Nat.reduceEqDiff,↓reduceIte,Bool.false_eq_true,g8,g9,d0,bz]
    refine ⟨W1,hs,pm,fun t h1 h2=>?_,hO,s2⟩
    rw [hg t h1 h2]
    by_cases c3:i ≤ t∧t ≤ j
    · rw [if_pos c3]; congr 1; omega
    · rw [if_neg c3]
def f105_J (h:H) (v c:V) (idb:K) (Z:List (Int × Int)) (a b:Nat) (i:Nat) (fr:Fr) (h1:H):Prop:=a < i∧i ≤ b∧Onl v h h1∧SoT idb v h1∧Sk 2 qE h1 v Z∧Srd a i Z∧fr.get (K.ofNat 0)=some (v)∧fr.get (K.ofNat 1)=some (.i .i64 (a:Int))∧fr.get (K.ofNat 2)=some (.i .i64 (b:Int))∧fr.get (K.ofNat 3)=some (c)∧fr.get (K.ofNat 9)=some (.i .i64 (i:Int))∧fr.get (K.ofNat 10)=some (.i .i64 0)
theorem f105_ret {a b:Nat} (k:CallsTs fs) (s:SoT idb v h) (hv:Sk 2 qE h v Z) (hn:Z.Nodup) (hab:a < b) (hb:b ≤ Z.length) (hW:Z.length ≤ 40):Ret fs f105 [v, .i .i64 (a:Int), .i .i64 (b:Int),cmV idb] h fun r h'=>(∃ q:Bool,r = .b q∧(q=true→Srd a b Z))∧Sk 2 qE h' v Z∧Onl v h h'∧SoT idb v h':=by
  apply ret_of rfl
  show W fs none f105_c _ _ _
  unfold f105_c
  have ea:(a:Int) + 1=((a + 1:Nat):Int):=by omega
  have d5:decide ((0:Int) < 5)=true:=rfl
  simp (disch:=omega) only [f105_r0,f105_r1,f105_r2,Nat.reduceEqDiff,↓reduceIte,ea,bz]
  refine W_loop (fun (_:Unit) fr h1=>h1=h∧fr.get (K.ofNat 0)=some (v)∧fr.get (K.ofNat 1)=some (.i .i64 (a:Int))∧fr.get (K.ofNat 2)=some (.i .i64 (b:Int))∧fr.get (K.ofNat 3)=some (cmV idb)∧fr.get (K.ofNat 9)=some (.i .i64 ((a + 1:Nat):Int))∧fr.get (K.ofNat 10)=some (.i .i64 0)) (fun _=>0) ?_ () ⟨rfl,by simp (disch:=omega) only [getK_set,Nat.reduceEqDiff,↓reduceIte,and_self]⟩
  rintro _ fr h2 ⟨rfl,g0,g1,g2,g3,g9,g10⟩
  unfold f105_l3
  simp (disch:=omega) only [f105_r3,↓reduceIte,of5,g10,d5,bz]
  refine W_loop (f105_J h2 v (cmV idb) idb Z a b) (fun i=>b - i) ?_ (a + 1) ⟨by omega,hab,Onl.refl,s,hv,fun i j h1 h2 h3=>by omega,by simp (disch:=omega) only [getK_set,Nat.reduceEqDiff,↓reduceIte,g0,g1,g2,g3,g9,g10,and_self]⟩
  clear g0 g1 g2 g3 g9 g10 fr
  rintro i fr h3 ⟨hai,hib,hO,s3,hs,sr,g0,g1,g2,g3,g9,g10⟩
  unfold f105_l0
  by_cases hlt:i < b
  · have d0:decide ((i:Int) < (b:Int))=true:=decide_eq_true (by omega)
    have d1:decide ((i:Int)=(b:Int))=false:=decide_eq_false (by omega)
    have d50:decide ((b:Int) - (a:Int) < Int.ofNat 50)=true:=decide_eq_true (by show _ < (50:Int); omega)
    have ei:(i:Int) - 1=((i - 1:Nat):Int):=by omega
    obtain ⟨p1,a1,a2⟩:=hs.atp (i:=i) (by omega)
    obtain ⟨p0,b1,b2⟩:=hs.atp (i:=i - 1) (by omega)
    simp (disch:=omega) only [f105_r4,Nat.reduceEqDiff,↓reduceIte,g0,g2,g3,g9,d0,ei,a1,a2,b1,b2,bz]
    refine cm_call k s3 hs ?_
    intro h4 hs4 o4 s4
    cases d2:bfB (gW Z i) (gW Z (i - 1)) with
    | false =>
      simp (disch:=omega) only [f105_r5,Nat.reduceEqDiff,↓reduceIte,Bool.not_false,g9,cmP_lt,d2,bz]
      refine ⟨i + 1,by omega,by omega,by omega,hO.trans o4,s4,hs4,Srd.of (fun t t1 t2=>?_),by simp (disch:=omega) only [getK_set,Nat.reduceEqDiff,↓reduceIte,g0,g1,g2,g3,g10,and_self,Int.natCast_add,Int.natCast_one]⟩
      by_cases et:t=i
      · rw [et]
        refine bfB_tot (fun e=>?_) d2
        have:=gW_inj hn (by omega) (by omega) e
        omega
      · exact sr (t - 1) t (by omega) (by omega) (by omega)
    | true =>
      simp (disch:=omega) only [f105_r6,f105_r8,f105_r9,f105_rs,Option.some.injEq,exists_eq_left',Nat.reduceEqDiff,↓reduceIte,Bool.false_eq_true,Bool.not_true,g1,g2,g9,d1,d50,cmP_lt,d2,bz]
      exact ⟨⟨false,rfl,fun e=>by cases e⟩,hs4,hO.trans o4,s4⟩
  · have d0:decide ((i:Int) < (b:Int))=false:=decide_eq_false (by omega)
    have d1:decide ((i:Int)=(b:Int))=true:=decide_eq_true (by omega)
    have ei:i=b:=by omega
    simp (disch:=omega) only [f105_r4,f105_r6,f105_r7,f105_rs,Option.some.injEq,exists_eq_left',Nat.reduceEqDiff,↓reduceIte,Bool.false_eq_true,g2,g9,d0,d1,bz]
    exact ⟨⟨true,rfl,fun _=>by rw [← ei]; exact sr⟩,hs,hO,s3⟩
structure Swc (idb ids:K) (v:V) (n:Nat) (h:H):Prop where
  c:h.get ids = .cells 1 [.i .i64 (n:Int)]
  v:∀ id off m sz,v = .sl id off m sz→id.nat < ids.nat
  b:idb.nat < ids.nat
theorem f125_ret {a b n:Nat} {ids:K} (k:CallsTs fs) (s:SoT idb v h) (sw:Swc idb ids v n h) (hv:Sk 2 qE h v Z) (ha:a < Z.length) (hb:b < Z.length) (hn:n < 10):Ret fs f125 [v, .i .i64 (a:Int), .i .i64 (b:Int), .p ids 0,cmV idb] h fun r h'=>(∃ c d:Nat,r = .tup [.i .i64 (c:Int), .i .i64 (d:Int)]∧((c=a∧d=b∧bfB (gW Z b) (gW Z a)=false) ∨ (c=b∧d=a∧bfB (gW Z b) (gW Z a)=true)))∧Grow ids.nat h h'∧Sk 2 qE h' v Z∧SoT idb v h' ∧ ∃ m,m ≤ n + 1∧Swc idb ids v m h':=by
  apply ret_of rfl
  show W fs none f125_c _ _ _
  unfold f125_c
  obtain ⟨p1,a1,a2⟩:=hv.atp ha
  obtain ⟨p0,b1,b2⟩:=hv.atp hb
  have hids:=s.hc.cells sw.c
  simp (disch:=omega) only [f125_r0,f125_r1,Nat.reduceEqDiff,↓reduceIte,a1,a2,b1,b2,bz]
  refine (callP_of (ef:=f83) (args := [pV (gW Z b),pV (gW Z a)]) (caps := [.p idb 0]) k.c83 rfl (f83_ret k s.e s.hc)).mono ?_
  rintro r h4 ⟨rfl,g4⟩
  have hs4:=hv.grow s.hc g4
  have s4:=s.onl (Onl.of g4)
  have c4:=(g4.old ids hids).trans sw.c
  cases d2:bfB (gW Z b) (gW Z a) with
  | false =>
    simp (disch:=omega) only [f125_r4,f125_rs,Option.some.injEq,exists_eq_left',Nat.reduceEqDiff,↓reduceIte,Bool.false_eq_true,cmP_lt,d2,bz]
    exact ⟨⟨a,b,rfl, .inl (by simp)⟩,g4.low (by omega),hs4,s4,n,by omega,c4,sw.v,sw.b⟩
  | true =>
    have l1:=load_p (off:=0) c4 (show nth [V.i .i64 (n:Int)] 0=some _ from rfl)
    have s1:storeV h4 1 (.p ids 0) (.i .i64 ((n + 1:Nat):Int)) = .ok undefV (h4.put ids (.cells 1 (setMany [V.i .i64 (n:Int)] 0 [.i .i64 ((n + 1:Nat):Int)]))):=store_p c4 rfl (by omega)
    have en:(n:Int) + 1=((n + 1:Nat):Int):=by omega
    have hlt4:ids.nat < h4.nx.nat:=by have:=g4.nx; omega
    simp (disch:=omega) only [f125_r2,f125_r3,f125_rs,x_nilck,set_1,Option.some.injEq,exists_eq_left',Nat.reduceEqDiff,↓reduceIte,nn_p,cmP_lt,d2,l1,en,s1,bz]
    have gp:Grow ids.nat h4 (h4.put ids (.cells 1 (setMany [V.i .i64 (n:Int)] 0 [.i .i64 ((n + 1:Nat):Int)]))):=Grow.put (Nat.le_refl _) hlt4 _
    have op:∀ id:K,id.nat < ids.nat→(h4.put ids (.cells 1 (setMany [V.i .i64 (n:Int)] 0 [.i .i64 ((n + 1:Nat):Int)]))).get id=h4.get id:=fun id hi=>gp.old id hi
    exact ⟨⟨b,a,rfl, .inr (by simp)⟩,(g4.low (by omega)).trans gp,hs4.same (fun id off m sz e=>op id (sw.v _ _ _ _ e)),⟨(op idb sw.b).trans s4.e,s4.ni,gp.hc s4.hc⟩,n + 1,by omega,get_put_same,sw.v,sw.b⟩
theorem f116_ret {a b c:Nat} {ids:K} (k:CallsTv fs) (s:SoT idb v h) (sw:Swc idb ids v 0 h) (hv:Sk 2 qE h v Z) (hn:Z.Nodup) (ha:a < Z.length) (hb:b < Z.length) (hc:c < Z.length) (h1:a < b) (h2:b < c):Ret fs f116 [v, .i .i64 (a:Int), .i .i64 (b:Int), .i .i64 (c:Int), .p ids 0,cmV idb] h fun r h'=>(∃ p x z:Nat,r = .i .i64 (p:Int)∧(p=a ∨ p=b ∨ p=c)∧(x=a ∨ x=b ∨ x=c)∧(z=a ∨ z=b ∨ z=c)∧bfB (gW Z x) (gW Z p)=true∧bfB (gW Z p) (gW Z z)=true)∧Grow ids.nat h h'∧Sk 2 qE h' v Z∧SoT idb v h' ∧ ∃ m,Swc idb ids v m h':=by
  have tt:∀ {i j:Nat},i < Z.length→j < Z.length→i ≠ j→bfB (gW Z j) (gW Z i)=false→bfB (gW Z i) (gW Z j)=true:=fun hi hj hij e=>bfB_tot (fun q=>hij (gW_inj hn hj hi q).symm) e
  apply ret_of rfl
  show W fs none f116_c _ _ _
  unfold f116_c
  simp (disch:=omega) only [f116_r0,f116_r1,Nat.reduceEqDiff,↓reduceIte,frame_6,bz]
  refine (callP_0 (ef:=f125) k.c125 rfl (f125_ret k.toCallsTs s sw hv ha hb (by omega))).mono ?_
  rintro r h3 ⟨⟨x,y,rfl,hxy⟩,g3,hs3,s3,n3,hn3,sw3⟩
  have hx:(x=a ∨ x=b)∧(y=a ∨ y=b)∧x ≠ y∧bfB (gW Z x) (gW Z y)=true:=by
    rcases hxy with ⟨rfl,rfl,e⟩ | ⟨rfl,rfl,e⟩
    · exact ⟨by omega,by omega,by omega,tt ha hb (by omega) e⟩
    · exact ⟨by omega,by omega,by omega,e⟩
  obtain ⟨hx1,hx2,hx3,hx4⟩:=hx
  simp (disch:=omega) only [f116_r2,Nat.reduceEqDiff,↓reduceIte,bz]
  refine (callP_0 (ef:=f125) k.c125 rfl (f125_ret k.toCallsTs s3 sw3 hs3 (a:=y) (b:=c) (by omega) hc (by omega))).mono ?_
  rintro r h4 ⟨⟨y',z,rfl,hyz⟩,g4,hs4,s4,n4,hn4,sw4⟩
  have hy:(y'=y ∨ y'=c)∧(z=y ∨ z=c)∧y' ≠ z∧bfB (gW Z y') (gW Z z)=true∧(z=y ∨ bfB (gW Z y) (gW Z z)=true):=by
    rcases hyz with ⟨rfl,rfl,e⟩ | ⟨rfl,rfl,e⟩
    · have:=tt (i:=y') (j:=z) (by omega) hc (by omega) e
      exact ⟨by omega,by omega,by omega,this, .inr this⟩
    · exact ⟨by omega,by omega,by omega,e, .inl rfl⟩
  obtain ⟨hy1,hy2,hy3,hy4,hy5⟩:=hy
  simp (disch:=omega) only [f116_r3,Nat.reduceEqDiff,↓reduceIte,bz]
  refine (callP_0 (ef:=f125) k.c125 rfl (f125_ret k.toCallsTs s4 sw4 hs4 (a:=x) (b:=y') (by omega) (by omega) (by omega))).mono ?_
  rintro r h5 ⟨⟨x',p,rfl,hxp⟩,g5,hs5,s5,n5,hn5,sw5⟩
  simp (disch:=omega) only [f116_r4,f116_rs,Option.some.injEq,exists_eq_left',Nat.reduceEqDiff,↓reduceIte,bz]
  have hgg:=(g3.trans g4).trans g5
  have hxz:bfB (gW Z x) (gW Z z)=true:=by
    rcases hy5 with e | e
    · rw [e]; exact hx4
    · exact bfB_tr hx4 e
  rcases hxp with ⟨rfl,rfl,e⟩ | ⟨rfl,rfl,e⟩
  · exact ⟨⟨p,x',z,rfl,by omega,by omega,by omega,tt (by omega) (by omega) (by omega) e,hy4⟩,hgg,hs5,s5,n5,sw5⟩
  · exact ⟨⟨p,x',z,rfl,by omega,by omega,by omega,e,hxz⟩,hgg,hs5,s5,n5,sw5⟩
theorem f103_ret {a b:Nat} (k:CallsTv fs) (s:SoT idb v h) (hv:Sk 2 qE h v Z) (hn:Z.Nodup) (hab:a + 12 < b) (hb:b ≤ Z.length) (hW:Z.length ≤ 40):Ret fs f103 [v, .i .i64 (a:Int), .i .i64 (b:Int),cmV idb] h fun r h'=>(∃ p e:Nat,r = .tup [.i .i64 (p:Int), .i .i64 (e:Int)]∧e ≤ 2∧a ≤ p∧p < b∧Mid a b p Z)∧Sk 2 qE h' v Z∧Onl v h h'∧SoT idb v h':=by
  apply ret_of rfl
  show W fs none f103_c _ _ _
  unfold f103_c
  obtain ⟨l,hl,hbl⟩:∃ l:Nat,13 ≤ l∧b=a + l:=⟨b - a,by omega,by omega⟩
  obtain ⟨q,hq,hq3,hq4⟩:∃ q:Nat,q=l / 4∧3 ≤ q∧q * 4 ≤ l:=⟨l / 4,rfl,by omega,by omega⟩
  have el:(b:Int) - (a:Int)=(l:Int):=by omega
  have eq4:(l:Int).tdiv 4=(q:Int):=by rw [hq]; rfl
  have e1:(a:Int) + (q:Int) * 1=((a + q:Nat):Int):=by omega
  have e2:(a:Int) + (q:Int) * 2=((a + q * 2:Nat):Int):=by omega
  have e3:(a:Int) + (q:Int) * 3=((a + q * 3:Nat):Int):=by omega
  have d8:decide ((l:Int) ≥ 8)=true:=decide_eq_true (by omega)
  have d50:decide ((l:Int) ≥ Int.ofNat 50)=false:=decide_eq_false (by show ¬ ((l:Int) ≥ (50:Int)); omega)
  have g1:Grow h.nx.nat h (h.new (.cells 1 [.i .i64 0])):=Grow.new (Nat.le_refl _) _
  have c1:(h.new (.cells 1 [.i .i64 0])).get h.nx = .cells 1 [.i .i64 ((0:Nat):Int)]:=get_new_same
  have s2:=s.onl (Onl.of g1)
  have hs2:=hv.grow s.hc g1
  have hlt:=hv.lt s.hc
  have hidb:=s.hc.cells s.e
  simp (disch:=omega) only [f103_r0,f103_r1,f103_r2,f103_r3,f103_r4,f103_r5,f103_r6,f103_r7,f103_r11,bin_mul,of3,of4,of8,Nat.reduceEqDiff,↓reduceIte,Bool.false_eq_true,el,eq4,e1,e2,e3,d8,d50,bz]
  generalize h.new (.cells 1 [.i .i64 0])=h2 at *
  refine (callP_0 (ef:=f116) k.c116 rfl (f116_ret k s2 ⟨c1,fun id off m sz e=>hlt _ _ _ _ e,hidb⟩ hs2 hn (a:=a + q) (b:=a + q * 2) (c:=a + q * 3) (by omega) (by omega) (by omega) (by omega) (by omega))).mono ?_
  rintro r h3 ⟨⟨p,x,z,rfl,hp,hx,hz,hm1,hm2⟩,g3,hs3,s3,n3,sw3⟩
  have l3:=load_p (off:=0) sw3.c (show nth [V.i .i64 (n3:Int)] 0=some _ from rfl)
  have mid:Mid a b p Z:=⟨⟨x,by omega,by omega,hm1⟩,z,by omega,by omega,hm2⟩
  have oo:Onl v h h3:=Onl.of (g1.trans g3)
  by_cases z0:n3=0
  · have d0:decide ((n3:Int)=0)=true:=decide_eq_true (by omega)
    simp (disch:=omega) only [f103_r12,f103_r13,f103_r14,f103_rs,Option.some.injEq,exists_eq_left',Nat.reduceEqDiff,↓reduceIte,l3,d0,bz]
    exact ⟨⟨p,1,rfl,by omega,by omega,by omega,mid⟩,hs3,oo,s3⟩
  · have d0:decide ((n3:Int)=0)=false:=decide_eq_false (by omega)
    by_cases z12:n3=12
    · have d1:decide ((n3:Int)=12)=true:=decide_eq_true (by omega)
      simp (disch:=omega) only [f103_r12,f103_r13,f103_r15,f103_r16,f103_rs,Option.some.injEq,exists_eq_left',Nat.reduceEqDiff,↓reduceIte,Bool.false_eq_true,l3,d0,d1,bz]
      exact ⟨⟨p,2,rfl,by omega,by omega,by omega,mid⟩,hs3,oo,s3⟩
    · have d1:decide ((n3:Int)=12)=false:=decide_eq_false (by omega)
      simp (disch:=omega) only [f103_r12,f103_r13,f103_r15,f103_r17,f103_rs,Option.some.injEq,exists_eq_left',Nat.reduceEqDiff,↓reduceIte,Bool.false_eq_true,l3,d0,d1,bz]
      exact ⟨⟨p,0,rfl,by omega,by omega,by omega,mid⟩,hs3,oo,s3⟩
end
end Go.Ev
