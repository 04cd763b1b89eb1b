/-
  The evaluator, weakest preconditions: what must hold before a piece of code, for what shall hold behind it., and what follows.
-/
import Derived.Test.YtdmnejhjlmeodaaGreatPc
import Derived.ProofKit
import Derived.SizedLaws
import Derived.ChangeSlices
namespace Go.Ev
open Go Go.RowKit

def rvP (r:RV) (f:V→H→Prop):Prop:=match r with | .no=>False | .ok v h=>f v h
def GP (o:Option Bool) (p q:Prop):Prop:=match o with | none=>False | some b=>(b=true→p)∧(b=false→q)
def CallP (fs:T EF) (f:V) (args:List V) (h:H) (P:V→H→Prop):Prop:=∃ n v h',callV fs (eval fs n) f args h = .ok v h'∧P v h'
noncomputable def goNo:Go:=fun _ _ _ _ => .no
def X1 (fs:T EF) (op:EOp) (fr:Fr) (h:H) (P:V→H→Prop):Prop:=match op with
  | .call f args=>CallP fs (ev fr f) (evs fr args) h P
  | op=>rvP (evop fs goNo fr h op) P
def X (fs:T EF):List EOper→(Fr→H→Prop)→Fr→H→Prop
  | [],Q=>Q
  | o :: l,Q=>fun fr h=>GP (wants fr o.g) (X1 fs o.op fr h fun v h'=>X fs l Q (putD fr o.dst v) h') (X fs l Q (putD fr o.dst undefV) h)
def kX (fs:T EF) (l:List EOper) (Q:Fr→H→Prop) (fr:Fr) (d:Option K) (v:V) (h:H):Prop:=X fs l Q (putD fr d v) h
def G1 (fs:T EF) (d:Option K) (op:EOp) (fr:Fr) (h:H) (P:Fr→H→Prop):Prop:=match op with
  | .bslice n sz z ps=>∃ k cs,d=some k∧(h.get h.nx).isDead=true∧fillE fr z ps=some cs∧P (fr.set k (.sl h.nx 0 n sz)) (h.new (.cells (n * sz) cs))
  | .alloc n z=>∃ k,d=some k∧(h.get h.nx).isDead=true∧P (fr.set k (.p h.nx 0)) (h.new (.cells n z))
  | op=>op.quiet=true∧rvP (evop fs goNo fr h op) fun v _=>P (putD fr d v) h
def XG (fs:T EF):List EOper→(Fr→H→Prop)→Fr→H→Prop
  | [],Q=>Q
  | o :: l,Q=>fun fr h=>GP (wants fr o.g) (G1 fs o.dst o.op fr h (XG fs l Q)) (XG fs l Q (putD fr o.dst undefV) h)
def XD (fs:T EF):List Stage→(Fr→H→Prop)→Fr→H→Prop
  | [],Q=>Q
  | s :: l,Q=>fun fr0 h0=>XG fs s.g (fun fr h=>isFresh h0 h fr s.b=true∧allStay fs goNo fr h s.c=true∧(match s.l with | none=>Q fr h | some o=>X fs [o] (XD fs l Q) fr h)) fr0 h0
def seqK (A:(Ex→Fr→H→Prop)→Fr→H→Prop) (Q:Ex→Fr→H→Prop):Ex→Fr→H→Prop:=fun e fr h=>match e with | .normal=>A Q fr h | e=>Q e fr h
def atK (id:Nat) (Q:Ex→Fr→H→Prop):Ex→Fr→H→Prop:=fun e fr h=>match e with | .exit j=>(j=id→Q .normal fr h)∧(j ≠ id→Q (.exit j) fr h) | e=>Q e fr h
def condP (v:V) (p q:Prop):Prop:=match v with | .b r=>(r=true→p)∧(r=false→q) | _=>False
def RunsP (fs:T EF) (ro:Option K) (c:EC) (Q:Ex→Fr→H→Prop) (fr:Fr) (h:H):Prop:=∃ e fr' h',Runs fs ro c fr h e fr' h'∧Q e fr' h'
def W (fs:T EF) (ro:Option K):EC→(Ex→Fr→H→Prop)→Fr→H→Prop
  | .skip,Q=>Q .normal
  | .reg ops,Q=>X fs ops (Q .normal)
  | .draw st,Q=>XD fs st (Q .normal)
  | .seq a b,Q=>W fs ro a (seqK (W fs ro b) Q)
  | .cond x a b,Q=>fun fr h=>condP (ev fr x) (W fs ro a Q fr h) (W fs ro b Q fr h)
  | .block id c,Q=>W fs ro c (atK id Q)
  | .scope c,Q=>W fs ro c Q
  | .loop c,Q=>RunsP fs ro (.loop c) Q
  | .rangeF f ps a c,Q=>RunsP fs ro (.rangeF f ps a c) Q
  | .exit id,Q=>Q (.exit id)
  | .ret,Q=>Q .ret
  | .no,_=>fun _ _=>False

/-! ### They are right -/
section
variable {fs:T EF}
theorem rvP_ex {r:RV} {f:V→H→Prop}:rvP r f → ∃ v h,r = .ok v h∧f v h:=by
  cases r with
  | no=>exact fun h=>h.elim
  | ok v h=>exact fun hf=>⟨v,h,rfl,hf⟩
theorem GP_ex {o:Option Bool} {p q:Prop}:GP o p q→(o=some true∧p) ∨ (o=some false∧q):=by
  cases o with
  | none=>exact fun h=>h.elim
  | some b=>cases b with
    | true=>exact fun h => .inl ⟨rfl,h.1 rfl⟩
    | false=>exact fun h => .inr ⟨rfl,h.2 rfl⟩
theorem evop_no {fr:Fr} {h h':H} {op:EOp} {v:V} {go:Go} (e:evop fs goNo fr h op = .ok v h'):evop fs go fr h op = .ok v h' :=
  evop_le (g:=goNo) (g':=go) (fun _ _ _ _=>RLe.no _) fr h op v h' e
theorem X1_ok {op:EOp} {fr:Fr} {h:H} {P:V→H→Prop} (hx:X1 fs op fr h P):∃ n v h',evop fs (eval fs n) fr h op = .ok v h'∧P v h':=by
  unfold X1 at hx
  split at hx
  · obtain ⟨n,v,h',e,hp⟩:=hx
    exact ⟨n,v,h',e,hp⟩
  · obtain ⟨v,h',e,hp⟩:=rvP_ex hx
    exact ⟨0,v,h',evop_no e,hp⟩
theorem X_ok:∀ (l:List EOper) (Q:Fr→H→Prop) (fr:Fr) (h:H),X fs l Q fr h → ∃ n fr' h',runOps fs (eval fs n) l fr h = .ok .normal fr' h'∧Q fr' h'
  | [],Q,fr,h,hx=>⟨0,fr,h,rfl,hx⟩
  | o :: l,Q,fr,h,hx=>by
    rcases GP_ex (show GP _ _ _ from hx) with ⟨hw,hx⟩ | ⟨hw,hx⟩
    · obtain ⟨n,v,h1,e1,hx⟩:=X1_ok hx
      obtain ⟨m,fr',h',e2,hq⟩:=X_ok l Q _ _ hx
      refine ⟨max n m,fr',h',?_,hq⟩
      show (oGet (wants fr o.g) Res.no fun r=>bif r then (evop fs (eval fs (max n m)) fr h o.op).to fun v h=>runOps fs (eval fs (max n m)) l (putD fr o.dst v) h else runOps fs (eval fs (max n m)) l (putD fr o.dst undefV) h)=_
      rw [hw,show (oGet (some true) Res.no fun r=>bif r then (evop fs (eval fs (max n m)) fr h o.op).to fun v h=>runOps fs (eval fs (max n m)) l (putD fr o.dst v) h else runOps fs (eval fs (max n m)) l (putD fr o.dst undefV) h)=(evop fs (eval fs (max n m)) fr h o.op).to fun v h=>runOps fs (eval fs (max n m)) l (putD fr o.dst v) h from rfl]
      rw [evop_le (eval_le fs (Nat.le_max_left n m)) fr h o.op v h1 e1]
      exact runOps_le (eval_le fs (Nat.le_max_right n m)) l _ _ _ _ _ e2
    · obtain ⟨m,fr',h',e2,hq⟩:=X_ok l Q _ _ hx
      refine ⟨m,fr',h',?_,hq⟩
      show (oGet (wants fr o.g) Res.no fun r=>bif r then (evop fs (eval fs m) fr h o.op).to fun v h=>runOps fs (eval fs m) l (putD fr o.dst v) h else runOps fs (eval fs m) l (putD fr o.dst undefV) h)=_
      rw [hw]; exact e2
theorem XG_ok {f:Go→Fr→H→Res} (hf:∀ n m,n ≤ m → ∀ fr h,RLe (f (eval fs n) fr h) (f (eval fs m) fr h)):∀ (l:List EOper) (Q:Fr→H→Prop) (R:Ex→Fr→H→Prop) (fr:Fr) (h:H),(∀ fr h,Q fr h → ∃ n e fr' h',f (eval fs n) fr h = .ok e fr' h'∧R e fr' h')→XG fs l Q fr h → ∃ n e fr' h',gRun fs (eval fs n) l (f (eval fs n)) fr h = .ok e fr' h'∧R e fr' h'
  | [],Q,R,fr,h,hq,hx=>hq fr h hx
  | o :: l,Q,R,fr,h,hq,hx=>by
    have unf:∀ go,gRun fs go (o :: l) (f go) fr h=oGet (wants fr o.g) Res.no fun r=>bif r then gDo fs go o.dst o.op (gRun fs go l (f go)) fr h else gRun fs go l (f go) (putD fr o.dst undefV) h:=fun _=>rfl
    rcases GP_ex (show GP _ _ _ from hx) with ⟨hw,hx⟩ | ⟨hw,hx⟩
    · unfold G1 at hx
      split at hx
      · rename_i op n sz z ps heq
        obtain ⟨k,cs,hd,hdead,hfill,hx⟩:=hx
        obtain ⟨m,e,fr',h',e2,hr⟩:=XG_ok hf l Q R _ _ hq hx
        refine ⟨m,e,fr',h',?_,hr⟩
        rw [unf,hw,heq,hd]
        show (bif (h.get h.nx).isDead then (oGet (fillE fr z ps) Res.no fun cs=>gRun fs (eval fs m) l (f (eval fs m)) (fr.set k (.sl h.nx 0 n sz)) (h.new (.cells (n * sz) cs))) else Res.no)=_
        rw [hdead,hfill]
        exact e2
      · rename_i op n z heq
        obtain ⟨k,hd,hdead,hx⟩:=hx
        obtain ⟨m,e,fr',h',e2,hr⟩:=XG_ok hf l Q R _ _ hq hx
        refine ⟨m,e,fr',h',?_,hr⟩
        rw [unf,hw,heq,hd]
        show (bif (h.get h.nx).isDead then gRun fs (eval fs m) l (f (eval fs m)) (fr.set k (.p h.nx 0)) (h.new (.cells n z)) else Res.no)=_
        rw [hdead]
        exact e2
      · rename_i op hne hna
        obtain ⟨hqu,hx⟩:=hx
        obtain ⟨v,h1,e1,hx⟩:=rvP_ex hx
        obtain ⟨m,e,fr',h',e2,hr⟩:=XG_ok hf l Q R _ _ hq hx
        refine ⟨m,e,fr',h',?_,hr⟩
        rw [unf,hw]
        show gDo fs (eval fs m) o.dst o.op (gRun fs (eval fs m) l (f (eval fs m))) fr h=_
        unfold gDo
        split
        · rename_i n sz z ps heq; exact absurd heq (hne n sz z ps)
        · rename_i n z heq; exact absurd heq (hna n z)
        · rw [hqu,evop_no e1]; exact e2
    · obtain ⟨m,e,fr',h',e2,hr⟩:=XG_ok hf l Q R _ _ hq hx
      refine ⟨m,e,fr',h',?_,hr⟩
      rw [unf,hw]; exact e2
theorem XD_ok:∀ (l:List Stage) (Q:Fr→H→Prop) (fr:Fr) (h:H),XD fs l Q fr h → ∃ n fr' h',drawRun fs (eval fs n) l fr h = .ok .normal fr' h'∧Q fr' h'
  | [],Q,fr,h,hx=>⟨0,fr,h,rfl,hx⟩
  | s :: l,Q,fr,h,hx=>by
    obtain ⟨n,e,fr',h',e1,rfl,hq⟩:=XG_ok (fs:=fs) (f:=fun go fr1 h1=>bif isFresh h h1 fr1 s.b then stageEnd fs go s (drawRun fs go l) fr1 h1 else .no)
      (fun n m hnm fr1 h1=>by
        refine bif_le ?_ (RLe.refl _)
        intro e fr' h' he
        unfold stageEnd at he ⊢
        obtain ⟨p1,p2⟩:=cond_ok (by simp) he
        rw [allStay_le (eval_le fs hnm) p1]
        cases hl:s.l with
        | none=>rw [hl] at p2; exact p2
        | some o=>rw [hl] at p2; exact runOp_le (eval_le fs hnm) o (fun fr h=>drawRun_le (eval_le fs hnm) l fr h) _ _ _ _ _ p2)
      s.g _ (fun e fr' h'=>e = .normal∧Q fr' h') fr h (fun fr1 h1 hq=>by
        obtain ⟨hfresh,hc,hq⟩:=hq
        have hst:∀ n,allStay fs (eval fs n) fr1 h1 s.c=true:=fun n=>allStay_le (g:=goNo) (g':=eval fs n) (fun _ _ _ _=>RLe.no _) hc
        cases hl:s.l with
        | none =>
          rw [hl] at hq
          refine ⟨0, .normal,fr1,h1,?_,rfl,hq⟩
          show (bif isFresh h h1 fr1 s.b then stageEnd fs (eval fs 0) s (drawRun fs (eval fs 0) l) fr1 h1 else .no)=_
          rw [hfresh]; unfold stageEnd; rw [hst,hl]; rfl
        | some o =>
          rw [hl] at hq
          rcases GP_ex (show GP _ _ _ from hq) with ⟨hw,hx⟩ | ⟨hw,hx⟩
          · obtain ⟨n,v,h2,e1,hx⟩:=X1_ok hx
            obtain ⟨m,fr',h',e2,hq⟩:=XD_ok l Q _ _ hx
            refine ⟨max n m, .normal,fr',h',?_,rfl,hq⟩
            show (bif isFresh h h1 fr1 s.b then stageEnd fs (eval fs (max n m)) s (drawRun fs (eval fs (max n m)) l) fr1 h1 else .no)=_
            rw [hfresh]; unfold stageEnd; rw [hst,hl]
            show (oGet (wants fr1 o.g) Res.no fun r=>bif r then (evop fs (eval fs (max n m)) fr1 h1 o.op).to fun v h=>drawRun fs (eval fs (max n m)) l (putD fr1 o.dst v) h else drawRun fs (eval fs (max n m)) l (putD fr1 o.dst undefV) h1)=_
            rw [hw]
            show ((evop fs (eval fs (max n m)) fr1 h1 o.op).to fun v h=>drawRun fs (eval fs (max n m)) l (putD fr1 o.dst v) h)=_
            rw [evop_le (eval_le fs (Nat.le_max_left n m)) fr1 h1 o.op v h2 e1]
            exact drawRun_le (eval_le fs (Nat.le_max_right n m)) l _ _ _ _ _ e2
          · obtain ⟨m,fr',h',e2,hq⟩:=XD_ok l Q _ _ hx
            refine ⟨m, .normal,fr',h',?_,rfl,hq⟩
            show (bif isFresh h h1 fr1 s.b then stageEnd fs (eval fs m) s (drawRun fs (eval fs m) l) fr1 h1 else .no)=_
            rw [hfresh]; unfold stageEnd; rw [hst,hl]
            show (oGet (wants fr1 o.g) Res.no fun r=>bif r then (evop fs (eval fs m) fr1 h1 o.op).to fun v h=>drawRun fs (eval fs m) l (putD fr1 o.dst v) h else drawRun fs (eval fs m) l (putD fr1 o.dst undefV) h1)=_
            rw [hw]; exact e2)
      hx
    exact ⟨n,fr',h',e1,hq⟩
theorem W_ok {ro:Option K}:∀ (c:EC) (Q:Ex→Fr→H→Prop) (fr:Fr) (h:H),W fs ro c Q fr h→RunsP fs ro c Q fr h
  | .skip,Q,fr,h,hw=>⟨_,_,_, .skip,hw⟩
  | .reg ops,Q,fr,h,hw=>by
    obtain ⟨n,fr',h',e,hq⟩:=X_ok ops _ fr h hw
    exact ⟨_,_,_, .reg e,hq⟩
  | .draw st,Q,fr,h,hw=>by
    obtain ⟨n,fr',h',e,hq⟩:=XD_ok st _ fr h hw
    exact ⟨_,_,_,⟨n + 1,e⟩,hq⟩
  | .seq a b,Q,fr,h,hw=>by
    obtain ⟨e,fr1,h1,r1,q1⟩:=W_ok a _ fr h hw
    cases e with
    | normal =>
      obtain ⟨e,fr2,h2,r2,q2⟩:=W_ok b _ fr1 h1 q1
      exact ⟨_,_,_, .seq r1 r2,q2⟩
    | exit i=>exact ⟨_,_,_, .seq_out r1 (by simp),q1⟩
    | ret=>exact ⟨_,_,_, .seq_out r1 (by simp),q1⟩
  | .cond x a b,Q,fr,h,hw=>by
    have hw:condP (ev fr x) (W fs ro a Q fr h) (W fs ro b Q fr h):=hw
    unfold condP at hw
    split at hw
    · rename_i r hr
      cases r with
      | true =>
        obtain ⟨e,fr1,h1,r1,q1⟩:=W_ok a _ fr h (hw.1 rfl)
        exact ⟨_,_,_, .cond (r:=true) hr r1,q1⟩
      | false =>
        obtain ⟨e,fr1,h1,r1,q1⟩:=W_ok b _ fr h (hw.2 rfl)
        exact ⟨_,_,_, .cond (r:=false) hr r1,q1⟩
    · exact hw.elim
  | .block id c,Q,fr,h,hw=>by
    obtain ⟨e,fr1,h1,r1,q1⟩:=W_ok c _ fr h hw
    cases e with
    | normal=>exact ⟨_,_,_, .block r1 (.inr ⟨by simp,rfl⟩),q1⟩
    | ret=>exact ⟨_,_,_, .block r1 (.inr ⟨by simp,rfl⟩),q1⟩
    | exit j =>
      by_cases hj:j=id
      · exact ⟨_,_,_, .block r1 (.inl ⟨by rw [hj],rfl⟩),q1.1 hj⟩
      · exact ⟨_,_,_, .block r1 (.inr ⟨by simpa using hj,rfl⟩),q1.2 hj⟩
  | .scope c,Q,fr,h,hw=>by
    obtain ⟨e,fr1,h1,⟨n,r1⟩,q1⟩:=W_ok c _ fr h hw
    exact ⟨_,_,_,⟨n + 1,r1⟩,q1⟩
  | .loop c,Q,fr,h,hw=>hw
  | .rangeF f ps a c,Q,fr,h,hw=>hw
  | .exit id,Q,fr,h,hw=>⟨_,_,_, .exit,hw⟩
  | .ret,Q,fr,h,hw=>⟨_,_,_, .ret,hw⟩
  | .no,Q,fr,h,hw=>hw.elim
def loopK {σ:Type} (I : σ → Fr→H→Prop) (μ : σ → Nat) (s : σ) (Q:Ex→Fr→H→Prop):Ex→Fr→H→Prop:=fun e fr h=>match e with | .normal=>∃ s', μ s' < μ s∧I s' fr h | e=>Q e fr h
theorem W_loop {σ:Type} {ro:Option K} {c:EC} {Q:Ex→Fr→H→Prop} (I : σ → Fr→H→Prop) (μ : σ → Nat) (hstep:∀ s fr h,I s fr h→W fs ro c (loopK I μ s Q) fr h) (s : σ) {fr:Fr} {h:H} (hi:I s fr h):W fs ro (.loop c) Q fr h:=by
  suffices ∀ j s fr h, μ s ≤ j→I s fr h→RunsP fs ro (.loop c) Q fr h from this _ s fr h (Nat.le_refl _) hi
  intro j
  induction j with
  | zero =>
    intro s fr h hj hi
    obtain ⟨e,fr1,h1,r1,q1⟩:=W_ok _ _ _ _ (hstep s fr h hi)
    cases e with
    | normal=>obtain ⟨s',hs,_⟩:=q1; omega
    | exit i=>exact ⟨_,_,_, .loop_out r1 (by simp),q1⟩
    | ret=>exact ⟨_,_,_, .loop_out r1 (by simp),q1⟩
  | succ j ih =>
    intro s fr h hj hi
    obtain ⟨e,fr1,h1,r1,q1⟩:=W_ok _ _ _ _ (hstep s fr h hi)
    cases e with
    | normal =>
      obtain ⟨s',hs,hi'⟩:=q1
      obtain ⟨e,fr2,h2,r2,q2⟩:=ih s' fr1 h1 (by omega) hi'
      exact ⟨_,_,_, .loop r1 r2,q2⟩
    | exit i=>exact ⟨_,_,_, .loop_out r1 (by simp),q1⟩
    | ret=>exact ⟨_,_,_, .loop_out r1 (by simp),q1⟩
def Ret (fs:T EF) (ef:EF) (args:List V) (h:H) (P:V→H→Prop):Prop:=∃ n v h',callF (eval fs n) ef args h = .ok v h'∧P v h'
def retK (ef:EF) (P:V→H→Prop):Ex→Fr→H→Prop:=fun e fr h=>match e with | .exit _=>False | _=>∃ vs,readRs fr h ef.rs=some vs∧P (retV vs) h
theorem ret_of {ef:EF} {args:List V} {h:H} {P:V→H→Prop} (hn:Nat.ble (lenL args) ef.nt=true) (hw:W fs none ef.body (retK ef P) (frame .e args .nil) h):Ret fs ef args h P:=by
  obtain ⟨e,fr',h',⟨n,hr⟩,q⟩:=W_ok _ _ _ _ hw
  have go:∀ e,(e = .normal ∨ e = .ret)→eval fs n none ef.body (frame .e args .nil) h = .ok e fr' h'→(∃ vs,readRs fr' h' ef.rs=some vs∧P (retV vs) h')→Ret fs ef args h P:=by
    rintro e he hr ⟨vs,hv,hp⟩
    refine ⟨n,retV vs,h',?_,hp⟩
    unfold callF
    rw [hn,hr]
    show leave ef e fr' h'=_
    rcases he with rfl | rfl <;> (unfold leave; rw [hv]; rfl)
  cases e with
  | normal=>exact go _ (.inl rfl) hr q
  | ret=>exact go _ (.inr rfl) hr q
  | exit i=>exact q.elim
theorem callP_of {k:K} {ef:EF} {args caps:List V} {h:H} {P:V→H→Prop} (hf:fs.get k=some ef) (hn:ef.nv=none) (hr:Ret fs ef (cat args caps) h P):CallP fs (.fn k caps) args h P:=by
  obtain ⟨n,v,h',e,hp⟩:=hr
  refine ⟨n,v,h',?_,hp⟩
  show (oGet (fs.get k) RV.no fun ef=>callE (eval fs n) ef (cat args caps) h)=_
  rw [hf]
  show oGet ef.nv (callF (eval fs n) ef (cat args caps) h) _=_
  rw [hn]; exact e
theorem callP_0 {k:K} {ef:EF} {args:List V} {h:H} {P:V→H→Prop} (hf:fs.get k=some ef) (hn:ef.nv=none) (hr:Ret fs ef args h P):CallP fs (.fn k []) args h P :=
  callP_of hf hn (by rw [cat_eq,List.append_nil]; exact hr)
theorem callP_nat {k:K} {ef:EF} {args caps:List V} {h h':H} {v:V} {g:List V→H→Option (V × H)} {P:V→H→Prop} (hf:fs.get k=some ef) (hn:ef.nv=some g) (hg:g (cat args caps) h=some (v,h')) (hp:P v h'):CallP fs (.fn k caps) args h P:=by
  refine ⟨0,v,h',?_,hp⟩
  show (oGet (fs.get k) RV.no fun ef=>callE (eval fs 0) ef (cat args caps) h)=_
  rw [hf]
  show oGet ef.nv (callF (eval fs 0) ef (cat args caps) h) (fun g=>oGet (g (cat args caps) h) RV.no fun p=>RV.ok p.1 p.2)=_
  rw [hn]
  show (oGet (g (cat args caps) h) RV.no fun p=>RV.ok p.1 p.2)=_
  rw [hg]; rfl
theorem CallP.mono {f:V} {args:List V} {h:H} {P Q:V→H→Prop} (hc:CallP fs f args h P) (hpq:∀ v h',P v h'→Q v h'):CallP fs f args h Q:=by
  obtain ⟨n,v,h',e,hp⟩:=hc
  exact ⟨n,v,h',e,hpq _ _ hp⟩
theorem Ret.mono {ef:EF} {args:List V} {h:H} {P Q:V→H→Prop} (hc:Ret fs ef args h P) (hpq:∀ v h',P v h'→Q v h'):Ret fs ef args h Q:=by
  obtain ⟨n,v,h',e,hp⟩:=hc
  exact ⟨n,v,h',e,hpq _ _ hp⟩
end
end Go.Ev
namespace Go.Ev
open Go Go.RowKit

structure CRow where
  args:K→List V
  cells:List V
  res:List V
  out:K→V
noncomputable def beqR (x y:V):Bool:=match x with | .tup l=>(match y with | .tup m=>beqL l m | _=>false) | x=>beq1 x y
theorem beqR_eq {x y:V} (h:beqR x y=true):x=y:=by
  unfold beqR at h
  split at h
  · split at h
    · rw [beqL_eq h]
    · cases h
  · exact beq1_eq h
noncomputable def slFirst (l:List V):Option K:=List.rec none (fun x _ ih=>match x with | .sl id _ _ _=>some id | _=>ih) l
noncomputable def isCells (b:Blk) (cs0:List V):Bool:=b.onW false fun m cs=>Nat.beq m (lenL cs0) && beqL cs cs0
theorem isCells_eq {b:Blk} {cs:List V} (h:isCells b cs=true):b = .cells (lenL cs) cs:=by
  unfold isCells at h
  obtain ⟨m,cs',e,h1⟩:=Blk.onW_ok (by simp) h
  rw [Bool.and_eq_true] at h1
  rw [e,Nat.eq_of_beq_eq_true h1.1,beqL_eq h1.2]
noncomputable def row1G (r:CRow) (args:List V) (h:H):Option (V × H):=oGet (slFirst args) none fun id =>
  bif beqL (r.args id) args && (Nat.blt id.nat h.nx.nat && isCells (h.get id) r.cells) then some (r.out h.nx,h.new (.cells (lenL r.res) r.res)) else none
noncomputable def rowH (r:CRow):H:=(⟨.e, .nil⟩:H).new (.cells (lenL r.cells) r.cells)
noncomputable def resChk (r:CRow) (id:K) (v:V) (h1:H):Bool:=isCells (h1.get id) r.res && (r.res.all V.flat && beqR v (r.out id))
noncomputable def row1Chk (fs:T EF) (n:Nat) (ef:EF) (r:CRow) (id:K):Bool:=match callF (eval fs n) ef (r.args .e) (rowH r) with
  | .ok v h1=>isCells (h1.get .e) r.cells && (Nat.ble 1 id.nat && (r.cells.all V.flat && resChk r id v h1))
  | .no=>false
def CArgs (ids:List K) (as cs:List V):Prop:=cs.length=as.length ∧ ∀ (i:Nat) (h:i < as.length) (h':i < cs.length),CArg ids as[i] cs[i]
theorem CArgs.nil {ids:List K}:CArgs ids [] []:=⟨rfl,fun i h=>absurd h (by simp)⟩
theorem CArgs.cons {ids:List K} {a c:V} {as cs:List V} (h:CArg ids a c) (t:CArgs ids as cs):CArgs ids (a :: as) (c :: cs):=⟨by simp [t.1],fun i h1 h2=>by
  cases i with
  | zero=>exact h
  | succ i=>exact t.2 i (by simpa using h1) (by simpa using h2)⟩
theorem CArg.sl1 {id:K} (off n sz:Nat):CArg [id] (.sl id off n sz) (.sl .e off n sz):=CArg.sl (ids := [id]) (j:=0) (by simp) off n sz
def CRess (id k:K) (as cs:List V):Prop:=cs.length=as.length ∧ ∀ (i:Nat) (h:i < as.length) (h':i < cs.length),CRes id k as[i] cs[i]
theorem CRess.nil {id k:K}:CRess id k [] []:=⟨rfl,fun i h=>absurd h (by simp)⟩
theorem CRess.cons {id k:K} {a c:V} {as cs:List V} (h:CRes id k a c) (t:CRess id k as cs):CRess id k (a :: as) (c :: cs):=⟨by simp [t.1],fun i h1 h2=>by
  cases i with
  | zero=>exact h
  | succ i=>exact t.2 i (by simpa using h1) (by simpa using h2)⟩
theorem CRess.tup {id k:K} {as cs:List V} (t:CRess id k as cs):CRes id k (.tup as) (.tup cs) := .tup t.1 t.2
section
variable {Y:Rig} {fs:T EF} {k:K} {ef:EF} {n:Nat} {r:CRow} {id0:K}
theorem resChk_ok {v:V} {h1:H} (h:resChk r id0 v h1=true):h1.get id0 = .cells (lenL r.res) r.res∧r.res.all V.flat=true∧v=r.out id0:=by
  unfold resChk at h
  simp only [Bool.and_eq_true] at h
  exact ⟨isCells_eq h.1,h.2.1,beqR_eq h.2.2⟩
theorem row1_does (hfs : Fns Y fs) (hf : ef.nv = none ∧ ∃ fn c, FnOk Y k ef fn c) (ha : ∀ id, CArgs [id] (r.args id) (r.args .e)) (ho : ∀ id k, CRes id k (r.out id) (r.out k)) (hc : row1Chk fs n ef r id0 = true) :
    ∀ args h v h',row1G r args h=some (v,h')→Does Y k args h v h':=by
  intro args h v h' he
  unfold row1G at he
  obtain ⟨id,_,he⟩:=oGet_some (by simp) he
  obtain ⟨h0,he⟩:=cond_ok (by simp) he
  cases he
  simp only [Bool.and_eq_true] at h0
  obtain ⟨h1,h2,h3⟩:=h0
  have h1:=beqL_eq h1
  subst h1
  have h2:id.nat + 1 ≤ h.nx.nat:=Nat.le_of_ble_eq_true h2
  have h3:=isCells_eq h3
  unfold row1Chk at hc
  split at hc
  · rename_i v1 g1 heq
    simp only [Bool.and_eq_true] at hc
    obtain ⟨c1,c2,c3,c4⟩:=hc
    obtain ⟨d1,d2,d3⟩:=resChk_ok c4
    subst d3
    have hcn:Canon [id] h (rowH r):=by
      refine ⟨rfl,by simp,fun x hx=>?_,fun j hj=>?_⟩
      · have:x=id:=by simpa using hx
        subst this; omega
      · have:j=0:=by simpa using hj
        subst this
        exact ⟨_,_,h3,c3,rfl⟩
    refine does_canon hfs hf hcn (ha id).1 (ha id).2 heq (fun j hj=>?_) (Nat.le_of_ble_eq_true c2) d1 d2 (ho _ _)
    have:j=0:=by simpa using hj
    subst this
    exact (isCells_eq c1).trans rfl
  · cases hc
theorem does_canon0 (hfs : Fns Y fs) (hf : ef.nv = none ∧ ∃ fn c, FnOk Y k ef fn c) {ids : List K} {h hc h1 : H} {args cargs : List V} {v : V} (hcn : Canon ids h hc) (hl : cargs.length = args.length) (ha : ∀ (i : Nat) (h : i < args.length) (h' : i < cargs.length), CArg ids args[i] cargs[i])
    (he:callF (eval fs n) ef cargs hc = .ok v h1) (hold:∀ (j:Nat),j < ids.length→h1.get (K.ofNat j)=hc.get (K.ofNat j)) (hres:∀ ι ι' x,VR ι v x→VR ι' v x):Does Y k args h v h:=by
  intro ι vals w hv hr
  obtain ⟨_,fn,c,hf⟩:=hf
  have hrc:=hcn.wr hr
  refine (callF_rel (evalOk hfs n) hf he (CArg.rels hl ha hv) hrc).mono ?_
  rintro e w' ⟨ι',v',rfl,hs,hvr,hr'⟩
  have blkOf:∀ k q, ι k=some q→(∀ j (hj:j < ids.length),ids[j] ≠ k)→live h k→w'.heap[q.b]? = w.heap[q.b]?:=fun k q hq hk hlv=>by
    refine hs.keep q.b (hr.lt k q hq) fun k' q' hq' e=>?_
    obtain ⟨hj,e1⟩:=canonI_some hq'
    obtain ⟨m',cs',b1,_⟩:=hcn.blk k'.nat hj
    exact hk k'.nat hj (hr.inj0 e1 hq (by unfold live; rw [b1]; simp) hlv (by rw [b1]; exact fun h=>h) e)
  have hold2:∀ k q, ι k=some q→BR Y.tab ι q w' (h.get k):=fun k q hq=>by
    by_cases hd:h.get k = .dead
    · rw [hd]; trivial
    by_cases hk:∃ j,∃ hj:j < ids.length,ids[j]=k
    · obtain ⟨j,hj,rfl⟩:=hk
      obtain ⟨m',cs',b1,b2,b3⟩:=hcn.blk j hj
      have hq' : ι' (K.ofNat j)=some q:=hs.ext _ _ (by rw [canonI_at hj]; exact hq)
      have hb:=hr'.blk _ _ hq'
      rw [hold j hj,b3] at hb
      rw [b1]
      exact hb.flat b2
    · exact (hr.blk k q hq).mono (Ext.refl _) (blkOf k q hq (fun j hj e=>hk ⟨j,hj,e⟩) hd)
  refine ⟨ι,v',rfl,⟨Ext.refl ι,fun k q hq hi=>(by rw [hq] at hi; cases hi),fun b hb ho=>hs.keep b hb fun k q hq e=>?_,hs.os,hs.tape,hs.output,hs.size,Nat.le_refl _,fun _ _ hi=>hi⟩,hres _ _ _ hvr,⟨hold2,fun k q hq=>Nat.lt_of_lt_of_le (hr.lt k q hq) hs.size,hr.inj,hr.fresh⟩⟩
  obtain ⟨hj,e1⟩:=canonI_some hq
  exact ho _ _ e1 e
noncomputable def row2G (r:CRow) (args:List V) (h:H):Option (V × H):=oGet (slFirst args) none fun id =>
  bif beqL (r.args id) args && (Nat.blt id.nat h.nx.nat && isCells (h.get id) r.cells) then some (r.out .e,h) else none
theorem row2_does (hfs : Fns Y fs) (hf : ef.nv = none ∧ ∃ fn c, FnOk Y k ef fn c) (ha : ∀ id, CArgs [id] (r.args id) (r.args .e)) (hflat : r.cells.all V.flat = true) (ho : ∀ ι ι' x, VR ι (r.out .e) x → VR ι' (r.out .e) x)
    (hc:Ret fs ef (r.args .e) (rowH r) fun v h1=>v=r.out .e∧h1.get .e=(rowH r).get .e) :
    ∀ args h v h',row2G r args h=some (v,h')→Does Y k args h v h':=by
  intro args h v h' he
  unfold row2G at he
  obtain ⟨id,_,he⟩:=oGet_some (by simp) he
  obtain ⟨h0,he⟩:=cond_ok (by simp) he
  cases he
  simp only [Bool.and_eq_true] at h0
  obtain ⟨h1,h2,h3⟩:=h0
  have h1:=beqL_eq h1
  subst h1
  have h2:id.nat + 1 ≤ h.nx.nat:=Nat.le_of_ble_eq_true h2
  have h3:=isCells_eq h3
  obtain ⟨m,v1,g1,heq,rfl,hg⟩:=hc
  have hcn:Canon [id] h (rowH r):=by
    refine ⟨rfl,by simp,fun x hx=>?_,fun j hj=>?_⟩
    · have:x=id:=by simpa using hx
      subst this; omega
    · have:j=0:=by simpa using hj
      subst this
      exact ⟨_,_,h3,hflat,rfl⟩
  refine does_canon0 hfs hf hcn (ha id).1 (ha id).2 heq (fun j hj=>?_) ho
  have:j=0:=by simpa using hj
  subst this
  exact hg
end
end Go.Ev
namespace Go.Ev
open Go Go.RowKit

def V.plain (v:V):Bool:=match v with | .agg cs=>cs.all V.flat | v=>v.flat
def V.plainT (v:V):Bool:=match v with | .tup vs=>vs.all V.plain | v=>v.plain
theorem VR.plain {ι ι':Io} {v:V} {v':Value} (hf:v.plain=true) (h:VR ι v v'):VR ι' v v':=by
  cases v <;> simp only [V.plain] at hf <;> try exact h.flat hf
  rename_i cs
  cases h with
  | agg hl h ho=>exact .agg hl (fun i h1 h2=>(h i h1 h2).flat (List.all_eq_true.1 hf _ (List.getElem_mem h1))) ho
theorem VR.plainT {ι ι':Io} {v:V} {v':Value} (hf:v.plainT=true) (h:VR ι v v'):VR ι' v v':=by
  cases v <;> simp only [V.plainT] at hf <;> try exact h.plain hf
  cases h with
  | tup hl h=>exact .tup hl (fun i h1 h2=>(h i h1 h2).plain (List.all_eq_true.1 hf _ (List.getElem_mem h1)))
theorem VRs.plain {ι ι':Io}:∀ {vs:List V} {us:List Value},vs.all V.plain=true→VRs ι vs us→VRs ι' vs us
  | [],us,_,h=>by obtain rfl:=h.inv_nil; exact VRs.nil
  | v :: vs,us,hf,h=>by
    obtain ⟨u,us',rfl,h1,h2⟩:=h.inv_cons
    rw [List.all_cons,Bool.and_eq_true] at hf
    exact VRs.cons (h1.plain hf.1) (VRs.plain hf.2 h2)
theorem gives_of_ret {Y:Rig} {fs:T EF} (hfs:Fns Y fs) {k:K} {ef:EF} (hf:ef.nv=none ∧ ∃ fn c,FnOk Y k ef fn c) {args:List V} {v:V} (ha:args.all V.plain=true) (hv:v.plainT=true) (he:Ret fs ef args ⟨.e, .nil⟩ fun r _=>r=v):Gives Y k args v:=by
  intro ι vals w hvals
  obtain ⟨_,fn,c,hf⟩:=hf
  obtain ⟨n,u,h',hc,rfl⟩:=he
  refine (callF_rel (evalOk hfs n) hf hc (hvals.plain (ι':=fun _=>none) ha) (WR.empty Y.tab w)).mono ?_
  rintro e w' ⟨ι',v',rfl,hs,hvr,_⟩
  exact ⟨v',rfl,fun ι=>hvr.plainT hv,hs.os,hs.tape,hs.output,hs.size,fun b hb=>hs.keep b hb fun _ _ h=>absurd h (by simp)⟩
open Classical in
noncomputable def dataG {α:Type} (A : α → List V) (F : α → V) (args:List V):Option V:=if h:∃ x,A x=args then some (F h.choose) else none
theorem dataG_at {α:Type} {A : α → List V} {F : α → V} (hA:∀ x y,A x=A y→F x=F y) (x : α):dataG A F (A x)=some (F x):=by
  have h:∃ y,A y=A x:=⟨x,rfl⟩
  unfold dataG
  rw [dif_pos h]
  exact congrArg some (hA _ _ h.choose_spec)
theorem dataG_gives {Y : Rig} {fs : T EF} (hfs : Fns Y fs) {k : K} {ef : EF} (hf : ef.nv = none ∧ ∃ fn c, FnOk Y k ef fn c) {α : Type} {A : α → List V} {F : α → V} (ha : ∀ x, (A x).all V.plain = true) (hv : ∀ x, (F x).plainT = true) (he : ∀ x, Ret fs ef (A x) ⟨.e, .nil⟩ fun r _ => r = F x) :
    ∀ args v,dataG A F args=some v→Gives Y k args v:=by
  intro args v hg
  unfold dataG at hg
  split at hg
  · rename_i h
    cases hg
    have:=gives_of_ret hfs hf (ha h.choose) (hv h.choose) (he h.choose)
    rw [h.choose_spec] at this
    exact this
  · cases hg
theorem callP_data {fs:T EF} {k:K} {ef:EF} {α:Type} {A : α → List V} {F : α → V} (hf:fs.get k=some ef) (hn:ef.nv=some (flatG (dataG A F))) (hA:∀ x y,A x=A y→F x=F y) (x : α) (h:H) (P:V→H→Prop):CallP fs (.fn k []) (A x) h P=P (F x) h:=by
  have e:=dataG_at hA x
  apply propext
  refine ⟨fun hc=>?_,fun hp=>?_⟩
  · obtain ⟨n,v,h',hc,hp⟩:=hc
    have:callV fs (eval fs n) (.fn k []) (A x) h = .ok (F x) h:=by
      show oGet (fs.get k) .no (fun ef=>callE (eval fs n) ef (cat (A x) []) h)=_
      rw [hf,cat_eq,List.append_nil]
      show callE (eval fs n) ef (A x) h=_
      unfold callE
      rw [hn]
      show oGet (flatG (dataG A F) (A x) h) RV.no (fun p=>RV.ok p.1 p.2)=_
      unfold flatG
      rw [e]; rfl
    rw [this] at hc
    cases hc
    exact hp
  · exact callP_nat hf hn (v:=F x) (h':=h) (by rw [cat_eq,List.append_nil]; unfold flatG; rw [e]; rfl) hp
end Go.Ev
namespace Go.Ev
open Go Go.RowKit
section
variable {fs:T EF} {ro:Option K} {Q:Ex→Fr→H→Prop} {R:Fr→H→Prop} {fr:Fr} {h h':H} {d:Option K} {l:List EOper} {x y z:EO} {v:V} {f:V→H→Prop} {P Q':Prop}
/-! Code -/
theorem w_skip:W fs ro .skip Q fr h=Q .normal fr h:=of_eq_true (eq_self _)
theorem w_reg {ops:List EOper}:W fs ro (.reg ops) Q fr h=X fs ops (Q .normal) fr h:=of_eq_true (eq_self _)
theorem w_draw {st:List Stage}:W fs ro (.draw st) Q fr h=XD fs st (Q .normal) fr h:=of_eq_true (eq_self _)
theorem w_seq {a b:EC}:W fs ro (.seq a b) Q fr h=W fs ro a (seqK (W fs ro b) Q) fr h:=of_eq_true (eq_self _)
def ckB (v:V):Prop:=match v with | .b _=>True | _=>False
def cbB (v:V):Bool:=match v with | .b r=>r | _=>false
theorem ckB_b {b:Bool}:ckB (.b b)=True:=of_eq_true (eq_self _)
theorem cbB_b {b:Bool}:cbB (.b b)=b:=of_eq_true (eq_self _)
theorem w_cond {a b:EC}:W fs ro (.cond x a b) Q fr h=(ckB (ev fr x)∧if cbB (ev fr x)=true then W fs ro a Q fr h else W fs ro b Q fr h):=by
  show condP (ev fr x) (W fs ro a Q fr h) (W fs ro b Q fr h)=_
  generalize ev fr x=v
  cases v <;> simp [condP,ckB,cbB]
  rename_i r
  cases r <;> simp
theorem w_block {id:Nat} {c:EC}:W fs ro (.block id c) Q fr h=W fs ro c (atK id Q) fr h:=of_eq_true (eq_self _)
theorem w_exit {id:Nat}:W fs ro (.exit id) Q fr h=Q (.exit id) fr h:=of_eq_true (eq_self _)
theorem w_ret:W fs ro .ret Q fr h=Q .ret fr h:=of_eq_true (eq_self _)
theorem seqK_n {A:(Ex→Fr→H→Prop)→Fr→H→Prop}:seqK A Q .normal fr h=A Q fr h:=of_eq_true (eq_self _)
theorem seqK_e {A:(Ex→Fr→H→Prop)→Fr→H→Prop} {i:Nat}:seqK A Q (.exit i) fr h=Q (.exit i) fr h:=of_eq_true (eq_self _)
theorem seqK_r {A:(Ex→Fr→H→Prop)→Fr→H→Prop}:seqK A Q .ret fr h=Q .ret fr h:=of_eq_true (eq_self _)
theorem atK_n {id:Nat}:atK id Q .normal fr h=Q .normal fr h:=of_eq_true (eq_self _)
theorem atK_r {id:Nat}:atK id Q .ret fr h=Q .ret fr h:=of_eq_true (eq_self _)
theorem atK_e {id j:Nat}:atK id Q (.exit j) fr h=if j=id then Q .normal fr h else Q (.exit j) fr h:=by
  show ((j=id→Q .normal fr h)∧(j ≠ id→Q (.exit j) fr h))=_
  by_cases e:j=id <;> simp [e]
theorem loopK_n {σ:Type} {I : σ → Fr→H→Prop} {μ : σ → Nat} {s : σ}:loopK I μ s Q .normal fr h = ∃ s', μ s' < μ s∧I s' fr h:=of_eq_true (eq_self _)
theorem loopK_e {σ:Type} {I : σ → Fr→H→Prop} {μ : σ → Nat} {s : σ} {i:Nat}:loopK I μ s Q (.exit i) fr h=Q (.exit i) fr h:=of_eq_true (eq_self _)
theorem loopK_r {σ:Type} {I : σ → Fr→H→Prop} {μ : σ → Nat} {s : σ}:loopK I μ s Q .ret fr h=Q .ret fr h:=of_eq_true (eq_self _)
theorem retK_n {ef:EF}:retK ef f .normal fr h = ∃ vs,readRs fr h ef.rs=some vs∧f (retV vs) h:=of_eq_true (eq_self _)
theorem retK_r {ef:EF}:retK ef f .ret fr h = ∃ vs,readRs fr h ef.rs=some vs∧f (retV vs) h:=of_eq_true (eq_self _)
/-! Operations -/
theorem x_nil:X fs [] R fr h=R fr h:=of_eq_true (eq_self _)
theorem gp_t:GP (some true) P Q'=P:=by simp [GP]
theorem x_g0 {k:K} {b:Bool} {op:EOp}:X fs (⟨d,some (k,b),op⟩ :: l) R fr h=GP (guardV (getV (fr.get k)) b) (X fs (⟨d,none,op⟩ :: l) R fr h) (X fs l R (putD fr d undefV) h):=by
  show GP (oGet (some (k,b)) (some true) fun p=>guardV (getV (fr.get p.1)) p.2) _ _=_
  show _=GP (guardV (getV (fr.get k)) b) (GP (some true) _ _) _
  rw [gp_t]; rfl
def okG (v:V):Prop:=match v with | .b _=>True | .tup _=>True | _=>False
def asG (v:V) (w:Bool):Bool:=match v with | .b r=>(if w then r else !r) | _=>false
theorem okG_b {b:Bool}:okG (.b b)=True:=of_eq_true (eq_self _)
theorem okG_u:okG undefV=True:=of_eq_true (eq_self _)
theorem asG_t {b:Bool}:asG (.b b) true=b:=of_eq_true (eq_self _)
theorem asG_f {b:Bool}:asG (.b b) false = !b:=of_eq_true (eq_self _)
theorem asG_u {w:Bool}:asG undefV w=false:=of_eq_true (eq_self _)
theorem gp_as {v:V} {w:Bool}:GP (guardV v w) P Q'=(okG v∧if asG v w=true then P else Q'):=by
  cases v <;> simp [GP,guardV,okG,asG]
  rename_i r
  cases r <;> cases w <;> simp
theorem x_g {k:K} {b:Bool} {op:EOp}:X fs (⟨d,some (k,b),op⟩ :: l) R fr h=(okG (getV (fr.get k))∧if asG (getV (fr.get k)) b=true then X fs (⟨d,none,op⟩ :: l) R fr h else X fs l R (putD fr d undefV) h):=by
  rw [x_g0,gp_as]
theorem x_mv:X fs (⟨d,none, .mv x⟩ :: l) R fr h=X fs l R (putD fr d (ev fr x)) h:=by show GP (some true) _ _=_; rw [gp_t]; rfl
theorem x_as:X fs (⟨d,none, .as x⟩ :: l) R fr h=X fs l R (putD fr d (ev fr x)) h:=by show GP (some true) _ _=_; rw [gp_t]; rfl
theorem x_pick:X fs (⟨d,none, .pick x y z⟩ :: l) R fr h=rvP (pickV (ev fr x) (ev fr y) (ev fr z) h) (kX fs l R fr d):=by show GP (some true) _ _=_; rw [gp_t]; rfl
theorem x_alloc {n:Nat} {zs:List V}:X fs (⟨d,none, .alloc n zs⟩ :: l) R fr h=X fs l R (putD fr d (.p h.nx 0)) (h.new (.cells n zs)):=by show GP (some true) _ _=_; rw [gp_t]; rfl
theorem x_box {n:Nat}:X fs (⟨d,none, .box n x⟩ :: l) R fr h=rvP (oGet (cellsN n (ev fr x)) .no fun cs => .ok (.p h.nx 0) (h.new (.cells n cs))) (kX fs l R fr d):=by show GP (some true) _ _=_; rw [gp_t]; rfl
theorem x_build {zs:List V} {ps:List (Nat × Nat × EO)}:X fs (⟨d,none, .build zs ps⟩ :: l) R fr h=rvP (oGet (fillE fr zs ps) .no fun cs => .ok (.agg cs) h) (kX fs l R fr d):=by show GP (some true) _ _=_; rw [gp_t]; rfl
theorem x_bslice {n sz:Nat} {zs:List V} {ps:List (Nat × Nat × EO)}:X fs (⟨d,none, .bslice n sz zs ps⟩ :: l) R fr h=rvP (oGet (fillE fr zs ps) .no fun cs => .ok (.sl h.nx 0 n sz) (h.new (.cells (n * sz) cs))) (kX fs l R fr d):=by show GP (some true) _ _=_; rw [gp_t]; rfl
theorem x_ld:X fs (⟨d,none, .ld x⟩ :: l) R fr h=rvP (loadV h (ev fr x) one?) (kX fs l R fr d):=by show GP (some true) _ _=_; rw [gp_t]; rfl
theorem x_ldn {n:Nat}:X fs (⟨d,none, .ldn n x⟩ :: l) R fr h=rvP (loadV h (ev fr x) (many? n)) (kX fs l R fr d):=by show GP (some true) _ _=_; rw [gp_t]; rfl
theorem x_st {n:Nat}:X fs (⟨d,none, .st n x y⟩ :: l) R fr h=rvP (storeV h n (ev fr x) (ev fr y)) (kX fs l R fr d):=by show GP (some true) _ _=_; rw [gp_t]; rfl
theorem x_bin {op:BinOp}:X fs (⟨d,none, .bin op x y⟩ :: l) R fr h=rvP (okv (binV op (ev fr x) (ev fr y)) h) (kX fs l R fr d):=by show GP (some true) _ _=_; rw [gp_t]; rfl
theorem x_eqk {kd:KD} {b:Bool}:X fs (⟨d,none, .eqk kd b x y⟩ :: l) R fr h=rvP (okv (oGet (keyEq kd (ev fr x) (ev fr y)) none fun r=>some (.b (bif b then !r else r))) h) (kX fs l R fr d):=by show GP (some true) _ _=_; rw [gp_t]; rfl
theorem x_not:X fs (⟨d,none, .not x⟩ :: l) R fr h=rvP ((ev fr x).onB .no fun b => .ok (.b (!b)) h) (kX fs l R fr d):=by show GP (some true) _ _=_; rw [gp_t]; rfl
theorem x_conv {k:IntKind}:X fs (⟨d,none, .conv k x⟩ :: l) R fr h=rvP ((ev fr x).onI .no fun _ n => .ok (.i k (fw k n)) h) (kX fs l R fr d):=by show GP (some true) _ _=_; rw [gp_t]; rfl
theorem x_mkfn {k:K} {cs:List EO}:X fs (⟨d,none, .mkfn k cs⟩ :: l) R fr h=X fs l R (putD fr d (.fn k (evs fr cs))) h:=by show GP (some true) _ _=_; rw [gp_t]; rfl
theorem x_mkmap {kt:Nat}:X fs (⟨d,none, .mkmap kt⟩ :: l) R fr h=X fs l R (putD fr d (.m h.nx)) (h.new (.map kt [])):=by show GP (some true) _ _=_; rw [gp_t]; rfl
theorem x_look {kt:Nat} {kd:KD} {zv:V} {ok:Bool}:X fs (⟨d,none, .look kt kd zv x y ok⟩ :: l) R fr h=rvP (lookV kt kd zv h (ev fr x) (ev fr y) ok) (kX fs l R fr d):=by show GP (some true) _ _=_; rw [gp_t]; rfl
theorem x_mupd {kt:Nat} {kd:KD}:X fs (⟨d,none, .mupd kt kd x y z⟩ :: l) R fr h=rvP (mupdV kt kd h (ev fr x) (ev fr y) (ev fr z)) (kX fs l R fr d):=by show GP (some true) _ _=_; rw [gp_t]; rfl
theorem x_mks {sz:Nat} {zs:List V}:X fs (⟨d,none, .mkslice sz zs x⟩ :: l) R fr h=rvP (mksV sz zs h (ev fr x)) (kX fs l R fr d):=by show GP (some true) _ _=_; rw [gp_t]; rfl
theorem x_fadr {o:Nat}:X fs (⟨d,none, .fadr o x⟩ :: l) R fr h=rvP ((ev fr x).onP fun id p => .ok (.p id (p + o)) h) (kX fs l R fr d):=by show GP (some true) _ _=_; rw [gp_t]; rfl
theorem x_iadr {n sz:Nat}:X fs (⟨d,none, .iadr n sz x y⟩ :: l) R fr h=rvP ((ev fr x).onP fun id off=>idxV (ev fr y) n fun m => .ok (.p id (off + m * sz)) h) (kX fs l R fr d):=by show GP (some true) _ _=_; rw [gp_t]; rfl
noncomputable def iadsV (sz:Nat) (x y:V) (h:H):RV:=x.onSl .no .no fun id off len sz'=>bif Nat.beq sz sz' then idxV y len fun n => .ok (.p id (off + n * sz)) h else .no
theorem x_iads {sz:Nat}:X fs (⟨d,none, .iads sz x y⟩ :: l) R fr h=rvP (iadsV sz (ev fr x) (ev fr y) h) (kX fs l R fr d):=by show GP (some true) _ _=_; rw [gp_t]; rfl
theorem x_ix {n sz:Nat} {a:Bool}:X fs (⟨d,none, .ix n sz a x y⟩ :: l) R fr h=rvP (ixV n sz a (ev fr x) (ev fr y) h) (kX fs l R fr d):=by show GP (some true) _ _=_; rw [gp_t]; rfl
theorem x_ext {i:Nat}:X fs (⟨d,none, .ext x i⟩ :: l) R fr h=rvP ((ev fr x).onTup fun l=>okv (nth l i) h) (kX fs l R fr d):=by show GP (some true) _ _=_; rw [gp_t]; rfl
theorem x_call {args:List EO}:X fs (⟨d,none, .call x args⟩ :: l) R fr h=CallP fs (ev fr x) (evs fr args) h (kX fs l R fr d):=by show GP (some true) _ _=_; rw [gp_t]; rfl
theorem x_len:X fs (⟨d,none, .len x⟩ :: l) R fr h=rvP (lenV (ev fr x) h) (kX fs l R fr d):=by show GP (some true) _ _=_; rw [gp_t]; rfl
noncomputable def nnV (v:V) (h:H):RV:=v.onNN fun v => .ok v h
theorem nn_p {id:K} {off:Nat}:nnV (.p id off) h = .ok (.p id off) h:=of_eq_true (eq_self _)
theorem x_nilck:X fs (⟨d,none, .nilck x⟩ :: l) R fr h=rvP (nnV (ev fr x) h) (kX fs l R fr d):=by show GP (some true) _ _=_; rw [gp_t]; rfl
theorem x_app {sz:Nat}:X fs (⟨d,none, .app sz x y⟩ :: l) R fr h=rvP (appV sz h (ev fr x) (ev fr y)) (kX fs l R fr d):=by show GP (some true) _ _=_; rw [gp_t]; rfl
theorem x_min:X fs (⟨d,none, .min x y⟩ :: l) R fr h=rvP (minV (ev fr x) (ev fr y) h) (kX fs l R fr d):=by show GP (some true) _ _=_; rw [gp_t]; rfl
theorem x_max:X fs (⟨d,none, .max x y⟩ :: l) R fr h=rvP (maxV (ev fr x) (ev fr y) h) (kX fs l R fr d):=by show GP (some true) _ _=_; rw [gp_t]; rfl
theorem kx:kX fs l R fr d v h=X fs l R (putD fr d v) h:=of_eq_true (eq_self _)
theorem rvP_ok:rvP (.ok v h) f=f v h:=of_eq_true (eq_self _)
theorem okv_some:okv (some v) h = .ok v h:=of_eq_true (eq_self _)
/-! Values -/
theorem ev_t {k:K}:ev fr (.t k)=getV (fr.get k):=of_eq_true (eq_self _)
theorem ev_c:ev fr (.c v)=v:=of_eq_true (eq_self _)
theorem evs_nil:evs fr [] = []:=of_eq_true (eq_self _)
theorem evs_cons {as:List EO}:evs fr (x :: as)=ev fr x :: evs fr as:=of_eq_true (eq_self _)
theorem getV_some:getV (some v)=v:=of_eq_true (eq_self _)
theorem putD_some {k:K}:putD fr (some k) v=fr.set k v:=of_eq_true (eq_self _)
theorem putD_none:putD fr none v=fr:=of_eq_true (eq_self _)
variable {k k':IntKind} {a b:Int} {r s:Bool} {id id':K} {off n m sz:Nat}
theorem bin_add:binV .add (.i k a) (.i k b)=some (.i k (fw k (a + b))):=by cases k <;> (show some (V.i _ (fw _ (iadd a b)))=_; rw [iadd_eq])
theorem bin_sub:binV .sub (.i k a) (.i k b)=some (.i k (fw k (a - b))):=by cases k <;> (show some (V.i _ (fw _ (isub a b)))=_; rw [isub_eq])
theorem bin_mul:binV .mul (.i k a) (.i k b)=some (.i k (fw k (a * b))):=by cases k <;> (show some (V.i _ (fw _ (imul a b)))=_; rw [imul_eq])
theorem bin_eql:binV .eql (.i k a) (.i k b)=some (.b (decide (a=b))):=by
  have:binV .eql (.i k a) (.i k b)=some (.b (ieq a b)):=by cases k <;> rfl
  rw [this,ieq_eq]; congr 2
theorem bin_neq:binV .neq (.i k a) (.i k b)=some (.b (decide (a ≠ b))):=by
  have:binV .neq (.i k a) (.i k b)=some (.b (!ieq a b)):=by cases k <;> rfl
  rw [this,ieq_eq]; by_cases h:a=b <;> simp [h]
theorem bin_lss:binV .lss (.i k a) (.i k b)=some (.b (decide (a < b))):=by
  have:binV .lss (.i k a) (.i k b)=some (.b (ilt a b)):=by cases k <;> rfl
  rw [this,ilt_eq]
theorem bin_leq:binV .leq (.i k a) (.i k b)=some (.b (decide (a ≤ b))):=by
  have:binV .leq (.i k a) (.i k b)=some (.b (ile a b)):=by cases k <;> rfl
  rw [this,ile_eq]
theorem bin_gtr:binV .gtr (.i k a) (.i k b)=some (.b (decide (b < a))):=by
  have:binV .gtr (.i k a) (.i k b)=some (.b (ilt b a)):=by cases k <;> rfl
  rw [this,ilt_eq]
theorem bin_geq:binV .geq (.i k a) (.i k b)=some (.b (decide (b ≤ a))):=by
  have:binV .geq (.i k a) (.i k b)=some (.b (ile b a)):=by cases k <;> rfl
  rw [this,ile_eq]
theorem bin_rem (hb:b ≠ 0):binV .rem (.i k a) (.i k b)=some (.i k (a.tmod b)):=by
  have:binV .rem (.i k a) (.i k b)=irem k a b:=by cases k <;> rfl
  rw [this]; unfold irem; rw [ieq_eq,show (b == 0)=false by simpa using hb]; rfl
theorem bin_quo (hb:b ≠ 0):binV .quo (.i k a) (.i k b)=some (.i k (fw k (a.tdiv b))):=by
  have:binV .quo (.i k a) (.i k b)=iquo k a b:=by cases k <;> rfl
  rw [this]; unfold iquo; rw [ieq_eq,show (b == 0)=false by simpa using hb]; rfl
theorem bin_shl (hb:0 ≤ b):binV .shl (.i k a) (.i k' b)=some (.i k (fw k (a * 2 ^ (min b.toNat k.bits)))):=by
  obtain ⟨n,rfl⟩:=Int.eq_ofNat_of_zero_le hb
  have:binV .shl (.i k a) (.i k' (n:Int))=some (shlV k a n):=by cases k <;> rfl
  rw [this]; unfold shlV; rw [imul_eq]; simp
theorem bin_shr {m n:Nat}:binV .shr (.i k (m:Int)) (.i k' (n:Int))=some (.i k ((m / 2 ^ (min n k.bits):Nat):Int)):=by
  have:binV .shr (.i k (m:Int)) (.i k' (n:Int))=some (shrV k (m:Int) n):=by cases k <;> rfl
  rw [this]; rfl
theorem ibits_nat {ff:Nat→Nat→Nat} {g:(w:Nat)→BitVec w→BitVec w→BitVec w} {m n:Nat} (hm:m ≤ kmax k) (hn:n ≤ kmax k):ibits ff g k (m:Int) (n:Int)=((ff m n:Nat):Int):=by
  show (bif Nat.ble m (kmax k) && Nat.ble n (kmax k) then Int.ofNat (ff m n) else slowBits g k m n)=_
  rw [Nat.ble_eq_true_of_le hm,Nat.ble_eq_true_of_le hn]; rfl
theorem bin_and {m n:Nat} (hm:m ≤ kmax k) (hn:n ≤ kmax k):binV .and (.i k (m:Int)) (.i k (n:Int))=some (.i k ((m &&& n:Nat):Int)):=by
  have:binV .and (.i k (m:Int)) (.i k (n:Int))=some (.i k (ibits Nat.land (fun _ x y=>x &&& y) k m n)):=by cases k <;> rfl
  rw [this,ibits_nat hm hn]; rfl
theorem bin_or {m n:Nat} (hm:m ≤ kmax k) (hn:n ≤ kmax k):binV .or (.i k (m:Int)) (.i k (n:Int))=some (.i k ((m ||| n:Nat):Int)):=by
  have:binV .or (.i k (m:Int)) (.i k (n:Int))=some (.i k (ibits Nat.lor (fun _ x y=>x ||| y) k m n)):=by cases k <;> rfl
  rw [this,ibits_nat hm hn]; rfl
theorem bin_xor {m n:Nat} (hm:m ≤ kmax k) (hn:n ≤ kmax k):binV .xor (.i k (m:Int)) (.i k (n:Int))=some (.i k ((m ^^^ n:Nat):Int)):=by
  have:binV .xor (.i k (m:Int)) (.i k (n:Int))=some (.i k (ibits Nat.xor (fun _ x y=>x ^^^ y) k m n)):=by cases k <;> rfl
  rw [this,ibits_nat hm hn]; rfl
theorem fw_in (h1 : -(kmin k:Int) ≤ a) (h2:a ≤ kmax k):fw k a=a:=by
  cases a with
  | ofNat m =>
    show (bif Nat.ble m (kmax k) then Int.ofNat m else k.wrap (.ofNat m))=_
    rw [Nat.ble_eq_true_of_le (show m ≤ kmax k by have:Int.ofNat m=(m:Int):=rfl; omega)]; rfl
  | negSucc m =>
    show (bif Nat.blt m (kmin k) then Int.negSucc m else k.wrap (.negSucc m))=_
    have:Nat.blt m (kmin k)=true:=Nat.ble_eq_true_of_le (by have:Int.negSucc m = -((m:Int) + 1):=rfl; show m + 1 ≤ kmin k; omega)
    rw [this]; rfl
theorem fw64 (h1 : -9223372036854775808 ≤ a) (h2:a ≤ 9223372036854775807):fw .i64 a=a:=fw_in (k := .i64) h1 h2
theorem fwu64 (h1:0 ≤ a) (h2:a ≤ 18446744073709551615):fw .u64 a=a:=fw_in (k := .u64) (by simpa [kmin] using h1) h2
theorem pick_b {u:V}:pickV (.b r) v u h = .ok (if r=true then v else u) h:=by cases r <;> rfl
theorem onB_b {α:Type} {dd : α} {ff:Bool → α}:(V.b r).onB dd ff=ff r:=of_eq_true (eq_self _)
theorem onI_i {α:Type} {dd : α} {ff:IntKind→Int → α}:(V.i k a).onI dd ff=ff k a:=of_eq_true (eq_self _)
theorem onTup_t {vs:List V} {ff:List V→RV}:(V.tup vs).onTup ff=ff vs:=of_eq_true (eq_self _)
theorem onP_p {ff:K→Nat→RV}:(V.p id off).onP ff=ff id off:=of_eq_true (eq_self _)
theorem oGet_s {α β:Type} {u : α} {dd : β} {ff : α → β}:oGet (some u) dd ff=ff u:=of_eq_true (eq_self _)
theorem nth0 {α:Type} {u : α} {us:List α}:nth (u :: us) 0=some u:=of_eq_true (eq_self _)
theorem nth1 {α:Type} {u u1 : α} {us:List α}:nth (u :: u1 :: us) 1=some u1:=of_eq_true (eq_self _)
theorem nth2 {α:Type} {u u1 u2 : α} {us:List α}:nth (u :: u1 :: u2 :: us) 2=some u2:=of_eq_true (eq_self _)
theorem len_sn:lenV .sn h = .ok (.i .i64 0) h:=of_eq_true (eq_self _)
theorem idx_n {ff:Nat→RV} (hm:m < n):idxV (.i k (m:Int)) n ff=ff m:=by
  show (bif Nat.blt m n then ff m else RV.no)=_
  rw [show Nat.blt m n=true from Nat.ble_eq_true_of_le hm]; rfl
theorem iads_sl {y:V}:iadsV sz (.sl id off n sz) y h=idxV y n fun m => .ok (.p id (off + m * sz)) h:=by
  show (bif Nat.beq sz sz then _ else _)=_
  rw [Nat.beq_refl]; rfl
theorem load_p {cs:List V} (hb:h.get id = .cells m cs) (hc:nth cs off=some v):loadV h (.p id off) one? = .ok v h:=by
  show okv ((h.get id).onC none fun n cs=>one? cs n off) h=_
  rw [hb]; show okv (nth cs off) h=_; rw [hc]; rfl
theorem loadn_p {cs:List V} (hb:h.get id = .cells m cs) (hm:off + n ≤ m):loadV h (.p id off) (many? n) = .ok (.agg (takeN n (dropN off cs))) h:=by
  show okv ((h.get id).onC none fun m cs=>many? n cs m off) h=_
  rw [hb]; show okv (bif Nat.ble (off + n) m then some (.agg (takeN n (dropN off cs))) else none) h=_
  rw [Nat.ble_eq_true_of_le hm]; rfl
theorem store_p {cs xs:List V} (hb:h.get id = .cells m cs) (hx:cellsN n v=some xs) (hm:off + n ≤ m):storeV h n (.p id off) v = .ok undefV (h.put id (.cells m (setMany cs off xs))):=by
  show (h.get id).onW RV.no (fun m cs=>oGet (cellsN n v) RV.no fun xs=>bif Nat.ble (off + n) m then RV.ok undefV (h.put id (.cells m (setMany cs off xs))) else RV.no)=_
  rw [hb,hx]
  show (bif Nat.ble (off + n) m then RV.ok undefV (h.put id (.cells m (setMany cs off xs))) else RV.no)=_
  rw [Nat.ble_eq_true_of_le hm]; rfl
theorem min_ii:minV (.i k a) (.i k' b) h = .ok (.i k (min a b)) h:=by
  show RV.ok (V.i k (bif ilt b a then b else a)) h=_
  rw [ilt_eq]; by_cases e:b < a <;> simp [e,Int.min_def] <;> omega
theorem max_ii:maxV (.i k a) (.i k' b) h = .ok (.i k (max a b)) h:=by
  show RV.ok (V.i k (bif ilt a b then b else a)) h=_
  rw [ilt_eq]; by_cases e:a < b <;> simp [e,Int.max_def] <;> omega
theorem readRs_nil:readRs fr h []=some []:=of_eq_true (eq_self _)
theorem readRs_t {kk:K} {rs:List ER}:readRs fr h (.tmp kk :: rs)=oGet (readRs fr h rs) none fun l=>some (getV (fr.get kk) :: l):=of_eq_true (eq_self _)
theorem readRs_c {kk:K} {rs:List ER}:readRs fr h (.cell kk :: rs)=oGet (readP h (getV (fr.get kk)) one?) none fun v=>oGet (readRs fr h rs) none fun l=>some (v :: l):=of_eq_true (eq_self _)
theorem readRs_n {kk:K} {n:Nat} {rs:List ER}:readRs fr h (.celln kk n :: rs)=oGet (readP h (getV (fr.get kk)) (many? n)) none fun v=>oGet (readRs fr h rs) none fun l=>some (v :: l):=of_eq_true (eq_self _)
theorem retV_1:retV [v]=v:=of_eq_true (eq_self _)
theorem retV_0:retV [] = .tup []:=of_eq_true (eq_self _)
theorem retV_2 {v1 v2:V} {vs:List V}:retV (v1 :: v2 :: vs) = .tup (v1 :: v2 :: vs):=of_eq_true (eq_self _)
theorem getK_set {kk kk':Nat} {t:Fr}:T.get (K.ofNat kk) (T.set (K.ofNat kk') v t)=if kk=kk' then some v else T.get (K.ofNat kk) t:=by
  rw [T.get_set]
  by_cases e:kk=kk'
  · rw [if_pos e,if_pos (by rw [e])]
  · rw [if_neg e,if_neg (fun h=>e (by rw [← K.ofNat_nat kk,h,K.ofNat_nat]))]
theorem frame_1 {v1:V}:frame .e [v1] .nil=T.set (K.ofNat 0) v1 .nil:=of_eq_true (eq_self _)
theorem frame_2 {v1 v2:V}:frame .e [v1,v2] .nil=T.set (K.ofNat 1) v2 (T.set (K.ofNat 0) v1 .nil):=of_eq_true (eq_self _)
theorem frame_3 {v1 v2 v3:V}:frame .e [v1,v2,v3] .nil=T.set (K.ofNat 2) v3 (T.set (K.ofNat 1) v2 (T.set (K.ofNat 0) v1 .nil)):=of_eq_true (eq_self _)
theorem frame_4 {v1 v2 v3 v4:V}:frame .e [v1,v2,v3,v4] .nil=T.set (K.ofNat 3) v4 (T.set (K.ofNat 2) v3 (T.set (K.ofNat 1) v2 (T.set (K.ofNat 0) v1 .nil))):=of_eq_true (eq_self _)
theorem cells1_i:cellsN 1 (.i k a)=some [.i k a]:=of_eq_true (eq_self _)
end
end Go.Ev
namespace Go.Ev
open Go Go.RowKit

/-! ### Memory that grows -/
def HC (h:H):Prop:=∀ id:K,h.nx.nat ≤ id.nat→h.get id = .dead
structure Grow (b:Nat) (h h':H):Prop where
  nx:h.nx.nat ≤ h'.nx.nat
  old:∀ id:K,id.nat < b→h'.get id=h.get id
  hc:HC h→HC h'
theorem Grow.refl (b:Nat) (h:H):Grow b h h:=⟨Nat.le_refl _,fun _ _=>rfl,fun h=>h⟩
theorem Grow.trans {b:Nat} {h h1 h2:H} (k:Grow b h h1) (l:Grow b h1 h2):Grow b h h2:=⟨Nat.le_trans k.nx l.nx,fun id hi=>(l.old id hi).trans (k.old id hi),fun hc=>l.hc (k.hc hc)⟩
theorem Grow.low {b c:Nat} {h h1:H} (hb:b ≤ c) (k:Grow c h h1):Grow b h h1:=⟨k.nx,fun id hi=>k.old id (Nat.lt_of_lt_of_le hi hb),k.hc⟩
theorem nx_new (h:H) (x:Blk):(h.new x).nx.nat=h.nx.nat + 1:=K.succ_nat _
theorem nx_put (h:H) (k:K) (x:Blk):(h.put k x).nx=h.nx:=rfl
theorem Grow.new {b:Nat} {h:H} (hb:b ≤ h.nx.nat) (x:Blk):Grow b h (h.new x):=by
  refine ⟨by rw [nx_new]; omega,fun id hi=>?_,fun hc id hi=>?_⟩
  · rw [H.get_new,if_neg (fun e=>by rw [e] at hi; omega)]
  · rw [nx_new] at hi
    rw [H.get_new,if_neg (fun e=>by rw [e] at hi; omega)]
    exact hc id (by omega)
theorem Grow.put {b:Nat} {h:H} {k:K} (hb:b ≤ k.nat) (hk:k.nat < h.nx.nat) (x:Blk):Grow b h (h.put k x):=by
  refine ⟨Nat.le_refl _,fun id hi=>?_,fun hc id hi=>?_⟩
  · rw [H.get_put,if_neg (fun e=>by rw [e] at hi; omega)]
  · rw [nx_put] at hi
    rw [H.get_put,if_neg (fun e=>by rw [e] at hi; omega)]
    exact hc id hi
theorem HC.lt {h:H} (hc:HC h) {id:K} (hd:h.get id ≠ .dead):id.nat < h.nx.nat:=by
  rcases Nat.lt_or_ge id.nat h.nx.nat with e | e
  · exact e
  · exact absurd (hc id e) hd
theorem HC.cells {h:H} (hc:HC h) {id:K} {m:Nat} {cs:List V} (hd:h.get id = .cells m cs):id.nat < h.nx.nat:=hc.lt (by rw [hd]; simp)
theorem HC.dead {h:H} (hc:HC h):(h.get h.nx).isDead=true:=by rw [hc h.nx (Nat.le_refl _)]; rfl
theorem get_new_same {h:H} {x:Blk}:(h.new x).get h.nx=x:=by rw [H.get_new,if_pos rfl]
theorem get_new_old {h:H} {x:Blk} {id:K} (hi:id.nat < h.nx.nat):(h.new x).get id=h.get id:=by rw [H.get_new,if_neg (fun e=>by rw [e] at hi; omega)]
theorem get_put_same {h:H} {x:Blk} {id:K}:(h.put id x).get id=x:=by rw [H.get_put,if_pos rfl]
theorem get_put_other {h:H} {x:Blk} {id id':K} (hi:id' ≠ id):(h.put id x).get id'=h.get id':=by rw [H.get_put,if_neg hi]

/-! ### Slices -/
def Sl {α:Type} (e : α → V) (h:H) (v:V) (L:List α):Prop:=(v = .sn∧L = []) ∨ ∃ id off m cs,v = .sl id off L.length 1∧h.get id = .cells m cs∧cs.length=m∧off + L.length ≤ m ∧ ∀ i (hi:i < L.length),cs[off + i]? = some (e L[i])
def Own (b:Nat) (v:V):Prop:=∀ id off n sz,v = .sl id off n sz→b ≤ id.nat
def NotIn (id:K) (v:V):Prop:=∀ off n sz,v ≠ .sl id off n sz
noncomputable def iE (n:Int):V := .i .i64 n
section
variable {α:Type} {e : α → V} {h h':H} {v u:V} {L M:List α} {b:Nat}
theorem Sl.nil:Sl e h .sn ([]:List α) := .inl ⟨rfl,rfl⟩
theorem Own.sn:Own b .sn:=fun _ _ _ _ h=>by cases h
theorem NotIn.sn {id:K}:NotIn id .sn:=fun _ _ _ h=>by cases h
theorem Own.low {c:Nat} (ho:Own c v) (hb:b ≤ c):Own b v:=fun id off n sz e=>Nat.le_trans hb (ho id off n sz e)
theorem Own.notIn {id:K} (ho:Own b v) (hi:id.nat < b):NotIn id v:=fun off n sz e=>by have:=ho id off n sz e; omega
theorem Sl.len (hs:Sl e h v L) (h1:H):lenV v h1 = .ok (.i .i64 (L.length:Int)) h1:=by
  rcases hs with ⟨rfl,rfl⟩ | ⟨id,off,m,cs,rfl,_⟩ <;> rfl
theorem Sl.at (hs:Sl e h v L) (i:Nat) (hi:i < L.length):∃ p,(∀ k h1,iadsV 1 v (.i k (i:Int)) h1 = .ok p h1)∧loadV h p one? = .ok (e L[i]) h:=by
  rcases hs with ⟨rfl,rfl⟩ | ⟨id,off,m,cs,rfl,hb,hl,hm,hx⟩
  · simp at hi
  · refine ⟨.p id (off + i * 1),fun k h1=>?_,?_⟩
    · rw [iads_sl,idx_n hi]
    · exact load_p hb (by rw [nth_eq,Nat.mul_one]; exact hx i hi)
theorem Sl.same (hs:Sl e h v L) (hg:∀ id off n sz,v = .sl id off n sz→h'.get id=h.get id):Sl e h' v L:=by
  rcases hs with ⟨rfl,rfl⟩ | ⟨id,off,m,cs,rfl,hb,hl,hm,hx⟩
  · exact .inl ⟨rfl,rfl⟩
  · exact .inr ⟨id,off,m,cs,rfl,by rw [hg _ _ _ _ rfl]; exact hb,hl,hm,hx⟩
theorem Sl.lt (hs:Sl e h v L) (hc:HC h):∀ id off n sz,v = .sl id off n sz→id.nat < h.nx.nat:=by
  rcases hs with ⟨rfl,rfl⟩ | ⟨id,off,m,cs,rfl,hb,hl,hm,hx⟩
  · exact fun _ _ _ _ h=>by cases h
  · exact fun _ _ _ _ h=>by cases h; exact hc.cells hb
theorem Sl.grow (hs:Sl e h v L) (hc:HC h) (hg:Grow h.nx.nat h h'):Sl e h' v L:=hs.same fun id off n sz ev=>hg.old id (hs.lt hc id off n sz ev)
theorem Sl.new (hs:Sl e h v L) (hc:HC h) (x:Blk):Sl e (h.new x) v L:=hs.grow hc (Grow.new (Nat.le_refl _) x)
theorem Sl.put (hs:Sl e h v L) {id:K} (hn:NotIn id v) (x:Blk):Sl e (h.put id x) v L:=hs.same fun id' off n sz ev=>get_put_other (fun ee=>hn off n sz (by rw [ev,ee]))
theorem Sl.addOf (hs:Sl e h v L):addOf 1 h v=some (L.length,L.map e):=by
  rcases hs with ⟨rfl,rfl⟩ | ⟨id,off,m,cs,rfl,hb,hl,hm,hx⟩
  · rfl
  · show (h.get id).onC none (fun len cs=>bif Nat.beq 1 1 && Nat.ble (off + L.length * 1) len then some (L.length,takeN (L.length * 1) (dropN off cs)) else none)=_
    rw [hb]
    show (bif Nat.beq 1 1 && Nat.ble (off + L.length * 1) m then some (L.length,takeN (L.length * 1) (dropN off cs)) else none)=_
    rw [show (Nat.beq 1 1 && Nat.ble (off + L.length * 1) m)=true by rw [Nat.beq_refl,Nat.ble_eq_true_of_le (by omega)]; rfl]
    show some (L.length,takeN (L.length * 1) (dropN off cs))=_
    congr 2
    rw [takeN_eq,dropN_eq,Nat.mul_one]
    apply List.ext_getElem?
    intro i
    by_cases hi:i < L.length
    · rw [List.getElem?_take,if_pos hi,List.getElem?_drop,hx i hi]; simp [hi]
    · rw [List.getElem?_eq_none (by simp; omega),List.getElem?_eq_none (by simp; omega)]
theorem Sl.appA (hs : Sl e h v L) (ho : Own b v) (hb : b ≤ h.nx.nat) (hu : Go.Ev.addOf 1 h u = some (M.length, M.map e)) (hc : HC h) (hn : L.length + M.length ≤ 16777216) :
    ∃ v' h',appV 1 h v u = .ok v' h'∧Sl e h' v' (L ++ M)∧Own b v'∧Grow b h h' ∧ ∀ id:K,id.nat < h.nx.nat→NotIn id v→h'.get id=h.get id∧NotIn id v':=by
  have hne:∀ id:K,id.nat < h.nx.nat→id ≠ h.nx:=fun id hi ee=>by rw [ee] at hi; omega
  have ht:v.tight=false:=by rcases hs with ⟨rfl,_⟩ | ⟨_,_,_,_,rfl,_⟩ <;> rfl
  unfold appV
  rw [hu]
  simp only [oGet,ht,cond_false]
  show ∃ v' h',v.onSl RV.no (bif Nat.ble M.length 16777216 then app0 1 h M.length (M.map e) else .no) (fun id off n sz'=>(h.get id).onW .no fun len cs=>bif Nat.beq 1 sz' && Nat.ble (off + n * 1) len && Nat.ble (n + M.length) 16777216 then app1 1 h id off n cs M.length (M.map e) else .no) = .ok v' h'∧_
  rcases hs with ⟨rfl,rfl⟩ | ⟨id,off,m,cs,rfl,hb',hl,hm,hx⟩
  · show ∃ v' h',(bif Nat.ble M.length 16777216 then app0 1 h M.length (M.map e) else .no) = .ok v' h'∧_
    rw [Nat.ble_eq_true_of_le (by simpa using hn)]
    show ∃ v' h',app0 1 h M.length (M.map e) = .ok v' h'∧_
    unfold app0
    by_cases hz:M.length=0
    · have:M = []:=List.length_eq_zero_iff.1 hz
      subst this
      exact ⟨.sn,h,rfl, .inl ⟨rfl,rfl⟩,Own.sn,Grow.refl _ _,fun id hi _=>⟨rfl,NotIn.sn⟩⟩
    · rw [show Nat.beq M.length 0=false by rw [← Bool.not_eq_true]; intro h; exact hz (Nat.eq_of_beq_eq_true h)]
      refine ⟨_,_,rfl, .inr ⟨h.nx,0,M.length * 1,M.map e,rfl,get_new_same,by simp,by simp,fun i hi=>?_⟩,fun _ _ _ _ h=>by cases h; exact hb,Grow.new hb _,fun id hi _=>⟨get_new_old hi,fun _ _ _ h=>by cases h; omega⟩⟩
      have hi:i < M.length:=by simpa using hi
      simp [hi]
  · show ∃ v' h',(h.get id).onW RV.no (fun len cs=>bif Nat.beq 1 1 && Nat.ble (off + L.length * 1) len && Nat.ble (L.length + M.length) 16777216 then app1 1 h id off L.length cs M.length (M.map e) else .no) = .ok v' h'∧_
    rw [hb']
    show ∃ v' h',(bif Nat.beq 1 1 && Nat.ble (off + L.length * 1) m && Nat.ble (L.length + M.length) 16777216 then app1 1 h id off L.length cs M.length (M.map e) else .no) = .ok v' h'∧_
    rw [show (Nat.beq 1 1 && Nat.ble (off + L.length * 1) m && Nat.ble (L.length + M.length) 16777216)=true by rw [Nat.beq_refl,Nat.ble_eq_true_of_le (show off + L.length * 1 ≤ m by omega),Nat.ble_eq_true_of_le hn]; rfl]
    show ∃ v' h',app1 1 h id off L.length cs M.length (M.map e) = .ok v' h'∧_
    unfold app1
    by_cases hz:M.length=0
    · have:M = []:=List.length_eq_zero_iff.1 hz
      subst this
      refine ⟨_,h,rfl, .inr ⟨id,off,m,cs,by simp,hb',hl,by simpa using hm,fun i hi=>?_⟩,ho,Grow.refl _ _,fun id' hi hni=>⟨rfl,hni⟩⟩
      have hi':i < L.length:=by simpa using hi
      simpa using hx i hi'
    · rw [show Nat.beq M.length 0=false by rw [← Bool.not_eq_true]; intro h; exact hz (Nat.eq_of_beq_eq_true h)]
      have hid:=hc.cells hb'
      refine ⟨_,_,rfl, .inr ⟨h.nx,0,(L.length + M.length) * 1,cat (takeN (L.length * 1) (dropN off cs)) (M.map e),by simp,get_new_same,?_,by simp,fun i hi=>?_⟩,fun _ _ _ _ h=>by cases h; exact hb,(Grow.put (ho _ _ _ _ rfl) hid _).trans (Grow.new (by exact hb) _),fun id' hi hni=>⟨?_,fun _ _ _ h=>by cases h; exact absurd hi (Nat.lt_irrefl _)⟩⟩
      · rw [cat_eq,takeN_eq,dropN_eq]; simp; omega
      · rw [cat_eq,takeN_eq,dropN_eq,Nat.mul_one,Nat.zero_add]
        have hi':i < L.length + M.length:=by simpa using hi
        by_cases h1:i < L.length
        · rw [List.getElem?_append_left (by simp; omega),List.getElem?_take,if_pos h1,List.getElem?_drop,hx i h1]
          simp [List.getElem_append_left h1]
        · rw [List.getElem?_append_right (by simp; omega)]
          have:(List.take L.length (List.drop off cs)).length=L.length:=by simp; omega
          have hi2:i - L.length < M.length:=by omega
          rw [this,List.getElem_append_right (by omega),List.getElem?_map,List.getElem?_eq_getElem hi2]
          rfl
      · show ((h.put id .dead).new _).get id'=_
        rw [H.get_new,if_neg (show id' ≠ (h.put id .dead).nx from hne id' hi),get_put_other (fun ee=>hni off L.length 1 (by rw [ee]))]
theorem Sl.app (hs : Sl e h v L) (ho : Own b v) (hb : b ≤ h.nx.nat) (hu : Sl e h u M) (hc : HC h) (hn : L.length + M.length ≤ 16777216) :
    ∃ v' h',appV 1 h v u = .ok v' h'∧Sl e h' v' (L ++ M)∧Own b v'∧Grow b h h' ∧ ∀ id:K,id.nat < h.nx.nat→NotIn id v→h'.get id=h.get id∧NotIn id v':=Sl.appA hs ho hb hu.addOf hc hn
theorem Sl.lit {x : α}:Sl e (h.new (.cells (1 * 1) [e x])) (.sl h.nx 0 1 1) [x]:=by
  refine .inr ⟨h.nx,0,1 * 1, [e x],rfl,get_new_same,rfl,by simp,fun i hi=>?_⟩
  have:i=0:=by simpa using hi
  subst this; rfl
theorem Sl.push {x : α} {c : V} (hx : c = e x) (hs : Sl e h v L) (ho : Own b v) (hb : b ≤ h.nx.nat) (hc : HC h) (hn : L.length < 16777216) :
    ∃ v' h',appV 1 (h.new (.cells (1 * 1) [c])) v (.sl h.nx 0 1 1) = .ok v' h'∧Sl e h' v' (L ++ [x])∧Own b v'∧Grow b h h' ∧ ∀ id:K,id.nat < h.nx.nat→NotIn id v→h'.get id=h.get id∧NotIn id v':=by
  subst hx
  have hg:=Grow.new (b:=b) hb (.cells (1 * 1) [e x])
  have hnx:=nx_new h (.cells (1 * 1) [e x])
  obtain ⟨v',h',e1,e2,e3,e4,e5⟩:=Sl.app (b:=b) (hs.new hc (.cells (1 * 1) [e x])) ho (by omega) (Sl.lit (e:=e) (x:=x)) (hg.hc hc) (by simp; omega)
  refine ⟨v',h',e1,e2,e3,hg.trans e4,fun id hi hni=>?_⟩
  obtain ⟨e6,e7⟩:=e5 id (by omega) hni
  exact ⟨by rw [e6,get_new_old hi],e7⟩
theorem set_1 {z c:V}:setMany [z] 0 [c] = [c]:=of_eq_true (eq_self _)
theorem of0:Int.ofNat 0=0:=of_eq_true (eq_self _)
theorem of1:Int.ofNat 1=1:=of_eq_true (eq_self _)
theorem of2:Int.ofNat 2=2:=of_eq_true (eq_self _)
theorem of3:Int.ofNat 3=3:=of_eq_true (eq_self _)
theorem of12:Int.ofNat 12=12:=of_eq_true (eq_self _)
theorem of4:Int.ofNat 4=4:=of_eq_true (eq_self _)
theorem of8:Int.ofNat 8=8:=of_eq_true (eq_self _)
end
end Go.Ev
namespace Go.Ev
open Go Go.RowKit
def Round (fs:T EF) (id:K) (v:V) (h:H) (b:Bool) (h':H):Prop:=∃ n,callV fs (eval fs n) (.yl id) [v] h = .ok (.b b) h'
section
variable {fs:T EF} {go:Go} {fr:Fr} {h h':H} {id:K} {i:Nat} {cs:List V} {B:Nat→Bool}
end

/-! ### A round, and a loop over a function -/
section
variable {fs:T EF} {fr fr1 fr2:Fr} {h h1 h2 h3:H} {id:K} {ps:List K} {a c:EC} {v:V} {vs:List V} {e:Ex}
def afterR (e:Ex) (fr:Fr) (ps:List K) (a c:EC):Blk:=match e with
  | .normal => .loop .ready none fr ps a c
  | e => .loop .done (some e) fr ps a c
def isNo (e:Ex):Bool:=match e with | .normal=>true | _=>false
theorem round_of (hb : h.get id = .loop .ready none fr ps a c) (hl : Nat.beq (lenL [v]) (lenL ps) = true) (ha : Runs fs (some id) a (bindK fr ps [v]) h .normal fr1 h1) (hb1 : h1.get id = .loop .ready none fr ps a c)
    (hc:Runs fs (some id) c fr1 (h1.put id (.loop .busy none fr ps a c)) e fr2 h2) (hb2:h2.get id = .loop .busy none fr ps a c):Round fs id v h (isNo e) (h2.put id (afterR e fr ps a c)):=by
  obtain ⟨n,e1⟩:=ha
  obtain ⟨m,e2⟩:=hc
  have e1:=eval_le fs (Nat.le_max_left n m) _ _ _ _ _ _ _ e1
  have e2:=eval_le fs (Nat.le_max_right n m) _ _ _ _ _ _ _ e2
  refine ⟨max n m,?_⟩
  show (h.get id).onL (fun s _ fr ps a c=>roundA (eval fs (max n m)) id [v] h s fr ps a c)=_
  rw [hb]
  show roundA (eval fs (max n m)) id [v] h .ready fr ps a c=_
  unfold roundA
  rw [hl]
  show ((eval fs (max n m) (some id) a (bindK fr ps [v]) h).all fun e fr' h=>isN e ((h.get id).onL fun s j fr ps a c'=>roundB (eval fs (max n m)) id c fr' h s j fr ps a c'))=_
  rw [e1]
  show (h1.get id).onL (fun s j fr ps a c'=>roundB (eval fs (max n m)) id c fr1 h1 s j fr ps a c')=_
  rw [hb1]
  show ((eval fs (max n m) (some id) c fr1 (h1.put id (.loop .busy none fr ps a c))).all fun e _ h=>(h.get id).onL fun s _ fr ps a c=>isBusy s (endR id e fr ps a c h))=_
  rw [e2]
  show (h2.get id).onL (fun s _ fr ps a c=>isBusy s (endR id e fr ps a c h2))=_
  rw [hb2]
  cases e <;> rfl
theorem Runs.range {ro : Option K} {f : EO} {k : K} {caps : List V} {u : V} {s : LS} {j : Option Ex} {ps' : List K} {a' c' : EC} {frl : Fr} (hro : roOk ro h = true) (hf : ev fr f = .fn k caps)
    (hcall:∃ n,callV fs (eval fs n) (.fn k caps) [.yl h.nx] (h.new (.loop .ready none fr ps a c)) = .ok u h1) (hb:h1.get h.nx = .loop s j frl ps' a' c') (he:(s = .ready∧j=none∧e = .normal) ∨ (s = .done∧j=some e)) :
    Runs fs ro (.rangeF f ps a c) fr h e fr (h1.put h.nx .dead):=by
  obtain ⟨n,hc⟩:=hcall
  refine ⟨n + 1,?_⟩
  show rangeL fs (eval fs n) ro (ev fr f) ps a c fr h=_
  rw [hf]
  unfold rangeL
  have:(roOk ro h && (V.fn k caps).isF)=true:=by rw [hro]; rfl
  rw [this]
  show ((callV fs (eval fs n) (.fn k caps) [.yl h.nx] (h.new (.loop .ready none fr ps a c))).to fun _ h'=>(h'.get h.nx).onL' fun s j=>endL s j h.nx fr h')=_
  rw [hc]
  show (h1.get h.nx).onL' (fun s j=>endL s j h.nx fr h1)=_
  rw [hb]
  rcases he with ⟨rfl,rfl,rfl⟩ | ⟨rfl,rfl⟩ <;> rfl
end

section
variable {fs:T EF} {go:Go} {fr:Fr} {h:H} {id idp:K} {cs:List V} {B:Nat→Bool} {x:EO} {off m n:Nat} {v:V} {k:K}
end
end Go.Ev
namespace Go.Ev
open Go Go.RowKit
section
variable {fs:T EF} {go:Go} {fr:Fr} {h h':H} {id idp:K} {i:Nat} {S:Int}
end
end Go.Ev
namespace Go.Ev
open Go Go.RowKit
section
variable {fs:T EF}
def cntB (B:Nat→Bool) (j:Nat):Nat:=((List.range j).filter B).length
theorem cntB_succ {B:Nat→Bool} {j:Nat}:cntB B (j + 1)=cntB B j + (if B j=true then 1 else 0):=by
  unfold cntB
  rw [List.range_succ,List.filter_append,List.length_append]
  cases h:B j <;> simp [h]
theorem filter_at {B:Nat→Bool} {n j:Nat} (hj:j < n) (hB:B j=true):((List.range n).filter B)[cntB B j]? = some j:=by
  induction n with
  | zero=>omega
  | succ n ih =>
    rw [List.range_succ,List.filter_append]
    by_cases e:j=n
    · subst e
      rw [List.getElem?_append_right (by unfold cntB; omega)]
      simp [cntB,hB]
    · have hlt:j < n:=by omega
      have h1:=ih hlt
      have h2:cntB B j < ((List.range n).filter B).length:=(List.getElem?_eq_some_iff.1 h1).1
      rw [List.getElem?_append_left h2,h1]
def rdyB (fr:Fr) (ps:List K) (a c:EC):Blk := .loop .ready none fr ps a c
def bsyB (fr:Fr) (ps:List K) (a c:EC):Blk := .loop .busy none fr ps a c
def rndK (id:K) (fr:Fr) (ps:List K) (a c:EC) (I:H→Prop) (D:Ex→H→Prop):Ex→Fr→H→Prop:=fun e _ h=>h.get id=bsyB fr ps a c∧(match e with | .normal=>I (h.put id (rdyB fr ps a c)) | e=>D e (h.put id .dead))
def rndA (fs:T EF) (id:K) (fr:Fr) (ps:List K) (a c:EC) (I:H→Prop) (D:Ex→H→Prop):Ex→Fr→H→Prop:=fun e fr1 h=>e = .normal∧h.get id=rdyB fr ps a c∧W fs (some id) c (rndK id fr ps a c I D) fr1 (h.put id (bsyB fr ps a c))
section
variable {id:K} {fr fr1:Fr} {ps:List K} {a c:EC} {I:H→Prop} {D:Ex→H→Prop} {h:H} {i:Nat}
theorem rndA_n:rndA fs id fr ps a c I D .normal fr1 h=(h.get id=rdyB fr ps a c∧W fs (some id) c (rndK id fr ps a c I D) fr1 (h.put id (bsyB fr ps a c))):=by
  show (Ex.normal=Ex.normal∧_)=_
  rw [eq_self,true_and]
theorem rndK_n:rndK id fr ps a c I D .normal fr1 h=(h.get id=bsyB fr ps a c∧I (h.put id (rdyB fr ps a c))):=of_eq_true (eq_self _)
theorem rndK_e:rndK id fr ps a c I D (.exit i) fr1 h=(h.get id=bsyB fr ps a c∧D (.exit i) (h.put id .dead)):=of_eq_true (eq_self _)
theorem rndK_r:rndK id fr ps a c I D .ret fr1 h=(h.get id=bsyB fr ps a c∧D .ret (h.put id .dead)):=of_eq_true (eq_self _)
end
theorem T.set_set {α:Type} (k:K) (x y : α):∀ t:T α,T.set k y (T.set k x t)=T.set k y t:=by
  induction k with
  | e=>intro t; rfl
  | o k ih =>
    intro t
    show T.node (T.set k y (T.set k x t.left)) t.val t.right=T.node (T.set k y t.left) t.val t.right
    rw [ih]
  | z k ih =>
    intro t
    show T.node t.left t.val (T.set k y (T.set k x t.right))=T.node t.left t.val (T.set k y t.right)
    rw [ih]
theorem H.put_put (h:H) (k:K) (x y:Blk):(h.put k x).put k y=h.put k y:=by
  show (⟨h.nx,T.set k y (T.set k x h.t)⟩:H)=⟨h.nx,T.set k y h.t⟩
  rw [T.set_set]
end
section
variable {α:Type} {e : α → V} {fr:Fr} {h:H} {x y:EO} {v:V} {L M:List α} {sz:Nat} {lo hi mx:Option EO}
/-! ### Parts of slices -/
noncomputable def bnd (o:Option V) (d:Nat):Option Nat:=oGet o (some d) fun v=>v.onI none fun _ n=>nonneg n
noncomputable def sliceB (sz : Nat) (x : V) (lo hi mx : Option V) (h : H) : RV := x.onSl .no
    (oGet (bnd lo 0) .no fun l=>oGet (bnd hi 0) .no fun u=>oGet (bnd mx 0) .no fun m=>bif Nat.beq l 0 && Nat.beq u 0 && Nat.beq m 0 then .ok .sn h else .no)
    fun id off n sz'=>bif Nat.beq sz sz' then (oGet (bnd lo 0) .no fun l=>oGet (bnd hi n) .no fun u=>oGet mx (cutV id off n sz h l u none) fun _=>oGet (bnd mx 0) .no fun m=>cutV id off n sz h l u (some m)) else .no
/-! ### Arrays -/
def Ar (e : α → V) (h:H) (id:K) (L:List α):Prop:=h.get id = .cells L.length (L.map e)
theorem Ar.st {id : K} (ha : Ar e h id L) {i : Nat} (hi : i < L.length) {x : α} {c : V} (hc : c = e x) (ho : cellsN 1 c = some [c]) :
    storeV h 1 (.p id (0 + i * 1)) c = .ok undefV (h.put id (.cells L.length ((L.set i x).map e)))∧Ar e (h.put id (.cells L.length ((L.set i x).map e))) id (L.set i x):=by
  subst hc
  refine ⟨?_,?_⟩
  · rw [store_p ha ho (by omega)]
    congr 3
    rw [setMany_eq _ _ _ (by simp; omega)]
    apply List.ext_getElem?
    intro j
    simp only [List.length_cons,List.length_nil,Nat.zero_add,Nat.mul_one]
    rcases Nat.lt_trichotomy j i with h1 | h1 | h1
    · rw [List.append_assoc,List.getElem?_append_left (by simp; omega),List.getElem?_take,if_pos h1,List.getElem?_map,List.getElem?_map,List.getElem?_set,if_neg (by omega)]
    · subst h1
      rw [List.append_assoc,List.getElem?_append_right (by simp; omega)]; simp [hi]
      have:min j L.length=j:=by omega
      rw [this]; simp
    · rw [List.getElem?_append_right (by simp; omega)]
      simp
      rw [show i + 1 + (j - (min i L.length + 1))=j by omega,List.getElem?_set]
      simp; omega
  · show (h.put id _).get id=_
    rw [get_put_same]; simp
def arr (f:Nat → α) (n:Nat):List α:=(List.range n).map f
end
end Go.Ev
namespace Go.Ev
open Go Go.RowKit
section
variable {fs:T EF} {R:Fr→H→Prop} {fr:Fr} {h h0:H} {d:Option K} {l:List EOper} {x y z:EO} {v:V}
def kG (fs:T EF) (l:List EOper) (Q:Fr→H→Prop) (fr:Fr) (d:Option K) (h0:H) (v:V) (_:H):Prop:=XG fs l Q (putD fr d v) h0
theorem kg:kG fs l R fr d h0 v h=XG fs l R (putD fr d v) h0:=of_eq_true (eq_self _)
theorem xg_nil:XG fs [] R fr h=R fr h:=of_eq_true (eq_self _)
theorem xg_g {k:K} {b:Bool} {op:EOp}:XG fs (⟨d,some (k,b),op⟩ :: l) R fr h=(okG (getV (fr.get k))∧if asG (getV (fr.get k)) b=true then XG fs (⟨d,none,op⟩ :: l) R fr h else XG fs l R (putD fr d undefV) h):=by
  show GP (oGet (some (k,b)) (some true) fun p=>guardV (getV (fr.get p.1)) p.2) _ _=_
  rw [← gp_as]
  show GP (guardV (getV (fr.get k)) b) _ _=GP (guardV (getV (fr.get k)) b) (GP (some true) _ _) _
  rw [gp_t]
theorem xg_mv :XG fs (⟨d,none, .mv x⟩ :: l) R fr h=XG fs l R (putD fr d (ev fr x)) h:=by show GP (some true) (true=true∧_) _=_; rw [gp_t,eq_self,true_and]; rfl
theorem xg_pick :XG fs (⟨d,none, .pick x y z⟩ :: l) R fr h=rvP (pickV (ev fr x) (ev fr y) (ev fr z) h) (kG fs l R fr d h):=by show GP (some true) (true=true∧_) _=_; rw [gp_t,eq_self,true_and]; rfl
theorem xg_build {zs:List V} {ps:List (Nat × Nat × EO)}:XG fs (⟨d,none, .build zs ps⟩ :: l) R fr h=rvP (oGet (fillE fr zs ps) .no fun cs => .ok (.agg cs) h) (kG fs l R fr d h):=by show GP (some true) (true=true∧_) _=_; rw [gp_t,eq_self,true_and]; rfl
theorem xg_ld :XG fs (⟨d,none, .ld x⟩ :: l) R fr h=rvP (loadV h (ev fr x) one?) (kG fs l R fr d h):=by show GP (some true) (true=true∧_) _=_; rw [gp_t,eq_self,true_and]; rfl
theorem xg_ldn {n:Nat}:XG fs (⟨d,none, .ldn n x⟩ :: l) R fr h=rvP (loadV h (ev fr x) (many? n)) (kG fs l R fr d h):=by show GP (some true) (true=true∧_) _=_; rw [gp_t,eq_self,true_and]; rfl
theorem xg_bin {op:BinOp}:XG fs (⟨d,none, .bin op x y⟩ :: l) R fr h=rvP (okv (binV op (ev fr x) (ev fr y)) h) (kG fs l R fr d h):=by show GP (some true) (true=true∧_) _=_; rw [gp_t,eq_self,true_and]; rfl
theorem xg_eqk {kd:KD} {b:Bool}:XG fs (⟨d,none, .eqk kd b x y⟩ :: l) R fr h=rvP (okv (oGet (keyEq kd (ev fr x) (ev fr y)) none fun r=>some (.b (bif b then !r else r))) h) (kG fs l R fr d h):=by show GP (some true) (true=true∧_) _=_; rw [gp_t,eq_self,true_and]; rfl
theorem xg_not :XG fs (⟨d,none, .not x⟩ :: l) R fr h=rvP ((ev fr x).onB .no fun b => .ok (.b (!b)) h) (kG fs l R fr d h):=by show GP (some true) (true=true∧_) _=_; rw [gp_t,eq_self,true_and]; rfl
theorem xg_conv {k:IntKind}:XG fs (⟨d,none, .conv k x⟩ :: l) R fr h=rvP ((ev fr x).onI .no fun _ n => .ok (.i k (fw k n)) h) (kG fs l R fr d h):=by show GP (some true) (true=true∧_) _=_; rw [gp_t,eq_self,true_and]; rfl
theorem xg_look {kt:Nat} {kd:KD} {zv:V} {ok:Bool}:XG fs (⟨d,none, .look kt kd zv x y ok⟩ :: l) R fr h=rvP (lookV kt kd zv h (ev fr x) (ev fr y) ok) (kG fs l R fr d h):=by show GP (some true) (true=true∧_) _=_; rw [gp_t,eq_self,true_and]; rfl
theorem xg_fadr {o:Nat}:XG fs (⟨d,none, .fadr o x⟩ :: l) R fr h=rvP ((ev fr x).onP fun id p => .ok (.p id (p + o)) h) (kG fs l R fr d h):=by show GP (some true) (true=true∧_) _=_; rw [gp_t,eq_self,true_and]; rfl
theorem xg_iadr {n sz:Nat}:XG fs (⟨d,none, .iadr n sz x y⟩ :: l) R fr h=rvP ((ev fr x).onP fun id off=>idxV (ev fr y) n fun m => .ok (.p id (off + m * sz)) h) (kG fs l R fr d h):=by show GP (some true) (true=true∧_) _=_; rw [gp_t,eq_self,true_and]; rfl
theorem xg_iads {sz:Nat}:XG fs (⟨d,none, .iads sz x y⟩ :: l) R fr h=rvP (iadsV sz (ev fr x) (ev fr y) h) (kG fs l R fr d h):=by show GP (some true) (true=true∧_) _=_; rw [gp_t,eq_self,true_and]; rfl
theorem xg_slcA {nn sz:Nat} {lo hi:Option EO}:XG fs (⟨d,none, .slcA nn sz x lo hi⟩ :: l) R fr h=rvP (slcAV fr nn sz (ev fr x) lo hi h) (kG fs l R fr d h):=by show GP (some true) (true=true∧_) _=_; rw [gp_t,eq_self,true_and]; rfl
theorem xg_nilck:XG fs (⟨d,none, .nilck x⟩ :: l) R fr h=rvP (nnV (ev fr x) h) (kG fs l R fr d h):=by show GP (some true) (true=true∧_) _=_; rw [gp_t,eq_self,true_and]; rfl
theorem xg_max :XG fs (⟨d,none, .max x y⟩ :: l) R fr h=rvP (maxV (ev fr x) (ev fr y) h) (kG fs l R fr d h):=by show GP (some true) (true=true∧_) _=_; rw [gp_t,eq_self,true_and]; rfl
theorem xg_bslice {k:K} {n sz:Nat} {zs:List V} {ps:List (Nat × Nat × EO)}:XG fs (⟨some k,none, .bslice n sz zs ps⟩ :: l) R fr h=((h.get h.nx).isDead=true ∧ ∃ cs,fillE fr zs ps=some cs∧XG fs l R (fr.set k (.sl h.nx 0 n sz)) (h.new (.cells (n * sz) cs))):=by
  show GP (some true) (∃ k' cs,some k=some k'∧_) _=_
  rw [gp_t]
  apply propext
  constructor
  · rintro ⟨k',cs,e,e1,e2,e3⟩
    cases e
    exact ⟨e1,cs,e2,e3⟩
  · rintro ⟨e1,cs,e2,e3⟩
    exact ⟨k,cs,rfl,e1,e2,e3⟩
def stK (fs:T EF) (b:List K) (c:List EOper) (o:Option EOper) (l:List Stage) (Q:Fr→H→Prop) (h0:H) (fr:Fr) (h:H):Prop:=isFresh h0 h fr b=true∧allStay fs goNo fr h c=true∧(match o with | none=>Q fr h | some o=>X fs [o] (XD fs l Q) fr h)
theorem xd_cons {g c:List EOper} {b:List K} {o:Option EOper} {l:List Stage}:XD fs (⟨g,c,o,b⟩ :: l) R fr h=XG fs g (stK fs b c o l R h) fr h:=of_eq_true (eq_self _)
theorem fresh_nil:isFresh h0 h fr []=true:=of_eq_true (eq_self _)
theorem stK_n {b:List K} {c:List EOper} {l:List Stage}:stK fs b c none l R h0 fr h=(isFresh h0 h fr b=true∧allStay fs goNo fr h c=true∧R fr h):=of_eq_true (eq_self _)
theorem stK_s {b:List K} {c:List EOper} {o:EOper} {l:List Stage}:stK fs b c (some o) l R h0 fr h=(isFresh h0 h fr b=true∧allStay fs goNo fr h c=true∧X fs [o] (XD fs l R) fr h):=of_eq_true (eq_self _)
theorem stay_nil:allStay fs goNo fr h []=true:=of_eq_true (eq_self _)
theorem stay_cons {o:EOper} {c:List EOper}:(allStay fs goNo fr h (o :: c)=true)=(stays fs goNo fr h o=true∧allStay fs goNo fr h c=true):=by
  show ((stays fs goNo fr h o && allStay fs goNo fr h c)=true)=_
  rw [Bool.and_eq_true]
def again (r:RV) (u:V):Prop:=∃ v h,r = .ok v h∧beqV v u=true
theorem again_ok {u:V}:again (.ok v h) u=(beqV v u=true):=by
  apply propext
  constructor
  · rintro ⟨v',h',e,hb⟩; cases e; exact hb
  · exact fun hb=>⟨v,h,rfl,hb⟩
theorem chk_again {r:RV} {u:V}:(r.chk (fun v=>beqV v u)=true)=again r u:=by
  apply propext
  cases r with
  | no=>exact Iff.intro (fun h=>by cases h) (fun ⟨v,h,e,_⟩=>by cases e)
  | ok v h=>rw [again_ok]; rfl
theorem stay_mv {k:K}:(stays fs goNo fr h ⟨some k,none, .mv x⟩=true)=(beqV (ev fr x) (getV (fr.get k))=true):=of_eq_true (eq_self _)
theorem beq_i {k:IntKind} {n:Int}:beqV (.i k n) (.i k n)=true:=by
  show (k == k && ieq n n)=true
  rw [ieq_eq]; cases k <;> simp
theorem Nat.beq_same {n:Nat}:Nat.beq n n=true:=Nat.beq_refl n
theorem Sl.beq {α:Type} {e : α → V} {L:List α} (hs:Sl e h v L):beqV v v=true:=by
  rcases hs with ⟨rfl,_⟩ | ⟨id,off,m,cs,rfl,_⟩
  · rfl
  · show (id.beq id && Nat.beq off off && Nat.beq L.length L.length && Nat.beq 1 1)=true
    rw [K.beq_refl,Nat.beq_same,Nat.beq_same]; rfl
theorem fresh_one {k:K} {n sz:Nat} {x:Blk} (hg:fr.get k=some (.sl h0.nx 0 n sz)):isFresh h0 (h0.new x) fr [k]=true:=by
  show freshL h0.nx.nat (h0.new x).nx.nat (oGet (slId (getV (fr.get k))) [] fun id => [id])=true
  rw [hg]
  show (Nat.ble h0.nx.nat h0.nx.nat && Nat.blt h0.nx.nat (h0.new x).nx.nat && notIn h0.nx [] && true)=true
  rw [Nat.ble_eq_true_of_le (Nat.le_refl _),show Nat.blt h0.nx.nat (h0.new x).nx.nat=true from Nat.ble_eq_true_of_le (by rw [nx_new]; exact Nat.le_refl _)]
  rfl
end
end Go.Ev
namespace Go.Ev
open Go Go.RowKit
def SlArg (W:World) (val:Value) (L:List Int):Prop:=(val = .slice none 0 0∧L = []) ∨ ∃ (b off len:Nat) (zs:List Int),val = .slice (some ⟨b,off,none⟩) len zs.length∧len ≤ zs.length∧L=zs.take len ∧
  (∀ i (hi:i < zs.length),W.cell? ⟨b,off + i,none⟩=some (.int .i64 zs[i])) ∧ ∀ i,i < zs.length→W.frozen? ⟨b,off + i,none⟩=false
theorem intsVR {ι:Io}:∀ {zs:List Int} {vs:List Value},vs.length=zs.length→(∀ i (hi:i < zs.length),vs[i]? = some (.int .i64 zs[i]))→VRs ι (zs.map iE) vs:=by
  intro zs vs hl h
  refine ⟨by rw [List.length_map,hl],fun i h1 h2=>?_⟩
  have hi:i < zs.length:=by simpa using h1
  have:=h i hi
  rw [List.getElem?_eq_getElem h2,Option.some.injEq] at this
  rw [this,List.getElem_map]
  exact .i _ _
end Go.Ev
namespace Go.Ev
open Go Go.RowKit
section
variable {Y:Rig} {fs:T EF} {k:K} {ef:EF} {n:Nat} {args:List V} {L:List Int}
end
theorem callP_flat {fs:T EF} {k:K} {ef:EF} {args:List V} {h:H} {v:V} {g:List V→Option V} {P:V→H→Prop} (hf:fs.get k=some ef) (hn:ef.nv=some (flatG g)) (hg:g args=some v):CallP fs (.fn k []) args h P=P v h:=by
  have hc:∀ n,callV fs (eval fs n) (.fn k []) args h = .ok v h:=fun n=>by
    show (oGet (fs.get k) RV.no fun ef=>callE (eval fs n) ef (cat args []) h)=_
    rw [hf]
    show oGet ef.nv (callF (eval fs n) ef (cat args []) h) (fun g=>oGet (g (cat args []) h) RV.no fun p=>RV.ok p.1 p.2)=_
    rw [hn,cat_eq,List.append_nil]
    show (oGet (flatG g args h) RV.no fun p=>RV.ok p.1 p.2)=_
    unfold flatG
    rw [hg]; rfl
  apply propext
  constructor
  · rintro ⟨n,v',h',e,hp⟩
    rw [hc] at e
    cases e; exact hp
  · intro hp
    exact ⟨0,v,h,hc 0,hp⟩
end Go.Ev
namespace Go.Ev
open Go Go.RowKit Go.ChangeShapes Go.WideShapes Go.ChangeAt
end Go.Ev
namespace Go.Ev
open Go Go.RowKit
section
variable {α:Type} {e : α → V} {h h':H} {v u:V} {L M:List α} {b:Nat}
theorem Sl.st (hs : Sl e h v L) {i : Nat} (hi : i < L.length) {x : α} {c : V} (hc : c = e x) (ho : cellsN 1 c = some [c]) (hhc : HC h) :
    ∃ p id m cs',(∀ k h1,iadsV 1 v (.i k (i:Int)) h1 = .ok p h1)∧storeV h 1 p c = .ok undefV (h.put id (.cells m cs'))∧Sl e (h.put id (.cells m cs')) v (L.set i x)∧(∃ off n sz,v = .sl id off n sz)∧id.nat < h.nx.nat:=by
  subst hc
  rcases hs with ⟨rfl,rfl⟩ | ⟨id,off,m,cs,rfl,hb,hl,hm,hx⟩
  · simp at hi
  · refine ⟨.p id (off + i * 1),id,m,setMany cs (off + i * 1) [e x],fun k h1=>?_,?_,?_,⟨off,L.length,1,rfl⟩,hhc.cells hb⟩
    · rw [iads_sl,idx_n hi]
    · exact store_p hb ho (by omega)
    · have hsm : setMany cs (off + i * 1) [e x] = cs.set (off + i) (e x) := by
        rw [setMany_eq _ _ _ (by simp; omega),Nat.mul_one]
        apply List.ext_getElem?
        intro j
        rcases Nat.lt_trichotomy j (off + i) with h1 | h1 | h1
        · rw [List.append_assoc,List.getElem?_append_left (by simp; omega),List.getElem?_take,if_pos h1,List.getElem?_set,if_neg (by omega)]
        · subst h1
          rw [List.append_assoc,List.getElem?_append_right (by simp; omega),List.getElem?_set]
          have h2:off + i < cs.length:=by omega
          have:off + i - min (off + i) cs.length=0:=by omega
          simp [this,h2]
        · rw [List.getElem?_append_right (by simp; omega),List.getElem?_set,if_neg (by omega),List.getElem?_drop]
          congr 1
          simp; omega
      refine .inr ⟨id,off,m,_,by rw [List.length_set],get_put_same,by rw [hsm,List.length_set]; exact hl,by rw [List.length_set]; exact hm,fun j hj=>?_⟩
      have hj':j < L.length:=by simpa using hj
      rw [hsm,List.getElem?_set]
      by_cases e1:i=j
      · subst e1
        rw [if_pos rfl,if_pos (by omega)]; simp
      · rw [if_neg (by omega),hx j hj',List.getElem_set_ne e1]
end

theorem kNe {a b:K} (h:a.nat < b.nat):a ≠ b:=fun e=>by rw [e] at h; omega
section
variable {α:Type} {e : α → V} {b:Nat} {h h1 h2:H} {idb idl:K} {kept:List (K × Blk)} {o o':V} {L L':List α} {lb:Blk}
theorem Sl.one {v:V} (hs:Sl e h v L):cellsN 1 v=some [v]:=by rcases hs with ⟨rfl,_⟩ | ⟨_,_,_,_,rfl,_⟩ <;> rfl
end

section
variable {fs:T EF} {fr:Fr} {h:H} {k:K} {x y:EO}
theorem stay_iads {sz:Nat}:(stays fs goNo fr h ⟨some k,none, .iads sz x y⟩=true)=again (iadsV sz (ev fr x) (ev fr y) h) (getV (fr.get k)):=chk_again
theorem stay_ld:(stays fs goNo fr h ⟨some k,none, .ld x⟩=true)=again (loadV h (ev fr x) one?) (getV (fr.get k)):=chk_again
theorem stay_bin {op:BinOp}:(stays fs goNo fr h ⟨some k,none, .bin op x y⟩=true)=again (okv (binV op (ev fr x) (ev fr y)) h) (getV (fr.get k)):=chk_again
theorem beq_p {id:K} {off:Nat}:beqV (.p id off) (.p id off)=true:=by
  show (id.beq id && Nat.beq off off)=true
  rw [K.beq_refl,Nat.beq_same]; rfl
variable {α:Type} {e : α → V} {v:V} {L:List α}
end
theorem rep_cell {z:V}:∀ n,rep [z] n=List.replicate n z
  | 0=>rfl
  | n + 1=>by
    show cat [z] (rep [z] n)=_
    rw [rep_cell n,cat_eq]; rfl
theorem mks_ints {h:H} {k:IntKind} {n:Nat} (hn:n ≤ 1000000):mksV 1 [.i .i64 0] h (.i k (n:Int)) = .ok (.sl h.nx 0 n 1) (h.new (.cells (n * 1) (rep [.i .i64 0] n))):=by
  show (bif Nat.ble n 1000000 then RV.ok (.sl h.nx 0 n 1) (h.new (.cells (n * 1) (rep [.i .i64 0] n))) else .no)=_
  rw [Nat.ble_eq_true_of_le hn]; rfl
theorem mks_sl {h:H} {n:Nat}:Sl iE (h.new (.cells (n * 1) (rep [.i .i64 0] n))) (.sl h.nx 0 n 1) (List.replicate n (0:Int)) :=
  .inr ⟨h.nx,0,n * 1,rep [.i .i64 0] n,by rw [List.length_replicate],get_new_same,by rw [rep_cell,List.length_replicate,Nat.mul_one],by rw [List.length_replicate]; omega,fun i hi=>by
    have hi:i < n:=by simpa using hi
    rw [rep_cell,Nat.zero_add,List.getElem?_replicate,if_pos hi,List.getElem_replicate]; rfl⟩
end Go.Ev
namespace Go.Ev
open Go Go.RowKit
def Sr {α:Type} (e : α → V) (h:H) (v:V) (L:List α):Prop:=(v = .sn∧L = []) ∨ ∃ id off m cs,v = .sl id off L.length 1∧(h.get id = .cells m cs ∨ h.get id = .rom m cs)∧cs.length=m∧off + L.length ≤ m ∧ ∀ i (hi:i < L.length),cs[off + i]? = some (e L[i])
theorem load_r {h:H} {id:K} {m off:Nat} {v:V} {cs:List V} (hb:h.get id = .cells m cs ∨ h.get id = .rom m cs) (hc:nth cs off=some v):loadV h (.p id off) one? = .ok v h:=by
  show okv ((h.get id).onC none fun n cs=>one? cs n off) h=_
  rcases hb with hb | hb <;> rw [hb] <;> show okv (nth cs off) h=_ <;> rw [hc] <;> rfl
section
variable {α:Type} {e : α → V} {h h':H} {v u:V} {L M:List α} {b:Nat}
theorem Sl.sr (hs:Sl e h v L):Sr e h v L:=by
  rcases hs with hs | ⟨id,off,m,cs,h1,h2,h3⟩
  · exact .inl hs
  · exact .inr ⟨id,off,m,cs,h1, .inl h2,h3⟩
theorem Sr.nil:Sr e h .sn ([]:List α) := .inl ⟨rfl,rfl⟩
theorem Sr.len (hs:Sr e h v L) (h1:H):lenV v h1 = .ok (.i .i64 (L.length:Int)) h1:=by
  rcases hs with ⟨rfl,rfl⟩ | ⟨id,off,m,cs,rfl,_⟩ <;> rfl
theorem Sr.at (hs:Sr e h v L) (i:Nat) (hi:i < L.length):∃ p,(∀ k h1,iadsV 1 v (.i k (i:Int)) h1 = .ok p h1)∧loadV h p one? = .ok (e L[i]) h:=by
  rcases hs with ⟨rfl,rfl⟩ | ⟨id,off,m,cs,rfl,hb,hl,hm,hx⟩
  · simp at hi
  · refine ⟨.p id (off + i * 1),fun k h1=>?_,?_⟩
    · rw [iads_sl,idx_n hi]
    · exact load_r hb (by rw [nth_eq,Nat.mul_one]; exact hx i hi)
theorem Sr.same (hs:Sr e h v L) (hg:∀ id off n sz,v = .sl id off n sz→h'.get id=h.get id):Sr e h' v L:=by
  rcases hs with ⟨rfl,rfl⟩ | ⟨id,off,m,cs,rfl,hb,hl,hm,hx⟩
  · exact .inl ⟨rfl,rfl⟩
  · exact .inr ⟨id,off,m,cs,rfl,by rw [hg _ _ _ _ rfl]; exact hb,hl,hm,hx⟩
theorem Sr.lt (hs:Sr e h v L) (hc:HC h):∀ id off n sz,v = .sl id off n sz→id.nat < h.nx.nat:=by
  rcases hs with ⟨rfl,rfl⟩ | ⟨id,off,m,cs,rfl,hb,hl,hm,hx⟩
  · exact fun _ _ _ _ h=>by cases h
  · exact fun _ _ _ _ h=>by cases h; exact hc.lt (by rcases hb with hb | hb <;> rw [hb] <;> simp)
theorem Sr.grow (hs:Sr e h v L) (hc:HC h) (hg:Grow h.nx.nat h h'):Sr e h' v L:=hs.same fun id off n sz ev=>hg.old id (hs.lt hc id off n sz ev)
theorem Sr.beq (hs:Sr e h v L):beqV v v=true:=by
  rcases hs with ⟨rfl,_⟩ | ⟨id,off,m,cs,rfl,_⟩
  · rfl
  · show (id.beq id && Nat.beq off off && Nat.beq L.length L.length && Nat.beq 1 1)=true
    rw [K.beq_refl,Nat.beq_same,Nat.beq_same]; rfl
theorem Sr.one {v:V} (hs:Sr e h v L):cellsN 1 v=some [v]:=by rcases hs with ⟨rfl,_⟩ | ⟨_,_,_,_,rfl,_⟩ <;> rfl
end
structure Roms (Y:Rig) (ι:Io) (h:H) (W:World):Prop where
  wr:WR Y.tab ι h W
  hc:HC h
  all:∀ id q, ι id=some q → ∃ n cs,h.get id = .rom n cs ∧ ∃ p,q.pin=some p∧W.heap[q.b]? = some (.cells p.1 p.2.1 p.2.2)
noncomputable def noH:H:=⟨.e, .nil⟩
theorem Roms.nil {Y:Rig} {W:World}:Roms Y (fun _=>none) noH W :=
  ⟨⟨(fun _ _ h=>absurd h (by simp)),(fun _ _ h=>absurd h (by simp)),(fun _ _ _ _ h=>absurd h (by simp)),(fun _ _=>rfl)⟩,fun id _=>by
    show getB (T.get id .nil) = .dead
    rw [T.get_nil]; rfl,fun _ _ h=>absurd h (by simp)⟩
section
variable {Y:Rig} {ι:Io} {h:H} {W:World}
theorem Roms.add (r:Roms Y ι h W) {val:Value} {L:List Int} (ha:SlArg W val L):∃ ι' h' v,Roms Y ι' h' W∧Ext ι ι'∧VR ι' v val∧Sr iE h' v L∧Grow h.nx.nat h h':=by
  rcases ha with ⟨rfl,rfl⟩ | ⟨b,off,len,zs,rfl,hlen,rfl,hcell,hfro⟩
  · exact ⟨ι,h, .sn,r,Ext.refl _, .sn,Sr.nil,Grow.refl _ _⟩
  have hn : ι h.nx=none:=r.wr.fresh _ (Nat.le_refl _)
  by_cases hz:zs.length=0
  · obtain rfl:=List.length_eq_zero_iff.1 hz
    obtain rfl:len=0:=by simpa using hlen
    have g:Grow h.nx.nat h (h.new (.rom 0 [])):=Grow.new (Nat.le_refl _) _
    refine ⟨ι,h.new (.rom 0 []), .sl h.nx 0 0 1,⟨r.wr.more (HX.new h _),g.hc r.hc,fun id q hq=>?_⟩,Ext.refl _, .sl0, .inr ⟨h.nx,0,0, [],rfl, .inr get_new_same,rfl,by simp,fun i hi=>by simp at hi⟩,g⟩
    have:id.nat < h.nx.nat:=by
      rcases Nat.lt_or_ge id.nat h.nx.nat with h1 | h1
      · exact h1
      · rw [r.wr.fresh id h1] at hq; cases hq
    rw [get_new_old this]
    exact r.all id q hq
  · have h0:=hcell 0 (by omega)
    obtain ⟨cur,ty,fz,hb⟩:∃ cur ty fz,W.heap[b]? = some (.cells cur ty fz):=by
      unfold World.cell? at h0
      split at h0
      · rename_i c t f hh; exact ⟨c,t,f,hh⟩
      · cases h0
    have hbl:b < W.heap.size:=(Array.getElem?_eq_some_iff.1 hb).1
    have hcur:∀ i (hi:i < zs.length),cur[off + i]? = some (.int .i64 zs[i]):=fun i hi=>by
      have:=hcell i hi
      rw [cell_of_row W b _ cur ty fz hb] at this
      exact this
    have hsz:off + zs.length ≤ cur.size:=by
      have:=hcur (zs.length - 1) (by omega)
      have:=(Array.getElem?_eq_some_iff.1 this).1
      omega
    have hin:List.take zs.length (List.drop off cur.toList)=zs.map (Value.int .i64):=by
      apply List.ext_getElem?
      intro i
      rw [List.getElem?_take,List.getElem?_map]
      by_cases hi:i < zs.length
      · rw [if_pos hi,List.getElem?_drop,Array.getElem?_toList,hcur i hi,List.getElem?_eq_getElem hi]; rfl
      · rw [if_neg hi,List.getElem?_eq_none (by omega)]; rfl
    have q:∃ q:Pl,q=⟨b,off,zs.length,some (cur,ty,fz)⟩:=⟨_,rfl⟩
    obtain ⟨q,hq⟩:=q
    have hext:=updI_ext (q:=q) hn
    have g:Grow h.nx.nat h (h.new (.rom zs.length (zs.map iE))):=Grow.new (Nat.le_refl _) _
    have hlt:∀ id q', ι id=some q'→id.nat < h.nx.nat:=fun id q' hq'=>by
      rcases Nat.lt_or_ge id.nat h.nx.nat with h1 | h1
      · exact h1
      · rw [r.wr.fresh id h1] at hq'; cases hq'
    have hall:∀ id q',updI ι h.nx q id=some q' → ∃ n cs,(h.new (.rom zs.length (zs.map iE))).get id = .rom n cs ∧ ∃ p,q'.pin=some p∧W.heap[q'.b]? = some (.cells p.1 p.2.1 p.2.2):=fun id q' hq'=>by
      by_cases e:id=h.nx
      · subst e
        rw [updI_same] at hq'
        cases hq'
        subst hq
        exact ⟨_,_,get_new_same,_,rfl,hb⟩
      · rw [updI_other _ _ e] at hq'
        rw [get_new_old (hlt id q' hq')]
        exact r.all id q' hq'
    refine ⟨updI ι h.nx q,h.new (.rom zs.length (zs.map iE)), .sl h.nx 0 len 1,⟨⟨fun id q' h'=>?_,fun id q' h'=>?_,fun id id' q1 q2 h1 h2 _ _ _=>?_,fun id hid=>?_⟩,g.hc r.hc,hall⟩,hext,?_,?_,g⟩
    · by_cases e:id=h.nx
      · subst e
        rw [updI_same] at h'
        cases h'
        rw [get_new_same]
        subst hq
        refine ⟨cur,ty,fz,hb,by simp,hsz,Nat.le_refl _,fun c hc=>?_,?_,?_,?_⟩
        · obtain ⟨z,_,rfl⟩:=List.mem_map.1 hc; rfl
        · show VRs _ _ (List.take zs.length (List.drop off cur.toList))
          rw [hin]
          exact intsVR (by simp) (fun i hi=>by simp [hi])
        · intro j h1 h2 h3
          have h1:off ≤ j:=h1
          have h2:j < off + zs.length:=h2
          have:=hfro (j - off) (by omega)
          unfold World.frozen? at this
          rw [hb] at this
          simp only [Bool.and_eq_false_iff,decide_eq_false_iff_not] at this
          omega
        · intro p hp
          cases hp
          exact ⟨rfl,rfl,fun _ _=>rfl⟩
      · rw [updI_other _ _ e] at h'
        rw [get_new_old (hlt id q' h')]
        exact (r.wr.blk id q' h').mono hext rfl
    · by_cases e:id=h.nx
      · subst e; rw [updI_same] at h'; cases h'; subst hq; exact hbl
      · rw [updI_other _ _ e] at h'; exact r.wr.lt id q' h'
    · obtain ⟨_,_,a1,_⟩:=hall id q1 h1
      obtain ⟨_,_,a2,_⟩:=hall id' q2 h2
      exact .inr ⟨by rw [a1]; trivial,by rw [a2]; trivial⟩
    · have h1:(h.new (.rom zs.length (zs.map iE))).nx.nat=h.nx.nat + 1:=K.succ_nat _
      rw [h1] at hid
      rw [updI_other _ _ (fun e=>by rw [e] at hid; omega)]
      exact r.wr.fresh id (by omega)
    · have:=VR.sl (off:=0) (n:=len) (sz:=1) (c:=zs.length) (updI_same ι h.nx q) (by subst hq; show 0 + zs.length * 1 ≤ zs.length; omega) hlen (by omega)
      subst hq
      simpa using this
    · refine .inr ⟨h.nx,0,zs.length,zs.map iE,by rw [List.length_take,Nat.min_eq_left hlen], .inr get_new_same,by simp,by simp; omega,fun i hi=>?_⟩
      have hi':i < len:=by rw [List.length_take] at hi; omega
      rw [Nat.zero_add,List.getElem?_map,List.getElem?_eq_getElem (by omega),List.getElem_take]; rfl
theorem Roms.below (r:Roms Y ι h W) {n':Nat} {ι':Io} {h':H} {W':World} (st:Step h.nx.nat ι W n' ι' W') (wr':WR Y.tab ι' h' W') (g:Grow h.nx.nat h h'):Below W.heap.size W W':=by
  refine ⟨st.os,st.tape,st.output,st.size,fun b' hb'=>?_⟩
  by_cases ex:∃ id q, ι id=some q∧q.b=b'
  · obtain ⟨id,q,hq,rfl⟩:=ex
    obtain ⟨n,cs,hg,p,hp,hW⟩:=r.all id q hq
    have hid:id.nat < h.nx.nat:=by
      rcases Nat.lt_or_ge id.nat h.nx.nat with h1 | h1
      · exact h1
      · rw [r.wr.fresh id h1] at hq; cases hq
    have b1:=wr'.blk id q (st.ext id q hq)
    rw [g.old id hid,hg] at b1
    obtain ⟨cur,ty,fz,j1,j2,j3,j4,j5,j6,j7,j8⟩:=b1
    obtain ⟨p1,p2,p3⟩:=j8 p hp
    subst p1 p2
    have:cur=p.1:=by
      apply Array.ext_getElem?
      intro j
      exact p3 j (by omega)
    rw [j1,hW,this]
  · exact st.keep b' hb' fun id q hq e=>ex ⟨id,q,hq,e⟩
theorem Roms.call (r : Roms Y ι h W) {fs : T EF} (hfs : Fns Y fs) {k : K} {ef : EF} (hf : ef.nv = none ∧ ∃ fn c, FnOk Y k ef fn c) {vs : List V} {vals : List Value} (hv : VRs ι vs vals) (hrun : Ret fs ef vs h fun u h' => u = .b true ∧ Grow h.nx.nat h h') :
    Calls Y.P k.nat vals.toArray W fun e W'=>e = .returned (.bool true)∧Below W.heap.size W W':=by
  obtain ⟨hnv,fn,c,hfn⟩:=hf
  obtain ⟨n,u,h',e,rfl,hg⟩:=hrun
  refine (callsIn_wide.1 (callF_rel (evalOk hfs n) hfn e hv r.wr)).mono ?_
  rintro e w' ⟨ι',v',rfl,hst,hvr,hwr⟩
  have:=hvr.of_b
  subst this
  exact ⟨rfl,r.below hst hwr hg⟩
end
end Go.Ev
namespace Go.Ev
open Go Go.RowKit
section
variable {fs:T EF} {fr:Fr} {h h1 h2:H} {x y:EO} {k:K}
theorem fill_0 {zs:List V}:fillE fr zs []=some zs:=of_eq_true (eq_self _)
theorem cells2 {a b:V}:cellsN 2 (.agg [a,b])=some [a,b]:=of_eq_true (eq_self _)
theorem ldn2 {id:K} {a b:V} (hb:h.get id = .cells 2 [a,b]):loadV h (.p id 0) (many? 2) = .ok (.agg [a,b]) h:=by
  rw [loadn_p hb (by omega)]; rfl
theorem ld20 {id:K} {a b:V} (hb:h.get id = .cells 2 [a,b]):loadV h (.p id 0) one? = .ok a h:=load_p hb rfl
theorem ld21 {id:K} {a b:V} (hb:h.get id = .cells 2 [a,b]):loadV h (.p id 1) one? = .ok b h:=load_p hb rfl
theorem st2 {id:K} {a b c d:V} (hb:h.get id = .cells 2 [a,b]):storeV h 2 (.p id 0) (.agg [c,d]) = .ok undefV (h.put id (.cells 2 [c,d])):=by
  rw [store_p hb cells2 (by omega)]; rfl
theorem st1 {id:K} {a c:V} (hb:h.get id = .cells 1 [a]) (hc:cellsN 1 c=some [c]):storeV h 1 (.p id 0) c = .ok undefV (h.put id (.cells 1 [c])):=by
  rw [store_p hb hc (by omega)]; rfl
theorem ck_i {x y:Int} (hx:inR .i64 x=true) (hy:inR .i64 y=true):ckEq (some .i64) (.i .i64 x) (.i .i64 y)=some (ieq x y):=by
  show (bif (IntKind.i64 == IntKind.i64 && IntKind.i64 == IntKind.i64) && (inR .i64 x && inR .i64 y) then some (ieq x y) else none)=_
  rw [hx,hy]; rfl
theorem keyEq_2 {a b c d:Int} (ha:inR .i64 a=true) (hb:inR .i64 b=true) (hc:inR .i64 c=true) (hd:inR .i64 d=true):keyEq (.many [some .i64,some .i64]) (.agg [.i .i64 a, .i .i64 b]) (.agg [.i .i64 c, .i .i64 d])=some (decide (a=c) && decide (b=d)):=by
  show oGet (ckEq (some .i64) (.i .i64 a) (.i .i64 c)) none (fun r=>oGet (oGet (ckEq (some .i64) (.i .i64 b) (.i .i64 d)) none fun r=>oGet (some true) none fun s=>some (r && s)) none fun s=>some (r && s))=_
  rw [ck_i ha hc,ck_i hb hd]
  show some (ieq a c && (ieq b d && true))=_
  rw [ieq_eq,ieq_eq]
  by_cases e1:a=c <;> by_cases e2:b=d <;> simp [e1,e2]
end
/-! ### Slices of elements of several cells -/
def Sk {α:Type} (k:Nat) (e : α → List V) (h:H) (v:V) (L:List α):Prop:=(v = .sn∧L = []) ∨ ∃ id off m cs,v = .sl id off L.length k∧h.get id = .cells m cs∧cs.length=m∧off + L.length * k ≤ m∧(cs.drop off).take (L.length * k)=L.flatMap e
section
variable {α:Type} {k:Nat} {e : α → List V} {h h':H} {v u:V} {L M:List α} {b:Nat}
theorem Sk.nil:Sk k e h .sn ([]:List α) := .inl ⟨rfl,rfl⟩
theorem Sk.len (hs:Sk k e h v L) (h1:H):lenV v h1 = .ok (.i .i64 (L.length:Int)) h1:=by
  rcases hs with ⟨rfl,rfl⟩ | ⟨id,off,m,cs,rfl,_⟩ <;> rfl
theorem Sk.same (hs:Sk k e h v L) (hg:∀ id off n sz,v = .sl id off n sz→h'.get id=h.get id):Sk k e h' v L:=by
  rcases hs with ⟨rfl,rfl⟩ | ⟨id,off,m,cs,rfl,hb,hx⟩
  · exact .inl ⟨rfl,rfl⟩
  · exact .inr ⟨id,off,m,cs,rfl,by rw [hg _ _ _ _ rfl]; exact hb,hx⟩
theorem Sk.lt (hs:Sk k e h v L) (hc:HC h):∀ id off n sz,v = .sl id off n sz→id.nat < h.nx.nat:=by
  rcases hs with ⟨rfl,rfl⟩ | ⟨id,off,m,cs,rfl,hb,hx⟩
  · exact fun _ _ _ _ h=>by cases h
  · exact fun _ _ _ _ h=>by cases h; exact hc.cells hb
theorem Sk.grow (hs:Sk k e h v L) (hc:HC h) (hg:Grow h.nx.nat h h'):Sk k e h' v L:=hs.same fun id off n sz ev=>hg.old id (hs.lt hc id off n sz ev)
theorem Sk.put (hs:Sk k e h v L) {id:K} (hn:NotIn id v) (x:Blk):Sk k e (h.put id x) v L:=hs.same fun id' off n sz ev=>get_put_other (fun ee=>hn off n sz (by rw [ev,ee]))
theorem Sk.one {v:V} (hs:Sk k e h v L):cellsN 1 v=some [v]:=by rcases hs with ⟨rfl,_⟩ | ⟨_,_,_,_,rfl,_⟩ <;> rfl
theorem Sk.beq (hs:Sk k e h v L):beqV v v=true:=by
  rcases hs with ⟨rfl,_⟩ | ⟨id,off,m,cs,rfl,_⟩
  · rfl
  · show (id.beq id && Nat.beq off off && Nat.beq L.length L.length && Nat.beq k k)=true
    rw [K.beq_refl,Nat.beq_same,Nat.beq_same,Nat.beq_same]; rfl
theorem flat_len (he:∀ x,(e x).length=k) (L:List α):(L.flatMap e).length=L.length * k:=by
  induction L with
  | nil=>simp
  | cons x L ih=>rw [List.flatMap_cons,List.length_append,ih,he,List.length_cons,Nat.add_mul]; omega
theorem Sk.push (he : ∀ x, (e x).length = k) (_ : 0 < k) {x : α} (hs : Sk k e h v L) (ho : Own b v) (hb : b ≤ h.nx.nat) (hc : HC h) (hn : L.length < 16777216) :
    ∃ v' h',appV k (h.new (.cells (1 * k) (e x))) v (.sl h.nx 0 1 k) = .ok v' h'∧Sk k e h' v' (L ++ [x])∧Own b v'∧Grow b h h' ∧ ∀ id:K,id.nat < h.nx.nat→NotIn id v→h'.get id=h.get id∧NotIn id v':=by
  have hg:=Grow.new (b:=b) hb (.cells (1 * k) (e x))
  have hnx:=nx_new h (.cells (1 * k) (e x))
  have hne:∀ id:K,id.nat < h.nx.nat + 1→id ≠ (h.new (.cells (1 * k) (e x))).nx:=fun id hi ee=>by rw [ee] at hi; omega
  have hadd:addOf k (h.new (.cells (1 * k) (e x))) (.sl h.nx 0 1 k)=some (1,e x):=by
    show ((h.new (.cells (1 * k) (e x))).get h.nx).onC none (fun len cs=>bif Nat.beq k k && Nat.ble (0 + 1 * k) len then some (1,takeN (1 * k) (dropN 0 cs)) else none)=_
    rw [get_new_same]
    show (bif Nat.beq k k && Nat.ble (0 + 1 * k) (1 * k) then some (1,takeN (1 * k) (dropN 0 (e x))) else none)=_
    rw [Nat.beq_refl,Nat.ble_eq_true_of_le (by omega),takeN_eq,dropN_eq,List.drop_zero,List.take_of_length_le (by rw [he]; omega)]; rfl
  have ht:v.tight=false:=by rcases hs with ⟨rfl,_⟩ | ⟨_,_,_,_,rfl,_⟩ <;> rfl
  unfold appV
  rw [hadd]
  simp only [oGet,ht,cond_false]
  show ∃ v' h',v.onSl RV.no (bif Nat.ble 1 16777216 then app0 k (h.new (.cells (1 * k) (e x))) 1 (e x) else .no) (fun id off n sz'=>((h.new (.cells (1 * k) (e x))).get id).onW .no fun len cs=>bif Nat.beq k sz' && Nat.ble (off + n * k) len && Nat.ble (n + 1) 16777216 then app1 k (h.new (.cells (1 * k) (e x))) id off n cs 1 (e x) else .no) = .ok v' h'∧_
  rcases hs with ⟨rfl,rfl⟩ | ⟨id,off,m,cs,rfl,hb',hl,hm,hx⟩
  · refine ⟨_,_,rfl, .inr ⟨_,0,1 * k,e x,rfl,get_new_same,by rw [he]; omega,by simp,?_⟩,fun _ _ _ _ h=>by cases h; omega,hg.trans (Grow.new (by omega) _),fun id hi _=>⟨?_,fun _ _ _ h=>by cases h; omega⟩⟩
    · simp [he,List.take_of_length_le]
    · rw [get_new_old (by omega),get_new_old hi]
  · have hid:=hc.cells hb'
    show ∃ v' h',((h.new (.cells (1 * k) (e x))).get id).onW RV.no (fun len cs=>bif Nat.beq k k && Nat.ble (off + L.length * k) len && Nat.ble (L.length + 1) 16777216 then app1 k (h.new (.cells (1 * k) (e x))) id off L.length cs 1 (e x) else .no) = .ok v' h'∧_
    rw [get_new_old hid,hb']
    show ∃ v' h',(bif Nat.beq k k && Nat.ble (off + L.length * k) m && Nat.ble (L.length + 1) 16777216 then app1 k (h.new (.cells (1 * k) (e x))) id off L.length cs 1 (e x) else .no) = .ok v' h'∧_
    rw [show (Nat.beq k k && Nat.ble (off + L.length * k) m && Nat.ble (L.length + 1) 16777216)=true by rw [Nat.beq_refl,Nat.ble_eq_true_of_le hm,Nat.ble_eq_true_of_le (show L.length + 1 ≤ 16777216 by omega)]; rfl]
    refine ⟨_,_,rfl, .inr ⟨(h.new (.cells (1 * k) (e x))).nx,0,(L.length + 1) * k,cat (takeN (L.length * k) (dropN off cs)) (e x),by simp,get_new_same,?_,by simp,?_⟩,fun _ _ _ _ h=>by cases h; omega,(hg.trans (Grow.put (ho _ _ _ _ rfl) (by omega) _)).trans (Grow.new (by rw [nx_put]; omega) _),fun id' hi hni=>⟨?_,fun _ _ _ h=>by cases h; omega⟩⟩
    · rw [cat_eq,takeN_eq,dropN_eq,hx,List.length_append,flat_len he,he,Nat.add_mul]; omega
    · rw [cat_eq,takeN_eq,dropN_eq,hx,List.drop_zero,List.flatMap_append,List.take_of_length_le (by rw [List.length_append,flat_len he,he]; simp [Nat.add_mul])]
      simp
    · show (((h.new (.cells (1 * k) (e x))).put id .dead).new _).get id'=_
      rw [H.get_new,if_neg (show id' ≠ ((h.new (.cells (1 * k) (e x))).put id .dead).nx from hne id' (by omega)),get_put_other (fun ee=>hni off L.length k (by rw [ee])),get_new_old hi]
end
end Go.Ev
namespace Go.Ev
open Go Go.RowKit Go.ChangeShapes Go.WideShapes Go.ChangeAt
def Plain (P:Program) (e:TypeId):Prop:=∀ {H:Type} (enc:TypeId × Value→H) (W W':World) (base:Nat) (sp sp':Nat→Bool) (held:Bool) (n:Nat) (cs:List Value),DataW.trod enc P W base sp held n e cs=DataW.trod enc P W' base sp' held n e cs
theorem plain_int {P:Program} {e:TypeId} {k:IntKind} (he:P.underlying e=some (.int k)):Plain P e:=by
  intro H enc W W' base sp sp' held n cs
  cases n with
  | zero=>rfl
  | succ n =>
    rw [DataW.trod_step,DataW.trod_step]; unfold DataW.trodStep; simp only [he]
    match cs with
    | []=>rfl
    | [c]=>cases c <;> rfl
    | c :: _ :: _=>cases c <;> rfl
theorem plain_arr {P:Program} {e i:TypeId} {m:Nat} (he:P.underlying e=some (.array m i)) (hi:Plain P i):Plain P e:=by
  intro H enc W W' base sp sp' held n cs
  cases n with
  | zero=>rfl
  | succ n =>
    rw [DataW.trod_step,DataW.trod_step]
    unfold DataW.trodStep
    simp only [he]
    have:(fun j=>DataW.trod enc P W base sp held n i ((cs.drop (j * P.cellsOf i)).take (P.cellsOf i)))=fun j=>DataW.trod enc P W' base sp' held n i ((cs.drop (j * P.cellsOf i)).take (P.cellsOf i)):=by
      funext j; exact hi enc W W' base sp sp' held n _
    rw [this]
theorem mapM_same {α β:Type} {f g : α → Option β}:∀ l:List α,(∀ x ∈ l,f x=g x)→l.mapM f=l.mapM g
  | [],_=>rfl
  | x :: l,h=>by
    rw [List.mapM_cons,List.mapM_cons,h x (by simp),mapM_same l fun y hy=>h y (List.mem_cons_of_mem _ hy)]
theorem cell_below {W W':World} {a:Addr} (hb:Below W.heap.size W W') (ha:a.block < W.heap.size):W'.cell? a=W.cell? a:=by
  unfold World.cell?
  rw [hb.block a.block ha]
theorem trod_slice_frame {H : Type} {enc : TypeId × Value → H} {P : Program} {W W' : World} {t e : TypeId} (ht : P.underlying t = some (.slice e)) (pe : Plain P e) (hpos : 0 < P.cellsOf e) (hb : Below W.heap.size W W') {v : Value} {d : DataW H} {p : List MemPlace}
    (h:DataW.Trod enc P W 0 (fun _=>true) true t v d p):DataW.Trod enc P W' 0 (fun b=>decide (b < W.heap.size)) true t v d p:=by
  obtain ⟨fuel,hf⟩:=h
  rcases DataW.trod_slice ht hf with ⟨hcs,hx⟩ | ⟨a,len,cap,elems,rest,n,rfl,hcs,hx,h0,hl,hm,hlen,hel,hsp,_⟩
  · rw [hcs] at hf
    refine ⟨fuel,?_⟩
    rw [hcs]
    cases fuel with
    | zero=>cases hf
    | succ n =>
      rw [DataW.trod_step] at hf ⊢
      unfold DataW.trodStep at hf ⊢
      simp only [ht] at hf ⊢
      exact hf
  · obtain ⟨hrl,hr⟩:=hsp rfl
    refine ⟨n + 1,?_⟩
    rw [hcs] at hf ⊢
    rw [DataW.trod_step] at hf ⊢
    unfold DataW.trodStep at hf ⊢
    simp only [ht] at hf ⊢
    rw [if_pos ⟨h0,hl,hm⟩] at hf ⊢
    rw [← hf]
    by_cases hc0:cap=0
    · subst hc0
      obtain rfl:len=0:=by omega
      simp
    · have hbl : a.block < W.heap.size := by
        have:∃ i y,(W.cells? 0 (a.add (i * P.cellsOf e)) (P.cellsOf e)).bind (DataW.trod enc P W 0 (fun _=>true) true n e)=some y:=by
          by_cases h1:0 < len
          · exact ⟨0,elems[0]'(by omega),by rw [hel 0 h1,List.getElem?_eq_getElem (by omega)]⟩
          · exact ⟨len + 0,rest[0]'(by omega),by rw [hr 0 (by omega),List.getElem?_eq_getElem (by omega)]⟩
        obtain ⟨i,y,hy⟩:=this
        obtain ⟨cs,h1,_⟩:=Option.bind_eq_some_iff.1 hy
        unfold World.cells? at h1
        rw [if_pos (Nat.zero_le _)] at h1
        obtain ⟨k,hk⟩:∃ k,P.cellsOf e=k + 1:=⟨P.cellsOf e - 1,by omega⟩
        rw [hk,List.range_succ_eq_map,List.mapM_cons] at h1
        cases h2:W.cell? ((a.add (i * (k + 1))).add 0) with
        | none=>rw [h2] at h1; simp at h1
        | some c =>
          unfold World.cell? at h2
          have hbk:((a.add (i * (k + 1))).add 0).block=a.block:=by rw [block_add,block_add]
          rw [hbk] at h2
          split at h2
          · rename_i hh; exact (Array.getElem?_eq_some_iff.1 hh).1
          · cases h2
      have el:∀ i,(W'.cells? 0 (a.add (i * P.cellsOf e)) (P.cellsOf e)).bind (DataW.trod enc P W' 0 (fun b=>decide (b < W.heap.size)) true n e)=(W.cells? 0 (a.add (i * P.cellsOf e)) (P.cellsOf e)).bind (DataW.trod enc P W 0 (fun _=>true) true n e):=by
        intro i
        have h1:W'.cells? 0 (a.add (i * P.cellsOf e)) (P.cellsOf e)=W.cells? 0 (a.add (i * P.cellsOf e)) (P.cellsOf e):=by
          unfold World.cells?
          rw [if_pos (Nat.zero_le _),if_pos (Nat.zero_le _)]
          exact mapM_same _ fun j _=>cell_below hb (by rw [block_add,block_add]; exact hbl)
        rw [h1]
        congr 1
        funext cs
        exact pe enc W' W 0 _ _ true n cs
      simp only [el,hbl,decide_true,if_true]
def SlArgK (k:Nat) (W:World) (val:Value) (len:Nat) (zs:List Int):Prop:=(val = .slice none 0 0∧len=0∧zs = []) ∨ ∃ (b off cap:Nat),val = .slice (some ⟨b,off,none⟩) len cap∧len ≤ cap∧zs.length=cap * k ∧
  (∀ i (hi:i < zs.length),W.cell? ⟨b,off + i,none⟩=some (.int .i64 zs[i])) ∧ ∀ i,i < zs.length→W.frozen? ⟨b,off + i,none⟩=false
def Srk (k:Nat) (h:H) (v:V) (len:Nat) (cs0:List V):Prop:=(v = .sn∧len=0∧cs0 = []) ∨ ∃ id off m cs,v = .sl id off len k∧(h.get id = .cells m cs ∨ h.get id = .rom m cs)∧cs.length=m∧off + len * k ≤ m∧(cs.drop off).take (len * k)=cs0
theorem Srk.lt {k len:Nat} {h:H} {v:V} {cs0:List V} (hs:Srk k h v len cs0) (hc:HC h):∀ id off n sz,v = .sl id off n sz→id.nat < h.nx.nat:=by
  rcases hs with ⟨rfl,_⟩ | ⟨id,off,m,cs,rfl,hb,_⟩
  · exact fun _ _ _ _ h=>by cases h
  · exact fun _ _ _ _ h=>by cases h; exact hc.lt (by rcases hb with hb | hb <;> rw [hb] <;> simp)
theorem Srk.grow {k len:Nat} {h h':H} {v:V} {cs0:List V} (hs:Srk k h v len cs0) (hc:HC h) (hg:Grow h.nx.nat h h'):Srk k h' v len cs0:=by
  have lt:=hs.lt hc
  rcases hs with hs | ⟨id,off,m,cs,rfl,hb,hx⟩
  · exact .inl hs
  · exact .inr ⟨id,off,m,cs,rfl,by rw [hg.old id (lt _ _ _ _ rfl)]; exact hb,hx⟩
section
variable {Y:Rig} {ι:Io} {h:H} {W:World}
theorem Roms.addK (r:Roms Y ι h W) {k:Nat} (hk:0 < k) {val:Value} {len:Nat} {zs:List Int} (ha:SlArgK k W val len zs):∃ ι' h' v,Roms Y ι' h' W∧Ext ι ι'∧VR ι' v val∧Srk k h' v len ((zs.take (len * k)).map iE)∧Grow h.nx.nat h h':=by
  rcases ha with ⟨rfl,rfl,rfl⟩ | ⟨b,off,cap,rfl,hlen,hzl,hcell,hfro⟩
  · exact ⟨ι,h, .sn,r,Ext.refl _, .sn, .inl ⟨rfl,rfl,by simp⟩,Grow.refl _ _⟩
  -- all its numbers,as a slice of numbers
  have ha1:SlArg W (.slice (some ⟨b,off,none⟩) zs.length zs.length) zs := .inr ⟨b,off,zs.length,zs,rfl,Nat.le_refl _,by rw [List.take_length],hcell,hfro⟩
  have hkk:len * k ≤ cap * k:=Nat.mul_le_mul_right k hlen
  by_cases hz:zs.length=0
  · have hc0 : cap = 0 := by
      rw [hz] at hzl
      rcases Nat.mul_eq_zero.1 hzl.symm with h | h
      · exact h
      · omega
    subst hc0
    obtain rfl:len=0:=by omega
    obtain rfl:=List.length_eq_zero_iff.1 hz
    have g:Grow h.nx.nat h (h.new (.rom 0 [])):=Grow.new (Nat.le_refl _) _
    refine ⟨ι,h.new (.rom 0 []), .sl h.nx 0 0 k,⟨r.wr.more (HX.new h _),g.hc r.hc,fun id q hq=>?_⟩,Ext.refl _, .sl0, .inr ⟨h.nx,0,0, [],rfl, .inr get_new_same,rfl,by simp,by simp⟩,g⟩
    have:id.nat < h.nx.nat:=by
      rcases Nat.lt_or_ge id.nat h.nx.nat with h1 | h1
      · exact h1
      · rw [r.wr.fresh id h1] at hq; cases hq
    rw [get_new_old this]
    exact r.all id q hq
  · obtain ⟨ι',h',v,r',x,vr,sr,g⟩:=r.add ha1
    rcases sr with ⟨_,e⟩ | ⟨id,off',m,cs,rfl,hb,hl,hm,hx⟩
    · rw [e] at hz; exact absurd rfl hz
    · obtain ⟨q, hq, hcap, eb⟩ : ∃ q, ι' id = some q ∧ off' + zs.length * 1 ≤ q.room ∧ (⟨b, off, none⟩ : Addr) = ⟨q.b, q.base + off', none⟩ := by
        generalize hn:zs.length=n at vr
        generalize hval:Value.slice (some ⟨b,off,none⟩) n n=val at vr
        cases vr with
        | sl hq hcap hn' h0=>cases hval; exact ⟨_,hq,hcap,rfl⟩
        | sl0=>omega
      rw [eb]
      refine ⟨ι',h', .sl id off' len k,r',x,?_, .inr ⟨id,off',m,cs,rfl,hb,hl,by omega,?_⟩,g⟩
      · refine VR.sl (c:=cap) hq ?_ hlen hk
        rw [← hzl]; simpa using hcap
      · apply List.ext_getElem?
        intro i
        rw [List.getElem?_take,List.getElem?_map]
        by_cases hi:i < len * k
        · rw [if_pos hi,List.getElem?_drop,hx i (by omega),List.getElem?_take,if_pos hi,List.getElem?_eq_getElem (by omega)]; rfl
        · rw [if_neg hi,List.getElem?_take,if_neg hi]; rfl
end
theorem trod_array2 {H : Type} {enc : TypeId × Value → H} {P : Program} {w : World} {base : Nat} {spare : Nat → Bool} {held : Bool} {t e : TypeId} {fuel : Nat} {c0 c1 : Value} {x : DataW H × List MemPlace} (ht : P.underlying t = some (.array 2 e)) (hce : P.cellsOf e = 1)
    (h:DataW.trod enc P w base spare held fuel t [c0,c1]=some x):∃ y0 y1 n,DataW.trod enc P w base spare held n e [c0]=some y0∧DataW.trod enc P w base spare held n e [c1]=some y1:=by
  cases fuel with
  | zero=>simp [DataW.trod] at h
  | succ n =>
    unfold DataW.trod at h
    rw [ht] at h
    have r2:List.range 2 = [0,1]:=rfl
    simp [r2,hce] at h
    obtain ⟨_,h⟩:=h
    cases h0:DataW.trod enc P w base spare held n e [c0] with
    | none=>simp [h0] at h
    | some y0 =>
      cases h1:DataW.trod enc P w base spare held n e [c1] with
      | none=>simp [h0,h1] at h
      | some y1=>exact ⟨y0,y1,n,h0,h1⟩
theorem cells2_of {w:World} {A:Addr} {cs:List Value} (h:w.cells? 0 A 2=some cs):∃ c0 c1,cs = [c0,c1]∧w.cell? (A.add 0)=some c0∧w.cell? (A.add 1)=some c1:=by
  unfold World.cells? at h
  rw [if_pos (Nat.zero_le _),show List.range 2 = [0,1] from rfl] at h
  cases h0:w.cell? (A.add 0) with
  | none=>simp [List.mapM_cons,h0] at h
  | some c0 =>
    cases h1:w.cell? (A.add 1) with
    | none=>simp [List.mapM_cons,h0,h1] at h
    | some c1=>simp [List.mapM_cons,h0,h1] at h; exact ⟨c0,c1,h.symm,rfl,rfl⟩
def numZ (c:Option Value):Int:=match c with | some (.int _ n)=>n | _=>0
end Go.Ev
namespace Go.Ev
open Go Go.RowKit Go.ChangeShapes Go.WideShapes Go.ChangeAt
def qE (x:Int × Int):List V := [.i .i64 x.1, .i .i64 x.2]
theorem qE_len:∀ x,(qE x).length=2:=fun _=>rfl
theorem flat_drop {α:Type} {k:Nat} {e : α → List V} (he:∀ x,(e x).length=k):∀ (L:List α) (i:Nat) (hi:i < L.length),((L.flatMap e).drop (i * k)).take k=e L[i]
  | [],i,hi=>absurd hi (Nat.not_lt_zero _)
  | x :: L,0,_=>by rw [List.flatMap_cons,Nat.zero_mul,List.drop_zero,← he x,List.take_left]; rfl
  | x :: L,i + 1,hi=>by
    rw [List.flatMap_cons,show (i + 1) * k=(e x).length + i * k by rw [he,Nat.add_mul]; omega,List.drop_length_add_append,flat_drop he L i (by simpa using hi)]; rfl
theorem Sk.at2 {h:H} {v:V} {L:List (Int × Int)} (hs:Sk 2 qE h v L) {i:Nat} (hi:i < L.length):∃ p,(∀ k h1,iadsV 2 v (.i k (i:Int)) h1 = .ok p h1)∧loadV h p (many? 2) = .ok (.agg [.i .i64 L[i].1, .i .i64 L[i].2]) h:=by
  rcases hs with ⟨rfl,rfl⟩ | ⟨id,off,m,cs,rfl,hb,hl,hm,hx⟩
  · simp at hi
  · refine ⟨.p id (off + i * 2),fun k h1=>?_,?_⟩
    · rw [iads_sl,idx_n hi]
    · rw [loadn_p hb (by omega),takeN_eq,dropN_eq]
      have h1:=flat_drop qE_len L i hi
      rw [← hx,List.drop_take,List.take_take,List.drop_drop,Nat.min_eq_left (by omega)] at h1
      rw [h1]; rfl
def Srp (h:H) (v:V) (L:List (Int × Int)):Prop:=Srk 2 h v L.length (L.flatMap qE)
section
variable {h h':H} {v:V} {L:List (Int × Int)}
theorem Srp.len (hs:Srp h v L) (h1:H):lenV v h1 = .ok (.i .i64 (L.length:Int)) h1:=by
  rcases hs with ⟨rfl,h0,_⟩ | ⟨id,off,m,cs,rfl,_⟩
  · rw [h0]; rfl
  · rfl
theorem Srp.grow (hs:Srp h v L) (hc:HC h) (hg:Grow h.nx.nat h h'):Srp h' v L:=Srk.grow hs hc hg
theorem loadn_r {h:H} {id:K} {m n off:Nat} {cs:List V} (hb:h.get id = .cells m cs ∨ h.get id = .rom m cs) (hm:off + n ≤ m):loadV h (.p id off) (many? n) = .ok (.agg (takeN n (dropN off cs))) h:=by
  show okv ((h.get id).onC none fun m cs=>many? n cs m off) h=_
  have e:many? n cs m off=some (.agg (takeN n (dropN off cs))):=by
    show (bif Nat.ble (off + n) m then some _ else none)=_
    rw [Nat.ble_eq_true_of_le hm]; rfl
  rcases hb with hb | hb <;> rw [hb] <;> show okv (many? n cs m off) h=_ <;> rw [e] <;> rfl
theorem Srp.at2 (hs:Srp h v L) {i:Nat} (hi:i < L.length):∃ id q,(∀ k h1,iadsV 2 v (.i k (i:Int)) h1 = .ok (.p id q) h1)∧loadV h (.p id q) (many? 2) = .ok (.agg [.i .i64 L[i].1, .i .i64 L[i].2]) h∧loadV h (.p id (q + 0 * 1)) one? = .ok (.i .i64 L[i].1) h∧loadV h (.p id (q + 1 * 1)) one? = .ok (.i .i64 L[i].2) h:=by
  rcases hs with ⟨rfl,h0,_⟩ | ⟨id,off,m,cs,rfl,hb,hl,hm,hx⟩
  · omega
  · have h1:=flat_drop qE_len L i hi
    rw [← hx,List.drop_take,List.take_take,List.drop_drop,Nat.min_eq_left (by omega)] at h1
    refine ⟨id,off + i * 2,fun k h1=>?_,?_,?_,?_⟩
    · rw [iads_sl,idx_n hi]
    · rw [loadn_r hb (by omega),takeN_eq,dropN_eq,h1]; rfl
    · refine load_r hb ?_
      rw [nth_eq]
      have:=congrArg (fun l=>l[0]?) h1
      simp only [List.getElem?_take,List.getElem?_drop] at this
      simpa [qE] using this
    · refine load_r hb ?_
      rw [nth_eq]
      have:=congrArg (fun l=>l[1]?) h1
      simp only [List.getElem?_take,List.getElem?_drop] at this
      simpa [qE] using this
end
theorem inR_of {z:Int} (h:(Lit.int .i64 z).wf=true):inR .i64 z=true:=by
  have h:(decide (IntKind.min .i64 ≤ z) && decide (z ≤ IntKind.max .i64))=true:=h
  rw [Bool.and_eq_true,decide_eq_true_eq,decide_eq_true_eq] at h
  have h1 : -9223372036854775808 ≤ z:=h.1
  have h2:z ≤ 9223372036854775807:=h.2
  cases z with
  | ofNat m=>exact Nat.ble_eq_true_of_le (by show m ≤ 9223372036854775807; have:Int.ofNat m=(m:Int):=rfl; omega)
  | negSucc m=>exact Nat.ble_eq_true_of_le (by show m + 1 ≤ 9223372036854775808; omega)
theorem trod_iw {H : Type} {enc : TypeId × Value → H} {P : Program} {w : World} {base : Nat} {spare : Nat → Bool} {held : Bool} {e : TypeId} {fuel : Nat} {c : Value} {x : DataW H × List MemPlace} (he : P.underlying e = some (.int .i64))
    (h:DataW.trod enc P w base spare held fuel e [c]=some x):∃ z,c = .int .i64 z∧inR .i64 z=true:=by
  cases fuel with
  | zero=>simp [DataW.trod] at h
  | succ n =>
    rw [DataW.trod_step] at h
    unfold DataW.trodStep at h
    simp only [he] at h
    cases c <;> simp only [reduceCtorEq] at h
    rename_i k' z
    split at h
    · rename_i hk; exact ⟨z,by rw [hk.1],inR_of hk.2⟩
    · cases h
theorem trod_slArg2w {H : Type} {enc : TypeId × Value → H} {P : Program} {W : World} {base : Nat} {t e i : TypeId} (ht : P.underlying t = some (.slice e)) (he : P.underlying e = some (.array 2 i)) (hi : P.underlying i = some (.int .i64)) (hci : P.cellsOf i = 1) (hce : P.cellsOf e = 2) {v : Value} {d : DataW H} {p ps : List MemPlace}
    (hval:Value.okWide P W .any base t v) (hd:DataW.Trod enc P W 0 (fun _=>true) true t v d p) (hps:∀ x ∈ p,x ∈ ps) (hnf:W.noneFrozen ps) :
    ∃ len zs,SlArgK 2 W v len zs∧(∀ z ∈ zs,inR .i64 z=true) ∧ ∀ W',Below W.heap.size W W'→DataW.Trod enc P W' 0 (fun b=>decide (b < W.heap.size)) true t v d p:=by
  have back:∀ W',Below W.heap.size W W'→DataW.Trod enc P W' 0 (fun b=>decide (b < W.heap.size)) true t v d p:=fun W' hb=>trod_slice_frame ht (plain_arr he (plain_int hi)) (by omega) hb hd
  obtain ⟨ao,len0,cap0,rfl⟩:=okWide_slice ht hval
  obtain ⟨fuel,hf⟩:=hd
  have hcells:(Value.slice ao len0 cap0).cells.toList = [.slice ao len0 cap0]:=rfl
  rw [hcells] at hf
  rcases DataW.trod_slice ht hf with ⟨hcs,hx⟩ | ⟨a,len,cap,elems,rest,n,rfl,hcs,hx,h0,hl,hm,hlen,hel,hsp,_⟩
  · cases hcs
    exact ⟨0, [], .inl ⟨rfl,rfl,rfl⟩,fun z hz=>(by cases hz),back⟩
  · cases hcs
    cases hx
    obtain ⟨hrl,hr⟩:=hsp rfl
    have hspot:a.spot=none:=by
      simp only [Value.okWide,ht,Cell.okWide,Cell.ok] at hval
      exact hval.2.2.2.1
    obtain ⟨b,off,sp⟩:=a
    have hspot:sp=none:=hspot
    subst hspot
    have el:∀ j,j < cap0 → ∃ y,(W.cells? 0 ((⟨b,off,none⟩:Addr).add (j * 2)) 2).bind (DataW.trod enc P W 0 (fun _=>true) true n e)=some y:=by
      intro j hj
      rw [hce] at hel hr
      by_cases h1:j < len0
      · exact ⟨elems[j]'(by omega),by rw [hel j h1,List.getElem?_eq_getElem (by omega)]⟩
      · refine ⟨rest[j - len0]'(by omega),?_⟩
        have:=hr (j - len0) (by omega)
        rw [show len0 + (j - len0)=j by omega] at this
        rw [this,List.getElem?_eq_getElem (by omega)]
    have cell:∀ j,j < cap0 * 2 → ∃ z,W.cell? ((⟨b,off,none⟩:Addr).add j)=some (.int .i64 z)∧inR .i64 z=true:=by
      intro j hj
      obtain ⟨y,hy⟩:=el (j / 2) (by omega)
      obtain ⟨cs,h1,h2⟩:=Option.bind_eq_some_iff.1 hy
      obtain ⟨c0,c1,rfl,q0,q1⟩:=cells2_of h1
      obtain ⟨y0,y1,n',r0,r1⟩:=trod_array2 he hci h2
      obtain ⟨z0,rfl,w0⟩:=trod_iw hi r0
      obtain ⟨z1,rfl,w1⟩:=trod_iw hi r1
      rw [add_lit',add_lit'] at q0 q1
      rcases Nat.mod_two_eq_zero_or_one j with h | h
      · refine ⟨z0,?_,w0⟩
        rw [add_lit',← q0]
        have:j=j / 2 * 2:=by omega
        rw [Nat.add_zero,← this]
      · refine ⟨z1,?_,w1⟩
        rw [add_lit',← q1]
        rw [show off + j / 2 * 2 + 1=off + j by omega]
    refine ⟨len0,(List.range (cap0 * 2)).map fun j=>numZ (W.cell? ⟨b,off + j,none⟩), .inr ⟨b,off,cap0,rfl,hl,by simp,fun j hj=>?_,fun j hj=>?_⟩,fun z hz=>?_,back⟩
    · have hj:j < cap0 * 2:=by simpa using hj
      obtain ⟨z,hz,_⟩:=cell j hj
      rw [add_lit'] at hz
      have hz:W.cell? ⟨b,off + j,none⟩=some (.int .i64 z):=hz
      rw [List.getElem_map,List.getElem_range,hz]; rfl
    · have hj:j < cap0 * 2:=by simpa using hj
      refine hnf b (off + j) (hps _ (List.mem_append_left _ ?_))
      unfold MemPlace.row
      rw [List.mem_map]
      exact ⟨j,by rw [List.mem_range,hce]; omega,rfl⟩
    · obtain ⟨j,hj,rfl⟩:=List.mem_map.1 hz
      obtain ⟨z,hz,hw⟩:=cell j (List.mem_range.1 hj)
      rw [add_lit'] at hz
      have hz:W.cell? ⟨b,off + j,none⟩=some (.int .i64 z):=hz
      rw [hz]; exact hw
def pairsOf (len:Nat) (zs:List Int):List (Int × Int):=(List.range len).map fun i=>(zs.getD (i * 2) 0,zs.getD (i * 2 + 1) 0)
theorem pairsOf_len {len:Nat} {zs:List Int}:(pairsOf len zs).length=len:=by simp [pairsOf]
theorem pairsOf_flat:∀ (len:Nat) {zs:List Int},len * 2 ≤ zs.length→(pairsOf len zs).flatMap qE=(zs.take (len * 2)).map iE
  | 0,zs,_=>by simp [pairsOf]
  | len + 1,zs,h=>by
    have ih:=pairsOf_flat len (zs:=zs) (by omega)
    unfold pairsOf at ih ⊢
    rw [List.range_succ,List.map_append,List.flatMap_append,ih,show (len + 1) * 2=len * 2 + 1 + 1 by omega,List.take_succ_eq_append_getElem (by omega),List.take_succ_eq_append_getElem (by omega),List.map_append,List.map_append,List.append_assoc]
    congr 1
    simp only [List.map_cons,List.map_nil,List.flatMap_cons,List.flatMap_nil,List.append_nil,qE,iE,List.getD,List.getElem?_eq_getElem (show len * 2 < zs.length by omega),List.getElem?_eq_getElem (show len * 2 + 1 < zs.length by omega),Option.getD_some,List.singleton_append]
theorem SlArgK.le {k len:Nat} {W:World} {v:Value} {zs:List Int} (h:SlArgK k W v len zs):len * k ≤ zs.length:=by
  rcases h with ⟨_,rfl,rfl⟩ | ⟨b,off,cap,_,h1,h2,_⟩
  · simp
  · rw [h2]; exact Nat.mul_le_mul_right _ h1
theorem Srk.srp {h:H} {v:V} {len:Nat} {zs:List Int} (hs:Srk 2 h v len ((zs.take (len * 2)).map iE)) (hl:len * 2 ≤ zs.length):Srp h v (pairsOf len zs):=by
  unfold Srp
  rw [pairsOf_len,pairsOf_flat len hl]; exact hs
theorem Srp.beq {h:H} {v:V} {L:List (Int × Int)} (hs:Srp h v L):beqV v v=true:=by
  rcases hs with ⟨rfl,_⟩ | ⟨id,off,m,cs,rfl,_⟩
  · rfl
  · show (id.beq id && Nat.beq off off && Nat.beq L.length L.length && Nat.beq 2 2)=true
    rw [K.beq_refl,Nat.beq_same,Nat.beq_same]; rfl
/-! ### More rules -/
section
variable {fs:T EF} {fr:Fr} {h:H} {x y z:EO} {k:K}
theorem stay_ldn {n:Nat}:(stays fs goNo fr h ⟨some k,none, .ldn n x⟩=true)=again (loadV h (ev fr x) (many? n)) (getV (fr.get k)):=chk_again
theorem stay_iadr {n sz:Nat}:(stays fs goNo fr h ⟨some k,none, .iadr n sz x y⟩=true)=again ((ev fr x).onP fun id off=>idxV (ev fr y) n fun m => .ok (.p id (off + m * sz)) h) (getV (fr.get k)):=chk_again
theorem stay_conv {kk:IntKind}:(stays fs goNo fr h ⟨some k,none, .conv kk x⟩=true)=again ((ev fr x).onI .no fun _ n => .ok (.i kk (fw kk n)) h) (getV (fr.get k)):=chk_again
theorem fill_2 {x y:EO} {z1 z2:V}:fillE fr [z1,z2] [(0,1,x),(1,1,y)]=oGet (cellsN 1 (ev fr x)) none fun cs=>oGet (cellsN 1 (ev fr y)) none fun ds=>some (setMany (setMany [z1,z2] 0 cs) 1 ds):=of_eq_true (eq_self _)
theorem set_2 {z1 z2 a b:V}:setMany (setMany [z1,z2] 0 [a]) 1 [b] = [a,b]:=of_eq_true (eq_self _)
theorem ix2_0 {kk:IntKind} {f:Nat→RV}:idxV (.i kk 0) 2 f=f 0:=of_eq_true (eq_self _)
theorem ix2_1 {kk:IntKind} {f:Nat→RV}:idxV (.i kk 1) 2 f=f 1:=of_eq_true (eq_self _)
theorem of5:Int.ofNat 5=5:=of_eq_true (eq_self _)
theorem of7:Int.ofNat 7=7:=of_eq_true (eq_self _)
theorem of13:Int.ofNat 13=13:=of_eq_true (eq_self _)
theorem of20:Int.ofNat 20=20:=of_eq_true (eq_self _)
theorem of25:Int.ofNat 25=25:=of_eq_true (eq_self _)
theorem of30:Int.ofNat 30=30:=of_eq_true (eq_self _)
end
end Go.Ev
namespace Go.Ev
open Go Go.RowKit
section
variable {fs:T EF}
theorem rvP_mono {r:RV} {f g:V→H→Prop} (hfg:∀ v h,f v h→g v h) (hx:rvP r f):rvP r g:=by
  cases r with
  | no=>exact hx
  | ok v h=>exact hfg v h hx
theorem X1_mono {op:EOp} {fr:Fr} {h:H} {P Q:V→H→Prop} (hpq:∀ v h,P v h→Q v h) (hx:X1 fs op fr h P):X1 fs op fr h Q:=by
  unfold X1 at hx ⊢
  split at hx
  · exact hx.mono hpq
  · exact rvP_mono hpq hx
theorem GP_mono {o:Option Bool} {p q p' q':Prop} (h1:p→p') (h2:q→q') (hx:GP o p q):GP o p' q':=by
  cases o with
  | none=>exact hx
  | some b=>exact ⟨fun e=>h1 (hx.1 e),fun e=>h2 (hx.2 e)⟩
theorem X_mono:∀ {l:List EOper} {P Q:Fr→H→Prop} {fr:Fr} {h:H},X fs l P fr h→(∀ fr h,P fr h→Q fr h)→X fs l Q fr h
  | [],_,_,fr,h,hx,hpq=>hpq fr h hx
  | o :: l,P,Q,fr,h,hx,hpq=>by
    have hx:GP (wants fr o.g) (X1 fs o.op fr h fun v h'=>X fs l P (putD fr o.dst v) h') (X fs l P (putD fr o.dst undefV) h):=hx
    exact GP_mono (fun h1=>X1_mono (fun v h' h2=>X_mono h2 hpq) h1) (fun h2=>X_mono h2 hpq) hx
end
end Go.Ev
namespace Go.Ev
open Go Go.RowKit
section
variable {h h':H} {v u:V} {L:List (Int × Int)} {b:Nat}
theorem flat_get:∀ {L:List (Int × Int)} {t:Nat},(L.flatMap qE)[t]? = (L[t / 2]?).map fun p=>if t % 2=0 then iE p.1 else iE p.2
  | [],t=>by simp
  | x :: L,0=>rfl
  | x :: L,1=>rfl
  | x :: L,t + 2=>by
    rw [List.flatMap_cons]
    show (V.i .i64 x.1 :: V.i .i64 x.2 :: L.flatMap qE)[t + 2]? = _
    rw [List.getElem?_cons_succ,List.getElem?_cons_succ,flat_get (L:=L) (t:=t),show (t + 2) / 2=t / 2 + 1 by omega,List.getElem?_cons_succ,show (t + 2) % 2=t % 2 by omega]
theorem set_get {cs:List V} {p:Nat} {a b:V} (hp:p + 2 ≤ cs.length) {q:Nat}:(setMany cs p [a,b])[q]? = if q=p then some a else if q=p + 1 then some b else cs[q]?:=by
  rw [setMany_eq _ _ _ (by simpa using hp)]
  rcases Nat.lt_trichotomy q p with h1 | h1 | h1
  · rw [List.append_assoc,List.getElem?_append_left (by simp; omega),List.getElem?_take,if_pos h1,if_neg (by omega),if_neg (by omega)]
  · subst h1
    rw [List.append_assoc,List.getElem?_append_right (by simp; omega),if_pos rfl]; simp
    have:min q cs.length=q:=by omega
    rw [this]; simp
  · rw [if_neg (by omega)]
    by_cases h2:q=p + 1
    · subst h2
      rw [if_pos rfl,List.append_assoc,List.getElem?_append_right (by simp; omega)]; simp
      have:p + 1 - min p cs.length=1:=by omega
      rw [this]; simp
    · rw [if_neg h2,List.getElem?_append_right (by simp; omega)]
      simp
      rw [show p + 2 + (q - (min p cs.length + 2))=q by omega]
theorem Sk.st2 (hs : Sk 2 qE h v L) {i : Nat} (hi : i < L.length) {x : Int × Int} (hhc : HC h) :
    ∃ p id m cs',(∀ k h1,iadsV 2 v (.i k (i:Int)) h1 = .ok p h1)∧storeV h 2 p (.agg [.i .i64 x.1, .i .i64 x.2]) = .ok undefV (h.put id (.cells m cs'))∧Sk 2 qE (h.put id (.cells m cs')) v (L.set i x)∧(∃ off n sz,v = .sl id off n sz)∧id.nat < h.nx.nat:=by
  rcases hs with ⟨rfl,rfl⟩ | ⟨id,off,m,cs,rfl,hb,hl,hm,hx⟩
  · simp at hi
  · have hin:i * 2 + 2 ≤ L.length * 2:=by omega
    refine ⟨.p id (off + i * 2),id,m,setMany cs (off + i * 2) [.i .i64 x.1, .i .i64 x.2],fun k h1=>?_,?_,?_,⟨off,L.length,2,rfl⟩,hhc.cells hb⟩
    · rw [iads_sl,idx_n hi]
    · exact store_p hb cells2 (by omega)
    · refine .inr ⟨id,off,m,_,by rw [List.length_set],get_put_same,?_,by rw [List.length_set]; exact hm,?_⟩
      · rw [setMany_eq _ _ _ (by simp; omega)]; simp; omega
      · rw [List.length_set]
        apply List.ext_getElem?
        intro t
        rw [List.getElem?_take,flat_get]
        by_cases ht:t < L.length * 2
        · have h0:=congrArg (fun l=>l[t]?) hx
          simp only [List.getElem?_take,if_pos ht,List.getElem?_drop,flat_get] at h0
          rw [if_pos ht,List.getElem?_drop,set_get (by omega),List.getElem?_set]
          by_cases e1:t=i * 2
          · subst e1
            rw [if_pos rfl,show i * 2 / 2=i by omega,if_pos rfl,if_pos hi]
            simp [iE]
          · by_cases e2:t=i * 2 + 1
            · subst e2
              rw [if_neg (by omega),if_pos (by omega),show (i * 2 + 1) / 2=i by omega,if_pos rfl,if_pos hi]
              simp [iE]
            · rw [if_neg (by omega),if_neg (by omega),if_neg (by omega),h0]
        · rw [if_neg ht,List.getElem?_eq_none (by simp; omega)]; rfl
theorem rep_flat {x:Int × Int}:∀ n,rep (qE x) n=(List.replicate n x).flatMap qE
  | 0=>rfl
  | n + 1=>by
    show cat (qE x) (rep (qE x) n)=_
    rw [cat_eq,rep_flat n,List.replicate_succ,List.flatMap_cons]
theorem mks_p {k:IntKind} {n:Nat} (hn:n ≤ 1000000):mksV 2 [.i .i64 0, .i .i64 0] h (.i k (n:Int)) = .ok (.sl h.nx 0 n 2) (h.new (.cells (n * 2) (rep (qE (0,0)) n))):=by
  show (bif Nat.ble n 1000000 then RV.ok (.sl h.nx 0 n 2) (h.new (.cells (n * 2) (rep (qE (0,0)) n))) else .no)=_
  rw [Nat.ble_eq_true_of_le hn]; rfl
theorem mksp_sl {n:Nat}:Sk 2 qE (h.new (.cells (n * 2) (rep (qE (0,0)) n))) (.sl h.nx 0 n 2) (List.replicate n (0,0)) :=
  .inr ⟨h.nx,0,n * 2,_,by simp,get_new_same,by rw [rep_flat,flat_len qE_len]; simp,by simp,by rw [rep_flat,List.drop_zero,List.take_of_length_le (by rw [flat_len qE_len]; simp)]⟩
section
variable {us:List V} {Ls:List (List (Int × Int))}
end
end
end Go.Ev
namespace Go.Ev
section
variable {h h':H} {v u:V} {L M:List (Int × Int)}
end
end Go.Ev
namespace Go.Ev
open Go Go.RowKit Go.ChangeShapes Go.WideShapes Go.ChangeAt
section
variable {Y:Rig} {ι:Io} {h:H} {W:World}
end
end Go.Ev
namespace Go.Ev
open Go Go.RowKit Go.ChangeShapes Go.WideShapes Go.ChangeAt
end Go.Ev
namespace Go.Ev
open Go Go.RowKit
section
variable {fs:T EF} {fr:Fr} {h:H}
theorem frame_5 {v1 v2 v3 v4 v5:V}:frame .e [v1,v2,v3,v4,v5] .nil=T.set (K.ofNat 4) v5 (T.set (K.ofNat 3) v4 (T.set (K.ofNat 2) v3 (T.set (K.ofNat 1) v2 (T.set (K.ofNat 0) v1 .nil)))):=of_eq_true (eq_self _)
theorem frame_6 {v1 v2 v3 v4 v5 v6:V}:frame .e [v1,v2,v3,v4,v5,v6] .nil=T.set (K.ofNat 5) v6 (T.set (K.ofNat 4) v5 (T.set (K.ofNat 3) v4 (T.set (K.ofNat 2) v3 (T.set (K.ofNat 1) v2 (T.set (K.ofNat 0) v1 .nil))))):=of_eq_true (eq_self _)
theorem of17:Int.ofNat 17=17:=of_eq_true (eq_self _)
end
end Go.Ev
namespace Go.Ev
open Go Go.RowKit
section
variable {α:Type} {e : α → V} {h h':H} {w v u:V} {xs us:List V} {Q Ls:List (List α)} {L:List α} {b:Nat}
end
end Go.Ev
namespace Go.Ev
open Go Go.RowKit
def pZ (x:Int × Int):V := .agg [.i .i64 x.1, .i .i64 x.2]
def in2 (x:Int × Int):Prop:=inR .i64 x.1=true∧inR .i64 x.2=true
def entZ (M:List ((Int × Int) × Int)):List (V × V):=M.map fun e=>(pZ e.1, .i .i64 e.2)
def lookZ:List ((Int × Int) × Int)→Int × Int→Option Int
  | [],_=>none
  | e :: M,x=>if x=e.1 then some e.2 else lookZ M x
def putZ:List ((Int × Int) × Int)→Int × Int→Int→List ((Int × Int) × Int)
  | [],x,v => [(x,v)]
  | e :: M,x,v=>if x=e.1 then (x,v) :: M else e :: putZ M x v
theorem keyEq_z {x y:Int × Int} (hx:in2 x) (hy:in2 y):keyEq (.many [some .i64,some .i64]) (pZ x) (pZ y)=some (decide (x=y)):=by
  have:=keyEq_2 hx.1 hx.2 hy.1 hy.2
  have e:(decide (x.1=y.1) && decide (x.2=y.2))=decide (x=y):=by
    rw [Bool.eq_iff_iff,Bool.and_eq_true,decide_eq_true_eq,decide_eq_true_eq,decide_eq_true_eq]
    exact ⟨fun h=>Prod.ext h.1 h.2,fun h=>by rw [h]; exact ⟨rfl,rfl⟩⟩
  rw [e] at this
  exact this
theorem find_z {x:Int × Int} (hx:in2 x):∀ (M:List ((Int × Int) × Int)),(∀ e ∈ M,in2 e.1)→findE (.many [some .i64,some .i64]) (pZ x) (entZ M)=some ((lookZ M x).map (V.i .i64))
  | [],_=>by
    show (oGet (keyEq (.many [some .i64,some .i64]) (pZ x) (pZ x)) none fun _=>some none)=_
    rw [keyEq_z hx hx]; rfl
  | y :: M,hM=>by
    have ih:=find_z hx M fun z hz=>hM z (List.mem_cons_of_mem _ hz)
    show (oGet (keyEq (.many [some .i64,some .i64]) (pZ x) (pZ y.1)) none fun r=>bif r then some (some (.i .i64 y.2)) else findE (.many [some .i64,some .i64]) (pZ x) (entZ M))=_
    rw [keyEq_z hx (hM y (by simp)),ih]
    show (bif decide (x=y.1) then _ else _)=some ((if x=y.1 then some y.2 else lookZ M x).map (V.i .i64))
    by_cases e:x=y.1
    · rw [decide_eq_true e,if_pos e]; rfl
    · rw [decide_eq_false e,if_neg e]; rfl
theorem upd_z {x:Int × Int} {v:Int} (hx:in2 x):∀ (M:List ((Int × Int) × Int)),(∀ e ∈ M,in2 e.1)→updE (.many [some .i64,some .i64]) (pZ x) (.i .i64 v) (entZ M)=some (entZ (putZ M x v))
  | [],_=>by
    show (oGet (keyEq (.many [some .i64,some .i64]) (pZ x) (pZ x)) none fun _=>some [(pZ x,V.i .i64 v)])=_
    rw [keyEq_z hx hx]; rfl
  | y :: M,hM=>by
    have ih:=upd_z (v:=v) hx M fun z hz=>hM z (List.mem_cons_of_mem _ hz)
    show (oGet (keyEq (.many [some .i64,some .i64]) (pZ x) (pZ y.1)) none fun r=>bif r then some ((pZ x, .i .i64 v) :: entZ M) else oGet (updE (.many [some .i64,some .i64]) (pZ x) (.i .i64 v) (entZ M)) none fun l=>some ((pZ y.1, .i .i64 y.2) :: l))=_
    rw [keyEq_z hx (hM y (by simp)),ih]
    show (bif decide (x=y.1) then _ else _)=some (entZ (if x=y.1 then (x,v) :: M else y :: putZ M x v))
    by_cases e:x=y.1
    · rw [decide_eq_true e,if_pos e]; rfl
    · rw [decide_eq_false e,if_neg e]; rfl
theorem look_put {x y:Int × Int} {v:Int}:∀ (M:List ((Int × Int) × Int)),lookZ (putZ M x v) y=if y=x then some v else lookZ M y
  | []=>rfl
  | e :: M=>by
    have ih:=look_put (x:=x) (y:=y) (v:=v) M
    show lookZ (if x=e.1 then (x,v) :: M else e :: putZ M x v) y=_
    by_cases h:x=e.1
    · rw [if_pos h]
      show (if y=x then some v else lookZ M y)=if y=x then some v else if y=e.1 then some e.2 else lookZ M y
      by_cases h2:y=x
      · rw [if_pos h2,if_pos h2]
      · rw [if_neg h2,if_neg h2,if_neg (by rw [← h]; exact h2)]
    · rw [if_neg h]
      show (if y=e.1 then some e.2 else lookZ (putZ M x v) y)=if y=x then some v else if y=e.1 then some e.2 else lookZ M y
      rw [ih]
      by_cases h2:y=e.1
      · rw [if_pos h2,if_pos h2,if_neg (fun h3=>h (h3.symm.trans h2))]
      · rw [if_neg h2,if_neg h2]
theorem in_put {x:Int × Int} {v:Int} (hx:in2 x):∀ (M:List ((Int × Int) × Int)),(∀ e ∈ M,in2 e.1) → ∀ e ∈ putZ M x v,in2 e.1
  | [],_,e,he=>by rw [List.mem_singleton.1 he]; exact hx
  | y :: M,hM,e,he=>by
    unfold putZ at he
    split at he
    · rcases List.mem_cons.1 he with rfl | he
      · exact hx
      · exact hM e (List.mem_cons_of_mem _ he)
    · rcases List.mem_cons.1 he with rfl | he
      · exact hM _ (by simp)
      · exact in_put hx M (fun z hz=>hM z (List.mem_cons_of_mem _ hz)) e he
def MapF (h:H) (id:K) (kt:Nat) (f:Int × Int→Option Int):Prop:=∃ M,h.get id = .map kt (entZ M)∧(∀ e ∈ M,in2 e.1) ∧ ∀ x,lookZ M x=f x
theorem MapF.nil {h:H} {kt:Nat}:MapF (h.new (.map kt [])) h.nx kt fun _=>none:=⟨[],get_new_same,fun e he=>absurd he (by simp),fun _=>rfl⟩
def okZ (z:V) (o:Option Int):V:=match o with | none => .tup [z, .b false] | some v => .tup [.i .i64 v, .b true]
theorem MapF.look {h:H} {id:K} {kt:Nat} {f:Int × Int→Option Int} {x:Int × Int} {z:V} (hm:MapF h id kt f) (hx:in2 x):lookV kt (.many [some .i64,some .i64]) z h (.m id) (pZ x) true = .ok (okZ z (f x)) h:=by
  obtain ⟨M,e1,e2,e3⟩:=hm
  show ((h.get id).onM kt fun es=>oGet (findE (.many [some .i64,some .i64]) (pZ x) es) RV.no fun r=>bif true then RV.ok (oGet r (.tup [z, .b false]) fun v => .tup [v, .b true]) h else _)=_
  rw [e1]
  show (bif Nat.beq kt kt then (oGet (findE (.many [some .i64,some .i64]) (pZ x) (entZ M)) RV.no fun r=>RV.ok (oGet r (.tup [z, .b false]) fun v => .tup [v, .b true]) h) else _)=_
  rw [Nat.beq_same,find_z hx M e2,e3]
  cases f x <;> rfl
theorem MapF.put {h:H} {id:K} {kt:Nat} {f:Int × Int→Option Int} {x:Int × Int} {v:Int} (hm:MapF h id kt f) (hx:in2 x):∃ es,mupdV kt (.many [some .i64,some .i64]) h (.m id) (pZ x) (.i .i64 v) = .ok undefV (h.put id (.map kt es))∧MapF (h.put id (.map kt es)) id kt fun y=>if y=x then some v else f y:=by
  obtain ⟨M,e1,e2,e3⟩:=hm
  refine ⟨entZ (putZ M x v),?_,putZ M x v,get_put_same,in_put hx M e2,fun y=>by rw [look_put,e3]⟩
  show ((h.get id).onM kt fun es=>oGet (updE (.many [some .i64,some .i64]) (pZ x) (.i .i64 v) es) RV.no fun es=>RV.ok undefV (h.put id (.map kt es)))=_
  rw [e1]
  show (bif Nat.beq kt kt then (oGet (updE (.many [some .i64,some .i64]) (pZ x) (.i .i64 v) (entZ M)) RV.no fun es=>RV.ok undefV (h.put id (.map kt es))) else _)=_
  rw [Nat.beq_same,upd_z hx M e2]; rfl
theorem MapF.same {h h':H} {id:K} {kt:Nat} {f:Int × Int→Option Int} (hm:MapF h id kt f) (e:h'.get id=h.get id):MapF h' id kt f:=by
  obtain ⟨M,e1,e2,e3⟩:=hm
  exact ⟨M,e.trans e1,e2,e3⟩
end Go.Ev
namespace Go.Ev
open Go Go.RowKit
end Go.Ev
namespace Go.Ev
open Go Go.RowKit
section
variable {fs:T EF} {α:Type}
def YieldsM (fs:T EF) (k:K) (caps:List V) (N:H→Prop) (B:H→V → α → Prop) (Y:List α):Prop :=
  ∀ (id:K) (I:Nat→H→Prop) (D:H→Prop) (h:H),(∀ i h1,I i h1→N h1∧HC h1)→I 0 h →
    (∀ i h1 h2 v (hi:i < Y.length),I i h1→Grow h1.nx.nat h1 h2→B h2 v Y[i]→Own h1.nx.nat v → ∃ r h',Round fs id v h2 r h'∧(r=true→I (i + 1) h')∧(r=false→D h')) →
    CallP fs (.fn k caps) [.yl id] h fun r h'=>r = .tup []∧((∃ h1,I Y.length h1∧Grow h1.nx.nat h1 h') ∨ D h')
theorem W_rangeM {ro : Option K} {f : EO} {k : K} {caps : List V} {p : K} {a c : EC} {fr : Fr} {h : H} {Q : Ex → Fr → H → Prop} {N : H → Prop} {B : H → V → α → Prop} {Y : List α} (hro : roOk ro h = true) (hf : ev fr f = .fn k caps) (hy : YieldsM fs k caps N B Y)
    (I:Nat→H→Prop) (D:Ex→H→Prop) (hN:∀ i h1,I i h1→N h1∧HC h1∧h.nx.nat < h1.nx.nat) (hI0:I 0 (h.new (rdyB fr [p] a c)))
    (step:∀ i h1 h2 v (hi:i < Y.length),I i h1→Grow h1.nx.nat h1 h2→h2.get h.nx=rdyB fr [p] a c→B h2 v Y[i]→Own h1.nx.nat v→W fs (some h.nx) a (rndA fs h.nx fr [p] a c (I (i + 1)) D) (fr.set p v) h2)
    (fin:∀ h1 h2,I Y.length h1→Grow h1.nx.nat h1 h2→Q .normal fr (h2.put h.nx .dead)) (brk:∀ e h1,e ≠ .normal→D e h1→Q e fr h1):W fs ro (.rangeF f [p] a c) Q fr h:=by
  have key:=hy h.nx (fun i h1=>I i h1∧h1.get h.nx=rdyB fr [p] a c) (fun h1=>∃ e,e ≠ .normal∧D e (h1.put h.nx .dead)∧h1.get h.nx = .loop .done (some e) fr [p] a c) (h.new (rdyB fr [p] a c)) (fun i h1 hi=>⟨(hN i h1 hi.1).1,(hN i h1 hi.1).2.1⟩) ⟨hI0,get_new_same⟩ ?_
  · obtain ⟨n,r,h1,hc,rfl,hq⟩:=key
    rcases hq with ⟨h0,⟨hI,hb⟩,hG⟩ | ⟨e,hne,hD,hb⟩
    · have hb1:h1.get h.nx=rdyB fr [p] a c:=(hG.old _ (hN _ _ hI).2.2).trans hb
      exact ⟨.normal,fr,_,Runs.range hro hf ⟨n,hc⟩ hb1 (.inl ⟨rfl,rfl,rfl⟩),fin h0 h1 hI hG⟩
    · exact ⟨e,fr,_,Runs.range hro hf ⟨n,hc⟩ hb (.inr ⟨rfl,rfl⟩),brk e _ hne hD⟩
  · rintro i h1 h2 v hi ⟨hI,hb⟩ hG hs ho
    have hb2:h2.get h.nx=rdyB fr [p] a c:=(hG.old _ (hN _ _ hI).2.2).trans hb
    obtain ⟨e1,fr1,h3,r1,rfl,hb3,hw⟩:=W_ok _ _ _ _ (step i h1 h2 v hi hI hG hb2 hs ho)
    obtain ⟨e2,fr2,h4,r2,hb4,hq⟩:=W_ok _ _ _ _ hw
    refine ⟨isNo e2,h4.put h.nx (afterR e2 fr [p] a c),round_of hb2 rfl r1 hb3 r2 hb4,fun he=>?_,fun he=>?_⟩
    · cases e2 <;> first | exact ⟨hq,get_put_same⟩ | cases he
    · cases e2 with
      | normal=>cases he
      | exit j=>exact ⟨.exit j,by simp,by rw [H.put_put]; exact hq,get_put_same⟩
      | ret=>exact ⟨.ret,by simp,by rw [H.put_put]; exact hq,get_put_same⟩
end
end Go.Ev
