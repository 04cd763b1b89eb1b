/-
  The evaluator, weakest preconditions: what must hold before a piece of code, for what shall hold behind it.
  The evaluator, weakest preconditions: how they are worked out, step by step.
  The evaluator, weakest preconditions: memory that grows; slices whose elements take one cell each.
  The evaluator, weakest preconditions: loops over functions; parts of slices; arrays.
  The evaluator, weakest preconditions: statements whose order is open.
  The evaluator, weakest preconditions: a call with a slice that came in.
  The evaluator: what is proved of a function of numbers whose result is a new slice of numbers.
  A slice of numbers that comes in, and reads behind the call as it read before.
  The evaluator, weakest preconditions: more on slices.
-/
import Derived.Test.YtneacehpoaambaaPc
import Derived.ProofKit
import Derived.SizedLaws
import Derived.ChangeSlices
namespace Go.Ev
open Go Go.RowKit

def rvP (r : RV) (f : V → H → Prop) : Prop := match r with | .no => False | .ok v h => f v h
def GP (o : Option Bool) (p q : Prop) : Prop := match o with | none => False | some b => (b = true → p) ∧ (b = false → q)
def CallP (fs : T EF) (f : V) (args : List V) (h : H) (P : V → H → Prop) : Prop := ∃ n v h', callV fs (eval fs n) f args h = .ok v h' ∧ P v h'
noncomputable def goNo : Go := fun _ _ _ _ => .no
def X1 (fs : T EF) (op : EOp) (fr : Fr) (h : H) (P : V → H → Prop) : Prop := match op with
  | .call f args => CallP fs (ev fr f) (evs fr args) h P
  | op => rvP (evop fs goNo fr h op) P
/-- A list of operations, then Q. -/
def X (fs : T EF) : List EOper → (Fr → H → Prop) → Fr → H → Prop
  | [], Q => Q
  | o :: l, Q => fun fr h => GP (wants fr o.g) (X1 fs o.op fr h fun v h' => X fs l Q (putD fr o.dst v) h') (X fs l Q (putD fr o.dst undefV) h)
def kX (fs : T EF) (l : List EOper) (Q : Fr → H → Prop) (fr : Fr) (d : Option K) (v : V) (h : H) : Prop := X fs l Q (putD fr d v) h
/-- The first part of a stage. -/
def G1 (fs : T EF) (d : Option K) (op : EOp) (fr : Fr) (h : H) (P : Fr → H → Prop) : Prop := match op with
  | .bslice n sz z ps => ∃ k cs, d = some k ∧ (h.get h.nx).isDead = true ∧ fillE fr z ps = some cs ∧ P (fr.set k (.sl h.nx 0 n sz)) (h.new (.cells (n * sz) cs))
  | op => op.quiet = true ∧ rvP (evop fs goNo fr h op) fun v _ => P (putD fr d v) h
def XG (fs : T EF) : List EOper → (Fr → H → Prop) → Fr → H → Prop
  | [], Q => Q
  | o :: l, Q => fun fr h => GP (wants fr o.g) (G1 fs o.dst o.op fr h (XG fs l Q)) (XG fs l Q (putD fr o.dst undefV) h)
def XD (fs : T EF) : List Stage → (Fr → H → Prop) → Fr → H → Prop
  | [], Q => Q
  | s :: l, Q => fun fr0 h0 => XG fs s.g (fun fr h => isFresh h0 h fr s.b = true ∧ allStay fs goNo fr h s.c = true ∧ (match s.l with | none => Q fr h | some o => X fs [o] (XD fs l Q) fr h)) fr0 h0
def seqK (A : (Ex → Fr → H → Prop) → Fr → H → Prop) (Q : Ex → Fr → H → Prop) : Ex → Fr → H → Prop := fun e fr h => match e with | .normal => A Q fr h | e => Q e fr h
def atK (id : Nat) (Q : Ex → Fr → H → Prop) : Ex → Fr → H → Prop := fun e fr h => match e with | .exit j => (j = id → Q .normal fr h) ∧ (j ≠ id → Q (.exit j) fr h) | e => Q e fr h
def condP (v : V) (p q : Prop) : Prop := match v with | .b r => (r = true → p) ∧ (r = false → q) | _ => False
def RunsP (fs : T EF) (ro : Option K) (c : EC) (Q : Ex → Fr → H → Prop) (fr : Fr) (h : H) : Prop := ∃ e fr' h', Runs fs ro c fr h e fr' h' ∧ Q e fr' h'
/-- Code, then Q. -/
def W (fs : T EF) (ro : Option K) : EC → (Ex → Fr → H → Prop) → Fr → H → Prop
  | .skip, Q => Q .normal
  | .reg ops, Q => X fs ops (Q .normal)
  | .draw st, Q => XD fs st (Q .normal)
  | .seq a b, Q => W fs ro a (seqK (W fs ro b) Q)
  | .cond x a b, Q => fun fr h => condP (ev fr x) (W fs ro a Q fr h) (W fs ro b Q fr h)
  | .block id c, Q => W fs ro c (atK id Q)
  | .scope c, Q => W fs ro c Q
  | .loop c, Q => RunsP fs ro (.loop c) Q
  | .rangeF f ps a c, Q => RunsP fs ro (.rangeF f ps a c) Q
  | .exit id, Q => Q (.exit id)
  | .ret, Q => Q .ret
  | .no, _ => fun _ _ => False

/-! ### They are right -/
section
variable {fs : T EF}
theorem rvP_ex {r : RV} {f : V → H → Prop} : rvP r f → ∃ v h, r = .ok v h ∧ f v h := by
  cases r with
  | no => exact fun h => h.elim
  | ok v h => exact fun hf => ⟨v, h, rfl, hf⟩
theorem GP_ex {o : Option Bool} {p q : Prop} : GP o p q → (o = some true ∧ p) ∨ (o = some false ∧ q) := by
  cases o with
  | none => exact fun h => h.elim
  | some b => cases b with
    | true => exact fun h => .inl ⟨rfl, h.1 rfl⟩
    | false => exact fun h => .inr ⟨rfl, h.2 rfl⟩
theorem evop_no {fr : Fr} {h h' : H} {op : EOp} {v : V} {go : Go} (e : evop fs goNo fr h op = .ok v h') : evop fs go fr h op = .ok v h' :=
  evop_le (g := goNo) (g' := go) (fun _ _ _ _ => RLe.no _) fr h op v h' e
theorem X1_ok {op : EOp} {fr : Fr} {h : H} {P : V → H → Prop} (hx : X1 fs op fr h P) : ∃ n v h', evop fs (eval fs n) fr h op = .ok v h' ∧ P v h' := by
  unfold X1 at hx
  split at hx
  · obtain ⟨n, v, h', e, hp⟩ := hx
    exact ⟨n, v, h', e, hp⟩
  · obtain ⟨v, h', e, hp⟩ := rvP_ex hx
    exact ⟨0, v, h', evop_no e, hp⟩
theorem X_ok : ∀ (l : List EOper) (Q : Fr → H → Prop) (fr : Fr) (h : H), X fs l Q fr h → ∃ n fr' h', runOps fs (eval fs n) l fr h = .ok .normal fr' h' ∧ Q fr' h'
  | [], Q, fr, h, hx => ⟨0, fr, h, rfl, hx⟩
  | o :: l, Q, fr, h, hx => by
    rcases GP_ex (show GP _ _ _ from hx) with ⟨hw, hx⟩ | ⟨hw, hx⟩
    · obtain ⟨n, v, h1, e1, hx⟩ := X1_ok hx
      obtain ⟨m, fr', h', e2, hq⟩ := X_ok l Q _ _ hx
      refine ⟨max n m, fr', h', ?_, hq⟩
      show (oGet (wants fr o.g) Res.no fun r => bif r then (evop fs (eval fs (max n m)) fr h o.op).to fun v h => runOps fs (eval fs (max n m)) l (putD fr o.dst v) h else runOps fs (eval fs (max n m)) l (putD fr o.dst undefV) h) = _
      rw [hw, show (oGet (some true) Res.no fun r => bif r then (evop fs (eval fs (max n m)) fr h o.op).to fun v h => runOps fs (eval fs (max n m)) l (putD fr o.dst v) h else runOps fs (eval fs (max n m)) l (putD fr o.dst undefV) h) = (evop fs (eval fs (max n m)) fr h o.op).to fun v h => runOps fs (eval fs (max n m)) l (putD fr o.dst v) h from rfl]
      rw [evop_le (eval_le fs (Nat.le_max_left n m)) fr h o.op v h1 e1]
      exact runOps_le (eval_le fs (Nat.le_max_right n m)) l _ _ _ _ _ e2
    · obtain ⟨m, fr', h', e2, hq⟩ := X_ok l Q _ _ hx
      refine ⟨m, fr', h', ?_, hq⟩
      show (oGet (wants fr o.g) Res.no fun r => bif r then (evop fs (eval fs m) fr h o.op).to fun v h => runOps fs (eval fs m) l (putD fr o.dst v) h else runOps fs (eval fs m) l (putD fr o.dst undefV) h) = _
      rw [hw]; exact e2
theorem XG_ok {f : Go → Fr → H → Res} (hf : ∀ n m, n ≤ m → ∀ fr h, RLe (f (eval fs n) fr h) (f (eval fs m) fr h)) : ∀ (l : List EOper) (Q : Fr → H → Prop) (R : Ex → Fr → H → Prop) (fr : Fr) (h : H), (∀ fr h, Q fr h → ∃ n e fr' h', f (eval fs n) fr h = .ok e fr' h' ∧ R e fr' h') → XG fs l Q fr h → ∃ n e fr' h', gRun fs (eval fs n) l (f (eval fs n)) fr h = .ok e fr' h' ∧ R e fr' h'
  | [], Q, R, fr, h, hq, hx => hq fr h hx
  | o :: l, Q, R, fr, h, hq, hx => by
    have unf : ∀ go, gRun fs go (o :: l) (f go) fr h = oGet (wants fr o.g) Res.no fun r => bif r then gDo fs go o.dst o.op (gRun fs go l (f go)) fr h else gRun fs go l (f go) (putD fr o.dst undefV) h := fun _ => rfl
    rcases GP_ex (show GP _ _ _ from hx) with ⟨hw, hx⟩ | ⟨hw, hx⟩
    · unfold G1 at hx
      split at hx
      · rename_i op n sz z ps heq
        obtain ⟨k, cs, hd, hdead, hfill, hx⟩ := hx
        obtain ⟨m, e, fr', h', e2, hr⟩ := XG_ok hf l Q R _ _ hq hx
        refine ⟨m, e, fr', h', ?_, hr⟩
        rw [unf, hw, heq, hd]
        show (bif (h.get h.nx).isDead then (oGet (fillE fr z ps) Res.no fun cs => gRun fs (eval fs m) l (f (eval fs m)) (fr.set k (.sl h.nx 0 n sz)) (h.new (.cells (n * sz) cs))) else Res.no) = _
        rw [hdead, hfill]
        exact e2
      · rename_i op hne
        obtain ⟨hqu, hx⟩ := hx
        obtain ⟨v, h1, e1, hx⟩ := rvP_ex hx
        obtain ⟨m, e, fr', h', e2, hr⟩ := XG_ok hf l Q R _ _ hq hx
        refine ⟨m, e, fr', h', ?_, hr⟩
        rw [unf, hw]
        show gDo fs (eval fs m) o.dst o.op (gRun fs (eval fs m) l (f (eval fs m))) fr h = _
        unfold gDo
        split
        · rename_i n sz z ps heq; exact absurd heq (hne n sz z ps)
        · rw [hqu, evop_no e1]; exact e2
    · obtain ⟨m, e, fr', h', e2, hr⟩ := XG_ok hf l Q R _ _ hq hx
      refine ⟨m, e, fr', h', ?_, hr⟩
      rw [unf, hw]; exact e2
theorem XD_ok : ∀ (l : List Stage) (Q : Fr → H → Prop) (fr : Fr) (h : H), XD fs l Q fr h → ∃ n fr' h', drawRun fs (eval fs n) l fr h = .ok .normal fr' h' ∧ Q fr' h'
  | [], Q, fr, h, hx => ⟨0, fr, h, rfl, hx⟩
  | s :: l, Q, fr, h, hx => by
    obtain ⟨n, e, fr', h', e1, rfl, hq⟩ := XG_ok (fs := fs) (f := fun go fr1 h1 => bif isFresh h h1 fr1 s.b then stageEnd fs go s (drawRun fs go l) fr1 h1 else .no)
      (fun n m hnm fr1 h1 => by
        refine bif_le ?_ (RLe.refl _)
        intro e fr' h' he
        unfold stageEnd at he ⊢
        obtain ⟨p1, p2⟩ := cond_ok (by simp) he
        rw [allStay_le (eval_le fs hnm) p1]
        cases hl : s.l with
        | none => rw [hl] at p2; exact p2
        | some o => rw [hl] at p2; exact runOp_le (eval_le fs hnm) o (fun fr h => drawRun_le (eval_le fs hnm) l fr h) _ _ _ _ _ p2)
      s.g _ (fun e fr' h' => e = .normal ∧ Q fr' h') fr h (fun fr1 h1 hq => by
        obtain ⟨hfresh, hc, hq⟩ := hq
        have hst : ∀ n, allStay fs (eval fs n) fr1 h1 s.c = true := fun n => allStay_le (g := goNo) (g' := eval fs n) (fun _ _ _ _ => RLe.no _) hc
        cases hl : s.l with
        | none =>
          rw [hl] at hq
          refine ⟨0, .normal, fr1, h1, ?_, rfl, hq⟩
          show (bif isFresh h h1 fr1 s.b then stageEnd fs (eval fs 0) s (drawRun fs (eval fs 0) l) fr1 h1 else .no) = _
          rw [hfresh]; unfold stageEnd; rw [hst, hl]; rfl
        | some o =>
          rw [hl] at hq
          rcases GP_ex (show GP _ _ _ from hq) with ⟨hw, hx⟩ | ⟨hw, hx⟩
          · obtain ⟨n, v, h2, e1, hx⟩ := X1_ok hx
            obtain ⟨m, fr', h', e2, hq⟩ := XD_ok l Q _ _ hx
            refine ⟨max n m, .normal, fr', h', ?_, rfl, hq⟩
            show (bif isFresh h h1 fr1 s.b then stageEnd fs (eval fs (max n m)) s (drawRun fs (eval fs (max n m)) l) fr1 h1 else .no) = _
            rw [hfresh]; unfold stageEnd; rw [hst, hl]
            show (oGet (wants fr1 o.g) Res.no fun r => bif r then (evop fs (eval fs (max n m)) fr1 h1 o.op).to fun v h => drawRun fs (eval fs (max n m)) l (putD fr1 o.dst v) h else drawRun fs (eval fs (max n m)) l (putD fr1 o.dst undefV) h1) = _
            rw [hw]
            show ((evop fs (eval fs (max n m)) fr1 h1 o.op).to fun v h => drawRun fs (eval fs (max n m)) l (putD fr1 o.dst v) h) = _
            rw [evop_le (eval_le fs (Nat.le_max_left n m)) fr1 h1 o.op v h2 e1]
            exact drawRun_le (eval_le fs (Nat.le_max_right n m)) l _ _ _ _ _ e2
          · obtain ⟨m, fr', h', e2, hq⟩ := XD_ok l Q _ _ hx
            refine ⟨m, .normal, fr', h', ?_, rfl, hq⟩
            show (bif isFresh h h1 fr1 s.b then stageEnd fs (eval fs m) s (drawRun fs (eval fs m) l) fr1 h1 else .no) = _
            rw [hfresh]; unfold stageEnd; rw [hst, hl]
            show (oGet (wants fr1 o.g) Res.no fun r => bif r then (evop fs (eval fs m) fr1 h1 o.op).to fun v h => drawRun fs (eval fs m) l (putD fr1 o.dst v) h else drawRun fs (eval fs m) l (putD fr1 o.dst undefV) h1) = _
            rw [hw]; exact e2)
      hx
    exact ⟨n, fr', h', e1, hq⟩
theorem W_ok {ro : Option K} : ∀ (c : EC) (Q : Ex → Fr → H → Prop) (fr : Fr) (h : H), W fs ro c Q fr h → RunsP fs ro c Q fr h
  | .skip, Q, fr, h, hw => ⟨_, _, _, .skip, hw⟩
  | .reg ops, Q, fr, h, hw => by
    obtain ⟨n, fr', h', e, hq⟩ := X_ok ops _ fr h hw
    exact ⟨_, _, _, .reg e, hq⟩
  | .draw st, Q, fr, h, hw => by
    obtain ⟨n, fr', h', e, hq⟩ := XD_ok st _ fr h hw
    exact ⟨_, _, _, ⟨n + 1, e⟩, hq⟩
  | .seq a b, Q, fr, h, hw => by
    obtain ⟨e, fr1, h1, r1, q1⟩ := W_ok a _ fr h hw
    cases e with
    | normal =>
      obtain ⟨e, fr2, h2, r2, q2⟩ := W_ok b _ fr1 h1 q1
      exact ⟨_, _, _, .seq r1 r2, q2⟩
    | exit i => exact ⟨_, _, _, .seq_out r1 (by simp), q1⟩
    | ret => exact ⟨_, _, _, .seq_out r1 (by simp), q1⟩
  | .cond x a b, Q, fr, h, hw => by
    have hw : condP (ev fr x) (W fs ro a Q fr h) (W fs ro b Q fr h) := hw
    unfold condP at hw
    split at hw
    · rename_i r hr
      cases r with
      | true =>
        obtain ⟨e, fr1, h1, r1, q1⟩ := W_ok a _ fr h (hw.1 rfl)
        exact ⟨_, _, _, .cond (r := true) hr r1, q1⟩
      | false =>
        obtain ⟨e, fr1, h1, r1, q1⟩ := W_ok b _ fr h (hw.2 rfl)
        exact ⟨_, _, _, .cond (r := false) hr r1, q1⟩
    · exact hw.elim
  | .block id c, Q, fr, h, hw => by
    obtain ⟨e, fr1, h1, r1, q1⟩ := W_ok c _ fr h hw
    cases e with
    | normal => exact ⟨_, _, _, .block r1 (.inr ⟨by simp, rfl⟩), q1⟩
    | ret => exact ⟨_, _, _, .block r1 (.inr ⟨by simp, rfl⟩), q1⟩
    | exit j =>
      by_cases hj : j = id
      · exact ⟨_, _, _, .block r1 (.inl ⟨by rw [hj], rfl⟩), q1.1 hj⟩
      · exact ⟨_, _, _, .block r1 (.inr ⟨by simpa using hj, rfl⟩), q1.2 hj⟩
  | .scope c, Q, fr, h, hw => by
    obtain ⟨e, fr1, h1, ⟨n, r1⟩, q1⟩ := W_ok c _ fr h hw
    exact ⟨_, _, _, ⟨n + 1, r1⟩, q1⟩
  | .loop c, Q, fr, h, hw => hw
  | .rangeF f ps a c, Q, fr, h, hw => hw
  | .exit id, Q, fr, h, hw => ⟨_, _, _, .exit, hw⟩
  | .ret, Q, fr, h, hw => ⟨_, _, _, .ret, hw⟩
  | .no, Q, fr, h, hw => hw.elim
/-- A loop, by what holds at its head. -/
def loopK {σ : Type} (I : σ → Fr → H → Prop) (μ : σ → Nat) (s : σ) (Q : Ex → Fr → H → Prop) : Ex → Fr → H → Prop := fun e fr h => match e with | .normal => ∃ s', μ s' < μ s ∧ I s' fr h | e => Q e fr h
theorem W_loop {σ : Type} {ro : Option K} {c : EC} {Q : Ex → Fr → H → Prop} (I : σ → Fr → H → Prop) (μ : σ → Nat) (hstep : ∀ s fr h, I s fr h → W fs ro c (loopK I μ s Q) fr h) (s : σ) {fr : Fr} {h : H} (hi : I s fr h) : W fs ro (.loop c) Q fr h := by
  suffices ∀ j s fr h, μ s ≤ j → I s fr h → RunsP fs ro (.loop c) Q fr h from this _ s fr h (Nat.le_refl _) hi
  intro j
  induction j with
  | zero =>
    intro s fr h hj hi
    obtain ⟨e, fr1, h1, r1, q1⟩ := W_ok _ _ _ _ (hstep s fr h hi)
    cases e with
    | normal => obtain ⟨s', hs, _⟩ := q1; omega
    | exit i => exact ⟨_, _, _, .loop_out r1 (by simp), q1⟩
    | ret => exact ⟨_, _, _, .loop_out r1 (by simp), q1⟩
  | succ j ih =>
    intro s fr h hj hi
    obtain ⟨e, fr1, h1, r1, q1⟩ := W_ok _ _ _ _ (hstep s fr h hi)
    cases e with
    | normal =>
      obtain ⟨s', hs, hi'⟩ := q1
      obtain ⟨e, fr2, h2, r2, q2⟩ := ih s' fr1 h1 (by omega) hi'
      exact ⟨_, _, _, .loop r1 r2, q2⟩
    | exit i => exact ⟨_, _, _, .loop_out r1 (by simp), q1⟩
    | ret => exact ⟨_, _, _, .loop_out r1 (by simp), q1⟩
/-- What a function gives. -/
def Ret (fs : T EF) (ef : EF) (args : List V) (h : H) (P : V → H → Prop) : Prop := ∃ n v h', callF (eval fs n) ef args h = .ok v h' ∧ P v h'
def retK (ef : EF) (P : V → H → Prop) : Ex → Fr → H → Prop := fun e fr h => match e with | .exit _ => False | _ => ∃ vs, readRs fr h ef.rs = some vs ∧ P (retV vs) h
theorem ret_of {ef : EF} {args : List V} {h : H} {P : V → H → Prop} (hn : Nat.ble (lenL args) ef.nt = true) (hw : W fs none ef.body (retK ef P) (frame .e args .nil) h) : Ret fs ef args h P := by
  obtain ⟨e, fr', h', ⟨n, hr⟩, q⟩ := W_ok _ _ _ _ hw
  have go : ∀ e, (e = .normal ∨ e = .ret) → eval fs n none ef.body (frame .e args .nil) h = .ok e fr' h' → (∃ vs, readRs fr' h' ef.rs = some vs ∧ P (retV vs) h') → Ret fs ef args h P := by
    rintro e he hr ⟨vs, hv, hp⟩
    refine ⟨n, retV vs, h', ?_, hp⟩
    unfold callF
    rw [hn, hr]
    show leave ef e fr' h' = _
    rcases he with rfl | rfl <;> (unfold leave; rw [hv]; rfl)
  cases e with
  | normal => exact go _ (.inl rfl) hr q
  | ret => exact go _ (.inr rfl) hr q
  | exit i => exact q.elim
theorem callP_of {k : K} {ef : EF} {args caps : List V} {h : H} {P : V → H → Prop} (hf : fs.get k = some ef) (hn : ef.nv = none) (hr : Ret fs ef (cat args caps) h P) : CallP fs (.fn k caps) args h P := by
  obtain ⟨n, v, h', e, hp⟩ := hr
  refine ⟨n, v, h', ?_, hp⟩
  show (oGet (fs.get k) RV.no fun ef => callE (eval fs n) ef (cat args caps) h) = _
  rw [hf]
  show oGet ef.nv (callF (eval fs n) ef (cat args caps) h) _ = _
  rw [hn]; exact e
theorem callP_0 {k : K} {ef : EF} {args : List V} {h : H} {P : V → H → Prop} (hf : fs.get k = some ef) (hn : ef.nv = none) (hr : Ret fs ef args h P) : CallP fs (.fn k []) args h P :=
  callP_of hf hn (by rw [cat_eq, List.append_nil]; exact hr)
theorem CallP.mono {f : V} {args : List V} {h : H} {P Q : V → H → Prop} (hc : CallP fs f args h P) (hpq : ∀ v h', P v h' → Q v h') : CallP fs f args h Q := by
  obtain ⟨n, v, h', e, hp⟩ := hc
  exact ⟨n, v, h', e, hpq _ _ hp⟩
theorem Ret.mono {ef : EF} {args : List V} {h : H} {P Q : V → H → Prop} (hc : Ret fs ef args h P) (hpq : ∀ v h', P v h' → Q v h') : Ret fs ef args h Q := by
  obtain ⟨n, v, h', e, hp⟩ := hc
  exact ⟨n, v, h', e, hpq _ _ hp⟩
end
end Go.Ev
namespace Go.Ev
open Go Go.RowKit
section
variable {fs : T EF} {ro : Option K} {Q : Ex → Fr → H → Prop} {R : Fr → H → Prop} {fr : Fr} {h h' : H} {d : Option K} {l : List EOper} {x y z : EO} {v : V} {f : V → H → Prop} {P Q' : Prop}
/-! Code -/
theorem w_skip : W fs ro .skip Q fr h = Q .normal fr h := of_eq_true (eq_self _)
theorem w_reg {ops : List EOper} : W fs ro (.reg ops) Q fr h = X fs ops (Q .normal) fr h := of_eq_true (eq_self _)
theorem w_draw {st : List Stage} : W fs ro (.draw st) Q fr h = XD fs st (Q .normal) fr h := of_eq_true (eq_self _)
theorem w_seq {a b : EC} : W fs ro (.seq a b) Q fr h = W fs ro a (seqK (W fs ro b) Q) fr h := of_eq_true (eq_self _)
def ckB (v : V) : Prop := match v with | .b _ => True | _ => False
def cbB (v : V) : Bool := match v with | .b r => r | _ => false
theorem ckB_b {b : Bool} : ckB (.b b) = True := of_eq_true (eq_self _)
theorem cbB_b {b : Bool} : cbB (.b b) = b := of_eq_true (eq_self _)
theorem w_cond {a b : EC} : W fs ro (.cond x a b) Q fr h = (ckB (ev fr x) ∧ if cbB (ev fr x) = true then W fs ro a Q fr h else W fs ro b Q fr h) := by
  show condP (ev fr x) (W fs ro a Q fr h) (W fs ro b Q fr h) = _
  generalize ev fr x = v
  cases v <;> simp [condP, ckB, cbB]
  rename_i r
  cases r <;> simp
theorem w_block {id : Nat} {c : EC} : W fs ro (.block id c) Q fr h = W fs ro c (atK id Q) fr h := of_eq_true (eq_self _)
theorem w_exit {id : Nat} : W fs ro (.exit id) Q fr h = Q (.exit id) fr h := of_eq_true (eq_self _)
theorem w_ret : W fs ro .ret Q fr h = Q .ret fr h := of_eq_true (eq_self _)
theorem seqK_n {A : (Ex → Fr → H → Prop) → Fr → H → Prop} : seqK A Q .normal fr h = A Q fr h := of_eq_true (eq_self _)
theorem seqK_e {A : (Ex → Fr → H → Prop) → Fr → H → Prop} {i : Nat} : seqK A Q (.exit i) fr h = Q (.exit i) fr h := of_eq_true (eq_self _)
theorem seqK_r {A : (Ex → Fr → H → Prop) → Fr → H → Prop} : seqK A Q .ret fr h = Q .ret fr h := of_eq_true (eq_self _)
theorem atK_n {id : Nat} : atK id Q .normal fr h = Q .normal fr h := of_eq_true (eq_self _)
theorem atK_r {id : Nat} : atK id Q .ret fr h = Q .ret fr h := of_eq_true (eq_self _)
theorem atK_e {id j : Nat} : atK id Q (.exit j) fr h = if j = id then Q .normal fr h else Q (.exit j) fr h := by
  show ((j = id → Q .normal fr h) ∧ (j ≠ id → Q (.exit j) fr h)) = _
  by_cases e : j = id <;> simp [e]
theorem loopK_n {σ : Type} {I : σ → Fr → H → Prop} {μ : σ → Nat} {s : σ} : loopK I μ s Q .normal fr h = ∃ s', μ s' < μ s ∧ I s' fr h := of_eq_true (eq_self _)
theorem loopK_e {σ : Type} {I : σ → Fr → H → Prop} {μ : σ → Nat} {s : σ} {i : Nat} : loopK I μ s Q (.exit i) fr h = Q (.exit i) fr h := of_eq_true (eq_self _)
theorem loopK_r {σ : Type} {I : σ → Fr → H → Prop} {μ : σ → Nat} {s : σ} : loopK I μ s Q .ret fr h = Q .ret fr h := of_eq_true (eq_self _)
theorem retK_r {ef : EF} : retK ef f .ret fr h = ∃ vs, readRs fr h ef.rs = some vs ∧ f (retV vs) h := of_eq_true (eq_self _)
/-! Operations -/
theorem x_nil : X fs [] R fr h = R fr h := of_eq_true (eq_self _)
theorem gp_t : GP (some true) P Q' = P := by simp [GP]
theorem x_g0 {k : K} {b : Bool} {op : EOp} : X fs (⟨d, some (k, b), op⟩ :: l) R fr h = GP (guardV (getV (fr.get k)) b) (X fs (⟨d, none, op⟩ :: l) R fr h) (X fs l R (putD fr d undefV) h) := by
  show GP (oGet (some (k, b)) (some true) fun p => guardV (getV (fr.get p.1)) p.2) _ _ = _
  show _ = GP (guardV (getV (fr.get k)) b) (GP (some true) _ _) _
  rw [gp_t]; rfl
def okG (v : V) : Prop := match v with | .b _ => True | .tup _ => True | _ => False
def asG (v : V) (w : Bool) : Bool := match v with | .b r => (if w then r else !r) | _ => false
theorem okG_b {b : Bool} : okG (.b b) = True := of_eq_true (eq_self _)
theorem okG_u : okG undefV = True := of_eq_true (eq_self _)
theorem asG_t {b : Bool} : asG (.b b) true = b := of_eq_true (eq_self _)
theorem asG_f {b : Bool} : asG (.b b) false = !b := of_eq_true (eq_self _)
theorem asG_u {w : Bool} : asG undefV w = false := of_eq_true (eq_self _)
theorem gp_as {v : V} {w : Bool} : GP (guardV v w) P Q' = (okG v ∧ if asG v w = true then P else Q') := by
  cases v <;> simp [GP, guardV, okG, asG]
  rename_i r
  cases r <;> cases w <;> simp
theorem x_g {k : K} {b : Bool} {op : EOp} : X fs (⟨d, some (k, b), op⟩ :: l) R fr h = (okG (getV (fr.get k)) ∧ if asG (getV (fr.get k)) b = true then X fs (⟨d, none, op⟩ :: l) R fr h else X fs l R (putD fr d undefV) h) := by
  rw [x_g0, gp_as]
theorem x_mv : X fs (⟨d, none, .mv x⟩ :: l) R fr h = X fs l R (putD fr d (ev fr x)) h := by show GP (some true) _ _ = _; rw [gp_t]; rfl
theorem x_as : X fs (⟨d, none, .as x⟩ :: l) R fr h = X fs l R (putD fr d (ev fr x)) h := by show GP (some true) _ _ = _; rw [gp_t]; rfl
theorem x_pick : X fs (⟨d, none, .pick x y z⟩ :: l) R fr h = rvP (pickV (ev fr x) (ev fr y) (ev fr z) h) (kX fs l R fr d) := by show GP (some true) _ _ = _; rw [gp_t]; rfl
theorem x_alloc {n : Nat} {zs : List V} : X fs (⟨d, none, .alloc n zs⟩ :: l) R fr h = X fs l R (putD fr d (.p h.nx 0)) (h.new (.cells n zs)) := by show GP (some true) _ _ = _; rw [gp_t]; rfl
theorem x_box {n : Nat} : X fs (⟨d, none, .box n x⟩ :: l) R fr h = rvP (oGet (cellsN n (ev fr x)) .no fun cs => .ok (.p h.nx 0) (h.new (.cells n cs))) (kX fs l R fr d) := by show GP (some true) _ _ = _; rw [gp_t]; rfl
theorem x_build {zs : List V} {ps : List (Nat × Nat × EO)} : X fs (⟨d, none, .build zs ps⟩ :: l) R fr h = rvP (oGet (fillE fr zs ps) .no fun cs => .ok (.agg cs) h) (kX fs l R fr d) := by show GP (some true) _ _ = _; rw [gp_t]; rfl
theorem x_bslice {n sz : Nat} {zs : List V} {ps : List (Nat × Nat × EO)} : X fs (⟨d, none, .bslice n sz zs ps⟩ :: l) R fr h = rvP (oGet (fillE fr zs ps) .no fun cs => .ok (.sl h.nx 0 n sz) (h.new (.cells (n * sz) cs))) (kX fs l R fr d) := by show GP (some true) _ _ = _; rw [gp_t]; rfl
theorem x_ld : X fs (⟨d, none, .ld x⟩ :: l) R fr h = rvP (loadV h (ev fr x) one?) (kX fs l R fr d) := by show GP (some true) _ _ = _; rw [gp_t]; rfl
theorem x_ldn {n : Nat} : X fs (⟨d, none, .ldn n x⟩ :: l) R fr h = rvP (loadV h (ev fr x) (many? n)) (kX fs l R fr d) := by show GP (some true) _ _ = _; rw [gp_t]; rfl
theorem x_st {n : Nat} : X fs (⟨d, none, .st n x y⟩ :: l) R fr h = rvP (storeV h n (ev fr x) (ev fr y)) (kX fs l R fr d) := by show GP (some true) _ _ = _; rw [gp_t]; rfl
theorem x_bin {op : BinOp} : X fs (⟨d, none, .bin op x y⟩ :: l) R fr h = rvP (okv (binV op (ev fr x) (ev fr y)) h) (kX fs l R fr d) := by show GP (some true) _ _ = _; rw [gp_t]; rfl
theorem x_eqk {kd : KD} {b : Bool} : X fs (⟨d, none, .eqk kd b x y⟩ :: l) R fr h = rvP (okv (oGet (keyEq kd (ev fr x) (ev fr y)) none fun r => some (.b (bif b then !r else r))) h) (kX fs l R fr d) := by show GP (some true) _ _ = _; rw [gp_t]; rfl
theorem x_not : X fs (⟨d, none, .not x⟩ :: l) R fr h = rvP ((ev fr x).onB .no fun b => .ok (.b (!b)) h) (kX fs l R fr d) := by show GP (some true) _ _ = _; rw [gp_t]; rfl
theorem x_conv {k : IntKind} : X fs (⟨d, none, .conv k x⟩ :: l) R fr h = rvP ((ev fr x).onI .no fun _ n => .ok (.i k (fw k n)) h) (kX fs l R fr d) := by show GP (some true) _ _ = _; rw [gp_t]; rfl
theorem x_mkfn {k : K} {cs : List EO} : X fs (⟨d, none, .mkfn k cs⟩ :: l) R fr h = X fs l R (putD fr d (.fn k (evs fr cs))) h := by show GP (some true) _ _ = _; rw [gp_t]; rfl
theorem x_mkmap {kt : Nat} : X fs (⟨d, none, .mkmap kt⟩ :: l) R fr h = X fs l R (putD fr d (.m h.nx)) (h.new (.map kt [])) := by show GP (some true) _ _ = _; rw [gp_t]; rfl
theorem x_look {kt : Nat} {kd : KD} {zv : V} {ok : Bool} : X fs (⟨d, none, .look kt kd zv x y ok⟩ :: l) R fr h = rvP (lookV kt kd zv h (ev fr x) (ev fr y) ok) (kX fs l R fr d) := by show GP (some true) _ _ = _; rw [gp_t]; rfl
theorem x_mupd {kt : Nat} {kd : KD} : X fs (⟨d, none, .mupd kt kd x y z⟩ :: l) R fr h = rvP (mupdV kt kd h (ev fr x) (ev fr y) (ev fr z)) (kX fs l R fr d) := by show GP (some true) _ _ = _; rw [gp_t]; rfl
theorem x_mks {sz : Nat} {zs : List V} : X fs (⟨d, none, .mkslice sz zs x⟩ :: l) R fr h = rvP (mksV sz zs h (ev fr x)) (kX fs l R fr d) := by show GP (some true) _ _ = _; rw [gp_t]; rfl
theorem x_slice {sz : Nat} {lo hi mx : Option EO} : X fs (⟨d, none, .slice sz x lo hi mx⟩ :: l) R fr h = rvP (sliceV fr sz (ev fr x) lo hi mx h) (kX fs l R fr d) := by show GP (some true) _ _ = _; rw [gp_t]; rfl
theorem x_iadr {n sz : Nat} : X fs (⟨d, none, .iadr n sz x y⟩ :: l) R fr h = rvP ((ev fr x).onP fun id off => idxV (ev fr y) n fun m => .ok (.p id (off + m * sz)) h) (kX fs l R fr d) := by show GP (some true) _ _ = _; rw [gp_t]; rfl
noncomputable def iadsV (sz : Nat) (x y : V) (h : H) : RV := x.onSl .no .no fun id off len sz' => bif Nat.beq sz sz' then idxV y len fun n => .ok (.p id (off + n * sz)) h else .no
theorem x_iads {sz : Nat} : X fs (⟨d, none, .iads sz x y⟩ :: l) R fr h = rvP (iadsV sz (ev fr x) (ev fr y) h) (kX fs l R fr d) := by show GP (some true) _ _ = _; rw [gp_t]; rfl
theorem x_ext {i : Nat} : X fs (⟨d, none, .ext x i⟩ :: l) R fr h = rvP ((ev fr x).onTup fun l => okv (nth l i) h) (kX fs l R fr d) := by show GP (some true) _ _ = _; rw [gp_t]; rfl
theorem x_call {args : List EO} : X fs (⟨d, none, .call x args⟩ :: l) R fr h = CallP fs (ev fr x) (evs fr args) h (kX fs l R fr d) := by show GP (some true) _ _ = _; rw [gp_t]; rfl
theorem x_len : X fs (⟨d, none, .len x⟩ :: l) R fr h = rvP (lenV (ev fr x) h) (kX fs l R fr d) := by show GP (some true) _ _ = _; rw [gp_t]; rfl
theorem x_app {sz : Nat} : X fs (⟨d, none, .app sz x y⟩ :: l) R fr h = rvP (appV sz h (ev fr x) (ev fr y)) (kX fs l R fr d) := by show GP (some true) _ _ = _; rw [gp_t]; rfl
theorem kx : kX fs l R fr d v h = X fs l R (putD fr d v) h := of_eq_true (eq_self _)
theorem rvP_ok : rvP (.ok v h) f = f v h := of_eq_true (eq_self _)
theorem okv_some : okv (some v) h = .ok v h := of_eq_true (eq_self _)
/-! Values -/
theorem ev_t {k : K} : ev fr (.t k) = getV (fr.get k) := of_eq_true (eq_self _)
theorem ev_c : ev fr (.c v) = v := of_eq_true (eq_self _)
theorem evs_nil : evs fr [] = [] := of_eq_true (eq_self _)
theorem evs_cons {as : List EO} : evs fr (x :: as) = ev fr x :: evs fr as := of_eq_true (eq_self _)
theorem getV_some : getV (some v) = v := of_eq_true (eq_self _)
theorem putD_some {k : K} : putD fr (some k) v = fr.set k v := of_eq_true (eq_self _)
theorem putD_none : putD fr none v = fr := of_eq_true (eq_self _)
variable {k k' : IntKind} {a b : Int} {r s : Bool} {id id' : K} {off n m sz : Nat}
theorem bin_add : binV .add (.i k a) (.i k b) = some (.i k (fw k (a + b))) := by cases k <;> (show some (V.i _ (fw _ (iadd a b))) = _; rw [iadd_eq])
theorem bin_sub : binV .sub (.i k a) (.i k b) = some (.i k (fw k (a - b))) := by cases k <;> (show some (V.i _ (fw _ (isub a b))) = _; rw [isub_eq])
theorem bin_eql : binV .eql (.i k a) (.i k b) = some (.b (decide (a = b))) := by
  have : binV .eql (.i k a) (.i k b) = some (.b (ieq a b)) := by cases k <;> rfl
  rw [this, ieq_eq]; congr 2
theorem bin_neq : binV .neq (.i k a) (.i k b) = some (.b (decide (a ≠ b))) := by
  have : binV .neq (.i k a) (.i k b) = some (.b (!ieq a b)) := by cases k <;> rfl
  rw [this, ieq_eq]; by_cases h : a = b <;> simp [h]
theorem bin_lss : binV .lss (.i k a) (.i k b) = some (.b (decide (a < b))) := by
  have : binV .lss (.i k a) (.i k b) = some (.b (ilt a b)) := by cases k <;> rfl
  rw [this, ilt_eq]
theorem bin_gtr : binV .gtr (.i k a) (.i k b) = some (.b (decide (b < a))) := by
  have : binV .gtr (.i k a) (.i k b) = some (.b (ilt b a)) := by cases k <;> rfl
  rw [this, ilt_eq]
theorem bin_geq : binV .geq (.i k a) (.i k b) = some (.b (decide (b ≤ a))) := by
  have : binV .geq (.i k a) (.i k b) = some (.b (ile b a)) := by cases k <;> rfl
  rw [this, ile_eq]
theorem bin_rem (hb : b ≠ 0) : binV .rem (.i k a) (.i k b) = some (.i k (a.tmod b)) := by
  have : binV .rem (.i k a) (.i k b) = irem k a b := by cases k <;> rfl
  rw [this]; unfold irem; rw [ieq_eq, show (b == 0) = false by simpa using hb]; rfl
theorem bin_shl (hb : 0 ≤ b) : binV .shl (.i k a) (.i k' b) = some (.i k (fw k (a * 2 ^ (min b.toNat k.bits)))) := by
  obtain ⟨n, rfl⟩ := Int.eq_ofNat_of_zero_le hb
  have : binV .shl (.i k a) (.i k' (n : Int)) = some (shlV k a n) := by cases k <;> rfl
  rw [this]; unfold shlV; rw [imul_eq]; simp
theorem bin_shr {m n : Nat} : binV .shr (.i k (m : Int)) (.i k' (n : Int)) = some (.i k ((m / 2 ^ (min n k.bits) : Nat) : Int)) := by
  have : binV .shr (.i k (m : Int)) (.i k' (n : Int)) = some (shrV k (m : Int) n) := by cases k <;> rfl
  rw [this]; rfl
theorem ibits_nat {ff : Nat → Nat → Nat} {g : (w : Nat) → BitVec w → BitVec w → BitVec w} {m n : Nat} (hm : m ≤ kmax k) (hn : n ≤ kmax k) : ibits ff g k (m : Int) (n : Int) = ((ff m n : Nat) : Int) := by
  show (bif Nat.ble m (kmax k) && Nat.ble n (kmax k) then Int.ofNat (ff m n) else slowBits g k m n) = _
  rw [Nat.ble_eq_true_of_le hm, Nat.ble_eq_true_of_le hn]; rfl
theorem bin_and {m n : Nat} (hm : m ≤ kmax k) (hn : n ≤ kmax k) : binV .and (.i k (m : Int)) (.i k (n : Int)) = some (.i k ((m &&& n : Nat) : Int)) := by
  have : binV .and (.i k (m : Int)) (.i k (n : Int)) = some (.i k (ibits Nat.land (fun _ x y => x &&& y) k m n)) := by cases k <;> rfl
  rw [this, ibits_nat hm hn]; rfl
theorem bin_or {m n : Nat} (hm : m ≤ kmax k) (hn : n ≤ kmax k) : binV .or (.i k (m : Int)) (.i k (n : Int)) = some (.i k ((m ||| n : Nat) : Int)) := by
  have : binV .or (.i k (m : Int)) (.i k (n : Int)) = some (.i k (ibits Nat.lor (fun _ x y => x ||| y) k m n)) := by cases k <;> rfl
  rw [this, ibits_nat hm hn]; rfl
theorem fw_in (h1 : -(kmin k : Int) ≤ a) (h2 : a ≤ kmax k) : fw k a = a := by
  cases a with
  | ofNat m =>
    show (bif Nat.ble m (kmax k) then Int.ofNat m else k.wrap (.ofNat m)) = _
    rw [Nat.ble_eq_true_of_le (show m ≤ kmax k by have : Int.ofNat m = (m : Int) := rfl; omega)]; rfl
  | negSucc m =>
    show (bif Nat.blt m (kmin k) then Int.negSucc m else k.wrap (.negSucc m)) = _
    have : Nat.blt m (kmin k) = true := Nat.ble_eq_true_of_le (by have : Int.negSucc m = -((m : Int) + 1) := rfl; show m + 1 ≤ kmin k; omega)
    rw [this]; rfl
theorem fw64 (h1 : -9223372036854775808 ≤ a) (h2 : a ≤ 9223372036854775807) : fw .i64 a = a := fw_in (k := .i64) h1 h2
theorem pick_b {u : V} : pickV (.b r) v u h = .ok (if r = true then v else u) h := by cases r <;> rfl
theorem onB_b {α : Type} {dd : α} {ff : Bool → α} : (V.b r).onB dd ff = ff r := of_eq_true (eq_self _)
theorem onI_i {α : Type} {dd : α} {ff : IntKind → Int → α} : (V.i k a).onI dd ff = ff k a := of_eq_true (eq_self _)
theorem onTup_t {vs : List V} {ff : List V → RV} : (V.tup vs).onTup ff = ff vs := of_eq_true (eq_self _)
theorem onP_p {ff : K → Nat → RV} : (V.p id off).onP ff = ff id off := of_eq_true (eq_self _)
theorem oGet_s {α β : Type} {u : α} {dd : β} {ff : α → β} : oGet (some u) dd ff = ff u := of_eq_true (eq_self _)
theorem nth0 {α : Type} {u : α} {us : List α} : nth (u :: us) 0 = some u := of_eq_true (eq_self _)
theorem nth1 {α : Type} {u u1 : α} {us : List α} : nth (u :: u1 :: us) 1 = some u1 := of_eq_true (eq_self _)
theorem nth2 {α : Type} {u u1 u2 : α} {us : List α} : nth (u :: u1 :: u2 :: us) 2 = some u2 := of_eq_true (eq_self _)
theorem idx_n {ff : Nat → RV} (hm : m < n) : idxV (.i k (m : Int)) n ff = ff m := by
  show (bif Nat.blt m n then ff m else RV.no) = _
  rw [show Nat.blt m n = true from Nat.ble_eq_true_of_le hm]; rfl
theorem iads_sl {y : V} : iadsV sz (.sl id off n sz) y h = idxV y n fun m => .ok (.p id (off + m * sz)) h := by
  show (bif Nat.beq sz sz then _ else _) = _
  rw [Nat.beq_refl]; rfl
theorem load_p {cs : List V} (hb : h.get id = .cells m cs) (hc : nth cs off = some v) : loadV h (.p id off) one? = .ok v h := by
  show okv ((h.get id).onC none fun n cs => one? cs n off) h = _
  rw [hb]; show okv (nth cs off) h = _; rw [hc]; rfl
theorem loadn_p {cs : List V} (hb : h.get id = .cells m cs) (hm : off + n ≤ m) : loadV h (.p id off) (many? n) = .ok (.agg (takeN n (dropN off cs))) h := by
  show okv ((h.get id).onC none fun m cs => many? n cs m off) h = _
  rw [hb]; show okv (bif Nat.ble (off + n) m then some (.agg (takeN n (dropN off cs))) else none) h = _
  rw [Nat.ble_eq_true_of_le hm]; rfl
theorem store_p {cs xs : List V} (hb : h.get id = .cells m cs) (hx : cellsN n v = some xs) (hm : off + n ≤ m) : storeV h n (.p id off) v = .ok undefV (h.put id (.cells m (setMany cs off xs))) := by
  show (h.get id).onC RV.no (fun m cs => oGet (cellsN n v) RV.no fun xs => bif Nat.ble (off + n) m then RV.ok undefV (h.put id (.cells m (setMany cs off xs))) else RV.no) = _
  rw [hb, hx]
  show (bif Nat.ble (off + n) m then RV.ok undefV (h.put id (.cells m (setMany cs off xs))) else RV.no) = _
  rw [Nat.ble_eq_true_of_le hm]; rfl
theorem min_ii : minV (.i k a) (.i k' b) h = .ok (.i k (min a b)) h := by
  show RV.ok (V.i k (bif ilt b a then b else a)) h = _
  rw [ilt_eq]; by_cases e : b < a <;> simp [e, Int.min_def] <;> omega
theorem readRs_nil : readRs fr h [] = some [] := of_eq_true (eq_self _)
theorem readRs_t {kk : K} {rs : List ER} : readRs fr h (.tmp kk :: rs) = oGet (readRs fr h rs) none fun l => some (getV (fr.get kk) :: l) := of_eq_true (eq_self _)
theorem retV_1 : retV [v] = v := of_eq_true (eq_self _)
theorem retV_2 {v1 v2 : V} {vs : List V} : retV (v1 :: v2 :: vs) = .tup (v1 :: v2 :: vs) := of_eq_true (eq_self _)
theorem getK_set {kk kk' : Nat} {t : Fr} : T.get (K.ofNat kk) (T.set (K.ofNat kk') v t) = if kk = kk' then some v else T.get (K.ofNat kk) t := by
  rw [T.get_set]
  by_cases e : kk = kk'
  · rw [if_pos e, if_pos (by rw [e])]
  · rw [if_neg e, if_neg (fun h => e (by rw [← K.ofNat_nat kk, h, K.ofNat_nat]))]
theorem frame_1 {v1 : V} : frame .e [v1] .nil = T.set (K.ofNat 0) v1 .nil := of_eq_true (eq_self _)
theorem frame_2 {v1 v2 : V} : frame .e [v1, v2] .nil = T.set (K.ofNat 1) v2 (T.set (K.ofNat 0) v1 .nil) := of_eq_true (eq_self _)
theorem frame_3 {v1 v2 v3 : V} : frame .e [v1, v2, v3] .nil = T.set (K.ofNat 2) v3 (T.set (K.ofNat 1) v2 (T.set (K.ofNat 0) v1 .nil)) := of_eq_true (eq_self _)
theorem cells1_i : cellsN 1 (.i k a) = some [.i k a] := of_eq_true (eq_self _)
end
end Go.Ev
namespace Go.Ev
open Go Go.RowKit

/-! ### Memory that grows -/
/-- Nothing lies beyond the names that were given. -/
def HC (h : H) : Prop := ∀ id : K, h.nx.nat ≤ id.nat → h.get id = .dead
/-- What has a name below b stays. -/
structure Grow (b : Nat) (h h' : H) : Prop where
  nx : h.nx.nat ≤ h'.nx.nat
  old : ∀ id : K, id.nat < b → h'.get id = h.get id
  hc : HC h → HC h'
theorem Grow.refl (b : Nat) (h : H) : Grow b h h := ⟨Nat.le_refl _, fun _ _ => rfl, fun h => h⟩
theorem Grow.trans {b : Nat} {h h1 h2 : H} (k : Grow b h h1) (l : Grow b h1 h2) : Grow b h h2 := ⟨Nat.le_trans k.nx l.nx, fun id hi => (l.old id hi).trans (k.old id hi), fun hc => l.hc (k.hc hc)⟩
theorem Grow.low {b c : Nat} {h h1 : H} (hb : b ≤ c) (k : Grow c h h1) : Grow b h h1 := ⟨k.nx, fun id hi => k.old id (Nat.lt_of_lt_of_le hi hb), k.hc⟩
theorem nx_new (h : H) (x : Blk) : (h.new x).nx.nat = h.nx.nat + 1 := K.succ_nat _
theorem nx_put (h : H) (k : K) (x : Blk) : (h.put k x).nx = h.nx := rfl
theorem Grow.new {b : Nat} {h : H} (hb : b ≤ h.nx.nat) (x : Blk) : Grow b h (h.new x) := by
  refine ⟨by rw [nx_new]; omega, fun id hi => ?_, fun hc id hi => ?_⟩
  · rw [H.get_new, if_neg (fun e => by rw [e] at hi; omega)]
  · rw [nx_new] at hi
    rw [H.get_new, if_neg (fun e => by rw [e] at hi; omega)]
    exact hc id (by omega)
theorem Grow.put {b : Nat} {h : H} {k : K} (hb : b ≤ k.nat) (hk : k.nat < h.nx.nat) (x : Blk) : Grow b h (h.put k x) := by
  refine ⟨Nat.le_refl _, fun id hi => ?_, fun hc id hi => ?_⟩
  · rw [H.get_put, if_neg (fun e => by rw [e] at hi; omega)]
  · rw [nx_put] at hi
    rw [H.get_put, if_neg (fun e => by rw [e] at hi; omega)]
    exact hc id hi
theorem HC.lt {h : H} (hc : HC h) {id : K} (hd : h.get id ≠ .dead) : id.nat < h.nx.nat := by
  rcases Nat.lt_or_ge id.nat h.nx.nat with e | e
  · exact e
  · exact absurd (hc id e) hd
theorem HC.cells {h : H} (hc : HC h) {id : K} {m : Nat} {cs : List V} (hd : h.get id = .cells m cs) : id.nat < h.nx.nat := hc.lt (by rw [hd]; simp)
theorem HC.dead {h : H} (hc : HC h) : (h.get h.nx).isDead = true := by rw [hc h.nx (Nat.le_refl _)]; rfl
theorem get_new_same {h : H} {x : Blk} : (h.new x).get h.nx = x := by rw [H.get_new, if_pos rfl]
theorem get_new_old {h : H} {x : Blk} {id : K} (hi : id.nat < h.nx.nat) : (h.new x).get id = h.get id := by rw [H.get_new, if_neg (fun e => by rw [e] at hi; omega)]
theorem get_put_same {h : H} {x : Blk} {id : K} : (h.put id x).get id = x := by rw [H.get_put, if_pos rfl]
theorem get_put_other {h : H} {x : Blk} {id id' : K} (hi : id' ≠ id) : (h.put id x).get id' = h.get id' := by rw [H.get_put, if_neg hi]

/-! ### Slices -/
def Sl {α : Type} (e : α → V) (h : H) (v : V) (L : List α) : Prop := (v = .sn ∧ L = []) ∨ ∃ id off m cs, v = .sl id off L.length 1 ∧ h.get id = .cells m cs ∧ cs.length = m ∧ off + L.length ≤ m ∧ ∀ i (hi : i < L.length), cs[off + i]? = some (e L[i])
/-- The slice was made since. -/
def Own (b : Nat) (v : V) : Prop := ∀ id off n sz, v = .sl id off n sz → b ≤ id.nat
/-- The slice is no part of that block. -/
def NotIn (id : K) (v : V) : Prop := ∀ off n sz, v ≠ .sl id off n sz
noncomputable def iE (n : Int) : V := .i .i64 n
section
variable {α : Type} {e : α → V} {h h' : H} {v u : V} {L M : List α} {b : Nat}
theorem Sl.nil : Sl e h .sn ([] : List α) := .inl ⟨rfl, rfl⟩
theorem Own.sn : Own b .sn := fun _ _ _ _ h => by cases h
theorem NotIn.sn {id : K} : NotIn id .sn := fun _ _ _ h => by cases h
theorem Own.low {c : Nat} (ho : Own c v) (hb : b ≤ c) : Own b v := fun id off n sz e => Nat.le_trans hb (ho id off n sz e)
theorem Own.notIn {id : K} (ho : Own b v) (hi : id.nat < b) : NotIn id v := fun off n sz e => by have := ho id off n sz e; omega
theorem Sl.len (hs : Sl e h v L) (h1 : H) : lenV v h1 = .ok (.i .i64 (L.length : Int)) h1 := by
  rcases hs with ⟨rfl, rfl⟩ | ⟨id, off, m, cs, rfl, _⟩ <;> rfl
theorem Sl.at (hs : Sl e h v L) (i : Nat) (hi : i < L.length) : ∃ p, (∀ k h1, iadsV 1 v (.i k (i : Int)) h1 = .ok p h1) ∧ loadV h p one? = .ok (e L[i]) h := by
  rcases hs with ⟨rfl, rfl⟩ | ⟨id, off, m, cs, rfl, hb, hl, hm, hx⟩
  · simp at hi
  · refine ⟨.p id (off + i * 1), fun k h1 => ?_, ?_⟩
    · rw [iads_sl, idx_n hi]
    · exact load_p hb (by rw [nth_eq, Nat.mul_one]; exact hx i hi)
theorem Sl.same (hs : Sl e h v L) (hg : ∀ id off n sz, v = .sl id off n sz → h'.get id = h.get id) : Sl e h' v L := by
  rcases hs with ⟨rfl, rfl⟩ | ⟨id, off, m, cs, rfl, hb, hl, hm, hx⟩
  · exact .inl ⟨rfl, rfl⟩
  · exact .inr ⟨id, off, m, cs, rfl, by rw [hg _ _ _ _ rfl]; exact hb, hl, hm, hx⟩
theorem Sl.lt (hs : Sl e h v L) (hc : HC h) : ∀ id off n sz, v = .sl id off n sz → id.nat < h.nx.nat := by
  rcases hs with ⟨rfl, rfl⟩ | ⟨id, off, m, cs, rfl, hb, hl, hm, hx⟩
  · exact fun _ _ _ _ h => by cases h
  · exact fun _ _ _ _ h => by cases h; exact hc.cells hb
/-- What was there when the call began is there. -/
theorem Sl.grow (hs : Sl e h v L) (hc : HC h) (hg : Grow h.nx.nat h h') : Sl e h' v L := hs.same fun id off n sz ev => hg.old id (hs.lt hc id off n sz ev)
theorem Sl.new (hs : Sl e h v L) (hc : HC h) (x : Blk) : Sl e (h.new x) v L := hs.grow hc (Grow.new (Nat.le_refl _) x)
theorem Sl.put (hs : Sl e h v L) {id : K} (hn : NotIn id v) (x : Blk) : Sl e (h.put id x) v L := hs.same fun id' off n sz ev => get_put_other (fun ee => hn off n sz (by rw [ev, ee]))
theorem Sl.addOf (hs : Sl e h v L) : addOf 1 h v = some (L.length, L.map e) := by
  rcases hs with ⟨rfl, rfl⟩ | ⟨id, off, m, cs, rfl, hb, hl, hm, hx⟩
  · rfl
  · show (h.get id).onC none (fun len cs => bif Nat.beq 1 1 && Nat.ble (off + L.length * 1) len then some (L.length, takeN (L.length * 1) (dropN off cs)) else none) = _
    rw [hb]
    show (bif Nat.beq 1 1 && Nat.ble (off + L.length * 1) m then some (L.length, takeN (L.length * 1) (dropN off cs)) else none) = _
    rw [show (Nat.beq 1 1 && Nat.ble (off + L.length * 1) m) = true by rw [Nat.beq_refl, Nat.ble_eq_true_of_le (by omega)]; rfl]
    show some (L.length, takeN (L.length * 1) (dropN off cs)) = _
    congr 2
    rw [takeN_eq, dropN_eq, Nat.mul_one]
    apply List.ext_getElem?
    intro i
    by_cases hi : i < L.length
    · rw [List.getElem?_take, if_pos hi, List.getElem?_drop, hx i hi]; simp [hi]
    · rw [List.getElem?_eq_none (by simp; omega), List.getElem?_eq_none (by simp; omega)]
/-- What appending does. -/
theorem Sl.app (hs : Sl e h v L) (ho : Own b v) (hb : b ≤ h.nx.nat) (hu : Sl e h u M) (hc : HC h) (hn : L.length + M.length ≤ 16777216) :
    ∃ v' h', appV 1 h v u = .ok v' h' ∧ Sl e h' v' (L ++ M) ∧ Own b v' ∧ Grow b h h' ∧ ∀ id : K, id.nat < h.nx.nat → NotIn id v → h'.get id = h.get id ∧ NotIn id v' := by
  have hne : ∀ id : K, id.nat < h.nx.nat → id ≠ h.nx := fun id hi ee => by rw [ee] at hi; omega
  unfold appV
  rw [hu.addOf]
  show ∃ v' h', v.onSl RV.no (bif Nat.ble M.length 16777216 then app0 1 h M.length (M.map e) else .no) (fun id off n sz' => (h.get id).onC .no fun len cs => bif Nat.beq 1 sz' && Nat.ble (off + n * 1) len && Nat.ble (n + M.length) 16777216 then app1 1 h id off n cs M.length (M.map e) else .no) = .ok v' h' ∧ _
  rcases hs with ⟨rfl, rfl⟩ | ⟨id, off, m, cs, rfl, hb', hl, hm, hx⟩
  · show ∃ v' h', (bif Nat.ble M.length 16777216 then app0 1 h M.length (M.map e) else .no) = .ok v' h' ∧ _
    rw [Nat.ble_eq_true_of_le (by simpa using hn)]
    show ∃ v' h', app0 1 h M.length (M.map e) = .ok v' h' ∧ _
    unfold app0
    by_cases hz : M.length = 0
    · have : M = [] := List.length_eq_zero_iff.1 hz
      subst this
      exact ⟨.sn, h, rfl, .inl ⟨rfl, rfl⟩, Own.sn, Grow.refl _ _, fun id hi _ => ⟨rfl, NotIn.sn⟩⟩
    · rw [show Nat.beq M.length 0 = false by rw [← Bool.not_eq_true]; intro h; exact hz (Nat.eq_of_beq_eq_true h)]
      refine ⟨_, _, rfl, .inr ⟨h.nx, 0, M.length * 1, M.map e, rfl, get_new_same, by simp, by simp, fun i hi => ?_⟩, fun _ _ _ _ h => by cases h; exact hb, Grow.new hb _, fun id hi _ => ⟨get_new_old hi, fun _ _ _ h => by cases h; omega⟩⟩
      have hi : i < M.length := by simpa using hi
      simp [hi]
  · show ∃ v' h', (h.get id).onC RV.no (fun len cs => bif Nat.beq 1 1 && Nat.ble (off + L.length * 1) len && Nat.ble (L.length + M.length) 16777216 then app1 1 h id off L.length cs M.length (M.map e) else .no) = .ok v' h' ∧ _
    rw [hb']
    show ∃ v' h', (bif Nat.beq 1 1 && Nat.ble (off + L.length * 1) m && Nat.ble (L.length + M.length) 16777216 then app1 1 h id off L.length cs M.length (M.map e) else .no) = .ok v' h' ∧ _
    rw [show (Nat.beq 1 1 && Nat.ble (off + L.length * 1) m && Nat.ble (L.length + M.length) 16777216) = true by rw [Nat.beq_refl, Nat.ble_eq_true_of_le (show off + L.length * 1 ≤ m by omega), Nat.ble_eq_true_of_le hn]; rfl]
    show ∃ v' h', app1 1 h id off L.length cs M.length (M.map e) = .ok v' h' ∧ _
    unfold app1
    by_cases hz : M.length = 0
    · have : M = [] := List.length_eq_zero_iff.1 hz
      subst this
      refine ⟨_, h, rfl, .inr ⟨id, off, m, cs, by simp, hb', hl, by simpa using hm, fun i hi => ?_⟩, ho, Grow.refl _ _, fun id' hi hni => ⟨rfl, hni⟩⟩
      have hi' : i < L.length := by simpa using hi
      simpa using hx i hi'
    · rw [show Nat.beq M.length 0 = false by rw [← Bool.not_eq_true]; intro h; exact hz (Nat.eq_of_beq_eq_true h)]
      have hid := hc.cells hb'
      refine ⟨_, _, rfl, .inr ⟨h.nx, 0, (L.length + M.length) * 1, cat (takeN (L.length * 1) (dropN off cs)) (M.map e), by simp, get_new_same, ?_, by simp, fun i hi => ?_⟩, fun _ _ _ _ h => by cases h; exact hb, (Grow.put (ho _ _ _ _ rfl) hid _).trans (Grow.new (by exact hb) _), fun id' hi hni => ⟨?_, fun _ _ _ h => by cases h; exact absurd hi (Nat.lt_irrefl _)⟩⟩
      · rw [cat_eq, takeN_eq, dropN_eq]; simp; omega
      · rw [cat_eq, takeN_eq, dropN_eq, Nat.mul_one, Nat.zero_add]
        have hi' : i < L.length + M.length := by simpa using hi
        by_cases h1 : i < L.length
        · rw [List.getElem?_append_left (by simp; omega), List.getElem?_take, if_pos h1, List.getElem?_drop, hx i h1]
          simp [List.getElem_append_left h1]
        · rw [List.getElem?_append_right (by simp; omega)]
          have : (List.take L.length (List.drop off cs)).length = L.length := by simp; omega
          have hi2 : i - L.length < M.length := by omega
          rw [this, List.getElem_append_right (by omega), List.getElem?_map, List.getElem?_eq_getElem hi2]
          rfl
      · show ((h.put id .dead).new _).get id' = _
        rw [H.get_new, if_neg (show id' ≠ (h.put id .dead).nx from hne id' hi), get_put_other (fun ee => hni off L.length 1 (by rw [ee]))]
theorem Sl.lit {x : α} : Sl e (h.new (.cells (1 * 1) [e x])) (.sl h.nx 0 1 1) [x] := by
  refine .inr ⟨h.nx, 0, 1 * 1, [e x], rfl, get_new_same, rfl, by simp, fun i hi => ?_⟩
  have : i = 0 := by simpa using hi
  subst this; rfl
/-- append(v, x). -/
theorem Sl.push {x : α} {c : V} (hx : c = e x) (hs : Sl e h v L) (ho : Own b v) (hb : b ≤ h.nx.nat) (hc : HC h) (hn : L.length < 16777216) :
    ∃ v' h', appV 1 (h.new (.cells (1 * 1) [c])) v (.sl h.nx 0 1 1) = .ok v' h' ∧ Sl e h' v' (L ++ [x]) ∧ Own b v' ∧ Grow b h h' ∧ ∀ id : K, id.nat < h.nx.nat → NotIn id v → h'.get id = h.get id ∧ NotIn id v' := by
  subst hx
  have hg := Grow.new (b := b) hb (.cells (1 * 1) [e x])
  have hnx := nx_new h (.cells (1 * 1) [e x])
  obtain ⟨v', h', e1, e2, e3, e4, e5⟩ := Sl.app (b := b) (hs.new hc (.cells (1 * 1) [e x])) ho (by omega) (Sl.lit (e := e) (x := x)) (hg.hc hc) (by simp; omega)
  refine ⟨v', h', e1, e2, e3, hg.trans e4, fun id hi hni => ?_⟩
  obtain ⟨e6, e7⟩ := e5 id (by omega) hni
  exact ⟨by rw [e6, get_new_old hi], e7⟩
theorem fill_1 {fr : Fr} {x : EO} {z : V} : fillE fr [z] [(0, 1, x)] = oGet (cellsN 1 (ev fr x)) none (fun cs => some (setMany [z] 0 cs)) := of_eq_true (eq_self _)
theorem set_1 {z c : V} : setMany [z] 0 [c] = [c] := of_eq_true (eq_self _)
theorem of0 : Int.ofNat 0 = 0 := of_eq_true (eq_self _)
theorem of1 : Int.ofNat 1 = 1 := of_eq_true (eq_self _)
theorem of2 : Int.ofNat 2 = 2 := of_eq_true (eq_self _)
theorem of6 : Int.ofNat 6 = 6 := of_eq_true (eq_self _)
theorem of10 : Int.ofNat 10 = 10 := of_eq_true (eq_self _)
theorem of64 : Int.ofNat 64 = 64 := of_eq_true (eq_self _)
end
end Go.Ev
namespace Go.Ev
open Go Go.RowKit
section
variable {fs : T EF}
/-- The function, called with a body, goes through these values, as long as memory holds what it needs. -/
def Yields (fs : T EF) (k : K) (caps : List V) (N : H → Prop) (ys : List V) : Prop :=
  ∀ (id : K) (I : Nat → H → Prop) (D : H → Prop) (h : H), (∀ i h, I i h → N h) → I 0 h →
    (∀ i h (hi : i < ys.length), I i h → ∃ b h', Round fs id ys[i] h b h' ∧ (b = true → I (i + 1) h') ∧ (b = false → D h')) →
    ∃ n h', callV fs (eval fs n) (.fn k caps) [.yl id] h = .ok (.tup []) h' ∧ (I ys.length h' ∨ D h')

def cntB (B : Nat → Bool) (j : Nat) : Nat := ((List.range j).filter B).length
theorem cntB_succ {B : Nat → Bool} {j : Nat} : cntB B (j + 1) = cntB B j + (if B j = true then 1 else 0) := by
  unfold cntB
  rw [List.range_succ, List.filter_append, List.length_append]
  cases h : B j <;> simp [h]
theorem filter_at {B : Nat → Bool} {n j : Nat} (hj : j < n) (hB : B j = true) : ((List.range n).filter B)[cntB B j]? = some j := by
  induction n with
  | zero => omega
  | succ n ih =>
    rw [List.range_succ, List.filter_append]
    by_cases e : j = n
    · subst e
      rw [List.getElem?_append_right (by unfold cntB; omega)]
      simp [cntB, hB]
    · have hlt : j < n := by omega
      have h1 := ih hlt
      have h2 : cntB B j < ((List.range n).filter B).length := (List.getElem?_eq_some_iff.1 h1).1
      rw [List.getElem?_append_left h2, h1]
def rdyB (fr : Fr) (ps : List K) (a c : EC) : Blk := .loop .ready none fr ps a c
def bsyB (fr : Fr) (ps : List K) (a c : EC) : Blk := .loop .busy none fr ps a c
/-- A round's end. -/
def rndK (id : K) (fr : Fr) (ps : List K) (a c : EC) (I : H → Prop) (D : Ex → H → Prop) : Ex → Fr → H → Prop := fun e _ h => h.get id = bsyB fr ps a c ∧ (match e with | .normal => I (h.put id (rdyB fr ps a c)) | e => D e (h.put id .dead))
def rndA (fs : T EF) (id : K) (fr : Fr) (ps : List K) (a c : EC) (I : H → Prop) (D : Ex → H → Prop) : Ex → Fr → H → Prop := fun e fr1 h => e = .normal ∧ h.get id = rdyB fr ps a c ∧ W fs (some id) c (rndK id fr ps a c I D) fr1 (h.put id (bsyB fr ps a c))
section
variable {id : K} {fr fr1 : Fr} {ps : List K} {a c : EC} {I : H → Prop} {D : Ex → H → Prop} {h : H} {i : Nat}
theorem rndA_n : rndA fs id fr ps a c I D .normal fr1 h = (h.get id = rdyB fr ps a c ∧ W fs (some id) c (rndK id fr ps a c I D) fr1 (h.put id (bsyB fr ps a c))) := by
  show (Ex.normal = Ex.normal ∧ _) = _
  rw [eq_self, true_and]
theorem rndK_n : rndK id fr ps a c I D .normal fr1 h = (h.get id = bsyB fr ps a c ∧ I (h.put id (rdyB fr ps a c))) := of_eq_true (eq_self _)
end
/-- Only one block differs. -/
structure Same1 (id : K) (h h' : H) : Prop where
  nx : h'.nx = h.nx
  old : ∀ id', id' ≠ id → h'.get id' = h.get id'
theorem Same1.refl (id : K) (h : H) : Same1 id h h := ⟨rfl, fun _ _ => rfl⟩
theorem Same1.put {id : K} {h h' : H} (s : Same1 id h h') (x : Blk) : Same1 id h (h'.put id x) := ⟨s.nx, fun id' hi => by rw [get_put_other hi]; exact s.old id' hi⟩
theorem Same1.grow {id : K} {h h' : H} {b : Nat} (s : Same1 id h h') (hb : b ≤ id.nat) (hi : id.nat < h.nx.nat) : Grow b h h' :=
  ⟨by rw [s.nx]; exact Nat.le_refl _, fun id' h1 => s.old id' (fun e => by rw [e] at h1; omega), fun hc id' h1 => by rw [s.nx] at h1; rw [s.old id' (fun e => by rw [e] at h1; omega)]; exact hc id' h1⟩
theorem put_put (h : H) (k k' : K) (x y : Blk) : ((h.put k x).put k y).get k' = (h.put k y).get k' := by
  rw [H.get_put, H.get_put, H.get_put]; split <;> rfl
theorem T.set_set {α : Type} (k : K) (x y : α) : ∀ t : T α, T.set k y (T.set k x t) = T.set k y t := by
  induction k with
  | e => intro t; rfl
  | o k ih =>
    intro t
    show T.node (T.set k y (T.set k x t.left)) t.val t.right = T.node (T.set k y t.left) t.val t.right
    rw [ih]
  | z k ih =>
    intro t
    show T.node t.left t.val (T.set k y (T.set k x t.right)) = T.node t.left t.val (T.set k y t.right)
    rw [ih]
theorem H.put_put (h : H) (k : K) (x y : Blk) : (h.put k x).put k y = h.put k y := by
  show (⟨h.nx, T.set k y (T.set k x h.t)⟩ : H) = ⟨h.nx, T.set k y h.t⟩
  rw [T.set_set]
/-- A loop over a function. -/
theorem W_range {ro : Option K} {f : EO} {k : K} {caps : List V} {p : K} {a c : EC} {fr : Fr} {h : H} {Q : Ex → Fr → H → Prop} {N : H → Prop} {ys : List V} (hro : roOk ro h = true) (hf : ev fr f = .fn k caps) (hy : Yields fs k caps N ys)
    (I : Nat → H → Prop) (D : Ex → H → Prop) (hN : ∀ i h1, I i h1 → N h1) (hI0 : I 0 (h.new (rdyB fr [p] a c)))
    (step : ∀ i h1 (hi : i < ys.length), I i h1 → h1.get h.nx = rdyB fr [p] a c → W fs (some h.nx) a (rndA fs h.nx fr [p] a c (I (i + 1)) D) (fr.set p ys[i]) h1)
    (fin : ∀ h1, I ys.length h1 → Q .normal fr (h1.put h.nx .dead)) (brk : ∀ e h1, e ≠ .normal → D e h1 → Q e fr h1) : W fs ro (.rangeF f [p] a c) Q fr h := by
  have key := hy h.nx (fun i h1 => I i h1 ∧ h1.get h.nx = rdyB fr [p] a c) (fun h1 => ∃ e, e ≠ .normal ∧ D e (h1.put h.nx .dead) ∧ h1.get h.nx = .loop .done (some e) fr [p] a c) (h.new (rdyB fr [p] a c)) (fun i h1 hi => hN i h1 hi.1) ⟨hI0, get_new_same⟩ ?_
  · obtain ⟨n, h1, hc, hq⟩ := key
    rcases hq with ⟨hI, hb⟩ | ⟨e, hne, hD, hb⟩
    · exact ⟨.normal, fr, _, Runs.range hro hf ⟨n, hc⟩ hb (.inl ⟨rfl, rfl, rfl⟩), fin h1 hI⟩
    · exact ⟨e, fr, _, Runs.range hro hf ⟨n, hc⟩ hb (.inr ⟨rfl, rfl⟩), brk e _ hne hD⟩
  · rintro i h1 hi ⟨hI, hb⟩
    obtain ⟨e1, fr1, h2, r1, rfl, hb2, hw⟩ := W_ok _ _ _ _ (step i h1 hi hI hb)
    obtain ⟨e2, fr2, h3, r2, hb3, hq⟩ := W_ok _ _ _ _ hw
    refine ⟨isNo e2, h3.put h.nx (afterR e2 fr [p] a c), round_of hb rfl r1 hb2 r2 hb3, fun he => ?_, fun he => ?_⟩
    · cases e2 <;> first | exact ⟨hq, get_put_same⟩ | cases he
    · cases e2 with
      | normal => cases he
      | exit j => exact ⟨.exit j, by simp, by rw [H.put_put]; exact hq, get_put_same⟩
      | ret => exact ⟨.ret, by simp, by rw [H.put_put]; exact hq, get_put_same⟩
end
section
variable {α : Type} {e : α → V} {fr : Fr} {h : H} {x y : EO} {v : V} {L M : List α} {sz : Nat} {lo hi mx : Option EO}
/-! ### Parts of slices -/
noncomputable def bnd (o : Option V) (d : Nat) : Option Nat := oGet o (some d) fun v => v.onI none fun _ n => nonneg n
noncomputable def sliceB (sz : Nat) (x : V) (lo hi mx : Option V) (h : H) : RV := x.onSl .no
    (oGet (bnd lo 0) .no fun l => oGet (bnd hi 0) .no fun u => oGet (bnd mx 0) .no fun m => bif Nat.beq l 0 && Nat.beq u 0 && Nat.beq m 0 then .ok .sn h else .no)
    fun id off n sz' => bif Nat.beq sz sz' then (oGet (bnd lo 0) .no fun l => oGet (bnd hi n) .no fun u => oGet mx (cutV id off n sz h l u none) fun _ => oGet (bnd mx 0) .no fun m => cutV id off n sz h l u (some m)) else .no
theorem bound_eq (o : Option EO) (d : Nat) : bound fr o d = bnd (o.map (ev fr)) d := by cases o <;> rfl
theorem sliceV_eq : sliceV fr sz v lo hi mx h = sliceB sz v (lo.map (ev fr)) (hi.map (ev fr)) (mx.map (ev fr)) h := by
  unfold sliceV sliceB
  congr 1
  · rw [bound_eq, bound_eq, bound_eq]
  · funext id off n sz'
    congr 1
    rw [bound_eq]; congr 1; funext l; rw [bound_eq]; congr 1; funext u
    cases mx with
    | none => rfl
    | some m => rfl
theorem Sl.cut {lo hi : Option V} {l u : Nat} (hs : Sl e h v L) (hl : bnd lo 0 = some l) (hu : bnd hi L.length = some u) (h1 : l ≤ u) (h2 : u ≤ L.length) :
    ∃ v', (∀ h1, sliceB 1 v lo hi none h1 = .ok v' h1) ∧ Sl e h v' ((L.take u).drop l) ∧ (∀ b, Own b v → Own b v') ∧ ∀ id, NotIn id v → NotIn id v' := by
  rcases hs with ⟨rfl, rfl⟩ | ⟨id, off, m, cs, rfl, hb, hll, hm, hx⟩
  · have hu0 : u = 0 := by simpa using h2
    subst hu0
    have hl0 : l = 0 := by omega
    subst hl0
    refine ⟨.sn, fun h1 => ?_, .inl ⟨rfl, rfl⟩, fun b h => h, fun id h => h⟩
    unfold sliceB
    have hu : bnd hi 0 = some 0 := hu
    show (oGet (bnd lo 0) .no fun l => oGet (bnd hi 0) .no fun u => oGet (bnd none 0) .no fun m => bif Nat.beq l 0 && Nat.beq u 0 && Nat.beq m 0 then RV.ok .sn h1 else .no) = _
    rw [hl, hu]; rfl
  · refine ⟨.sl id (off + l * 1) (u - l) 1, fun h1 => ?_, .inr ⟨id, off + l * 1, m, cs, ?_, hb, hll, ?_, fun i hi => ?_⟩, fun b ho _ _ _ _ e => ?_, fun id' hn _ _ _ e => ?_⟩
    · unfold sliceB
      show (bif Nat.beq 1 1 then (oGet (bnd lo 0) .no fun l => oGet (bnd hi L.length) .no fun u => oGet none (cutV id off L.length 1 h1 l u none) fun _ => oGet (bnd none 0) .no fun m => cutV id off L.length 1 h1 l u (some m)) else RV.no) = _
      rw [hl, hu, Nat.beq_refl]
      show cutV id off L.length 1 h1 l u none = _
      unfold cutV
      rw [Nat.ble_eq_true_of_le ‹l ≤ u›, Nat.ble_eq_true_of_le h2]; rfl
    · congr 1; simp; omega
    · simp; omega
    · have hi' : i < u - l := by simp at hi; omega
      rw [show off + l * 1 + i = off + (l + i) by omega, hx (l + i) (by omega)]
      simp
    · cases e; exact ho _ _ _ _ rfl
    · cases e; exact hn _ _ _ rfl
theorem bnd_none {d : Nat} : bnd none d = some d := rfl
theorem bnd_i {d m : Nat} {k : IntKind} : bnd (some (.i k (m : Int))) d = some m := rfl
/-! ### Arrays -/
def Ar (e : α → V) (h : H) (id : K) (L : List α) : Prop := h.get id = .cells L.length (L.map e)
theorem Ar.ld {id : K} (ha : Ar e h id L) {i : Nat} (hi : i < L.length) : loadV h (.p id (0 + i * 1)) one? = .ok (e L[i]) h :=
  load_p ha (by rw [nth_eq, Nat.zero_add, Nat.mul_one]; simp [hi])
theorem Ar.ldn {id : K} (ha : Ar e h id L) {n : Nat} (hn : n = L.length) : loadV h (.p id 0) (many? n) = .ok (.agg (L.map e)) h := by
  subst hn
  rw [loadn_p ha (by omega), takeN_eq, dropN_eq, List.drop_zero, List.take_of_length_le (by simp)]
theorem Ar.st {id : K} (ha : Ar e h id L) {i : Nat} (hi : i < L.length) {x : α} {c : V} (hc : c = e x) (ho : cellsN 1 c = some [c]) :
    storeV h 1 (.p id (0 + i * 1)) c = .ok undefV (h.put id (.cells L.length ((L.set i x).map e))) ∧ Ar e (h.put id (.cells L.length ((L.set i x).map e))) id (L.set i x) := by
  subst hc
  refine ⟨?_, ?_⟩
  · rw [store_p ha ho (by omega)]
    congr 3
    rw [setMany_eq _ _ _ (by simp; omega)]
    apply List.ext_getElem?
    intro j
    simp only [List.length_cons, List.length_nil, Nat.zero_add, Nat.mul_one]
    rcases Nat.lt_trichotomy j i with h1 | h1 | h1
    · rw [List.append_assoc, List.getElem?_append_left (by simp; omega), List.getElem?_take, if_pos h1, List.getElem?_map, List.getElem?_map, List.getElem?_set, if_neg (by omega)]
    · subst h1
      rw [List.append_assoc, List.getElem?_append_right (by simp; omega)]; simp [hi]
      have : min j L.length = j := by omega
      rw [this]; simp
    · rw [List.getElem?_append_right (by simp; omega)]
      simp
      rw [show i + 1 + (j - (min i L.length + 1)) = j by omega, List.getElem?_set]
      simp; omega
  · show (h.put id _).get id = _
    rw [get_put_same]; simp
theorem Ar.same {h' : H} {id : K} (ha : Ar e h id L) (hg : h'.get id = h.get id) : Ar e h' id L := by unfold Ar; rw [hg]; exact ha
def arr (f : Nat → α) (n : Nat) : List α := (List.range n).map f
theorem arr_len {f : Nat → α} {n : Nat} : (arr f n).length = n := by simp [arr]
theorem arr_at {f : Nat → α} {n i : Nat} (hi : i < (arr f n).length) : (arr f n)[i] = f i := by simp [arr]
theorem arr_set {f : Nat → α} {n i : Nat} {x : α} : (arr f n).set i x = arr (fun k => if k = i then x else f k) n := by
  apply List.ext_getElem?
  intro j
  rw [List.getElem?_set]
  by_cases h : j < n
  · by_cases hij : i = j
    · subst hij; simp [arr, h]
    · have : j ≠ i := fun e => hij e.symm
      simp [arr, h, hij, this]
  · have : n ≤ j := by omega
    simp [arr, this]; intro h1; omega
theorem arr_congr {f g : Nat → α} {n : Nat} (hfg : ∀ i, i < n → f i = g i) : arr f n = arr g n := by
  unfold arr; apply List.map_congr_left; intro i hi; exact hfg i (by simpa using hi)
end
end Go.Ev
namespace Go.Ev
open Go Go.RowKit
section
variable {fs : T EF} {R : Fr → H → Prop} {fr : Fr} {h h0 : H} {d : Option K} {l : List EOper} {x y z : EO} {v : V}
def kG (fs : T EF) (l : List EOper) (Q : Fr → H → Prop) (fr : Fr) (d : Option K) (h0 : H) (v : V) (_ : H) : Prop := XG fs l Q (putD fr d v) h0
theorem kg : kG fs l R fr d h0 v h = XG fs l R (putD fr d v) h0 := of_eq_true (eq_self _)
theorem xg_nil : XG fs [] R fr h = R fr h := of_eq_true (eq_self _)
theorem xg_mv  : XG fs (⟨d, none, .mv x⟩ :: l) R fr h = XG fs l R (putD fr d (ev fr x)) h := by show GP (some true) (true = true ∧ _) _ = _; rw [gp_t, eq_self, true_and]; rfl
theorem xg_ld  : XG fs (⟨d, none, .ld x⟩ :: l) R fr h = rvP (loadV h (ev fr x) one?) (kG fs l R fr d h) := by show GP (some true) (true = true ∧ _) _ = _; rw [gp_t, eq_self, true_and]; rfl
theorem xg_bin {op : BinOp} : XG fs (⟨d, none, .bin op x y⟩ :: l) R fr h = rvP (okv (binV op (ev fr x) (ev fr y)) h) (kG fs l R fr d h) := by show GP (some true) (true = true ∧ _) _ = _; rw [gp_t, eq_self, true_and]; rfl
theorem xg_conv {k : IntKind} : XG fs (⟨d, none, .conv k x⟩ :: l) R fr h = rvP ((ev fr x).onI .no fun _ n => .ok (.i k (fw k n)) h) (kG fs l R fr d h) := by show GP (some true) (true = true ∧ _) _ = _; rw [gp_t, eq_self, true_and]; rfl
theorem xg_slice {sz : Nat} {lo hi mx : Option EO} : XG fs (⟨d, none, .slice sz x lo hi mx⟩ :: l) R fr h = rvP (sliceV fr sz (ev fr x) lo hi mx h) (kG fs l R fr d h) := by show GP (some true) (true = true ∧ _) _ = _; rw [gp_t, eq_self, true_and]; rfl
theorem xg_iads {sz : Nat} : XG fs (⟨d, none, .iads sz x y⟩ :: l) R fr h = rvP (iadsV sz (ev fr x) (ev fr y) h) (kG fs l R fr d h) := by show GP (some true) (true = true ∧ _) _ = _; rw [gp_t, eq_self, true_and]; rfl
theorem xg_len  : XG fs (⟨d, none, .len x⟩ :: l) R fr h = rvP (lenV (ev fr x) h) (kG fs l R fr d h) := by show GP (some true) (true = true ∧ _) _ = _; rw [gp_t, eq_self, true_and]; rfl
theorem xg_min  : XG fs (⟨d, none, .min x y⟩ :: l) R fr h = rvP (minV (ev fr x) (ev fr y) h) (kG fs l R fr d h) := by show GP (some true) (true = true ∧ _) _ = _; rw [gp_t, eq_self, true_and]; rfl
theorem xg_bslice {k : K} {n sz : Nat} {zs : List V} {ps : List (Nat × Nat × EO)} : XG fs (⟨some k, none, .bslice n sz zs ps⟩ :: l) R fr h = ((h.get h.nx).isDead = true ∧ ∃ cs, fillE fr zs ps = some cs ∧ XG fs l R (fr.set k (.sl h.nx 0 n sz)) (h.new (.cells (n * sz) cs))) := by
  show GP (some true) (∃ k' cs, some k = some k' ∧ _) _ = _
  rw [gp_t]
  apply propext
  constructor
  · rintro ⟨k', cs, e, e1, e2, e3⟩
    cases e
    exact ⟨e1, cs, e2, e3⟩
  · rintro ⟨e1, cs, e2, e3⟩
    exact ⟨k, cs, rfl, e1, e2, e3⟩
def stK (fs : T EF) (b : List K) (c : List EOper) (o : Option EOper) (l : List Stage) (Q : Fr → H → Prop) (h0 : H) (fr : Fr) (h : H) : Prop := isFresh h0 h fr b = true ∧ allStay fs goNo fr h c = true ∧ (match o with | none => Q fr h | some o => X fs [o] (XD fs l Q) fr h)
theorem xd_cons {g c : List EOper} {b : List K} {o : Option EOper} {l : List Stage} : XD fs (⟨g, c, o, b⟩ :: l) R fr h = XG fs g (stK fs b c o l R h) fr h := of_eq_true (eq_self _)
theorem fresh_nil : isFresh h0 h fr [] = true := of_eq_true (eq_self _)
theorem stK_n {b : List K} {c : List EOper} {l : List Stage} : stK fs b c none l R h0 fr h = (isFresh h0 h fr b = true ∧ allStay fs goNo fr h c = true ∧ R fr h) := of_eq_true (eq_self _)
theorem stK_s {b : List K} {c : List EOper} {o : EOper} {l : List Stage} : stK fs b c (some o) l R h0 fr h = (isFresh h0 h fr b = true ∧ allStay fs goNo fr h c = true ∧ X fs [o] (XD fs l R) fr h) := of_eq_true (eq_self _)
theorem stay_nil : allStay fs goNo fr h [] = true := of_eq_true (eq_self _)
theorem stay_cons {o : EOper} {c : List EOper} : (allStay fs goNo fr h (o :: c) = true) = (stays fs goNo fr h o = true ∧ allStay fs goNo fr h c = true) := by
  show ((stays fs goNo fr h o && allStay fs goNo fr h c) = true) = _
  rw [Bool.and_eq_true]
/-- An operation that gives again what it gave. -/
def again (r : RV) (u : V) : Prop := ∃ v h, r = .ok v h ∧ beqV v u = true
theorem again_ok {u : V} : again (.ok v h) u = (beqV v u = true) := by
  apply propext
  constructor
  · rintro ⟨v', h', e, hb⟩; cases e; exact hb
  · exact fun hb => ⟨v, h, rfl, hb⟩
theorem chk_again {r : RV} {u : V} : (r.chk (fun v => beqV v u) = true) = again r u := by
  apply propext
  cases r with
  | no => exact Iff.intro (fun h => by cases h) (fun ⟨v, h, e, _⟩ => by cases e)
  | ok v h => rw [again_ok]; rfl
theorem stay_mv {k : K} : (stays fs goNo fr h ⟨some k, none, .mv x⟩ = true) = (beqV (ev fr x) (getV (fr.get k)) = true) := of_eq_true (eq_self _)
theorem stay_len {k : K} : (stays fs goNo fr h ⟨some k, none, .len x⟩ = true) = again (lenV (ev fr x) h) (getV (fr.get k)) := chk_again
theorem stay_min {k : K} : (stays fs goNo fr h ⟨some k, none, .min x y⟩ = true) = again (minV (ev fr x) (ev fr y) h) (getV (fr.get k)) := chk_again
theorem stay_slice {k : K} {sz : Nat} {lo hi mx : Option EO} : (stays fs goNo fr h ⟨some k, none, .slice sz x lo hi mx⟩ = true) = again (sliceV fr sz (ev fr x) lo hi mx h) (getV (fr.get k)) := chk_again
theorem beq_i {k : IntKind} {n : Int} : beqV (.i k n) (.i k n) = true := by
  show (k == k && ieq n n) = true
  rw [ieq_eq]; cases k <;> simp
theorem Nat.beq_same {n : Nat} : Nat.beq n n = true := Nat.beq_refl n
theorem Sl.beq {α : Type} {e : α → V} {L : List α} (hs : Sl e h v L) : beqV v v = true := by
  rcases hs with ⟨rfl, _⟩ | ⟨id, off, m, cs, rfl, _⟩
  · rfl
  · show (id.beq id && Nat.beq off off && Nat.beq L.length L.length && Nat.beq 1 1) = true
    rw [K.beq_refl, Nat.beq_same, Nat.beq_same]; rfl
/-- One new slice. -/
theorem fresh_one {k : K} {n sz : Nat} {x : Blk} (hg : fr.get k = some (.sl h0.nx 0 n sz)) : isFresh h0 (h0.new x) fr [k] = true := by
  show freshL h0.nx.nat (h0.new x).nx.nat (oGet (slId (getV (fr.get k))) [] fun id => [id]) = true
  rw [hg]
  show (Nat.ble h0.nx.nat h0.nx.nat && Nat.blt h0.nx.nat (h0.new x).nx.nat && notIn h0.nx [] && true) = true
  rw [Nat.ble_eq_true_of_le (Nat.le_refl _), show Nat.blt h0.nx.nat (h0.new x).nx.nat = true from Nat.ble_eq_true_of_le (by rw [nx_new]; exact Nat.le_refl _)]
  rfl
end
end Go.Ev
namespace Go.Ev
open Go Go.RowKit
/-- A slice of numbers as it came in. -/
def SlArg (W : World) (val : Value) (L : List Int) : Prop := (val = .slice none 0 0 ∧ L = []) ∨ ∃ (b off len : Nat) (zs : List Int), val = .slice (some ⟨b, off, none⟩) len zs.length ∧ len ≤ zs.length ∧ L = zs.take len ∧
  (∀ i (hi : i < zs.length), W.cell? ⟨b, off + i, none⟩ = some (.int .i64 zs[i])) ∧ ∀ i, i < zs.length → W.frozen? ⟨b, off + i, none⟩ = false
noncomputable def oneH (cs : List V) : H := ⟨.o .e, T.set .e (.cells cs.length cs) .nil⟩
theorem oneH_get {cs : List V} : (oneH cs).get .e = .cells cs.length cs := rfl
theorem oneH_hc {cs : List V} : HC (oneH cs) := by
  intro id hid
  have hne : id ≠ .e := fun e => by rw [e] at hid; exact absurd hid (Nat.not_succ_le_zero 0)
  show getB (T.get id (T.set .e _ .nil)) = .dead
  rw [T.get_set, if_neg hne, T.get_nil]; rfl
theorem oneH_nx {cs : List V} : (oneH cs).nx.nat = 1 := rfl
theorem intsVR {ι : Io} : ∀ {zs : List Int} {vs : List Value}, vs.length = zs.length → (∀ i (hi : i < zs.length), vs[i]? = some (.int .i64 zs[i])) → VRs ι (zs.map iE) vs := by
  intro zs vs hl h
  refine ⟨by rw [List.length_map, hl], fun i h1 h2 => ?_⟩
  have hi : i < zs.length := by simpa using h1
  have := h i hi
  rw [List.getElem?_eq_getElem h2, Option.some.injEq] at this
  rw [this, List.getElem_map]
  exact .i _ _
theorem vrInts {ι : Io} {zs : List Int} {vs : List Value} (h : VRs ι (zs.map iE) vs) : vs = zs.map (Value.int .i64) := by
  apply List.ext_getElem
  · have := h.len; simpa using this
  · intro i h1 h2
    have hi : i < zs.length := by simpa using h2
    have := h.at_ i (by simpa using hi) h1
    rw [List.getElem_map] at this
    rw [List.getElem_map]
    exact this.of_i
theorem call_slice {Y : Rig} {fs : T EF} (hfs : Fns Y fs) {k : K} {ef : EF} (hf : ef.nv = none ∧ ∃ fn c, FnOk Y k ef fn c) {mk : V → List V} {mkV : Value → List Value} (hmk : ∀ (ι : Io) v v', VR ι v v' → VRs ι (mk v) (mkV v')) {L : List Int}
    (hrun : ∀ h v, HC h → Sl iE h v L → Ret fs ef (mk v) h fun u h' => u = .b true ∧ Grow h.nx.nat h h') {W : World} {val : Value} (ha : SlArg W val L) :
    Calls Y.P k.nat (mkV val).toArray W fun e W' => e = .returned (.bool true) ∧ Below W.heap.size W W' := by
  obtain ⟨hnv, fn, c, hfn⟩ := hf
  -- a call from a memory of which nothing is named
  have plain : ∀ (v : V) (h : H), HC h → Sl iE h v L → VR (fun _ => none) v val → Calls Y.P k.nat (mkV val).toArray W fun e W' => e = .returned (.bool true) ∧ Below W.heap.size W W' := by
    intro v h hc hs hv
    obtain ⟨n, u, h', e, rfl, hg⟩ := hrun h v hc hs
    have hw : WR Y.tab (fun _ => none) h W := ⟨(fun _ _ h => absurd h (by simp)), (fun _ _ h => absurd h (by simp)), (fun _ _ _ _ h => absurd h (by simp)), (fun _ _ => rfl)⟩
    refine (callsIn_wide.1 (callF_rel (evalOk hfs n) hfn e (hmk _ _ _ hv) hw)).mono ?_
    rintro e w' ⟨ι', v', rfl, hst, hvr, _⟩
    have := hvr.of_b
    subst this
    exact ⟨rfl, hst.os, hst.tape, hst.output, hst.size, fun b hb => hst.keep b hb fun _ _ h => absurd h (by simp)⟩
  rcases ha with ⟨rfl, rfl⟩ | ⟨b, off, len, zs, rfl, hlen, rfl, hcell, hfro⟩
  · exact plain .sn (oneH []) oneH_hc Sl.nil .sn
  by_cases hz : zs.length = 0
  · obtain rfl := List.length_eq_zero_iff.1 hz
    obtain rfl : len = 0 := by simpa using hlen
    exact plain (.sl .e 0 0 1) (oneH []) oneH_hc (.inr ⟨.e, 0, 0, [], rfl, rfl, rfl, by simp, fun i hi => by simp at hi⟩) .sl0
  · have h0 := hcell 0 (by omega)
    obtain ⟨cur, ty, fz, hb⟩ : ∃ cur ty fz, W.heap[b]? = some (.cells cur ty fz) := by
      unfold World.cell? at h0
      split at h0
      · rename_i c t f hh; exact ⟨c, t, f, hh⟩
      · cases h0
    have hbl : b < W.heap.size := (Array.getElem?_eq_some_iff.1 hb).1
    have hcur : ∀ i (hi : i < zs.length), cur[off + i]? = some (.int .i64 zs[i]) := fun i hi => by
      have := hcell i hi
      rw [cell_of_row W b _ cur ty fz hb] at this
      exact this
    have hsz : off + zs.length ≤ cur.size := by
      have := hcur (zs.length - 1) (by omega)
      have := (Array.getElem?_eq_some_iff.1 this).1
      omega
    obtain ⟨n, u, h', e, rfl, hg⟩ := hrun (oneH (zs.map iE)) (.sl .e 0 len 1) oneH_hc (.inr ⟨.e, 0, (zs.map iE).length, zs.map iE, by rw [List.length_take, Nat.min_eq_left hlen], rfl, rfl, by simp; omega, fun i hi => by
      have hi' : i < len := by rw [List.length_take] at hi; omega
      rw [Nat.zero_add, List.getElem?_map, List.getElem?_eq_getElem (by omega), List.getElem_take]; rfl⟩)
    have q : ∃ q : Pl, q = ⟨b, off, zs.length, some (cur, ty, fz)⟩ := ⟨_, rfl⟩
    obtain ⟨q, hq⟩ := q
    have hin : List.take zs.length (List.drop off cur.toList) = zs.map (Value.int .i64) := by
      apply List.ext_getElem?
      intro i
      rw [List.getElem?_take, List.getElem?_map]
      by_cases hi : i < zs.length
      · rw [if_pos hi, List.getElem?_drop, Array.getElem?_toList, hcur i hi, List.getElem?_eq_getElem hi]; rfl
      · rw [if_neg hi, List.getElem?_eq_none (by omega)]; rfl
    have hw : WR Y.tab (fun k => if k = .e then some q else none) (oneH (zs.map iE)) W := by
      refine ⟨fun id q' h => ?_, fun id q' h => ?_, fun id id' q1 q2 h1 h2 _ _ _ => ?_, fun id hid => ?_⟩
      · by_cases e1 : id = .e
        · subst e1
          have h : some q = some q' := h
          cases h
          rw [oneH_get]
          subst hq
          refine ⟨cur, ty, fz, hb, rfl, hsz, by simp, fun c hc => ?_, ?_, ?_, ?_⟩
          · obtain ⟨z, _, rfl⟩ := List.mem_map.1 hc; rfl
          · rw [List.length_map]
            show VRs _ _ (List.take zs.length (List.drop off cur.toList))
            rw [hin]
            exact intsVR (by simp) (fun i hi => by simp [hi])
          · intro j h1 h2 h3
            have h1 : off ≤ j := h1
            have h2 : j < off + zs.length := h2
            have := hfro (j - off) (by omega)
            unfold World.frozen? at this
            rw [hb] at this
            simp only [Bool.and_eq_false_iff, decide_eq_false_iff_not] at this
            omega
          · intro p hp
            cases hp
            exact ⟨rfl, rfl, fun _ _ => rfl⟩
        · simp [e1] at h
      · by_cases e1 : id = .e
        · have h : some q = some q' := by simpa [e1] using h
          cases h; subst hq; exact hbl
        · simp [e1] at h
      · by_cases e1 : id = .e
        · by_cases e2 : id' = .e
          · rw [e1, e2]
          · simp [e2] at h2
        · simp [e1] at h1
      · have hne : id ≠ .e := fun e => by rw [e] at hid; exact absurd hid (Nat.not_succ_le_zero 0)
        simp [hne]
    have hv : VR (fun k => if k = .e then some q else none) (.sl .e 0 len 1) (.slice (some ⟨b, off, none⟩) len zs.length) := by
      have := VR.sl (ι := fun k => if k = .e then some q else none) (id := .e) (off := 0) (n := len) (sz := 1) (c := zs.length) (q := q) (by simp) (by subst hq; show 0 + zs.length * 1 ≤ zs.length; omega) hlen (by omega)
      subst hq
      simpa using this
    refine (callsIn_wide.1 (callF_rel (evalOk hfs n) hfn e (hmk _ _ _ hv) hw)).mono ?_
    rintro e w' ⟨ι', v', rfl, hst, hvr, hwr⟩
    have := hvr.of_b
    subst this
    refine ⟨rfl, hst.os, hst.tape, hst.output, hst.size, fun b' hb' => ?_⟩
    by_cases eb : b' = b
    · subst eb
      have hι := hst.ext .e q (by simp)
      have hbr := hwr.blk .e q hι
      rw [hg.old .e (by rw [oneH_nx]; decide), oneH_get] at hbr
      obtain ⟨cur', ty', fz', k1, k2, k3, k4, k5, k6, k7, k8⟩ := hbr
      subst hq
      obtain ⟨p1, p2, p3⟩ := k8 _ rfl
      have p1 : ty' = ty := p1
      have p2 : fz' = fz := p2
      subst p1 p2
      rw [List.length_map] at k6 p3
      have k6 := vrInts k6
      have k6 : List.take zs.length (List.drop off cur'.toList) = zs.map (Value.int .i64) := k6
      have : cur' = cur := by
        apply Array.ext_getElem?
        intro j
        by_cases hj : off ≤ j ∧ j < off + zs.length
        · have h1 := congrArg (fun l => l[j - off]?) k6
          have h2 := congrArg (fun l => l[j - off]?) hin
          have h1 : (List.take zs.length (List.drop off cur'.toList))[j - off]? = (zs.map (Value.int .i64))[j - off]? := h1
          have h2 : (List.take zs.length (List.drop off cur.toList))[j - off]? = (zs.map (Value.int .i64))[j - off]? := h2
          rw [← h2] at h1
          rw [List.getElem?_take, if_pos (by omega), List.getElem?_take, if_pos (by omega), List.getElem?_drop, List.getElem?_drop, Array.getElem?_toList, Array.getElem?_toList, show off + (j - off) = j by omega] at h1
          exact h1
        · exact p3 j (by show j < off ∨ off + zs.length ≤ j; omega)
      rw [hb]
      have k1 : w'.heap[b']? = some (.cells cur' ty' fz') := k1
      rw [k1, this]
    · refine hst.keep b' hb' fun id q' h1 h2 => ?_
      by_cases e1 : id = .e
      · have h1 : some q = some q' := by simpa [e1] using h1
        cases h1
        subst hq
        exact eb h2.symm
      · simp [e1] at h1
end Go.Ev
namespace Go.Ev
open Go Go.RowKit
section
variable {Y : Rig} {fs : T EF} {k : K} {ef : EF} {n : Nat} {args : List V} {L : List Int}
end
theorem callP_flat {fs : T EF} {k : K} {ef : EF} {args : List V} {h : H} {v : V} {g : List V → Option V} {P : V → H → Prop} (hf : fs.get k = some ef) (hn : ef.nv = some (flatG g)) (hg : g args = some v) : CallP fs (.fn k []) args h P = P v h := by
  have hc : ∀ n, callV fs (eval fs n) (.fn k []) args h = .ok v h := fun n => by
    show (oGet (fs.get k) RV.no fun ef => callE (eval fs n) ef (cat args []) h) = _
    rw [hf]
    show oGet ef.nv (callF (eval fs n) ef (cat args []) h) (fun g => oGet (g (cat args []) h) RV.no fun p => RV.ok p.1 p.2) = _
    rw [hn, cat_eq, List.append_nil]
    show (oGet (flatG g args h) RV.no fun p => RV.ok p.1 p.2) = _
    unfold flatG
    rw [hg]; rfl
  apply propext
  constructor
  · rintro ⟨n, v', h', e, hp⟩
    rw [hc] at e
    cases e; exact hp
  · intro hp
    exact ⟨0, v, h, hc 0, hp⟩
end Go.Ev
namespace Go.Ev
open Go Go.RowKit Go.ChangeShapes Go.WideShapes Go.ChangeAt
theorem trod_slArg {H : Type} {enc : TypeId × Value → H} {P : Program} {W : World} {base : Nat} {t e : TypeId} (ht : P.underlying t = some (.slice e)) (he : P.underlying e = some (.int .i64)) (hc : P.cellsOf e = 1) {v : Value} {d : DataW H} {p ps : List MemPlace}
    (hval : Value.okWide P W .any base t v) (hd : DataW.Trod enc P W 0 (fun _ => true) true t v d p) (hps : ∀ x ∈ p, x ∈ ps) (hnf : W.noneFrozen ps) :
    ∃ L, SlArg W v L ∧ ∀ W', Below W.heap.size W W' → DataW.Trod enc P W' 0 (fun b => decide (b < W.heap.size)) true t v d p := by
  obtain ⟨ao, len, cap, rfl⟩ := okWide_slice ht hval
  obtain ⟨fuel, hf⟩ := hd
  rcases open_ints ht he hc hf with ⟨hcs, hx⟩ | ⟨a, len', cap', zs, hcs, _, hl, hm, hz, hx, hcell, hwf⟩
  · have hv : Value.slice ao len cap = .slice none 0 0 := by
      have : (Value.slice ao len cap).cells.toList = [.slice ao len cap] := rfl
      rw [this] at hcs
      exact (List.cons.inj hcs).1
    cases hv
    cases hx
    exact ⟨[], .inl ⟨rfl, rfl⟩, fun W' _ => ⟨1, by rw [DataW.trod_step]; unfold DataW.trodStep; simp only [ht]; rfl⟩⟩
  · have hv : Value.slice ao len cap = .slice (some a) len' cap' := by
      have : (Value.slice ao len cap).cells.toList = [.slice ao len cap] := rfl
      rw [this] at hcs
      exact (List.cons.inj hcs).1
    cases hv
    cases hx
    simp only [if_true] at hz
    have hspot : a.spot = none := by
      simp only [Value.okWide, ht, Cell.okWide, Cell.ok] at hval
      exact hval.2.2.2.1
    obtain ⟨b, off, sp⟩ := a
    have hspot : sp = none := hspot
    subst hspot
    have hcell' : ∀ i (hi : i < zs.length), W.cell? ⟨b, off + i, none⟩ = some (.int .i64 zs[i]) := fun i hi => by
      have := hcell i hi
      rw [add_lit'] at this
      rw [this]; simp [List.getD, hi]
    refine ⟨zs.take len, .inr ⟨b, off, len, zs, by rw [hz], by omega, rfl, hcell', fun i hi => ?_⟩, fun W' hb => ?_⟩
    · refine hnf b (off + i) (hps _ ?_)
      unfold MemPlace.row
      rw [List.mem_map]
      exact ⟨i, by simpa using hi, rfl⟩
    · refine ⟨0 + 2, ?_⟩
      have hlt : zs.length ≠ 0 → b < W.heap.size := fun hne => by
        have := hcell' 0 (by omega)
        unfold World.cell? at this
        split at this
        · rename_i hh; exact (Array.getElem?_eq_some_iff.1 hh).1
        · cases this
      refine shut_ints (zs := zs) 0 ht he hc (Nat.zero_le _) hl hm ?_ (fun i hi => ?_) hwf
      · by_cases hne : zs.length = 0
        · split <;> omega
        · have := hlt hne
          simp [this, hz]
      · rw [← hcell i hi, add_lit']
        have := hlt (by omega)
        unfold World.cell?
        show (match W'.heap[b]? with | some (.cells c _ _) => _ | _ => _) = _
        rw [hb.block b this]
        rfl
end Go.Ev
namespace Go.Ev
open Go Go.RowKit
section
variable {α : Type} {e : α → V} {h h' : H} {v u : V} {L M : List α} {b : Nat}
/-- x[:m:m] -/
theorem Sl.cut3 {k k' : IntKind} {m : Nat} (hs : Sl e h v L) (hm : m ≤ L.length) :
    ∃ v', (∀ h1, sliceB 1 v none (some (.i k (m : Int))) (some (.i k' (m : Int))) h1 = .ok v' h1) ∧ Sl e h v' (L.take m) ∧ (∀ b, Own b v → Own b v') ∧ ∀ id, NotIn id v → NotIn id v' := by
  rcases hs with ⟨rfl, rfl⟩ | ⟨id, off, c, cs, rfl, hb, hll, hc, hx⟩
  · have hu0 : m = 0 := by simpa using hm
    subst hu0
    exact ⟨.sn, fun h1 => rfl, .inl ⟨rfl, rfl⟩, fun b h => h, fun id h => h⟩
  · refine ⟨.sl id (off + 0 * 1) (m - 0) 1, fun h1 => ?_, .inr ⟨id, off + 0 * 1, c, cs, ?_, hb, hll, ?_, fun i hi => ?_⟩, fun b ho _ _ _ _ e => ?_, fun id' hn _ _ _ e => ?_⟩
    · show (bif Nat.beq 1 1 then cutV id off L.length 1 h1 0 m (some m) else RV.no) = _
      rw [Nat.beq_refl]
      show cutV id off L.length 1 h1 0 m (some m) = _
      unfold cutV
      have : (Nat.ble 0 m && Nat.ble m L.length && oGet (some m) true fun x => Nat.ble m x && Nat.ble x L.length) = true := by
        show (Nat.ble 0 m && Nat.ble m L.length && (Nat.ble m m && Nat.ble m L.length)) = true
        rw [Nat.ble_eq_true_of_le hm, Nat.ble_eq_true_of_le (Nat.zero_le m), Nat.ble_eq_true_of_le (Nat.le_refl m)]; rfl
      rw [this]; rfl
    · congr 1; simp; omega
    · simp; omega
    · have hi' : i < m := by simp at hi; omega
      rw [show off + 0 * 1 + i = off + i by omega, hx i (by omega)]
      simp
    · cases e; exact ho _ _ _ _ rfl
    · cases e; exact hn _ _ _ rfl
/-- A store into a slice. -/
theorem Sl.st (hs : Sl e h v L) {i : Nat} (hi : i < L.length) {x : α} {c : V} (hc : c = e x) (ho : cellsN 1 c = some [c]) (hhc : HC h) :
    ∃ p id m cs', (∀ k h1, iadsV 1 v (.i k (i : Int)) h1 = .ok p h1) ∧ storeV h 1 p c = .ok undefV (h.put id (.cells m cs')) ∧ Sl e (h.put id (.cells m cs')) v (L.set i x) ∧ (∃ off n sz, v = .sl id off n sz) ∧ id.nat < h.nx.nat := by
  subst hc
  rcases hs with ⟨rfl, rfl⟩ | ⟨id, off, m, cs, rfl, hb, hl, hm, hx⟩
  · simp at hi
  · refine ⟨.p id (off + i * 1), id, m, setMany cs (off + i * 1) [e x], fun k h1 => ?_, ?_, ?_, ⟨off, L.length, 1, rfl⟩, hhc.cells hb⟩
    · rw [iads_sl, idx_n hi]
    · exact store_p hb ho (by omega)
    · have hsm : setMany cs (off + i * 1) [e x] = cs.set (off + i) (e x) := by
        rw [setMany_eq _ _ _ (by simp; omega), Nat.mul_one]
        apply List.ext_getElem?
        intro j
        rcases Nat.lt_trichotomy j (off + i) with h1 | h1 | h1
        · rw [List.append_assoc, List.getElem?_append_left (by simp; omega), List.getElem?_take, if_pos h1, List.getElem?_set, if_neg (by omega)]
        · subst h1
          rw [List.append_assoc, List.getElem?_append_right (by simp; omega), List.getElem?_set]
          have h2 : off + i < cs.length := by omega
          have : off + i - min (off + i) cs.length = 0 := by omega
          simp [this, h2]
        · rw [List.getElem?_append_right (by simp; omega), List.getElem?_set, if_neg (by omega), List.getElem?_drop]
          congr 1
          simp; omega
      refine .inr ⟨id, off, m, _, by rw [List.length_set], get_put_same, by rw [hsm, List.length_set]; exact hl, by rw [List.length_set]; exact hm, fun j hj => ?_⟩
      have hj' : j < L.length := by simpa using hj
      rw [hsm, List.getElem?_set]
      by_cases e1 : i = j
      · subst e1
        rw [if_pos rfl, if_pos (by omega)]; simp
      · rw [if_neg (by omega), hx j hj', List.getElem_set_ne e1]
end

theorem kNe {a b : K} (h : a.nat < b.nat) : a ≠ b := fun e => by rw [e] at h; omega
/-- A slice that is gathered in a box, while a loop over a function runs. -/
structure AccI {α : Type} (e : α → V) (b : Nat) (h : H) (idb idl : K) (kept : List (K × Blk)) (o : V) (L : List α) (lb : Blk) (h1 : H) : Prop where
  sl : Sl e h1 o L
  own : Own (idl.nat + 1) o
  gr : Grow b h h1
  eb : h1.get idb = .cells 1 [o]
  kp : ∀ p ∈ kept, h1.get p.1 = p.2
  el : h1.get idl = lb
  nx : idl.nat + 1 ≤ h1.nx.nat
  o1 : idb.nat < idl.nat
  ob : b ≤ idb.nat
  ok : ∀ p ∈ kept, p.1.nat < idl.nat ∧ p.1 ≠ idb
section
variable {α : Type} {e : α → V} {b : Nat} {h h1 h2 : H} {idb idl : K} {kept : List (K × Blk)} {o o' : V} {L L' : List α} {lb : Blk}
theorem AccI.grow (t : AccI e b h idb idl kept o L lb h1) (hc : HC h1) (g : Grow h1.nx.nat h1 h2) : AccI e b h idb idl kept o L lb h2 := by
  have := t.nx; have := t.o1; have := t.ob; have := g.nx
  exact ⟨t.sl.grow hc g, t.own, t.gr.trans (g.low (by omega)), by rw [g.old _ (by omega)]; exact t.eb, fun p hp => by have := (t.ok p hp).1; rw [g.old _ (by omega)]; exact t.kp p hp, by rw [g.old _ (by omega)]; exact t.el, by omega, t.o1, t.ob, t.ok⟩
theorem AccI.loop (t : AccI e b h idb idl kept o L lb h1) (lb' : Blk) : AccI e b h idb idl kept o L lb' (h1.put idl lb') := by
  have := t.nx; have := t.o1; have := t.ob
  exact ⟨t.sl.put (t.own.notIn (by omega)) _, t.own, t.gr.trans (Grow.put (by omega) (by omega) _), by rw [get_put_other (kNe (by omega))]; exact t.eb, fun p hp => by have := (t.ok p hp).1; rw [get_put_other (kNe (by omega))]; exact t.kp p hp, get_put_same, t.nx, t.o1, t.ob, t.ok⟩
theorem AccI.put (t : AccI e b h idb idl kept o L lb h1) (hs : Sl e h2 o' L') (ho : Own (idl.nat + 1) o') (g : Grow (idl.nat + 1) h1 h2) : AccI e b h idb idl kept o' L' lb (h2.put idb (.cells 1 [o'])) := by
  have := t.nx; have := t.o1; have := t.ob; have := g.nx
  exact ⟨hs.put (ho.notIn (by omega)) _, ho, (t.gr.trans (g.low (by omega))).trans (Grow.put (by omega) (by omega) _), get_put_same, fun p hp => by have := (t.ok p hp).1; rw [get_put_other (t.ok p hp).2, g.old _ (by omega)]; exact t.kp p hp,
    by rw [get_put_other (kNe (by omega)).symm, g.old _ (by omega)]; exact t.el, by rw [nx_put]; omega, t.o1, t.ob, t.ok⟩
theorem AccI.ld (t : AccI e b h idb idl kept o L lb h1) : loadV h1 (.p idb 0) one? = .ok o h1 := load_p t.eb rfl
theorem Sl.one {v : V} (hs : Sl e h v L) : cellsN 1 v = some [v] := by rcases hs with ⟨rfl, _⟩ | ⟨_, _, _, _, rfl, _⟩ <;> rfl
/-- box = append(box, x) -/
theorem AccI.push {x : α} {c : V} (hx : c = e x) (t : AccI e b h idb idl kept o L lb h1) (hc : HC h1) (hn : L.length < 16777216) :
    ∃ v' h', appV 1 (h1.new (.cells (1 * 1) [c])) o (.sl h1.nx 0 1 1) = .ok v' h' ∧ storeV h' 1 (.p idb 0) v' = .ok undefV (h'.put idb (.cells 1 [v'])) ∧ AccI e b h idb idl kept v' (L ++ [x]) lb (h'.put idb (.cells 1 [v'])) := by
  obtain ⟨v', h', p1, p2, p3, p4, _⟩ := Sl.push (x := x) hx t.sl t.own t.nx hc hn
  have := t.o1
  refine ⟨v', h', p1, ?_, t.put p2 p3 p4⟩
  rw [store_p (m := 1) (cs := [o]) (by rw [p4.old _ (by omega)]; exact t.eb) p2.one (by omega)]; rfl
end

section
variable {fs : T EF} {fr : Fr} {h : H} {k : K} {x y : EO}
theorem stay_iads {sz : Nat} : (stays fs goNo fr h ⟨some k, none, .iads sz x y⟩ = true) = again (iadsV sz (ev fr x) (ev fr y) h) (getV (fr.get k)) := chk_again
theorem stay_ld : (stays fs goNo fr h ⟨some k, none, .ld x⟩ = true) = again (loadV h (ev fr x) one?) (getV (fr.get k)) := chk_again
theorem stay_bin {op : BinOp} : (stays fs goNo fr h ⟨some k, none, .bin op x y⟩ = true) = again (okv (binV op (ev fr x) (ev fr y)) h) (getV (fr.get k)) := chk_again
theorem beq_p {id : K} {off : Nat} : beqV (.p id off) (.p id off) = true := by
  show (id.beq id && Nat.beq off off) = true
  rw [K.beq_refl, Nat.beq_same]; rfl
variable {α : Type} {e : α → V} {v : V} {L : List α}
theorem Sl.atb (hs : Sl e h v L) (i : Nat) (hi : i < L.length) : ∃ p, (∀ k h1, iadsV 1 v (.i k (i : Int)) h1 = .ok p h1) ∧ loadV h p one? = .ok (e L[i]) h ∧ beqV p p = true := by
  rcases hs with ⟨rfl, rfl⟩ | ⟨id, off, m, cs, rfl, hb, hl, hm, hx⟩
  · simp at hi
  · refine ⟨.p id (off + i * 1), fun k h1 => ?_, ?_, beq_p⟩
    · rw [iads_sl, idx_n hi]
    · exact load_p hb (by rw [nth_eq, Nat.mul_one]; exact hx i hi)
end
theorem rep_cell {z : V} : ∀ n, rep [z] n = List.replicate n z
  | 0 => rfl
  | n + 1 => by
    show cat [z] (rep [z] n) = _
    rw [rep_cell n, cat_eq]; rfl
end Go.Ev
