/-
  The evaluator, part U: from a run of the evaluator to a call's contract.
-/
import Derived.Test.YtneacehpoaambaaEvT
namespace Go.Ev
open Go Go.RowKit

/-! ### Tables -/
def T.each {α : Type} (p : K → α → Prop) : T α → (K → K) → Prop
  | .nil, _ => True
  | .node l v r, f => (match v with | none => True | some x => p (f .e) x) ∧ T.each p l (fun k => f (.o k)) ∧ T.each p r (fun k => f (.z k))
theorem T.each_get {α : Type} {p : K → α → Prop} : ∀ {t : T α} {f : K → K} {k : K} {x : α}, T.each p t f → t.get k = some x → p (f k) x
  | .nil, f, k, x, _, h => by rw [T.get_nil] at h; cases h
  | .node l v r, f, .e, x, he, h => by
    have h : v = some x := h
    subst h
    exact he.1
  | .node l v r, f, .o k, x, he, h => T.each_get (t := l) (f := fun k => f (.o k)) (k := k) he.2.1 h
  | .node l v r, f, .z k, x, he, h => T.each_get (t := r) (f := fun k => f (.z k)) (k := k) he.2.2 h
def EntryOk (Y : Rig) (k : K) (ef : EF) : Prop := (ef.nv = none ∧ ∃ fn c, FnOk Y k ef fn c) ∨ ∃ g, ef.nv = some g ∧ NatOk Y k g
theorem fns_of_each {Y : Rig} {fs : T EF} (h : T.each (EntryOk Y) fs (fun k => k)) : Fns Y fs := fun _ _ hk => T.each_get h hk
theorem entry_code {Y : Rig} {k : K} {n : Nat} {ef : EF} {fn : Func} (hk : k.nat = n) (h1 : Y.P.funcs[n]? = some fn) (h2 : (fn.name == "runtime.NumGoroutine") = false) (h3 : compF Y.tab fn = some ef) : ef.nv = none ∧ ∃ fn c, FnOk Y k ef fn c := by
  subst hk
  unfold compF at h3
  split at h3
  · rename_i c rs hb hr
    cases h3
    exact ⟨rfl, fn, c, h1, hb, h2, rfl, hr, rfl⟩
  · cases h3
def rowOf (t : Nat) : List (Nat × TD) → Option TD
  | [] => none
  | p :: l => bif Nat.beq p.1 t then some p.2 else rowOf t l
def RowsOk (P : Program) : List (Nat × TD) → Prop
  | [] => True
  | p :: l => p.2.ok P p.1 ∧ RowsOk P l
theorem rowsOk {P : Program} : ∀ {l : List (Nat × TD)}, RowsOk P l → ∀ t d, rowOf t l = some d → d.ok P t
  | [], _, t, d, h => by cases h
  | p :: l, hl, t, d, h => by
    unfold rowOf at h
    cases hb : Nat.beq p.1 t with
    | true =>
      rw [hb] at h
      have h : some p.2 = some d := h
      cases h
      have := Nat.eq_of_beq_eq_true hb
      subst this
      exact hl.1
    | false =>
      rw [hb] at h
      exact rowsOk hl.2 t d h
theorem td_plain {P : Program} {t : TypeId} {desc : TypeDesc} {size bytes : Nat} {zero : Value} (h1 : P.underlying t = some desc) (h2 : (P.info? t).map (fun i => (i.size, i.bytes, i.zero)) = some (size, bytes, some zero)) : (TD.mk desc size bytes zero none).ok P t :=
  ⟨h1, h2, fun _ h => by cases h⟩
theorem td_key {P : Program} {t : TypeId} {desc : TypeDesc} {size bytes : Nat} {zero : Value} {kd : KD} (h1 : P.underlying t = some desc) (h2 : (P.info? t).map (fun i => (i.size, i.bytes, i.zero)) = some (size, bytes, some zero)) (h3 : KeyOk P t kd) : (TD.mk desc size bytes zero (some kd)).ok P t :=
  ⟨h1, h2, fun _ h => by cases h; exact h3⟩

/-! ### Contracts -/
def V.flat (v : V) : Bool := match v with | .b _ => true | .i _ _ => true | _ => false
theorem VR.flat {ι ι' : Io} {v : V} {v' : Value} (hf : v.flat = true) (h : VR ι v v') : VR ι' v v' := by
  cases v <;> simp only [V.flat, reduceCtorEq] at hf
  · cases h; exact .b _
  · cases h; exact .i _ _
theorem VRs.flat {ι ι' : Io} : ∀ {vs : List V} {us : List Value}, vs.all V.flat = true → VRs ι vs us → VRs ι' vs us
  | [], us, _, h => by obtain rfl := h.inv_nil; exact VRs.nil
  | v :: vs, us, hf, h => by
    obtain ⟨u, us', rfl, h1, h2⟩ := h.inv_cons
    rw [List.all_cons, Bool.and_eq_true] at hf
    exact VRs.cons (h1.flat hf.1) (VRs.flat hf.2 h2)
noncomputable def givesB (fs : T EF) (n : Nat) (ef : EF) (args : List V) (v : V) : Bool := (callF (eval fs n) ef args ⟨.e, .nil⟩).chk fun u => beq1 u v
theorem WR.empty (tab : Tab) (w : World) : WR tab (fun _ => none) ⟨.e, .nil⟩ w :=
  ⟨(fun _ _ h => absurd h (by simp)), (fun _ _ h => absurd h (by simp)), (fun _ _ _ _ h => absurd h (by simp)), (fun _ _ => rfl)⟩
theorem gives_of_eval {Y : Rig} {fs : T EF} (hfs : Fns Y fs) {k : K} {ef : EF} (hf : ef.nv = none ∧ ∃ fn c, FnOk Y k ef fn c) {n : Nat} {args : List V} {v : V} (ha : args.all V.flat = true) (hv : v.flat = true) (he : givesB fs n ef args v = true) : Gives Y k args v := by
  intro ι vals w hvals
  obtain ⟨_, fn, c, hf⟩ := hf
  unfold givesB at he
  cases hc : callF (eval fs n) ef args ⟨.e, .nil⟩ with
  | no => rw [hc] at he; cases he
  | ok u h' =>
    rw [hc] at he
    have := beq1_eq (show beq1 u v = true from he)
    subst this
    refine (callF_rel (evalOk hfs n) hf hc (hvals.flat (ι' := fun _ => none) ha) (WR.empty Y.tab w)).mono ?_
    rintro e w' ⟨ι', v', rfl, hs, hvr, _⟩
    exact ⟨v', rfl, fun ι => hvr.flat hv, hs.os, hs.tape, hs.output, hs.size, fun b hb => hs.keep b hb fun _ _ h => absurd h (by simp)⟩
/-- A table of what is proved. -/
noncomputable def tabG (l : List (List V × V)) (args : List V) : Option V := List.rec none (fun p _ ih => bif beqL p.1 args then some p.2 else ih) l
def AllG (Y : Rig) (k : K) : List (List V × V) → Prop
  | [] => True
  | p :: l => Gives Y k p.1 p.2 ∧ AllG Y k l
theorem tabG_gives {Y : Rig} {k : K} : ∀ {l : List (List V × V)}, AllG Y k l → ∀ args v, tabG l args = some v → Gives Y k args v
  | [], _, args, v, h => by cases h
  | p :: l, hl, args, v, h => by
    have h : (bif beqL p.1 args then some p.2 else tabG l args) = some v := h
    cases hb : beqL p.1 args with
    | true =>
      rw [hb] at h
      have h : some p.2 = some v := h
      cases h
      rw [← beqL_eq hb]
      exact hl.1
    | false => rw [hb] at h; exact tabG_gives hl.2 args v h
end Go.Ev
