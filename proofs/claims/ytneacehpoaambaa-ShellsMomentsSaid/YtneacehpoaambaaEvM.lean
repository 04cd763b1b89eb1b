/-
  The evaluator, part M: an operation in the model's walk; lists of operations; code.
-/
import Derived.Test.YtneacehpoaambaaEvL
namespace Go.Ev
open Go Go.RowKit

theorem notDefer {tab : Tab} {op : Op} {eop : EOp} (hc : compOp tab op = some eop) : ∀ c, op ≠ .defer c := fun c e => by subst e; simp [compOp] at hc

section
variable {Y : Rig} {nt : Nat} {ι : Io} {fr : Fr} {a : Act} {h h' : H} {w : World} {v : V}

theorem oper_rel {fs : T EF} (hfs : Fns Y fs) {go : Go} (hgo : GoOk Y go) {F : Fence} (hF : FW F) {o : Oper} {eop : EOp} (ha : AR nt ι fr a) (hr : WR Y.tab ι h w) (hc : compOp Y.tab o.op = some eop) (he : evop fs go fr h eop = .ok v h') {K : Act → World → Prop} {Q : Exit → Act → World → Prop}
    (hk : ∀ ι' v' w', Step h.nx.nat ι w h'.nx.nat ι' w' → VR ι' v v' → WR Y.tab ι' h' w' → K (a.put o.dst v') w') : o.wpIn F 0 Y.P a w K Q := by
  refine ⟨fun f _ => hF.fn f, ?_⟩
  rw [Oper.semAt_eq _ _ _ (notDefer hc)]
  obtain ⟨d, op, ty, pos, aft, g⟩ := o
  by_cases hcall : isCall op = true
  · cases op <;> simp only [isCall] at hcall <;> try cases hcall
    rename_i c
    obtain ⟨callee, args, tys⟩ := c
    cases callee <;> simp only [] at hcall <;> try cases hcall
    rename_i f
    simp only [compOp, Option.bind_eq_bind, Option.bind_eq_some_iff, Option.some.injEq] at hc
    obtain ⟨f', h1, as', h2, rfl⟩ := hc
    have hvf := ha.ev h1
    have hvs := ha.evs h2
    have hmap : args.map a.eval = (args.toList.map a.eval).toArray := by apply Array.ext'; simp
    have hdep : (F.depth.isSome = true → 1 ≤ 0) := fun e => by rw [hF.depth] at e; cases e
    rcases call_rel hfs hgo he hvf hvs hr with ⟨g', caps, e1, e2, e3⟩ | ⟨l, e1, fn, tmps, assign, body, e2, e3⟩
    · have hrun : (execOp a.eval ⟨d, .call ⟨.value f, args, tys⟩, ty, pos, aft, g⟩).run Y.P w = .ok (.enter g' ((args.toList.map a.eval).toArray ++ caps)) w := by
        simp only [execOp, resolve, e1, Deferred.ofValue, Sem.run_bind, Sem.run_pure, Result.andThen_ok, invoke, hmap, Array.empty_append]
        exact e2
      rw [hrun]
      refine ⟨hdep, hF.calls (e3.mono ?_)⟩
      rintro e w' ⟨ι', v', rfl, s1, s2, s3⟩
      exact hk ι' v' w' s1 s2 s3
    · have hrun : (execOp a.eval ⟨d, .call ⟨.value f, args, tys⟩, ty, pos, aft, g⟩).run Y.P w = .ok (.round l fn tmps assign body) w := by
        simp only [execOp, resolve, e1, Deferred.ofValue, Sem.run_bind, Sem.run_pure, Result.andThen_ok, invoke, hmap, Array.empty_append]
        exact e2
      rw [hrun]
      refine ⟨hdep, (e3 F hF).mono ?_⟩
      rintro e w' ⟨ι', v', rfl, s1, s2, s3⟩
      exact hk ι' v' w' s1 s2 s3
  · have hcall' : isCall op = false := by simpa using hcall
    obtain ⟨v', w', ι', hrun, s1, s2, s3⟩ := evop_rel (d := d) (ty := ty) (pos := pos) (aft := aft) (g := g) ha hr hcall' hc he
    rcases hrun with hrun | ⟨hrun, rfl⟩
    · rw [hrun]; exact hk ι' v' w' s1 s2 s3
    · rw [hrun]; exact hk ι' undef w' s1 s2 s3

/-! ### Lists of operations -/
def dstIn (nt : Nat) (o : Oper) : Prop := match o.dst with | some d => d < nt | none => True
theorem AR.putD (ha : AR nt ι fr a) {o : Oper} (hd : dstIn nt o) {v' : Value} (hv : VR ι v v') : AR nt ι (putD fr (o.dst.map K.ofNat) v) (a.put o.dst v') := by
  unfold dstIn at hd
  cases ho : o.dst with
  | none => exact ha
  | some d => rw [ho] at hd; exact ha.put hd hv

theorem compOper_ok {tab : Tab} {nt : Nat} {all : List Oper} {o : Oper} {eo : EOper} (hn : compOper? tab nt all o = some eo) :
    dstIn nt o ∧ eo.dst = o.dst.map K.ofNat ∧ compOp tab o.op = some eo.op ∧
      ((o.guard = none ∧ eo.g = none) ∨ ∃ j b t, o.guard = some (j, b) ∧ (all[j]?).bind (·.dst) = some t ∧ eo.g = some (K.ofNat t, b)) := by
  unfold compOper? at hn
  split at hn
  · rename_i op g h1 h2
    split at hn
    · rename_i hd
      cases hn
      refine ⟨?_, rfl, h1, ?_⟩
      · unfold dstIn
        cases ho : o.dst with
        | none => trivial
        | some d => rw [ho] at hd; simpa [dstB] using hd
      · cases hg : o.guard with
        | none => rw [hg] at h2; cases h2; exact .inl ⟨rfl, rfl⟩
        | some p =>
          obtain ⟨j, b⟩ := p
          rw [hg] at h2
          simp only [guardOf] at h2
          split at h2
          · rename_i t ht
            cases h2
            exact .inr ⟨j, b, t, rfl, ht, rfl⟩
          · cases h2
    · cases hn
  · cases hn

def asB (v : Value) : Option Bool := match v with | .bool b => some b | _ => none
theorem guardV_rel {x : V} {x' : Value} {want r : Bool} (hx : VR ι x x') (h : guardV x want = some r) : (asB x' == some want) = r := by
  cases x <;> simp only [guardV] at h <;> cases h
  · cases hx; rename_i x; cases x <;> cases want <;> rfl
  · obtain ⟨vs, rfl, _⟩ := hx.of_tup; rfl
theorem wants_rel {all : List Oper} {o : Oper} {eo : EOper} {r : Bool} (ha : AR nt ι fr a) (hn : compOper? Y.tab nt all o = some eo) (hw : wants fr eo.g = some r) : Region.wanted o (yielded all.toArray a.tmps) = r := by
  obtain ⟨_, _, _, h⟩ := compOper_ok hn
  rcases h with ⟨h1, h2⟩ | ⟨j, b, t, h1, h2, h3⟩
  · rw [h2] at hw; cases hw; simp only [Region.wanted, h1]
  · rw [h3] at hw
    have hv := ha.fr (K.ofNat t)
    rw [K.ofNat_nat] at hv
    have h2' : (all.toArray[j]?).bind (·.dst) = some t := by simpa using h2
    have := guardV_rel hv (show guardV (getV (fr.get (K.ofNat t))) b = some r from hw)
    simp only [Region.wanted, h1, yielded, h2', Option.bind_some]
    rw [← this]
    have e : a.tmps.getD t undef = (a.tmps[t]?).getD undef := by simp [Array.getD_eq_getD_getElem?]
    rw [e]
    cases hx : a.tmps[t]? with
    | none => rfl
    | some y => cases y <;> rfl


theorem runOps_rel {fs : T EF} (hfs : Fns Y fs) {go : Go} (hgo : GoOk Y go) {F : Fence} (hF : FW F) {base : Nat} {all : List Oper} {e : Ex} {fr' : Fr} {h0 : H} {ι0 : Io} {w0 : World} :
    ∀ (l : List Oper) {ι : Io} {fr : Fr} {h : H} {a : Act} {w : World}, runOps fs go (l.map (compOper Y.tab nt all)) fr h = .ok e fr' h' → Step h0.nx.nat ι0 w0 h.nx.nat ι w → AR nt ι fr a → WR Y.tab ι h w → Mk base ι w a.defers →
      wpListIn F 0 Y.P all.toArray (CQ Y nt base h0 ι0 w0 e fr' h') l a w
  | [], ι, fr, h, a, w, he, hs, ha, hr, hm => by
    cases he
    exact ⟨rfl, ι, hs, ha, hr, hm⟩
  | o :: l, ι, fr, h, a, w, he, hs, ha, hr, hm => by
    have he0 : runOp fs go (compOper Y.tab nt all o) (runOps fs go (l.map (compOper Y.tab nt all))) fr h = .ok e fr' h' := he
    unfold runOp at he0
    have hdef : ∀ (d : Option Tmp) (v' : Value), (a.put d v').defers = a.defers := fun d v' => by cases d <;> rfl
    cases hno : compOper? Y.tab nt all o with
    | none =>
      have e : compOper Y.tab nt all o = ⟨none, none, .no⟩ := by simp [compOper, hno]
      rw [e] at he0
      cases he0
    | some eo =>
      have e : compOper Y.tab nt all o = eo := by simp [compOper, hno]
      rw [e] at he0
      obtain ⟨c1, c2, c3, _⟩ := compOper_ok hno
      refine wpListIn_step fun K hK => ?_
      obtain ⟨r, hw, he0⟩ := oGet_some (by simp) he0
      rw [wants_rel ha hno hw]
      rw [c2] at he0
      cases r with
      | false =>
        simp only [Bool.false_eq_true, if_false]
        refine ⟨fun f _ => hF.fn f, hK _ _ ?_⟩
        exact runOps_rel hfs hgo hF l he0 hs (ha.putD c1 VR.undef) hr (by rw [hdef]; exact hm)
      | true =>
        simp only [if_true]
        cases hev : evop fs go fr h eo.op with
        | no => rw [hev] at he0; cases he0
        | ok v1 h1 =>
          rw [hev] at he0
          refine oper_rel hfs hgo hF ha hr c3 hev fun ι' v' w' s1 s2 s3 => hK _ _ ?_
          exact runOps_rel hfs hgo hF l he0 (hs.trans s1) ((ha.mono s1.ext).putD c1 s2) s3 (by rw [hdef]; exact hm.step s1)
end
end Go.Ev
