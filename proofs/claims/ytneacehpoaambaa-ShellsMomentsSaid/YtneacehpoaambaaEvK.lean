/-
  The evaluator, part K: lists of operations, calls, rounds, code.
-/
import Derived.Test.YtneacehpoaambaaEvJ
namespace Go.Ev
open Go Go.RowKit

/-- The marks that loops over functions leave behind. -/
def Mk (base : Nat) (ι : Io) (w : World) (ds : List Deferred) : Prop := base ≤ w.heap.size ∧ ∃ l : List Nat, ds = l.map (fun D => { target := .collected D, args := #[] }) ∧ l.Nodup ∧ ∀ D ∈ l, base ≤ D ∧ w.heap[D]? = some (Obj.deferred (some [])) ∧ ∀ id q, ι id = some q → q.b ≠ D
theorem lt_of_heap {w : World} {b : Nat} {o : Obj} (h : w.heap[b]? = some o) : b < w.heap.size := (Array.getElem?_eq_some_iff.1 h).1
theorem Mk.step {base n n' : Nat} {ι ι' : Io} {w w' : World} {ds : List Deferred} (h : Mk base ι w ds) (hs : Step n ι w n' ι' w') : Mk base ι' w' ds := by
  obtain ⟨h0, l, h1, h2, h3⟩ := h
  refine ⟨Nat.le_trans h0 hs.size, l, h1, h2, fun D hD => ?_⟩
  obtain ⟨g1, g2, g3⟩ := h3 D hD
  have hlt := lt_of_heap g2
  exact ⟨g1, (hs.keep D hlt g3).trans g2, hs.out hlt g3⟩
theorem Mk.nil (ι : Io) (w : World) : Mk w.heap.size ι w [] := ⟨Nat.le_refl _, [], rfl, List.nodup_nil, fun D h => absurd h (by simp)⟩

def Ex.of : Ex → Exit
  | .normal => .normal
  | .exit id => .exit id
  | .ret => .ret

def RO (F : Fence) (ro : Option K) (ι : Io) : Prop := match ro with
  | none => F = Fence.wide
  | some id => ∃ q, ι id = some q ∧ F = Fence.wide.inRound q.b
theorem RO.mono {F : Fence} {ro : Option K} {ι ι' : Io} (he : Ext ι ι') (h : RO F ro ι) : RO F ro ι' := by
  cases ro with
  | none => exact h
  | some id => obtain ⟨q, h1, h2⟩ := h; exact ⟨q, he _ _ h1, h2⟩
def FW (F : Fence) : Prop := F = Fence.wide ∨ ∃ l, F = Fence.wide.inRound l
theorem RO.fw {F : Fence} {ro : Option K} {ι : Io} (h : RO F ro ι) : FW F := by
  cases ro with
  | none => exact .inl h
  | some id => obtain ⟨q, _, h2⟩ := h; exact .inr ⟨_, h2⟩
theorem FW.fn {F : Fence} (h : FW F) (f : FuncId) : F.fn f := by rcases h with rfl | ⟨l, rfl⟩ <;> trivial
theorem FW.depth {F : Fence} (h : FW F) : F.depth = none := by rcases h with rfl | ⟨l, rfl⟩ <;> rfl
theorem FW.into {F : Fence} (h : FW F) (l : Nat) : F.inRound l = Fence.wide.inRound l := by rcases h with rfl | ⟨l, rfl⟩ <;> rfl
theorem FW.calls {F : Fence} (h : FW F) {P : Program} {f : FuncId} {args : Array Value} {w : World} {R : Ending → World → Prop} (hc : CallsIn Fence.wide 0 P f args w R) : CallsIn F 0 P f args w R := by
  rcases h with rfl | ⟨l, rfl⟩ <;> exact hc

structure FnOk (Y : Rig) (k : K) (ef : EF) (fn : Func) (c : Code) : Prop where
  def_ : Y.P.funcs[k.nat]? = some fn
  body : fn.body = some c
  name : (fn.name == "runtime.NumGoroutine") = false
  nt : ef.nt = fn.ntmps
  rs : mapO (compR Y.tab) fn.results.toList = some ef.rs
  code : ef.body = comp Y.tab fn.ntmps c
/-- What a call gives whatever the world: nothing that was there is turned. -/
def Gives (Y : Rig) (k : K) (args : List V) (v : V) : Prop := ∀ (ι : Io) (vals : List Value) (w : World), VRs ι args vals → CallsIn Fence.wide 0 Y.P k.nat vals.toArray w fun e w' =>
  ∃ v', e = .returned v' ∧ (∀ ι, VR ι v v') ∧ w'.os = w.os ∧ w'.tape = w.tape ∧ w'.output = w.output ∧ w.heap.size ≤ w'.heap.size ∧ ∀ b, b < w.heap.size → w'.heap[b]? = w.heap[b]?
structure NatOk (Y : Rig) (k : K) (g : List V → Option V) : Prop where
  fn : ∃ fn, Y.P.funcs[k.nat]? = some fn ∧ fn.body ≠ none ∧ (fn.name == "runtime.NumGoroutine") = false
  gives : ∀ args v, g args = some v → Gives Y k args v
def Fns (Y : Rig) (fs : T EF) : Prop := ∀ k ef, fs.get k = some ef → (ef.nv = none ∧ ∃ fn c, FnOk Y k ef fn c) ∨ ∃ g, ef.nv = some g ∧ NatOk Y k g

def CQ (Y : Rig) (nt base : Nat) (h : H) (ι : Io) (w : World) (e : Ex) (fr' : Fr) (h' : H) : Exit → Act → World → Prop := fun ex a' w' =>
  ex = e.of ∧ ∃ ι', Step h.nx.nat ι w h'.nx.nat ι' w' ∧ AR nt ι' fr' a' ∧ WR Y.tab ι' h' w' ∧ Mk base ι' w' a'.defers
def GoOk (Y : Rig) (go : Go) : Prop := ∀ (ro : Option K) (nt base : Nat) (code : Code) (fr : Fr) (h : H) (e : Ex) (fr' : Fr) (h' : H), go ro (comp Y.tab nt code) fr h = .ok e fr' h' →
  ∀ (F : Fence) (ι : Io) (a : Act) (w : World), RO F ro ι → AR nt ι fr a → WR Y.tab ι h w → Mk base ι w a.defers → code.wpIn F 0 Y.P (CQ Y nt base h ι w e fr' h') a w
def Post (Y : Rig) (h : H) (ι : Io) (w : World) (v : V) (h' : H) : Ending → World → Prop := fun e w' => ∃ ι' v', e = .returned v' ∧ Step h.nx.nat ι w h'.nx.nat ι' w' ∧ VR ι' v v' ∧ WR Y.tab ι' h' w'

/-! ### A function's results -/
def rvSem (tmps : Array Value) : ResultVar → Sem Value
  | .tmp t => pure (tmps.getD t undef)
  | .cell a t => do loadVar t (← asAddr (tmps.getD a undef))
theorem results_eq (fn : Func) (tmps : Array Value) : results fn tmps = (do
    let vs ← fn.results.mapM (rvSem tmps)
    pure (if h : vs.size = 1 then vs[0] else .tuple vs)) := by
  unfold results
  congr 1
def retVal : List Value → Value
  | [v] => v
  | l => .tuple l.toArray
theorem retV_rel {ι : Io} {vs : List V} {us : List Value} (h : VRs ι vs us) : VR ι (retV vs) (retVal us) := by
  cases vs with
  | nil => obtain rfl := h.inv_nil; exact VR.tups VRs.nil
  | cons v vs =>
    obtain ⟨u, us, rfl, h1, h2⟩ := h.inv_cons
    cases vs with
    | nil => obtain rfl := h2.inv_nil; exact h1
    | cons v2 vs =>
      obtain ⟨u2, us, rfl, h3, h4⟩ := h2.inv_cons
      exact VR.tups (VRs.cons h1 (VRs.cons h3 h4))

section
variable {Y : Rig} {nt : Nat} {ι : Io} {fr : Fr} {a : Act} {h h' : H} {w : World} {v : V}

theorem readR_rel (hf : FR ι fr a.tmps) (hr : WR Y.tab ι h w) {r : ResultVar} {er : ER} (hc : compR Y.tab r = some er) (he : readR fr h er = some v) : ∃ v', (rvSem a.tmps r).run Y.P w = .ok v' w ∧ VR ι v v' := by
  have hslot : ∀ t : Tmp, VR ι (ev fr (.t (K.ofNat t))) (a.tmps.getD t undef) := fun t => by
    have := hf (K.ofNat t)
    rw [K.ofNat_nat] at this
    exact this
  cases r with
  | tmp t =>
    cases hc
    cases he
    exact ⟨_, rfl, hslot t⟩
  | cell t ty =>
    unfold compR at hc
    simp only at hc
    split at hc
    · rename_i d hd
      split at hc
      · rename_i hg
        cases hc
        obtain ⟨b, off, vs, cs, h1, h2, h3, h4, h5, rfl⟩ := many?_rel hr (hslot t) he
        refine ⟨.agg vs.toArray, ?_, VR.aggs h4 h5⟩
        have hl := run_loadCells_list (P := Y.P) w ⟨b, off, none⟩ vs h3
        rw [h2] at hl
        simp [rvSem, h1, asAddr, loadVar, Rig.isAgg hd, hg, Rig.size hd, hl]
      · rename_i hg
        cases hc
        obtain ⟨b, off, v', h1, h2, h3⟩ := one?_rel hr (hslot t) he
        refine ⟨v', ?_, h3⟩
        have hg' : d.agg = false := by simpa using hg
        simp [rvSem, h1, asAddr, loadVar, Rig.isAgg hd, hg', h2]
    · cases hc
theorem readRs_rel (hf : FR ι fr a.tmps) (hr : WR Y.tab ι h w) : ∀ {rs : List ResultVar} {ers : List ER} {vs : List V}, mapO (compR Y.tab) rs = some ers → readRs fr h ers = some vs → ∃ us, (rs.mapM (rvSem a.tmps)).run Y.P w = .ok us w ∧ VRs ι vs us
  | [], ers, vs, hc, he => by
    cases hc
    cases he
    exact ⟨[], rfl, VRs.nil⟩
  | r :: rs, ers, vs, hc, he => by
    unfold mapO at hc
    split at hc
    · rename_i y hy
      cases hm : mapO (compR Y.tab) rs with
      | none => rw [hm] at hc; cases hc
      | some m =>
        rw [hm] at hc
        cases hc
        obtain ⟨v, h1, he⟩ := oGet_some (by simp) (show (oGet (readR fr h y) none fun v => oGet (readRs fr h m) none fun l => some (v :: l)) = some vs from he)
        obtain ⟨l, h2, he⟩ := oGet_some (by simp) he
        cases he
        obtain ⟨v', g1, g2⟩ := readR_rel hf hr hy h1
        obtain ⟨us, g3, g4⟩ := readRs_rel hf hr hm h2
        refine ⟨v' :: us, ?_, VRs.cons g2 g4⟩
        simp only [List.mapM_cons, Sem.run_bind, g1, Result.andThen_ok, g3, Sem.run_pure]
    · cases hc
theorem results_rel (hf : FR ι fr a.tmps) (hr : WR Y.tab ι h w) {fn : Func} {ers : List ER} {vs : List V} (hc : mapO (compR Y.tab) fn.results.toList = some ers) (he : readRs fr h ers = some vs) : ∃ v', (results fn a.tmps).run Y.P w = .ok v' w ∧ VR ι (retV vs) v' := by
  obtain ⟨us, h1, h2⟩ := readRs_rel hf hr hc he
  refine ⟨retVal us, ?_, retV_rel h2⟩
  obtain ⟨rl, hrl⟩ : ∃ rl : List ResultVar, fn.results = rl.toArray := ⟨fn.results.toList, by simp⟩
  rw [hrl] at h1
  simp only at h1
  rw [results_eq, Sem.run_bind, hrl, List.mapM_toArray, Sem.run_map]
  rw [h1]
  simp only [Result.andThen_ok, Sem.run_pure]
  match us with
  | [] => rfl
  | [v] => rfl
  | v1 :: v2 :: vs => simp [retVal]

theorem frame_get : ∀ (vs : List V) (k0 : K) (fr : Fr) (k : K), (frame k0 vs fr).get k = if k0.nat ≤ k.nat ∧ k.nat < k0.nat + vs.length then vs[k.nat - k0.nat]? else fr.get k
  | [], k0, fr, k => by rw [if_neg (by simp)]; rfl
  | v :: vs, k0, fr, k => by
    have : (frame k0 (v :: vs) fr).get k = (frame k0.succ vs (fr.set k0 v)).get k := rfl
    rw [this, frame_get vs, K.succ_nat, T.get_set]
    by_cases h1 : k0.nat + 1 ≤ k.nat ∧ k.nat < k0.nat + 1 + vs.length
    · rw [if_pos h1, if_pos (by simp; omega)]
      have : k.nat - k0.nat = (k.nat - (k0.nat + 1)) + 1 := by omega
      rw [this, List.getElem?_cons_succ]
    · rw [if_neg h1]
      by_cases h2 : k = k0
      · subst h2; rw [if_pos rfl, if_pos (by simp)]; simp
      · have : k.nat ≠ k0.nat := fun e => h2 (K.nat_inj e)
        rw [if_neg h2, if_neg (by simp; omega)]

theorem frame_rel {args : List V} {vals : List Value} (hv : VRs ι args vals) {n : Nat} (hn : args.length ≤ n) : AR n ι (frame .e args .nil) { tmps := vals.toArray ++ Array.replicate (n - vals.toArray.size) undef, defers := [] } := by
  have hl := hv.len
  refine ⟨by simp; omega, fun k => ?_⟩
  rw [frame_get, T.get_nil]
  simp only [K.nat, Nat.zero_le, true_and, Nat.zero_add, Nat.sub_zero]
  simp only [Array.getD_eq_getD_getElem?]
  by_cases h1 : k.nat < args.length
  · rw [if_pos h1, Array.getElem?_append_left (by simp; omega)]
    have h2 : k.nat < vals.length := by omega
    simp only [List.getElem?_toArray, List.getElem?_eq_getElem h1, List.getElem?_eq_getElem h2, getV, Option.getD_some]
    exact hv.at_ _ _ _
  · rw [if_neg h1]; exact .un _

theorem Step.put_out {n n' : Nat} {ι : Io} {w0 w : World} {ι1 : Io} {D : Nat} {o : Obj} (hs : Step n ι w0 n' ι1 w) (hD : w0.heap.size ≤ D) : Step n ι w0 n' ι1 (w.putObj D o) :=
  ⟨hs.ext, hs.new, fun b hb ho => (World.putObj_heap_other (by omega)).trans (hs.keep b hb ho), hs.os, hs.tape, hs.output, by simpa using hs.size, hs.mono, hs.low⟩
theorem WR.put_out {tab : Tab} {ι : Io} {h : H} {w : World} {D : Nat} {o : Obj} (hr : WR tab ι h w) (hD : ∀ id q, ι id = some q → q.b ≠ D) : WR tab ι h (w.putObj D o) :=
  ⟨fun id q hq => (hr.blk id q hq).mono (Ext.refl _) (World.putObj_heap_other (hD id q hq)), fun id q hq => by simpa using hr.lt id q hq, hr.inj, hr.fresh⟩

theorem callF_rel {go : Go} (hgo : GoOk Y go) {k : K} {ef : EF} {fn : Func} {c : Code} (hf : FnOk Y k ef fn c) {args : List V} {vals : List Value} (he : callF go ef args h = .ok v h') (hv : VRs ι args vals) (hr : WR Y.tab ι h w) :
    CallsIn Fence.wide 0 Y.P k.nat vals.toArray w (Post Y h ι w v h') := by
  obtain ⟨hc, he1⟩ := cond_ok RV.no_ne he
  have hc := Nat.le_of_ble_eq_true hc
  rw [lenL_eq, hf.nt] at hc
  rw [hf.code] at he1
  cases hres : go none (comp Y.tab fn.ntmps c) (frame .e args .nil) h with
  | no => rw [hres] at he1; cases he1
  | ok e fr1 h1 =>
    rw [hres] at he1
    have he2 : leave ef e fr1 h1 = .ok v h' := he1
    have hvs : (e = .normal ∨ e = .ret) ∧ ∃ vs, readRs fr1 h1 ef.rs = some vs ∧ v = retV vs ∧ h' = h1 := by
      cases e with
      | exit id => cases he2
      | normal =>
        obtain ⟨vs, h2, h3⟩ := oGet_ok (show (oGet (readRs fr1 h1 ef.rs) .no fun vs => .ok (retV vs) h1) = RV.ok v h' from he2)
        cases h3
        exact ⟨.inl rfl, vs, h2, rfl, rfl⟩
      | ret =>
        obtain ⟨vs, h2, h3⟩ := oGet_ok (show (oGet (readRs fr1 h1 ef.rs) .no fun vs => .ok (retV vs) h1) = RV.ok v h' from he2)
        cases h3
        exact ⟨.inr rfl, vs, h2, rfl, rfl⟩
    obtain ⟨hee, vs, hread, rfl, rfl⟩ := hvs
    refine callsIn_of_wp_marks hf.def_ hf.body trivial (wpIn_mono (hgo none fn.ntmps w.heap.size c _ h e fr1 h' hres Fence.wide ι _ w rfl (frame_rel hv hc) hr (Mk.nil ι w)) ?_)
    rintro ex a' w' ⟨rfl, ι', hs, har, hwr, hmk⟩
    have out : ∀ (l : List Nat) (ds : List Deferred) (w' : World), ds = l.map (fun D => { target := .collected D, args := #[] }) → l.Nodup → (∀ D ∈ l, w.heap.size ≤ D ∧ w'.heap[D]? = some (Obj.deferred (some [])) ∧ ∀ id q, ι' id = some q → q.b ≠ D) → Step h.nx.nat ι w h'.nx.nat ι' w' → WR Y.tab ι' h' w' →
        LeavesInM Fence.wide 0 Y.P fn a'.tmps (Post Y h ι w (retV vs) h') ds .returning w' := by
      intro l
      induction l with
      | nil =>
        intro ds w' hd _ _ hs hwr
        rw [hd]
        obtain ⟨v', h2, h3⟩ := results_rel (fn := fn) har.fr hwr hf.rs hread
        exact ⟨v', h2, ι', v', rfl, hs, h3, hwr⟩
      | cons D l ih =>
        intro ds w' hd hnd hl hs hwr
        rw [hd]
        obtain ⟨d1, d2, d3⟩ := hl D List.mem_cons_self
        refine ⟨by simp, .inl ⟨D, _, rfl, run_takeDeferred d2, ?_⟩⟩
        refine ih _ (w'.putObj D (.deferred none)) rfl (List.nodup_cons.1 hnd).2 (fun E hE => ?_) (hs.put_out d1) (hwr.put_out d3)
        have hne : E ≠ D := fun e => (List.nodup_cons.1 hnd).1 (e ▸ hE)
        obtain ⟨e1, e2, e3⟩ := hl E (List.mem_cons_of_mem _ hE)
        exact ⟨e1, (World.putObj_heap_other hne).trans e2, e3⟩
    obtain ⟨_, l, h2, h3, h4⟩ := hmk
    have := out l a'.defers w' h2 h3 h4 hs hwr
    rcases hee with rfl | rfl <;> exact this
end
end Go.Ev
