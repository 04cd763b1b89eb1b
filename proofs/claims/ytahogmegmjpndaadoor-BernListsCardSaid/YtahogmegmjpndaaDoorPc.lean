/-
  The evaluator, part L: calls of functions' values; rounds; lists of operations., and what follows.
-/
import Derived.Test.YtahogmegmjpndaaDoorPb
namespace Go.Ev
open Go Go.RowKit

theorem RV.all_ok {r : Res} {f : Ex → Fr → H → RV} {v : V} {h : H} (he : r.all f = .ok v h) : ∃ e fr h1, r = .ok e fr h1 ∧ f e fr h1 = .ok v h := by
  cases r with
  | no => cases he
  | ok e fr h1 => exact ⟨e, fr, h1, rfl, he⟩
theorem Blk.onL_ok {b : Blk} {f : LS → Option Ex → T V → List K → EC → EC → RV} {v : V} {h : H} (he : b.onL f = .ok v h) : ∃ s j fr ps a c, b = .loop s j fr ps a c ∧ f s j fr ps a c = .ok v h := by
  cases b <;> first | exact ⟨_, _, _, _, _, _, rfl, he⟩ | cases he
theorem isReady_ok {s : LS} {x : RV} {v : V} {h : H} (he : isReady s x = .ok v h) : s = .ready ∧ x = .ok v h := by cases s <;> first | exact ⟨rfl, he⟩ | cases he
theorem isBusy_ok {s : LS} {x : RV} {v : V} {h : H} (he : isBusy s x = .ok v h) : s = .busy ∧ x = .ok v h := by cases s <;> first | exact ⟨rfl, he⟩ | cases he
theorem isN_ok {e : Ex} {x : RV} {v : V} {h : H} (he : isN e x = .ok v h) : e = .normal ∧ x = .ok v h := by cases e <;> first | exact ⟨rfl, he⟩ | cases he

section
variable {Y : Rig} {nt : Nat} {ι : Io} {fr : Fr} {a : Act} {h h' : H} {w : World} {v : V}

theorem bind_rel {ps : List K} {args : List V} {tps : List Tmp} {vals : List Value} : ∀ {fr : Fr} {tmps : Array Value}, FR ι fr tmps → tmps.size = nt → (∀ p ∈ ps, p.nat < nt) → tps = ps.map K.nat → VRs ι args vals → args.length = ps.length →
    FR ι (bindK fr ps args) ((tps.zip vals).foldl (fun tmps (t, a) => tmps.setIfInBounds t a) tmps) ∧ ((tps.zip vals).foldl (fun tmps (t, a) => tmps.setIfInBounds t a) tmps).size = nt := by
  induction ps generalizing args tps vals with
  | nil =>
    intro fr tmps hf hsz _ htp hv hl
    subst htp
    exact ⟨hf, hsz⟩
  | cons p ps ih =>
    intro fr tmps hf hsz hp htp hv hl
    subst htp
    cases args with
    | nil => simp at hl
    | cons x args =>
      obtain ⟨x', vals, rfl, h1, h2⟩ := hv.inv_cons
      have hput := AR.put (a := { tmps := tmps, defers := [] }) ⟨hsz, hf⟩ (t := p.nat) (hp p List.mem_cons_self) h1
      have hk : K.ofNat p.nat = p := K.nat_inj (K.ofNat_nat _)
      rw [hk] at hput
      have h3 : FR ι (fr.set p x) (tmps.setIfInBounds p.nat x') := hput.fr
      have h4 : (tmps.setIfInBounds p.nat x').size = nt := hput.nt
      have key := ih (fr := fr.set p x) (tmps := tmps.setIfInBounds p.nat x') h3 h4 (fun q hq => hp q (List.mem_cons_of_mem _ hq)) rfl h2 (by simpa using hl)
      exact key

theorem round_rel {go : Go} (hgo : GoOk Y go) {id : K} {q : Pl} {args : List V} {vals : List Value} (hq : ι id = some q) (hv : VRs ι args vals) (hr : WR Y.tab ι h w)
    (he : ((h.get id).onL fun s _ fr ps a c => roundA go id args h s fr ps a c) = .ok v h') :
    ∃ fn tmps assign body, (Instr.yield q.b vals.toArray).run Y.P w = .ok (.round q.b fn tmps assign body) w ∧ ∀ F, FW F → RoundIn F 0 Y.P q.b fn tmps assign body w (Post Y h ι w v h') := by
  obtain ⟨s, j, fr0, ps, a0, c0, hb, he1⟩ := Blk.onL_ok he
  obtain ⟨hlen, he2⟩ := cond_ok RV.no_ne he1
  have hlen := Nat.eq_of_beq_eq_true hlen
  rw [lenL_eq, lenL_eq] at hlen
  obtain ⟨rfl, he3⟩ := isReady_ok he2
  obtain ⟨e1, fr1, h1, hres1, he4⟩ := RV.all_ok he3
  obtain ⟨rfl, he5⟩ := isN_ok he4
  have hblk := hr.blk id q hq
  rw [hb] at hblk
  obtain ⟨L, nt, hh, l1, l2, l3, l4, l5, l6, l7, l8⟩ := hblk
  have hpsz : L.params.size = ps.length := by rw [← Array.length_toList, l5]; simp
  have hvl := hv.len
  have hy := run_yield (P := Y.P) (args := vals.toArray) hh (by simp; omega)
  have hbind := bind_rel (nt := nt) (tps := L.params.toList) l3 l4 l6 l5 hv hlen
  have htm : (L.params.zip vals.toArray).foldl (fun tmps (t, a) => tmps.setIfInBounds t a) L.tmps = (L.params.toList.zip vals).foldl (fun tmps (t, a) => tmps.setIfInBounds t a) L.tmps := by
    rw [← Array.foldl_toList]; simp
  refine ⟨L.fn, _, L.assign, L.body, hy, fun F hF => roundIn_of_wpIn (hF.fn _) ?_⟩
  rw [htm, hF.into]
  subst l7
  have hst1 := hgo (some id) nt w.heap.size L.assign _ h .normal fr1 h1 hres1 (Fence.wide.inRound q.b) ι { tmps := (L.params.toList.zip vals).foldl (fun tmps (t, a) => tmps.setIfInBounds t a) L.tmps, defers := [] } w ⟨q, hq, rfl⟩ ⟨hbind.2, hbind.1⟩ hr (Mk.nil ι w)
  refine wpIn_mono hst1 ?_
  rintro ex a1 w1 ⟨rfl, ι1, s1, har1, hwr1, hmk1⟩
  obtain ⟨s2, j2, fr2, ps2, aa2, cc2, hb2, he6⟩ := Blk.onL_ok he5
  obtain ⟨rfl, he7⟩ := isReady_ok he6
  obtain ⟨e3, fr3, h3, hres3, he8⟩ := RV.all_ok he7
  obtain ⟨s4, j4, fr4, ps4, aa4, cc4, hb4, he9⟩ := Blk.onL_ok he8
  obtain ⟨rfl, he10⟩ := isBusy_ok he9
  have hq1 := s1.ext _ _ hq
  have hblk1 := hwr1.blk id q hq1
  rw [hb2] at hblk1
  obtain ⟨L1, nt1, hh1, m1, m2, m3, m4, m5, m6, m7, m8⟩ := hblk1
  have hlt1 := lt_of_heap hh1
  have hlive1 : live h1 id := by unfold live; rw [hb2]; simp
  refine ⟨_, run_beginRound hh1 m1, ?_⟩
  obtain ⟨sb, wrb⟩ := hwr1.write (b := .loop .busy j2 fr2 ps2 aa2 cc2) (w' := w1.putObj q.b (.loop { L1 with state := .busy })) hq1 hlive1 (by rw [hb2]; exact fun h => h) (by simp) (fun c hc => World.putObj_heap_other hc) rfl rfl rfl
    ⟨{ L1 with state := .busy }, nt1, World.putObj_heap_same hlt1, rfl, m2, m3, m4, m5, m6, m7, m8⟩
  have hst2 := hgo (some id) nt 0 L.body _ _ e3 fr3 h3 (by rw [l8]; exact hres3) (Fence.wide.inRound q.b) ι1 a1 (w1.putObj q.b (.loop { L1 with state := .busy })) ⟨q, hq1, rfl⟩ har1 wrb ?_
  · refine wpIn_mono hst2 ?_
    rintro ex a3 w3 ⟨rfl, ι3, s3, har3, hwr3, hmk3⟩
    have hq3 := s3.ext _ _ hq1
    have hblk3 := hwr3.blk id q hq3
    rw [hb4] at hblk3
    obtain ⟨L3, nt3, hh3, n1, n2, n3, n4, n5, n6, n7, n8⟩ := hblk3
    have hlt3 := lt_of_heap hh3
    have hlive3 : live h3 id := by unfold live; rw [hb4]; simp
    have hall := (s1.trans sb).trans s3
    have fin : ∀ (jump : Option Code) (s' : LS) (j' : Option Ex), s'.of = (if jump.isNone then LoopState.ready else LoopState.done) → j'.bind Ex.code = jump → endR id e3 fr4 ps4 aa4 cc4 h3 = .ok (.b jump.isNone) (h3.put id (.loop s' j' fr4 ps4 aa4 cc4)) →
        ∃ u w', (Instr.endRound q.b jump).run Y.P w3 = .ok u w' ∧ Post Y h ι w v h' (.returned u) w' := by
      intro jump s' j' e1 e2 e3
      rw [e3] at he10
      cases he10
      obtain ⟨sc, wrc⟩ := hwr3.write (b := .loop s' j' fr4 ps4 aa4 cc4) (w' := w3.putObj q.b (.loop { L3 with state := if jump.isNone then .ready else .done, pending := jump })) hq3 hlive3 (by rw [hb4]; exact fun h => h) (by simp) (fun c hc => World.putObj_heap_other hc) rfl rfl rfl
        ⟨{ L3 with state := if jump.isNone then .ready else .done, pending := jump }, nt3, World.putObj_heap_same hlt3, e1.symm, e2.symm, n3, n4, n5, n6, n7, n8⟩
      exact ⟨_, _, run_endRound jump hh3, ι3, _, rfl, hall.trans sc, .b _, wrc⟩
    cases e3 with
    | normal => exact fin none .ready none rfl rfl rfl
    | ret => exact fin (some .ret) .done (some .ret) rfl rfl rfl
    | exit i => exact fin (some (.exit i)) .done (some (.exit i)) rfl rfl rfl
  · obtain ⟨g1, g2⟩ := hmk1.step sb
    exact ⟨Nat.zero_le _, by
      obtain ⟨l, g3, g4, g5⟩ := g2
      exact ⟨l, g3, g4, fun D hD => ⟨Nat.zero_le _, (g5 D hD).2⟩⟩⟩

theorem callE_rel {fs : T EF} (hfs : Fns Y fs) {go : Go} (hgo : GoOk Y go) {k : K} {ef : EF} (h1 : fs.get k = some ef) {args : List V} {vals : List Value} (he1 : callE go ef args h = .ok v h') (hv : VRs ι args vals) (hr : WR Y.tab ι h w) :
    (callFunc k.nat vals.toArray).run Y.P w = .ok (.enter k.nat vals.toArray) w ∧ CallsIn Fence.wide 0 Y.P k.nat vals.toArray w (Post Y h ι w v h') := by
  rcases hfs k ef h1 with ⟨hnv, fn, c, hfn⟩ | ⟨g, hnv, ⟨fn, hf1, hf2, hf3⟩, hg⟩
  · have he1 : oGet ef.nv (callF go ef args h) (fun g => oGet (g args h) .no fun p => .ok p.1 p.2) = .ok v h' := he1
    rw [hnv] at he1
    have he1 : callF go ef args h = .ok v h' := he1
    refine ⟨?_, callF_rel hgo hfn he1 hv hr⟩
    have hn' : ¬ fn.name = "runtime.NumGoroutine" := by simpa using hfn.name
    have hb' : ¬ fn.body = none := fun e => by rw [hfn.body] at e; cases e
    simp [callFunc, hfn.def_, hb', hn']
  · have he1 : oGet ef.nv (callF go ef args h) (fun g => oGet (g args h) .no fun p => .ok p.1 p.2) = .ok v h' := he1
    rw [hnv] at he1
    obtain ⟨⟨v1, h1'⟩, he2, he3⟩ := oGet_ok (show (oGet (g args h) .no fun p => .ok p.1 p.2) = RV.ok v h' from he1)
    cases he3
    refine ⟨?_, hg _ _ _ _ he2 ι _ w hv hr⟩
    have hn' : ¬ fn.name = "runtime.NumGoroutine" := by simpa using hf3
    simp [callFunc, hf1, hf2, hn']
theorem call_rel {fs : T EF} (hfs : Fns Y fs) {go : Go} (hgo : GoOk Y go) {f : V} {fv : Value} {args : List V} {vals : List Value} (he : callV fs go f args h = .ok v h') (hf : VR ι f fv) (hv : VRs ι args vals) (hr : WR Y.tab ι h w) :
    (∃ g fst caps, fv = .func (.func g) fst caps ∧ (f.isF = true → fst = #[]) ∧ (callFunc g (fst ++ vals.toArray ++ caps)).run Y.P w = .ok (.enter g (fst ++ vals.toArray ++ caps)) w ∧ CallsIn Fence.wide 0 Y.P g (fst ++ vals.toArray ++ caps) w (Post Y h ι w v h')) ∨
    (∃ l, fv = .func (.yield l) #[] #[] ∧ ∃ fn tmps assign body, (Instr.yield l vals.toArray).run Y.P w = .ok (.round l fn tmps assign body) w ∧ ∀ F, FW F → RoundIn F 0 Y.P l fn tmps assign body w (Post Y h ι w v h')) := by
  unfold callV at he
  cases f <;> simp only [] at he <;> try cases he
  case fn k caps =>
    obtain ⟨ef, h1, he1⟩ := oGet_ok he
    cases hf with
    | @fn _ _ us hl hc =>
     left
     rw [cat_eq] at he1
     obtain ⟨g1, g2⟩ := callE_rel hfs hgo h1 he1 (hv.append ⟨hl, hc⟩) hr
     have e2 : (vals ++ us).toArray = #[] ++ vals.toArray ++ us.toArray := by simp
     rw [e2] at g1 g2
     exact ⟨k.nat, #[], us.toArray, rfl, fun _ => rfl, g1, g2⟩
  case bf k fst caps =>
    obtain ⟨ef, h1, he1⟩ := oGet_ok he
    cases hf with
    | @bf _ _ _ us ws hl1 hc1 hl hc =>
     left
     rw [cat_eq, cat_eq] at he1
     obtain ⟨g1, g2⟩ := callE_rel hfs hgo h1 he1 ((VRs.of hl1 hc1).append (hv.append ⟨hl, hc⟩)) hr
     have e2 : (us ++ (vals ++ ws)).toArray = us.toArray ++ vals.toArray ++ ws.toArray := by simp
     rw [e2] at g1 g2
     exact ⟨k.nat, us.toArray, ws.toArray, rfl, fun h => (by cases h), g1, g2⟩
  case yl id =>
    cases hf with
    | @yl _ q hq =>
      right
      exact ⟨q.b, rfl, round_rel hgo hq hv hr he⟩
end
end Go.Ev
namespace Go.Ev
open Go Go.RowKit

theorem notDefer {tab : Tab} {op : Op} {eop : EOp} (hc : compOp tab op = some eop) : ∀ c, op ≠ .defer c := fun c e => by subst e; simp [compOp] at hc

section
variable {Y : Rig} {nt : Nat} {ι : Io} {fr : Fr} {a : Act} {h h' : H} {w : World} {v : V}

theorem oper_rel {fs : T EF} (hfs : Fns Y fs) {go : Go} (hgo : GoOk Y go) {F : Fence} (hF : FW F) {o : Oper} {eop : EOp} (ha : AR nt ι fr a) (hr : WR Y.tab ι h w) (hc : compOp Y.tab o.op = some eop) (he : evop fs go fr h eop = .ok v h') {K : Act → World → Prop} {Q : Exit → Act → World → Prop}
    (hk : ∀ ι' v' w', Step h.nx.nat ι w h'.nx.nat ι' w' → VR ι' v v' → WR Y.tab ι' h' w' → K (a.put o.dst v') w') : o.wpIn F 0 Y.P a w K Q := by
  refine ⟨fun f _ => hF.fn f, ?_⟩
  rw [Oper.semAt_eq _ _ _ (notDefer hc)]
  obtain ⟨d, op, ty, pos, aft, g⟩ := o
  by_cases hcall : isCall op = true
  · cases op <;> simp only [isCall] at hcall <;> try cases hcall
    rename_i c
    obtain ⟨callee, args, tys⟩ := c
    cases callee <;> simp only [] at hcall <;> try cases hcall
    rename_i f
    simp only [compOp, Option.bind_eq_bind, Option.bind_eq_some_iff, Option.some.injEq] at hc
    obtain ⟨f', h1, as', h2, rfl⟩ := hc
    have hvf := ha.ev h1
    have hvs := ha.evs h2
    have hmap : args.map a.eval = (args.toList.map a.eval).toArray := by apply Array.ext'; simp
    have hdep : (F.depth.isSome = true → 1 ≤ 0) := fun e => by rw [hF.depth] at e; cases e
    rcases call_rel hfs hgo he hvf hvs hr with ⟨g', fst, caps, e1, _, e2, e3⟩ | ⟨l, e1, fn, tmps, assign, body, e2, e3⟩
    · have hrun : (execOp a.eval ⟨d, .call ⟨.value f, args, tys⟩, ty, pos, aft, g⟩).run Y.P w = .ok (.enter g' (fst ++ (args.toList.map a.eval).toArray ++ caps)) w := by
        simp only [execOp, resolve, e1, Deferred.ofValue, Sem.run_bind, Sem.run_pure, Result.andThen_ok, invoke, hmap]
        exact e2
      rw [hrun]
      refine ⟨hdep, hF.calls (e3.mono ?_)⟩
      rintro e w' ⟨ι', v', rfl, s1, s2, s3⟩
      exact hk ι' v' w' s1 s2 s3
    · have hrun : (execOp a.eval ⟨d, .call ⟨.value f, args, tys⟩, ty, pos, aft, g⟩).run Y.P w = .ok (.round l fn tmps assign body) w := by
        simp only [execOp, resolve, e1, Deferred.ofValue, Sem.run_bind, Sem.run_pure, Result.andThen_ok, invoke, hmap, Array.empty_append]
        exact e2
      rw [hrun]
      refine ⟨hdep, (e3 F hF).mono ?_⟩
      rintro e w' ⟨ι', v', rfl, s1, s2, s3⟩
      exact hk ι' v' w' s1 s2 s3
  · have hcall' : isCall op = false := by simpa using hcall
    obtain ⟨v', w', ι', hrun, s1, s2, s3⟩ := evop_rel (d := d) (ty := ty) (pos := pos) (aft := aft) (g := g) ha hr hcall' hc he
    rcases hrun with hrun | ⟨hrun, rfl⟩
    · rw [hrun]; exact hk ι' v' w' s1 s2 s3
    · rw [hrun]; exact hk ι' undef w' s1 s2 s3

/-! ### Lists of operations -/
def dstIn (nt : Nat) (o : Oper) : Prop := match o.dst with | some d => d < nt | none => True
theorem AR.putD (ha : AR nt ι fr a) {o : Oper} (hd : dstIn nt o) {v' : Value} (hv : VR ι v v') : AR nt ι (putD fr (o.dst.map K.ofNat) v) (a.put o.dst v') := by
  unfold dstIn at hd
  cases ho : o.dst with
  | none => exact ha
  | some d => rw [ho] at hd; exact ha.put hd hv

theorem compOper_ok {tab : Tab} {nt : Nat} {all : List Oper} {o : Oper} {eo : EOper} (hn : compOper? tab nt all o = some eo) :
    dstIn nt o ∧ eo.dst = o.dst.map K.ofNat ∧ (∃ op, compOp tab o.op = some op ∧ eo.op = dupE all op) ∧
      ((o.guard = none ∧ eo.g = none) ∨ ∃ j b t, o.guard = some (j, b) ∧ (all[j]?).bind (·.dst) = some t ∧ eo.g = some (K.ofNat t, b)) := by
  unfold compOper? at hn
  split at hn
  · rename_i op g h1 h2
    split at hn
    · rename_i hd
      cases hn
      refine ⟨?_, rfl, ⟨_, h1, rfl⟩, ?_⟩
      · unfold dstIn
        cases ho : o.dst with
        | none => trivial
        | some d => rw [ho] at hd; simpa [dstB] using hd
      · cases hg : o.guard with
        | none => rw [hg] at h2; cases h2; exact .inl ⟨rfl, rfl⟩
        | some p =>
          obtain ⟨j, b⟩ := p
          rw [hg] at h2
          simp only [guardOf] at h2
          split at h2
          · rename_i t ht
            cases h2
            exact .inr ⟨j, b, t, rfl, ht, rfl⟩
          · cases h2
    · cases hn
  · cases hn

def asB (v : Value) : Option Bool := match v with | .bool b => some b | _ => none
theorem guardV_rel {x : V} {x' : Value} {want r : Bool} (hx : VR ι x x') (h : guardV x want = some r) : (asB x' == some want) = r := by
  cases x <;> simp only [guardV] at h <;> cases h
  · cases hx; rename_i x; cases x <;> cases want <;> rfl
  · obtain ⟨vs, rfl, _⟩ := hx.of_tup; rfl
theorem dup_ev {fs : T EF} {go : Go} {all : List Oper} {op : EOp} : evop fs go fr h (dupE all op) = evop fs go fr h op := by
  unfold dupE
  split
  · split <;> rfl
  · split <;> rfl
  · rfl
theorem wants_rel {all : List Oper} {o : Oper} {eo : EOper} {r : Bool} (ha : AR nt ι fr a) (hn : compOper? Y.tab nt all o = some eo) (hw : wants fr eo.g = some r) : Region.wanted o (yielded all.toArray a.tmps) = r := by
  obtain ⟨_, _, _, h⟩ := compOper_ok hn
  rcases h with ⟨h1, h2⟩ | ⟨j, b, t, h1, h2, h3⟩
  · rw [h2] at hw; cases hw; simp only [Region.wanted, h1]
  · rw [h3] at hw
    have hv := ha.fr (K.ofNat t)
    rw [K.ofNat_nat] at hv
    have h2' : (all.toArray[j]?).bind (·.dst) = some t := by simpa using h2
    have := guardV_rel hv (show guardV (getV (fr.get (K.ofNat t))) b = some r from hw)
    simp only [Region.wanted, h1, yielded, h2', Option.bind_some]
    rw [← this]
    have e : a.tmps.getD t undef = (a.tmps[t]?).getD undef := by simp [Array.getD_eq_getD_getElem?]
    rw [e]
    cases hx : a.tmps[t]? with
    | none => rfl
    | some y => cases y <;> rfl


theorem runOps_rel {fs : T EF} (hfs : Fns Y fs) {go : Go} (hgo : GoOk Y go) {F : Fence} (hF : FW F) {base : Nat} {all : List Oper} {e : Ex} {fr' : Fr} {h0 : H} {ι0 : Io} {w0 : World} :
    ∀ (l : List Oper) {ι : Io} {fr : Fr} {h : H} {a : Act} {w : World}, runOps fs go (l.map (compOper Y.tab nt all)) fr h = .ok e fr' h' → Step h0.nx.nat ι0 w0 h.nx.nat ι w → AR nt ι fr a → WR Y.tab ι h w → Mk base ι w a.defers →
      wpListIn F 0 Y.P all.toArray (CQ Y nt base h0 ι0 w0 e fr' h') l a w
  | [], ι, fr, h, a, w, he, hs, ha, hr, hm => by
    cases he
    exact ⟨rfl, ι, hs, ha, hr, hm⟩
  | o :: l, ι, fr, h, a, w, he, hs, ha, hr, hm => by
    have he0 : runOp fs go (compOper Y.tab nt all o) (runOps fs go (l.map (compOper Y.tab nt all))) fr h = .ok e fr' h' := he
    unfold runOp at he0
    have hdef : ∀ (d : Option Tmp) (v' : Value), (a.put d v').defers = a.defers := fun d v' => by cases d <;> rfl
    cases hno : compOper? Y.tab nt all o with
    | none =>
      have e : compOper Y.tab nt all o = ⟨none, none, .no⟩ := by simp [compOper, hno]
      rw [e] at he0
      cases he0
    | some eo =>
      have e : compOper Y.tab nt all o = eo := by simp [compOper, hno]
      rw [e] at he0
      obtain ⟨c1, c2, ⟨op0, c3, c5⟩, _⟩ := compOper_ok hno
      refine wpListIn_step fun K hK => ?_
      obtain ⟨r, hw, he0⟩ := oGet_some (by simp) he0
      rw [wants_rel ha hno hw]
      rw [c2] at he0
      cases r with
      | false =>
        simp only [Bool.false_eq_true, if_false]
        refine ⟨fun f _ => hF.fn f, hK _ _ ?_⟩
        exact runOps_rel hfs hgo hF l he0 hs (ha.putD c1 VR.undef) hr (by rw [hdef]; exact hm)
      | true =>
        simp only [if_true]
        cases hev : evop fs go fr h eo.op with
        | no => rw [hev] at he0; cases he0
        | ok v1 h1 =>
          rw [hev] at he0
          rw [c5, dup_ev] at hev
          refine oper_rel hfs hgo hF ha hr c3 hev fun ι' v' w' s1 s2 s3 => hK _ _ ?_
          exact runOps_rel hfs hgo hF l he0 (hs.trans s1) ((ha.mono s1.ext).putD c1 s2) s3 (by rw [hdef]; exact hm.step s1)
end
end Go.Ev
namespace Go.Ev
open Go Go.RowKit

theorem wpIn_loop_ghost {F : Fence} {n : Nat} {P : Program} {Q : Exit → Act → World → Prop} {a : Act} {w : World} {c : Code} {σ : Type} (I : σ → Act → World → Prop) (μ : σ → Nat) (s₀ : σ) (h₀ : I s₀ a w)
    (round : ∀ s a w, I s a w → c.wpIn F n P (Exit.then (fun a' w' => ∃ s', I s' a' w' ∧ μ s' < μ s) Q) a w) : (Code.loop c).wpIn F n P Q a w := by
  intro b k cs hro hb hr
  have key : ∀ j s a w, μ s = j → I s a w →
      ∃ e a' w', Q e a' w' ∧ ArrivesIn (Machine.fenced P F) P (lone (b.atR a (.code c :: .inLoop c :: k)) cs w) b k cs e a' w' := by
    intro j
    induction j using Nat.strongRecOn with
    | _ j ih =>
      intro s a w hn hI
      obtain ⟨e, a₁, w₁, hq, harr⟩ := round s a w hI b (.inLoop c :: k) cs hro hb hr
      cases e with
      | normal =>
        obtain ⟨s₁, hI₁, hlt⟩ := hq
        obtain ⟨e₂, a₂, w₂, hq₂, harr₂⟩ := ih (μ s₁) (hn ▸ hlt) s₁ a₁ w₁ rfl hI₁
        exact ⟨e₂, a₂, w₂, hq₂, .of_steps (StepsIn.trans harr (.one (fenced_calm hb hr rfl) stepR_inLoop)) harr₂⟩
      | exit id => exact ⟨_, a₁, w₁, hq, .pass (x := .inLoop c) rfl (fun _ _ => .inl (by simp)) harr⟩
      | goto l => exact ⟨_, a₁, w₁, hq, .pass (x := .inLoop c) rfl (fun _ _ => .inl (by simp)) harr⟩
      | ret => exact ⟨_, a₁, w₁, hq, .pass (x := .inLoop c) rfl (fun _ _ => .inl (by simp)) harr⟩
      | panic ch => exact ⟨_, a₁, w₁, hq, .pass (x := .inLoop c) rfl (fun _ _ => .inl (by simp)) harr⟩
      | outgrown => exact ⟨_, a₁, w₁, hq, .pass (x := .inLoop c) rfl (fun _ _ => .inl (by simp)) harr⟩
  obtain ⟨e, a', w', hq, harr⟩ := key _ s₀ a w rfl h₀
  exact ⟨e, a', w', hq, .of_steps (.one (fenced_calm hb hr rfl) stepR_loop) harr⟩

section
variable {P : Program} {b : Frame} {a : Act} {k : List Item} {cs : List Frame} {w : World}
theorem stepR_scope {c : Code} : step P (lone (b.atR a (.code (.scope c) :: k)) cs w) = .next (lone (b.atR a (.code c :: .inScope c :: k)) cs w) :=
  step_lone_go (by simp [stepG, stepG.exec, Frame.atR])
theorem stepR_inScope {c : Code} : step P (lone (b.atR a (.inScope c :: k)) cs w) = .next (lone (b.atR a k) cs w) :=
  step_lone_go (by simp [stepG, stepG.exec, Frame.atR])
end
theorem wpIn_scope {F : Fence} {n : Nat} {P : Program} {Q : Exit → Act → World → Prop} {a : Act} {w : World} {c : Code} (hQ : ∀ l a w, ¬ Q (.goto l) a w) (h : c.wpIn F n P Q a w) : (Code.scope c).wpIn F n P Q a w := by
  intro b k cs hro hb hr
  have h0 : (lone (b.atR a (.code (.scope c) :: k)) cs w).fenced P F := fenced_calm hb hr rfl
  obtain ⟨e, a₁, w₁, hq, harr⟩ := h b (.inScope c :: k) cs hro hb hr
  cases e with
  | normal => exact ⟨.normal, a₁, w₁, hq, .head h0 stepR_scope (StepsIn.trans harr (.one (fenced_calm hb hr rfl) stepR_inScope))⟩
  | exit id =>
    have hx : exitTo id (.inScope c :: k) = exitTo id k := by simp [exitTo]
    exact ⟨.exit id, a₁, w₁, hq, fun k' hk => .head h0 stepR_scope (harr.1 k' (by rw [hx]; exact hk)),
        fun hr' hk => let ⟨k₁, h1, h2⟩ := harr.2 hr' (by rw [hx]; exact hk); ⟨k₁, h1, .head h0 stepR_scope h2⟩⟩
  | goto l => exact absurd hq (hQ l a₁ w₁)
  | ret => exact ⟨_, a₁, w₁, hq, .of_steps (.one h0 stepR_scope) harr⟩
  | panic ch => exact ⟨_, a₁, w₁, hq, .of_steps (.one h0 stepR_scope) harr⟩
  | outgrown => exact ⟨_, a₁, w₁, hq, .of_steps (.one h0 stepR_scope) harr⟩

theorem Step.world {n : Nat} {ι : Io} {w w' : World} (hb : ∀ b, b < w.heap.size → w'.heap[b]? = w.heap[b]?) (hs : w.heap.size ≤ w'.heap.size) (hos : w'.os = w.os) (htp : w'.tape = w.tape) (hout : w'.output = w.output) : Step n ι w n ι w' :=
  ⟨Ext.refl ι, fun id q h k => (by rw [h] at k; cases k), fun b h _ => hb b h, hos, htp, hout, hs, Nat.le_refl _, fun _ _ h => h⟩

section
variable {Y : Rig} {nt base : Nat} {ι : Io} {fr fr' : Fr} {a : Act} {h h' : H} {w : World} {e : Ex}

theorem CQ.trans {h1 : H} {ι1 : Io} {w1 : World} (hs : Step h.nx.nat ι w h1.nx.nat ι1 w1) {ex : Exit} {a' : Act} {w' : World} (hq : CQ Y nt base h1 ι1 w1 e fr' h' ex a' w') : CQ Y nt base h ι w e fr' h' ex a' w' := by
  obtain ⟨h1, ι', h2, h3⟩ := hq
  exact ⟨h1, ι', hs.trans h2, h3⟩

theorem Res.go_ok {r : Res} {f : Fr → H → Res} (he : r.go f = .ok e fr' h') : (∃ fr1 h1, r = .ok .normal fr1 h1 ∧ f fr1 h1 = .ok e fr' h') ∨ (e ≠ .normal ∧ r = .ok e fr' h') := by
  cases r with
  | no => cases he
  | ok e1 fr1 h1 =>
    cases e1 with
    | normal => exact .inl ⟨fr1, h1, rfl, he⟩
    | exit i =>
      have : Res.ok (.exit i) fr1 h1 = .ok e fr' h' := he
      cases this
      exact .inr ⟨by simp, rfl⟩
    | ret =>
      have : Res.ok .ret fr1 h1 = .ok e fr' h' := he
      cases this
      exact .inr ⟨by simp, rfl⟩
theorem Res.at_ok {r : Res} {id : Nat} (he : r.at id = .ok e fr' h') : ∃ e1, r = .ok e1 fr' h' ∧ ((e1 = .exit id ∧ e = .normal) ∨ (e1 ≠ .exit id ∧ e = e1)) := by
  cases r with
  | no => cases he
  | ok e1 fr1 h1 =>
    cases e1 with
    | normal =>
      have : Res.ok .normal fr1 h1 = .ok e fr' h' := he
      cases this
      exact ⟨.normal, rfl, .inr ⟨by simp, rfl⟩⟩
    | ret =>
      have : Res.ok .ret fr1 h1 = .ok e fr' h' := he
      cases this
      exact ⟨.ret, rfl, .inr ⟨by simp, rfl⟩⟩
    | exit i =>
      have he' : (bif Nat.beq i id then Res.ok .normal fr1 h1 else Res.ok (.exit i) fr1 h1) = .ok e fr' h' := he
      cases hb : Nat.beq i id with
      | true =>
        rw [hb] at he'
        cases he'
        have := Nat.eq_of_beq_eq_true hb
        subst this
        exact ⟨_, rfl, .inl ⟨rfl, rfl⟩⟩
      | false =>
        rw [hb] at he'
        cases he'
        have : i ≠ id := fun e => by rw [e] at hb; simp at hb
        exact ⟨_, rfl, .inr ⟨by simpa using this, rfl⟩⟩
theorem RV.to_ok {r : RV} {f : V → H → Res} (he : r.to f = .ok e fr' h') : ∃ v h1, r = .ok v h1 ∧ f v h1 = .ok e fr' h' := by
  cases r with
  | no => cases he
  | ok v h1 => exact ⟨v, h1, rfl, he⟩

theorem rangeL_rel {fs : T EF} (hfs : Fns Y fs) {go : Go} (hgo : GoOk Y go) {ro : Option K} {F : Fence} {f : Operand} {f' : EO} {ps : Array Tmp} {as bd : Code} (hf : eo f = some f') (hps : ps.toList.all (fun p => decide (p < nt)) = true)
    (he : rangeL fs go ro (ev fr f') (ps.toList.map K.ofNat) (comp Y.tab nt as) (comp Y.tab nt bd) fr h = .ok e fr' h') (hro : RO F ro ι) (ha : AR nt ι fr a) (hr : WR Y.tab ι h w) (hm : Mk base ι w a.defers) :
    (Code.rangeFunc f ps as bd).wpIn F 0 Y.P (CQ Y nt base h ι w e fr' h') a w := by
  have hF := hro.fw
  obtain ⟨hc, he1⟩ := cond_ok (by simp) he
  simp only [Bool.and_eq_true] at hc
  obtain ⟨v1, h1, hcall, he2⟩ := RV.to_ok he1
  have hvf := ha.ev hf
  have hps' : ∀ p ∈ ps.toList, p < nt := fun p hp => by simpa using List.all_eq_true.1 hps p hp
  refine wpIn_rangeFunc fun fn _ => ?_
  -- the record
  have enter : ∃ (w0 : World) (mark : List Deferred) (dfs : Nat), (Instr.enterLoop fn a.tmps ps as bd F.round).run Y.P w = .ok (w0.heap.size, mark) (w0.alloc (.loop { state := .ready, pending := none, fn, tmps := a.tmps, params := ps, assign := as, body := bd, defers := dfs })) ∧
      Step h.nx.nat ι w h.nx.nat ι w0 ∧ WR Y.tab ι h w0 ∧ Mk base ι w0 (mark ++ a.defers) := by
    cases ro with
    | none =>
      have hF0 : F = Fence.wide := hro
      subst hF0
      have hold : ∀ b, b < w.heap.size → (w.alloc (.deferred (some []))).heap[b]? = w.heap[b]? := fun b hb => heap_alloc_old w _ hb
      have hst : Step h.nx.nat ι w h.nx.nat ι (w.alloc (.deferred (some []))) := Step.world hold (by simp) rfl rfl rfl
      refine ⟨w.alloc (.deferred (some [])), [{ target := .collected w.heap.size, args := #[] }], w.heap.size, ?_, hst, hr.same hold (by simp), ?_⟩
      · have := run_enterLoop_outer (w := w) (P := Y.P) fn a.tmps ps as bd
        simpa using this
      · obtain ⟨g0, l, g1, g2, g3⟩ := hm.step hst
        refine ⟨g0, w.heap.size :: l, by simp [g1], List.nodup_cons.2 ⟨fun hin => ?_, g2⟩, fun D hD => ?_⟩
        · obtain ⟨_, l', k1, _, k3⟩ := hm
          have hll : l = l' := by
            have := g1.symm.trans k1
            have hinj : ∀ (l l' : List Nat), l.map (fun D => ({ target := .collected D, args := #[] } : Deferred)) = l'.map (fun D => ({ target := .collected D, args := #[] } : Deferred)) → l = l' := by
              intro l
              induction l with
              | nil => intro l' h; cases l' with | nil => rfl | cons x l' => simp at h
              | cons x l ih => intro l' h; cases l' with | nil => simp at h | cons y l' => simp only [List.map_cons, List.cons.injEq, Deferred.mk.injEq, Target.collected.injEq, and_true] at h; rw [h.1, ih l' h.2]
            exact hinj _ _ this
          subst hll
          have := lt_of_heap (k3 _ hin).2.1
          omega
        · rcases List.mem_cons.1 hD with rfl | hD
          · exact ⟨hm.1, heap_alloc_new w _, fun id q hq e => by have := hr.lt id q hq; omega⟩
          · exact g3 D hD
    | some id0 =>
      obtain ⟨q0, hq0, hF0⟩ := hro
      have hl : (h.get id0).isL = true := hc.1
      have hblk := hr.blk id0 q0 hq0
      cases hb : h.get id0 <;> rw [hb] at hl <;> simp only [Blk.isL] at hl <;> try cases hl
      rw [hb] at hblk
      obtain ⟨L0, _, hh0, _⟩ := hblk
      refine ⟨w, [], L0.defers, ?_, Step.refl _ _ _, hr, by simpa using hm⟩
      have hrd : F.round = some q0.b := by rw [hF0]; rfl
      rw [hrd]
      exact run_enterLoop_inner hh0 fn a.tmps ps as bd
  obtain ⟨w0, mark, dfs, hent, s0, wr0, mk0⟩ := enter
  obtain ⟨L, hL⟩ : ∃ L : Loop, L = { state := .ready, pending := none, fn, tmps := a.tmps, params := ps, assign := as, body := bd, defers := dfs } := ⟨_, rfl⟩
  rw [← hL] at hent
  obtain ⟨s1, wr1⟩ := wr0.alloc (b := .loop .ready none fr (ps.toList.map K.ofNat) (comp Y.tab nt as) (comp Y.tab nt bd)) (o := .loop L) (base := 0) (room := 0)
    ⟨L, nt, heap_alloc_new w0 _, by rw [hL]; rfl, by rw [hL]; rfl, by rw [hL]; exact ha.fr.mono (updI_ext (wr0.fresh _ (Nat.le_refl _))), by rw [hL]; exact ha.nt, by
      rw [hL]; simp only [List.map_map]
      have : (K.nat ∘ K.ofNat) = id := by funext n; simp [K.ofNat_nat]
      rw [this]; simp, fun p hp => by
      obtain ⟨t, ht, rfl⟩ := List.mem_map.1 hp
      rw [K.ofNat_nat]; exact hps' t ht, by rw [hL], by rw [hL]⟩
  generalize hι1 : updI ι h.nx ⟨w0.heap.size, 0, 0, none⟩ = ι1 at s1 wr1
  have hid : ι1 h.nx = some ⟨w0.heap.size, 0, 0, none⟩ := by rw [← hι1]; exact updI_same _ _ _
  have hargs : VRs ι1 [.yl h.nx] [.func (.yield w0.heap.size) #[] #[]] := VRs.cons (.yl hid) VRs.nil
  have hF2 : F.depth.isSome = true → 1 ≤ 0 := fun e => by rw [hF.depth] at e; cases e
  rcases call_rel hfs hgo hcall ((hvf.mono s0.ext).mono s1.ext) hargs wr1 with ⟨g, fst, caps, e1, e0, e2, e3⟩ | ⟨l, e1, _⟩
  · obtain rfl := e0 hc.2
    simp only [Array.empty_append] at e2 e3
    refine ⟨w0.heap.size, mark, w0.alloc (.loop L), { target := .fn (.func g) caps, args := #[.func (.yield w0.heap.size) #[] #[]] }, w0.alloc (.loop L), g, #[.func (.yield w0.heap.size) #[] #[]] ++ caps, w0.alloc (.loop L), hent, ?_, fun f' _ => hF.fn f', ?_, hF2, ?_⟩
    · simp only [resolve, e1, Deferred.ofValue]
      simp [Act.eval]
    · show (callFunc g (#[.func (.yield w0.heap.size) #[] #[]] ++ caps)).run Y.P _ = _
      simpa using e2
    · have e3' : CallsIn F 0 Y.P g (#[.func (.yield w0.heap.size) #[] #[]] ++ caps) (w0.alloc (.loop L)) (Post Y (h.new (.loop .ready none fr (ps.toList.map K.ofNat) (comp Y.tab nt as) (comp Y.tab nt bd))) ι1 (w0.alloc (.loop L)) v1 h1) := hF.calls e3
      show CallsIn F 0 Y.P g _ _ _
      refine CallsIn.mono e3' ?_
      rintro en w2 ⟨ι2, v2, rfl, s2, _, wr2⟩
      have hid2 := s2.ext _ _ hid
      have he3 : (h1.get h.nx).onL' (fun s j => endL s j h.nx fr h1) = .ok e fr' h' := he2
      cases hb : h1.get h.nx <;> rw [hb] at he3 <;> simp only [Blk.onL'] at he3 <;> try cases he3
      rename_i st j fr2 ps2 aa2 cc2
      have hblk2 := wr2.blk h.nx _ hid2
      rw [hb] at hblk2
      obtain ⟨L2, nt2, hh2, m1, m2, _⟩ := hblk2
      have hlt2 := lt_of_heap hh2
      have hlive : live h1 h.nx := by unfold live; rw [hb]; simp
      obtain ⟨s3, wr3⟩ := wr2.write (b := .dead) (w' := w2.putObj w0.heap.size (.loop { L2 with state := .exhausted })) hid2 hlive (by rw [hb]; exact fun h => h) (by simp) (fun c hc => World.putObj_heap_other hc) rfl rfl rfl trivial
      have hall := ((s0.trans s1).trans s2).trans s3
      have hmk3 := (((mk0.step s1).step s2).step s3)
      have fin : ∀ ex : Exit, ex = e.of → fr' = fr → h' = h1.put h.nx .dead → CQ Y nt base h ι w e fr' h' ex { a with defers := mark ++ a.defers } (w2.putObj w0.heap.size (.loop { L2 with state := .exhausted })) := by
        intro ex h4 h5 h6
        subst h5; subst h6
        exact ⟨h4, ι2, hall, ⟨ha.nt, ha.fr.mono hall.ext⟩, wr3, hmk3⟩
      cases st <;> simp only [endL] at he3 <;> try cases he3
      · cases j with
        | some _ => cases he3
        | none =>
          have he4 : Res.ok .normal fr (h1.put h.nx .dead) = .ok e fr' h' := he3
          cases he4
          refine ⟨none, _, ?_, fin _ rfl rfl rfl⟩
          rw [run_endLoop hh2 (by rw [m1]; simp [LS.of]), m2]
          rfl
      · cases j with
        | none => cases he3
        | some e0 =>
          have he4 : Res.ok e0 fr (h1.put h.nx .dead) = .ok e fr' h' := he3
          cases he4
          have hrun : (Instr.endLoop w0.heap.size).run Y.P w2 = .ok ((some e).bind Ex.code) (w2.putObj w0.heap.size (.loop { L2 with state := .exhausted })) :=
            (run_endLoop (P := Y.P) hh2 (by rw [m1]; simp [LS.of])).trans (congrArg (fun p => Result.ok p (w2.putObj w0.heap.size (.loop { L2 with state := .exhausted }))) m2)
          cases e with
          | normal => exact ⟨none, _, hrun, fin _ rfl rfl rfl⟩
          | ret => exact ⟨some .ret, _, hrun, wpIn_ret (fin _ rfl rfl rfl)⟩
          | exit i => exact ⟨some (.exit i), _, hrun, wpIn_exit (fin _ rfl rfl rfl)⟩
  · exfalso
    have hisF : (ev fr f').isF = true := hc.2
    cases hev : ev fr f' <;> rw [hev] at hisF hvf <;> simp only [V.isF] at hisF <;> try cases hisF
    rw [e1] at hvf
    cases hvf

theorem eval_succ (fs : T EF) (n : Nat) (ro : Option K) (c : EC) (fr : Fr) (h : H) : eval fs (n + 1) ro c fr h = evStep fs (eval fs n) ro c fr h := rfl

def DrawOk (Y : Rig) (fs : T EF) : Prop := ∀ (go : Go), GoOk Y go → ∀ (ro : Option K) (nt base id : Nat) (ops : Array Oper) (fr : Fr) (h : H) (e : Ex) (fr' : Fr) (h' : H), evStep fs go ro (comp Y.tab nt (.region id ops true)) fr h = .ok e fr' h' →
  ∀ (F : Fence) (ι : Io) (a : Act) (w : World), FW F → AR nt ι fr a → WR Y.tab ι h w → Mk base ι w a.defers → (Code.region id ops true).wpIn F 0 Y.P (CQ Y nt base h ι w e fr' h') a w

theorem goOk {fs : T EF} (hfs : Fns Y fs) (hdr : DrawOk Y fs) : ∀ n, GoOk Y (eval fs n) := by
  intro n
  induction n using Nat.strongRecOn with
  | _ n ih =>
    intro ro nt base code fr h e fr' h' he F ι a w hro ha hr hm
    have hF := hro.fw
    cases n with
    | zero => cases he
    | succ n =>
      have hgo := ih n (Nat.lt_succ_self n)
      rw [eval_succ] at he
      cases code with
      | skip =>
        have he : Res.ok .normal fr h = .ok e fr' h' := he
        cases he
        exact wpIn_skip ⟨rfl, ι, Step.refl _ _ _, ha, hr, hm⟩
      | label l =>
        have he : Res.ok .normal fr h = .ok e fr' h' := he
        cases he
        exact wpIn_label ⟨rfl, ι, Step.refl _ _ _, ha, hr, hm⟩
      | ret =>
        have he : Res.ok .ret fr h = .ok e fr' h' := he
        cases he
        exact wpIn_ret ⟨rfl, ι, Step.refl _ _ _, ha, hr, hm⟩
      | exit id =>
        have he : Res.ok (.exit id) fr h = .ok e fr' h' := he
        cases he
        exact wpIn_exit ⟨rfl, ι, Step.refl _ _ _, ha, hr, hm⟩
      | goto l => cases he
      | refuse s => cases he
      | scope c =>
        have he : eval fs n ro (comp Y.tab nt c) fr h = .ok e fr' h' := he
        refine wpIn_scope (fun l a1 w1 hq => ?_) (hgo ro nt base c fr h e fr' h' he F ι a w hro ha hr hm)
        have := hq.1
        cases e <;> cases this
      | region id ops draw =>
        cases draw with
        | false =>
          have he : runOps fs (eval fs n) (ops.toList.map (compOper Y.tab nt ops.toList)) fr h = .ok e fr' h' := he
          refine wpIn_region_list ?_
          have := runOps_rel hfs hgo hF (base := base) (all := ops.toList) ops.toList he (Step.refl _ ι w) ha hr hm
          simpa using this
        | true => exact hdr _ hgo ro nt base id ops fr h e fr' h' he F ι a w hF ha hr hm
      | seq c1 c2 =>
        have he : (eval fs n ro (comp Y.tab nt c1) fr h).go (fun fr h => eval fs n ro (comp Y.tab nt c2) fr h) = .ok e fr' h' := he
        rcases Res.go_ok he with ⟨fr1, h1, e1, e2⟩ | ⟨hne, e1⟩
        · refine wpIn_seq (wpIn_mono (hgo ro nt base c1 fr h .normal fr1 h1 e1 F ι a w hro ha hr hm) ?_)
          rintro ex a1 w1 ⟨rfl, ι1, s1, ha1, hr1, hm1⟩
          exact wpIn_mono (hgo ro nt base c2 fr1 h1 e fr' h' e2 F ι1 a1 w1 (hro.mono s1.ext) ha1 hr1 hm1) fun ex a2 w2 hq => hq.trans s1
        · refine wpIn_seq (wpIn_mono (hgo ro nt base c1 fr h e fr' h' e1 F ι a w hro ha hr hm) ?_)
          rintro ex a1 w1 ⟨rfl, hq⟩
          cases e <;> first | exact absurd rfl hne | exact ⟨rfl, hq⟩
      | cond c x y =>
        unfold comp at he
        cases hc : eo c with
        | none => rw [hc] at he; cases he
        | some c' =>
          rw [hc] at he
          have he : condC (eval fs n) ro (ev fr c') (comp Y.tab nt x) (comp Y.tab nt y) fr h = .ok e fr' h' := he
          have hv := ha.ev hc
          unfold condC at he
          generalize hcv : ev fr c' = cv at he hv
          cases cv <;> simp only [V.onB] at he <;> try cases he
          rename_i b
          have hb := hv.of_b
          cases b with
          | true => exact wpIn_cond_true hb (hgo ro nt base x fr h e fr' h' he F ι a w hro ha hr hm)
          | false => exact wpIn_cond_false hb (hgo ro nt base y fr h e fr' h' he F ι a w hro ha hr hm)
      | block id c =>
        have he : (eval fs n ro (comp Y.tab nt c) fr h).at id = .ok e fr' h' := he
        obtain ⟨e1, e2, e3⟩ := Res.at_ok he
        refine wpIn_block (wpIn_mono (hgo ro nt base c fr h e1 fr' h' e2 F ι a w hro ha hr hm) ?_)
        rintro ex a1 w1 ⟨rfl, hq⟩
        rcases e3 with ⟨rfl, rfl⟩ | ⟨hne, rfl⟩
        · simp only [Ex.of, Exit.inBlock, if_true]; exact ⟨rfl, hq⟩
        · cases e with
          | exit i =>
            have : i ≠ id := fun e => hne (by rw [e])
            simp only [Ex.of, Exit.inBlock, this, if_false]
            exact ⟨rfl, hq⟩
          | normal => exact ⟨rfl, hq⟩
          | ret => exact ⟨rfl, hq⟩
      | loop c =>
        refine wpIn_loop_ghost (σ := Nat × Fr × H × Io × World) (fun s a1 w1 => s.1 ≤ n + 1 ∧ eval fs s.1 ro (.loop (comp Y.tab nt c)) s.2.1 s.2.2.1 = .ok e fr' h' ∧ s.2.2.2.2 = w1 ∧ Step h.nx.nat ι w s.2.2.1.nx.nat s.2.2.2.1 w1 ∧ AR nt s.2.2.2.1 s.2.1 a1 ∧ WR Y.tab s.2.2.2.1 s.2.2.1 w1 ∧ Mk base s.2.2.2.1 w1 a1.defers) (fun s => s.1) (n + 1, fr, h, ι, w)
          ⟨Nat.le_refl _, he, rfl, Step.refl _ _ _, ha, hr, hm⟩ ?_
        rintro ⟨m, fr1, h1, ι1, w1⟩ a1 w1' ⟨hle, he1, rfl, s1, ha1, hr1, hm1⟩
        simp only at hle he1 s1 ha1 hr1 hm1
        cases m with
        | zero => cases he1
        | succ m =>
          have hgm := ih m (by omega)
          have he2 : (eval fs m ro (comp Y.tab nt c) fr1 h1).go (fun fr h => eval fs m ro (.loop (comp Y.tab nt c)) fr h) = .ok e fr' h' := he1
          rcases Res.go_ok he2 with ⟨fr2, h2, e1, e2⟩ | ⟨hne, e1⟩
          · refine wpIn_mono (hgm ro nt base c fr1 h1 .normal fr2 h2 e1 F ι1 a1 _ (hro.mono s1.ext) ha1 hr1 hm1) ?_
            rintro ex a2 w2 ⟨rfl, ι2, s2, ha2, hr2, hm2⟩
            exact ⟨(m, fr2, h2, ι2, w2), ⟨by omega, e2, rfl, s1.trans s2, ha2, hr2, hm2⟩, Nat.lt_succ_self m⟩
          · refine wpIn_mono (hgm ro nt base c fr1 h1 e fr' h' e1 F ι1 a1 _ (hro.mono s1.ext) ha1 hr1 hm1) ?_
            rintro ex a2 w2 hq
            have hq2 := CQ.trans s1 hq
            clear hq
            obtain ⟨rfl, hq2⟩ := hq2
            cases e <;> first | exact absurd rfl hne | exact ⟨rfl, hq2⟩
      | rangeFunc f ps as bd =>
        unfold comp at he
        cases hf : eo f with
        | none => rw [hf] at he; cases he
        | some f' =>
          rw [hf] at he
          simp only at he
          split at he
          · rename_i hps
            exact rangeL_rel hfs hgo hf hps he hro ha hr hm
          · cases he
end
end Go.Ev
namespace Go.Ev
open Go Go.RowKit

/-! ### An operation reads its keys, and no more -/
def Same (l : List K) (fr fr' : Fr) : Prop := ∀ k, k ∈ l → fr.get k = fr'.get k
theorem Same.left {l m : List K} {fr fr' : Fr} (h : Same (l ++ m) fr fr') : Same l fr fr' := fun k hk => h k (List.mem_append_left _ hk)
theorem Same.right {l m : List K} {fr fr' : Fr} (h : Same (l ++ m) fr fr') : Same m fr fr' := fun k hk => h k (List.mem_append_right _ hk)
section
variable {fr fr' : Fr}
theorem ev_same {x : EO} (h : Same x.key fr fr') : ev fr x = ev fr' x := by
  cases x with
  | t k => exact congrArg getV (h k (by simp [EO.key]))
  | c v => rfl
theorem evs_same : ∀ {l : List EO}, Same (l.flatMap EO.key) fr fr' → evs fr l = evs fr' l
  | [], _ => rfl
  | x :: l, h => by
    rw [List.flatMap_cons] at h
    have e1 : evs fr (x :: l) = ev fr x :: evs fr l := rfl
    have e2 : evs fr' (x :: l) = ev fr' x :: evs fr' l := rfl
    rw [e1, e2, ev_same h.left, evs_same h.right]
theorem fill_same : ∀ {l : List (Nat × Nat × EO)} {z : List V}, Same (l.flatMap fun p => p.2.2.key) fr fr' → fillE fr z l = fillE fr' z l
  | [], _, _ => rfl
  | p :: l, z, h => by
    rw [List.flatMap_cons] at h
    have e1 : fillE fr z (p :: l) = oGet (cellsN p.2.1 (ev fr p.2.2)) none fun cs => fillE fr (setMany z p.1 cs) l := rfl
    have e2 : fillE fr' z (p :: l) = oGet (cellsN p.2.1 (ev fr' p.2.2)) none fun cs => fillE fr' (setMany z p.1 cs) l := rfl
    rw [e1, e2, ev_same h.left]
    congr 1
    funext cs
    exact fill_same h.right
theorem bound_same {o : Option EO} {d : Nat} (h : Same (okey o) fr fr') : bound fr o d = bound fr' o d := by
  cases o with
  | none => rfl
  | some x =>
    unfold bound
    simp only [oGet]
    rw [ev_same h]
theorem slice_same {sz : Nat} {v : V} {lo hi mx : Option EO} {h0 : H} (h1 : Same (okey lo) fr fr') (h2 : Same (okey hi) fr fr') (h3 : Same (okey mx) fr fr') : sliceV fr sz v lo hi mx h0 = sliceV fr' sz v lo hi mx h0 := by
  unfold sliceV
  simp only [bound_same h1, bound_same h2, bound_same h3]
theorem ssl_same {v : V} {lo hi : Option EO} {h0 : H} (h1 : Same (okey lo) fr fr') (h2 : Same (okey hi) fr fr') : sslV fr v lo hi h0 = sslV fr' v lo hi h0 := by
  unfold sslV
  simp only [bound_same h1, bound_same h2]
theorem evop_same {fs : T EF} {go : Go} {h : H} {o : EOp} (hs : Same o.keys fr fr') : evop fs go fr h o = evop fs go fr' h o := by
  cases o <;> simp only [EOp.keys] at hs <;> simp only [evop]
  case mv x => rw [ev_same hs]
  case as x => rw [ev_same hs]
  case pick c a b => rw [ev_same hs.left, ev_same hs.right.left, ev_same hs.right.right]
  case box n x => rw [ev_same hs]
  case build z ps => rw [fill_same hs]
  case bslice n sz z ps => rw [fill_same hs]
  case ld x => rw [ev_same hs]
  case ldn n x => rw [ev_same hs]
  case st n x y => rw [ev_same hs.left, ev_same hs.right]
  case bin op x y => rw [ev_same hs.left, ev_same hs.right]
  case eqk kd ng x y => rw [ev_same hs.left, ev_same hs.right]
  case not x => rw [ev_same hs]
  case neg x => rw [ev_same hs]
  case conv k x => rw [ev_same hs]
  case mkfn f cs => rw [evs_same hs]
  case mkbf f xs cs => rw [evs_same hs.left, evs_same hs.right]
  case pr p x y => rw [ev_same hs.left, ev_same hs.right]
  case appZ sz z x y => rw [ev_same hs.left, ev_same hs.right]
  case clr sz z x => rw [ev_same hs]
  case cpy sz x y => rw [ev_same hs.left, ev_same hs.right]
  case mx3 x y z => rw [ev_same hs.left, ev_same hs.right.left, ev_same hs.right.right]
  case ssl x a b => rw [ev_same hs.left]; exact ssl_same hs.right.left hs.right.right
  case rng x => rw [ev_same hs]
  case nxt x => rw [ev_same hs]
  case look kt kd z m k ok => rw [ev_same hs.left, ev_same hs.right]
  case mupd kt kd m k v => rw [ev_same hs.left, ev_same hs.right.left, ev_same hs.right.right]
  case mkslice sz z l => rw [ev_same hs]
  case slice sz x a b c => rw [ev_same hs.left]; exact slice_same hs.right.left hs.right.right.left hs.right.right.right
  case fadr off x => rw [ev_same hs]
  case fld off sz x => rw [ev_same hs]
  case iadr len sz x i => rw [ev_same hs.left, ev_same hs.right]
  case iads sz x i => rw [ev_same hs.left, ev_same hs.right]
  case ix len sz agg x i => rw [ev_same hs.left, ev_same hs.right]
  case ext x i => rw [ev_same hs]
  case call f args => rw [ev_same hs.left, evs_same hs.right]
  case len x => rw [ev_same hs]
  case app sz x y => rw [ev_same hs.left, ev_same hs.right]
  case min x y => rw [ev_same hs.left, ev_same hs.right]
  case max x y => rw [ev_same hs.left, ev_same hs.right]
  case isnil b x => rw [ev_same hs]
  case nilck x => rw [ev_same hs]
  case lenM kt x => rw [ev_same hs]
  case mkslC sz z x y => rw [ev_same hs.left, ev_same hs.right]
  case slcA n sz x a b => rw [ev_same hs.left]; unfold slcAV; simp only [bound_same hs.right.left, bound_same hs.right.right]
  case slcX n sz x a b c => rw [ev_same hs.left]; unfold slcXV; simp only [bound_same hs.right.left, bound_same hs.right.right.left, bound_same hs.right.right.right]
  case mkslD sz z l => rw [ev_same hs]
theorem wants_same {g : Option (K × Bool)} (h : Same (match g with | some p => [p.1] | none => []) fr fr') : wants fr g = wants fr' g := by
  cases g with
  | none => rfl
  | some p =>
    have := h p.1 (by simp)
    unfold wants
    simp only [oGet, this]
end

/-! ### What is quiet turns no memory -/
theorem onSl_no {x : V} {n : RV} {f : K → Nat → Nat → Nat → RV} {v : V} {h : H} (e : x.onSl .no n f = .ok v h) : n = .ok v h ∨ ∃ id off m sz, f id off m sz = .ok v h := by
  rcases V.onSl_ok RV.no_ne e with ⟨_, h⟩ | ⟨a, b, c, d, _, h⟩
  · exact .inl h
  · exact .inr ⟨a, b, c, d, h⟩
theorem idxV_out {i : V} {len : Nat} {f : Nat → RV} {v : V} {h : H} (e : idxV i len f = .ok v h) : ∃ n, f n = .ok v h := by
  obtain ⟨k, n, _, e⟩ := V.onI_ok e
  obtain ⟨m, _, e⟩ := oGet_ok e
  exact ⟨m, (cond_ok RV.no_ne e).2⟩
theorem V.onSr_ok {x : V} {f : ByteArray → RV} {v : V} {h : H} (e : x.onS .no f = .ok v h) : ∃ b, x = .s b ∧ f b = .ok v h := by
  cases x <;> first | exact ⟨_, rfl, e⟩ | cases e
theorem quiet_same {fs : T EF} {go : Go} {fr : Fr} {h h' : H} {o : EOp} {v : V} (hq : o.quiet = true) (he : evop fs go fr h o = .ok v h') : h' = h := by
  cases o <;> simp only [EOp.quiet, reduceCtorEq] at hq <;> simp only [evop] at he
  case mv x => cases he; rfl
  case pick c a b => obtain ⟨b, _, he⟩ := V.onB_ok he; cases he; rfl
  case build z ps => obtain ⟨cs, _, he⟩ := oGet_ok he; cases he; rfl
  case ld p => exact (okv_ok he).2
  case ldn n p => exact (okv_ok he).2
  case bin op x y => exact (okv_ok he).2
  case eqk kd ng x y => exact (okv_ok he).2
  case not x => obtain ⟨b, _, he⟩ := V.onB_ok he; cases he; rfl
  case neg x => obtain ⟨k, n, _, he⟩ := V.onI_ok he; cases he; rfl
  case conv k x => obtain ⟨k, n, _, he⟩ := V.onI_ok he; cases he; rfl
  case mkfn f cs => cases he; rfl
  case mkbf f xs cs => cases he; rfl
  case pr p x y => exact (okv_ok he).2
  case mx3 x y z =>
    obtain ⟨_, _, _, he⟩ := V.onI_ok he
    obtain ⟨_, _, _, he⟩ := V.onI_ok he
    obtain ⟨_, _, _, he⟩ := V.onI_ok he
    cases he; rfl
  case ssl x lo hi =>
    unfold sslV at he
    obtain ⟨_, _, he⟩ := V.onSr_ok he
    obtain ⟨_, _, he⟩ := oGet_ok he
    obtain ⟨_, _, he⟩ := oGet_ok he
    obtain ⟨_, he⟩ := cond_ok RV.no_ne he
    cases he; rfl
  case look kt kd z m k ok =>
    unfold lookV at he
    generalize ev fr m = mv at he
    cases mv <;> simp only [V.onM] at he <;> try cases he
    rename_i id
    generalize h.get id = blk at he
    cases blk <;> simp only [Blk.onM] at he <;> try cases he
    obtain ⟨_, he⟩ := cond_ok RV.no_ne he
    obtain ⟨r, _, he⟩ := oGet_ok he
    cases ok <;> cases he <;> rfl
  case slice sz x lo hi mx =>
    unfold sliceV at he
    rcases onSl_no he with he | ⟨id, off, m, sz', he⟩
    · obtain ⟨_, _, he⟩ := oGet_ok he
      obtain ⟨_, _, he⟩ := oGet_ok he
      obtain ⟨_, _, he⟩ := oGet_ok he
      obtain ⟨_, he⟩ := cond_ok RV.no_ne he
      cases he; rfl
    · obtain ⟨_, he⟩ := cond_ok RV.no_ne he
      obtain ⟨_, _, he⟩ := oGet_ok he
      obtain ⟨_, _, he⟩ := oGet_ok he
      cases mx with
      | none =>
        simp only [oGet, cutV] at he
        obtain ⟨_, he⟩ := cond_ok RV.no_ne he
        cases he; rfl
      | some y =>
        have he : (oGet (bound fr (some y) 0) .no fun m => cutV id off _ sz h _ _ (some m)) = .ok v h' := he
        obtain ⟨_, _, he⟩ := oGet_ok he
        unfold cutV at he
        obtain ⟨_, he⟩ := cond_ok RV.no_ne he
        cases he; rfl
  case fadr off x => obtain ⟨_, _, _, he⟩ := V.onP_ok he; cases he; rfl
  case fld off sz x =>
    unfold fldV at he
    obtain ⟨cs, _, he⟩ := V.onAgg_ok he
    cases sz with
    | none => exact (okv_ok he).2
    | some n => cases he; rfl
  case iadr len sz x i =>
    obtain ⟨_, _, _, he⟩ := V.onP_ok he
    obtain ⟨_, he⟩ := idxV_out he
    cases he; rfl
  case iads sz x i =>
    rcases onSl_no he with he | ⟨id, off, m, sz', he⟩
    · cases he
    · obtain ⟨_, he⟩ := cond_ok RV.no_ne he
      obtain ⟨_, he⟩ := idxV_out he
      cases he; rfl
  case ix len sz agg x i =>
    unfold ixV at he
    obtain ⟨cs, _, he⟩ := V.onAgg_ok he
    obtain ⟨n, he⟩ := idxV_out he
    cases agg with
    | true => cases he; rfl
    | false => exact (okv_ok he).2
  case ext x i => obtain ⟨l, _, he⟩ := V.onTup_ok he; exact (okv_ok he).2
  case len x =>
    unfold lenV at he
    rcases onSl_no he with he | ⟨id, off, m, sz', he⟩ <;> cases he <;> rfl
  case isnil b x =>
    unfold isnilV at he
    rcases onSl_no he with he | ⟨id, off, m, sz', he⟩ <;> cases he <;> rfl
  case nilck x => unfold V.onNN at he; split at he <;> cases he <;> rfl
  case slcX n sz x lo hi mx =>
    obtain ⟨id, off, _, he⟩ := V.onP_ok he
    obtain ⟨m, cs, _, he⟩ := Blk.onC_ok RV.no_ne he
    obtain ⟨_, he⟩ := cond_ok RV.no_ne he
    obtain ⟨_, _, he⟩ := oGet_ok he
    obtain ⟨_, _, he⟩ := oGet_ok he
    obtain ⟨_, _, he⟩ := oGet_ok he
    obtain ⟨_, he⟩ := cond_ok RV.no_ne he
    cases he; rfl
  case slcA n sz x lo hi =>
    obtain ⟨id, off, _, he⟩ := V.onP_ok he
    obtain ⟨m, cs, _, he⟩ := Blk.onC_ok RV.no_ne he
    obtain ⟨_, he⟩ := cond_ok RV.no_ne he
    obtain ⟨_, _, he⟩ := oGet_ok he
    obtain ⟨_, _, he⟩ := oGet_ok he
    obtain ⟨_, he⟩ := cond_ok RV.no_ne he
    cases he; rfl
  case lenM kt x =>
    unfold lenMV at he
    generalize ev fr x = mv at he
    cases mv <;> simp only [V.onM] at he <;> try cases he
    rename_i id
    generalize h.get id = blk at he
    cases blk <;> simp only [Blk.onM] at he <;> try cases he
    obtain ⟨_, he⟩ := cond_ok RV.no_ne he
    cases he; rfl
  case min x y =>
    obtain ⟨_, _, _, he⟩ := V.onI_ok he
    obtain ⟨_, _, _, he⟩ := V.onI_ok he
    cases he; rfl
  case max x y =>
    obtain ⟨_, _, _, he⟩ := V.onI_ok he
    obtain ⟨_, _, _, he⟩ := V.onI_ok he
    cases he; rfl

/-! ### The same value -/
theorem K.beq_eq : ∀ {a b : K}, K.beq a b = true → a = b
  | .e, b, h => by cases b <;> first | rfl | cases h
  | .o a, b, h => by
    cases b with
    | o b => exact congrArg K.o (K.beq_eq (a := a) (b := b) h)
    | e => cases h
    | z b => cases h
  | .z a, b, h => by
    cases b with
    | z b => exact congrArg K.z (K.beq_eq (a := a) (b := b) h)
    | e => cases h
    | o b => cases h
theorem K.beq_refl : ∀ (a : K), K.beq a a = true
  | .e => rfl
  | .o a => K.beq_refl a
  | .z a => K.beq_refl a
theorem beq1_eq {x y : V} (h : beq1 x y = true) : x = y := by
  cases x <;> simp only [beq1, reduceCtorEq] at h
  case b a => cases y <;> simp only [V.onB, reduceCtorEq] at h; simp at h; rw [h]
  case i k n =>
    cases y <;> simp only [V.onI, reduceCtorEq] at h
    simp only [Bool.and_eq_true, beq_iff_eq] at h
    obtain ⟨rfl, h2⟩ := h
    rw [ieq_eq] at h2
    simp at h2
    rw [h2]
  case p id off =>
    cases y <;> simp only [reduceCtorEq] at h
    simp only [Bool.and_eq_true] at h
    rw [K.beq_eq h.1, Nat.eq_of_beq_eq_true h.2]
  case sl id off n sz =>
    cases y <;> simp only [reduceCtorEq] at h
    simp only [Bool.and_eq_true] at h
    obtain ⟨⟨⟨h1, h2⟩, h3⟩, h4⟩ := h
    rw [K.beq_eq h1, Nat.eq_of_beq_eq_true h2, Nat.eq_of_beq_eq_true h3, Nat.eq_of_beq_eq_true h4]
  case slt id off n sz =>
    cases y <;> simp only [reduceCtorEq] at h
    simp only [Bool.and_eq_true] at h
    obtain ⟨⟨⟨h1, h2⟩, h3⟩, h4⟩ := h
    rw [K.beq_eq h1, Nat.eq_of_beq_eq_true h2, Nat.eq_of_beq_eq_true h3, Nat.eq_of_beq_eq_true h4]
  case m id =>
    cases y <;> simp only [reduceCtorEq] at h
    rw [K.beq_eq h]
  case yl id =>
    cases y <;> simp only [reduceCtorEq] at h
    rw [K.beq_eq h]
  case s a =>
    cases y <;> simp only [reduceCtorEq] at h
    rename_i b
    rw [sameB_eq, beq_iff_eq] at h
    have : a.data.toList = b.data.toList := h
    rw [show a = b by cases a; cases b; congr 1; exact Array.toList_inj.1 this]
  all_goals (cases y <;> simp only [reduceCtorEq] at h <;> rfl)
theorem beqL_eq : ∀ {l m : List V}, beqL l m = true → l = m
  | [], [], _ => rfl
  | [], _ :: _, h => by cases h
  | _ :: _, [], h => by cases h
  | x :: l, y :: m, h => by
    have h : (beq1 x y && beqL l m) = true := h
    simp only [Bool.and_eq_true] at h
    rw [beq1_eq h.1, beqL_eq h.2]
theorem beqV_eq {x y : V} (h : beqV x y = true) : x = y := by
  unfold beqV at h
  split at h
  · cases y <;> simp only [reduceCtorEq] at h
    rw [beqL_eq h]
  · cases y <;> simp only [reduceCtorEq] at h
    simp only [Bool.and_eq_true] at h
    rw [K.beq_eq h.1, beqL_eq h.2]
  · cases y <;> simp only [reduceCtorEq] at h
    simp only [Bool.and_eq_true] at h
    rw [K.beq_eq h.1, beqL_eq h.2.1, beqL_eq h.2.2]
  · exact beq1_eq h
theorem isU_eq {v : V} (h : isU v = true) : v = .tup [] := by
  cases v <;> simp only [isU, reduceCtorEq] at h
  rename_i l
  cases l with
  | nil => rfl
  | cons x l => cases h

/-! ### A stage's first part -/
def HX (h h' : H) : Prop := h.nx.nat ≤ h'.nx.nat ∧ ∀ id : K, id.nat < h.nx.nat → h'.get id = h.get id
theorem HX.refl (h : H) : HX h h := ⟨Nat.le_refl _, fun _ _ => rfl⟩
theorem HX.trans {a b c : H} (h : HX a b) (k : HX b c) : HX a c := ⟨Nat.le_trans h.1 k.1, fun id hid => (k.2 id (Nat.lt_of_lt_of_le hid h.1)).trans (h.2 id hid)⟩
theorem HX.new (h : H) (b : Blk) : HX h (h.new b) := ⟨by have : (h.new b).nx.nat = h.nx.nat + 1 := K.succ_nat _; omega, fun id hid => by
  rw [H.get_new, if_neg (fun e => by rw [e] at hid; omega)]⟩
theorem WR.more {tab : Tab} {ι : Io} {h h' : H} {w : World} (hr : WR tab ι h w) (hx : HX h h') : WR tab ι h' w := by
  have key : ∀ id q, ι id = some q → h'.get id = h.get id := fun id q hq => hx.2 id (by
    rcases Nat.lt_or_ge id.nat h.nx.nat with hlt | hge
    · exact hlt
    · rw [hr.fresh id hge] at hq; cases hq)
  refine ⟨fun id q hq => ?_, hr.lt, fun id id' q q' hq hq' hl hl' e => (by rw [key id q hq, key id' q' hq']; exact hr.inj id id' q q' hq hq' (by unfold live at hl ⊢; rwa [key id q hq] at hl) (by unfold live at hl' ⊢; rwa [key id' q' hq'] at hl') e), fun id hid => hr.fresh id (Nat.le_trans hx.1 hid), fun t d g u k1 k2 => ⟨(hr.glob t d g u k1 k2).1, fun id q hq e => (by rw [key id q hq]; exact (hr.glob t d g u k1 k2).2 id q hq e)⟩⟩
  · rw [key id q hq]; exact hr.blk id q hq
theorem putD_other {fr : Fr} {d : Option K} {v : V} {k : K} (h : d ≠ some k) : (putD fr d v).get k = fr.get k := by
  cases d with
  | none => rfl
  | some k' =>
    show (fr.set k' v).get k = fr.get k
    rw [T.get_set, if_neg (fun e => h (by rw [e]))]
theorem putD_same {fr : Fr} {v : V} {k : K} : (putD fr (some k) v).get k = some v := by
  show (fr.set k v).get k = some v
  rw [T.get_set, if_pos rfl]
theorem oGet_res {α : Type} {o : Option α} {f : α → Res} {e : Ex} {fr : Fr} {h : H} (he : oGet o .no f = .ok e fr h) : ∃ x, o = some x ∧ f x = .ok e fr h := by
  cases o with
  | none => cases he
  | some x => exact ⟨x, rfl, he⟩
def HXs (h h' : H) : Prop := ∀ id, h.get id ≠ .dead → h'.get id = h.get id
theorem HXs.refl (h : H) : HXs h h := fun _ _ => rfl
theorem HXs.trans {a b c : H} (h : HXs a b) (k : HXs b c) : HXs a c := fun id hid => by
  have := h id hid
  rw [k id (by rw [this]; exact hid), this]
theorem HXs.new {h : H} {b : Blk} (hd : (h.get h.nx).isDead = true) : HXs h (h.new b) := fun id hid => by
  rw [H.get_new]
  by_cases e : id = h.nx
  · subst e
    exfalso
    cases hb : h.get h.nx <;> rw [hb] at hd hid <;> first | exact hid rfl | cases hd
  · rw [if_neg e]
theorem readP_more {h h' : H} (hx : HXs h h') {v : V} {f : List V → Nat → Nat → Option V} {x : V} (e : readP h v f = some x) : readP h' v f = some x := by
  unfold readP at e ⊢
  cases v <;> simp only [reduceCtorEq] at e ⊢
  rename_i id off
  obtain ⟨n, cs, hb, e⟩ := Blk.onC_ok (by simp) e
  rcases hb with hb | hb <;> rw [hx id (by rw [hb]; simp), hb] <;> exact e
theorem okv_more {x : Option V} {h h' : H} {v : V} (e : okv x h = .ok v h) : okv x h' = .ok v h' := by
  rw [(okv_ok e).1]; rfl
theorem quiet_more {fs : T EF} {go : Go} {fr : Fr} {h h' : H} {o : EOp} {v : V} (hq : o.quiet = true) (hx : HXs h h') (he : evop fs go fr h o = .ok v h) : evop fs go fr h' o = .ok v h' := by
  cases o <;> simp only [EOp.quiet, reduceCtorEq] at hq <;> simp only [evop] at he ⊢
  case mv x => cases he; rfl
  case pick c a b =>
    obtain ⟨b, hb, he⟩ := V.onB_ok he
    unfold pickV; rw [hb]; cases he; rfl
  case build z ps => obtain ⟨cs, hc, he⟩ := oGet_ok he; rw [hc]; cases he; rfl
  case ld p => unfold loadV at he ⊢; rw [readP_more hx (okv_ok he).1]; rfl
  case ldn n p => unfold loadV at he ⊢; rw [readP_more hx (okv_ok he).1]; rfl
  case bin op x y => exact okv_more he
  case eqk kd ng x y => exact okv_more he
  case not x => obtain ⟨b, hb, he⟩ := V.onB_ok he; rw [hb]; cases he; rfl
  case neg x => obtain ⟨k, n, hb, he⟩ := V.onI_ok he; rw [hb]; cases he; rfl
  case conv k x => obtain ⟨k, n, hb, he⟩ := V.onI_ok he; rw [hb]; cases he; rfl
  case mkfn f cs => cases he; rfl
  case mkbf f xs cs => cases he; rfl
  case pr p x y => exact okv_more he
  case mx3 x y z =>
    obtain ⟨k, a, h1, he⟩ := V.onI_ok he
    obtain ⟨k2, b, h2, he⟩ := V.onI_ok he
    obtain ⟨k3, c, h3, he⟩ := V.onI_ok he
    unfold mx3V
    rw [h1, h2, h3]
    cases he; rfl
  case ssl x lo hi =>
    unfold sslV at he ⊢
    obtain ⟨b, h1, he⟩ := V.onSr_ok he
    rw [h1]
    obtain ⟨l, h2, he⟩ := oGet_ok he
    obtain ⟨u, h3, he⟩ := oGet_ok he
    obtain ⟨h4, he⟩ := cond_ok RV.no_ne he
    cases he
    simp only [V.onS, h2, h3, oGet, h4, cond_true]
  case look kt kd z m k ok =>
    unfold lookV at he ⊢
    generalize ev fr m = mv at he ⊢
    cases mv <;> simp only [V.onM] at he ⊢ <;> try cases he
    rename_i id
    have hd : h.get id ≠ .dead := fun e => by rw [e] at he; cases he
    rw [hx id hd]
    generalize h.get id = blk at he ⊢
    cases blk <;> simp only [Blk.onM] at he ⊢ <;> try cases he
    obtain ⟨hc, he⟩ := cond_ok RV.no_ne he
    rw [hc]
    obtain ⟨r, hr, he⟩ := oGet_ok he
    rw [hr]
    cases ok <;> cases he <;> rfl
  case slice sz x lo hi mx =>
    unfold sliceV at he ⊢
    rcases V.onSl_ok RV.no_ne he with ⟨hv, he⟩ | ⟨id, off, m, sz', hv, he⟩
    · rw [hv]
      obtain ⟨a, ha, he⟩ := oGet_ok he
      obtain ⟨b, hb, he⟩ := oGet_ok he
      obtain ⟨c, hc, he⟩ := oGet_ok he
      obtain ⟨hd, he⟩ := cond_ok RV.no_ne he
      cases he
      simp only [V.onSl, ha, hb, hc, oGet, hd, cond_true]
    · rw [V.onSl_of hv]
      obtain ⟨h1, he⟩ := cond_ok RV.no_ne he
      obtain ⟨a, ha, he⟩ := oGet_ok he
      obtain ⟨b, hb, he⟩ := oGet_ok he
      cases mx with
      | none =>
        simp only [oGet, cutV] at he
        obtain ⟨hd, he⟩ := cond_ok RV.no_ne he
        cases he
        simp only [h1, ha, hb, oGet, cutV, cond_true, hd]
      | some y =>
        have he : (oGet (bound fr (some y) 0) .no fun m => cutV id off _ sz h _ _ (some m)) = .ok v h := he
        obtain ⟨c, hc, he⟩ := oGet_ok he
        unfold cutV at he
        obtain ⟨hd, he⟩ := cond_ok RV.no_ne he
        cases he
        simp only [h1, ha, hb, hc, oGet, cutV, cond_true]
        simp only [oGet] at hd
        rw [hd]
        rfl
  case fadr off x => obtain ⟨_, _, hb, he⟩ := V.onP_ok he; rw [hb]; cases he; rfl
  case fld off sz x =>
    unfold fldV at he ⊢
    obtain ⟨cs, hb, he⟩ := V.onAgg_ok he
    rw [hb]
    cases sz with
    | none => exact okv_more he
    | some n => cases he; rfl
  case iadr len sz x i =>
    obtain ⟨id, off, hb, he⟩ := V.onP_ok he
    rw [hb]
    unfold idxV at he ⊢
    obtain ⟨k, n, hi, he⟩ := V.onI_ok he
    obtain ⟨m, hm, he⟩ := oGet_ok he
    obtain ⟨hc, he⟩ := cond_ok RV.no_ne he
    cases he
    simp only [V.onP, hi, V.onI, hm, oGet, hc, cond_true]
  case iads sz x i =>
    rcases V.onSl_ok RV.no_ne he with ⟨_, he⟩ | ⟨id, off, l, sz', hb, he⟩
    · cases he
    · rw [V.onSl_of hb]
      obtain ⟨h1, he⟩ := cond_ok RV.no_ne he
      unfold idxV at he ⊢
      obtain ⟨k, n, hi, he⟩ := V.onI_ok he
      obtain ⟨m, hm, he⟩ := oGet_ok he
      obtain ⟨hc, he⟩ := cond_ok RV.no_ne he
      cases he
      simp only [h1, hi, V.onI, hm, oGet, hc, cond_true]
  case ix len sz agg x i =>
    unfold ixV at he ⊢
    obtain ⟨cs, hb, he⟩ := V.onAgg_ok he
    rw [hb]
    unfold idxV at he ⊢
    obtain ⟨k, n, hi, he⟩ := V.onI_ok he
    obtain ⟨m, hm, he⟩ := oGet_ok he
    obtain ⟨hc, he⟩ := cond_ok RV.no_ne he
    simp only [V.onAgg, hi, V.onI, hm, oGet, hc, cond_true]
    cases agg with
    | true => cases he; rfl
    | false => exact okv_more he
  case ext x i => obtain ⟨l, hb, he⟩ := V.onTup_ok he; rw [hb]; exact okv_more he
  case len x =>
    unfold lenV at he ⊢
    rcases V.onSl_ok RV.no_ne he with ⟨hb, he⟩ | ⟨id, off, l, sz', hb, he⟩ <;> first | (rw [hb]; cases he; rfl) | (rw [V.onSl_of hb]; cases he; rfl)
  case isnil b x =>
    unfold isnilV at he ⊢
    rcases V.onSl_ok RV.no_ne he with ⟨hb, he⟩ | ⟨id, off, l, sz', hb, he⟩ <;> first | (rw [hb]; cases he; rfl) | (rw [V.onSl_of hb]; cases he; rfl)
  case nilck x => unfold V.onNN at he ⊢; split at he <;> cases he <;> rfl
  case slcX n sz x lo hi mx =>
    unfold slcXV at he ⊢
    obtain ⟨id, off, hb, he⟩ := V.onP_ok he
    rw [hb]
    obtain ⟨mm, cs, hc, he⟩ := Blk.onC_ok RV.no_ne he
    show Blk.onC (h'.get id) _ _ = _
    rw [hx id (by rcases hc with hc | hc <;> rw [hc] <;> simp)]
    obtain ⟨h1, he⟩ := cond_ok RV.no_ne he
    obtain ⟨l, h2, he⟩ := oGet_ok he
    obtain ⟨u, h3, he⟩ := oGet_ok he
    obtain ⟨m, h3', he⟩ := oGet_ok he
    obtain ⟨h4, he⟩ := cond_ok RV.no_ne he
    cases he
    rcases hc with hc | hc <;> rw [hc] <;> simp only [Blk.onC, h1, h2, h3, h3', oGet, h4, cond_true]
  case slcA n sz x lo hi =>
    unfold slcAV at he ⊢
    obtain ⟨id, off, hb, he⟩ := V.onP_ok he
    rw [hb]
    obtain ⟨m, cs, hc, he⟩ := Blk.onC_ok RV.no_ne he
    show Blk.onC (h'.get id) _ _ = _
    rw [hx id (by rcases hc with hc | hc <;> rw [hc] <;> simp)]
    obtain ⟨h1, he⟩ := cond_ok RV.no_ne he
    obtain ⟨l, h2, he⟩ := oGet_ok he
    obtain ⟨u, h3, he⟩ := oGet_ok he
    obtain ⟨h4, he⟩ := cond_ok RV.no_ne he
    cases he
    rcases hc with hc | hc <;> rw [hc] <;> simp only [Blk.onC, h1, h2, h3, oGet, h4, cond_true]
  case lenM kt x =>
    unfold lenMV at he ⊢
    generalize ev fr x = mv at he ⊢
    cases mv <;> simp only [V.onM] at he ⊢ <;> try cases he
    rename_i id
    have hd : h.get id ≠ .dead := fun e => by rw [e] at he; cases he
    rw [hx id hd]
    generalize h.get id = blk at he ⊢
    cases blk <;> simp only [Blk.onM] at he ⊢ <;> try cases he
    obtain ⟨hc, he⟩ := cond_ok RV.no_ne he
    rw [hc]
    cases he; rfl
  case min x y =>
    obtain ⟨_, _, hb, he⟩ := V.onI_ok he
    obtain ⟨_, _, hc, he⟩ := V.onI_ok he
    unfold minV; rw [hb]; simp only [V.onI]; rw [hc]; cases he; rfl
  case max x y =>
    obtain ⟨_, _, hb, he⟩ := V.onI_ok he
    obtain ⟨_, _, hc, he⟩ := V.onI_ok he
    unfold maxV; rw [hb]; simp only [V.onI]; rw [hc]; cases he; rfl

theorem V.onIb_ok {x : V} {f : IntKind → Int → Bool} (e : x.onI false f = true) : ∃ k n, x = .i k n ∧ f k n = true := by
  unfold V.onI at e; split at e
  · exact ⟨_, _, rfl, e⟩
  · cases e
theorem V.onIr_ok {x : V} {f : IntKind → Int → Res} {e : Ex} {fr : Fr} {h : H} (he : x.onI .no f = .ok e fr h) : ∃ k n, x = .i k n ∧ f k n = .ok e fr h := by
  unfold V.onI at he; split at he
  · exact ⟨_, _, rfl, he⟩
  · cases he
def Told (fs : T EF) (go : Go) (fr : Fr) (h : H) (o : EOper) : Prop := ∃ r, wants fr o.g = some r ∧
  (r = false → ∀ t, o.dst = some t → getV (fr.get t) = undefV) ∧
  (r = true → (o.op.quiet = true ∧ ∃ v, evop fs go fr h o.op = .ok v h ∧ ∀ t, o.dst = some t → getV (fr.get t) = v) ∨
    (∃ n sz z ps t id cs, o.op = .bslice n sz z ps ∧ o.dst = some t ∧ getV (fr.get t) = .sl id 0 n sz ∧ h.get id = .cells (n * sz) cs ∧ fillE fr z ps = some cs) ∨
    (∃ n z t id, o.op = .alloc n z ∧ o.dst = some t ∧ getV (fr.get t) = .p id 0 ∧ h.get id = .cells n z) ∨
    (∃ sz z l t id k n, o.op = .mkslD sz z l ∧ o.dst = some t ∧ getV (fr.get t) = .sl id 0 n sz ∧ h.get id = .cells (n * sz) (rep z n) ∧ ev fr l = .i k (n : Int) ∧ n ≤ 1000000) ∨
    ∃ kt t id, o.op = .mkmD kt ∧ o.dst = some t ∧ getV (fr.get t) = .m id ∧ h.get id = .map kt [])
theorem Told.more {fs : T EF} {go : Go} {fr fr' : Fr} {h h' : H} {o : EOper} (ht : Told fs go fr h o) (hs : ∀ κ, κ ∈ o.reads ++ o.dst.toList → fr'.get κ = fr.get κ) (hx : HXs h h') : Told fs go fr' h' o := by
  obtain ⟨r, h1, h2, h3⟩ := ht
  have hr : Same o.reads fr fr' := fun κ hκ => (hs κ (List.mem_append_left _ hκ)).symm
  have hd : ∀ t, o.dst = some t → fr'.get t = fr.get t := fun t e => hs t (List.mem_append_right _ (by rw [e]; simp))
  refine ⟨r, ?_, fun e t et => by rw [hd t et]; exact h2 e t et, fun e => ?_⟩
  · rw [← h1]; exact (wants_same (by unfold EOper.reads at hr; exact hr.left)).symm
  · have hk : Same o.op.keys fr fr' := by unfold EOper.reads at hr; exact hr.right
    rcases h3 e with ⟨g1, v, g2, g3⟩ | ⟨n, sz, z, ps, t, id, cs, g1, g2, g3, g4, g5⟩ | ⟨n, z, t, id, g1, g2, g3, g4⟩ | ⟨sz, z, l, t, id, k, n, g1, g2, g3, g4, g5, g6⟩ | ⟨kt, t, id, g1, g2, g3, g4⟩
    · refine .inl ⟨g1, v, ?_, fun t et => by rw [hd t et]; exact g3 t et⟩
      rw [← evop_same hk]
      exact quiet_more g1 hx g2
    rotate_left
    · exact .inr (.inr (.inl ⟨n, z, t, id, g1, g2, by rw [hd t g2]; exact g3, by rw [hx id (by rw [g4]; simp)]; exact g4⟩))
    · refine .inr (.inr (.inr (.inl ⟨sz, z, l, t, id, k, n, g1, g2, by rw [hd t g2]; exact g3, by rw [hx id (by rw [g4]; simp)]; exact g4, ?_, g6⟩)))
      rw [← g5]
      rw [g1] at hk
      exact (ev_same (by simpa [EOp.keys] using hk)).symm
    · exact .inr (.inr (.inr (.inr ⟨kt, t, id, g1, g2, by rw [hd t g2]; exact g3, by rw [hx id (by rw [g4]; simp)]; exact g4⟩)))
    · refine .inr (.inl ⟨n, sz, z, ps, t, id, cs, g1, g2, by rw [hd t g2]; exact g3, by rw [hx id (by rw [g4]; simp)]; exact g4, ?_⟩)
      rw [← g5]
      rw [g1] at hk
      exact (fill_same (by simpa [EOp.keys] using hk)).symm
theorem told_of_stays {fs : T EF} {go : Go} {fr : Fr} {h : H} {o : EOper} (hs : stays fs go fr h o = true) : Told fs go fr h o := by
  unfold stays at hs
  obtain ⟨r, hw, hs⟩ := oGet_some (by simp) hs
  refine ⟨r, hw, fun e t et => ?_, fun e => ?_⟩
  · subst e
    have hs : dstV fr o.dst isU = true := hs
    rw [et] at hs
    exact isU_eq (show isU (getV (fr.get t)) = true from hs)
  · subst e
    have hs : opStays fs go fr h o.dst o.op = true := hs
    by_cases hb : ∃ n sz z ps, o.op = .bslice n sz z ps
    · obtain ⟨n, sz, z, ps, hb⟩ := hb
      rw [hb] at hs
      have hs : (oGet o.dst false fun k => litOk fr h n sz z ps (getV (fr.get k))) = true := hs
      obtain ⟨t, ht, hs⟩ := oGet_some (by simp) hs
      unfold litOk at hs
      obtain ⟨id, off, n', sz', hv, h5⟩ : ∃ id off n' sz', getV (fr.get t) = .sl id off n' sz' ∧ (Nat.beq off 0 && Nat.beq n n' && Nat.beq sz sz' && (h.get id).onW false fun m cs => Nat.beq m (n * sz) && oGet (fillE fr z ps) false fun cs' => beqL cs cs') = true := by
        split at hs
        · rename_i heq; exact ⟨_, _, _, _, heq, hs⟩
        · cases hs
      · simp only [Bool.and_eq_true] at h5
        obtain ⟨⟨⟨q1, q2⟩, q3⟩, h5⟩ := h5
        have q1 := Nat.eq_of_beq_eq_true q1
        have q2 := Nat.eq_of_beq_eq_true q2
        have q3 := Nat.eq_of_beq_eq_true q3
        subst q1; subst q2; subst q3
        obtain ⟨m, cs, hb1, h5⟩ := Blk.onW_ok (by simp) h5
        simp only [Bool.and_eq_true] at h5
        obtain ⟨q4, h5⟩ := h5
        have q4 := Nat.eq_of_beq_eq_true q4
        subst q4
        obtain ⟨cs', hfill, h5⟩ := oGet_some (by simp) h5
        have := beqL_eq h5
        subst this
        exact .inr (.inl ⟨_, _, z, ps, t, id, cs, hb, ht, hv, hb1, hfill⟩)
    · by_cases ha : ∃ n z, o.op = .alloc n z
      · obtain ⟨n, z, ha⟩ := ha
        rw [ha] at hs
        have hs : (oGet o.dst false fun k => newOk h n z (getV (fr.get k))) = true := hs
        obtain ⟨t, ht, hs⟩ := oGet_some (by simp) hs
        unfold newOk at hs
        split at hs
        · rename_i id off heq
          rw [Bool.and_eq_true] at hs
          have q1 := Nat.eq_of_beq_eq_true hs.1
          subst q1
          obtain ⟨m, cs, hb1, h5⟩ := Blk.onW_ok (by simp) hs.2
          rw [Bool.and_eq_true] at h5
          have q4 := Nat.eq_of_beq_eq_true h5.1
          subst q4
          have := beqL_eq h5.2
          subst this
          exact .inr (.inr (.inl ⟨_, _, t, id, ha, ht, heq, hb1⟩))
        · cases hs
      by_cases hm : ∃ sz z l, o.op = .mkslD sz z l
      · obtain ⟨sz, z, l, hm⟩ := hm
        rw [hm] at hs
        have hs : (oGet o.dst false fun k => mkOk h sz z (ev fr l) (getV (fr.get k))) = true := hs
        obtain ⟨t, ht, hs⟩ := oGet_some (by simp) hs
        unfold mkOk at hs
        split at hs
        · rename_i id off n sz' heq
          simp only [Bool.and_eq_true] at hs
          obtain ⟨⟨⟨q1, q2⟩, q3⟩, h5⟩ := hs
          have q1 := Nat.eq_of_beq_eq_true q1
          have q2 := Nat.eq_of_beq_eq_true q2
          subst q1; subst q2
          obtain ⟨m, cs, hb1, h5⟩ := Blk.onW_ok (by simp) h5
          rw [Bool.and_eq_true] at h5
          have q4 := Nat.eq_of_beq_eq_true h5.1
          subst q4
          have := beqL_eq h5.2
          subst this
          obtain ⟨k, m, hl, q6⟩ := V.onIb_ok q3
          obtain ⟨m', hn, q7⟩ := oGet_some (by simp) q6
          rw [Bool.and_eq_true] at q7
          have q5 := Nat.eq_of_beq_eq_true q7.1
          have q8 := nonneg_some hn
          rw [q8, q5] at hl
          exact .inr (.inr (.inr (.inl ⟨_, _, l, t, id, k, _, hm, ht, heq, hb1, hl, Nat.le_of_ble_eq_true q7.2⟩)))
        · cases hs
      by_cases hmm : ∃ kt, o.op = .mkmD kt
      · obtain ⟨kt, hmm⟩ := hmm
        rw [hmm] at hs
        have hs : (oGet o.dst false fun k => mpOk h kt (getV (fr.get k))) = true := hs
        obtain ⟨t, ht, hs⟩ := oGet_some (by simp) hs
        unfold mpOk at hs
        split at hs
        · rename_i id heq
          split at hs
          · rename_i kt' es heq2
            rw [Bool.and_eq_true] at hs
            have q1 := Nat.eq_of_beq_eq_true hs.1
            subst q1
            cases es with
            | nil => exact .inr (.inr (.inr (.inr ⟨_, t, id, hmm, ht, heq, heq2⟩)))
            | cons _ _ => cases hs.2
          · cases hs
        · cases hs
      have hs : (o.op.quiet && (evop fs go fr h o.op).chk fun v => dstV fr o.dst fun u => beqV v u) = true := by
        unfold opStays at hs
        split at hs
        · rename_i heq; exact absurd ⟨_, _, _, _, heq⟩ hb
        · rename_i heq; exact absurd ⟨_, _, heq⟩ ha
        · rename_i heq; exact absurd ⟨_, _, _, heq⟩ hm
        · rename_i heq; exact absurd ⟨_, heq⟩ hmm
        · exact hs
      rw [Bool.and_eq_true] at hs
      obtain ⟨hq, hs⟩ := hs
      cases hev : evop fs go fr h o.op with
      | no => rw [hev] at hs; cases hs
      | ok v h1 =>
        rw [hev] at hs
        have hs2 : (dstV fr o.dst fun u => beqV v u) = true := hs
        have := quiet_same hq hev
        subst this
        refine .inl ⟨hq, v, rfl, fun t et => ?_⟩
        rw [et] at hs2
        exact (beqV_eq (show beqV v (getV (fr.get t)) = true from hs2)).symm

theorem own_same {o : EOper} (h : ∀ t, o.dst = some t → t ∉ o.reads) (fr : Fr) (v : V) : Same o.reads fr (putD fr o.dst v) := fun κ hκ => (putD_other fun e => h κ e hκ).symm
theorem told_false {fs : T EF} {go : Go} {fr : Fr} {h : H} {o : EOper} (hown : ∀ t, o.dst = some t → t ∉ o.reads) (hw : wants fr o.g = some false) : Told fs go (putD fr o.dst undefV) h o := by
  have hs := own_same hown fr undefV
  refine ⟨false, ?_, fun _ t ht => ?_, (fun e => by cases e)⟩
  · rw [← hw]; exact (wants_same (by unfold EOper.reads at hs; exact hs.left)).symm
  · rw [ht, putD_same]; rfl
theorem told_quiet {fs : T EF} {go : Go} {fr : Fr} {h : H} {o : EOper} {v : V} (hown : ∀ t, o.dst = some t → t ∉ o.reads) (hw : wants fr o.g = some true) (hq : o.op.quiet = true) (he : evop fs go fr h o.op = .ok v h) : Told fs go (putD fr o.dst v) h o := by
  have hs := own_same hown fr v
  have hk : Same o.op.keys fr (putD fr o.dst v) := by unfold EOper.reads at hs; exact hs.right
  refine ⟨true, ?_, (fun e => by cases e), fun _ => .inl ⟨hq, v, ?_, fun t ht => ?_⟩⟩
  · rw [← hw]; exact (wants_same (by unfold EOper.reads at hs; exact hs.left)).symm
  · rw [← evop_same hk]; exact he
  · rw [ht, putD_same]; rfl
theorem told_lit {fs : T EF} {go : Go} {fr : Fr} {h : H} {o : EOper} {n sz : Nat} {z cs : List V} {ps : List (Nat × Nat × EO)} {t : K} (hown : ∀ t, o.dst = some t → t ∉ o.reads) (hw : wants fr o.g = some true) (ho : o.op = .bslice n sz z ps) (ht : o.dst = some t) (hf : fillE fr z ps = some cs) :
    Told fs go (fr.set t (.sl h.nx 0 n sz)) (h.new (.cells (n * sz) cs)) o := by
  have hs := own_same hown fr (.sl h.nx 0 n sz)
  rw [ht] at hs
  have hk : Same o.op.keys fr (fr.set t (.sl h.nx 0 n sz)) := by unfold EOper.reads at hs; exact hs.right
  refine ⟨true, ?_, (fun e => by cases e), fun _ => .inr (.inl ⟨n, sz, z, ps, t, h.nx, cs, ho, ht, ?_, ?_, ?_⟩)⟩
  · rw [← hw]; exact (wants_same (by unfold EOper.reads at hs; exact hs.left)).symm
  · rw [T.get_set, if_pos rfl]; rfl
  · rw [H.get_new, if_pos rfl]
  · rw [ho] at hk
    rw [← hf]
    exact (fill_same (by simpa [EOp.keys] using hk)).symm
theorem told_new {fs : T EF} {go : Go} {fr : Fr} {h : H} {o : EOper} {n : Nat} {z : List V} {t : K} (hown : ∀ t, o.dst = some t → t ∉ o.reads) (hw : wants fr o.g = some true) (ho : o.op = .alloc n z) (ht : o.dst = some t) :
    Told fs go (fr.set t (.p h.nx 0)) (h.new (.cells n z)) o := by
  have hs := own_same hown fr (.p h.nx 0)
  rw [ht] at hs
  refine ⟨true, ?_, (fun e => by cases e), fun _ => .inr (.inr (.inl ⟨n, z, t, h.nx, ho, ht, ?_, ?_⟩))⟩
  · rw [← hw]; exact (wants_same (by unfold EOper.reads at hs; exact hs.left)).symm
  · rw [T.get_set, if_pos rfl]; rfl
  · rw [H.get_new, if_pos rfl]
theorem told_mk {fs : T EF} {go : Go} {fr : Fr} {h : H} {o : EOper} {n sz : Nat} {z : List V} {l : EO} {k : IntKind} {t : K} (hown : ∀ t, o.dst = some t → t ∉ o.reads) (hw : wants fr o.g = some true) (ho : o.op = .mkslD sz z l) (ht : o.dst = some t) (hl : ev fr l = .i k (n : Int)) (hn : n ≤ 1000000) :
    Told fs go (fr.set t (.sl h.nx 0 n sz)) (h.new (.cells (n * sz) (rep z n))) o := by
  have hs := own_same hown fr (.sl h.nx 0 n sz)
  rw [ht] at hs
  have hk : Same o.op.keys fr (fr.set t (.sl h.nx 0 n sz)) := by unfold EOper.reads at hs; exact hs.right
  refine ⟨true, ?_, (fun e => by cases e), fun _ => .inr (.inr (.inr (.inl ⟨sz, z, l, t, h.nx, k, n, ho, ht, ?_, ?_, ?_, hn⟩)))⟩
  · rw [← hw]; exact (wants_same (by unfold EOper.reads at hs; exact hs.left)).symm
  · rw [T.get_set, if_pos rfl]; rfl
  · rw [H.get_new, if_pos rfl]
  · rw [ho] at hk
    rw [← hl]
    exact (ev_same (by simpa [EOp.keys] using hk)).symm
theorem told_mp {fs : T EF} {go : Go} {fr : Fr} {h : H} {o : EOper} {kt : Nat} {t : K} (hown : ∀ t, o.dst = some t → t ∉ o.reads) (hw : wants fr o.g = some true) (ho : o.op = .mkmD kt) (ht : o.dst = some t) :
    Told fs go (fr.set t (.m h.nx)) (h.new (.map kt [])) o := by
  have hs := own_same hown fr (.m h.nx)
  rw [ht] at hs
  refine ⟨true, ?_, (fun e => by cases e), fun _ => .inr (.inr (.inr (.inr ⟨kt, t, h.nx, ho, ht, ?_, ?_⟩)))⟩
  · rw [← hw]; exact (wants_same (by unfold EOper.reads at hs; exact hs.left)).symm
  · rw [T.get_set, if_pos rfl]; rfl
  · rw [H.get_new, if_pos rfl]
theorem bif_res {c : Bool} {x : Res} {e : Ex} {fr : Fr} {h : H} (he : (bif c then x else .no) = .ok e fr h) : c = true ∧ x = .ok e fr h := cond_ok (by simp) he

theorem gRun_told {fs : T EF} {go : Go} {e : Ex} {fr' : Fr} {h' : H} {f : Fr → H → Res} {g : Nat → EOper} : ∀ (l : List Nat), (∀ i ∈ l, ∀ t, (g i).dst = some t → t ∉ (g i).reads) → l.Pairwise (fun i j => ∀ t, (g j).dst = some t → t ∉ (g i).reads ++ (g i).dst.toList) → ∀ {fr : Fr} {h : H}, gRun fs go (l.map g) f fr h = .ok e fr' h' →
    ∃ fr1 h1, f fr1 h1 = .ok e fr' h' ∧ HX h h1 ∧ HXs h h1 ∧ (∀ k, (∀ i ∈ l, (g i).dst ≠ some k) → fr1.get k = fr.get k) ∧ ∀ i ∈ l, Told fs go fr1 h1 (g i)
  | [], _, _, fr, h, he => ⟨fr, h, he, HX.refl h, HXs.refl h, fun _ _ => rfl, fun i hi => absurd hi (by simp)⟩
  | i :: l, hown, hpw, fr, h, he => by
    have he : (oGet (wants fr (g i).g) .no fun r => bif r then gDo fs go (g i).dst (g i).op (gRun fs go (l.map g) f) fr h else gRun fs go (l.map g) f (putD fr (g i).dst undefV) h) = .ok e fr' h' := he
    obtain ⟨r, hw, he⟩ := oGet_res he
    obtain ⟨hp1, hp2⟩ := List.pairwise_cons.1 hpw
    have ho := hown i List.mem_cons_self
    have fin : ∀ (frn : Fr) (hn : H), HX h hn → HXs h hn → (∀ k, (g i).dst ≠ some k → frn.get k = fr.get k) → Told fs go frn hn (g i) → gRun fs go (l.map g) f frn hn = .ok e fr' h' →
        ∃ fr1 h1, f fr1 h1 = .ok e fr' h' ∧ HX h h1 ∧ HXs h h1 ∧ (∀ k, (∀ j ∈ i :: l, (g j).dst ≠ some k) → fr1.get k = fr.get k) ∧ ∀ j ∈ i :: l, Told fs go fr1 h1 (g j) := by
      intro frn hn hx hxs hk ht he
      obtain ⟨fr1, h1, e1, e2, e3, e4, e5⟩ := gRun_told l (fun j hj => hown j (List.mem_cons_of_mem _ hj)) hp2 he
      refine ⟨fr1, h1, e1, hx.trans e2, hxs.trans e3, fun k hkk => (e4 k fun j hj => hkk j (List.mem_cons_of_mem _ hj)).trans (hk k (hkk i List.mem_cons_self)), fun j hj => ?_⟩
      rcases List.mem_cons.1 hj with rfl | hj
      · exact ht.more (fun κ hκ => e4 κ fun j' hj' e' => hp1 j' hj' κ e' hκ) e3
      · exact e5 j hj
    cases r with
    | false => exact fin _ _ (HX.refl h) (HXs.refl h) (fun k hk => putD_other hk) (told_false ho hw) he
    | true =>
      have he : gDo fs go (g i).dst (g i).op (gRun fs go (l.map g) f) fr h = .ok e fr' h' := he
      by_cases hb : ∃ n sz z ps, (g i).op = .bslice n sz z ps
      · obtain ⟨n, sz, z, ps, hb⟩ := hb
        rw [hb] at he
        have he : (oGet (g i).dst .no fun k => bif (h.get h.nx).isDead then (oGet (fillE fr z ps) .no fun cs => gRun fs go (l.map g) f (fr.set k (.sl h.nx 0 n sz)) (h.new (.cells (n * sz) cs))) else .no) = .ok e fr' h' := he
        obtain ⟨t, ht, he⟩ := oGet_res he
        obtain ⟨hd, he⟩ := bif_res he
        obtain ⟨cs, hf, he⟩ := oGet_res he
        exact fin _ _ (HX.new _ _) (HXs.new hd) (fun k hk => by rw [ht] at hk; exact putD_other hk) (told_lit ho hw hb ht hf) he
      · by_cases ha : ∃ n z, (g i).op = .alloc n z
        · obtain ⟨n, z, ha⟩ := ha
          rw [ha] at he
          have he : (oGet (g i).dst .no fun k => bif (h.get h.nx).isDead then gRun fs go (l.map g) f (fr.set k (.p h.nx 0)) (h.new (.cells n z)) else .no) = .ok e fr' h' := he
          obtain ⟨t, ht, he⟩ := oGet_res he
          obtain ⟨hd, he⟩ := bif_res he
          exact fin _ _ (HX.new _ _) (HXs.new hd) (fun k hk => by rw [ht] at hk; exact putD_other hk) (told_new ho hw ha ht) he
        by_cases hm : ∃ sz z l, (g i).op = .mkslD sz z l
        · obtain ⟨sz, z, l', hm⟩ := hm
          rw [hm] at he
          have he : (oGet (g i).dst .no fun k => bif (h.get h.nx).isDead then ((ev fr l').onI .no fun _ n => oGet (nonneg n) .no fun n => bif Nat.ble n 1000000 then gRun fs go (l.map g) f (fr.set k (.sl h.nx 0 n sz)) (h.new (.cells (n * sz) (rep z n))) else .no) else .no) = .ok e fr' h' := he
          obtain ⟨t, ht, he⟩ := oGet_res he
          obtain ⟨hd, he⟩ := bif_res he
          obtain ⟨kk, m, hl, he1⟩ := V.onIr_ok he
          obtain ⟨n, hn, he2⟩ := oGet_res he1
          obtain ⟨hb', he3⟩ := bif_res he2
          have hmn := nonneg_some hn
          rw [hmn] at hl
          exact fin _ _ (HX.new _ _) (HXs.new hd) (fun k hk => by rw [ht] at hk; exact putD_other hk) (told_mk ho hw hm ht hl (Nat.le_of_ble_eq_true hb')) he3
        by_cases hmm : ∃ kt, (g i).op = .mkmD kt
        · obtain ⟨kt, hmm⟩ := hmm
          rw [hmm] at he
          have he : (oGet (g i).dst .no fun k => bif (h.get h.nx).isDead then gRun fs go (l.map g) f (fr.set k (.m h.nx)) (h.new (.map kt [])) else .no) = .ok e fr' h' := he
          obtain ⟨t, ht, he⟩ := oGet_res he
          obtain ⟨hd, he⟩ := bif_res he
          exact fin _ _ (HX.new _ _) (HXs.new hd) (fun k hk => by rw [ht] at hk; exact putD_other hk) (told_mp ho hw hmm ht) he
        have he : (bif (g i).op.quiet then ((evop fs go fr h (g i).op).to fun v _ => gRun fs go (l.map g) f (putD fr (g i).dst v) h) else .no) = .ok e fr' h' := by
          unfold gDo at he
          split at he
          · rename_i heq; exact absurd ⟨_, _, _, _, heq⟩ hb
          · rename_i heq; exact absurd ⟨_, _, heq⟩ ha
          · rename_i heq; exact absurd ⟨_, _, _, heq⟩ hm
          · rename_i heq; exact absurd ⟨_, heq⟩ hmm
          · exact he
        obtain ⟨hq, he⟩ := bif_res he
        obtain ⟨v, h1, hev, he⟩ := RV.to_ok he
        have := quiet_same hq hev
        subst this
        exact fin _ _ (HX.refl _) (HXs.refl _) (fun k hk => putD_other hk) (told_quiet ho hw hq hev) he

theorem notIn_spec : ∀ {k : K} {l : List K}, notIn k l = true → k ∉ l
  | k, [], _ => by simp
  | k, x :: l, h => by
    have h : (!(k.beq x) && notIn k l) = true := h
    simp only [Bool.and_eq_true, Bool.not_eq_true'] at h
    intro hm
    rcases List.mem_cons.1 hm with rfl | hm
    · rw [K.beq_refl] at h; cases h.1
    · exact notIn_spec h.2 hm
theorem freshL_spec {lo hi : Nat} : ∀ {l : List K}, freshL lo hi l = true → l.Nodup ∧ ∀ k ∈ l, lo ≤ k.nat ∧ k.nat < hi
  | [], _ => ⟨List.nodup_nil, fun k h => absurd h (by simp)⟩
  | x :: l, h => by
    have h : (Nat.ble lo x.nat && Nat.blt x.nat hi && notIn x l && freshL lo hi l) = true := h
    simp only [Bool.and_eq_true] at h
    obtain ⟨⟨⟨h1, h2⟩, h3⟩, h4⟩ := h
    obtain ⟨g1, g2⟩ := freshL_spec h4
    refine ⟨List.nodup_cons.2 ⟨notIn_spec h3, g1⟩, fun k hk => ?_⟩
    rcases List.mem_cons.1 hk with rfl | hk
    · exact ⟨Nat.le_of_ble_eq_true h1, Nat.lt_of_lt_of_le (Nat.lt_succ_self _) (Nat.le_of_ble_eq_true h2)⟩
    · exact g2 k hk
theorem idsOf_cons (fr : Fr) (k : K) (b : List K) : idsOf fr (k :: b) = oGet (slId (getV (fr.get k))) (idsOf fr b) fun id => id :: idsOf fr b := rfl
theorem idsOf_mem {fr : Fr} : ∀ {b : List K} {k id : K}, k ∈ b → slId (getV (fr.get k)) = some id → id ∈ idsOf fr b
  | [], k, id, hk, _ => absurd hk (by simp)
  | x :: b, k, id, hk, hi => by
    rw [idsOf_cons]
    rcases List.mem_cons.1 hk with rfl | hk
    · rw [hi]; exact List.mem_cons_self
    · have := idsOf_mem hk hi
      cases slId (getV (fr.get x)) with
      | none => exact this
      | some y => exact List.mem_cons_of_mem _ this
theorem idsOf_ne {fr : Fr} {g : Nat → Option K} : ∀ {l : List Nat} {i j : Nat} {k k' id id' : K}, (idsOf fr (l.filterMap g)).Nodup → i ∈ l → j ∈ l → i ≠ j → g i = some k → g j = some k' → slId (getV (fr.get k)) = some id → slId (getV (fr.get k')) = some id' → id ≠ id'
  | [], i, j, k, k', id, id', _, hi, _, _, _, _, _, _ => absurd hi (by simp)
  | x :: l, i, j, k, k', id, id', hn, hi, hj, hij, h1, h2, h3, h4 => by
    have tl : (idsOf fr (l.filterMap g)).Nodup := by
      rw [List.filterMap_cons] at hn
      split at hn
      · exact hn
      · rename_i y hy
        rw [idsOf_cons] at hn
        cases hx : slId (getV (fr.get y)) with
        | none => rw [hx] at hn; exact hn
        | some z => rw [hx] at hn; exact (List.nodup_cons.1 (show (z :: idsOf fr (l.filterMap g)).Nodup from hn)).2
    have hd : ∀ {y : K} {a : K}, g x = some y → slId (getV (fr.get y)) = some a → a ∉ idsOf fr (l.filterMap g) := fun {y a} hy ha => by
      rw [List.filterMap_cons, hy] at hn
      simp only [idsOf_cons, ha] at hn
      exact (List.nodup_cons.1 (show (a :: idsOf fr (l.filterMap g)).Nodup from hn)).1
    rcases List.mem_cons.1 hi with rfl | hi'
    · rcases List.mem_cons.1 hj with rfl | hj'
      · exact absurd rfl hij
      · intro e
        subst e
        exact hd h1 h3 (idsOf_mem (List.mem_filterMap.2 ⟨j, hj', h2⟩) h4)
    · rcases List.mem_cons.1 hj with rfl | hj'
      · intro e
        subst e
        exact hd h2 h4 (idsOf_mem (List.mem_filterMap.2 ⟨i, hi', h1⟩) h3)
      · exact idsOf_ne tl hi' hj' hij h1 h2 h3 h4
end Go.Ev
namespace Go.Ev
open Go Go.RowKit

structure Dok (xs : List EOper) (ed : List (List Nat)) (f : List DI) : Prop where
  lt : ∀ i, i < xs.length → ∀ e ∈ edAt ed i, e < i
  anc : ∀ i, i < xs.length → ∀ m, m < xs.length → inA (diAt f i).anc m = true → ∃ e ∈ edAt ed i, e = m ∨ inA (diAt f e).anc m = true
  lrk : ∀ i, i < xs.length → loudAt xs i = true → 1 ≤ (diAt f i).rk ∧ (diAt f i).rk ≤ louds xs
  lanc : ∀ i j, i < xs.length → j < xs.length → loudAt xs i = true → loudAt xs j = true → (diAt f j).rk < (diAt f i).rk → inA (diAt f i).anc j = true
  linj : ∀ i j, i < xs.length → j < xs.length → loudAt xs i = true → loudAt xs j = true → (diAt f j).rk = (diAt f i).rk → i = j
  qrk : ∀ i, i < xs.length → loudAt xs i = false → (diAt f i).rk = 0 ∨ ∃ e ∈ edAt ed i, (diAt f e).rk = (diAt f i).rk
  qlim : ∀ i j, i < xs.length → j < xs.length → loudAt xs i = false → loudAt xs j = true → (diAt f j).rk = (diAt f i).lim + 1 → inA (diAt f j).anc i = true
  far : ∀ i j, i < xs.length → j < xs.length → i ≠ j → ∀ t, (opAt xs j).dst = some t → t ∈ (opAt xs i).reads ++ (opAt xs i).dst.toList → inA (diAt f i).anc j = true ∨ (loudAt xs j = true ∧ inA (diAt f j).anc i = true)
  brk : ∀ i j, i < xs.length → j < xs.length → kindE (opAt xs i).op = 1 → loudAt xs j = true → inA (diAt f i).anc j = true → (diAt f j).rk ≤ (diAt f i).rk
  own : ∀ i, i < xs.length → loudAt xs i = false → ∀ t, (opAt xs i).dst = some t → t ∉ (opAt xs i).reads
  ex : ∀ k, k < louds xs → ∃ j, j < xs.length ∧ loudAt xs j = true ∧ (diAt f j).rk = k + 1

theorem rangeAll {n : Nat} {p : Nat → Bool} (h : (List.range n).all p = true) : ∀ i, i < n → p i = true := fun i hi => List.all_eq_true.1 h i (List.mem_range.2 hi)
theorem drawB_ok {xs : List EOper} {ed : List (List Nat)} {f : List DI} (h : drawB xs ed f = true) : Dok xs ed f := by
  unfold drawB at h
  rw [Bool.and_eq_true] at h
  obtain ⟨h0, h⟩ := h
  have h := rangeAll h
  have g : ∀ i, i < xs.length → chk1 ed i = true ∧ chk2 xs ed f i = true ∧ chk3 xs f i = true ∧ chk4 xs ed f i = true ∧ chk5 xs f i = true ∧ chk6 xs f i = true ∧ chk7 xs f i = true ∧ chk8 xs i = true := fun i hi => by
    have := h i hi
    simp only [Bool.and_eq_true] at this
    obtain ⟨⟨⟨⟨⟨⟨⟨a, b⟩, c⟩, d⟩, e⟩, f'⟩, g⟩, h'⟩ := this
    exact ⟨a, b, c, d, e, f', g, h'⟩
  have imp : ∀ {a b : Bool}, (!a || b) = true → a = true → b = true := fun {a b} h ha => by rw [ha] at h; simpa using h
  have blt : ∀ {a b : Nat}, Nat.blt a b = true ↔ a < b := fun {a b} => ⟨fun h => Nat.lt_of_lt_of_le (Nat.lt_succ_self _) (Nat.le_of_ble_eq_true h), fun h => Nat.ble_eq_true_of_le h⟩
  refine ⟨fun i hi e he => ?_, fun i hi m hm ha => ?_, fun i hi hl => ?_, fun i j hi hj hl hl' hr => ?_, fun i j hi hj hl hl' hr => ?_, fun i hi hl => ?_, fun i j hi hj hl hl' hr => ?_, fun i j hi hj hij t ht hk => ?_, fun i j hi hj hk hl ha => ?_, fun i hi hl t ht hm => ?_, fun k hk => ?_⟩
  · exact blt.1 (List.all_eq_true.1 (g i hi).1 e he)
  · have := imp (rangeAll (g i hi).2.1 m hm) ha
    obtain ⟨e, he, h1⟩ := List.any_eq_true.1 this
    refine ⟨e, he, ?_⟩
    rw [Bool.or_eq_true] at h1
    exact h1.imp Nat.eq_of_beq_eq_true id
  · have := imp (g i hi).2.2.1 hl
    simp only [Bool.and_eq_true] at this
    exact ⟨Nat.le_of_ble_eq_true this.1.1, Nat.le_of_ble_eq_true this.1.2⟩
  · have := imp (g i hi).2.2.1 hl
    simp only [Bool.and_eq_true] at this
    have := imp (rangeAll this.2 j hj) hl'
    rw [Bool.and_eq_true] at this
    exact imp this.1 (blt.2 hr)
  · have := imp (g i hi).2.2.1 hl
    simp only [Bool.and_eq_true] at this
    have := imp (rangeAll this.2 j hj) hl'
    rw [Bool.and_eq_true] at this
    exact Nat.eq_of_beq_eq_true (imp this.2 (by rw [hr]; exact Nat.beq_refl _))
  · have := (g i hi).2.2.2.1
    unfold chk4 at this
    rw [hl, Bool.false_or, Bool.or_eq_true] at this
    refine this.imp Nat.eq_of_beq_eq_true fun h => ?_
    obtain ⟨e, he, h1⟩ := List.any_eq_true.1 h
    exact ⟨e, he, Nat.eq_of_beq_eq_true h1⟩
  · have := (g i hi).2.2.2.2.1
    unfold chk5 at this
    rw [hl, Bool.false_or] at this
    exact imp (rangeAll this j hj) (by rw [hl', hr]; simp)
  · have := rangeAll (g i hi).2.2.2.2.2.1 j hj
    rw [Bool.or_eq_true] at this
    rcases this with this | this
    · exact absurd (Nat.eq_of_beq_eq_true this) hij
    · unfold dstFar at this
      rw [ht] at this
      simp only [Bool.or_eq_true, Bool.and_eq_true, Bool.not_eq_true'] at this
      rcases this with (this | this) | this
      · have h2 : ((opAt xs i).reads ++ (opAt xs i).dst.toList).contains t = true := List.contains_iff_mem.2 hk
        rw [h2] at this; cases this
      · exact .inl this
      · exact .inr this
  · have := (g i hi).2.2.2.2.2.2.1
    unfold chk7 at this
    have := imp this (by rw [hk]; rfl)
    exact Nat.le_of_ble_eq_true (imp (rangeAll this j hj) (by rw [hl, ha]; rfl))
  · have := (g i hi).2.2.2.2.2.2.2
    unfold chk8 ownFar at this
    rw [hl, Bool.false_or, ht] at this
    have h2 : (opAt xs i).reads.contains t = true := List.contains_iff_mem.2 hm
    simp only [h2] at this
    cases this
  · obtain ⟨j, hj, h1⟩ := List.any_eq_true.1 (rangeAll h0 k hk)
    rw [Bool.and_eq_true] at h1
    exact ⟨j, List.mem_range.1 hj, h1.1, Nat.eq_of_beq_eq_true h1.2⟩

section dok
variable {xs : List EOper} {ed : List (List Nat)} {f : List DI}
theorem Dok.anc_lt (hD : Dok xs ed f) : ∀ i, i < xs.length → ∀ m, m < xs.length → inA (diAt f i).anc m = true → m < i := by
  intro i
  induction i using Nat.strongRecOn with
  | _ i ih =>
    intro hi m hm h
    obtain ⟨e, he, h1⟩ := hD.anc i hi m hm h
    have hlt := hD.lt i hi e he
    rcases h1 with rfl | h1
    · exact hlt
    · exact Nat.lt_trans (ih e hlt (Nat.lt_trans hlt hi) m hm h1) hlt
theorem Dok.dd (hD : Dok xs ed f) {i j : Nat} (hi : i < xs.length) (hj : j < xs.length) (hij : i ≠ j) (li : loudAt xs i = false) (lj : loudAt xs j = false) {t : K} (ht : (opAt xs i).dst = some t) : (opAt xs j).dst ≠ some t := fun h => by
  rcases hD.far i j hi hj hij t h (by simp [ht]) with h1 | h1
  · rcases hD.far j i hj hi (Ne.symm hij) t ht (by simp [h]) with h2 | h2
    · have := hD.anc_lt i hi j hj h1
      have := hD.anc_lt j hj i hi h2
      omega
    · rw [li] at h2; cases h2.1
  · rw [lj] at h1; cases h1.1
theorem Dok.all_anc (hD : Dok xs ed f) {L : Array Bool} (cl : ∀ j, j < xs.length → L.getD j false = true → ∀ e ∈ edAt ed j, L.getD e false = true) : ∀ i, i < xs.length → (∀ e ∈ edAt ed i, L.getD e false = true) → ∀ m, m < xs.length → inA (diAt f i).anc m = true → L.getD m false = true := by
  intro i
  induction i using Nat.strongRecOn with
  | _ i ih =>
    intro hi hE m hm h
    obtain ⟨e, he, h1⟩ := hD.anc i hi m hm h
    rcases h1 with rfl | h1
    · exact hE _ he
    · have hlt := hD.lt i hi e he
      exact ih e hlt (Nat.lt_trans hlt hi) (cl e (Nat.lt_trans hlt hi) (hE e he)) m hm h1
end dok

def pend (xs : List EOper) (f : List DI) (L : Array Bool) (p j : Nat) : Prop := j < xs.length ∧ loudAt xs j = false ∧ L.getD j false = false ∧ (diAt f j).rk < p

structure JJ (Y : Rig) (nt base : Nat) (xs : List EOper) (ed : List (List Nat)) (f : List DI) (h0 : H) (ι0 : Io) (w0 : World) (p k : Nat) (fr : Fr) (h : H) (ι : Io) (L : Array Bool) (a : Act) (w : World) : Prop where
  size : L.size = xs.length
  cl : ∀ j, j < xs.length → L.getD j false = true → ∀ e ∈ edAt ed j, L.getD e false = true
  rkn : ∀ j, j < xs.length → loudAt xs j = false → L.getD j false = true → (diAt f j).rk < p
  rkl : ∀ j, j < xs.length → loudAt xs j = true → (L.getD j false = true ↔ (diAt f j).rk ≤ k)
  nts : a.tmps.size = nt
  frm : ∀ κ : K, (∀ j, pend xs f L p j → (opAt xs j).dst ≠ some κ) → VR ι (getV (fr.get κ)) (a.tmps.getD κ.nat undef)
  wr : WR Y.tab ι h w
  st : Step h0.nx.nat ι0 w0 h.nx.nat ι w
  mks : Mk base ι w a.defers
  al : ∀ j, pend xs f L p j → kindE (opAt xs j).op = 1 → ∀ t id, (opAt xs j).dst = some t → slId (getV (fr.get t)) = some id → ι id = none ∧ h0.nx.nat ≤ id.nat ∧ id.nat < h.nx.nat
  dj : ∀ i j, pend xs f L p i → pend xs f L p j → i ≠ j → kindE (opAt xs i).op = 1 → kindE (opAt xs j).op = 1 → ∀ t id t' id', (opAt xs i).dst = some t → (opAt xs j).dst = some t' → slId (getV (fr.get t)) = some id → slId (getV (fr.get t')) = some id' → id ≠ id'

theorem Step.up {n n' n'' : Nat} {ι ι' : Io} {w w' : World} (h : Step n ι w n' ι' w') (hn : n' ≤ n'') : Step n ι w n'' ι' w' := ⟨h.ext, h.new, h.keep, h.os, h.tape, h.output, h.size, Nat.le_trans h.mono hn, h.low⟩
theorem opAt_mem {xs : List EOper} {p : Nat → Bool} {o : EOper} (h : o ∈ (pickI xs p).map (opAt xs)) : ∃ j, j < xs.length ∧ p j = true ∧ o = opAt xs j := by
  obtain ⟨j, hj, rfl⟩ := List.mem_map.1 h
  obtain ⟨h1, h2⟩ := List.mem_filter.1 hj
  exact ⟨j, List.mem_range.1 h1, h2, rfl⟩
theorem mem_opAt {xs : List EOper} {p : Nat → Bool} {j : Nat} (hj : j < xs.length) (hp : p j = true) : opAt xs j ∈ (pickI xs p).map (opAt xs) := List.mem_map.2 ⟨j, List.mem_filter.2 ⟨List.mem_range.2 hj, hp⟩, rfl⟩
section
variable {Y : Rig} {nt base : Nat} {xs : List EOper} {ed : List (List Nat)} {f : List DI} {h0 : H} {ι0 : Io} {w0 : World} {k : Nat} {fr : Fr} {h : H} {ι : Io} {L : Array Bool} {a : Act} {w : World} {fs : T EF} {go : Go}

theorem JJ.enter (hD : Dok xs ed f) {p : Nat} {cont : Fr → H → Res} {e : Ex} {fr' : Fr} {h' : H} (hp : p = k) (J : JJ Y nt base xs ed f h0 ι0 w0 p k fr h ι L a w)
    (he : gRun fs go (stageOf xs f k).g (fun fr2 h2 => bif isFresh h h2 fr2 (stageOf xs f k).b then cont fr2 h2 else .no) fr h = .ok e fr' h') :
    ∃ fr2 h2, cont fr2 h2 = .ok e fr' h' ∧ JJ Y nt base xs ed f h0 ι0 w0 (k + 1) k fr2 h2 ι L a w ∧ HXs h h2 ∧ ∀ i, i < xs.length → loudAt xs i = false → (diAt f i).rk = k → Told fs go fr2 h2 (opAt xs i) := by
  subst hp
  have gmem : ∀ i, i ∈ pickI xs (fun i => !loudAt xs i && Nat.beq (diAt f i).rk p) → i < xs.length ∧ loudAt xs i = false ∧ (diAt f i).rk = p := fun i hi => by
    obtain ⟨h1, h2⟩ := List.mem_filter.1 hi
    simp only [Bool.and_eq_true, Bool.not_eq_true'] at h2
    exact ⟨List.mem_range.1 h1, h2.1, Nat.eq_of_beq_eq_true h2.2⟩
  obtain ⟨fr2, h2, e1, hx, hxs, hfr0, htold⟩ := gRun_told (g := opAt xs) (pickI xs fun i => !loudAt xs i && Nat.beq (diAt f i).rk p) (fun i hi t ht => hD.own i (gmem i hi).1 (gmem i hi).2.1 t ht)
    ((List.pairwise_lt_range.filter _).imp_of_mem (fun {i j} hi hj hij t ht hk => by
      obtain ⟨i1, i2, i3⟩ := gmem i hi
      obtain ⟨j1, j2, j3⟩ := gmem j hj
      rcases hD.far i j i1 j1 (by omega) t ht hk with h3 | h3
      · have := hD.anc_lt i i1 j j1 h3; omega
      · rw [j2] at h3; cases h3.1)) he
  have hfr : ∀ t : K, (∀ o ∈ (stageOf xs f p).g, o.dst ≠ some t) → fr2.get t = fr.get t := fun t ht => hfr0 t fun i hi => ht _ (List.mem_map.2 ⟨i, hi, rfl⟩)
  obtain ⟨hf, e2⟩ := cond_ok (by simp) e1
  obtain ⟨nd, rng⟩ := freshL_spec hf
  have inG : ∀ j, j < xs.length → loudAt xs j = false → (diAt f j).rk = p → L.getD j false = false := fun j hj hl hr => by
    cases hL : L.getD j false with
    | false => rfl
    | true => have := J.rkn j hj hl hL; omega
  have keep : ∀ t : K, (∀ j, j < xs.length → loudAt xs j = false → (diAt f j).rk = p → (opAt xs j).dst ≠ some t) → fr2.get t = fr.get t := fun t ht => hfr t fun o ho => by
    obtain ⟨j, hj, hpj, rfl⟩ := opAt_mem ho
    simp only [Bool.and_eq_true, Bool.not_eq_true'] at hpj
    exact ht j hj hpj.1 (Nat.eq_of_beq_eq_true hpj.2)
  have old : ∀ j, pend xs f L (p + 1) j → (diAt f j).rk ≠ p → pend xs f L p j ∧ ∀ t, (opAt xs j).dst = some t → fr2.get t = fr.get t := fun j hj hr =>
    ⟨⟨hj.1, hj.2.1, hj.2.2.1, by have := hj.2.2.2; omega⟩, fun t ht => keep t fun j' hj' hl' hr' => hD.dd hj.1 hj' (fun e => hr (e ▸ hr')) hj.2.1 hl' ht⟩
  have bmem : ∀ j, pend xs f L (p + 1) j → kindE (opAt xs j).op = 1 → (diAt f j).rk = p → j ∈ pickI xs fun i => Nat.beq (kindE (opAt xs i).op) 1 && Nat.beq (diAt f i).rk p := fun j hj hk hr =>
    List.mem_filter.2 ⟨List.mem_range.2 hj.1, by rw [hk, hr]; simp⟩
  have new : ∀ j, pend xs f L (p + 1) j → kindE (opAt xs j).op = 1 → (diAt f j).rk = p → ∀ t id, (opAt xs j).dst = some t → slId (getV (fr2.get t)) = some id → h.nx.nat ≤ id.nat ∧ id.nat < h2.nx.nat := fun j hj hk hr t id ht hi =>
    rng id (idsOf_mem (List.mem_filterMap.2 ⟨j, bmem j hj hk hr, ht⟩) hi)
  refine ⟨fr2, h2, e2, ⟨J.size, J.cl, fun j hj hl hL => Nat.lt_succ_of_lt (J.rkn j hj hl hL), J.rkl, J.nts, fun κ hκ => ?_, J.wr.more hx, J.st.up hx.1, J.mks, fun j hj hk t id ht hi => ?_, fun i j hi hj hij ki kj t id t' id' ht ht' hid hid' => ?_⟩, hxs, fun i hi hl hr => htold i (List.mem_filter.2 ⟨List.mem_range.2 hi, by rw [hl, hr]; simp⟩)⟩
  · rw [keep κ fun j hj hl hr => hκ j ⟨hj, hl, inG j hj hl hr, by omega⟩]
    exact J.frm κ fun j hj => hκ j ⟨hj.1, hj.2.1, hj.2.2.1, Nat.lt_succ_of_lt hj.2.2.2⟩
  · by_cases hr : (diAt f j).rk = p
    · obtain ⟨g1, g2⟩ := new j hj hk hr t id ht hi
      exact ⟨J.wr.fresh id g1, Nat.le_trans J.st.mono g1, g2⟩
    · obtain ⟨g1, g2⟩ := old j hj hr
      rw [g2 t ht] at hi
      obtain ⟨k1, k2, k3⟩ := J.al j g1 hk t id ht hi
      exact ⟨k1, k2, Nat.lt_of_lt_of_le k3 hx.1⟩
  · by_cases hr : (diAt f i).rk = p
    · by_cases hr' : (diAt f j).rk = p
      · exact idsOf_ne nd (bmem i hi ki hr) (bmem j hj kj hr') hij ht ht' hid hid'
      · have g1 := (new i hi ki hr t id ht hid).1
        obtain ⟨g2, g3⟩ := old j hj hr'
        rw [g3 t' ht'] at hid'
        have g4 := (J.al j g2 kj t' id' ht' hid').2.2
        intro e; rw [e] at g1; omega
    · obtain ⟨g2, g3⟩ := old i hi hr
      rw [g3 t ht] at hid
      by_cases hr' : (diAt f j).rk = p
      · have g1 := (new j hj kj hr' t' id' ht' hid').1
        have g4 := (J.al i g2 ki t id ht hid).2.2
        intro e; rw [← e] at g1; omega
      · obtain ⟨g5, g6⟩ := old j hj hr'
        rw [g6 t' ht'] at hid'
        exact J.dj i j g2 g5 hij ki kj t id t' id' ht ht' hid hid'
end

/-! ### Slots -/
theorem put_tmps {a : Act} {nt : Nat} (hn : a.tmps.size = nt) {o : Oper} (hd : dstIn nt o) (v : Value) (κ : K) : (a.put o.dst v).tmps.getD κ.nat undef = if o.dst.map K.ofNat = some κ then v else a.tmps.getD κ.nat undef := by
  unfold dstIn at hd
  cases ho : o.dst with
  | none => simp [Act.put]
  | some d =>
    rw [ho] at hd
    simp only [Act.put, Array.getD_eq_getD_getElem?, Array.getElem?_setIfInBounds, Option.map_some, Option.some.injEq]
    by_cases e : K.ofNat d = κ
    · subst e
      rw [K.ofNat_nat]
      simp [hn, hd]
    · have : ¬ d = κ.nat := fun e' => e (K.nat_inj (by rw [K.ofNat_nat]; exact e'))
      simp [e, this]
theorem put_defers {a : Act} {d : Option Tmp} {v : Value} : (a.put d v).defers = a.defers := by cases d <;> rfl
theorem put_size {a : Act} {d : Option Tmp} {v : Value} : (a.put d v).tmps.size = a.tmps.size := by cases d <;> simp [Act.put]

theorem setL {L : Array Bool} {i : Nat} (hi : i < L.size) (j : Nat) : (L.setIfInBounds i true).getD j false = if j = i then true else L.getD j false := by
  simp only [Array.getD_eq_getD_getElem?, Array.getElem?_setIfInBounds]
  by_cases e : i = j
  · subst e; simp [hi]
  · simp [e, Ne.symm e]

section
variable {Y : Rig} {nt base : Nat} {xs : List EOper} {ed : List (List Nat)} {f : List DI} {h0 : H} {ι0 : Io} {w0 : World} {p k : Nat} {fr : Fr} {h : H} {ι : Io} {L : Array Bool} {a : Act} {w : World} {fs : T EF} {go : Go}

theorem JJ.quiet (J : JJ Y nt base xs ed f h0 ι0 w0 p k fr h ι L a w) {i : Nat} (hi : pend xs f L p i) (hE : ∀ e ∈ edAt ed i, L.getD e false = true) {o : Oper} (hd : dstIn nt o) (hdst : (opAt xs i).dst = o.dst.map K.ofNat)
    {ι' : Io} {w' : World} {v' : Value} (hext : Ext ι ι') (hwr : WR Y.tab ι' h w') (hst : Step h0.nx.nat ι0 w0 h.nx.nat ι' w') (hmk : Mk base ι' w' a.defers) (hv : ∀ t, (opAt xs i).dst = some t → VR ι' (getV (fr.get t)) v')
    (hal : ∀ j, pend xs f L p j → j ≠ i → kindE (opAt xs j).op = 1 → ∀ t id, (opAt xs j).dst = some t → slId (getV (fr.get t)) = some id → ι' id = none) :
    JJ Y nt base xs ed f h0 ι0 w0 p k fr h ι' (L.setIfInBounds i true) (a.put o.dst v') w' := by
  have hiL : i < L.size := J.size ▸ hi.1
  have back : ∀ j, pend xs f (L.setIfInBounds i true) p j → pend xs f L p j ∧ j ≠ i := fun j hj => by
    have := hj.2.2.1
    rw [setL hiL] at this
    by_cases e : j = i
    · simp [e] at this
    · rw [if_neg e] at this; exact ⟨⟨hj.1, hj.2.1, this, hj.2.2.2⟩, e⟩
  have up : ∀ e, L.getD e false = true → (L.setIfInBounds i true).getD e false = true := fun e he => by rw [setL hiL]; split <;> simp_all
  refine ⟨by simp [J.size], fun j hj hL e he => up e ?_, fun j hj hl hL => ?_, fun j hj hl => ?_, put_size.trans J.nts, fun κ hκ => ?_, hwr, hst, by rw [put_defers]; exact hmk, fun j hj hk t id ht hid => ?_, fun j j' hj hj' => J.dj j j' (back j hj).1 (back j' hj').1⟩
  · by_cases e' : j = i
    · exact hE e (e' ▸ he)
    · rw [setL hiL, if_neg e'] at hL; exact J.cl j hj hL e he
  · by_cases e : j = i
    · subst e; exact hi.2.2.2
    · rw [setL hiL, if_neg e] at hL; exact J.rkn j hj hl hL
  · have : j ≠ i := fun e => by rw [e, hi.2.1] at hl; cases hl
    rw [setL hiL, if_neg this]; exact J.rkl j hj hl
  · rw [put_tmps J.nts hd, ← hdst]
    by_cases e : (opAt xs i).dst = some κ
    · rw [if_pos e]; exact hv κ e
    · rw [if_neg e]
      refine (J.frm κ fun j hj => ?_).mono hext
      by_cases e' : j = i
      · rw [e']; exact e
      · exact hκ j ⟨hj.1, hj.2.1, by rw [setL hiL, if_neg e']; exact hj.2.2.1, hj.2.2.2⟩
  · obtain ⟨b1, b2⟩ := back j hj
    exact ⟨hal j b1 b2 hk t id ht hid, (J.al j b1 hk t id ht hid).2⟩

theorem JJ.loud (hD : Dok xs ed f) (J : JJ Y nt base xs ed f h0 ι0 w0 (k + 1) k fr h ι L a w) {i : Nat} (hi : i < xs.length) (hl : loudAt xs i = true) (hL : L.getD i false = false) (hrk : (diAt f i).rk = k + 1) (hE : ∀ e ∈ edAt ed i, L.getD e false = true) {o : Oper} (hd : dstIn nt o) (hdst : (opAt xs i).dst = o.dst.map K.ofNat)
    {ι' : Io} {w' : World} {v : V} {v' : Value} {h1 : H} (hwr : WR Y.tab ι' h1 w') (hst : Step h.nx.nat ι w h1.nx.nat ι' w') (hv : VR ι' v v') :
    JJ Y nt base xs ed f h0 ι0 w0 (k + 1) (k + 1) (putD fr (opAt xs i).dst v) h1 ι' (L.setIfInBounds i true) (a.put o.dst v') w' := by
  have hiL : i < L.size := J.size ▸ hi
  have back : ∀ j, pend xs f (L.setIfInBounds i true) (k + 1) j → pend xs f L (k + 1) j ∧ j ≠ i := fun j hj => by
    have := hj.2.2.1
    rw [setL hiL] at this
    by_cases e : j = i
    · simp [e] at this
    · rw [if_neg e] at this; exact ⟨⟨hj.1, hj.2.1, this, hj.2.2.2⟩, e⟩
  have up : ∀ e, L.getD e false = true → (L.setIfInBounds i true).getD e false = true := fun e he => by rw [setL hiL]; split <;> simp_all
  -- the slots of those that wait
  have slot : ∀ j, pend xs f L (k + 1) j → kindE (opAt xs j).op = 1 → ∀ t, (opAt xs j).dst = some t → (putD fr (opAt xs i).dst v).get t = fr.get t := fun j hj hk t ht => putD_other fun e => by
    have hji : j ≠ i := fun e => by have := hj.2.1; rw [e, hl] at this; cases this
    rcases hD.far j i hj.1 hi hji t e (by simp [ht]) with h2 | ⟨_, h2⟩
    · have := hD.brk j i hj.1 hi hk hl h2
      have := hj.2.2.2
      omega
    · have := hD.all_anc J.cl i hi hE j hj.1 h2
      rw [hj.2.2.1] at this; cases this
  refine ⟨by simp [J.size], fun j hj hLj e he => up e ?_, fun j hj hlj hLj => ?_, fun j hj hlj => ?_, put_size.trans J.nts, fun κ hκ => ?_, hwr, J.st.trans hst, by rw [put_defers]; exact J.mks.step hst, fun j hj hk t id ht hid => ?_, fun j j' hj hj' hjj kj kj' t id t' id' ht ht' hid hid' => ?_⟩
  · by_cases e' : j = i
    · exact hE e (e' ▸ he)
    · rw [setL hiL, if_neg e'] at hLj; exact J.cl j hj hLj e he
  · have : j ≠ i := fun e => by rw [e, hl] at hlj; cases hlj
    rw [setL hiL, if_neg this] at hLj; exact J.rkn j hj hlj hLj
  · by_cases e : j = i
    · subst e; rw [setL hiL, if_pos rfl, hrk]; simp
    · rw [setL hiL, if_neg e]
      refine (J.rkl j hj hlj).trans ⟨fun h => by omega, fun h => ?_⟩
      rcases Nat.lt_or_ge (diAt f j).rk (k + 1) with h1 | h1
      · omega
      · exact absurd (hD.linj i j hi hj hl hlj (by omega)).symm e
  · rw [put_tmps J.nts hd, ← hdst]
    by_cases e : (opAt xs i).dst = some κ
    · rw [if_pos e, e, putD_same]; exact hv
    · rw [if_neg e, putD_other e]
      refine (J.frm κ fun j hj => ?_).mono hst.ext
      have hji : j ≠ i := fun e => by have := hj.2.1; rw [e, hl] at this; cases this
      exact hκ j ⟨hj.1, hj.2.1, by rw [setL hiL, if_neg hji]; exact hj.2.2.1, hj.2.2.2⟩
  · obtain ⟨b1, b2⟩ := back j hj
    rw [slot j b1 hk t ht] at hid
    obtain ⟨g1, g2, g3⟩ := J.al j b1 hk t id ht hid
    exact ⟨hst.low id g3 g1, g2, Nat.lt_of_lt_of_le g3 hst.mono⟩
  · rw [slot j (back j hj).1 kj t ht] at hid
    rw [slot j' (back j' hj').1 kj' t' ht'] at hid'
    exact J.dj j j' (back j hj).1 (back j' hj').1 hjj kj kj' t id t' id' ht ht' hid hid'
end
end Go.Ev
namespace Go.Ev
open Go Go.RowKit

noncomputable def hide (U : List K) (fr : Fr) : Fr := U.foldr (fun k fr => fr.set k .un) fr
theorem hide_get : ∀ (U : List K) (fr : Fr) (κ : K), (hide U fr).get κ = if κ ∈ U then some .un else fr.get κ
  | [], fr, κ => by simp [hide]
  | x :: U, fr, κ => by
    have : (hide (x :: U) fr).get κ = ((hide U fr).set x .un).get κ := rfl
    rw [this, T.get_set, hide_get U fr κ]
    by_cases e : κ = x
    · simp [e]
    · simp [e]
def pends (xs : List EOper) (f : List DI) (L : Array Bool) (p : Nat) : List K := ((List.range xs.length).filter fun j => !loudAt xs j && !(L.getD j false) && Nat.blt (diAt f j).rk p).filterMap fun j => (opAt xs j).dst
theorem pends_mem {xs : List EOper} {f : List DI} {L : Array Bool} {p : Nat} {κ : K} : κ ∈ pends xs f L p ↔ ∃ j, pend xs f L p j ∧ (opAt xs j).dst = some κ := by
  have blt : ∀ {a b : Nat}, Nat.blt a b = true ↔ a < b := fun {a b} => ⟨fun h => Nat.lt_of_lt_of_le (Nat.lt_succ_self _) (Nat.le_of_ble_eq_true h), fun h => Nat.ble_eq_true_of_le h⟩
  unfold pends
  rw [List.mem_filterMap]
  constructor
  · rintro ⟨j, hj, h1⟩
    obtain ⟨h2, h3⟩ := List.mem_filter.1 hj
    simp only [Bool.and_eq_true, Bool.not_eq_true'] at h3
    exact ⟨j, ⟨List.mem_range.1 h2, h3.1.1, h3.1.2, blt.1 h3.2⟩, h1⟩
  · rintro ⟨j, hj, h1⟩
    refine ⟨j, List.mem_filter.2 ⟨List.mem_range.2 hj.1, ?_⟩, h1⟩
    simp only [Bool.and_eq_true, Bool.not_eq_true']
    exact ⟨⟨hj.2.1, hj.2.2.1⟩, blt.2 hj.2.2.2⟩

section
variable {Y : Rig} {nt base : Nat} {xs : List EOper} {ed : List (List Nat)} {f : List DI} {h0 : H} {ι0 : Io} {w0 : World} {p k : Nat} {fr : Fr} {h : H} {ι : Io} {L : Array Bool} {a : Act} {w : World} {fs : T EF} {go : Go}
theorem JJ.ar (J : JJ Y nt base xs ed f h0 ι0 w0 p k fr h ι L a w) : AR nt ι (hide (pends xs f L p) fr) a := by
  refine ⟨J.nts, fun κ => ?_⟩
  rw [hide_get]
  by_cases e : κ ∈ pends xs f L p
  · rw [if_pos e]; exact .un _
  · rw [if_neg e]
    exact J.frm κ fun j hj hd => e (pends_mem.2 ⟨j, hj, hd⟩)
theorem JJ.same (hD : Dok xs ed f) (J : JJ Y nt base xs ed f h0 ι0 w0 p k fr h ι L a w) {i : Nat} (hi : i < xs.length) (hE : ∀ e ∈ edAt ed i, L.getD e false = true) : Same (opAt xs i).reads fr (hide (pends xs f L p) fr) := by
  intro κ hκ
  rw [hide_get, if_neg]
  intro hm
  obtain ⟨j, hj, hd⟩ := pends_mem.1 hm
  by_cases e : i = j
  · subst e
    exact hD.own i hi hj.2.1 κ hd hκ
  · rcases hD.far i j hi hj.1 e κ hd (List.mem_append_left _ hκ) with h1 | h1
    · have := hD.all_anc J.cl i hi hE j hj.1 h1
      rw [hj.2.2.1] at this; cases this
    · rw [hj.2.1] at h1; cases h1.1

/-! ### What may be taken -/
theorem ready_mem {ops : Array Oper} {L : Array Bool} {i : Nat} (hL : L.size = ops.size) : i ∈ Region.ready .any ops L ↔ ∃ o, ops[i]? = some o ∧ L.getD i false = false ∧ ∀ e ∈ edgesOf o, L.getD e false = true := by
  unfold Region.ready
  rw [List.mem_filter, List.mem_range]
  have hd : i < ops.size → L.getD i true = L.getD i false := fun h => by simp [Array.getD_eq_getD_getElem?, hL ▸ h]
  constructor
  · rintro ⟨h1, h2⟩
    rw [Bool.and_eq_true, hd h1] at h2
    refine ⟨ops[i], by simp [h1], by simpa using h2.1, fun e he => ?_⟩
    have h3 := h2.2
    simp only [Array.getElem?_eq_getElem h1, Option.map_some, Option.getD_some] at h3
    obtain ⟨x, hx, rfl⟩ := List.mem_map.1 he
    obtain ⟨hx1, hx2⟩ := List.mem_filter.1 hx
    have := Array.all_eq_true_iff_forall_mem.1 h3 x (Array.mem_toList_iff.1 hx1)
    rw [hx2] at this
    simpa using this
  · rintro ⟨o, h1, h2, h3⟩
    have hlt : i < ops.size := (Array.getElem?_eq_some_iff.1 h1).1
    refine ⟨hlt, ?_⟩
    rw [Bool.and_eq_true, hd hlt, h2, h1]
    refine ⟨rfl, ?_⟩
    simp only [Option.map_some, Option.getD_some]
    refine Array.all_eq_true_iff_forall_mem.2 fun x hx => ?_
    cases hb : Region.binds .any x with
    | false => rfl
    | true => simpa using h3 x.on (List.mem_map.2 ⟨x, List.mem_filter.2 ⟨Array.mem_toList_iff.2 hx, hb⟩, rfl⟩)

theorem allStay_mem : ∀ {l : List EOper} {o : EOper}, allStay fs go fr h l = true → o ∈ l → stays fs go fr h o = true
  | [], o, _, ho => absurd ho (by simp)
  | x :: l, o, hl, ho => by
    have hl : (stays fs go fr h x && allStay fs go fr h l) = true := hl
    rw [Bool.and_eq_true] at hl
    rcases List.mem_cons.1 ho with rfl | ho
    · exact hl.1
    · exact allStay_mem hl.2 ho

/-! ### A slice's literal, its name known before -/
section
variable {d : Option Tmp} {ty : TypeId} {pos : String} {aft : Array Edge} {g : Option (Nat × Bool)}
theorem op_buildSlice_core (ha : AR nt ι fr a) {t e : TypeId} {dt de : TD} {n : Nat} {z : List V} {ps : Array (Nat × Operand)} {qs : List (Nat × Nat × EO)} {cs : List V} (ht : Y.tab t = some dt) (hd : dt.desc = .slice e) (he : Y.tab e = some de) (hz : zeroOf de = some z)
    (hp : 0 < de.size) (hl : z.length = de.size) (hn : n * de.size ≤ 16777216)
    (hq : partsAt (n * de.size) (fun i => some (i * de.size, de.size)) ps.toList = some qs) (hf : fillE fr (rep z n) qs = some cs) :
    ∃ vs : List Value, (execOp a.eval ⟨d, .buildSlice t n ps, ty, pos, aft, g⟩).run Y.P w = .ok (.value (.slice (some ⟨w.heap.size, 0, none⟩) n n)) (w.alloc (.cells vs.toArray e)) ∧ VRs ι cs vs ∧ (∀ c ∈ cs, c.one = true) ∧ cs.length = n * de.size := by
  obtain ⟨h1, h2⟩ := zeros_rel (ι := ι) hz hl hp n
  have hlen : (rep z n).length = n * de.size := by rw [rep_length, hl]
  obtain ⟨vs, g1, g2, g3, g4⟩ := fill_rel ha hq h1 h2 hlen hf
  refine ⟨vs, ?_, g2, g3, g4⟩
  simp only [Array.toArray_toList] at g1
  have hmap : (ps.map fun (p : Nat × Operand) => (p.1, a.eval p.2)).toList = ps.toList.map fun p => (p.1, a.eval p.2) := by simp
  simp only [execOp, Instr.buildSlice, Sem.run_bind, Rig.und ht, hd, Result.andThen_ok, Rig.size he]
  rw [if_neg (by simpa using hn)]
  by_cases h0 : n * de.size = 0
  · have hn0 : n = 0 := by rcases Nat.mul_eq_zero.1 h0 with h | h <;> omega
    subst hn0
    simp only [Nat.zero_mul, if_true, Sem.run_bind, Sem.run_pure, Result.andThen_ok, hmap]
    simp only [Nat.zero_mul] at g1
    have : (Array.map (fun i => (#[] : Array Value)[i % (#[] : Array Value).size]!) (Array.range 0)) = Array.map (fun i => de.zero.cells[i % de.zero.cells.size]!) (Array.range 0) := by simp
    simp only [this, g1, newRow, Sem.run_bind, run_newObj, Sem.run_pure, Result.andThen_ok, World.alloc_eq]
  · simp only [h0, if_false, Sem.run_bind, Rig.zero he, Sem.run_pure, Result.andThen_ok, hmap]
    simp only [g1, newRow, Sem.run_bind, run_newObj, Sem.run_pure, Result.andThen_ok, World.alloc_eq]
end
theorem WR.reserve {tab : Tab} {id : K} {o : Obj} {room : Nat} (hr : WR tab ι h w) (hid : ι id = none) (hlt : id.nat < h.nx.nat) (hb : BR tab (updI ι id ⟨w.heap.size, 0, room, none⟩) ⟨w.heap.size, 0, room, none⟩ (w.alloc o) (h.get id)) : WR tab (updI ι id ⟨w.heap.size, 0, room, none⟩) h (w.alloc o) := by
  have hext := updI_ext (q := ⟨w.heap.size, 0, room, none⟩) hid
  have hold : ∀ c, c < w.heap.size → (w.alloc o).heap[c]? = w.heap[c]? := fun c hc => heap_alloc_old w o hc
  refine ⟨fun i q hq => ?_, fun i q hq => ?_, fun i i' q q' hq hq' hl hl' e => ?_, fun i hi => ?_, fun t d g u k1 k2 => ⟨(hr.globs.same hold) t d g u k1 k2, fun i q hq e => ?_⟩⟩
  · by_cases e : i = id
    · subst e; rw [updI_same] at hq; cases hq; exact hb
    · rw [updI_other _ _ e] at hq
      exact (hr.blk i q hq).mono hext (hold _ (hr.lt i q hq))
  · by_cases e : i = id
    · subst e; rw [updI_same] at hq; cases hq; simp
    · rw [updI_other _ _ e] at hq; have := hr.lt i q hq; simp; omega
  · by_cases e1 : i = id
    · by_cases e2 : i' = id
      · exact .inl (by rw [e1, e2])
      · subst e1; rw [updI_same] at hq; cases hq; rw [updI_other _ _ e2] at hq'
        have := hr.lt i' q' hq'; simp at e; omega
    · by_cases e2 : i' = id
      · subst e2; rw [updI_same] at hq'; cases hq'; rw [updI_other _ _ e1] at hq
        have := hr.lt i q hq; simp at e; omega
      · rw [updI_other _ _ e1] at hq; rw [updI_other _ _ e2] at hq'
        exact hr.inj i i' q q' hq hq' hl hl' e
  · rw [updI_other _ _ (fun e => by rw [e] at hi; omega)]
    exact hr.fresh i hi
  · by_cases e1 : i = id
    · subst e1; rw [updI_same] at hq; cases hq
      have := hr.globs.lt k1 k2
      simp at e; omega
    · rw [updI_other _ _ e1] at hq
      exact (hr.glob t d g u k1 k2).2 i q hq e
theorem Step.reserve {n0 n : Nat} {id : K} {o : Obj} {room : Nat} (hs : Step n0 ι0 w0 n ι w) (hid : ι id = none) (hge : n0 ≤ id.nat) : Step n0 ι0 w0 n (updI ι id ⟨w.heap.size, 0, room, none⟩) (w.alloc o) := by
  have hext := updI_ext (q := ⟨w.heap.size, 0, room, none⟩) hid
  refine ⟨hs.ext.trans hext, fun i q hq hi => ?_, fun b hb ho => (heap_alloc_old w o (Nat.lt_of_lt_of_le hb hs.size)).trans (hs.keep b hb ho), hs.os, hs.tape, hs.output, by have := hs.size; simp; omega, hs.mono, fun i hi hn => ?_⟩
  · by_cases e : i = id
    · subst e; rw [updI_same] at hq; cases hq; exact .inl hs.size
    · rw [updI_other _ _ e] at hq; exact hs.new i q hq hi
  · rw [updI_other _ _ (fun e => by rw [e] at hi; omega)]
    exact hs.low i hi hn
theorem Mk.alloc {ds : List Deferred} {id : K} {o : Obj} {room : Nat} (hm : Mk base ι w ds) : Mk base (updI ι id ⟨w.heap.size, 0, room, none⟩) (w.alloc o) ds := by
  obtain ⟨g0, l, g1, g2, g3⟩ := hm
  refine ⟨by simp; omega, l, g1, g2, fun D hD => ?_⟩
  obtain ⟨k1, k2, k3⟩ := g3 D hD
  have hlt := lt_of_heap k2
  refine ⟨k1, (heap_alloc_old w o hlt).trans k2, fun i q hq e => ?_⟩
  by_cases e' : i = id
  · subst e'; rw [updI_same] at hq; cases hq; simp at e; omega
  · rw [updI_other _ _ e'] at hq; exact k3 i q hq e
end
end Go.Ev
namespace Go.Ev
open Go Go.RowKit

theorem opAt_comp {tab : Tab} {nt : Nat} {all : List Oper} {i : Nat} {o : Oper} (h : all[i]? = some o) : opAt (all.map (compOper tab nt all)) i = compOper tab nt all o := by
  unfold opAt
  rw [List.getD_eq_getElem?_getD, List.getElem?_map, h]
  rfl
theorem edAt_map {all : List Oper} {i : Nat} {o : Oper} (h : all[i]? = some o) : edAt (all.map edgesOf) i = edgesOf o := by
  unfold edAt
  rw [List.getD_eq_getElem?_getD, List.getElem?_map, h]
  rfl

section
variable {Y : Rig} {nt base : Nat} {f : List DI} {h0 : H} {ι0 : Io} {w0 : World} {k : Nat} {fr : Fr} {h : H} {ι : Io} {L : Array Bool} {a : Act} {w : World} {fs : T EF} {go : Go} {ops : Array Oper}

noncomputable abbrev XS (Y : Rig) (nt : Nat) (ops : Array Oper) : List EOper := ops.toList.map (compOper Y.tab nt ops.toList)
abbrev ED (ops : Array Oper) : List (List Nat) := ops.toList.map edgesOf

theorem comp_of {i : Nat} {o : Oper} (ho : ops[i]? = some o) (hk : loudAt (XS Y nt ops) i = false) : ∃ eo, opAt (XS Y nt ops) i = eo ∧ compOper? Y.tab nt ops.toList o = some eo := by
  have h1 : ops.toList[i]? = some o := by simpa using ho
  have h2 := opAt_comp (tab := Y.tab) (nt := nt) h1
  cases hc : compOper? Y.tab nt ops.toList o with
  | none =>
    have e : compOper Y.tab nt ops.toList o = ⟨none, none, .no⟩ := by simp [compOper, hc]
    rw [e] at h2
    unfold loudAt at hk
    rw [h2] at hk
    cases hk
  | some eo => exact ⟨eo, by rw [h2]; simp [compOper, hc], rfl⟩

theorem quiet_kind {o : EOp} (h : kindE o ≠ 2) (h1 : kindE o ≠ 1) : o.quiet = true ∧ (∀ n sz z ps, o ≠ .bslice n sz z ps) ∧ (∀ n z, o ≠ .alloc n z) ∧ (∀ sz z l, o ≠ .mkslD sz z l) ∧ ∀ kt, o ≠ .mkmD kt := by
  cases o <;> simp_all [kindE, EOp.quiet]

theorem step_quiet (hfs : Fns Y fs) (hgo : GoOk Y go) {F : Fence} (hF : FW F) (hD : Dok (XS Y nt ops) (ED ops) f) (hbs : (ops.toList.all fun o => bsOk (compOper Y.tab nt ops.toList o) o) = true) {kk : k ≤ louds (XS Y nt ops)}
    (J : JJ Y nt base (XS Y nt ops) (ED ops) f h0 ι0 w0 (k + 1) k fr h ι L a w) (hst : ∀ i, i < (XS Y nt ops).length → loudAt (XS Y nt ops) i = false → (diAt f i).rk ≤ k → k ≤ (diAt f i).lim → Told fs go fr h (opAt (XS Y nt ops) i)) {i : Nat} {o : Oper} (ho : ops[i]? = some o) (hl : loudAt (XS Y nt ops) i = false) (hL : L.getD i false = false)
    (hE : ∀ e ∈ edgesOf o, L.getD e false = true) {Q : Exit → Act → World → Prop} {Kc : Act → World → Prop}
    (hk : ∀ a' w' ι', JJ Y nt base (XS Y nt ops) (ED ops) f h0 ι0 w0 (k + 1) k fr h ι' (L.setIfInBounds i true) a' w' → Kc a' w') : wpOpIn F 0 Y.P ops Q i Kc a w := by
  have hin : i < ops.size := (Array.getElem?_eq_some_iff.1 ho).1
  have hi : i < (XS Y nt ops).length := by simpa using hin
  have h1 : ops.toList[i]? = some o := by simpa using ho
  have hE' : ∀ e ∈ edAt (ED ops) i, L.getD e false = true := by rw [edAt_map h1]; exact hE
  have hanc := hD.all_anc J.cl i hi hE'
  -- its rank
  have hrk : (diAt f i).rk < k + 1 := by
    rcases hD.qrk i hi hl with h2 | ⟨e, he, h2⟩
    · omega
    · have hlt := hD.lt i hi e he
      have hel := hE' e he
      cases hle : loudAt (XS Y nt ops) e with
      | true => have := (J.rkl e (by omega) hle).1 hel; omega
      | false => have := J.rkn e (by omega) hle hel; omega
  have hp : pend (XS Y nt ops) f L (k + 1) i := ⟨hi, hl, hL, hrk⟩
  have hlim : k ≤ (diAt f i).lim := by
    rcases Nat.lt_or_ge (diAt f i).lim k with h2 | h2
    · obtain ⟨j, hj, hlj, hrj⟩ := hD.ex (diAt f i).lim (by omega)
      have hLj := (J.rkl j hj hlj).2 (by omega)
      have := hD.all_anc J.cl j hj (J.cl j hj hLj) i hi (hD.qlim i j hi hj hl hlj hrj)
      rw [hL] at this; cases this
    · exact h2
  have hs := hst i hi hl (by omega) hlim
  obtain ⟨eo, he1, he2⟩ := comp_of ho hl
  obtain ⟨c1, c2, ⟨op0, c3, c5⟩, c4⟩ := compOper_ok he2
  have hsame := J.same hD hi hE'
  have har := J.ar
  generalize hfr : hide (pends (XS Y nt ops) f L (k + 1)) fr = frR at hsame har
  rw [he1] at hs hsame
  obtain ⟨r, hw, hsF, hsT⟩ := hs
  have hsg : wants frR eo.g = some r := by
    rw [← hw]; exact (wants_same (by unfold EOper.reads at hsame; exact hsame.left)).symm
  have hso : Same eo.op.keys fr frR := by unfold EOper.reads at hsame; exact hsame.right
  have hwant : Region.wanted o (yielded ops a.tmps) = r := by have := wants_rel har he2 hsg; simpa using this
  unfold wpOpIn
  rw [ho]
  simp only []
  rw [hwant]
  have hdst : (opAt (XS Y nt ops) i).dst = o.dst.map K.ofNat := by rw [he1]; exact c2
  cases r with
  | false =>
    refine ⟨fun f _ => hF.fn f, hk _ _ ι ?_⟩
    refine J.quiet hp hE' c1 hdst (Ext.refl _) J.wr J.st J.mks (fun t ht => ?_) fun j hj _ hkj t id ht hid => (J.al j hj hkj t id ht hid).1
    rw [he1] at ht
    rw [hsF rfl t ht]
    exact VR.undef
  | true =>
    have hs := hsT rfl
    clear hsT hsF
    have hk2 : kindE eo.op ≠ 2 := fun e => by
      unfold loudAt at hl
      rw [he1, e] at hl; cases hl
    by_cases hk1 : kindE eo.op = 1
    · -- a slice's literal
      have hb : isBS o.op = true := by
        have hb := List.all_eq_true.1 hbs o (List.mem_of_getElem? h1)
        have hce : compOper Y.tab nt ops.toList o = eo := by simp [compOper, he2]
        rw [hce] at hb
        unfold bsOk at hb
        rw [hk1] at hb
        simpa using hb
      obtain ⟨d, op, ty, pos, aft, g⟩ := o
      cases op <;> simp only [isBS, reduceCtorEq] at hb
      case alloc t =>
        have hc := c3
        simp only [compOp, Option.bind_eq_bind, Option.bind_eq_some_iff, Option.some.injEq] at hc
        obtain ⟨dt, g1, z, g2, heo⟩ := hc
        rw [← heo] at c5
        replace heo : EOp.alloc _ _ = eo.op := c5.symm
        rcases hs with ⟨hq, _⟩ | ⟨n', sz', z', ps', t', id, cs, hop, _⟩ | ⟨n', z', t', id, hop, ht', hv, hb1⟩ | ⟨sz', z', l', t', id, kk', n', hop, _⟩ | ⟨kt', t', id, hop, _⟩
        · rw [← heo] at hq; cases hq
        · rw [← heo] at hop; cases hop
        rotate_right
        · rw [← heo] at hop; cases hop
        rotate_right
        · rw [← heo] at hop; cases hop
        · rw [← heo] at hop
          cases hop
          obtain ⟨hz1, hz2⟩ := ofV1s_rel (ι := ι) g2
          have hrun : (execOp a.eval ⟨d, .alloc t, ty, pos, aft, g⟩).run Y.P w = .ok (.value (.pointer (some ⟨w.heap.size, 0, none⟩))) (w.alloc (.cells dt.zero.cells t)) := by
            simp [execOp, Instr.alloc, Rig.zero g1, newVar, newRow]
          have hkd : kindE (opAt (XS Y nt ops) i).op = 1 := by rw [he1]; exact hk1
          have htd : (opAt (XS Y nt ops) i).dst = some t' := by rw [he1]; exact ht'
          obtain ⟨a1, a2, a3⟩ := J.al i hp hkd t' id htd (by rw [hv]; rfl)
          have hlz : dt.zero.cells.size = z.length := by rw [← Array.length_toList, hz1.len]
          have hwr : WR Y.tab (updI ι id ⟨w.heap.size, 0, dt.zero.cells.size, none⟩) h (w.alloc (.cells dt.zero.cells t)) := by
            refine J.wr.reserve a1 a3 ?_
            rw [hb1]
            refine ⟨dt.zero.cells, t, (0, 0), heap_alloc_new w _, rfl, by simp, by simp [hlz], hz2, ?_, pinOk_new rfl⟩
            show VRs _ z (List.take z.length (List.drop 0 dt.zero.cells.toList))
            have e2 : List.take z.length (List.drop 0 dt.zero.cells.toList) = dt.zero.cells.toList := by rw [List.drop_zero, List.take_of_length_le (by rw [Array.length_toList]; omega)]
            rw [e2]
            exact hz1.mono (updI_ext a1)
          simp only [if_true]
          refine ⟨fun f _ => hF.fn f, ?_⟩
          rw [Oper.semAt_eq _ _ _ (notDefer c3), hrun]
          refine hk _ _ _ (J.quiet hp hE' c1 hdst (updI_ext a1) hwr (J.st.reserve a1 a2) (J.mks.alloc) (fun t ht => ?_) fun j hj hji hkj t2 id2 ht2 hid2 => ?_)
          · rw [htd] at ht
            cases ht
            rw [hv]
            have := VR.p (off := 0) (updI_same ι id ⟨w.heap.size, 0, dt.zero.cells.size, none⟩)
            simpa using this
          · have hne := J.dj j i hj hp hji hkj hkd t2 id2 t' id ht2 htd hid2 (by rw [hv]; rfl)
            rw [updI_other _ _ hne]
            exact (J.al j hj hkj t2 id2 ht2 hid2).1
      case makeMap t r =>
        have hc := c3
        cases r with
        | some _ => simp only [compOp, reduceCtorEq] at hc
        | none =>
        simp only [compOp, Option.bind_eq_bind, Option.bind_eq_some_iff] at hc
        obtain ⟨dt, g1, hc⟩ := hc
        split at hc
        rotate_left
        · cases hc
        rename_i kt ve hd
        simp only [Option.bind_eq_some_iff, Option.some.injEq] at hc
        obtain ⟨dk, g2, kd, g3, heo⟩ := hc
        rw [← heo] at c5
        have heo : EOp.mkmD kt = eo.op := by
          unfold dupE at c5
          dsimp only at c5
          split at c5
          · exact c5.symm
          · rw [c5] at hk1; cases hk1
        rcases hs with ⟨hq, _⟩ | ⟨n', sz', z', ps', t', id, cs, hop, _⟩ | ⟨n', z', t', id, hop, _⟩ | ⟨sz', z', l2, t', id, kk', n, hop, _⟩ | ⟨kt', t', id, hop, ht', hv, hb1⟩
        · rw [← heo] at hq; cases hq
        · rw [← heo] at hop; cases hop
        · rw [← heo] at hop; cases hop
        · rw [← heo] at hop; cases hop
        rw [← heo] at hop
        cases hop
        have hrun : (execOp a.eval ⟨d, .makeMap t none, ty, pos, aft, g⟩).run Y.P w = .ok (.value (.map (some w.heap.size))) (w.alloc (.map #[] 0)) := by simp [execOp, Instr.makeMap]
        have hkd : kindE (opAt (XS Y nt ops) i).op = 1 := by rw [he1]; exact hk1
        have htd : (opAt (XS Y nt ops) i).dst = some t' := by rw [he1]; exact ht'
        obtain ⟨a1, a2, a3⟩ := J.al i hp hkd t' id htd (by rw [hv]; rfl)
        have hwr : WR Y.tab (updI ι id ⟨w.heap.size, 0, 0, none⟩) h (w.alloc (.map #[] 0)) := by
          refine J.wr.reserve a1 a3 ?_
          rw [hb1]
          exact ⟨#[], 0, heap_alloc_new w _, VRs.nil, VRs.nil, by simp, dk, kd, g2, g3, by simp⟩
        simp only [if_true]
        refine ⟨fun f _ => hF.fn f, ?_⟩
        rw [Oper.semAt_eq _ _ _ (notDefer c3), hrun]
        refine hk _ _ _ (J.quiet hp hE' c1 hdst (updI_ext a1) hwr (J.st.reserve a1 a2) (J.mks.alloc) (fun t ht => ?_) fun j hj hji hkj t2 id2 ht2 hid2 => ?_)
        · rw [htd] at ht
          cases ht
          rw [hv]
          exact VR.m (updI_same ι id ⟨w.heap.size, 0, 0, none⟩)
        · have hne := J.dj j i hj hp hji hkj hkd t2 id2 t' id ht2 htd hid2 (by rw [hv]; rfl)
          rw [updI_other _ _ hne]
          exact (J.al j hj hkj t2 id2 ht2 hid2).1
      case makeSlice t x y =>
        have hc := c3
        simp only [compOp] at hc
        split at hc
        rotate_left
        · simp only [Option.bind_eq_bind, Option.bind_eq_some_iff] at hc
          obtain ⟨dt, h1', hc⟩ := hc
          split at hc
          · simp only [Option.bind_eq_some_iff] at hc
            obtain ⟨de, h2', z, h3', hc⟩ := hc
            split at hc
            · simp only [Option.bind_eq_some_iff, Option.some.injEq] at hc
              obtain ⟨l', h4', c', h5', rfl⟩ := hc
              rw [c5] at hk1
              cases hk1
            · cases hc
          · cases hc
        rename_i hsame'
        simp only [Option.bind_eq_bind, Option.bind_eq_some_iff] at hc
        obtain ⟨dt, g1, hc⟩ := hc
        split at hc
        rotate_left
        · cases hc
        rename_i e hd
        simp only [Option.bind_eq_some_iff] at hc
        obtain ⟨de, g2, z, g3, hc⟩ := hc
        split at hc
        rotate_left
        · cases hc
        rename_i hcond
        obtain ⟨m1, m2, m3⟩ := hcond
        simp only [Option.bind_eq_some_iff, Option.some.injEq] at hc
        obtain ⟨l', g4, heo⟩ := hc
        rw [← heo] at c5
        have heo : EOp.mkslD de.size z l' = eo.op := by
          unfold dupE at c5
          dsimp only at c5
          split at c5
          · exact c5.symm
          · rw [c5] at hk1; cases hk1
        rcases hs with ⟨hq, _⟩ | ⟨n', sz', z', ps', t', id, cs, hop, _⟩ | ⟨n', z', t', id, hop, _⟩ | ⟨sz', z', l2, t', id, kk', n, hop, ht', hv, hb1, hl', hn'⟩ | ⟨kt', t', id, hop, _⟩
        · rw [← heo] at hq; cases hq
        · rw [← heo] at hop; cases hop
        · rw [← heo] at hop; cases hop
        rotate_right
        · rw [← heo] at hop; cases hop
        rw [← heo] at hop hso
        cases hop
        have hlR : ev frR l' = .i kk' (n : Int) := by rw [← hl']; exact (ev_same (by simpa [EOp.keys] using hso)).symm
        have hev : a.eval x = .int kk' (n : Int) := by
          have hv := har.ev g4
          rw [hlR] at hv
          exact hv.of_i
        have hrun := mks_run (w := w) (d := d) (ty := ty) (pos := pos) (aft := aft) (g := g) g1 hd g2 m3 hsame' hev hn'
        have hkd : kindE (opAt (XS Y nt ops) i).op = 1 := by rw [he1]; exact hk1
        have htd : (opAt (XS Y nt ops) i).dst = some t' := by rw [he1]; exact ht'
        obtain ⟨a1, a2, a3⟩ := J.al i hp hkd t' id htd (by rw [hv]; rfl)
        obtain ⟨hz1, hz2⟩ := zeros_rel (ι := ι) g3 m2 m1 n
        have hlen : (rep z n).length = n * de.size := by rw [rep_length, m2]
        generalize hzs : ((Array.range (n * de.size)).map fun i => de.zero.cells[i % de.zero.cells.size]!) = zs at hrun hz1
        have hvl : zs.size = n * de.size := by rw [← hzs]; simp
        have hwr : WR Y.tab (updI ι id ⟨w.heap.size, 0, zs.size, none⟩) h (w.alloc (.cells zs e)) := by
          refine J.wr.reserve a1 a3 ?_
          rw [hb1]
          refine ⟨zs, e, (0, 0), heap_alloc_new w _, hlen, by simp, by simp [hvl], hz2, ?_, pinOk_new rfl⟩
          show VRs _ (rep z n) (List.take (n * de.size) (List.drop 0 zs.toList))
          have e2 : List.take (n * de.size) (List.drop 0 zs.toList) = zs.toList := by rw [List.drop_zero, List.take_of_length_le (by rw [Array.length_toList]; omega)]
          rw [e2]
          exact hz1.mono (updI_ext a1)
        simp only [if_true]
        refine ⟨fun f _ => hF.fn f, ?_⟩
        rw [Oper.semAt_eq _ _ _ (notDefer c3), hrun]
        refine hk _ _ _ (J.quiet hp hE' c1 hdst (updI_ext a1) hwr (J.st.reserve a1 a2) (J.mks.alloc) (fun t ht => ?_) fun j hj hji hkj t2 id2 ht2 hid2 => ?_)
        · rw [htd] at ht
          cases ht
          rw [hv]
          have := VR.sl (off := 0) (n := n) (sz := de.size) (c := n) (updI_same ι id ⟨w.heap.size, 0, zs.size, none⟩) (by simp [hvl]) (Nat.le_refl _) m1
          simpa using this
        · have hne := J.dj j i hj hp hji hkj hkd t2 id2 t' id ht2 htd hid2 (by rw [hv]; rfl)
          rw [updI_other _ _ hne]
          exact (J.al j hj hkj t2 id2 ht2 hid2).1
      rename_i t n ps
      have hc := c3
      simp only [compOp, Option.bind_eq_bind, Option.bind_eq_some_iff] at hc
      obtain ⟨dt, g1, hc⟩ := hc
      cases hd : dt.desc <;> rw [hd] at hc <;> simp only [reduceCtorEq] at hc
      rename_i e
      simp only [Option.bind_eq_some_iff] at hc
      obtain ⟨de, g2, z, g3, hc⟩ := hc
      split at hc
      · rename_i hcond
        obtain ⟨m1, m2, m3⟩ := hcond
        simp only [Option.bind_eq_some_iff, Option.some.injEq] at hc
        obtain ⟨qs, g4, heo⟩ := hc
        rw [← heo] at c5
        replace heo : EOp.bslice _ _ _ _ = eo.op := c5.symm
        rcases hs with ⟨hq, _⟩ | ⟨n', sz', z', ps', t', id, cs, hop, ht', hv, hb1, hfill⟩ | ⟨n', z', t', id, hop, _⟩ | ⟨sz', z', l', t', id, kk', n', hop, _⟩ | ⟨kt', t', id, hop, _⟩
        rotate_right
        · rw [← heo] at hop; cases hop
        rotate_right
        · rw [← heo] at hop; cases hop
        rotate_right
        · rw [← heo] at hop; cases hop
        · rw [← heo] at hq; cases hq
        · rw [← heo] at hop hso
          cases hop
          have hfillR : fillE frR (rep z n) qs = some cs := by rw [← hfill]; exact (fill_same (by simpa [EOp.keys] using hso)).symm
          obtain ⟨vs, hrun, hvs, hone, hlen⟩ := op_buildSlice_core (w := w) (d := d) (ty := ty) (pos := pos) (aft := aft) (g := g) har g1 hd g2 g3 m1 m2 m3 g4 hfillR
          have hkd : kindE (opAt (XS Y nt ops) i).op = 1 := by rw [he1]; exact hk1
          have htd : (opAt (XS Y nt ops) i).dst = some t' := by rw [he1]; exact ht'
          obtain ⟨a1, a2, a3⟩ := J.al i hp hkd t' id htd (by rw [hv]; rfl)
          have hvl : vs.length = n * de.size := by rw [hvs.len, hlen]
          have hwr : WR Y.tab (updI ι id ⟨w.heap.size, 0, vs.toArray.size, none⟩) h (w.alloc (.cells vs.toArray e)) := by
            refine J.wr.reserve a1 a3 ?_
            rw [hb1]
            refine ⟨vs.toArray, e, (0, 0), heap_alloc_new w _, hlen, by simp, by simp [hvl], hone, ?_, pinOk_new rfl⟩
            show VRs _ cs (List.take (n * de.size) (List.drop 0 vs.toArray.toList))
            have e2 : List.take (n * de.size) (List.drop 0 vs.toArray.toList) = vs := by rw [List.drop_zero, ← hvl]; simp
            rw [e2]
            exact hvs.mono (updI_ext a1)
          simp only [if_true]
          refine ⟨fun f _ => hF.fn f, ?_⟩
          rw [Oper.semAt_eq _ _ _ (notDefer c3), hrun]
          refine hk _ _ _ (J.quiet hp hE' c1 hdst (updI_ext a1) hwr (J.st.reserve a1 a2) (J.mks.alloc) (fun t ht => ?_) fun j hj hji hkj t2 id2 ht2 hid2 => ?_)
          · rw [htd] at ht
            cases ht
            rw [hv]
            have := VR.sl (off := 0) (n := n) (sz := de.size) (c := n) (updI_same ι id ⟨w.heap.size, 0, vs.toArray.size, none⟩) (by simp [hvl]) (Nat.le_refl _) m1
            simpa using this
          · have hne := J.dj j i hj hp hji hkj hkd t2 id2 t' id ht2 htd hid2 (by rw [hv]; rfl)
            rw [updI_other _ _ hne]
            exact (J.al j hj hkj t2 id2 ht2 hid2).1
      · cases hc
    · obtain ⟨hq, hnb, hna, hnm, hnp⟩ := quiet_kind hk2 hk1
      rcases hs with ⟨_, v, hev, hs2⟩ | ⟨n', sz', z', ps', t', id, cs, hop, _⟩ | ⟨n', z', t', id, hop, _⟩ | ⟨sz', z', l', t', id, kk', n', hop, _⟩ | ⟨kt', t', id, hop, _⟩
      · skip
        rw [evop_same hso, c5, dup_ev] at hev
        simp only [if_true]
        refine oper_rel hfs hgo hF har J.wr c3 hev fun ι' v' w' s1 s2 s3 => hk _ _ ι' ?_
        refine J.quiet hp hE' c1 hdst s1.ext s3 (J.st.trans s1) (J.mks.step s1) (fun t ht => ?_) fun j hj _ hkj t id ht hid => ?_
        · rw [he1] at ht
          rw [hs2 t ht]
          exact s2
        · obtain ⟨b1, b2, b3⟩ := J.al j hj hkj t id ht hid
          exact s1.low id b3 b1
      · exact absurd hop (hnb _ _ _ _)
      · exact absurd hop (hna _ _)
      · exact absurd hop (hnm _ _ _)
      · exact absurd hop (hnp _)

theorem stagesFrom_cons {xs : List EOper} {k : Nat} (hk : k ≤ louds xs) : stagesFrom xs f k = stageOf xs f k :: stagesFrom xs f (k + 1) := by
  unfold stagesFrom
  have : louds xs + 1 - k = (louds xs + 1 - (k + 1)) + 1 := by omega
  rw [this, List.range'_succ]
  rfl

structure AtStage (Y : Rig) (nt base : Nat) (ops : Array Oper) (f : List DI) (fs : T EF) (go : Go) (h0 : H) (ι0 : Io) (w0 : World) (e : Ex) (fr' : Fr) (h' : H) (k : Nat) (fr : Fr) (h : H) (ι : Io) (L : Array Bool) (a : Act) (w : World) : Prop where
  le : k ≤ louds (XS Y nt ops)
  j : JJ Y nt base (XS Y nt ops) (ED ops) f h0 ι0 w0 (k + 1) k fr h ι L a w
  stay : ∀ i, i < (XS Y nt ops).length → loudAt (XS Y nt ops) i = false → (diAt f i).rk ≤ k → k ≤ (diAt f i).lim → Told fs go fr h (opAt (XS Y nt ops) i)
  rest : (oGet (stageOf (XS Y nt ops) f k).l (.ok .normal fr h) fun o => runOp fs go o (drawRun fs go (stagesFrom (XS Y nt ops) f (k + 1))) fr h) = .ok e fr' h'

theorem AtStage.of_draw {e : Ex} {fr' : Fr} {h' : H} (hD : Dok (XS Y nt ops) (ED ops) f) (hk : k ≤ louds (XS Y nt ops)) (J : JJ Y nt base (XS Y nt ops) (ED ops) f h0 ι0 w0 k k fr h ι L a w)
    (he : drawRun fs go (stagesFrom (XS Y nt ops) f k) fr h = .ok e fr' h') : ∃ fr2 h2, AtStage Y nt base ops f fs go h0 ι0 w0 e fr' h' k fr2 h2 ι L a w := by
  rw [stagesFrom_cons hk] at he
  obtain ⟨fr2, h2, e1, J2, _, htold⟩ := J.enter (cont := stageEnd fs go (stageOf (XS Y nt ops) f k) (drawRun fs go (stagesFrom (XS Y nt ops) f (k + 1)))) hD rfl he
  unfold stageEnd at e1
  obtain ⟨e2, e3⟩ := cond_ok (by simp) e1
  refine ⟨fr2, h2, hk, J2, fun i hi hl hr hlim => ?_, e3⟩
  by_cases he : (diAt f i).rk = k
  · exact htold i hi hl he
  · refine told_of_stays (allStay_mem e2 (mem_opAt hi ?_))
    simp only [hl, Bool.not_false, Bool.true_and, Bool.and_eq_true]
    exact ⟨Nat.ble_eq_true_of_le (by omega), Nat.ble_eq_true_of_le hlim⟩

theorem step_loud (hfs : Fns Y fs) (hgo : GoOk Y go) {F : Fence} (hF : FW F) (hD : Dok (XS Y nt ops) (ED ops) f) {e : Ex} {fr' : Fr} {h' : H}
    (S : AtStage Y nt base ops f fs go h0 ι0 w0 e fr' h' k fr h ι L a w) {i : Nat} {o : Oper} (ho : ops[i]? = some o) (hl : loudAt (XS Y nt ops) i = true) (hL : L.getD i false = false)
    (hE : ∀ e ∈ edgesOf o, L.getD e false = true) {Q : Exit → Act → World → Prop} {Kc : Act → World → Prop}
    (hk : ∀ a' w' ι' fr2 h2, AtStage Y nt base ops f fs go h0 ι0 w0 e fr' h' (k + 1) fr2 h2 ι' (L.setIfInBounds i true) a' w' → Kc a' w') : wpOpIn F 0 Y.P ops Q i Kc a w := by
  have J := S.j
  have hin : i < ops.size := (Array.getElem?_eq_some_iff.1 ho).1
  have hi : i < (XS Y nt ops).length := by simpa using hin
  have h1 : ops.toList[i]? = some o := by simpa using ho
  have hE' : ∀ e ∈ edAt (ED ops) i, L.getD e false = true := by rw [edAt_map h1]; exact hE
  have hanc := hD.all_anc J.cl i hi hE'
  obtain ⟨r1, r2⟩ := hD.lrk i hi hl
  have hgt : k < (diAt f i).rk := by
    rcases Nat.lt_or_ge k (diAt f i).rk with h2 | h2
    · exact h2
    · have := (J.rkl i hi hl).2 h2; rw [hL] at this; cases this
  have hrk : (diAt f i).rk = k + 1 := by
    rcases Nat.lt_or_ge (k + 1) (diAt f i).rk with h2 | h2
    · obtain ⟨j, hj, hlj, hrj⟩ := hD.ex k (by omega)
      have hLj := hanc j hj (hD.lanc i j hi hj hl hlj (by omega))
      have := (J.rkl j hj hlj).1 hLj
      omega
    · omega
  have hx : (stageOf (XS Y nt ops) f k).l = some (opAt (XS Y nt ops) i) := by
    unfold stageOf
    simp only []
    have hmem := mem_opAt (p := fun i => loudAt (XS Y nt ops) i && Nat.beq (diAt f i).rk (k + 1)) hi (by simp only [hl, hrk]; simp)
    cases hh : ((pickI (XS Y nt ops) fun i => loudAt (XS Y nt ops) i && Nat.beq (diAt f i).rk (k + 1)).map (opAt (XS Y nt ops))) with
    | nil => rw [hh] at hmem; simp at hmem
    | cons y l =>
      have hy : y ∈ (pickI (XS Y nt ops) fun i => loudAt (XS Y nt ops) i && Nat.beq (diAt f i).rk (k + 1)).map (opAt (XS Y nt ops)) := by rw [hh]; exact List.mem_cons_self
      obtain ⟨j, hj, hpj, rfl⟩ := opAt_mem hy
      rw [Bool.and_eq_true] at hpj
      have := hD.linj i j hi hj hl hpj.1 (by rw [Nat.eq_of_beq_eq_true hpj.2, hrk])
      subst this
      rfl
  have hrest := S.rest
  rw [hx] at hrest
  have hrest : runOp fs go (opAt (XS Y nt ops) i) (drawRun fs go (stagesFrom (XS Y nt ops) f (k + 1))) fr h = .ok e fr' h' := hrest
  have hop : opAt (XS Y nt ops) i = compOper Y.tab nt ops.toList o := opAt_comp h1
  cases hno : compOper? Y.tab nt ops.toList o with
  | none =>
    have e : compOper Y.tab nt ops.toList o = ⟨none, none, .no⟩ := by simp [compOper, hno]
    rw [hop, e] at hrest
    cases hrest
  | some eo =>
    have he1 : opAt (XS Y nt ops) i = eo := by rw [hop]; simp [compOper, hno]
    obtain ⟨c1, c2, ⟨op0, c3, c5⟩, _⟩ := compOper_ok hno
    have hsame := J.same hD hi hE'
    have har := J.ar
    generalize hfr : hide (pends (XS Y nt ops) f L (k + 1)) fr = frR at hsame har
    rw [he1] at hsame
    have hdst : (opAt (XS Y nt ops) i).dst = o.dst.map K.ofNat := by rw [he1]; exact c2
    unfold runOp at hrest
    rw [he1] at hrest
    obtain ⟨r, hw, hrest⟩ := oGet_res hrest
    have hsg : wants frR eo.g = some r := by
      rw [← hw]; exact (wants_same (by unfold EOper.reads at hsame; exact hsame.left)).symm
    have hso : Same eo.op.keys fr frR := by unfold EOper.reads at hsame; exact hsame.right
    have hwant : Region.wanted o (yielded ops a.tmps) = r := by have := wants_rel har hno hsg; simpa using this
    unfold wpOpIn
    rw [ho]
    simp only []
    rw [hwant]
    cases r with
    | false =>
      refine ⟨fun f _ => hF.fn f, ?_⟩
      have J2 := J.loud hD hi hl hL hrk hE' c1 hdst (v := undefV) (v' := undef) (h1 := h) J.wr (Step.refl _ _ _) VR.undef
      rw [he1] at J2
      obtain ⟨fr2, h2, S2⟩ := AtStage.of_draw hD (by omega) J2 hrest
      exact hk _ _ _ _ _ S2
    | true =>
      cases hev : evop fs go fr h eo.op with
      | no => rw [hev] at hrest; cases hrest
      | ok v h1 =>
        rw [hev] at hrest
        rw [evop_same hso, c5, dup_ev] at hev
        simp only [if_true]
        refine oper_rel hfs hgo hF har J.wr c3 hev fun ι' v' w' s1 s2 s3 => ?_
        have J2 := J.loud hD hi hl hL hrk hE' c1 hdst s3 s1 s2
        rw [he1] at J2
        obtain ⟨fr2, h2, S2⟩ := AtStage.of_draw hD (by omega) J2 hrest
        exact hk _ _ _ _ _ S2

theorem all_listed (hD : Dok (XS Y nt ops) (ED ops) f) (hs : L.size = ops.size) (hr : ∀ i, i ∉ Region.ready .any ops L) : ∀ i, i < ops.size → L.getD i false = true := by
  intro i
  induction i using Nat.strongRecOn with
  | _ i ih =>
    intro hi
    cases hL : L.getD i false with
    | true => rfl
    | false =>
      exfalso
      have ho : ops[i]? = some ops[i] := Array.getElem?_eq_getElem hi
      refine hr i ((ready_mem hs).2 ⟨ops[i], ho, hL, fun e he => ?_⟩)
      have h1 : ops.toList[i]? = some ops[i] := by simp
      have hlt := hD.lt i (by simpa using hi) e (by rw [edAt_map h1]; exact he)
      exact ih e hlt (by omega)

theorem AtStage.fin (hD : Dok (XS Y nt ops) (ED ops) f) {e : Ex} {fr' : Fr} {h' : H} (S : AtStage Y nt base ops f fs go h0 ι0 w0 e fr' h' k fr h ι L a w) (hall : ∀ i, i < ops.size → L.getD i false = true) : CQ Y nt base h0 ι0 w0 e fr' h' .normal a w := by
  have hkk : k = louds (XS Y nt ops) := by
    rcases Nat.lt_or_ge k (louds (XS Y nt ops)) with h2 | h2
    · obtain ⟨j, hj, hlj, hrj⟩ := hD.ex k h2
      have := (S.j.rkl j hj hlj).1 (hall j (by simpa using hj))
      omega
    · have := S.le; omega
  have hx : (stageOf (XS Y nt ops) f k).l = none := by
    unfold stageOf
    simp only []
    cases hh : ((pickI (XS Y nt ops) fun i => loudAt (XS Y nt ops) i && Nat.beq (diAt f i).rk (k + 1)).map (opAt (XS Y nt ops))) with
    | nil => rfl
    | cons y l =>
      exfalso
      have hy : y ∈ (pickI (XS Y nt ops) fun i => loudAt (XS Y nt ops) i && Nat.beq (diAt f i).rk (k + 1)).map (opAt (XS Y nt ops)) := by rw [hh]; exact List.mem_cons_self
      obtain ⟨j, hj, hpj, rfl⟩ := opAt_mem hy
      rw [Bool.and_eq_true] at hpj
      have := (hD.lrk j hj hpj.1).2
      have := Nat.eq_of_beq_eq_true hpj.2
      omega
  have hrest := S.rest
  rw [hx] at hrest
  have hrest : Res.ok .normal fr h = .ok e fr' h' := hrest
  cases hrest
  exact ⟨rfl, ι, S.j.st, ⟨S.j.nts, fun κ => S.j.frm κ fun j hj _ => by
    have := hall j (by simpa using hj.1)
    rw [hj.2.2.1] at this; cases this⟩, S.j.wr, S.j.mks⟩

theorem walk (hfs : Fns Y fs) (hgo : GoOk Y go) {F : Fence} (hF : FW F) (hD : Dok (XS Y nt ops) (ED ops) f) (hbs : (ops.toList.all fun o => bsOk (compOper Y.tab nt ops.toList o) o) = true) {e : Ex} {fr' : Fr} {h' : H} :
    ∀ (fuel : Nat) {k : Nat} {fr : Fr} {h : H} {ι : Io} {L : Array Bool} {a : Act} {w : World}, L.toList.countP (fun b => !b) ≤ fuel → AtStage Y nt base ops f fs go h0 ι0 w0 e fr' h' k fr h ι L a w →
      wpAnyIn F 0 Y.P .any ops (CQ Y nt base h0 ι0 w0 e fr' h') fuel L a w
  | 0, k, fr, h, ι, L, a, w, hn, S => by
    have hsz : L.size = ops.size := by have := S.j.size; simpa using this
    have hall : ∀ i, i < ops.size → L.getD i false = true := fun i hi => by
      have h0 : L.toList.countP (fun b => !b) = 0 := by omega
      have := List.countP_eq_zero.1 h0 (L[i]'(by omega)) (by simp)
      have hg : L.getD i false = L[i]'(by omega) := by simp [Array.getD_eq_getD_getElem?, hsz ▸ hi]
      rw [hg]
      simpa using this
    refine ⟨List.eq_nil_iff_forall_not_mem.2 fun i hi => ?_, S.fin hD hall⟩
    obtain ⟨o, ho, hL, _⟩ := (ready_mem hsz).1 hi
    have := hall i (Array.getElem?_eq_some_iff.1 ho).1
    rw [hL] at this; cases this
  | fuel + 1, k, fr, h, ι, L, a, w, hn, S => by
    have hsz : L.size = ops.size := by have := S.j.size; simpa using this
    refine ⟨fun hr => S.fin hD (all_listed hD hsz fun i hi => by rw [hr] at hi; simp at hi), fun i hi => ?_⟩
    obtain ⟨o, ho, hL, hE⟩ := (ready_mem hsz).1 hi
    have hin : i < ops.size := (Array.getElem?_eq_some_iff.1 ho).1
    have hcount : (L.setIfInBounds i true).toList.countP (fun b => !b) ≤ fuel := by
      have hil : i < L.toList.length := by simp; omega
      have hg : L.getD i false = L.toList[i] := by simp [Array.getD_eq_getD_getElem?, hsz ▸ hin]
      rw [hg] at hL
      rw [Array.toList_setIfInBounds, List.countP_set hil, hL]
      have : 0 < L.toList.countP (fun b => !b) := List.countP_pos_iff.2 ⟨L.toList[i], List.getElem_mem _, by rw [hL]; rfl⟩
      simp only [Bool.not_false, Bool.not_true, if_true, Bool.false_eq_true, if_false]
      omega
    cases hl : loudAt (XS Y nt ops) i with
    | false => exact step_quiet hfs hgo hF hD hbs (kk := S.le) S.j S.stay ho hl hL hE fun a' w' ι' J' => walk hfs hgo hF hD hbs fuel hcount ⟨S.le, J', S.stay, S.rest⟩
    | true => exact step_loud hfs hgo hF hD S ho hl hL hE fun a' w' ι' fr2 h2 S' => walk hfs hgo hF hD hbs fuel hcount S'
end

theorem drawOk {Y : Rig} {fs : T EF} (hfs : Fns Y fs) : DrawOk Y fs := by
  intro go hgo ro nt base id ops fr h e fr' h' he F ι a w hF ha hr hm
  have he : evStep fs go ro (compDraw (ops.toList.all fun o => bsOk (compOper Y.tab nt ops.toList o) o) (XS Y nt ops) (ED ops)) fr h = .ok e fr' h' := he
  unfold compDraw at he
  split at he
  · rename_i hc
    rw [Bool.and_eq_true] at hc
    have hD := drawB_ok hc.2
    generalize info (XS Y nt ops) (ED ops) = f at he hD
    have he : drawRun fs go (stagesFrom (XS Y nt ops) f 0) fr h = .ok e fr' h' := he
    refine wpIn_region_any Y.hmix ?_
    have hst : Step h.nx.nat ι w h.nx.nat ι { w with drawn := w.drawn + 1 } := Step.world (fun _ _ => rfl) (Nat.le_refl _) rfl rfl rfl
    have hz : ∀ j, (Array.replicate ops.size false).getD j false = false := fun j => by
      simp only [Array.getD_eq_getD_getElem?, Array.getElem?_replicate]
      split <;> rfl
    have J : JJ Y nt base (XS Y nt ops) (ED ops) f h ι w 0 0 fr h ι (Array.replicate ops.size false) a { w with drawn := w.drawn + 1 } := by
      refine ⟨by simp, fun j _ hj => ?_, fun j _ _ hj => ?_, fun j hj hl => ?_, ha.nt, fun κ _ => ha.fr κ, hr.same (fun _ _ => rfl) (Nat.le_refl _), hst, hm.step hst, fun j hj => absurd hj.2.2.2 (by omega), fun j _ hj => absurd hj.2.2.2 (by omega)⟩
      · rw [hz] at hj; cases hj
      · rw [hz] at hj; cases hj
      · have := (hD.lrk j hj hl).1
        rw [hz]
        simp
        omega
    obtain ⟨fr2, h2, S⟩ := AtStage.of_draw hD (Nat.zero_le _) J he
    refine walk hfs hgo hF hD hc.1 _ ?_ S
    have := List.countP_le_length (p := fun b => !b) (l := (Array.replicate ops.size false).toList)
    simpa using this
  · cases he

theorem evalOk {Y : Rig} {fs : T EF} (hfs : Fns Y fs) (n : Nat) : GoOk Y (eval fs n) := goOk hfs (drawOk hfs) n
end Go.Ev
