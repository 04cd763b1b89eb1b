/-
  The evaluator, part L: calls of functions' values; rounds; lists of operations.
-/
import Derived.Test.YtneacehpoaambaaEvK
namespace Go.Ev
open Go Go.RowKit

theorem RV.all_ok {r : Res} {f : Ex → Fr → H → RV} {v : V} {h : H} (he : r.all f = .ok v h) : ∃ e fr h1, r = .ok e fr h1 ∧ f e fr h1 = .ok v h := by
  cases r with
  | no => cases he
  | ok e fr h1 => exact ⟨e, fr, h1, rfl, he⟩
theorem Blk.onL_ok {b : Blk} {f : LS → Option Ex → T V → List K → EC → EC → RV} {v : V} {h : H} (he : b.onL f = .ok v h) : ∃ s j fr ps a c, b = .loop s j fr ps a c ∧ f s j fr ps a c = .ok v h := by
  cases b <;> first | exact ⟨_, _, _, _, _, _, rfl, he⟩ | cases he
theorem isReady_ok {s : LS} {x : RV} {v : V} {h : H} (he : isReady s x = .ok v h) : s = .ready ∧ x = .ok v h := by cases s <;> first | exact ⟨rfl, he⟩ | cases he
theorem isBusy_ok {s : LS} {x : RV} {v : V} {h : H} (he : isBusy s x = .ok v h) : s = .busy ∧ x = .ok v h := by cases s <;> first | exact ⟨rfl, he⟩ | cases he
theorem isN_ok {e : Ex} {x : RV} {v : V} {h : H} (he : isN e x = .ok v h) : e = .normal ∧ x = .ok v h := by cases e <;> first | exact ⟨rfl, he⟩ | cases he

section
variable {Y : Rig} {nt : Nat} {ι : Io} {fr : Fr} {a : Act} {h h' : H} {w : World} {v : V}

theorem bind_rel {ps : List K} {args : List V} {tps : List Tmp} {vals : List Value} : ∀ {fr : Fr} {tmps : Array Value}, FR ι fr tmps → tmps.size = nt → (∀ p ∈ ps, p.nat < nt) → tps = ps.map K.nat → VRs ι args vals → args.length = ps.length →
    FR ι (bindK fr ps args) ((tps.zip vals).foldl (fun tmps (t, a) => tmps.setIfInBounds t a) tmps) ∧ ((tps.zip vals).foldl (fun tmps (t, a) => tmps.setIfInBounds t a) tmps).size = nt := by
  induction ps generalizing args tps vals with
  | nil =>
    intro fr tmps hf hsz _ htp hv hl
    subst htp
    exact ⟨hf, hsz⟩
  | cons p ps ih =>
    intro fr tmps hf hsz hp htp hv hl
    subst htp
    cases args with
    | nil => simp at hl
    | cons x args =>
      obtain ⟨x', vals, rfl, h1, h2⟩ := hv.inv_cons
      have hput := AR.put (a := { tmps := tmps, defers := [] }) ⟨hsz, hf⟩ (t := p.nat) (hp p List.mem_cons_self) h1
      have hk : K.ofNat p.nat = p := K.nat_inj (K.ofNat_nat _)
      rw [hk] at hput
      have h3 : FR ι (fr.set p x) (tmps.setIfInBounds p.nat x') := hput.fr
      have h4 : (tmps.setIfInBounds p.nat x').size = nt := hput.nt
      have key := ih (fr := fr.set p x) (tmps := tmps.setIfInBounds p.nat x') h3 h4 (fun q hq => hp q (List.mem_cons_of_mem _ hq)) rfl h2 (by simpa using hl)
      exact key

/-- yield is called: a round. -/
theorem round_rel {go : Go} (hgo : GoOk Y go) {id : K} {q : Pl} {args : List V} {vals : List Value} (hq : ι id = some q) (hv : VRs ι args vals) (hr : WR Y.tab ι h w)
    (he : ((h.get id).onL fun s _ fr ps a c => roundA go id args h s fr ps a c) = .ok v h') :
    ∃ fn tmps assign body, (Instr.yield q.b vals.toArray).run Y.P w = .ok (.round q.b fn tmps assign body) w ∧ ∀ F, FW F → RoundIn F 0 Y.P q.b fn tmps assign body w (Post Y h ι w v h') := by
  obtain ⟨s, j, fr0, ps, a0, c0, hb, he1⟩ := Blk.onL_ok he
  obtain ⟨hlen, he2⟩ := cond_ok RV.no_ne he1
  have hlen := Nat.eq_of_beq_eq_true hlen
  rw [lenL_eq, lenL_eq] at hlen
  obtain ⟨rfl, he3⟩ := isReady_ok he2
  obtain ⟨e1, fr1, h1, hres1, he4⟩ := RV.all_ok he3
  obtain ⟨rfl, he5⟩ := isN_ok he4
  have hblk := hr.blk id q hq
  rw [hb] at hblk
  obtain ⟨L, nt, hh, l1, l2, l3, l4, l5, l6, l7, l8⟩ := hblk
  have hpsz : L.params.size = ps.length := by rw [← Array.length_toList, l5]; simp
  have hvl := hv.len
  have hy := run_yield (P := Y.P) (args := vals.toArray) hh (by simp; omega)
  have hbind := bind_rel (nt := nt) (tps := L.params.toList) l3 l4 l6 l5 hv hlen
  have htm : (L.params.zip vals.toArray).foldl (fun tmps (t, a) => tmps.setIfInBounds t a) L.tmps = (L.params.toList.zip vals).foldl (fun tmps (t, a) => tmps.setIfInBounds t a) L.tmps := by
    rw [← Array.foldl_toList]; simp
  refine ⟨L.fn, _, L.assign, L.body, hy, fun F hF => roundIn_of_wpIn (hF.fn _) ?_⟩
  rw [htm, hF.into]
  subst l7
  have hst1 := hgo (some id) nt w.heap.size L.assign _ h .normal fr1 h1 hres1 (Fence.wide.inRound q.b) ι { tmps := (L.params.toList.zip vals).foldl (fun tmps (t, a) => tmps.setIfInBounds t a) L.tmps, defers := [] } w ⟨q, hq, rfl⟩ ⟨hbind.2, hbind.1⟩ hr (Mk.nil ι w)
  refine wpIn_mono hst1 ?_
  rintro ex a1 w1 ⟨rfl, ι1, s1, har1, hwr1, hmk1⟩
  obtain ⟨s2, j2, fr2, ps2, aa2, cc2, hb2, he6⟩ := Blk.onL_ok he5
  obtain ⟨rfl, he7⟩ := isReady_ok he6
  obtain ⟨e3, fr3, h3, hres3, he8⟩ := RV.all_ok he7
  obtain ⟨s4, j4, fr4, ps4, aa4, cc4, hb4, he9⟩ := Blk.onL_ok he8
  obtain ⟨rfl, he10⟩ := isBusy_ok he9
  have hq1 := s1.ext _ _ hq
  have hblk1 := hwr1.blk id q hq1
  rw [hb2] at hblk1
  obtain ⟨L1, nt1, hh1, m1, m2, m3, m4, m5, m6, m7, m8⟩ := hblk1
  have hlt1 := lt_of_heap hh1
  have hlive1 : live h1 id := by unfold live; rw [hb2]; simp
  refine ⟨_, run_beginRound hh1 m1, ?_⟩
  obtain ⟨sb, wrb⟩ := hwr1.write (b := .loop .busy j2 fr2 ps2 aa2 cc2) (w' := w1.putObj q.b (.loop { L1 with state := .busy })) hq1 hlive1 (by simp) (fun c hc => World.putObj_heap_other hc) rfl rfl rfl
    ⟨{ L1 with state := .busy }, nt1, World.putObj_heap_same hlt1, rfl, m2, m3, m4, m5, m6, m7, m8⟩
  have hst2 := hgo (some id) nt 0 L.body _ _ e3 fr3 h3 (by rw [l8]; exact hres3) (Fence.wide.inRound q.b) ι1 a1 (w1.putObj q.b (.loop { L1 with state := .busy })) ⟨q, hq1, rfl⟩ har1 wrb ?_
  · refine wpIn_mono hst2 ?_
    rintro ex a3 w3 ⟨rfl, ι3, s3, har3, hwr3, hmk3⟩
    have hq3 := s3.ext _ _ hq1
    have hblk3 := hwr3.blk id q hq3
    rw [hb4] at hblk3
    obtain ⟨L3, nt3, hh3, n1, n2, n3, n4, n5, n6, n7, n8⟩ := hblk3
    have hlt3 := lt_of_heap hh3
    have hlive3 : live h3 id := by unfold live; rw [hb4]; simp
    have hall := (s1.trans sb).trans s3
    have fin : ∀ (jump : Option Code) (s' : LS) (j' : Option Ex), s'.of = (if jump.isNone then LoopState.ready else LoopState.done) → j'.bind Ex.code = jump → endR id e3 fr4 ps4 aa4 cc4 h3 = .ok (.b jump.isNone) (h3.put id (.loop s' j' fr4 ps4 aa4 cc4)) →
        ∃ u w', (Instr.endRound q.b jump).run Y.P w3 = .ok u w' ∧ Post Y h ι w v h' (.returned u) w' := by
      intro jump s' j' e1 e2 e3
      rw [e3] at he10
      cases he10
      obtain ⟨sc, wrc⟩ := hwr3.write (b := .loop s' j' fr4 ps4 aa4 cc4) (w' := w3.putObj q.b (.loop { L3 with state := if jump.isNone then .ready else .done, pending := jump })) hq3 hlive3 (by simp) (fun c hc => World.putObj_heap_other hc) rfl rfl rfl
        ⟨{ L3 with state := if jump.isNone then .ready else .done, pending := jump }, nt3, World.putObj_heap_same hlt3, e1.symm, e2.symm, n3, n4, n5, n6, n7, n8⟩
      exact ⟨_, _, run_endRound jump hh3, ι3, _, rfl, hall.trans sc, .b _, wrc⟩
    cases e3 with
    | normal => exact fin none .ready none rfl rfl rfl
    | ret => exact fin (some .ret) .done (some .ret) rfl rfl rfl
    | exit i => exact fin (some (.exit i)) .done (some (.exit i)) rfl rfl rfl
  · obtain ⟨g1, g2⟩ := hmk1.step sb
    exact ⟨Nat.zero_le _, by
      obtain ⟨l, g3, g4, g5⟩ := g2
      exact ⟨l, g3, g4, fun D hD => ⟨Nat.zero_le _, (g5 D hD).2⟩⟩⟩

/-- A call of a function's value. -/
theorem call_rel {fs : T EF} (hfs : Fns Y fs) {go : Go} (hgo : GoOk Y go) {f : V} {fv : Value} {args : List V} {vals : List Value} (he : callV fs go f args h = .ok v h') (hf : VR ι f fv) (hv : VRs ι args vals) (hr : WR Y.tab ι h w) :
    (∃ g caps, fv = .func (.func g) #[] caps ∧ (callFunc g (vals.toArray ++ caps)).run Y.P w = .ok (.enter g (vals.toArray ++ caps)) w ∧ CallsIn Fence.wide 0 Y.P g (vals.toArray ++ caps) w (Post Y h ι w v h')) ∨
    (∃ l, fv = .func (.yield l) #[] #[] ∧ ∃ fn tmps assign body, (Instr.yield l vals.toArray).run Y.P w = .ok (.round l fn tmps assign body) w ∧ ∀ F, FW F → RoundIn F 0 Y.P l fn tmps assign body w (Post Y h ι w v h')) := by
  unfold callV at he
  cases f <;> simp only [] at he <;> try cases he
  · rename_i k caps
    obtain ⟨ef, h1, he1⟩ := oGet_ok he
    cases hf with
    | @fn _ _ us hl hc =>
     left
     rcases hfs k ef h1 with ⟨hnv, fn, c, hfn⟩ | ⟨g, hnv, ⟨fn, hf1, hf2, hf3⟩, hg⟩
     · have he1 : oGet ef.nv (callF go ef (cat args caps) h) (fun g => okv (g (cat args caps)) h) = .ok v h' := he1
       rw [hnv] at he1
       have he1 : callF go ef (cat args caps) h = .ok v h' := he1
       refine ⟨k.nat, us.toArray, rfl, ?_, ?_⟩
       · have hn' : ¬ fn.name = "runtime.NumGoroutine" := by simpa using hfn.name
         have hb' : ¬ fn.body = none := fun e => by rw [hfn.body] at e; cases e
         simp [callFunc, hfn.def_, hb', hn']
       · rw [cat_eq] at he1
         have := callF_rel hgo hfn he1 (hv.append ⟨hl, hc⟩) hr
         simpa using this
     · have he1 : oGet ef.nv (callF go ef (cat args caps) h) (fun g => okv (g (cat args caps)) h) = .ok v h' := he1
       rw [hnv] at he1
       obtain ⟨he2, rfl⟩ := okv_ok (show okv (g (cat args caps)) h = .ok v h' from he1)
       rw [cat_eq] at he2
       refine ⟨k.nat, us.toArray, rfl, ?_, ?_⟩
       · have hn' : ¬ fn.name = "runtime.NumGoroutine" := by simpa using hf3
         simp [callFunc, hf1, hf2, hn']
       · have := hg _ v he2 ι _ w (hv.append ⟨hl, hc⟩)
         have e2 : (vals ++ us).toArray = vals.toArray ++ us.toArray := by simp
         rw [e2] at this
         refine this.mono ?_
         rintro e w' ⟨v', rfl, g1, g2, g3, g4, g5, g6⟩
         exact ⟨ι, v', rfl, ⟨Ext.refl ι, fun id q h k => (by rw [h] at k; cases k), fun b hb _ => g6 b hb, g2, g3, g4, g5, Nat.le_refl _, fun _ _ h => h⟩, g1 ι, hr.same g6 g5⟩
  · rename_i id
    cases hf with
    | @yl _ q hq =>
      right
      exact ⟨q.b, rfl, round_rel hgo hq hv hr he⟩
end
end Go.Ev
