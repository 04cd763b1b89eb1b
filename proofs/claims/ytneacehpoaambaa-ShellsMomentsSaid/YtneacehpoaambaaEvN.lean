/-
  The evaluator, part N: code.
-/
import Derived.Test.YtneacehpoaambaaEvM
namespace Go.Ev
open Go Go.RowKit

theorem wpIn_loop_ghost {F : Fence} {n : Nat} {P : Program} {Q : Exit → Act → World → Prop} {a : Act} {w : World} {c : Code} {σ : Type} (I : σ → Act → World → Prop) (μ : σ → Nat) (s₀ : σ) (h₀ : I s₀ a w)
    (round : ∀ s a w, I s a w → c.wpIn F n P (Exit.then (fun a' w' => ∃ s', I s' a' w' ∧ μ s' < μ s) Q) a w) : (Code.loop c).wpIn F n P Q a w := by
  intro b k cs hro hb hr
  have key : ∀ j s a w, μ s = j → I s a w →
      ∃ e a' w', Q e a' w' ∧ ArrivesIn (Machine.fenced P F) P (lone (b.atR a (.code c :: .inLoop c :: k)) cs w) b k cs e a' w' := by
    intro j
    induction j using Nat.strongRecOn with
    | _ j ih =>
      intro s a w hn hI
      obtain ⟨e, a₁, w₁, hq, harr⟩ := round s a w hI b (.inLoop c :: k) cs hro hb hr
      cases e with
      | normal =>
        obtain ⟨s₁, hI₁, hlt⟩ := hq
        obtain ⟨e₂, a₂, w₂, hq₂, harr₂⟩ := ih (μ s₁) (hn ▸ hlt) s₁ a₁ w₁ rfl hI₁
        exact ⟨e₂, a₂, w₂, hq₂, .of_steps (StepsIn.trans harr (.one (fenced_calm hb hr rfl) stepR_inLoop)) harr₂⟩
      | exit id => exact ⟨_, a₁, w₁, hq, .pass (x := .inLoop c) rfl (fun _ _ => .inl (by simp)) harr⟩
      | goto l => exact ⟨_, a₁, w₁, hq, .pass (x := .inLoop c) rfl (fun _ _ => .inl (by simp)) harr⟩
      | ret => exact ⟨_, a₁, w₁, hq, .pass (x := .inLoop c) rfl (fun _ _ => .inl (by simp)) harr⟩
      | panic ch => exact ⟨_, a₁, w₁, hq, .pass (x := .inLoop c) rfl (fun _ _ => .inl (by simp)) harr⟩
      | outgrown => exact ⟨_, a₁, w₁, hq, .pass (x := .inLoop c) rfl (fun _ _ => .inl (by simp)) harr⟩
  obtain ⟨e, a', w', hq, harr⟩ := key _ s₀ a w rfl h₀
  exact ⟨e, a', w', hq, .of_steps (.one (fenced_calm hb hr rfl) stepR_loop) harr⟩

section
variable {P : Program} {b : Frame} {a : Act} {k : List Item} {cs : List Frame} {w : World}
theorem stepR_scope {c : Code} : step P (lone (b.atR a (.code (.scope c) :: k)) cs w) = .next (lone (b.atR a (.code c :: .inScope c :: k)) cs w) :=
  step_lone_go (by simp [stepG, stepG.exec, Frame.atR])
theorem stepR_inScope {c : Code} : step P (lone (b.atR a (.inScope c :: k)) cs w) = .next (lone (b.atR a k) cs w) :=
  step_lone_go (by simp [stepG, stepG.exec, Frame.atR])
end
theorem wpIn_scope {F : Fence} {n : Nat} {P : Program} {Q : Exit → Act → World → Prop} {a : Act} {w : World} {c : Code} (hQ : ∀ l a w, ¬ Q (.goto l) a w) (h : c.wpIn F n P Q a w) : (Code.scope c).wpIn F n P Q a w := by
  intro b k cs hro hb hr
  have h0 : (lone (b.atR a (.code (.scope c) :: k)) cs w).fenced P F := fenced_calm hb hr rfl
  obtain ⟨e, a₁, w₁, hq, harr⟩ := h b (.inScope c :: k) cs hro hb hr
  cases e with
  | normal => exact ⟨.normal, a₁, w₁, hq, .head h0 stepR_scope (StepsIn.trans harr (.one (fenced_calm hb hr rfl) stepR_inScope))⟩
  | exit id =>
    have hx : exitTo id (.inScope c :: k) = exitTo id k := by simp [exitTo]
    exact ⟨.exit id, a₁, w₁, hq, fun k' hk => .head h0 stepR_scope (harr.1 k' (by rw [hx]; exact hk)),
        fun hr' hk => let ⟨k₁, h1, h2⟩ := harr.2 hr' (by rw [hx]; exact hk); ⟨k₁, h1, .head h0 stepR_scope h2⟩⟩
  | goto l => exact absurd hq (hQ l a₁ w₁)
  | ret => exact ⟨_, a₁, w₁, hq, .of_steps (.one h0 stepR_scope) harr⟩
  | panic ch => exact ⟨_, a₁, w₁, hq, .of_steps (.one h0 stepR_scope) harr⟩
  | outgrown => exact ⟨_, a₁, w₁, hq, .of_steps (.one h0 stepR_scope) harr⟩

theorem Step.world {n : Nat} {ι : Io} {w w' : World} (hb : ∀ b, b < w.heap.size → w'.heap[b]? = w.heap[b]?) (hs : w.heap.size ≤ w'.heap.size) (hos : w'.os = w.os) (htp : w'.tape = w.tape) (hout : w'.output = w.output) : Step n ι w n ι w' :=
  ⟨Ext.refl ι, fun id q h k => (by rw [h] at k; cases k), fun b h _ => hb b h, hos, htp, hout, hs, Nat.le_refl _, fun _ _ h => h⟩

section
variable {Y : Rig} {nt base : Nat} {ι : Io} {fr fr' : Fr} {a : Act} {h h' : H} {w : World} {e : Ex}

theorem CQ.trans {h1 : H} {ι1 : Io} {w1 : World} (hs : Step h.nx.nat ι w h1.nx.nat ι1 w1) {ex : Exit} {a' : Act} {w' : World} (hq : CQ Y nt base h1 ι1 w1 e fr' h' ex a' w') : CQ Y nt base h ι w e fr' h' ex a' w' := by
  obtain ⟨h1, ι', h2, h3⟩ := hq
  exact ⟨h1, ι', hs.trans h2, h3⟩

theorem Res.go_ok {r : Res} {f : Fr → H → Res} (he : r.go f = .ok e fr' h') : (∃ fr1 h1, r = .ok .normal fr1 h1 ∧ f fr1 h1 = .ok e fr' h') ∨ (e ≠ .normal ∧ r = .ok e fr' h') := by
  cases r with
  | no => cases he
  | ok e1 fr1 h1 =>
    cases e1 with
    | normal => exact .inl ⟨fr1, h1, rfl, he⟩
    | exit i =>
      have : Res.ok (.exit i) fr1 h1 = .ok e fr' h' := he
      cases this
      exact .inr ⟨by simp, rfl⟩
    | ret =>
      have : Res.ok .ret fr1 h1 = .ok e fr' h' := he
      cases this
      exact .inr ⟨by simp, rfl⟩
theorem Res.at_ok {r : Res} {id : Nat} (he : r.at id = .ok e fr' h') : ∃ e1, r = .ok e1 fr' h' ∧ ((e1 = .exit id ∧ e = .normal) ∨ (e1 ≠ .exit id ∧ e = e1)) := by
  cases r with
  | no => cases he
  | ok e1 fr1 h1 =>
    cases e1 with
    | normal =>
      have : Res.ok .normal fr1 h1 = .ok e fr' h' := he
      cases this
      exact ⟨.normal, rfl, .inr ⟨by simp, rfl⟩⟩
    | ret =>
      have : Res.ok .ret fr1 h1 = .ok e fr' h' := he
      cases this
      exact ⟨.ret, rfl, .inr ⟨by simp, rfl⟩⟩
    | exit i =>
      have he' : (bif Nat.beq i id then Res.ok .normal fr1 h1 else Res.ok (.exit i) fr1 h1) = .ok e fr' h' := he
      cases hb : Nat.beq i id with
      | true =>
        rw [hb] at he'
        cases he'
        have := Nat.eq_of_beq_eq_true hb
        subst this
        exact ⟨_, rfl, .inl ⟨rfl, rfl⟩⟩
      | false =>
        rw [hb] at he'
        cases he'
        have : i ≠ id := fun e => by rw [e] at hb; simp at hb
        exact ⟨_, rfl, .inr ⟨by simpa using this, rfl⟩⟩
theorem RV.to_ok {r : RV} {f : V → H → Res} (he : r.to f = .ok e fr' h') : ∃ v h1, r = .ok v h1 ∧ f v h1 = .ok e fr' h' := by
  cases r with
  | no => cases he
  | ok v h1 => exact ⟨v, h1, rfl, he⟩

theorem Ex.of_normal {e : Ex} (h : e ≠ .normal) : e.of ≠ .normal := by cases e <;> simp_all [Ex.of]

/-- A loop over a function. -/
theorem rangeL_rel {fs : T EF} (hfs : Fns Y fs) {go : Go} (hgo : GoOk Y go) {ro : Option K} {F : Fence} {f : Operand} {f' : EO} {ps : Array Tmp} {as bd : Code} (hf : eo f = some f') (hps : ps.toList.all (fun p => decide (p < nt)) = true)
    (he : rangeL fs go ro (ev fr f') (ps.toList.map K.ofNat) (comp Y.tab nt as) (comp Y.tab nt bd) fr h = .ok e fr' h') (hro : RO F ro ι) (ha : AR nt ι fr a) (hr : WR Y.tab ι h w) (hm : Mk base ι w a.defers) :
    (Code.rangeFunc f ps as bd).wpIn F 0 Y.P (CQ Y nt base h ι w e fr' h') a w := by
  have hF := hro.fw
  obtain ⟨hc, he1⟩ := cond_ok (by simp) he
  simp only [Bool.and_eq_true] at hc
  obtain ⟨v1, h1, hcall, he2⟩ := RV.to_ok he1
  have hvf := ha.ev hf
  have hps' : ∀ p ∈ ps.toList, p < nt := fun p hp => by simpa using List.all_eq_true.1 hps p hp
  refine wpIn_rangeFunc fun fn _ => ?_
  -- the record
  have enter : ∃ (w0 : World) (mark : List Deferred) (dfs : Nat), (Instr.enterLoop fn a.tmps ps as bd F.round).run Y.P w = .ok (w0.heap.size, mark) (w0.alloc (.loop { state := .ready, pending := none, fn, tmps := a.tmps, params := ps, assign := as, body := bd, defers := dfs })) ∧
      Step h.nx.nat ι w h.nx.nat ι w0 ∧ WR Y.tab ι h w0 ∧ Mk base ι w0 (mark ++ a.defers) := by
    cases ro with
    | none =>
      have hF0 : F = Fence.wide := hro
      subst hF0
      have hold : ∀ b, b < w.heap.size → (w.alloc (.deferred (some []))).heap[b]? = w.heap[b]? := fun b hb => heap_alloc_old w _ hb
      have hst : Step h.nx.nat ι w h.nx.nat ι (w.alloc (.deferred (some []))) := Step.world hold (by simp) rfl rfl rfl
      refine ⟨w.alloc (.deferred (some [])), [{ target := .collected w.heap.size, args := #[] }], w.heap.size, ?_, hst, hr.same hold (by simp), ?_⟩
      · have := run_enterLoop_outer (w := w) (P := Y.P) fn a.tmps ps as bd
        simpa using this
      · obtain ⟨g0, l, g1, g2, g3⟩ := hm.step hst
        refine ⟨g0, w.heap.size :: l, by simp [g1], List.nodup_cons.2 ⟨fun hin => ?_, g2⟩, fun D hD => ?_⟩
        · obtain ⟨_, l', k1, _, k3⟩ := hm
          have hll : l = l' := by
            have := g1.symm.trans k1
            have hinj : ∀ (l l' : List Nat), l.map (fun D => ({ target := .collected D, args := #[] } : Deferred)) = l'.map (fun D => ({ target := .collected D, args := #[] } : Deferred)) → l = l' := by
              intro l
              induction l with
              | nil => intro l' h; cases l' with | nil => rfl | cons x l' => simp at h
              | cons x l ih => intro l' h; cases l' with | nil => simp at h | cons y l' => simp only [List.map_cons, List.cons.injEq, Deferred.mk.injEq, Target.collected.injEq, and_true] at h; rw [h.1, ih l' h.2]
            exact hinj _ _ this
          subst hll
          have := lt_of_heap (k3 _ hin).2.1
          omega
        · rcases List.mem_cons.1 hD with rfl | hD
          · exact ⟨hm.1, heap_alloc_new w _, fun id q hq e => by have := hr.lt id q hq; omega⟩
          · exact g3 D hD
    | some id0 =>
      obtain ⟨q0, hq0, hF0⟩ := hro
      have hl : (h.get id0).isL = true := hc.1
      have hblk := hr.blk id0 q0 hq0
      cases hb : h.get id0 <;> rw [hb] at hl <;> simp only [Blk.isL] at hl <;> try cases hl
      rw [hb] at hblk
      obtain ⟨L0, _, hh0, _⟩ := hblk
      refine ⟨w, [], L0.defers, ?_, Step.refl _ _ _, hr, by simpa using hm⟩
      have hrd : F.round = some q0.b := by rw [hF0]; rfl
      rw [hrd]
      exact run_enterLoop_inner hh0 fn a.tmps ps as bd
  obtain ⟨w0, mark, dfs, hent, s0, wr0, mk0⟩ := enter
  obtain ⟨L, hL⟩ : ∃ L : Loop, L = { state := .ready, pending := none, fn, tmps := a.tmps, params := ps, assign := as, body := bd, defers := dfs } := ⟨_, rfl⟩
  rw [← hL] at hent
  obtain ⟨s1, wr1⟩ := wr0.alloc (b := .loop .ready none fr (ps.toList.map K.ofNat) (comp Y.tab nt as) (comp Y.tab nt bd)) (o := .loop L) (base := 0) (room := 0)
    ⟨L, nt, heap_alloc_new w0 _, by rw [hL]; rfl, by rw [hL]; rfl, by rw [hL]; exact ha.fr.mono (updI_ext (wr0.fresh _ (Nat.le_refl _))), by rw [hL]; exact ha.nt, by
      rw [hL]; simp only [List.map_map]
      have : (K.nat ∘ K.ofNat) = id := by funext n; simp [K.ofNat_nat]
      rw [this]; simp, fun p hp => by
      obtain ⟨t, ht, rfl⟩ := List.mem_map.1 hp
      rw [K.ofNat_nat]; exact hps' t ht, by rw [hL], by rw [hL]⟩
  generalize hι1 : updI ι h.nx ⟨w0.heap.size, 0, 0⟩ = ι1 at s1 wr1
  have hid : ι1 h.nx = some ⟨w0.heap.size, 0, 0⟩ := by rw [← hι1]; exact updI_same _ _ _
  have hargs : VRs ι1 [.yl h.nx] [.func (.yield w0.heap.size) #[] #[]] := VRs.cons (.yl hid) VRs.nil
  have hF2 : F.depth.isSome = true → 1 ≤ 0 := fun e => by rw [hF.depth] at e; cases e
  rcases call_rel hfs hgo hcall ((hvf.mono s0.ext).mono s1.ext) hargs wr1 with ⟨g, caps, e1, e2, e3⟩ | ⟨l, e1, _⟩
  · refine ⟨w0.heap.size, mark, w0.alloc (.loop L), { target := .fn (.func g) caps, args := #[.func (.yield w0.heap.size) #[] #[]] }, w0.alloc (.loop L), g, #[.func (.yield w0.heap.size) #[] #[]] ++ caps, w0.alloc (.loop L), hent, ?_, fun f' _ => hF.fn f', ?_, hF2, ?_⟩
    · simp only [resolve, e1, Deferred.ofValue]
      simp [Act.eval]
    · show (callFunc g (#[.func (.yield w0.heap.size) #[] #[]] ++ caps)).run Y.P _ = _
      simpa using e2
    · have e3' : CallsIn F 0 Y.P g (#[.func (.yield w0.heap.size) #[] #[]] ++ caps) (w0.alloc (.loop L)) (Post Y (h.new (.loop .ready none fr (ps.toList.map K.ofNat) (comp Y.tab nt as) (comp Y.tab nt bd))) ι1 (w0.alloc (.loop L)) v1 h1) := hF.calls e3
      show CallsIn F 0 Y.P g _ _ _
      refine CallsIn.mono e3' ?_
      rintro en w2 ⟨ι2, v2, rfl, s2, _, wr2⟩
      have hid2 := s2.ext _ _ hid
      have he3 : (h1.get h.nx).onL' (fun s j => endL s j h.nx fr h1) = .ok e fr' h' := he2
      cases hb : h1.get h.nx <;> rw [hb] at he3 <;> simp only [Blk.onL'] at he3 <;> try cases he3
      rename_i st j fr2 ps2 aa2 cc2
      have hblk2 := wr2.blk h.nx _ hid2
      rw [hb] at hblk2
      obtain ⟨L2, nt2, hh2, m1, m2, _⟩ := hblk2
      have hlt2 := lt_of_heap hh2
      have hlive : live h1 h.nx := by unfold live; rw [hb]; simp
      obtain ⟨s3, wr3⟩ := wr2.write (b := .dead) (w' := w2.putObj w0.heap.size (.loop { L2 with state := .exhausted })) hid2 hlive (by simp) (fun c hc => World.putObj_heap_other hc) rfl rfl rfl trivial
      have hall := ((s0.trans s1).trans s2).trans s3
      have hmk3 := (((mk0.step s1).step s2).step s3)
      have fin : ∀ ex : Exit, ex = e.of → fr' = fr → h' = h1.put h.nx .dead → CQ Y nt base h ι w e fr' h' ex { a with defers := mark ++ a.defers } (w2.putObj w0.heap.size (.loop { L2 with state := .exhausted })) := by
        intro ex h4 h5 h6
        subst h5; subst h6
        exact ⟨h4, ι2, hall, ⟨ha.nt, ha.fr.mono hall.ext⟩, wr3, hmk3⟩
      cases st <;> simp only [endL] at he3 <;> try cases he3
      · cases j with
        | some _ => cases he3
        | none =>
          have he4 : Res.ok .normal fr (h1.put h.nx .dead) = .ok e fr' h' := he3
          cases he4
          refine ⟨none, _, ?_, fin _ rfl rfl rfl⟩
          rw [run_endLoop hh2 (by rw [m1]; simp [LS.of]), m2]
          rfl
      · cases j with
        | none => cases he3
        | some e0 =>
          have he4 : Res.ok e0 fr (h1.put h.nx .dead) = .ok e fr' h' := he3
          cases he4
          have hrun : (Instr.endLoop w0.heap.size).run Y.P w2 = .ok ((some e).bind Ex.code) (w2.putObj w0.heap.size (.loop { L2 with state := .exhausted })) :=
            (run_endLoop (P := Y.P) hh2 (by rw [m1]; simp [LS.of])).trans (congrArg (fun p => Result.ok p (w2.putObj w0.heap.size (.loop { L2 with state := .exhausted }))) m2)
          cases e with
          | normal => exact ⟨none, _, hrun, fin _ rfl rfl rfl⟩
          | ret => exact ⟨some .ret, _, hrun, wpIn_ret (fin _ rfl rfl rfl)⟩
          | exit i => exact ⟨some (.exit i), _, hrun, wpIn_exit (fin _ rfl rfl rfl)⟩
  · exfalso
    have hisF : (ev fr f').isF = true := hc.2
    cases hev : ev fr f' <;> rw [hev] at hisF hvf <;> simp only [V.isF] at hisF <;> try cases hisF
    rw [e1] at hvf
    cases hvf

theorem eval_zero (fs : T EF) (ro : Option K) (c : EC) (fr : Fr) (h : H) : eval fs 0 ro c fr h = .no := rfl
theorem eval_succ (fs : T EF) (n : Nat) (ro : Option K) (c : EC) (fr : Fr) (h : H) : eval fs (n + 1) ro c fr h = evStep fs (eval fs n) ro c fr h := rfl

/-- The draws, as far as they are proved: see part O. -/
def DrawOk (Y : Rig) (fs : T EF) : Prop := ∀ (go : Go), GoOk Y go → ∀ (ro : Option K) (nt base id : Nat) (ops : Array Oper) (fr : Fr) (h : H) (e : Ex) (fr' : Fr) (h' : H), evStep fs go ro (comp Y.tab nt (.region id ops true)) fr h = .ok e fr' h' →
  ∀ (F : Fence) (ι : Io) (a : Act) (w : World), FW F → AR nt ι fr a → WR Y.tab ι h w → Mk base ι w a.defers → (Code.region id ops true).wpIn F 0 Y.P (CQ Y nt base h ι w e fr' h') a w

theorem goOk {fs : T EF} (hfs : Fns Y fs) (hdr : DrawOk Y fs) : ∀ n, GoOk Y (eval fs n) := by
  intro n
  induction n using Nat.strongRecOn with
  | _ n ih =>
    intro ro nt base code fr h e fr' h' he F ι a w hro ha hr hm
    have hF := hro.fw
    cases n with
    | zero => cases he
    | succ n =>
      have hgo := ih n (Nat.lt_succ_self n)
      rw [eval_succ] at he
      cases code with
      | skip =>
        have he : Res.ok .normal fr h = .ok e fr' h' := he
        cases he
        exact wpIn_skip ⟨rfl, ι, Step.refl _ _ _, ha, hr, hm⟩
      | label l =>
        have he : Res.ok .normal fr h = .ok e fr' h' := he
        cases he
        exact wpIn_label ⟨rfl, ι, Step.refl _ _ _, ha, hr, hm⟩
      | ret =>
        have he : Res.ok .ret fr h = .ok e fr' h' := he
        cases he
        exact wpIn_ret ⟨rfl, ι, Step.refl _ _ _, ha, hr, hm⟩
      | exit id =>
        have he : Res.ok (.exit id) fr h = .ok e fr' h' := he
        cases he
        exact wpIn_exit ⟨rfl, ι, Step.refl _ _ _, ha, hr, hm⟩
      | goto l => cases he
      | refuse s => cases he
      | scope c =>
        have he : eval fs n ro (comp Y.tab nt c) fr h = .ok e fr' h' := he
        refine wpIn_scope (fun l a1 w1 hq => ?_) (hgo ro nt base c fr h e fr' h' he F ι a w hro ha hr hm)
        have := hq.1
        cases e <;> cases this
      | region id ops draw =>
        cases draw with
        | false =>
          have he : runOps fs (eval fs n) (ops.toList.map (compOper Y.tab nt ops.toList)) fr h = .ok e fr' h' := he
          refine wpIn_region_list ?_
          have := runOps_rel hfs hgo hF (base := base) (all := ops.toList) ops.toList he (Step.refl _ ι w) ha hr hm
          simpa using this
        | true => exact hdr _ hgo ro nt base id ops fr h e fr' h' he F ι a w hF ha hr hm
      | seq c1 c2 =>
        have he : (eval fs n ro (comp Y.tab nt c1) fr h).go (fun fr h => eval fs n ro (comp Y.tab nt c2) fr h) = .ok e fr' h' := he
        rcases Res.go_ok he with ⟨fr1, h1, e1, e2⟩ | ⟨hne, e1⟩
        · refine wpIn_seq (wpIn_mono (hgo ro nt base c1 fr h .normal fr1 h1 e1 F ι a w hro ha hr hm) ?_)
          rintro ex a1 w1 ⟨rfl, ι1, s1, ha1, hr1, hm1⟩
          exact wpIn_mono (hgo ro nt base c2 fr1 h1 e fr' h' e2 F ι1 a1 w1 (hro.mono s1.ext) ha1 hr1 hm1) fun ex a2 w2 hq => hq.trans s1
        · refine wpIn_seq (wpIn_mono (hgo ro nt base c1 fr h e fr' h' e1 F ι a w hro ha hr hm) ?_)
          rintro ex a1 w1 ⟨rfl, hq⟩
          cases e <;> first | exact absurd rfl hne | exact ⟨rfl, hq⟩
      | cond c x y =>
        unfold comp at he
        cases hc : eo c with
        | none => rw [hc] at he; cases he
        | some c' =>
          rw [hc] at he
          have he : condC (eval fs n) ro (ev fr c') (comp Y.tab nt x) (comp Y.tab nt y) fr h = .ok e fr' h' := he
          have hv := ha.ev hc
          unfold condC at he
          generalize hcv : ev fr c' = cv at he hv
          cases cv <;> simp only [V.onB] at he <;> try cases he
          rename_i b
          have hb := hv.of_b
          cases b with
          | true => exact wpIn_cond_true hb (hgo ro nt base x fr h e fr' h' he F ι a w hro ha hr hm)
          | false => exact wpIn_cond_false hb (hgo ro nt base y fr h e fr' h' he F ι a w hro ha hr hm)
      | block id c =>
        have he : (eval fs n ro (comp Y.tab nt c) fr h).at id = .ok e fr' h' := he
        obtain ⟨e1, e2, e3⟩ := Res.at_ok he
        refine wpIn_block (wpIn_mono (hgo ro nt base c fr h e1 fr' h' e2 F ι a w hro ha hr hm) ?_)
        rintro ex a1 w1 ⟨rfl, hq⟩
        rcases e3 with ⟨rfl, rfl⟩ | ⟨hne, rfl⟩
        · simp only [Ex.of, Exit.inBlock, if_true]; exact ⟨rfl, hq⟩
        · cases e with
          | exit i =>
            have : i ≠ id := fun e => hne (by rw [e])
            simp only [Ex.of, Exit.inBlock, this, if_false]
            exact ⟨rfl, hq⟩
          | normal => exact ⟨rfl, hq⟩
          | ret => exact ⟨rfl, hq⟩
      | loop c =>
        refine wpIn_loop_ghost (σ := Nat × Fr × H × Io × World) (fun s a1 w1 => s.1 ≤ n + 1 ∧ eval fs s.1 ro (.loop (comp Y.tab nt c)) s.2.1 s.2.2.1 = .ok e fr' h' ∧ s.2.2.2.2 = w1 ∧ Step h.nx.nat ι w s.2.2.1.nx.nat s.2.2.2.1 w1 ∧ AR nt s.2.2.2.1 s.2.1 a1 ∧ WR Y.tab s.2.2.2.1 s.2.2.1 w1 ∧ Mk base s.2.2.2.1 w1 a1.defers) (fun s => s.1) (n + 1, fr, h, ι, w)
          ⟨Nat.le_refl _, he, rfl, Step.refl _ _ _, ha, hr, hm⟩ ?_
        rintro ⟨m, fr1, h1, ι1, w1⟩ a1 w1' ⟨hle, he1, rfl, s1, ha1, hr1, hm1⟩
        simp only at hle he1 s1 ha1 hr1 hm1
        cases m with
        | zero => cases he1
        | succ m =>
          have hgm := ih m (by omega)
          have he2 : (eval fs m ro (comp Y.tab nt c) fr1 h1).go (fun fr h => eval fs m ro (.loop (comp Y.tab nt c)) fr h) = .ok e fr' h' := he1
          rcases Res.go_ok he2 with ⟨fr2, h2, e1, e2⟩ | ⟨hne, e1⟩
          · refine wpIn_mono (hgm ro nt base c fr1 h1 .normal fr2 h2 e1 F ι1 a1 _ (hro.mono s1.ext) ha1 hr1 hm1) ?_
            rintro ex a2 w2 ⟨rfl, ι2, s2, ha2, hr2, hm2⟩
            exact ⟨(m, fr2, h2, ι2, w2), ⟨by omega, e2, rfl, s1.trans s2, ha2, hr2, hm2⟩, Nat.lt_succ_self m⟩
          · refine wpIn_mono (hgm ro nt base c fr1 h1 e fr' h' e1 F ι1 a1 _ (hro.mono s1.ext) ha1 hr1 hm1) ?_
            rintro ex a2 w2 hq
            have hq2 := CQ.trans s1 hq
            clear hq
            obtain ⟨rfl, hq2⟩ := hq2
            cases e <;> first | exact absurd rfl hne | exact ⟨rfl, hq2⟩
      | rangeFunc f ps as bd =>
        unfold comp at he
        cases hf : eo f with
        | none => rw [hf] at he; cases he
        | some f' =>
          rw [hf] at he
          simp only at he
          split at he
          · rename_i hps
            exact rangeL_rel hfs hgo hf hps he hro ha hr hm
          · cases he
end
end Go.Ev
