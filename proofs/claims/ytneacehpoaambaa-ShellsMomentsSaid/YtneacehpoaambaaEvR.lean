/-
  The evaluator, part R: the walk of a statement whose order is open.
-/
import Derived.Test.YtneacehpoaambaaEvQ
namespace Go.Ev
open Go Go.RowKit

theorem opAt_comp {tab : Tab} {nt : Nat} {all : List Oper} {i : Nat} {o : Oper} (h : all[i]? = some o) : opAt (all.map (compOper tab nt all)) i = compOper tab nt all o := by
  unfold opAt
  rw [List.getD_eq_getElem?_getD, List.getElem?_map, h]
  rfl
theorem edAt_map {all : List Oper} {i : Nat} {o : Oper} (h : all[i]? = some o) : edAt (all.map edgesOf) i = edgesOf o := by
  unfold edAt
  rw [List.getD_eq_getElem?_getD, List.getElem?_map, h]
  rfl

section
variable {Y : Rig} {nt base : Nat} {f : List DI} {h0 : H} {ι0 : Io} {w0 : World} {k : Nat} {fr : Fr} {h : H} {ι : Io} {L : Array Bool} {a : Act} {w : World} {fs : T EF} {go : Go} {ops : Array Oper}

noncomputable abbrev XS (Y : Rig) (nt : Nat) (ops : Array Oper) : List EOper := ops.toList.map (compOper Y.tab nt ops.toList)
abbrev ED (ops : Array Oper) : List (List Nat) := ops.toList.map edgesOf

theorem comp_of {i : Nat} {o : Oper} (ho : ops[i]? = some o) (hk : loudAt (XS Y nt ops) i = false) : ∃ eo, opAt (XS Y nt ops) i = eo ∧ compOper? Y.tab nt ops.toList o = some eo := by
  have h1 : ops.toList[i]? = some o := by simpa using ho
  have h2 := opAt_comp (tab := Y.tab) (nt := nt) h1
  cases hc : compOper? Y.tab nt ops.toList o with
  | none =>
    have e : compOper Y.tab nt ops.toList o = ⟨none, none, .no⟩ := by simp [compOper, hc]
    rw [e] at h2
    unfold loudAt at hk
    rw [h2] at hk
    cases hk
  | some eo => exact ⟨eo, by rw [h2]; simp [compOper, hc], rfl⟩

theorem quiet_kind {o : EOp} (h : kindE o ≠ 2) (h1 : kindE o ≠ 1) : o.quiet = true ∧ ∀ n sz z ps, o ≠ .bslice n sz z ps := by
  cases o <;> simp_all [kindE, EOp.quiet]

theorem step_quiet (hfs : Fns Y fs) (hgo : GoOk Y go) {F : Fence} (hF : FW F) (hD : Dok (XS Y nt ops) (ED ops) f) (hbs : (ops.toList.all fun o => bsOk (compOper Y.tab nt ops.toList o) o) = true) {kk : k ≤ louds (XS Y nt ops)}
    (J : JJ Y nt base (XS Y nt ops) (ED ops) f h0 ι0 w0 (k + 1) k fr h ι L a w) (hst : allStay fs go fr h (stageOf (XS Y nt ops) f k).c = true) {i : Nat} {o : Oper} (ho : ops[i]? = some o) (hl : loudAt (XS Y nt ops) i = false) (hL : L.getD i false = false)
    (hE : ∀ e ∈ edgesOf o, L.getD e false = true) {Q : Exit → Act → World → Prop} {Kc : Act → World → Prop}
    (hk : ∀ a' w' ι', JJ Y nt base (XS Y nt ops) (ED ops) f h0 ι0 w0 (k + 1) k fr h ι' (L.setIfInBounds i true) a' w' → Kc a' w') : wpOpIn F 0 Y.P ops Q i Kc a w := by
  have hin : i < ops.size := (Array.getElem?_eq_some_iff.1 ho).1
  have hi : i < (XS Y nt ops).length := by simpa using hin
  have h1 : ops.toList[i]? = some o := by simpa using ho
  have hE' : ∀ e ∈ edAt (ED ops) i, L.getD e false = true := by rw [edAt_map h1]; exact hE
  have hanc := hD.all_anc J.cl i hi hE'
  -- its rank
  have hrk : (diAt f i).rk < k + 1 := by
    rcases hD.qrk i hi hl with h2 | ⟨e, he, h2⟩
    · omega
    · have hlt := hD.lt i hi e he
      have hel := hE' e he
      cases hle : loudAt (XS Y nt ops) e with
      | true => have := (J.rkl e (by omega) hle).1 hel; omega
      | false => have := J.rkn e (by omega) hle hel; omega
  have hp : pend (XS Y nt ops) f L (k + 1) i := ⟨hi, hl, hL, hrk⟩
  have hlim : k ≤ (diAt f i).lim := by
    rcases Nat.lt_or_ge (diAt f i).lim k with h2 | h2
    · obtain ⟨j, hj, hlj, hrj⟩ := hD.ex (diAt f i).lim (by omega)
      have hLj := (J.rkl j hj hlj).2 (by omega)
      have := hD.all_anc J.cl j hj (J.cl j hj hLj) i hi (hD.qlim i j hi hj hl hlj hrj)
      rw [hL] at this; cases this
    · exact h2
  have hin' : opAt (XS Y nt ops) i ∈ (stageOf (XS Y nt ops) f k).c := mem_opAt hi (by
    simp only [hl, Bool.not_false, Bool.true_and, Bool.and_eq_true]
    exact ⟨Nat.ble_eq_true_of_le (by omega), Nat.ble_eq_true_of_le hlim⟩)
  have hs := allStay_mem hst hin'
  obtain ⟨eo, he1, he2⟩ := comp_of ho hl
  obtain ⟨c1, c2, c3, c4⟩ := compOper_ok he2
  have hsame := J.same hD hi hE'
  have har := J.ar
  generalize hfr : hide (pends (XS Y nt ops) f L (k + 1)) fr = frR at hsame har
  rw [he1] at hs hsame
  unfold stays at hs
  obtain ⟨r, hw, hs⟩ := oGet_some (by simp) hs
  have hsg : wants frR eo.g = some r := by
    rw [← hw]; exact (wants_same (by unfold EOper.reads at hsame; exact hsame.left)).symm
  have hso : Same eo.op.keys fr frR := by unfold EOper.reads at hsame; exact hsame.right
  have hwant : Region.wanted o (yielded ops a.tmps) = r := by have := wants_rel har he2 hsg; simpa using this
  unfold wpOpIn
  rw [ho]
  simp only []
  rw [hwant]
  have hdst : (opAt (XS Y nt ops) i).dst = o.dst.map K.ofNat := by rw [he1]; exact c2
  cases r with
  | false =>
    have hs : dstV fr eo.dst isU = true := hs
    refine ⟨fun f _ => hF.fn f, hk _ _ ι ?_⟩
    refine J.quiet hp hE' c1 hdst (Ext.refl _) J.wr J.st J.mks (fun t ht => ?_) fun j hj _ hkj t id ht hid => (J.al j hj hkj t id ht hid).1
    rw [he1] at ht
    rw [ht] at hs
    rw [isU_eq (show isU (getV (fr.get t)) = true from hs)]
    exact VR.undef
  | true =>
    have hs : opStays fs go fr h eo.dst eo.op = true := hs
    have hk2 : kindE eo.op ≠ 2 := fun e => by
      unfold loudAt at hl
      rw [he1, e] at hl; cases hl
    by_cases hk1 : kindE eo.op = 1
    · -- a slice's literal
      have hb : isBS o.op = true := by
        have hb := List.all_eq_true.1 hbs o (List.mem_of_getElem? h1)
        have hce : compOper Y.tab nt ops.toList o = eo := by simp [compOper, he2]
        rw [hce] at hb
        unfold bsOk at hb
        rw [hk1] at hb
        simpa using hb
      obtain ⟨d, op, ty, pos, aft, g⟩ := o
      cases op <;> simp only [isBS, reduceCtorEq] at hb
      rename_i t n ps
      have hc := c3
      simp only [compOp, Option.bind_eq_bind, Option.bind_eq_some_iff] at hc
      obtain ⟨dt, g1, hc⟩ := hc
      cases hd : dt.desc <;> rw [hd] at hc <;> simp only [reduceCtorEq] at hc
      rename_i e
      simp only [Option.bind_eq_some_iff] at hc
      obtain ⟨de, g2, z, g3, hc⟩ := hc
      split at hc
      · rename_i hcond
        obtain ⟨m1, m2, m3⟩ := hcond
        simp only [Option.bind_eq_some_iff, Option.some.injEq] at hc
        obtain ⟨qs, g4, heo⟩ := hc
        rw [← heo] at hs hso
        have hs : (oGet eo.dst false fun k => litOk fr h n de.size (rep z n) qs (getV (fr.get k))) = true := hs
        obtain ⟨t', ht', hs⟩ := oGet_some (by simp) hs
        unfold litOk at hs
        generalize hv : getV (fr.get t') = v at hs
        rcases V.onSl_ok (by simp) hs with ⟨_, h5⟩ | ⟨id, off, n', sz', rfl, h5⟩
        · cases h5
        · simp only [Bool.and_eq_true] at h5
          obtain ⟨⟨⟨q1, q2⟩, q3⟩, h5⟩ := h5
          have q1 := Nat.eq_of_beq_eq_true q1
          have q2 := Nat.eq_of_beq_eq_true q2
          have q3 := Nat.eq_of_beq_eq_true q3
          subst q1; subst q2; subst q3
          obtain ⟨m, cs, hb1, h5⟩ := Blk.onC_ok (by simp) h5
          simp only [Bool.and_eq_true] at h5
          obtain ⟨q4, h5⟩ := h5
          have q4 := Nat.eq_of_beq_eq_true q4
          subst q4
          obtain ⟨cs', hfill, h5⟩ := oGet_some (by simp) h5
          have := beqL_eq h5
          subst this
          have hfillR : fillE frR (rep z n) qs = some cs := by rw [← hfill]; exact (fill_same (by simpa [EOp.keys] using hso)).symm
          obtain ⟨vs, hrun, hvs, hone, hlen⟩ := op_buildSlice_core (w := w) (d := d) (ty := ty) (pos := pos) (aft := aft) (g := g) har g1 hd g2 g3 m1 m2 m3 g4 hfillR
          have hkd : kindE (opAt (XS Y nt ops) i).op = 1 := by rw [he1]; exact hk1
          have htd : (opAt (XS Y nt ops) i).dst = some t' := by rw [he1]; exact ht'
          obtain ⟨a1, a2, a3⟩ := J.al i hp hkd t' id htd (by rw [hv]; rfl)
          have hvl : vs.length = n * de.size := by rw [hvs.len, hlen]
          have hwr : WR Y.tab (updI ι id ⟨w.heap.size, 0, vs.toArray.size⟩) h (w.alloc (.cells vs.toArray e)) := by
            refine J.wr.reserve a1 a3 ?_
            rw [hb1]
            refine ⟨vs.toArray, e, heap_alloc_new w _, hlen, by simp, by simp [hvl], hone, ?_⟩
            show VRs _ cs (List.take (n * de.size) (List.drop 0 vs.toArray.toList))
            have e2 : List.take (n * de.size) (List.drop 0 vs.toArray.toList) = vs := by rw [List.drop_zero, ← hvl]; simp
            rw [e2]
            exact hvs.mono (updI_ext a1)
          simp only [if_true]
          refine ⟨fun f _ => hF.fn f, ?_⟩
          rw [Oper.semAt_eq _ _ _ (notDefer c3), hrun]
          refine hk _ _ _ (J.quiet hp hE' c1 hdst (updI_ext a1) hwr (J.st.reserve a1 a2) (J.mks.alloc) (fun t ht => ?_) fun j hj hji hkj t2 id2 ht2 hid2 => ?_)
          · rw [htd] at ht
            cases ht
            rw [hv]
            have := VR.sl (off := 0) (n := n) (sz := de.size) (c := n) (updI_same ι id ⟨w.heap.size, 0, vs.toArray.size⟩) (by simp [hvl]) (Nat.le_refl _) m1
            simpa using this
          · have hne := J.dj j i hj hp hji hkj hkd t2 id2 t' id ht2 htd hid2 (by rw [hv]; rfl)
            rw [updI_other _ _ hne]
            exact (J.al j hj hkj t2 id2 ht2 hid2).1
      · cases hc
    · obtain ⟨hq, hnb⟩ := quiet_kind hk2 hk1
      have hs : (eo.op.quiet && (evop fs go fr h eo.op).chk fun v => dstV fr eo.dst fun u => beqV v u) = true := by
        unfold opStays at hs
        split at hs
        · rename_i heq; exact absurd heq (hnb _ _ _ _)
        · exact hs
      rw [hq, Bool.true_and] at hs
      cases hev : evop fs go fr h eo.op with
      | no => rw [hev] at hs; cases hs
      | ok v h1 =>
        rw [hev] at hs
        have hs2 : (dstV fr eo.dst fun u => beqV v u) = true := hs
        clear hs
        have := quiet_same hq hev
        subst this
        rw [evop_same hso] at hev
        simp only [if_true]
        refine oper_rel hfs hgo hF har J.wr c3 hev fun ι' v' w' s1 s2 s3 => hk _ _ ι' ?_
        refine J.quiet hp hE' c1 hdst s1.ext s3 (J.st.trans s1) (J.mks.step s1) (fun t ht => ?_) fun j hj _ hkj t id ht hid => ?_
        · rw [he1] at ht
          rw [ht] at hs2
          rw [← beqV_eq (show beqV v (getV (fr.get t)) = true from hs2)]
          exact s2
        · obtain ⟨b1, b2, b3⟩ := J.al j hj hkj t id ht hid
          exact s1.low id b3 b1

theorem stagesFrom_cons {xs : List EOper} {k : Nat} (hk : k ≤ louds xs) : stagesFrom xs f k = stageOf xs f k :: stagesFrom xs f (k + 1) := by
  unfold stagesFrom
  have : louds xs + 1 - k = (louds xs + 1 - (k + 1)) + 1 := by omega
  rw [this, List.range'_succ]
  rfl

/-- Where the walk stands, and what is still to come. -/
structure AtStage (Y : Rig) (nt base : Nat) (ops : Array Oper) (f : List DI) (fs : T EF) (go : Go) (h0 : H) (ι0 : Io) (w0 : World) (e : Ex) (fr' : Fr) (h' : H) (k : Nat) (fr : Fr) (h : H) (ι : Io) (L : Array Bool) (a : Act) (w : World) : Prop where
  le : k ≤ louds (XS Y nt ops)
  j : JJ Y nt base (XS Y nt ops) (ED ops) f h0 ι0 w0 (k + 1) k fr h ι L a w
  stay : allStay fs go fr h (stageOf (XS Y nt ops) f k).c = true
  rest : (oGet (stageOf (XS Y nt ops) f k).l (.ok .normal fr h) fun o => runOp fs go o (drawRun fs go (stagesFrom (XS Y nt ops) f (k + 1))) fr h) = .ok e fr' h'

theorem AtStage.of_draw {e : Ex} {fr' : Fr} {h' : H} (hD : Dok (XS Y nt ops) (ED ops) f) (hk : k ≤ louds (XS Y nt ops)) (J : JJ Y nt base (XS Y nt ops) (ED ops) f h0 ι0 w0 k k fr h ι L a w)
    (he : drawRun fs go (stagesFrom (XS Y nt ops) f k) fr h = .ok e fr' h') : ∃ fr2 h2, AtStage Y nt base ops f fs go h0 ι0 w0 e fr' h' k fr2 h2 ι L a w := by
  rw [stagesFrom_cons hk] at he
  obtain ⟨fr2, h2, e1, J2⟩ := J.enter (cont := stageEnd fs go (stageOf (XS Y nt ops) f k) (drawRun fs go (stagesFrom (XS Y nt ops) f (k + 1)))) hD rfl he
  unfold stageEnd at e1
  obtain ⟨e2, e3⟩ := cond_ok (by simp) e1
  exact ⟨fr2, h2, hk, J2, e2, e3⟩

theorem step_loud (hfs : Fns Y fs) (hgo : GoOk Y go) {F : Fence} (hF : FW F) (hD : Dok (XS Y nt ops) (ED ops) f) {e : Ex} {fr' : Fr} {h' : H}
    (S : AtStage Y nt base ops f fs go h0 ι0 w0 e fr' h' k fr h ι L a w) {i : Nat} {o : Oper} (ho : ops[i]? = some o) (hl : loudAt (XS Y nt ops) i = true) (hL : L.getD i false = false)
    (hE : ∀ e ∈ edgesOf o, L.getD e false = true) {Q : Exit → Act → World → Prop} {Kc : Act → World → Prop}
    (hk : ∀ a' w' ι' fr2 h2, AtStage Y nt base ops f fs go h0 ι0 w0 e fr' h' (k + 1) fr2 h2 ι' (L.setIfInBounds i true) a' w' → Kc a' w') : wpOpIn F 0 Y.P ops Q i Kc a w := by
  have J := S.j
  have hin : i < ops.size := (Array.getElem?_eq_some_iff.1 ho).1
  have hi : i < (XS Y nt ops).length := by simpa using hin
  have h1 : ops.toList[i]? = some o := by simpa using ho
  have hE' : ∀ e ∈ edAt (ED ops) i, L.getD e false = true := by rw [edAt_map h1]; exact hE
  have hanc := hD.all_anc J.cl i hi hE'
  obtain ⟨r1, r2⟩ := hD.lrk i hi hl
  have hgt : k < (diAt f i).rk := by
    rcases Nat.lt_or_ge k (diAt f i).rk with h2 | h2
    · exact h2
    · have := (J.rkl i hi hl).2 h2; rw [hL] at this; cases this
  have hrk : (diAt f i).rk = k + 1 := by
    rcases Nat.lt_or_ge (k + 1) (diAt f i).rk with h2 | h2
    · obtain ⟨j, hj, hlj, hrj⟩ := hD.ex k (by omega)
      have hLj := hanc j hj (hD.lanc i j hi hj hl hlj (by omega))
      have := (J.rkl j hj hlj).1 hLj
      omega
    · omega
  have hx : (stageOf (XS Y nt ops) f k).l = some (opAt (XS Y nt ops) i) := by
    unfold stageOf
    simp only []
    have hmem := mem_opAt (p := fun i => loudAt (XS Y nt ops) i && Nat.beq (diAt f i).rk (k + 1)) hi (by simp only [hl, hrk]; simp)
    cases hh : ((pickI (XS Y nt ops) fun i => loudAt (XS Y nt ops) i && Nat.beq (diAt f i).rk (k + 1)).map (opAt (XS Y nt ops))) with
    | nil => rw [hh] at hmem; simp at hmem
    | cons y l =>
      have hy : y ∈ (pickI (XS Y nt ops) fun i => loudAt (XS Y nt ops) i && Nat.beq (diAt f i).rk (k + 1)).map (opAt (XS Y nt ops)) := by rw [hh]; exact List.mem_cons_self
      obtain ⟨j, hj, hpj, rfl⟩ := opAt_mem hy
      rw [Bool.and_eq_true] at hpj
      have := hD.linj i j hi hj hl hpj.1 (by rw [Nat.eq_of_beq_eq_true hpj.2, hrk])
      subst this
      rfl
  have hrest := S.rest
  rw [hx] at hrest
  have hrest : runOp fs go (opAt (XS Y nt ops) i) (drawRun fs go (stagesFrom (XS Y nt ops) f (k + 1))) fr h = .ok e fr' h' := hrest
  have hop : opAt (XS Y nt ops) i = compOper Y.tab nt ops.toList o := opAt_comp h1
  cases hno : compOper? Y.tab nt ops.toList o with
  | none =>
    have e : compOper Y.tab nt ops.toList o = ⟨none, none, .no⟩ := by simp [compOper, hno]
    rw [hop, e] at hrest
    cases hrest
  | some eo =>
    have he1 : opAt (XS Y nt ops) i = eo := by rw [hop]; simp [compOper, hno]
    obtain ⟨c1, c2, c3, _⟩ := compOper_ok hno
    have hsame := J.same hD hi hE'
    have har := J.ar
    generalize hfr : hide (pends (XS Y nt ops) f L (k + 1)) fr = frR at hsame har
    rw [he1] at hsame
    have hdst : (opAt (XS Y nt ops) i).dst = o.dst.map K.ofNat := by rw [he1]; exact c2
    unfold runOp at hrest
    rw [he1] at hrest
    obtain ⟨r, hw, hrest⟩ := oGet_res hrest
    have hsg : wants frR eo.g = some r := by
      rw [← hw]; exact (wants_same (by unfold EOper.reads at hsame; exact hsame.left)).symm
    have hso : Same eo.op.keys fr frR := by unfold EOper.reads at hsame; exact hsame.right
    have hwant : Region.wanted o (yielded ops a.tmps) = r := by have := wants_rel har hno hsg; simpa using this
    unfold wpOpIn
    rw [ho]
    simp only []
    rw [hwant]
    cases r with
    | false =>
      refine ⟨fun f _ => hF.fn f, ?_⟩
      have J2 := J.loud hD hi hl hL hrk hE' c1 hdst (v := undefV) (v' := undef) (h1 := h) J.wr (Step.refl _ _ _) VR.undef
      rw [he1] at J2
      obtain ⟨fr2, h2, S2⟩ := AtStage.of_draw hD (by omega) J2 hrest
      exact hk _ _ _ _ _ S2
    | true =>
      cases hev : evop fs go fr h eo.op with
      | no => rw [hev] at hrest; cases hrest
      | ok v h1 =>
        rw [hev] at hrest
        rw [evop_same hso] at hev
        simp only [if_true]
        refine oper_rel hfs hgo hF har J.wr c3 hev fun ι' v' w' s1 s2 s3 => ?_
        have J2 := J.loud hD hi hl hL hrk hE' c1 hdst s3 s1 s2
        rw [he1] at J2
        obtain ⟨fr2, h2, S2⟩ := AtStage.of_draw hD (by omega) J2 hrest
        exact hk _ _ _ _ _ S2

/-- Nothing is left. -/
theorem all_listed (hD : Dok (XS Y nt ops) (ED ops) f) (hs : L.size = ops.size) (hr : ∀ i, i ∉ Region.ready .any ops L) : ∀ i, i < ops.size → L.getD i false = true := by
  intro i
  induction i using Nat.strongRecOn with
  | _ i ih =>
    intro hi
    cases hL : L.getD i false with
    | true => rfl
    | false =>
      exfalso
      have ho : ops[i]? = some ops[i] := Array.getElem?_eq_getElem hi
      refine hr i ((ready_mem hs).2 ⟨ops[i], ho, hL, fun e he => ?_⟩)
      have h1 : ops.toList[i]? = some ops[i] := by simp
      have hlt := hD.lt i (by simpa using hi) e (by rw [edAt_map h1]; exact he)
      exact ih e hlt (by omega)

theorem AtStage.fin (hD : Dok (XS Y nt ops) (ED ops) f) {e : Ex} {fr' : Fr} {h' : H} (S : AtStage Y nt base ops f fs go h0 ι0 w0 e fr' h' k fr h ι L a w) (hall : ∀ i, i < ops.size → L.getD i false = true) : CQ Y nt base h0 ι0 w0 e fr' h' .normal a w := by
  have hkk : k = louds (XS Y nt ops) := by
    rcases Nat.lt_or_ge k (louds (XS Y nt ops)) with h2 | h2
    · obtain ⟨j, hj, hlj, hrj⟩ := hD.ex k h2
      have := (S.j.rkl j hj hlj).1 (hall j (by simpa using hj))
      omega
    · have := S.le; omega
  have hx : (stageOf (XS Y nt ops) f k).l = none := by
    unfold stageOf
    simp only []
    cases hh : ((pickI (XS Y nt ops) fun i => loudAt (XS Y nt ops) i && Nat.beq (diAt f i).rk (k + 1)).map (opAt (XS Y nt ops))) with
    | nil => rfl
    | cons y l =>
      exfalso
      have hy : y ∈ (pickI (XS Y nt ops) fun i => loudAt (XS Y nt ops) i && Nat.beq (diAt f i).rk (k + 1)).map (opAt (XS Y nt ops)) := by rw [hh]; exact List.mem_cons_self
      obtain ⟨j, hj, hpj, rfl⟩ := opAt_mem hy
      rw [Bool.and_eq_true] at hpj
      have := (hD.lrk j hj hpj.1).2
      have := Nat.eq_of_beq_eq_true hpj.2
      omega
  have hrest := S.rest
  rw [hx] at hrest
  have hrest : Res.ok .normal fr h = .ok e fr' h' := hrest
  cases hrest
  exact ⟨rfl, ι, S.j.st, ⟨S.j.nts, fun κ => S.j.frm κ fun j hj _ => by
    have := hall j (by simpa using hj.1)
    rw [hj.2.2.1] at this; cases this⟩, S.j.wr, S.j.mks⟩

theorem walk (hfs : Fns Y fs) (hgo : GoOk Y go) {F : Fence} (hF : FW F) (hD : Dok (XS Y nt ops) (ED ops) f) (hbs : (ops.toList.all fun o => bsOk (compOper Y.tab nt ops.toList o) o) = true) {e : Ex} {fr' : Fr} {h' : H} :
    ∀ (fuel : Nat) {k : Nat} {fr : Fr} {h : H} {ι : Io} {L : Array Bool} {a : Act} {w : World}, L.toList.countP (fun b => !b) ≤ fuel → AtStage Y nt base ops f fs go h0 ι0 w0 e fr' h' k fr h ι L a w →
      wpAnyIn F 0 Y.P .any ops (CQ Y nt base h0 ι0 w0 e fr' h') fuel L a w
  | 0, k, fr, h, ι, L, a, w, hn, S => by
    have hsz : L.size = ops.size := by have := S.j.size; simpa using this
    have hall : ∀ i, i < ops.size → L.getD i false = true := fun i hi => by
      have h0 : L.toList.countP (fun b => !b) = 0 := by omega
      have := List.countP_eq_zero.1 h0 (L[i]'(by omega)) (by simp)
      have hg : L.getD i false = L[i]'(by omega) := by simp [Array.getD_eq_getD_getElem?, hsz ▸ hi]
      rw [hg]
      simpa using this
    refine ⟨List.eq_nil_iff_forall_not_mem.2 fun i hi => ?_, S.fin hD hall⟩
    obtain ⟨o, ho, hL, _⟩ := (ready_mem hsz).1 hi
    have := hall i (Array.getElem?_eq_some_iff.1 ho).1
    rw [hL] at this; cases this
  | fuel + 1, k, fr, h, ι, L, a, w, hn, S => by
    have hsz : L.size = ops.size := by have := S.j.size; simpa using this
    refine ⟨fun hr => S.fin hD (all_listed hD hsz fun i hi => by rw [hr] at hi; simp at hi), fun i hi => ?_⟩
    obtain ⟨o, ho, hL, hE⟩ := (ready_mem hsz).1 hi
    have hin : i < ops.size := (Array.getElem?_eq_some_iff.1 ho).1
    have hcount : (L.setIfInBounds i true).toList.countP (fun b => !b) ≤ fuel := by
      have hil : i < L.toList.length := by simp; omega
      have hg : L.getD i false = L.toList[i] := by simp [Array.getD_eq_getD_getElem?, hsz ▸ hin]
      rw [hg] at hL
      rw [Array.toList_setIfInBounds, List.countP_set hil, hL]
      have : 0 < L.toList.countP (fun b => !b) := List.countP_pos_iff.2 ⟨L.toList[i], List.getElem_mem _, by rw [hL]; rfl⟩
      simp only [Bool.not_false, Bool.not_true, if_true, Bool.false_eq_true, if_false]
      omega
    cases hl : loudAt (XS Y nt ops) i with
    | false => exact step_quiet hfs hgo hF hD hbs (kk := S.le) S.j S.stay ho hl hL hE fun a' w' ι' J' => walk hfs hgo hF hD hbs fuel hcount ⟨S.le, J', S.stay, S.rest⟩
    | true => exact step_loud hfs hgo hF hD S ho hl hL hE fun a' w' ι' fr2 h2 S' => walk hfs hgo hF hD hbs fuel hcount S'
end

theorem drawOk {Y : Rig} {fs : T EF} (hfs : Fns Y fs) : DrawOk Y fs := by
  intro go hgo ro nt base id ops fr h e fr' h' he F ι a w hF ha hr hm
  have he : evStep fs go ro (compDraw (ops.toList.all fun o => bsOk (compOper Y.tab nt ops.toList o) o) (XS Y nt ops) (ED ops)) fr h = .ok e fr' h' := he
  unfold compDraw at he
  split at he
  · rename_i hc
    rw [Bool.and_eq_true] at hc
    have hD := drawB_ok hc.2
    generalize info (XS Y nt ops) (ED ops) = f at he hD
    have he : drawRun fs go (stagesFrom (XS Y nt ops) f 0) fr h = .ok e fr' h' := he
    refine wpIn_region_any Y.hmix ?_
    have hst : Step h.nx.nat ι w h.nx.nat ι { w with drawn := w.drawn + 1 } := Step.world (fun _ _ => rfl) (Nat.le_refl _) rfl rfl rfl
    have hz : ∀ j, (Array.replicate ops.size false).getD j false = false := fun j => by
      simp only [Array.getD_eq_getD_getElem?, Array.getElem?_replicate]
      split <;> rfl
    have J : JJ Y nt base (XS Y nt ops) (ED ops) f h ι w 0 0 fr h ι (Array.replicate ops.size false) a { w with drawn := w.drawn + 1 } := by
      refine ⟨by simp, fun j _ hj => ?_, fun j _ _ hj => ?_, fun j hj hl => ?_, ha.nt, fun κ _ => ha.fr κ, hr.same (fun _ _ => rfl) (Nat.le_refl _), hst, hm.step hst, fun j hj => absurd hj.2.2.2 (by omega), fun j _ hj => absurd hj.2.2.2 (by omega)⟩
      · rw [hz] at hj; cases hj
      · rw [hz] at hj; cases hj
      · have := (hD.lrk j hj hl).1
        rw [hz]
        simp
        omega
    obtain ⟨fr2, h2, S⟩ := AtStage.of_draw hD (Nat.zero_le _) J he
    refine walk hfs hgo hF hD hc.1 _ ?_ S
    have := List.countP_le_length (p := fun b => !b) (l := (Array.replicate ops.size false).toList)
    simpa using this
  · cases he

theorem evalOk {Y : Rig} {fs : T EF} (hfs : Fns Y fs) (n : Nat) : GoOk Y (eval fs n) := goOk hfs (drawOk hfs) n
end Go.Ev
