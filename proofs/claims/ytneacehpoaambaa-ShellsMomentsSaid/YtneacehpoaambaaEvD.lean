/-
  The evaluator, part D: its operations against the model's.
-/
import Derived.Test.YtneacehpoaambaaEvC
namespace Go.Ev
open Go Go.RowKit

/-- What can be compared, and be a key. -/
structure KeyOk (P : Program) (t : TypeId) (kd : KD) : Prop where
  eq : ∀ (w : World) (x y : Value), fitV kd x → fitV kd y → ∃ r : Bool, (Op.equal t x y).run P w = .ok r w ∧ (r = true ↔ x = y)
  guard : ∀ (w : World) (op : BinOp) (ox oy : Operand) (x y : Value), fitV kd x → fitV kd y → (eqGuard op t ox oy x y).run P w = .ok () w
  check : ∀ (w : World) (em : Bool) (v : Value), fitV kd v → (Instr.checkKey em 10000 t v).run P w = .ok () w
  find : ∀ (w : World) (x : Value) (es : List MapEntry), fitV kd x → (∀ e ∈ es, fitV kd e.key) →
    ((Instr.findKey t x es).run P w = .ok none w ∧ ∀ e ∈ es, e.key ≠ x) ∨ ∃ j e, (Instr.findKey t x es).run P w = .ok (some (j, e.val)) w ∧ es[j]? = some e ∧ e.key = x
  stays : ∀ (w : World) (v : Value), fitV kd v → (Instr.keyThatStays v v).run P w = .ok v w

structure TD.ok (P : Program) (t : TypeId) (d : TD) : Prop where
  und : P.underlying t = some d.desc
  inf : (P.info? t).map (fun i => (i.size, i.bytes, i.zero)) = some (d.size, d.bytes, some d.zero)
  key : ∀ kd, d.key = some kd → KeyOk P t kd

/-- The program, and what is known of its types. -/
structure Rig where
  P : Program
  tab : Tab
  htab : ∀ t d, tab t = some d → d.ok P t
  hmix : P.follows .mixedOrders = true

section rig
variable {Y : Rig}
theorem Rig.und {t : TypeId} {d : TD} (h : Y.tab t = some d) (w : World) : (underlying t).run Y.P w = .ok d.desc w := run_underlying (Y.htab t d h).und w
theorem Rig.info {t : TypeId} {d : TD} (h : Y.tab t = some d) : ∃ i, Y.P.info? t = some i ∧ i.size = d.size ∧ i.bytes = d.bytes ∧ i.zero = some d.zero := by
  have := (Y.htab t d h).inf
  cases hi : Y.P.info? t with
  | none => rw [hi] at this; simp at this
  | some i => rw [hi] at this; simp at this; exact ⟨i, rfl, this.1, this.2.1, this.2.2⟩
theorem Rig.size {t : TypeId} {d : TD} (h : Y.tab t = some d) (w : World) : (sizeOf t).run Y.P w = .ok d.size w := by
  obtain ⟨i, hi, hs, _⟩ := Rig.info h
  simp [sizeOf, typeInfo, hi, hs]
theorem Rig.zero {t : TypeId} {d : TD} (h : Y.tab t = some d) (w : World) : (zeroValue t).run Y.P w = .ok d.zero w := by
  obtain ⟨i, hi, _, _, hz⟩ := Rig.info h
  simp [zeroValue, typeInfo, hi, hz]
theorem Rig.isAgg {t : TypeId} {d : TD} (h : Y.tab t = some d) (w : World) : (isAgg t).run Y.P w = .ok d.agg w := by
  simp only [Go.isAgg, Sem.run_bind, Rig.und h, Result.andThen_ok, TD.agg]
  cases d.desc <;> rfl
end rig
theorem add_lit' (b o j : Nat) : (⟨b, o, none⟩ : Addr).add j = ⟨b, o + j, none⟩ := by unfold Addr.add; split <;> simp_all

theorem mapO_some {α β : Type} {f : α → Option β} : ∀ {l : List α} {m : List β}, mapO f l = some m → m.length = l.length ∧ ∀ (i : Nat) (h : i < l.length) (h' : i < m.length), f l[i] = some m[i]
  | [], m, h => by cases h; exact ⟨rfl, fun i h => absurd h (by simp)⟩
  | x :: l, m, h => by
    unfold mapO at h
    split at h
    · rename_i y hy
      cases hm : mapO f l with
      | none => rw [hm] at h; cases h
      | some m' =>
        rw [hm] at h
        cases h
        obtain ⟨h1, h2⟩ := mapO_some hm
        refine ⟨by simp [h1], fun i a b => ?_⟩
        cases i with
        | zero => exact hy
        | succ i => exact h2 i (by simpa using a) (by simpa using b)
    · cases h
theorem ofV1_rel {ι : Io} {v : Value} {v' : V} (h : ofV1 v = some v') : VR ι v' v ∧ v'.one = true := by
  unfold ofV1 at h
  split at h <;> cases h
  · exact ⟨.b _, rfl⟩
  · exact ⟨.i _ _, rfl⟩
  · exact ⟨.s _, rfl⟩
  · exact ⟨.pn, rfl⟩
  · exact ⟨.sn, rfl⟩
  · exact ⟨.mn, rfl⟩
  · exact ⟨.fnil, rfl⟩
  · exact ⟨.inil, rfl⟩
theorem ofV1s_rel {ι : Io} {l : List Value} {m : List V} (h : mapO ofV1 l = some m) : VRs ι m l ∧ ∀ c ∈ m, c.one = true := by
  obtain ⟨h1, h2⟩ := mapO_some h
  refine ⟨⟨h1.symm, fun i a b => (ofV1_rel (h2 i b a)).1⟩, fun c hc => ?_⟩
  obtain ⟨i, hi, rfl⟩ := List.getElem_of_mem hc
  exact (ofV1_rel (ι := ι) (h2 i (by omega) hi)).2
theorem ofVal_rel {ι : Io} {v : Value} {v' : V} (h : ofVal v = some v') : VR ι v' v := by
  unfold ofVal at h
  split at h
  · rename_i cs
    cases hm : mapO ofV1 cs.toList with
    | none => rw [hm] at h; cases h
    | some m =>
      rw [hm] at h
      cases h
      obtain ⟨h1, h2⟩ := ofV1s_rel (ι := ι) hm
      have := VR.aggs h1 h2
      simpa using this
  · rename_i vs
    split at h
    · rename_i hv
      cases h
      have : vs = #[] := by apply Array.ext'; simpa using hv
      rw [this]; exact VR.undef
    · cases h
  · exact (ofV1_rel h).1

/-- A frame and an activation. -/
structure AR (nt : Nat) (ι : Io) (fr : Fr) (a : Act) : Prop where
  nt : a.tmps.size = nt
  fr : FR ι fr a.tmps
theorem AR.mono {nt : Nat} {ι ι' : Io} {fr : Fr} {a : Act} (h : AR nt ι fr a) (he : Ext ι ι') : AR nt ι' fr a := ⟨h.nt, h.fr.mono he⟩

theorem AR.ev {nt : Nat} {ι : Io} {fr : Fr} {a : Act} (h : AR nt ι fr a) {o : Operand} {x : EO} (hx : eo o = some x) : VR ι (ev fr x) (a.eval o) := by
  cases o with
  | tmp t =>
    cases hx
    have := h.fr (K.ofNat t)
    rw [K.ofNat_nat] at this
    exact this
  | const v =>
    simp only [eo] at hx
    cases hv : ofVal v with
    | none => rw [hv] at hx; cases hx
    | some v' => rw [hv] at hx; cases hx; exact ofVal_rel hv
  | global g => cases hx
  | func f =>
    cases hx
    have := VR.fn (ι := ι) (f := K.ofNat f) (caps := []) (vs := []) rfl (fun i h => absurd h (by simp))
    rw [K.ofNat_nat] at this
    exact this
theorem AR.evs {nt : Nat} {ι : Io} {fr : Fr} {a : Act} (h : AR nt ι fr a) : ∀ {os : List Operand} {xs : List EO}, mapO eo os = some xs → VRs ι (evs fr xs) (os.map a.eval)
  | [], xs, hx => by cases hx; exact VRs.nil
  | o :: os, xs, hx => by
    unfold mapO at hx
    split at hx
    · rename_i y hy
      cases hm : mapO eo os with
      | none => rw [hm] at hx; cases hx
      | some m => rw [hm] at hx; cases hx; exact VRs.cons (h.ev hy) (h.evs hm)
    · cases hx

theorem AR.put {nt : Nat} {ι : Io} {fr : Fr} {a : Act} (h : AR nt ι fr a) {t : Nat} (ht : t < nt) {v : V} {v' : Value} (hv : VR ι v v') : AR nt ι (fr.set (K.ofNat t) v) (a.put (some t) v') := by
  refine ⟨by simp [Act.put, h.nt], fun k => ?_⟩
  rw [T.get_set]
  simp only [Act.put, Array.getD_eq_getD_getElem?, Array.getElem?_setIfInBounds]
  by_cases e : k = K.ofNat t
  · subst e
    rw [K.ofNat_nat]
    simp only [if_true, h.nt, ht, Option.getD_some]
    exact hv
  · have : ¬ t = k.nat := fun e' => e (K.nat_inj (by rw [K.ofNat_nat]; exact e'.symm))
    simp only [e, this, if_false]
    have := h.fr k
    simpa only [Array.getD_eq_getD_getElem?] using this

/-- One operation that is carried out: what it gives, and what it leaves. -/
def OpOk (Y : Rig) (h : H) (ι : Io) (a : Act) (w : World) (o : Oper) (v : V) (h' : H) : Prop :=
  ∃ v' w' ι', ((execOp a.eval o).run Y.P w = .ok (.value v') w' ∨ ((execOp a.eval o).run Y.P w = .ok .skip w' ∧ v' = undef)) ∧ Step h.nx.nat ι w h'.nx.nat ι' w' ∧ VR ι' v v' ∧ WR Y.tab ι' h' w'
theorem OpOk.pure {Y : Rig} {ι : Io} {a : Act} {w : World} {o : Oper} {v : V} {h : H} {v' : Value} (hr : WR Y.tab ι h w) (hx : (execOp a.eval o).run Y.P w = .ok (.value v') w) (hv : VR ι v v') : OpOk Y h ι a w o v h :=
  ⟨v', w, ι, .inl hx, Step.refl _ _ _, hv, hr⟩

theorem okv_ok {x : Option V} {h h' : H} {v : V} (e : okv x h = .ok v h') : x = some v ∧ h' = h := by
  cases x with
  | none => cases e
  | some y => cases e; exact ⟨rfl, rfl⟩

section inv
theorem RV.no_ne {v : V} {h : H} : RV.no ≠ RV.ok v h := fun e => by cases e
theorem V.onP_ok {x : V} {f : K → Nat → RV} {v : V} {h : H} (e : x.onP f = .ok v h) : ∃ id off, x = .p id off ∧ f id off = .ok v h := by
  cases x <;> first | exact ⟨_, _, rfl, e⟩ | cases e
theorem V.onI_ok {x : V} {f : IntKind → Int → RV} {v : V} {h : H} (e : x.onI .no f = .ok v h) : ∃ k n, x = .i k n ∧ f k n = .ok v h := by
  cases x <;> first | exact ⟨_, _, rfl, e⟩ | cases e
theorem V.onIo_ok {α : Type} {x : V} {f : IntKind → Int → Option α} {v : α} (e : x.onI none f = some v) : ∃ k n, x = .i k n ∧ f k n = some v := by
  cases x <;> first | exact ⟨_, _, rfl, e⟩ | cases e
theorem V.onB_ok {x : V} {f : Bool → RV} {v : V} {h : H} (e : x.onB .no f = .ok v h) : ∃ b, x = .b b ∧ f b = .ok v h := by
  cases x <;> first | exact ⟨_, rfl, e⟩ | cases e
theorem V.onAgg_ok {x : V} {f : List V → RV} {v : V} {h : H} (e : x.onAgg f = .ok v h) : ∃ cs, x = .agg cs ∧ f cs = .ok v h := by
  cases x <;> first | exact ⟨_, rfl, e⟩ | cases e
theorem V.onTup_ok {x : V} {f : List V → RV} {v : V} {h : H} (e : x.onTup f = .ok v h) : ∃ cs, x = .tup cs ∧ f cs = .ok v h := by
  cases x <;> first | exact ⟨_, rfl, e⟩ | cases e
theorem V.onSl_ok {α : Type} {x : V} {d n y : α} {f : K → Nat → Nat → Nat → α} (hd : d ≠ y) (e : x.onSl d n f = y) : (x = .sn ∧ n = y) ∨ ∃ id off m sz, x = .sl id off m sz ∧ f id off m sz = y := by
  cases x <;> first | exact .inl ⟨rfl, e⟩ | exact .inr ⟨_, _, _, _, rfl, e⟩ | exact absurd e hd
theorem Blk.onC_ok {α : Type} {b : Blk} {d y : α} {f : Nat → List V → α} (hd : d ≠ y) (e : b.onC d f = y) : ∃ n cs, b = .cells n cs ∧ f n cs = y := by
  cases b <;> first | exact ⟨_, _, rfl, e⟩ | exact absurd e hd
theorem oGet_ok {α : Type} {o : Option α} {f : α → RV} {v : V} {h : H} (e : oGet o .no f = .ok v h) : ∃ x, o = some x ∧ f x = .ok v h := oGet_some RV.no_ne e
theorem cond_ok {α : Type} {c : Bool} {x d y : α} (hd : d ≠ y) (e : (bif c then x else d) = y) : c = true ∧ x = y := by
  cases c with
  | false => exact absurd e hd
  | true => exact ⟨rfl, e⟩
theorem nonneg_some {n : Int} {m : Nat} (h : nonneg n = some m) : n = (m : Int) := by
  cases n <;> cases h; rfl
end inv

section ops
variable {Y : Rig} {nt : Nat} {ι : Io} {fr : Fr} {a : Act} {h h' : H} {w : World} {v : V} {d : Option Tmp} {ty : TypeId} {pos : String} {aft : Array Edge} {g : Option (Nat × Bool)}

theorem op_move (ha : AR nt ι fr a) (hr : WR Y.tab ι h w) {x : Operand} {x' : EO} (hx : eo x = some x') : OpOk Y h ι a w ⟨d, .move x, ty, pos, aft, g⟩ (ev fr x') h := .pure hr rfl (ha.ev hx)
theorem op_assign (ha : AR nt ι fr a) (hr : WR Y.tab ι h w) {x : Operand} {x' : EO} (hx : eo x = some x') : OpOk Y h ι a w ⟨d, .assign x, ty, pos, aft, g⟩ (ev fr x') h := .pure hr rfl (ha.ev hx)
theorem op_pick (ha : AR nt ι fr a) (hr : WR Y.tab ι h w) {c x y : Operand} {c' x' y' : EO} (hc : eo c = some c') (hx : eo x = some x') (hy : eo y = some y') (he : pickV (ev fr c') (ev fr x') (ev fr y') h = .ok v h') :
    OpOk Y h ι a w ⟨d, .pick c x y, ty, pos, aft, g⟩ v h' := by
  obtain ⟨b, hb, he⟩ := V.onB_ok he
  have hv := ha.ev hc
  rw [hb] at hv
  generalize hcv : a.eval c = cv at hv
  cases hv
  cases b <;> cases he
  · exact .pure hr (by simp [execOp, hcv, asBool]) (ha.ev hy)
  · exact .pure hr (by simp [execOp, hcv, asBool]) (ha.ev hx)

theorem VR.of_p {id : K} {off : Nat} {v' : Value} (hv : VR ι (.p id off) v') : ∃ q, ι id = some q ∧ v' = .pointer (some ⟨q.b, q.base + off, none⟩) := by
  cases hv with | p h => exact ⟨_, h, rfl⟩
theorem VR.of_i {k : IntKind} {n : Int} {v' : Value} (hv : VR ι (.i k n) v') : v' = .int k n := by cases hv; rfl
theorem VR.of_b {b : Bool} {v' : Value} (hv : VR ι (.b b) v') : v' = .bool b := by cases hv; rfl
theorem VR.of_agg {cs : List V} {v' : Value} (hv : VR ι (.agg cs) v') : ∃ vs, v' = .agg vs.toArray ∧ VRs ι cs vs ∧ ∀ c ∈ cs, c.one = true := by
  cases hv with | agg hl hh ho => exact ⟨_, rfl, ⟨hl, hh⟩, ho⟩
theorem VR.of_tup {cs : List V} {v' : Value} (hv : VR ι (.tup cs) v') : ∃ vs, v' = .tuple vs.toArray ∧ VRs ι cs vs := by
  cases hv with | tup hl hh => exact ⟨_, rfl, ⟨hl, hh⟩⟩

theorem cells_new {cs : List V} {vs : Array Value} {t : TypeId} {n : Nat} (hr : WR Y.tab ι h w) (hn : cs.length = n) (h1 : VRs ι cs vs.toList) (ho : ∀ c ∈ cs, c.one = true) :
    Step h.nx.nat ι w (h.new (.cells n cs)).nx.nat (updI ι h.nx ⟨w.heap.size, 0, vs.size⟩) (w.alloc (.cells vs t)) ∧ WR Y.tab (updI ι h.nx ⟨w.heap.size, 0, vs.size⟩) (h.new (.cells n cs)) (w.alloc (.cells vs t)) := by
  have hlen : vs.size = cs.length := by rw [← h1.len, Array.length_toList]
  refine hr.alloc ⟨vs, t, heap_alloc_new w _, hn, by simp, by simp [hlen, hn], ho, ?_⟩
  have e : List.take n (List.drop 0 vs.toList) = vs.toList := by rw [List.drop_zero, ← hn, ← hlen, ← Array.length_toList, List.take_length]
  show VRs _ cs (List.take n (List.drop 0 vs.toList))
  rw [e]
  exact h1.mono (updI_ext (hr.fresh _ (Nat.le_refl _)))

theorem op_alloc (hr : WR Y.tab ι h w) {t : TypeId} {dt : TD} {z : List V} (ht : Y.tab t = some dt) (hz : zeroOf dt = some z) : OpOk Y h ι a w ⟨d, .alloc t, ty, pos, aft, g⟩ (.p h.nx 0) (h.new (.cells z.length z)) := by
  obtain ⟨h1, h2⟩ := ofV1s_rel (ι := ι) hz
  obtain ⟨hs, hw⟩ := cells_new (t := t) hr rfl h1 h2
  refine ⟨_, _, _, .inl ?_, hs, .p (updI_same _ _ _), hw⟩
  simp [execOp, Instr.alloc, Rig.zero ht, newVar, newRow]
theorem op_box (ha : AR nt ι fr a) (hr : WR Y.tab ι h w) {t : TypeId} {x : Operand} {x' : EO} {n : Nat} {cs : List V} (hx : eo x = some x') (hc : cellsN n (ev fr x') = some cs) :
    OpOk Y h ι a w ⟨d, .box t x, ty, pos, aft, g⟩ (.p h.nx 0) (h.new (.cells n cs)) := by
  obtain ⟨vs, h1, h2, h3, h4⟩ := cellsN_rel (ha.ev hx) hc
  subst h1
  obtain ⟨hs, hw⟩ := cells_new (t := t) hr h3 h2 h4
  refine ⟨_, _, _, .inl ?_, hs, .p (updI_same _ _ _), hw⟩
  simp [execOp, Instr.box, newVar, newRow]

/-- The parts of a literal. -/
theorem fill_rel (ha : AR nt ι fr a) {all : Nat} {pl : Nat → Option (Nat × Nat)} : ∀ {ps : List (Nat × Operand)} {qs : List (Nat × Nat × EO)} {z cs : List V} {zs : List Value}, partsAt all pl ps = some qs → VRs ι z zs → (∀ c ∈ z, c.one = true) → z.length = all → fillE fr z qs = some cs →
    ∃ vs, Instr.fill pl zs.toArray (ps.map fun p => (p.1, a.eval p.2)) = some vs.toArray ∧ VRs ι cs vs ∧ (∀ c ∈ cs, c.one = true) ∧ cs.length = all
  | [], qs, z, cs, zs, hp, hz, ho, hl, hf => by
    cases hp
    cases hf
    exact ⟨zs, rfl, hz, ho, hl⟩
  | (i, x) :: ps, qs, z, cs, zs, hp, hz, ho, hl, hf => by
    unfold partsAt at hp
    split at hp
    · rename_i o x' hpl hx
      split at hp
      · rename_i hle
        cases hm : partsAt all pl ps with
        | none => rw [hm] at hp; cases hp
        | some qs' =>
          rw [hm] at hp
          cases hp
          have hf' : oGet (cellsN o.2 (ev fr x')) none (fun cs => fillE fr (setMany z o.1 cs) qs') = some cs := hf
          obtain ⟨ds, hds, hf''⟩ := oGet_some (by simp) hf'
          obtain ⟨us, h1, h2, h3, h4⟩ := cellsN_rel (ha.ev hx) hds
          have hul : us.length = o.2 := by rw [h2.len, h3]
          have e1 := setMany_eq z o.1 ds (by omega)
          have hzl : zs.length = all := by rw [hz.len, hl]
          have hz' : VRs ι (setMany z o.1 ds) (zs.take o.1 ++ us ++ zs.drop (o.1 + us.length)) := by
            rw [e1, show o.1 + ds.length = o.1 + us.length by omega]
            exact ((hz.take _).append h2).append (hz.drop _)
          have ho' : ∀ c ∈ setMany z o.1 ds, c.one = true := by
            rw [e1]
            intro c hc
            rcases List.mem_append.1 hc with hc | hc
            · rcases List.mem_append.1 hc with hc | hc
              · exact ho c (List.mem_of_mem_take hc)
              · exact h4 c hc
            · exact ho c (List.mem_of_mem_drop hc)
          have hl' : (setMany z o.1 ds).length = all := by rw [e1]; simp; omega
          obtain ⟨vs, g1, g2, g3, g4⟩ := fill_rel ha hm hz' ho' hl' hf''
          refine ⟨vs, ?_, g2, g3, g4⟩
          have hsz : (a.eval x).cells.size = us.length := by rw [← Array.length_toList, h1]
          simp only [List.map_cons, Instr.fill, hpl]
          rw [if_neg (by simp [hsz]; omega)]
          rw [← g1]
          congr 1
          rw [← Array.foldl_toList, Array.toList_zipIdx, h1]
          clear g1 g2 g3 g4 hz' ho' hl' hf' hf'' e1 hm hf h2 h3 h4 hsz h1
          have key : ∀ (us : List Value) (k : Nat) (zs : List Value), k + us.length ≤ zs.length → ∀ j, List.foldl (fun (cs : Array Value) (x : Value × Nat) => cs.setIfInBounds (k - j + x.2) x.1) zs.toArray (us.zipIdx j) = (zs.take k ++ us ++ zs.drop (k + us.length)).toArray ∨ k < j := by
            intro us
            induction us with
            | nil => intro k zs hk j; left; simp
            | cons u us ih =>
              intro k zs hk j
              by_cases hj : k < j
              · exact .inr hj
              · left
                simp only [List.zipIdx_cons, List.foldl_cons]
                have e : k - j + j = k := by omega
                rw [e, List.setIfInBounds_toArray]
                rcases ih (k + 1) (zs.set k u) (by simp at hk ⊢; omega) (j + 1) with h | h
                · rw [show k + 1 - (j + 1) = k - j by omega] at h
                  rw [h]
                  congr 1
                  rw [List.take_set, List.drop_set, if_pos (by omega)]
                  have hlt : k < zs.length := by simp at hk; omega
                  have e3 : (List.take (k + 1) zs).set k u = zs.take k ++ [u] := by
                    rw [List.take_add_one, List.getElem?_eq_getElem hlt]
                    simp only [Option.toList]
                    rw [List.set_append_right _ _ (by simp; omega)]
                    simp [Nat.min_eq_left (Nat.le_of_lt hlt)]
                  rw [e3]
                  simp [Nat.add_assoc, Nat.add_comm 1]
                · omega
          rcases key us o.1 zs (by omega) 0 with h | h
          · simpa using h
          · omega
      · cases hp
    · cases hp
end ops
end Go.Ev
