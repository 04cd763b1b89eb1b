/-
  The evaluator, part T: keys.
  The evaluator, part U: from a run of the evaluator to a call's contract.
  The evaluator, part V: what is proved of small functions of numbers.
  The evaluator, part W: more fuel gives the same.
  The evaluator, part X: contracts over slices of plain cells, from a run over a small memory of its own.
  The evaluator, part Y: operations one after another, over frames of which some slots are known.
  The evaluator, part Z: an example: a function of two slices (law01's ints, function 32 of the seat of d3d68b0), over unknown slices: its contract by Runs.
  The evaluator, an example: an iterator over a family of sets (shells.family.all's literal, function 91 of the seat of d3d68b0): what it does for any body.
  The evaluator, an example: the iterator over a set's corners (shells.cornersOf's literal, function 92 of the seat of d3d68b0): what it does for any body.
-/
import Derived.Test.YtneacehpoaambaaPb
import Derived.DeepKeys5
import Derived.Laws.StructEq
import Derived.MapKept
namespace Go.Ev
open Go Go.RowKit Go.MapKept

/-- What a type of arrays and structs must be to be a key. -/
structure WideKey (P : Program) (t : TypeId) : Prop where
  laid : laidOutB P = true
  small : Nat.ble (P.types.size + 2) 10000 = true
  row : Nat.blt t P.types.size = true
  key : P.keyType t = true
  wide : (match P.underlying t with | some (.array _ _) | some (.struct _) => true | _ => false) = true
  guard : P.eqGuardType P.depth t = false

theorem keyOk_wide {P : Program} {t : TypeId} {cs : List CK} (h : WideKey P t) (hk : ∀ v, fitV (.many cs) v → ∃ l, keyOf P t v = some l) : KeyOk P t (.many cs) := by
  have hsmall : P.types.size + 2 ≤ 10000 := Nat.le_of_ble_eq_true h.small
  have hrow : t < P.types.size := Nat.lt_of_lt_of_le (Nat.lt_succ_self _) (Nat.le_of_ble_eq_true h.row)
  have kl := deep_law_gate h.laid hsmall hrow h.key h.wide
  refine ⟨fun w x y hx hy => ?_, fun w op ox oy x y hx hy => ?_, fun w em v hv => ?_, fun w x es hx hes => ?_, fun w v hv => ?_⟩
  · obtain ⟨lx, h1⟩ := hk x hx
    obtain ⟨ly, h2⟩ := hk y hy
    obtain ⟨r, h3, h4⟩ := run_equal_deep w (m := P.types.size + 1) (by omega) h.key h.wide h1 h2
    refine ⟨r, h3, h4.trans ⟨fun e => kl.inj h1 (e ▸ h2), fun e => ?_⟩⟩
    rw [e, h2] at h1
    exact (Option.some.inj h1).symm
  · obtain ⟨vs, rfl, _⟩ := hx
    obtain ⟨us, rfl, _⟩ := hy
    exact run_eqGuard_agg w op t ox oy _ _ h.guard
  · obtain ⟨l, h1⟩ := hk v hv
    exact kl.check w em h1
  · obtain ⟨l, h1⟩ := hk x hx
    exact kl.find w h1 es fun e he => hk e.key (hes e he)
  · obtain ⟨l, h1⟩ := hk v hv
    exact kl.stays w h1

theorem keyOk_bools {P : Program} {t e : TypeId} {n : Nat} (h : WideKey P t) (hu : P.underlying t = some (.array n e)) (he : P.underlying e = some .bool) (hc : P.cellsOf t = n) (hce : P.cellsOf e = 1) : KeyOk P t (.many (List.replicate n none)) := by
  refine keyOk_wide h fun v hv => ?_
  obtain ⟨vs, rfl, hl, hf⟩ := hv
  rw [List.length_replicate] at hl
  have hb : ∀ i (hi : i < vs.length), ∃ b, vs[i] = .bool b := fun i hi => by
    have := hf i (by simpa using (by omega : i < n)) hi
    simpa [fitC] using this
  have hpos : 0 < P.types.size := Nat.lt_of_le_of_lt (Nat.zero_le _) (Nat.lt_of_lt_of_le (Nat.lt_succ_self _) (Nat.le_of_ble_eq_true h.row))
  obtain ⟨m, hm⟩ : ∃ m, P.types.size = m + 1 := ⟨P.types.size - 1, by omega⟩
  have hformed : (Value.agg vs.toArray).formed P t = true := by simp [Value.formed, hu, hc, hl]
  have key : ∀ (l : List Nat), (∀ i ∈ l, i < n) → ∃ ls : List (List Lit), (l.mapM fun i => P.keyLits P.types.size e ((vs.drop (i * P.cellsOf e)).take (P.cellsOf e))) = some ls := by
    intro l
    induction l with
    | nil => intro _; exact ⟨[], rfl⟩
    | cons i l ih =>
      intro hi
      obtain ⟨ls, h1⟩ := ih fun j hj => hi j (List.mem_cons_of_mem _ hj)
      have hin : i < vs.length := by have := hi i List.mem_cons_self; omega
      obtain ⟨b, hb1⟩ := hb i hin
      have e1 : (vs.drop (i * P.cellsOf e)).take (P.cellsOf e) = [.bool b] := by
        rw [hce, Nat.mul_one, List.drop_eq_getElem_cons hin, hb1]
        rfl
      refine ⟨[.bool b] :: ls, ?_⟩
      rw [List.mapM_cons, e1, h1]
      have : P.keyLits P.types.size e [.bool b] = some [.bool b] := by
        rw [hm]
        unfold Program.keyLits
        rw [he]
      rw [this]
      rfl
  obtain ⟨ls, h1⟩ := key (List.range n) fun i hi => List.mem_range.1 hi
  refine ⟨.string (keyBytes ls.flatten), ?_⟩
  unfold keyOf
  rw [hu]
  simp only [h.key, hformed, Bool.and_self, if_true]
  unfold Program.keyLits
  rw [hu]
  simp only [Value.cells, hc, hl, if_true]
  rw [h1]
  rfl

/-! ### Numbers -/
theorem kind_range (k : IntKind) : k.min = -(kmin k : Int) ∧ k.max = (kmax k : Int) := by cases k <;> exact ⟨rfl, rfl⟩
theorem inR_wf {k : IntKind} {n : Int} (h : inR k n = true) : (Lit.int k n).wf = true := by
  obtain ⟨r1, r2⟩ := kind_range k
  have key : k.min ≤ n ∧ n ≤ k.max := by
    rw [r1, r2]
    cases n with
    | ofNat m =>
      have h := Nat.le_of_ble_eq_true (show Nat.ble m (kmax k) = true from h)
      have e : Int.ofNat m = (m : Int) := rfl
      rw [e]
      omega
    | negSucc m =>
      have h : m < kmin k := Nat.lt_of_lt_of_le (Nat.lt_succ_self _) (Nat.le_of_ble_eq_true h)
      have e : Int.negSucc m = -((m : Int) + 1) := by omega
      rw [e]
      omega
  simp [Lit.wf, key]
theorem keyOk_int {P : Program} {t : TypeId} {k : IntKind} (hu : P.underlying t = some (.int k)) : KeyOk P t (.one (some k)) := by
  have isk : ∀ n, IsKey (.int k) (.int k n) := fun n => by simp [IsKey]
  refine ⟨fun w x y hx hy => ?_, fun w op ox oy x y hx hy => ?_, fun w em v hv => ?_, fun w x es hx hes => ?_, fun w v hv => ?_⟩
  · obtain ⟨a, rfl, _⟩ := hx
    obtain ⟨b, rfl, _⟩ := hy
    exact ⟨a == b, run_equalIn_int w 9999 t k k a b hu, by simp⟩
  · obtain ⟨a, rfl, _⟩ := hx
    obtain ⟨b, rfl, _⟩ := hy
    unfold eqGuard; cases op <;> rfl
  · obtain ⟨a, rfl, _⟩ := hv
    exact run_checkKey hu (isk a) em 9999
  · obtain ⟨a, rfl, _⟩ := hx
    rcases findNow_spec (isk a) es 0 (fun e he => by obtain ⟨b, hb, _⟩ := hes e he; rw [hb]; exact isk b) with ⟨h1, h2⟩ | ⟨j, e, h1, h2, h3⟩
    · exact .inl ⟨run_findKey hu h1, h2⟩
    · exact .inr ⟨j, e, by have := run_findKey (w := w) hu h1; simpa using this, h2, h3⟩
  · obtain ⟨a, rfl, _⟩ := hv
    exact run_keyThatStays (isk a)
theorem keyOk_bool {P : Program} {t : TypeId} (hu : P.underlying t = some .bool) : KeyOk P t (.one none) := by
  have isk : ∀ n, IsKey .bool (.bool n) := fun n => by simp [IsKey]
  refine ⟨fun w x y hx hy => ?_, fun w op ox oy x y hx hy => ?_, fun w em v hv => ?_, fun w x es hx hes => ?_, fun w v hv => ?_⟩
  · obtain ⟨a, rfl⟩ := hx
    obtain ⟨b, rfl⟩ := hy
    exact ⟨a == b, run_equalIn_bool' w 9999 t a b hu, by simp⟩
  · obtain ⟨a, rfl⟩ := hx
    obtain ⟨b, rfl⟩ := hy
    unfold eqGuard; cases op <;> rfl
  · obtain ⟨a, rfl⟩ := hv
    exact run_checkKey hu (isk a) em 9999
  · obtain ⟨a, rfl⟩ := hx
    rcases findNow_spec (isk a) es 0 (fun e he => by obtain ⟨b, hb⟩ := hes e he; rw [hb]; exact isk b) with ⟨h1, h2⟩ | ⟨j, e, h1, h2, h3⟩
    · exact .inl ⟨run_findKey hu h1, h2⟩
    · exact .inr ⟨j, e, by have := run_findKey (w := w) hu h1; simpa using this, h2, h3⟩
  · obtain ⟨a, rfl⟩ := hv
    exact run_keyThatStays (isk a)
theorem keyOk_ints {P : Program} {t e : TypeId} {n : Nat} {k : IntKind} (h : WideKey P t) (hu : P.underlying t = some (.array n e)) (he : P.underlying e = some (.int k)) (hc : P.cellsOf t = n) (hce : P.cellsOf e = 1) : KeyOk P t (.many (List.replicate n (some k))) := by
  refine keyOk_wide h fun v hv => ?_
  obtain ⟨vs, rfl, hl, hf⟩ := hv
  rw [List.length_replicate] at hl
  have hb : ∀ i (hi : i < vs.length), ∃ b, vs[i] = .int k b ∧ inR k b = true := fun i hi => by
    have := hf i (by simpa using (by omega : i < n)) hi
    simpa [fitC] using this
  have hpos : 0 < P.types.size := Nat.lt_of_le_of_lt (Nat.zero_le _) (Nat.lt_of_lt_of_le (Nat.lt_succ_self _) (Nat.le_of_ble_eq_true h.row))
  obtain ⟨m, hm⟩ : ∃ m, P.types.size = m + 1 := ⟨P.types.size - 1, by omega⟩
  have hformed : (Value.agg vs.toArray).formed P t = true := by simp [Value.formed, hu, hc, hl]
  have key : ∀ (l : List Nat), (∀ i ∈ l, i < n) → ∃ ls : List (List Lit), (l.mapM fun i => P.keyLits P.types.size e ((vs.drop (i * P.cellsOf e)).take (P.cellsOf e))) = some ls := by
    intro l
    induction l with
    | nil => intro _; exact ⟨[], rfl⟩
    | cons i l ih =>
      intro hi
      obtain ⟨ls, h1⟩ := ih fun j hj => hi j (List.mem_cons_of_mem _ hj)
      have hin : i < vs.length := by have := hi i List.mem_cons_self; omega
      obtain ⟨b, hb1, hb2⟩ := hb i hin
      have e1 : (vs.drop (i * P.cellsOf e)).take (P.cellsOf e) = [.int k b] := by
        rw [hce, Nat.mul_one, List.drop_eq_getElem_cons hin, hb1]
        rfl
      refine ⟨[.int k b] :: ls, ?_⟩
      rw [List.mapM_cons, e1, h1]
      have : P.keyLits P.types.size e [.int k b] = some [.int k b] := by
        rw [hm]
        unfold Program.keyLits
        rw [he]
        simp [inR_wf hb2]
      rw [this]
      rfl
  obtain ⟨ls, h1⟩ := key (List.range n) fun i hi => List.mem_range.1 hi
  refine ⟨.string (keyBytes ls.flatten), ?_⟩
  unfold keyOf
  rw [hu]
  simp only [h.key, hformed, Bool.and_self, if_true]
  unfold Program.keyLits
  rw [hu]
  simp only [Value.cells, hc, hl, if_true]
  rw [h1]
  rfl

/-! ### Structs of plain fields -/
def plainC (P : Program) (c : CK) (t : TypeId) : Prop := match c with
  | none => P.underlying t = some .bool
  | some k => P.underlying t = some (.int k)
def FieldsOk (P : Program) : List Field → List CK → Nat → Prop
  | [], [], _ => True
  | f :: fs, c :: cs, o => f.offset = o ∧ plainC P c f.type ∧ P.cellsOf f.type = 1 ∧ FieldsOk P fs cs (o + 1)
  | _, _, _ => False
theorem keyLits_plain1 {P : Program} {c : CK} {t : TypeId} {v : Value} (m : Nat) (hc : plainC P c t) (hv : fitC c v) : ∃ l, P.keyLits (m + 1) t [v] = some l := by
  cases c with
  | none =>
    obtain ⟨b, rfl⟩ := hv
    exact ⟨[.bool b], by unfold Program.keyLits; rw [show P.underlying t = some .bool from hc]⟩
  | some k =>
    obtain ⟨n, rfl, hr⟩ := hv
    exact ⟨[.int k n], by unfold Program.keyLits; rw [show P.underlying t = some (.int k) from hc]; simp [inR_wf hr]⟩
theorem fields_lits {P : Program} (m : Nat) (vs : List Value) : ∀ (fs : List Field) (cs : List CK) (o : Nat), FieldsOk P fs cs o → vs.length = o + cs.length → (∀ (i : Nat) (h : i < cs.length) (h' : o + i < vs.length), fitC cs[i] vs[o + i]) →
    ∃ ls : List (List Lit), (fs.mapM fun f => P.keyLits (m + 1) f.type ((vs.drop f.offset).take (P.cellsOf f.type))) = some ls
  | [], [], o, _, _, _ => ⟨[], rfl⟩
  | [], _ :: _, _, h, _, _ => h.elim
  | _ :: _, [], _, h, _, _ => h.elim
  | f :: fs, c :: cs, o, hok, hl, hf => by
    obtain ⟨h1, h2, h3, h4⟩ := hok
    obtain ⟨ls, hls⟩ := fields_lits m vs fs cs (o + 1) h4 (by simp at hl; omega) fun i h h' => by
      have := hf (i + 1) (by simpa using h) (by omega)
      simp only [List.getElem_cons_succ] at this
      have e : o + (i + 1) = o + 1 + i := by omega
      simpa [e] using this
    have hin : o < vs.length := by simp at hl; omega
    obtain ⟨l, hl1⟩ := keyLits_plain1 m h2 (hf 0 (by simp) (by simpa using hin))
    refine ⟨l :: ls, ?_⟩
    have e1 : (vs.drop f.offset).take (P.cellsOf f.type) = [vs[o]] := by
      rw [h1, h3, List.drop_eq_getElem_cons hin]
      rfl
    rw [List.mapM_cons, e1]
    have hl1 : P.keyLits (m + 1) f.type [vs[o]] = some l := hl1
    rw [hl1, hls]
    rfl
theorem keyOk_struct {P : Program} {t : TypeId} {fs : Array Field} {cs : List CK} (h : WideKey P t) (hu : P.underlying t = some (.struct fs)) (hc : P.cellsOf t = cs.length) (hn : fs.all (·.name != "_") = true) (hf : FieldsOk P fs.toList cs 0) : KeyOk P t (.many cs) := by
  refine keyOk_wide h fun v hv => ?_
  obtain ⟨vs, rfl, hl, hfit⟩ := hv
  have hpos : 0 < P.types.size := Nat.lt_of_le_of_lt (Nat.zero_le _) (Nat.lt_of_lt_of_le (Nat.lt_succ_self _) (Nat.le_of_ble_eq_true h.row))
  obtain ⟨m, hm⟩ : ∃ m, P.types.size = m + 1 := ⟨P.types.size - 1, by omega⟩
  have hformed : (Value.agg vs.toArray).formed P t = true := by simp [Value.formed, hu, hc, hl]
  obtain ⟨ls, h1⟩ := fields_lits m vs fs.toList cs 0 hf (by omega) fun i h h' => by
    have := hfit i h (by omega)
    simpa using this
  refine ⟨.string (keyBytes ls.flatten), ?_⟩
  unfold keyOf
  rw [hu]
  simp only [h.key, hformed, Bool.and_self, if_true]
  unfold Program.keyLits
  rw [hu]
  simp only [Value.cells, hc, hl, hn, and_self, if_true]
  rw [← hm] at h1
  rw [h1]
  rfl
end Go.Ev
namespace Go.Ev
open Go Go.RowKit

/-! ### Tables -/
def T.each {α : Type} (p : K → α → Prop) : T α → (K → K) → Prop
  | .nil, _ => True
  | .node l v r, f => (match v with | none => True | some x => p (f .e) x) ∧ T.each p l (fun k => f (.o k)) ∧ T.each p r (fun k => f (.z k))
theorem T.each_get {α : Type} {p : K → α → Prop} : ∀ {t : T α} {f : K → K} {k : K} {x : α}, T.each p t f → t.get k = some x → p (f k) x
  | .nil, f, k, x, _, h => by rw [T.get_nil] at h; cases h
  | .node l v r, f, .e, x, he, h => by
    have h : v = some x := h
    subst h
    exact he.1
  | .node l v r, f, .o k, x, he, h => T.each_get (t := l) (f := fun k => f (.o k)) (k := k) he.2.1 h
  | .node l v r, f, .z k, x, he, h => T.each_get (t := r) (f := fun k => f (.z k)) (k := k) he.2.2 h
def EntryOk (Y : Rig) (k : K) (ef : EF) : Prop := (ef.nv = none ∧ ∃ fn c, FnOk Y k ef fn c) ∨ ∃ g, ef.nv = some g ∧ NatOk Y k g
theorem fns_of_each {Y : Rig} {fs : T EF} (h : T.each (EntryOk Y) fs (fun k => k)) : Fns Y fs := fun _ _ hk => T.each_get h hk
theorem entry_code {Y : Rig} {k : K} {n : Nat} {ef : EF} {fn : Func} (hk : k.nat = n) (h1 : Y.P.funcs[n]? = some fn) (h2 : (fn.name == "runtime.NumGoroutine") = false) (h3 : compF Y.tab fn = some ef) : ef.nv = none ∧ ∃ fn c, FnOk Y k ef fn c := by
  subst hk
  unfold compF at h3
  split at h3
  · rename_i c rs hb hr
    cases h3
    exact ⟨rfl, fn, c, h1, hb, h2, rfl, hr, rfl⟩
  · cases h3
def rowOf (t : Nat) : List (Nat × TD) → Option TD
  | [] => none
  | p :: l => bif Nat.beq p.1 t then some p.2 else rowOf t l
def RowsOk (P : Program) : List (Nat × TD) → Prop
  | [] => True
  | p :: l => p.2.ok P p.1 ∧ RowsOk P l
theorem rowsOk {P : Program} : ∀ {l : List (Nat × TD)}, RowsOk P l → ∀ t d, rowOf t l = some d → d.ok P t
  | [], _, t, d, h => by cases h
  | p :: l, hl, t, d, h => by
    unfold rowOf at h
    cases hb : Nat.beq p.1 t with
    | true =>
      rw [hb] at h
      have h : some p.2 = some d := h
      cases h
      have := Nat.eq_of_beq_eq_true hb
      subst this
      exact hl.1
    | false =>
      rw [hb] at h
      exact rowsOk hl.2 t d h
theorem td_plain {P : Program} {t : TypeId} {desc : TypeDesc} {size bytes : Nat} {zero : Value} (h1 : P.underlying t = some desc) (h2 : (P.info? t).map (fun i => (i.size, i.bytes, i.zero)) = some (size, bytes, some zero)) : (TD.mk desc size bytes zero none).ok P t :=
  ⟨h1, h2, fun _ h => by cases h⟩
theorem td_key {P : Program} {t : TypeId} {desc : TypeDesc} {size bytes : Nat} {zero : Value} {kd : KD} (h1 : P.underlying t = some desc) (h2 : (P.info? t).map (fun i => (i.size, i.bytes, i.zero)) = some (size, bytes, some zero)) (h3 : KeyOk P t kd) : (TD.mk desc size bytes zero (some kd)).ok P t :=
  ⟨h1, h2, fun _ h => by cases h; exact h3⟩

/-! ### Contracts -/
def V.flat (v : V) : Bool := match v with | .b _ => true | .i _ _ => true | _ => false
theorem VR.flat {ι ι' : Io} {v : V} {v' : Value} (hf : v.flat = true) (h : VR ι v v') : VR ι' v v' := by
  cases v <;> simp only [V.flat, reduceCtorEq] at hf
  · cases h; exact .b _
  · cases h; exact .i _ _
theorem VRs.flat {ι ι' : Io} : ∀ {vs : List V} {us : List Value}, vs.all V.flat = true → VRs ι vs us → VRs ι' vs us
  | [], us, _, h => by obtain rfl := h.inv_nil; exact VRs.nil
  | v :: vs, us, hf, h => by
    obtain ⟨u, us', rfl, h1, h2⟩ := h.inv_cons
    rw [List.all_cons, Bool.and_eq_true] at hf
    exact VRs.cons (h1.flat hf.1) (VRs.flat hf.2 h2)
noncomputable def givesB (fs : T EF) (n : Nat) (ef : EF) (args : List V) (v : V) : Bool := (callF (eval fs n) ef args ⟨.e, .nil⟩).chk fun u => beq1 u v
theorem WR.empty (tab : Tab) (w : World) : WR tab (fun _ => none) ⟨.e, .nil⟩ w :=
  ⟨(fun _ _ h => absurd h (by simp)), (fun _ _ h => absurd h (by simp)), (fun _ _ _ _ h => absurd h (by simp)), (fun _ _ => rfl)⟩
theorem gives_of_eval {Y : Rig} {fs : T EF} (hfs : Fns Y fs) {k : K} {ef : EF} (hf : ef.nv = none ∧ ∃ fn c, FnOk Y k ef fn c) {n : Nat} {args : List V} {v : V} (ha : args.all V.flat = true) (hv : v.flat = true) (he : givesB fs n ef args v = true) : Gives Y k args v := by
  intro ι vals w hvals
  obtain ⟨_, fn, c, hf⟩ := hf
  unfold givesB at he
  cases hc : callF (eval fs n) ef args ⟨.e, .nil⟩ with
  | no => rw [hc] at he; cases he
  | ok u h' =>
    rw [hc] at he
    have := beq1_eq (show beq1 u v = true from he)
    subst this
    refine (callF_rel (evalOk hfs n) hf hc (hvals.flat (ι' := fun _ => none) ha) (WR.empty Y.tab w)).mono ?_
    rintro e w' ⟨ι', v', rfl, hs, hvr, _⟩
    exact ⟨v', rfl, fun ι => hvr.flat hv, hs.os, hs.tape, hs.output, hs.size, fun b hb => hs.keep b hb fun _ _ h => absurd h (by simp)⟩
/-- A table of what is proved. -/
noncomputable def tabG (l : List (List V × V)) (args : List V) : Option V := List.rec none (fun p _ ih => bif beqL p.1 args then some p.2 else ih) l
def AllG (Y : Rig) (k : K) : List (List V × V) → Prop
  | [] => True
  | p :: l => Gives Y k p.1 p.2 ∧ AllG Y k l
theorem tabG_gives {Y : Rig} {k : K} : ∀ {l : List (List V × V)}, AllG Y k l → ∀ args v, tabG l args = some v → Gives Y k args v
  | [], _, args, v, h => by cases h
  | p :: l, hl, args, v, h => by
    have h : (bif beqL p.1 args then some p.2 else tabG l args) = some v := h
    cases hb : beqL p.1 args with
    | true =>
      rw [hb] at h
      have h : some p.2 = some v := h
      cases h
      rw [← beqL_eq hb]
      exact hl.1
    | false => rw [hb] at h; exact tabG_gives hl.2 args v h
end Go.Ev
namespace Go.Ev
open Go Go.RowKit

/-- The number of elements of a set below 64. -/
noncomputable def pop6 (m : Nat) : Nat := Nat.add (Nat.mod m 2) (Nat.add (Nat.mod (Nat.div m 2) 2) (Nat.add (Nat.mod (Nat.div m 4) 2) (Nat.add (Nat.mod (Nat.div m 8) 2) (Nat.add (Nat.mod (Nat.div m 16) 2) (Nat.mod (Nat.div m 32) 2)))))
noncomputable def onNat (i : Int) (f : Nat → Option V) : Option V := match i with | .ofNat m => f m | .negSucc _ => none
noncomputable def popG (args : List V) : Option V := match args with
  | [.i .i64 n] => onNat n fun m => bif Nat.blt m 64 then some (.i .i64 (.ofNat (pop6 m))) else none
  | _ => none
noncomputable def chkPop (fs : T EF) (n : Nat) (ef : EF) (k : Nat) : Bool := Nat.rec true (fun m ih => givesB fs n ef [.i .i64 (.ofNat m)] (.i .i64 (.ofNat (pop6 m))) && ih) k
theorem chkPop_at {fs : T EF} {n : Nat} {ef : EF} : ∀ {k : Nat}, chkPop fs n ef k = true → ∀ m, m < k → givesB fs n ef [.i .i64 (.ofNat m)] (.i .i64 (.ofNat (pop6 m))) = true
  | 0, _, m, hm => by omega
  | k + 1, h, m, hm => by
    have h : (givesB fs n ef [.i .i64 (.ofNat k)] (.i .i64 (.ofNat (pop6 k))) && chkPop fs n ef k) = true := h
    rw [Bool.and_eq_true] at h
    by_cases e : m = k
    · subst e; exact h.1
    · exact chkPop_at h.2 m (by omega)
theorem popG_gives {Y : Rig} {fs : T EF} (hfs : Fns Y fs) {k : K} {ef : EF} (hf : ef.nv = none ∧ ∃ fn c, FnOk Y k ef fn c) {n : Nat} (h : chkPop fs n ef 64 = true) : ∀ args v, popG args = some v → Gives Y k args v := by
  intro args v hg
  unfold popG at hg
  split at hg
  · rename_i i
    cases i with
    | negSucc m => cases hg
    | ofNat m =>
      have hg : (bif Nat.blt m 64 then some (V.i .i64 (.ofNat (pop6 m))) else none) = some v := hg
      obtain ⟨hb, hv⟩ := cond_ok (by simp) hg
      cases hv
      have hlt : m < 64 := Nat.lt_of_lt_of_le (Nat.lt_succ_self _) (Nat.le_of_ble_eq_true hb)
      exact gives_of_eval hfs hf rfl rfl (chkPop_at h m hlt)
  · cases hg

/-- Is a set a part of another? -/
noncomputable def partG (args : List V) : Option V := match args with
  | [.i .i64 a, .i .i64 b] => some (.b (ieq (ibits (fun m n => Nat.xor m (Nat.land m n)) (fun _ x y => x &&& ~~~y) .i64 a b) (.ofNat 0)))
  | _ => none
theorem partG_gives {Y : Rig} {fs : T EF} (hfs : Fns Y fs) {k : K} {ef : EF} (hf : ef.nv = none ∧ ∃ fn c, FnOk Y k ef fn c) {n : Nat} {h' : Int → Int → H}
    (h : ∀ a b, callF (eval fs n) ef [.i .i64 a, .i .i64 b] ⟨.e, .nil⟩ = .ok (.b (ieq (ibits (fun m n => Nat.xor m (Nat.land m n)) (fun _ x y => x &&& ~~~y) .i64 a b) (.ofNat 0))) (h' a b)) : ∀ args v, partG args = some v → Gives Y k args v := by
  intro args v hg
  unfold partG at hg
  split at hg
  · rename_i a b
    cases hg
    intro ι vals w hvals
    obtain ⟨_, fn, c, hf⟩ := hf
    refine (callF_rel (evalOk hfs n) hf (h a b) (hvals.flat (ι' := fun _ => none) rfl) (WR.empty Y.tab w)).mono ?_
    rintro e w' ⟨ι', v', rfl, hs, hvr, _⟩
    exact ⟨v', rfl, fun ι => hvr.flat rfl, hs.os, hs.tape, hs.output, hs.size, fun b hb => hs.keep b hb fun _ _ h => absurd h (by simp)⟩
  · cases hg
/-- An entry by what is proved. -/
theorem entry_nat {Y : Rig} {k : K} {n : Nat} {fn : Func} {g : List V → Option V} (hk : k.nat = n) (h1 : Y.P.funcs[n]? = some fn) (h2 : (fn.name == "runtime.NumGoroutine") = false) (h3 : fn.body.isSome = true) (hg : ∀ args v, g args = some v → Gives Y k args v) : EntryOk Y k ⟨0, [], .no, some (flatG g)⟩ := by
  subst hk
  refine .inr ⟨flatG g, rfl, ⟨fn, h1, (fun e => by rw [e] at h3; cases h3), h2⟩, fun args h v h' he => ?_⟩
  have he : (oGet (g args) none fun v => some (v, h)) = some (v, h') := he
  obtain ⟨v1, e1, e2⟩ := oGet_some (by simp) he
  cases e2
  exact (hg _ _ e1).does h
end Go.Ev
namespace Go.Ev
open Go Go.RowKit

def RLe (r s : Res) : Prop := ∀ e fr h, r = .ok e fr h → s = .ok e fr h
def VLe (r s : RV) : Prop := ∀ v h, r = .ok v h → s = .ok v h
def GLe (g g' : Go) : Prop := ∀ ro c fr h, RLe (g ro c fr h) (g' ro c fr h)
theorem RLe.refl (r : Res) : RLe r r := fun _ _ _ h => h
theorem VLe.refl (r : RV) : VLe r r := fun _ _ h => h
theorem RLe.no (s : Res) : RLe .no s := fun _ _ _ h => by cases h
theorem VLe.no (s : RV) : VLe .no s := fun _ _ h => by cases h
theorem RLe.go {r s : Res} {f f' : Fr → H → Res} (h : RLe r s) (hf : ∀ fr h, RLe (f fr h) (f' fr h)) : RLe (r.go f) (s.go f') := fun e fr h0 he => by
  rcases Res.go_ok he with ⟨fr1, h1, e1, e2⟩ | ⟨hne, e1⟩
  · have := h _ _ _ e1
    rw [this]
    exact hf _ _ _ _ _ e2
  · have := h _ _ _ e1
    rw [this]
    cases e <;> first | exact absurd rfl hne | rfl
theorem RLe.at {r s : Res} {id : Nat} (h : RLe r s) : RLe (r.at id) (s.at id) := fun e fr h0 he => by
  obtain ⟨e1, e2, _⟩ := Res.at_ok he
  rw [h _ _ _ e2, ← e2]
  exact he
theorem VLe.to {r s : RV} {f f' : V → H → Res} (h : VLe r s) (hf : ∀ v h, RLe (f v h) (f' v h)) : RLe (r.to f) (s.to f') := fun e fr h0 he => by
  obtain ⟨v, h1, e1, e2⟩ := RV.to_ok he
  rw [h _ _ e1]
  exact hf _ _ _ _ _ e2
theorem RLe.all {r s : Res} {f f' : Ex → Fr → H → RV} (h : RLe r s) (hf : ∀ e fr h, VLe (f e fr h) (f' e fr h)) : VLe (r.all f) (s.all f') := fun v h0 he => by
  cases r with
  | no => cases he
  | ok e fr h1 =>
    rw [h e fr h1 rfl]
    exact hf _ _ _ _ _ he
theorem oGet_le {α : Type} {o : Option α} {f f' : α → Res} (hf : ∀ x, RLe (f x) (f' x)) : RLe (oGet o .no f) (oGet o .no f') := by
  cases o with
  | none => exact RLe.refl _
  | some x => exact hf x
theorem oGetV_le {α : Type} {o : Option α} {d : RV} {f f' : α → RV} (hf : ∀ x, VLe (f x) (f' x)) : VLe (oGet o d f) (oGet o d f') := by
  cases o with
  | none => exact VLe.refl _
  | some x => exact hf x
theorem bif_le {c : Bool} {r s r' s' : Res} (h1 : RLe r r') (h2 : RLe s s') : RLe (bif c then r else s) (bif c then r' else s') := by cases c <;> assumption
theorem bifV_le {c : Bool} {r s r' s' : RV} (h1 : VLe r r') (h2 : VLe s s') : VLe (bif c then r else s) (bif c then r' else s') := by cases c <;> assumption
theorem onL_le {b : Blk} {f f' : LS → Option Ex → T V → List K → EC → EC → RV} (h : ∀ s j fr ps a c, VLe (f s j fr ps a c) (f' s j fr ps a c)) : VLe (b.onL f) (b.onL f') := by
  cases b <;> first | exact VLe.refl _ | exact h _ _ _ _ _ _
theorem isReady_le {s : LS} {x y : RV} (h : VLe x y) : VLe (isReady s x) (isReady s y) := by cases s <;> first | exact h | exact VLe.refl _
theorem isN_le {e : Ex} {x y : RV} (h : VLe x y) : VLe (isN e x) (isN e y) := by cases e <;> first | exact h | exact VLe.refl _

section
variable {g g' : Go} (hg : GLe g g') {fs : T EF}
theorem callF_le (hg : GLe g g') (ef : EF) (args : List V) (h : H) : VLe (callF g ef args h) (callF g' ef args h) :=
  bifV_le (RLe.all (hg _ _ _ _) fun _ _ _ => VLe.refl _) (VLe.refl _)
theorem callE_le (hg : GLe g g') (ef : EF) (args : List V) (h : H) : VLe (callE g ef args h) (callE g' ef args h) := by
  unfold callE
  cases ef.nv with
  | none => exact callF_le hg _ _ _
  | some f => exact VLe.refl _
theorem callV_le (hg : GLe g g') (f : V) (args : List V) (h : H) : VLe (callV fs g f args h) (callV fs g' f args h) := by
  unfold callV
  split
  · exact oGetV_le fun ef => callE_le hg ef _ _
  · exact onL_le fun s j fr ps a c => bifV_le (isReady_le (RLe.all (hg _ _ _ _) fun e fr' h => isN_le (onL_le fun s j fr ps a c => isReady_le (RLe.all (hg _ _ _ _) fun _ _ _ => VLe.refl _)))) (VLe.refl _)
  · exact VLe.refl _
theorem evop_le (hg : GLe g g') (fr : Fr) (h : H) (o : EOp) : VLe (evop fs g fr h o) (evop fs g' fr h o) := by
  cases o
  case call f args => exact callV_le hg _ _ _
  all_goals exact VLe.refl _
theorem runOp_le (hg : GLe g g') (o : EOper) {ih ih' : Fr → H → Res} (hi : ∀ fr h, RLe (ih fr h) (ih' fr h)) (fr : Fr) (h : H) : RLe (runOp fs g o ih fr h) (runOp fs g' o ih' fr h) :=
  oGet_le fun _ => bif_le (VLe.to (evop_le hg _ _ _) fun _ _ => hi _ _) (hi _ _)
theorem runOps_le (hg : GLe g g') : ∀ (l : List EOper) (fr : Fr) (h : H), RLe (runOps fs g l fr h) (runOps fs g' l fr h)
  | [], _, _ => RLe.refl _
  | o :: l, fr, h => runOp_le hg o (fun fr h => runOps_le hg l fr h) fr h
theorem gRun_le (hg : GLe g g') {f f' : Fr → H → Res} (hf : ∀ fr h, RLe (f fr h) (f' fr h)) : ∀ (l : List EOper) (fr : Fr) (h : H), RLe (gRun fs g l f fr h) (gRun fs g' l f' fr h)
  | [], _, _ => hf _ _
  | o :: l, fr, h => by
    have hi := gRun_le hg hf l
    refine oGet_le (f := fun r => bif r then gDo fs g o.dst o.op (gRun fs g l f) fr h else gRun fs g l f (putD fr o.dst undefV) h) (f' := fun r => bif r then gDo fs g' o.dst o.op (gRun fs g' l f') fr h else gRun fs g' l f' (putD fr o.dst undefV) h) fun r => bif_le ?_ (hi _ _)
    unfold gDo
    split
    · exact oGet_le fun _ => bif_le (oGet_le fun _ => hi _ _) (RLe.refl _)
    · exact bif_le (VLe.to (evop_le hg _ _ _) fun _ _ => hi _ _) (RLe.refl _)
theorem chk_le {r s : RV} {p : V → Bool} (h : VLe r s) (hr : r.chk p = true) : s.chk p = true := by
  cases r with
  | no => cases hr
  | ok v h1 => rw [h v h1 rfl]; exact hr
theorem and_le {q : Bool} {r s : RV} {p : V → Bool} (h : VLe r s) (hr : (q && r.chk p) = true) : (q && s.chk p) = true := by
  rw [Bool.and_eq_true] at hr ⊢
  exact ⟨hr.1, chk_le h hr.2⟩
theorem stays_le (hg : GLe g g') {fr : Fr} {h : H} {o : EOper} (hs : stays fs g fr h o = true) : stays fs g' fr h o = true := by
  unfold stays at hs ⊢
  cases hw : wants fr o.g with
  | none => rw [hw] at hs; cases hs
  | some r =>
    rw [hw] at hs
    cases r with
    | false => exact hs
    | true =>
      have hs : opStays fs g fr h o.dst o.op = true := hs
      show opStays fs g' fr h o.dst o.op = true
      unfold opStays at hs ⊢
      generalize o.op = op at hs ⊢
      cases op
      case bslice n sz z ps => exact hs
      all_goals exact and_le (evop_le hg _ _ _) hs
theorem allStay_le (hg : GLe g g') {fr : Fr} {h : H} : ∀ {l : List EOper}, allStay fs g fr h l = true → allStay fs g' fr h l = true
  | [], _ => rfl
  | o :: l, hs => by
    have hs : (stays fs g fr h o && allStay fs g fr h l) = true := hs
    show (stays fs g' fr h o && allStay fs g' fr h l) = true
    rw [Bool.and_eq_true] at hs ⊢
    exact ⟨stays_le hg hs.1, allStay_le hg hs.2⟩
theorem drawRun_le (hg : GLe g g') : ∀ (l : List Stage) (fr : Fr) (h : H), RLe (drawRun fs g l fr h) (drawRun fs g' l fr h)
  | [], _, _ => RLe.refl _
  | s :: l, fr0, h0 => by
    refine gRun_le hg (f := fun fr h => bif isFresh h0 h fr s.b then stageEnd fs g s (drawRun fs g l) fr h else .no) (f' := fun fr h => bif isFresh h0 h fr s.b then stageEnd fs g' s (drawRun fs g' l) fr h else .no) (fun fr h => bif_le ?_ (RLe.refl _)) s.g fr0 h0
    intro e fr' h' he
    unfold stageEnd at he ⊢
    obtain ⟨h1, h2⟩ := cond_ok (by simp) he
    rw [allStay_le hg h1]
    cases hl : s.l with
    | none => rw [hl] at h2; exact h2
    | some o => rw [hl] at h2; exact runOp_le hg o (fun fr h => drawRun_le hg l fr h) fr h _ _ _ h2
theorem evStep_le (hg : GLe g g') : GLe (evStep fs g) (evStep fs g') := by
  intro ro c fr h
  cases c
  case reg ops => exact runOps_le hg ops fr h
  case draw st => exact drawRun_le hg st fr h
  case seq a b => exact RLe.go (hg _ _ _ _) fun _ _ => hg _ _ _ _
  case cond x a b =>
    show RLe (condC g ro (ev fr x) a b fr h) (condC g' ro (ev fr x) a b fr h)
    unfold condC
    cases ev fr x <;> first | exact RLe.refl _ | exact bif_le (hg _ _ _ _) (hg _ _ _ _)
  case block id c => exact RLe.at (hg _ _ _ _)
  case loop c => exact RLe.go (hg _ _ _ _) fun _ _ => hg _ _ _ _
  case scope c => exact hg _ _ _ _
  case rangeF f ps a c => exact bif_le (VLe.to (callV_le hg _ _ _) fun _ _ => RLe.refl _) (RLe.refl _)
  all_goals exact RLe.refl _
end
theorem eval_le_succ (fs : T EF) : ∀ n, GLe (eval fs n) (eval fs (n + 1))
  | 0 => fun _ _ _ _ => RLe.no _
  | n + 1 => evStep_le (eval_le_succ fs n)
theorem eval_le (fs : T EF) {n m : Nat} (h : n ≤ m) : GLe (eval fs n) (eval fs m) := by
  induction m with
  | zero => obtain rfl : n = 0 := by omega
            exact fun _ _ _ _ => RLe.refl _
  | succ m ih =>
    by_cases e : n = m + 1
    · subst e; exact fun _ _ _ _ => RLe.refl _
    · exact fun ro c fr h e' fr' h' he => eval_le_succ fs m _ _ _ _ _ _ _ (ih (by omega) _ _ _ _ _ _ _ he)

/-! ### Runs, whatever the fuel -/
def Runs (fs : T EF) (ro : Option K) (c : EC) (fr : Fr) (h : H) (e : Ex) (fr' : Fr) (h' : H) : Prop := ∃ n, eval fs n ro c fr h = .ok e fr' h'
section
variable {fs : T EF} {ro : Option K} {c a b : EC} {fr fr1 fr' : Fr} {h h1 h' : H} {e : Ex}
theorem Runs.seq (k1 : Runs fs ro a fr h .normal fr1 h1) (k2 : Runs fs ro b fr1 h1 e fr' h') : Runs fs ro (.seq a b) fr h e fr' h' := by
  obtain ⟨n, e1⟩ := k1
  obtain ⟨m, e2⟩ := k2
  refine ⟨max n m + 1, ?_⟩
  show (eval fs (max n m) ro a fr h).go (fun fr h => eval fs (max n m) ro b fr h) = _
  rw [eval_le fs (Nat.le_max_left n m) _ _ _ _ _ _ _ e1]
  exact eval_le fs (Nat.le_max_right n m) _ _ _ _ _ _ _ e2
theorem Runs.seq_out (h1 : Runs fs ro a fr h e fr' h') (he : e ≠ .normal) : Runs fs ro (.seq a b) fr h e fr' h' := by
  obtain ⟨n, e1⟩ := h1
  refine ⟨n + 1, ?_⟩
  show (eval fs n ro a fr h).go (fun fr h => eval fs n ro b fr h) = _
  rw [e1]
  cases e <;> first | exact absurd rfl he | rfl
theorem Runs.reg {ops : List EOper} {n : Nat} (h1 : runOps fs (eval fs n) ops fr h = .ok e fr' h') : Runs fs ro (.reg ops) fr h e fr' h' := ⟨n + 1, h1⟩
theorem Runs.loop (k1 : Runs fs ro c fr h .normal fr1 h1) (k2 : Runs fs ro (.loop c) fr1 h1 e fr' h') : Runs fs ro (.loop c) fr h e fr' h' := by
  obtain ⟨n, e1⟩ := k1
  obtain ⟨m, e2⟩ := k2
  refine ⟨max n m + 1, ?_⟩
  show (eval fs (max n m) ro c fr h).go (fun fr h => eval fs (max n m) ro (.loop c) fr h) = _
  rw [eval_le fs (Nat.le_max_left n m) _ _ _ _ _ _ _ e1]
  exact eval_le fs (Nat.le_max_right n m) _ _ _ _ _ _ _ e2
theorem Runs.loop_out (h1 : Runs fs ro c fr h e fr' h') (he : e ≠ .normal) : Runs fs ro (.loop c) fr h e fr' h' := by
  obtain ⟨n, e1⟩ := h1
  refine ⟨n + 1, ?_⟩
  show (eval fs n ro c fr h).go (fun fr h => eval fs n ro (.loop c) fr h) = _
  rw [e1]
  cases e <;> first | exact absurd rfl he | rfl
theorem Runs.cond {x : EO} {r : Bool} (hx : ev fr x = .b r) (h1 : Runs fs ro (bif r then a else b) fr h e fr' h') : Runs fs ro (.cond x a b) fr h e fr' h' := by
  obtain ⟨n, e1⟩ := h1
  refine ⟨n + 1, ?_⟩
  show condC (eval fs n) ro (ev fr x) a b fr h = _
  rw [hx]
  cases r <;> exact e1
theorem Runs.block {id : Nat} {e1 : Ex} (h1 : Runs fs ro c fr h e1 fr' h') (he : e1 = .exit id ∧ e = .normal ∨ e1 ≠ .exit id ∧ e = e1) : Runs fs ro (.block id c) fr h e fr' h' := by
  obtain ⟨n, h2⟩ := h1
  refine ⟨n + 1, ?_⟩
  show (eval fs n ro c fr h).at id = _
  rw [h2]
  rcases he with ⟨rfl, rfl⟩ | ⟨hne, rfl⟩
  · show (bif Nat.beq id id then Res.ok .normal fr' h' else .ok (.exit id) fr' h') = _
    rw [Nat.beq_refl]; rfl
  · cases e with
    | exit j =>
      show (bif Nat.beq j id then Res.ok .normal fr' h' else .ok (.exit j) fr' h') = _
      cases hb : Nat.beq j id with
      | true => exact absurd (congrArg Ex.exit (Nat.eq_of_beq_eq_true hb)) hne
      | false => rfl
    | normal => rfl
    | ret => rfl
theorem Runs.skip : Runs fs ro .skip fr h .normal fr h := ⟨1, rfl⟩
theorem Runs.exit {id : Nat} : Runs fs ro (.exit id) fr h (.exit id) fr h := ⟨1, rfl⟩
theorem Runs.ret : Runs fs ro .ret fr h .ret fr h := ⟨1, rfl⟩
end
end Go.Ev
namespace Go.Ev
open Go Go.RowKit

/-- An argument, and the one that stands for it: the slice of the j-th name has the name j. -/
inductive CArg (ids : List K) : V → V → Prop
  | flat {v : V} (h : v.flat = true) : CArg ids v v
  | sn : CArg ids .sn .sn
  | sl {j : Nat} (hj : j < ids.length) (off n sz : Nat) : CArg ids (.sl ids[j] off n sz) (.sl (K.ofNat j) off n sz)
/-- A result: what it says of a new slice is said of the name k. -/
inductive CRes (id k : K) : V → V → Prop
  | flat {v : V} (h : v.flat = true) : CRes id k v v
  | agg {cs : List V} (h : cs.all V.flat = true) : CRes id k (.agg cs) (.agg cs)
  | sn : CRes id k .sn .sn
  | sl (off n sz : Nat) : CRes id k (.sl id off n sz) (.sl k off n sz)
  | tup {vs us : List V} (hl : us.length = vs.length) (h : ∀ (i : Nat) (h : i < vs.length) (h' : i < us.length), CRes id k vs[i] us[i]) : CRes id k (.tup vs) (.tup us)

/-- The small memory stands for the part of the great one that the arguments name. -/
structure Canon (ids : List K) (h hc : H) : Prop where
  nx : hc.nx.nat = ids.length
  nodup : ids.Nodup
  old : ∀ id ∈ ids, id.nat < h.nx.nat
  blk : ∀ (j : Nat) (hj : j < ids.length), ∃ m cs, h.get ids[j] = .cells m cs ∧ cs.all V.flat = true ∧ hc.get (K.ofNat j) = .cells m cs
def canonI (ids : List K) (ι : Io) : Io := fun k => (ids[k.nat]?).bind ι

section
variable {Y : Rig} {fs : T EF} {ids : List K} {h hc h1 : H} {ι : Io} {w : World}
theorem canonI_some {k : K} {q : Pl} (e : canonI ids ι k = some q) : ∃ hj : k.nat < ids.length, ι ids[k.nat] = some q := by
  unfold canonI at e
  cases hk : ids[k.nat]? with
  | none => rw [hk] at e; cases e
  | some id =>
    rw [hk] at e
    obtain ⟨hj, h2⟩ := List.getElem?_eq_some_iff.1 hk
    exact ⟨hj, by rw [h2]; exact e⟩
theorem BR.flat {tab : Tab} {ι ι' : Io} {q : Pl} {m : Nat} {cs : List V} (hf : cs.all V.flat = true) (hb : BR tab ι q w (.cells m cs)) : BR tab ι' q w (.cells m cs) := by
  obtain ⟨cur, ty, fz, h1, h2, h3, h4, h5, h6, h7⟩ := hb
  exact ⟨cur, ty, fz, h1, h2, h3, h4, h5, h6.flat hf, h7⟩
theorem Canon.wr (hcn : Canon ids h hc) (hr : WR Y.tab ι h w) : WR Y.tab (canonI ids ι) hc w := by
  refine ⟨fun k q e => ?_, fun k q e => ?_, fun k k' q q' e e' _ _ hq => ?_, fun k hk => ?_⟩
  · obtain ⟨hj, e1⟩ := canonI_some e
    obtain ⟨m, cs, b1, b2, b3⟩ := hcn.blk k.nat hj
    have hb := hr.blk _ _ e1
    rw [b1] at hb
    have hk : K.ofNat k.nat = k := K.nat_inj (K.ofNat_nat _)
    rw [hk] at b3
    rw [b3]
    exact hb.flat b2
  · obtain ⟨hj, e1⟩ := canonI_some e
    exact hr.lt _ _ e1
  · obtain ⟨hj, e1⟩ := canonI_some e
    obtain ⟨hj', e1'⟩ := canonI_some e'
    obtain ⟨m, cs, b1, _⟩ := hcn.blk k.nat hj
    obtain ⟨m', cs', b1', _⟩ := hcn.blk k'.nat hj'
    have := hr.inj _ _ _ _ e1 e1' (by unfold live; rw [b1]; simp) (by unfold live; rw [b1']; simp) hq
    exact K.nat_inj ((List.getElem_inj hcn.nodup).1 this)
  · rw [hcn.nx] at hk
    unfold canonI
    rw [List.getElem?_eq_none hk]
    rfl
end
end Go.Ev
namespace Go.Ev
open Go Go.RowKit
section
variable {fs : T EF} {go : Go} {d : K} {g : Option (K × Bool)} {op : EOp} {l : List EOper} {fr : Fr} {h h1 : H} {v : V} {f : Fr → H → Res}
theorem run_op (hw : wants fr g = some true) (he : evop fs go fr h op = .ok v h1) : runOps fs go (⟨some d, g, op⟩ :: l) fr h = runOps fs go l (fr.set d v) h1 := by
  show (oGet (wants fr g) .no fun r => bif r then (evop fs go fr h op).to fun v h => runOps fs go l (putD fr (some d) v) h else runOps fs go l (putD fr (some d) undefV) h) = _
  rw [hw, he]; rfl
theorem run_nil : runOps fs go [] fr h = .ok .normal fr h := rfl
/-! What an operation gives when its operands are known. -/
variable {x y z : EO} {b : Bool} {k : IntKind} {i j : Int} {id : K} {off n sz : Nat}
theorem e_mv (hx : ev fr x = v) : evop fs go fr h (.mv x) = .ok v h := by subst hx; rfl
theorem e_as (hx : ev fr x = v) : evop fs go fr h (.as x) = .ok v h := by subst hx; rfl
theorem e_ld {m : Nat} {cs : List V} (hx : ev fr x = .p id off) (hb : h.get id = .cells m cs) (hc : nth cs off = some v) : evop fs go fr h (.ld x) = .ok v h := by
  show okv (readP h (ev fr x) one?) h = _
  rw [hx]
  show okv ((h.get id).onC none fun n cs => one? cs n off) h = _
  rw [hb]
  show okv (nth cs off) h = _
  rw [hc]; rfl
theorem e_bin {op : BinOp} (hx : ev fr x = .i k i) (hy : ev fr y = .i k j) (ho : binI op k k i j = some v) : evop fs go fr h (.bin op x y) = .ok v h := by
  show okv (binV op (ev fr x) (ev fr y)) h = _
  rw [hx, hy]
  show okv (binI op k k i j) h = _
  rw [ho]; rfl
theorem b_add1 {m : Nat} (hm : m + 1 ≤ 9223372036854775807) : binI .add .i64 .i64 (.ofNat m) (.ofNat 1) = some (.i .i64 (.ofNat (m + 1))) := by
  show some (V.i .i64 (bif Nat.ble (m + 1) (kmax .i64) then .ofNat (m + 1) else IntKind.i64.wrap (.ofNat (m + 1)))) = _
  have : Nat.ble (m + 1) (kmax .i64) = true := Nat.ble_eq_true_of_le hm
  rw [this]; rfl
end

/-! More operations whose operands are known. -/
section
variable {fs : T EF} {go : Go} {fr : Fr} {h h' : H} {v : V} {x y z : EO} {b : Bool} {k : IntKind} {i j : Int} {id : K} {off n sz m : Nat} {cs : List V}
theorem e_not (hx : ev fr x = .b b) : evop fs go fr h (.not x) = .ok (.b (!b)) h := by
  show (ev fr x).onB RV.no (fun b => RV.ok (.b (!b)) h) = _
  rw [hx]; rfl
theorem e_pick {u : V} {c : EO} (hc : ev fr c = .b b) (hx : ev fr x = v) (hy : ev fr y = u) : evop fs go fr h (.pick c x y) = .ok (bif b then v else u) h := by
  show pickV (ev fr c) (ev fr x) (ev fr y) h = _
  rw [hc, hx, hy]; rfl
/-- A call of what is proved. -/
theorem e_call {f : EO} {as : List EO} {fk : K} {caps vs : List V} {ef : EF} {g : List V → H → Option (V × H)} (hf : ev fr f = .fn fk caps) (ha : evs fr as = vs) (he : fs.get fk = some ef) (hn : ef.nv = some g) (hg : g (cat vs caps) h = some (v, h')) : evop fs go fr h (.call f as) = .ok v h' := by
  show callV fs go (ev fr f) (evs fr as) h = _
  rw [hf, ha]
  show (oGet (fs.get fk) RV.no fun ef => callE go ef (cat vs caps) h) = _
  rw [he]
  show oGet ef.nv (callF go ef (cat vs caps) h) (fun g => oGet (g (cat vs caps) h) RV.no fun p => RV.ok p.1 p.2) = _
  rw [hn]
  show (oGet (g (cat vs caps) h) RV.no fun p => RV.ok p.1 p.2) = _
  rw [hg]; rfl
/-- An operation that is not wanted. -/
theorem run_not {d : Option K} {g : Option (K × Bool)} {op : EOp} {l : List EOper} (hw : wants fr g = some false) : runOps fs go (⟨d, g, op⟩ :: l) fr h = runOps fs go l (putD fr d undefV) h := by
  show (oGet (wants fr g) Res.no fun r => bif r then (evop fs go fr h op).to fun v h => runOps fs go l (putD fr d v) h else runOps fs go l (putD fr d undefV) h) = _
  rw [hw]; rfl
end
end Go.Ev
namespace Go.Ev
open Go Go.RowKit
section
variable {fs : T EF} {go : Go} {fr : Fr} {h : H} {a b : K} {o1 o2 n n' i m1 m2 : Nat} {cs1 cs2 : List V} {x y : Int}
end
end Go.Ev
namespace Go.Ev
open Go Go.RowKit
noncomputable def al0 : List EOper := [⟨(some (.o (.z .e))), none, .ldn 64 (.t (.o .e))⟩, ⟨(some (.z (.z .e))), none, .mv (.c (.i .i64 (.ofNat 0)))⟩]
noncomputable def al1 : List EOper := [⟨(some (.o (.o (.o .e)))), none, .bin .lss (.t (.z (.z .e))) (.c (.i .i64 (.ofNat 64)))⟩]
noncomputable def al2 : List EOper := [⟨(some (.z (.o (.o .e)))), none, .mv (.t (.z (.z .e)))⟩, ⟨(some (.o (.z (.o .e)))), none, .ix 64 1 false (.t (.o (.z .e))) (.t (.z (.z .e)))⟩, ⟨(some (.o (.o .e))), none, .as (.t (.z (.o (.o .e))))⟩, ⟨(some (.z (.o .e))), none, .as (.t (.o (.z (.o .e))))⟩]
noncomputable def al3 : List EOper := [⟨(some (.z (.z (.o .e)))), none, .mv (.t (.z (.o .e)))⟩, ⟨(some (.o (.o (.z .e)))), none, .mv (.t (.z (.z (.o .e))))⟩, ⟨(some (.z (.o (.z .e)))), (some ((.o (.o (.z .e))), true)), .mv (.t .e)⟩, ⟨(some (.o (.z (.z .e)))), (some ((.o (.o (.z .e))), true)), .mv (.t (.o (.o .e)))⟩, ⟨(some (.z (.z (.z .e)))), (some ((.o (.o (.z .e))), true)), .call (.t (.z (.o (.z .e)))) [(.t (.o (.z (.z .e))))]⟩, ⟨(some (.o (.o (.o (.o .e))))), (some ((.o (.o (.z .e))), true)), .not (.t (.z (.z (.z .e))))⟩, ⟨(some (.z (.o (.o (.o .e))))), none, .pick (.t (.o (.o (.z .e)))) (.t (.o (.o (.o (.o .e))))) (.c (.b false))⟩]
noncomputable def al4 : List EOper := [⟨(some (.o (.z (.o (.o .e))))), none, .bin .add (.t (.z (.z .e))) (.c (.i .i64 (.ofNat 1)))⟩, ⟨(some (.z (.z .e))), none, .mv (.t (.o (.z (.o (.o .e)))))⟩]
/-- A round gives b. -/
def Round (fs : T EF) (id : K) (v : V) (h : H) (b : Bool) (h' : H) : Prop := ∃ n, callV fs (eval fs n) (.yl id) [v] h = .ok (.b b) h'
section
variable {fs : T EF} {go : Go} {fr : Fr} {h h' : H} {id : K} {i : Nat} {cs : List V} {B : Nat → Bool}
theorem evs_one {x : EO} : evs fr [x] = [ev fr x] := rfl
theorem e_callv {f : EO} {as : List EO} {fv v : V} {vs : List V} (hf : ev fr f = fv) (ha : evs fr as = vs) (hr : callV fs go fv vs h = .ok v h') : evop fs go fr h (.call f as) = .ok v h' := by
  subst hf; subst ha; exact hr
noncomputable def alBody : EC := (.seq (.reg al1) (.seq (.cond (.t (.o (.o (.o .e)))) .skip (.exit 0)) (.seq (.block 1 (.seq (.reg al2) (.seq (.reg al3) (.cond (.t (.z (.o (.o (.o .e))))) .ret .skip)))) (.reg al4))))
end

/-! ### A round, and a loop over a function -/
section
variable {fs : T EF} {fr fr1 fr2 : Fr} {h h1 h2 h3 : H} {id : K} {ps : List K} {a c : EC} {v : V} {vs : List V} {e : Ex}
/-- What stands of the loop behind a round. -/
def afterR (e : Ex) (fr : Fr) (ps : List K) (a c : EC) : Blk := match e with
  | .normal => .loop .ready none fr ps a c
  | e => .loop .done (some e) fr ps a c
def isNo (e : Ex) : Bool := match e with | .normal => true | _ => false
theorem round_of (hb : h.get id = .loop .ready none fr ps a c) (hl : Nat.beq (lenL [v]) (lenL ps) = true) (ha : Runs fs (some id) a (bindK fr ps [v]) h .normal fr1 h1) (hb1 : h1.get id = .loop .ready none fr ps a c)
    (hc : Runs fs (some id) c fr1 (h1.put id (.loop .busy none fr ps a c)) e fr2 h2) (hb2 : h2.get id = .loop .busy none fr ps a c) : Round fs id v h (isNo e) (h2.put id (afterR e fr ps a c)) := by
  obtain ⟨n, e1⟩ := ha
  obtain ⟨m, e2⟩ := hc
  have e1 := eval_le fs (Nat.le_max_left n m) _ _ _ _ _ _ _ e1
  have e2 := eval_le fs (Nat.le_max_right n m) _ _ _ _ _ _ _ e2
  refine ⟨max n m, ?_⟩
  show (h.get id).onL (fun s _ fr ps a c => roundA (eval fs (max n m)) id [v] h s fr ps a c) = _
  rw [hb]
  show roundA (eval fs (max n m)) id [v] h .ready fr ps a c = _
  unfold roundA
  rw [hl]
  show ((eval fs (max n m) (some id) a (bindK fr ps [v]) h).all fun e fr' h => isN e ((h.get id).onL fun s j fr ps a c' => roundB (eval fs (max n m)) id c fr' h s j fr ps a c')) = _
  rw [e1]
  show (h1.get id).onL (fun s j fr ps a c' => roundB (eval fs (max n m)) id c fr1 h1 s j fr ps a c') = _
  rw [hb1]
  show ((eval fs (max n m) (some id) c fr1 (h1.put id (.loop .busy none fr ps a c))).all fun e _ h => (h.get id).onL fun s _ fr ps a c => isBusy s (endR id e fr ps a c h)) = _
  rw [e2]
  show (h2.get id).onL (fun s _ fr ps a c => isBusy s (endR id e fr ps a c h2)) = _
  rw [hb2]
  cases e <;> rfl
/-- How a loop over a function ends. -/
theorem Runs.range {ro : Option K} {f : EO} {k : K} {caps : List V} {u : V} {s : LS} {j : Option Ex} {ps' : List K} {a' c' : EC} {frl : Fr} (hro : roOk ro h = true) (hf : ev fr f = .fn k caps)
    (hcall : ∃ n, callV fs (eval fs n) (.fn k caps) [.yl h.nx] (h.new (.loop .ready none fr ps a c)) = .ok u h1) (hb : h1.get h.nx = .loop s j frl ps' a' c') (he : (s = .ready ∧ j = none ∧ e = .normal) ∨ (s = .done ∧ j = some e)) :
    Runs fs ro (.rangeF f ps a c) fr h e fr (h1.put h.nx .dead) := by
  obtain ⟨n, hc⟩ := hcall
  refine ⟨n + 1, ?_⟩
  show rangeL fs (eval fs n) ro (ev fr f) ps a c fr h = _
  rw [hf]
  unfold rangeL
  have : (roOk ro h && (V.fn k caps).isF) = true := by rw [hro]; rfl
  rw [this]
  show ((callV fs (eval fs n) (.fn k caps) [.yl h.nx] (h.new (.loop .ready none fr ps a c))).to fun _ h' => (h'.get h.nx).onL' fun s j => endL s j h.nx fr h') = _
  rw [hc]
  show (h1.get h.nx).onL' (fun s j => endL s j h.nx fr h1) = _
  rw [hb]
  rcases he with ⟨rfl, rfl, rfl⟩ | ⟨rfl, rfl⟩ <;> rfl
end

section
variable {fs : T EF} {go : Go} {fr : Fr} {h : H} {id idp : K} {cs : List V} {B : Nat → Bool} {x : EO} {off m n : Nat} {v : V} {k : K}
noncomputable def alF : EF := ⟨18, [], (.seq (.reg al0) (.block 0 (.loop alBody))), none⟩
end
end Go.Ev
namespace Go.Ev
open Go Go.RowKit
noncomputable def co0 : List EOper := [⟨(some (.o (.z .e))), none, .mv (.c (.i .i64 (.ofNat 0)))⟩]
noncomputable def co1 : List EOper := [⟨(some (.z (.z .e))), none, .bin .lss (.t (.o (.z .e))) (.c (.i .i64 (.ofNat 6)))⟩]
noncomputable def co2 : List EOper := [⟨(some (.o (.o (.o .e)))), none, .mv (.t (.o (.z .e)))⟩, ⟨(some (.o (.o .e))), none, .as (.t (.o (.o (.o .e))))⟩]
noncomputable def co3 : List EOper := [⟨(some (.z (.o (.o .e)))), none, .mv (.t (.o (.o .e)))⟩, ⟨(some (.o (.z (.o .e)))), none, .bin .shl (.c (.i .i64 (.ofNat 1))) (.t (.z (.o (.o .e))))⟩, ⟨(some (.z (.o .e))), none, .as (.t (.o (.z (.o .e))))⟩]
noncomputable def co4 : List EOper := [⟨(some (.z (.z (.o .e)))), none, .mv (.t (.z (.o .e)))⟩, ⟨(some (.o (.o (.z .e)))), none, .ld (.t (.o .e))⟩, ⟨(some (.z (.o (.z .e)))), none, .call (.c (.fn (.z (.z (.z (.o (.z .e))))) [])) [(.t (.z (.z (.o .e)))), (.t (.o (.o (.z .e))))]⟩, ⟨(some (.o (.z (.z .e)))), none, .mv (.t (.z (.o (.z .e))))⟩, ⟨(some (.z (.z (.z .e)))), (some ((.o (.z (.z .e))), true)), .mv (.t .e)⟩, ⟨(some (.o (.o (.o (.o .e))))), (some ((.o (.z (.z .e))), true)), .mv (.t (.z (.o .e)))⟩, ⟨(some (.z (.o (.o (.o .e))))), (some ((.o (.z (.z .e))), true)), .call (.t (.z (.z (.z .e)))) [(.t (.o (.o (.o (.o .e)))))]⟩, ⟨(some (.o (.z (.o (.o .e))))), (some ((.o (.z (.z .e))), true)), .not (.t (.z (.o (.o (.o .e)))))⟩, ⟨(some (.z (.z (.o (.o .e))))), none, .pick (.t (.o (.z (.z .e)))) (.t (.o (.z (.o (.o .e))))) (.c (.b false))⟩]
noncomputable def co5 : List EOper := [⟨(some (.o (.o (.z (.o .e))))), none, .bin .add (.t (.o (.z .e))) (.c (.i .i64 (.ofNat 1)))⟩, ⟨(some (.o (.z .e))), none, .mv (.t (.o (.o (.z (.o .e)))))⟩]
/-- The i-th corner, and whether it is one of the set's. -/
noncomputable def cornI (i : Nat) : Int := fw .i64 (imul (.ofNat 1) (.ofNat (2 ^ (Nat.min i 64))))
noncomputable def partB (a b : Int) : Bool := ieq (ibits (fun m n => Nat.xor m (Nat.land m n)) (fun _ x y => x &&& ~~~y) .i64 a b) (.ofNat 0)
section
variable {fs : T EF} {go : Go} {fr : Fr} {h h' : H} {id idp : K} {i : Nat} {S : Int}
theorem co1_ok (g5 : fr.get (.o (.z .e)) = some (.i .i64 (.ofNat i))) : ∃ fr', runOps fs go co1 fr h = .ok .normal fr' h ∧ fr'.get (.z (.z .e)) = some (.b (Nat.blt i 6)) ∧ ∀ k, k ∈ [K.e, .o .e, .o (.z .e)] → fr'.get k = fr.get k := by
  refine ⟨?w, ?a, ?b, ?c⟩
  case a =>
    unfold co1
    rw [run_op rfl (e_bin (k := .i64) (i := .ofNat i) (j := .ofNat 6) (v := .b (ilt (.ofNat i) (.ofNat 6))) (by simp [ev, g5, getV]) (by simp [ev]) rfl), run_nil]
  case b => rw [T.get_set, if_pos rfl]; rfl
  case c =>
    intro k hk
    simp only [List.mem_cons, List.not_mem_nil, or_false] at hk
    rcases hk with rfl | rfl | rfl <;> simp [T.get_set]
theorem co23_ok (g5 : fr.get (.o (.z .e)) = some (.i .i64 (.ofNat i))) : ∃ fr' fr'', runOps fs go co2 fr h = .ok .normal fr' h ∧ runOps fs go co3 fr' h = .ok .normal fr'' h ∧ fr''.get (.z (.o .e)) = some (.i .i64 (cornI i)) ∧ ∀ k, k ∈ [K.e, .o .e, .o (.z .e)] → fr''.get k = fr.get k := by
  refine ⟨?w, ?w2, ?a, ?a2, ?b, ?c⟩
  case a =>
    unfold co2
    rw [run_op rfl (e_mv (v := .i .i64 (.ofNat i)) (by simp [ev, g5, getV])), run_op rfl (e_as (v := .i .i64 (.ofNat i)) (by simp [ev, T.get_set, getV])), run_nil]
  case a2 =>
    unfold co3
    rw [run_op rfl (e_mv (v := .i .i64 (.ofNat i)) (by simp [ev, T.get_set, getV])), run_op rfl (e_bin (k := .i64) (i := .ofNat 1) (j := .ofNat i) (v := .i .i64 (cornI i)) rfl (by simp [ev, T.get_set, getV]) rfl), run_op rfl (e_as (v := .i .i64 (cornI i)) (by simp [ev, T.get_set, getV])), run_nil]
  case b => simp [T.get_set]
  case c =>
    intro k hk
    simp only [List.mem_cons, List.not_mem_nil, or_false] at hk
    rcases hk with rfl | rfl | rfl <;> simp [T.get_set]
theorem co4_in {b : Bool} {n : Nat} {ef : EF} (hp : fs.get (.z (.z (.z (.o (.z .e))))) = some ef) (hn : ef.nv = some (flatG partG)) (hS : h.get idp = .cells 1 [.i .i64 S]) (g0 : fr.get .e = some (.yl id)) (g1 : fr.get (.o .e) = some (.p idp 0)) (g4 : fr.get (.z (.o .e)) = some (.i .i64 (cornI i))) (hB : partB (cornI i) S = true) (hr : callV fs (eval fs n) (.yl id) [.i .i64 (cornI i)] h = .ok (.b b) h') :
    ∃ fr', runOps fs (eval fs n) co4 fr h = .ok .normal fr' h' ∧ fr'.get (.z (.z (.o (.o .e)))) = some (.b (!b)) ∧ ∀ k, k ∈ [K.e, .o .e, .o (.z .e)] → fr'.get k = fr.get k := by
  have hg : flatG partG (cat [.i .i64 (cornI i), .i .i64 S] []) h = some (.b true, h) := by rw [← hB]; rfl
  refine ⟨?w, ?a, ?b, ?c⟩
  case a =>
    unfold co4
    rw [run_op rfl (e_mv (v := .i .i64 (cornI i)) (by simp [ev, g4, getV])), run_op rfl (e_ld (id := idp) (off := 0) (v := .i .i64 S) (by simp [ev, T.get_set, getV, g1]) hS rfl),
      run_op rfl (e_call (vs := [.i .i64 (cornI i), .i .i64 S]) rfl (by show [_, _] = _; simp [ev, T.get_set, getV]) hp hn hg),
      run_op rfl (e_mv (v := .b true) (by simp [ev, T.get_set, getV])),
      run_op (by simp [wants, oGet, guardV, T.get_set, getV]) (e_mv (v := .yl id) (by simp [ev, T.get_set, getV, g0])),
      run_op (by simp [wants, oGet, guardV, T.get_set, getV]) (e_mv (v := .i .i64 (cornI i)) (by simp [ev, T.get_set, getV, g4])),
      run_op (v := .b b) (h1 := h') (by simp [wants, oGet, guardV, T.get_set, getV]) (e_callv (fv := .yl id) (vs := [.i .i64 (cornI i)]) (by simp [ev, T.get_set, getV]) (by rw [evs_one]; simp [ev, T.get_set, getV]) hr),
      run_op (by simp [wants, oGet, guardV, T.get_set, getV]) (e_not (b := b) (by simp [ev, T.get_set, getV])),
      run_op rfl (e_pick (b := true) (v := .b (!b)) (u := .b false) (by simp [ev, T.get_set, getV]) (by simp [ev, T.get_set, getV]) rfl), run_nil]
  case b => rw [T.get_set, if_pos rfl]; rfl
  case c =>
    intro k hk
    simp only [List.mem_cons, List.not_mem_nil, or_false] at hk
    rcases hk with rfl | rfl | rfl <;> simp [T.get_set]
theorem co4_out {ef : EF} (hp : fs.get (.z (.z (.z (.o (.z .e))))) = some ef) (hn : ef.nv = some (flatG partG)) (hS : h.get idp = .cells 1 [.i .i64 S]) (g1 : fr.get (.o .e) = some (.p idp 0)) (g4 : fr.get (.z (.o .e)) = some (.i .i64 (cornI i))) (hB : partB (cornI i) S = false) :
    ∃ fr', runOps fs go co4 fr h = .ok .normal fr' h ∧ fr'.get (.z (.z (.o (.o .e)))) = some (.b false) ∧ ∀ k, k ∈ [K.e, .o .e, .o (.z .e)] → fr'.get k = fr.get k := by
  have hg : flatG partG (cat [.i .i64 (cornI i), .i .i64 S] []) h = some (.b false, h) := by rw [← hB]; rfl
  refine ⟨?w, ?a, ?b, ?c⟩
  case a =>
    unfold co4
    rw [run_op rfl (e_mv (v := .i .i64 (cornI i)) (by simp [ev, g4, getV])), run_op rfl (e_ld (id := idp) (off := 0) (v := .i .i64 S) (by simp [ev, T.get_set, getV, g1]) hS rfl),
      run_op rfl (e_call (vs := [.i .i64 (cornI i), .i .i64 S]) rfl (by show [_, _] = _; simp [ev, T.get_set, getV]) hp hn hg),
      run_op rfl (e_mv (v := .b false) (by simp [ev, T.get_set, getV])),
      run_not (by simp [wants, oGet, guardV, T.get_set, getV]), run_not (by simp [wants, oGet, guardV, T.get_set, getV, putD]), run_not (by simp [wants, oGet, guardV, T.get_set, getV, putD]), run_not (by simp [wants, oGet, guardV, T.get_set, getV, putD]),
      run_op rfl (e_pick (b := false) (v := undefV) (u := .b false) (by simp [ev, T.get_set, getV, putD]) (by simp [ev, T.get_set, getV, putD]) rfl), run_nil]
  case b => rw [T.get_set, if_pos rfl]; rfl
  case c =>
    intro k hk
    simp only [List.mem_cons, List.not_mem_nil, or_false] at hk
    rcases hk with rfl | rfl | rfl <;> simp [T.get_set, putD]
theorem co5_ok (g5 : fr.get (.o (.z .e)) = some (.i .i64 (.ofNat i))) (hi : i < 6) : ∃ fr', runOps fs go co5 fr h = .ok .normal fr' h ∧ fr'.get (.o (.z .e)) = some (.i .i64 (.ofNat (i + 1))) ∧ ∀ k, k ∈ [K.e, .o .e] → fr'.get k = fr.get k := by
  refine ⟨?w, ?a, ?b, ?c⟩
  case a =>
    unfold co5
    rw [run_op rfl (e_bin (k := .i64) (i := .ofNat i) (j := .ofNat 1) (v := .i .i64 (.ofNat (i + 1))) (by simp [ev, g5, getV]) rfl (b_add1 (by omega))), run_op rfl (e_mv (v := .i .i64 (.ofNat (i + 1))) (by simp [ev, T.get_set, getV])), run_nil]
  case b => simp [T.get_set]
  case c =>
    intro k hk
    simp only [List.mem_cons, List.not_mem_nil, or_false] at hk
    rcases hk with rfl | rfl <;> simp [T.get_set]
noncomputable def coBody : EC := (.seq (.reg co1) (.seq (.cond (.t (.z (.z .e))) .skip (.exit 0)) (.seq (.block 1 (.seq (.reg co2) (.seq (.reg co3) (.seq (.reg co4) (.cond (.t (.z (.z (.o (.o .e))))) .ret .skip))))) (.reg co5))))
theorem co_loop {I : Nat → H → Prop} {Q : H → Prop} {ef : EF} (hp : fs.get (.z (.z (.z (.o (.z .e))))) = some ef) (hn : ef.nv = some (flatG partG)) (hS : ∀ i h, I i h → h.get idp = .cells 1 [.i .i64 S])
    (round : ∀ i h, i < 6 → partB (cornI i) S = true → I i h → ∃ b h', Round fs id (.i .i64 (cornI i)) h b h' ∧ (b = true → I (i + 1) h') ∧ (b = false → Q h')) (skip : ∀ i h, i < 6 → partB (cornI i) S = false → I i h → I (i + 1) h) :
    ∀ (j i : Nat) (fr : Fr) (h : H), 6 - i = j → i ≤ 6 → fr.get .e = some (.yl id) → fr.get (.o .e) = some (.p idp 0) → fr.get (.o (.z .e)) = some (.i .i64 (.ofNat i)) → I i h →
      ∃ e fr' h', Runs fs none (.loop coBody) fr h e fr' h' ∧ ((e = .exit 0 ∧ I 6 h') ∨ (e = .ret ∧ Q h')) := by
  intro j
  induction j with
  | zero =>
    intro i fr h hj hle g0 g1 g5 hI
    obtain rfl : i = 6 := by omega
    obtain ⟨fr1, p1, p2, p3⟩ := co1_ok (fs := fs) (go := eval fs 0) (h := h) g5
    exact ⟨.exit 0, fr1, h, .loop_out (.seq (.reg p1) (.seq_out (.cond (r := false) (by simp only [ev, p2, getV]; rfl) .exit) (by simp))) (by simp), .inl ⟨rfl, hI⟩⟩
  | succ j ih =>
    intro i fr h hj hle g0 g1 g5 hI
    have hi : i < 6 := by omega
    obtain ⟨fr1, p1, p2, p3⟩ := co1_ok (fs := fs) (go := eval fs 0) (h := h) g5
    have hb : Nat.blt i 6 = true := Nat.ble_eq_true_of_le hi
    rw [hb] at p2
    obtain ⟨fr2', fr2, q1, q1', q2, q4⟩ := co23_ok (fs := fs) (go := eval fs 0) (h := h) ((p3 (.o (.z .e)) (by simp)).trans g5)
    have a0 := (q4 .e (by simp)).trans ((p3 .e (by simp)).trans g0)
    have a1 := (q4 (.o .e) (by simp)).trans ((p3 (.o .e) (by simp)).trans g1)
    have a5 := (q4 (.o (.z .e)) (by simp)).trans ((p3 (.o (.z .e)) (by simp)).trans g5)
    have c1 : Runs fs none (.cond (.t (.z (.z .e))) .skip (.exit 0)) fr1 h .normal fr1 h := .cond (r := true) (by simp [ev, p2, getV]) .skip
    have go_on : ∀ (n : Nat) (fr3 : Fr) (h3 : H), runOps fs (eval fs n) co4 fr2 h = .ok .normal fr3 h3 → fr3.get (.z (.z (.o (.o .e)))) = some (.b false) → (∀ k, k ∈ [K.e, .o .e, .o (.z .e)] → fr3.get k = fr2.get k) → I (i + 1) h3 →
        ∃ e fr' h', Runs fs none (.loop coBody) fr h e fr' h' ∧ ((e = .exit 0 ∧ I 6 h') ∨ (e = .ret ∧ Q h')) := by
      intro n fr3 h3 r1 r2 r3 hI3
      obtain ⟨fr4, s1, s2, s3⟩ := co5_ok (fs := fs) (go := eval fs 0) (h := h3) ((r3 (.o (.z .e)) (by simp)).trans a5) hi
      have c2 : Runs fs none (.block 1 (.seq (.reg co2) (.seq (.reg co3) (.seq (.reg co4) (.cond (.t (.z (.z (.o (.o .e))))) .ret .skip))))) fr1 h .normal fr3 h3 :=
        .block (.seq (.reg q1) (.seq (.reg q1') (.seq (.reg r1) (.cond (r := false) (by simp [ev, r2, getV]) .skip)))) (.inr ⟨by simp, rfl⟩)
      have c3 : Runs fs none coBody fr h .normal fr4 h3 := .seq (.reg p1) (.seq c1 (.seq c2 (.reg s1)))
      obtain ⟨e, fr', h', t1, t2⟩ := ih (i + 1) fr4 h3 (by omega) hi ((s3 .e (by simp)).trans ((r3 .e (by simp)).trans a0)) ((s3 (.o .e) (by simp)).trans ((r3 (.o .e) (by simp)).trans a1)) s2 hI3
      exact ⟨e, fr', h', .loop c3 t1, t2⟩
    cases hB : partB (cornI i) S with
    | false =>
      obtain ⟨fr3, r1, r2, r3⟩ := co4_out (go := eval fs 0) hp hn (hS i h hI) a1 q2 hB
      exact go_on 0 fr3 h r1 r2 r3 (skip i h hi hB hI)
    | true =>
      obtain ⟨b, h', ⟨n, hr⟩, hT, hF⟩ := round i h hi hB hI
      obtain ⟨fr3, r1, r2, r3⟩ := co4_in hp hn (hS i h hI) a0 a1 q2 hB hr
      cases b with
      | true => exact go_on n fr3 h' r1 r2 r3 (hT rfl)
      | false =>
        have c2 : Runs fs none (.block 1 (.seq (.reg co2) (.seq (.reg co3) (.seq (.reg co4) (.cond (.t (.z (.z (.o (.o .e))))) .ret .skip))))) fr1 h .ret fr3 h' :=
          .block (.seq (.reg q1) (.seq (.reg q1') (.seq (.reg r1) (.cond (r := true) (by simp [ev, r2, getV]) .ret)))) (.inr ⟨by simp, rfl⟩)
        exact ⟨.ret, fr3, h', .loop_out (.seq (.reg p1) (.seq c1 (.seq_out c2 (by simp)))) (by simp), .inr ⟨rfl, hF rfl⟩⟩
noncomputable def coF : EF := ⟨20, [], (.seq (.reg co0) (.block 0 (.loop coBody))), none⟩
/-- The iterator over a set's corners, called with a body. -/
theorem co_call {k : K} {I : Nat → H → Prop} {Q : H → Prop} {ef : EF} (hf : fs.get k = some coF) (hp : fs.get (.z (.z (.z (.o (.z .e))))) = some ef) (hn : ef.nv = some (flatG partG)) (hS : ∀ i h, I i h → h.get idp = .cells 1 [.i .i64 S])
    (round : ∀ i h, i < 6 → partB (cornI i) S = true → I i h → ∃ b h', Round fs id (.i .i64 (cornI i)) h b h' ∧ (b = true → I (i + 1) h') ∧ (b = false → Q h')) (skip : ∀ i h, i < 6 → partB (cornI i) S = false → I i h → I (i + 1) h) (hI : I 0 h) :
    ∃ n h', callV fs (eval fs n) (.fn k [.p idp 0]) [.yl id] h = .ok (.tup []) h' ∧ (I 6 h' ∨ Q h') := by
  have f0 : (frame .e [.yl id, .p idp 0] .nil).get .e = some (.yl id) := by rw [frame_get]; rfl
  have f1 : (frame .e [.yl id, .p idp 0] .nil).get (.o .e) = some (.p idp 0) := by rw [frame_get]; rfl
  have p1 : runOps fs (eval fs 0) co0 (frame .e [.yl id, .p idp 0] .nil) h = .ok .normal ((frame .e [.yl id, .p idp 0] .nil).set (.o (.z .e)) (.i .i64 (.ofNat 0))) h := by
    unfold co0
    rw [run_op rfl (e_mv (v := .i .i64 (.ofNat 0)) rfl), run_nil]
  obtain ⟨e, fr', h', r1, r2⟩ := co_loop (fs := fs) hp hn hS round skip 6 0 _ h rfl (by omega) (show ((frame .e [.yl id, .p idp 0] .nil).set (.o (.z .e)) (.i .i64 (.ofNat 0))).get .e = some (.yl id) by simp [T.get_set, f0]) (by simp [T.get_set, f1]) (by simp [T.get_set]) hI
  have fin : ∀ (e' : Ex), (e' = .normal ∨ e' = .ret) → Runs fs none (.seq (.reg co0) (.block 0 (.loop coBody))) (frame .e [.yl id, .p idp 0] .nil) h e' fr' h' → (I 6 h' ∨ Q h') → ∃ n h', callV fs (eval fs n) (.fn k [.p idp 0]) [.yl id] h = .ok (.tup []) h' ∧ (I 6 h' ∨ Q h') := by
    rintro e' he ⟨n, hr⟩ hq
    refine ⟨n, h', ?_, hq⟩
    show (oGet (fs.get k) .no fun ef => callE (eval fs n) ef (cat [.yl id] [.p idp 0]) h) = _
    rw [hf]
    show ((eval fs n none (.seq (.reg co0) (.block 0 (.loop coBody))) (frame .e [.yl id, .p idp 0] .nil) h).all fun e fr h => leave coF e fr h) = _
    rw [hr]
    rcases he with rfl | rfl <;> rfl
  rcases r2 with ⟨rfl, hq⟩ | ⟨rfl, hq⟩
  · exact fin .normal (.inl rfl) (.seq (.reg p1) (.block r1 (.inl ⟨rfl, rfl⟩))) (.inl hq)
  · exact fin .ret (.inr rfl) (.seq (.reg p1) (.block r1 (.inr ⟨by simp, rfl⟩))) (.inr hq)
end
end Go.Ev
