/-
  The evaluator, part T: keys., and what follows.
-/
import Derived.Test.YtahogmegmjpndaaDoorPc
import Derived.DeepKeys5
import Derived.Laws.StructEq
import Derived.MapKept
import Derived.ProofKit
import Derived.SizedLaws
import Derived.ChangeSlices
namespace Go.Ev
open Go Go.RowKit Go.MapKept

structure WideKey (P : Program) (t : TypeId) : Prop where
  laid : laidOutB P = true
  small : Nat.ble (P.types.size + 2) 10000 = true
  row : Nat.blt t P.types.size = true
  key : P.keyType t = true
  wide : (match P.underlying t with | some (.array _ _) | some (.struct _) => true | _ => false) = true
  guard : P.eqGuardType P.depth t = false

theorem keyOk_wide {P : Program} {t : TypeId} {cs : List CK} (h : WideKey P t) (hk : ∀ v, fitV (.many cs) v → ∃ l, keyOf P t v = some l) : KeyOk P t (.many cs) := by
  have hsmall : P.types.size + 2 ≤ 10000 := Nat.le_of_ble_eq_true h.small
  have hrow : t < P.types.size := Nat.lt_of_lt_of_le (Nat.lt_succ_self _) (Nat.le_of_ble_eq_true h.row)
  have kl := deep_law_gate h.laid hsmall hrow h.key h.wide
  refine ⟨fun w x y hx hy => ?_, fun w op ox oy x y hx hy => ?_, fun w em v hv => ?_, fun w x es hx hes => ?_, fun w v hv => ?_⟩
  · obtain ⟨lx, h1⟩ := hk x hx
    obtain ⟨ly, h2⟩ := hk y hy
    obtain ⟨r, h3, h4⟩ := run_equal_deep w (m := P.types.size + 1) (by omega) h.key h.wide h1 h2
    refine ⟨r, h3, h4.trans ⟨fun e => kl.inj h1 (e ▸ h2), fun e => ?_⟩⟩
    rw [e, h2] at h1
    exact (Option.some.inj h1).symm
  · obtain ⟨vs, rfl, _⟩ := hx
    obtain ⟨us, rfl, _⟩ := hy
    exact run_eqGuard_agg w op t ox oy _ _ h.guard
  · obtain ⟨l, h1⟩ := hk v hv
    exact kl.check w em h1
  · obtain ⟨l, h1⟩ := hk x hx
    exact kl.find w h1 es fun e he => hk e.key (hes e he)
  · obtain ⟨l, h1⟩ := hk v hv
    exact kl.stays w h1

/-! ### Numbers -/
theorem kind_range (k : IntKind) : k.min = -(kmin k : Int) ∧ k.max = (kmax k : Int) := by cases k <;> exact ⟨rfl, rfl⟩
theorem inR_wf {k : IntKind} {n : Int} (h : inR k n = true) : (Lit.int k n).wf = true := by
  obtain ⟨r1, r2⟩ := kind_range k
  have key : k.min ≤ n ∧ n ≤ k.max := by
    rw [r1, r2]
    cases n with
    | ofNat m =>
      have h := Nat.le_of_ble_eq_true (show Nat.ble m (kmax k) = true from h)
      have e : Int.ofNat m = (m : Int) := rfl
      rw [e]
      omega
    | negSucc m =>
      have h : m < kmin k := Nat.lt_of_lt_of_le (Nat.lt_succ_self _) (Nat.le_of_ble_eq_true h)
      have e : Int.negSucc m = -((m : Int) + 1) := by omega
      rw [e]
      omega
  simp [Lit.wf, key]
theorem keyOk_int {P : Program} {t : TypeId} {k : IntKind} (hu : P.underlying t = some (.int k)) : KeyOk P t (.one (some k)) := by
  have isk : ∀ n, IsKey (.int k) (.int k n) := fun n => by simp [IsKey]
  refine ⟨fun w x y hx hy => ?_, fun w op ox oy x y hx hy => ?_, fun w em v hv => ?_, fun w x es hx hes => ?_, fun w v hv => ?_⟩
  · obtain ⟨a, rfl, _⟩ := hx
    obtain ⟨b, rfl, _⟩ := hy
    exact ⟨a == b, run_equalIn_int w 9999 t k k a b hu, by simp⟩
  · obtain ⟨a, rfl, _⟩ := hx
    obtain ⟨b, rfl, _⟩ := hy
    unfold eqGuard; cases op <;> rfl
  · obtain ⟨a, rfl, _⟩ := hv
    exact run_checkKey hu (isk a) em 9999
  · obtain ⟨a, rfl, _⟩ := hx
    rcases findNow_spec (isk a) es 0 (fun e he => by obtain ⟨b, hb, _⟩ := hes e he; rw [hb]; exact isk b) with ⟨h1, h2⟩ | ⟨j, e, h1, h2, h3⟩
    · exact .inl ⟨run_findKey hu h1, h2⟩
    · exact .inr ⟨j, e, by have := run_findKey (w := w) hu h1; simpa using this, h2, h3⟩
  · obtain ⟨a, rfl, _⟩ := hv
    exact run_keyThatStays (isk a)
theorem keyOk_bool {P : Program} {t : TypeId} (hu : P.underlying t = some .bool) : KeyOk P t (.one none) := by
  have isk : ∀ n, IsKey .bool (.bool n) := fun n => by simp [IsKey]
  refine ⟨fun w x y hx hy => ?_, fun w op ox oy x y hx hy => ?_, fun w em v hv => ?_, fun w x es hx hes => ?_, fun w v hv => ?_⟩
  · obtain ⟨a, rfl⟩ := hx
    obtain ⟨b, rfl⟩ := hy
    exact ⟨a == b, run_equalIn_bool' w 9999 t a b hu, by simp⟩
  · obtain ⟨a, rfl⟩ := hx
    obtain ⟨b, rfl⟩ := hy
    unfold eqGuard; cases op <;> rfl
  · obtain ⟨a, rfl⟩ := hv
    exact run_checkKey hu (isk a) em 9999
  · obtain ⟨a, rfl⟩ := hx
    rcases findNow_spec (isk a) es 0 (fun e he => by obtain ⟨b, hb⟩ := hes e he; rw [hb]; exact isk b) with ⟨h1, h2⟩ | ⟨j, e, h1, h2, h3⟩
    · exact .inl ⟨run_findKey hu h1, h2⟩
    · exact .inr ⟨j, e, by have := run_findKey (w := w) hu h1; simpa using this, h2, h3⟩
  · obtain ⟨a, rfl⟩ := hv
    exact run_keyThatStays (isk a)
theorem keyOk_ints {P : Program} {t e : TypeId} {n : Nat} {k : IntKind} (h : WideKey P t) (hu : P.underlying t = some (.array n e)) (he : P.underlying e = some (.int k)) (hc : P.cellsOf t = n) (hce : P.cellsOf e = 1) : KeyOk P t (.many (List.replicate n (some k))) := by
  refine keyOk_wide h fun v hv => ?_
  obtain ⟨vs, rfl, hl, hf⟩ := hv
  rw [List.length_replicate] at hl
  have hb : ∀ i (hi : i < vs.length), ∃ b, vs[i] = .int k b ∧ inR k b = true := fun i hi => by
    have := hf i (by simpa using (by omega : i < n)) hi
    simpa [fitC] using this
  have hpos : 0 < P.types.size := Nat.lt_of_le_of_lt (Nat.zero_le _) (Nat.lt_of_lt_of_le (Nat.lt_succ_self _) (Nat.le_of_ble_eq_true h.row))
  obtain ⟨m, hm⟩ : ∃ m, P.types.size = m + 1 := ⟨P.types.size - 1, by omega⟩
  have hformed : (Value.agg vs.toArray).formed P t = true := by simp [Value.formed, hu, hc, hl]
  have key : ∀ (l : List Nat), (∀ i ∈ l, i < n) → ∃ ls : List (List Lit), (l.mapM fun i => P.keyLits P.types.size e ((vs.drop (i * P.cellsOf e)).take (P.cellsOf e))) = some ls := by
    intro l
    induction l with
    | nil => intro _; exact ⟨[], rfl⟩
    | cons i l ih =>
      intro hi
      obtain ⟨ls, h1⟩ := ih fun j hj => hi j (List.mem_cons_of_mem _ hj)
      have hin : i < vs.length := by have := hi i List.mem_cons_self; omega
      obtain ⟨b, hb1, hb2⟩ := hb i hin
      have e1 : (vs.drop (i * P.cellsOf e)).take (P.cellsOf e) = [.int k b] := by
        rw [hce, Nat.mul_one, List.drop_eq_getElem_cons hin, hb1]
        rfl
      refine ⟨[.int k b] :: ls, ?_⟩
      rw [List.mapM_cons, e1, h1]
      have : P.keyLits P.types.size e [.int k b] = some [.int k b] := by
        rw [hm]
        unfold Program.keyLits
        rw [he]
        simp [inR_wf hb2]
      rw [this]
      rfl
  obtain ⟨ls, h1⟩ := key (List.range n) fun i hi => List.mem_range.1 hi
  refine ⟨.string (keyBytes ls.flatten), ?_⟩
  unfold keyOf
  rw [hu]
  simp only [h.key, hformed, Bool.and_self, if_true]
  unfold Program.keyLits
  rw [hu]
  simp only [Value.cells, hc, hl, if_true]
  rw [h1]
  rfl

/-! ### Structs of plain fields -/
def plainC (P : Program) (c : CK) (t : TypeId) : Prop := match c with
  | none => P.underlying t = some .bool
  | some k => P.underlying t = some (.int k)
def FieldsOk (P : Program) : List Field → List CK → Nat → Prop
  | [], [], _ => True
  | f :: fs, c :: cs, o => f.offset = o ∧ plainC P c f.type ∧ P.cellsOf f.type = 1 ∧ FieldsOk P fs cs (o + 1)
  | _, _, _ => False
theorem keyLits_plain1 {P : Program} {c : CK} {t : TypeId} {v : Value} (m : Nat) (hc : plainC P c t) (hv : fitC c v) : ∃ l, P.keyLits (m + 1) t [v] = some l := by
  cases c with
  | none =>
    obtain ⟨b, rfl⟩ := hv
    exact ⟨[.bool b], by unfold Program.keyLits; rw [show P.underlying t = some .bool from hc]⟩
  | some k =>
    obtain ⟨n, rfl, hr⟩ := hv
    exact ⟨[.int k n], by unfold Program.keyLits; rw [show P.underlying t = some (.int k) from hc]; simp [inR_wf hr]⟩
theorem fields_lits {P : Program} (m : Nat) (vs : List Value) : ∀ (fs : List Field) (cs : List CK) (o : Nat), FieldsOk P fs cs o → vs.length = o + cs.length → (∀ (i : Nat) (h : i < cs.length) (h' : o + i < vs.length), fitC cs[i] vs[o + i]) →
    ∃ ls : List (List Lit), (fs.mapM fun f => P.keyLits (m + 1) f.type ((vs.drop f.offset).take (P.cellsOf f.type))) = some ls
  | [], [], o, _, _, _ => ⟨[], rfl⟩
  | [], _ :: _, _, h, _, _ => h.elim
  | _ :: _, [], _, h, _, _ => h.elim
  | f :: fs, c :: cs, o, hok, hl, hf => by
    obtain ⟨h1, h2, h3, h4⟩ := hok
    obtain ⟨ls, hls⟩ := fields_lits m vs fs cs (o + 1) h4 (by simp at hl; omega) fun i h h' => by
      have := hf (i + 1) (by simpa using h) (by omega)
      simp only [List.getElem_cons_succ] at this
      have e : o + (i + 1) = o + 1 + i := by omega
      simpa [e] using this
    have hin : o < vs.length := by simp at hl; omega
    obtain ⟨l, hl1⟩ := keyLits_plain1 m h2 (hf 0 (by simp) (by simpa using hin))
    refine ⟨l :: ls, ?_⟩
    have e1 : (vs.drop f.offset).take (P.cellsOf f.type) = [vs[o]] := by
      rw [h1, h3, List.drop_eq_getElem_cons hin]
      rfl
    rw [List.mapM_cons, e1]
    have hl1 : P.keyLits (m + 1) f.type [vs[o]] = some l := hl1
    rw [hl1, hls]
    rfl
theorem keyOk_struct {P : Program} {t : TypeId} {fs : Array Field} {cs : List CK} (h : WideKey P t) (hu : P.underlying t = some (.struct fs)) (hc : P.cellsOf t = cs.length) (hn : fs.all (·.name != "_") = true) (hf : FieldsOk P fs.toList cs 0) : KeyOk P t (.many cs) := by
  refine keyOk_wide h fun v hv => ?_
  obtain ⟨vs, rfl, hl, hfit⟩ := hv
  have hpos : 0 < P.types.size := Nat.lt_of_le_of_lt (Nat.zero_le _) (Nat.lt_of_lt_of_le (Nat.lt_succ_self _) (Nat.le_of_ble_eq_true h.row))
  obtain ⟨m, hm⟩ : ∃ m, P.types.size = m + 1 := ⟨P.types.size - 1, by omega⟩
  have hformed : (Value.agg vs.toArray).formed P t = true := by simp [Value.formed, hu, hc, hl]
  obtain ⟨ls, h1⟩ := fields_lits m vs fs.toList cs 0 hf (by omega) fun i h h' => by
    have := hfit i h (by omega)
    simpa using this
  refine ⟨.string (keyBytes ls.flatten), ?_⟩
  unfold keyOf
  rw [hu]
  simp only [h.key, hformed, Bool.and_self, if_true]
  unfold Program.keyLits
  rw [hu]
  simp only [Value.cells, hc, hl, hn, and_self, if_true]
  rw [← hm] at h1
  rw [h1]
  rfl
end Go.Ev
namespace Go.Ev
open Go Go.RowKit

/-! ### Tables -/
def T.each {α : Type} (p : K → α → Prop) : T α → (K → K) → Prop
  | .nil, _ => True
  | .node l v r, f => (match v with | none => True | some x => p (f .e) x) ∧ T.each p l (fun k => f (.o k)) ∧ T.each p r (fun k => f (.z k))
theorem T.each_get {α : Type} {p : K → α → Prop} : ∀ {t : T α} {f : K → K} {k : K} {x : α}, T.each p t f → t.get k = some x → p (f k) x
  | .nil, f, k, x, _, h => by rw [T.get_nil] at h; cases h
  | .node l v r, f, .e, x, he, h => by
    have h : v = some x := h
    subst h
    exact he.1
  | .node l v r, f, .o k, x, he, h => T.each_get (t := l) (f := fun k => f (.o k)) (k := k) he.2.1 h
  | .node l v r, f, .z k, x, he, h => T.each_get (t := r) (f := fun k => f (.z k)) (k := k) he.2.2 h
def EntryOk (Y : Rig) (k : K) (ef : EF) : Prop := (ef.nv = none ∧ ∃ fn c, FnOk Y k ef fn c) ∨ ∃ g, ef.nv = some g ∧ NatOk Y k g
theorem fns_of_each {Y : Rig} {fs : T EF} (h : T.each (EntryOk Y) fs (fun k => k)) : Fns Y fs := fun _ _ hk => T.each_get h hk
theorem entry_code {Y : Rig} {k : K} {n : Nat} {ef : EF} {fn : Func} (hk : k.nat = n) (h1 : Y.P.funcs[n]? = some fn) (h2 : (fn.name == "runtime.NumGoroutine") = false) (h3 : compF Y.tab fn = some ef) : ef.nv = none ∧ ∃ fn c, FnOk Y k ef fn c := by
  subst hk
  unfold compF at h3
  split at h3
  · rename_i c rs hb hr
    cases h3
    exact ⟨rfl, fn, c, h1, hb, h2, rfl, hr, rfl⟩
  · cases h3
def rowOf (t : Nat) : List (Nat × TD) → Option TD
  | [] => none
  | p :: l => bif Nat.beq p.1 t then some p.2 else rowOf t l
def RowsOk (P : Program) : List (Nat × TD) → Prop
  | [] => True
  | p :: l => p.2.ok P p.1 ∧ RowsOk P l
theorem rowsOk {P : Program} : ∀ {l : List (Nat × TD)}, RowsOk P l → ∀ t d, rowOf t l = some d → d.ok P t
  | [], _, t, d, h => by cases h
  | p :: l, hl, t, d, h => by
    unfold rowOf at h
    cases hb : Nat.beq p.1 t with
    | true =>
      rw [hb] at h
      have h : some p.2 = some d := h
      cases h
      have := Nat.eq_of_beq_eq_true hb
      subst this
      exact hl.1
    | false =>
      rw [hb] at h
      exact rowsOk hl.2 t d h
theorem td_plain {P : Program} {t : TypeId} {desc : TypeDesc} {size bytes : Nat} {zero : Value} {gv : List (Nat × Value)} (h1 : P.underlying t = some desc) (h2 : (P.info? t).map (fun i => (i.size, i.bytes, i.zero)) = some (size, bytes, some zero)) : (TD.mk desc size bytes zero none gv).ok P t :=
  ⟨h1, h2, fun _ h => by cases h⟩
theorem td_key {P : Program} {t : TypeId} {desc : TypeDesc} {size bytes : Nat} {zero : Value} {kd : KD} {gv : List (Nat × Value)} (h1 : P.underlying t = some desc) (h2 : (P.info? t).map (fun i => (i.size, i.bytes, i.zero)) = some (size, bytes, some zero)) (h3 : KeyOk P t kd) : (TD.mk desc size bytes zero (some kd) gv).ok P t :=
  ⟨h1, h2, fun _ h => by cases h; exact h3⟩

def GlobRows (w : World) : List (Nat × TD) → Prop
  | [] => True
  | p :: l => (∀ q ∈ p.2.gv, ∃ ty fz, w.heap[q.1]? = some (.cells q.2.cells ty fz)) ∧ GlobRows w l
theorem mem_of_lookup {α : Type} {g : Nat} {u : α} : ∀ {l : List (Nat × α)}, l.lookup g = some u → (g, u) ∈ l
  | [], h => by cases h
  | (a, b) :: l, h => by
    rw [List.lookup_cons] at h
    split at h
    · rename_i e; cases h; rw [eq_of_beq e]; exact List.mem_cons_self
    · exact List.mem_cons_of_mem _ (mem_of_lookup h)
theorem glob_rows {w : World} : ∀ {l : List (Nat × TD)}, GlobRows w l → Glob (fun t => rowOf t l) w
  | [], _, t, d, g, u, h, _ => by cases h
  | p :: l, hl, t, d, g, u, h, k => by
    have h : rowOf t (p :: l) = some d := h
    unfold rowOf at h
    cases hb : Nat.beq p.1 t with
    | true => rw [hb] at h; cases (show some p.2 = some d from h); exact hl.1 _ (mem_of_lookup k)
    | false => rw [hb] at h; exact glob_rows hl.2 t d g u h k

/-! ### Contracts -/
def V.flat (v : V) : Bool := match v with | .b _ => true | .i _ _ => true | _ => false
theorem VR.flat {ι ι' : Io} {v : V} {v' : Value} (hf : v.flat = true) (h : VR ι v v') : VR ι' v v' := by
  cases v <;> simp only [V.flat, reduceCtorEq] at hf
  · cases h; exact .b _
  · cases h; exact .i _ _
theorem VRs.flat {ι ι' : Io} : ∀ {vs : List V} {us : List Value}, vs.all V.flat = true → VRs ι vs us → VRs ι' vs us
  | [], us, _, h => by obtain rfl := h.inv_nil; exact VRs.nil
  | v :: vs, us, hf, h => by
    obtain ⟨u, us', rfl, h1, h2⟩ := h.inv_cons
    rw [List.all_cons, Bool.and_eq_true] at hf
    exact VRs.cons (h1.flat hf.1) (VRs.flat hf.2 h2)
noncomputable def givesB (fs : T EF) (n : Nat) (ef : EF) (args : List V) (v : V) : Bool := (callF (eval fs n) ef args ⟨.e, .nil⟩).chk fun u => beq1 u v
theorem WR.empty {tab : Tab} {w : World} (hg : Glob tab w) : WR tab (fun _ => none) ⟨.e, .nil⟩ w :=
  ⟨(fun _ _ h => absurd h (by simp)), (fun _ _ h => absurd h (by simp)), (fun _ _ _ _ h => absurd h (by simp)), (fun _ _ => rfl), fun t d g u h1 h2 => ⟨hg t d g u h1 h2, fun _ _ h => absurd h (by simp)⟩⟩
theorem gives_of_eval {Y : Rig} {fs : T EF} (hfs : Fns Y fs) {k : K} {ef : EF} (hf : ef.nv = none ∧ ∃ fn c, FnOk Y k ef fn c) {n : Nat} {args : List V} {v : V} (ha : args.all V.flat = true) (hv : v.flat = true) (he : givesB fs n ef args v = true) : Gives Y k args v := by
  intro ι vals w hvals hG
  obtain ⟨_, fn, c, hf⟩ := hf
  unfold givesB at he
  cases hc : callF (eval fs n) ef args ⟨.e, .nil⟩ with
  | no => rw [hc] at he; cases he
  | ok u h' =>
    rw [hc] at he
    have := beq1_eq (show beq1 u v = true from he)
    subst this
    refine (callF_rel (evalOk hfs n) hf hc (hvals.flat (ι' := fun _ => none) ha) (WR.empty hG)).mono ?_
    rintro e w' ⟨ι', v', rfl, hs, hvr, _⟩
    exact ⟨v', rfl, fun ι => hvr.flat hv, hs.os, hs.tape, hs.output, hs.size, fun b hb => hs.keep b hb fun _ _ h => absurd h (by simp)⟩
noncomputable def tabG (l : List (List V × V)) (args : List V) : Option V := List.rec none (fun p _ ih => bif beqL p.1 args then some p.2 else ih) l
def AllG (Y : Rig) (k : K) : List (List V × V) → Prop
  | [] => True
  | p :: l => Gives Y k p.1 p.2 ∧ AllG Y k l
theorem tabG_gives {Y : Rig} {k : K} : ∀ {l : List (List V × V)}, AllG Y k l → ∀ args v, tabG l args = some v → Gives Y k args v
  | [], _, args, v, h => by cases h
  | p :: l, hl, args, v, h => by
    have h : (bif beqL p.1 args then some p.2 else tabG l args) = some v := h
    cases hb : beqL p.1 args with
    | true =>
      rw [hb] at h
      have h : some p.2 = some v := h
      cases h
      rw [← beqL_eq hb]
      exact hl.1
    | false => rw [hb] at h; exact tabG_gives hl.2 args v h
end Go.Ev
namespace Go.Ev
open Go Go.RowKit

theorem entry_nat {Y : Rig} {k : K} {n : Nat} {fn : Func} {g : List V → Option V} (hk : k.nat = n) (h1 : Y.P.funcs[n]? = some fn) (h2 : (fn.name == "runtime.NumGoroutine") = false) (h3 : fn.body.isSome = true) (hg : ∀ args v, g args = some v → Gives Y k args v) : EntryOk Y k ⟨0, [], .no, some (flatG g)⟩ := by
  subst hk
  refine .inr ⟨flatG g, rfl, ⟨fn, h1, (fun e => by rw [e] at h3; cases h3), h2⟩, fun args h v h' he => ?_⟩
  have he : (oGet (g args) none fun v => some (v, h)) = some (v, h') := he
  obtain ⟨v1, e1, e2⟩ := oGet_some (by simp) he
  cases e2
  exact (hg _ _ e1).does h
end Go.Ev
namespace Go.Ev
open Go Go.RowKit

def RLe (r s : Res) : Prop := ∀ e fr h, r = .ok e fr h → s = .ok e fr h
def VLe (r s : RV) : Prop := ∀ v h, r = .ok v h → s = .ok v h
def GLe (g g' : Go) : Prop := ∀ ro c fr h, RLe (g ro c fr h) (g' ro c fr h)
theorem RLe.refl (r : Res) : RLe r r := fun _ _ _ h => h
theorem VLe.refl (r : RV) : VLe r r := fun _ _ h => h
theorem RLe.no (s : Res) : RLe .no s := fun _ _ _ h => by cases h
theorem VLe.no (s : RV) : VLe .no s := fun _ _ h => by cases h
theorem RLe.go {r s : Res} {f f' : Fr → H → Res} (h : RLe r s) (hf : ∀ fr h, RLe (f fr h) (f' fr h)) : RLe (r.go f) (s.go f') := fun e fr h0 he => by
  rcases Res.go_ok he with ⟨fr1, h1, e1, e2⟩ | ⟨hne, e1⟩
  · have := h _ _ _ e1
    rw [this]
    exact hf _ _ _ _ _ e2
  · have := h _ _ _ e1
    rw [this]
    cases e <;> first | exact absurd rfl hne | rfl
theorem RLe.at {r s : Res} {id : Nat} (h : RLe r s) : RLe (r.at id) (s.at id) := fun e fr h0 he => by
  obtain ⟨e1, e2, _⟩ := Res.at_ok he
  rw [h _ _ _ e2, ← e2]
  exact he
theorem VLe.to {r s : RV} {f f' : V → H → Res} (h : VLe r s) (hf : ∀ v h, RLe (f v h) (f' v h)) : RLe (r.to f) (s.to f') := fun e fr h0 he => by
  obtain ⟨v, h1, e1, e2⟩ := RV.to_ok he
  rw [h _ _ e1]
  exact hf _ _ _ _ _ e2
theorem RLe.all {r s : Res} {f f' : Ex → Fr → H → RV} (h : RLe r s) (hf : ∀ e fr h, VLe (f e fr h) (f' e fr h)) : VLe (r.all f) (s.all f') := fun v h0 he => by
  cases r with
  | no => cases he
  | ok e fr h1 =>
    rw [h e fr h1 rfl]
    exact hf _ _ _ _ _ he
theorem oGet_le {α : Type} {o : Option α} {f f' : α → Res} (hf : ∀ x, RLe (f x) (f' x)) : RLe (oGet o .no f) (oGet o .no f') := by
  cases o with
  | none => exact RLe.refl _
  | some x => exact hf x
theorem oGetV_le {α : Type} {o : Option α} {d : RV} {f f' : α → RV} (hf : ∀ x, VLe (f x) (f' x)) : VLe (oGet o d f) (oGet o d f') := by
  cases o with
  | none => exact VLe.refl _
  | some x => exact hf x
theorem bif_le {c : Bool} {r s r' s' : Res} (h1 : RLe r r') (h2 : RLe s s') : RLe (bif c then r else s) (bif c then r' else s') := by cases c <;> assumption
theorem bifV_le {c : Bool} {r s r' s' : RV} (h1 : VLe r r') (h2 : VLe s s') : VLe (bif c then r else s) (bif c then r' else s') := by cases c <;> assumption
theorem onL_le {b : Blk} {f f' : LS → Option Ex → T V → List K → EC → EC → RV} (h : ∀ s j fr ps a c, VLe (f s j fr ps a c) (f' s j fr ps a c)) : VLe (b.onL f) (b.onL f') := by
  cases b <;> first | exact VLe.refl _ | exact h _ _ _ _ _ _
theorem isReady_le {s : LS} {x y : RV} (h : VLe x y) : VLe (isReady s x) (isReady s y) := by cases s <;> first | exact h | exact VLe.refl _
theorem isN_le {e : Ex} {x y : RV} (h : VLe x y) : VLe (isN e x) (isN e y) := by cases e <;> first | exact h | exact VLe.refl _

section
variable {g g' : Go} (hg : GLe g g') {fs : T EF}
theorem callF_le (hg : GLe g g') (ef : EF) (args : List V) (h : H) : VLe (callF g ef args h) (callF g' ef args h) :=
  bifV_le (RLe.all (hg _ _ _ _) fun _ _ _ => VLe.refl _) (VLe.refl _)
theorem callE_le (hg : GLe g g') (ef : EF) (args : List V) (h : H) : VLe (callE g ef args h) (callE g' ef args h) := by
  unfold callE
  cases ef.nv with
  | none => exact callF_le hg _ _ _
  | some f => exact VLe.refl _
theorem callV_le (hg : GLe g g') (f : V) (args : List V) (h : H) : VLe (callV fs g f args h) (callV fs g' f args h) := by
  unfold callV
  split
  · exact oGetV_le fun ef => callE_le hg ef _ _
  · exact onL_le fun s j fr ps a c => bifV_le (isReady_le (RLe.all (hg _ _ _ _) fun e fr' h => isN_le (onL_le fun s j fr ps a c => isReady_le (RLe.all (hg _ _ _ _) fun _ _ _ => VLe.refl _)))) (VLe.refl _)
  · exact oGetV_le fun ef => callE_le hg ef _ _
  · exact VLe.refl _
theorem evop_le (hg : GLe g g') (fr : Fr) (h : H) (o : EOp) : VLe (evop fs g fr h o) (evop fs g' fr h o) := by
  cases o
  case call f args => exact callV_le hg _ _ _
  all_goals exact VLe.refl _
theorem runOp_le (hg : GLe g g') (o : EOper) {ih ih' : Fr → H → Res} (hi : ∀ fr h, RLe (ih fr h) (ih' fr h)) (fr : Fr) (h : H) : RLe (runOp fs g o ih fr h) (runOp fs g' o ih' fr h) :=
  oGet_le fun _ => bif_le (VLe.to (evop_le hg _ _ _) fun _ _ => hi _ _) (hi _ _)
theorem runOps_le (hg : GLe g g') : ∀ (l : List EOper) (fr : Fr) (h : H), RLe (runOps fs g l fr h) (runOps fs g' l fr h)
  | [], _, _ => RLe.refl _
  | o :: l, fr, h => runOp_le hg o (fun fr h => runOps_le hg l fr h) fr h
theorem gRun_le (hg : GLe g g') {f f' : Fr → H → Res} (hf : ∀ fr h, RLe (f fr h) (f' fr h)) : ∀ (l : List EOper) (fr : Fr) (h : H), RLe (gRun fs g l f fr h) (gRun fs g' l f' fr h)
  | [], _, _ => hf _ _
  | o :: l, fr, h => by
    have hi := gRun_le hg hf l
    refine oGet_le (f := fun r => bif r then gDo fs g o.dst o.op (gRun fs g l f) fr h else gRun fs g l f (putD fr o.dst undefV) h) (f' := fun r => bif r then gDo fs g' o.dst o.op (gRun fs g' l f') fr h else gRun fs g' l f' (putD fr o.dst undefV) h) fun r => bif_le ?_ (hi _ _)
    unfold gDo
    split
    · exact oGet_le fun _ => bif_le (oGet_le fun _ => hi _ _) (RLe.refl _)
    · exact oGet_le fun _ => bif_le (hi _ _) (RLe.refl _)
    · refine oGet_le fun _ => bif_le ?_ (RLe.refl _)
      unfold V.onI
      split
      · exact oGet_le fun _ => bif_le (hi _ _) (RLe.refl _)
      · exact RLe.refl _
    · exact oGet_le fun _ => bif_le (hi _ _) (RLe.refl _)
    · exact bif_le (VLe.to (evop_le hg _ _ _) fun _ _ => hi _ _) (RLe.refl _)
theorem chk_le {r s : RV} {p : V → Bool} (h : VLe r s) (hr : r.chk p = true) : s.chk p = true := by
  cases r with
  | no => cases hr
  | ok v h1 => rw [h v h1 rfl]; exact hr
theorem and_le {q : Bool} {r s : RV} {p : V → Bool} (h : VLe r s) (hr : (q && r.chk p) = true) : (q && s.chk p) = true := by
  rw [Bool.and_eq_true] at hr ⊢
  exact ⟨hr.1, chk_le h hr.2⟩
theorem stays_le (hg : GLe g g') {fr : Fr} {h : H} {o : EOper} (hs : stays fs g fr h o = true) : stays fs g' fr h o = true := by
  unfold stays at hs ⊢
  cases hw : wants fr o.g with
  | none => rw [hw] at hs; cases hs
  | some r =>
    rw [hw] at hs
    cases r with
    | false => exact hs
    | true =>
      have hs : opStays fs g fr h o.dst o.op = true := hs
      show opStays fs g' fr h o.dst o.op = true
      unfold opStays at hs ⊢
      generalize o.op = op at hs ⊢
      cases op
      case bslice n sz z ps => exact hs
      case alloc n z => exact hs
      case mkslD sz z l => exact hs
      case mkmD kt => exact hs
      all_goals exact and_le (evop_le hg _ _ _) hs
theorem allStay_le (hg : GLe g g') {fr : Fr} {h : H} : ∀ {l : List EOper}, allStay fs g fr h l = true → allStay fs g' fr h l = true
  | [], _ => rfl
  | o :: l, hs => by
    have hs : (stays fs g fr h o && allStay fs g fr h l) = true := hs
    show (stays fs g' fr h o && allStay fs g' fr h l) = true
    rw [Bool.and_eq_true] at hs ⊢
    exact ⟨stays_le hg hs.1, allStay_le hg hs.2⟩
theorem drawRun_le (hg : GLe g g') : ∀ (l : List Stage) (fr : Fr) (h : H), RLe (drawRun fs g l fr h) (drawRun fs g' l fr h)
  | [], _, _ => RLe.refl _
  | s :: l, fr0, h0 => by
    refine gRun_le hg (f := fun fr h => bif isFresh h0 h fr s.b then stageEnd fs g s (drawRun fs g l) fr h else .no) (f' := fun fr h => bif isFresh h0 h fr s.b then stageEnd fs g' s (drawRun fs g' l) fr h else .no) (fun fr h => bif_le ?_ (RLe.refl _)) s.g fr0 h0
    intro e fr' h' he
    unfold stageEnd at he ⊢
    obtain ⟨h1, h2⟩ := cond_ok (by simp) he
    rw [allStay_le hg h1]
    cases hl : s.l with
    | none => rw [hl] at h2; exact h2
    | some o => rw [hl] at h2; exact runOp_le hg o (fun fr h => drawRun_le hg l fr h) fr h _ _ _ h2
theorem evStep_le (hg : GLe g g') : GLe (evStep fs g) (evStep fs g') := by
  intro ro c fr h
  cases c
  case reg ops => exact runOps_le hg ops fr h
  case draw st => exact drawRun_le hg st fr h
  case seq a b => exact RLe.go (hg _ _ _ _) fun _ _ => hg _ _ _ _
  case cond x a b =>
    show RLe (condC g ro (ev fr x) a b fr h) (condC g' ro (ev fr x) a b fr h)
    unfold condC
    cases ev fr x <;> first | exact RLe.refl _ | exact bif_le (hg _ _ _ _) (hg _ _ _ _)
  case block id c => exact RLe.at (hg _ _ _ _)
  case loop c => exact RLe.go (hg _ _ _ _) fun _ _ => hg _ _ _ _
  case scope c => exact hg _ _ _ _
  case rangeF f ps a c => exact bif_le (VLe.to (callV_le hg _ _ _) fun _ _ => RLe.refl _) (RLe.refl _)
  all_goals exact RLe.refl _
end
theorem eval_le_succ (fs : T EF) : ∀ n, GLe (eval fs n) (eval fs (n + 1))
  | 0 => fun _ _ _ _ => RLe.no _
  | n + 1 => evStep_le (eval_le_succ fs n)
theorem eval_le (fs : T EF) {n m : Nat} (h : n ≤ m) : GLe (eval fs n) (eval fs m) := by
  induction m with
  | zero => obtain rfl : n = 0 := by omega
            exact fun _ _ _ _ => RLe.refl _
  | succ m ih =>
    by_cases e : n = m + 1
    · subst e; exact fun _ _ _ _ => RLe.refl _
    · exact fun ro c fr h e' fr' h' he => eval_le_succ fs m _ _ _ _ _ _ _ (ih (by omega) _ _ _ _ _ _ _ he)

/-! ### Runs, whatever the fuel -/
def Runs (fs : T EF) (ro : Option K) (c : EC) (fr : Fr) (h : H) (e : Ex) (fr' : Fr) (h' : H) : Prop := ∃ n, eval fs n ro c fr h = .ok e fr' h'
section
variable {fs : T EF} {ro : Option K} {c a b : EC} {fr fr1 fr' : Fr} {h h1 h' : H} {e : Ex}
theorem Runs.seq (k1 : Runs fs ro a fr h .normal fr1 h1) (k2 : Runs fs ro b fr1 h1 e fr' h') : Runs fs ro (.seq a b) fr h e fr' h' := by
  obtain ⟨n, e1⟩ := k1
  obtain ⟨m, e2⟩ := k2
  refine ⟨max n m + 1, ?_⟩
  show (eval fs (max n m) ro a fr h).go (fun fr h => eval fs (max n m) ro b fr h) = _
  rw [eval_le fs (Nat.le_max_left n m) _ _ _ _ _ _ _ e1]
  exact eval_le fs (Nat.le_max_right n m) _ _ _ _ _ _ _ e2
theorem Runs.seq_out (h1 : Runs fs ro a fr h e fr' h') (he : e ≠ .normal) : Runs fs ro (.seq a b) fr h e fr' h' := by
  obtain ⟨n, e1⟩ := h1
  refine ⟨n + 1, ?_⟩
  show (eval fs n ro a fr h).go (fun fr h => eval fs n ro b fr h) = _
  rw [e1]
  cases e <;> first | exact absurd rfl he | rfl
theorem Runs.reg {ops : List EOper} {n : Nat} (h1 : runOps fs (eval fs n) ops fr h = .ok e fr' h') : Runs fs ro (.reg ops) fr h e fr' h' := ⟨n + 1, h1⟩
theorem Runs.loop (k1 : Runs fs ro c fr h .normal fr1 h1) (k2 : Runs fs ro (.loop c) fr1 h1 e fr' h') : Runs fs ro (.loop c) fr h e fr' h' := by
  obtain ⟨n, e1⟩ := k1
  obtain ⟨m, e2⟩ := k2
  refine ⟨max n m + 1, ?_⟩
  show (eval fs (max n m) ro c fr h).go (fun fr h => eval fs (max n m) ro (.loop c) fr h) = _
  rw [eval_le fs (Nat.le_max_left n m) _ _ _ _ _ _ _ e1]
  exact eval_le fs (Nat.le_max_right n m) _ _ _ _ _ _ _ e2
theorem Runs.loop_out (h1 : Runs fs ro c fr h e fr' h') (he : e ≠ .normal) : Runs fs ro (.loop c) fr h e fr' h' := by
  obtain ⟨n, e1⟩ := h1
  refine ⟨n + 1, ?_⟩
  show (eval fs n ro c fr h).go (fun fr h => eval fs n ro (.loop c) fr h) = _
  rw [e1]
  cases e <;> first | exact absurd rfl he | rfl
theorem Runs.cond {x : EO} {r : Bool} (hx : ev fr x = .b r) (h1 : Runs fs ro (bif r then a else b) fr h e fr' h') : Runs fs ro (.cond x a b) fr h e fr' h' := by
  obtain ⟨n, e1⟩ := h1
  refine ⟨n + 1, ?_⟩
  show condC (eval fs n) ro (ev fr x) a b fr h = _
  rw [hx]
  cases r <;> exact e1
theorem Runs.block {id : Nat} {e1 : Ex} (h1 : Runs fs ro c fr h e1 fr' h') (he : e1 = .exit id ∧ e = .normal ∨ e1 ≠ .exit id ∧ e = e1) : Runs fs ro (.block id c) fr h e fr' h' := by
  obtain ⟨n, h2⟩ := h1
  refine ⟨n + 1, ?_⟩
  show (eval fs n ro c fr h).at id = _
  rw [h2]
  rcases he with ⟨rfl, rfl⟩ | ⟨hne, rfl⟩
  · show (bif Nat.beq id id then Res.ok .normal fr' h' else .ok (.exit id) fr' h') = _
    rw [Nat.beq_refl]; rfl
  · cases e with
    | exit j =>
      show (bif Nat.beq j id then Res.ok .normal fr' h' else .ok (.exit j) fr' h') = _
      cases hb : Nat.beq j id with
      | true => exact absurd (congrArg Ex.exit (Nat.eq_of_beq_eq_true hb)) hne
      | false => rfl
    | normal => rfl
    | ret => rfl
theorem Runs.skip : Runs fs ro .skip fr h .normal fr h := ⟨1, rfl⟩
theorem Runs.exit {id : Nat} : Runs fs ro (.exit id) fr h (.exit id) fr h := ⟨1, rfl⟩
theorem Runs.ret : Runs fs ro .ret fr h .ret fr h := ⟨1, rfl⟩
end
end Go.Ev
namespace Go.Ev
open Go Go.RowKit

section
variable {Y : Rig} {fs : T EF} {ids : List K} {h hc h1 : H} {ι : Io} {w : World}
end
end Go.Ev
namespace Go.Ev
open Go Go.RowKit
section
variable {fs : T EF} {go : Go} {d : K} {g : Option (K × Bool)} {op : EOp} {l : List EOper} {fr : Fr} {h h1 : H} {v : V} {f : Fr → H → Res}
/-! What an operation gives when its operands are known. -/
variable {x y z : EO} {b : Bool} {k : IntKind} {i j : Int} {id : K} {off n sz : Nat}
end

/-! More operations whose operands are known. -/
section
variable {fs : T EF} {go : Go} {fr : Fr} {h h' : H} {v : V} {x y z : EO} {b : Bool} {k : IntKind} {i j : Int} {id : K} {off n sz m : Nat} {cs : List V}
end
end Go.Ev
namespace Go.Ev
open Go Go.RowKit
section
variable {fs : T EF} {go : Go} {fr : Fr} {h : H} {a b : K} {o1 o2 n n' i m1 m2 : Nat} {cs1 cs2 : List V} {x y : Int}
end
end Go.Ev
namespace Go.Ev
open Go Go.RowKit

def rvP (r : RV) (f : V → H → Prop) : Prop := match r with | .no => False | .ok v h => f v h
def GP (o : Option Bool) (p q : Prop) : Prop := match o with | none => False | some b => (b = true → p) ∧ (b = false → q)
def CallP (fs : T EF) (f : V) (args : List V) (h : H) (P : V → H → Prop) : Prop := ∃ n v h', callV fs (eval fs n) f args h = .ok v h' ∧ P v h'
noncomputable def goNo : Go := fun _ _ _ _ => .no
def X1 (fs : T EF) (op : EOp) (fr : Fr) (h : H) (P : V → H → Prop) : Prop := match op with
  | .call f args => CallP fs (ev fr f) (evs fr args) h P
  | op => rvP (evop fs goNo fr h op) P
def X (fs : T EF) : List EOper → (Fr → H → Prop) → Fr → H → Prop
  | [], Q => Q
  | o :: l, Q => fun fr h => GP (wants fr o.g) (X1 fs o.op fr h fun v h' => X fs l Q (putD fr o.dst v) h') (X fs l Q (putD fr o.dst undefV) h)
def kX (fs : T EF) (l : List EOper) (Q : Fr → H → Prop) (fr : Fr) (d : Option K) (v : V) (h : H) : Prop := X fs l Q (putD fr d v) h
def G1 (fs : T EF) (d : Option K) (op : EOp) (fr : Fr) (h : H) (P : Fr → H → Prop) : Prop := match op with
  | .bslice n sz z ps => ∃ k cs, d = some k ∧ (h.get h.nx).isDead = true ∧ fillE fr z ps = some cs ∧ P (fr.set k (.sl h.nx 0 n sz)) (h.new (.cells (n * sz) cs))
  | .alloc n z => ∃ k, d = some k ∧ (h.get h.nx).isDead = true ∧ P (fr.set k (.p h.nx 0)) (h.new (.cells n z))
  | .mkslD sz z l => ∃ k ki n, d = some k ∧ (h.get h.nx).isDead = true ∧ ev fr l = .i ki (Int.ofNat n) ∧ Nat.ble n 1000000 = true ∧ P (fr.set k (.sl h.nx 0 n sz)) (h.new (.cells (n * sz) (rep z n)))
  | .mkmD kt => ∃ k, d = some k ∧ (h.get h.nx).isDead = true ∧ P (fr.set k (.m h.nx)) (h.new (.map kt []))
  | op => op.quiet = true ∧ rvP (evop fs goNo fr h op) fun v _ => P (putD fr d v) h
def XG (fs : T EF) : List EOper → (Fr → H → Prop) → Fr → H → Prop
  | [], Q => Q
  | o :: l, Q => fun fr h => GP (wants fr o.g) (G1 fs o.dst o.op fr h (XG fs l Q)) (XG fs l Q (putD fr o.dst undefV) h)
def XD (fs : T EF) : List Stage → (Fr → H → Prop) → Fr → H → Prop
  | [], Q => Q
  | s :: l, Q => fun fr0 h0 => XG fs s.g (fun fr h => isFresh h0 h fr s.b = true ∧ allStay fs goNo fr h s.c = true ∧ (match s.l with | none => Q fr h | some o => X fs [o] (XD fs l Q) fr h)) fr0 h0
def seqK (A : (Ex → Fr → H → Prop) → Fr → H → Prop) (Q : Ex → Fr → H → Prop) : Ex → Fr → H → Prop := fun e fr h => match e with | .normal => A Q fr h | e => Q e fr h
def atK (id : Nat) (Q : Ex → Fr → H → Prop) : Ex → Fr → H → Prop := fun e fr h => match e with | .exit j => (j = id → Q .normal fr h) ∧ (j ≠ id → Q (.exit j) fr h) | e => Q e fr h
def condP (v : V) (p q : Prop) : Prop := match v with | .b r => (r = true → p) ∧ (r = false → q) | _ => False
def RunsP (fs : T EF) (ro : Option K) (c : EC) (Q : Ex → Fr → H → Prop) (fr : Fr) (h : H) : Prop := ∃ e fr' h', Runs fs ro c fr h e fr' h' ∧ Q e fr' h'
def W (fs : T EF) (ro : Option K) : EC → (Ex → Fr → H → Prop) → Fr → H → Prop
  | .skip, Q => Q .normal
  | .reg ops, Q => X fs ops (Q .normal)
  | .draw st, Q => XD fs st (Q .normal)
  | .seq a b, Q => W fs ro a (seqK (W fs ro b) Q)
  | .cond x a b, Q => fun fr h => condP (ev fr x) (W fs ro a Q fr h) (W fs ro b Q fr h)
  | .block id c, Q => W fs ro c (atK id Q)
  | .scope c, Q => W fs ro c Q
  | .loop c, Q => RunsP fs ro (.loop c) Q
  | .rangeF f ps a c, Q => RunsP fs ro (.rangeF f ps a c) Q
  | .exit id, Q => Q (.exit id)
  | .ret, Q => Q .ret
  | .no, _ => fun _ _ => False

/-! ### They are right -/
section
variable {fs : T EF}
theorem rvP_ex {r : RV} {f : V → H → Prop} : rvP r f → ∃ v h, r = .ok v h ∧ f v h := by
  cases r with
  | no => exact fun h => h.elim
  | ok v h => exact fun hf => ⟨v, h, rfl, hf⟩
theorem GP_ex {o : Option Bool} {p q : Prop} : GP o p q → (o = some true ∧ p) ∨ (o = some false ∧ q) := by
  cases o with
  | none => exact fun h => h.elim
  | some b => cases b with
    | true => exact fun h => .inl ⟨rfl, h.1 rfl⟩
    | false => exact fun h => .inr ⟨rfl, h.2 rfl⟩
theorem evop_no {fr : Fr} {h h' : H} {op : EOp} {v : V} {go : Go} (e : evop fs goNo fr h op = .ok v h') : evop fs go fr h op = .ok v h' :=
  evop_le (g := goNo) (g' := go) (fun _ _ _ _ => RLe.no _) fr h op v h' e
theorem X1_ok {op : EOp} {fr : Fr} {h : H} {P : V → H → Prop} (hx : X1 fs op fr h P) : ∃ n v h', evop fs (eval fs n) fr h op = .ok v h' ∧ P v h' := by
  unfold X1 at hx
  split at hx
  · obtain ⟨n, v, h', e, hp⟩ := hx
    exact ⟨n, v, h', e, hp⟩
  · obtain ⟨v, h', e, hp⟩ := rvP_ex hx
    exact ⟨0, v, h', evop_no e, hp⟩
theorem X_ok : ∀ (l : List EOper) (Q : Fr → H → Prop) (fr : Fr) (h : H), X fs l Q fr h → ∃ n fr' h', runOps fs (eval fs n) l fr h = .ok .normal fr' h' ∧ Q fr' h'
  | [], Q, fr, h, hx => ⟨0, fr, h, rfl, hx⟩
  | o :: l, Q, fr, h, hx => by
    rcases GP_ex (show GP _ _ _ from hx) with ⟨hw, hx⟩ | ⟨hw, hx⟩
    · obtain ⟨n, v, h1, e1, hx⟩ := X1_ok hx
      obtain ⟨m, fr', h', e2, hq⟩ := X_ok l Q _ _ hx
      refine ⟨max n m, fr', h', ?_, hq⟩
      show (oGet (wants fr o.g) Res.no fun r => bif r then (evop fs (eval fs (max n m)) fr h o.op).to fun v h => runOps fs (eval fs (max n m)) l (putD fr o.dst v) h else runOps fs (eval fs (max n m)) l (putD fr o.dst undefV) h) = _
      rw [hw, show (oGet (some true) Res.no fun r => bif r then (evop fs (eval fs (max n m)) fr h o.op).to fun v h => runOps fs (eval fs (max n m)) l (putD fr o.dst v) h else runOps fs (eval fs (max n m)) l (putD fr o.dst undefV) h) = (evop fs (eval fs (max n m)) fr h o.op).to fun v h => runOps fs (eval fs (max n m)) l (putD fr o.dst v) h from rfl]
      rw [evop_le (eval_le fs (Nat.le_max_left n m)) fr h o.op v h1 e1]
      exact runOps_le (eval_le fs (Nat.le_max_right n m)) l _ _ _ _ _ e2
    · obtain ⟨m, fr', h', e2, hq⟩ := X_ok l Q _ _ hx
      refine ⟨m, fr', h', ?_, hq⟩
      show (oGet (wants fr o.g) Res.no fun r => bif r then (evop fs (eval fs m) fr h o.op).to fun v h => runOps fs (eval fs m) l (putD fr o.dst v) h else runOps fs (eval fs m) l (putD fr o.dst undefV) h) = _
      rw [hw]; exact e2
theorem XG_ok {f : Go → Fr → H → Res} (hf : ∀ n m, n ≤ m → ∀ fr h, RLe (f (eval fs n) fr h) (f (eval fs m) fr h)) : ∀ (l : List EOper) (Q : Fr → H → Prop) (R : Ex → Fr → H → Prop) (fr : Fr) (h : H), (∀ fr h, Q fr h → ∃ n e fr' h', f (eval fs n) fr h = .ok e fr' h' ∧ R e fr' h') → XG fs l Q fr h → ∃ n e fr' h', gRun fs (eval fs n) l (f (eval fs n)) fr h = .ok e fr' h' ∧ R e fr' h'
  | [], Q, R, fr, h, hq, hx => hq fr h hx
  | o :: l, Q, R, fr, h, hq, hx => by
    have unf : ∀ go, gRun fs go (o :: l) (f go) fr h = oGet (wants fr o.g) Res.no fun r => bif r then gDo fs go o.dst o.op (gRun fs go l (f go)) fr h else gRun fs go l (f go) (putD fr o.dst undefV) h := fun _ => rfl
    rcases GP_ex (show GP _ _ _ from hx) with ⟨hw, hx⟩ | ⟨hw, hx⟩
    · unfold G1 at hx
      split at hx
      · rename_i op n sz z ps heq
        obtain ⟨k, cs, hd, hdead, hfill, hx⟩ := hx
        obtain ⟨m, e, fr', h', e2, hr⟩ := XG_ok hf l Q R _ _ hq hx
        refine ⟨m, e, fr', h', ?_, hr⟩
        rw [unf, hw, heq, hd]
        show (bif (h.get h.nx).isDead then (oGet (fillE fr z ps) Res.no fun cs => gRun fs (eval fs m) l (f (eval fs m)) (fr.set k (.sl h.nx 0 n sz)) (h.new (.cells (n * sz) cs))) else Res.no) = _
        rw [hdead, hfill]
        exact e2
      · rename_i op n z heq
        obtain ⟨k, hd, hdead, hx⟩ := hx
        obtain ⟨m, e, fr', h', e2, hr⟩ := XG_ok hf l Q R _ _ hq hx
        refine ⟨m, e, fr', h', ?_, hr⟩
        rw [unf, hw, heq, hd]
        show (bif (h.get h.nx).isDead then gRun fs (eval fs m) l (f (eval fs m)) (fr.set k (.p h.nx 0)) (h.new (.cells n z)) else Res.no) = _
        rw [hdead]
        exact e2
      · rename_i op sz z l' heq
        obtain ⟨k, ki, n, hd, hdead, hl, hn, hx⟩ := hx
        obtain ⟨m, e, fr', h', e2, hr⟩ := XG_ok hf l Q R _ _ hq hx
        refine ⟨m, e, fr', h', ?_, hr⟩
        rw [unf, hw, heq, hd]
        show (bif (h.get h.nx).isDead then ((ev fr l').onI .no fun _ n => oGet (nonneg n) .no fun n => bif Nat.ble n 1000000 then gRun fs (eval fs m) l (f (eval fs m)) (fr.set k (.sl h.nx 0 n sz)) (h.new (.cells (n * sz) (rep z n))) else .no) else Res.no) = _
        rw [hdead, hl]
        show (oGet (nonneg (Int.ofNat n)) Res.no fun n => bif Nat.ble n 1000000 then gRun fs (eval fs m) l (f (eval fs m)) (fr.set k (.sl h.nx 0 n sz)) (h.new (.cells (n * sz) (rep z n))) else .no) = _
        show (bif Nat.ble n 1000000 then gRun fs (eval fs m) l (f (eval fs m)) (fr.set k (.sl h.nx 0 n sz)) (h.new (.cells (n * sz) (rep z n))) else .no) = _
        rw [hn]
        exact e2
      · rename_i op kt heq
        obtain ⟨k, hd, hdead, hx⟩ := hx
        obtain ⟨m, e, fr', h', e2, hr⟩ := XG_ok hf l Q R _ _ hq hx
        refine ⟨m, e, fr', h', ?_, hr⟩
        rw [unf, hw, heq, hd]
        show (bif (h.get h.nx).isDead then gRun fs (eval fs m) l (f (eval fs m)) (fr.set k (.m h.nx)) (h.new (.map kt [])) else Res.no) = _
        rw [hdead]
        exact e2
      · rename_i op hne hna hnm hnp
        obtain ⟨hqu, hx⟩ := hx
        obtain ⟨v, h1, e1, hx⟩ := rvP_ex hx
        obtain ⟨m, e, fr', h', e2, hr⟩ := XG_ok hf l Q R _ _ hq hx
        refine ⟨m, e, fr', h', ?_, hr⟩
        rw [unf, hw]
        show gDo fs (eval fs m) o.dst o.op (gRun fs (eval fs m) l (f (eval fs m))) fr h = _
        unfold gDo
        split
        · rename_i n sz z ps heq; exact absurd heq (hne n sz z ps)
        · rename_i n z heq; exact absurd heq (hna n z)
        · rename_i sz z l heq; exact absurd heq (hnm sz z l)
        · rename_i kt heq; exact absurd heq (hnp kt)
        · rw [hqu, evop_no e1]; exact e2
    · obtain ⟨m, e, fr', h', e2, hr⟩ := XG_ok hf l Q R _ _ hq hx
      refine ⟨m, e, fr', h', ?_, hr⟩
      rw [unf, hw]; exact e2
theorem XD_ok : ∀ (l : List Stage) (Q : Fr → H → Prop) (fr : Fr) (h : H), XD fs l Q fr h → ∃ n fr' h', drawRun fs (eval fs n) l fr h = .ok .normal fr' h' ∧ Q fr' h'
  | [], Q, fr, h, hx => ⟨0, fr, h, rfl, hx⟩
  | s :: l, Q, fr, h, hx => by
    obtain ⟨n, e, fr', h', e1, rfl, hq⟩ := XG_ok (fs := fs) (f := fun go fr1 h1 => bif isFresh h h1 fr1 s.b then stageEnd fs go s (drawRun fs go l) fr1 h1 else .no)
      (fun n m hnm fr1 h1 => by
        refine bif_le ?_ (RLe.refl _)
        intro e fr' h' he
        unfold stageEnd at he ⊢
        obtain ⟨p1, p2⟩ := cond_ok (by simp) he
        rw [allStay_le (eval_le fs hnm) p1]
        cases hl : s.l with
        | none => rw [hl] at p2; exact p2
        | some o => rw [hl] at p2; exact runOp_le (eval_le fs hnm) o (fun fr h => drawRun_le (eval_le fs hnm) l fr h) _ _ _ _ _ p2)
      s.g _ (fun e fr' h' => e = .normal ∧ Q fr' h') fr h (fun fr1 h1 hq => by
        obtain ⟨hfresh, hc, hq⟩ := hq
        have hst : ∀ n, allStay fs (eval fs n) fr1 h1 s.c = true := fun n => allStay_le (g := goNo) (g' := eval fs n) (fun _ _ _ _ => RLe.no _) hc
        cases hl : s.l with
        | none =>
          rw [hl] at hq
          refine ⟨0, .normal, fr1, h1, ?_, rfl, hq⟩
          show (bif isFresh h h1 fr1 s.b then stageEnd fs (eval fs 0) s (drawRun fs (eval fs 0) l) fr1 h1 else .no) = _
          rw [hfresh]; unfold stageEnd; rw [hst, hl]; rfl
        | some o =>
          rw [hl] at hq
          rcases GP_ex (show GP _ _ _ from hq) with ⟨hw, hx⟩ | ⟨hw, hx⟩
          · obtain ⟨n, v, h2, e1, hx⟩ := X1_ok hx
            obtain ⟨m, fr', h', e2, hq⟩ := XD_ok l Q _ _ hx
            refine ⟨max n m, .normal, fr', h', ?_, rfl, hq⟩
            show (bif isFresh h h1 fr1 s.b then stageEnd fs (eval fs (max n m)) s (drawRun fs (eval fs (max n m)) l) fr1 h1 else .no) = _
            rw [hfresh]; unfold stageEnd; rw [hst, hl]
            show (oGet (wants fr1 o.g) Res.no fun r => bif r then (evop fs (eval fs (max n m)) fr1 h1 o.op).to fun v h => drawRun fs (eval fs (max n m)) l (putD fr1 o.dst v) h else drawRun fs (eval fs (max n m)) l (putD fr1 o.dst undefV) h1) = _
            rw [hw]
            show ((evop fs (eval fs (max n m)) fr1 h1 o.op).to fun v h => drawRun fs (eval fs (max n m)) l (putD fr1 o.dst v) h) = _
            rw [evop_le (eval_le fs (Nat.le_max_left n m)) fr1 h1 o.op v h2 e1]
            exact drawRun_le (eval_le fs (Nat.le_max_right n m)) l _ _ _ _ _ e2
          · obtain ⟨m, fr', h', e2, hq⟩ := XD_ok l Q _ _ hx
            refine ⟨m, .normal, fr', h', ?_, rfl, hq⟩
            show (bif isFresh h h1 fr1 s.b then stageEnd fs (eval fs m) s (drawRun fs (eval fs m) l) fr1 h1 else .no) = _
            rw [hfresh]; unfold stageEnd; rw [hst, hl]
            show (oGet (wants fr1 o.g) Res.no fun r => bif r then (evop fs (eval fs m) fr1 h1 o.op).to fun v h => drawRun fs (eval fs m) l (putD fr1 o.dst v) h else drawRun fs (eval fs m) l (putD fr1 o.dst undefV) h1) = _
            rw [hw]; exact e2)
      hx
    exact ⟨n, fr', h', e1, hq⟩
theorem W_ok {ro : Option K} : ∀ (c : EC) (Q : Ex → Fr → H → Prop) (fr : Fr) (h : H), W fs ro c Q fr h → RunsP fs ro c Q fr h
  | .skip, Q, fr, h, hw => ⟨_, _, _, .skip, hw⟩
  | .reg ops, Q, fr, h, hw => by
    obtain ⟨n, fr', h', e, hq⟩ := X_ok ops _ fr h hw
    exact ⟨_, _, _, .reg e, hq⟩
  | .draw st, Q, fr, h, hw => by
    obtain ⟨n, fr', h', e, hq⟩ := XD_ok st _ fr h hw
    exact ⟨_, _, _, ⟨n + 1, e⟩, hq⟩
  | .seq a b, Q, fr, h, hw => by
    obtain ⟨e, fr1, h1, r1, q1⟩ := W_ok a _ fr h hw
    cases e with
    | normal =>
      obtain ⟨e, fr2, h2, r2, q2⟩ := W_ok b _ fr1 h1 q1
      exact ⟨_, _, _, .seq r1 r2, q2⟩
    | exit i => exact ⟨_, _, _, .seq_out r1 (by simp), q1⟩
    | ret => exact ⟨_, _, _, .seq_out r1 (by simp), q1⟩
  | .cond x a b, Q, fr, h, hw => by
    have hw : condP (ev fr x) (W fs ro a Q fr h) (W fs ro b Q fr h) := hw
    unfold condP at hw
    split at hw
    · rename_i r hr
      cases r with
      | true =>
        obtain ⟨e, fr1, h1, r1, q1⟩ := W_ok a _ fr h (hw.1 rfl)
        exact ⟨_, _, _, .cond (r := true) hr r1, q1⟩
      | false =>
        obtain ⟨e, fr1, h1, r1, q1⟩ := W_ok b _ fr h (hw.2 rfl)
        exact ⟨_, _, _, .cond (r := false) hr r1, q1⟩
    · exact hw.elim
  | .block id c, Q, fr, h, hw => by
    obtain ⟨e, fr1, h1, r1, q1⟩ := W_ok c _ fr h hw
    cases e with
    | normal => exact ⟨_, _, _, .block r1 (.inr ⟨by simp, rfl⟩), q1⟩
    | ret => exact ⟨_, _, _, .block r1 (.inr ⟨by simp, rfl⟩), q1⟩
    | exit j =>
      by_cases hj : j = id
      · exact ⟨_, _, _, .block r1 (.inl ⟨by rw [hj], rfl⟩), q1.1 hj⟩
      · exact ⟨_, _, _, .block r1 (.inr ⟨by simpa using hj, rfl⟩), q1.2 hj⟩
  | .scope c, Q, fr, h, hw => by
    obtain ⟨e, fr1, h1, ⟨n, r1⟩, q1⟩ := W_ok c _ fr h hw
    exact ⟨_, _, _, ⟨n + 1, r1⟩, q1⟩
  | .loop c, Q, fr, h, hw => hw
  | .rangeF f ps a c, Q, fr, h, hw => hw
  | .exit id, Q, fr, h, hw => ⟨_, _, _, .exit, hw⟩
  | .ret, Q, fr, h, hw => ⟨_, _, _, .ret, hw⟩
  | .no, Q, fr, h, hw => hw.elim
def loopK {σ : Type} (I : σ → Fr → H → Prop) (μ : σ → Nat) (s : σ) (Q : Ex → Fr → H → Prop) : Ex → Fr → H → Prop := fun e fr h => match e with | .normal => ∃ s', μ s' < μ s ∧ I s' fr h | e => Q e fr h
theorem W_loop {σ : Type} {ro : Option K} {c : EC} {Q : Ex → Fr → H → Prop} (I : σ → Fr → H → Prop) (μ : σ → Nat) (hstep : ∀ s fr h, I s fr h → W fs ro c (loopK I μ s Q) fr h) (s : σ) {fr : Fr} {h : H} (hi : I s fr h) : W fs ro (.loop c) Q fr h := by
  suffices ∀ j s fr h, μ s ≤ j → I s fr h → RunsP fs ro (.loop c) Q fr h from this _ s fr h (Nat.le_refl _) hi
  intro j
  induction j with
  | zero =>
    intro s fr h hj hi
    obtain ⟨e, fr1, h1, r1, q1⟩ := W_ok _ _ _ _ (hstep s fr h hi)
    cases e with
    | normal => obtain ⟨s', hs, _⟩ := q1; omega
    | exit i => exact ⟨_, _, _, .loop_out r1 (by simp), q1⟩
    | ret => exact ⟨_, _, _, .loop_out r1 (by simp), q1⟩
  | succ j ih =>
    intro s fr h hj hi
    obtain ⟨e, fr1, h1, r1, q1⟩ := W_ok _ _ _ _ (hstep s fr h hi)
    cases e with
    | normal =>
      obtain ⟨s', hs, hi'⟩ := q1
      obtain ⟨e, fr2, h2, r2, q2⟩ := ih s' fr1 h1 (by omega) hi'
      exact ⟨_, _, _, .loop r1 r2, q2⟩
    | exit i => exact ⟨_, _, _, .loop_out r1 (by simp), q1⟩
    | ret => exact ⟨_, _, _, .loop_out r1 (by simp), q1⟩
def Ret (fs : T EF) (ef : EF) (args : List V) (h : H) (P : V → H → Prop) : Prop := ∃ n v h', callF (eval fs n) ef args h = .ok v h' ∧ P v h'
def retK (ef : EF) (P : V → H → Prop) : Ex → Fr → H → Prop := fun e fr h => match e with | .exit _ => False | _ => ∃ vs, readRs fr h ef.rs = some vs ∧ P (retV vs) h
theorem ret_of {ef : EF} {args : List V} {h : H} {P : V → H → Prop} (hn : Nat.ble (lenL args) ef.nt = true) (hw : W fs none ef.body (retK ef P) (frame .e args .nil) h) : Ret fs ef args h P := by
  obtain ⟨e, fr', h', ⟨n, hr⟩, q⟩ := W_ok _ _ _ _ hw
  have go : ∀ e, (e = .normal ∨ e = .ret) → eval fs n none ef.body (frame .e args .nil) h = .ok e fr' h' → (∃ vs, readRs fr' h' ef.rs = some vs ∧ P (retV vs) h') → Ret fs ef args h P := by
    rintro e he hr ⟨vs, hv, hp⟩
    refine ⟨n, retV vs, h', ?_, hp⟩
    unfold callF
    rw [hn, hr]
    show leave ef e fr' h' = _
    rcases he with rfl | rfl <;> (unfold leave; rw [hv]; rfl)
  cases e with
  | normal => exact go _ (.inl rfl) hr q
  | ret => exact go _ (.inr rfl) hr q
  | exit i => exact q.elim
theorem callP_of {k : K} {ef : EF} {args caps : List V} {h : H} {P : V → H → Prop} (hf : fs.get k = some ef) (hn : ef.nv = none) (hr : Ret fs ef (cat args caps) h P) : CallP fs (.fn k caps) args h P := by
  obtain ⟨n, v, h', e, hp⟩ := hr
  refine ⟨n, v, h', ?_, hp⟩
  show (oGet (fs.get k) RV.no fun ef => callE (eval fs n) ef (cat args caps) h) = _
  rw [hf]
  show oGet ef.nv (callF (eval fs n) ef (cat args caps) h) _ = _
  rw [hn]; exact e
theorem callP_0 {k : K} {ef : EF} {args : List V} {h : H} {P : V → H → Prop} (hf : fs.get k = some ef) (hn : ef.nv = none) (hr : Ret fs ef args h P) : CallP fs (.fn k []) args h P :=
  callP_of hf hn (by rw [cat_eq, List.append_nil]; exact hr)
theorem CallP.mono {f : V} {args : List V} {h : H} {P Q : V → H → Prop} (hc : CallP fs f args h P) (hpq : ∀ v h', P v h' → Q v h') : CallP fs f args h Q := by
  obtain ⟨n, v, h', e, hp⟩ := hc
  exact ⟨n, v, h', e, hpq _ _ hp⟩
end
end Go.Ev
namespace Go.Ev
open Go Go.RowKit

structure CRow where
  args : K → List V
  cells : List V
  res : List V
  out : K → V
section
variable {Y : Rig} {fs : T EF} {k : K} {ef : EF} {n : Nat} {r : CRow} {id0 : K}
end
end Go.Ev
namespace Go.Ev
open Go Go.RowKit
section
variable {fs : T EF} {ro : Option K} {Q : Ex → Fr → H → Prop} {R : Fr → H → Prop} {fr : Fr} {h h' : H} {d : Option K} {l : List EOper} {x y z : EO} {v : V} {f : V → H → Prop} {P Q' : Prop}
/-! Code -/
theorem w_skip : W fs ro .skip Q fr h = Q .normal fr h := of_eq_true (eq_self _)
theorem w_reg {ops : List EOper} : W fs ro (.reg ops) Q fr h = X fs ops (Q .normal) fr h := of_eq_true (eq_self _)
theorem w_draw {st : List Stage} : W fs ro (.draw st) Q fr h = XD fs st (Q .normal) fr h := of_eq_true (eq_self _)
theorem w_seq {a b : EC} : W fs ro (.seq a b) Q fr h = W fs ro a (seqK (W fs ro b) Q) fr h := of_eq_true (eq_self _)
def ckB (v : V) : Prop := match v with | .b _ => True | _ => False
def cbB (v : V) : Bool := match v with | .b r => r | _ => false
theorem ckB_b {b : Bool} : ckB (.b b) = True := of_eq_true (eq_self _)
theorem cbB_b {b : Bool} : cbB (.b b) = b := of_eq_true (eq_self _)
theorem w_cond {a b : EC} : W fs ro (.cond x a b) Q fr h = (ckB (ev fr x) ∧ if cbB (ev fr x) = true then W fs ro a Q fr h else W fs ro b Q fr h) := by
  show condP (ev fr x) (W fs ro a Q fr h) (W fs ro b Q fr h) = _
  generalize ev fr x = v
  cases v <;> simp [condP, ckB, cbB]
  rename_i r
  cases r <;> simp
theorem w_block {id : Nat} {c : EC} : W fs ro (.block id c) Q fr h = W fs ro c (atK id Q) fr h := of_eq_true (eq_self _)
theorem w_exit {id : Nat} : W fs ro (.exit id) Q fr h = Q (.exit id) fr h := of_eq_true (eq_self _)
theorem w_ret : W fs ro .ret Q fr h = Q .ret fr h := of_eq_true (eq_self _)
theorem seqK_n {A : (Ex → Fr → H → Prop) → Fr → H → Prop} : seqK A Q .normal fr h = A Q fr h := of_eq_true (eq_self _)
theorem seqK_e {A : (Ex → Fr → H → Prop) → Fr → H → Prop} {i : Nat} : seqK A Q (.exit i) fr h = Q (.exit i) fr h := of_eq_true (eq_self _)
theorem seqK_r {A : (Ex → Fr → H → Prop) → Fr → H → Prop} : seqK A Q .ret fr h = Q .ret fr h := of_eq_true (eq_self _)
theorem atK_n {id : Nat} : atK id Q .normal fr h = Q .normal fr h := of_eq_true (eq_self _)
theorem atK_r {id : Nat} : atK id Q .ret fr h = Q .ret fr h := of_eq_true (eq_self _)
theorem atK_e {id j : Nat} : atK id Q (.exit j) fr h = if j = id then Q .normal fr h else Q (.exit j) fr h := by
  show ((j = id → Q .normal fr h) ∧ (j ≠ id → Q (.exit j) fr h)) = _
  by_cases e : j = id <;> simp [e]
theorem loopK_n {σ : Type} {I : σ → Fr → H → Prop} {μ : σ → Nat} {s : σ} : loopK I μ s Q .normal fr h = ∃ s', μ s' < μ s ∧ I s' fr h := of_eq_true (eq_self _)
theorem loopK_e {σ : Type} {I : σ → Fr → H → Prop} {μ : σ → Nat} {s : σ} {i : Nat} : loopK I μ s Q (.exit i) fr h = Q (.exit i) fr h := of_eq_true (eq_self _)
theorem loopK_r {σ : Type} {I : σ → Fr → H → Prop} {μ : σ → Nat} {s : σ} : loopK I μ s Q .ret fr h = Q .ret fr h := of_eq_true (eq_self _)
theorem retK_r {ef : EF} : retK ef f .ret fr h = ∃ vs, readRs fr h ef.rs = some vs ∧ f (retV vs) h := of_eq_true (eq_self _)
/-! Operations -/
theorem x_nil : X fs [] R fr h = R fr h := of_eq_true (eq_self _)
theorem gp_t : GP (some true) P Q' = P := by simp [GP]
theorem x_g0 {k : K} {b : Bool} {op : EOp} : X fs (⟨d, some (k, b), op⟩ :: l) R fr h = GP (guardV (getV (fr.get k)) b) (X fs (⟨d, none, op⟩ :: l) R fr h) (X fs l R (putD fr d undefV) h) := by
  show GP (oGet (some (k, b)) (some true) fun p => guardV (getV (fr.get p.1)) p.2) _ _ = _
  show _ = GP (guardV (getV (fr.get k)) b) (GP (some true) _ _) _
  rw [gp_t]; rfl
def okG (v : V) : Prop := match v with | .b _ => True | .tup _ => True | _ => False
def asG (v : V) (w : Bool) : Bool := match v with | .b r => (if w then r else !r) | _ => false
theorem okG_b {b : Bool} : okG (.b b) = True := of_eq_true (eq_self _)
theorem okG_u : okG undefV = True := of_eq_true (eq_self _)
theorem asG_t {b : Bool} : asG (.b b) true = b := of_eq_true (eq_self _)
theorem asG_f {b : Bool} : asG (.b b) false = !b := of_eq_true (eq_self _)
theorem asG_u {w : Bool} : asG undefV w = false := of_eq_true (eq_self _)
theorem gp_as {v : V} {w : Bool} : GP (guardV v w) P Q' = (okG v ∧ if asG v w = true then P else Q') := by
  cases v <;> simp [GP, guardV, okG, asG]
  rename_i r
  cases r <;> cases w <;> simp
theorem x_g {k : K} {b : Bool} {op : EOp} : X fs (⟨d, some (k, b), op⟩ :: l) R fr h = (okG (getV (fr.get k)) ∧ if asG (getV (fr.get k)) b = true then X fs (⟨d, none, op⟩ :: l) R fr h else X fs l R (putD fr d undefV) h) := by
  rw [x_g0, gp_as]
theorem x_mv : X fs (⟨d, none, .mv x⟩ :: l) R fr h = X fs l R (putD fr d (ev fr x)) h := by show GP (some true) _ _ = _; rw [gp_t]; rfl
theorem x_as : X fs (⟨d, none, .as x⟩ :: l) R fr h = X fs l R (putD fr d (ev fr x)) h := by show GP (some true) _ _ = _; rw [gp_t]; rfl
theorem x_pick : X fs (⟨d, none, .pick x y z⟩ :: l) R fr h = rvP (pickV (ev fr x) (ev fr y) (ev fr z) h) (kX fs l R fr d) := by show GP (some true) _ _ = _; rw [gp_t]; rfl
theorem x_alloc {n : Nat} {zs : List V} : X fs (⟨d, none, .alloc n zs⟩ :: l) R fr h = X fs l R (putD fr d (.p h.nx 0)) (h.new (.cells n zs)) := by show GP (some true) _ _ = _; rw [gp_t]; rfl
theorem x_box {n : Nat} : X fs (⟨d, none, .box n x⟩ :: l) R fr h = rvP (oGet (cellsN n (ev fr x)) .no fun cs => .ok (.p h.nx 0) (h.new (.cells n cs))) (kX fs l R fr d) := by show GP (some true) _ _ = _; rw [gp_t]; rfl
theorem x_build {zs : List V} {ps : List (Nat × Nat × EO)} : X fs (⟨d, none, .build zs ps⟩ :: l) R fr h = rvP (oGet (fillE fr zs ps) .no fun cs => .ok (.agg cs) h) (kX fs l R fr d) := by show GP (some true) _ _ = _; rw [gp_t]; rfl
theorem x_bslice {n sz : Nat} {zs : List V} {ps : List (Nat × Nat × EO)} : X fs (⟨d, none, .bslice n sz zs ps⟩ :: l) R fr h = rvP (oGet (fillE fr zs ps) .no fun cs => .ok (.sl h.nx 0 n sz) (h.new (.cells (n * sz) cs))) (kX fs l R fr d) := by show GP (some true) _ _ = _; rw [gp_t]; rfl
theorem x_ld : X fs (⟨d, none, .ld x⟩ :: l) R fr h = rvP (loadV h (ev fr x) one?) (kX fs l R fr d) := by show GP (some true) _ _ = _; rw [gp_t]; rfl
theorem x_ldn {n : Nat} : X fs (⟨d, none, .ldn n x⟩ :: l) R fr h = rvP (loadV h (ev fr x) (many? n)) (kX fs l R fr d) := by show GP (some true) _ _ = _; rw [gp_t]; rfl
theorem x_st {n : Nat} : X fs (⟨d, none, .st n x y⟩ :: l) R fr h = rvP (storeV h n (ev fr x) (ev fr y)) (kX fs l R fr d) := by show GP (some true) _ _ = _; rw [gp_t]; rfl
theorem x_bin {op : BinOp} : X fs (⟨d, none, .bin op x y⟩ :: l) R fr h = rvP (okv (binV op (ev fr x) (ev fr y)) h) (kX fs l R fr d) := by show GP (some true) _ _ = _; rw [gp_t]; rfl
theorem x_eqk {kd : KD} {b : Bool} : X fs (⟨d, none, .eqk kd b x y⟩ :: l) R fr h = rvP (okv (oGet (keyEq kd (ev fr x) (ev fr y)) none fun r => some (.b (bif b then !r else r))) h) (kX fs l R fr d) := by show GP (some true) _ _ = _; rw [gp_t]; rfl
theorem x_not : X fs (⟨d, none, .not x⟩ :: l) R fr h = rvP ((ev fr x).onB .no fun b => .ok (.b (!b)) h) (kX fs l R fr d) := by show GP (some true) _ _ = _; rw [gp_t]; rfl
theorem x_neg : X fs (⟨d, none, .neg x⟩ :: l) R fr h = rvP ((ev fr x).onI .no fun k n => .ok (.i k (fw k (isub 0 n))) h) (kX fs l R fr d) := by show GP (some true) _ _ = _; rw [gp_t]; rfl
theorem x_conv {k : IntKind} : X fs (⟨d, none, .conv k x⟩ :: l) R fr h = rvP ((ev fr x).onI .no fun _ n => .ok (.i k (fw k n)) h) (kX fs l R fr d) := by show GP (some true) _ _ = _; rw [gp_t]; rfl
theorem x_mks {sz : Nat} {zs : List V} : X fs (⟨d, none, .mkslice sz zs x⟩ :: l) R fr h = rvP (mksV sz zs h (ev fr x)) (kX fs l R fr d) := by show GP (some true) _ _ = _; rw [gp_t]; rfl
theorem x_slice {sz : Nat} {lo hi mx : Option EO} : X fs (⟨d, none, .slice sz x lo hi mx⟩ :: l) R fr h = rvP (sliceV fr sz (ev fr x) lo hi mx h) (kX fs l R fr d) := by show GP (some true) _ _ = _; rw [gp_t]; rfl
theorem x_fadr {o : Nat} : X fs (⟨d, none, .fadr o x⟩ :: l) R fr h = rvP ((ev fr x).onP fun id p => .ok (.p id (p + o)) h) (kX fs l R fr d) := by show GP (some true) _ _ = _; rw [gp_t]; rfl
theorem x_iadr {n sz : Nat} : X fs (⟨d, none, .iadr n sz x y⟩ :: l) R fr h = rvP ((ev fr x).onP fun id off => idxV (ev fr y) n fun m => .ok (.p id (off + m * sz)) h) (kX fs l R fr d) := by show GP (some true) _ _ = _; rw [gp_t]; rfl
noncomputable def iadsV (sz : Nat) (x y : V) (h : H) : RV := x.onSl .no .no fun id off len sz' => bif Nat.beq sz sz' then idxV y len fun n => .ok (.p id (off + n * sz)) h else .no
theorem x_iads {sz : Nat} : X fs (⟨d, none, .iads sz x y⟩ :: l) R fr h = rvP (iadsV sz (ev fr x) (ev fr y) h) (kX fs l R fr d) := by show GP (some true) _ _ = _; rw [gp_t]; rfl
theorem x_ix {n sz : Nat} {a : Bool} : X fs (⟨d, none, .ix n sz a x y⟩ :: l) R fr h = rvP (ixV n sz a (ev fr x) (ev fr y) h) (kX fs l R fr d) := by show GP (some true) _ _ = _; rw [gp_t]; rfl
theorem x_ext {i : Nat} : X fs (⟨d, none, .ext x i⟩ :: l) R fr h = rvP ((ev fr x).onTup fun l => okv (nth l i) h) (kX fs l R fr d) := by show GP (some true) _ _ = _; rw [gp_t]; rfl
theorem x_call {args : List EO} : X fs (⟨d, none, .call x args⟩ :: l) R fr h = CallP fs (ev fr x) (evs fr args) h (kX fs l R fr d) := by show GP (some true) _ _ = _; rw [gp_t]; rfl
theorem x_len : X fs (⟨d, none, .len x⟩ :: l) R fr h = rvP (lenV (ev fr x) h) (kX fs l R fr d) := by show GP (some true) _ _ = _; rw [gp_t]; rfl
theorem x_slcX {nn sz : Nat} {lo hi mx : Option EO} : X fs (⟨d, none, .slcX nn sz x lo hi mx⟩ :: l) R fr h = rvP (slcXV fr nn sz (ev fr x) lo hi mx h) (kX fs l R fr d) := by show GP (some true) _ _ = _; rw [gp_t]; rfl
theorem x_app {sz : Nat} : X fs (⟨d, none, .app sz x y⟩ :: l) R fr h = rvP (appV sz h (ev fr x) (ev fr y)) (kX fs l R fr d) := by show GP (some true) _ _ = _; rw [gp_t]; rfl
theorem x_min : X fs (⟨d, none, .min x y⟩ :: l) R fr h = rvP (minV (ev fr x) (ev fr y) h) (kX fs l R fr d) := by show GP (some true) _ _ = _; rw [gp_t]; rfl
theorem x_cpy {sz : Nat} : X fs (⟨d, none, .cpy sz x y⟩ :: l) R fr h = rvP (cpyV sz h (ev fr x) (ev fr y)) (kX fs l R fr d) := by show GP (some true) _ _ = _; rw [gp_t]; rfl
theorem x_mx3 : X fs (⟨d, none, .mx3 x y z⟩ :: l) R fr h = rvP (mx3V (ev fr x) (ev fr y) (ev fr z) h) (kX fs l R fr d) := by show GP (some true) _ _ = _; rw [gp_t]; rfl
theorem x_max : X fs (⟨d, none, .max x y⟩ :: l) R fr h = rvP (maxV (ev fr x) (ev fr y) h) (kX fs l R fr d) := by show GP (some true) _ _ = _; rw [gp_t]; rfl
theorem kx : kX fs l R fr d v h = X fs l R (putD fr d v) h := of_eq_true (eq_self _)
theorem rvP_ok : rvP (.ok v h) f = f v h := of_eq_true (eq_self _)
theorem okv_some : okv (some v) h = .ok v h := of_eq_true (eq_self _)
/-! Values -/
theorem ev_t {k : K} : ev fr (.t k) = getV (fr.get k) := of_eq_true (eq_self _)
theorem ev_c : ev fr (.c v) = v := of_eq_true (eq_self _)
theorem evs_nil : evs fr [] = [] := of_eq_true (eq_self _)
theorem evs_cons {as : List EO} : evs fr (x :: as) = ev fr x :: evs fr as := of_eq_true (eq_self _)
theorem getV_some : getV (some v) = v := of_eq_true (eq_self _)
theorem putD_some {k : K} : putD fr (some k) v = fr.set k v := of_eq_true (eq_self _)
theorem putD_none : putD fr none v = fr := of_eq_true (eq_self _)
variable {k k' : IntKind} {a b : Int} {r s : Bool} {id id' : K} {off n m sz : Nat}
theorem bin_add : binV .add (.i k a) (.i k b) = some (.i k (fw k (a + b))) := by cases k <;> (show some (V.i _ (fw _ (iadd a b))) = _; rw [iadd_eq])
theorem bin_sub : binV .sub (.i k a) (.i k b) = some (.i k (fw k (a - b))) := by cases k <;> (show some (V.i _ (fw _ (isub a b))) = _; rw [isub_eq])
theorem bin_mul : binV .mul (.i k a) (.i k b) = some (.i k (fw k (a * b))) := by cases k <;> (show some (V.i _ (fw _ (imul a b))) = _; rw [imul_eq])
theorem bin_eql : binV .eql (.i k a) (.i k b) = some (.b (decide (a = b))) := by
  have : binV .eql (.i k a) (.i k b) = some (.b (ieq a b)) := by cases k <;> rfl
  rw [this, ieq_eq]; congr 2
theorem bin_neq : binV .neq (.i k a) (.i k b) = some (.b (decide (a ≠ b))) := by
  have : binV .neq (.i k a) (.i k b) = some (.b (!ieq a b)) := by cases k <;> rfl
  rw [this, ieq_eq]; by_cases h : a = b <;> simp [h]
theorem bin_lss : binV .lss (.i k a) (.i k b) = some (.b (decide (a < b))) := by
  have : binV .lss (.i k a) (.i k b) = some (.b (ilt a b)) := by cases k <;> rfl
  rw [this, ilt_eq]
theorem bin_leq : binV .leq (.i k a) (.i k b) = some (.b (decide (a ≤ b))) := by
  have : binV .leq (.i k a) (.i k b) = some (.b (ile a b)) := by cases k <;> rfl
  rw [this, ile_eq]
theorem bin_gtr : binV .gtr (.i k a) (.i k b) = some (.b (decide (b < a))) := by
  have : binV .gtr (.i k a) (.i k b) = some (.b (ilt b a)) := by cases k <;> rfl
  rw [this, ilt_eq]
theorem bin_geq : binV .geq (.i k a) (.i k b) = some (.b (decide (b ≤ a))) := by
  have : binV .geq (.i k a) (.i k b) = some (.b (ile b a)) := by cases k <;> rfl
  rw [this, ile_eq]
theorem bin_rem (hb : b ≠ 0) : binV .rem (.i k a) (.i k b) = some (.i k (a.tmod b)) := by
  have : binV .rem (.i k a) (.i k b) = irem k a b := by cases k <;> rfl
  rw [this]; unfold irem; rw [ieq_eq, show (b == 0) = false by simpa using hb]; rfl
theorem bin_quo (hb : b ≠ 0) : binV .quo (.i k a) (.i k b) = some (.i k (fw k (a.tdiv b))) := by
  have : binV .quo (.i k a) (.i k b) = iquo k a b := by cases k <;> rfl
  rw [this]; unfold iquo; rw [ieq_eq, show (b == 0) = false by simpa using hb]; rfl
theorem fw_in (h1 : -(kmin k : Int) ≤ a) (h2 : a ≤ kmax k) : fw k a = a := by
  cases a with
  | ofNat m =>
    show (bif Nat.ble m (kmax k) then Int.ofNat m else k.wrap (.ofNat m)) = _
    rw [Nat.ble_eq_true_of_le (show m ≤ kmax k by have : Int.ofNat m = (m : Int) := rfl; omega)]; rfl
  | negSucc m =>
    show (bif Nat.blt m (kmin k) then Int.negSucc m else k.wrap (.negSucc m)) = _
    have : Nat.blt m (kmin k) = true := Nat.ble_eq_true_of_le (by have : Int.negSucc m = -((m : Int) + 1) := rfl; show m + 1 ≤ kmin k; omega)
    rw [this]; rfl
theorem fw64 (h1 : -9223372036854775808 ≤ a) (h2 : a ≤ 9223372036854775807) : fw .i64 a = a := fw_in (k := .i64) h1 h2
theorem fwu64 (h1 : 0 ≤ a) (h2 : a ≤ 18446744073709551615) : fw .u64 a = a := fw_in (k := .u64) (by simpa [kmin] using h1) h2
theorem pick_b {u : V} : pickV (.b r) v u h = .ok (if r = true then v else u) h := by cases r <;> rfl
theorem onB_b {α : Type} {dd : α} {ff : Bool → α} : (V.b r).onB dd ff = ff r := of_eq_true (eq_self _)
theorem onI_i {α : Type} {dd : α} {ff : IntKind → Int → α} : (V.i k a).onI dd ff = ff k a := of_eq_true (eq_self _)
theorem onTup_t {vs : List V} {ff : List V → RV} : (V.tup vs).onTup ff = ff vs := of_eq_true (eq_self _)
theorem onP_p {ff : K → Nat → RV} : (V.p id off).onP ff = ff id off := of_eq_true (eq_self _)
theorem oGet_s {α β : Type} {u : α} {dd : β} {ff : α → β} : oGet (some u) dd ff = ff u := of_eq_true (eq_self _)
theorem nth0 {α : Type} {u : α} {us : List α} : nth (u :: us) 0 = some u := of_eq_true (eq_self _)
theorem nth1 {α : Type} {u u1 : α} {us : List α} : nth (u :: u1 :: us) 1 = some u1 := of_eq_true (eq_self _)
theorem idx_n {ff : Nat → RV} (hm : m < n) : idxV (.i k (m : Int)) n ff = ff m := by
  show (bif Nat.blt m n then ff m else RV.no) = _
  rw [show Nat.blt m n = true from Nat.ble_eq_true_of_le hm]; rfl
theorem iads_sl {y : V} : iadsV sz (.sl id off n sz) y h = idxV y n fun m => .ok (.p id (off + m * sz)) h := by
  show (bif Nat.beq sz sz then _ else _) = _
  rw [Nat.beq_refl]; rfl
theorem load_p {cs : List V} (hb : h.get id = .cells m cs) (hc : nth cs off = some v) : loadV h (.p id off) one? = .ok v h := by
  show okv ((h.get id).onC none fun n cs => one? cs n off) h = _
  rw [hb]; show okv (nth cs off) h = _; rw [hc]; rfl
theorem loadn_p {cs : List V} (hb : h.get id = .cells m cs) (hm : off + n ≤ m) : loadV h (.p id off) (many? n) = .ok (.agg (takeN n (dropN off cs))) h := by
  show okv ((h.get id).onC none fun m cs => many? n cs m off) h = _
  rw [hb]; show okv (bif Nat.ble (off + n) m then some (.agg (takeN n (dropN off cs))) else none) h = _
  rw [Nat.ble_eq_true_of_le hm]; rfl
theorem store_p {cs xs : List V} (hb : h.get id = .cells m cs) (hx : cellsN n v = some xs) (hm : off + n ≤ m) : storeV h n (.p id off) v = .ok undefV (h.put id (.cells m (setMany cs off xs))) := by
  show (h.get id).onW RV.no (fun m cs => oGet (cellsN n v) RV.no fun xs => bif Nat.ble (off + n) m then RV.ok undefV (h.put id (.cells m (setMany cs off xs))) else RV.no) = _
  rw [hb, hx]
  show (bif Nat.ble (off + n) m then RV.ok undefV (h.put id (.cells m (setMany cs off xs))) else RV.no) = _
  rw [Nat.ble_eq_true_of_le hm]; rfl
theorem min_ii : minV (.i k a) (.i k' b) h = .ok (.i k (min a b)) h := by
  show RV.ok (V.i k (bif ilt b a then b else a)) h = _
  rw [ilt_eq]; by_cases e : b < a <;> simp [e, Int.min_def] <;> omega
theorem max_ii : maxV (.i k a) (.i k' b) h = .ok (.i k (max a b)) h := by
  show RV.ok (V.i k (bif ilt a b then b else a)) h = _
  rw [ilt_eq]; by_cases e : a < b <;> simp [e, Int.max_def] <;> omega
theorem readRs_nil : readRs fr h [] = some [] := of_eq_true (eq_self _)
theorem readRs_t {kk : K} {rs : List ER} : readRs fr h (.tmp kk :: rs) = oGet (readRs fr h rs) none fun l => some (getV (fr.get kk) :: l) := of_eq_true (eq_self _)
theorem readRs_n {kk : K} {n : Nat} {rs : List ER} : readRs fr h (.celln kk n :: rs) = oGet (readP h (getV (fr.get kk)) (many? n)) none fun v => oGet (readRs fr h rs) none fun l => some (v :: l) := of_eq_true (eq_self _)
theorem retV_1 : retV [v] = v := of_eq_true (eq_self _)
theorem retV_2 {v1 v2 : V} {vs : List V} : retV (v1 :: v2 :: vs) = .tup (v1 :: v2 :: vs) := of_eq_true (eq_self _)
theorem getK_set {kk kk' : Nat} {t : Fr} : T.get (K.ofNat kk) (T.set (K.ofNat kk') v t) = if kk = kk' then some v else T.get (K.ofNat kk) t := by
  rw [T.get_set]
  by_cases e : kk = kk'
  · rw [if_pos e, if_pos (by rw [e])]
  · rw [if_neg e, if_neg (fun h => e (by rw [← K.ofNat_nat kk, h, K.ofNat_nat]))]
theorem frame_1 {v1 : V} : frame .e [v1] .nil = T.set (K.ofNat 0) v1 .nil := of_eq_true (eq_self _)
theorem frame_2 {v1 v2 : V} : frame .e [v1, v2] .nil = T.set (K.ofNat 1) v2 (T.set (K.ofNat 0) v1 .nil) := of_eq_true (eq_self _)
theorem cells1_i : cellsN 1 (.i k a) = some [.i k a] := of_eq_true (eq_self _)
theorem cells1_sl : cellsN 1 (.sl id off n sz) = some [.sl id off n sz] := of_eq_true (eq_self _)
end
end Go.Ev
namespace Go.Ev
open Go Go.RowKit

/-! ### Memory that grows -/
def HC (h : H) : Prop := ∀ id : K, h.nx.nat ≤ id.nat → h.get id = .dead
structure Grow (b : Nat) (h h' : H) : Prop where
  nx : h.nx.nat ≤ h'.nx.nat
  old : ∀ id : K, id.nat < b → h'.get id = h.get id
  hc : HC h → HC h'
theorem Grow.refl (b : Nat) (h : H) : Grow b h h := ⟨Nat.le_refl _, fun _ _ => rfl, fun h => h⟩
theorem Grow.trans {b : Nat} {h h1 h2 : H} (k : Grow b h h1) (l : Grow b h1 h2) : Grow b h h2 := ⟨Nat.le_trans k.nx l.nx, fun id hi => (l.old id hi).trans (k.old id hi), fun hc => l.hc (k.hc hc)⟩
theorem Grow.low {b c : Nat} {h h1 : H} (hb : b ≤ c) (k : Grow c h h1) : Grow b h h1 := ⟨k.nx, fun id hi => k.old id (Nat.lt_of_lt_of_le hi hb), k.hc⟩
theorem nx_new (h : H) (x : Blk) : (h.new x).nx.nat = h.nx.nat + 1 := K.succ_nat _
theorem nx_put (h : H) (k : K) (x : Blk) : (h.put k x).nx = h.nx := rfl
theorem Grow.new {b : Nat} {h : H} (hb : b ≤ h.nx.nat) (x : Blk) : Grow b h (h.new x) := by
  refine ⟨by rw [nx_new]; omega, fun id hi => ?_, fun hc id hi => ?_⟩
  · rw [H.get_new, if_neg (fun e => by rw [e] at hi; omega)]
  · rw [nx_new] at hi
    rw [H.get_new, if_neg (fun e => by rw [e] at hi; omega)]
    exact hc id (by omega)
theorem Grow.put {b : Nat} {h : H} {k : K} (hb : b ≤ k.nat) (hk : k.nat < h.nx.nat) (x : Blk) : Grow b h (h.put k x) := by
  refine ⟨Nat.le_refl _, fun id hi => ?_, fun hc id hi => ?_⟩
  · rw [H.get_put, if_neg (fun e => by rw [e] at hi; omega)]
  · rw [nx_put] at hi
    rw [H.get_put, if_neg (fun e => by rw [e] at hi; omega)]
    exact hc id hi
theorem HC.lt {h : H} (hc : HC h) {id : K} (hd : h.get id ≠ .dead) : id.nat < h.nx.nat := by
  rcases Nat.lt_or_ge id.nat h.nx.nat with e | e
  · exact e
  · exact absurd (hc id e) hd
theorem HC.cells {h : H} (hc : HC h) {id : K} {m : Nat} {cs : List V} (hd : h.get id = .cells m cs) : id.nat < h.nx.nat := hc.lt (by rw [hd]; simp)
theorem HC.dead {h : H} (hc : HC h) : (h.get h.nx).isDead = true := by rw [hc h.nx (Nat.le_refl _)]; rfl
theorem get_new_same {h : H} {x : Blk} : (h.new x).get h.nx = x := by rw [H.get_new, if_pos rfl]
theorem get_new_old {h : H} {x : Blk} {id : K} (hi : id.nat < h.nx.nat) : (h.new x).get id = h.get id := by rw [H.get_new, if_neg (fun e => by rw [e] at hi; omega)]
theorem get_put_same {h : H} {x : Blk} {id : K} : (h.put id x).get id = x := by rw [H.get_put, if_pos rfl]
theorem get_put_other {h : H} {x : Blk} {id id' : K} (hi : id' ≠ id) : (h.put id x).get id' = h.get id' := by rw [H.get_put, if_neg hi]

/-! ### Slices -/
def Sl {α : Type} (e : α → V) (h : H) (v : V) (L : List α) : Prop := (v = .sn ∧ L = []) ∨ ∃ id off m cs, v = .sl id off L.length 1 ∧ h.get id = .cells m cs ∧ cs.length = m ∧ off + L.length ≤ m ∧ ∀ i (hi : i < L.length), cs[off + i]? = some (e L[i])
def Own (b : Nat) (v : V) : Prop := ∀ id off n sz, v = .sl id off n sz → b ≤ id.nat
def NotIn (id : K) (v : V) : Prop := ∀ off n sz, v ≠ .sl id off n sz
noncomputable def iE (n : Int) : V := .i .i64 n
section
variable {α : Type} {e : α → V} {h h' : H} {v u : V} {L M : List α} {b : Nat}
theorem Own.sn : Own b .sn := fun _ _ _ _ h => by cases h
theorem Own.low {c : Nat} (ho : Own c v) (hb : b ≤ c) : Own b v := fun id off n sz e => Nat.le_trans hb (ho id off n sz e)
theorem Own.notIn {id : K} (ho : Own b v) (hi : id.nat < b) : NotIn id v := fun off n sz e => by have := ho id off n sz e; omega
theorem Sl.len (hs : Sl e h v L) (h1 : H) : lenV v h1 = .ok (.i .i64 (L.length : Int)) h1 := by
  rcases hs with ⟨rfl, rfl⟩ | ⟨id, off, m, cs, rfl, _⟩ <;> rfl
theorem Sl.at (hs : Sl e h v L) (i : Nat) (hi : i < L.length) : ∃ p, (∀ k h1, iadsV 1 v (.i k (i : Int)) h1 = .ok p h1) ∧ loadV h p one? = .ok (e L[i]) h := by
  rcases hs with ⟨rfl, rfl⟩ | ⟨id, off, m, cs, rfl, hb, hl, hm, hx⟩
  · simp at hi
  · refine ⟨.p id (off + i * 1), fun k h1 => ?_, ?_⟩
    · rw [iads_sl, idx_n hi]
    · exact load_p hb (by rw [nth_eq, Nat.mul_one]; exact hx i hi)
theorem Sl.same (hs : Sl e h v L) (hg : ∀ id off n sz, v = .sl id off n sz → h'.get id = h.get id) : Sl e h' v L := by
  rcases hs with ⟨rfl, rfl⟩ | ⟨id, off, m, cs, rfl, hb, hl, hm, hx⟩
  · exact .inl ⟨rfl, rfl⟩
  · exact .inr ⟨id, off, m, cs, rfl, by rw [hg _ _ _ _ rfl]; exact hb, hl, hm, hx⟩
theorem Sl.lt (hs : Sl e h v L) (hc : HC h) : ∀ id off n sz, v = .sl id off n sz → id.nat < h.nx.nat := by
  rcases hs with ⟨rfl, rfl⟩ | ⟨id, off, m, cs, rfl, hb, hl, hm, hx⟩
  · exact fun _ _ _ _ h => by cases h
  · exact fun _ _ _ _ h => by cases h; exact hc.cells hb
theorem Sl.grow (hs : Sl e h v L) (hc : HC h) (hg : Grow h.nx.nat h h') : Sl e h' v L := hs.same fun id off n sz ev => hg.old id (hs.lt hc id off n sz ev)
theorem Sl.new (hs : Sl e h v L) (hc : HC h) (x : Blk) : Sl e (h.new x) v L := hs.grow hc (Grow.new (Nat.le_refl _) x)
theorem Sl.put (hs : Sl e h v L) {id : K} (hn : NotIn id v) (x : Blk) : Sl e (h.put id x) v L := hs.same fun id' off n sz ev => get_put_other (fun ee => hn off n sz (by rw [ev, ee]))
theorem of0 : Int.ofNat 0 = 0 := of_eq_true (eq_self _)
theorem of1 : Int.ofNat 1 = 1 := of_eq_true (eq_self _)
theorem of2 : Int.ofNat 2 = 2 := of_eq_true (eq_self _)
theorem of3 : Int.ofNat 3 = 3 := of_eq_true (eq_self _)
theorem of6 : Int.ofNat 6 = 6 := of_eq_true (eq_self _)
end
end Go.Ev
namespace Go.Ev
open Go Go.RowKit
section
variable {fs : T EF} {go : Go} {fr : Fr} {h h' : H} {id : K} {i : Nat} {cs : List V} {B : Nat → Bool}
end

/-! ### A round, and a loop over a function -/
section
variable {fs : T EF} {fr fr1 fr2 : Fr} {h h1 h2 h3 : H} {id : K} {ps : List K} {a c : EC} {v : V} {vs : List V} {e : Ex}
theorem Runs.range {ro : Option K} {f : EO} {k : K} {caps : List V} {u : V} {s : LS} {j : Option Ex} {ps' : List K} {a' c' : EC} {frl : Fr} (hro : roOk ro h = true) (hf : ev fr f = .fn k caps)
    (hcall : ∃ n, callV fs (eval fs n) (.fn k caps) [.yl h.nx] (h.new (.loop .ready none fr ps a c)) = .ok u h1) (hb : h1.get h.nx = .loop s j frl ps' a' c') (he : (s = .ready ∧ j = none ∧ e = .normal) ∨ (s = .done ∧ j = some e)) :
    Runs fs ro (.rangeF f ps a c) fr h e fr (h1.put h.nx .dead) := by
  obtain ⟨n, hc⟩ := hcall
  refine ⟨n + 1, ?_⟩
  show rangeL fs (eval fs n) ro (ev fr f) ps a c fr h = _
  rw [hf]
  unfold rangeL
  have : (roOk ro h && (V.fn k caps).isF) = true := by rw [hro]; rfl
  rw [this]
  show ((callV fs (eval fs n) (.fn k caps) [.yl h.nx] (h.new (.loop .ready none fr ps a c))).to fun _ h' => (h'.get h.nx).onL' fun s j => endL s j h.nx fr h') = _
  rw [hc]
  show (h1.get h.nx).onL' (fun s j => endL s j h.nx fr h1) = _
  rw [hb]
  rcases he with ⟨rfl, rfl, rfl⟩ | ⟨rfl, rfl⟩ <;> rfl
end

section
variable {fs : T EF} {go : Go} {fr : Fr} {h : H} {id idp : K} {cs : List V} {B : Nat → Bool} {x : EO} {off m n : Nat} {v : V} {k : K}
end
end Go.Ev
namespace Go.Ev
open Go Go.RowKit
section
variable {fs : T EF} {go : Go} {fr : Fr} {h h' : H} {id idp : K} {i : Nat} {S : Int}
end
end Go.Ev
namespace Go.Ev
open Go Go.RowKit
section
variable {fs : T EF}
section
variable {id : K} {fr fr1 : Fr} {ps : List K} {a c : EC} {I : H → Prop} {D : Ex → H → Prop} {h : H} {i : Nat}
end
structure Same1 (id : K) (h h' : H) : Prop where
  nx : h'.nx = h.nx
  old : ∀ id', id' ≠ id → h'.get id' = h.get id'
theorem Same1.put {id : K} {h h' : H} (s : Same1 id h h') (x : Blk) : Same1 id h (h'.put id x) := ⟨s.nx, fun id' hi => by rw [get_put_other hi]; exact s.old id' hi⟩
theorem Same1.grow {id : K} {h h' : H} {b : Nat} (s : Same1 id h h') (hb : b ≤ id.nat) (hi : id.nat < h.nx.nat) : Grow b h h' :=
  ⟨by rw [s.nx]; exact Nat.le_refl _, fun id' h1 => s.old id' (fun e => by rw [e] at h1; omega), fun hc id' h1 => by rw [s.nx] at h1; rw [s.old id' (fun e => by rw [e] at h1; omega)]; exact hc id' h1⟩
end
section
variable {α : Type} {e : α → V} {fr : Fr} {h : H} {x y : EO} {v : V} {L M : List α} {sz : Nat} {lo hi mx : Option EO}
/-! ### Parts of slices -/
noncomputable def bnd (o : Option V) (d : Nat) : Option Nat := oGet o (some d) fun v => v.onI none fun _ n => nonneg n
noncomputable def sliceB (sz : Nat) (x : V) (lo hi mx : Option V) (h : H) : RV := x.onSl .no
    (oGet (bnd lo 0) .no fun l => oGet (bnd hi 0) .no fun u => oGet (bnd mx 0) .no fun m => bif Nat.beq l 0 && Nat.beq u 0 && Nat.beq m 0 then .ok .sn h else .no)
    fun id off n sz' => bif Nat.beq sz sz' then (oGet (bnd lo 0) .no fun l => oGet (bnd hi n) .no fun u => oGet mx (cutV id off n sz h l u none) fun _ => oGet (bnd mx 0) .no fun m => cutV id off n sz h l u (some m)) else .no
theorem bound_eq (o : Option EO) (d : Nat) : bound fr o d = bnd (o.map (ev fr)) d := by cases o <;> rfl
theorem sliceV_eq : sliceV fr sz v lo hi mx h = sliceB sz v (lo.map (ev fr)) (hi.map (ev fr)) (mx.map (ev fr)) h := by
  unfold sliceV sliceB
  congr 1
  · rw [bound_eq, bound_eq, bound_eq]
  · funext id off n sz'
    congr 1
    rw [bound_eq]; congr 1; funext l; rw [bound_eq]; congr 1; funext u
    cases mx with
    | none => rfl
    | some m => rfl
/-! ### Arrays -/
def Ar (e : α → V) (h : H) (id : K) (L : List α) : Prop := h.get id = .cells L.length (L.map e)
theorem Ar.same {h' : H} {id : K} (ha : Ar e h id L) (hg : h'.get id = h.get id) : Ar e h' id L := by unfold Ar; rw [hg]; exact ha
def arr (f : Nat → α) (n : Nat) : List α := (List.range n).map f
end
end Go.Ev
namespace Go.Ev
open Go Go.RowKit
section
variable {fs : T EF} {R : Fr → H → Prop} {fr : Fr} {h h0 : H} {d : Option K} {l : List EOper} {x y z : EO} {v : V}
def kG (fs : T EF) (l : List EOper) (Q : Fr → H → Prop) (fr : Fr) (d : Option K) (h0 : H) (v : V) (_ : H) : Prop := XG fs l Q (putD fr d v) h0
theorem kg : kG fs l R fr d h0 v h = XG fs l R (putD fr d v) h0 := of_eq_true (eq_self _)
theorem xg_nil : XG fs [] R fr h = R fr h := of_eq_true (eq_self _)
theorem xg_g {k : K} {b : Bool} {op : EOp} : XG fs (⟨d, some (k, b), op⟩ :: l) R fr h = (okG (getV (fr.get k)) ∧ if asG (getV (fr.get k)) b = true then XG fs (⟨d, none, op⟩ :: l) R fr h else XG fs l R (putD fr d undefV) h) := by
  show GP (oGet (some (k, b)) (some true) fun p => guardV (getV (fr.get p.1)) p.2) _ _ = _
  rw [← gp_as]
  show GP (guardV (getV (fr.get k)) b) _ _ = GP (guardV (getV (fr.get k)) b) (GP (some true) _ _) _
  rw [gp_t]
theorem xg_mv  : XG fs (⟨d, none, .mv x⟩ :: l) R fr h = XG fs l R (putD fr d (ev fr x)) h := by show GP (some true) (true = true ∧ _) _ = _; rw [gp_t, eq_self, true_and]; rfl
theorem xg_pick  : XG fs (⟨d, none, .pick x y z⟩ :: l) R fr h = rvP (pickV (ev fr x) (ev fr y) (ev fr z) h) (kG fs l R fr d h) := by show GP (some true) (true = true ∧ _) _ = _; rw [gp_t, eq_self, true_and]; rfl
theorem xg_build {zs : List V} {ps : List (Nat × Nat × EO)} : XG fs (⟨d, none, .build zs ps⟩ :: l) R fr h = rvP (oGet (fillE fr zs ps) .no fun cs => .ok (.agg cs) h) (kG fs l R fr d h) := by show GP (some true) (true = true ∧ _) _ = _; rw [gp_t, eq_self, true_and]; rfl
theorem xg_ld  : XG fs (⟨d, none, .ld x⟩ :: l) R fr h = rvP (loadV h (ev fr x) one?) (kG fs l R fr d h) := by show GP (some true) (true = true ∧ _) _ = _; rw [gp_t, eq_self, true_and]; rfl
theorem xg_ldn {n : Nat} : XG fs (⟨d, none, .ldn n x⟩ :: l) R fr h = rvP (loadV h (ev fr x) (many? n)) (kG fs l R fr d h) := by show GP (some true) (true = true ∧ _) _ = _; rw [gp_t, eq_self, true_and]; rfl
theorem xg_bin {op : BinOp} : XG fs (⟨d, none, .bin op x y⟩ :: l) R fr h = rvP (okv (binV op (ev fr x) (ev fr y)) h) (kG fs l R fr d h) := by show GP (some true) (true = true ∧ _) _ = _; rw [gp_t, eq_self, true_and]; rfl
theorem xg_eqk {kd : KD} {b : Bool} : XG fs (⟨d, none, .eqk kd b x y⟩ :: l) R fr h = rvP (okv (oGet (keyEq kd (ev fr x) (ev fr y)) none fun r => some (.b (bif b then !r else r))) h) (kG fs l R fr d h) := by show GP (some true) (true = true ∧ _) _ = _; rw [gp_t, eq_self, true_and]; rfl
theorem xg_fadr {o : Nat} : XG fs (⟨d, none, .fadr o x⟩ :: l) R fr h = rvP ((ev fr x).onP fun id p => .ok (.p id (p + o)) h) (kG fs l R fr d h) := by show GP (some true) (true = true ∧ _) _ = _; rw [gp_t, eq_self, true_and]; rfl
theorem xg_iadr {n sz : Nat} : XG fs (⟨d, none, .iadr n sz x y⟩ :: l) R fr h = rvP ((ev fr x).onP fun id off => idxV (ev fr y) n fun m => .ok (.p id (off + m * sz)) h) (kG fs l R fr d h) := by show GP (some true) (true = true ∧ _) _ = _; rw [gp_t, eq_self, true_and]; rfl
theorem xg_iads {sz : Nat} : XG fs (⟨d, none, .iads sz x y⟩ :: l) R fr h = rvP (iadsV sz (ev fr x) (ev fr y) h) (kG fs l R fr d h) := by show GP (some true) (true = true ∧ _) _ = _; rw [gp_t, eq_self, true_and]; rfl
theorem xg_len  : XG fs (⟨d, none, .len x⟩ :: l) R fr h = rvP (lenV (ev fr x) h) (kG fs l R fr d h) := by show GP (some true) (true = true ∧ _) _ = _; rw [gp_t, eq_self, true_and]; rfl
theorem xg_slcA {nn sz : Nat} {lo hi : Option EO} : XG fs (⟨d, none, .slcA nn sz x lo hi⟩ :: l) R fr h = rvP (slcAV fr nn sz (ev fr x) lo hi h) (kG fs l R fr d h) := by show GP (some true) (true = true ∧ _) _ = _; rw [gp_t, eq_self, true_and]; rfl
theorem xg_bslice {k : K} {n sz : Nat} {zs : List V} {ps : List (Nat × Nat × EO)} : XG fs (⟨some k, none, .bslice n sz zs ps⟩ :: l) R fr h = ((h.get h.nx).isDead = true ∧ ∃ cs, fillE fr zs ps = some cs ∧ XG fs l R (fr.set k (.sl h.nx 0 n sz)) (h.new (.cells (n * sz) cs))) := by
  show GP (some true) (∃ k' cs, some k = some k' ∧ _) _ = _
  rw [gp_t]
  apply propext
  constructor
  · rintro ⟨k', cs, e, e1, e2, e3⟩
    cases e
    exact ⟨e1, cs, e2, e3⟩
  · rintro ⟨e1, cs, e2, e3⟩
    exact ⟨k, cs, rfl, e1, e2, e3⟩
theorem xg_mksD {k : K} {sz : Nat} {zs : List V} {ki : IntKind} {n : Nat} (hl : ev fr x = .i ki (n : Int)) (hn : n ≤ 1000000) : XG fs (⟨some k, none, .mkslD sz zs x⟩ :: l) R fr h = ((h.get h.nx).isDead = true ∧ XG fs l R (fr.set k (.sl h.nx 0 n sz)) (h.new (.cells (n * sz) (rep zs n)))) := by
  show GP (some true) (∃ k' ki n, some k = some k' ∧ _) _ = _
  rw [gp_t]
  apply propext
  constructor
  · rintro ⟨k', ki', n', e, e1, e2, _, e3⟩
    cases e
    rw [hl] at e2
    have : n = n' := by
      injection e2 with _ e4
      exact Int.ofNat.inj e4
    subst this
    exact ⟨e1, e3⟩
  · rintro ⟨e1, e3⟩
    exact ⟨k, ki, n, rfl, e1, hl, Nat.ble_eq_true_of_le hn, e3⟩
theorem xg_alloc {k : K} {n : Nat} {zs : List V} : XG fs (⟨some k, none, .alloc n zs⟩ :: l) R fr h = ((h.get h.nx).isDead = true ∧ XG fs l R (fr.set k (.p h.nx 0)) (h.new (.cells n zs))) := by
  show GP (some true) (∃ k', some k = some k' ∧ _) _ = _
  rw [gp_t]
  apply propext
  constructor
  · rintro ⟨k', e, e1, e3⟩
    cases e
    exact ⟨e1, e3⟩
  · rintro ⟨e1, e3⟩
    exact ⟨k, rfl, e1, e3⟩
def stK (fs : T EF) (b : List K) (c : List EOper) (o : Option EOper) (l : List Stage) (Q : Fr → H → Prop) (h0 : H) (fr : Fr) (h : H) : Prop := isFresh h0 h fr b = true ∧ allStay fs goNo fr h c = true ∧ (match o with | none => Q fr h | some o => X fs [o] (XD fs l Q) fr h)
theorem xd_cons {g c : List EOper} {b : List K} {o : Option EOper} {l : List Stage} : XD fs (⟨g, c, o, b⟩ :: l) R fr h = XG fs g (stK fs b c o l R h) fr h := of_eq_true (eq_self _)
theorem fresh_nil : isFresh h0 h fr [] = true := of_eq_true (eq_self _)
theorem stK_n {b : List K} {c : List EOper} {l : List Stage} : stK fs b c none l R h0 fr h = (isFresh h0 h fr b = true ∧ allStay fs goNo fr h c = true ∧ R fr h) := of_eq_true (eq_self _)
theorem stK_s {b : List K} {c : List EOper} {o : EOper} {l : List Stage} : stK fs b c (some o) l R h0 fr h = (isFresh h0 h fr b = true ∧ allStay fs goNo fr h c = true ∧ X fs [o] (XD fs l R) fr h) := of_eq_true (eq_self _)
theorem stay_nil : allStay fs goNo fr h [] = true := of_eq_true (eq_self _)
theorem stay_cons {o : EOper} {c : List EOper} : (allStay fs goNo fr h (o :: c) = true) = (stays fs goNo fr h o = true ∧ allStay fs goNo fr h c = true) := by
  show ((stays fs goNo fr h o && allStay fs goNo fr h c) = true) = _
  rw [Bool.and_eq_true]
def again (r : RV) (u : V) : Prop := ∃ v h, r = .ok v h ∧ beqV v u = true
theorem again_ok {u : V} : again (.ok v h) u = (beqV v u = true) := by
  apply propext
  constructor
  · rintro ⟨v', h', e, hb⟩; cases e; exact hb
  · exact fun hb => ⟨v, h, rfl, hb⟩
theorem chk_again {r : RV} {u : V} : (r.chk (fun v => beqV v u) = true) = again r u := by
  apply propext
  cases r with
  | no => exact Iff.intro (fun h => by cases h) (fun ⟨v, h, e, _⟩ => by cases e)
  | ok v h => rw [again_ok]; rfl
theorem stay_mv {k : K} : (stays fs goNo fr h ⟨some k, none, .mv x⟩ = true) = (beqV (ev fr x) (getV (fr.get k)) = true) := of_eq_true (eq_self _)
theorem beq_i {k : IntKind} {n : Int} : beqV (.i k n) (.i k n) = true := by
  show (k == k && ieq n n) = true
  rw [ieq_eq]; cases k <;> simp
theorem Nat.beq_same {n : Nat} : Nat.beq n n = true := Nat.beq_refl n
theorem Sl.beq {α : Type} {e : α → V} {L : List α} (hs : Sl e h v L) : beqV v v = true := by
  rcases hs with ⟨rfl, _⟩ | ⟨id, off, m, cs, rfl, _⟩
  · rfl
  · show (id.beq id && Nat.beq off off && Nat.beq L.length L.length && Nat.beq 1 1) = true
    rw [K.beq_refl, Nat.beq_same, Nat.beq_same]; rfl
theorem fresh_p {k : K} {x : Blk} (hg : fr.get k = some (.p h0.nx 0)) : isFresh h0 (h0.new x) fr [k] = true := by
  show freshL h0.nx.nat (h0.new x).nx.nat (oGet (slId (getV (fr.get k))) [] fun id => [id]) = true
  rw [hg]
  show (Nat.ble h0.nx.nat h0.nx.nat && Nat.blt h0.nx.nat (h0.new x).nx.nat && notIn h0.nx [] && true) = true
  rw [Nat.ble_eq_true_of_le (Nat.le_refl _), show Nat.blt h0.nx.nat (h0.new x).nx.nat = true from Nat.ble_eq_true_of_le (by rw [nx_new]; exact Nat.le_refl _)]
  rfl
theorem fresh_one {k : K} {n sz : Nat} {x : Blk} (hg : fr.get k = some (.sl h0.nx 0 n sz)) : isFresh h0 (h0.new x) fr [k] = true := by
  show freshL h0.nx.nat (h0.new x).nx.nat (oGet (slId (getV (fr.get k))) [] fun id => [id]) = true
  rw [hg]
  show (Nat.ble h0.nx.nat h0.nx.nat && Nat.blt h0.nx.nat (h0.new x).nx.nat && notIn h0.nx [] && true) = true
  rw [Nat.ble_eq_true_of_le (Nat.le_refl _), show Nat.blt h0.nx.nat (h0.new x).nx.nat = true from Nat.ble_eq_true_of_le (by rw [nx_new]; exact Nat.le_refl _)]
  rfl
end
end Go.Ev
namespace Go.Ev
open Go Go.RowKit
def SlArg (W : World) (val : Value) (L : List Int) : Prop := (val = .slice none 0 0 ∧ L = []) ∨ ∃ (b off len : Nat) (zs : List Int), val = .slice (some ⟨b, off, none⟩) len zs.length ∧ len ≤ zs.length ∧ L = zs.take len ∧
  (∀ i (hi : i < zs.length), W.cell? ⟨b, off + i, none⟩ = some (.int .i64 zs[i])) ∧ ∀ i, i < zs.length → W.frozen? ⟨b, off + i, none⟩ = false
theorem intsVR {ι : Io} : ∀ {zs : List Int} {vs : List Value}, vs.length = zs.length → (∀ i (hi : i < zs.length), vs[i]? = some (.int .i64 zs[i])) → VRs ι (zs.map iE) vs := by
  intro zs vs hl h
  refine ⟨by rw [List.length_map, hl], fun i h1 h2 => ?_⟩
  have hi : i < zs.length := by simpa using h1
  have := h i hi
  rw [List.getElem?_eq_getElem h2, Option.some.injEq] at this
  rw [this, List.getElem_map]
  exact .i _ _
end Go.Ev
namespace Go.Ev
open Go Go.RowKit
section
variable {Y : Rig} {fs : T EF} {k : K} {ef : EF} {n : Nat} {args : List V} {L : List Int}
end
theorem callP_flat {fs : T EF} {k : K} {ef : EF} {args : List V} {h : H} {v : V} {g : List V → Option V} {P : V → H → Prop} (hf : fs.get k = some ef) (hn : ef.nv = some (flatG g)) (hg : g args = some v) : CallP fs (.fn k []) args h P = P v h := by
  have hc : ∀ n, callV fs (eval fs n) (.fn k []) args h = .ok v h := fun n => by
    show (oGet (fs.get k) RV.no fun ef => callE (eval fs n) ef (cat args []) h) = _
    rw [hf]
    show oGet ef.nv (callF (eval fs n) ef (cat args []) h) (fun g => oGet (g (cat args []) h) RV.no fun p => RV.ok p.1 p.2) = _
    rw [hn, cat_eq, List.append_nil]
    show (oGet (flatG g args h) RV.no fun p => RV.ok p.1 p.2) = _
    unfold flatG
    rw [hg]; rfl
  apply propext
  constructor
  · rintro ⟨n, v', h', e, hp⟩
    rw [hc] at e
    cases e; exact hp
  · intro hp
    exact ⟨0, v, h, hc 0, hp⟩
end Go.Ev
namespace Go.Ev
open Go Go.RowKit Go.ChangeShapes Go.WideShapes Go.ChangeAt
end Go.Ev
namespace Go.Ev
open Go Go.RowKit
section
variable {α : Type} {e : α → V} {h h' : H} {v u : V} {L M : List α} {b : Nat}
theorem Sl.st (hs : Sl e h v L) {i : Nat} (hi : i < L.length) {x : α} {c : V} (hc : c = e x) (ho : cellsN 1 c = some [c]) (hhc : HC h) :
    ∃ p id m cs', (∀ k h1, iadsV 1 v (.i k (i : Int)) h1 = .ok p h1) ∧ storeV h 1 p c = .ok undefV (h.put id (.cells m cs')) ∧ Sl e (h.put id (.cells m cs')) v (L.set i x) ∧ (∃ off n sz, v = .sl id off n sz) ∧ id.nat < h.nx.nat := by
  subst hc
  rcases hs with ⟨rfl, rfl⟩ | ⟨id, off, m, cs, rfl, hb, hl, hm, hx⟩
  · simp at hi
  · refine ⟨.p id (off + i * 1), id, m, setMany cs (off + i * 1) [e x], fun k h1 => ?_, ?_, ?_, ⟨off, L.length, 1, rfl⟩, hhc.cells hb⟩
    · rw [iads_sl, idx_n hi]
    · exact store_p hb ho (by omega)
    · have hsm : setMany cs (off + i * 1) [e x] = cs.set (off + i) (e x) := by
        rw [setMany_eq _ _ _ (by simp; omega), Nat.mul_one]
        apply List.ext_getElem?
        intro j
        rcases Nat.lt_trichotomy j (off + i) with h1 | h1 | h1
        · rw [List.append_assoc, List.getElem?_append_left (by simp; omega), List.getElem?_take, if_pos h1, List.getElem?_set, if_neg (by omega)]
        · subst h1
          rw [List.append_assoc, List.getElem?_append_right (by simp; omega), List.getElem?_set]
          have h2 : off + i < cs.length := by omega
          have : off + i - min (off + i) cs.length = 0 := by omega
          simp [this, h2]
        · rw [List.getElem?_append_right (by simp; omega), List.getElem?_set, if_neg (by omega), List.getElem?_drop]
          congr 1
          simp; omega
      refine .inr ⟨id, off, m, _, by rw [List.length_set], get_put_same, by rw [hsm, List.length_set]; exact hl, by rw [List.length_set]; exact hm, fun j hj => ?_⟩
      have hj' : j < L.length := by simpa using hj
      rw [hsm, List.getElem?_set]
      by_cases e1 : i = j
      · subst e1
        rw [if_pos rfl, if_pos (by omega)]; simp
      · rw [if_neg (by omega), hx j hj', List.getElem_set_ne e1]
end

theorem kNe {a b : K} (h : a.nat < b.nat) : a ≠ b := fun e => by rw [e] at h; omega
structure AccI {α : Type} (e : α → V) (b : Nat) (h : H) (idb idl : K) (kept : List (K × Blk)) (o : V) (L : List α) (lb : Blk) (h1 : H) : Prop where
  sl : Sl e h1 o L
  own : Own (idl.nat + 1) o
  gr : Grow b h h1
  eb : h1.get idb = .cells 1 [o]
  kp : ∀ p ∈ kept, h1.get p.1 = p.2
  el : h1.get idl = lb
  nx : idl.nat + 1 ≤ h1.nx.nat
  o1 : idb.nat < idl.nat
  ob : b ≤ idb.nat
  ok : ∀ p ∈ kept, p.1.nat < idl.nat ∧ p.1 ≠ idb
section
variable {α : Type} {e : α → V} {b : Nat} {h h1 h2 : H} {idb idl : K} {kept : List (K × Blk)} {o o' : V} {L L' : List α} {lb : Blk}
theorem AccI.grow (t : AccI e b h idb idl kept o L lb h1) (hc : HC h1) (g : Grow h1.nx.nat h1 h2) : AccI e b h idb idl kept o L lb h2 := by
  have := t.nx; have := t.o1; have := t.ob; have := g.nx
  exact ⟨t.sl.grow hc g, t.own, t.gr.trans (g.low (by omega)), by rw [g.old _ (by omega)]; exact t.eb, fun p hp => by have := (t.ok p hp).1; rw [g.old _ (by omega)]; exact t.kp p hp, by rw [g.old _ (by omega)]; exact t.el, by omega, t.o1, t.ob, t.ok⟩
theorem AccI.put (t : AccI e b h idb idl kept o L lb h1) (hs : Sl e h2 o' L') (ho : Own (idl.nat + 1) o') (g : Grow (idl.nat + 1) h1 h2) : AccI e b h idb idl kept o' L' lb (h2.put idb (.cells 1 [o'])) := by
  have := t.nx; have := t.o1; have := t.ob; have := g.nx
  exact ⟨hs.put (ho.notIn (by omega)) _, ho, (t.gr.trans (g.low (by omega))).trans (Grow.put (by omega) (by omega) _), get_put_same, fun p hp => by have := (t.ok p hp).1; rw [get_put_other (t.ok p hp).2, g.old _ (by omega)]; exact t.kp p hp,
    by rw [get_put_other (kNe (by omega)).symm, g.old _ (by omega)]; exact t.el, by rw [nx_put]; omega, t.o1, t.ob, t.ok⟩
end

section
variable {fs : T EF} {fr : Fr} {h : H} {k : K} {x y : EO}
theorem stay_iads {sz : Nat} : (stays fs goNo fr h ⟨some k, none, .iads sz x y⟩ = true) = again (iadsV sz (ev fr x) (ev fr y) h) (getV (fr.get k)) := chk_again
theorem stay_ld : (stays fs goNo fr h ⟨some k, none, .ld x⟩ = true) = again (loadV h (ev fr x) one?) (getV (fr.get k)) := chk_again
theorem stay_bin {op : BinOp} : (stays fs goNo fr h ⟨some k, none, .bin op x y⟩ = true) = again (okv (binV op (ev fr x) (ev fr y)) h) (getV (fr.get k)) := chk_again
theorem beq_p {id : K} {off : Nat} : beqV (.p id off) (.p id off) = true := by
  show (id.beq id && Nat.beq off off) = true
  rw [K.beq_refl, Nat.beq_same]; rfl
variable {α : Type} {e : α → V} {v : V} {L : List α}
end
theorem rep_cell {z : V} : ∀ n, rep [z] n = List.replicate n z
  | 0 => rfl
  | n + 1 => by
    show cat [z] (rep [z] n) = _
    rw [rep_cell n, cat_eq]; rfl
theorem mks_ints {h : H} {k : IntKind} {n : Nat} (hn : n ≤ 1000000) : mksV 1 [.i .i64 0] h (.i k (n : Int)) = .ok (.sl h.nx 0 n 1) (h.new (.cells (n * 1) (rep [.i .i64 0] n))) := by
  show (bif Nat.ble n 1000000 then RV.ok (.sl h.nx 0 n 1) (h.new (.cells (n * 1) (rep [.i .i64 0] n))) else .no) = _
  rw [Nat.ble_eq_true_of_le hn]; rfl
theorem mks_sl {h : H} {n : Nat} : Sl iE (h.new (.cells (n * 1) (rep [.i .i64 0] n))) (.sl h.nx 0 n 1) (List.replicate n (0 : Int)) :=
  .inr ⟨h.nx, 0, n * 1, rep [.i .i64 0] n, by rw [List.length_replicate], get_new_same, by rw [rep_cell, List.length_replicate, Nat.mul_one], by rw [List.length_replicate]; omega, fun i hi => by
    have hi : i < n := by simpa using hi
    rw [rep_cell, Nat.zero_add, List.getElem?_replicate, if_pos hi, List.getElem_replicate]; rfl⟩
end Go.Ev
namespace Go.Ev
open Go Go.RowKit
def Sr {α : Type} (e : α → V) (h : H) (v : V) (L : List α) : Prop := (v = .sn ∧ L = []) ∨ ∃ id off m cs, v = .sl id off L.length 1 ∧ (h.get id = .cells m cs ∨ h.get id = .rom m cs) ∧ cs.length = m ∧ off + L.length ≤ m ∧ ∀ i (hi : i < L.length), cs[off + i]? = some (e L[i])
theorem load_r {h : H} {id : K} {m off : Nat} {v : V} {cs : List V} (hb : h.get id = .cells m cs ∨ h.get id = .rom m cs) (hc : nth cs off = some v) : loadV h (.p id off) one? = .ok v h := by
  show okv ((h.get id).onC none fun n cs => one? cs n off) h = _
  rcases hb with hb | hb <;> rw [hb] <;> show okv (nth cs off) h = _ <;> rw [hc] <;> rfl
section
variable {α : Type} {e : α → V} {h h' : H} {v u : V} {L M : List α} {b : Nat}
theorem Sl.sr (hs : Sl e h v L) : Sr e h v L := by
  rcases hs with hs | ⟨id, off, m, cs, h1, h2, h3⟩
  · exact .inl hs
  · exact .inr ⟨id, off, m, cs, h1, .inl h2, h3⟩
theorem Sr.nil : Sr e h .sn ([] : List α) := .inl ⟨rfl, rfl⟩
theorem Sr.len (hs : Sr e h v L) (h1 : H) : lenV v h1 = .ok (.i .i64 (L.length : Int)) h1 := by
  rcases hs with ⟨rfl, rfl⟩ | ⟨id, off, m, cs, rfl, _⟩ <;> rfl
theorem Sr.at (hs : Sr e h v L) (i : Nat) (hi : i < L.length) : ∃ p, (∀ k h1, iadsV 1 v (.i k (i : Int)) h1 = .ok p h1) ∧ loadV h p one? = .ok (e L[i]) h := by
  rcases hs with ⟨rfl, rfl⟩ | ⟨id, off, m, cs, rfl, hb, hl, hm, hx⟩
  · simp at hi
  · refine ⟨.p id (off + i * 1), fun k h1 => ?_, ?_⟩
    · rw [iads_sl, idx_n hi]
    · exact load_r hb (by rw [nth_eq, Nat.mul_one]; exact hx i hi)
theorem Sr.same (hs : Sr e h v L) (hg : ∀ id off n sz, v = .sl id off n sz → h'.get id = h.get id) : Sr e h' v L := by
  rcases hs with ⟨rfl, rfl⟩ | ⟨id, off, m, cs, rfl, hb, hl, hm, hx⟩
  · exact .inl ⟨rfl, rfl⟩
  · exact .inr ⟨id, off, m, cs, rfl, by rw [hg _ _ _ _ rfl]; exact hb, hl, hm, hx⟩
theorem Sr.lt (hs : Sr e h v L) (hc : HC h) : ∀ id off n sz, v = .sl id off n sz → id.nat < h.nx.nat := by
  rcases hs with ⟨rfl, rfl⟩ | ⟨id, off, m, cs, rfl, hb, hl, hm, hx⟩
  · exact fun _ _ _ _ h => by cases h
  · exact fun _ _ _ _ h => by cases h; exact hc.lt (by rcases hb with hb | hb <;> rw [hb] <;> simp)
theorem Sr.grow (hs : Sr e h v L) (hc : HC h) (hg : Grow h.nx.nat h h') : Sr e h' v L := hs.same fun id off n sz ev => hg.old id (hs.lt hc id off n sz ev)
theorem Sr.new (hs : Sr e h v L) (hc : HC h) (x : Blk) : Sr e (h.new x) v L := hs.grow hc (Grow.new (Nat.le_refl _) x)
theorem Sr.put (hs : Sr e h v L) {id : K} (hn : NotIn id v) (x : Blk) : Sr e (h.put id x) v L := hs.same fun id' off n sz ev => get_put_other (fun ee => hn off n sz (by rw [ev, ee]))
theorem Sr.beq (hs : Sr e h v L) : beqV v v = true := by
  rcases hs with ⟨rfl, _⟩ | ⟨id, off, m, cs, rfl, _⟩
  · rfl
  · show (id.beq id && Nat.beq off off && Nat.beq L.length L.length && Nat.beq 1 1) = true
    rw [K.beq_refl, Nat.beq_same, Nat.beq_same]; rfl
theorem Sr.one {v : V} (hs : Sr e h v L) : cellsN 1 v = some [v] := by rcases hs with ⟨rfl, _⟩ | ⟨_, _, _, _, rfl, _⟩ <;> rfl
theorem Sr.addOf (hs : Sr e h v L) : Go.Ev.addOf 1 h v = some (L.length, L.map e) := by
  rcases hs with ⟨rfl, rfl⟩ | ⟨id, off, m, cs, rfl, hb, hl, hm, hx⟩
  · rfl
  · show (h.get id).onC none (fun len cs => bif Nat.beq 1 1 && Nat.ble (off + L.length * 1) len then some (L.length, takeN (L.length * 1) (dropN off cs)) else none) = _
    have e0 : (h.get id).onC none (fun len cs => bif Nat.beq 1 1 && Nat.ble (off + L.length * 1) len then some (L.length, takeN (L.length * 1) (dropN off cs)) else none) = (bif Nat.beq 1 1 && Nat.ble (off + L.length * 1) m then some (L.length, takeN (L.length * 1) (dropN off cs)) else none) := by
      rcases hb with hb | hb <;> rw [hb] <;> rfl
    rw [e0, show (Nat.beq 1 1 && Nat.ble (off + L.length * 1) m) = true by rw [Nat.beq_refl, Nat.ble_eq_true_of_le (by omega)]; rfl]
    show some (L.length, takeN (L.length * 1) (dropN off cs)) = _
    congr 2
    rw [takeN_eq, dropN_eq, Nat.mul_one]
    apply List.ext_getElem?
    intro i
    by_cases hi : i < L.length
    · rw [List.getElem?_take, if_pos hi, List.getElem?_drop, hx i hi]; simp [hi]
    · rw [List.getElem?_eq_none (by simp; omega), List.getElem?_eq_none (by simp; omega)]
end
structure Roms (Y : Rig) (ι : Io) (h : H) (W : World) : Prop where
  wr : WR Y.tab ι h W
  hc : HC h
  all : ∀ id q, ι id = some q → ∃ n cs, h.get id = .rom n cs ∧ ∃ p, q.pin = some p ∧ W.heap[q.b]? = some (.cells p.1 p.2.1 p.2.2)
noncomputable def noH : H := ⟨.e, .nil⟩
theorem Roms.nil {Y : Rig} {W : World} (hG : Glob Y.tab W) : Roms Y (fun _ => none) noH W :=
  ⟨⟨(fun _ _ h => absurd h (by simp)), (fun _ _ h => absurd h (by simp)), (fun _ _ _ _ h => absurd h (by simp)), (fun _ _ => rfl), fun t d g u k1 k2 => ⟨hG t d g u k1 k2, fun _ _ h => absurd h (by simp)⟩⟩, fun id _ => by
    show getB (T.get id .nil) = .dead
    rw [T.get_nil]; rfl, fun _ _ h => absurd h (by simp)⟩
section
variable {Y : Rig} {ι : Io} {h : H} {W : World}
theorem Roms.add (r : Roms Y ι h W) {val : Value} {L : List Int} (ha : SlArg W val L) : ∃ ι' h' v, Roms Y ι' h' W ∧ Ext ι ι' ∧ VR ι' v val ∧ Sr iE h' v L ∧ Grow h.nx.nat h h' := by
  rcases ha with ⟨rfl, rfl⟩ | ⟨b, off, len, zs, rfl, hlen, rfl, hcell, hfro⟩
  · exact ⟨ι, h, .sn, r, Ext.refl _, .sn, Sr.nil, Grow.refl _ _⟩
  have hn : ι h.nx = none := r.wr.fresh _ (Nat.le_refl _)
  by_cases hz : zs.length = 0
  · obtain rfl := List.length_eq_zero_iff.1 hz
    obtain rfl : len = 0 := by simpa using hlen
    have g : Grow h.nx.nat h (h.new (.rom 0 [])) := Grow.new (Nat.le_refl _) _
    refine ⟨ι, h.new (.rom 0 []), .sl h.nx 0 0 1, ⟨r.wr.more (HX.new h _), g.hc r.hc, fun id q hq => ?_⟩, Ext.refl _, .sl0, .inr ⟨h.nx, 0, 0, [], rfl, .inr get_new_same, rfl, by simp, fun i hi => by simp at hi⟩, g⟩
    have : id.nat < h.nx.nat := by
      rcases Nat.lt_or_ge id.nat h.nx.nat with h1 | h1
      · exact h1
      · rw [r.wr.fresh id h1] at hq; cases hq
    rw [get_new_old this]
    exact r.all id q hq
  · have h0 := hcell 0 (by omega)
    obtain ⟨cur, ty, fz, hb⟩ : ∃ cur ty fz, W.heap[b]? = some (.cells cur ty fz) := by
      unfold World.cell? at h0
      split at h0
      · rename_i c t f hh; exact ⟨c, t, f, hh⟩
      · cases h0
    have hbl : b < W.heap.size := (Array.getElem?_eq_some_iff.1 hb).1
    have hcur : ∀ i (hi : i < zs.length), cur[off + i]? = some (.int .i64 zs[i]) := fun i hi => by
      have := hcell i hi
      rw [cell_of_row W b _ cur ty fz hb] at this
      exact this
    have hsz : off + zs.length ≤ cur.size := by
      have := hcur (zs.length - 1) (by omega)
      have := (Array.getElem?_eq_some_iff.1 this).1
      omega
    have hin : List.take zs.length (List.drop off cur.toList) = zs.map (Value.int .i64) := by
      apply List.ext_getElem?
      intro i
      rw [List.getElem?_take, List.getElem?_map]
      by_cases hi : i < zs.length
      · rw [if_pos hi, List.getElem?_drop, Array.getElem?_toList, hcur i hi, List.getElem?_eq_getElem hi]; rfl
      · rw [if_neg hi, List.getElem?_eq_none (by omega)]; rfl
    have q : ∃ q : Pl, q = ⟨b, off, zs.length, some (cur, ty, fz)⟩ := ⟨_, rfl⟩
    obtain ⟨q, hq⟩ := q
    have hext := updI_ext (q := q) hn
    have g : Grow h.nx.nat h (h.new (.rom zs.length (zs.map iE))) := Grow.new (Nat.le_refl _) _
    have hlt : ∀ id q', ι id = some q' → id.nat < h.nx.nat := fun id q' hq' => by
      rcases Nat.lt_or_ge id.nat h.nx.nat with h1 | h1
      · exact h1
      · rw [r.wr.fresh id h1] at hq'; cases hq'
    have hall : ∀ id q', updI ι h.nx q id = some q' → ∃ n cs, (h.new (.rom zs.length (zs.map iE))).get id = .rom n cs ∧ ∃ p, q'.pin = some p ∧ W.heap[q'.b]? = some (.cells p.1 p.2.1 p.2.2) := fun id q' hq' => by
      by_cases e : id = h.nx
      · subst e
        rw [updI_same] at hq'
        cases hq'
        subst hq
        exact ⟨_, _, get_new_same, _, rfl, hb⟩
      · rw [updI_other _ _ e] at hq'
        rw [get_new_old (hlt id q' hq')]
        exact r.all id q' hq'
    refine ⟨updI ι h.nx q, h.new (.rom zs.length (zs.map iE)), .sl h.nx 0 len 1, ⟨⟨fun id q' h' => ?_, fun id q' h' => ?_, fun id id' q1 q2 h1 h2 _ _ _ => ?_, fun id hid => ?_, fun t d g u k1 k2 => ⟨r.wr.globs t d g u k1 k2, fun id q' hq' _ => by
      obtain ⟨_, _, a1, _⟩ := hall id q' hq'
      exact .inl (by rw [a1]; trivial)⟩⟩, g.hc r.hc, hall⟩, hext, ?_, ?_, g⟩
    · by_cases e : id = h.nx
      · subst e
        rw [updI_same] at h'
        cases h'
        rw [get_new_same]
        subst hq
        refine ⟨cur, ty, fz, hb, by simp, hsz, Nat.le_refl _, fun c hc => ?_, ?_, ?_, ?_⟩
        · obtain ⟨z, _, rfl⟩ := List.mem_map.1 hc; rfl
        · show VRs _ _ (List.take zs.length (List.drop off cur.toList))
          rw [hin]
          exact intsVR (by simp) (fun i hi => by simp [hi])
        · intro j h1 h2 h3
          have h1 : off ≤ j := h1
          have h2 : j < off + zs.length := h2
          have := hfro (j - off) (by omega)
          unfold World.frozen? at this
          rw [hb] at this
          simp only [Bool.and_eq_false_iff, decide_eq_false_iff_not] at this
          omega
        · intro p hp
          cases hp
          exact ⟨rfl, rfl, fun _ _ => rfl⟩
      · rw [updI_other _ _ e] at h'
        rw [get_new_old (hlt id q' h')]
        exact (r.wr.blk id q' h').mono hext rfl
    · by_cases e : id = h.nx
      · subst e; rw [updI_same] at h'; cases h'; subst hq; exact hbl
      · rw [updI_other _ _ e] at h'; exact r.wr.lt id q' h'
    · obtain ⟨_, _, a1, _⟩ := hall id q1 h1
      obtain ⟨_, _, a2, _⟩ := hall id' q2 h2
      exact .inr ⟨by rw [a1]; trivial, by rw [a2]; trivial⟩
    · have h1 : (h.new (.rom zs.length (zs.map iE))).nx.nat = h.nx.nat + 1 := K.succ_nat _
      rw [h1] at hid
      rw [updI_other _ _ (fun e => by rw [e] at hid; omega)]
      exact r.wr.fresh id (by omega)
    · have := VR.sl (off := 0) (n := len) (sz := 1) (c := zs.length) (updI_same ι h.nx q) (by subst hq; show 0 + zs.length * 1 ≤ zs.length; omega) hlen (by omega)
      subst hq
      simpa using this
    · refine .inr ⟨h.nx, 0, zs.length, zs.map iE, by rw [List.length_take, Nat.min_eq_left hlen], .inr get_new_same, by simp, by simp; omega, fun i hi => ?_⟩
      have hi' : i < len := by rw [List.length_take] at hi; omega
      rw [Nat.zero_add, List.getElem?_map, List.getElem?_eq_getElem (by omega), List.getElem_take]; rfl
theorem Roms.below (r : Roms Y ι h W) {n' : Nat} {ι' : Io} {h' : H} {W' : World} (st : Step h.nx.nat ι W n' ι' W') (wr' : WR Y.tab ι' h' W') (g : Grow h.nx.nat h h') : Below W.heap.size W W' := by
  refine ⟨st.os, st.tape, st.output, st.size, fun b' hb' => ?_⟩
  by_cases ex : ∃ id q, ι id = some q ∧ q.b = b'
  · obtain ⟨id, q, hq, rfl⟩ := ex
    obtain ⟨n, cs, hg, p, hp, hW⟩ := r.all id q hq
    have hid : id.nat < h.nx.nat := by
      rcases Nat.lt_or_ge id.nat h.nx.nat with h1 | h1
      · exact h1
      · rw [r.wr.fresh id h1] at hq; cases hq
    have b1 := wr'.blk id q (st.ext id q hq)
    rw [g.old id hid, hg] at b1
    obtain ⟨cur, ty, fz, j1, j2, j3, j4, j5, j6, j7, j8⟩ := b1
    obtain ⟨p1, p2, p3⟩ := j8 p hp
    subst p1 p2
    have : cur = p.1 := by
      apply Array.ext_getElem?
      intro j
      exact p3 j (by omega)
    rw [j1, hW, this]
  · exact st.keep b' hb' fun id q hq e => ex ⟨id, q, hq, e⟩
theorem Roms.call (r : Roms Y ι h W) {fs : T EF} (hfs : Fns Y fs) {k : K} {ef : EF} (hf : ef.nv = none ∧ ∃ fn c, FnOk Y k ef fn c) {vs : List V} {vals : List Value} (hv : VRs ι vs vals) (hrun : Ret fs ef vs h fun u h' => u = .b true ∧ Grow h.nx.nat h h') :
    Calls Y.P k.nat vals.toArray W fun e W' => e = .returned (.bool true) ∧ Below W.heap.size W W' := by
  obtain ⟨hnv, fn, c, hfn⟩ := hf
  obtain ⟨n, u, h', e, rfl, hg⟩ := hrun
  refine (callsIn_wide.1 (callF_rel (evalOk hfs n) hfn e hv r.wr)).mono ?_
  rintro e w' ⟨ι', v', rfl, hst, hvr, hwr⟩
  have := hvr.of_b
  subst this
  exact ⟨rfl, r.below hst hwr hg⟩
end
end Go.Ev
namespace Go.Ev
open Go Go.RowKit
section
variable {fs : T EF} {fr : Fr} {h h1 h2 : H} {x y : EO} {k : K}
theorem stay_fadr {o : Nat} : (stays fs goNo fr h ⟨some k, none, .fadr o x⟩ = true) = again ((ev fr x).onP fun id p => .ok (.p id (p + o)) h) (getV (fr.get k)) := chk_again
theorem stay_build {zs : List V} {ps : List (Nat × Nat × EO)} : (stays fs goNo fr h ⟨some k, none, .build zs ps⟩ = true) = again (oGet (fillE fr zs ps) .no fun cs => .ok (.agg cs) h) (getV (fr.get k)) := chk_again
theorem fill_0 {zs : List V} : fillE fr zs [] = some zs := of_eq_true (eq_self _)
structure Same2 (a c : K) (h h' : H) : Prop where
  nx : h'.nx = h.nx
  old : ∀ id, id ≠ a → id ≠ c → h'.get id = h.get id
theorem Same2.grow {a c : K} {b : Nat} (s : Same2 a c h h1) (ha : b ≤ a.nat) (hc : b ≤ c.nat) (hal : a.nat < h.nx.nat) (hcl : c.nat < h.nx.nat) : Grow b h h1 :=
  ⟨by rw [s.nx]; exact Nat.le_refl _, fun id hi => s.old id (kNe (by omega)) (kNe (by omega)), fun hh id hi => by
    rw [s.nx] at hi
    rw [s.old id (kNe (by omega)).symm (kNe (by omega)).symm]; exact hh id hi⟩
theorem cells2 {a b : V} : cellsN 2 (.agg [a, b]) = some [a, b] := of_eq_true (eq_self _)
theorem st2 {id : K} {a b c d : V} (hb : h.get id = .cells 2 [a, b]) : storeV h 2 (.p id 0) (.agg [c, d]) = .ok undefV (h.put id (.cells 2 [c, d])) := by
  rw [store_p hb cells2 (by omega)]; rfl
theorem st1 {id : K} {a c : V} (hb : h.get id = .cells 1 [a]) (hc : cellsN 1 c = some [c]) : storeV h 1 (.p id 0) c = .ok undefV (h.put id (.cells 1 [c])) := by
  rw [store_p hb hc (by omega)]; rfl
theorem ck_i {x y : Int} (hx : inR .i64 x = true) (hy : inR .i64 y = true) : ckEq (some .i64) (.i .i64 x) (.i .i64 y) = some (ieq x y) := by
  show (bif (IntKind.i64 == IntKind.i64 && IntKind.i64 == IntKind.i64) && (inR .i64 x && inR .i64 y) then some (ieq x y) else none) = _
  rw [hx, hy]; rfl
theorem keyEq_2 {a b c d : Int} (ha : inR .i64 a = true) (hb : inR .i64 b = true) (hc : inR .i64 c = true) (hd : inR .i64 d = true) : keyEq (.many [some .i64, some .i64]) (.agg [.i .i64 a, .i .i64 b]) (.agg [.i .i64 c, .i .i64 d]) = some (decide (a = c) && decide (b = d)) := by
  show oGet (ckEq (some .i64) (.i .i64 a) (.i .i64 c)) none (fun r => oGet (oGet (ckEq (some .i64) (.i .i64 b) (.i .i64 d)) none fun r => oGet (some true) none fun s => some (r && s)) none fun s => some (r && s)) = _
  rw [ck_i ha hc, ck_i hb hd]
  show some (ieq a c && (ieq b d && true)) = _
  rw [ieq_eq, ieq_eq]
  by_cases e1 : a = c <;> by_cases e2 : b = d <;> simp [e1, e2]
end
/-! ### Slices of elements of several cells -/
def Sk {α : Type} (k : Nat) (e : α → List V) (h : H) (v : V) (L : List α) : Prop := (v = .sn ∧ L = []) ∨ ∃ id off m cs, v = .sl id off L.length k ∧ h.get id = .cells m cs ∧ cs.length = m ∧ off + L.length * k ≤ m ∧ (cs.drop off).take (L.length * k) = L.flatMap e
section
variable {α : Type} {k : Nat} {e : α → List V} {h h' : H} {v u : V} {L M : List α} {b : Nat}
theorem Sk.nil : Sk k e h .sn ([] : List α) := .inl ⟨rfl, rfl⟩
theorem Sk.len (hs : Sk k e h v L) (h1 : H) : lenV v h1 = .ok (.i .i64 (L.length : Int)) h1 := by
  rcases hs with ⟨rfl, rfl⟩ | ⟨id, off, m, cs, rfl, _⟩ <;> rfl
theorem Sk.same (hs : Sk k e h v L) (hg : ∀ id off n sz, v = .sl id off n sz → h'.get id = h.get id) : Sk k e h' v L := by
  rcases hs with ⟨rfl, rfl⟩ | ⟨id, off, m, cs, rfl, hb, hx⟩
  · exact .inl ⟨rfl, rfl⟩
  · exact .inr ⟨id, off, m, cs, rfl, by rw [hg _ _ _ _ rfl]; exact hb, hx⟩
theorem Sk.lt (hs : Sk k e h v L) (hc : HC h) : ∀ id off n sz, v = .sl id off n sz → id.nat < h.nx.nat := by
  rcases hs with ⟨rfl, rfl⟩ | ⟨id, off, m, cs, rfl, hb, hx⟩
  · exact fun _ _ _ _ h => by cases h
  · exact fun _ _ _ _ h => by cases h; exact hc.cells hb
theorem Sk.grow (hs : Sk k e h v L) (hc : HC h) (hg : Grow h.nx.nat h h') : Sk k e h' v L := hs.same fun id off n sz ev => hg.old id (hs.lt hc id off n sz ev)
theorem Sk.put (hs : Sk k e h v L) {id : K} (hn : NotIn id v) (x : Blk) : Sk k e (h.put id x) v L := hs.same fun id' off n sz ev => get_put_other (fun ee => hn off n sz (by rw [ev, ee]))
theorem Sk.one {v : V} (hs : Sk k e h v L) : cellsN 1 v = some [v] := by rcases hs with ⟨rfl, _⟩ | ⟨_, _, _, _, rfl, _⟩ <;> rfl
theorem Sk.beq (hs : Sk k e h v L) : beqV v v = true := by
  rcases hs with ⟨rfl, _⟩ | ⟨id, off, m, cs, rfl, _⟩
  · rfl
  · show (id.beq id && Nat.beq off off && Nat.beq L.length L.length && Nat.beq k k) = true
    rw [K.beq_refl, Nat.beq_same, Nat.beq_same, Nat.beq_same]; rfl
theorem flat_take (he : ∀ x, (e x).length = k) : ∀ (L : List α) (u : Nat), u ≤ L.length → (L.flatMap e).take (u * k) = (L.take u).flatMap e
  | _, 0, _ => by simp
  | [], u + 1, h => by simp at h
  | x :: L, u + 1, h => by
    rw [List.flatMap_cons, List.take_succ_cons, List.flatMap_cons, show (u + 1) * k = (e x).length + u * k by rw [he, Nat.add_mul]; omega, List.take_length_add_append, flat_take he L u (by simpa using h)]
theorem flat_len (he : ∀ x, (e x).length = k) (L : List α) : (L.flatMap e).length = L.length * k := by
  induction L with
  | nil => simp
  | cons x L ih => rw [List.flatMap_cons, List.length_append, ih, he, List.length_cons, Nat.add_mul]; omega
theorem Sk.push (he : ∀ x, (e x).length = k) (_ : 0 < k) {x : α} (hs : Sk k e h v L) (ho : Own b v) (hb : b ≤ h.nx.nat) (hc : HC h) (hn : L.length < 16777216) :
    ∃ v' h', appV k (h.new (.cells (1 * k) (e x))) v (.sl h.nx 0 1 k) = .ok v' h' ∧ Sk k e h' v' (L ++ [x]) ∧ Own b v' ∧ Grow b h h' ∧ ∀ id : K, id.nat < h.nx.nat → NotIn id v → h'.get id = h.get id ∧ NotIn id v' := by
  have hg := Grow.new (b := b) hb (.cells (1 * k) (e x))
  have hnx := nx_new h (.cells (1 * k) (e x))
  have hne : ∀ id : K, id.nat < h.nx.nat + 1 → id ≠ (h.new (.cells (1 * k) (e x))).nx := fun id hi ee => by rw [ee] at hi; omega
  have hadd : addOf k (h.new (.cells (1 * k) (e x))) (.sl h.nx 0 1 k) = some (1, e x) := by
    show ((h.new (.cells (1 * k) (e x))).get h.nx).onC none (fun len cs => bif Nat.beq k k && Nat.ble (0 + 1 * k) len then some (1, takeN (1 * k) (dropN 0 cs)) else none) = _
    rw [get_new_same]
    show (bif Nat.beq k k && Nat.ble (0 + 1 * k) (1 * k) then some (1, takeN (1 * k) (dropN 0 (e x))) else none) = _
    rw [Nat.beq_refl, Nat.ble_eq_true_of_le (by omega), takeN_eq, dropN_eq, List.drop_zero, List.take_of_length_le (by rw [he]; omega)]; rfl
  have ht : v.tight = false := by rcases hs with ⟨rfl, _⟩ | ⟨_, _, _, _, rfl, _⟩ <;> rfl
  unfold appV
  rw [hadd]
  simp only [oGet, ht, cond_false]
  show ∃ v' h', v.onSl RV.no (bif Nat.ble 1 16777216 then app0 k (h.new (.cells (1 * k) (e x))) 1 (e x) else .no) (fun id off n sz' => ((h.new (.cells (1 * k) (e x))).get id).onW .no fun len cs => bif Nat.beq k sz' && Nat.ble (off + n * k) len && Nat.ble (n + 1) 16777216 then app1 k (h.new (.cells (1 * k) (e x))) id off n cs 1 (e x) else .no) = .ok v' h' ∧ _
  rcases hs with ⟨rfl, rfl⟩ | ⟨id, off, m, cs, rfl, hb', hl, hm, hx⟩
  · refine ⟨_, _, rfl, .inr ⟨_, 0, 1 * k, e x, rfl, get_new_same, by rw [he]; omega, by simp, ?_⟩, fun _ _ _ _ h => by cases h; omega, hg.trans (Grow.new (by omega) _), fun id hi _ => ⟨?_, fun _ _ _ h => by cases h; omega⟩⟩
    · simp [he, List.take_of_length_le]
    · rw [get_new_old (by omega), get_new_old hi]
  · have hid := hc.cells hb'
    show ∃ v' h', ((h.new (.cells (1 * k) (e x))).get id).onW RV.no (fun len cs => bif Nat.beq k k && Nat.ble (off + L.length * k) len && Nat.ble (L.length + 1) 16777216 then app1 k (h.new (.cells (1 * k) (e x))) id off L.length cs 1 (e x) else .no) = .ok v' h' ∧ _
    rw [get_new_old hid, hb']
    show ∃ v' h', (bif Nat.beq k k && Nat.ble (off + L.length * k) m && Nat.ble (L.length + 1) 16777216 then app1 k (h.new (.cells (1 * k) (e x))) id off L.length cs 1 (e x) else .no) = .ok v' h' ∧ _
    rw [show (Nat.beq k k && Nat.ble (off + L.length * k) m && Nat.ble (L.length + 1) 16777216) = true by rw [Nat.beq_refl, Nat.ble_eq_true_of_le hm, Nat.ble_eq_true_of_le (show L.length + 1 ≤ 16777216 by omega)]; rfl]
    refine ⟨_, _, rfl, .inr ⟨(h.new (.cells (1 * k) (e x))).nx, 0, (L.length + 1) * k, cat (takeN (L.length * k) (dropN off cs)) (e x), by simp, get_new_same, ?_, by simp, ?_⟩, fun _ _ _ _ h => by cases h; omega, (hg.trans (Grow.put (ho _ _ _ _ rfl) (by omega) _)).trans (Grow.new (by rw [nx_put]; omega) _), fun id' hi hni => ⟨?_, fun _ _ _ h => by cases h; omega⟩⟩
    · rw [cat_eq, takeN_eq, dropN_eq, hx, List.length_append, flat_len he, he, Nat.add_mul]; omega
    · rw [cat_eq, takeN_eq, dropN_eq, hx, List.drop_zero, List.flatMap_append, List.take_of_length_le (by rw [List.length_append, flat_len he, he]; simp [Nat.add_mul])]
      simp
    · show (((h.new (.cells (1 * k) (e x))).put id .dead).new _).get id' = _
      rw [H.get_new, if_neg (show id' ≠ ((h.new (.cells (1 * k) (e x))).put id .dead).nx from hne id' (by omega)), get_put_other (fun ee => hni off L.length k (by rw [ee])), get_new_old hi]
end
end Go.Ev
namespace Go.Ev
open Go Go.RowKit Go.ChangeShapes Go.WideShapes Go.ChangeAt
def Plain (P : Program) (e : TypeId) : Prop := ∀ {H : Type} (enc : TypeId × Value → H) (W W' : World) (base : Nat) (sp sp' : Nat → Bool) (held : Bool) (n : Nat) (cs : List Value), DataW.trod enc P W base sp held n e cs = DataW.trod enc P W' base sp' held n e cs
theorem plain_int {P : Program} {e : TypeId} {k : IntKind} (he : P.underlying e = some (.int k)) : Plain P e := by
  intro H enc W W' base sp sp' held n cs
  cases n with
  | zero => rfl
  | succ n =>
    rw [DataW.trod_step, DataW.trod_step]; unfold DataW.trodStep; simp only [he]
    match cs with
    | [] => rfl
    | [c] => cases c <;> rfl
    | c :: _ :: _ => cases c <;> rfl
theorem plain_arr {P : Program} {e i : TypeId} {m : Nat} (he : P.underlying e = some (.array m i)) (hi : Plain P i) : Plain P e := by
  intro H enc W W' base sp sp' held n cs
  cases n with
  | zero => rfl
  | succ n =>
    rw [DataW.trod_step, DataW.trod_step]
    unfold DataW.trodStep
    simp only [he]
    have : (fun j => DataW.trod enc P W base sp held n i ((cs.drop (j * P.cellsOf i)).take (P.cellsOf i))) = fun j => DataW.trod enc P W' base sp' held n i ((cs.drop (j * P.cellsOf i)).take (P.cellsOf i)) := by
      funext j; exact hi enc W W' base sp sp' held n _
    rw [this]
theorem mapM_same {α β : Type} {f g : α → Option β} : ∀ l : List α, (∀ x ∈ l, f x = g x) → l.mapM f = l.mapM g
  | [], _ => rfl
  | x :: l, h => by
    rw [List.mapM_cons, List.mapM_cons, h x (by simp), mapM_same l fun y hy => h y (List.mem_cons_of_mem _ hy)]
theorem cell_below {W W' : World} {a : Addr} (hb : Below W.heap.size W W') (ha : a.block < W.heap.size) : W'.cell? a = W.cell? a := by
  unfold World.cell?
  rw [hb.block a.block ha]
theorem trod_slice_frame {H : Type} {enc : TypeId × Value → H} {P : Program} {W W' : World} {t e : TypeId} (ht : P.underlying t = some (.slice e)) (pe : Plain P e) (hpos : 0 < P.cellsOf e) (hb : Below W.heap.size W W') {v : Value} {d : DataW H} {p : List MemPlace}
    (h : DataW.Trod enc P W 0 (fun _ => true) true t v d p) : DataW.Trod enc P W' 0 (fun b => decide (b < W.heap.size)) true t v d p := by
  obtain ⟨fuel, hf⟩ := h
  rcases DataW.trod_slice ht hf with ⟨hcs, hx⟩ | ⟨a, len, cap, elems, rest, n, rfl, hcs, hx, h0, hl, hm, hlen, hel, hsp, _⟩
  · rw [hcs] at hf
    refine ⟨fuel, ?_⟩
    rw [hcs]
    cases fuel with
    | zero => cases hf
    | succ n =>
      rw [DataW.trod_step] at hf ⊢
      unfold DataW.trodStep at hf ⊢
      simp only [ht] at hf ⊢
      exact hf
  · obtain ⟨hrl, hr⟩ := hsp rfl
    refine ⟨n + 1, ?_⟩
    rw [hcs] at hf ⊢
    rw [DataW.trod_step] at hf ⊢
    unfold DataW.trodStep at hf ⊢
    simp only [ht] at hf ⊢
    rw [if_pos ⟨h0, hl, hm⟩] at hf ⊢
    rw [← hf]
    by_cases hc0 : cap = 0
    · subst hc0
      obtain rfl : len = 0 := by omega
      simp
    · have hbl : a.block < W.heap.size := by
        have : ∃ i y, (W.cells? 0 (a.add (i * P.cellsOf e)) (P.cellsOf e)).bind (DataW.trod enc P W 0 (fun _ => true) true n e) = some y := by
          by_cases h1 : 0 < len
          · exact ⟨0, elems[0]'(by omega), by rw [hel 0 h1, List.getElem?_eq_getElem (by omega)]⟩
          · exact ⟨len + 0, rest[0]'(by omega), by rw [hr 0 (by omega), List.getElem?_eq_getElem (by omega)]⟩
        obtain ⟨i, y, hy⟩ := this
        obtain ⟨cs, h1, _⟩ := Option.bind_eq_some_iff.1 hy
        unfold World.cells? at h1
        rw [if_pos (Nat.zero_le _)] at h1
        obtain ⟨k, hk⟩ : ∃ k, P.cellsOf e = k + 1 := ⟨P.cellsOf e - 1, by omega⟩
        rw [hk, List.range_succ_eq_map, List.mapM_cons] at h1
        cases h2 : W.cell? ((a.add (i * (k + 1))).add 0) with
        | none => rw [h2] at h1; simp at h1
        | some c =>
          unfold World.cell? at h2
          have hbk : ((a.add (i * (k + 1))).add 0).block = a.block := by rw [block_add, block_add]
          rw [hbk] at h2
          split at h2
          · rename_i hh; exact (Array.getElem?_eq_some_iff.1 hh).1
          · cases h2
      have el : ∀ i, (W'.cells? 0 (a.add (i * P.cellsOf e)) (P.cellsOf e)).bind (DataW.trod enc P W' 0 (fun b => decide (b < W.heap.size)) true n e) = (W.cells? 0 (a.add (i * P.cellsOf e)) (P.cellsOf e)).bind (DataW.trod enc P W 0 (fun _ => true) true n e) := by
        intro i
        have h1 : W'.cells? 0 (a.add (i * P.cellsOf e)) (P.cellsOf e) = W.cells? 0 (a.add (i * P.cellsOf e)) (P.cellsOf e) := by
          unfold World.cells?
          rw [if_pos (Nat.zero_le _), if_pos (Nat.zero_le _)]
          exact mapM_same _ fun j _ => cell_below hb (by rw [block_add, block_add]; exact hbl)
        rw [h1]
        congr 1
        funext cs
        exact pe enc W' W 0 _ _ true n cs
      simp only [el, hbl, decide_true, if_true]
def SlArgK (k : Nat) (W : World) (val : Value) (len : Nat) (zs : List Int) : Prop := (val = .slice none 0 0 ∧ len = 0 ∧ zs = []) ∨ ∃ (b off cap : Nat), val = .slice (some ⟨b, off, none⟩) len cap ∧ len ≤ cap ∧ zs.length = cap * k ∧
  (∀ i (hi : i < zs.length), W.cell? ⟨b, off + i, none⟩ = some (.int .i64 zs[i])) ∧ ∀ i, i < zs.length → W.frozen? ⟨b, off + i, none⟩ = false
def Srk (k : Nat) (h : H) (v : V) (len : Nat) (cs0 : List V) : Prop := (v = .sn ∧ len = 0 ∧ cs0 = []) ∨ ∃ id off m cs, v = .sl id off len k ∧ (h.get id = .cells m cs ∨ h.get id = .rom m cs) ∧ cs.length = m ∧ off + len * k ≤ m ∧ (cs.drop off).take (len * k) = cs0
theorem Srk.lt {k len : Nat} {h : H} {v : V} {cs0 : List V} (hs : Srk k h v len cs0) (hc : HC h) : ∀ id off n sz, v = .sl id off n sz → id.nat < h.nx.nat := by
  rcases hs with ⟨rfl, _⟩ | ⟨id, off, m, cs, rfl, hb, _⟩
  · exact fun _ _ _ _ h => by cases h
  · exact fun _ _ _ _ h => by cases h; exact hc.lt (by rcases hb with hb | hb <;> rw [hb] <;> simp)
theorem Srk.grow {k len : Nat} {h h' : H} {v : V} {cs0 : List V} (hs : Srk k h v len cs0) (hc : HC h) (hg : Grow h.nx.nat h h') : Srk k h' v len cs0 := by
  have lt := hs.lt hc
  rcases hs with hs | ⟨id, off, m, cs, rfl, hb, hx⟩
  · exact .inl hs
  · exact .inr ⟨id, off, m, cs, rfl, by rw [hg.old id (lt _ _ _ _ rfl)]; exact hb, hx⟩
section
variable {Y : Rig} {ι : Io} {h : H} {W : World}
theorem Roms.addK (r : Roms Y ι h W) {k : Nat} (hk : 0 < k) {val : Value} {len : Nat} {zs : List Int} (ha : SlArgK k W val len zs) : ∃ ι' h' v, Roms Y ι' h' W ∧ Ext ι ι' ∧ VR ι' v val ∧ Srk k h' v len ((zs.take (len * k)).map iE) ∧ Grow h.nx.nat h h' := by
  rcases ha with ⟨rfl, rfl, rfl⟩ | ⟨b, off, cap, rfl, hlen, hzl, hcell, hfro⟩
  · exact ⟨ι, h, .sn, r, Ext.refl _, .sn, .inl ⟨rfl, rfl, by simp⟩, Grow.refl _ _⟩
  -- all its numbers, as a slice of numbers
  have ha1 : SlArg W (.slice (some ⟨b, off, none⟩) zs.length zs.length) zs := .inr ⟨b, off, zs.length, zs, rfl, Nat.le_refl _, by rw [List.take_length], hcell, hfro⟩
  have hkk : len * k ≤ cap * k := Nat.mul_le_mul_right k hlen
  by_cases hz : zs.length = 0
  · have hc0 : cap = 0 := by
      rw [hz] at hzl
      rcases Nat.mul_eq_zero.1 hzl.symm with h | h
      · exact h
      · omega
    subst hc0
    obtain rfl : len = 0 := by omega
    obtain rfl := List.length_eq_zero_iff.1 hz
    have g : Grow h.nx.nat h (h.new (.rom 0 [])) := Grow.new (Nat.le_refl _) _
    refine ⟨ι, h.new (.rom 0 []), .sl h.nx 0 0 k, ⟨r.wr.more (HX.new h _), g.hc r.hc, fun id q hq => ?_⟩, Ext.refl _, .sl0, .inr ⟨h.nx, 0, 0, [], rfl, .inr get_new_same, rfl, by simp, by simp⟩, g⟩
    have : id.nat < h.nx.nat := by
      rcases Nat.lt_or_ge id.nat h.nx.nat with h1 | h1
      · exact h1
      · rw [r.wr.fresh id h1] at hq; cases hq
    rw [get_new_old this]
    exact r.all id q hq
  · obtain ⟨ι', h', v, r', x, vr, sr, g⟩ := r.add ha1
    rcases sr with ⟨_, e⟩ | ⟨id, off', m, cs, rfl, hb, hl, hm, hx⟩
    · rw [e] at hz; exact absurd rfl hz
    · obtain ⟨q, hq, hcap, eb⟩ : ∃ q, ι' id = some q ∧ off' + zs.length * 1 ≤ q.room ∧ (⟨b, off, none⟩ : Addr) = ⟨q.b, q.base + off', none⟩ := by
        generalize hn : zs.length = n at vr
        generalize hval : Value.slice (some ⟨b, off, none⟩) n n = val at vr
        cases vr with
        | sl hq hcap hn' h0 => cases hval; exact ⟨_, hq, hcap, rfl⟩
        | sl0 => omega
      rw [eb]
      refine ⟨ι', h', .sl id off' len k, r', x, ?_, .inr ⟨id, off', m, cs, rfl, hb, hl, by omega, ?_⟩, g⟩
      · refine VR.sl (c := cap) hq ?_ hlen hk
        rw [← hzl]; simpa using hcap
      · apply List.ext_getElem?
        intro i
        rw [List.getElem?_take, List.getElem?_map]
        by_cases hi : i < len * k
        · rw [if_pos hi, List.getElem?_drop, hx i (by omega), List.getElem?_take, if_pos hi, List.getElem?_eq_getElem (by omega)]; rfl
        · rw [if_neg hi, List.getElem?_take, if_neg hi]; rfl
end
theorem trod_array2 {H : Type} {enc : TypeId × Value → H} {P : Program} {w : World} {base : Nat} {spare : Nat → Bool} {held : Bool} {t e : TypeId} {fuel : Nat} {c0 c1 : Value} {x : DataW H × List MemPlace} (ht : P.underlying t = some (.array 2 e)) (hce : P.cellsOf e = 1)
    (h : DataW.trod enc P w base spare held fuel t [c0, c1] = some x) : ∃ y0 y1 n, DataW.trod enc P w base spare held n e [c0] = some y0 ∧ DataW.trod enc P w base spare held n e [c1] = some y1 := by
  cases fuel with
  | zero => simp [DataW.trod] at h
  | succ n =>
    unfold DataW.trod at h
    rw [ht] at h
    have r2 : List.range 2 = [0, 1] := rfl
    simp [r2, hce] at h
    obtain ⟨_, h⟩ := h
    cases h0 : DataW.trod enc P w base spare held n e [c0] with
    | none => simp [h0] at h
    | some y0 =>
      cases h1 : DataW.trod enc P w base spare held n e [c1] with
      | none => simp [h0, h1] at h
      | some y1 => exact ⟨y0, y1, n, h0, h1⟩
theorem cells2_of {w : World} {A : Addr} {cs : List Value} (h : w.cells? 0 A 2 = some cs) : ∃ c0 c1, cs = [c0, c1] ∧ w.cell? (A.add 0) = some c0 ∧ w.cell? (A.add 1) = some c1 := by
  unfold World.cells? at h
  rw [if_pos (Nat.zero_le _), show List.range 2 = [0, 1] from rfl] at h
  cases h0 : w.cell? (A.add 0) with
  | none => simp [List.mapM_cons, h0] at h
  | some c0 =>
    cases h1 : w.cell? (A.add 1) with
    | none => simp [List.mapM_cons, h0, h1] at h
    | some c1 => simp [List.mapM_cons, h0, h1] at h; exact ⟨c0, c1, h.symm, rfl, rfl⟩
def numZ (c : Option Value) : Int := match c with | some (.int _ n) => n | _ => 0
end Go.Ev
namespace Go.Ev
open Go Go.RowKit Go.ChangeShapes Go.WideShapes Go.ChangeAt
def qE (x : Int × Int) : List V := [.i .i64 x.1, .i .i64 x.2]
theorem qE_len : ∀ x, (qE x).length = 2 := fun _ => rfl
theorem flat_drop {α : Type} {k : Nat} {e : α → List V} (he : ∀ x, (e x).length = k) : ∀ (L : List α) (i : Nat) (hi : i < L.length), ((L.flatMap e).drop (i * k)).take k = e L[i]
  | [], i, hi => absurd hi (Nat.not_lt_zero _)
  | x :: L, 0, _ => by rw [List.flatMap_cons, Nat.zero_mul, List.drop_zero, ← he x, List.take_left]; rfl
  | x :: L, i + 1, hi => by
    rw [List.flatMap_cons, show (i + 1) * k = (e x).length + i * k by rw [he, Nat.add_mul]; omega, List.drop_length_add_append, flat_drop he L i (by simpa using hi)]; rfl
def Srp (h : H) (v : V) (L : List (Int × Int)) : Prop := Srk 2 h v L.length (L.flatMap qE)
section
variable {h h' : H} {v : V} {L : List (Int × Int)}
theorem Srp.len (hs : Srp h v L) (h1 : H) : lenV v h1 = .ok (.i .i64 (L.length : Int)) h1 := by
  rcases hs with ⟨rfl, h0, _⟩ | ⟨id, off, m, cs, rfl, _⟩
  · rw [h0]; rfl
  · rfl
theorem Srp.grow (hs : Srp h v L) (hc : HC h) (hg : Grow h.nx.nat h h') : Srp h' v L := Srk.grow hs hc hg
theorem loadn_r {h : H} {id : K} {m n off : Nat} {cs : List V} (hb : h.get id = .cells m cs ∨ h.get id = .rom m cs) (hm : off + n ≤ m) : loadV h (.p id off) (many? n) = .ok (.agg (takeN n (dropN off cs))) h := by
  show okv ((h.get id).onC none fun m cs => many? n cs m off) h = _
  have e : many? n cs m off = some (.agg (takeN n (dropN off cs))) := by
    show (bif Nat.ble (off + n) m then some _ else none) = _
    rw [Nat.ble_eq_true_of_le hm]; rfl
  rcases hb with hb | hb <;> rw [hb] <;> show okv (many? n cs m off) h = _ <;> rw [e] <;> rfl
theorem Srp.at2 (hs : Srp h v L) {i : Nat} (hi : i < L.length) : ∃ id q, (∀ k h1, iadsV 2 v (.i k (i : Int)) h1 = .ok (.p id q) h1) ∧ loadV h (.p id q) (many? 2) = .ok (.agg [.i .i64 L[i].1, .i .i64 L[i].2]) h ∧ loadV h (.p id (q + 0 * 1)) one? = .ok (.i .i64 L[i].1) h ∧ loadV h (.p id (q + 1 * 1)) one? = .ok (.i .i64 L[i].2) h := by
  rcases hs with ⟨rfl, h0, _⟩ | ⟨id, off, m, cs, rfl, hb, hl, hm, hx⟩
  · omega
  · have h1 := flat_drop qE_len L i hi
    rw [← hx, List.drop_take, List.take_take, List.drop_drop, Nat.min_eq_left (by omega)] at h1
    refine ⟨id, off + i * 2, fun k h1 => ?_, ?_, ?_, ?_⟩
    · rw [iads_sl, idx_n hi]
    · rw [loadn_r hb (by omega), takeN_eq, dropN_eq, h1]; rfl
    · refine load_r hb ?_
      rw [nth_eq]
      have := congrArg (fun l => l[0]?) h1
      simp only [List.getElem?_take, List.getElem?_drop] at this
      simpa [qE] using this
    · refine load_r hb ?_
      rw [nth_eq]
      have := congrArg (fun l => l[1]?) h1
      simp only [List.getElem?_take, List.getElem?_drop] at this
      simpa [qE] using this
end
theorem inR_of {z : Int} (h : (Lit.int .i64 z).wf = true) : inR .i64 z = true := by
  have h : (decide (IntKind.min .i64 ≤ z) && decide (z ≤ IntKind.max .i64)) = true := h
  rw [Bool.and_eq_true, decide_eq_true_eq, decide_eq_true_eq] at h
  have h1 : -9223372036854775808 ≤ z := h.1
  have h2 : z ≤ 9223372036854775807 := h.2
  cases z with
  | ofNat m => exact Nat.ble_eq_true_of_le (by show m ≤ 9223372036854775807; have : Int.ofNat m = (m : Int) := rfl; omega)
  | negSucc m => exact Nat.ble_eq_true_of_le (by show m + 1 ≤ 9223372036854775808; omega)
theorem trod_iw {H : Type} {enc : TypeId × Value → H} {P : Program} {w : World} {base : Nat} {spare : Nat → Bool} {held : Bool} {e : TypeId} {fuel : Nat} {c : Value} {x : DataW H × List MemPlace} (he : P.underlying e = some (.int .i64))
    (h : DataW.trod enc P w base spare held fuel e [c] = some x) : ∃ z, c = .int .i64 z ∧ inR .i64 z = true := by
  cases fuel with
  | zero => simp [DataW.trod] at h
  | succ n =>
    rw [DataW.trod_step] at h
    unfold DataW.trodStep at h
    simp only [he] at h
    cases c <;> simp only [reduceCtorEq] at h
    rename_i k' z
    split at h
    · rename_i hk; exact ⟨z, by rw [hk.1], inR_of hk.2⟩
    · cases h
theorem trod_slArg2w {H : Type} {enc : TypeId × Value → H} {P : Program} {W : World} {base : Nat} {t e i : TypeId} (ht : P.underlying t = some (.slice e)) (he : P.underlying e = some (.array 2 i)) (hi : P.underlying i = some (.int .i64)) (hci : P.cellsOf i = 1) (hce : P.cellsOf e = 2) {v : Value} {d : DataW H} {p ps : List MemPlace}
    (hval : Value.okWide P W .any base t v) (hd : DataW.Trod enc P W 0 (fun _ => true) true t v d p) (hps : ∀ x ∈ p, x ∈ ps) (hnf : W.noneFrozen ps) :
    ∃ len zs, SlArgK 2 W v len zs ∧ (∀ z ∈ zs, inR .i64 z = true) ∧ ∀ W', Below W.heap.size W W' → DataW.Trod enc P W' 0 (fun b => decide (b < W.heap.size)) true t v d p := by
  have back : ∀ W', Below W.heap.size W W' → DataW.Trod enc P W' 0 (fun b => decide (b < W.heap.size)) true t v d p := fun W' hb => trod_slice_frame ht (plain_arr he (plain_int hi)) (by omega) hb hd
  obtain ⟨ao, len0, cap0, rfl⟩ := okWide_slice ht hval
  obtain ⟨fuel, hf⟩ := hd
  have hcells : (Value.slice ao len0 cap0).cells.toList = [.slice ao len0 cap0] := rfl
  rw [hcells] at hf
  rcases DataW.trod_slice ht hf with ⟨hcs, hx⟩ | ⟨a, len, cap, elems, rest, n, rfl, hcs, hx, h0, hl, hm, hlen, hel, hsp, _⟩
  · cases hcs
    exact ⟨0, [], .inl ⟨rfl, rfl, rfl⟩, fun z hz => (by cases hz), back⟩
  · cases hcs
    cases hx
    obtain ⟨hrl, hr⟩ := hsp rfl
    have hspot : a.spot = none := by
      simp only [Value.okWide, ht, Cell.okWide, Cell.ok] at hval
      exact hval.2.2.2.1
    obtain ⟨b, off, sp⟩ := a
    have hspot : sp = none := hspot
    subst hspot
    have el : ∀ j, j < cap0 → ∃ y, (W.cells? 0 ((⟨b, off, none⟩ : Addr).add (j * 2)) 2).bind (DataW.trod enc P W 0 (fun _ => true) true n e) = some y := by
      intro j hj
      rw [hce] at hel hr
      by_cases h1 : j < len0
      · exact ⟨elems[j]'(by omega), by rw [hel j h1, List.getElem?_eq_getElem (by omega)]⟩
      · refine ⟨rest[j - len0]'(by omega), ?_⟩
        have := hr (j - len0) (by omega)
        rw [show len0 + (j - len0) = j by omega] at this
        rw [this, List.getElem?_eq_getElem (by omega)]
    have cell : ∀ j, j < cap0 * 2 → ∃ z, W.cell? ((⟨b, off, none⟩ : Addr).add j) = some (.int .i64 z) ∧ inR .i64 z = true := by
      intro j hj
      obtain ⟨y, hy⟩ := el (j / 2) (by omega)
      obtain ⟨cs, h1, h2⟩ := Option.bind_eq_some_iff.1 hy
      obtain ⟨c0, c1, rfl, q0, q1⟩ := cells2_of h1
      obtain ⟨y0, y1, n', r0, r1⟩ := trod_array2 he hci h2
      obtain ⟨z0, rfl, w0⟩ := trod_iw hi r0
      obtain ⟨z1, rfl, w1⟩ := trod_iw hi r1
      rw [add_lit', add_lit'] at q0 q1
      rcases Nat.mod_two_eq_zero_or_one j with h | h
      · refine ⟨z0, ?_, w0⟩
        rw [add_lit', ← q0]
        have : j = j / 2 * 2 := by omega
        rw [Nat.add_zero, ← this]
      · refine ⟨z1, ?_, w1⟩
        rw [add_lit', ← q1]
        rw [show off + j / 2 * 2 + 1 = off + j by omega]
    refine ⟨len0, (List.range (cap0 * 2)).map fun j => numZ (W.cell? ⟨b, off + j, none⟩), .inr ⟨b, off, cap0, rfl, hl, by simp, fun j hj => ?_, fun j hj => ?_⟩, fun z hz => ?_, back⟩
    · have hj : j < cap0 * 2 := by simpa using hj
      obtain ⟨z, hz, _⟩ := cell j hj
      rw [add_lit'] at hz
      have hz : W.cell? ⟨b, off + j, none⟩ = some (.int .i64 z) := hz
      rw [List.getElem_map, List.getElem_range, hz]; rfl
    · have hj : j < cap0 * 2 := by simpa using hj
      refine hnf b (off + j) (hps _ (List.mem_append_left _ ?_))
      unfold MemPlace.row
      rw [List.mem_map]
      exact ⟨j, by rw [List.mem_range, hce]; omega, rfl⟩
    · obtain ⟨j, hj, rfl⟩ := List.mem_map.1 hz
      obtain ⟨z, hz, hw⟩ := cell j (List.mem_range.1 hj)
      rw [add_lit'] at hz
      have hz : W.cell? ⟨b, off + j, none⟩ = some (.int .i64 z) := hz
      rw [hz]; exact hw
def pairsOf (len : Nat) (zs : List Int) : List (Int × Int) := (List.range len).map fun i => (zs.getD (i * 2) 0, zs.getD (i * 2 + 1) 0)
theorem pairsOf_len {len : Nat} {zs : List Int} : (pairsOf len zs).length = len := by simp [pairsOf]
theorem pairsOf_flat : ∀ (len : Nat) {zs : List Int}, len * 2 ≤ zs.length → (pairsOf len zs).flatMap qE = (zs.take (len * 2)).map iE
  | 0, zs, _ => by simp [pairsOf]
  | len + 1, zs, h => by
    have ih := pairsOf_flat len (zs := zs) (by omega)
    unfold pairsOf at ih ⊢
    rw [List.range_succ, List.map_append, List.flatMap_append, ih, show (len + 1) * 2 = len * 2 + 1 + 1 by omega, List.take_succ_eq_append_getElem (by omega), List.take_succ_eq_append_getElem (by omega), List.map_append, List.map_append, List.append_assoc]
    congr 1
    simp only [List.map_cons, List.map_nil, List.flatMap_cons, List.flatMap_nil, List.append_nil, qE, iE, List.getD, List.getElem?_eq_getElem (show len * 2 < zs.length by omega), List.getElem?_eq_getElem (show len * 2 + 1 < zs.length by omega), Option.getD_some, List.singleton_append]
theorem SlArgK.le {k len : Nat} {W : World} {v : Value} {zs : List Int} (h : SlArgK k W v len zs) : len * k ≤ zs.length := by
  rcases h with ⟨_, rfl, rfl⟩ | ⟨b, off, cap, _, h1, h2, _⟩
  · simp
  · rw [h2]; exact Nat.mul_le_mul_right _ h1
theorem Srk.srp {h : H} {v : V} {len : Nat} {zs : List Int} (hs : Srk 2 h v len ((zs.take (len * 2)).map iE)) (hl : len * 2 ≤ zs.length) : Srp h v (pairsOf len zs) := by
  unfold Srp
  rw [pairsOf_len, pairsOf_flat len hl]; exact hs
theorem Srp.beq {h : H} {v : V} {L : List (Int × Int)} (hs : Srp h v L) : beqV v v = true := by
  rcases hs with ⟨rfl, _⟩ | ⟨id, off, m, cs, rfl, _⟩
  · rfl
  · show (id.beq id && Nat.beq off off && Nat.beq L.length L.length && Nat.beq 2 2) = true
    rw [K.beq_refl, Nat.beq_same, Nat.beq_same]; rfl
/-! ### More rules -/
section
variable {fs : T EF} {fr : Fr} {h : H} {x y z : EO} {k : K}
theorem stay_ldn {n : Nat} : (stays fs goNo fr h ⟨some k, none, .ldn n x⟩ = true) = again (loadV h (ev fr x) (many? n)) (getV (fr.get k)) := chk_again
theorem stay_iadr {n sz : Nat} : (stays fs goNo fr h ⟨some k, none, .iadr n sz x y⟩ = true) = again ((ev fr x).onP fun id off => idxV (ev fr y) n fun m => .ok (.p id (off + m * sz)) h) (getV (fr.get k)) := chk_again
theorem fill_2 {x y : EO} {z1 z2 : V} : fillE fr [z1, z2] [(0, 1, x), (1, 1, y)] = oGet (cellsN 1 (ev fr x)) none fun cs => oGet (cellsN 1 (ev fr y)) none fun ds => some (setMany (setMany [z1, z2] 0 cs) 1 ds) := of_eq_true (eq_self _)
theorem set_2 {z1 z2 a b : V} : setMany (setMany [z1, z2] 0 [a]) 1 [b] = [a, b] := of_eq_true (eq_self _)
theorem beq_2 {a b : Int} : beqV (.agg [.i .i64 a, .i .i64 b]) (.agg [.i .i64 a, .i .i64 b]) = true := by
  show (beq1 (.i .i64 a) (.i .i64 a) && (beq1 (.i .i64 b) (.i .i64 b) && true)) = true
  have h : ∀ n : Int, beq1 (.i .i64 n) (.i .i64 n) = true := fun n => by
    show (IntKind.i64 == IntKind.i64 && ieq n n) = true
    rw [ieq_eq]; simp
  rw [h, h]; rfl
theorem ix2_0 {kk : IntKind} {f : Nat → RV} : idxV (.i kk 0) 2 f = f 0 := of_eq_true (eq_self _)
theorem ix2_1 {kk : IntKind} {f : Nat → RV} : idxV (.i kk 1) 2 f = f 1 := of_eq_true (eq_self _)
theorem of5 : Int.ofNat 5 = 5 := of_eq_true (eq_self _)
theorem of7 : Int.ofNat 7 = 7 := of_eq_true (eq_self _)
theorem of9 : Int.ofNat 9 = 9 := of_eq_true (eq_self _)
theorem of16 : Int.ofNat 16 = 16 := of_eq_true (eq_self _)
end
end Go.Ev
namespace Go.Ev
open Go Go.RowKit
section
variable {fs : T EF}
end
end Go.Ev
namespace Go.Ev
open Go Go.RowKit
section
variable {h h' : H} {v u : V} {L : List (Int × Int)} {b : Nat}
theorem flat_get : ∀ {L : List (Int × Int)} {t : Nat}, (L.flatMap qE)[t]? = (L[t / 2]?).map fun p => if t % 2 = 0 then iE p.1 else iE p.2
  | [], t => by simp
  | x :: L, 0 => rfl
  | x :: L, 1 => rfl
  | x :: L, t + 2 => by
    rw [List.flatMap_cons]
    show (V.i .i64 x.1 :: V.i .i64 x.2 :: L.flatMap qE)[t + 2]? = _
    rw [List.getElem?_cons_succ, List.getElem?_cons_succ, flat_get (L := L) (t := t), show (t + 2) / 2 = t / 2 + 1 by omega, List.getElem?_cons_succ, show (t + 2) % 2 = t % 2 by omega]
theorem set_get {cs : List V} {p : Nat} {a b : V} (hp : p + 2 ≤ cs.length) {q : Nat} : (setMany cs p [a, b])[q]? = if q = p then some a else if q = p + 1 then some b else cs[q]? := by
  rw [setMany_eq _ _ _ (by simpa using hp)]
  rcases Nat.lt_trichotomy q p with h1 | h1 | h1
  · rw [List.append_assoc, List.getElem?_append_left (by simp; omega), List.getElem?_take, if_pos h1, if_neg (by omega), if_neg (by omega)]
  · subst h1
    rw [List.append_assoc, List.getElem?_append_right (by simp; omega), if_pos rfl]; simp
    have : min q cs.length = q := by omega
    rw [this]; simp
  · rw [if_neg (by omega)]
    by_cases h2 : q = p + 1
    · subst h2
      rw [if_pos rfl, List.append_assoc, List.getElem?_append_right (by simp; omega)]; simp
      have : p + 1 - min p cs.length = 1 := by omega
      rw [this]; simp
    · rw [if_neg h2, List.getElem?_append_right (by simp; omega)]
      simp
      rw [show p + 2 + (q - (min p cs.length + 2)) = q by omega]
theorem Sk.st2 (hs : Sk 2 qE h v L) {i : Nat} (hi : i < L.length) {x : Int × Int} (hhc : HC h) :
    ∃ p id m cs', (∀ k h1, iadsV 2 v (.i k (i : Int)) h1 = .ok p h1) ∧ storeV h 2 p (.agg [.i .i64 x.1, .i .i64 x.2]) = .ok undefV (h.put id (.cells m cs')) ∧ Sk 2 qE (h.put id (.cells m cs')) v (L.set i x) ∧ (∃ off n sz, v = .sl id off n sz) ∧ id.nat < h.nx.nat := by
  rcases hs with ⟨rfl, rfl⟩ | ⟨id, off, m, cs, rfl, hb, hl, hm, hx⟩
  · simp at hi
  · have hin : i * 2 + 2 ≤ L.length * 2 := by omega
    refine ⟨.p id (off + i * 2), id, m, setMany cs (off + i * 2) [.i .i64 x.1, .i .i64 x.2], fun k h1 => ?_, ?_, ?_, ⟨off, L.length, 2, rfl⟩, hhc.cells hb⟩
    · rw [iads_sl, idx_n hi]
    · exact store_p hb cells2 (by omega)
    · refine .inr ⟨id, off, m, _, by rw [List.length_set], get_put_same, ?_, by rw [List.length_set]; exact hm, ?_⟩
      · rw [setMany_eq _ _ _ (by simp; omega)]; simp; omega
      · rw [List.length_set]
        apply List.ext_getElem?
        intro t
        rw [List.getElem?_take, flat_get]
        by_cases ht : t < L.length * 2
        · have h0 := congrArg (fun l => l[t]?) hx
          simp only [List.getElem?_take, if_pos ht, List.getElem?_drop, flat_get] at h0
          rw [if_pos ht, List.getElem?_drop, set_get (by omega), List.getElem?_set]
          by_cases e1 : t = i * 2
          · subst e1
            rw [if_pos rfl, show i * 2 / 2 = i by omega, if_pos rfl, if_pos hi]
            simp [iE]
          · by_cases e2 : t = i * 2 + 1
            · subst e2
              rw [if_neg (by omega), if_pos (by omega), show (i * 2 + 1) / 2 = i by omega, if_pos rfl, if_pos hi]
              simp [iE]
            · rw [if_neg (by omega), if_neg (by omega), if_neg (by omega), h0]
        · rw [if_neg ht, List.getElem?_eq_none (by simp; omega)]; rfl
theorem rep_flat {x : Int × Int} : ∀ n, rep (qE x) n = (List.replicate n x).flatMap qE
  | 0 => rfl
  | n + 1 => by
    show cat (qE x) (rep (qE x) n) = _
    rw [cat_eq, rep_flat n, List.replicate_succ, List.flatMap_cons]
theorem mks_p {k : IntKind} {n : Nat} (hn : n ≤ 1000000) : mksV 2 [.i .i64 0, .i .i64 0] h (.i k (n : Int)) = .ok (.sl h.nx 0 n 2) (h.new (.cells (n * 2) (rep (qE (0, 0)) n))) := by
  show (bif Nat.ble n 1000000 then RV.ok (.sl h.nx 0 n 2) (h.new (.cells (n * 2) (rep (qE (0, 0)) n))) else .no) = _
  rw [Nat.ble_eq_true_of_le hn]; rfl
theorem mksp_sl {n : Nat} : Sk 2 qE (h.new (.cells (n * 2) (rep (qE (0, 0)) n))) (.sl h.nx 0 n 2) (List.replicate n (0, 0)) :=
  .inr ⟨h.nx, 0, n * 2, _, by simp, get_new_same, by rw [rep_flat, flat_len qE_len]; simp, by simp, by rw [rep_flat, List.drop_zero, List.take_of_length_le (by rw [flat_len qE_len]; simp)]⟩
/-! ### Slices of slices of pairs -/
def vE (u : V) : V := u
structure Sll (h : H) (v : V) (us : List V) (Ls : List (List (Int × Int))) : Prop where
  len : us.length = Ls.length
  out : Sl vE h v us
  inn : ∀ i (h1 : i < us.length) (h2 : i < Ls.length), Srp h us[i] Ls[i]
  sep : ∀ u ∈ us, ∀ id off n sz, u = .sl id off n sz → NotIn id v
section
variable {us : List V} {Ls : List (List (Int × Int))}
theorem Sll.grow (s : Sll h v us Ls) (hc : HC h) (hg : Grow h.nx.nat h h') : Sll h' v us Ls := ⟨s.len, s.out.grow hc hg, fun i h1 h2 => (s.inn i h1 h2).grow hc hg, s.sep⟩
theorem Srp.old {L : List (Int × Int)} (hs : Srp h v L) (hg : ∀ id off n sz, v = .sl id off n sz → h'.get id = h.get id) : Srp h' v L := by
  rcases hs with hs | ⟨id, off, m, cs, rfl, hb, hx⟩
  · exact .inl hs
  · exact .inr ⟨id, off, m, cs, rfl, by rw [hg _ _ _ _ rfl]; exact hb, hx⟩
end
end
end Go.Ev
namespace Go.Ev
section
variable {h h' : H} {v u : V} {L M : List (Int × Int)}
theorem Srp.cut {u : Nat} {kk : IntKind} (hs : Srp h v L) (h2 : u ≤ L.length) : ∃ v', (∀ h1, sliceB 2 v none (some (.i kk (u : Int))) none h1 = .ok v' h1) ∧ Srp h v' (L.take u) ∧ (∀ b, Own b v → Own b v') := by
  rcases hs with ⟨rfl, h0, _⟩ | ⟨id, off, m, cs, rfl, hb, hll, hm, hx⟩
  · have hu0 : u = 0 := by omega
    subst hu0
    exact ⟨.sn, fun h1 => rfl, .inl ⟨rfl, by simp, by simp⟩, fun _ h => h⟩
  · have hmul : u * 2 ≤ L.length * 2 := Nat.mul_le_mul_right 2 h2
    refine ⟨.sl id (off + 0 * 2) (u - 0) 2, fun h1 => ?_, .inr ⟨id, off + 0 * 2, m, cs, ?_, hb, hll, ?_, ?_⟩, fun b ho _ _ _ _ e => by cases e; exact ho _ _ _ _ rfl⟩
    · unfold sliceB
      show cutV id off L.length 2 h1 0 u none = _
      unfold cutV
      rw [Nat.ble_eq_true_of_le (Nat.zero_le u), Nat.ble_eq_true_of_le h2]; rfl
    · congr 1; simp; omega
    · rw [List.length_take, Nat.min_eq_left h2]; omega
    · rw [List.length_take, Nat.min_eq_left h2, ← flat_take qE_len L u h2, ← hx, List.take_take, Nat.min_eq_left hmul]; simp
theorem Srp.appN (hs : Srp h u M) (_ : HC h) (hn : M.length ≤ 16777216) : ∃ v' h', appV 2 h .sn u = .ok v' h' ∧ Sk 2 qE h' v' M ∧ Own h.nx.nat v' ∧ Grow h.nx.nat h h' := by
  have hadd : Go.Ev.addOf 2 h u = some (M.length, M.flatMap qE) := by
    rcases hs with ⟨rfl, h0, h1⟩ | ⟨id, off, m, cs, rfl, hb, hll, hm, hx⟩
    · rw [h1, h0]; rfl
    · show (h.get id).onC none (fun len cs => bif Nat.beq 2 2 && Nat.ble (off + M.length * 2) len then some (M.length, takeN (M.length * 2) (dropN off cs)) else none) = _
      have e0 : (h.get id).onC none (fun len cs => bif Nat.beq 2 2 && Nat.ble (off + M.length * 2) len then some (M.length, takeN (M.length * 2) (dropN off cs)) else none) = (bif Nat.beq 2 2 && Nat.ble (off + M.length * 2) m then some (M.length, takeN (M.length * 2) (dropN off cs)) else none) := by
        rcases hb with hb | hb <;> rw [hb] <;> rfl
      rw [e0, Nat.ble_eq_true_of_le hm, takeN_eq, dropN_eq, hx]; rfl
  unfold appV
  rw [hadd]
  show ∃ v' h', (bif Nat.ble M.length 16777216 then app0 2 h M.length (M.flatMap qE) else RV.no) = .ok v' h' ∧ _
  rw [Nat.ble_eq_true_of_le hn]
  show ∃ v' h', app0 2 h M.length (M.flatMap qE) = .ok v' h' ∧ _
  unfold app0
  by_cases hz : M.length = 0
  · have : M = [] := List.length_eq_zero_iff.1 hz
    subst this
    exact ⟨.sn, h, rfl, Sk.nil, Own.sn, Grow.refl _ _⟩
  · rw [show Nat.beq M.length 0 = false by rw [← Bool.not_eq_true]; intro h; exact hz (Nat.eq_of_beq_eq_true h)]
    exact ⟨_, _, rfl, .inr ⟨h.nx, 0, M.length * 2, M.flatMap qE, rfl, get_new_same, flat_len qE_len M, by omega, by rw [List.drop_zero, List.take_of_length_le (by rw [flat_len qE_len]; omega)]⟩, fun _ _ _ _ h => by cases h; exact Nat.le_refl _, Grow.new (Nat.le_refl _) _⟩
end
end Go.Ev
namespace Go.Ev
open Go Go.RowKit Go.ChangeShapes Go.WideShapes Go.ChangeAt
section
variable {Y : Rig} {ι : Io} {h : H} {W : World}
end
end Go.Ev
