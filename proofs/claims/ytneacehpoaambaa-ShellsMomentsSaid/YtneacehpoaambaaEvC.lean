/-
  The evaluator, part C: how the evaluator's values, memory and frames stand to the model's.
-/
import Derived.WalkKit
import Derived.CallsIn
import Derived.RangeFuncNested
import Derived.ArgAppend
import Derived.Sort.QuietThIn
import Derived.Test.YtneacehpoaambaaEvB
namespace Go.Ev
open Go Go.RowKit

theorem K.succ_nat : ∀ k : K, k.succ.nat = k.nat + 1
  | .e => rfl
  | .o k => by simp [K.succ, K.nat]
  | .z k => by simp [K.succ, K.nat, K.succ_nat k]; omega
theorem K.nat_inj : ∀ {k k' : K}, k.nat = k'.nat → k = k'
  | .e, .e, _ => rfl
  | .e, .o k, h => by simp [K.nat] at h
  | .e, .z k, h => by simp [K.nat] at h
  | .o k, .e, h => by simp [K.nat] at h
  | .z k, .e, h => by simp [K.nat] at h
  | .o k, .o k', h => by simp only [K.nat] at h; rw [K.nat_inj (show k.nat = k'.nat by omega)]
  | .z k, .z k', h => by simp only [K.nat] at h; rw [K.nat_inj (show k.nat = k'.nat by omega)]
  | .o k, .z k', h => by simp only [K.nat] at h; omega
  | .z k, .o k', h => by simp only [K.nat] at h; omega
theorem K.ofNat_nat : ∀ n : Nat, (K.ofNat n).nat = n
  | 0 => rfl
  | n + 1 => by simp [K.ofNat, K.succ_nat, K.ofNat_nat n]

section tables
variable {α : Type}
theorem T.get_nil (k : K) : T.get k (T.nil : T α) = none := by
  induction k with
  | e => rfl
  | o k ih => exact ih
  | z k ih => exact ih
theorem T.get_set (k k' : K) (x : α) : ∀ t : T α, T.get k' (T.set k x t) = if k' = k then some x else T.get k' t := by
  induction k generalizing k' with
  | e =>
    intro t
    cases k' with
    | e => rfl
    | o k' => rw [if_neg (by simp)]; rfl
    | z k' => rw [if_neg (by simp)]; rfl
  | o k ih =>
    intro t
    cases k' with
    | e => rw [if_neg (by simp)]; rfl
    | o k' =>
      have := ih k' t.left
      by_cases h : k' = k
      · subst h; simp only [if_true] at this ⊢; exact this
      · rw [if_neg h] at this; rw [if_neg (by simpa using h)]; exact this
    | z k' => rw [if_neg (by simp)]; rfl
  | z k ih =>
    intro t
    cases k' with
    | e => rw [if_neg (by simp)]; rfl
    | o k' => rw [if_neg (by simp)]; rfl
    | z k' =>
      have := ih k' t.right
      by_cases h : k' = k
      · subst h; simp only [if_true] at this ⊢; exact this
      · rw [if_neg h] at this; rw [if_neg (by simpa using h)]; exact this
end tables

theorem oGet_some {α β : Type} {o : Option α} {d : β} {f : α → β} {y : β} (hd : d ≠ y) (h : oGet o d f = y) : ∃ x, o = some x ∧ f x = y := by
  cases o with
  | none => exact absurd h hd
  | some x => exact ⟨x, rfl, h⟩

theorem nth_eq {α : Type} (l : List α) : ∀ n, nth l n = l[n]? := by
  induction l with
  | nil => intro n; rfl
  | cons x l ih => intro n; cases n with | zero => rfl | succ n => exact ih n
theorem dropN_eq {α : Type} (n : Nat) : ∀ l : List α, dropN n l = l.drop n := by
  induction n with
  | zero => intro l; rfl
  | succ n ih => intro l; cases l with | nil => rfl | cons x l => exact ih l
theorem takeN_eq {α : Type} (n : Nat) : ∀ l : List α, takeN n l = l.take n := by
  induction n with
  | zero => intro l; rfl
  | succ n ih => intro l; cases l with | nil => rfl | cons x l => exact congrArg (x :: ·) (ih l)
theorem cat_eq {α : Type} (l m : List α) : cat l m = l ++ m := by
  induction l with
  | nil => rfl
  | cons x l ih => exact congrArg (x :: ·) ih
theorem lenL_eq {α : Type} (l : List α) : lenL l = l.length := by
  induction l with
  | nil => rfl
  | cons x l ih => exact congrArg Nat.succ ih
theorem setMany_eq {α : Type} (l : List α) : ∀ (n : Nat) (ys : List α), n + ys.length ≤ l.length → setMany l n ys = l.take n ++ ys ++ l.drop (n + ys.length) := by
  induction l with
  | nil => intro n ys h; simp at h; obtain ⟨rfl, rfl⟩ := h; rfl
  | cons x l ih =>
    intro n ys h
    cases n with
    | zero =>
      cases ys with
      | nil => rfl
      | cons y ys =>
        have := ih 0 ys (by simp at h ⊢; omega)
        show y :: setMany l 0 ys = _
        rw [this]; simp
    | succ n =>
      have := ih n ys (by simp at h ⊢; omega)
      show x :: setMany l n ys = _
      rw [this]; simp [Nat.add_right_comm]

/-! ### The relation -/
structure Pl where
  b : Nat
  base : Nat
  room : Nat
abbrev Io := K → Option Pl

inductive VR (ι : Io) : V → Value → Prop
  | un (v : Value) : VR ι .un v
  | b (x : Bool) : VR ι (.b x) (.bool x)
  | i (k : IntKind) (n : Int) : VR ι (.i k n) (.int k n)
  | s (x : ByteArray) : VR ι (.s x) (.string x)
  | pn : VR ι .pn (.pointer none)
  | p {id : K} {off : Nat} {q : Pl} (h : ι id = some q) : VR ι (.p id off) (.pointer (some ⟨q.b, q.base + off, none⟩))
  | sn : VR ι .sn (.slice none 0 0)
  | sl {id : K} {off n sz c : Nat} {q : Pl} (h : ι id = some q) (hc : off + c * sz ≤ q.room) (hn : n ≤ c) (h0 : 0 < sz) : VR ι (.sl id off n sz) (.slice (some ⟨q.b, q.base + off, none⟩) n c)
  | sl0 {id : K} {off sz b o : Nat} : VR ι (.sl id off 0 sz) (.slice (some ⟨b, o, none⟩) 0 0)
  | mn : VR ι .mn (.map none)
  | m {id : K} {q : Pl} (h : ι id = some q) : VR ι (.m id) (.map (some q.b))
  | fn {f : K} {caps : List V} {vs : List Value} (hl : vs.length = caps.length) (h : ∀ (i : Nat) (h : i < caps.length) (h' : i < vs.length), VR ι caps[i] vs[i]) : VR ι (.fn f caps) (.func (.func f.nat) #[] vs.toArray)
  | yl {id : K} {q : Pl} (h : ι id = some q) : VR ι (.yl id) (.func (.yield q.b) #[] #[])
  | fnil : VR ι .fnil .nilFunc
  | inil : VR ι .inil .nilIface
  | ifc {t : Nat} {v : V} {v' : Value} (h : VR ι v v') : VR ι (.ifc t v) (.iface t v')
  | agg {cs : List V} {vs : List Value} (hl : vs.length = cs.length) (h : ∀ (i : Nat) (h : i < cs.length) (h' : i < vs.length), VR ι cs[i] vs[i]) (ho : ∀ c ∈ cs, c.one = true) : VR ι (.agg cs) (.agg vs.toArray)
  | tup {cs : List V} {vs : List Value} (hl : vs.length = cs.length) (h : ∀ (i : Nat) (h : i < cs.length) (h' : i < vs.length), VR ι cs[i] vs[i]) : VR ι (.tup cs) (.tuple vs.toArray)

structure VRs (ι : Io) (cs : List V) (vs : List Value) : Prop where
  len : vs.length = cs.length
  at_ : ∀ (i : Nat) (h : i < cs.length) (h' : i < vs.length), VR ι cs[i] vs[i]

def Ext (ι ι' : Io) : Prop := ∀ id q, ι id = some q → ι' id = some q
theorem Ext.refl (ι : Io) : Ext ι ι := fun _ _ h => h
theorem Ext.trans {a b c : Io} (h : Ext a b) (k : Ext b c) : Ext a c := fun id q hq => k id q (h id q hq)

theorem VR.mono {ι ι' : Io} (he : Ext ι ι') {v : V} {v' : Value} (h : VR ι v v') : VR ι' v v' := by
  induction h with
  | un v => exact .un v
  | b x => exact .b x
  | i k n => exact .i k n
  | s x => exact .s x
  | pn => exact .pn
  | p h => exact .p (he _ _ h)
  | sn => exact .sn
  | sl h hc hn h0 => exact .sl (he _ _ h) hc hn h0
  | sl0 => exact .sl0
  | mn => exact .mn
  | m h => exact .m (he _ _ h)
  | fn hl _ ih => exact .fn hl ih
  | yl h => exact .yl (he _ _ h)
  | fnil => exact .fnil
  | inil => exact .inil
  | ifc _ ih => exact .ifc ih
  | agg hl _ ho ih => exact .agg hl ih ho
  | tup hl _ ih => exact .tup hl ih
theorem VRs.mono {ι ι' : Io} (he : Ext ι ι') {cs : List V} {vs : List Value} (h : VRs ι cs vs) : VRs ι' cs vs := ⟨h.len, fun i h1 h2 => (h.at_ i h1 h2).mono he⟩

section lists
variable {ι : Io}
theorem VRs.nil : VRs ι [] [] := ⟨rfl, fun i h => absurd h (by simp)⟩
theorem VRs.cons {c : V} {v : Value} {cs : List V} {vs : List Value} (h : VR ι c v) (hs : VRs ι cs vs) : VRs ι (c :: cs) (v :: vs) :=
  ⟨by simp [hs.len], fun i h1 h2 => by cases i with | zero => exact h | succ i => exact hs.at_ i (by simpa using h1) (by simpa using h2)⟩
theorem VRs.inv_nil {vs : List Value} (h : VRs ι [] vs) : vs = [] := List.eq_nil_of_length_eq_zero h.len
theorem VRs.inv_cons {c : V} {cs : List V} {vs : List Value} (h : VRs ι (c :: cs) vs) : ∃ v vs', vs = v :: vs' ∧ VR ι c v ∧ VRs ι cs vs' := by
  obtain ⟨hl, ha⟩ := h
  match vs, hl with
  | v :: vs, hl => exact ⟨v, vs, rfl, ha 0 (by simp) (by simp), by simpa using hl, fun i h1 h2 => ha (i + 1) (by simpa using h1) (by simpa using h2)⟩
theorem VRs.append {cs ds : List V} {vs us : List Value} (h : VRs ι cs vs) (k : VRs ι ds us) : VRs ι (cs ++ ds) (vs ++ us) := by
  refine ⟨by simp [h.len, k.len], fun i h1 h2 => ?_⟩
  by_cases hi : i < cs.length
  · rw [List.getElem_append_left hi, List.getElem_append_left (by rw [h.len]; exact hi)]; exact h.at_ i hi _
  · rw [List.getElem_append_right (by omega), List.getElem_append_right (by rw [h.len]; omega)]
    simp only [h.len]
    exact k.at_ _ _ (by simp only [List.length_append, h.len] at h2; omega)
theorem VRs.take {cs : List V} {vs : List Value} (h : VRs ι cs vs) (n : Nat) : VRs ι (cs.take n) (vs.take n) :=
  ⟨by simp [h.len], fun i h1 h2 => by simp only [List.getElem_take]; exact h.at_ i _ _⟩
theorem VRs.drop {cs : List V} {vs : List Value} (h : VRs ι cs vs) (n : Nat) : VRs ι (cs.drop n) (vs.drop n) :=
  ⟨by simp [h.len], fun i h1 h2 => by simp only [List.getElem_drop]; exact h.at_ _ _ _⟩
theorem VRs.get? {cs : List V} {vs : List Value} (h : VRs ι cs vs) {n : Nat} {c : V} (hc : cs[n]? = some c) : ∃ v, vs[n]? = some v ∧ VR ι c v := by
  obtain ⟨h1, rfl⟩ := List.getElem?_eq_some_iff.1 hc
  have h2 : n < vs.length := by rw [h.len]; exact h1
  exact ⟨vs[n], by simp [h2], h.at_ n h1 h2⟩
theorem VRs.of {cs : List V} {vs : List Value} (hl : vs.length = cs.length) (h : ∀ (i : Nat) (h : i < cs.length) (h' : i < vs.length), VR ι cs[i] vs[i]) : VRs ι cs vs := ⟨hl, h⟩
theorem VR.aggs {cs : List V} {vs : List Value} (h : VRs ι cs vs) (ho : ∀ c ∈ cs, c.one = true) : VR ι (.agg cs) (.agg vs.toArray) := .agg h.len h.at_ ho
theorem VR.tups {cs : List V} {vs : List Value} (h : VRs ι cs vs) : VR ι (.tup cs) (.tuple vs.toArray) := .tup h.len h.at_
theorem VR.undef : VR ι undefV undef := VR.tups VRs.nil
end lists

theorem VR.oneCell {ι : Io} {v : V} {v' : Value} (h : VR ι v v') (ho : v.one = true) : v'.cells = #[v'] ∧ v'.oneCell' = true := by
  cases h <;> first | exact ⟨rfl, rfl⟩ | (exfalso; simp [V.one] at ho)

/-- A value's cells. -/
theorem cellsN_rel {ι : Io} {n : Nat} {v : V} {v' : Value} {cs : List V} (h : VR ι v v') (hc : cellsN n v = some cs) : ∃ vs, v'.cells.toList = vs ∧ VRs ι cs vs ∧ cs.length = n ∧ ∀ c ∈ cs, c.one = true := by
  have one : ∀ {v : V}, VR ι v v' → v.one = true → one1 n v = some cs → ∃ vs, v'.cells.toList = vs ∧ VRs ι cs vs ∧ cs.length = n ∧ ∀ c ∈ cs, c.one = true := by
    intro v h ho hc
    unfold one1 at hc
    cases hn : Nat.beq n 1 with
    | false => rw [hn] at hc; cases hc
    | true =>
      rw [hn] at hc
      cases hc
      have hn' : n = 1 := Nat.eq_of_beq_eq_true hn
      exact ⟨[v'], by rw [(h.oneCell ho).1], .cons h .nil, by simp [hn'], by simpa using ho⟩
  cases h with
  | agg hl hh ho =>
    rename_i cs' vs
    simp only [cellsN] at hc
    cases hn : Nat.beq (lenL cs') n with
    | false => rw [hn] at hc; cases hc
    | true =>
      rw [hn] at hc
      cases hc
      exact ⟨vs, by simp [Value.cells], ⟨hl, hh⟩, by rw [← lenL_eq]; exact Nat.eq_of_beq_eq_true hn, ho⟩
  | tup hl hh => simp [cellsN] at hc
  | un v => simp [cellsN] at hc
  | b x => exact one (.b x) rfl hc
  | i k n => exact one (.i k n) rfl hc
  | s x => exact one (.s x) rfl hc
  | pn => exact one .pn rfl hc
  | p h => exact one (.p h) rfl hc
  | sn => exact one .sn rfl hc
  | sl h a b c => exact one (.sl h a b c) rfl hc
  | sl0 => exact one .sl0 rfl hc
  | mn => exact one .mn rfl hc
  | m h => exact one (.m h) rfl hc
  | fn hl h => exact one (.fn hl h) rfl hc
  | yl h => exact one (.yl h) rfl hc
  | fnil => exact one .fnil rfl hc
  | inil => exact one .inil rfl hc
  | ifc h => exact one (.ifc h) rfl hc

def Ex.code : Ex → Option Code
  | .normal => none
  | .ret => some .ret
  | .exit id => some (.exit id)
def LS.of : LS → LoopState
  | .ready => .ready
  | .busy => .busy
  | .done => .done
  | .over => .exhausted

/-- A value of these kinds. -/
def fitC : CK → Value → Prop
  | none, v => ∃ b, v = .bool b
  | some k, v => ∃ n, v = .int k n
def fitV : KD → Value → Prop
  | .one c, v => fitC c v
  | .many cs, v => ∃ vs : List Value, v = .agg vs.toArray ∧ vs.length = cs.length ∧ ∀ (i : Nat) (h : i < cs.length) (h' : i < vs.length), fitC cs[i] vs[i]

/-- A frame's slots. -/
def FR (ι : Io) (fr : Fr) (tmps : Array Value) : Prop := ∀ k : K, VR ι (getV (fr.get k)) (tmps.getD k.nat undef)
theorem FR.mono {ι ι' : Io} (he : Ext ι ι') {fr : Fr} {tmps : Array Value} (h : FR ι fr tmps) : FR ι' fr tmps := fun k => (h k).mono he

/-- A block of the evaluator's, and the model's. -/
def BR (tab : Tab) (ι : Io) (q : Pl) (w : World) : Blk → Prop
  | .dead => True
  | .cells n cs => ∃ (cur : Array Value) (ty : TypeId), w.heap[q.b]? = some (.cells cur ty (0, 0)) ∧ cs.length = n ∧ cur.size = q.base + q.room ∧ n ≤ q.room ∧ (∀ c ∈ cs, c.one = true) ∧ VRs ι cs ((cur.toList.drop q.base).take n)
  | .map kt es => ∃ (ents : Array MapEntry) (clock : Nat), w.heap[q.b]? = some (.map ents clock) ∧ VRs ι (es.map (·.1)) (ents.toList.map (·.key)) ∧ VRs ι (es.map (·.2)) (ents.toList.map (·.val)) ∧ (ents.toList.map (·.key)).Nodup ∧ ∃ dk kd, tab kt = some dk ∧ dk.key = some kd ∧ ∀ x ∈ ents.toList, fitV kd x.key
  | .loop s j fr ps a c => ∃ (L : Loop) (nt : Nat), w.heap[q.b]? = some (.loop L) ∧ L.state = s.of ∧ L.pending = j.bind Ex.code ∧ FR ι fr L.tmps ∧ L.tmps.size = nt ∧ L.params.toList = ps.map K.nat ∧ (∀ p ∈ ps, p.nat < nt) ∧ comp tab nt L.assign = a ∧ comp tab nt L.body = c

theorem BR.mono {tab : Tab} {ι ι' : Io} {q : Pl} {w w' : World} {b : Blk} (he : Ext ι ι') (hw : w'.heap[q.b]? = w.heap[q.b]?) (h : BR tab ι q w b) : BR tab ι' q w' b := by
  cases b with
  | dead => trivial
  | cells n cs =>
    obtain ⟨cur, ty, h1, h2, h3, h4, h5, h6⟩ := h
    exact ⟨cur, ty, hw.trans h1, h2, h3, h4, h5, h6.mono he⟩
  | map kt es =>
    obtain ⟨ents, clock, h1, h2, h3, h4⟩ := h
    exact ⟨ents, clock, hw.trans h1, h2.mono he, h3.mono he, h4⟩
  | loop s j fr ps a c =>
    obtain ⟨L, nt, h1, h2, h3, h4, h5⟩ := h
    exact ⟨L, nt, hw.trans h1, h2, h3, h4.mono he, h5⟩

def live (h : H) (id : K) : Prop := h.get id ≠ .dead

structure WR (tab : Tab) (ι : Io) (h : H) (w : World) : Prop where
  blk : ∀ id q, ι id = some q → BR tab ι q w (h.get id)
  lt : ∀ id q, ι id = some q → q.b < w.heap.size
  inj : ∀ id id' q q', ι id = some q → ι id' = some q' → live h id → live h id' → q.b = q'.b → id = id'
  fresh : ∀ id, h.nx.nat ≤ id.nat → ι id = none

structure Step (n : Nat) (ι : Io) (w : World) (n' : Nat) (ι' : Io) (w' : World) : Prop where
  ext : Ext ι ι'
  new : ∀ id q, ι' id = some q → ι id = none → w.heap.size ≤ q.b ∨ ∃ id0 q0, ι id0 = some q0 ∧ q0.b = q.b
  keep : ∀ b, b < w.heap.size → (∀ id q, ι id = some q → q.b ≠ b) → w'.heap[b]? = w.heap[b]?
  os : w'.os = w.os
  tape : w'.tape = w.tape
  output : w'.output = w.output
  size : w.heap.size ≤ w'.heap.size
  mono : n ≤ n'
  low : ∀ id, id.nat < n → ι id = none → ι' id = none
theorem Step.refl (n : Nat) (ι : Io) (w : World) : Step n ι w n ι w := ⟨Ext.refl ι, fun id q h k => (by rw [h] at k; cases k), fun _ _ _ => rfl, rfl, rfl, rfl, Nat.le_refl _, Nat.le_refl _, fun _ _ h => h⟩
theorem Step.out {n n' : Nat} {ι ι' : Io} {w w' : World} (h : Step n ι w n' ι' w') {b : Nat} (hb : b < w.heap.size) (ho : ∀ id q, ι id = some q → q.b ≠ b) : ∀ id q, ι' id = some q → q.b ≠ b := fun id q hq e => by
  cases hi : ι id with
  | none =>
    rcases h.new id q hq hi with h1 | ⟨id0, q0, h1, h2⟩
    · omega
    · exact ho id0 q0 h1 (h2.trans e)
  | some q' =>
    have := h.ext id q' hi
    rw [hq] at this
    cases this
    exact ho id q hi e
theorem Step.trans {n n' n'' : Nat} {ι ι' ι'' : Io} {w w' w'' : World} (h : Step n ι w n' ι' w') (k : Step n' ι' w' n'' ι'' w'') : Step n ι w n'' ι'' w'' := by
  refine ⟨h.ext.trans k.ext, fun id q hq hi => ?_, fun b hb ho => (k.keep b (Nat.lt_of_lt_of_le hb h.size) (h.out hb ho)).trans (h.keep b hb ho), k.os.trans h.os, k.tape.trans h.tape, k.output.trans h.output, Nat.le_trans h.size k.size, Nat.le_trans h.mono k.mono, fun id hid hi => k.low id (Nat.lt_of_lt_of_le hid h.mono) (h.low id hid hi)⟩
  cases hi' : ι' id with
  | none =>
    rcases k.new id q hq hi' with h1 | ⟨id0, q0, h1, h2⟩
    · exact .inl (Nat.le_trans h.size h1)
    · cases hi0 : ι id0 with
      | none =>
        rcases h.new id0 q0 h1 hi0 with h3 | ⟨id1, q1, h3, h4⟩
        · exact .inl (h2 ▸ h3)
        · exact .inr ⟨id1, q1, h3, h4.trans h2⟩
      | some q1 =>
        have := h.ext id0 q1 hi0
        rw [h1] at this
        cases this
        exact .inr ⟨id0, q0, hi0, h2⟩
  | some q' =>
    have := k.ext id q' hi'
    rw [hq] at this
    cases this
    exact h.new id q hi' hi

/-- Nothing that was there has turned. -/
theorem WR.same {tab : Tab} {ι : Io} {h : H} {w w' : World} (hr : WR tab ι h w) (hb : ∀ b, b < w.heap.size → w'.heap[b]? = w.heap[b]?) (hs : w.heap.size ≤ w'.heap.size) : WR tab ι h w' :=
  ⟨fun id q hq => (hr.blk id q hq).mono (Ext.refl _) (hb _ (hr.lt id q hq)), fun id q hq => Nat.lt_of_lt_of_le (hr.lt id q hq) hs, hr.inj, hr.fresh⟩

theorem H.get_put (h : H) (k k' : K) (b : Blk) : (h.put k b).get k' = if k' = k then b else h.get k' := by
  simp only [H.get, H.put, T.get_set]
  by_cases e : k' = k
  · simp [e, getB]
  · simp [e]
theorem H.get_new (h : H) (k' : K) (b : Blk) : (h.new b).get k' = if k' = h.nx then b else h.get k' := by
  simp only [H.get, H.new, T.get_set]
  by_cases e : k' = h.nx
  · simp [e, getB]
  · simp [e]

def updI (ι : Io) (k : K) (q : Pl) : Io := fun k' => if k' = k then some q else ι k'
theorem updI_same (ι : Io) (k : K) (q : Pl) : updI ι k q k = some q := by simp [updI]
theorem updI_other (ι : Io) {k k' : K} (q : Pl) (h : k' ≠ k) : updI ι k q k' = ι k' := by simp [updI, h]
theorem updI_ext {ι : Io} {k : K} {q : Pl} (h : ι k = none) : Ext ι (updI ι k q) := fun id q' hq => by
  rw [updI_other _ _ (fun e => by rw [e, h] at hq; cases hq)]; exact hq

/-- A new block. -/
theorem WR.alloc {tab : Tab} {ι : Io} {h : H} {w : World} {b : Blk} {o : Obj} {base room : Nat} (hr : WR tab ι h w) (hb : BR tab (updI ι h.nx ⟨w.heap.size, base, room⟩) ⟨w.heap.size, base, room⟩ (w.alloc o) b) :
    Step h.nx.nat ι w (h.new b).nx.nat (updI ι h.nx ⟨w.heap.size, base, room⟩) (w.alloc o) ∧ WR tab (updI ι h.nx ⟨w.heap.size, base, room⟩) (h.new b) (w.alloc o) := by
  have hn : ι h.nx = none := hr.fresh _ (Nat.le_refl _)
  have hext := updI_ext (q := ⟨w.heap.size, base, room⟩) hn
  have hold : ∀ c, c < w.heap.size → (w.alloc o).heap[c]? = w.heap[c]? := fun c hc => heap_alloc_old w o hc
  refine ⟨⟨hext, fun id q hq hi => ?_, fun c hc _ => hold c hc, rfl, rfl, rfl, by simp, (by have h1 : (h.new b).nx.nat = h.nx.nat + 1 := K.succ_nat _; omega), fun id hid hi => (by rw [updI_other _ _ (fun e => by rw [e] at hid; omega)]; exact hi)⟩, fun id q hq => ?_, fun id q hq => ?_, fun id id' q q' hq hq' hl hl' e => ?_, fun id hid => ?_⟩
  · by_cases e : id = h.nx
    · subst e; rw [updI_same] at hq; cases hq; exact .inl (Nat.le_refl _)
    · rw [updI_other _ _ e, hi] at hq; cases hq
  · rw [H.get_new]
    by_cases e : id = h.nx
    · subst e; rw [updI_same] at hq; cases hq; simpa using hb
    · rw [updI_other _ _ e] at hq
      simp only [e, if_false]
      exact (hr.blk id q hq).mono hext (hold _ (hr.lt id q hq))
  · by_cases e : id = h.nx
    · subst e; rw [updI_same] at hq; cases hq; simp
    · rw [updI_other _ _ e] at hq; have := hr.lt id q hq; simp; omega
  · have hl0 : ∀ {k : K}, k ≠ h.nx → live (h.new b) k → live h k := fun {k} hk hlv => by unfold live at hlv ⊢; rw [H.get_new, if_neg hk] at hlv; exact hlv
    by_cases e1 : id = h.nx
    · by_cases e2 : id' = h.nx
      · rw [e1, e2]
      · subst e1; rw [updI_same] at hq; cases hq; rw [updI_other _ _ e2] at hq'
        have := hr.lt id' q' hq'; simp at e; omega
    · by_cases e2 : id' = h.nx
      · subst e2; rw [updI_same] at hq'; cases hq'; rw [updI_other _ _ e1] at hq
        have := hr.lt id q hq; simp at e; omega
      · rw [updI_other _ _ e1] at hq; rw [updI_other _ _ e2] at hq'
        exact hr.inj id id' q q' hq hq' (hl0 e1 hl) (hl0 e2 hl') e
  · have h1 : (h.new b).nx.nat = h.nx.nat + 1 := K.succ_nat _
    rw [h1] at hid
    rw [updI_other _ _ (fun e => by rw [e] at hid; omega)]
    exact hr.fresh id (by omega)

/-- A live block is written. -/
theorem WR.write {tab : Tab} {ι : Io} {h : H} {w w' : World} {b : Blk} {id0 : K} {q0 : Pl} (hr : WR tab ι h w) (hq0 : ι id0 = some q0) (hlv : live h id0) (hs : w'.heap.size = w.heap.size)
    (hoth : ∀ c, c ≠ q0.b → w'.heap[c]? = w.heap[c]?) (hos : w'.os = w.os) (htp : w'.tape = w.tape) (hout : w'.output = w.output) (hb : BR tab ι q0 w' b) : Step h.nx.nat ι w (h.put id0 b).nx.nat ι w' ∧ WR tab ι (h.put id0 b) w' := by
  refine ⟨⟨Ext.refl _, fun id q hq hi => (by rw [hq] at hi; cases hi), fun c hc ho => hoth c fun e => ho id0 q0 hq0 e.symm, hos, htp, hout, Nat.le_of_eq hs.symm, Nat.le_refl _, fun _ _ h => h⟩, fun id q hq => ?_, fun id q hq => hs ▸ hr.lt id q hq, fun id id' q q' hq hq' hl hl' e => ?_, hr.fresh⟩
  · rw [H.get_put]
    by_cases e : id = id0
    · subst e; rw [hq0] at hq; cases hq; simpa using hb
    · simp only [e, if_false]
      by_cases hd : h.get id = .dead
      · rw [hd]; trivial
      · exact (hr.blk id q hq).mono (Ext.refl _) (hoth _ fun e' => e (hr.inj id id0 q q0 hq hq0 hd hlv e'))
  · have hl0 : ∀ {k : K}, live (h.put id0 b) k → live h k := fun {k} hk => by
      unfold live at hk ⊢
      rw [H.get_put] at hk
      by_cases e : k = id0
      · subst e; exact hlv
      · rwa [if_neg e] at hk
    exact hr.inj id id' q q' hq hq' (hl0 hl) (hl0 hl') e

/-- A block is given up. -/
theorem WR.kill {tab : Tab} {ι : Io} {h : H} {w : World} (hr : WR tab ι h w) (id0 : K) : WR tab ι (h.put id0 .dead) w := by
  refine ⟨fun id q hq => ?_, hr.lt, fun id id' q q' hq hq' hl hl' e => ?_, hr.fresh⟩
  · rw [H.get_put]
    by_cases e : id = id0
    · simp only [e, if_true]; trivial
    · simp only [e, if_false]; exact hr.blk id q hq
  · have hl0 : ∀ {k : K}, live (h.put id0 .dead) k → live h k := fun {k} hk => by
      unfold live at hk ⊢
      rw [H.get_put] at hk
      by_cases e : k = id0
      · subst e; simp at hk
      · rwa [if_neg e] at hk
    exact hr.inj id id' q q' hq hq' (hl0 hl) (hl0 hl') e
end Go.Ev
