/-
  The evaluator, part Q: statements whose order is open: the walk, and all code.
-/
import Derived.Test.YtneacehpoaambaaEvP
namespace Go.Ev
open Go Go.RowKit

noncomputable def hide (U : List K) (fr : Fr) : Fr := U.foldr (fun k fr => fr.set k .un) fr
theorem hide_get : ∀ (U : List K) (fr : Fr) (κ : K), (hide U fr).get κ = if κ ∈ U then some .un else fr.get κ
  | [], fr, κ => by simp [hide]
  | x :: U, fr, κ => by
    have : (hide (x :: U) fr).get κ = ((hide U fr).set x .un).get κ := rfl
    rw [this, T.get_set, hide_get U fr κ]
    by_cases e : κ = x
    · simp [e]
    · simp [e]
def pends (xs : List EOper) (f : List DI) (L : Array Bool) (p : Nat) : List K := ((List.range xs.length).filter fun j => !loudAt xs j && !(L.getD j false) && Nat.blt (diAt f j).rk p).filterMap fun j => (opAt xs j).dst
theorem pends_mem {xs : List EOper} {f : List DI} {L : Array Bool} {p : Nat} {κ : K} : κ ∈ pends xs f L p ↔ ∃ j, pend xs f L p j ∧ (opAt xs j).dst = some κ := by
  have blt : ∀ {a b : Nat}, Nat.blt a b = true ↔ a < b := fun {a b} => ⟨fun h => Nat.lt_of_lt_of_le (Nat.lt_succ_self _) (Nat.le_of_ble_eq_true h), fun h => Nat.ble_eq_true_of_le h⟩
  unfold pends
  rw [List.mem_filterMap]
  constructor
  · rintro ⟨j, hj, h1⟩
    obtain ⟨h2, h3⟩ := List.mem_filter.1 hj
    simp only [Bool.and_eq_true, Bool.not_eq_true'] at h3
    exact ⟨j, ⟨List.mem_range.1 h2, h3.1.1, h3.1.2, blt.1 h3.2⟩, h1⟩
  · rintro ⟨j, hj, h1⟩
    refine ⟨j, List.mem_filter.2 ⟨List.mem_range.2 hj.1, ?_⟩, h1⟩
    simp only [Bool.and_eq_true, Bool.not_eq_true']
    exact ⟨⟨hj.2.1, hj.2.2.1⟩, blt.2 hj.2.2.2⟩

section
variable {Y : Rig} {nt base : Nat} {xs : List EOper} {ed : List (List Nat)} {f : List DI} {h0 : H} {ι0 : Io} {w0 : World} {p k : Nat} {fr : Fr} {h : H} {ι : Io} {L : Array Bool} {a : Act} {w : World} {fs : T EF} {go : Go}
theorem JJ.ar (J : JJ Y nt base xs ed f h0 ι0 w0 p k fr h ι L a w) : AR nt ι (hide (pends xs f L p) fr) a := by
  refine ⟨J.nts, fun κ => ?_⟩
  rw [hide_get]
  by_cases e : κ ∈ pends xs f L p
  · rw [if_pos e]; exact .un _
  · rw [if_neg e]
    exact J.frm κ fun j hj hd => e (pends_mem.2 ⟨j, hj, hd⟩)
theorem JJ.same (hD : Dok xs ed f) (J : JJ Y nt base xs ed f h0 ι0 w0 p k fr h ι L a w) {i : Nat} (hi : i < xs.length) (hE : ∀ e ∈ edAt ed i, L.getD e false = true) : Same (opAt xs i).reads fr (hide (pends xs f L p) fr) := by
  intro κ hκ
  rw [hide_get, if_neg]
  intro hm
  obtain ⟨j, hj, hd⟩ := pends_mem.1 hm
  by_cases e : i = j
  · subst e
    exact hD.own i hi hj.2.1 κ hd hκ
  · rcases hD.far i j hi hj.1 e κ hd (List.mem_append_left _ hκ) with h1 | h1
    · have := hD.all_anc J.cl i hi hE j hj.1 h1
      rw [hj.2.2.1] at this; cases this
    · rw [hj.2.1] at h1; cases h1.1

/-! ### What may be taken -/
theorem ready_mem {ops : Array Oper} {L : Array Bool} {i : Nat} (hL : L.size = ops.size) : i ∈ Region.ready .any ops L ↔ ∃ o, ops[i]? = some o ∧ L.getD i false = false ∧ ∀ e ∈ edgesOf o, L.getD e false = true := by
  unfold Region.ready
  rw [List.mem_filter, List.mem_range]
  have hd : i < ops.size → L.getD i true = L.getD i false := fun h => by simp [Array.getD_eq_getD_getElem?, hL ▸ h]
  constructor
  · rintro ⟨h1, h2⟩
    rw [Bool.and_eq_true, hd h1] at h2
    refine ⟨ops[i], by simp [h1], by simpa using h2.1, fun e he => ?_⟩
    have h3 := h2.2
    simp only [Array.getElem?_eq_getElem h1, Option.map_some, Option.getD_some] at h3
    obtain ⟨x, hx, rfl⟩ := List.mem_map.1 he
    obtain ⟨hx1, hx2⟩ := List.mem_filter.1 hx
    have := Array.all_eq_true_iff_forall_mem.1 h3 x (Array.mem_toList_iff.1 hx1)
    rw [hx2] at this
    simpa using this
  · rintro ⟨o, h1, h2, h3⟩
    have hlt : i < ops.size := (Array.getElem?_eq_some_iff.1 h1).1
    refine ⟨hlt, ?_⟩
    rw [Bool.and_eq_true, hd hlt, h2, h1]
    refine ⟨rfl, ?_⟩
    simp only [Option.map_some, Option.getD_some]
    refine Array.all_eq_true_iff_forall_mem.2 fun x hx => ?_
    cases hb : Region.binds .any x with
    | false => rfl
    | true => simpa using h3 x.on (List.mem_map.2 ⟨x, List.mem_filter.2 ⟨Array.mem_toList_iff.2 hx, hb⟩, rfl⟩)

theorem allStay_mem : ∀ {l : List EOper} {o : EOper}, allStay fs go fr h l = true → o ∈ l → stays fs go fr h o = true
  | [], o, _, ho => absurd ho (by simp)
  | x :: l, o, hl, ho => by
    have hl : (stays fs go fr h x && allStay fs go fr h l) = true := hl
    rw [Bool.and_eq_true] at hl
    rcases List.mem_cons.1 ho with rfl | ho
    · exact hl.1
    · exact allStay_mem hl.2 ho

/-! ### A slice's literal, its name known before -/
section
variable {d : Option Tmp} {ty : TypeId} {pos : String} {aft : Array Edge} {g : Option (Nat × Bool)}
theorem op_buildSlice_core (ha : AR nt ι fr a) {t e : TypeId} {dt de : TD} {n : Nat} {z : List V} {ps : Array (Nat × Operand)} {qs : List (Nat × Nat × EO)} {cs : List V} (ht : Y.tab t = some dt) (hd : dt.desc = .slice e) (he : Y.tab e = some de) (hz : zeroOf de = some z)
    (hp : 0 < de.size) (hl : z.length = de.size) (hn : n * de.size ≤ 16777216)
    (hq : partsAt (n * de.size) (fun i => some (i * de.size, de.size)) ps.toList = some qs) (hf : fillE fr (rep z n) qs = some cs) :
    ∃ vs : List Value, (execOp a.eval ⟨d, .buildSlice t n ps, ty, pos, aft, g⟩).run Y.P w = .ok (.value (.slice (some ⟨w.heap.size, 0, none⟩) n n)) (w.alloc (.cells vs.toArray e)) ∧ VRs ι cs vs ∧ (∀ c ∈ cs, c.one = true) ∧ cs.length = n * de.size := by
  obtain ⟨h1, h2⟩ := zeros_rel (ι := ι) hz hl hp n
  have hlen : (rep z n).length = n * de.size := by rw [rep_length, hl]
  obtain ⟨vs, g1, g2, g3, g4⟩ := fill_rel ha hq h1 h2 hlen hf
  refine ⟨vs, ?_, g2, g3, g4⟩
  simp only [Array.toArray_toList] at g1
  have hmap : (ps.map fun (p : Nat × Operand) => (p.1, a.eval p.2)).toList = ps.toList.map fun p => (p.1, a.eval p.2) := by simp
  simp only [execOp, Instr.buildSlice, Sem.run_bind, Rig.und ht, hd, Result.andThen_ok, Rig.size he]
  rw [if_neg (by simpa using hn)]
  by_cases h0 : n * de.size = 0
  · have hn0 : n = 0 := by rcases Nat.mul_eq_zero.1 h0 with h | h <;> omega
    subst hn0
    simp only [Nat.zero_mul, if_true, Sem.run_bind, Sem.run_pure, Result.andThen_ok, hmap]
    simp only [Nat.zero_mul] at g1
    have : (Array.map (fun i => (#[] : Array Value)[i % (#[] : Array Value).size]!) (Array.range 0)) = Array.map (fun i => de.zero.cells[i % de.zero.cells.size]!) (Array.range 0) := by simp
    simp only [this, g1, newRow, Sem.run_bind, run_newObj, Sem.run_pure, Result.andThen_ok, World.alloc_eq]
  · simp only [h0, if_false, Sem.run_bind, Rig.zero he, Sem.run_pure, Result.andThen_ok, hmap]
    simp only [g1, newRow, Sem.run_bind, run_newObj, Sem.run_pure, Result.andThen_ok, World.alloc_eq]
end
theorem WR.reserve {tab : Tab} {id : K} {o : Obj} {room : Nat} (hr : WR tab ι h w) (hid : ι id = none) (hlt : id.nat < h.nx.nat) (hb : BR tab (updI ι id ⟨w.heap.size, 0, room⟩) ⟨w.heap.size, 0, room⟩ (w.alloc o) (h.get id)) : WR tab (updI ι id ⟨w.heap.size, 0, room⟩) h (w.alloc o) := by
  have hext := updI_ext (q := ⟨w.heap.size, 0, room⟩) hid
  have hold : ∀ c, c < w.heap.size → (w.alloc o).heap[c]? = w.heap[c]? := fun c hc => heap_alloc_old w o hc
  refine ⟨fun i q hq => ?_, fun i q hq => ?_, fun i i' q q' hq hq' hl hl' e => ?_, fun i hi => ?_⟩
  · by_cases e : i = id
    · subst e; rw [updI_same] at hq; cases hq; exact hb
    · rw [updI_other _ _ e] at hq
      exact (hr.blk i q hq).mono hext (hold _ (hr.lt i q hq))
  · by_cases e : i = id
    · subst e; rw [updI_same] at hq; cases hq; simp
    · rw [updI_other _ _ e] at hq; have := hr.lt i q hq; simp; omega
  · by_cases e1 : i = id
    · by_cases e2 : i' = id
      · rw [e1, e2]
      · subst e1; rw [updI_same] at hq; cases hq; rw [updI_other _ _ e2] at hq'
        have := hr.lt i' q' hq'; simp at e; omega
    · by_cases e2 : i' = id
      · subst e2; rw [updI_same] at hq'; cases hq'; rw [updI_other _ _ e1] at hq
        have := hr.lt i q hq; simp at e; omega
      · rw [updI_other _ _ e1] at hq; rw [updI_other _ _ e2] at hq'
        exact hr.inj i i' q q' hq hq' hl hl' e
  · rw [updI_other _ _ (fun e => by rw [e] at hi; omega)]
    exact hr.fresh i hi
theorem Step.reserve {n0 n : Nat} {id : K} {o : Obj} {room : Nat} (hs : Step n0 ι0 w0 n ι w) (hid : ι id = none) (hge : n0 ≤ id.nat) : Step n0 ι0 w0 n (updI ι id ⟨w.heap.size, 0, room⟩) (w.alloc o) := by
  have hext := updI_ext (q := ⟨w.heap.size, 0, room⟩) hid
  refine ⟨hs.ext.trans hext, fun i q hq hi => ?_, fun b hb ho => (heap_alloc_old w o (Nat.lt_of_lt_of_le hb hs.size)).trans (hs.keep b hb ho), hs.os, hs.tape, hs.output, by have := hs.size; simp; omega, hs.mono, fun i hi hn => ?_⟩
  · by_cases e : i = id
    · subst e; rw [updI_same] at hq; cases hq; exact .inl hs.size
    · rw [updI_other _ _ e] at hq; exact hs.new i q hq hi
  · rw [updI_other _ _ (fun e => by rw [e] at hi; omega)]
    exact hs.low i hi hn
theorem Mk.alloc {ds : List Deferred} {id : K} {o : Obj} {room : Nat} (hm : Mk base ι w ds) : Mk base (updI ι id ⟨w.heap.size, 0, room⟩) (w.alloc o) ds := by
  obtain ⟨g0, l, g1, g2, g3⟩ := hm
  refine ⟨by simp; omega, l, g1, g2, fun D hD => ?_⟩
  obtain ⟨k1, k2, k3⟩ := g3 D hD
  have hlt := lt_of_heap k2
  refine ⟨k1, (heap_alloc_old w o hlt).trans k2, fun i q hq e => ?_⟩
  by_cases e' : i = id
  · subst e'; rw [updI_same] at hq; cases hq; simp at e; omega
  · rw [updI_other _ _ e'] at hq; exact k3 i q hq e
end
end Go.Ev
