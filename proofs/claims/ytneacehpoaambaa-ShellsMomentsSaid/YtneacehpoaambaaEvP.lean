/-
  The evaluator, part P: statements whose order is open, in the model's walk.
-/
import Derived.Test.YtneacehpoaambaaEvO
namespace Go.Ev
open Go Go.RowKit

/-- What the static check of the edges gives. -/
structure Dok (xs : List EOper) (ed : List (List Nat)) (f : List DI) : Prop where
  lt : ∀ i, i < xs.length → ∀ e ∈ edAt ed i, e < i
  anc : ∀ i, i < xs.length → ∀ m, m < xs.length → inA (diAt f i).anc m = true → ∃ e ∈ edAt ed i, e = m ∨ inA (diAt f e).anc m = true
  lrk : ∀ i, i < xs.length → loudAt xs i = true → 1 ≤ (diAt f i).rk ∧ (diAt f i).rk ≤ louds xs
  lanc : ∀ i j, i < xs.length → j < xs.length → loudAt xs i = true → loudAt xs j = true → (diAt f j).rk < (diAt f i).rk → inA (diAt f i).anc j = true
  linj : ∀ i j, i < xs.length → j < xs.length → loudAt xs i = true → loudAt xs j = true → (diAt f j).rk = (diAt f i).rk → i = j
  qrk : ∀ i, i < xs.length → loudAt xs i = false → (diAt f i).rk = 0 ∨ ∃ e ∈ edAt ed i, (diAt f e).rk = (diAt f i).rk
  qlim : ∀ i j, i < xs.length → j < xs.length → loudAt xs i = false → loudAt xs j = true → (diAt f j).rk = (diAt f i).lim + 1 → inA (diAt f j).anc i = true
  far : ∀ i j, i < xs.length → j < xs.length → i ≠ j → ∀ t, (opAt xs j).dst = some t → t ∈ (opAt xs i).reads ++ (opAt xs i).dst.toList → inA (diAt f i).anc j = true ∨ (loudAt xs j = true ∧ inA (diAt f j).anc i = true)
  brk : ∀ i j, i < xs.length → j < xs.length → kindE (opAt xs i).op = 1 → loudAt xs j = true → inA (diAt f i).anc j = true → (diAt f j).rk ≤ (diAt f i).rk
  own : ∀ i, i < xs.length → loudAt xs i = false → ∀ t, (opAt xs i).dst = some t → t ∉ (opAt xs i).reads
  ex : ∀ k, k < louds xs → ∃ j, j < xs.length ∧ loudAt xs j = true ∧ (diAt f j).rk = k + 1

theorem rangeAll {n : Nat} {p : Nat → Bool} (h : (List.range n).all p = true) : ∀ i, i < n → p i = true := fun i hi => List.all_eq_true.1 h i (List.mem_range.2 hi)
theorem drawB_ok {xs : List EOper} {ed : List (List Nat)} {f : List DI} (h : drawB xs ed f = true) : Dok xs ed f := by
  unfold drawB at h
  rw [Bool.and_eq_true] at h
  obtain ⟨h0, h⟩ := h
  have h := rangeAll h
  have g : ∀ i, i < xs.length → chk1 ed i = true ∧ chk2 xs ed f i = true ∧ chk3 xs f i = true ∧ chk4 xs ed f i = true ∧ chk5 xs f i = true ∧ chk6 xs f i = true ∧ chk7 xs f i = true ∧ chk8 xs i = true := fun i hi => by
    have := h i hi
    simp only [Bool.and_eq_true] at this
    obtain ⟨⟨⟨⟨⟨⟨⟨a, b⟩, c⟩, d⟩, e⟩, f'⟩, g⟩, h'⟩ := this
    exact ⟨a, b, c, d, e, f', g, h'⟩
  have imp : ∀ {a b : Bool}, (!a || b) = true → a = true → b = true := fun {a b} h ha => by rw [ha] at h; simpa using h
  have blt : ∀ {a b : Nat}, Nat.blt a b = true ↔ a < b := fun {a b} => ⟨fun h => Nat.lt_of_lt_of_le (Nat.lt_succ_self _) (Nat.le_of_ble_eq_true h), fun h => Nat.ble_eq_true_of_le h⟩
  refine ⟨fun i hi e he => ?_, fun i hi m hm ha => ?_, fun i hi hl => ?_, fun i j hi hj hl hl' hr => ?_, fun i j hi hj hl hl' hr => ?_, fun i hi hl => ?_, fun i j hi hj hl hl' hr => ?_, fun i j hi hj hij t ht hk => ?_, fun i j hi hj hk hl ha => ?_, fun i hi hl t ht hm => ?_, fun k hk => ?_⟩
  · exact blt.1 (List.all_eq_true.1 (g i hi).1 e he)
  · have := imp (rangeAll (g i hi).2.1 m hm) ha
    obtain ⟨e, he, h1⟩ := List.any_eq_true.1 this
    refine ⟨e, he, ?_⟩
    rw [Bool.or_eq_true] at h1
    exact h1.imp Nat.eq_of_beq_eq_true id
  · have := imp (g i hi).2.2.1 hl
    simp only [Bool.and_eq_true] at this
    exact ⟨Nat.le_of_ble_eq_true this.1.1, Nat.le_of_ble_eq_true this.1.2⟩
  · have := imp (g i hi).2.2.1 hl
    simp only [Bool.and_eq_true] at this
    have := imp (rangeAll this.2 j hj) hl'
    rw [Bool.and_eq_true] at this
    exact imp this.1 (blt.2 hr)
  · have := imp (g i hi).2.2.1 hl
    simp only [Bool.and_eq_true] at this
    have := imp (rangeAll this.2 j hj) hl'
    rw [Bool.and_eq_true] at this
    exact Nat.eq_of_beq_eq_true (imp this.2 (by rw [hr]; exact Nat.beq_refl _))
  · have := (g i hi).2.2.2.1
    unfold chk4 at this
    rw [hl, Bool.false_or, Bool.or_eq_true] at this
    refine this.imp Nat.eq_of_beq_eq_true fun h => ?_
    obtain ⟨e, he, h1⟩ := List.any_eq_true.1 h
    exact ⟨e, he, Nat.eq_of_beq_eq_true h1⟩
  · have := (g i hi).2.2.2.2.1
    unfold chk5 at this
    rw [hl, Bool.false_or] at this
    exact imp (rangeAll this j hj) (by rw [hl', hr]; simp)
  · have := rangeAll (g i hi).2.2.2.2.2.1 j hj
    rw [Bool.or_eq_true] at this
    rcases this with this | this
    · exact absurd (Nat.eq_of_beq_eq_true this) hij
    · unfold dstFar at this
      rw [ht] at this
      simp only [Bool.or_eq_true, Bool.and_eq_true, Bool.not_eq_true'] at this
      rcases this with (this | this) | this
      · have h2 : ((opAt xs i).reads ++ (opAt xs i).dst.toList).contains t = true := List.contains_iff_mem.2 hk
        rw [h2] at this; cases this
      · exact .inl this
      · exact .inr this
  · have := (g i hi).2.2.2.2.2.2.1
    unfold chk7 at this
    have := imp this (by rw [hk]; rfl)
    exact Nat.le_of_ble_eq_true (imp (rangeAll this j hj) (by rw [hl, ha]; rfl))
  · have := (g i hi).2.2.2.2.2.2.2
    unfold chk8 ownFar at this
    rw [hl, Bool.false_or, ht] at this
    have h2 : (opAt xs i).reads.contains t = true := List.contains_iff_mem.2 hm
    simp only [h2] at this
    cases this
  · obtain ⟨j, hj, h1⟩ := List.any_eq_true.1 (rangeAll h0 k hk)
    rw [Bool.and_eq_true] at h1
    exact ⟨j, List.mem_range.1 hj, h1.1, Nat.eq_of_beq_eq_true h1.2⟩

section dok
variable {xs : List EOper} {ed : List (List Nat)} {f : List DI}
theorem Dok.anc_lt (hD : Dok xs ed f) : ∀ i, i < xs.length → ∀ m, m < xs.length → inA (diAt f i).anc m = true → m < i := by
  intro i
  induction i using Nat.strongRecOn with
  | _ i ih =>
    intro hi m hm h
    obtain ⟨e, he, h1⟩ := hD.anc i hi m hm h
    have hlt := hD.lt i hi e he
    rcases h1 with rfl | h1
    · exact hlt
    · exact Nat.lt_trans (ih e hlt (Nat.lt_trans hlt hi) m hm h1) hlt
theorem Dok.dd (hD : Dok xs ed f) {i j : Nat} (hi : i < xs.length) (hj : j < xs.length) (hij : i ≠ j) (li : loudAt xs i = false) (lj : loudAt xs j = false) {t : K} (ht : (opAt xs i).dst = some t) : (opAt xs j).dst ≠ some t := fun h => by
  rcases hD.far i j hi hj hij t h (by simp [ht]) with h1 | h1
  · rcases hD.far j i hj hi (Ne.symm hij) t ht (by simp [h]) with h2 | h2
    · have := hD.anc_lt i hi j hj h1
      have := hD.anc_lt j hj i hi h2
      omega
    · rw [li] at h2; cases h2.1
  · rw [lj] at h1; cases h1.1
theorem Dok.all_anc (hD : Dok xs ed f) {L : Array Bool} (cl : ∀ j, j < xs.length → L.getD j false = true → ∀ e ∈ edAt ed j, L.getD e false = true) : ∀ i, i < xs.length → (∀ e ∈ edAt ed i, L.getD e false = true) → ∀ m, m < xs.length → inA (diAt f i).anc m = true → L.getD m false = true := by
  intro i
  induction i using Nat.strongRecOn with
  | _ i ih =>
    intro hi hE m hm h
    obtain ⟨e, he, h1⟩ := hD.anc i hi m hm h
    rcases h1 with rfl | h1
    · exact hE _ he
    · have hlt := hD.lt i hi e he
      exact ih e hlt (Nat.lt_trans hlt hi) (cl e (Nat.lt_trans hlt hi) (hE e he)) m hm h1
end dok

def pend (xs : List EOper) (f : List DI) (L : Array Bool) (p j : Nat) : Prop := j < xs.length ∧ loudAt xs j = false ∧ L.getD j false = false ∧ (diAt f j).rk < p

/-- Where the walk stands: 'fr', 'h' being what stands when all is carried out whose rank is below 'p', and the loud ones to 'k'. -/
structure JJ (Y : Rig) (nt base : Nat) (xs : List EOper) (ed : List (List Nat)) (f : List DI) (h0 : H) (ι0 : Io) (w0 : World) (p k : Nat) (fr : Fr) (h : H) (ι : Io) (L : Array Bool) (a : Act) (w : World) : Prop where
  size : L.size = xs.length
  cl : ∀ j, j < xs.length → L.getD j false = true → ∀ e ∈ edAt ed j, L.getD e false = true
  rkn : ∀ j, j < xs.length → loudAt xs j = false → L.getD j false = true → (diAt f j).rk < p
  rkl : ∀ j, j < xs.length → loudAt xs j = true → (L.getD j false = true ↔ (diAt f j).rk ≤ k)
  nts : a.tmps.size = nt
  frm : ∀ κ : K, (∀ j, pend xs f L p j → (opAt xs j).dst ≠ some κ) → VR ι (getV (fr.get κ)) (a.tmps.getD κ.nat undef)
  wr : WR Y.tab ι h w
  st : Step h0.nx.nat ι0 w0 h.nx.nat ι w
  mks : Mk base ι w a.defers
  al : ∀ j, pend xs f L p j → kindE (opAt xs j).op = 1 → ∀ t id, (opAt xs j).dst = some t → slId (getV (fr.get t)) = some id → ι id = none ∧ h0.nx.nat ≤ id.nat ∧ id.nat < h.nx.nat
  dj : ∀ i j, pend xs f L p i → pend xs f L p j → i ≠ j → kindE (opAt xs i).op = 1 → kindE (opAt xs j).op = 1 → ∀ t id t' id', (opAt xs i).dst = some t → (opAt xs j).dst = some t' → slId (getV (fr.get t)) = some id → slId (getV (fr.get t')) = some id' → id ≠ id'

theorem Step.up {n n' n'' : Nat} {ι ι' : Io} {w w' : World} (h : Step n ι w n' ι' w') (hn : n' ≤ n'') : Step n ι w n'' ι' w' := ⟨h.ext, h.new, h.keep, h.os, h.tape, h.output, h.size, Nat.le_trans h.mono hn, h.low⟩
theorem opAt_mem {xs : List EOper} {p : Nat → Bool} {o : EOper} (h : o ∈ (pickI xs p).map (opAt xs)) : ∃ j, j < xs.length ∧ p j = true ∧ o = opAt xs j := by
  obtain ⟨j, hj, rfl⟩ := List.mem_map.1 h
  obtain ⟨h1, h2⟩ := List.mem_filter.1 hj
  exact ⟨j, List.mem_range.1 h1, h2, rfl⟩
theorem mem_opAt {xs : List EOper} {p : Nat → Bool} {j : Nat} (hj : j < xs.length) (hp : p j = true) : opAt xs j ∈ (pickI xs p).map (opAt xs) := List.mem_map.2 ⟨j, List.mem_filter.2 ⟨List.mem_range.2 hj, hp⟩, rfl⟩
theorem kind1 {xs : List EOper} {j : Nat} (h : kindE (opAt xs j).op = 1) : loudAt xs j = false := by unfold loudAt; rw [h]; rfl

section
variable {Y : Rig} {nt base : Nat} {xs : List EOper} {ed : List (List Nat)} {f : List DI} {h0 : H} {ι0 : Io} {w0 : World} {k : Nat} {fr : Fr} {h : H} {ι : Io} {L : Array Bool} {a : Act} {w : World} {fs : T EF} {go : Go}

/-- A stage begins. -/
theorem JJ.enter (hD : Dok xs ed f) {p : Nat} {cont : Fr → H → Res} {e : Ex} {fr' : Fr} {h' : H} (hp : p = k) (J : JJ Y nt base xs ed f h0 ι0 w0 p k fr h ι L a w)
    (he : gRun fs go (stageOf xs f k).g (fun fr2 h2 => bif isFresh h h2 fr2 (stageOf xs f k).b then cont fr2 h2 else .no) fr h = .ok e fr' h') :
    ∃ fr2 h2, cont fr2 h2 = .ok e fr' h' ∧ JJ Y nt base xs ed f h0 ι0 w0 (k + 1) k fr2 h2 ι L a w := by
  subst hp
  obtain ⟨fr2, h2, e1, hx, hfr⟩ := gRun_ok _ he
  obtain ⟨hf, e2⟩ := cond_ok (by simp) e1
  obtain ⟨nd, rng⟩ := freshL_spec hf
  have inG : ∀ j, j < xs.length → loudAt xs j = false → (diAt f j).rk = p → L.getD j false = false := fun j hj hl hr => by
    cases hL : L.getD j false with
    | false => rfl
    | true => have := J.rkn j hj hl hL; omega
  have keep : ∀ t : K, (∀ j, j < xs.length → loudAt xs j = false → (diAt f j).rk = p → (opAt xs j).dst ≠ some t) → fr2.get t = fr.get t := fun t ht => hfr t fun o ho => by
    obtain ⟨j, hj, hpj, rfl⟩ := opAt_mem ho
    simp only [Bool.and_eq_true, Bool.not_eq_true'] at hpj
    exact ht j hj hpj.1 (Nat.eq_of_beq_eq_true hpj.2)
  have old : ∀ j, pend xs f L (p + 1) j → (diAt f j).rk ≠ p → pend xs f L p j ∧ ∀ t, (opAt xs j).dst = some t → fr2.get t = fr.get t := fun j hj hr =>
    ⟨⟨hj.1, hj.2.1, hj.2.2.1, by have := hj.2.2.2; omega⟩, fun t ht => keep t fun j' hj' hl' hr' => hD.dd hj.1 hj' (fun e => hr (e ▸ hr')) hj.2.1 hl' ht⟩
  have bmem : ∀ j, pend xs f L (p + 1) j → kindE (opAt xs j).op = 1 → (diAt f j).rk = p → j ∈ pickI xs fun i => Nat.beq (kindE (opAt xs i).op) 1 && Nat.beq (diAt f i).rk p := fun j hj hk hr =>
    List.mem_filter.2 ⟨List.mem_range.2 hj.1, by rw [hk, hr]; simp⟩
  have new : ∀ j, pend xs f L (p + 1) j → kindE (opAt xs j).op = 1 → (diAt f j).rk = p → ∀ t id, (opAt xs j).dst = some t → slId (getV (fr2.get t)) = some id → h.nx.nat ≤ id.nat ∧ id.nat < h2.nx.nat := fun j hj hk hr t id ht hi =>
    rng id (idsOf_mem (List.mem_filterMap.2 ⟨j, bmem j hj hk hr, ht⟩) hi)
  refine ⟨fr2, h2, e2, J.size, J.cl, fun j hj hl hL => Nat.lt_succ_of_lt (J.rkn j hj hl hL), J.rkl, J.nts, fun κ hκ => ?_, J.wr.more hx, J.st.up hx.1, J.mks, fun j hj hk t id ht hi => ?_, fun i j hi hj hij ki kj t id t' id' ht ht' hid hid' => ?_⟩
  · rw [keep κ fun j hj hl hr => hκ j ⟨hj, hl, inG j hj hl hr, by omega⟩]
    exact J.frm κ fun j hj => hκ j ⟨hj.1, hj.2.1, hj.2.2.1, Nat.lt_succ_of_lt hj.2.2.2⟩
  · by_cases hr : (diAt f j).rk = p
    · obtain ⟨g1, g2⟩ := new j hj hk hr t id ht hi
      exact ⟨J.wr.fresh id g1, Nat.le_trans J.st.mono g1, g2⟩
    · obtain ⟨g1, g2⟩ := old j hj hr
      rw [g2 t ht] at hi
      obtain ⟨k1, k2, k3⟩ := J.al j g1 hk t id ht hi
      exact ⟨k1, k2, Nat.lt_of_lt_of_le k3 hx.1⟩
  · by_cases hr : (diAt f i).rk = p
    · by_cases hr' : (diAt f j).rk = p
      · exact idsOf_ne nd (bmem i hi ki hr) (bmem j hj kj hr') hij ht ht' hid hid'
      · have g1 := (new i hi ki hr t id ht hid).1
        obtain ⟨g2, g3⟩ := old j hj hr'
        rw [g3 t' ht'] at hid'
        have g4 := (J.al j g2 kj t' id' ht' hid').2.2
        intro e; rw [e] at g1; omega
    · obtain ⟨g2, g3⟩ := old i hi hr
      rw [g3 t ht] at hid
      by_cases hr' : (diAt f j).rk = p
      · have g1 := (new j hj kj hr' t' id' ht' hid').1
        have g4 := (J.al i g2 ki t id ht hid).2.2
        intro e; rw [← e] at g1; omega
      · obtain ⟨g5, g6⟩ := old j hj hr'
        rw [g6 t' ht'] at hid'
        exact J.dj i j g2 g5 hij ki kj t id t' id' ht ht' hid hid'
end

/-! ### Slots -/
theorem put_tmps {a : Act} {nt : Nat} (hn : a.tmps.size = nt) {o : Oper} (hd : dstIn nt o) (v : Value) (κ : K) : (a.put o.dst v).tmps.getD κ.nat undef = if o.dst.map K.ofNat = some κ then v else a.tmps.getD κ.nat undef := by
  unfold dstIn at hd
  cases ho : o.dst with
  | none => simp [Act.put]
  | some d =>
    rw [ho] at hd
    simp only [Act.put, Array.getD_eq_getD_getElem?, Array.getElem?_setIfInBounds, Option.map_some, Option.some.injEq]
    by_cases e : K.ofNat d = κ
    · subst e
      rw [K.ofNat_nat]
      simp [hn, hd]
    · have : ¬ d = κ.nat := fun e' => e (K.nat_inj (by rw [K.ofNat_nat]; exact e'))
      simp [e, this]
theorem put_defers {a : Act} {d : Option Tmp} {v : Value} : (a.put d v).defers = a.defers := by cases d <;> rfl
theorem put_size {a : Act} {d : Option Tmp} {v : Value} : (a.put d v).tmps.size = a.tmps.size := by cases d <;> simp [Act.put]

theorem setL {L : Array Bool} {i : Nat} (hi : i < L.size) (j : Nat) : (L.setIfInBounds i true).getD j false = if j = i then true else L.getD j false := by
  simp only [Array.getD_eq_getD_getElem?, Array.getElem?_setIfInBounds]
  by_cases e : i = j
  · subst e; simp [hi]
  · simp [e, Ne.symm e]

section
variable {Y : Rig} {nt base : Nat} {xs : List EOper} {ed : List (List Nat)} {f : List DI} {h0 : H} {ι0 : Io} {w0 : World} {p k : Nat} {fr : Fr} {h : H} {ι : Io} {L : Array Bool} {a : Act} {w : World} {fs : T EF} {go : Go}

/-- A quiet operation has been carried out. -/
theorem JJ.quiet (J : JJ Y nt base xs ed f h0 ι0 w0 p k fr h ι L a w) {i : Nat} (hi : pend xs f L p i) (hE : ∀ e ∈ edAt ed i, L.getD e false = true) {o : Oper} (hd : dstIn nt o) (hdst : (opAt xs i).dst = o.dst.map K.ofNat)
    {ι' : Io} {w' : World} {v' : Value} (hext : Ext ι ι') (hwr : WR Y.tab ι' h w') (hst : Step h0.nx.nat ι0 w0 h.nx.nat ι' w') (hmk : Mk base ι' w' a.defers) (hv : ∀ t, (opAt xs i).dst = some t → VR ι' (getV (fr.get t)) v')
    (hal : ∀ j, pend xs f L p j → j ≠ i → kindE (opAt xs j).op = 1 → ∀ t id, (opAt xs j).dst = some t → slId (getV (fr.get t)) = some id → ι' id = none) :
    JJ Y nt base xs ed f h0 ι0 w0 p k fr h ι' (L.setIfInBounds i true) (a.put o.dst v') w' := by
  have hiL : i < L.size := J.size ▸ hi.1
  have back : ∀ j, pend xs f (L.setIfInBounds i true) p j → pend xs f L p j ∧ j ≠ i := fun j hj => by
    have := hj.2.2.1
    rw [setL hiL] at this
    by_cases e : j = i
    · simp [e] at this
    · rw [if_neg e] at this; exact ⟨⟨hj.1, hj.2.1, this, hj.2.2.2⟩, e⟩
  have up : ∀ e, L.getD e false = true → (L.setIfInBounds i true).getD e false = true := fun e he => by rw [setL hiL]; split <;> simp_all
  refine ⟨by simp [J.size], fun j hj hL e he => up e ?_, fun j hj hl hL => ?_, fun j hj hl => ?_, put_size.trans J.nts, fun κ hκ => ?_, hwr, hst, by rw [put_defers]; exact hmk, fun j hj hk t id ht hid => ?_, fun j j' hj hj' => J.dj j j' (back j hj).1 (back j' hj').1⟩
  · by_cases e' : j = i
    · exact hE e (e' ▸ he)
    · rw [setL hiL, if_neg e'] at hL; exact J.cl j hj hL e he
  · by_cases e : j = i
    · subst e; exact hi.2.2.2
    · rw [setL hiL, if_neg e] at hL; exact J.rkn j hj hl hL
  · have : j ≠ i := fun e => by rw [e, hi.2.1] at hl; cases hl
    rw [setL hiL, if_neg this]; exact J.rkl j hj hl
  · rw [put_tmps J.nts hd, ← hdst]
    by_cases e : (opAt xs i).dst = some κ
    · rw [if_pos e]; exact hv κ e
    · rw [if_neg e]
      refine (J.frm κ fun j hj => ?_).mono hext
      by_cases e' : j = i
      · rw [e']; exact e
      · exact hκ j ⟨hj.1, hj.2.1, by rw [setL hiL, if_neg e']; exact hj.2.2.1, hj.2.2.2⟩
  · obtain ⟨b1, b2⟩ := back j hj
    exact ⟨hal j b1 b2 hk t id ht hid, (J.al j b1 hk t id ht hid).2⟩

/-- A loud one has been carried out. -/
theorem JJ.loud (hD : Dok xs ed f) (J : JJ Y nt base xs ed f h0 ι0 w0 (k + 1) k fr h ι L a w) {i : Nat} (hi : i < xs.length) (hl : loudAt xs i = true) (hL : L.getD i false = false) (hrk : (diAt f i).rk = k + 1) (hE : ∀ e ∈ edAt ed i, L.getD e false = true) {o : Oper} (hd : dstIn nt o) (hdst : (opAt xs i).dst = o.dst.map K.ofNat)
    {ι' : Io} {w' : World} {v : V} {v' : Value} {h1 : H} (hwr : WR Y.tab ι' h1 w') (hst : Step h.nx.nat ι w h1.nx.nat ι' w') (hv : VR ι' v v') :
    JJ Y nt base xs ed f h0 ι0 w0 (k + 1) (k + 1) (putD fr (opAt xs i).dst v) h1 ι' (L.setIfInBounds i true) (a.put o.dst v') w' := by
  have hiL : i < L.size := J.size ▸ hi
  have back : ∀ j, pend xs f (L.setIfInBounds i true) (k + 1) j → pend xs f L (k + 1) j ∧ j ≠ i := fun j hj => by
    have := hj.2.2.1
    rw [setL hiL] at this
    by_cases e : j = i
    · simp [e] at this
    · rw [if_neg e] at this; exact ⟨⟨hj.1, hj.2.1, this, hj.2.2.2⟩, e⟩
  have up : ∀ e, L.getD e false = true → (L.setIfInBounds i true).getD e false = true := fun e he => by rw [setL hiL]; split <;> simp_all
  -- the slots of those that wait
  have slot : ∀ j, pend xs f L (k + 1) j → kindE (opAt xs j).op = 1 → ∀ t, (opAt xs j).dst = some t → (putD fr (opAt xs i).dst v).get t = fr.get t := fun j hj hk t ht => putD_other fun e => by
    have hji : j ≠ i := fun e => by have := hj.2.1; rw [e, hl] at this; cases this
    rcases hD.far j i hj.1 hi hji t e (by simp [ht]) with h2 | ⟨_, h2⟩
    · have := hD.brk j i hj.1 hi hk hl h2
      have := hj.2.2.2
      omega
    · have := hD.all_anc J.cl i hi hE j hj.1 h2
      rw [hj.2.2.1] at this; cases this
  refine ⟨by simp [J.size], fun j hj hLj e he => up e ?_, fun j hj hlj hLj => ?_, fun j hj hlj => ?_, put_size.trans J.nts, fun κ hκ => ?_, hwr, J.st.trans hst, by rw [put_defers]; exact J.mks.step hst, fun j hj hk t id ht hid => ?_, fun j j' hj hj' hjj kj kj' t id t' id' ht ht' hid hid' => ?_⟩
  · by_cases e' : j = i
    · exact hE e (e' ▸ he)
    · rw [setL hiL, if_neg e'] at hLj; exact J.cl j hj hLj e he
  · have : j ≠ i := fun e => by rw [e, hl] at hlj; cases hlj
    rw [setL hiL, if_neg this] at hLj; exact J.rkn j hj hlj hLj
  · by_cases e : j = i
    · subst e; rw [setL hiL, if_pos rfl, hrk]; simp
    · rw [setL hiL, if_neg e]
      refine (J.rkl j hj hlj).trans ⟨fun h => by omega, fun h => ?_⟩
      rcases Nat.lt_or_ge (diAt f j).rk (k + 1) with h1 | h1
      · omega
      · exact absurd (hD.linj i j hi hj hl hlj (by omega)).symm e
  · rw [put_tmps J.nts hd, ← hdst]
    by_cases e : (opAt xs i).dst = some κ
    · rw [if_pos e, e, putD_same]; exact hv
    · rw [if_neg e, putD_other e]
      refine (J.frm κ fun j hj => ?_).mono hst.ext
      have hji : j ≠ i := fun e => by have := hj.2.1; rw [e, hl] at this; cases this
      exact hκ j ⟨hj.1, hj.2.1, by rw [setL hiL, if_neg hji]; exact hj.2.2.1, hj.2.2.2⟩
  · obtain ⟨b1, b2⟩ := back j hj
    rw [slot j b1 hk t ht] at hid
    obtain ⟨g1, g2, g3⟩ := J.al j b1 hk t id ht hid
    exact ⟨hst.low id g3 g1, g2, Nat.lt_of_lt_of_le g3 hst.mono⟩
  · rw [slot j (back j hj).1 kj t ht] at hid
    rw [slot j' (back j' hj').1 kj' t' ht'] at hid'
    exact J.dj j j' (back j hj).1 (back j' hj').1 hjj kj kj' t id t' id' ht ht' hid hid'
end
end Go.Ev
