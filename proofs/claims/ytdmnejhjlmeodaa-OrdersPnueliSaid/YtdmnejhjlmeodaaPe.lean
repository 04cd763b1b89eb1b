/-
  Slices of pairs: those that came in, those that are only read.
  The evaluator, weakest preconditions: what follows may be weakened.
  The evaluator, weakest preconditions: a store into a slice of pairs; slices of slices of pairs.
  Slices of slices that come in: of pairs, of numbers.
  Slices of slices of pairs, of numbers: how they are read, and that they read behind the call as before.
  More rules: operations of a drawn statement that are guarded; numbers.
  Rounds: slices that are only read, whichever way they were cut.
  Orders (plain): relations of seven nodes, as lists of 49 bools.
  Slices of slices whose elements take one cell each: read, filled row by row, gathered.
  Maps whose keys are pairs and whose values are numbers.
  Loops over a function that yields new slices.
  Orders: the iterator over a relation's arrows (all).
  Orders: a loop over a relation's arrows that changes one block.
  Orders: a relation turned.
  Orders: a loop over a function that yields arrows.
  Orders: small functions.
  Orders: relations joined, one without another, of pairs.
  Orders: graphs, what covers what, others.
-/
import Derived.Test.YtdmnejhjlmeodaaPd
namespace Go.Ev
open Go Go.RowKit Go.ChangeShapes Go.WideShapes Go.ChangeAt
def qE (x : Int × Int) : List V := [.i .i64 x.1, .i .i64 x.2]
theorem qE_len : ∀ x, (qE x).length = 2 := fun _ => rfl
theorem flat_drop {α : Type} {k : Nat} {e : α → List V} (he : ∀ x, (e x).length = k) : ∀ (L : List α) (i : Nat) (hi : i < L.length), ((L.flatMap e).drop (i * k)).take k = e L[i]
  | [], i, hi => absurd hi (Nat.not_lt_zero _)
  | x :: L, 0, _ => by rw [List.flatMap_cons, Nat.zero_mul, List.drop_zero, ← he x, List.take_left]; rfl
  | x :: L, i + 1, hi => by
    rw [List.flatMap_cons, show (i + 1) * k = (e x).length + i * k by rw [he, Nat.add_mul]; omega, List.drop_length_add_append, flat_drop he L i (by simpa using hi)]; rfl
/-- An element of a slice of pairs. -/
theorem Sk.at2 {h : H} {v : V} {L : List (Int × Int)} (hs : Sk 2 qE h v L) {i : Nat} (hi : i < L.length) : ∃ p, (∀ k h1, iadsV 2 v (.i k (i : Int)) h1 = .ok p h1) ∧ loadV h p (many? 2) = .ok (.agg [.i .i64 L[i].1, .i .i64 L[i].2]) h := by
  rcases hs with ⟨rfl, rfl⟩ | ⟨id, off, m, cs, rfl, hb, hl, hm, hx⟩
  · simp at hi
  · refine ⟨.p id (off + i * 2), fun k h1 => ?_, ?_⟩
    · rw [iads_sl, idx_n hi]
    · rw [loadn_p hb (by omega), takeN_eq, dropN_eq]
      have h1 := flat_drop qE_len L i hi
      rw [← hx, List.drop_take, List.take_take, List.drop_drop, Nat.min_eq_left (by omega)] at h1
      rw [h1]; rfl
def Srp (h : H) (v : V) (L : List (Int × Int)) : Prop := Srk 2 h v L.length (L.flatMap qE)
section
variable {h h' : H} {v : V} {L : List (Int × Int)}
theorem Srp.len (hs : Srp h v L) (h1 : H) : lenV v h1 = .ok (.i .i64 (L.length : Int)) h1 := by
  rcases hs with ⟨rfl, h0, _⟩ | ⟨id, off, m, cs, rfl, _⟩
  · rw [h0]; rfl
  · rfl
theorem Srp.grow (hs : Srp h v L) (hc : HC h) (hg : Grow h.nx.nat h h') : Srp h' v L := Srk.grow hs hc hg
theorem loadn_r {h : H} {id : K} {m n off : Nat} {cs : List V} (hb : h.get id = .cells m cs ∨ h.get id = .rom m cs) (hm : off + n ≤ m) : loadV h (.p id off) (many? n) = .ok (.agg (takeN n (dropN off cs))) h := by
  show okv ((h.get id).onC none fun m cs => many? n cs m off) h = _
  have e : many? n cs m off = some (.agg (takeN n (dropN off cs))) := by
    show (bif Nat.ble (off + n) m then some _ else none) = _
    rw [Nat.ble_eq_true_of_le hm]; rfl
  rcases hb with hb | hb <;> rw [hb] <;> show okv (many? n cs m off) h = _ <;> rw [e] <;> rfl
theorem Srp.at2 (hs : Srp h v L) {i : Nat} (hi : i < L.length) : ∃ id q, (∀ k h1, iadsV 2 v (.i k (i : Int)) h1 = .ok (.p id q) h1) ∧ loadV h (.p id q) (many? 2) = .ok (.agg [.i .i64 L[i].1, .i .i64 L[i].2]) h ∧ loadV h (.p id (q + 0 * 1)) one? = .ok (.i .i64 L[i].1) h ∧ loadV h (.p id (q + 1 * 1)) one? = .ok (.i .i64 L[i].2) h := by
  rcases hs with ⟨rfl, h0, _⟩ | ⟨id, off, m, cs, rfl, hb, hl, hm, hx⟩
  · omega
  · have h1 := flat_drop qE_len L i hi
    rw [← hx, List.drop_take, List.take_take, List.drop_drop, Nat.min_eq_left (by omega)] at h1
    refine ⟨id, off + i * 2, fun k h1 => ?_, ?_, ?_, ?_⟩
    · rw [iads_sl, idx_n hi]
    · rw [loadn_r hb (by omega), takeN_eq, dropN_eq, h1]; rfl
    · refine load_r hb ?_
      rw [nth_eq]
      have := congrArg (fun l => l[0]?) h1
      simp only [List.getElem?_take, List.getElem?_drop] at this
      simpa [qE] using this
    · refine load_r hb ?_
      rw [nth_eq]
      have := congrArg (fun l => l[1]?) h1
      simp only [List.getElem?_take, List.getElem?_drop] at this
      simpa [qE] using this
end
theorem inR_of {z : Int} (h : (Lit.int .i64 z).wf = true) : inR .i64 z = true := by
  have h : (decide (IntKind.min .i64 ≤ z) && decide (z ≤ IntKind.max .i64)) = true := h
  rw [Bool.and_eq_true, decide_eq_true_eq, decide_eq_true_eq] at h
  have h1 : -9223372036854775808 ≤ z := h.1
  have h2 : z ≤ 9223372036854775807 := h.2
  cases z with
  | ofNat m => exact Nat.ble_eq_true_of_le (by show m ≤ 9223372036854775807; have : Int.ofNat m = (m : Int) := rfl; omega)
  | negSucc m => exact Nat.ble_eq_true_of_le (by show m + 1 ≤ 9223372036854775808; omega)
theorem trod_iw {H : Type} {enc : TypeId × Value → H} {P : Program} {w : World} {base : Nat} {spare : Nat → Bool} {held : Bool} {e : TypeId} {fuel : Nat} {c : Value} {x : DataW H × List MemPlace} (he : P.underlying e = some (.int .i64))
    (h : DataW.trod enc P w base spare held fuel e [c] = some x) : ∃ z, c = .int .i64 z ∧ inR .i64 z = true := by
  cases fuel with
  | zero => simp [DataW.trod] at h
  | succ n =>
    rw [DataW.trod_step] at h
    unfold DataW.trodStep at h
    simp only [he] at h
    cases c <;> simp only [reduceCtorEq] at h
    rename_i k' z
    split at h
    · rename_i hk; exact ⟨z, by rw [hk.1], inR_of hk.2⟩
    · cases h
/-- A slice of pairs that comes in. -/
theorem trod_slArg2w {H : Type} {enc : TypeId × Value → H} {P : Program} {W : World} {base : Nat} {t e i : TypeId} (ht : P.underlying t = some (.slice e)) (he : P.underlying e = some (.array 2 i)) (hi : P.underlying i = some (.int .i64)) (hci : P.cellsOf i = 1) (hce : P.cellsOf e = 2) {v : Value} {d : DataW H} {p ps : List MemPlace}
    (hval : Value.okWide P W .any base t v) (hd : DataW.Trod enc P W 0 (fun _ => true) true t v d p) (hps : ∀ x ∈ p, x ∈ ps) (hnf : W.noneFrozen ps) :
    ∃ len zs, SlArgK 2 W v len zs ∧ (∀ z ∈ zs, inR .i64 z = true) ∧ ∀ W', Below W.heap.size W W' → DataW.Trod enc P W' 0 (fun b => decide (b < W.heap.size)) true t v d p := by
  have back : ∀ W', Below W.heap.size W W' → DataW.Trod enc P W' 0 (fun b => decide (b < W.heap.size)) true t v d p := fun W' hb => trod_slice_frame ht (plain_arr he (plain_int hi)) (by omega) hb hd
  obtain ⟨ao, len0, cap0, rfl⟩ := okWide_slice ht hval
  obtain ⟨fuel, hf⟩ := hd
  have hcells : (Value.slice ao len0 cap0).cells.toList = [.slice ao len0 cap0] := rfl
  rw [hcells] at hf
  rcases DataW.trod_slice ht hf with ⟨hcs, hx⟩ | ⟨a, len, cap, elems, rest, n, rfl, hcs, hx, h0, hl, hm, hlen, hel, hsp, _⟩
  · cases hcs
    exact ⟨0, [], .inl ⟨rfl, rfl, rfl⟩, fun z hz => (by cases hz), back⟩
  · cases hcs
    cases hx
    obtain ⟨hrl, hr⟩ := hsp rfl
    have hspot : a.spot = none := by
      simp only [Value.okWide, ht, Cell.okWide, Cell.ok] at hval
      exact hval.2.2.2.1
    obtain ⟨b, off, sp⟩ := a
    have hspot : sp = none := hspot
    subst hspot
    have el : ∀ j, j < cap0 → ∃ y, (W.cells? 0 ((⟨b, off, none⟩ : Addr).add (j * 2)) 2).bind (DataW.trod enc P W 0 (fun _ => true) true n e) = some y := by
      intro j hj
      rw [hce] at hel hr
      by_cases h1 : j < len0
      · exact ⟨elems[j]'(by omega), by rw [hel j h1, List.getElem?_eq_getElem (by omega)]⟩
      · refine ⟨rest[j - len0]'(by omega), ?_⟩
        have := hr (j - len0) (by omega)
        rw [show len0 + (j - len0) = j by omega] at this
        rw [this, List.getElem?_eq_getElem (by omega)]
    have cell : ∀ j, j < cap0 * 2 → ∃ z, W.cell? ((⟨b, off, none⟩ : Addr).add j) = some (.int .i64 z) ∧ inR .i64 z = true := by
      intro j hj
      obtain ⟨y, hy⟩ := el (j / 2) (by omega)
      obtain ⟨cs, h1, h2⟩ := Option.bind_eq_some_iff.1 hy
      obtain ⟨c0, c1, rfl, q0, q1⟩ := cells2_of h1
      obtain ⟨y0, y1, n', r0, r1⟩ := trod_array2 he hci h2
      obtain ⟨z0, rfl, w0⟩ := trod_iw hi r0
      obtain ⟨z1, rfl, w1⟩ := trod_iw hi r1
      rw [add_lit', add_lit'] at q0 q1
      rcases Nat.mod_two_eq_zero_or_one j with h | h
      · refine ⟨z0, ?_, w0⟩
        rw [add_lit', ← q0]
        have : j = j / 2 * 2 := by omega
        rw [Nat.add_zero, ← this]
      · refine ⟨z1, ?_, w1⟩
        rw [add_lit', ← q1]
        rw [show off + j / 2 * 2 + 1 = off + j by omega]
    refine ⟨len0, (List.range (cap0 * 2)).map fun j => numZ (W.cell? ⟨b, off + j, none⟩), .inr ⟨b, off, cap0, rfl, hl, by simp, fun j hj => ?_, fun j hj => ?_⟩, fun z hz => ?_, back⟩
    · have hj : j < cap0 * 2 := by simpa using hj
      obtain ⟨z, hz, _⟩ := cell j hj
      rw [add_lit'] at hz
      have hz : W.cell? ⟨b, off + j, none⟩ = some (.int .i64 z) := hz
      rw [List.getElem_map, List.getElem_range, hz]; rfl
    · have hj : j < cap0 * 2 := by simpa using hj
      refine hnf b (off + j) (hps _ (List.mem_append_left _ ?_))
      unfold MemPlace.row
      rw [List.mem_map]
      exact ⟨j, by rw [List.mem_range, hce]; omega, rfl⟩
    · obtain ⟨j, hj, rfl⟩ := List.mem_map.1 hz
      obtain ⟨z, hz, hw⟩ := cell j (List.mem_range.1 hj)
      rw [add_lit'] at hz
      have hz : W.cell? ⟨b, off + j, none⟩ = some (.int .i64 z) := hz
      rw [hz]; exact hw
/-- Numbers, two by two. -/
def pairsOf (len : Nat) (zs : List Int) : List (Int × Int) := (List.range len).map fun i => (zs.getD (i * 2) 0, zs.getD (i * 2 + 1) 0)
theorem pairsOf_len {len : Nat} {zs : List Int} : (pairsOf len zs).length = len := by simp [pairsOf]
theorem pairsOf_flat : ∀ (len : Nat) {zs : List Int}, len * 2 ≤ zs.length → (pairsOf len zs).flatMap qE = (zs.take (len * 2)).map iE
  | 0, zs, _ => by simp [pairsOf]
  | len + 1, zs, h => by
    have ih := pairsOf_flat len (zs := zs) (by omega)
    unfold pairsOf at ih ⊢
    rw [List.range_succ, List.map_append, List.flatMap_append, ih, show (len + 1) * 2 = len * 2 + 1 + 1 by omega, List.take_succ_eq_append_getElem (by omega), List.take_succ_eq_append_getElem (by omega), List.map_append, List.map_append, List.append_assoc]
    congr 1
    simp only [List.map_cons, List.map_nil, List.flatMap_cons, List.flatMap_nil, List.append_nil, qE, iE, List.getD, List.getElem?_eq_getElem (show len * 2 < zs.length by omega), List.getElem?_eq_getElem (show len * 2 + 1 < zs.length by omega), Option.getD_some, List.singleton_append]
theorem SlArgK.le {k len : Nat} {W : World} {v : Value} {zs : List Int} (h : SlArgK k W v len zs) : len * k ≤ zs.length := by
  rcases h with ⟨_, rfl, rfl⟩ | ⟨b, off, cap, _, h1, h2, _⟩
  · simp
  · rw [h2]; exact Nat.mul_le_mul_right _ h1
theorem Srk.srp {h : H} {v : V} {len : Nat} {zs : List Int} (hs : Srk 2 h v len ((zs.take (len * 2)).map iE)) (hl : len * 2 ≤ zs.length) : Srp h v (pairsOf len zs) := by
  unfold Srp
  rw [pairsOf_len, pairsOf_flat len hl]; exact hs
theorem Srp.beq {h : H} {v : V} {L : List (Int × Int)} (hs : Srp h v L) : beqV v v = true := by
  rcases hs with ⟨rfl, _⟩ | ⟨id, off, m, cs, rfl, _⟩
  · rfl
  · show (id.beq id && Nat.beq off off && Nat.beq L.length L.length && Nat.beq 2 2) = true
    rw [K.beq_refl, Nat.beq_same, Nat.beq_same]; rfl
/-! ### More rules -/
section
variable {fs : T EF} {fr : Fr} {h : H} {x y z : EO} {k : K}
theorem stay_ldn {n : Nat} : (stays fs goNo fr h ⟨some k, none, .ldn n x⟩ = true) = again (loadV h (ev fr x) (many? n)) (getV (fr.get k)) := chk_again
theorem stay_iadr {n sz : Nat} : (stays fs goNo fr h ⟨some k, none, .iadr n sz x y⟩ = true) = again ((ev fr x).onP fun id off => idxV (ev fr y) n fun m => .ok (.p id (off + m * sz)) h) (getV (fr.get k)) := chk_again
theorem stay_conv {kk : IntKind} : (stays fs goNo fr h ⟨some k, none, .conv kk x⟩ = true) = again ((ev fr x).onI .no fun _ n => .ok (.i kk (fw kk n)) h) (getV (fr.get k)) := chk_again
theorem fill_2 {x y : EO} {z1 z2 : V} : fillE fr [z1, z2] [(0, 1, x), (1, 1, y)] = oGet (cellsN 1 (ev fr x)) none fun cs => oGet (cellsN 1 (ev fr y)) none fun ds => some (setMany (setMany [z1, z2] 0 cs) 1 ds) := of_eq_true (eq_self _)
theorem set_2 {z1 z2 a b : V} : setMany (setMany [z1, z2] 0 [a]) 1 [b] = [a, b] := of_eq_true (eq_self _)
theorem ix2_0 {kk : IntKind} {f : Nat → RV} : idxV (.i kk 0) 2 f = f 0 := of_eq_true (eq_self _)
theorem ix2_1 {kk : IntKind} {f : Nat → RV} : idxV (.i kk 1) 2 f = f 1 := of_eq_true (eq_self _)
theorem of7 : Int.ofNat 7 = 7 := of_eq_true (eq_self _)
theorem of20 : Int.ofNat 20 = 20 := of_eq_true (eq_self _)
theorem of25 : Int.ofNat 25 = 25 := of_eq_true (eq_self _)
theorem of30 : Int.ofNat 30 = 30 := of_eq_true (eq_self _)
end
end Go.Ev
namespace Go.Ev
open Go Go.RowKit
section
variable {fs : T EF}
theorem rvP_mono {r : RV} {f g : V → H → Prop} (hfg : ∀ v h, f v h → g v h) (hx : rvP r f) : rvP r g := by
  cases r with
  | no => exact hx
  | ok v h => exact hfg v h hx
theorem X1_mono {op : EOp} {fr : Fr} {h : H} {P Q : V → H → Prop} (hpq : ∀ v h, P v h → Q v h) (hx : X1 fs op fr h P) : X1 fs op fr h Q := by
  unfold X1 at hx ⊢
  split at hx
  · exact hx.mono hpq
  · exact rvP_mono hpq hx
theorem GP_mono {o : Option Bool} {p q p' q' : Prop} (h1 : p → p') (h2 : q → q') (hx : GP o p q) : GP o p' q' := by
  cases o with
  | none => exact hx
  | some b => exact ⟨fun e => h1 (hx.1 e), fun e => h2 (hx.2 e)⟩
/-- Operations, then P, and so Q. -/
theorem X_mono : ∀ {l : List EOper} {P Q : Fr → H → Prop} {fr : Fr} {h : H}, X fs l P fr h → (∀ fr h, P fr h → Q fr h) → X fs l Q fr h
  | [], _, _, fr, h, hx, hpq => hpq fr h hx
  | o :: l, P, Q, fr, h, hx, hpq => by
    have hx : GP (wants fr o.g) (X1 fs o.op fr h fun v h' => X fs l P (putD fr o.dst v) h') (X fs l P (putD fr o.dst undefV) h) := hx
    exact GP_mono (fun h1 => X1_mono (fun v h' h2 => X_mono h2 hpq) h1) (fun h2 => X_mono h2 hpq) hx
end
end Go.Ev
namespace Go.Ev
open Go Go.RowKit
section
variable {h h' : H} {v u : V} {L : List (Int × Int)} {b : Nat}
theorem flat_get : ∀ {L : List (Int × Int)} {t : Nat}, (L.flatMap qE)[t]? = (L[t / 2]?).map fun p => if t % 2 = 0 then iE p.1 else iE p.2
  | [], t => by simp
  | x :: L, 0 => rfl
  | x :: L, 1 => rfl
  | x :: L, t + 2 => by
    rw [List.flatMap_cons]
    show (V.i .i64 x.1 :: V.i .i64 x.2 :: L.flatMap qE)[t + 2]? = _
    rw [List.getElem?_cons_succ, List.getElem?_cons_succ, flat_get (L := L) (t := t), show (t + 2) / 2 = t / 2 + 1 by omega, List.getElem?_cons_succ, show (t + 2) % 2 = t % 2 by omega]
theorem set_get {cs : List V} {p : Nat} {a b : V} (hp : p + 2 ≤ cs.length) {q : Nat} : (setMany cs p [a, b])[q]? = if q = p then some a else if q = p + 1 then some b else cs[q]? := by
  rw [setMany_eq _ _ _ (by simpa using hp)]
  rcases Nat.lt_trichotomy q p with h1 | h1 | h1
  · rw [List.append_assoc, List.getElem?_append_left (by simp; omega), List.getElem?_take, if_pos h1, if_neg (by omega), if_neg (by omega)]
  · subst h1
    rw [List.append_assoc, List.getElem?_append_right (by simp; omega), if_pos rfl]; simp
    have : min q cs.length = q := by omega
    rw [this]; simp
  · rw [if_neg (by omega)]
    by_cases h2 : q = p + 1
    · subst h2
      rw [if_pos rfl, List.append_assoc, List.getElem?_append_right (by simp; omega)]; simp
      have : p + 1 - min p cs.length = 1 := by omega
      rw [this]; simp
    · rw [if_neg h2, List.getElem?_append_right (by simp; omega)]
      simp
      rw [show p + 2 + (q - (min p cs.length + 2)) = q by omega]
/-- A store into a slice of pairs. -/
theorem Sk.st2 (hs : Sk 2 qE h v L) {i : Nat} (hi : i < L.length) {x : Int × Int} (hhc : HC h) :
    ∃ p id m cs', (∀ k h1, iadsV 2 v (.i k (i : Int)) h1 = .ok p h1) ∧ storeV h 2 p (.agg [.i .i64 x.1, .i .i64 x.2]) = .ok undefV (h.put id (.cells m cs')) ∧ Sk 2 qE (h.put id (.cells m cs')) v (L.set i x) ∧ (∃ off n sz, v = .sl id off n sz) ∧ id.nat < h.nx.nat := by
  rcases hs with ⟨rfl, rfl⟩ | ⟨id, off, m, cs, rfl, hb, hl, hm, hx⟩
  · simp at hi
  · have hin : i * 2 + 2 ≤ L.length * 2 := by omega
    refine ⟨.p id (off + i * 2), id, m, setMany cs (off + i * 2) [.i .i64 x.1, .i .i64 x.2], fun k h1 => ?_, ?_, ?_, ⟨off, L.length, 2, rfl⟩, hhc.cells hb⟩
    · rw [iads_sl, idx_n hi]
    · exact store_p hb cells2 (by omega)
    · refine .inr ⟨id, off, m, _, by rw [List.length_set], get_put_same, ?_, by rw [List.length_set]; exact hm, ?_⟩
      · rw [setMany_eq _ _ _ (by simp; omega)]; simp; omega
      · rw [List.length_set]
        apply List.ext_getElem?
        intro t
        rw [List.getElem?_take, flat_get]
        by_cases ht : t < L.length * 2
        · have h0 := congrArg (fun l => l[t]?) hx
          simp only [List.getElem?_take, if_pos ht, List.getElem?_drop, flat_get] at h0
          rw [if_pos ht, List.getElem?_drop, set_get (by omega), List.getElem?_set]
          by_cases e1 : t = i * 2
          · subst e1
            rw [if_pos rfl, show i * 2 / 2 = i by omega, if_pos rfl, if_pos hi]
            simp [iE]
          · by_cases e2 : t = i * 2 + 1
            · subst e2
              rw [if_neg (by omega), if_pos (by omega), show (i * 2 + 1) / 2 = i by omega, if_pos rfl, if_pos hi]
              simp [iE]
            · rw [if_neg (by omega), if_neg (by omega), if_neg (by omega), h0]
        · rw [if_neg ht, List.getElem?_eq_none (by simp; omega)]; rfl
section
variable {us : List V} {Ls : List (List (Int × Int))}
end
end
end Go.Ev
namespace Go.Ev
section
variable {h h' : H} {v u : V} {L M : List (Int × Int)}
end
end Go.Ev
namespace Go.Ev
open Go Go.RowKit Go.ChangeShapes Go.WideShapes Go.ChangeAt
section
variable {Y : Rig} {ι : Io} {h : H} {W : World}
end
end Go.Ev
namespace Go.Ev
open Go Go.RowKit Go.ChangeShapes Go.WideShapes Go.ChangeAt
/-- Read in one memory, so it is read in the other. -/
def SameR (H : Type) (enc : TypeId × Value → H) (P : Program) (W W' : World) (e : TypeId) : Prop := ∀ n cs y, DataW.trod enc P W 0 (fun _ => true) true n e cs = some y → DataW.trod enc P W' 0 (fun b => decide (b < W.heap.size)) true n e cs = some y
theorem Plain.sameR {H : Type} {enc : TypeId × Value → H} {P : Program} {W W' : World} {e : TypeId} (pe : Plain P e) : SameR H enc P W W' e := fun n cs y h => by rw [← h]; exact pe enc W' W 0 _ _ true n cs
theorem cells_block {P : Program} {H : Type} {enc : TypeId × Value → H} {W : World} {a : Addr} {e : TypeId} {n i : Nat} {y : DataW H × List MemPlace} (hpos : 0 < P.cellsOf e) (hy : (W.cells? 0 (a.add (i * P.cellsOf e)) (P.cellsOf e)).bind (DataW.trod enc P W 0 (fun _ => true) true n e) = some y) : a.block < W.heap.size ∧ (i = 0 → a.spot = none) := by
  obtain ⟨cs, h1, _⟩ := Option.bind_eq_some_iff.1 hy
  unfold World.cells? at h1
  rw [if_pos (Nat.zero_le _)] at h1
  obtain ⟨k, hk⟩ : ∃ k, P.cellsOf e = k + 1 := ⟨P.cellsOf e - 1, by omega⟩
  rw [hk, List.range_succ_eq_map, List.mapM_cons] at h1
  cases h2 : W.cell? ((a.add (i * (k + 1))).add 0) with
  | none => rw [h2] at h1; simp at h1
  | some c =>
    unfold World.cell? at h2
    have hbk : ((a.add (i * (k + 1))).add 0).block = a.block := by rw [block_add, block_add]
    rw [hbk] at h2
    split at h2
    · rename_i hh
      refine ⟨(Array.getElem?_eq_some_iff.1 hh).1, fun hi => ?_⟩
      subst hi
      have e0 : ((a.add (0 * (k + 1))).add 0) = a := by simp [Addr.add]
      rw [e0] at h2
      cases hsp : a.spot with
      | none => rfl
      | some s => rw [hsp] at h2; cases h2
    · cases h2
theorem trod_same {H : Type} {enc : TypeId × Value → H} {P : Program} {W W' : World} {t e : TypeId} (ht : P.underlying t = some (.slice e)) (pe : SameR H enc P W W' e) (hpos : 0 < P.cellsOf e) (hb : Below W.heap.size W W') : SameR H enc P W W' t := by
  intro fuel cs x hf
  rcases DataW.trod_slice ht hf with ⟨hcs, hx⟩ | ⟨a, len, cap, elems, rest, n, rfl, hcs, hx, h0, hl, hm, hlen, hel, hsp, _⟩
  · rw [hcs] at hf ⊢
    cases fuel with
    | zero => cases hf
    | succ n =>
      rw [DataW.trod_step] at hf ⊢
      unfold DataW.trodStep at hf ⊢
      simp only [ht] at hf ⊢
      exact hf
  · obtain ⟨hrl, hr⟩ := hsp rfl
    rw [hcs] at hf ⊢
    rw [DataW.trod_step] at hf ⊢
    unfold DataW.trodStep at hf ⊢
    simp only [ht] at hf ⊢
    rw [if_pos ⟨h0, hl, hm⟩] at hf ⊢
    rw [← hf]
    by_cases hc0 : cap = 0
    · subst hc0
      obtain rfl : len = 0 := by omega
      simp
    · have hbl : a.block < W.heap.size := by
        by_cases h1 : 0 < len
        · exact (cells_block (i := 0) (y := elems[0]'(by omega)) hpos (by rw [hel 0 h1, List.getElem?_eq_getElem (by omega)])).1
        · exact (cells_block (i := len + 0) (y := rest[0]'(by omega)) hpos (by rw [hr 0 (by omega), List.getElem?_eq_getElem (by omega)])).1
      have hcc : ∀ i, W'.cells? 0 (a.add (i * P.cellsOf e)) (P.cellsOf e) = W.cells? 0 (a.add (i * P.cellsOf e)) (P.cellsOf e) := fun i => by
        unfold World.cells?
        rw [if_pos (Nat.zero_le _), if_pos (Nat.zero_le _)]
        exact mapM_same _ fun j _ => cell_below hb (by rw [block_add, block_add]; exact hbl)
      have el : ∀ i y, (W.cells? 0 (a.add (i * P.cellsOf e)) (P.cellsOf e)).bind (DataW.trod enc P W 0 (fun _ => true) true n e) = some y → (W'.cells? 0 (a.add (i * P.cellsOf e)) (P.cellsOf e)).bind (DataW.trod enc P W' 0 (fun b => decide (b < W.heap.size)) true n e) = (W.cells? 0 (a.add (i * P.cellsOf e)) (P.cellsOf e)).bind (DataW.trod enc P W 0 (fun _ => true) true n e) := fun i y hy => by
        rw [hcc i, hy]
        obtain ⟨cs, h1, h2⟩ := Option.bind_eq_some_iff.1 hy
        rw [h1]
        exact pe n cs y h2
      have e1 : (List.range len).mapM (fun i => (W'.cells? 0 (a.add (i * P.cellsOf e)) (P.cellsOf e)).bind (DataW.trod enc P W' 0 (fun b => decide (b < W.heap.size)) true n e)) = (List.range len).mapM (fun i => (W.cells? 0 (a.add (i * P.cellsOf e)) (P.cellsOf e)).bind (DataW.trod enc P W 0 (fun _ => true) true n e)) := mapM_same _ fun i hi => by
        have hi : i < len := by simpa using hi
        exact el i (elems[i]'(by omega)) (by rw [hel i hi, List.getElem?_eq_getElem (by omega)])
      have e2 : (List.range (cap - len)).mapM (fun j => (W'.cells? 0 (a.add ((len + j) * P.cellsOf e)) (P.cellsOf e)).bind (DataW.trod enc P W' 0 (fun b => decide (b < W.heap.size)) true n e)) = (List.range (cap - len)).mapM (fun j => (W.cells? 0 (a.add ((len + j) * P.cellsOf e)) (P.cellsOf e)).bind (DataW.trod enc P W 0 (fun _ => true) true n e)) := mapM_same _ fun j hj => by
        have hj : j < cap - len := by simpa using hj
        exact el (len + j) (rest[j]'(by omega)) (by rw [hr j hj, List.getElem?_eq_getElem (by omega)])
      rw [e1, e2]
      simp only [hbl, decide_true, if_true]
end Go.Ev
namespace Go.Ev
open Go Go.RowKit
section
variable {fs : T EF} {fr : Fr} {h : H}
theorem frame_5 {v1 v2 v3 v4 v5 : V} : frame .e [v1, v2, v3, v4, v5] .nil = T.set (K.ofNat 4) v5 (T.set (K.ofNat 3) v4 (T.set (K.ofNat 2) v3 (T.set (K.ofNat 1) v2 (T.set (K.ofNat 0) v1 .nil)))) := of_eq_true (eq_self _)
end
theorem slArg_len {P : Program} {W : World} {base : Nat} {t e : TypeId} (ht : P.underlying t = some (.slice e)) {v : Value} {L : List Int} (hval : Value.okWide P W .any base t v) (hs : SlArg W v L) : L.length ≤ 9223372036854775807 := by
  rcases hs with ⟨_, rfl⟩ | ⟨b, off, len, zs, rfl, h1, rfl, _⟩
  · exact Nat.zero_le _
  · simp only [Value.okWide, ht, Cell.okWide, Cell.ok] at hval
    have h2 := hval.2.1
    have h3 : IntKind.i64.max = 9223372036854775807 := rfl
    simp
    omega
end Go.Ev
namespace Go.Ev
open Go Go.RowKit
end Go.Ev
namespace Go.Ev
open Go Go.RowKit

/-- A relation, from a function. -/
def rl (f : Nat → Nat → Bool) : List Bool := (List.range 49).map fun i => f (i / 7) (i % 7)
def rat (L : List Bool) (a b : Nat) : Bool := decide (a < 7) && decide (b < 7) && L.getD (7 * a + b) false
theorem rl_len {f : Nat → Nat → Bool} : (rl f).length = 49 := by simp [rl]
theorem rl_getD {f : Nat → Nat → Bool} {i : Nat} (hi : i < 49) : (rl f).getD i false = f (i / 7) (i % 7) := by
  rw [List.getD_eq_getElem?_getD, List.getElem?_eq_getElem (by rw [rl_len]; exact hi)]
  simp [rl]
theorem rat_rl {f : Nat → Nat → Bool} {a b : Nat} : rat (rl f) a b = (decide (a < 7) && decide (b < 7) && f a b) := by
  unfold rat
  by_cases ha : a < 7
  · by_cases hb : b < 7
    · rw [rl_getD (by omega), show (7 * a + b) / 7 = a by omega, show (7 * a + b) % 7 = b by omega]
    · rw [decide_eq_false hb]; simp
  · rw [decide_eq_false ha]; simp
theorem rat_lt {L : List Bool} {a b : Nat} (h : rat L a b = true) : a < 7 ∧ b < 7 := by
  unfold rat at h; simp only [Bool.and_eq_true, decide_eq_true_eq] at h; exact h.1
theorem rl_congr {f g : Nat → Nat → Bool} (h : ∀ a b, a < 7 → b < 7 → f a b = g a b) : rl f = rl g := by
  unfold rl
  apply List.map_congr_left
  intro i hi
  rw [List.mem_range] at hi
  exact h _ _ (by omega) (by omega)
theorem rl_rat {L : List Bool} (hL : L.length = 49) : rl (rat L) = L := by
  apply List.ext_getElem
  · rw [rl_len, hL]
  · intro i h1 h2
    rw [rl_len] at h1
    have := rl_getD (f := rat L) h1
    rw [List.getD_eq_getElem?_getD, List.getElem?_eq_getElem (by rw [rl_len]; exact h1)] at this
    rw [show (rl (rat L))[i] = rat L (i / 7) (i % 7) from this]
    unfold rat
    rw [decide_eq_true (show i / 7 < 7 by omega), decide_eq_true (show i % 7 < 7 by omega), show 7 * (i / 7) + i % 7 = i by omega, List.getD_eq_getElem?_getD, List.getElem?_eq_getElem h2]
    rfl
theorem rel_ext {L M : List Bool} (hL : L.length = 49) (hM : M.length = 49) (h : ∀ a b, a < 7 → b < 7 → rat L a b = rat M a b) : L = M := by
  rw [← rl_rat hL, ← rl_rat hM]; exact rl_congr h
/-- One arrow more, or less. -/
theorem rl_set {f : Nat → Nat → Bool} {a b : Nat} {v : Bool} (hb : b < 7) : (rl f).set (7 * a + b) v = rl fun x y => if x = a ∧ y = b then v else f x y := by
  apply List.ext_getElem
  · rw [List.length_set, rl_len, rl_len]
  · intro i h1 h2
    rw [rl_len] at h2
    rw [List.getElem_set]
    have e1 : ∀ g : Nat → Nat → Bool, (rl g)[i]'(by rw [rl_len]; exact h2) = g (i / 7) (i % 7) := fun g => by simp [rl]
    rw [e1, e1]
    by_cases e : 7 * a + b = i
    · rw [if_pos e, if_pos ⟨by omega, by omega⟩]
    · rw [if_neg e, if_neg (fun h => e (by omega))]
/-- The arrows, rising. -/
def arw (f : Nat → Nat → Bool) : List (Nat × Nat) := ((List.range 49).filter fun i => f (i / 7) (i % 7)).map fun i => (i / 7, i % 7)
theorem mem_arw {f : Nat → Nat → Bool} {a b : Nat} : (a, b) ∈ arw f ↔ a < 7 ∧ b < 7 ∧ f a b = true := by
  unfold arw
  simp only [List.mem_map, List.mem_filter, List.mem_range, Prod.mk.injEq]
  constructor
  · rintro ⟨i, ⟨h1, h2⟩, rfl, rfl⟩; exact ⟨by omega, by omega, h2⟩
  · rintro ⟨h1, h2, h3⟩
    refine ⟨7 * a + b, ⟨by omega, ?_⟩, by omega, by omega⟩
    rw [show (7 * a + b) / 7 = a by omega, show (7 * a + b) % 7 = b by omega]; exact h3
theorem arw_congr {f g : Nat → Nat → Bool} (h : ∀ a b, a < 7 → b < 7 → f a b = g a b) : arw f = arw g := by
  unfold arw
  congr 1
  apply List.filter_congr
  intro i hi
  rw [List.mem_range] at hi
  exact h _ _ (by omega) (by omega)
theorem arw_len {f : Nat → Nat → Bool} : (arw f).length = cntB (fun i => f (i / 7) (i % 7)) 49 := by simp [arw, cntB]
theorem arw_at {f : Nat → Nat → Bool} {i : Nat} (hi : i < 49) (hf : f (i / 7) (i % 7) = true) : (arw f)[cntB (fun i => f (i / 7) (i % 7)) i]? = some (i / 7, i % 7) := by
  have h1 := filter_at (B := fun i => f (i / 7) (i % 7)) hi hf
  unfold arw
  rw [List.getElem?_map, h1]; rfl
theorem arw_lt {f : Nat → Nat → Bool} {x : Nat × Nat} (h : x ∈ arw f) : x.1 < 7 ∧ x.2 < 7 ∧ f x.1 x.2 = true := mem_arw.1 h

/-- Cells, values. -/
noncomputable def rV (L : List Bool) : V := .agg (L.map V.b)
noncomputable def aV (x : Nat × Nat) : V := .agg [.i .i64 (x.1 : Int), .i .i64 (x.2 : Int)]
noncomputable def rC (L : List Bool) : Blk := .cells 49 (L.map V.b)
theorem rV_inj {L M : List Bool} (h : rV L = rV M) : L = M := by
  unfold rV at h
  injection h with h
  exact (List.map_inj_right (fun a b e => by injection e)).1 h
theorem rV_plain {L : List Bool} : (rV L).plain = true := by
  show (L.map V.b).all V.flat = true
  rw [List.all_map]; exact List.all_eq_true.2 fun _ _ => rfl
section
variable {h : H} {id : K} {L : List Bool}
theorem rC_cells (hL : L.length = 49) : cellsN 49 (rV L) = some (L.map V.b) := by
  show (bif Nat.beq (lenL (L.map V.b)) 49 then some (L.map V.b) else none) = _
  rw [lenL_eq, List.length_map, hL]; rfl
theorem rC_ldn (hL : L.length = 49) (hb : h.get id = rC L) : loadV h (.p id 0) (many? 49) = .ok (rV L) h := by
  rw [loadn_p (n := 49) hb (by omega), takeN_eq, dropN_eq, List.drop_zero, List.take_of_length_le (by simp [hL])]; rfl
theorem rC_read (hL : L.length = 49) (hb : h.get id = rC L) : readP h (.p id 0) (many? 49) = some (rV L) := by
  have h1 := rC_ldn hL hb
  unfold loadV okv at h1
  cases e : readP h (.p id 0) (many? 49) with
  | none => rw [e] at h1; cases h1
  | some v =>
    rw [e] at h1
    have h1 : RV.ok v h = RV.ok (rV L) h := h1
    injection h1 with h1
    rw [h1]
theorem rC_stn {M : List Bool} (hL : L.length = 49) (hM : M.length = 49) (hb : h.get id = rC M) : storeV h 49 (.p id 0) (rV L) = .ok undefV (h.put id (rC L)) := by
  rw [store_p hb (rC_cells hL) (by omega), setMany_eq _ _ _ (by simp [hL, hM])]
  simp only [List.take_zero, List.nil_append, Nat.zero_add]
  rw [List.drop_of_length_le (by simp [hL, hM]), List.append_nil]; rfl
theorem ix_row {a : Nat} (ha : a < 7) (hL : L.length = 49) : ixV 7 7 true (rV L) (.i .i64 (a : Int)) h = .ok (.agg ((List.range 7).map fun b => .b (rat L a b))) h := by
  show idxV (.i .i64 (a : Int)) 7 (fun n => bif true then .ok (.agg (takeN 7 (dropN (n * 7) (L.map V.b)))) h else okv (nth (L.map V.b) (n * 7)) h) = _
  rw [idx_n ha]
  show RV.ok (.agg (takeN 7 (dropN (a * 7) (L.map V.b)))) h = _
  congr 2
  rw [takeN_eq, dropN_eq]
  apply List.ext_getElem
  · simp; omega
  · intro i h1 h2
    have hi : i < 7 := by simpa using h2
    simp only [List.getElem_take, List.getElem_drop, List.getElem_map, List.getElem_range]
    unfold rat
    rw [decide_eq_true ha, decide_eq_true hi, List.getD_eq_getElem?_getD, List.getElem?_eq_getElem (show 7 * a + i < L.length by omega)]
    simp [Nat.mul_comm]
theorem ix_cell {f : Nat → Bool} {b : Nat} (hb : b < 7) : ixV 7 1 false (.agg ((List.range 7).map fun b => .b (f b))) (.i .i64 (b : Int)) h = .ok (.b (f b)) h := by
  show idxV (.i .i64 (b : Int)) 7 (fun n => bif false then .ok (.agg (takeN 1 (dropN (n * 1) ((List.range 7).map fun b => V.b (f b))))) h else okv (nth ((List.range 7).map fun b => V.b (f b)) (n * 1)) h) = _
  rw [idx_n hb]
  show okv (nth ((List.range 7).map fun b => V.b (f b)) (b * 1)) h = _
  rw [nth_eq, Nat.mul_one, List.getElem?_map, List.getElem?_range hb]; rfl
/-- A cell of a relation in memory. -/
theorem rC_ld {a b : Nat} (ha : a < 7) (hb : b < 7) (hL : L.length = 49) (hg : h.get id = rC L) : loadV h (.p id (0 + a * 7 + b * 1)) one? = .ok (.b (rat L a b)) h := by
  refine load_p hg ?_
  rw [nth_eq, List.getElem?_map, List.getElem?_eq_getElem (show 0 + a * 7 + b * 1 < L.length by omega)]
  unfold rat
  rw [decide_eq_true ha, decide_eq_true hb, List.getD_eq_getElem?_getD, List.getElem?_eq_getElem (show 7 * a + b < L.length by omega)]
  simp [Nat.mul_comm]
theorem rC_st {f : Nat → Nat → Bool} {a b : Nat} {v : Bool} (ha : a < 7) (hb : b < 7) (hg : h.get id = rC (rl f)) : storeV h 1 (.p id (0 + a * 7 + b * 1)) (.b v) = .ok undefV (h.put id (rC (rl fun x y => if x = a ∧ y = b then v else f x y))) := by
  have hA : Ar V.b h id (rl f) := by unfold Ar; rw [rl_len]; exact hg
  have := hA.st (i := 7 * a + b) (by rw [rl_len]; omega) (x := v) (c := .b v) rfl rfl
  rw [show 0 + (7 * a + b) * 1 = 0 + a * 7 + b * 1 by omega] at this
  rw [this.1, rl_set hb]
  show RV.ok undefV (h.put id (.cells _ _)) = _
  rw [rl_len]; rfl
end
end Go.Ev
namespace Go.Ev
open Go Go.RowKit
section
variable {α : Type} {e : α → V} {h h' : H} {w v u : V} {xs us : List V} {Q Ls : List (List α)} {L : List α} {b : Nat}
end
end Go.Ev
namespace Go.Ev
open Go Go.RowKit
end Go.Ev
namespace Go.Ev
open Go Go.RowKit
end Go.Ev
namespace Go.Ev
open Go Go.RowKit
section
variable {fs : T EF} {α : Type}
/-- The function, called with a body, goes through these: each is a new slice of which B tells what it holds. -/
def YieldsM (fs : T EF) (k : K) (caps : List V) (N : H → Prop) (B : H → V → α → Prop) (Y : List α) : Prop :=
  ∀ (id : K) (I : Nat → H → Prop) (D : H → Prop) (h : H), (∀ i h1, I i h1 → N h1 ∧ HC h1) → I 0 h →
    (∀ i h1 h2 v (hi : i < Y.length), I i h1 → Grow h1.nx.nat h1 h2 → B h2 v Y[i] → Own h1.nx.nat v → ∃ r h', Round fs id v h2 r h' ∧ (r = true → I (i + 1) h') ∧ (r = false → D h')) →
    CallP fs (.fn k caps) [.yl id] h fun r h' => r = .tup [] ∧ ((∃ h1, I Y.length h1 ∧ Grow h1.nx.nat h1 h') ∨ D h')
theorem W_rangeM {ro : Option K} {f : EO} {k : K} {caps : List V} {p : K} {a c : EC} {fr : Fr} {h : H} {Q : Ex → Fr → H → Prop} {N : H → Prop} {B : H → V → α → Prop} {Y : List α} (hro : roOk ro h = true) (hf : ev fr f = .fn k caps) (hy : YieldsM fs k caps N B Y)
    (I : Nat → H → Prop) (D : Ex → H → Prop) (hN : ∀ i h1, I i h1 → N h1 ∧ HC h1 ∧ h.nx.nat < h1.nx.nat) (hI0 : I 0 (h.new (rdyB fr [p] a c)))
    (step : ∀ i h1 h2 v (hi : i < Y.length), I i h1 → Grow h1.nx.nat h1 h2 → h2.get h.nx = rdyB fr [p] a c → B h2 v Y[i] → Own h1.nx.nat v → W fs (some h.nx) a (rndA fs h.nx fr [p] a c (I (i + 1)) D) (fr.set p v) h2)
    (fin : ∀ h1 h2, I Y.length h1 → Grow h1.nx.nat h1 h2 → Q .normal fr (h2.put h.nx .dead)) (brk : ∀ e h1, e ≠ .normal → D e h1 → Q e fr h1) : W fs ro (.rangeF f [p] a c) Q fr h := by
  have key := hy h.nx (fun i h1 => I i h1 ∧ h1.get h.nx = rdyB fr [p] a c) (fun h1 => ∃ e, e ≠ .normal ∧ D e (h1.put h.nx .dead) ∧ h1.get h.nx = .loop .done (some e) fr [p] a c) (h.new (rdyB fr [p] a c)) (fun i h1 hi => ⟨(hN i h1 hi.1).1, (hN i h1 hi.1).2.1⟩) ⟨hI0, get_new_same⟩ ?_
  · obtain ⟨n, r, h1, hc, rfl, hq⟩ := key
    rcases hq with ⟨h0, ⟨hI, hb⟩, hG⟩ | ⟨e, hne, hD, hb⟩
    · have hb1 : h1.get h.nx = rdyB fr [p] a c := (hG.old _ (hN _ _ hI).2.2).trans hb
      exact ⟨.normal, fr, _, Runs.range hro hf ⟨n, hc⟩ hb1 (.inl ⟨rfl, rfl, rfl⟩), fin h0 h1 hI hG⟩
    · exact ⟨e, fr, _, Runs.range hro hf ⟨n, hc⟩ hb (.inr ⟨rfl, rfl⟩), brk e _ hne hD⟩
  · rintro i h1 h2 v hi ⟨hI, hb⟩ hG hs ho
    have hb2 : h2.get h.nx = rdyB fr [p] a c := (hG.old _ (hN _ _ hI).2.2).trans hb
    obtain ⟨e1, fr1, h3, r1, rfl, hb3, hw⟩ := W_ok _ _ _ _ (step i h1 h2 v hi hI hG hb2 hs ho)
    obtain ⟨e2, fr2, h4, r2, hb4, hq⟩ := W_ok _ _ _ _ hw
    refine ⟨isNo e2, h4.put h.nx (afterR e2 fr [p] a c), round_of hb2 rfl r1 hb3 r2 hb4, fun he => ?_, fun he => ?_⟩
    · cases e2 <;> first | exact ⟨hq, get_put_same⟩ | cases he
    · cases e2 with
      | normal => cases he
      | exit j => exact ⟨.exit j, by simp, by rw [H.put_put]; exact hq, get_put_same⟩
      | ret => exact ⟨.ret, by simp, by rw [H.put_put]; exact hq, get_put_same⟩
end
end Go.Ev
namespace Go.Ev
open Go Go.RowKit
noncomputable def f84_r0 : List EOper := [⟨some (.ofNat 1), none, .box 49 (.t (.ofNat 0))⟩, ⟨some (.ofNat 2), none, .as (.c .fnil)⟩]
noncomputable def f84_r1 : List EOper := [⟨some (.ofNat 3), none, .mkfn (.ofNat 101) [(.t (.ofNat 1))]⟩, ⟨some (.ofNat 2), none, .as (.t (.ofNat 3))⟩]
noncomputable def f84_c : EC := (.seq (.reg f84_r0) (.seq (.reg f84_r1) .ret))
noncomputable def f84 : EF := ⟨4, [.tmp (.ofNat 2)], f84_c, none⟩
theorem f84_rs : f84.rs = [.tmp (.ofNat 2)] := of_eq_true (eq_self _)
noncomputable def f101_r0 : List EOper := [⟨some (.ofNat 7), none, .ldn 49 (.t (.ofNat 1))⟩, ⟨some (.ofNat 8), none, .mv (.c (.i .i64 (.ofNat 0)))⟩]
noncomputable def f101_r1 : List EOper := [⟨some (.ofNat 9), none, .bin .lss (.t (.ofNat 8)) (.c (.i .i64 (.ofNat 7)))⟩]
noncomputable def f101_r2 : List EOper := [⟨some (.ofNat 10), none, .mv (.t (.ofNat 8))⟩, ⟨some (.ofNat 11), none, .ix 7 7 true (.t (.ofNat 7)) (.t (.ofNat 8))⟩, ⟨some (.ofNat 4), none, .alloc 7 [(.b false), (.b false), (.b false), (.b false), (.b false), (.b false), (.b false)]⟩, ⟨some (.ofNat 3), none, .as (.t (.ofNat 10))⟩, ⟨none, none, .st 7 (.t (.ofNat 4)) (.t (.ofNat 11))⟩]
noncomputable def f101_r3 : List EOper := [⟨some (.ofNat 12), none, .ldn 7 (.t (.ofNat 4))⟩, ⟨some (.ofNat 13), none, .mv (.c (.i .i64 (.ofNat 0)))⟩]
noncomputable def f101_r4 : List EOper := [⟨some (.ofNat 14), none, .bin .lss (.t (.ofNat 13)) (.c (.i .i64 (.ofNat 7)))⟩]
noncomputable def f101_r5 : List EOper := [⟨some (.ofNat 15), none, .mv (.t (.ofNat 13))⟩, ⟨some (.ofNat 16), none, .ix 7 1 false (.t (.ofNat 12)) (.t (.ofNat 13))⟩, ⟨some (.ofNat 5), none, .as (.t (.ofNat 15))⟩, ⟨some (.ofNat 6), none, .as (.t (.ofNat 16))⟩]
noncomputable def f101_r6 : List EOper := [⟨some (.ofNat 17), none, .mv (.t (.ofNat 6))⟩, ⟨some (.ofNat 18), none, .mv (.t (.ofNat 17))⟩, ⟨some (.ofNat 19), (some ((.ofNat 18), true)), .mv (.t (.ofNat 0))⟩, ⟨some (.ofNat 20), (some ((.ofNat 18), true)), .mv (.t (.ofNat 3))⟩, ⟨some (.ofNat 21), (some ((.ofNat 18), true)), .mv (.t (.ofNat 5))⟩, ⟨some (.ofNat 22), (some ((.ofNat 18), true)), .build [(.i .i64 (.ofNat 0)), (.i .i64 (.ofNat 0))] [(0, 1, (.t (.ofNat 20))), (1, 1, (.t (.ofNat 21)))]⟩, ⟨some (.ofNat 23), (some ((.ofNat 18), true)), .call (.t (.ofNat 19)) [(.t (.ofNat 22))]⟩, ⟨some (.ofNat 24), (some ((.ofNat 18), true)), .not (.t (.ofNat 23))⟩, ⟨some (.ofNat 25), none, .pick (.t (.ofNat 18)) (.t (.ofNat 24)) (.c (.b false))⟩]
noncomputable def f101_r7 : List EOper := [⟨some (.ofNat 26), none, .bin .add (.t (.ofNat 13)) (.c (.i .i64 (.ofNat 1)))⟩, ⟨some (.ofNat 13), none, .mv (.t (.ofNat 26))⟩]
noncomputable def f101_l0 : EC := (.seq (.reg f101_r4) (.seq (.cond (.t (.ofNat 14)) .skip (.exit 2)) (.seq (.block 3 (.seq (.reg f101_r5) (.seq (.reg f101_r6) (.cond (.t (.ofNat 25)) .ret .skip)))) (.reg f101_r7))))
noncomputable def f101_r8 : List EOper := [⟨some (.ofNat 27), none, .bin .add (.t (.ofNat 8)) (.c (.i .i64 (.ofNat 1)))⟩, ⟨some (.ofNat 8), none, .mv (.t (.ofNat 27))⟩]
noncomputable def f101_l1 : EC := (.seq (.reg f101_r1) (.seq (.cond (.t (.ofNat 9)) .skip (.exit 0)) (.seq (.block 1 (.seq (.reg f101_r2) (.seq (.reg f101_r3) (.block 2 (.loop f101_l0))))) (.reg f101_r8))))
noncomputable def f101_c : EC := (.seq (.reg f101_r0) (.block 0 (.loop f101_l1)))
noncomputable def f101 : EF := ⟨28, [], f101_c, none⟩
theorem f101_rs : f101.rs = [] := of_eq_true (eq_self _)
section
variable {fs : T EF} {h : H}
def cnt (L : List Bool) (i : Nat) : Nat := cntB (fun i => rat L (i / 7) (i % 7)) i
theorem cnt_succ {L : List Bool} {a b : Nat} (hb : b < 7) : cnt L (7 * a + (b + 1)) = cnt L (7 * a + b) + (if rat L a b = true then 1 else 0) := by
  unfold cnt
  rw [show 7 * a + (b + 1) = 7 * a + b + 1 by omega, cntB_succ, show (7 * a + b) / 7 = a by omega, show (7 * a + b) % 7 = b by omega]
def BA (_ : H) (v : V) (x : Nat × Nat) : Prop := v = aV x
def f101_I (id idp : K) (L : List Bool) (I : Nat → H → Prop) (a : Nat) (fr : Fr) (h1 : H) : Prop := a ≤ 7 ∧ (∃ h0, I (cnt L (7 * a)) h0 ∧ Grow h0.nx.nat h0 h1) ∧ fr.get (K.ofNat 0) = some (.yl id) ∧ fr.get (K.ofNat 1) = some (.p idp 0) ∧ fr.get (K.ofNat 7) = some (rV L) ∧ fr.get (K.ofNat 8) = some (.i .i64 (a : Int))
def f101_J (id idp : K) (L : List Bool) (I : Nat → H → Prop) (a : Nat) (b : Nat) (fr : Fr) (h1 : H) : Prop := b ≤ 7 ∧ (∃ h0, I (cnt L (7 * a + b)) h0 ∧ Grow h0.nx.nat h0 h1) ∧ fr.get (K.ofNat 0) = some (.yl id) ∧ fr.get (K.ofNat 1) = some (.p idp 0) ∧ fr.get (K.ofNat 3) = some (.i .i64 (a : Int)) ∧ fr.get (K.ofNat 7) = some (rV L) ∧ fr.get (K.ofNat 8) = some (.i .i64 (a : Int)) ∧ fr.get (K.ofNat 12) = some (.agg ((List.range 7).map fun b => .b (rat L a b))) ∧ fr.get (K.ofNat 13) = some (.i .i64 (b : Int))
theorem all_yieldsR {idp : K} {L : List Bool} (hL : L.length = 49) (h101 : fs.get (K.ofNat 101) = some f101) : YieldsM fs (K.ofNat 101) [.p idp 0] (fun h => h.get idp = rC L) BA (arw (rat L)) := by
  intro id I D h hN h0 round
  refine callP_of (ef := f101) h101 rfl ?_
  show Ret fs f101 [.yl id, .p idp 0] h _
  apply ret_of rfl
  show W fs none f101_c _ _ _
  unfold f101_c
  have ld := rC_ldn hL (hN _ _ h0).1
  simp (disch := omega) only [f101_r0, w_reg, w_seq, w_block, seqK_n, x_nil, x_mv, x_ldn, kx, rvP_ok, ev_t, ev_c, getV_some, putD_some, frame_2, of0, getK_set, ↓reduceIte, ld]
  refine W_loop (f101_I id idp L I) (fun a => 7 - a) ?_ 0 ⟨by omega, ⟨h, h0, Grow.refl _ _⟩, by simp (disch := omega) only [getK_set, Nat.reduceEqDiff, ↓reduceIte, and_self, Int.natCast_zero]⟩
  clear ld
  rintro a fr h1 ⟨ha, ⟨h2, hI, hG⟩, g0, g1, g7, g8⟩
  unfold f101_l1
  by_cases hlt : a < 7
  · have d0 : decide ((a : Int) < 7) = true := decide_eq_true (by omega)
    have hx := fun h => ix_row (h := h) hlt hL
    have c7 : ∀ b : Nat → Bool, cellsN 7 (.agg ((List.range 7).map fun i => V.b (b i))) = some ((List.range 7).map fun i => V.b (b i)) := fun b => rfl
    have hs : ∀ cs, storeV (h1.new (.cells 7 cs)) 7 (.p h1.nx 0) (.agg ((List.range 7).map fun b => .b (rat L a b))) = .ok undefV ((h1.new (.cells 7 cs)).put h1.nx (.cells 7 (setMany cs 0 ((List.range 7).map fun b => .b (rat L a b))))) := fun cs => store_p get_new_same (c7 _) (by omega)
    have nx1 := nx_new h1 (.cells 7 [.b false, .b false, .b false, .b false, .b false, .b false, .b false])
    have gB : ∀ x, Grow h1.nx.nat h1 ((h1.new (.cells 7 [.b false, .b false, .b false, .b false, .b false, .b false, .b false])).put h1.nx x) := fun x => (Grow.new (Nat.le_refl _) _).trans (Grow.put (Nat.le_refl _) (by omega) _)
    have hsm : setMany [.b false, .b false, .b false, .b false, .b false, .b false, .b false] 0 ((List.range 7).map fun b => V.b (rat L a b)) = (List.range 7).map fun b => V.b (rat L a b) := rfl
    have ld : loadV ((h1.new (.cells 7 [.b false, .b false, .b false, .b false, .b false, .b false, .b false])).put h1.nx (.cells 7 ((List.range 7).map fun b => V.b (rat L a b)))) (.p h1.nx 0) (many? 7) = .ok (.agg ((List.range 7).map fun b => .b (rat L a b))) _ := loadn_p get_put_same (by omega)
    have gC := gB (.cells 7 ((List.range 7).map fun b => V.b (rat L a b)))
    simp (disch := omega) only [f101_r1, f101_r2, f101_r3, w_skip, w_reg, w_seq, w_cond, w_block, seqK_n, ckB_b, cbB_b, true_and, x_nil, x_mv, x_as, x_alloc, x_ldn, x_st, x_bin, x_ix, kx, rvP_ok, okv_some, ev_t, ev_c, getV_some, putD_some, putD_none, bin_lss, of0, getK_set, Nat.reduceEqDiff, ↓reduceIte, of7, g7, g8, d0, hx, hs, hsm, ld]
    generalize (h1.new (.cells 7 [.b false, .b false, .b false, .b false, .b false, .b false, .b false])).put h1.nx (.cells 7 ((List.range 7).map fun b => V.b (rat L a b))) = h3 at *
    have hG3 := hG.trans (gC.low hG.nx)
    refine W_loop (f101_J id idp L I a) (fun b => 7 - b) ?_ 0 ⟨by omega, ⟨h2, hI, hG3⟩, by simp (disch := omega) only [getK_set, Nat.reduceEqDiff, ↓reduceIte, g0, g1, g7, g8, and_self, Int.natCast_zero]⟩
    clear hI hG3 hG gB gC ld hs hx g0 g1 g7 g8 fr nx1
    rintro b fr h1 ⟨hb, ⟨h2, hI, hG⟩, g0, g1, g3, g7, g8, g12, g13⟩
    unfold f101_l0
    by_cases hlb : b < 7
    · have d1 : decide ((b : Int) < 7) = true := decide_eq_true (by omega)
      have hx := fun h => ix_cell (h := h) (f := rat L a) hlb
      have hsu := cnt_succ (L := L) (a := a) hlb
      simp (disch := omega) only [f101_r4, f101_r5, w_skip, w_reg, w_seq, w_cond, w_block, seqK_n, ckB_b, cbB_b, true_and, x_nil, x_mv, x_as, x_bin, x_ix, kx, rvP_ok, okv_some, ev_t, ev_c, getV_some, putD_some, bin_lss, getK_set, Nat.reduceEqDiff, ↓reduceIte, of7, g12, g13, d1, hx]
      cases hr : rat L a b with
      | true =>
        have h3 := arw_at (f := rat L) (i := 7 * a + b) (by omega) (by rw [show (7 * a + b) / 7 = a by omega, show (7 * a + b) % 7 = b by omega]; exact hr)
        rw [show (7 * a + b) / 7 = a by omega, show (7 * a + b) % 7 = b by omega] at h3
        obtain ⟨hi, he⟩ := List.getElem?_eq_some_iff.1 h3
        obtain ⟨r, h', ⟨n, hn⟩, hT, hF⟩ := round (cnt L (7 * a + b)) h2 h1 (aV (a, b)) hi hI hG (by show aV (a, b) = aV _; exact congrArg aV he.symm) (fun _ _ _ _ e => by cases e)
        rw [hr, if_pos rfl] at hsu
        have hav : V.agg [.i .i64 (a : Int), .i .i64 (b : Int)] = aV (a, b) := rfl
        simp (disch := omega) only [f101_r6, okG_b, asG_t, true_and, x_g, x_mv, x_build, x_call, kx, rvP_ok, ev_t, evs_nil, evs_cons, getV_some, putD_some, oGet_s, cells1_i, of0, getK_set, Nat.reduceEqDiff, ↓reduceIte, fill_2, set_2, g0, g3, fill_2, set_2, hav]
        refine ⟨n, _, _, hn, ?_⟩
        cases r with
        | true =>
          simp (disch := omega) only [f101_r7, w_skip, w_reg, w_cond, seqK_n, atK_n, loopK_n, ckB_b, cbB_b, okG_b, asG_t, true_and, x_nil, x_g, x_mv, x_pick, x_bin, x_not, kx, rvP_ok, okv_some, ev_t, ev_c, getV_some, putD_some, bin_add, pick_b, onB_b, of1, getK_set, Nat.reduceEqDiff, ↓reduceIte, Bool.false_eq_true, Bool.not_true, g13, fw64]
          exact ⟨b + 1, by omega, by omega, ⟨h', by rw [hsu]; exact hT rfl, Grow.refl _ _⟩, by simp (disch := omega) only [getK_set, Nat.reduceEqDiff, ↓reduceIte, g0, g1, g3, g7, g8, g12, and_self, Int.natCast_add, Int.natCast_one]⟩
        | false =>
          simp (disch := omega) only [f101_rs, w_cond, w_ret, seqK_n, seqK_r, atK_r, loopK_r, ckB_b, cbB_b, okG_b, asG_t, true_and, retK_r, x_nil, x_g, x_pick, x_not, kx, rvP_ok, ev_t, ev_c, getV_some, putD_some, pick_b, onB_b, readRs_nil, retV_0, Option.some.injEq, exists_eq_left', getK_set, Nat.reduceEqDiff, ↓reduceIte, Bool.not_false]
          exact .inr (hF rfl)
      | false =>
        rw [hr, if_neg (by simp)] at hsu
        simp (disch := omega) only [f101_r6, f101_r7, w_skip, w_reg, w_cond, seqK_n, atK_n, loopK_n, ckB_b, cbB_b, okG_b, asG_t, true_and, x_nil, x_g, x_mv, x_pick, x_bin, kx, rvP_ok, okv_some, ev_t, ev_c, getV_some, putD_some, bin_add, pick_b, of0, of1, getK_set, Nat.reduceEqDiff, ↓reduceIte, Bool.false_eq_true, g13, fw64]
        exact ⟨b + 1, by omega, by omega, ⟨h2, by rw [hsu]; exact hI, hG⟩, by simp (disch := omega) only [getK_set, Nat.reduceEqDiff, ↓reduceIte, g0, g1, g3, g7, g8, g12, and_self, Int.natCast_add, Int.natCast_one]⟩
    · have d1 : decide ((b : Int) < 7) = false := decide_eq_false (by omega)
      have e7 : b = 7 := by omega
      subst e7
      simp (disch := omega) only [f101_r4, f101_r8, w_reg, w_seq, w_cond, w_exit, seqK_n, seqK_e, atK_n, atK_e, loopK_n, loopK_e, ckB_b, cbB_b, true_and, x_nil, x_mv, x_bin, kx, rvP_ok, okv_some, ev_t, ev_c, getV_some, putD_some, bin_add, bin_lss, of1, getK_set, Nat.reduceEqDiff, ↓reduceIte, Bool.false_eq_true, of7, g8, g13, d1, fw64]
      exact ⟨a + 1, by omega, by omega, ⟨h2, hI, hG⟩, by simp (disch := omega) only [getK_set, Nat.reduceEqDiff, ↓reduceIte, g0, g1, g7, and_self, Int.natCast_add, Int.natCast_one]⟩
  · have d0 : decide ((a : Int) < 7) = false := decide_eq_false (by omega)
    have e7 : a = 7 := by omega
    subst e7
    have hl : (arw (rat L)).length = cnt L (7 * 7) := arw_len
    rw [hl]
    simp (disch := omega) only [f101_r1, f101_rs, w_reg, w_seq, w_cond, w_exit, seqK_n, seqK_e, atK_e, loopK_e, ckB_b, cbB_b, true_and, retK_n, x_nil, x_bin, kx, rvP_ok, okv_some, ev_t, ev_c, getV_some, putD_some, bin_lss, readRs_nil, retV_0, Option.some.injEq, exists_eq_left', getK_set, ↓reduceIte, Bool.false_eq_true, of7, g8, d0]
    exact .inl ⟨h2, hI, hG⟩
theorem f84_ret {L : List Bool} (hL : L.length = 49) : Ret fs f84 [rV L] h fun r h' => r = .fn (.ofNat 101) [.p h.nx 0] ∧ h' = h.new (rC L) := by
  apply ret_of rfl
  show W fs none f84_c _ _ _
  unfold f84_c
  have := rC_cells hL
  simp (disch := omega) only [f84_r0, f84_r1, f84_rs, w_reg, w_seq, w_ret, seqK_n, true_and, retK_r, x_nil, x_as, x_box, x_mkfn, kx, rvP_ok, ev_t, ev_c, evs_nil, evs_cons, getV_some, putD_some, oGet_s, readRs_nil, readRs_t, retV_1, frame_1, Option.some.injEq, exists_eq_left', getK_set, Nat.reduceEqDiff, ↓reduceIte, this]
  rfl
end
end Go.Ev
namespace Go.Ev
open Go Go.RowKit
/-- What was there stays, but for one block. -/
structure Kp (idB : K) (h h1 : H) : Prop where
  nx : h.nx.nat ≤ h1.nx.nat
  old : ∀ id : K, id.nat < h.nx.nat → id ≠ idB → h1.get id = h.get id
  hc : HC h1
section
variable {fs : T EF} {h h1 h2 h3 : H} {idB : K}
theorem Kp.refl (hc : HC h) : Kp idB h h := ⟨Nat.le_refl _, fun _ _ _ => rfl, hc⟩
theorem Kp.trans (k : Kp idB h h1) (l : Kp idB h1 h2) : Kp idB h h2 := ⟨Nat.le_trans k.nx l.nx, fun id hi hn => (l.old id (Nat.lt_of_lt_of_le hi k.nx) hn).trans (k.old id hi hn), l.hc⟩
theorem Kp.grow (k : Kp idB h h1) {b : Nat} (g : Grow b h1 h2) (hb : h.nx.nat ≤ b) : Kp idB h h2 := ⟨Nat.le_trans k.nx g.nx, fun id hi hn => (g.old id (by omega)).trans (k.old id hi hn), g.hc k.hc⟩
theorem Kp.of (hc : HC h) {b : Nat} (g : Grow b h h2) (hb : h.nx.nat ≤ b) : Kp idB h h2 := (Kp.refl hc).grow g hb
theorem Kp.put (k : Kp idB h h1) (hi : idB.nat < h1.nx.nat) (x : Blk) : Kp idB h (h1.put idB x) := ⟨k.nx, fun id h2 hn => by rw [get_put_other hn]; exact k.old id h2 hn, (Grow.put (b := 0) (Nat.zero_le _) hi x).hc k.hc⟩
theorem Kp.putN (k : Kp idB h h1) {id' : K} (hi : id'.nat < h1.nx.nat) (hl : h.nx.nat ≤ id'.nat) (x : Blk) : Kp idB h (h1.put id' x) := ⟨k.nx, fun id h2 hn => by rw [get_put_other (fun e => by rw [e] at h2; omega)]; exact k.old id h2 hn, (Grow.put (b := 0) (Nat.zero_le _) hi x).hc k.hc⟩
theorem Kp.toGrow (k : Kp idB h h1) {b : Nat} (hb : b ≤ idB.nat) (hb2 : b ≤ h.nx.nat) : Grow b h h1 := ⟨k.nx, fun id hi => k.old id (by omega) (fun e => by rw [e] at hi; omega), fun _ => k.hc⟩
def arrC (idB : K) (Bn : Blk) (h3 : H) : Ex → Fr → H → Prop := fun e _ h4 => e = .normal ∧ h4.get idB = Bn ∧ Kp idB h3 h4
def arrA (fs : T EF) (lp : K) (c : EC) (idB : K) (Bn : Blk) (h1 : H) : Ex → Fr → H → Prop := fun e fr1 h2 => e = .normal ∧ Grow h1.nx.nat h1 h2 ∧ ∀ h3, h3.nx = h2.nx → HC h3 → (∀ id, id ≠ lp → h3.get id = h2.get id) → W fs (some lp) c (arrC idB Bn h3) fr1 h3
theorem arrC_n {Bn : Blk} {fr : Fr} {h4 : H} : arrC idB Bn h3 .normal fr h4 = (h4.get idB = Bn ∧ Kp idB h3 h4) := by unfold arrC; rw [eq_self, true_and]
theorem arrA_n {lp : K} {c : EC} {Bn : Blk} {fr1 : Fr} : arrA fs lp c idB Bn h1 .normal fr1 h2 = (Grow h1.nx.nat h1 h2 ∧ ∀ h3, h3.nx = h2.nx → HC h3 → (∀ id, id ≠ lp → h3.get id = h2.get id) → W fs (some lp) c (arrC idB Bn h3) fr1 h3) := by unfold arrA; rw [eq_self, true_and]
theorem G1_mono {d : Option K} {op : EOp} {fr : Fr} {h : H} {P P' : Fr → H → Prop} (hq : ∀ fr h, P fr h → P' fr h) (hx : G1 fs d op fr h P) : G1 fs d op fr h P' := by
  cases op <;> first
    | exact ⟨hx.1, rvP_mono (fun v h h1 => hq _ _ h1) hx.2⟩
    | (obtain ⟨k, cs, h1, h2, h3, h4⟩ := hx; exact ⟨k, cs, h1, h2, h3, hq _ _ h4⟩)
    | (obtain ⟨k, h1, h2, h3⟩ := hx; exact ⟨k, h1, h2, hq _ _ h3⟩)
theorem XG_mono : ∀ (l : List EOper) {Q Q' : Fr → H → Prop} (fr : Fr) (h : H), (∀ fr h, Q fr h → Q' fr h) → XG fs l Q fr h → XG fs l Q' fr h
  | [], _Q, _Q', fr, h, hq, hx => hq fr h hx
  | _o :: l, _Q, _Q', _fr, _h, hq, hx => GP_mono (fun hx => G1_mono (fun fr h hx => XG_mono l fr h hq hx) hx) (fun hx => XG_mono l _ _ hq hx) (show GP _ _ _ from hx)
theorem XD_mono : ∀ (l : List Stage) {Q Q' : Fr → H → Prop} (fr : Fr) (h : H), (∀ fr h, Q fr h → Q' fr h) → XD fs l Q fr h → XD fs l Q' fr h
  | [], Q, Q', fr, h, hq, hx => hq fr h hx
  | s :: l, Q, Q', fr, h, hq, hx => by
    refine XG_mono _ fr h (fun fr1 h1 hx => ⟨hx.1, hx.2.1, ?_⟩) (show XG fs s.g _ fr h from hx)
    have := hx.2.2
    cases hl : s.l with
    | none => rw [hl] at this; exact hq _ _ this
    | some o => rw [hl] at this; exact X_mono this (fun fr h hx => XD_mono l fr h hq hx)
theorem W_mono {ro : Option K} : ∀ {c : EC} {Q Q' : Ex → Fr → H → Prop} {fr : Fr} {h : H}, (∀ e fr h, Q e fr h → Q' e fr h) → W fs ro c Q fr h → W fs ro c Q' fr h := by
  intro c
  induction c with
  | skip => exact fun hq hx => hq _ _ _ hx
  | reg ops => exact fun hq hx => X_mono hx (fun fr h hx => hq _ _ _ hx)
  | draw st => exact fun hq hx => XD_mono _ _ _ (fun fr h hx => hq _ _ _ hx) hx
  | seq a b iha ihb =>
    intro Q Q' fr h hq hx
    refine iha (fun e fr h hx => ?_) (show W fs ro a _ fr h from hx)
    cases e with
    | normal => exact ihb hq hx
    | exit i => exact hq _ _ _ hx
    | ret => exact hq _ _ _ hx
  | cond x a b iha ihb =>
    intro Q Q' fr h hq hx
    have hx : condP (ev fr x) (W fs ro a Q fr h) (W fs ro b Q fr h) := hx
    show condP (ev fr x) (W fs ro a Q' fr h) (W fs ro b Q' fr h)
    cases hv : ev fr x <;> rw [hv] at hx <;> first
      | exact ⟨fun e => iha hq (hx.1 e), fun e => ihb hq (hx.2 e)⟩
      | exact hx.elim
  | block id a iha =>
    intro Q Q' fr h hq hx
    refine iha (fun e fr h hx => ?_) (show W fs ro a _ fr h from hx)
    cases e with
    | normal => exact hq _ _ _ hx
    | exit i => exact ⟨fun e => hq _ _ _ (hx.1 e), fun e => hq _ _ _ (hx.2 e)⟩
    | ret => exact hq _ _ _ hx
  | scope a iha => exact fun hq hx => iha hq hx
  | loop a _ => rintro Q Q' fr h hq ⟨e, fr', h', h1, h2⟩; exact ⟨e, fr', h', h1, hq _ _ _ h2⟩
  | rangeF f ps a c _ _ => rintro Q Q' fr h hq ⟨e, fr', h', h1, h2⟩; exact ⟨e, fr', h', h1, hq _ _ _ h2⟩
  | exit i => exact fun hq hx => hq _ _ _ hx
  | ret => exact fun hq hx => hq _ _ _ hx
  | no => exact fun _ hx => hx
/-- A loop over a relation's arrows that changes one block. -/
theorem W_arr {ro : Option K} {f : EO} {p : K} {a c : EC} {fr : Fr} {Q : Ex → Fr → H → Prop} {idp : K} {L : List Bool} (hf : ev fr f = .fn (K.ofNat 101) [.p idp 0]) (hL : L.length = 49) (h101 : fs.get (K.ofNat 101) = some f101)
    (hc : HC h) (hp : h.get idp = rC L) (hne : idp ≠ idB) (B : Nat → Blk) (hB : h.get idB = B 0) (hlB : idB.nat < h.nx.nat) (hro : roOk ro h = true)
    (step : ∀ i x h1, (arw (rat L))[i]? = some x → x.1 < 7 → x.2 < 7 → Kp idB h h1 → h.nx.nat < h1.nx.nat → h1.get idB = B i → W fs (some h.nx) a (arrA fs h.nx c idB (B (i + 1)) h1) (fr.set p (aV x)) h1)
    (fin : ∀ h1, h1.get idB = B (arw (rat L)).length → Kp idB h h1 → Q .normal fr h1) : W fs ro (.rangeF f [p] a c) Q fr h := by
  have n1 := nx_new h (rdyB fr [p] a c)
  have g1 : Grow h.nx.nat h (h.new (rdyB fr [p] a c)) := Grow.new (Nat.le_refl _) _
  have lp := hc.cells hp
  have nB : h.nx ≠ idB := fun e => by rw [← e] at hlB; omega
  refine W_rangeM hro hf (all_yieldsR hL h101) (fun i h1 => h1.get idB = B i ∧ Kp idB h h1 ∧ h.nx.nat < h1.nx.nat) (fun _ _ => False) (fun i h1 hi => ⟨(hi.2.1.old _ lp hne).trans hp, hi.2.1.hc, hi.2.2⟩) ⟨(g1.old _ hlB).trans hB, Kp.of hc g1 (Nat.le_refl _), by omega⟩ ?_ ?_ (fun _ _ _ h => h.elim)
  · rintro i h1 h2 v hi ⟨hI, hk, hn⟩ hG hb hv _
    rw [show v = aV _ from hv]
    have hx := List.getElem?_eq_getElem hi
    obtain ⟨x1, x2, _⟩ := arw_lt (List.getElem_mem hi)
    have hn2 : h.nx.nat < h2.nx.nat := by have := hG.nx; omega
    have k2 := hk.grow hG hk.nx
    refine W_mono ?_ (step i _ h2 hx x1 x2 k2 hn2 ((hG.old _ (by omega)).trans hI))
    rintro e fr1 h3 ⟨rfl, g3, hw⟩
    have k3 := k2.grow g3 k2.nx
    have hn3 : h.nx.nat < h3.nx.nat := by have := g3.nx; omega
    rw [rndA_n]
    refine ⟨(g3.old _ hn2).trans hb, ?_⟩
    refine W_mono ?_ (hw (h3.put h.nx (bsyB fr [p] a c)) rfl (k3.putN hn3 (Nat.le_refl _) _).hc (fun id hid => get_put_other hid))
    rintro e fr2 h4 ⟨rfl, b4, k4⟩
    rw [rndK_n]
    refine ⟨(k4.old _ hn3 nB).trans get_put_same, ?_, ?_, ?_⟩
    · rw [get_put_other nB.symm]; exact b4
    · exact ((k3.putN hn3 (Nat.le_refl _) _).trans k4).putN (Nat.lt_of_lt_of_le hn3 k4.nx) (Nat.le_refl _) _
    · exact Nat.lt_of_lt_of_le hn3 k4.nx
  · rintro h1 h2 ⟨hI, hk, hn⟩ hG
    have hk2 := hk.grow hG hk.nx
    have hn2 : h.nx.nat < h2.nx.nat := by have := hG.nx; omega
    exact fin _ (by rw [get_put_other nB.symm]; exact (hG.old _ (by omega)).trans hI) (hk2.putN hn2 (Nat.le_refl _) _)
end
end Go.Ev
namespace Go.Ev
open Go Go.RowKit
noncomputable def f70_r0 : List EOper := [⟨some (.ofNat 1), none, .box 49 (.t (.ofNat 0))⟩, ⟨some (.ofNat 2), none, .alloc 49 (List.replicate 49 (.b false))⟩]
noncomputable def f70_r1 : List EOper := [⟨some (.ofNat 3), none, .alloc 49 (List.replicate 49 (.b false))⟩]
noncomputable def f70_r2 : List EOper := [⟨some (.ofNat 5), none, .ldn 49 (.t (.ofNat 1))⟩, ⟨some (.ofNat 6), none, .call (.c (.fn (.ofNat 84) [])) [(.t (.ofNat 5))]⟩]
noncomputable def f70_r3 : List EOper := [⟨some (.ofNat 4), none, .alloc 2 [(.i .i64 (.ofNat 0)), (.i .i64 (.ofNat 0))]⟩, ⟨none, none, .st 2 (.t (.ofNat 4)) (.t (.ofNat 7))⟩]
noncomputable def f70_a0 : EC := (.reg f70_r3)
noncomputable def f70_r4 : List Stage := [⟨[⟨some (.ofNat 8), none, .fadr 1 (.t (.ofNat 4))⟩, ⟨some (.ofNat 9), none, .ld (.t (.ofNat 8))⟩, ⟨some (.ofNat 10), none, .fadr 0 (.t (.ofNat 4))⟩, ⟨some (.ofNat 11), none, .ld (.t (.ofNat 10))⟩, ⟨some (.ofNat 12), none, .iadr 7 7 (.t (.ofNat 3)) (.t (.ofNat 9))⟩, ⟨some (.ofNat 13), none, .iadr 7 1 (.t (.ofNat 12)) (.t (.ofNat 11))⟩], [], (some ⟨none, none, .st 1 (.t (.ofNat 13)) (.c (.b true))⟩), []⟩, ⟨[], [], none, []⟩]
noncomputable def f70_b0 : EC := (.block 1 (.draw f70_r4))
noncomputable def f70_r5 : List EOper := [⟨some (.ofNat 14), none, .ldn 49 (.t (.ofNat 3))⟩, ⟨none, none, .st 49 (.t (.ofNat 2)) (.t (.ofNat 14))⟩]
noncomputable def f70_c : EC := (.seq (.reg f70_r0) (.seq (.reg f70_r1) (.seq (.seq (.reg f70_r2) (.block 0 (.rangeF (.t (.ofNat 6)) [(.ofNat 7)] f70_a0 f70_b0))) (.seq (.reg f70_r5) .ret))))
noncomputable def f70 : EF := ⟨15, [.celln (.ofNat 2) 49], f70_c, none⟩
theorem f70_rs : f70.rs = [.celln (.ofNat 2) 49] := of_eq_true (eq_self _)
section
variable {fs : T EF} {h : H}
def onF (l : List (Nat × Nat)) (v : Bool) (f : Nat → Nat → Bool) (a b : Nat) : Bool := if (a, b) ∈ l then v else f a b
theorem onF_nil {v : Bool} {f : Nat → Nat → Bool} : onF [] v f = f := by funext a b; simp [onF]
theorem onF_snoc {l : List (Nat × Nat)} {x : Nat × Nat} {v : Bool} {f : Nat → Nat → Bool} : onF (l ++ [x]) v f = fun a b => if a = x.1 ∧ b = x.2 then v else onF l v f a b := by
  funext a b
  unfold onF
  by_cases e : a = x.1 ∧ b = x.2
  · rw [if_pos e, if_pos (by rw [e.1, e.2]; simp)]
  · rw [if_neg e]
    have : (a, b) ∈ l ++ [x] ↔ (a, b) ∈ l := by
      rw [List.mem_append, List.mem_singleton]
      exact ⟨fun h => h.resolve_right (fun h => e (by rw [← h]; exact ⟨rfl, rfl⟩)), .inl⟩
    simp [this]
def swp (x : Nat × Nat) : Nat × Nat := (x.2, x.1)
/-- The arrow's variable, in a new block. -/
theorem arr_var {h : H} {x y : Nat} : storeV (h.new (.cells 2 [.i .i64 0, .i .i64 0])) 2 (.p h.nx 0) (aV (x, y)) = .ok undefV ((h.new (.cells 2 [.i .i64 0, .i .i64 0])).put h.nx (.cells 2 [.i .i64 (x : Int), .i .i64 (y : Int)])) ∧
    Grow h.nx.nat h ((h.new (.cells 2 [.i .i64 0, .i .i64 0])).put h.nx (.cells 2 [.i .i64 (x : Int), .i .i64 (y : Int)])) ∧ ((h.new (.cells 2 [.i .i64 0, .i .i64 0])).put h.nx (.cells 2 [.i .i64 (x : Int), .i .i64 (y : Int)])).get h.nx = .cells 2 [.i .i64 (x : Int), .i .i64 (y : Int)] ∧
    ((h.new (.cells 2 [.i .i64 0, .i .i64 0])).put h.nx (.cells 2 [.i .i64 (x : Int), .i .i64 (y : Int)])).nx.nat = h.nx.nat + 1 := by
  have n2 := nx_new h (.cells 2 [.i .i64 0, .i .i64 0])
  exact ⟨st2 (a := .i .i64 0) (b := .i .i64 0) get_new_same, (Grow.new (Nat.le_refl _) _).trans (Grow.put (Nat.le_refl _) (by omega) _), get_put_same, n2⟩
theorem rl_false : rC (rl fun _ _ => false) = .cells 49 (List.replicate 49 (.b false)) := rfl
def turnR (L : List Bool) : List Bool := rl fun a b => rat L b a
theorem f70_ret {L : List Bool} (hL : L.length = 49) (h84 : fs.get (.ofNat 84) = some f84) (h101 : fs.get (.ofNat 101) = some f101) (hc : HC h) : Ret fs f70 [rV L] h fun r h' => r = rV (turnR L) ∧ Grow h.nx.nat h h' := by
  apply ret_of rfl
  show W fs none f70_c _ _ _
  unfold f70_c
  have c1 := rC_cells hL
  have n1 := nx_new h (.cells 49 (L.map V.b))
  have g1 : Grow h.nx.nat h (h.new (.cells 49 (L.map V.b))) := Grow.new (Nat.le_refl _) _
  have e1 : (h.new (.cells 49 (L.map V.b))).get h.nx = rC L := get_new_same
  simp (disch := omega) only [f70_r0, w_reg, w_seq, seqK_n, x_nil, x_alloc, x_box, kx, rvP_ok, ev_t, getV_some, putD_some, oGet_s, frame_1, getK_set, ↓reduceIte, c1]
  generalize h.new (.cells 49 (L.map V.b)) = h1 at *
  have n2 := nx_new h1 (.cells 49 (List.replicate 49 (.b false)))
  have g2 : Grow h1.nx.nat h1 (h1.new (.cells 49 (List.replicate 49 (.b false)))) := Grow.new (Nat.le_refl _) _
  have e2 : (h1.new (.cells 49 (List.replicate 49 (.b false)))).get h1.nx = rC (rl fun _ _ => false) := by rw [rl_false]; exact get_new_same
  generalize h1.new (.cells 49 (List.replicate 49 (.b false))) = h2 at *
  have n3 := nx_new h2 (.cells 49 (List.replicate 49 (.b false)))
  have g3 : Grow h2.nx.nat h2 (h2.new (.cells 49 (List.replicate 49 (.b false)))) := Grow.new (Nat.le_refl _) _
  have e3 : (h2.new (.cells 49 (List.replicate 49 (.b false)))).get h2.nx = rC (rl fun _ _ => false) := by rw [rl_false]; exact get_new_same
  simp (disch := omega) only [f70_r1, w_reg, w_seq, seqK_n, x_nil, x_alloc, putD_some]
  generalize h2.new (.cells 49 (List.replicate 49 (.b false))) = h3 at *
  have hc3 := g3.hc (g2.hc (g1.hc hc))
  have hl := rC_ldn hL (h := h3) (id := h.nx) ((g3.old _ (by omega)).trans ((g2.old _ (by omega)).trans e1))
  simp (disch := omega) only [f70_r2, x_ldn, x_call, kx, rvP_ok, ev_t, ev_c, evs_nil, evs_cons, getV_some, putD_some, getK_set, Nat.reduceEqDiff, ↓reduceIte, hl]
  refine (callP_0 (ef := f84) h84 rfl (f84_ret hL)).mono ?_
  rintro r h4 ⟨rfl, rfl⟩
  have n4 := nx_new h3 (rC L)
  have g4 : Grow h3.nx.nat h3 (h3.new (rC L)) := Grow.new (Nat.le_refl _) _
  have e4 : (h3.new (rC L)).get h3.nx = rC L := get_new_same
  have hc4 := g4.hc hc3
  have gA : Grow h.nx.nat h (h3.new (rC L)) := g1.trans ((g2.low (by omega)).trans ((g3.low (by omega)).trans (g4.low (by omega))))
  have e2' := (g4.old _ (by omega)).trans ((g3.old h1.nx (by omega)).trans e2)
  have e3' := (g4.old h2.nx (by omega)).trans e3
  simp (disch := omega) only [w_block, seqK_n, x_nil, kx, putD_some]
  generalize h3.new (rC L) = h4 at *
  generalize hfr : T.set (K.ofNat 6) _ _ = fr
  have g2 : fr.get (K.ofNat 2) = some (.p h1.nx 0) := by rw [← hfr]; simp only [getK_set, Nat.reduceEqDiff, ↓reduceIte]
  have g3 : fr.get (K.ofNat 3) = some (.p h2.nx 0) := by rw [← hfr]; simp only [getK_set, Nat.reduceEqDiff, ↓reduceIte]
  have g6 : fr.get (K.ofNat 6) = some (.fn (K.ofNat 101) [.p h3.nx 0]) := by rw [← hfr]; simp only [getK_set, ↓reduceIte]
  clear hfr
  refine W_arr (idB := h2.nx) (by simp (disch := omega) only [ev_t, getV_some, g6]) hL h101 hc4 e4 (kNe (by omega)).symm (fun i => rC (rl (onF (((arw (rat L)).take i).map swp) true fun _ _ => false))) (by rw [e3', List.take_zero, List.map_nil, onF_nil]) (by omega) rfl ?_ ?_
  · rintro i ⟨x, y⟩ h5 hx hx1 hx2 hk hn hB
    obtain ⟨hst, gB, c7, n5⟩ := arr_var (h := h5) (x := x) (y := y)
    have b6 := (gB.old _ (by omega)).trans hB
    unfold f70_a0
    simp (disch := omega) only [f70_r3, w_reg, x_nil, x_alloc, x_st, kx, rvP_ok, ev_t, getV_some, putD_some, putD_none, of0, getK_set, Nat.reduceEqDiff, ↓reduceIte, hst, arrA_n]
    generalize (h5.new (.cells 2 [.i .i64 0, .i .i64 0])).put h5.nx (.cells 2 [.i .i64 (x : Int), .i .i64 (y : Int)]) = h6 at *
    refine ⟨gB, fun h7 n7 hc7 o7 => ?_⟩
    have l0 := ld20 ((o7 _ (kNe hn).symm).trans c7)
    have l1 := ld21 ((o7 _ (kNe hn).symm).trans c7)
    have b7 := (o7 _ (kNe (show h2.nx.nat < h4.nx.nat by omega))).trans b6
    have hs := rC_st (v := true) hx2 hx1 b7
    unfold f70_b0
    simp (disch := omega) only [f70_r4, w_draw, w_block, atK_n, true_and, x_nil, x_st, kx, kg, xg_nil, xg_ld, xg_fadr, xg_iadr, xd_cons, fresh_nil, stK_n, stK_s, stay_nil, rvP_ok, ev_t, ev_c, getV_some, putD_some, putD_none, onP_p, idx_n, getK_set, Nat.reduceEqDiff, ↓reduceIte, g3, l0, l1, hs, arrC_n]
    refine ⟨?_, (Kp.refl hc7).put (by rw [n7]; omega) _⟩
    rw [get_put_same, List.take_add_one, hx]
    simp only [Option.toList_some, List.map_append, List.map_cons, List.map_nil, onF_snoc]
    rfl
  · intro h5 hB hk
    rw [List.take_length] at hB
    have hF : rl (onF ((arw (rat L)).map swp) true fun _ _ => false) = turnR L := by
      refine rl_congr fun a b ha hb => ?_
      unfold onF
      have : (a, b) ∈ (arw (rat L)).map swp ↔ rat L b a = true := by
        rw [List.mem_map]
        constructor
        · rintro ⟨⟨p, q⟩, h1, h2⟩
          cases h2
          exact (mem_arw.1 h1).2.2
        · intro h1
          exact ⟨(b, a), mem_arw.2 ⟨hb, ha, h1⟩, rfl⟩
      by_cases e : rat L b a = true
      · rw [if_pos (this.2 e), e]
      · rw [if_neg (fun h => e (this.1 h))]; simpa using e
    rw [hF] at hB
    have l5 := rC_ldn (L := turnR L) rl_len hB
    have e25 := (hk.old _ (by omega) (kNe (by omega))).trans e2'
    have hs5 : storeV h5 49 (.p h1.nx 0) (rV (turnR L)) = .ok undefV (h5.put h1.nx (rC (turnR L))) := rC_stn rl_len rl_len e25
    have hr5 : readP (h5.put h1.nx (rC (turnR L))) (.p h1.nx 0) (many? 49) = some (rV (turnR L)) := rC_read rl_len get_put_same
    simp (disch := omega) only [f70_r5, f70_rs, w_reg, w_seq, w_ret, seqK_n, atK_n, true_and, retK_r, x_nil, x_ldn, x_st, kx, rvP_ok, ev_t, getV_some, putD_some, putD_none, oGet_s, readRs_nil, readRs_n, retV_1, Option.some.injEq, exists_eq_left', getK_set, Nat.reduceEqDiff, ↓reduceIte, g2, g3, l5, hs5, hr5]
    exact gA.trans (((hk.toGrow (b := h.nx.nat) (by omega) (by omega))).trans (Grow.put (k := h1.nx) (by omega) (by have := hk.nx; omega) _))
end
end Go.Ev
namespace Go.Ev
open Go Go.RowKit
/-- What was there stays, but for these blocks. -/
structure Ks (S : K → Prop) (h h1 : H) : Prop where
  nx : h.nx.nat ≤ h1.nx.nat
  old : ∀ id : K, id.nat < h.nx.nat → ¬ S id → h1.get id = h.get id
  hc : HC h1
/-- What a round's body must keep: what was there before the loop, but for S, and the loop's own block. -/
structure Kr (S : K → Prop) (lp : K) (h3 h4 : H) : Prop where
  nx : h3.nx.nat ≤ h4.nx.nat
  old : ∀ id : K, id.nat ≤ lp.nat → ¬ S id → h4.get id = h3.get id
  hc : HC h4
section
variable {fs : T EF} {h h1 h2 h3 h4 : H} {S : K → Prop} {lp : K}
theorem Ks.refl (hc : HC h) : Ks S h h := ⟨Nat.le_refl _, fun _ _ _ => rfl, hc⟩
theorem Ks.grow (k : Ks S h h1) {b : Nat} (g : Grow b h1 h2) (hb : h.nx.nat ≤ b) : Ks S h h2 := ⟨Nat.le_trans k.nx g.nx, fun id hi hn => (g.old id (by omega)).trans (k.old id hi hn), g.hc k.hc⟩
theorem Ks.of (hc : HC h) {b : Nat} (g : Grow b h h2) (hb : h.nx.nat ≤ b) : Ks S h h2 := (Ks.refl hc).grow g hb
theorem Ks.putN (k : Ks S h h1) {id' : K} (hi : id'.nat < h1.nx.nat) (hl : h.nx.nat ≤ id'.nat) (x : Blk) : Ks S h (h1.put id' x) := ⟨k.nx, fun id h2 hn => by rw [get_put_other (fun e => by rw [e] at h2; omega)]; exact k.old id h2 hn, (Grow.put (b := 0) (Nat.zero_le _) hi x).hc k.hc⟩
theorem Ks.toGrow (k : Ks S h h1) {b : Nat} (hb : ∀ id, S id → b ≤ id.nat) (hb2 : b ≤ h.nx.nat) : Grow b h h1 := ⟨k.nx, fun id hi => k.old id (by omega) (fun e => by have := hb _ e; omega), fun _ => k.hc⟩
theorem Kr.refl (hc : HC h) : Kr S lp h h := ⟨Nat.le_refl _, fun _ _ _ => rfl, hc⟩
theorem Kr.grow (k : Kr S lp h h1) {b : Nat} (g : Grow b h1 h2) (hb : lp.nat < b) : Kr S lp h h2 := ⟨Nat.le_trans k.nx g.nx, fun id hi hn => (g.old id (by omega)).trans (k.old id hi hn), g.hc k.hc⟩
theorem Kr.of (hc : HC h) {b : Nat} (g : Grow b h h2) (hb : lp.nat < b) : Kr S lp h h2 := (Kr.refl hc).grow g hb
theorem Kr.put (k : Kr S lp h h1) {id' : K} (hi : id'.nat < h1.nx.nat) (hl : S id' ∨ lp.nat < id'.nat) (x : Blk) : Kr S lp h (h1.put id' x) :=
  ⟨k.nx, fun id h2 hn => by rw [get_put_other (fun e => by rcases hl with hl | hl; exact hn (e ▸ hl); rw [e] at h2; omega)]; exact k.old id h2 hn, (Grow.put (b := 0) (Nat.zero_le _) hi x).hc k.hc⟩
theorem Kr.trans (k : Kr S lp h h1) (l : Kr S lp h1 h2) : Kr S lp h h2 := ⟨Nat.le_trans k.nx l.nx, fun id hi hn => (l.old id hi hn).trans (k.old id hi hn), l.hc⟩
theorem Ks.kr (k : Ks S h h1) (hl : lp.nat < h.nx.nat) : Kr S lp h h1 := ⟨k.nx, fun id hi hn => k.old id (by omega) hn, k.hc⟩
def itC (S : K → Prop) (lp : K) (P : H → Prop) (D : Ex → H → Prop) (h3 : H) : Ex → Fr → H → Prop := fun e _ h4 => (e = .normal → P h4) ∧ (e ≠ .normal → D e h4) ∧ Kr S lp h3 h4
def itA (fs : T EF) (S : K → Prop) (lp : K) (c : EC) (P : H → Prop) (D : Ex → H → Prop) (h1 : H) : Ex → Fr → H → Prop := fun e fr1 h2 => e = .normal ∧ Grow h1.nx.nat h1 h2 ∧ ∀ h3, h3.nx = h2.nx → HC h3 → (∀ id, id ≠ lp → h3.get id = h2.get id) → (h3.get lp).isL = true → W fs (some lp) c (itC S lp P D h3) fr1 h3
section
variable {P : H → Prop} {D : Ex → H → Prop} {fr : Fr} {c : EC} {i : Nat}
theorem itC_n : itC S lp P D h3 .normal fr h4 = (P h4 ∧ Kr S lp h3 h4) := by
  apply propext; unfold itC
  exact ⟨fun h => ⟨h.1 rfl, h.2.2⟩, fun h => ⟨fun _ => h.1, fun e => absurd rfl e, h.2⟩⟩
theorem itC_r : itC S lp P D h3 .ret fr h4 = (D .ret h4 ∧ Kr S lp h3 h4) := by
  apply propext; unfold itC
  exact ⟨fun h => ⟨h.2.1 (by simp), h.2.2⟩, fun h => ⟨(fun e => by cases e), fun _ => h.1, h.2⟩⟩
theorem itA_n : itA fs S lp c P D h1 .normal fr h2 = (Grow h1.nx.nat h1 h2 ∧ ∀ h3, h3.nx = h2.nx → HC h3 → (∀ id, id ≠ lp → h3.get id = h2.get id) → (h3.get lp).isL = true → W fs (some lp) c (itC S lp P D h3) fr h3) := by unfold itA; rw [eq_self, true_and]
end
/-- A loop over a function that yields arrows. -/
theorem W_itr {ro : Option K} {f : EO} {k : K} {caps : List V} {p : K} {a c : EC} {fr : Fr} {Q : Ex → Fr → H → Prop} {N : H → Prop} {Y : List (Nat × Nat)} (hf : ev fr f = .fn k caps) (hy : YieldsM fs k caps N BA Y)
    (S : K → Prop) (P : Nat → H → Prop) (D : Ex → H → Prop) (hc : HC h) (hro : roOk ro h = true) (hS : ∀ id, S id → id.nat < h.nx.nat) (hN : ∀ h1, Ks S h h1 → N h1)
    (hP : ∀ i h1 h2, P i h1 → HC h1 → h.nx.nat < h1.nx.nat → (∀ id : K, id.nat < h1.nx.nat → id ≠ h.nx → h2.get id = h1.get id) → P i h2)
    (hD : ∀ e h1 h2, D e h1 → HC h1 → h.nx.nat < h1.nx.nat → (∀ id : K, id.nat < h1.nx.nat → id ≠ h.nx → h2.get id = h1.get id) → D e h2)
    (hP0 : ∀ h1, Grow h.nx.nat h h1 → P 0 h1)
    (step : ∀ i x h1, Y[i]? = some x → Ks S h h1 → h.nx.nat < h1.nx.nat → P i h1 → W fs (some h.nx) a (itA fs S h.nx c (P (i + 1)) D h1) (fr.set p (aV x)) h1)
    (fin : ∀ h1, P Y.length h1 → Ks S h h1 → h.nx.nat < h1.nx.nat → Q .normal fr h1) (brk : ∀ e h1, e ≠ .normal → D e h1 → Ks S h h1 → h.nx.nat < h1.nx.nat → Q e fr h1) : W fs ro (.rangeF f [p] a c) Q fr h := by
  have n1 := nx_new h (rdyB fr [p] a c)
  have g1 : Grow h.nx.nat h (h.new (rdyB fr [p] a c)) := Grow.new (Nat.le_refl _) _
  have nS : ¬ S h.nx := fun e => by have := hS _ e; omega
  refine W_rangeM hro hf hy (fun i h1 => P i h1 ∧ Ks S h h1 ∧ h.nx.nat < h1.nx.nat) (fun e h1 => D e h1 ∧ Ks S h h1 ∧ h.nx.nat < h1.nx.nat) (fun i h1 hi => ⟨hN _ hi.2.1, hi.2.1.hc, hi.2.2⟩) ⟨hP0 _ g1, Ks.of hc g1 (Nat.le_refl _), by omega⟩ ?_ ?_ ?_
  · rintro i h1 h2 v hi ⟨hI, hk, hn⟩ hG hb hv _
    rw [show v = aV _ from hv]
    have hn2 : h.nx.nat < h2.nx.nat := by have := hG.nx; omega
    have k2 := hk.grow hG hk.nx
    refine W_mono ?_ (step i _ h2 (List.getElem?_eq_getElem hi) k2 hn2 (hP _ _ _ hI hk.hc hn fun id h1 _ => hG.old _ h1))
    rintro e fr1 h3 ⟨rfl, g3, hw⟩
    have k3 := k2.grow g3 k2.nx
    have hn3 : h.nx.nat < h3.nx.nat := by have := g3.nx; omega
    rw [rndA_n]
    refine ⟨(g3.old _ hn2).trans hb, ?_⟩
    have k3b := k3.putN hn3 (Nat.le_refl _) (bsyB fr [p] a c)
    refine W_mono ?_ (hw (h3.put h.nx (bsyB fr [p] a c)) rfl k3b.hc (fun id hid => get_put_other hid) (by rw [get_put_same]; rfl))
    rintro e fr2 h4 ⟨q1, q2, k4⟩
    have hn4 : h.nx.nat < h4.nx.nat := Nat.lt_of_lt_of_le hn3 k4.nx
    have k5 : Ks S h h4 := ⟨Nat.le_of_lt hn4, fun id hid hs => (k4.old id (by omega) hs).trans (k3b.old id hid hs), k4.hc⟩
    have e4 : h4.get h.nx = bsyB fr [p] a c := (k4.old _ (Nat.le_refl _) nS).trans get_put_same
    have pp : ∀ x, ∀ id : K, id.nat < h4.nx.nat → id ≠ h.nx → (h4.put h.nx x).get id = h4.get id := fun x id _ hid => get_put_other hid
    have k6 := fun x => k5.putN hn4 (Nat.le_refl _) x
    cases e with
    | normal =>
      rw [rndK_n]
      exact ⟨e4, hP _ _ _ (q1 rfl) k4.hc hn4 (pp _), k6 _, hn4⟩
    | exit j =>
      rw [rndK_e]
      exact ⟨e4, hD _ _ _ (q2 (by simp)) k4.hc hn4 (pp _), k6 _, hn4⟩
    | ret =>
      rw [rndK_r]
      exact ⟨e4, hD _ _ _ (q2 (by simp)) k4.hc hn4 (pp _), k6 _, hn4⟩
  · rintro h1 h2 ⟨hI, hk, hn⟩ hG
    have hn2 : h.nx.nat < h2.nx.nat := by have := hG.nx; omega
    exact fin _ (hP _ _ _ hI hk.hc hn fun id h1 h3 => by rw [get_put_other h3]; exact hG.old _ h1) ((hk.grow hG hk.nx).putN hn2 (Nat.le_refl _) _) hn2
  · rintro e h1 hne ⟨hd, hk, hn⟩
    exact brk e h1 hne hd hk hn
end
end Go.Ev
namespace Go.Ev
open Go Go.RowKit
noncomputable def f96_r0 : List EOper := [⟨some (.ofNat 4), none, .as (.c (.b false))⟩]
noncomputable def f96_r1 : List EOper := [⟨some (.ofNat 5), none, .mv (.t (.ofNat 1))⟩, ⟨some (.ofNat 6), none, .bin .geq (.t (.ofNat 5)) (.c (.i .i64 (.ofNat 0)))⟩, ⟨some (.ofNat 7), none, .mv (.t (.ofNat 6))⟩, ⟨some (.ofNat 8), (some ((.ofNat 7), true)), .mv (.t (.ofNat 1))⟩, ⟨some (.ofNat 9), (some ((.ofNat 7), true)), .mv (.t (.ofNat 0))⟩, ⟨some (.ofNat 10), (some ((.ofNat 7), true)), .bin .lss (.t (.ofNat 8)) (.t (.ofNat 9))⟩, ⟨some (.ofNat 11), none, .pick (.t (.ofNat 7)) (.t (.ofNat 10)) (.c (.b false))⟩, ⟨some (.ofNat 4), none, .as (.t (.ofNat 11))⟩]
noncomputable def f96_c : EC := (.seq (.reg f96_r0) (.seq (.reg f96_r1) .ret))
noncomputable def f96 : EF := ⟨12, [.tmp (.ofNat 4)], f96_c, none⟩
theorem f96_rs : f96.rs = [.tmp (.ofNat 4)] := of_eq_true (eq_self _)
noncomputable def f77_r0 : List EOper := [⟨some (.ofNat 1), none, .box 2 (.t (.ofNat 0))⟩, ⟨some (.ofNat 2), none, .alloc 2 [(.i .i64 (.ofNat 0)), (.i .i64 (.ofNat 0))]⟩]
noncomputable def f77_r1 : List EOper := [⟨some (.ofNat 3), none, .fadr 1 (.t (.ofNat 1))⟩, ⟨some (.ofNat 4), none, .ld (.t (.ofNat 3))⟩, ⟨some (.ofNat 5), none, .fadr 0 (.t (.ofNat 1))⟩, ⟨some (.ofNat 6), none, .ld (.t (.ofNat 5))⟩, ⟨some (.ofNat 7), none, .build [(.i .i64 (.ofNat 0)), (.i .i64 (.ofNat 0))] [(0, 1, (.t (.ofNat 4))), (1, 1, (.t (.ofNat 6)))]⟩, ⟨none, none, .st 2 (.t (.ofNat 2)) (.t (.ofNat 7))⟩]
noncomputable def f77_c : EC := (.seq (.reg f77_r0) (.seq (.reg f77_r1) .ret))
noncomputable def f77 : EF := ⟨8, [.celln (.ofNat 2) 2], f77_c, none⟩
theorem f77_rs : f77.rs = [.celln (.ofNat 2) 2] := of_eq_true (eq_self _)
noncomputable def f78_r0 : List EOper := [⟨some (.ofNat 1), none, .box 2 (.t (.ofNat 0))⟩, ⟨some (.ofNat 2), none, .alloc 2 [(.i .i64 (.ofNat 0)), (.i .i64 (.ofNat 0))]⟩]
noncomputable def f78_r1 : List EOper := [⟨some (.ofNat 3), none, .fadr 0 (.t (.ofNat 1))⟩, ⟨some (.ofNat 4), none, .ld (.t (.ofNat 3))⟩, ⟨some (.ofNat 5), none, .fadr 1 (.t (.ofNat 1))⟩, ⟨some (.ofNat 6), none, .ld (.t (.ofNat 5))⟩, ⟨some (.ofNat 7), none, .build [(.i .i64 (.ofNat 0)), (.i .i64 (.ofNat 0))] [(0, 1, (.t (.ofNat 4))), (1, 1, (.t (.ofNat 6)))]⟩, ⟨none, none, .st 2 (.t (.ofNat 2)) (.t (.ofNat 7))⟩]
noncomputable def f78_c : EC := (.seq (.reg f78_r0) (.seq (.reg f78_r1) .ret))
noncomputable def f78 : EF := ⟨8, [.celln (.ofNat 2) 2], f78_c, none⟩
theorem f78_rs : f78.rs = [.celln (.ofNat 2) 2] := of_eq_true (eq_self _)
noncomputable def f56_r0 : List EOper := [⟨some (.ofNat 1), none, .box 2 (.t (.ofNat 0))⟩, ⟨some (.ofNat 2), none, .alloc 2 [(.i .i64 (.ofNat 0)), (.i .i64 (.ofNat 0))]⟩]
noncomputable def f56_r1 : List EOper := [⟨some (.ofNat 3), none, .iadr 2 1 (.t (.ofNat 1)) (.c (.i .i64 (.ofNat 0)))⟩, ⟨some (.ofNat 4), none, .ld (.t (.ofNat 3))⟩, ⟨some (.ofNat 5), none, .iadr 2 1 (.t (.ofNat 1)) (.c (.i .i64 (.ofNat 1)))⟩, ⟨some (.ofNat 6), none, .ld (.t (.ofNat 5))⟩, ⟨some (.ofNat 7), none, .build [(.i .i64 (.ofNat 0)), (.i .i64 (.ofNat 0))] [(0, 1, (.t (.ofNat 4))), (1, 1, (.t (.ofNat 6)))]⟩, ⟨none, none, .st 2 (.t (.ofNat 2)) (.t (.ofNat 7))⟩]
noncomputable def f56_c : EC := (.seq (.reg f56_r0) (.seq (.reg f56_r1) .ret))
noncomputable def f56 : EF := ⟨8, [.celln (.ofNat 2) 2], f56_c, none⟩
theorem f56_rs : f56.rs = [.celln (.ofNat 2) 2] := of_eq_true (eq_self _)
noncomputable def f85_r0 : List EOper := [⟨some (.ofNat 2), none, .box 49 (.t (.ofNat 0))⟩, ⟨some (.ofNat 3), none, .box 2 (.t (.ofNat 1))⟩, ⟨some (.ofNat 4), none, .as (.c (.b false))⟩]
noncomputable def f85_r1 : List Stage := [⟨[⟨some (.ofNat 5), none, .fadr 0 (.t (.ofNat 3))⟩, ⟨some (.ofNat 6), none, .ld (.t (.ofNat 5))⟩], [], (some ⟨some (.ofNat 7), none, .call (.c (.fn (.ofNat 96) [])) [(.c (.i .i64 (.ofNat 7))), (.t (.ofNat 6))]⟩), []⟩, ⟨[⟨some (.ofNat 8), none, .mv (.t (.ofNat 7))⟩, ⟨some (.ofNat 9), (some ((.ofNat 8), true)), .fadr 1 (.t (.ofNat 3))⟩, ⟨some (.ofNat 10), (some ((.ofNat 8), true)), .ld (.t (.ofNat 9))⟩], [], (some ⟨some (.ofNat 11), (some ((.ofNat 8), true)), .call (.c (.fn (.ofNat 96) [])) [(.c (.i .i64 (.ofNat 7))), (.t (.ofNat 10))]⟩), []⟩, ⟨[⟨some (.ofNat 12), none, .pick (.t (.ofNat 8)) (.t (.ofNat 11)) (.c (.b false))⟩, ⟨some (.ofNat 13), none, .mv (.t (.ofNat 12))⟩, ⟨some (.ofNat 14), (some ((.ofNat 13), true)), .fadr 0 (.t (.ofNat 3))⟩, ⟨some (.ofNat 15), (some ((.ofNat 13), true)), .ld (.t (.ofNat 14))⟩, ⟨some (.ofNat 16), (some ((.ofNat 13), true)), .fadr 1 (.t (.ofNat 3))⟩, ⟨some (.ofNat 17), (some ((.ofNat 13), true)), .ld (.t (.ofNat 16))⟩, ⟨some (.ofNat 18), (some ((.ofNat 13), true)), .iadr 7 7 (.t (.ofNat 2)) (.t (.ofNat 15))⟩, ⟨some (.ofNat 19), (some ((.ofNat 13), true)), .iadr 7 1 (.t (.ofNat 18)) (.t (.ofNat 17))⟩, ⟨some (.ofNat 20), (some ((.ofNat 13), true)), .ld (.t (.ofNat 19))⟩, ⟨some (.ofNat 21), none, .pick (.t (.ofNat 13)) (.t (.ofNat 20)) (.c (.b false))⟩], [], (some ⟨some (.ofNat 4), none, .as (.t (.ofNat 21))⟩), []⟩, ⟨[], [], none, []⟩]
noncomputable def f85_c : EC := (.seq (.reg f85_r0) (.seq (.draw f85_r1) .ret))
noncomputable def f85 : EF := ⟨22, [.tmp (.ofNat 4)], f85_c, none⟩
theorem f85_rs : f85.rs = [.tmp (.ofNat 4)] := of_eq_true (eq_self _)
noncomputable def pV (x : Int × Int) : V := .agg [.i .i64 x.1, .i .i64 x.2]
theorem aV_pV {x : Nat × Nat} : aV x = pV ((x.1 : Int), (x.2 : Int)) := rfl
def nodeB (n x : Int) : Bool := decide (0 ≤ x ∧ x < n)
def hasR (L : List Bool) (x : Int × Int) : Bool := nodeB 7 x.1 && (nodeB 7 x.2 && rat L x.1.toNat x.2.toNat)
section
variable {fs : T EF} {h : H}
theorem rd2 {id : K} {a b : V} (hb : h.get id = .cells 2 [a, b]) : readP h (.p id 0) (many? 2) = some (.agg [a, b]) := by
  have h1 := ldn2 hb
  unfold loadV okv at h1
  cases e : readP h (.p id 0) (many? 2) with
  | none => rw [e] at h1; cases h1
  | some v => rw [e] at h1; have h1 : RV.ok v h = RV.ok _ h := h1; injection h1 with h1; rw [h1]
theorem f96_ret {n x : Int} : Ret fs f96 [.i .i64 n, .i .i64 x] h fun r _ => r = .b (nodeB n x) := by
  unfold nodeB
  apply ret_of rfl
  show W fs none f96_c _ _ _
  unfold f96_c
  by_cases h1 : 0 ≤ x
  · have d1 : decide (x ≥ 0) = true := by simpa using h1
    by_cases h2 : x < n
    · have d2 : decide (x < n) = true := by simpa using h2
      have d3 : decide (0 ≤ x ∧ x < n) = true := by simp; omega
      simp (disch := omega) only [f96_r0, f96_r1, f96_rs, w_reg, w_seq, w_ret, seqK_n, okG_b, asG_t, true_and, retK_r, x_nil, x_g, x_mv, x_as, x_pick, x_bin, kx, rvP_ok, okv_some, ev_t, ev_c, getV_some, putD_some, bin_lss, bin_geq, pick_b, oGet_s, readRs_nil, readRs_t, retV_1, frame_2, of0, Option.some.injEq, exists_eq_left', getK_set, Nat.reduceEqDiff, ↓reduceIte, d1, d2, d3]
    · have d2 : decide (x < n) = false := by simpa using h2
      have d3 : decide (0 ≤ x ∧ x < n) = false := by simp; omega
      simp (disch := omega) only [f96_r0, f96_r1, f96_rs, w_reg, w_seq, w_ret, seqK_n, okG_b, asG_t, true_and, retK_r, x_nil, x_g, x_mv, x_as, x_pick, x_bin, kx, rvP_ok, okv_some, ev_t, ev_c, getV_some, putD_some, bin_lss, bin_geq, pick_b, oGet_s, readRs_nil, readRs_t, retV_1, frame_2, of0, Option.some.injEq, exists_eq_left', getK_set, Nat.reduceEqDiff, ↓reduceIte, d1, d2, d3]
  · have d1 : decide (x ≥ 0) = false := by simpa using h1
    have d3 : decide (0 ≤ x ∧ x < n) = false := by simp; omega
    simp (disch := omega) only [f96_r0, f96_r1, f96_rs, w_reg, w_seq, w_ret, seqK_n, okG_b, asG_t, true_and, retK_r, x_nil, x_g, x_mv, x_as, x_pick, x_bin, kx, rvP_ok, okv_some, ev_t, ev_c, getV_some, putD_some, bin_geq, pick_b, oGet_s, readRs_nil, readRs_t, retV_1, frame_2, of0, Option.some.injEq, exists_eq_left', getK_set, Nat.reduceEqDiff, ↓reduceIte, Bool.false_eq_true, d1, d3]
theorem f77_ret {x : Int × Int} : Ret fs f77 [pV x] h fun r _ => r = pV (x.2, x.1) := by
  apply ret_of rfl
  show W fs none f77_c _ _ _
  unfold f77_c
  have c1 : cellsN 2 (pV x) = some [.i .i64 x.1, .i .i64 x.2] := rfl
  have n1 := nx_new h (.cells 2 [.i .i64 x.1, .i .i64 x.2])
  have e1 : ((h.new (.cells 2 [.i .i64 x.1, .i .i64 x.2])).new (.cells 2 [.i .i64 0, .i .i64 0])).get h.nx = .cells 2 [.i .i64 x.1, .i .i64 x.2] := by rw [get_new_old (by omega)]; exact get_new_same
  have s1 := st2 (c := .i .i64 x.2) (d := .i .i64 x.1) (get_new_same (h := h.new (.cells 2 [.i .i64 x.1, .i .i64 x.2])) (x := .cells 2 [.i .i64 0, .i .i64 0]))
  have r1 : readP (((h.new (.cells 2 [.i .i64 x.1, .i .i64 x.2])).new (.cells 2 [.i .i64 0, .i .i64 0])).put (h.new (.cells 2 [.i .i64 x.1, .i .i64 x.2])).nx (.cells 2 [.i .i64 x.2, .i .i64 x.1])) (.p (h.new (.cells 2 [.i .i64 x.1, .i .i64 x.2])).nx 0) (many? 2) = some (pV (x.2, x.1)) := rd2 get_put_same
  simp (disch := omega) only [f77_r0, f77_r1, f77_rs, w_reg, w_seq, w_ret, seqK_n, retK_r, x_nil, x_alloc, x_box, x_build, x_ld, x_st, x_fadr, kx, rvP_ok, ev_t, getV_some, putD_some, putD_none, onP_p, oGet_s, readRs_nil, readRs_n, retV_1, frame_1, cells1_i, of0, Option.some.injEq, exists_eq_left', getK_set, Nat.reduceEqDiff, ↓reduceIte, fill_2, set_2, c1, ld20 e1, ld21 e1, fill_2, set_2, s1, r1]
theorem f78_ret {x : Int × Int} : Ret fs f78 [pV x] h fun r _ => r = pV x := by
  apply ret_of rfl
  show W fs none f78_c _ _ _
  unfold f78_c
  have c1 : cellsN 2 (pV x) = some [.i .i64 x.1, .i .i64 x.2] := rfl
  have n1 := nx_new h (.cells 2 [.i .i64 x.1, .i .i64 x.2])
  have e1 : ((h.new (.cells 2 [.i .i64 x.1, .i .i64 x.2])).new (.cells 2 [.i .i64 0, .i .i64 0])).get h.nx = .cells 2 [.i .i64 x.1, .i .i64 x.2] := by rw [get_new_old (by omega)]; exact get_new_same
  have s1 := st2 (c := .i .i64 x.1) (d := .i .i64 x.2) (get_new_same (h := h.new (.cells 2 [.i .i64 x.1, .i .i64 x.2])) (x := .cells 2 [.i .i64 0, .i .i64 0]))
  have r1 : readP (((h.new (.cells 2 [.i .i64 x.1, .i .i64 x.2])).new (.cells 2 [.i .i64 0, .i .i64 0])).put (h.new (.cells 2 [.i .i64 x.1, .i .i64 x.2])).nx (.cells 2 [.i .i64 x.1, .i .i64 x.2])) (.p (h.new (.cells 2 [.i .i64 x.1, .i .i64 x.2])).nx 0) (many? 2) = some (pV x) := rd2 get_put_same
  simp (disch := omega) only [f78_r0, f78_r1, f78_rs, w_reg, w_seq, w_ret, seqK_n, retK_r, x_nil, x_alloc, x_box, x_build, x_ld, x_st, x_fadr, kx, rvP_ok, ev_t, getV_some, putD_some, putD_none, onP_p, oGet_s, readRs_nil, readRs_n, retV_1, frame_1, cells1_i, of0, Option.some.injEq, exists_eq_left', getK_set, Nat.reduceEqDiff, ↓reduceIte, fill_2, set_2, c1, ld20 e1, ld21 e1, fill_2, set_2, s1, r1]
theorem f56_ret {x : Int × Int} : Ret fs f56 [pV x] h fun r _ => r = pV x := by
  apply ret_of rfl
  show W fs none f56_c _ _ _
  unfold f56_c
  have c1 : cellsN 2 (pV x) = some [.i .i64 x.1, .i .i64 x.2] := rfl
  have n1 := nx_new h (.cells 2 [.i .i64 x.1, .i .i64 x.2])
  have e1 : ((h.new (.cells 2 [.i .i64 x.1, .i .i64 x.2])).new (.cells 2 [.i .i64 0, .i .i64 0])).get h.nx = .cells 2 [.i .i64 x.1, .i .i64 x.2] := by rw [get_new_old (by omega)]; exact get_new_same
  have s1 := st2 (c := .i .i64 x.1) (d := .i .i64 x.2) (get_new_same (h := h.new (.cells 2 [.i .i64 x.1, .i .i64 x.2])) (x := .cells 2 [.i .i64 0, .i .i64 0]))
  have r1 : readP (((h.new (.cells 2 [.i .i64 x.1, .i .i64 x.2])).new (.cells 2 [.i .i64 0, .i .i64 0])).put (h.new (.cells 2 [.i .i64 x.1, .i .i64 x.2])).nx (.cells 2 [.i .i64 x.1, .i .i64 x.2])) (.p (h.new (.cells 2 [.i .i64 x.1, .i .i64 x.2])).nx 0) (many? 2) = some (pV x) := rd2 get_put_same
  simp (disch := omega) only [f56_r0, f56_r1, f56_rs, w_reg, w_seq, w_ret, seqK_n, retK_r, x_nil, x_alloc, x_box, x_build, x_ld, x_st, x_iadr, kx, rvP_ok, ev_t, ev_c, getV_some, putD_some, putD_none, onP_p, oGet_s, readRs_nil, readRs_n, retV_1, frame_1, cells1_i, of0, of1, Option.some.injEq, exists_eq_left', getK_set, Nat.reduceEqDiff, ↓reduceIte, fill_2, set_2, ix2_0, ix2_1, c1, ld20 e1, ld21 e1, fill_2, set_2, s1, r1]
/-- The natives of small functions. -/
structure Nat1 (fs : T EF) : Prop where
  n96 : ∀ n x h P, CallP fs (.fn (K.ofNat 96) []) [.i .i64 n, .i .i64 x] h P = P (.b (nodeB n x)) h
  n77 : ∀ x h P, CallP fs (.fn (K.ofNat 77) []) [pV x] h P = P (pV (x.2, x.1)) h
  n78 : ∀ x h P, CallP fs (.fn (K.ofNat 78) []) [pV x] h P = P (pV x) h
  n56 : ∀ x h P, CallP fs (.fn (K.ofNat 56) []) [pV x] h P = P (pV x) h
theorem f85_ret {L : List Bool} {x : Int × Int} (k : Nat1 fs) (hL : L.length = 49) : Ret fs f85 [rV L, pV x] h fun r _ => r = .b (hasR L x) := by
  apply ret_of rfl
  show W fs none f85_c _ _ _
  unfold f85_c
  have c1 := rC_cells hL
  have c2 : cellsN 2 (pV x) = some [.i .i64 x.1, .i .i64 x.2] := rfl
  have n1 := nx_new h (.cells 49 (L.map V.b))
  have e1 : ((h.new (.cells 49 (L.map V.b))).new (.cells 2 [.i .i64 x.1, .i .i64 x.2])).get h.nx = rC L := by rw [get_new_old (by omega)]; exact get_new_same
  have e2 := get_new_same (h := h.new (.cells 49 (L.map V.b))) (x := .cells 2 [.i .i64 x.1, .i .i64 x.2])
  simp (disch := omega) only [f85_r0, w_reg, w_draw, w_seq, seqK_n, x_nil, x_as, x_box, kx, rvP_ok, ev_t, ev_c, getV_some, putD_some, oGet_s, frame_2, getK_set, Nat.reduceEqDiff, ↓reduceIte, c1, c2]
  generalize (h.new (.cells 49 (L.map V.b))).nx = id2 at *
  generalize (h.new (.cells 49 (L.map V.b))).new (.cells 2 [.i .i64 x.1, .i .i64 x.2]) = h2 at *
  have l0 := ld20 e2
  have l1 := ld21 e2
  unfold hasR
  cases h1 : nodeB 7 x.1 with
  | false =>
    simp (disch := omega) only [f85_r1, f85_rs, w_ret, seqK_n, okG_b, asG_t, true_and, retK_r, x_nil, x_g, x_as, x_call, kx, kg, xg_nil, xg_g, xg_mv, xg_pick, xg_ld, xg_fadr, xd_cons, fresh_nil, stK_n, stK_s, stay_nil, rvP_ok, ev_t, ev_c, evs_nil, evs_cons, getV_some, putD_some, pick_b, onP_p, oGet_s, readRs_nil, readRs_t, retV_1, Option.some.injEq, exists_eq_left', getK_set, Nat.reduceEqDiff, ↓reduceIte, Bool.false_eq_true, of7, l0, k.n96, h1, Bool.false_and]
  | true =>
    cases h2 : nodeB 7 x.2 with
    | false =>
      simp (disch := omega) only [f85_r1, f85_rs, w_ret, seqK_n, okG_b, asG_t, true_and, retK_r, x_nil, x_g, x_as, x_call, kx, kg, xg_nil, xg_g, xg_mv, xg_pick, xg_ld, xg_fadr, xd_cons, fresh_nil, stK_n, stK_s, stay_nil, rvP_ok, ev_t, ev_c, evs_nil, evs_cons, getV_some, putD_some, pick_b, onP_p, oGet_s, readRs_nil, readRs_t, retV_1, Option.some.injEq, exists_eq_left', getK_set, Nat.reduceEqDiff, ↓reduceIte, Bool.false_eq_true, of7, l0, l1, k.n96, h1, h2, Bool.false_and, Bool.true_and]
    | true =>
      unfold nodeB at h1 h2
      have h1' := of_decide_eq_true h1
      have h2' := of_decide_eq_true h2
      obtain ⟨a, ha⟩ : ∃ a : Nat, x.1 = (a : Int) := ⟨x.1.toNat, by omega⟩
      obtain ⟨b, hb⟩ : ∃ b : Nat, x.2 = (b : Int) := ⟨x.2.toNat, by omega⟩
      have l2 := rC_ld (a := a) (b := b) (by omega) (by omega) hL e1
      rw [ha] at l0 h1
      rw [hb] at l1 h2
      have h1 : nodeB 7 (a : Int) = true := h1
      have h2 : nodeB 7 (b : Int) = true := h2
      rw [ha, hb]
      simp (disch := omega) only [f85_r1, f85_rs, w_ret, seqK_n, okG_b, asG_t, true_and, retK_r, x_nil, x_g, x_as, x_call, kx, kg, xg_nil, xg_g, xg_mv, xg_pick, xg_ld, xg_fadr, xg_iadr, xd_cons, fresh_nil, stK_n, stK_s, stay_nil, rvP_ok, ev_t, ev_c, evs_nil, evs_cons, getV_some, putD_some, pick_b, onP_p, oGet_s, idx_n, readRs_nil, readRs_t, retV_1, Option.some.injEq, exists_eq_left', getK_set, Nat.reduceEqDiff, ↓reduceIte, of7, l0, l1, l2, k.n96, h1, h2, Bool.true_and, Int.toNat_natCast]
end
end Go.Ev
namespace Go.Ev
open Go Go.RowKit
noncomputable def f69_r0 : List EOper := [⟨some (.ofNat 2), none, .alloc 49 (List.replicate 49 (.b false))⟩]
noncomputable def f69_r1 : List EOper := [⟨some (.ofNat 3), none, .alloc 49 (List.replicate 49 (.b false))⟩]
noncomputable def f69_r2 : List EOper := [⟨some (.ofNat 7), none, .mv (.t (.ofNat 0))⟩, ⟨some (.ofNat 8), none, .len (.t (.ofNat 7))⟩, ⟨some (.ofNat 9), none, .mv (.c (.i .i64 (.ofNat 0)))⟩]
noncomputable def f69_r3 : List EOper := [⟨some (.ofNat 10), none, .bin .lss (.t (.ofNat 9)) (.t (.ofNat 8))⟩]
noncomputable def f69_r4 : List EOper := [⟨some (.ofNat 11), none, .iads 49 (.t (.ofNat 7)) (.t (.ofNat 9))⟩, ⟨some (.ofNat 12), none, .ldn 49 (.t (.ofNat 11))⟩, ⟨some (.ofNat 5), none, .alloc 49 (List.replicate 49 (.b false))⟩, ⟨none, none, .st 49 (.t (.ofNat 5)) (.t (.ofNat 12))⟩]
noncomputable def f69_r5 : List EOper := [⟨some (.ofNat 13), none, .ldn 49 (.t (.ofNat 5))⟩, ⟨some (.ofNat 14), none, .call (.c (.fn (.ofNat 84) [])) [(.t (.ofNat 13))]⟩]
noncomputable def f69_r6 : List EOper := [⟨some (.ofNat 6), none, .alloc 2 [(.i .i64 (.ofNat 0)), (.i .i64 (.ofNat 0))]⟩, ⟨none, none, .st 2 (.t (.ofNat 6)) (.t (.ofNat 15))⟩]
noncomputable def f69_a0 : EC := (.reg f69_r6)
noncomputable def f69_r7 : List Stage := [⟨[⟨some (.ofNat 16), none, .fadr 0 (.t (.ofNat 6))⟩, ⟨some (.ofNat 17), none, .ld (.t (.ofNat 16))⟩, ⟨some (.ofNat 18), none, .fadr 1 (.t (.ofNat 6))⟩, ⟨some (.ofNat 19), none, .ld (.t (.ofNat 18))⟩, ⟨some (.ofNat 20), none, .iadr 7 7 (.t (.ofNat 3)) (.t (.ofNat 17))⟩, ⟨some (.ofNat 21), none, .iadr 7 1 (.t (.ofNat 20)) (.t (.ofNat 19))⟩], [], (some ⟨none, none, .st 1 (.t (.ofNat 21)) (.c (.b true))⟩), []⟩, ⟨[], [], none, []⟩]
noncomputable def f69_b0 : EC := (.block 3 (.draw f69_r7))
noncomputable def f69_r8 : List EOper := [⟨some (.ofNat 22), none, .bin .add (.t (.ofNat 9)) (.c (.i .i64 (.ofNat 1)))⟩, ⟨some (.ofNat 9), none, .mv (.t (.ofNat 22))⟩]
noncomputable def f69_l0 : EC := (.seq (.reg f69_r3) (.seq (.cond (.t (.ofNat 10)) .skip (.exit 0)) (.seq (.block 1 (.seq (.reg f69_r4) (.seq (.reg f69_r5) (.block 2 (.rangeF (.t (.ofNat 14)) [(.ofNat 15)] f69_a0 f69_b0))))) (.reg f69_r8))))
noncomputable def f69_r9 : List EOper := [⟨some (.ofNat 23), none, .ldn 49 (.t (.ofNat 3))⟩, ⟨none, none, .st 49 (.t (.ofNat 2)) (.t (.ofNat 23))⟩]
noncomputable def f69_c : EC := (.seq (.reg f69_r0) (.seq (.reg f69_r1) (.seq (.seq (.reg f69_r2) (.block 0 (.loop f69_l0))) (.seq (.reg f69_r9) .ret))))
noncomputable def f69 : EF := ⟨24, [.celln (.ofNat 2) 49], f69_c, none⟩
theorem f69_rs : f69.rs = [.celln (.ofNat 2) 49] := of_eq_true (eq_self _)
noncomputable def f81_r0 : List EOper := [⟨some (.ofNat 2), none, .box 49 (.t (.ofNat 0))⟩, ⟨some (.ofNat 3), none, .box 49 (.t (.ofNat 1))⟩, ⟨some (.ofNat 4), none, .alloc 49 (List.replicate 49 (.b false))⟩]
noncomputable def f81_r1 : List EOper := [⟨some (.ofNat 6), none, .ldn 49 (.t (.ofNat 3))⟩, ⟨some (.ofNat 7), none, .call (.c (.fn (.ofNat 84) [])) [(.t (.ofNat 6))]⟩]
noncomputable def f81_r2 : List EOper := [⟨some (.ofNat 5), none, .alloc 2 [(.i .i64 (.ofNat 0)), (.i .i64 (.ofNat 0))]⟩, ⟨none, none, .st 2 (.t (.ofNat 5)) (.t (.ofNat 8))⟩]
noncomputable def f81_a0 : EC := (.reg f81_r2)
noncomputable def f81_r3 : List Stage := [⟨[⟨some (.ofNat 9), none, .fadr 0 (.t (.ofNat 5))⟩, ⟨some (.ofNat 10), none, .ld (.t (.ofNat 9))⟩, ⟨some (.ofNat 11), none, .fadr 1 (.t (.ofNat 5))⟩, ⟨some (.ofNat 12), none, .ld (.t (.ofNat 11))⟩, ⟨some (.ofNat 13), none, .iadr 7 7 (.t (.ofNat 2)) (.t (.ofNat 10))⟩, ⟨some (.ofNat 14), none, .iadr 7 1 (.t (.ofNat 13)) (.t (.ofNat 12))⟩], [], (some ⟨none, none, .st 1 (.t (.ofNat 14)) (.c (.b false))⟩), []⟩, ⟨[], [], none, []⟩]
noncomputable def f81_b0 : EC := (.block 1 (.draw f81_r3))
noncomputable def f81_r4 : List EOper := [⟨some (.ofNat 15), none, .ldn 49 (.t (.ofNat 2))⟩, ⟨none, none, .st 49 (.t (.ofNat 4)) (.t (.ofNat 15))⟩]
noncomputable def f81_c : EC := (.seq (.reg f81_r0) (.seq (.seq (.reg f81_r1) (.block 0 (.rangeF (.t (.ofNat 7)) [(.ofNat 8)] f81_a0 f81_b0))) (.seq (.reg f81_r4) .ret)))
noncomputable def f81 : EF := ⟨16, [.celln (.ofNat 4) 49], f81_c, none⟩
theorem f81_rs : f81.rs = [.celln (.ofNat 4) 49] := of_eq_true (eq_self _)
noncomputable def f71_r0 : List EOper := [⟨some (.ofNat 2), none, .alloc 49 (List.replicate 49 (.b false))⟩]
noncomputable def f71_r1 : List EOper := [⟨some (.ofNat 3), none, .alloc 49 (List.replicate 49 (.b false))⟩]
noncomputable def f71_r2 : List EOper := [⟨some (.ofNat 6), none, .mv (.t (.ofNat 0))⟩, ⟨some (.ofNat 7), none, .len (.t (.ofNat 6))⟩, ⟨some (.ofNat 8), none, .mv (.c (.i .i64 (.ofNat 0)))⟩]
noncomputable def f71_r3 : List EOper := [⟨some (.ofNat 9), none, .bin .lss (.t (.ofNat 8)) (.t (.ofNat 7))⟩]
noncomputable def f71_r4 : List EOper := [⟨some (.ofNat 10), none, .iads 2 (.t (.ofNat 6)) (.t (.ofNat 8))⟩, ⟨some (.ofNat 11), none, .ldn 2 (.t (.ofNat 10))⟩, ⟨some (.ofNat 5), none, .alloc 2 [(.i .i64 (.ofNat 0)), (.i .i64 (.ofNat 0))]⟩, ⟨none, none, .st 2 (.t (.ofNat 5)) (.t (.ofNat 11))⟩]
noncomputable def f71_r5 : List Stage := [⟨[⟨some (.ofNat 12), none, .iadr 2 1 (.t (.ofNat 5)) (.c (.i .i64 (.ofNat 0)))⟩, ⟨some (.ofNat 13), none, .ld (.t (.ofNat 12))⟩, ⟨some (.ofNat 14), none, .iadr 2 1 (.t (.ofNat 5)) (.c (.i .i64 (.ofNat 1)))⟩, ⟨some (.ofNat 15), none, .ld (.t (.ofNat 14))⟩, ⟨some (.ofNat 16), none, .iadr 7 7 (.t (.ofNat 3)) (.t (.ofNat 13))⟩, ⟨some (.ofNat 17), none, .iadr 7 1 (.t (.ofNat 16)) (.t (.ofNat 15))⟩], [], (some ⟨none, none, .st 1 (.t (.ofNat 17)) (.c (.b true))⟩), []⟩, ⟨[], [], none, []⟩]
noncomputable def f71_r6 : List EOper := [⟨some (.ofNat 18), none, .bin .add (.t (.ofNat 8)) (.c (.i .i64 (.ofNat 1)))⟩, ⟨some (.ofNat 8), none, .mv (.t (.ofNat 18))⟩]
noncomputable def f71_l0 : EC := (.seq (.reg f71_r3) (.seq (.cond (.t (.ofNat 9)) .skip (.exit 0)) (.seq (.block 1 (.seq (.reg f71_r4) (.draw f71_r5))) (.reg f71_r6))))
noncomputable def f71_r7 : List EOper := [⟨some (.ofNat 19), none, .ldn 49 (.t (.ofNat 3))⟩, ⟨none, none, .st 49 (.t (.ofNat 2)) (.t (.ofNat 19))⟩]
noncomputable def f71_c : EC := (.seq (.reg f71_r0) (.seq (.reg f71_r1) (.seq (.seq (.reg f71_r2) (.block 0 (.loop f71_l0))) (.seq (.reg f71_r7) .ret))))
noncomputable def f71 : EF := ⟨20, [.celln (.ofNat 2) 49], f71_c, none⟩
theorem f71_rs : f71.rs = [.celln (.ofNat 2) 49] := of_eq_true (eq_self _)
section
variable {fs : T EF} {h h' : H}
/-- A slice of relations, as it is read. -/
def Rs (h : H) (v : V) (Ls : List (List Bool)) : Prop := (∀ h1, lenV v h1 = .ok (.i .i64 (Ls.length : Int)) h1) ∧ ∀ i (hi : i < Ls.length), ∃ id q m cs, (∀ h1, iadsV 49 v (.i .i64 (i : Int)) h1 = .ok (.p id q) h1) ∧ h.get id = .cells m cs ∧ q + 49 ≤ m ∧ takeN 49 (dropN q cs) = Ls[i].map V.b
theorem Rs.grow {v : V} {Ls : List (List Bool)} (r : Rs h v Ls) (hc : HC h) (g : Grow h.nx.nat h h') : Rs h' v Ls := ⟨r.1, fun i hi => by
  obtain ⟨id, q, m, cs, h1, h2, h3, h4⟩ := r.2 i hi
  exact ⟨id, q, m, cs, h1, (g.old _ (hc.cells h2)).trans h2, h3, h4⟩⟩
theorem Rs.at {v : V} {Ls : List (List Bool)} (r : Rs h v Ls) {i : Nat} (hi : i < Ls.length) : ∃ p, (∀ h1, iadsV 49 v (.i .i64 (i : Int)) h1 = .ok p h1) ∧ loadV h p (many? 49) = .ok (rV Ls[i]) h := by
  obtain ⟨id, q, m, cs, h1, h2, h3, h4⟩ := r.2 i hi
  exact ⟨_, h1, by rw [loadn_p h2 h3, h4]; rfl⟩
/-- A literal of two relations. -/
theorem Rs.two {L M : List Bool} (hL : L.length = 49) (hM : M.length = 49) : Rs (h.new (.cells (2 * 49) (L.map V.b ++ M.map V.b))) (.sl h.nx 0 2 49) [L, M] := by
  refine ⟨fun _ => rfl, fun i hi => ⟨h.nx, 0 + i * 49, 2 * 49, _, fun h1 => ?_, get_new_same, ?_, ?_⟩⟩
  · rw [iads_sl, idx_n (by simpa using hi)]
  · have : i < 2 := hi; omega
  · rw [takeN_eq, dropN_eq]
    obtain rfl | rfl : i = 0 ∨ i = 1 := by have : i < 2 := hi; omega
    · rw [show 0 + 0 * 49 = 0 by omega, List.drop_zero, List.take_append_of_le_length (by simp [hL]), List.take_of_length_le (by simp [hL])]; rfl
    · rw [show 0 + 1 * 49 = (L.map V.b).length by simp [hL], List.drop_left, List.take_of_length_le (by simp [hM])]; rfl
def jnF (Ls : List (List Bool)) (i : Nat) (a b : Nat) : Bool := (Ls.take i).any fun L => rat L a b
def jnR (Ls : List (List Bool)) : List Bool := rl fun a b => Ls.any fun L => rat L a b
theorem jnF_succ {Ls : List (List Bool)} {i : Nat} (hi : i < Ls.length) : rl (onF (arw (rat Ls[i])) true (jnF Ls i)) = rl (jnF Ls (i + 1)) := by
  refine rl_congr fun a b ha hb => ?_
  unfold onF jnF
  rw [List.take_succ_eq_append_getElem hi, List.any_append]
  by_cases e : rat Ls[i] a b = true
  · rw [if_pos (mem_arw.2 ⟨ha, hb, e⟩)]; simp [e]
  · rw [if_neg (fun h => e (mem_arw.1 h).2.2)]; simp [e]
def f69_I (h0 : H) (id2 id3 : K) (v : V) (Ls : List (List Bool)) (i : Nat) (fr : Fr) (h1 : H) : Prop := i ≤ Ls.length ∧ Kp id3 h0 h1 ∧ h1.get id3 = rC (rl (jnF Ls i)) ∧ fr.get (K.ofNat 2) = some (.p id2 0) ∧ fr.get (K.ofNat 3) = some (.p id3 0) ∧ fr.get (K.ofNat 7) = some (v) ∧ fr.get (K.ofNat 8) = some (.i .i64 (Ls.length : Int)) ∧ fr.get (K.ofNat 9) = some (.i .i64 (i : Int))
theorem f69_ret {v : V} {Ls : List (List Bool)} (h84 : fs.get (.ofNat 84) = some f84) (h101 : fs.get (.ofNat 101) = some f101) (hv : Rs h v Ls) (hl : ∀ L ∈ Ls, L.length = 49) (hb : Ls.length ≤ 1000000) (hc : HC h) : Ret fs f69 [v] h fun r h' => r = rV (jnR Ls) ∧ Grow h.nx.nat h h' := by
  apply ret_of rfl
  show W fs none f69_c _ _ _
  unfold f69_c
  have n1 := nx_new h (.cells 49 (List.replicate 49 (.b false)))
  have gr1 : Grow h.nx.nat h (h.new (.cells 49 (List.replicate 49 (.b false)))) := Grow.new (Nat.le_refl _) _
  have e1 : (h.new (.cells 49 (List.replicate 49 (.b false)))).get h.nx = rC (rl fun _ _ => false) := by rw [rl_false]; exact get_new_same
  simp (disch := omega) only [f69_r0, w_reg, w_seq, seqK_n, x_nil, x_alloc, putD_some, frame_1]
  generalize h.new (.cells 49 (List.replicate 49 (.b false))) = h1 at *
  have n2 := nx_new h1 (.cells 49 (List.replicate 49 (.b false)))
  have gr2 : Grow h1.nx.nat h1 (h1.new (.cells 49 (List.replicate 49 (.b false)))) := Grow.new (Nat.le_refl _) _
  have e2 : (h1.new (.cells 49 (List.replicate 49 (.b false)))).get h1.nx = rC (rl fun _ _ => false) := by rw [rl_false]; exact get_new_same
  have hlen := hv.1
  simp (disch := omega) only [f69_r1, f69_r2, w_reg, w_seq, w_block, seqK_n, x_nil, x_mv, x_alloc, x_len, kx, rvP_ok, ev_t, ev_c, getV_some, putD_some, of0, getK_set, Nat.reduceEqDiff, ↓reduceIte, hlen]
  generalize h1.new (.cells 49 (List.replicate 49 (.b false))) = h2 at *
  have gA : Grow h.nx.nat h h2 := gr1.trans (gr2.low (by omega))
  have hc2 := gA.hc hc
  have e1' := (gr2.old h.nx (by omega)).trans e1
  refine W_loop (f69_I h2 h.nx h1.nx v Ls) (fun i => Ls.length - i) ?_ 0 ⟨by omega, Kp.refl hc2, e2, by simp (disch := omega) only [getK_set, Nat.reduceEqDiff, ↓reduceIte, and_self, Int.natCast_zero]⟩
  rintro i fr h3 ⟨hi, hk, hB, g2, g3, g7, g8, g9⟩
  unfold f69_l0
  by_cases hlt : i < Ls.length
  · have d0 : decide ((i : Int) < (Ls.length : Int)) = true := decide_eq_true (by omega)
    have gB : Grow h.nx.nat h h3 := gA.trans (hk.toGrow (by omega) (by omega))
    obtain ⟨p, p1, p2⟩ := (hv.grow hc gB).at hlt
    have hL := hl _ (List.getElem_mem hlt)
    have hsu := jnF_succ hlt
    generalize Ls[i] = L at *
    have c1 := rC_cells hL
    have n4 := nx_new h3 (.cells 49 (List.replicate 49 (.b false)))
    have s4 := rC_stn hL rl_len (M := rl fun _ _ => false) (h := h3.new (.cells 49 (List.replicate 49 (.b false)))) (id := h3.nx) (by rw [rl_false]; exact get_new_same)
    have gr4 : Grow h3.nx.nat h3 ((h3.new (.cells 49 (List.replicate 49 (.b false)))).put h3.nx (rC L)) := (Grow.new (Nat.le_refl _) _).trans (Grow.put (Nat.le_refl _) (by omega) _)
    have n4' : ((h3.new (.cells 49 (List.replicate 49 (.b false)))).put h3.nx (rC L)).nx.nat = h3.nx.nat + 1 := n4
    have e4 : ((h3.new (.cells 49 (List.replicate 49 (.b false)))).put h3.nx (rC L)).get h3.nx = rC L := get_put_same
    have l4 := rC_ldn hL e4
    simp (disch := omega) only [f69_r3, f69_r4, f69_r5, w_skip, w_reg, w_seq, w_cond, w_block, seqK_n, ckB_b, cbB_b, true_and, x_nil, x_alloc, x_ldn, x_st, x_bin, x_iads, x_call, kx, rvP_ok, okv_some, ev_t, ev_c, evs_nil, evs_cons, getV_some, putD_some, putD_none, bin_lss, getK_set, Nat.reduceEqDiff, ↓reduceIte, g7, g8, g9, d0, p1, p2, s4, l4]
    generalize (h3.new (.cells 49 (List.replicate 49 (.b false)))).put h3.nx (rC L) = h4 at *
    refine (callP_0 (ef := f84) h84 rfl (f84_ret hL)).mono ?_
    rintro r h5 ⟨rfl, rfl⟩
    have n5 := nx_new h4 (rC L)
    have gr5 : Grow h4.nx.nat h4 (h4.new (rC L)) := Grow.new (Nat.le_refl _) _
    have e5 : (h4.new (rC L)).get h4.nx = rC L := get_new_same
    have k5 := (hk.grow gr4 hk.nx).grow gr5 (by have := hk.nx; omega)
    have b5 := (gr5.old _ (by have := hk.nx; omega)).trans ((gr4.old _ (by have := hk.nx; omega)).trans hB)
    simp (disch := omega) only [w_block, seqK_n, x_nil, kx, putD_some]
    generalize h4.new (rC L) = h5 at *
    generalize hfr : T.set (K.ofNat 14) _ _ = fr
    have g2 : fr.get (K.ofNat 2) = some (.p h.nx 0) := by rw [← hfr]; simp only [getK_set, Nat.reduceEqDiff, ↓reduceIte, g2]
    have g3 : fr.get (K.ofNat 3) = some (.p h1.nx 0) := by rw [← hfr]; simp only [getK_set, Nat.reduceEqDiff, ↓reduceIte, g3]
    have g7 : fr.get (K.ofNat 7) = some (v) := by rw [← hfr]; simp only [getK_set, Nat.reduceEqDiff, ↓reduceIte, g7]
    have g8 : fr.get (K.ofNat 8) = some (.i .i64 (Ls.length : Int)) := by rw [← hfr]; simp only [getK_set, Nat.reduceEqDiff, ↓reduceIte, g8]
    have g9 : fr.get (K.ofNat 9) = some (.i .i64 (i : Int)) := by rw [← hfr]; simp only [getK_set, Nat.reduceEqDiff, ↓reduceIte, g9]
    have g14 : fr.get (K.ofNat 14) = some (.fn (K.ofNat 101) [.p h4.nx 0]) := by rw [← hfr]; simp only [getK_set, ↓reduceIte]
    clear hfr
    have hkn := hk.nx
    refine W_arr (idB := h1.nx) (by simp (disch := omega) only [ev_t, getV_some, g14]) hL h101 k5.hc e5 (kNe (by omega)).symm (fun j => rC (rl (onF ((arw (rat L)).take j) true (jnF Ls i)))) (by rw [b5, List.take_zero, onF_nil]) (by omega) rfl ?_ ?_
    · rintro j ⟨x, y⟩ h6 hx hx1 hx2 hk6 hn hB6
      obtain ⟨hst, gB, c7, n6⟩ := arr_var (h := h6) (x := x) (y := y)
      have b6 := (gB.old _ (by omega)).trans hB6
      unfold f69_a0
      simp (disch := omega) only [f69_r6, w_reg, x_nil, x_alloc, x_st, kx, rvP_ok, ev_t, getV_some, putD_some, putD_none, of0, getK_set, Nat.reduceEqDiff, ↓reduceIte, hst, arrA_n]
      generalize (h6.new (.cells 2 [.i .i64 0, .i .i64 0])).put h6.nx (.cells 2 [.i .i64 (x : Int), .i .i64 (y : Int)]) = h7 at *
      refine ⟨gB, fun h8 n8 hc8 o8 => ?_⟩
      have l0 := ld20 ((o8 _ (kNe hn).symm).trans c7)
      have l1 := ld21 ((o8 _ (kNe hn).symm).trans c7)
      have b8 := (o8 _ (kNe (show h1.nx.nat < h5.nx.nat by omega))).trans b6
      have hs := rC_st (v := true) hx1 hx2 b8
      unfold f69_b0
      simp (disch := omega) only [f69_r7, w_draw, w_block, atK_n, true_and, x_nil, x_st, kx, kg, xg_nil, xg_ld, xg_fadr, xg_iadr, xd_cons, fresh_nil, stK_n, stK_s, stay_nil, rvP_ok, ev_t, ev_c, getV_some, putD_some, putD_none, onP_p, idx_n, getK_set, Nat.reduceEqDiff, ↓reduceIte, g3, l0, l1, hs, arrC_n]
      refine ⟨?_, (Kp.refl hc8).put (by rw [n8]; omega) _⟩
      rw [get_put_same, List.take_add_one, hx]
      simp only [Option.toList_some, onF_snoc]
    · intro h6 hB6 hk6
      rw [List.take_length, hsu] at hB6
      simp (disch := omega) only [f69_r8, w_reg, seqK_n, atK_n, loopK_n, x_nil, x_mv, x_bin, kx, rvP_ok, okv_some, ev_t, ev_c, getV_some, putD_some, bin_add, of1, getK_set, ↓reduceIte, g9, fw64]
      exact ⟨i + 1, by omega, by omega, k5.trans hk6, hB6, by simp (disch := omega) only [getK_set, Nat.reduceEqDiff, ↓reduceIte, g2, g3, g7, g8, and_self, Int.natCast_add, Int.natCast_one]⟩
  · have d0 : decide ((i : Int) < (Ls.length : Int)) = false := decide_eq_false (by omega)
    have ei : i = Ls.length := by omega
    subst ei
    have hj : rl (jnF Ls Ls.length) = jnR Ls := by unfold jnR jnF; rw [List.take_length]
    rw [hj] at hB
    have l5 := rC_ldn (L := jnR Ls) rl_len hB
    have hs5 := rC_stn (L := jnR Ls) rl_len rl_len ((hk.old h.nx (by omega) (kNe (by omega))).trans e1')
    have hr5 : readP (h3.put h.nx (rC (jnR Ls))) (.p h.nx 0) (many? 49) = some (rV (jnR Ls)) := rC_read rl_len get_put_same
    simp (disch := omega) only [f69_r3, f69_r9, f69_rs, w_reg, w_seq, w_cond, w_exit, w_ret, seqK_n, seqK_e, atK_e, loopK_e, ckB_b, cbB_b, true_and, retK_r, x_nil, x_ldn, x_st, x_bin, kx, rvP_ok, okv_some, ev_t, getV_some, putD_some, putD_none, bin_lss, oGet_s, readRs_nil, readRs_n, retV_1, Option.some.injEq, exists_eq_left', getK_set, Nat.reduceEqDiff, ↓reduceIte, Bool.false_eq_true, g2, g3, g8, g9, d0, l5, hs5, hr5]
    exact gA.trans ((hk.toGrow (b := h.nx.nat) (by omega) (by omega)).trans (Grow.put (k := h.nx) (by omega) (by have := hk.nx; omega) _))
def woR (L M : List Bool) : List Bool := rl fun a b => rat L a b && !rat M a b
theorem f81_ret {L M : List Bool} (hL : L.length = 49) (hM : M.length = 49) (h84 : fs.get (.ofNat 84) = some f84) (h101 : fs.get (.ofNat 101) = some f101) (hc : HC h) : Ret fs f81 [rV L, rV M] h fun r _ => r = rV (woR L M) := by
  apply ret_of rfl
  show W fs none f81_c _ _ _
  unfold f81_c
  have c1 := rC_cells hL
  have c2 := rC_cells hM
  have n1 := nx_new h (.cells 49 (L.map V.b))
  have g1 : Grow h.nx.nat h (h.new (.cells 49 (L.map V.b))) := Grow.new (Nat.le_refl _) _
  have e1 : (h.new (.cells 49 (L.map V.b))).get h.nx = rC L := get_new_same
  have n2 := nx_new (h.new (.cells 49 (L.map V.b))) (.cells 49 (M.map V.b))
  have g2 : Grow (h.new (.cells 49 (L.map V.b))).nx.nat (h.new (.cells 49 (L.map V.b))) ((h.new (.cells 49 (L.map V.b))).new (.cells 49 (M.map V.b))) := Grow.new (Nat.le_refl _) _
  have e2 : ((h.new (.cells 49 (L.map V.b))).new (.cells 49 (M.map V.b))).get (h.new (.cells 49 (L.map V.b))).nx = rC M := get_new_same
  have n3 := nx_new ((h.new (.cells 49 (L.map V.b))).new (.cells 49 (M.map V.b))) (.cells 49 (List.replicate 49 (.b false)))
  have g3 : Grow ((h.new (.cells 49 (L.map V.b))).new (.cells 49 (M.map V.b))).nx.nat ((h.new (.cells 49 (L.map V.b))).new (.cells 49 (M.map V.b))) (((h.new (.cells 49 (L.map V.b))).new (.cells 49 (M.map V.b))).new (.cells 49 (List.replicate 49 (.b false)))) := Grow.new (Nat.le_refl _) _
  have e3 : (((h.new (.cells 49 (L.map V.b))).new (.cells 49 (M.map V.b))).new (.cells 49 (List.replicate 49 (.b false)))).get ((h.new (.cells 49 (L.map V.b))).new (.cells 49 (M.map V.b))).nx = rC (rl fun _ _ => false) := by rw [rl_false]; exact get_new_same
  simp (disch := omega) only [f81_r0, w_reg, w_seq, seqK_n, x_nil, x_alloc, x_box, kx, rvP_ok, ev_t, getV_some, putD_some, oGet_s, frame_2, getK_set, Nat.reduceEqDiff, ↓reduceIte, c1, c2]
  generalize h.new (.cells 49 (L.map V.b)) = h1 at *
  generalize h1.new (.cells 49 (M.map V.b)) = h2 at *
  generalize h2.new (.cells 49 (List.replicate 49 (.b false))) = h3 at *
  have hc3 := g3.hc (g2.hc (g1.hc hc))
  have hl := rC_ldn hM (h := h3) (id := h1.nx) ((g3.old _ (by omega)).trans e2)
  simp (disch := omega) only [f81_r1, x_ldn, x_call, kx, rvP_ok, ev_t, ev_c, evs_nil, evs_cons, getV_some, putD_some, getK_set, Nat.reduceEqDiff, ↓reduceIte, hl]
  refine (callP_0 (ef := f84) h84 rfl (f84_ret hM)).mono ?_
  rintro r h4 ⟨rfl, rfl⟩
  have n4 := nx_new h3 (rC M)
  have g4 : Grow h3.nx.nat h3 (h3.new (rC M)) := Grow.new (Nat.le_refl _) _
  have e4 : (h3.new (rC M)).get h3.nx = rC M := get_new_same
  have hc4 := g4.hc hc3
  have e1' := (g4.old h.nx (by omega)).trans ((g3.old h.nx (by omega)).trans ((g2.old h.nx (by omega)).trans e1))
  have e3' := (g4.old h2.nx (by omega)).trans e3
  simp (disch := omega) only [w_block, seqK_n, x_nil, kx, putD_some]
  generalize h3.new (rC M) = h4 at *
  generalize hfr : T.set (K.ofNat 7) _ _ = fr
  have g2 : fr.get (K.ofNat 2) = some (.p h.nx 0) := by rw [← hfr]; simp only [getK_set, Nat.reduceEqDiff, ↓reduceIte]
  have g4 : fr.get (K.ofNat 4) = some (.p h2.nx 0) := by rw [← hfr]; simp only [getK_set, Nat.reduceEqDiff, ↓reduceIte]
  have g7 : fr.get (K.ofNat 7) = some (.fn (K.ofNat 101) [.p h3.nx 0]) := by rw [← hfr]; simp only [getK_set, ↓reduceIte]
  clear hfr
  refine W_arr (idB := h.nx) (by simp (disch := omega) only [ev_t, getV_some, g7]) hM h101 hc4 e4 (kNe (by omega)).symm (fun i => rC (rl (onF ((arw (rat M)).take i) false (rat L)))) (by rw [e1', List.take_zero, onF_nil, rl_rat hL]) (by omega) rfl ?_ ?_
  · rintro i ⟨x, y⟩ h5 hx hx1 hx2 hk hn hB
    obtain ⟨hst, gB, c7, n5⟩ := arr_var (h := h5) (x := x) (y := y)
    have b6 := (gB.old _ (by omega)).trans hB
    unfold f81_a0
    simp (disch := omega) only [f81_r2, w_reg, x_nil, x_alloc, x_st, kx, rvP_ok, ev_t, getV_some, putD_some, putD_none, of0, getK_set, Nat.reduceEqDiff, ↓reduceIte, hst, arrA_n]
    generalize (h5.new (.cells 2 [.i .i64 0, .i .i64 0])).put h5.nx (.cells 2 [.i .i64 (x : Int), .i .i64 (y : Int)]) = h6 at *
    refine ⟨gB, fun h7 n7 hc7 o7 => ?_⟩
    have l0 := ld20 ((o7 _ (kNe hn).symm).trans c7)
    have l1 := ld21 ((o7 _ (kNe hn).symm).trans c7)
    have b7 := (o7 _ (kNe (show h.nx.nat < h4.nx.nat by omega))).trans b6
    have hs := rC_st (v := false) hx1 hx2 b7
    unfold f81_b0
    simp (disch := omega) only [f81_r3, w_draw, w_block, atK_n, true_and, x_nil, x_st, kx, kg, xg_nil, xg_ld, xg_fadr, xg_iadr, xd_cons, fresh_nil, stK_n, stK_s, stay_nil, rvP_ok, ev_t, ev_c, getV_some, putD_some, putD_none, onP_p, idx_n, getK_set, Nat.reduceEqDiff, ↓reduceIte, g2, l0, l1, hs, arrC_n]
    refine ⟨?_, (Kp.refl hc7).put (by rw [n7]; omega) _⟩
    rw [get_put_same, List.take_add_one, hx]
    simp only [Option.toList_some, onF_snoc]
  · intro h5 hB hk
    rw [List.take_length] at hB
    have hF : rl (onF (arw (rat M)) false (rat L)) = woR L M := by
      refine rl_congr fun a b ha hb => ?_
      unfold onF
      by_cases e : rat M a b = true
      · rw [if_pos (mem_arw.2 ⟨ha, hb, e⟩), e]; simp
      · rw [if_neg (fun h => e (mem_arw.1 h).2.2)]; simp [e]
    rw [hF] at hB
    have l5 := rC_ldn (L := woR L M) rl_len hB
    have hs5 := rC_stn (L := woR L M) rl_len rl_len ((hk.old h2.nx (by omega) (kNe (by omega)).symm).trans e3')
    have hr5 : readP (h5.put h2.nx (rC (woR L M))) (.p h2.nx 0) (many? 49) = some (rV (woR L M)) := rC_read rl_len get_put_same
    simp (disch := omega) only [f81_r4, f81_rs, w_reg, w_seq, w_ret, seqK_n, atK_n, retK_r, x_nil, x_ldn, x_st, kx, rvP_ok, ev_t, getV_some, putD_some, putD_none, oGet_s, readRs_nil, readRs_n, retV_1, Option.some.injEq, exists_eq_left', getK_set, Nat.reduceEqDiff, ↓reduceIte, g2, g4, l5, hs5, hr5]
/-- The relation of some pairs. -/
def relR (L : List (Int × Int)) : List Bool := rl fun a b => decide (((a : Int), (b : Int)) ∈ L)
def relF (L : List (Int × Int)) (i : Nat) (a b : Nat) : Bool := decide (((a : Int), (b : Int)) ∈ L.take i)
theorem relF_succ {L : List (Int × Int)} {i : Nat} (hi : i < L.length) {x y : Nat} (hx : L[i].1 = (x : Int)) (hy : L[i].2 = (y : Int)) : (fun a b => if a = x ∧ b = y then true else relF L i a b) = relF L (i + 1) := by
  funext a b
  unfold relF
  rw [List.take_succ_eq_append_getElem hi]
  have e0 : L[i] = ((x : Int), (y : Int)) := Prod.ext hx hy
  rw [e0]
  by_cases e : a = x ∧ b = y
  · rw [if_pos e, e.1, e.2]; simp
  · rw [if_neg e]
    congr 1
    apply propext
    rw [List.mem_append, List.mem_singleton]
    exact ⟨.inl, fun h => h.resolve_right (fun h => e (by injection h with h1 h2; omega))⟩
def Nd (L : List (Int × Int)) : Prop := ∀ x ∈ L, (0 ≤ x.1 ∧ x.1 < 7) ∧ (0 ≤ x.2 ∧ x.2 < 7)
def f71_I (h0 : H) (id2 id3 : K) (v : V) (L : List (Int × Int)) (i : Nat) (fr : Fr) (h1 : H) : Prop := i ≤ L.length ∧ Kp id3 h0 h1 ∧ h1.get id3 = rC (rl (relF L i)) ∧ fr.get (K.ofNat 2) = some (.p id2 0) ∧ fr.get (K.ofNat 3) = some (.p id3 0) ∧ fr.get (K.ofNat 6) = some (v) ∧ fr.get (K.ofNat 7) = some (.i .i64 (L.length : Int)) ∧ fr.get (K.ofNat 8) = some (.i .i64 (i : Int))
theorem f71_ret {v : V} {L : List (Int × Int)} (hv : Srp h v L) (hn : Nd L) (hb : L.length ≤ 1000000) (hc : HC h) : Ret fs f71 [v] h fun r h' => r = rV (relR L) ∧ Grow h.nx.nat h h' := by
  apply ret_of rfl
  show W fs none f71_c _ _ _
  unfold f71_c
  have n1 := nx_new h (.cells 49 (List.replicate 49 (.b false)))
  have gr1 : Grow h.nx.nat h (h.new (.cells 49 (List.replicate 49 (.b false)))) := Grow.new (Nat.le_refl _) _
  have e1 : (h.new (.cells 49 (List.replicate 49 (.b false)))).get h.nx = rC (rl fun _ _ => false) := by rw [rl_false]; exact get_new_same
  simp (disch := omega) only [f71_r0, w_reg, w_seq, seqK_n, x_nil, x_alloc, putD_some, frame_1]
  generalize h.new (.cells 49 (List.replicate 49 (.b false))) = h1 at *
  have n2 := nx_new h1 (.cells 49 (List.replicate 49 (.b false)))
  have gr2 : Grow h1.nx.nat h1 (h1.new (.cells 49 (List.replicate 49 (.b false)))) := Grow.new (Nat.le_refl _) _
  have e2 : (h1.new (.cells 49 (List.replicate 49 (.b false)))).get h1.nx = rC (rl fun _ _ => false) := by rw [rl_false]; exact get_new_same
  have hlen := hv.len
  simp (disch := omega) only [f71_r1, f71_r2, w_reg, w_seq, w_block, seqK_n, x_nil, x_mv, x_alloc, x_len, kx, rvP_ok, ev_t, ev_c, getV_some, putD_some, of0, getK_set, Nat.reduceEqDiff, ↓reduceIte, hlen]
  generalize h1.new (.cells 49 (List.replicate 49 (.b false))) = h2 at *
  have gA : Grow h.nx.nat h h2 := gr1.trans (gr2.low (by omega))
  have hc2 := gA.hc hc
  have e1' := (gr2.old h.nx (by omega)).trans e1
  refine W_loop (f71_I h2 h.nx h1.nx v L) (fun i => L.length - i) ?_ 0 ⟨by omega, Kp.refl hc2, e2, by simp (disch := omega) only [getK_set, Nat.reduceEqDiff, ↓reduceIte, and_self, Int.natCast_zero]⟩
  rintro i fr h3 ⟨hi, hk, hB, g2, g3, g6, g7, g8⟩
  have hkn := hk.nx
  unfold f71_l0
  by_cases hlt : i < L.length
  · have d0 : decide ((i : Int) < (L.length : Int)) = true := decide_eq_true (by omega)
    have gB : Grow h.nx.nat h h3 := gA.trans (hk.toGrow (by omega) (by omega))
    obtain ⟨id, q, p1, p2, _⟩ := (hv.grow hc gB).at2 hlt
    obtain ⟨hx, hy⟩ := hn _ (List.getElem_mem hlt)
    obtain ⟨x, hx1⟩ : ∃ x : Nat, L[i].1 = (x : Int) := ⟨L[i].1.toNat, by omega⟩
    obtain ⟨y, hy1⟩ : ∃ y : Nat, L[i].2 = (y : Int) := ⟨L[i].2.toNat, by omega⟩
    have hsu := relF_succ hlt hx1 hy1
    rw [hx1, hy1] at p2
    rw [hx1] at hx
    rw [hy1] at hy
    obtain ⟨hst, gC, c7, n5⟩ := arr_var (h := h3) (x := x) (y := y)
    have hst : storeV (h3.new (.cells 2 [.i .i64 0, .i .i64 0])) 2 (.p h3.nx 0) (.agg [.i .i64 (x : Int), .i .i64 (y : Int)]) = _ := hst
    have b4 := (gC.old _ (by omega)).trans hB
    simp (disch := omega) only [f71_r3, f71_r4, w_skip, w_reg, w_draw, w_seq, w_cond, w_block, seqK_n, ckB_b, cbB_b, true_and, x_nil, x_alloc, x_ldn, x_st, x_bin, x_iads, kx, rvP_ok, okv_some, ev_t, getV_some, putD_some, putD_none, bin_lss, of0, getK_set, Nat.reduceEqDiff, ↓reduceIte, g6, g7, g8, d0, p1, p2, hst]
    have k4 := hk.grow gC hkn
    generalize (h3.new (.cells 2 [.i .i64 0, .i .i64 0])).put h3.nx (.cells 2 [.i .i64 (x : Int), .i .i64 (y : Int)]) = h4 at *
    have l0 := ld20 c7
    have l1 := ld21 c7
    have hs := rC_st (v := true) (a := x) (b := y) (by omega) (by omega) b4
    have z0 : ∀ ff : Nat → RV, idxV (.i .i64 0) 2 ff = ff 0 := fun _ => rfl
    have z1 : ∀ ff : Nat → RV, idxV (.i .i64 1) 2 ff = ff 1 := fun _ => rfl
    simp (disch := omega) only [f71_r5, f71_r6, w_reg, seqK_n, atK_n, loopK_n, true_and, x_nil, x_mv, x_st, x_bin, kx, kg, xg_nil, xg_ld, xg_iadr, xd_cons, fresh_nil, stK_n, stK_s, stay_nil, rvP_ok, okv_some, ev_t, ev_c, getV_some, putD_some, putD_none, bin_add, onP_p, idx_n, of0, of1, getK_set, Nat.reduceEqDiff, ↓reduceIte, g3, g8, z0, z1, l0, l1, hs, fw64]
    refine ⟨i + 1, by omega, by omega, k4.put (by omega) _, by rw [get_put_same, hsu], by simp (disch := omega) only [getK_set, Nat.reduceEqDiff, ↓reduceIte, g2, g3, g6, g7, and_self, Int.natCast_add, Int.natCast_one]⟩
  · have d0 : decide ((i : Int) < (L.length : Int)) = false := decide_eq_false (by omega)
    have ei : i = L.length := by omega
    subst ei
    have hj : rl (relF L L.length) = relR L := by unfold relR relF; rw [List.take_length]
    rw [hj] at hB
    have l5 := rC_ldn (L := relR L) rl_len hB
    have hs5 := rC_stn (L := relR L) rl_len rl_len ((hk.old h.nx (by omega) (kNe (by omega))).trans e1')
    have hr5 : readP (h3.put h.nx (rC (relR L))) (.p h.nx 0) (many? 49) = some (rV (relR L)) := rC_read rl_len get_put_same
    simp (disch := omega) only [f71_r3, f71_r7, f71_rs, w_reg, w_seq, w_cond, w_exit, w_ret, seqK_n, seqK_e, atK_e, loopK_e, ckB_b, cbB_b, true_and, retK_r, x_nil, x_ldn, x_st, x_bin, kx, rvP_ok, okv_some, ev_t, getV_some, putD_some, putD_none, bin_lss, oGet_s, readRs_nil, readRs_n, retV_1, Option.some.injEq, exists_eq_left', getK_set, Nat.reduceEqDiff, ↓reduceIte, Bool.false_eq_true, g2, g3, g7, g8, d0, l5, hs5, hr5]
    exact gA.trans ((hk.toGrow (b := h.nx.nat) (by omega) (by omega)).trans (Grow.put (k := h.nx) (by omega) (by have := hk.nx; omega) _))
end
end Go.Ev
namespace Go.Ev
open Go Go.RowKit
noncomputable def f48_r0 : List EOper := [⟨some (.ofNat 2), none, .alloc 49 (List.replicate 49 (.b false))⟩]
noncomputable def f48_r1 : List EOper := [⟨some (.ofNat 4), none, .mv (.t (.ofNat 0))⟩, ⟨some (.ofNat 5), none, .call (.c (.fn (.ofNat 71) [])) [(.t (.ofNat 4))]⟩, ⟨some (.ofNat 3), none, .alloc 49 (List.replicate 49 (.b false))⟩, ⟨none, none, .st 49 (.t (.ofNat 3)) (.t (.ofNat 5))⟩]
noncomputable def f48_r2 : List Stage := [⟨[⟨some (.ofNat 6), none, .ldn 49 (.t (.ofNat 3))⟩, ⟨some (.ofNat 7), none, .ldn 49 (.t (.ofNat 3))⟩], [], (some ⟨some (.ofNat 8), none, .call (.c (.fn (.ofNat 70) [])) [(.t (.ofNat 7))]⟩), []⟩, ⟨[⟨some (.ofNat 9), none, .bslice 2 49 (List.replicate 98 (.b false)) [(0, 49, (.t (.ofNat 6))), (49, 49, (.t (.ofNat 8)))]⟩], [⟨some (.ofNat 6), none, .ldn 49 (.t (.ofNat 3))⟩], (some ⟨some (.ofNat 10), none, .call (.c (.fn (.ofNat 69) [])) [(.t (.ofNat 9))]⟩), [(.ofNat 9)]⟩, ⟨[], [], (some ⟨none, none, .st 49 (.t (.ofNat 2)) (.t (.ofNat 10))⟩), []⟩, ⟨[], [], none, []⟩]
noncomputable def f48_c : EC := (.seq (.reg f48_r0) (.seq (.reg f48_r1) (.seq (.draw f48_r2) .ret)))
noncomputable def f48 : EF := ⟨11, [.celln (.ofNat 2) 49], f48_c, none⟩
theorem f48_rs : f48.rs = [.celln (.ofNat 2) 49] := of_eq_true (eq_self _)
noncomputable def f91_r0 : List EOper := [⟨some (.ofNat 2), none, .box 49 (.t (.ofNat 0))⟩, ⟨some (.ofNat 3), none, .box 49 (.t (.ofNat 1))⟩, ⟨some (.ofNat 4), none, .as (.c (.b false))⟩]
noncomputable def f91_r1 : List Stage := [⟨[⟨some (.ofNat 5), none, .ldn 49 (.t (.ofNat 2))⟩, ⟨some (.ofNat 6), none, .ldn 49 (.t (.ofNat 3))⟩, ⟨some (.ofNat 7), none, .bslice 2 49 (List.replicate 98 (.b false)) [(0, 49, (.t (.ofNat 5))), (49, 49, (.t (.ofNat 6)))]⟩, ⟨some (.ofNat 9), none, .ldn 49 (.t (.ofNat 2))⟩], [], (some ⟨some (.ofNat 8), none, .call (.c (.fn (.ofNat 69) [])) [(.t (.ofNat 7))]⟩), [(.ofNat 7)]⟩, ⟨[⟨some (.ofNat 10), none, .eqk (.many (List.replicate 49 none)) false (.t (.ofNat 8)) (.t (.ofNat 9))⟩], [⟨some (.ofNat 9), none, .ldn 49 (.t (.ofNat 2))⟩], (some ⟨some (.ofNat 4), none, .as (.t (.ofNat 10))⟩), []⟩, ⟨[], [], none, []⟩]
noncomputable def f91_c : EC := (.seq (.reg f91_r0) (.seq (.draw f91_r1) .ret))
noncomputable def f91 : EF := ⟨11, [.tmp (.ofNat 4)], f91_c, none⟩
theorem f91_rs : f91.rs = [.tmp (.ofNat 4)] := of_eq_true (eq_self _)
noncomputable def f49_r0 : List EOper := [⟨some (.ofNat 2), none, .box 49 (.t (.ofNat 0))⟩, ⟨some (.ofNat 4), none, .alloc 49 (List.replicate 49 (.b false))⟩]
noncomputable def f49_r1 : List EOper := [⟨some (.ofNat 5), none, .alloc 49 (List.replicate 49 (.b false))⟩]
noncomputable def f49_r2 : List EOper := [⟨some (.ofNat 8), none, .mv (.t (.ofNat 1))⟩, ⟨some (.ofNat 9), none, .mv (.c (.i .i64 (.ofNat 0)))⟩]
noncomputable def f49_r3 : List EOper := [⟨some (.ofNat 10), none, .bin .lss (.t (.ofNat 9)) (.t (.ofNat 8))⟩]
noncomputable def f49_r4 : List EOper := [⟨some (.ofNat 11), none, .mv (.t (.ofNat 9))⟩, ⟨some (.ofNat 6), none, .as (.t (.ofNat 11))⟩]
noncomputable def f49_r5 : List EOper := [⟨some (.ofNat 12), none, .mv (.t (.ofNat 1))⟩, ⟨some (.ofNat 13), none, .mv (.c (.i .i64 (.ofNat 0)))⟩]
noncomputable def f49_r6 : List EOper := [⟨some (.ofNat 14), none, .bin .lss (.t (.ofNat 13)) (.t (.ofNat 12))⟩]
noncomputable def f49_r7 : List EOper := [⟨some (.ofNat 15), none, .mv (.t (.ofNat 13))⟩, ⟨some (.ofNat 7), none, .as (.t (.ofNat 15))⟩]
noncomputable def f49_r8 : List EOper := [⟨some (.ofNat 16), none, .mv (.t (.ofNat 6))⟩, ⟨some (.ofNat 17), none, .mv (.t (.ofNat 7))⟩, ⟨some (.ofNat 18), none, .mv (.t (.ofNat 6))⟩, ⟨some (.ofNat 19), none, .mv (.t (.ofNat 7))⟩, ⟨some (.ofNat 20), none, .bin .neq (.t (.ofNat 18)) (.t (.ofNat 19))⟩, ⟨some (.ofNat 21), none, .iadr 7 7 (.t (.ofNat 5)) (.t (.ofNat 16))⟩, ⟨some (.ofNat 22), none, .iadr 7 1 (.t (.ofNat 21)) (.t (.ofNat 17))⟩, ⟨none, none, .st 1 (.t (.ofNat 22)) (.t (.ofNat 20))⟩]
noncomputable def f49_r9 : List EOper := [⟨some (.ofNat 23), none, .bin .add (.t (.ofNat 13)) (.c (.i .i64 (.ofNat 1)))⟩, ⟨some (.ofNat 13), none, .mv (.t (.ofNat 23))⟩]
noncomputable def f49_l0 : EC := (.seq (.reg f49_r6) (.seq (.cond (.t (.ofNat 14)) .skip (.exit 2)) (.seq (.block 3 (.seq (.reg f49_r7) (.reg f49_r8))) (.reg f49_r9))))
noncomputable def f49_r10 : List EOper := [⟨some (.ofNat 24), none, .bin .add (.t (.ofNat 9)) (.c (.i .i64 (.ofNat 1)))⟩, ⟨some (.ofNat 9), none, .mv (.t (.ofNat 24))⟩]
noncomputable def f49_l1 : EC := (.seq (.reg f49_r3) (.seq (.cond (.t (.ofNat 10)) .skip (.exit 0)) (.seq (.block 1 (.seq (.reg f49_r4) (.seq (.reg f49_r5) (.block 2 (.loop f49_l0))))) (.reg f49_r10))))
noncomputable def f49_r11 : List EOper := [⟨some (.ofNat 25), none, .ldn 49 (.t (.ofNat 5))⟩, ⟨some (.ofNat 26), none, .ldn 49 (.t (.ofNat 2))⟩, ⟨some (.ofNat 27), none, .call (.c (.fn (.ofNat 81) [])) [(.t (.ofNat 25)), (.t (.ofNat 26))]⟩, ⟨none, none, .st 49 (.t (.ofNat 4)) (.t (.ofNat 27))⟩]
noncomputable def f49_c : EC := (.seq (.reg f49_r0) (.seq (.reg f49_r1) (.seq (.seq (.reg f49_r2) (.block 0 (.loop f49_l1))) (.seq (.reg f49_r11) .ret))))
noncomputable def f49 : EF := ⟨28, [.celln (.ofNat 4) 49], f49_c, none⟩
theorem f49_rs : f49.rs = [.celln (.ofNat 4) 49] := of_eq_true (eq_self _)
section
variable {fs : T EF} {h h' : H}
structure Nat2 (fs : T EF) : Prop extends Nat1 fs where
  n70 : ∀ L h P, L.length = 49 → CallP fs (.fn (K.ofNat 70) []) [rV L] h P = P (rV (turnR L)) h
  n81 : ∀ L M h P, L.length = 49 → M.length = 49 → CallP fs (.fn (K.ofNat 81) []) [rV L, rV M] h P = P (rV (woR L M)) h
  n85 : ∀ L x h P, L.length = 49 → CallP fs (.fn (K.ofNat 85) []) [rV L, pV x] h P = P (.b (hasR L x)) h
  c84 : fs.get (K.ofNat 84) = some f84
  c101 : fs.get (K.ofNat 101) = some f101
  c69 : fs.get (K.ofNat 69) = some f69
  c71 : fs.get (K.ofNat 71) = some f71
theorem fill_c {fr : Fr} {z : List V} {o n : Nat} {x : EO} {l : List (Nat × Nat × EO)} : fillE fr z ((o, n, x) :: l) = oGet (cellsN n (ev fr x)) none fun cs => fillE fr (setMany z o cs) l := of_eq_true (eq_self _)
theorem set98a {L : List Bool} (hL : L.length = 49) : setMany (List.replicate 98 (.b false)) 0 (L.map V.b) = L.map V.b ++ List.replicate 49 (.b false) := by
  rw [setMany_eq _ _ _ (by simp [hL])]; simp [hL]
theorem set98b {L M : List Bool} (hL : L.length = 49) (hM : M.length = 49) : setMany (L.map V.b ++ List.replicate 49 (.b false)) 49 (M.map V.b) = L.map V.b ++ M.map V.b := by
  have e49 : (L.map V.b).length = 49 := by simp [hL]
  have e1 : (L.map V.b ++ List.replicate 49 (V.b false)).take 49 = L.map V.b := by rw [← e49]; exact List.take_left
  rw [setMany_eq _ _ _ (by simp [hL, hM]), e1, List.drop_of_length_le (by simp [hL, hM]), List.append_nil]
theorem beqL_b {L : List Bool} : beqL (L.map V.b) (L.map V.b) = true := by
  induction L with
  | nil => rfl
  | cons x L ih =>
    show (beq1 (.b x) (.b x) && beqL (L.map V.b) (L.map V.b)) = true
    rw [ih, Bool.and_true]
    show (x == x) = true
    simp
theorem beq_rV {L : List Bool} : beqV (rV L) (rV L) = true := beqL_b
theorem keyEq_rel2 {L M : List Bool} (hL : L.length = 49) (hM : M.length = 49) : keyEq (.many (List.replicate 49 none)) (rV L) (rV M) = some (decide (L = M)) := by
  have key : ∀ (n : Nat) (L M : List Bool), L.length = n → M.length = n → eqK (List.replicate n none) (L.map V.b) (M.map V.b) = some (decide (L = M)) := by
    intro n
    induction n with
    | zero =>
      intro L M h1 h2
      rw [List.length_eq_zero_iff.1 h1, List.length_eq_zero_iff.1 h2]; rfl
    | succ n ih =>
      intro L M h1 h2
      cases L with
      | nil => simp at h1
      | cons x L =>
        cases M with
        | nil => simp at h2
        | cons y M =>
          show oGet (some (x == y)) none (fun r => oGet (eqK (List.replicate n none) (L.map V.b) (M.map V.b)) none fun s => some (r && s)) = _
          rw [ih L M (by simpa using h1) (by simpa using h2)]
          show some ((x == y) && decide (L = M)) = _
          congr 1
          by_cases e : x = y
          · subst e; simp
          · simp [e]
  exact key 49 L M hL hM
/-- The graph of some pairs. -/
def gR (L : List (Int × Int)) : List Bool := jnR [relR L, turnR (relR L)]
theorem gR_len {L : List (Int × Int)} : (gR L).length = 49 := by unfold gR jnR; exact rl_len
theorem f48_ret {v : V} {L : List (Int × Int)} (k : Nat2 fs) (hv : Srp h v L) (hn : Nd L) (hb : L.length ≤ 1000000) (hc : HC h) : Ret fs f48 [v] h fun r h' => r = rV (gR L) ∧ Grow h.nx.nat h h' := by
  apply ret_of rfl
  show W fs none f48_c _ _ _
  unfold f48_c
  have n1 := nx_new h (.cells 49 (List.replicate 49 (.b false)))
  have gr1 : Grow h.nx.nat h (h.new (.cells 49 (List.replicate 49 (.b false)))) := Grow.new (Nat.le_refl _) _
  have e1 : (h.new (.cells 49 (List.replicate 49 (.b false)))).get h.nx = rC (rl fun _ _ => false) := by rw [rl_false]; exact get_new_same
  simp (disch := omega) only [f48_r0, f48_r1, w_reg, w_seq, seqK_n, x_nil, x_mv, x_alloc, x_call, ev_t, ev_c, evs_nil, evs_cons, getV_some, putD_some, frame_1, getK_set, Nat.reduceEqDiff, ↓reduceIte]
  generalize h.new (.cells 49 (List.replicate 49 (.b false))) = h1 at *
  have hc1 := gr1.hc hc
  refine (callP_0 (ef := f71) k.c71 rfl (f71_ret (hv.grow hc gr1) hn hb hc1)).mono ?_
  rintro r h2 ⟨rfl, gr2⟩
  have hR : (relR L).length = 49 := rl_len
  have hT : (turnR (relR L)).length = 49 := rl_len
  have n3 := nx_new h2 (.cells 49 (List.replicate 49 (.b false)))
  have s3 := rC_stn hR rl_len (M := rl fun _ _ => false) (h := h2.new (.cells 49 (List.replicate 49 (.b false)))) (id := h2.nx) (by rw [rl_false]; exact get_new_same)
  have gr3 : Grow h2.nx.nat h2 ((h2.new (.cells 49 (List.replicate 49 (.b false)))).put h2.nx (rC (relR L))) := (Grow.new (Nat.le_refl _) _).trans (Grow.put (Nat.le_refl _) (by omega) _)
  have n3' : ((h2.new (.cells 49 (List.replicate 49 (.b false)))).put h2.nx (rC (relR L))).nx.nat = h2.nx.nat + 1 := n3
  have e3 : ((h2.new (.cells 49 (List.replicate 49 (.b false)))).put h2.nx (rC (relR L))).get h2.nx = rC (relR L) := get_put_same
  have l3 := rC_ldn hR e3
  simp (disch := omega) only [w_draw, w_seq, seqK_n, x_nil, x_alloc, x_st, kx, rvP_ok, ev_t, getV_some, putD_some, putD_none, getK_set, Nat.reduceEqDiff, ↓reduceIte, s3]
  generalize (h2.new (.cells 49 (List.replicate 49 (.b false)))).put h2.nx (rC (relR L)) = h3 at *
  have gA : Grow h.nx.nat h h3 := gr1.trans ((gr2.low (by omega)).trans (gr3.low (by have := gr2.nx; omega)))
  have hc3 := gA.hc hc
  have e1' : h3.get h.nx = rC (rl fun _ _ => false) := (gr3.old _ (by have := gr2.nx; omega)).trans ((gr2.old _ (by omega)).trans e1)
  have c1 := rC_cells hR
  have c2 := rC_cells hT
  simp (disch := omega) only [f48_r2, true_and, x_nil, x_call, kx, kg, xg_nil, xg_ldn, xg_bslice, xd_cons, fresh_nil, stK_s, stay_nil, stay_cons, rvP_ok, ev_t, ev_c, evs_nil, evs_cons, getV_some, putD_some, oGet_s, Option.some.injEq, exists_eq_left', getK_set, Nat.reduceEqDiff, ↓reduceIte, stay_ldn, fill_0, l3, k.n70 _ _ _ hR, fill_c, c1, c2, set98a hR, set98b hR hT, hc3.dead]
  refine ⟨fresh_one (n := 2) (sz := 49) (by simp (disch := omega) only [getK_set, ↓reduceIte]), ?_⟩
  have gr4 : Grow h3.nx.nat h3 (h3.new (.cells (2 * 49) ((relR L).map V.b ++ (turnR (relR L)).map V.b))) := Grow.new (Nat.le_refl _) _
  have n4 := nx_new h3 (.cells (2 * 49) ((relR L).map V.b ++ (turnR (relR L)).map V.b))
  have hr4 := Rs.two (h := h3) hR hT
  have l4 := rC_ldn hR ((gr4.old h2.nx (by omega)).trans e3)
  have hc4 := gr4.hc hc3
  have e1'' := (gr4.old h.nx (by have := gr2.nx; omega)).trans e1'
  simp (disch := omega) only [true_and, again_ok, l4, beq_rV, and_self]
  generalize h3.new (.cells (2 * 49) ((relR L).map V.b ++ (turnR (relR L)).map V.b)) = h4 at *
  have hall : ∀ x ∈ [relR L, turnR (relR L)], x.length = 49 := fun x hx => by
    simp only [List.mem_cons, List.not_mem_nil, or_false] at hx
    rcases hx with rfl | rfl
    · exact hR
    · exact hT
  refine (callP_0 (ef := f69) k.c69 rfl (f69_ret k.c84 k.c101 hr4 hall (by simp) hc4)).mono ?_
  rintro r h5 ⟨rfl, gr5⟩
  have hG : (gR L).length = 49 := gR_len
  have s5 := rC_stn hG rl_len (M := rl fun _ _ => false) ((gr5.old h.nx (by have := gr2.nx; omega)).trans e1'')
  have hr5 : readP (h5.put h.nx (rC (gR L))) (.p h.nx 0) (many? 49) = some (rV (gR L)) := rC_read hG get_put_same
  rw [show jnR [relR L, turnR (relR L)] = gR L from rfl]
  simp (disch := omega) only [f48_rs, w_ret, seqK_n, true_and, retK_r, x_nil, x_st, kx, xg_nil, xd_cons, fresh_nil, stK_n, stK_s, stay_nil, rvP_ok, ev_t, getV_some, putD_some, putD_none, oGet_s, readRs_nil, readRs_n, retV_1, Option.some.injEq, exists_eq_left', getK_set, Nat.reduceEqDiff, ↓reduceIte, s5, hr5]
  have b1 := gA.nx; have b4 := gr4.nx; have b5 := gr5.nx; have b2 := gr2.nx
  exact (gA.trans ((gr4.low b1).trans (gr5.low (by omega)))).trans (Grow.put (k := h.nx) (Nat.le_refl _) (by omega) _)
def cvB (L M : List Bool) : Bool := decide (jnR [L, M] = L)
theorem cvB_iff {L M : List Bool} (hL : L.length = 49) : cvB L M = true ↔ ∀ a b, rat M a b = true → rat L a b = true := by
  unfold cvB
  rw [decide_eq_true_eq]
  have e : ∀ a b, rat (jnR [L, M]) a b = (rat L a b || rat M a b) := fun a b => by
    unfold jnR
    rw [rat_rl]
    cases h : (rat L a b || rat M a b) with
    | false => simp [h]
    | true =>
      have : a < 7 ∧ b < 7 := by
        rcases Bool.or_eq_true _ _ ▸ h with h | h
        · exact rat_lt h
        · exact rat_lt h
      simp [this.1, this.2, h]
  constructor
  · intro h a b hM
    have := e a b
    rw [h, hM] at this
    simpa using this
  · intro h
    refine rel_ext rl_len hL fun a b _ _ => ?_
    rw [e]
    cases hm : rat M a b with
    | false => simp
    | true => rw [h a b hm]; rfl
theorem f91_ret {L M : List Bool} (k : Nat2 fs) (hL : L.length = 49) (hM : M.length = 49) (hc : HC h) : Ret fs f91 [rV L, rV M] h fun r _ => r = .b (cvB L M) := by
  apply ret_of rfl
  show W fs none f91_c _ _ _
  unfold f91_c
  have c1 := rC_cells hL
  have c2 := rC_cells hM
  have n1 := nx_new h (.cells 49 (L.map V.b))
  have gr1 : Grow h.nx.nat h (h.new (.cells 49 (L.map V.b))) := Grow.new (Nat.le_refl _) _
  have e1 : (h.new (.cells 49 (L.map V.b))).get h.nx = rC L := get_new_same
  have n2 := nx_new (h.new (.cells 49 (L.map V.b))) (.cells 49 (M.map V.b))
  have gr2 : Grow (h.new (.cells 49 (L.map V.b))).nx.nat (h.new (.cells 49 (L.map V.b))) ((h.new (.cells 49 (L.map V.b))).new (.cells 49 (M.map V.b))) := Grow.new (Nat.le_refl _) _
  have e2 : ((h.new (.cells 49 (L.map V.b))).new (.cells 49 (M.map V.b))).get (h.new (.cells 49 (L.map V.b))).nx = rC M := get_new_same
  simp (disch := omega) only [f91_r0, w_reg, w_draw, w_seq, seqK_n, x_nil, x_as, x_box, kx, rvP_ok, ev_t, ev_c, getV_some, putD_some, oGet_s, frame_2, getK_set, Nat.reduceEqDiff, ↓reduceIte, c1, c2]
  generalize h.new (.cells 49 (L.map V.b)) = h1 at *
  generalize h1.new (.cells 49 (M.map V.b)) = h2 at *
  have hc2 := gr2.hc (gr1.hc hc)
  have e1' := (gr2.old h.nx (by omega)).trans e1
  have l1 := rC_ldn hL e1'
  have l2 := rC_ldn hM e2
  have hr3 := Rs.two (h := h2) hL hM
  have gr3 : Grow h2.nx.nat h2 (h2.new (.cells (2 * 49) (L.map V.b ++ M.map V.b))) := Grow.new (Nat.le_refl _) _
  have l3 := rC_ldn hL ((gr3.old h.nx (by omega)).trans e1')
  have hc3 := gr3.hc hc2
  have n3 := nx_new h2 (.cells (2 * 49) (L.map V.b ++ M.map V.b))
  simp (disch := omega) only [f91_r1, true_and, x_call, kg, xg_nil, xg_ldn, xg_bslice, xd_cons, stK_s, stay_nil, rvP_ok, ev_t, ev_c, evs_nil, evs_cons, getV_some, putD_some, oGet_s, Option.some.injEq, exists_eq_left', getK_set, Nat.reduceEqDiff, ↓reduceIte, fill_0, l1, l2, l3, fill_c, c1, c2, set98a hL, set98b hL hM, hc2.dead]
  refine ⟨fresh_one (n := 2) (sz := 49) (by simp (disch := omega) only [getK_set, Nat.reduceEqDiff, ↓reduceIte]), ?_⟩
  generalize h2.new (.cells (2 * 49) (L.map V.b ++ M.map V.b)) = h3 at *
  have hall : ∀ x ∈ [L, M], x.length = 49 := fun x hx => by
    simp only [List.mem_cons, List.not_mem_nil, or_false] at hx
    rcases hx with rfl | rfl
    · exact hL
    · exact hM
  refine (callP_0 (ef := f69) k.c69 rfl (f69_ret k.c84 k.c101 hr3 hall (by simp) hc3)).mono ?_
  rintro r h5 ⟨rfl, gr5⟩
  have l5 := rC_ldn hL ((gr5.old h.nx (by omega)).trans ((gr3.old h.nx (by omega)).trans e1'))
  have hq := keyEq_rel2 (L := jnR [L, M]) (M := L) rl_len hL
  simp (disch := omega) only [f91_rs, w_ret, seqK_n, true_and, retK_r, x_nil, x_as, kx, kg, xg_nil, xg_eqk, xd_cons, fresh_nil, stK_n, stK_s, stay_nil, stay_cons, again_ok, rvP_ok, okv_some, ev_t, getV_some, putD_some, oGet_s, readRs_nil, readRs_t, retV_1, Option.some.injEq, exists_eq_left', getK_set, Nat.reduceEqDiff, ↓reduceIte, stay_ldn, l5, beq_rV, hq, cond_false]
  rfl
/-- The others, among n nodes. -/
def otF (n : Nat) (i : Nat) (a b : Nat) : Bool := decide (a < i ∧ b < n) && decide (a ≠ b)
def otG (n : Nat) (i k : Nat) (a b : Nat) : Bool := decide ((a < i ∧ b < n) ∨ (a = i ∧ b < k)) && decide (a ≠ b)
def otR (n : Nat) (L : List Bool) : List Bool := woR (rl fun a b => decide (a < n ∧ b < n) && decide (a ≠ b)) L
theorem otR_len {n : Nat} {L : List Bool} : (otR n L).length = 49 := by unfold otR woR; exact rl_len
def f49_I (h0 : H) (id2 id4 id5 : K) (n : Nat) (i : Nat) (fr : Fr) (h1 : H) : Prop := i ≤ n ∧ Kp id5 h0 h1 ∧ h1.get id5 = rC (rl (otF n i)) ∧ fr.get (K.ofNat 1) = some (.i .i64 (n : Int)) ∧ fr.get (K.ofNat 2) = some (.p id2 0) ∧ fr.get (K.ofNat 4) = some (.p id4 0) ∧ fr.get (K.ofNat 5) = some (.p id5 0) ∧ fr.get (K.ofNat 8) = some (.i .i64 (n : Int)) ∧ fr.get (K.ofNat 9) = some (.i .i64 (i : Int))
def f49_J (h0 : H) (id2 id4 id5 : K) (n : Nat) (i : Nat) (k : Nat) (fr : Fr) (h1 : H) : Prop := k ≤ n ∧ Kp id5 h0 h1 ∧ h1.get id5 = rC (rl (otG n i k)) ∧ fr.get (K.ofNat 1) = some (.i .i64 (n : Int)) ∧ fr.get (K.ofNat 2) = some (.p id2 0) ∧ fr.get (K.ofNat 4) = some (.p id4 0) ∧ fr.get (K.ofNat 5) = some (.p id5 0) ∧ fr.get (K.ofNat 6) = some (.i .i64 (i : Int)) ∧ fr.get (K.ofNat 8) = some (.i .i64 (n : Int)) ∧ fr.get (K.ofNat 9) = some (.i .i64 (i : Int)) ∧ fr.get (K.ofNat 12) = some (.i .i64 (n : Int)) ∧ fr.get (K.ofNat 13) = some (.i .i64 (k : Int))
theorem f49_ret {L : List Bool} {n : Nat} (k : Nat2 fs) (hL : L.length = 49) (hn : n ≤ 7) (hc : HC h) : Ret fs f49 [rV L, .i .i64 (n : Int)] h fun r _ => r = rV (otR n L) := by
  apply ret_of rfl
  show W fs none f49_c _ _ _
  unfold f49_c
  have c1 := rC_cells hL
  have n1 := nx_new h (.cells 49 (L.map V.b))
  have gr1 : Grow h.nx.nat h (h.new (.cells 49 (L.map V.b))) := Grow.new (Nat.le_refl _) _
  have e1 : (h.new (.cells 49 (L.map V.b))).get h.nx = rC L := get_new_same
  simp (disch := omega) only [f49_r0, w_reg, w_seq, seqK_n, x_nil, x_alloc, x_box, kx, rvP_ok, ev_t, getV_some, putD_some, oGet_s, frame_2, getK_set, Nat.reduceEqDiff, ↓reduceIte, c1]
  generalize h.new (.cells 49 (L.map V.b)) = h1 at *
  have n2 := nx_new h1 (.cells 49 (List.replicate 49 (.b false)))
  have gr2 : Grow h1.nx.nat h1 (h1.new (.cells 49 (List.replicate 49 (.b false)))) := Grow.new (Nat.le_refl _) _
  have e2 : (h1.new (.cells 49 (List.replicate 49 (.b false)))).get h1.nx = rC (rl fun _ _ => false) := by rw [rl_false]; exact get_new_same
  generalize h1.new (.cells 49 (List.replicate 49 (.b false))) = h2 at *
  have n3 := nx_new h2 (.cells 49 (List.replicate 49 (.b false)))
  have gr3 : Grow h2.nx.nat h2 (h2.new (.cells 49 (List.replicate 49 (.b false)))) := Grow.new (Nat.le_refl _) _
  have e3 : (h2.new (.cells 49 (List.replicate 49 (.b false)))).get h2.nx = rC (rl fun _ _ => false) := by rw [rl_false]; exact get_new_same
  simp (disch := omega) only [f49_r1, f49_r2, w_reg, w_seq, w_block, seqK_n, x_nil, x_mv, x_alloc, ev_t, ev_c, getV_some, putD_some, of0, getK_set, Nat.reduceEqDiff, ↓reduceIte]
  generalize h2.new (.cells 49 (List.replicate 49 (.b false))) = h3 at *
  have hc3 := gr3.hc (gr2.hc (gr1.hc hc))
  have e1' := (gr3.old h.nx (by omega)).trans ((gr2.old h.nx (by omega)).trans e1)
  have e2' := (gr3.old h1.nx (by omega)).trans e2
  have eF0 : rl (fun _ _ => false) = rl (otF n 0) := rl_congr fun a b _ _ => by simp [otF]
  refine W_loop (f49_I h3 h.nx h1.nx h2.nx n) (fun i => n - i) ?_ 0 ⟨by omega, Kp.refl hc3, by rw [← eF0]; exact e3, by simp (disch := omega) only [getK_set, Nat.reduceEqDiff, ↓reduceIte, and_self, Int.natCast_zero]⟩
  rintro i fr h4 ⟨hi, hk, hB, g1, g2, g4, g5, g8, g9⟩
  have hkn := hk.nx
  unfold f49_l1
  by_cases hlt : i < n
  · have d0 : decide ((i : Int) < (n : Int)) = true := decide_eq_true (by omega)
    simp (disch := omega) only [f49_r3, f49_r4, f49_r5, w_skip, w_reg, w_seq, w_cond, w_block, seqK_n, ckB_b, cbB_b, true_and, x_nil, x_mv, x_as, x_bin, kx, rvP_ok, okv_some, ev_t, ev_c, getV_some, putD_some, bin_lss, of0, getK_set, Nat.reduceEqDiff, ↓reduceIte, g1, g8, g9, d0]
    have eG0 : rl (otF n i) = rl (otG n i 0) := rl_congr fun a b _ _ => by
      unfold otF otG
      congr 1
      exact decide_eq_decide.2 ⟨.inl, fun h => h.resolve_right (fun h => by omega)⟩
    rw [eG0] at hB
    refine W_loop (f49_J h3 h.nx h1.nx h2.nx n i) (fun k => n - k) ?_ 0 ⟨by omega, hk, hB, by simp (disch := omega) only [getK_set, Nat.reduceEqDiff, ↓reduceIte, g1, g2, g4, g5, g8, g9, and_self, Int.natCast_zero]⟩
    clear hB hk g1 g2 g4 g5 g8 g9 fr hkn
    rintro j fr h5 ⟨hj, hk, hB, g1, g2, g4, g5, g6, g8, g9, g12, g13⟩
    have hkn := hk.nx
    unfold f49_l0
    by_cases hlt2 : j < n
    · have d1 : decide ((j : Int) < (n : Int)) = true := decide_eq_true (by omega)
      have hs := rC_st (v := decide ((i : Int) ≠ (j : Int))) (a := i) (b := j) (by omega) (by omega) hB
      have eS : rl (fun x y => if x = i ∧ y = j then decide ((i : Int) ≠ (j : Int)) else otG n i j x y) = rl (otG n i (j + 1)) := rl_congr fun a b _ _ => by
        unfold otG
        by_cases e : a = i ∧ b = j
        · rw [if_pos e, e.1, e.2, decide_eq_true (show (i < i ∧ j < n) ∨ (i = i ∧ j < j + 1) from .inr ⟨rfl, by omega⟩), Bool.true_and]
          exact decide_eq_decide.2 (by omega)
        · rw [if_neg e]
          congr 1
          exact decide_eq_decide.2 ⟨fun h => h.imp id (fun h => ⟨h.1, by omega⟩), fun h => h.imp id (fun h => ⟨h.1, by have : b ≠ j := fun e2 => e ⟨h.1, e2⟩; omega⟩)⟩
      rw [eS] at hs
      simp (disch := omega) only [f49_r6, f49_r7, f49_r8, f49_r9, w_skip, w_reg, w_seq, w_cond, w_block, seqK_n, atK_n, loopK_n, ckB_b, cbB_b, true_and, x_nil, x_mv, x_as, x_st, x_bin, x_iadr, kx, rvP_ok, okv_some, ev_t, ev_c, getV_some, putD_some, putD_none, bin_add, bin_neq, bin_lss, onP_p, idx_n, of1, getK_set, Nat.reduceEqDiff, ↓reduceIte, g5, g6, g12, g13, d1, hs, fw64]
      exact ⟨j + 1, by omega, by omega, hk.put (by omega) _, get_put_same, by simp (disch := omega) only [getK_set, Nat.reduceEqDiff, ↓reduceIte, g1, g2, g4, g5, g6, g8, g9, g12, and_self, Int.natCast_add, Int.natCast_one]⟩
    · have d1 : decide ((j : Int) < (n : Int)) = false := decide_eq_false (by omega)
      have ej : j = n := by omega
      have eE : rl (otG n i j) = rl (otF n (i + 1)) := rl_congr fun a b _ _ => by
        unfold otF otG
        congr 1
        exact decide_eq_decide.2 (by omega)
      rw [eE] at hB
      simp (disch := omega) only [f49_r6, f49_r10, w_reg, w_seq, w_cond, w_exit, seqK_n, seqK_e, atK_n, atK_e, loopK_n, loopK_e, ckB_b, cbB_b, true_and, x_nil, x_mv, x_bin, kx, rvP_ok, okv_some, ev_t, ev_c, getV_some, putD_some, bin_add, bin_lss, of1, getK_set, Nat.reduceEqDiff, ↓reduceIte, Bool.false_eq_true, g9, g12, g13, d1, fw64]
      exact ⟨i + 1, by omega, by omega, hk, hB, by simp (disch := omega) only [getK_set, Nat.reduceEqDiff, ↓reduceIte, g1, g2, g4, g5, g8, and_self, Int.natCast_add, Int.natCast_one]⟩
  · have d0 : decide ((i : Int) < (n : Int)) = false := decide_eq_false (by omega)
    have ei : i = n := by omega
    subst ei
    have hF : (rl (otF i i)).length = 49 := rl_len
    have l3 := rC_ldn hF hB
    have l4 := rC_ldn hL ((hk.old h.nx (by omega) (kNe (by omega))).trans e1')
    have hO : (otR i L).length = 49 := otR_len
    have hs5 := rC_stn hO rl_len ((hk.old h1.nx (by omega) (kNe (by omega))).trans e2')
    have hr5 : readP (h4.put h1.nx (rC (otR i L))) (.p h1.nx 0) (many? 49) = some (rV (otR i L)) := rC_read hO get_put_same
    have hw : woR (rl (otF i i)) L = otR i L := rfl
    simp (disch := omega) only [f49_r3, f49_r11, f49_rs, w_reg, w_seq, w_cond, w_exit, w_ret, seqK_n, seqK_e, atK_e, loopK_e, ckB_b, cbB_b, true_and, retK_r, x_nil, x_ldn, x_st, x_bin, x_call, kx, rvP_ok, okv_some, ev_t, ev_c, evs_nil, evs_cons, getV_some, putD_some, putD_none, bin_lss, oGet_s, readRs_nil, readRs_n, retV_1, Option.some.injEq, exists_eq_left', getK_set, Nat.reduceEqDiff, ↓reduceIte, Bool.false_eq_true, g2, g4, g5, g8, g9, d0, l3, l4, k.n81 _ _ _ _ hF hL, hw, hs5, hr5]
end
end Go.Ev
