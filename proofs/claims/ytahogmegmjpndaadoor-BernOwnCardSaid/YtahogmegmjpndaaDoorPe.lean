/-
  Slices of pairs: those that came in, those that are only read., and what follows.
-/
import Derived.Test.YtahogmegmjpndaaDoorPd
import Derived.Test.YtahogmegmjpndaaDoorPa
import Derived.Test.YtahogmegmjpndaaDoorPb
import Derived.Test.YtahogmegmjpndaaDoorPc
namespace Go.Ev
open Go Go.RowKit Go.ChangeShapes Go.WideShapes Go.ChangeAt
def qE (x : Int × Int) : List V := [.i .i64 x.1, .i .i64 x.2]
theorem qE_len : ∀ x, (qE x).length = 2 := fun _ => rfl
theorem flat_drop {α : Type} {k : Nat} {e : α → List V} (he : ∀ x, (e x).length = k) : ∀ (L : List α) (i : Nat) (hi : i < L.length), ((L.flatMap e).drop (i * k)).take k = e L[i]
  | [], i, hi => absurd hi (Nat.not_lt_zero _)
  | x :: L, 0, _ => by rw [List.flatMap_cons, Nat.zero_mul, List.drop_zero, ← he x, List.take_left]; rfl
  | x :: L, i + 1, hi => by
    rw [List.flatMap_cons, show (i + 1) * k = (e x).length + i * k by rw [he, Nat.add_mul]; omega, List.drop_length_add_append, flat_drop he L i (by simpa using hi)]; rfl
def Srp (h : H) (v : V) (L : List (Int × Int)) : Prop := Srk 2 h v L.length (L.flatMap qE)
section
variable {h h' : H} {v : V} {L : List (Int × Int)}
theorem Srp.len (hs : Srp h v L) (h1 : H) : lenV v h1 = .ok (.i .i64 (L.length : Int)) h1 := by
  rcases hs with ⟨rfl, h0, _⟩ | ⟨id, off, m, cs, rfl, _⟩
  · rw [h0]; rfl
  · rfl
theorem Srp.grow (hs : Srp h v L) (hc : HC h) (hg : Grow h.nx.nat h h') : Srp h' v L := Srk.grow hs hc hg
theorem loadn_r {h : H} {id : K} {m n off : Nat} {cs : List V} (hb : h.get id = .cells m cs ∨ h.get id = .rom m cs) (hm : off + n ≤ m) : loadV h (.p id off) (many? n) = .ok (.agg (takeN n (dropN off cs))) h := by
  show okv ((h.get id).onC none fun m cs => many? n cs m off) h = _
  have e : many? n cs m off = some (.agg (takeN n (dropN off cs))) := by
    show (bif Nat.ble (off + n) m then some _ else none) = _
    rw [Nat.ble_eq_true_of_le hm]; rfl
  rcases hb with hb | hb <;> rw [hb] <;> show okv (many? n cs m off) h = _ <;> rw [e] <;> rfl
theorem Srp.at2 (hs : Srp h v L) {i : Nat} (hi : i < L.length) : ∃ id q, (∀ k h1, iadsV 2 v (.i k (i : Int)) h1 = .ok (.p id q) h1) ∧ loadV h (.p id q) (many? 2) = .ok (.agg [.i .i64 L[i].1, .i .i64 L[i].2]) h ∧ loadV h (.p id (q + 0 * 1)) one? = .ok (.i .i64 L[i].1) h ∧ loadV h (.p id (q + 1 * 1)) one? = .ok (.i .i64 L[i].2) h := by
  rcases hs with ⟨rfl, h0, _⟩ | ⟨id, off, m, cs, rfl, hb, hl, hm, hx⟩
  · omega
  · have h1 := flat_drop qE_len L i hi
    rw [← hx, List.drop_take, List.take_take, List.drop_drop, Nat.min_eq_left (by omega)] at h1
    refine ⟨id, off + i * 2, fun k h1 => ?_, ?_, ?_, ?_⟩
    · rw [iads_sl, idx_n hi]
    · rw [loadn_r hb (by omega), takeN_eq, dropN_eq, h1]; rfl
    · refine load_r hb ?_
      rw [nth_eq]
      have := congrArg (fun l => l[0]?) h1
      simp only [List.getElem?_take, List.getElem?_drop] at this
      simpa [qE] using this
    · refine load_r hb ?_
      rw [nth_eq]
      have := congrArg (fun l => l[1]?) h1
      simp only [List.getElem?_take, List.getElem?_drop] at this
      simpa [qE] using this
end
theorem inR_of {z : Int} (h : (Lit.int .i64 z).wf = true) : inR .i64 z = true := by
  have h : (decide (IntKind.min .i64 ≤ z) && decide (z ≤ IntKind.max .i64)) = true := h
  rw [Bool.and_eq_true, decide_eq_true_eq, decide_eq_true_eq] at h
  have h1 : -9223372036854775808 ≤ z := h.1
  have h2 : z ≤ 9223372036854775807 := h.2
  cases z with
  | ofNat m => exact Nat.ble_eq_true_of_le (by show m ≤ 9223372036854775807; have : Int.ofNat m = (m : Int) := rfl; omega)
  | negSucc m => exact Nat.ble_eq_true_of_le (by show m + 1 ≤ 9223372036854775808; omega)
theorem trod_iw {H : Type} {enc : TypeId × Value → H} {P : Program} {w : World} {base : Nat} {spare : Nat → Bool} {held : Bool} {e : TypeId} {fuel : Nat} {c : Value} {x : DataW H × List MemPlace} (he : P.underlying e = some (.int .i64))
    (h : DataW.trod enc P w base spare held fuel e [c] = some x) : ∃ z, c = .int .i64 z ∧ inR .i64 z = true := by
  cases fuel with
  | zero => simp [DataW.trod] at h
  | succ n =>
    rw [DataW.trod_step] at h
    unfold DataW.trodStep at h
    simp only [he] at h
    cases c <;> simp only [reduceCtorEq] at h
    rename_i k' z
    split at h
    · rename_i hk; exact ⟨z, by rw [hk.1], inR_of hk.2⟩
    · cases h
theorem trod_slArg2w {H : Type} {enc : TypeId × Value → H} {P : Program} {W : World} {base : Nat} {t e i : TypeId} (ht : P.underlying t = some (.slice e)) (he : P.underlying e = some (.array 2 i)) (hi : P.underlying i = some (.int .i64)) (hci : P.cellsOf i = 1) (hce : P.cellsOf e = 2) {v : Value} {d : DataW H} {p ps : List MemPlace}
    (hval : Value.okWide P W .any base t v) (hd : DataW.Trod enc P W 0 (fun _ => true) true t v d p) (hps : ∀ x ∈ p, x ∈ ps) (hnf : W.noneFrozen ps) :
    ∃ len zs, SlArgK 2 W v len zs ∧ (∀ z ∈ zs, inR .i64 z = true) ∧ ∀ W', Below W.heap.size W W' → DataW.Trod enc P W' 0 (fun b => decide (b < W.heap.size)) true t v d p := by
  have back : ∀ W', Below W.heap.size W W' → DataW.Trod enc P W' 0 (fun b => decide (b < W.heap.size)) true t v d p := fun W' hb => trod_slice_frame ht (plain_arr he (plain_int hi)) (by omega) hb hd
  obtain ⟨ao, len0, cap0, rfl⟩ := okWide_slice ht hval
  obtain ⟨fuel, hf⟩ := hd
  have hcells : (Value.slice ao len0 cap0).cells.toList = [.slice ao len0 cap0] := rfl
  rw [hcells] at hf
  rcases DataW.trod_slice ht hf with ⟨hcs, hx⟩ | ⟨a, len, cap, elems, rest, n, rfl, hcs, hx, h0, hl, hm, hlen, hel, hsp, _⟩
  · cases hcs
    exact ⟨0, [], .inl ⟨rfl, rfl, rfl⟩, fun z hz => (by cases hz), back⟩
  · cases hcs
    cases hx
    obtain ⟨hrl, hr⟩ := hsp rfl
    have hspot : a.spot = none := by
      simp only [Value.okWide, ht, Cell.okWide, Cell.ok] at hval
      exact hval.2.2.2.1
    obtain ⟨b, off, sp⟩ := a
    have hspot : sp = none := hspot
    subst hspot
    have el : ∀ j, j < cap0 → ∃ y, (W.cells? 0 ((⟨b, off, none⟩ : Addr).add (j * 2)) 2).bind (DataW.trod enc P W 0 (fun _ => true) true n e) = some y := by
      intro j hj
      rw [hce] at hel hr
      by_cases h1 : j < len0
      · exact ⟨elems[j]'(by omega), by rw [hel j h1, List.getElem?_eq_getElem (by omega)]⟩
      · refine ⟨rest[j - len0]'(by omega), ?_⟩
        have := hr (j - len0) (by omega)
        rw [show len0 + (j - len0) = j by omega] at this
        rw [this, List.getElem?_eq_getElem (by omega)]
    have cell : ∀ j, j < cap0 * 2 → ∃ z, W.cell? ((⟨b, off, none⟩ : Addr).add j) = some (.int .i64 z) ∧ inR .i64 z = true := by
      intro j hj
      obtain ⟨y, hy⟩ := el (j / 2) (by omega)
      obtain ⟨cs, h1, h2⟩ := Option.bind_eq_some_iff.1 hy
      obtain ⟨c0, c1, rfl, q0, q1⟩ := cells2_of h1
      obtain ⟨y0, y1, n', r0, r1⟩ := trod_array2 he hci h2
      obtain ⟨z0, rfl, w0⟩ := trod_iw hi r0
      obtain ⟨z1, rfl, w1⟩ := trod_iw hi r1
      rw [add_lit', add_lit'] at q0 q1
      rcases Nat.mod_two_eq_zero_or_one j with h | h
      · refine ⟨z0, ?_, w0⟩
        rw [add_lit', ← q0]
        have : j = j / 2 * 2 := by omega
        rw [Nat.add_zero, ← this]
      · refine ⟨z1, ?_, w1⟩
        rw [add_lit', ← q1]
        rw [show off + j / 2 * 2 + 1 = off + j by omega]
    refine ⟨len0, (List.range (cap0 * 2)).map fun j => numZ (W.cell? ⟨b, off + j, none⟩), .inr ⟨b, off, cap0, rfl, hl, by simp, fun j hj => ?_, fun j hj => ?_⟩, fun z hz => ?_, back⟩
    · have hj : j < cap0 * 2 := by simpa using hj
      obtain ⟨z, hz, _⟩ := cell j hj
      rw [add_lit'] at hz
      have hz : W.cell? ⟨b, off + j, none⟩ = some (.int .i64 z) := hz
      rw [List.getElem_map, List.getElem_range, hz]; rfl
    · have hj : j < cap0 * 2 := by simpa using hj
      refine hnf b (off + j) (hps _ (List.mem_append_left _ ?_))
      unfold MemPlace.row
      rw [List.mem_map]
      exact ⟨j, by rw [List.mem_range, hce]; omega, rfl⟩
    · obtain ⟨j, hj, rfl⟩ := List.mem_map.1 hz
      obtain ⟨z, hz, hw⟩ := cell j (List.mem_range.1 hj)
      rw [add_lit'] at hz
      have hz : W.cell? ⟨b, off + j, none⟩ = some (.int .i64 z) := hz
      rw [hz]; exact hw
def pairsOf (len : Nat) (zs : List Int) : List (Int × Int) := (List.range len).map fun i => (zs.getD (i * 2) 0, zs.getD (i * 2 + 1) 0)
theorem pairsOf_len {len : Nat} {zs : List Int} : (pairsOf len zs).length = len := by simp [pairsOf]
theorem pairsOf_flat : ∀ (len : Nat) {zs : List Int}, len * 2 ≤ zs.length → (pairsOf len zs).flatMap qE = (zs.take (len * 2)).map iE
  | 0, zs, _ => by simp [pairsOf]
  | len + 1, zs, h => by
    have ih := pairsOf_flat len (zs := zs) (by omega)
    unfold pairsOf at ih ⊢
    rw [List.range_succ, List.map_append, List.flatMap_append, ih, show (len + 1) * 2 = len * 2 + 1 + 1 by omega, List.take_succ_eq_append_getElem (by omega), List.take_succ_eq_append_getElem (by omega), List.map_append, List.map_append, List.append_assoc]
    congr 1
    simp only [List.map_cons, List.map_nil, List.flatMap_cons, List.flatMap_nil, List.append_nil, qE, iE, List.getD, List.getElem?_eq_getElem (show len * 2 < zs.length by omega), List.getElem?_eq_getElem (show len * 2 + 1 < zs.length by omega), Option.getD_some, List.singleton_append]
theorem SlArgK.le {k len : Nat} {W : World} {v : Value} {zs : List Int} (h : SlArgK k W v len zs) : len * k ≤ zs.length := by
  rcases h with ⟨_, rfl, rfl⟩ | ⟨b, off, cap, _, h1, h2, _⟩
  · simp
  · rw [h2]; exact Nat.mul_le_mul_right _ h1
theorem Srk.srp {h : H} {v : V} {len : Nat} {zs : List Int} (hs : Srk 2 h v len ((zs.take (len * 2)).map iE)) (hl : len * 2 ≤ zs.length) : Srp h v (pairsOf len zs) := by
  unfold Srp
  rw [pairsOf_len, pairsOf_flat len hl]; exact hs
theorem Srp.beq {h : H} {v : V} {L : List (Int × Int)} (hs : Srp h v L) : beqV v v = true := by
  rcases hs with ⟨rfl, _⟩ | ⟨id, off, m, cs, rfl, _⟩
  · rfl
  · show (id.beq id && Nat.beq off off && Nat.beq L.length L.length && Nat.beq 2 2) = true
    rw [K.beq_refl, Nat.beq_same, Nat.beq_same]; rfl
/-! ### More rules -/
section
variable {fs : T EF} {fr : Fr} {h : H} {x y z : EO} {k : K}
theorem stay_ldn {n : Nat} : (stays fs goNo fr h ⟨some k, none, .ldn n x⟩ = true) = again (loadV h (ev fr x) (many? n)) (getV (fr.get k)) := chk_again
theorem stay_iadr {n sz : Nat} : (stays fs goNo fr h ⟨some k, none, .iadr n sz x y⟩ = true) = again ((ev fr x).onP fun id off => idxV (ev fr y) n fun m => .ok (.p id (off + m * sz)) h) (getV (fr.get k)) := chk_again
theorem fill_2 {x y : EO} {z1 z2 : V} : fillE fr [z1, z2] [(0, 1, x), (1, 1, y)] = oGet (cellsN 1 (ev fr x)) none fun cs => oGet (cellsN 1 (ev fr y)) none fun ds => some (setMany (setMany [z1, z2] 0 cs) 1 ds) := of_eq_true (eq_self _)
theorem set_2 {z1 z2 a b : V} : setMany (setMany [z1, z2] 0 [a]) 1 [b] = [a, b] := of_eq_true (eq_self _)
theorem beq_2 {a b : Int} : beqV (.agg [.i .i64 a, .i .i64 b]) (.agg [.i .i64 a, .i .i64 b]) = true := by
  show (beq1 (.i .i64 a) (.i .i64 a) && (beq1 (.i .i64 b) (.i .i64 b) && true)) = true
  have h : ∀ n : Int, beq1 (.i .i64 n) (.i .i64 n) = true := fun n => by
    show (IntKind.i64 == IntKind.i64 && ieq n n) = true
    rw [ieq_eq]; simp
  rw [h, h]; rfl
theorem ix2_0 {kk : IntKind} {f : Nat → RV} : idxV (.i kk 0) 2 f = f 0 := of_eq_true (eq_self _)
theorem ix2_1 {kk : IntKind} {f : Nat → RV} : idxV (.i kk 1) 2 f = f 1 := of_eq_true (eq_self _)
theorem of5 : Int.ofNat 5 = 5 := of_eq_true (eq_self _)
theorem of7 : Int.ofNat 7 = 7 := of_eq_true (eq_self _)
theorem of9 : Int.ofNat 9 = 9 := of_eq_true (eq_self _)
theorem of100 : Int.ofNat 100 = 100 := of_eq_true (eq_self _)
end
end Go.Ev
namespace Go.Ev
open Go Go.RowKit
section
variable {fs : T EF}
end
end Go.Ev
namespace Go.Ev
open Go Go.RowKit
section
variable {h h' : H} {v u : V} {L : List (Int × Int)} {b : Nat}
theorem flat_get : ∀ {L : List (Int × Int)} {t : Nat}, (L.flatMap qE)[t]? = (L[t / 2]?).map fun p => if t % 2 = 0 then iE p.1 else iE p.2
  | [], t => by simp
  | x :: L, 0 => rfl
  | x :: L, 1 => rfl
  | x :: L, t + 2 => by
    rw [List.flatMap_cons]
    show (V.i .i64 x.1 :: V.i .i64 x.2 :: L.flatMap qE)[t + 2]? = _
    rw [List.getElem?_cons_succ, List.getElem?_cons_succ, flat_get (L := L) (t := t), show (t + 2) / 2 = t / 2 + 1 by omega, List.getElem?_cons_succ, show (t + 2) % 2 = t % 2 by omega]
theorem set_get {cs : List V} {p : Nat} {a b : V} (hp : p + 2 ≤ cs.length) {q : Nat} : (setMany cs p [a, b])[q]? = if q = p then some a else if q = p + 1 then some b else cs[q]? := by
  rw [setMany_eq _ _ _ (by simpa using hp)]
  rcases Nat.lt_trichotomy q p with h1 | h1 | h1
  · rw [List.append_assoc, List.getElem?_append_left (by simp; omega), List.getElem?_take, if_pos h1, if_neg (by omega), if_neg (by omega)]
  · subst h1
    rw [List.append_assoc, List.getElem?_append_right (by simp; omega), if_pos rfl]; simp
    have : min q cs.length = q := by omega
    rw [this]; simp
  · rw [if_neg (by omega)]
    by_cases h2 : q = p + 1
    · subst h2
      rw [if_pos rfl, List.append_assoc, List.getElem?_append_right (by simp; omega)]; simp
      have : p + 1 - min p cs.length = 1 := by omega
      rw [this]; simp
    · rw [if_neg h2, List.getElem?_append_right (by simp; omega)]
      simp
      rw [show p + 2 + (q - (min p cs.length + 2)) = q by omega]
theorem Sk.st2 (hs : Sk 2 qE h v L) {i : Nat} (hi : i < L.length) {x : Int × Int} (hhc : HC h) :
    ∃ p id m cs', (∀ k h1, iadsV 2 v (.i k (i : Int)) h1 = .ok p h1) ∧ storeV h 2 p (.agg [.i .i64 x.1, .i .i64 x.2]) = .ok undefV (h.put id (.cells m cs')) ∧ Sk 2 qE (h.put id (.cells m cs')) v (L.set i x) ∧ (∃ off n sz, v = .sl id off n sz) ∧ id.nat < h.nx.nat := by
  rcases hs with ⟨rfl, rfl⟩ | ⟨id, off, m, cs, rfl, hb, hl, hm, hx⟩
  · simp at hi
  · have hin : i * 2 + 2 ≤ L.length * 2 := by omega
    refine ⟨.p id (off + i * 2), id, m, setMany cs (off + i * 2) [.i .i64 x.1, .i .i64 x.2], fun k h1 => ?_, ?_, ?_, ⟨off, L.length, 2, rfl⟩, hhc.cells hb⟩
    · rw [iads_sl, idx_n hi]
    · exact store_p hb cells2 (by omega)
    · refine .inr ⟨id, off, m, _, by rw [List.length_set], get_put_same, ?_, by rw [List.length_set]; exact hm, ?_⟩
      · rw [setMany_eq _ _ _ (by simp; omega)]; simp; omega
      · rw [List.length_set]
        apply List.ext_getElem?
        intro t
        rw [List.getElem?_take, flat_get]
        by_cases ht : t < L.length * 2
        · have h0 := congrArg (fun l => l[t]?) hx
          simp only [List.getElem?_take, if_pos ht, List.getElem?_drop, flat_get] at h0
          rw [if_pos ht, List.getElem?_drop, set_get (by omega), List.getElem?_set]
          by_cases e1 : t = i * 2
          · subst e1
            rw [if_pos rfl, show i * 2 / 2 = i by omega, if_pos rfl, if_pos hi]
            simp [iE]
          · by_cases e2 : t = i * 2 + 1
            · subst e2
              rw [if_neg (by omega), if_pos (by omega), show (i * 2 + 1) / 2 = i by omega, if_pos rfl, if_pos hi]
              simp [iE]
            · rw [if_neg (by omega), if_neg (by omega), if_neg (by omega), h0]
        · rw [if_neg ht, List.getElem?_eq_none (by simp; omega)]; rfl
theorem rep_flat {x : Int × Int} : ∀ n, rep (qE x) n = (List.replicate n x).flatMap qE
  | 0 => rfl
  | n + 1 => by
    show cat (qE x) (rep (qE x) n) = _
    rw [cat_eq, rep_flat n, List.replicate_succ, List.flatMap_cons]
theorem mks_p {k : IntKind} {n : Nat} (hn : n ≤ 1000000) : mksV 2 [.i .i64 0, .i .i64 0] h (.i k (n : Int)) = .ok (.sl h.nx 0 n 2) (h.new (.cells (n * 2) (rep (qE (0, 0)) n))) := by
  show (bif Nat.ble n 1000000 then RV.ok (.sl h.nx 0 n 2) (h.new (.cells (n * 2) (rep (qE (0, 0)) n))) else .no) = _
  rw [Nat.ble_eq_true_of_le hn]; rfl
theorem mksp_sl {n : Nat} : Sk 2 qE (h.new (.cells (n * 2) (rep (qE (0, 0)) n))) (.sl h.nx 0 n 2) (List.replicate n (0, 0)) :=
  .inr ⟨h.nx, 0, n * 2, _, by simp, get_new_same, by rw [rep_flat, flat_len qE_len]; simp, by simp, by rw [rep_flat, List.drop_zero, List.take_of_length_le (by rw [flat_len qE_len]; simp)]⟩
/-! ### Slices of slices of pairs -/
def vE (u : V) : V := u
structure Sll (h : H) (v : V) (us : List V) (Ls : List (List (Int × Int))) : Prop where
  len : us.length = Ls.length
  out : Sl vE h v us
  inn : ∀ i (h1 : i < us.length) (h2 : i < Ls.length), Srp h us[i] Ls[i]
  sep : ∀ u ∈ us, ∀ id off n sz, u = .sl id off n sz → NotIn id v
section
variable {us : List V} {Ls : List (List (Int × Int))}
theorem Sll.grow (s : Sll h v us Ls) (hc : HC h) (hg : Grow h.nx.nat h h') : Sll h' v us Ls := ⟨s.len, s.out.grow hc hg, fun i h1 h2 => (s.inn i h1 h2).grow hc hg, s.sep⟩
theorem Srp.old {L : List (Int × Int)} (hs : Srp h v L) (hg : ∀ id off n sz, v = .sl id off n sz → h'.get id = h.get id) : Srp h' v L := by
  rcases hs with hs | ⟨id, off, m, cs, rfl, hb, hx⟩
  · exact .inl hs
  · exact .inr ⟨id, off, m, cs, rfl, by rw [hg _ _ _ _ rfl]; exact hb, hx⟩
end
end
end Go.Ev
namespace Go.Ev
section
variable {h h' : H} {v u : V} {L M : List (Int × Int)}
theorem Srp.appN (hs : Srp h u M) (_ : HC h) (hn : M.length ≤ 16777216) : ∃ v' h', appV 2 h .sn u = .ok v' h' ∧ Sk 2 qE h' v' M ∧ Own h.nx.nat v' ∧ Grow h.nx.nat h h' := by
  have hadd : Go.Ev.addOf 2 h u = some (M.length, M.flatMap qE) := by
    rcases hs with ⟨rfl, h0, h1⟩ | ⟨id, off, m, cs, rfl, hb, hll, hm, hx⟩
    · rw [h1, h0]; rfl
    · show (h.get id).onC none (fun len cs => bif Nat.beq 2 2 && Nat.ble (off + M.length * 2) len then some (M.length, takeN (M.length * 2) (dropN off cs)) else none) = _
      have e0 : (h.get id).onC none (fun len cs => bif Nat.beq 2 2 && Nat.ble (off + M.length * 2) len then some (M.length, takeN (M.length * 2) (dropN off cs)) else none) = (bif Nat.beq 2 2 && Nat.ble (off + M.length * 2) m then some (M.length, takeN (M.length * 2) (dropN off cs)) else none) := by
        rcases hb with hb | hb <;> rw [hb] <;> rfl
      rw [e0, Nat.ble_eq_true_of_le hm, takeN_eq, dropN_eq, hx]; rfl
  unfold appV
  rw [hadd]
  show ∃ v' h', (bif Nat.ble M.length 16777216 then app0 2 h M.length (M.flatMap qE) else RV.no) = .ok v' h' ∧ _
  rw [Nat.ble_eq_true_of_le hn]
  show ∃ v' h', app0 2 h M.length (M.flatMap qE) = .ok v' h' ∧ _
  unfold app0
  by_cases hz : M.length = 0
  · have : M = [] := List.length_eq_zero_iff.1 hz
    subst this
    exact ⟨.sn, h, rfl, Sk.nil, Own.sn, Grow.refl _ _⟩
  · rw [show Nat.beq M.length 0 = false by rw [← Bool.not_eq_true]; intro h; exact hz (Nat.eq_of_beq_eq_true h)]
    exact ⟨_, _, rfl, .inr ⟨h.nx, 0, M.length * 2, M.flatMap qE, rfl, get_new_same, flat_len qE_len M, by omega, by rw [List.drop_zero, List.take_of_length_le (by rw [flat_len qE_len]; omega)]⟩, fun _ _ _ _ h => by cases h; exact Nat.le_refl _, Grow.new (Nat.le_refl _) _⟩
end
end Go.Ev
namespace Go.Ev
open Go Go.RowKit Go.ChangeShapes Go.WideShapes Go.ChangeAt
section
variable {Y : Rig} {ι : Io} {h : H} {W : World}
end
end Go.Ev
namespace Go.Ev
open Go Go.RowKit Go.ChangeShapes Go.WideShapes Go.ChangeAt
end Go.Ev
namespace Go.Ev
open Go Go.RowKit
section
variable {fs : T EF} {fr : Fr} {h : H}
theorem of1000 : Int.ofNat 1000 = 1000 := of_eq_true (eq_self _)
end
theorem slArg_len {P : Program} {W : World} {base : Nat} {t e : TypeId} (ht : P.underlying t = some (.slice e)) {v : Value} {L : List Int} (hval : Value.okWide P W .any base t v) (hs : SlArg W v L) : L.length ≤ 9223372036854775807 := by
  rcases hs with ⟨_, rfl⟩ | ⟨b, off, len, zs, rfl, h1, rfl, _⟩
  · exact Nat.zero_le _
  · simp only [Value.okWide, ht, Cell.okWide, Cell.ok] at hval
    have h2 := hval.2.1
    have h3 : IntKind.i64.max = 9223372036854775807 := rfl
    simp
    omega
end Go.Ev
namespace Go.Ev
open Go Go.RowKit
section
variable {α : Type} {e : α → V} {h h' : H} {w v u : V} {xs us : List V} {Q Ls : List (List α)} {L : List α} {b : Nat}
structure Nr (e : α → V) (h : H) (v : V) (us : List V) (Ls : List (List α)) : Prop where
  len : us.length = Ls.length
  out : Sr vE h v us
  inn : ∀ i (h1 : i < us.length) (h2 : i < Ls.length), Sr e h us[i] Ls[i]
theorem Nr.grow (s : Nr e h v us Ls) (hc : HC h) (hg : Grow h.nx.nat h h') : Nr e h' v us Ls := ⟨s.len, s.out.grow hc hg, fun i h1 h2 => (s.inn i h1 h2).grow hc hg⟩
structure Nw (e : α → V) (h : H) (v : V) (us : List V) (Ls : List (List α)) : Prop where
  len : us.length = Ls.length
  out : Sl vE h v us
  inn : ∀ i (h1 : i < us.length) (h2 : i < Ls.length), Sl e h us[i] Ls[i]
  sep : ∀ u ∈ us, ∀ id off n sz, u = .sl id off n sz → NotIn id v
  dis : ∀ i j (hi : i < us.length) (hj : j < us.length), i ≠ j → ∀ id off n sz, us[i] = .sl id off n sz → NotIn id us[j]
theorem Nw.grow (s : Nw e h v us Ls) (hc : HC h) (hg : Grow h.nx.nat h h') : Nw e h' v us Ls := ⟨s.len, s.out.grow hc hg, fun i h1 h2 => (s.inn i h1 h2).grow hc hg, s.sep, s.dis⟩
end
end Go.Ev
namespace Go.Ev
open Go Go.RowKit
def pZ (x : Int × Int) : V := .agg [.i .i64 x.1, .i .i64 x.2]
def in2 (x : Int × Int) : Prop := inR .i64 x.1 = true ∧ inR .i64 x.2 = true
def entZ (M : List ((Int × Int) × Int)) : List (V × V) := M.map fun e => (pZ e.1, .i .i64 e.2)
def lookZ : List ((Int × Int) × Int) → Int × Int → Option Int
  | [], _ => none
  | e :: M, x => if x = e.1 then some e.2 else lookZ M x
def putZ : List ((Int × Int) × Int) → Int × Int → Int → List ((Int × Int) × Int)
  | [], x, v => [(x, v)]
  | e :: M, x, v => if x = e.1 then (x, v) :: M else e :: putZ M x v
theorem keyEq_z {x y : Int × Int} (hx : in2 x) (hy : in2 y) : keyEq (.many [some .i64, some .i64]) (pZ x) (pZ y) = some (decide (x = y)) := by
  have := keyEq_2 hx.1 hx.2 hy.1 hy.2
  have e : (decide (x.1 = y.1) && decide (x.2 = y.2)) = decide (x = y) := by
    rw [Bool.eq_iff_iff, Bool.and_eq_true, decide_eq_true_eq, decide_eq_true_eq, decide_eq_true_eq]
    exact ⟨fun h => Prod.ext h.1 h.2, fun h => by rw [h]; exact ⟨rfl, rfl⟩⟩
  rw [e] at this
  exact this
theorem upd_z {x : Int × Int} {v : Int} (hx : in2 x) : ∀ (M : List ((Int × Int) × Int)), (∀ e ∈ M, in2 e.1) → updE (.many [some .i64, some .i64]) (pZ x) (.i .i64 v) (entZ M) = some (entZ (putZ M x v))
  | [], _ => by
    show (oGet (keyEq (.many [some .i64, some .i64]) (pZ x) (pZ x)) none fun _ => some [(pZ x, V.i .i64 v)]) = _
    rw [keyEq_z hx hx]; rfl
  | y :: M, hM => by
    have ih := upd_z (v := v) hx M fun z hz => hM z (List.mem_cons_of_mem _ hz)
    show (oGet (keyEq (.many [some .i64, some .i64]) (pZ x) (pZ y.1)) none fun r => bif r then some ((pZ x, .i .i64 v) :: entZ M) else oGet (updE (.many [some .i64, some .i64]) (pZ x) (.i .i64 v) (entZ M)) none fun l => some ((pZ y.1, .i .i64 y.2) :: l)) = _
    rw [keyEq_z hx (hM y (by simp)), ih]
    show (bif decide (x = y.1) then _ else _) = some (entZ (if x = y.1 then (x, v) :: M else y :: putZ M x v))
    by_cases e : x = y.1
    · rw [decide_eq_true e, if_pos e]; rfl
    · rw [decide_eq_false e, if_neg e]; rfl
theorem look_put {x y : Int × Int} {v : Int} : ∀ (M : List ((Int × Int) × Int)), lookZ (putZ M x v) y = if y = x then some v else lookZ M y
  | [] => rfl
  | e :: M => by
    have ih := look_put (x := x) (y := y) (v := v) M
    show lookZ (if x = e.1 then (x, v) :: M else e :: putZ M x v) y = _
    by_cases h : x = e.1
    · rw [if_pos h]
      show (if y = x then some v else lookZ M y) = if y = x then some v else if y = e.1 then some e.2 else lookZ M y
      by_cases h2 : y = x
      · rw [if_pos h2, if_pos h2]
      · rw [if_neg h2, if_neg h2, if_neg (by rw [← h]; exact h2)]
    · rw [if_neg h]
      show (if y = e.1 then some e.2 else lookZ (putZ M x v) y) = if y = x then some v else if y = e.1 then some e.2 else lookZ M y
      rw [ih]
      by_cases h2 : y = e.1
      · rw [if_pos h2, if_pos h2, if_neg (fun h3 => h (h3.symm.trans h2))]
      · rw [if_neg h2, if_neg h2]
theorem in_put {x : Int × Int} {v : Int} (hx : in2 x) : ∀ (M : List ((Int × Int) × Int)), (∀ e ∈ M, in2 e.1) → ∀ e ∈ putZ M x v, in2 e.1
  | [], _, e, he => by rw [List.mem_singleton.1 he]; exact hx
  | y :: M, hM, e, he => by
    unfold putZ at he
    split at he
    · rcases List.mem_cons.1 he with rfl | he
      · exact hx
      · exact hM e (List.mem_cons_of_mem _ he)
    · rcases List.mem_cons.1 he with rfl | he
      · exact hM _ (by simp)
      · exact in_put hx M (fun z hz => hM z (List.mem_cons_of_mem _ hz)) e he
def MapF (h : H) (id : K) (kt : Nat) (f : Int × Int → Option Int) : Prop := ∃ M, h.get id = .map kt (entZ M) ∧ (∀ e ∈ M, in2 e.1) ∧ ∀ x, lookZ M x = f x
theorem MapF.put {h : H} {id : K} {kt : Nat} {f : Int × Int → Option Int} {x : Int × Int} {v : Int} (hm : MapF h id kt f) (hx : in2 x) : ∃ es, mupdV kt (.many [some .i64, some .i64]) h (.m id) (pZ x) (.i .i64 v) = .ok undefV (h.put id (.map kt es)) ∧ MapF (h.put id (.map kt es)) id kt fun y => if y = x then some v else f y := by
  obtain ⟨M, e1, e2, e3⟩ := hm
  refine ⟨entZ (putZ M x v), ?_, putZ M x v, get_put_same, in_put hx M e2, fun y => by rw [look_put, e3]⟩
  show ((h.get id).onM kt fun es => oGet (updE (.many [some .i64, some .i64]) (pZ x) (.i .i64 v) es) RV.no fun es => RV.ok undefV (h.put id (.map kt es))) = _
  rw [e1]
  show (bif Nat.beq kt kt then (oGet (updE (.many [some .i64, some .i64]) (pZ x) (.i .i64 v) (entZ M)) RV.no fun es => RV.ok undefV (h.put id (.map kt es))) else _) = _
  rw [Nat.beq_same, upd_z hx M e2]; rfl
theorem MapF.same {h h' : H} {id : K} {kt : Nat} {f : Int × Int → Option Int} (hm : MapF h id kt f) (e : h'.get id = h.get id) : MapF h' id kt f := by
  obtain ⟨M, e1, e2, e3⟩ := hm
  exact ⟨M, e.trans e1, e2, e3⟩
end Go.Ev
namespace Go.Ev
open Go Go.RowKit
end Go.Ev
namespace Go.Ev
open Go Go.RowKit
section
variable {fs : T EF} {α : Type}
def In (S : K → Prop) (v : V) : Prop := ∀ id off n sz, v = .sl id off n sz → S id
theorem In.notIn {S : K → Prop} {v w : V} (h : In S v) (hw : ∀ id, S id → NotIn id w) : ∀ id off n sz, v = .sl id off n sz → NotIn id w := fun _id _off _n _sz e => hw _ (h _ _ _ _ e)
end
end Go.Ev
namespace Go.Ev
open Go Go.RowKit
noncomputable def oG (n : Nat) (o : EOp) : EOper := ⟨some (K.ofNat n), none, o⟩
noncomputable def tG (n : Nat) : EO := .t (K.ofNat n)
noncomputable def cG (n : Nat) : EO := .c (.i .i64 (.ofNat n))
noncomputable def fG (n : Nat) : EO := .c (.fn (K.ofNat n) [])
noncomputable def gG (n m : Nat) (b : Bool) (o : EOp) : EOper := ⟨some (K.ofNat n), some (K.ofNat m, b), o⟩
theorem oG_e {n : Nat} {o : EOp} : oG n o = ⟨some (K.ofNat n), none, o⟩ := of_eq_true (eq_self _)
theorem cG_e {n : Nat} : cG n = .c (.i .i64 (.ofNat n)) := of_eq_true (eq_self _)
theorem fG_e {n : Nat} : fG n = .c (.fn (K.ofNat n) []) := of_eq_true (eq_self _)
theorem gG_e {n m : Nat} {b : Bool} {o : EOp} : gG n m b o = ⟨some (K.ofNat n), some (K.ofNat m, b), o⟩ := of_eq_true (eq_self _)
theorem tG_e {n : Nat} : tG n = .t (K.ofNat n) := of_eq_true (eq_self _)
theorem bz : type_of% (And.intro @oG_e (And.intro @tG_e (And.intro @gG_e (And.intro @cG_e (And.intro @fG_e (And.intro @w_reg (And.intro @w_seq (And.intro @w_block (And.intro @seqK_n (And.intro @x_nil (And.intro @x_as (And.intro @ev_c (And.intro @putD_some (And.intro @frame_2 (And.intro @of0 (And.intro @getK_set (And.intro @w_cond (And.intro @w_exit (And.intro @w_ret (And.intro @seqK_e (And.intro @atK_e (And.intro @loopK_e (And.intro @ckB_b (And.intro @cbB_b (And.intro @retK_r (And.intro @x_mv (And.intro @x_bin (And.intro @kx (And.intro @rvP_ok (And.intro @okv_some (And.intro @ev_t (And.intro @getV_some (And.intro @bin_neq (And.intro @oGet_s (And.intro @readRs_nil (And.intro @readRs_t (And.intro @retV_1 (And.intro @w_skip (And.intro @w_draw (And.intro @atK_n (And.intro @loopK_n (And.intro @true_and (And.intro @kg (And.intro @xg_nil (And.intro @xg_mv (And.intro @xg_bin (And.intro @xd_cons (And.intro @fresh_nil (And.intro @stK_n (And.intro @stK_s (And.intro @stay_nil (And.intro @stay_cons (And.intro @again_ok (And.intro @stay_mv (And.intro @beq_i (And.intro @bin_rem (And.intro @of1 (And.intro @x_alloc (And.intro @x_st (And.intro @x_call (And.intro @xg_build (And.intro @evs_nil (And.intro @evs_cons (And.intro @putD_none (And.intro @bin_quo (And.intro @readRs_n (And.intro @cells1_i (And.intro @fill_2 (And.intro @set_2 (And.intro @x_box (And.intro @cells2 (And.intro @xg_ld (And.intro @xg_iadr (And.intro @stay_ld (And.intro @beq_p (And.intro @bin_mul (And.intro @onP_p (And.intro @stay_iadr (And.intro @ix2_0 (And.intro @ix2_1 (And.intro @x_ld (And.intro @bin_add (And.intro @x_iads (And.intro @x_len (And.intro @bin_lss (And.intro @frame_1 (And.intro @okG_b (And.intro @asG_f (And.intro @x_g (And.intro @x_pick (And.intro @bin_gtr (And.intro @pick_b (And.intro @of7 (And.intro @asG_t (And.intro @seqK_r (And.intro @x_not (And.intro @onB_b (And.intro @x_app (And.intro @xg_iads (And.intro @x_bslice (And.intro @fill_0 (And.intro @bin_eql (And.intro @bin_sub (And.intro @x_build (And.intro @x_fadr (And.intro @retV_2 (And.intro @x_ldn (And.intro @xg_fadr (And.intro @x_ext (And.intro @onTup_t (And.intro @nth0 (And.intro @nth1 (And.intro @xg_ldn (@stay_ldn)))))))))))))))))))))))))))))))))))))))))))))))))))))))))))))))))))))))))))))))))))))))))))))))))))))))))))))))))) := And.intro @oG_e (And.intro @tG_e (And.intro @gG_e (And.intro @cG_e (And.intro @fG_e (And.intro @w_reg (And.intro @w_seq (And.intro @w_block (And.intro @seqK_n (And.intro @x_nil (And.intro @x_as (And.intro @ev_c (And.intro @putD_some (And.intro @frame_2 (And.intro @of0 (And.intro @getK_set (And.intro @w_cond (And.intro @w_exit (And.intro @w_ret (And.intro @seqK_e (And.intro @atK_e (And.intro @loopK_e (And.intro @ckB_b (And.intro @cbB_b (And.intro @retK_r (And.intro @x_mv (And.intro @x_bin (And.intro @kx (And.intro @rvP_ok (And.intro @okv_some (And.intro @ev_t (And.intro @getV_some (And.intro @bin_neq (And.intro @oGet_s (And.intro @readRs_nil (And.intro @readRs_t (And.intro @retV_1 (And.intro @w_skip (And.intro @w_draw (And.intro @atK_n (And.intro @loopK_n (And.intro @true_and (And.intro @kg (And.intro @xg_nil (And.intro @xg_mv (And.intro @xg_bin (And.intro @xd_cons (And.intro @fresh_nil (And.intro @stK_n (And.intro @stK_s (And.intro @stay_nil (And.intro @stay_cons (And.intro @again_ok (And.intro @stay_mv (And.intro @beq_i (And.intro @bin_rem (And.intro @of1 (And.intro @x_alloc (And.intro @x_st (And.intro @x_call (And.intro @xg_build (And.intro @evs_nil (And.intro @evs_cons (And.intro @putD_none (And.intro @bin_quo (And.intro @readRs_n (And.intro @cells1_i (And.intro @fill_2 (And.intro @set_2 (And.intro @x_box (And.intro @cells2 (And.intro @xg_ld (And.intro @xg_iadr (And.intro @stay_ld (And.intro @beq_p (And.intro @bin_mul (And.intro @onP_p (And.intro @stay_iadr (And.intro @ix2_0 (And.intro @ix2_1 (And.intro @x_ld (And.intro @bin_add (And.intro @x_iads (And.intro @x_len (And.intro @bin_lss (And.intro @frame_1 (And.intro @okG_b (And.intro @asG_f (And.intro @x_g (And.intro @x_pick (And.intro @bin_gtr (And.intro @pick_b (And.intro @of7 (And.intro @asG_t (And.intro @seqK_r (And.intro @x_not (And.intro @onB_b (And.intro @x_app (And.intro @xg_iads (And.intro @x_bslice (And.intro @fill_0 (And.intro @bin_eql (And.intro @bin_sub (And.intro @x_build (And.intro @x_fadr (And.intro @retV_2 (And.intro @x_ldn (And.intro @xg_fadr (And.intro @x_ext (And.intro @onTup_t (And.intro @nth0 (And.intro @nth1 (And.intro @xg_ldn (@stay_ldn)))))))))))))))))))))))))))))))))))))))))))))))))))))))))))))))))))))))))))))))))))))))))))))))))))))))))))))))))
end Go.Ev
namespace Go.Ev
open Go Go.RowKit
structure Rd (h : H) (v : V) (L : List Int) : Prop where
  len : ∀ h1, lenV v h1 = .ok (.i .i64 (L.length : Int)) h1
  now : ∀ i (hi : i < L.length), ∃ p, (∀ k h1, iadsV 1 v (.i k (i : Int)) h1 = .ok p h1) ∧ loadV h p one? = .ok (iE L[i]) h
  gr : HC h → ∀ h', Grow h.nx.nat h h' → ∀ i (hi : i < L.length), ∃ p, (∀ k h1, iadsV 1 v (.i k (i : Int)) h1 = .ok p h1) ∧ loadV h' p one? = .ok (iE L[i]) h'
theorem Rd.grow {h h' : H} {v : V} {L : List Int} (s : Rd h v L) (hc : HC h) (hG : Grow h.nx.nat h h') : Rd h' v L := ⟨s.len, s.gr hc h' hG, fun _ h2 hG2 => s.gr hc h2 (hG.trans (hG2.low hG.nx))⟩
end Go.Ev
namespace Go.Ev
open Go Go.RowKit
def sg (f : Nat → Int) : Nat → Int
  | 0 => 0
  | n + 1 => sg f n + f n
end Go.Ev
namespace Go.Ev
open Go Go.RowKit
def frL (q : Rat) : List V := [.i .i64 q.num, .i .i64 (q.den : Int)]
theorem fr_div {a b : Int} (hb : b ≠ 0) : (Rat.divInt a b).num = a.tdiv (if b < 0 then -(Int.gcd a b : Int) else (Int.gcd a b : Int)) ∧ ((Rat.divInt a b).den : Int) = b.tdiv (if b < 0 then -(Int.gcd a b : Int) else (Int.gcd a b : Int)) := by
  have h1 : ((Int.gcd a b : Nat) : Int) ∣ a := Int.gcd_dvd_left a b
  have h2 : ((Int.gcd a b : Nat) : Int) ∣ b := Int.gcd_dvd_right a b
  rw [Rat.num_divInt, Rat.den_divInt, if_neg hb, Int.gcd_comm b a]
  by_cases hn : b < 0
  · rw [if_pos hn, Int.tdiv_neg, Int.tdiv_neg, Int.tdiv_eq_ediv_of_dvd h1, Int.tdiv_eq_ediv_of_dvd h2, Int.sign_eq_neg_one_of_neg hn]
    refine ⟨by rw [Int.neg_one_mul, Int.neg_ediv_of_dvd h1], ?_⟩
    rw [← Int.neg_ediv_of_dvd h2, Int.natCast_ediv, Int.ofNat_natAbs_of_nonpos (by omega)]
  · rw [if_neg hn, Int.tdiv_eq_ediv_of_dvd h1, Int.tdiv_eq_ediv_of_dvd h2, Int.sign_eq_one_of_pos (by omega), Int.one_mul]
    exact ⟨rfl, by rw [Int.natCast_ediv, Int.natAbs_of_nonneg (by omega)]⟩
theorem gcd_step {a b : Int} : Int.gcd b (a.tmod b) = Int.gcd a b := by
  show Nat.gcd b.natAbs (a.tmod b).natAbs = Nat.gcd a.natAbs b.natAbs
  rw [Int.natAbs_tmod, Nat.gcd_comm, ← Nat.gcd_rec, Nat.gcd_comm]
theorem rat_eq (q : Rat) : Rat.divInt q.num (q.den : Int) = q := Rat.num_divInt_den q
theorem rat_mul {p q : Rat} : Rat.divInt (p.num * q.num) ((p.den : Int) * (q.den : Int)) = p * q := by
  rw [← Rat.divInt_mul_divInt, rat_eq, rat_eq]
theorem rat_den {q : Rat} : (q.den : Int) ≠ 0 := by have := q.den_nz; omega
theorem rat_add {p q : Rat} : Rat.divInt (p.num * (q.den : Int) + q.num * (p.den : Int)) ((p.den : Int) * (q.den : Int)) = p + q := by
  rw [← Rat.divInt_add_divInt _ _ rat_den rat_den, rat_eq, rat_eq]
theorem div_left {c n d : Int} (h : c ≠ 0) : Rat.divInt (c * n) (c * d) = Rat.divInt n d := Rat.divInt_mul_left h
theorem rat_mul' {p q : Rat} {g k : Int} (hg : g ≠ 0) (hk : k ≠ 0) (h1 : g ∣ p.num) (h2 : g ∣ (q.den : Int)) (h3 : k ∣ q.num) (h4 : k ∣ (p.den : Int)) : Rat.divInt (p.num / g * (q.num / k)) ((p.den : Int) / k * ((q.den : Int) / g)) = p * q := by
  rw [← rat_mul]
  obtain ⟨a, ha⟩ := h1
  obtain ⟨b, hb⟩ := h2
  obtain ⟨c, hc⟩ := h3
  obtain ⟨d, hd⟩ := h4
  rw [ha, hb, hc, hd, Int.mul_ediv_cancel_left _ hg, Int.mul_ediv_cancel_left _ hg, Int.mul_ediv_cancel_left _ hk, Int.mul_ediv_cancel_left _ hk, show g * a * (k * c) = (g * k) * (a * c) by grind, show k * d * (g * b) = (g * k) * (d * b) by grind, div_left (by intro h; rcases Int.mul_eq_zero.1 h with h | h; exact hg h; exact hk h)]
theorem rat_add' {p q : Rat} {g : Int} (hg : g ≠ 0) (h1 : g ∣ (p.den : Int)) (h2 : g ∣ (q.den : Int)) : Rat.divInt (p.num * ((q.den : Int) / g) + q.num * ((p.den : Int) / g)) ((p.den : Int) / g * (q.den : Int)) = p + q := by
  rw [← rat_add]
  obtain ⟨a, ha⟩ := h1
  obtain ⟨b, hb⟩ := h2
  rw [ha, hb, Int.mul_ediv_cancel_left _ hg, Int.mul_ediv_cancel_left _ hg, show p.num * (g * b) + q.num * (g * a) = g * (p.num * b + q.num * a) by grind, show g * a * (g * b) = g * (a * (g * b)) by grind, div_left hg]
end Go.Ev
namespace Go.Ev
open Go Go.RowKit
def M63 : Nat := 9223372036854775807
theorem gL {a b : Int} : ((Int.gcd a b : Nat) : Int) ∣ a := Int.gcd_dvd_left a b
theorem gR {a b : Int} : ((Int.gcd a b : Nat) : Int) ∣ b := Int.gcd_dvd_right a b
def Fr' (q : Rat) (M N : Nat) : Prop := q.num.natAbs ≤ M ∧ q.den ≤ N
theorem div_le {a b : Int} (hb : b ≠ 0) : (Rat.divInt a b).num.natAbs ≤ a.natAbs ∧ (Rat.divInt a b).den ≤ b.natAbs := by
  obtain ⟨h1, h2⟩ := fr_div (a := a) hb
  constructor
  · rw [h1, Int.natAbs_tdiv]; exact Nat.div_le_self _ _
  · have : ((Rat.divInt a b).den : Int).natAbs ≤ b.natAbs := by rw [h2, Int.natAbs_tdiv]; exact Nat.div_le_self _ _
    simpa using this
theorem nm {a b : Int} {M N : Nat} (ha : a.natAbs ≤ M) (hb : b.natAbs ≤ N) : (a * b).natAbs ≤ M * N := by rw [Int.natAbs_mul]; exact Nat.mul_le_mul ha hb
theorem nadd {a b : Int} {M N : Nat} (ha : a.natAbs ≤ M) (hb : b.natAbs ≤ N) : (a + b).natAbs ≤ M + N := by omega
theorem nden {q : Rat} {N : Nat} (h : q.den ≤ N) : (q.den : Int).natAbs ≤ N := by simpa using h
theorem ed_le {a g : Int} {M : Nat} (ha : a.natAbs ≤ M) (hg : g ∣ a) : (a / g).natAbs ≤ M := by
  rw [← Int.tdiv_eq_ediv_of_dvd hg, Int.natAbs_tdiv]; exact Nat.le_trans (Nat.div_le_self _ _) ha
structure MlB (p q : Rat) : Prop where
  p1 : p.num.natAbs ≤ M63
  p2 : (p.den : Int).natAbs ≤ M63
  q1 : q.num.natAbs ≤ M63
  q2 : (q.den : Int).natAbs ≤ M63
  b1 : (p.num / (Int.gcd p.num (q.den : Int) : Int) * (q.num / (Int.gcd q.num (p.den : Int) : Int))).natAbs ≤ M63
  b2 : ((p.den : Int) / (Int.gcd q.num (p.den : Int) : Int) * ((q.den : Int) / (Int.gcd p.num (q.den : Int) : Int))).natAbs ≤ M63
structure AdB (p q : Rat) : Prop where
  p2 : (p.den : Int).natAbs ≤ M63
  q2 : (q.den : Int).natAbs ≤ M63
  b1 : (p.num * ((q.den : Int) / (Int.gcd (p.den : Int) (q.den : Int) : Int)) + q.num * ((p.den : Int) / (Int.gcd (p.den : Int) (q.den : Int) : Int))).natAbs ≤ M63
  b2 : ((p.den : Int) / (Int.gcd (p.den : Int) (q.den : Int) : Int) * (q.den : Int)).natAbs ≤ M63
  b3 : (p.num * ((q.den : Int) / (Int.gcd (p.den : Int) (q.den : Int) : Int))).natAbs ≤ M63
  b4 : (q.num * ((p.den : Int) / (Int.gcd (p.den : Int) (q.den : Int) : Int))).natAbs ≤ M63
theorem mlb_of {p q : Rat} {M N M' N' : Nat} (h : Fr' p M N) (h' : Fr' q M' N') (k1 : M ≤ M63) (k2 : N ≤ M63) (k3 : M' ≤ M63) (k4 : N' ≤ M63) (k5 : M * M' ≤ M63) (k6 : N * N' ≤ M63) : MlB p q :=
  ⟨Nat.le_trans h.1 k1, Nat.le_trans (nden h.2) k2, Nat.le_trans h'.1 k3, Nat.le_trans (nden h'.2) k4, Nat.le_trans (nm (ed_le h.1 gL) (ed_le h'.1 gL)) k5, Nat.le_trans (nm (ed_le (nden h.2) gR) (ed_le (nden h'.2) gR)) k6⟩
theorem dv_add {a b d : Int} : Rat.divInt a d + Rat.divInt b d = Rat.divInt (a + b) d := by
  rw [Rat.divInt_eq_div, Rat.divInt_eq_div, Rat.divInt_eq_div, Rat.intCast_add]; grind
theorem den_dvd' {a b : Int} (hb : 0 < b) : ((Rat.divInt a b).den : Int) ∣ b := by
  obtain ⟨_, h2⟩ := fr_div (a := a) (b := b) (by omega)
  rw [if_neg (by omega), Int.tdiv_eq_ediv_of_dvd gR] at h2
  exact ⟨((Int.gcd a b : Nat) : Int), by rw [h2, Int.ediv_mul_cancel gR]⟩
def Ov (q : Rat) (D M : Nat) : Prop := 0 < D ∧ ∃ a : Int, a.natAbs ≤ M ∧ q = Rat.divInt a (D : Int)
theorem Ov.fr {q : Rat} {D M : Nat} (h : Ov q D M) : Fr' q M D := by
  obtain ⟨h0, a, ha, rfl⟩ := h
  obtain ⟨h1, h2⟩ := div_le (a := a) (b := (D : Int)) (by omega)
  exact ⟨Nat.le_trans h1 ha, by simpa using h2⟩
theorem Ov.ex {q : Rat} {D M : Nat} (h : Ov q D M) : ∃ k : Nat, 0 < k ∧ D = q.den * k ∧ (q.num * (k : Int)).natAbs ≤ M := by
  obtain ⟨h0, a, ha, e⟩ := h
  have hd : (q.den : Int) ∣ (D : Int) := by rw [e]; exact den_dvd' (by omega)
  obtain ⟨k, hk⟩ := hd
  have hq0 : (q.den : Int) ≠ 0 := rat_den
  have hD0 : (D : Int) ≠ 0 := by omega
  have hqp : 0 < (q.den : Int) := by have := q.den_pos; omega
  have hkp : 0 < k := by
    rcases Int.lt_or_le 0 k with h1 | h1
    · exact h1
    · have := Int.mul_nonpos_of_nonneg_of_nonpos (Int.le_of_lt hqp) h1; omega
  have hc : q.num * (D : Int) = a * (q.den : Int) := by
    have : Rat.divInt q.num (q.den : Int) = Rat.divInt a (D : Int) := by rw [rat_eq]; exact e
    exact (Rat.divInt_eq_divInt_iff hq0 hD0).1 this
  have ha' : q.num * k = a := by
    have : (q.num * k) * (q.den : Int) = a * (q.den : Int) := by rw [← hc, hk]; grind
    exact Int.eq_of_mul_eq_mul_right hq0 this
  refine ⟨k.toNat, by omega, ?_, by rw [Int.toNat_of_nonneg (by omega), ha']; exact ha⟩
  have : (D : Int) = ((q.den * k.toNat : Nat) : Int) := by rw [hk, Int.natCast_mul, Int.toNat_of_nonneg (by omega)]
  exact Int.ofNat.inj this
theorem Ov.add {p q : Rat} {D M N : Nat} (hp : Ov p D M) (hq : Ov q D N) : Ov (p + q) D (M + N) := by
  obtain ⟨h0, a, ha, rfl⟩ := hp
  obtain ⟨_, b, hb, rfl⟩ := hq
  exact ⟨h0, a + b, nadd ha hb, dv_add⟩
theorem Ov.mul {p q : Rat} {D E M N : Nat} (hp : Ov p D M) (hq : Ov q E N) : Ov (p * q) (D * E) (M * N) := by
  obtain ⟨h0, a, ha, rfl⟩ := hp
  obtain ⟨h1, b, hb, rfl⟩ := hq
  exact ⟨Nat.mul_pos h0 h1, a * b, nm ha hb, by rw [Rat.divInt_mul_divInt, Int.natCast_mul]⟩
theorem Ov.le {q : Rat} {D M N : Nat} (h : Ov q D M) (hn : M ≤ N) : Ov q D N := ⟨h.1, h.2.elim fun a ha => ⟨a, Nat.le_trans ha.1 hn, ha.2⟩⟩
theorem adb_ov {p q : Rat} {D M N : Nat} (hp : Ov p D M) (hq : Ov q D N) (hD : D ≤ M63) (hM : M + N ≤ M63) : AdB p q := by
  obtain ⟨k, k0, k1, k2⟩ := hp.ex
  obtain ⟨j, j0, j1, j2⟩ := hq.ex
  have hg0 : Int.gcd (p.den : Int) (q.den : Int) ≠ 0 := fun e => by have := (Int.gcd_eq_zero_iff.1 e).1; exact rat_den this
  have hpd := p.den_pos
  have hqd := q.den_pos
  generalize hg : Int.gcd (p.den : Int) (q.den : Int) = g at *
  have g1 : (g : Int) ∣ (p.den : Int) := hg ▸ gL
  have g2 : (g : Int) ∣ (q.den : Int) := hg ▸ gR
  obtain ⟨x, hx⟩ := g1
  obtain ⟨y, hy⟩ := g2
  have gp : 0 < (g : Int) := by omega
  have gi : (g : Int) ≠ 0 := by omega
  have cop : Int.gcd x y = 1 := by
    have e : Int.gcd (g * x) (g * y) = g * Int.gcd x y := by rw [Int.gcd_mul_left]; simp
    rw [← hx, ← hy, hg] at e
    have : g * 1 = g * Int.gcd x y := by omega
    exact (Nat.eq_of_mul_eq_mul_left (by omega) this).symm
  have ex : (p.den : Int) / (g : Int) = x := by rw [hx, Int.mul_ediv_cancel_left _ gi]
  have ey : (q.den : Int) / (g : Int) = y := by rw [hy, Int.mul_ediv_cancel_left _ gi]
  have xp : 0 < x := by
    rcases Int.lt_or_le 0 x with h1 | h1
    · exact h1
    · have := Int.mul_nonpos_of_nonneg_of_nonpos (Int.le_of_lt gp) h1; omega
  have yp : 0 < y := by
    rcases Int.lt_or_le 0 y with h1 | h1
    · exact h1
    · have := Int.mul_nonpos_of_nonneg_of_nonpos (Int.le_of_lt gp) h1; omega
  -- D = g x k = g y j, so that y divides k
  have kk : x * (k : Int) = y * (j : Int) := by
    have e1 : (D : Int) = (p.den : Int) * (k : Int) := by rw [k1, Int.natCast_mul]
    have e2 : (D : Int) = (q.den : Int) * (j : Int) := by rw [j1, Int.natCast_mul]
    have : (g : Int) * (x * (k : Int)) = (g : Int) * (y * (j : Int)) := by rw [← Int.mul_assoc, ← Int.mul_assoc, ← hx, ← hy, ← e1, ← e2]
    exact Int.eq_of_mul_eq_mul_left gi this
  have yk : y ∣ (k : Int) := by
    have : y ∣ x * (k : Int) := ⟨(j : Int), kk⟩
    have h2 : y.natAbs ∣ x.natAbs * (k : Int).natAbs := by rw [← Int.natAbs_mul]; exact Int.natAbs_dvd_natAbs.2 this
    exact Int.natAbs_dvd_natAbs.1 (Nat.Coprime.dvd_of_dvd_mul_left (show Nat.gcd y.natAbs x.natAbs = 1 by rw [Nat.gcd_comm]; exact cop) h2)
  obtain ⟨c, hc⟩ := yk
  have cp : 0 < c := by
    rcases Int.lt_or_le 0 c with h1 | h1
    · exact h1
    · have := Int.mul_nonpos_of_nonneg_of_nonpos (Int.le_of_lt yp) h1; omega
  have hj : (j : Int) = x * c := by
    have : y * (j : Int) = y * (x * c) := by rw [← kk, hc]; grind
    exact Int.eq_of_mul_eq_mul_left (by omega) this
  have le_of : ∀ {u : Int} {m : Nat}, (u * c).natAbs ≤ m → u.natAbs ≤ m := fun {u m} h => by
    rw [Int.natAbs_mul] at h
    have : u.natAbs * 1 ≤ u.natAbs * c.natAbs := Nat.mul_le_mul_left _ (by omega)
    omega
  have b3 : (p.num * y).natAbs ≤ M := le_of (by rw [Int.mul_assoc, ← hc]; exact k2)
  have b4 : (q.num * x).natAbs ≤ N := le_of (by rw [Int.mul_assoc, ← hj]; exact j2)
  have b2 : (x * (q.den : Int)).natAbs ≤ D := by
    refine le_of (Nat.le_of_eq ?_)
    have : x * (q.den : Int) * c = (D : Int) := by rw [j1, Int.natCast_mul, hj]; grind
    rw [this]; rfl
  refine ⟨Nat.le_trans (nden hp.fr.2) hD, Nat.le_trans (nden hq.fr.2) hD, ?_, ?_, ?_, ?_⟩
  · rw [hg, ex, ey]; exact Nat.le_trans (nadd b3 b4) hM
  · rw [hg, ex]; exact Nat.le_trans b2 hD
  · rw [hg, ey]; omega
  · rw [hg, ex]; omega
theorem mlb_ov {p q : Rat} {D E M N : Nat} (hp : Ov p D M) (hq : Ov q E N) (k1 : M ≤ M63) (k2 : D ≤ M63) (k3 : N ≤ M63) (k4 : E ≤ M63) (k5 : M * N ≤ M63) (k6 : D * E ≤ M63) : MlB p q := mlb_of hp.fr hq.fr k1 k2 k3 k4 k5 k6
def ri (l : Nat → Int) (o u : Int) : Nat → Nat → Int
  | 0, i => l i
  | r + 1, i => (u - o) * ri l o u r i + o * ri l o u r (i + 1)
theorem ri_le {l : Nat → Int} {o u M : Nat} (ho : o ≤ u) (hl : ∀ i, (l i).natAbs ≤ M) : ∀ r i, (ri l (o : Int) (u : Int) r i).natAbs ≤ M * u ^ r
  | 0, i => by show (l i).natAbs ≤ M * 1; have := hl i; omega
  | r + 1, i => by
    have a := nm (a := (u : Int) - (o : Int)) (M := u - o) (by omega) (ri_le ho hl r i)
    have b := nm (a := (o : Int)) (M := o) (by omega) (ri_le ho hl r (i + 1))
    have := nadd a b
    rw [← Nat.add_mul, Nat.sub_add_cancel ho] at this
    rw [Nat.pow_succ, show M * (u ^ r * u) = u * (M * u ^ r) by rw [Nat.mul_comm (u ^ r) u, Nat.mul_left_comm]]
    exact this
end Go.Ev
namespace Go.Ev
open Go Go.RowKit
def chR (n : Nat) : Nat → Nat
  | 0 => 1
  | k + 1 => chR n k * (n - k) / (k + 1)
theorem ch_le : ∀ n : Fin 8, ∀ k : Fin 8, chR n.val k.val * (n.val - k.val) ≤ 140 ∧ chR n.val k.val ≤ 35 := by decide
section
variable {p : List Int} {n i k : Nat}
end
end Go.Ev
namespace Go.Ev
open Go Go.RowKit
noncomputable def f73_r0 : List EOper := [oG 4 (.as (cG 0))]
noncomputable def f73_r1 : List EOper := [oG 5 (.mv (tG 1)), oG 6 (.bin .neq (tG 5) (cG 0))]
noncomputable def f73_r2 : List Stage := [⟨[oG 7 (.mv (tG 1)), oG 8 (.mv (tG 0)), oG 9 (.mv (tG 1)), oG 10 (.bin .rem (tG 8) (tG 9))], [], (some (oG 0 (.as (tG 7)))), []⟩, ⟨[], [oG 9 (.mv (tG 1)), oG 10 (.bin .rem (tG 8) (tG 9))], (some (oG 1 (.as (tG 10)))), []⟩, ⟨[], [], none, []⟩]
noncomputable def f73_l0 : EC := (.seq (.seq (.reg f73_r1) (.cond (tG 6) .skip (.exit 0))) (.block 1 (.draw f73_r2)))
noncomputable def f73_r3 : List EOper := [oG 11 (.mv (tG 0)), oG 12 (.mv (tG 0)), oG 13 (.neg (tG 12)), oG 14 (.mx3 (tG 11) (tG 13) (cG 1)), oG 4 (.as (tG 14))]
noncomputable def f73_c : EC := (.seq (.reg f73_r0) (.seq (.block 0 (.loop f73_l0)) (.seq (.reg f73_r3) .ret)))
noncomputable def f73 : EF := ⟨15, [.tmp (.ofNat 4)], f73_c, none⟩
theorem f73_rs : f73.rs = [.tmp (.ofNat 4)] := of_eq_true (eq_self _)
noncomputable def f104_r0 : List EOper := [oG 4 (.as (cG 0))]
noncomputable def f104_r1 : List EOper := [oG 5 (.mv (tG 1)), oG 6 (.bin .neq (tG 5) (cG 0))]
noncomputable def f104_r2 : List Stage := [⟨[oG 7 (.mv (tG 1)), oG 8 (.mv (tG 0)), oG 9 (.mv (tG 1)), oG 10 (.bin .rem (tG 8) (tG 9))], [], (some (oG 0 (.as (tG 7)))), []⟩, ⟨[], [oG 9 (.mv (tG 1)), oG 10 (.bin .rem (tG 8) (tG 9))], (some (oG 1 (.as (tG 10)))), []⟩, ⟨[], [], none, []⟩]
noncomputable def f104_l0 : EC := (.seq (.seq (.reg f104_r1) (.cond (tG 6) .skip (.exit 0))) (.block 1 (.draw f104_r2)))
noncomputable def f104_r3 : List EOper := [oG 11 (.mv (tG 0)), oG 12 (.mv (tG 0)), oG 13 (.neg (tG 12)), oG 14 (.max (tG 11) (tG 13)), oG 4 (.as (tG 14))]
noncomputable def f104_c : EC := (.seq (.reg f104_r0) (.seq (.block 0 (.loop f104_l0)) (.seq (.reg f104_r3) .ret)))
noncomputable def f104 : EF := ⟨15, [.tmp (.ofNat 4)], f104_c, none⟩
theorem f104_rs : f104.rs = [.tmp (.ofNat 4)] := of_eq_true (eq_self _)
noncomputable def f54_r0 : List EOper := [oG 4 (.alloc 2 [(.i .i64 (.ofNat 0)), (.i .i64 (.ofNat 0))])]
noncomputable def f54_r1 : List EOper := [oG 6 (.mv (tG 0)), oG 7 (.mv (tG 1)), oG 8 (.call (fG 73) [(tG 6), (tG 7)]), oG 5 (.as (tG 8))]
noncomputable def f54_r2 : List Stage := [⟨[oG 9 (.mv (tG 0)), oG 10 (.mv (tG 5)), oG 11 (.bin .quo (tG 9) (tG 10)), oG 12 (.mv (tG 1)), oG 13 (.mv (tG 5)), oG 14 (.bin .quo (tG 12) (tG 13)), oG 15 (.build [(.i .i64 (.ofNat 0)), (.i .i64 (.ofNat 0))] [(0, 1, (tG 11)), (1, 1, (tG 14))])], [], (some ⟨none, none, .st 2 (tG 4) (tG 15)⟩), []⟩, ⟨[], [], none, []⟩]
noncomputable def f54_c : EC := (.seq (.reg f54_r0) (.seq (.reg f54_r1) (.seq (.draw f54_r2) .ret)))
noncomputable def f54 : EF := ⟨16, [.celln (.ofNat 4) 2], f54_c, none⟩
theorem f54_rs : f54.rs = [.celln (.ofNat 4) 2] := of_eq_true (eq_self _)
noncomputable def f75_r0 : List EOper := [oG 2 (.box 2 (tG 0)), oG 3 (.box 2 (tG 1)), oG 4 (.alloc 2 [(.i .i64 (.ofNat 0)), (.i .i64 (.ofNat 0))])]
noncomputable def f75_r1 : List Stage := [⟨[oG 7 (.iadr 2 1 (tG 2) (cG 0)), oG 8 (.ld (tG 7)), oG 9 (.iadr 2 1 (tG 3) (cG 1)), oG 10 (.ld (tG 9)), oG 12 (.iadr 2 1 (tG 3) (cG 0)), oG 13 (.ld (tG 12)), oG 14 (.iadr 2 1 (tG 2) (cG 1)), oG 15 (.ld (tG 14))], [], (some (oG 11 (.call (fG 73) [(tG 8), (tG 10)]))), []⟩, ⟨[], [oG 12 (.iadr 2 1 (tG 3) (cG 0)), oG 13 (.ld (tG 12)), oG 14 (.iadr 2 1 (tG 2) (cG 1)), oG 15 (.ld (tG 14))], (some (oG 16 (.call (fG 73) [(tG 13), (tG 15)]))), []⟩, ⟨[], [], (some (oG 5 (.as (tG 11)))), []⟩, ⟨[], [], (some (oG 6 (.as (tG 16)))), []⟩, ⟨[], [], none, []⟩]
noncomputable def f75_r2 : List Stage := [⟨[oG 17 (.iadr 2 1 (tG 2) (cG 0)), oG 18 (.ld (tG 17)), oG 19 (.mv (tG 5)), oG 20 (.bin .quo (tG 18) (tG 19)), oG 21 (.iadr 2 1 (tG 3) (cG 0)), oG 22 (.ld (tG 21)), oG 23 (.mv (tG 6)), oG 24 (.bin .quo (tG 22) (tG 23)), oG 25 (.bin .mul (tG 20) (tG 24)), oG 26 (.iadr 2 1 (tG 2) (cG 1)), oG 27 (.ld (tG 26)), oG 28 (.mv (tG 6)), oG 29 (.bin .quo (tG 27) (tG 28)), oG 30 (.iadr 2 1 (tG 3) (cG 1)), oG 31 (.ld (tG 30)), oG 32 (.mv (tG 5)), oG 33 (.bin .quo (tG 31) (tG 32)), oG 34 (.bin .mul (tG 29) (tG 33))], [], (some (oG 35 (.call (fG 54) [(tG 25), (tG 34)]))), []⟩, ⟨[], [], (some ⟨none, none, .st 2 (tG 4) (tG 35)⟩), []⟩, ⟨[], [], none, []⟩]
noncomputable def f75_c : EC := (.seq (.reg f75_r0) (.seq (.draw f75_r1) (.seq (.draw f75_r2) .ret)))
noncomputable def f75 : EF := ⟨36, [.celln (.ofNat 4) 2], f75_c, none⟩
theorem f75_rs : f75.rs = [.celln (.ofNat 4) 2] := of_eq_true (eq_self _)
noncomputable def f74_r0 : List EOper := [oG 2 (.box 2 (tG 0)), oG 3 (.box 2 (tG 1)), oG 4 (.alloc 2 [(.i .i64 (.ofNat 0)), (.i .i64 (.ofNat 0))])]
noncomputable def f74_r1 : List EOper := [oG 6 (.iadr 2 1 (tG 2) (cG 1)), oG 7 (.ld (tG 6)), oG 8 (.iadr 2 1 (tG 3) (cG 1)), oG 9 (.ld (tG 8)), oG 10 (.call (fG 73) [(tG 7), (tG 9)]), oG 5 (.as (tG 10))]
noncomputable def f74_r2 : List Stage := [⟨[oG 11 (.iadr 2 1 (tG 2) (cG 0)), oG 12 (.ld (tG 11)), oG 13 (.iadr 2 1 (tG 3) (cG 1)), oG 14 (.ld (tG 13)), oG 15 (.mv (tG 5)), oG 16 (.bin .quo (tG 14) (tG 15)), oG 17 (.bin .mul (tG 12) (tG 16)), oG 18 (.iadr 2 1 (tG 3) (cG 0)), oG 19 (.ld (tG 18)), oG 20 (.iadr 2 1 (tG 2) (cG 1)), oG 21 (.ld (tG 20)), oG 22 (.mv (tG 5)), oG 23 (.bin .quo (tG 21) (tG 22)), oG 24 (.bin .mul (tG 19) (tG 23)), oG 25 (.bin .add (tG 17) (tG 24)), oG 26 (.iadr 2 1 (tG 2) (cG 1)), oG 27 (.ld (tG 26)), oG 28 (.mv (tG 5)), oG 29 (.bin .quo (tG 27) (tG 28)), oG 30 (.iadr 2 1 (tG 3) (cG 1)), oG 31 (.ld (tG 30)), oG 32 (.bin .mul (tG 29) (tG 31))], [], (some (oG 33 (.call (fG 54) [(tG 25), (tG 32)]))), []⟩, ⟨[], [], (some ⟨none, none, .st 2 (tG 4) (tG 33)⟩), []⟩, ⟨[], [], none, []⟩]
noncomputable def f74_c : EC := (.seq (.reg f74_r0) (.seq (.reg f74_r1) (.seq (.draw f74_r2) .ret)))
noncomputable def f74 : EF := ⟨34, [.celln (.ofNat 4) 2], f74_c, none⟩
theorem f74_rs : f74.rs = [.celln (.ofNat 4) 2] := of_eq_true (eq_self _)
noncomputable def f89_r0 : List EOper := [oG 4 (.alloc 2 [(.i .i64 (.ofNat 0)), (.i .i64 (.ofNat 0))])]
noncomputable def f89_r1 : List EOper := [oG 6 (.mv (tG 0)), oG 7 (.mv (tG 1)), oG 8 (.call (fG 104) [(tG 6), (tG 7)]), oG 5 (.as (tG 8))]
noncomputable def f89_r2 : List Stage := [⟨[oG 9 (.mv (tG 0)), oG 10 (.mv (tG 5)), oG 11 (.bin .quo (tG 9) (tG 10)), oG 12 (.mv (tG 1)), oG 13 (.mv (tG 5)), oG 14 (.bin .quo (tG 12) (tG 13)), oG 15 (.build [(.i .i64 (.ofNat 0)), (.i .i64 (.ofNat 0))] [(0, 1, (tG 11)), (1, 1, (tG 14))])], [], (some ⟨none, none, .st 2 (tG 4) (tG 15)⟩), []⟩, ⟨[], [], none, []⟩]
noncomputable def f89_c : EC := (.seq (.reg f89_r0) (.seq (.reg f89_r1) (.seq (.draw f89_r2) .ret)))
noncomputable def f89 : EF := ⟨16, [.celln (.ofNat 4) 2], f89_c, none⟩
theorem f89_rs : f89.rs = [.celln (.ofNat 4) 2] := of_eq_true (eq_self _)
section
variable {fs : T EF} {h : H} {v w u : V} {a b : Int} {p q : Rat}
theorem callP_eq2 {f : V} {args : List V} {u : V} {P : V → H → Prop} (hr : CallP fs f args h fun r h' => r = u ∧ h' = h) : CallP fs f args h P = P u h := by
  apply propext
  obtain ⟨n, v, h', e, rfl, rfl⟩ := hr
  constructor
  · rintro ⟨n2, v2, h2, e2, hp⟩
    have a1 := callV_le (eval_le fs (Nat.le_max_left n n2)) _ _ _ _ _ e
    have a2 := callV_le (eval_le fs (Nat.le_max_right n n2)) _ _ _ _ _ e2
    rw [a1] at a2
    cases a2; exact hp
  · intro hp; exact ⟨n, _, _, e, hp⟩
theorem isub_0 {x : Int} : isub 0 x = -x := by rw [isub_eq]; omega
theorem neg63 {x : Int} (hx : x.natAbs ≤ M63) : fw .i64 (isub 0 x) = -x := by
  unfold M63 at hx
  rw [isub_0, fw64 (by omega) (by omega)]
def f104_I (a b : Int) (h0 : H) (s : Int × Int) (fr : Fr) (h1 : H) : Prop := Int.gcd s.1 s.2 = Int.gcd a b ∧ s.1.natAbs ≤ M63 ∧ s.2.natAbs ≤ M63 ∧ h1 = h0 ∧ fr.get (K.ofNat 0) = some (.i .i64 s.1) ∧ fr.get (K.ofNat 1) = some (.i .i64 s.2)
theorem f104_ret (ha : a.natAbs ≤ M63) (hb : b.natAbs ≤ M63) : Ret fs f104 [.i .i64 a, .i .i64 b] h fun r h' => r = .i .i64 (Int.gcd a b : Int) ∧ h' = h := by
  apply ret_of rfl
  show W fs none f104_c _ _ _
  unfold f104_c
  simp (disch := omega) only [f104_r0, bz]
  refine W_loop (f104_I a b h) (fun s => s.2.natAbs) ?_ (a, b) ⟨rfl, ha, hb, rfl, by simp (disch := omega) only [getK_set, Nat.reduceEqDiff, ↓reduceIte, and_self]⟩
  rintro ⟨x, y⟩ fr h1 ⟨hg, hx, hy, rfl, g0, g1⟩
  have hg : Int.gcd x y = Int.gcd a b := hg
  have hx : x.natAbs ≤ M63 := hx
  have hy : y.natAbs ≤ M63 := hy
  have g0 : fr.get (K.ofNat 0) = some (.i .i64 x) := g0
  have g1 : fr.get (K.ofNat 1) = some (.i .i64 y) := g1
  unfold f104_l0
  by_cases h0 : y = 0
  · have d1 : decide (y ≠ 0) = false := decide_eq_false (fun e => e h0)
    have en := neg63 hx
    have em : max x (-x) = ((Int.gcd a b : Nat) : Int) := by
      rw [← hg, h0, Int.gcd_zero_right]; omega
    simp (disch := omega) only [f104_r1, f104_r3, f104_rs, x_neg, x_max, onI_i, max_ii, Option.some.injEq, exists_eq_left', Nat.reduceEqDiff, ↓reduceIte, Bool.false_eq_true, g0, g1, d1, en, em, and_self, bz]
  · have d1 : decide (y ≠ 0) = true := decide_eq_true h0
    have d2 : decide (y = 0) = false := decide_eq_false h0
    simp (disch := omega) only [f104_r1, f104_r2, stay_bin, Nat.reduceEqDiff, ↓reduceIte, g0, g1, d1, bz]
    have hm : (x.tmod y).natAbs < y.natAbs := by rw [Int.natAbs_tmod]; exact Nat.mod_lt _ (by omega)
    exact ⟨(y, x.tmod y), hm, gcd_step.trans hg, hy, by show (x.tmod y).natAbs ≤ M63; omega, rfl, by simp (disch := omega) only [getK_set, Nat.reduceEqDiff, ↓reduceIte, and_self]⟩
theorem f104_eq (k : fs.get (.ofNat 104) = some f104) (ha : a.natAbs ≤ M63) (hb : b.natAbs ≤ M63) {P : V → H → Prop} : CallP fs (.fn (.ofNat 104) []) [.i .i64 a, .i .i64 b] h P = P (.i .i64 (Int.gcd a b : Int)) h := callP_eq2 (callP_0 k rfl (f104_ret ha hb))
theorem mx3_i {k : IntKind} {a b c : Int} : mx3V (.i k a) (.i k b) (.i k c) h = .ok (.i k (max (max a b) c)) h := by
  show RV.ok (.i k (bif ilt (bif ilt a b then b else a) c then c else (bif ilt a b then b else a))) h = _
  rw [ilt_eq, ilt_eq]
  congr 2
  by_cases h1 : a < b
  · rw [decide_eq_true h1]
    by_cases h2 : b < c
    · rw [cond_true, decide_eq_true h2]; show c = _; omega
    · rw [cond_true, decide_eq_false h2]; show b = _; omega
  · rw [decide_eq_false h1]
    by_cases h2 : a < c
    · rw [cond_false, decide_eq_true h2]; show c = _; omega
    · rw [cond_false, decide_eq_false h2]; show a = _; omega
theorem f73_ret (ha : a.natAbs ≤ M63) (hb : b.natAbs ≤ M63) : Ret fs f73 [.i .i64 a, .i .i64 b] h fun r h' => r = .i .i64 (max (Int.gcd a b : Int) 1) ∧ h' = h := by
  apply ret_of rfl
  show W fs none f73_c _ _ _
  unfold f73_c
  simp (disch := omega) only [f73_r0, bz]
  refine W_loop (f104_I a b h) (fun s => s.2.natAbs) ?_ (a, b) ⟨rfl, ha, hb, rfl, by simp (disch := omega) only [getK_set, Nat.reduceEqDiff, ↓reduceIte, and_self]⟩
  rintro ⟨x, y⟩ fr h1 ⟨hg, hx, hy, rfl, g0, g1⟩
  have hg : Int.gcd x y = Int.gcd a b := hg
  have hx : x.natAbs ≤ M63 := hx
  have hy : y.natAbs ≤ M63 := hy
  have g0 : fr.get (K.ofNat 0) = some (.i .i64 x) := g0
  have g1 : fr.get (K.ofNat 1) = some (.i .i64 y) := g1
  unfold f73_l0
  by_cases h0 : y = 0
  · have d1 : decide (y ≠ 0) = false := decide_eq_false (fun e => e h0)
    have en := neg63 hx
    have em : max (max x (-x)) 1 = max ((Int.gcd a b : Nat) : Int) 1 := by
      rw [← hg, h0, Int.gcd_zero_right]; omega
    simp (disch := omega) only [f73_r1, f73_r3, f73_rs, x_neg, onI_i, Option.some.injEq, exists_eq_left', Nat.reduceEqDiff, ↓reduceIte, Bool.false_eq_true, x_mx3, g0, g1, d1, en, mx3_i, em, and_self, bz]
  · have d1 : decide (y ≠ 0) = true := decide_eq_true h0
    have d2 : decide (y = 0) = false := decide_eq_false h0
    simp (disch := omega) only [f73_r1, f73_r2, stay_bin, Nat.reduceEqDiff, ↓reduceIte, g0, g1, d1, bz]
    have hm : (x.tmod y).natAbs < y.natAbs := by rw [Int.natAbs_tmod]; exact Nat.mod_lt _ (by omega)
    exact ⟨(y, x.tmod y), hm, gcd_step.trans hg, hy, by show (x.tmod y).natAbs ≤ M63; omega, rfl, by simp (disch := omega) only [getK_set, Nat.reduceEqDiff, ↓reduceIte, and_self]⟩
theorem f73_eq (k : fs.get (.ofNat 73) = some f73) (ha : a.natAbs ≤ M63) (hb : b.natAbs ≤ M63) (h0 : a ≠ 0 ∨ b ≠ 0) {P : V → H → Prop} : CallP fs (.fn (.ofNat 73) []) [.i .i64 a, .i .i64 b] h P = P (.i .i64 (Int.gcd a b : Int)) h := by
  rw [callP_eq2 (callP_0 k rfl (f73_ret ha hb))]
  have : Int.gcd a b ≠ 0 := fun e => by
    have := Int.gcd_eq_zero_iff.1 e
    omega
  rw [show max ((Int.gcd a b : Nat) : Int) 1 = ((Int.gcd a b : Nat) : Int) by omega]
theorem tdiv63 {a c : Int} (ha : a.natAbs ≤ M63) : fw .i64 (a.tdiv c) = a.tdiv c := by
  have : (a.tdiv c).natAbs ≤ a.natAbs := by rw [Int.natAbs_tdiv]; exact Nat.div_le_self _ _
  unfold M63 at ha
  exact fw64 (by omega) (by omega)
theorem store2 {id : K} {c1 c2 x y : V} (hb : h.get id = .cells 2 [c1, c2]) : storeV h 2 (.p id 0) (.agg [x, y]) = .ok undefV (h.put id (.cells 2 [x, y])) := by
  rw [store_p (m := 2) (cs := [c1, c2]) (xs := [x, y]) hb rfl (by omega)]; rfl
theorem read2 {id : K} {x y : V} (hb : h.get id = .cells 2 [x, y]) : readP h (.p id 0) (many? 2) = some (.agg [x, y]) := by
  show (h.get id).onC none (fun n cs => many? 2 cs n 0) = _
  rw [hb]; rfl
theorem f89_ret (k104 : fs.get (.ofNat 104) = some f104) (ha : a.natAbs ≤ M63) (hb : b.natAbs ≤ M63) (h0 : 0 < b) : Ret fs f89 [.i .i64 a, .i .i64 b] h fun r h' => r = .agg (frL (Rat.divInt a b)) ∧ Grow h.nx.nat h h' := by
  apply ret_of rfl
  show W fs none f89_c _ _ _
  unfold f89_c
  have gA := Grow.new (Nat.le_refl h.nx.nat) (.cells 2 [.i .i64 0, .i .i64 0])
  have a1 : (h.new (.cells 2 [.i .i64 0, .i .i64 0])).get h.nx = .cells 2 [.i .i64 0, .i .i64 0] := get_new_same
  have n1 := nx_new h (.cells 2 [.i .i64 0, .i .i64 0])
  have e1 := fun h P => f104_eq (h := h) (P := P) k104 ha hb
  have hg : Int.gcd a b ≠ 0 := fun e => by have := (Int.gcd_eq_zero_iff.1 e).2; omega
  have hr := fr_div (a := a) (b := b) (by omega)
  rw [if_neg (by omega)] at hr
  have hst := fun x y => store2 (x := x) (y := y) a1
  have d2 : decide ((Int.gcd a b : Int) = 0) = false := decide_eq_false (by omega)
  have q1 := tdiv63 (c := (Int.gcd a b : Int)) ha
  have q2 := tdiv63 (c := (Int.gcd a b : Int)) hb
  have rd := read2 (h := (h.new (.cells 2 [.i .i64 0, .i .i64 0])).put h.nx (.cells 2 [.i .i64 (a.tdiv (Int.gcd a b : Int)), .i .i64 (b.tdiv (Int.gcd a b : Int))])) (id := h.nx) get_put_same
  simp (disch := omega) only [f89_r0, f89_r1, f89_r2, f89_rs, Option.some.injEq, exists_eq_left', Nat.reduceEqDiff, ↓reduceIte, e1, q1, q2, hst, rd, bz]
  exact ⟨by unfold frL; rw [hr.1, hr.2], gA.trans (Grow.put (Nat.le_refl _) (by omega) _)⟩
theorem fw_63 {x : Int} (hx : x.natAbs ≤ M63) : fw .i64 x = x := by
  unfold M63 at hx
  exact fw64 (by omega) (by omega)
theorem cell2_agg {x y : V} : cellsN 2 (.agg [x, y]) = some [x, y] := of_eq_true (eq_self _)
theorem f54_ret (k73 : fs.get (.ofNat 73) = some f73) (ha : a.natAbs ≤ M63) (hb : b.natAbs ≤ M63) (h0 : 0 < b) : Ret fs f54 [.i .i64 a, .i .i64 b] h fun r h' => r = .agg (frL (Rat.divInt a b)) ∧ Grow h.nx.nat h h' := by
  apply ret_of rfl
  show W fs none f54_c _ _ _
  unfold f54_c
  have gA := Grow.new (Nat.le_refl h.nx.nat) (.cells 2 [.i .i64 0, .i .i64 0])
  have a1 : (h.new (.cells 2 [.i .i64 0, .i .i64 0])).get h.nx = .cells 2 [.i .i64 0, .i .i64 0] := get_new_same
  have n1 := nx_new h (.cells 2 [.i .i64 0, .i .i64 0])
  have e1 := fun h P => f73_eq (h := h) (P := P) k73 ha hb (.inr (by omega))
  have hg : Int.gcd a b ≠ 0 := fun e => by have := (Int.gcd_eq_zero_iff.1 e).2; omega
  have hr := fr_div (a := a) (b := b) (by omega)
  rw [if_neg (by omega)] at hr
  have hst := fun x y => store2 (x := x) (y := y) a1
  have d2 : decide ((Int.gcd a b : Int) = 0) = false := decide_eq_false (by omega)
  have q1 := tdiv63 (c := (Int.gcd a b : Int)) ha
  have q2 := tdiv63 (c := (Int.gcd a b : Int)) hb
  have rd := read2 (h := (h.new (.cells 2 [.i .i64 0, .i .i64 0])).put h.nx (.cells 2 [.i .i64 (a.tdiv (Int.gcd a b : Int)), .i .i64 (b.tdiv (Int.gcd a b : Int))])) (id := h.nx) get_put_same
  simp (disch := omega) only [f54_r0, f54_r1, f54_r2, f54_rs, Option.some.injEq, exists_eq_left', Nat.reduceEqDiff, ↓reduceIte, e1, q1, q2, hst, rd, bz]
  exact ⟨by unfold frL; rw [hr.1, hr.2], gA.trans (Grow.put (Nat.le_refl _) (by omega) _)⟩
theorem tdv {x g : Int} (hx : x.natAbs ≤ M63) (hg : g ∣ x) : fw .i64 (x.tdiv g) = x / g := by rw [tdiv63 hx, Int.tdiv_eq_ediv_of_dvd hg]
theorem gN {a b : Int} (h : b ≠ 0) : ((Int.gcd a b : Nat) : Int) ≠ 0 := fun e => h (Int.gcd_eq_zero_iff.1 (Int.natCast_eq_zero.1 e)).2
theorem ed_pos {x g : Int} (hx : 0 < x) (hg : 0 ≤ g) (hd : g ∣ x) : 0 < x / g := by
  obtain ⟨c, rfl⟩ := hd
  have hg0 : g ≠ 0 := fun e => by rw [e, Int.zero_mul] at hx; omega
  rw [Int.mul_ediv_cancel_left _ hg0]
  rcases Int.lt_trichotomy c 0 with h | h | h
  · have := Int.mul_nonpos_of_nonneg_of_nonpos hg (Int.le_of_lt h); omega
  · rw [h, Int.mul_zero] at hx; omega
  · exact h
theorem den_pos {q : Rat} : (0 : Int) < (q.den : Int) := by have := q.den_nz; omega
theorem f75_ret (k54 : fs.get (.ofNat 54) = some f54) (k73 : fs.get (.ofNat 73) = some f73) (hp1 : p.num.natAbs ≤ M63) (hp2 : (p.den : Int).natAbs ≤ M63) (hq1 : q.num.natAbs ≤ M63) (hq2 : (q.den : Int).natAbs ≤ M63) (hb1 : (p.num / (Int.gcd p.num (q.den : Int) : Int) * (q.num / (Int.gcd q.num (p.den : Int) : Int))).natAbs ≤ M63) (hb2 : ((p.den : Int) / (Int.gcd q.num (p.den : Int) : Int) * ((q.den : Int) / (Int.gcd p.num (q.den : Int) : Int))).natAbs ≤ M63) : Ret fs f75 [.agg (frL p), .agg (frL q)] h fun r h' => r = .agg (frL (p * q)) ∧ Grow h.nx.nat h h' := by
  apply ret_of rfl
  show W fs none f75_c _ _ _
  unfold f75_c frL
  have gA := Grow.new (Nat.le_refl h.nx.nat) (.cells 2 [.i .i64 p.num, .i .i64 (p.den : Int)])
  have n1 := nx_new h (.cells 2 [.i .i64 p.num, .i .i64 (p.den : Int)])
  have b1 : (h.new (.cells 2 [.i .i64 p.num, .i .i64 (p.den : Int)])).get h.nx = .cells 2 [.i .i64 p.num, .i .i64 (p.den : Int)] := get_new_same
  simp (disch := omega) only [f75_r0, Nat.reduceEqDiff, ↓reduceIte, bz]
  generalize h.new (.cells 2 [.i .i64 p.num, .i .i64 (p.den : Int)]) = hA at *
  have gB := Grow.new (Nat.le_refl hA.nx.nat) (.cells 2 [.i .i64 q.num, .i .i64 (q.den : Int)])
  have n2 := nx_new hA (.cells 2 [.i .i64 q.num, .i .i64 (q.den : Int)])
  have c1 : (hA.new (.cells 2 [.i .i64 q.num, .i .i64 (q.den : Int)])).get h.nx = .cells 2 [.i .i64 p.num, .i .i64 (p.den : Int)] := (get_new_old (by omega)).trans b1
  have c2 : (hA.new (.cells 2 [.i .i64 q.num, .i .i64 (q.den : Int)])).get hA.nx = .cells 2 [.i .i64 q.num, .i .i64 (q.den : Int)] := get_new_same
  have hB2 : hA.nx.nat < (hA.new (.cells 2 [.i .i64 q.num, .i .i64 (q.den : Int)])).nx.nat := by omega
  have GB := gA.trans (gB.low gA.nx)
  generalize hA.nx = i2 at *
  generalize hA.new (.cells 2 [.i .i64 q.num, .i .i64 (q.den : Int)]) = hB at *
  have gC := Grow.new (Nat.le_refl hB.nx.nat) (.cells 2 [.i .i64 0, .i .i64 0])
  have n3 := nx_new hB (.cells 2 [.i .i64 0, .i .i64 0])
  have d1 : (hB.new (.cells 2 [.i .i64 0, .i .i64 0])).get h.nx = .cells 2 [.i .i64 p.num, .i .i64 (p.den : Int)] := (get_new_old (by omega)).trans c1
  have d2 : (hB.new (.cells 2 [.i .i64 0, .i .i64 0])).get i2 = .cells 2 [.i .i64 q.num, .i .i64 (q.den : Int)] := (get_new_old (by omega)).trans c2
  have d3 : (hB.new (.cells 2 [.i .i64 0, .i .i64 0])).get hB.nx = .cells 2 [.i .i64 0, .i .i64 0] := get_new_same
  have GC := GB.trans (gC.low GB.nx)
  generalize hB.nx = i3 at *
  generalize hB.new (.cells 2 [.i .i64 0, .i .i64 0]) = hC at *
  have l1 : loadV hC (.p h.nx 0) one? = .ok (.i .i64 p.num) hC := load_p d1 rfl
  have l2 : loadV hC (.p h.nx 1) one? = .ok (.i .i64 (p.den : Int)) hC := load_p d1 rfl
  have l3 : loadV hC (.p i2 0) one? = .ok (.i .i64 q.num) hC := load_p d2 rfl
  have l4 : loadV hC (.p i2 1) one? = .ok (.i .i64 (q.den : Int)) hC := load_p d2 rfl
  have hw2 : 0 < (p.den : Int) / (Int.gcd q.num (p.den : Int) : Int) * ((q.den : Int) / (Int.gcd p.num (q.den : Int) : Int)) := Int.mul_pos (ed_pos den_pos (by omega) gR) (ed_pos den_pos (by omega) gR)
  have e1 := fun h P => f73_eq (h := h) (P := P) k73 hp1 hq2 (.inr rat_den)
  have e2 := fun h P => f73_eq (h := h) (P := P) k73 hq1 hp2 (.inr rat_den)
  have z1 : ((Int.gcd p.num (q.den : Int) : Nat) : Int) ≠ 0 := gN rat_den
  have z2 : ((Int.gcd q.num (p.den : Int) : Nat) : Int) ≠ 0 := gN rat_den
  have t1 := tdv hp1 (gL (a := p.num) (b := (q.den : Int)))
  have t2 := tdv hq1 (gL (a := q.num) (b := (p.den : Int)))
  have t3 := tdv hp2 (gR (a := q.num) (b := (p.den : Int)))
  have t4 := tdv hq2 (gR (a := p.num) (b := (q.den : Int)))
  have m1 := fw_63 hb1
  have m2 := fw_63 hb2
  simp (disch := omega) only [f75_r1, f75_r2, Nat.reduceEqDiff, ↓reduceIte, l1, l2, l3, l4, e1, e2, t1, t2, t3, t4, m1, m2, bz]
  refine (callP_0 (ef := f54) k54 rfl (f54_ret k73 hb1 hb2 hw2)).mono ?_
  rintro r h' ⟨rfl, g⟩
  have st := store2 (h := h') (id := i3) (x := .i .i64 (Rat.divInt (p.num / (Int.gcd p.num (q.den : Int) : Int) * (q.num / (Int.gcd q.num (p.den : Int) : Int))) ((p.den : Int) / (Int.gcd q.num (p.den : Int) : Int) * ((q.den : Int) / (Int.gcd p.num (q.den : Int) : Int)))).num) (y := .i .i64 ((Rat.divInt (p.num / (Int.gcd p.num (q.den : Int) : Int) * (q.num / (Int.gcd q.num (p.den : Int) : Int))) ((p.den : Int) / (Int.gcd q.num (p.den : Int) : Int) * ((q.den : Int) / (Int.gcd p.num (q.den : Int) : Int)))).den : Int)) ((g.old _ (by omega)).trans d3)
  have rd := read2 (h := h'.put i3 (.cells 2 [.i .i64 (Rat.divInt (p.num / (Int.gcd p.num (q.den : Int) : Int) * (q.num / (Int.gcd q.num (p.den : Int) : Int))) ((p.den : Int) / (Int.gcd q.num (p.den : Int) : Int) * ((q.den : Int) / (Int.gcd p.num (q.den : Int) : Int)))).num, .i .i64 ((Rat.divInt (p.num / (Int.gcd p.num (q.den : Int) : Int) * (q.num / (Int.gcd q.num (p.den : Int) : Int))) ((p.den : Int) / (Int.gcd q.num (p.den : Int) : Int) * ((q.den : Int) / (Int.gcd p.num (q.den : Int) : Int)))).den : Int)])) (id := i3) get_put_same
  have := g.nx
  unfold frL
  simp (disch := omega) only [f75_rs, Option.some.injEq, exists_eq_left', Nat.reduceEqDiff, ↓reduceIte, st, rd, bz]
  exact ⟨by rw [rat_mul' (gN rat_den) (gN rat_den) gL gR gL gR], (GC.trans (g.low (by omega))).trans (Grow.put (by omega) (by omega) _)⟩
theorem f74_ret (k54 : fs.get (.ofNat 54) = some f54) (k73 : fs.get (.ofNat 73) = some f73) (hp2 : (p.den : Int).natAbs ≤ M63) (hq2 : (q.den : Int).natAbs ≤ M63) (hb1 : (p.num * ((q.den : Int) / (Int.gcd (p.den : Int) (q.den : Int) : Int)) + q.num * ((p.den : Int) / (Int.gcd (p.den : Int) (q.den : Int) : Int))).natAbs ≤ M63) (hb2 : ((p.den : Int) / (Int.gcd (p.den : Int) (q.den : Int) : Int) * (q.den : Int)).natAbs ≤ M63) (hb3 : (p.num * ((q.den : Int) / (Int.gcd (p.den : Int) (q.den : Int) : Int))).natAbs ≤ M63) (hb4 : (q.num * ((p.den : Int) / (Int.gcd (p.den : Int) (q.den : Int) : Int))).natAbs ≤ M63) : Ret fs f74 [.agg (frL p), .agg (frL q)] h fun r h' => r = .agg (frL (p + q)) ∧ Grow h.nx.nat h h' := by
  apply ret_of rfl
  show W fs none f74_c _ _ _
  unfold f74_c frL
  have gA := Grow.new (Nat.le_refl h.nx.nat) (.cells 2 [.i .i64 p.num, .i .i64 (p.den : Int)])
  have n1 := nx_new h (.cells 2 [.i .i64 p.num, .i .i64 (p.den : Int)])
  have b1 : (h.new (.cells 2 [.i .i64 p.num, .i .i64 (p.den : Int)])).get h.nx = .cells 2 [.i .i64 p.num, .i .i64 (p.den : Int)] := get_new_same
  simp (disch := omega) only [f74_r0, Nat.reduceEqDiff, ↓reduceIte, bz]
  generalize h.new (.cells 2 [.i .i64 p.num, .i .i64 (p.den : Int)]) = hA at *
  have gB := Grow.new (Nat.le_refl hA.nx.nat) (.cells 2 [.i .i64 q.num, .i .i64 (q.den : Int)])
  have n2 := nx_new hA (.cells 2 [.i .i64 q.num, .i .i64 (q.den : Int)])
  have c1 : (hA.new (.cells 2 [.i .i64 q.num, .i .i64 (q.den : Int)])).get h.nx = .cells 2 [.i .i64 p.num, .i .i64 (p.den : Int)] := (get_new_old (by omega)).trans b1
  have c2 : (hA.new (.cells 2 [.i .i64 q.num, .i .i64 (q.den : Int)])).get hA.nx = .cells 2 [.i .i64 q.num, .i .i64 (q.den : Int)] := get_new_same
  have hB2 : hA.nx.nat < (hA.new (.cells 2 [.i .i64 q.num, .i .i64 (q.den : Int)])).nx.nat := by omega
  have GB := gA.trans (gB.low gA.nx)
  generalize hA.nx = i2 at *
  generalize hA.new (.cells 2 [.i .i64 q.num, .i .i64 (q.den : Int)]) = hB at *
  have gC := Grow.new (Nat.le_refl hB.nx.nat) (.cells 2 [.i .i64 0, .i .i64 0])
  have n3 := nx_new hB (.cells 2 [.i .i64 0, .i .i64 0])
  have d1 : (hB.new (.cells 2 [.i .i64 0, .i .i64 0])).get h.nx = .cells 2 [.i .i64 p.num, .i .i64 (p.den : Int)] := (get_new_old (by omega)).trans c1
  have d2 : (hB.new (.cells 2 [.i .i64 0, .i .i64 0])).get i2 = .cells 2 [.i .i64 q.num, .i .i64 (q.den : Int)] := (get_new_old (by omega)).trans c2
  have d3 : (hB.new (.cells 2 [.i .i64 0, .i .i64 0])).get hB.nx = .cells 2 [.i .i64 0, .i .i64 0] := get_new_same
  have GC := GB.trans (gC.low GB.nx)
  generalize hB.nx = i3 at *
  generalize hB.new (.cells 2 [.i .i64 0, .i .i64 0]) = hC at *
  have l1 : loadV hC (.p h.nx 0) one? = .ok (.i .i64 p.num) hC := load_p d1 rfl
  have l2 : loadV hC (.p h.nx 1) one? = .ok (.i .i64 (p.den : Int)) hC := load_p d1 rfl
  have l3 : loadV hC (.p i2 0) one? = .ok (.i .i64 q.num) hC := load_p d2 rfl
  have l4 : loadV hC (.p i2 1) one? = .ok (.i .i64 (q.den : Int)) hC := load_p d2 rfl
  have hw2 : 0 < (p.den : Int) / (Int.gcd (p.den : Int) (q.den : Int) : Int) * (q.den : Int) := Int.mul_pos (ed_pos den_pos (by omega) gL) den_pos
  have e1 := fun h P => f73_eq (h := h) (P := P) k73 hp2 hq2 (.inr rat_den)
  have z1 : ((Int.gcd (p.den : Int) (q.den : Int) : Nat) : Int) ≠ 0 := gN rat_den
  have t1 := tdv hp2 (gL (a := (p.den : Int)) (b := (q.den : Int)))
  have t2 := tdv hq2 (gR (a := (p.den : Int)) (b := (q.den : Int)))
  have m1 := fw_63 hb1
  have m2 := fw_63 hb2
  have m3 := fw_63 hb3
  have m4 := fw_63 hb4
  simp (disch := omega) only [f74_r1, f74_r2, x_iadr, Nat.reduceEqDiff, ↓reduceIte, l1, l2, l3, l4, e1, t1, t2, m1, m2, m3, m4, bz]
  refine (callP_0 (ef := f54) k54 rfl (f54_ret k73 hb1 hb2 hw2)).mono ?_
  rintro r h' ⟨rfl, g⟩
  have st := store2 (h := h') (id := i3) (x := .i .i64 (Rat.divInt (p.num * ((q.den : Int) / (Int.gcd (p.den : Int) (q.den : Int) : Int)) + q.num * ((p.den : Int) / (Int.gcd (p.den : Int) (q.den : Int) : Int))) ((p.den : Int) / (Int.gcd (p.den : Int) (q.den : Int) : Int) * (q.den : Int))).num) (y := .i .i64 ((Rat.divInt (p.num * ((q.den : Int) / (Int.gcd (p.den : Int) (q.den : Int) : Int)) + q.num * ((p.den : Int) / (Int.gcd (p.den : Int) (q.den : Int) : Int))) ((p.den : Int) / (Int.gcd (p.den : Int) (q.den : Int) : Int) * (q.den : Int))).den : Int)) ((g.old _ (by omega)).trans d3)
  have rd := read2 (h := h'.put i3 (.cells 2 [.i .i64 (Rat.divInt (p.num * ((q.den : Int) / (Int.gcd (p.den : Int) (q.den : Int) : Int)) + q.num * ((p.den : Int) / (Int.gcd (p.den : Int) (q.den : Int) : Int))) ((p.den : Int) / (Int.gcd (p.den : Int) (q.den : Int) : Int) * (q.den : Int))).num, .i .i64 ((Rat.divInt (p.num * ((q.den : Int) / (Int.gcd (p.den : Int) (q.den : Int) : Int)) + q.num * ((p.den : Int) / (Int.gcd (p.den : Int) (q.den : Int) : Int))) ((p.den : Int) / (Int.gcd (p.den : Int) (q.den : Int) : Int) * (q.den : Int))).den : Int)])) (id := i3) get_put_same
  have := g.nx
  unfold frL
  simp (disch := omega) only [f74_rs, Option.some.injEq, exists_eq_left', Nat.reduceEqDiff, ↓reduceIte, st, rd, bz]
  exact ⟨by rw [rat_add' (gN rat_den) gL gR], (GC.trans (g.low (by omega))).trans (Grow.put (by omega) (by omega) _)⟩
end
end Go.Ev
namespace Go.Ev
open Go Go.RowKit
noncomputable def f32_r0 : List EOper := [oG 2 (.as (.c (.b false)))]
noncomputable def f32_r1 : List EOper := [oG 3 (.as (cG 0))]
noncomputable def f32_r2 : List EOper := [oG 4 (.mv (tG 3)), oG 5 (.mv (tG 0)), oG 6 (.len (tG 5)), oG 7 (.bin .lss (tG 4) (tG 6))]
noncomputable def f32_r3 : List EOper := [oG 10 (.mv (tG 0)), oG 11 (.mv (tG 3)), oG 12 (.iads 1 (tG 10) (tG 11)), oG 13 (.ld (tG 12)), oG 14 (.bin .lss (tG 13) (.c (.i .i64 (.negSucc 99)))), oG 15 (.mv (tG 14)), gG 16 15 false (.mv (tG 0)), gG 17 15 false (.mv (tG 3)), gG 18 15 false (.iads 1 (tG 16) (tG 17)), gG 19 15 false (.ld (tG 18)), gG 20 15 false (.bin .gtr (tG 19) (cG 100)), oG 21 (.pick (tG 15) (.c (.b true)) (tG 20))]
noncomputable def f32_r4 : List EOper := [oG 2 (.as (.c (.b false)))]
noncomputable def f32_r5 : List EOper := [oG 8 (.mv (tG 3)), oG 9 (.bin .add (tG 8) (cG 1)), oG 3 (.as (tG 9))]
noncomputable def f32_l0 : EC := (.seq (.seq (.reg f32_r2) (.cond (tG 7) .skip (.exit 0))) (.seq (.block 1 (.seq (.reg f32_r3) (.cond (tG 21) (.seq (.reg f32_r4) .ret) .skip))) (.reg f32_r5)))
noncomputable def f32_r6 : List EOper := [oG 2 (.as (.c (.b true)))]
noncomputable def f32_c : EC := (.seq (.reg f32_r0) (.seq (.seq (.reg f32_r1) (.block 0 (.loop f32_l0))) (.seq (.reg f32_r6) .ret)))
noncomputable def f32 : EF := ⟨22, [.tmp (.ofNat 2)], f32_c, none⟩
noncomputable def f87_r0 : List EOper := [oG 2 (.as (cG 0))]
noncomputable def f87_r1 : List EOper := [oG 5 (.mv (tG 0)), oG 6 (.len (tG 5)), oG 7 (.bin .lss (tG 6) (cG 1))]
noncomputable def f87_r2 : List EOper := [⟨none, none, .no⟩, ⟨none, none, .no⟩]
noncomputable def f87_r3 : List EOper := [oG 9 (.mv (tG 0)), oG 10 (.iads 1 (tG 9) (cG 0)), oG 11 (.ld (tG 10)), oG 3 (.as (tG 11))]
noncomputable def f87_r4 : List EOper := [oG 4 (.as (cG 1))]
noncomputable def f87_r5 : List EOper := [oG 12 (.mv (tG 4)), oG 13 (.mv (tG 0)), oG 14 (.len (tG 13)), oG 15 (.bin .lss (tG 12) (tG 14))]
noncomputable def f87_r6 : List EOper := [oG 18 (.mv (tG 3)), oG 19 (.mv (tG 0)), oG 20 (.mv (tG 4)), oG 21 (.iads 1 (tG 19) (tG 20)), oG 22 (.ld (tG 21)), oG 23 (.min (tG 18) (tG 22)), oG 3 (.as (tG 23))]
noncomputable def f87_r7 : List EOper := [oG 16 (.mv (tG 4)), oG 17 (.bin .add (tG 16) (cG 1)), oG 4 (.as (tG 17))]
noncomputable def f87_l0 : EC := (.seq (.seq (.reg f87_r5) (.cond (tG 15) .skip (.exit 0))) (.seq (.block 1 (.reg f87_r6)) (.reg f87_r7)))
noncomputable def f87_r8 : List EOper := [oG 24 (.mv (tG 3)), oG 2 (.as (tG 24))]
noncomputable def f87_c : EC := (.seq (.reg f87_r0) (.seq (.seq (.reg f87_r1) (.cond (tG 7) (.reg f87_r2) .skip)) (.seq (.reg f87_r3) (.seq (.seq (.reg f87_r4) (.block 0 (.loop f87_l0))) (.seq (.reg f87_r8) .ret)))))
noncomputable def f87 : EF := ⟨25, [.tmp (.ofNat 2)], f87_c, none⟩
theorem f87_rs : f87.rs = [.tmp (.ofNat 2)] := of_eq_true (eq_self _)
noncomputable def f88_r0 : List EOper := [oG 2 (.as (cG 0))]
noncomputable def f88_r1 : List EOper := [oG 5 (.mv (tG 0)), oG 6 (.len (tG 5)), oG 7 (.bin .lss (tG 6) (cG 1))]
noncomputable def f88_r2 : List EOper := [⟨none, none, .no⟩, ⟨none, none, .no⟩]
noncomputable def f88_r3 : List EOper := [oG 9 (.mv (tG 0)), oG 10 (.iads 1 (tG 9) (cG 0)), oG 11 (.ld (tG 10)), oG 3 (.as (tG 11))]
noncomputable def f88_r4 : List EOper := [oG 4 (.as (cG 1))]
noncomputable def f88_r5 : List EOper := [oG 12 (.mv (tG 4)), oG 13 (.mv (tG 0)), oG 14 (.len (tG 13)), oG 15 (.bin .lss (tG 12) (tG 14))]
noncomputable def f88_r6 : List EOper := [oG 18 (.mv (tG 3)), oG 19 (.mv (tG 0)), oG 20 (.mv (tG 4)), oG 21 (.iads 1 (tG 19) (tG 20)), oG 22 (.ld (tG 21)), oG 23 (.max (tG 18) (tG 22)), oG 3 (.as (tG 23))]
noncomputable def f88_r7 : List EOper := [oG 16 (.mv (tG 4)), oG 17 (.bin .add (tG 16) (cG 1)), oG 4 (.as (tG 17))]
noncomputable def f88_l0 : EC := (.seq (.seq (.reg f88_r5) (.cond (tG 15) .skip (.exit 0))) (.seq (.block 1 (.reg f88_r6)) (.reg f88_r7)))
noncomputable def f88_r8 : List EOper := [oG 24 (.mv (tG 3)), oG 2 (.as (tG 24))]
noncomputable def f88_c : EC := (.seq (.reg f88_r0) (.seq (.seq (.reg f88_r1) (.cond (tG 7) (.reg f88_r2) .skip)) (.seq (.reg f88_r3) (.seq (.seq (.reg f88_r4) (.block 0 (.loop f88_l0))) (.seq (.reg f88_r8) .ret)))))
noncomputable def f88 : EF := ⟨25, [.tmp (.ofNat 2)], f88_c, none⟩
theorem f88_rs : f88.rs = [.tmp (.ofNat 2)] := of_eq_true (eq_self _)
noncomputable def f56_r0 : List EOper := [oG 2 (.as (.c (.b false)))]
noncomputable def f56_r1 : List EOper := [oG 3 (.mv (tG 0)), oG 4 (.len (tG 3)), oG 5 (.bin .lss (tG 4) (cG 1)), oG 6 (.mv (tG 5)), gG 7 6 false (.mv (tG 0)), gG 8 6 false (.len (tG 7)), gG 9 6 false (.bin .gtr (tG 8) (cG 7)), oG 10 (.pick (tG 6) (.c (.b true)) (tG 9))]
noncomputable def f56_r2 : List EOper := [oG 2 (.as (.c (.b false)))]
noncomputable def f56_r3 : List EOper := [oG 11 (.mv (tG 0)), oG 12 (.call (fG 87) [(tG 11)]), oG 13 (.bin .geq (tG 12) (.c (.i .i64 (.negSucc 99)))), oG 14 (.mv (tG 13)), gG 15 14 true (.mv (tG 0)), gG 16 14 true (.call (fG 88) [(tG 15)]), gG 17 14 true (.bin .leq (tG 16) (cG 100)), oG 18 (.pick (tG 14) (tG 17) (.c (.b false))), oG 2 (.as (tG 18))]
noncomputable def f56_c : EC := (.seq (.reg f56_r0) (.seq (.seq (.reg f56_r1) (.cond (tG 10) (.seq (.reg f56_r2) .ret) .skip)) (.seq (.reg f56_r3) .ret)))
noncomputable def f56 : EF := ⟨19, [.tmp (.ofNat 2)], f56_c, none⟩
theorem f56_rs : f56.rs = [.tmp (.ofNat 2)] := of_eq_true (eq_self _)
noncomputable def f14_r0 : List EOper := [oG 2 (.as (cG 0))]
noncomputable def f14_r1 : List EOper := [oG 3 (.mv (tG 0)), oG 4 (.call (fG 56) [(tG 3)]), oG 5 (.not (tG 4))]
noncomputable def f14_r2 : List EOper := [oG 2 (.as (cG 80))]
noncomputable def f14_r3 : List EOper := [oG 2 (.as (cG 0))]
noncomputable def f14_c : EC := (.seq (.reg f14_r0) (.seq (.seq (.reg f14_r1) (.cond (tG 5) (.seq (.reg f14_r2) .ret) .skip)) (.seq (.reg f14_r3) .ret)))
noncomputable def f14 : EF := ⟨6, [.tmp (.ofNat 2)], f14_c, none⟩
theorem f14_rs : f14.rs = [.tmp (.ofNat 2)] := of_eq_true (eq_self _)
noncomputable def f12_r0 : List EOper := [oG 4 (.as (.c .sn))]
noncomputable def f12_r1 : List EOper := [oG 5 (.as (.c .sn))]
noncomputable def f12_r2 : List EOper := [oG 6 (.mv (tG 5)), oG 7 (.mv (tG 0)), oG 8 (.mv (tG 0)), oG 9 (.len (tG 8)), oG 10 (.mv (tG 1)), oG 11 (.min (tG 9) (tG 10)), oG 12 (.slice 1 (tG 7) none (some (tG 11)) none), oG 13 (.app 1 (tG 6) (tG 12)), oG 4 (.as (tG 13))]
noncomputable def f12_c : EC := (.seq (.reg f12_r0) (.seq (.reg f12_r1) (.seq (.reg f12_r2) .ret)))
noncomputable def f12 : EF := ⟨14, [.tmp (.ofNat 4)], f12_c, none⟩
theorem f12_rs : f12.rs = [.tmp (.ofNat 4)] := of_eq_true (eq_self _)
noncomputable def f33_r0 : List EOper := [oG 4 (.as (.c (.b false)))]
noncomputable def f33_r1 : List EOper := [oG 6 (.mv (tG 0)), oG 7 (.len (tG 6)), oG 8 (.mv (tG 1)), oG 9 (.len (tG 8)), oG 10 (.bin .neq (tG 7) (tG 9))]
noncomputable def f33_r2 : List EOper := [oG 4 (.as (.c (.b false)))]
noncomputable def f33_r3 : List EOper := [oG 5 (.as (cG 0))]
noncomputable def f33_r4 : List EOper := [oG 11 (.mv (tG 5)), oG 12 (.mv (tG 0)), oG 13 (.len (tG 12)), oG 14 (.bin .lss (tG 11) (tG 13))]
noncomputable def f33_r5 : List Stage := [⟨[oG 17 (.mv (tG 0)), oG 18 (.mv (tG 5)), oG 19 (.iads 1 (tG 17) (tG 18)), oG 20 (.ld (tG 19)), oG 21 (.mv (tG 1)), oG 22 (.mv (tG 5)), oG 23 (.iads 1 (tG 21) (tG 22)), oG 24 (.ld (tG 23)), oG 25 (.bin .neq (tG 20) (tG 24))], [], none, []⟩]
noncomputable def f33_r6 : List EOper := [oG 4 (.as (.c (.b false)))]
noncomputable def f33_r7 : List EOper := [oG 15 (.mv (tG 5)), oG 16 (.bin .add (tG 15) (cG 1)), oG 5 (.as (tG 16))]
noncomputable def f33_l0 : EC := (.seq (.seq (.reg f33_r4) (.cond (tG 14) .skip (.exit 0))) (.seq (.block 1 (.seq (.draw f33_r5) (.cond (tG 25) (.seq (.reg f33_r6) .ret) .skip))) (.reg f33_r7)))
noncomputable def f33_r8 : List EOper := [oG 4 (.as (.c (.b true)))]
noncomputable def f33_c : EC := (.seq (.reg f33_r0) (.seq (.seq (.reg f33_r1) (.cond (tG 10) (.seq (.reg f33_r2) .ret) .skip)) (.seq (.seq (.reg f33_r3) (.block 0 (.loop f33_l0))) (.seq (.reg f33_r8) .ret))))
noncomputable def f33 : EF := ⟨26, [.tmp (.ofNat 4)], f33_c, none⟩
theorem f33_rs : f33.rs = [.tmp (.ofNat 4)] := of_eq_true (eq_self _)
noncomputable def f26_r0 : List EOper := [oG 2 (.as (.c .sn))]
noncomputable def f26_r1 : List EOper := [oG 5 (.bslice 0 1 [] []), oG 3 (.as (tG 5))]
noncomputable def f26_r2 : List EOper := [oG 4 (.as (cG 0))]
noncomputable def f26_r3 : List EOper := [oG 6 (.mv (tG 4)), oG 7 (.mv (tG 0)), oG 8 (.len (tG 7)), oG 9 (.bin .lss (tG 6) (tG 8)), oG 10 (.mv (tG 9)), gG 11 10 true (.mv (tG 4)), gG 12 10 true (.bin .lss (tG 11) (cG 7)), oG 13 (.pick (tG 10) (tG 12) (.c (.b false)))]
noncomputable def f26_r4 : List EOper := [oG 16 (.mv (tG 3)), oG 17 (.mv (tG 0)), oG 18 (.mv (tG 4)), oG 19 (.iads 1 (tG 17) (tG 18)), oG 20 (.ld (tG 19)), oG 21 (.conv .u64 (tG 20)), oG 22 (.bin .rem (tG 21) (.c (.i .u64 (.ofNat 201)))), oG 23 (.conv .i64 (tG 22)), oG 24 (.bin .sub (tG 23) (cG 100)), oG 25 (.bslice 1 1 [(.i .i64 (.ofNat 0))] [(0, 1, (tG 24))]), oG 26 (.app 1 (tG 16) (tG 25)), oG 3 (.as (tG 26))]
noncomputable def f26_r5 : List EOper := [oG 14 (.mv (tG 4)), oG 15 (.bin .add (tG 14) (cG 1)), oG 4 (.as (tG 15))]
noncomputable def f26_l0 : EC := (.seq (.seq (.reg f26_r3) (.cond (tG 13) .skip (.exit 0))) (.seq (.block 1 (.reg f26_r4)) (.reg f26_r5)))
noncomputable def f26_r6 : List EOper := [oG 27 (.mv (tG 3)), oG 28 (.len (tG 27)), oG 29 (.bin .eql (tG 28) (cG 0))]
noncomputable def f26_r7 : List EOper := [oG 30 (.mv (tG 3)), oG 31 (.bslice 1 1 [(.i .i64 (.ofNat 0))] [(0, 1, (cG 1))]), oG 32 (.app 1 (tG 30) (tG 31)), oG 3 (.as (tG 32))]
noncomputable def f26_r8 : List EOper := [oG 33 (.mv (tG 3)), oG 2 (.as (tG 33))]
noncomputable def f26_c : EC := (.seq (.reg f26_r0) (.seq (.reg f26_r1) (.seq (.seq (.reg f26_r2) (.block 0 (.loop f26_l0))) (.seq (.seq (.reg f26_r6) (.cond (tG 29) (.reg f26_r7) .skip)) (.seq (.reg f26_r8) .ret)))))
noncomputable def f26 : EF := ⟨34, [.tmp (.ofNat 2)], f26_c, none⟩
theorem f26_rs : f26.rs = [.tmp (.ofNat 2)] := of_eq_true (eq_self _)
theorem ng99 : Int.negSucc 99 = -100 := of_eq_true (eq_self _)
theorem of80 : Int.ofNat 80 = 80 := of_eq_true (eq_self _)
theorem of201 : Int.ofNat 201 = 201 := of_eq_true (eq_self _)
def bigB (x : Int) : Bool := decide (x < -100) || decide (x > 100)
def smB (L : List Int) : Bool := !L.any bigB
def plB (L : List Int) : Bool := decide (1 ≤ L.length) && (decide (L.length ≤ 7) && smB L)
theorem plB_len {L : List Int} (h : plB L = true) : 1 ≤ L.length ∧ L.length ≤ 7 ∧ smB L = true := by
  unfold plB at h
  rw [Bool.and_eq_true, Bool.and_eq_true, decide_eq_true_eq, decide_eq_true_eq] at h
  exact ⟨h.1, h.2.1, h.2.2⟩
theorem sm_get {L : List Int} (h : smB L = true) (i : Nat) : -100 ≤ L.getD i 0 ∧ L.getD i 0 ≤ 100 := by
  unfold smB at h
  rw [Bool.not_eq_true', List.any_eq_false] at h
  rw [List.getD_eq_getElem?_getD]
  by_cases hi : i < L.length
  · rw [List.getElem?_eq_getElem hi]
    have := h _ (List.getElem_mem hi)
    unfold bigB at this
    rw [Bool.or_eq_true, decide_eq_true_eq, decide_eq_true_eq] at this
    show -100 ≤ L[i] ∧ L[i] ≤ 100
    omega
  · rw [List.getElem?_eq_none (by omega)]; decide
section
variable {fs : T EF} {h : H} {v : V} {L : List Int}
def f87_I (h0 : H) (v : V) (L : List Int) (s : Nat × Int) (fr : Fr) (h1 : H) : Prop := 1 ≤ s.1 ∧ s.1 ≤ L.length ∧ s.2 ∈ L ∧ (∀ i (hi : i < L.length), i < s.1 → s.2 ≤ L[i]) ∧ h1 = h0 ∧ fr.get (K.ofNat 0) = some (v) ∧ fr.get (K.ofNat 3) = some (.i .i64 s.2) ∧ fr.get (K.ofNat 4) = some (.i .i64 (s.1 : Int))
theorem f87_ret (hv : Sr iE h v L) (h1 : 1 ≤ L.length) (hL : L.length ≤ 1000000) : Ret fs f87 [v] h fun r h' => (∃ m, r = .i .i64 m ∧ m ∈ L ∧ ∀ i (hi : i < L.length), m ≤ L[i]) ∧ h' = h := by
  apply ret_of rfl
  show W fs none f87_c _ _ _
  unfold f87_c
  have e1 := hv.len
  have d0 : decide ((L.length : Int) < 1) = false := decide_eq_false (by omega)
  obtain ⟨p, p1, p2⟩ := hv.at 0 (by omega)
  have p1 : ∀ k h1, iadsV 1 v (.i k 0) h1 = .ok p h1 := p1
  have p2 : loadV h p one? = .ok (.i .i64 L[0]) h := p2
  simp (disch := omega) only [f87_r0, f87_r1, f87_r3, f87_r4, Nat.reduceEqDiff, ↓reduceIte, Bool.false_eq_true, e1, d0, p1, p2, bz]
  refine W_loop (f87_I h v L) (fun s => L.length - s.1) ?_ (1, L[0]) ⟨Nat.le_refl _, h1, List.getElem_mem _, fun i hi h => by
    have : i = 0 := by omega
    subst this; exact Int.le_refl _, rfl, by simp (disch := omega) only [getK_set, Nat.reduceEqDiff, ↓reduceIte, and_self, Int.natCast_one]⟩
  rintro ⟨j, m⟩ fr h2 ⟨a1, a2, a3, a4, rfl, g0, g3, g4⟩
  have a1 : 1 ≤ j := a1
  have a2 : j ≤ L.length := a2
  have a3 : m ∈ L := a3
  have g3 : fr.get (K.ofNat 3) = some (.i .i64 m) := g3
  have g4 : fr.get (K.ofNat 4) = some (.i .i64 (j : Int)) := g4
  unfold f87_l0
  by_cases hlt : j < L.length
  · have d1 : decide ((j : Int) < (L.length : Int)) = true := decide_eq_true (by omega)
    have e4 : fw .i64 ((j : Int) + 1) = ((j + 1 : Nat) : Int) := by rw [fw64 (by omega) (by omega)]; rfl
    obtain ⟨q, q1, q2⟩ := hv.at j hlt
    have q2 : loadV h2 q one? = .ok (.i .i64 L[j]) h2 := q2
    simp (disch := omega) only [f87_r5, f87_r6, f87_r7, x_min, min_ii, Nat.reduceEqDiff, ↓reduceIte, g0, g3, g4, e1, d1, q1, q2, e4, bz]
    refine ⟨(j + 1, min m L[j]), by show L.length - (j + 1) < L.length - j; omega, by show 1 ≤ j + 1; omega, by show j + 1 ≤ L.length; omega, ?_, fun i hi h => ?_, rfl, by simp (disch := omega) only [getK_set, Nat.reduceEqDiff, ↓reduceIte, g0, and_self]⟩
    · show min m L[j] ∈ L
      by_cases hm : m ≤ L[j]
      · rw [show min m L[j] = m by omega]; exact a3
      · rw [show min m L[j] = L[j] by omega]; exact List.getElem_mem _
    · have h : i < j + 1 := h
      show min m L[j] ≤ L[i]
      by_cases e : i = j
      · subst e; omega
      · have : m ≤ L[i] := a4 i hi (show i < j by omega)
        omega
  · have d1 : decide ((j : Int) < (L.length : Int)) = false := decide_eq_false (by omega)
    simp (disch := omega) only [f87_r5, f87_r8, f87_rs, Option.some.injEq, exists_eq_left', Nat.reduceEqDiff, ↓reduceIte, Bool.false_eq_true, g0, g3, g4, e1, d1, bz]
    exact ⟨⟨m, rfl, a3, fun i hi => a4 i hi (show i < j by omega)⟩, trivial⟩
def f88_I (h0 : H) (v : V) (L : List Int) (s : Nat × Int) (fr : Fr) (h1 : H) : Prop := 1 ≤ s.1 ∧ s.1 ≤ L.length ∧ s.2 ∈ L ∧ (∀ i (hi : i < L.length), i < s.1 → L[i] ≤ s.2) ∧ h1 = h0 ∧ fr.get (K.ofNat 0) = some (v) ∧ fr.get (K.ofNat 3) = some (.i .i64 s.2) ∧ fr.get (K.ofNat 4) = some (.i .i64 (s.1 : Int))
theorem f88_ret (hv : Sr iE h v L) (h1 : 1 ≤ L.length) (hL : L.length ≤ 1000000) : Ret fs f88 [v] h fun r h' => (∃ m, r = .i .i64 m ∧ m ∈ L ∧ ∀ i (hi : i < L.length), L[i] ≤ m) ∧ h' = h := by
  apply ret_of rfl
  show W fs none f88_c _ _ _
  unfold f88_c
  have e1 := hv.len
  have d0 : decide ((L.length : Int) < 1) = false := decide_eq_false (by omega)
  obtain ⟨p, p1, p2⟩ := hv.at 0 (by omega)
  have p1 : ∀ k h1, iadsV 1 v (.i k 0) h1 = .ok p h1 := p1
  have p2 : loadV h p one? = .ok (.i .i64 L[0]) h := p2
  simp (disch := omega) only [f88_r0, f88_r1, f88_r3, f88_r4, Nat.reduceEqDiff, ↓reduceIte, Bool.false_eq_true, e1, d0, p1, p2, bz]
  refine W_loop (f88_I h v L) (fun s => L.length - s.1) ?_ (1, L[0]) ⟨Nat.le_refl _, h1, List.getElem_mem _, fun i hi h => by
    have : i = 0 := by omega
    subst this; exact Int.le_refl _, rfl, by simp (disch := omega) only [getK_set, Nat.reduceEqDiff, ↓reduceIte, and_self, Int.natCast_one]⟩
  rintro ⟨j, m⟩ fr h2 ⟨a1, a2, a3, a4, rfl, g0, g3, g4⟩
  have a1 : 1 ≤ j := a1
  have a2 : j ≤ L.length := a2
  have a3 : m ∈ L := a3
  have g3 : fr.get (K.ofNat 3) = some (.i .i64 m) := g3
  have g4 : fr.get (K.ofNat 4) = some (.i .i64 (j : Int)) := g4
  unfold f88_l0
  by_cases hlt : j < L.length
  · have d1 : decide ((j : Int) < (L.length : Int)) = true := decide_eq_true (by omega)
    have e4 : fw .i64 ((j : Int) + 1) = ((j + 1 : Nat) : Int) := by rw [fw64 (by omega) (by omega)]; rfl
    obtain ⟨q, q1, q2⟩ := hv.at j hlt
    have q2 : loadV h2 q one? = .ok (.i .i64 L[j]) h2 := q2
    simp (disch := omega) only [f88_r5, f88_r6, f88_r7, x_max, max_ii, Nat.reduceEqDiff, ↓reduceIte, g0, g3, g4, e1, d1, q1, q2, e4, bz]
    refine ⟨(j + 1, max m L[j]), by show L.length - (j + 1) < L.length - j; omega, by show 1 ≤ j + 1; omega, by show j + 1 ≤ L.length; omega, ?_, fun i hi h => ?_, rfl, by simp (disch := omega) only [getK_set, Nat.reduceEqDiff, ↓reduceIte, g0, and_self]⟩
    · show max m L[j] ∈ L
      by_cases hm : L[j] ≤ m
      · rw [show max m L[j] = m by omega]; exact a3
      · rw [show max m L[j] = L[j] by omega]; exact List.getElem_mem _
    · have h : i < j + 1 := h
      show L[i] ≤ max m L[j]
      by_cases e : i = j
      · subst e; omega
      · have : L[i] ≤ m := a4 i hi (show i < j by omega)
        omega
  · have d1 : decide ((j : Int) < (L.length : Int)) = false := decide_eq_false (by omega)
    simp (disch := omega) only [f88_r5, f88_r8, f88_rs, Option.some.injEq, exists_eq_left', Nat.reduceEqDiff, ↓reduceIte, Bool.false_eq_true, g0, g3, g4, e1, d1, bz]
    exact ⟨⟨m, rfl, a3, fun i hi => a4 i hi (show i < j by omega)⟩, trivial⟩
theorem f56_ret (k87 : fs.get (.ofNat 87) = some f87) (k88 : fs.get (.ofNat 88) = some f88) (hv : Sr iE h v L) (hL : L.length ≤ 1000000) : Ret fs f56 [v] h fun r h' => r = .b (plB L) ∧ h' = h := by
  apply ret_of rfl
  show W fs none f56_c _ _ _
  unfold f56_c plB
  have e1 := hv.len
  by_cases h1 : 1 ≤ L.length
  · have d1 : decide ((L.length : Int) < 1) = false := decide_eq_false (by omega)
    have b1 : decide (1 ≤ L.length) = true := decide_eq_true h1
    by_cases h2 : L.length ≤ 7
    · have d2 : decide ((L.length : Int) > 7) = false := decide_eq_false (by omega)
      have b2 : decide (L.length ≤ 7) = true := decide_eq_true h2
      simp (disch := omega) only [f56_r0, f56_r1, f56_r3, Nat.reduceEqDiff, ↓reduceIte, Bool.false_eq_true, Bool.not_false, of100, e1, d1, d2, bz]
      refine (callP_0 (ef := f87) k87 rfl (f87_ret hv h1 hL)).mono ?_
      rintro r h' ⟨⟨m, rfl, m1, m2⟩, rfl⟩
      by_cases hm : m ≥ -100
      · have d3 : decide (m ≥ -100) = true := decide_eq_true hm
        simp (disch := omega) only [bin_geq, Nat.reduceEqDiff, ↓reduceIte, ng99, d3, bz]
        refine (callP_0 (ef := f88) k88 rfl (f88_ret hv h1 hL)).mono ?_
        rintro r h' ⟨⟨n, rfl, n1, n2⟩, rfl⟩
        have hs : smB L = decide (n ≤ 100) := by
          unfold smB
          rw [Bool.eq_iff_iff, Bool.not_eq_true', List.any_eq_false, decide_eq_true_eq]
          constructor
          · intro h
            have := h n n1
            unfold bigB at this
            rw [Bool.or_eq_true, decide_eq_true_eq, decide_eq_true_eq] at this
            omega
          · intro hn x hx
            obtain ⟨i, hi, rfl⟩ := List.getElem_of_mem hx
            have a := m2 i hi
            have b := n2 i hi
            unfold bigB
            rw [Bool.or_eq_true, decide_eq_true_eq, decide_eq_true_eq]
            omega
        simp (disch := omega) only [f56_rs, bin_leq, Option.some.injEq, exists_eq_left', Nat.reduceEqDiff, ↓reduceIte, b1, b2, hs, Bool.true_and, and_self, bz]
      · have d3 : decide (m ≥ -100) = false := decide_eq_false hm
        have hs : smB L = false := by
          unfold smB
          rw [Bool.not_eq_false', List.any_eq_true]
          refine ⟨m, m1, ?_⟩
          unfold bigB
          rw [Bool.or_eq_true, decide_eq_true_eq]
          exact .inl (by omega)
        simp (disch := omega) only [f56_rs, bin_geq, Option.some.injEq, exists_eq_left', Nat.reduceEqDiff, ↓reduceIte, Bool.false_eq_true, ng99, d3, b1, b2, hs, Bool.true_and, and_self, bz]
    · have d2 : decide ((L.length : Int) > 7) = true := decide_eq_true (by omega)
      have b2 : decide (L.length ≤ 7) = false := decide_eq_false h2
      simp (disch := omega) only [f56_r0, f56_r1, f56_r2, f56_rs, Option.some.injEq, exists_eq_left', Nat.reduceEqDiff, ↓reduceIte, Bool.false_eq_true, Bool.not_false, e1, d1, d2, b1, b2, Bool.true_and, Bool.false_and, and_self, bz]
  · have d1 : decide ((L.length : Int) < 1) = true := decide_eq_true (by omega)
    have b1 : decide (1 ≤ L.length) = false := decide_eq_false h1
    simp (disch := omega) only [f56_r0, f56_r1, f56_r2, f56_rs, Option.some.injEq, exists_eq_left', Nat.reduceEqDiff, ↓reduceIte, Bool.false_eq_true, Bool.not_true, e1, d1, b1, Bool.false_and, and_self, bz]
structure CSm (fs : T EF) : Prop where
  c87 : fs.get (K.ofNat 87) = some f87
  c88 : fs.get (K.ofNat 88) = some f88
  c56 : fs.get (K.ofNat 56) = some f56
  c14 : fs.get (K.ofNat 14) = some f14
theorem f56_eq (k : CSm fs) (hv : Sr iE h v L) (hL : L.length ≤ 1000000) {P : V → H → Prop} : CallP fs (.fn (.ofNat 56) []) [v] h P = P (.b (plB L)) h := callP_eq2 (callP_0 k.c56 rfl (f56_ret k.c87 k.c88 hv hL))
def ckI (L : List Int) : Int := if plB L = true then 0 else 80
theorem f14_ret (k : CSm fs) (hv : Sr iE h v L) (hL : L.length ≤ 1000000) : Ret fs f14 [v] h fun r h' => r = .i .i64 (ckI L) ∧ h' = h := by
  apply ret_of rfl
  show W fs none f14_c _ _ _
  unfold f14_c ckI
  have e2 := fun P => f56_eq k hv hL (P := P)
  cases hp : plB L with
  | true => simp (disch := omega) only [f14_r0, f14_r1, f14_r3, f14_rs, Option.some.injEq, exists_eq_left', Nat.reduceEqDiff, ↓reduceIte, Bool.false_eq_true, Bool.not_true, e2, hp, and_self, bz]
  | false => simp (disch := omega) only [f14_r0, f14_r1, f14_r2, f14_rs, Option.some.injEq, exists_eq_left', Nat.reduceEqDiff, ↓reduceIte, Bool.false_eq_true, Bool.not_false, e2, hp, of80, and_self, bz]
theorem f14_eq (k : CSm fs) (hv : Sr iE h v L) (hL : L.length ≤ 1000000) {P : V → H → Prop} : CallP fs (.fn (.ofNat 14) []) [v] h P = P (.i .i64 (ckI L)) h := callP_eq2 (callP_0 k.c14 rfl (f14_ret k hv hL))
theorem f12_ret {m : Nat} (hv : Sr iE h v L) (hc : HC h) (hm : m ≤ 1000000) : Ret fs f12 [v, .i .i64 (m : Int)] h fun u h' => Sl iE h' u (L.take m) ∧ Own h.nx.nat u ∧ Grow h.nx.nat h h' := by
  apply ret_of rfl
  show W fs none f12_c _ _ _
  unfold f12_c
  have hmin : min (L.length : Int) (m : Int) = ((min L.length m : Nat) : Int) := by omega
  obtain ⟨v', p1, p2, _⟩ := hv.cut (lo := none) (hi := some (.i .i64 ((min L.length m : Nat) : Int))) (l := 0) (u := min L.length m) bnd_none bnd_i (by omega) (by omega)
  rw [List.drop_zero, show L.take (min L.length m) = L.take m by rw [Nat.min_comm, List.take_eq_take_iff]; omega] at p2
  obtain ⟨v2, h2, q1, q2, q3, q4, _⟩ := Sl.appR (e := iE) (b := h.nx.nat) (v := .sn) (L := []) Sl.nil Own.sn (Nat.le_refl _) p2 hc (by simp; omega)
  simp (disch := omega) only [f12_r0, f12_r1, f12_r2, f12_rs, x_slice, sliceV_eq, Option.map_none, Option.map_some, x_min, min_ii, Option.some.injEq, exists_eq_left', Nat.reduceEqDiff, ↓reduceIte, hv.len, hmin, p1, q1, bz]
  exact ⟨by simpa using q2, q3, q4⟩
def f33_I (h0 : H) (v w : V) (L M : List Int) (i : Nat) (fr : Fr) (h1 : H) : Prop := i ≤ L.length ∧ L.take i = M.take i ∧ h1 = h0 ∧ fr.get (K.ofNat 0) = some (v) ∧ fr.get (K.ofNat 1) = some (w) ∧ fr.get (K.ofNat 5) = some (.i .i64 (i : Int))
theorem f33_ret {w : V} {M : List Int} (hv : Sr iE h v L) (hw : Sr iE h w M) (hl : L.length ≤ 1000000) : Ret fs f33 [v, w] h fun r h' => r = .b (decide (L = M)) ∧ h' = h := by
  apply ret_of rfl
  show W fs none f33_c _ _ _
  unfold f33_c
  have e1 := hv.len
  have e2 := hw.len
  by_cases hne : L.length = M.length
  case neg =>
    have d0 : decide ((L.length : Int) ≠ (M.length : Int)) = true := decide_eq_true (by omega)
    have d1 : decide (L = M) = false := decide_eq_false fun e => hne (by rw [e])
    simp (disch := omega) only [f33_r0, f33_r1, f33_r2, f33_rs, Option.some.injEq, exists_eq_left', Nat.reduceEqDiff, ↓reduceIte, e1, e2, d0, d1, and_self, bz]
  have d0 : decide ((L.length : Int) ≠ (M.length : Int)) = false := decide_eq_false (by omega)
  simp (disch := omega) only [f33_r0, f33_r1, f33_r3, Nat.reduceEqDiff, ↓reduceIte, Bool.false_eq_true, e1, e2, d0, bz]
  refine W_loop (f33_I h v w L M) (fun i => L.length - i) ?_ 0 ⟨by omega, rfl, rfl, by simp (disch := omega) only [getK_set, Nat.reduceEqDiff, ↓reduceIte, and_self, Int.natCast_zero]⟩
  rintro i fr h1 ⟨hi, heq, rfl, g0, g1, g5⟩
  have bv := hv.beq
  have bw := hw.beq
  unfold f33_l0
  by_cases hlt : i < L.length
  · have d1 : decide ((i : Int) < (L.length : Int)) = true := decide_eq_true (by omega)
    obtain ⟨p, p1, p2, p3⟩ := hv.atb i hlt
    obtain ⟨q, q1, q2, q3⟩ := hw.atb i (by omega)
    have p2 : loadV h1 p one? = .ok (.i .i64 L[i]) h1 := p2
    have q2 : loadV h1 q one? = .ok (.i .i64 M[i]) h1 := q2
    by_cases hx : L[i] = M[i]
    · have d2 : decide (L[i] ≠ M[i]) = false := by simp [hx]
      simp (disch := omega) only [f33_r4, f33_r5, f33_r7, Nat.reduceEqDiff, ↓reduceIte, Bool.false_eq_true, g0, g1, g5, e1, d1, p1, p2, q1, q2, d2, fw64, bz]
      exact ⟨i + 1, by omega, by omega, by rw [List.take_succ_eq_append_getElem hlt, List.take_succ_eq_append_getElem (by omega), heq, hx], rfl, by simp (disch := omega) only [getK_set, Nat.reduceEqDiff, ↓reduceIte, g0, g1, and_self, Int.natCast_add, Int.natCast_one]⟩
    · have d2 : decide (L[i] ≠ M[i]) = true := by simp [hx]
      have d3 : decide (L = M) = false := decide_eq_false fun e => hx (by subst e; rfl)
      simp (disch := omega) only [f33_r4, f33_r5, f33_r6, f33_rs, atK_r, loopK_r, Option.some.injEq, exists_eq_left', Nat.reduceEqDiff, ↓reduceIte, g0, g1, g5, e1, d1, p1, p2, q1, q2, d2, d3, and_self, bz]
  · have d1 : decide ((i : Int) < (L.length : Int)) = false := decide_eq_false (by omega)
    have d3 : decide (L = M) = true := decide_eq_true (by rw [List.take_of_length_le (by omega), List.take_of_length_le (by omega)] at heq; exact heq)
    simp (disch := omega) only [f33_r4, f33_r8, f33_rs, Option.some.injEq, exists_eq_left', Nat.reduceEqDiff, ↓reduceIte, Bool.false_eq_true, g0, g5, e1, d1, d3, and_self, bz]
theorem f33_eq {w : V} {M : List Int} (k : fs.get (.ofNat 33) = some f33) (hv : Sr iE h v L) (hw : Sr iE h w M) (hl : L.length ≤ 1000000) {P : V → H → Prop} : CallP fs (.fn (.ofNat 33) []) [v, w] h P = P (.b (decide (L = M))) h := callP_eq2 (callP_0 k rfl (f33_ret hv hw hl))
def t201 (x : Int) : Int := fw .i64 ((fw .u64 x).tmod 201) - 100
theorem u64_bd (x : Int) : 0 ≤ fw .u64 x ∧ fw .u64 x ≤ 18446744073709551615 := by
  rw [fw_eq]
  simp [IntKind.wrap, IntKind.bits, IntKind.signed]
  omega
theorem t201_bd (x : Int) : -100 ≤ t201 x ∧ t201 x ≤ 100 := by
  have h := u64_bd x
  unfold t201
  rw [Int.tmod_eq_emod_of_nonneg h.1, fw64 (by omega) (by omega)]
  omega
def f26_I (h0 : H) (v : V) (L : List Int) (j : Nat) (fr : Fr) (h1 : H) : Prop := j ≤ L.length ∧ j ≤ 7 ∧ Grow h0.nx.nat h0 h1 ∧ ∃ u T, Sl iE h1 u T ∧ Own h0.nx.nat u ∧ T.length = j ∧ T.any bigB = false ∧ fr.get (K.ofNat 0) = some (v) ∧ fr.get (K.ofNat 3) = some (u) ∧ fr.get (K.ofNat 4) = some (.i .i64 (j : Int))
theorem any_snoc' {T : List Int} {x : Int} (h : T.any bigB = false) (hx : -100 ≤ x ∧ x ≤ 100) : (T ++ [x]).any bigB = false := by
  rw [List.any_append, h]
  unfold bigB
  simp
  omega
theorem Sl.lit0 {id : K} (hb : h.get id = .cells 0 []) : Sl iE h (.sl id 0 0 1) ([] : List Int) := by
  exact .inr ⟨id, 0, 0, [], rfl, hb, rfl, by simp, fun i hi => absurd hi (by simp)⟩
theorem f26_ret (hv : Sr iE h v L) (hc : HC h) : Ret fs f26 [v] h fun r h' => ∃ T, Sl iE h' r T ∧ Own h.nx.nat r ∧ plB T = true ∧ Grow h.nx.nat h h' := by
  apply ret_of rfl
  show W fs none f26_c _ _ _
  unfold f26_c
  have g0' := Grow.new (Nat.le_refl h.nx.nat) (.cells (0 * 1) [])
  have s0 : Sl iE (h.new (.cells (0 * 1) [])) (.sl h.nx 0 0 1) ([] : List Int) := Sl.lit0 get_new_same
  simp (disch := omega) only [f26_r0, f26_r1, f26_r2, ↓reduceIte, bz]
  refine W_loop (f26_I h v L) (fun j => 7 - j) ?_ 0 ⟨by omega, by omega, g0', _, [], s0, (fun id off n sz e => by cases e; exact Nat.le_refl _), rfl, rfl, by simp (disch := omega) only [getK_set, Nat.reduceEqDiff, ↓reduceIte, and_self, Int.natCast_zero]⟩
  clear g0' s0
  rintro j fr h1 ⟨hj, hj7, hG, u, T, hs, ho, hT, hsm, g0, g3, g4⟩
  have hc1 := hG.hc hc
  have hv1 := hv.grow hc hG
  have e1 := hv1.len
  have el := hs.len
  unfold f26_l0
  have pl : ∀ {T' : List Int}, 1 ≤ T'.length → T'.length ≤ 7 → T'.any bigB = false → plB T' = true := fun {T'} a b c => by
    unfold plB smB; rw [decide_eq_true a, decide_eq_true b, c]; rfl
  have out : ∀ fr : Fr, fr.get (K.ofNat 3) = some u → W fs none (.seq (.seq (.reg f26_r6) (.cond (.t (K.ofNat 29)) (.reg f26_r7) .skip)) (.seq (.reg f26_r8) .ret)) (retK f26 fun r h' => ∃ T, Sl iE h' r T ∧ Own h.nx.nat r ∧ plB T = true ∧ Grow h.nx.nat h h') fr h1 := by
    clear g0 g3 g4 fr
    intro fr g3
    by_cases h0 : T.length = 0
    · have d1 : decide ((T.length : Int) = 0) = true := decide_eq_true (by omega)
      obtain ⟨u', h2, a1, a2, a3, a4, _⟩ := Sl.push (e := iE) (x := 1) (c := .i .i64 1) rfl hs ho hG.nx hc1 (by omega)
      simp (disch := omega) only [f26_r6, f26_r7, f26_r8, f26_rs, fill_1, set_1, Option.some.injEq, exists_eq_left', Nat.reduceEqDiff, ↓reduceIte, g3, el, d1, a1, bz]
      exact ⟨_, a2, a3, pl (by simp) (by simp; omega) (any_snoc' hsm (by omega)), hG.trans a4⟩
    · have d1 : decide ((T.length : Int) = 0) = false := decide_eq_false (by omega)
      simp (disch := omega) only [f26_r6, f26_r8, f26_rs, Option.some.injEq, exists_eq_left', Nat.reduceEqDiff, ↓reduceIte, Bool.false_eq_true, g3, el, d1, bz]
      exact ⟨_, hs, ho, pl (by omega) (by omega) hsm, hG⟩
  simp only [w_seq, w_reg] at out
  by_cases hlt : j < L.length
  · have d1 : decide ((j : Int) < (L.length : Int)) = true := decide_eq_true (by omega)
    by_cases h6 : j < 7
    · have d2 : decide ((j : Int) < 7) = true := decide_eq_true (by omega)
      obtain ⟨p, p1, p2⟩ := hv1.at j hlt
      have p2 : loadV h1 p one? = .ok (.i .i64 L[j]) h1 := p2
      have hb := t201_bd L[j]
      have et : fw .i64 (fw .i64 ((fw .u64 L[j]).tmod 201) - 100) = t201 L[j] := fw64 (a := t201 L[j]) (by omega) (by omega)
      obtain ⟨u', h2, a1, a2, a3, a4, _⟩ := Sl.push (e := iE) (x := t201 L[j]) (c := .i .i64 (t201 L[j])) rfl hs ho hG.nx hc1 (by omega)
      have d3 : decide ((201 : Int) = 0) = false := rfl
      have e4 : fw .i64 ((j : Int) + 1) = ((j + 1 : Nat) : Int) := by rw [fw64 (by omega) (by omega)]; rfl
      simp (disch := omega) only [f26_r3, f26_r4, f26_r5, x_conv, onI_i, fill_1, set_1, Nat.reduceEqDiff, ↓reduceIte, of100, g0, g3, g4, e1, d1, d2, of201, of100, p1, p2, et, a1, e4, bz]
      exact ⟨j + 1, by omega, by omega, by omega, hG.trans a4, u', _, a2, a3, by simp [hT], any_snoc' hsm hb, by simp (disch := omega) only [getK_set, Nat.reduceEqDiff, ↓reduceIte, g0, and_self]⟩
    · have d2 : decide ((j : Int) < 7) = false := decide_eq_false (by omega)
      simp (disch := omega) only [f26_r3, Nat.reduceEqDiff, ↓reduceIte, Bool.false_eq_true, g0, g4, e1, d1, d2, bz]
      exact out _ (by simp (disch := omega) only [getK_set, Nat.reduceEqDiff, ↓reduceIte, g3])
  · have d1 : decide ((j : Int) < (L.length : Int)) = false := decide_eq_false (by omega)
    simp (disch := omega) only [f26_r3, Nat.reduceEqDiff, ↓reduceIte, Bool.false_eq_true, g0, g4, e1, d1, bz]
    exact out _ (by simp (disch := omega) only [getK_set, Nat.reduceEqDiff, ↓reduceIte, g3])
end
end Go.Ev
namespace Go.Ev
open Go Go.RowKit
section
variable {fs : T EF} {h h1 h2 h3 : H} {idB : K}
end
section
variable {fs : T EF} {fr fr1 fr2 : Fr} {h h1 h2 : H} {id : K} {v v' : V} {ps : List K} {a c : EC} {e : Ex}
end
structure Ks (S : K → Prop) (h h1 : H) : Prop where
  nx : h.nx.nat ≤ h1.nx.nat
  old : ∀ id : K, id.nat < h.nx.nat → ¬ S id → h1.get id = h.get id
  hc : HC h1
structure Kr (S : K → Prop) (lp : K) (h3 h4 : H) : Prop where
  nx : h3.nx.nat ≤ h4.nx.nat
  old : ∀ id : K, id.nat ≤ lp.nat → ¬ S id → h4.get id = h3.get id
  hc : HC h4
section
variable {fs : T EF} {h h1 h2 h3 h4 : H} {S : K → Prop} {lp : K}
theorem Ks.refl (hc : HC h) : Ks S h h := ⟨Nat.le_refl _, fun _ _ _ => rfl, hc⟩
theorem Ks.grow (k : Ks S h h1) {b : Nat} (g : Grow b h1 h2) (hb : h.nx.nat ≤ b) : Ks S h h2 := ⟨Nat.le_trans k.nx g.nx, fun id hi hn => (g.old id (by omega)).trans (k.old id hi hn), g.hc k.hc⟩
theorem Ks.of (hc : HC h) {b : Nat} (g : Grow b h h2) (hb : h.nx.nat ≤ b) : Ks S h h2 := (Ks.refl hc).grow g hb
theorem Ks.toGrow (k : Ks S h h1) {b : Nat} (hb : ∀ id, S id → b ≤ id.nat) (hb2 : b ≤ h.nx.nat) : Grow b h h1 := ⟨k.nx, fun id hi => k.old id (by omega) (fun e => by have := hb _ e; omega), fun _ => k.hc⟩
theorem Kr.grow (k : Kr S lp h h1) {b : Nat} (g : Grow b h1 h2) (hb : lp.nat < b) : Kr S lp h h2 := ⟨Nat.le_trans k.nx g.nx, fun id hi hn => (g.old id (by omega)).trans (k.old id hi hn), g.hc k.hc⟩
theorem Kr.put (k : Kr S lp h h1) {id' : K} (hi : id'.nat < h1.nx.nat) (hl : S id' ∨ lp.nat < id'.nat) (x : Blk) : Kr S lp h (h1.put id' x) :=
  ⟨k.nx, fun id h2 hn => by rw [get_put_other (fun e => by rcases hl with hl | hl; exact hn (e ▸ hl); rw [e] at h2; omega)]; exact k.old id h2 hn, (Grow.put (b := 0) (Nat.zero_le _) hi x).hc k.hc⟩
theorem Kr.trans (k : Kr S lp h h1) (l : Kr S lp h1 h2) : Kr S lp h h2 := ⟨Nat.le_trans k.nx l.nx, fun id hi hn => (l.old id hi hn).trans (k.old id hi hn), l.hc⟩
section
variable {P : H → Prop} {D : Ex → H → Prop} {fr : Fr} {c : EC} {i : Nat}
end
end
end Go.Ev
namespace Go.Ev
open Go Go.RowKit
section
variable {L : List Int} {o u : Nat}
theorem pow_le7 (hu : u ≤ 64) {j : Nat} (hj : j ≤ 7) : u ^ j ≤ 4398046511104 := by
  have a : u ^ j ≤ 64 ^ j := Nat.pow_le_pow_left hu j
  have b : 64 ^ j ≤ 64 ^ 7 := Nat.pow_le_pow_right (by decide) hj
  have c : (64 : Nat) ^ 7 = 4398046511104 := by decide
  omega
end
theorem low_iff {a b : Int} (hb : 0 < b) : (a = (Rat.divInt a b).num ∧ b = ((Rat.divInt a b).den : Int)) ↔ Int.gcd a b = 1 := by
  obtain ⟨h1, h2⟩ := fr_div (a := a) (b := b) (by omega)
  rw [if_neg (by omega)] at h1 h2
  constructor
  · rintro ⟨_, e2⟩
    rw [h2, Int.tdiv_eq_ediv_of_dvd gR] at e2
    have hg : Int.gcd a b ≠ 0 := fun e => by have := (Int.gcd_eq_zero_iff.1 e).2; omega
    have h3 : b / ((Int.gcd a b : Nat) : Int) * ((Int.gcd a b : Nat) : Int) = b := Int.ediv_mul_cancel gR
    rw [← e2] at h3
    have : b * (((Int.gcd a b : Nat) : Int)) = b * 1 := by omega
    have := Int.eq_of_mul_eq_mul_left (by omega) this
    omega
  · intro e
    rw [e] at h1 h2
    rw [h1, h2]
    simp
end Go.Ev
namespace Go.Ev
open Go Go.RowKit
noncomputable def f94_r0 : List EOper := [oG 1 (.box 1 (tG 0)), oG 2 (.as (.c .fnil))]
noncomputable def f94_r1 : List EOper := [oG 3 (.mkfn (.ofNat 108) [(tG 1)]), oG 2 (.as (tG 3))]
noncomputable def f94_c : EC := (.seq (.reg f94_r0) (.seq (.reg f94_r1) .ret))
noncomputable def f94 : EF := ⟨4, [.tmp (.ofNat 2)], f94_c, none⟩
noncomputable def f108_r0 : List EOper := [oG 4 (.ld (tG 1)), oG 5 (.len (tG 4)), oG 6 (.bin .sub (tG 5) (cG 1)), oG 3 (.as (tG 6))]
noncomputable def f108_r1 : List EOper := [oG 7 (.mv (tG 3)), oG 8 (.bin .geq (tG 7) (cG 0))]
noncomputable def f108_r2 : List EOper := [oG 11 (.mv (tG 0)), oG 12 (.mv (tG 3)), oG 13 (.ld (tG 1)), oG 14 (.mv (tG 3)), oG 15 (.iads 1 (tG 13) (tG 14)), oG 16 (.ld (tG 15)), oG 17 (.call (tG 11) [(tG 12), (tG 16)]), oG 18 (.not (tG 17))]
noncomputable def f108_r3 : List EOper := [oG 9 (.mv (tG 3)), oG 10 (.bin .sub (tG 9) (cG 1)), oG 3 (.as (tG 10))]
noncomputable def f108_l0 : EC := (.seq (.seq (.reg f108_r1) (.cond (tG 8) .skip (.exit 0))) (.seq (.block 1 (.seq (.reg f108_r2) (.cond (tG 18) .ret .skip))) (.reg f108_r3)))
noncomputable def f108_c : EC := (.seq (.reg f108_r0) (.block 0 (.loop f108_l0)))
noncomputable def f108 : EF := ⟨19, [], f108_c, none⟩
noncomputable def f95_r0 : List EOper := [oG 2 (.as (cG 0))]
noncomputable def f95_r1 : List EOper := [oG 3 (.as (cG 0))]
noncomputable def f95_r2 : List EOper := [oG 6 (.mv (tG 0)), oG 7 (.len (tG 6)), oG 8 (.mv (cG 0))]
noncomputable def f95_r3 : List EOper := [oG 9 (.bin .lss (tG 8) (tG 7))]
noncomputable def f95_r4 : List EOper := [oG 10 (.iads 1 (tG 6) (tG 8)), oG 11 (.ld (tG 10)), oG 5 (.as (tG 11))]
noncomputable def f95_r5 : List EOper := [oG 12 (.mv (tG 3)), oG 13 (.mv (tG 5)), oG 14 (.bin .add (tG 12) (tG 13)), oG 3 (.as (tG 14))]
noncomputable def f95_r6 : List EOper := [oG 15 (.bin .add (tG 8) (cG 1)), oG 8 (.mv (tG 15))]
noncomputable def f95_l0 : EC := (.seq (.reg f95_r3) (.seq (.cond (tG 9) .skip (.exit 0)) (.seq (.block 1 (.seq (.reg f95_r4) (.reg f95_r5))) (.reg f95_r6))))
noncomputable def f95_r7 : List EOper := [oG 16 (.mv (tG 3)), oG 2 (.as (tG 16))]
noncomputable def f95_c : EC := (.seq (.reg f95_r0) (.seq (.reg f95_r1) (.seq (.seq (.reg f95_r2) (.block 0 (.loop f95_l0))) (.seq (.reg f95_r7) .ret))))
noncomputable def f95 : EF := ⟨17, [.tmp (.ofNat 2)], f95_c, none⟩
theorem f95_rs : f95.rs = [.tmp (.ofNat 2)] := of_eq_true (eq_self _)
noncomputable def f62_r0 : List EOper := [oG 1 (.box 2 (tG 0)), oG 2 (.alloc 2 [(.i .i64 (.ofNat 0)), (.i .i64 (.ofNat 0))])]
noncomputable def f62_r1 : List EOper := [oG 3 (.fadr 0 (tG 1)), oG 4 (.ld (tG 3)), oG 5 (.fadr 1 (tG 1)), oG 6 (.ld (tG 5)), oG 7 (.build [(.i .i64 (.ofNat 0)), (.i .i64 (.ofNat 0))] [(0, 1, (tG 4)), (1, 1, (tG 6))]), ⟨none, none, .st 2 (tG 2) (tG 7)⟩]
noncomputable def f62_c : EC := (.seq (.reg f62_r0) (.seq (.reg f62_r1) .ret))
noncomputable def f62 : EF := ⟨8, [.celln (.ofNat 2) 2], f62_c, none⟩
theorem f62_rs : f62.rs = [.celln (.ofNat 2) 2] := of_eq_true (eq_self _)
section
variable {fs : T EF} {h : H} {v w : V} {L : List Int} {a b m : Int}
def sumF (L : List Int) : Int := L.foldl (fun s x => fw .i64 (s + x)) 0
def f95_I (h0 : H) (v : V) (L : List Int) (j : Nat) (fr : Fr) (h1 : H) : Prop := j ≤ L.length ∧ h1 = h0 ∧ fr.get (K.ofNat 3) = some (.i .i64 (sumF (L.take j))) ∧ fr.get (K.ofNat 6) = some (v) ∧ fr.get (K.ofNat 7) = some (.i .i64 (L.length : Int)) ∧ fr.get (K.ofNat 8) = some (.i .i64 (j : Int))
theorem f95_ret (hv : Sr iE h v L) (hL : L.length ≤ 1000000) : Ret fs f95 [v] h fun r h' => r = .i .i64 (sumF L) ∧ h' = h := by
  apply ret_of rfl
  show W fs none f95_c _ _ _
  unfold f95_c
  have e1 := hv.len
  simp (disch := omega) only [f95_r0, f95_r1, f95_r2, Nat.reduceEqDiff, ↓reduceIte, e1, bz]
  refine W_loop (f95_I h v L) (fun j => L.length - j) ?_ 0 ⟨by omega, rfl, by simp (disch := omega) only [getK_set, Nat.reduceEqDiff, ↓reduceIte, and_self, Int.natCast_zero, List.take_zero, sumF, List.foldl]⟩
  rintro j fr h1 ⟨hj, rfl, g3, g6, g7, g8⟩
  unfold f95_l0
  by_cases hlt : j < L.length
  · have d1 : decide ((j : Int) < (L.length : Int)) = true := decide_eq_true (by omega)
    have e4 : fw .i64 ((j : Int) + 1) = ((j + 1 : Nat) : Int) := by rw [fw64 (by omega) (by omega)]; rfl
    obtain ⟨p, p1, p2⟩ := hv.at j hlt
    have p2 : loadV h1 p one? = .ok (.i .i64 L[j]) h1 := p2
    have hs : sumF (L.take (j + 1)) = fw .i64 (sumF (L.take j) + L[j]) := by
      unfold sumF; rw [List.take_succ_eq_append_getElem hlt, List.foldl_append]; rfl
    simp (disch := omega) only [f95_r3, f95_r4, f95_r5, f95_r6, Nat.reduceEqDiff, ↓reduceIte, g3, g6, g7, g8, d1, p1, p2, e4, bz]
    exact ⟨j + 1, by omega, by omega, rfl, by simp (disch := omega) only [getK_set, Nat.reduceEqDiff, ↓reduceIte, g6, g7, and_self, hs]⟩
  · have d1 : decide ((j : Int) < (L.length : Int)) = false := decide_eq_false (by omega)
    rw [List.take_of_length_le (by omega)] at g3
    simp (disch := omega) only [f95_r3, f95_r7, f95_rs, Option.some.injEq, exists_eq_left', Nat.reduceEqDiff, ↓reduceIte, Bool.false_eq_true, g3, g7, g8, d1, and_self, bz]
theorem f95_eq (k : fs.get (.ofNat 95) = some f95) (hv : Sr iE h v L) (hL : L.length ≤ 1000000) {P : V → H → Prop} : CallP fs (.fn (.ofNat 95) []) [v] h P = P (.i .i64 (sumF L)) h := callP_eq2 (callP_0 k rfl (f95_ret hv hL))
theorem f62_ret : Ret fs f62 [.agg [.i .i64 a, .i .i64 b]] h fun r h' => r = .agg [.i .i64 a, .i .i64 b] ∧ Grow h.nx.nat h h' := by
  apply ret_of rfl
  show W fs none f62_c _ _ _
  unfold f62_c
  have gA := Grow.new (Nat.le_refl h.nx.nat) (.cells 2 [.i .i64 a, .i .i64 b])
  have n1 := nx_new h (.cells 2 [.i .i64 a, .i .i64 b])
  have b1 : (h.new (.cells 2 [.i .i64 a, .i .i64 b])).get h.nx = .cells 2 [.i .i64 a, .i .i64 b] := get_new_same
  simp (disch := omega) only [f62_r0, ↓reduceIte, bz]
  generalize h.new (.cells 2 [.i .i64 a, .i .i64 b]) = hA at *
  have gB := Grow.new (Nat.le_refl hA.nx.nat) (.cells 2 [.i .i64 0, .i .i64 0])
  have n2 := nx_new hA (.cells 2 [.i .i64 0, .i .i64 0])
  have c1 : (hA.new (.cells 2 [.i .i64 0, .i .i64 0])).get h.nx = .cells 2 [.i .i64 a, .i .i64 b] := (get_new_old (by omega)).trans b1
  have c2 : (hA.new (.cells 2 [.i .i64 0, .i .i64 0])).get hA.nx = .cells 2 [.i .i64 0, .i .i64 0] := get_new_same
  have GB := gA.trans (gB.low gA.nx)
  generalize hA.nx = i2 at *
  generalize hA.new (.cells 2 [.i .i64 0, .i .i64 0]) = hB at *
  have l1 : loadV hB (.p h.nx 0) one? = .ok (.i .i64 a) hB := load_p c1 rfl
  have l2 : loadV hB (.p h.nx 1) one? = .ok (.i .i64 b) hB := load_p c1 rfl
  have st := store2 (x := .i .i64 a) (y := .i .i64 b) c2
  have rd := read2 (h := hB.put i2 (.cells 2 [.i .i64 a, .i .i64 b])) (id := i2) get_put_same
  simp (disch := omega) only [f62_r1, f62_rs, Option.some.injEq, exists_eq_left', Nat.reduceEqDiff, ↓reduceIte, l1, l2, st, rd, bz]
  exact GB.trans (Grow.put (by omega) (by omega) _)
end
end Go.Ev
namespace Go.Ev
open Go Go.RowKit
noncomputable def f60_r0 : List EOper := [oG 2 (.box 2 (tG 0)), oG 4 (.alloc 2 [(.i .i64 (.ofNat 0)), (.i .i64 (.ofNat 0))]), oG 5 (.as (.c (.b false)))]
noncomputable def f60_r1 : List EOper := [oG 7 (.iadr 2 1 (tG 2) (cG 0)), oG 8 (.ld (tG 7)), oG 9 (.iadr 2 1 (tG 2) (cG 1)), oG 10 (.ld (tG 9)), oG 11 (.build [(.i .i64 (.ofNat 0)), (.i .i64 (.ofNat 0))] [(0, 1, (tG 8)), (1, 1, (tG 10))]), oG 6 (.alloc 2 [(.i .i64 (.ofNat 0)), (.i .i64 (.ofNat 0))]), ⟨none, none, .st 2 (tG 6) (tG 11)⟩]
noncomputable def f60_r2 : List EOper := [oG 12 (.fadr 1 (tG 6)), oG 13 (.ld (tG 12)), oG 14 (.bin .lss (tG 13) (cG 1)), oG 15 (.mv (tG 14)), gG 16 15 false (.fadr 1 (tG 6)), gG 17 15 false (.ld (tG 16)), gG 18 15 false (.mv (tG 1)), gG 19 15 false (.bin .gtr (tG 17) (tG 18)), oG 20 (.pick (tG 15) (.c (.b true)) (tG 19)), oG 21 (.mv (tG 20)), gG 22 21 false (.fadr 0 (tG 6)), gG 23 21 false (.ld (tG 22)), gG 24 21 false (.bin .lss (tG 23) (cG 0)), oG 25 (.pick (tG 21) (.c (.b true)) (tG 24)), oG 26 (.mv (tG 25)), gG 27 26 false (.fadr 0 (tG 6)), gG 28 26 false (.ld (tG 27)), gG 29 26 false (.fadr 1 (tG 6)), gG 30 26 false (.ld (tG 29)), gG 31 26 false (.bin .gtr (tG 28) (tG 30)), oG 32 (.pick (tG 26) (.c (.b true)) (tG 31))]
noncomputable def f60_r3 : List EOper := [oG 33 (.build [(.i .i64 (.ofNat 0)), (.i .i64 (.ofNat 0))] []), ⟨none, none, .st 2 (tG 4) (tG 33)⟩, oG 5 (.as (.c (.b false)))]
noncomputable def f60_r4 : List Stage := [⟨[oG 34 (.ldn 2 (tG 6)), oG 35 (.fadr 0 (tG 6)), oG 36 (.ld (tG 35)), oG 37 (.fadr 1 (tG 6)), oG 38 (.ld (tG 37))], [], (some (oG 39 (.call (fG 89) [(tG 36), (tG 38)]))), []⟩, ⟨[oG 40 (.eqk (.many [(some .i64), (some .i64)]) true (tG 34) (tG 39))], [oG 34 (.ldn 2 (tG 6))], none, []⟩]
noncomputable def f60_r5 : List EOper := [oG 41 (.build [(.i .i64 (.ofNat 0)), (.i .i64 (.ofNat 0))] []), ⟨none, none, .st 2 (tG 4) (tG 41)⟩, oG 5 (.as (.c (.b false)))]
noncomputable def f60_r6 : List EOper := [oG 42 (.ldn 2 (tG 6)), ⟨none, none, .st 2 (tG 4) (tG 42)⟩, oG 5 (.as (.c (.b true)))]
noncomputable def f60_c : EC := (.seq (.reg f60_r0) (.seq (.reg f60_r1) (.seq (.seq (.reg f60_r2) (.cond (tG 32) (.seq (.reg f60_r3) .ret) .skip)) (.seq (.seq (.draw f60_r4) (.cond (tG 40) (.seq (.reg f60_r5) .ret) .skip)) (.seq (.reg f60_r6) .ret)))))
noncomputable def f60 : EF := ⟨43, [.celln (.ofNat 4) 2, .tmp (.ofNat 5)], f60_c, none⟩
noncomputable def f27_r0 : List EOper := [oG 2 (.box 2 (tG 0)), oG 4 (.as (.c (.b false)))]
noncomputable def f27_r1 : List EOper := [oG 5 (.iadr 2 1 (tG 2) (cG 1)), oG 6 (.ld (tG 5)), oG 7 (.bin .geq (tG 6) (cG 1)), oG 8 (.mv (tG 7)), gG 9 8 true (.iadr 2 1 (tG 2) (cG 1)), gG 10 8 true (.ld (tG 9)), gG 11 8 true (.mv (tG 1)), gG 12 8 true (.bin .leq (tG 10) (tG 11)), oG 13 (.pick (tG 8) (tG 12) (.c (.b false))), oG 14 (.mv (tG 13)), gG 15 14 true (.iadr 2 1 (tG 2) (cG 0)), gG 16 14 true (.ld (tG 15)), gG 17 14 true (.bin .geq (tG 16) (cG 0)), oG 18 (.pick (tG 14) (tG 17) (.c (.b false))), oG 19 (.mv (tG 18)), gG 20 19 true (.iadr 2 1 (tG 2) (cG 0)), gG 21 19 true (.ld (tG 20)), gG 22 19 true (.iadr 2 1 (tG 2) (cG 1)), gG 23 19 true (.ld (tG 22)), gG 24 19 true (.bin .leq (tG 21) (tG 23)), oG 25 (.pick (tG 19) (tG 24) (.c (.b false))), oG 26 (.mv (tG 25)), gG 27 26 true (.iadr 2 1 (tG 2) (cG 0)), gG 28 26 true (.ld (tG 27)), gG 29 26 true (.iadr 2 1 (tG 2) (cG 1)), gG 30 26 true (.ld (tG 29)), gG 31 26 true (.call (fG 73) [(tG 28), (tG 30)]), gG 32 26 true (.bin .eql (tG 31) (cG 1)), oG 33 (.pick (tG 26) (tG 32) (.c (.b false))), oG 4 (.as (tG 33))]
noncomputable def f27_c : EC := (.seq (.reg f27_r0) (.seq (.reg f27_r1) .ret))
noncomputable def f27 : EF := ⟨34, [.tmp (.ofNat 4)], f27_c, none⟩
noncomputable def f61_r0 : List EOper := [oG 3 (.box 2 (tG 1)), oG 4 (.alloc 2 [(.i .i64 (.ofNat 0)), (.i .i64 (.ofNat 0))])]
noncomputable def f61_r1 : List EOper := [oG 5 (.alloc 1 [(.i .i64 (.ofNat 0))]), oG 6 (.alloc 1 [(.i .i64 (.ofNat 0))]), ⟨none, none, .st 1 (tG 5) (cG 0)⟩, ⟨none, none, .st 1 (tG 6) (cG 1)⟩]
noncomputable def f61_r2 : List EOper := [oG 9 (.mv (tG 0)), oG 10 (.call (fG 94) [(tG 9)])]
noncomputable def f61_r3 : List EOper := [oG 8 (.as (tG 12))]
noncomputable def f61_a0 : EC := (.reg f61_r3)
noncomputable def f61_r4 : List EOper := [oG 13 (.ld (tG 6)), oG 14 (.fadr 1 (tG 3)), oG 15 (.ld (tG 14)), oG 16 (.bin .mul (tG 13) (tG 15)), ⟨none, none, .st 1 (tG 6) (tG 16)⟩]
noncomputable def f61_r5 : List EOper := [oG 17 (.ld (tG 5)), oG 18 (.fadr 0 (tG 3)), oG 19 (.ld (tG 18)), oG 20 (.bin .mul (tG 17) (tG 19)), oG 21 (.mv (tG 8)), oG 22 (.ld (tG 6)), oG 23 (.bin .mul (tG 21) (tG 22)), oG 24 (.bslice 2 1 [(.i .i64 (.ofNat 0)), (.i .i64 (.ofNat 0))] [(0, 1, (tG 20)), (1, 1, (tG 23))]), oG 25 (.call (fG 95) [(tG 24)]), ⟨none, none, .st 1 (tG 5) (tG 25)⟩]
noncomputable def f61_b0 : EC := (.block 1 (.seq (.reg f61_r4) (.reg f61_r5)))
noncomputable def f61_r6 : List EOper := [oG 26 (.ld (tG 5)), oG 27 (.ld (tG 6)), oG 28 (.call (fG 89) [(tG 26), (tG 27)]), ⟨none, none, .st 2 (tG 4) (tG 28)⟩]
noncomputable def f61_c : EC := (.seq (.reg f61_r0) (.seq (.reg f61_r1) (.seq (.seq (.reg f61_r2) (.block 0 (.rangeF (tG 10) [(.ofNat 11), (.ofNat 12)] f61_a0 f61_b0))) (.seq (.reg f61_r6) .ret))))
noncomputable def f61 : EF := ⟨29, [.celln (.ofNat 4) 2], f61_c, none⟩
section
variable {fs : T EF} {h : H} {v w : V} {L : List Int} {a b m : Int}
theorem load2 {id : K} {x y : V} (hb : h.get id = .cells 2 [x, y]) : loadV h (.p id 0) (many? 2) = .ok (.agg [x, y]) h := by
  show okv (readP h (.p id 0) (many? 2)) h = _
  rw [read2 hb]; rfl
theorem in63 {x : Int} (h1 : -9223372036854775808 ≤ x) (h2 : x ≤ 9223372036854775807) : inR .i64 x = true := by
  cases x with
  | ofNat m => exact Nat.ble_eq_true_of_le (show m ≤ 9223372036854775807 by simp at h2; omega)
  | negSucc m => exact Nat.ble_eq_true_of_le (show m + 1 ≤ 9223372036854775808 by omega)
structure CallsV (fs : T EF) : Prop where
  c89 : fs.get (K.ofNat 89) = some f89
  c104 : fs.get (K.ofNat 104) = some f104
  c94 : fs.get (K.ofNat 94) = some f94
  c108 : fs.get (K.ofNat 108) = some f108
  c95 : fs.get (K.ofNat 95) = some f95
theorem lit2 {x y : Int} : Sl iE (h.new (.cells (2 * 1) [.i .i64 x, .i .i64 y])) (.sl h.nx 0 2 1) [x, y] := by
  refine .inr ⟨h.nx, 0, 2, [.i .i64 x, .i .i64 y], rfl, get_new_same, rfl, by simp, fun i hi => ?_⟩
  match i, hi with
  | 0, _ => rfl
  | 1, _ => rfl
  | i + 2, hi => simp at hi; omega
end
end Go.Ev
namespace Go.Ev
open Go Go.RowKit
noncomputable def f28_r0 : List EOper := [oG 3 (.box 2 (tG 1)), oG 4 (.alloc 2 [(.i .i64 (.ofNat 0)), (.i .i64 (.ofNat 0))])]
noncomputable def f28_r1 : List EOper := [oG 7 (.build [(.i .i64 (.ofNat 0)), (.i .i64 (.ofNat 0))] [(0, 1, (cG 0)), (1, 1, (cG 1))]), oG 5 (.alloc 2 [(.i .i64 (.ofNat 0)), (.i .i64 (.ofNat 0))]), ⟨none, none, .st 2 (tG 5) (tG 7)⟩]
noncomputable def f28_r2 : List EOper := [oG 8 (.mv (tG 0)), oG 9 (.len (tG 8)), oG 10 (.bin .sub (tG 9) (cG 1)), oG 6 (.as (tG 10))]
noncomputable def f28_r3 : List EOper := [oG 11 (.mv (tG 6)), oG 12 (.bin .geq (tG 11) (cG 0))]
noncomputable def f28_r4 : List Stage := [⟨[oG 15 (.ldn 2 (tG 5)), oG 16 (.ldn 2 (tG 3)), oG 18 (.mv (tG 0)), oG 19 (.mv (tG 6)), oG 20 (.iads 1 (tG 18) (tG 19)), oG 21 (.ld (tG 20)), oG 22 (.build [(.i .i64 (.ofNat 0)), (.i .i64 (.ofNat 0))] [(0, 1, (tG 21)), (1, 1, (cG 1))])], [], (some (oG 17 (.call (fG 75) [(tG 15), (tG 16)]))), []⟩, ⟨[], [oG 18 (.mv (tG 0)), oG 19 (.mv (tG 6)), oG 20 (.iads 1 (tG 18) (tG 19)), oG 21 (.ld (tG 20)), oG 22 (.build [(.i .i64 (.ofNat 0)), (.i .i64 (.ofNat 0))] [(0, 1, (tG 21)), (1, 1, (cG 1))])], (some (oG 23 (.call (fG 74) [(tG 17), (tG 22)]))), []⟩, ⟨[], [], (some ⟨none, none, .st 2 (tG 5) (tG 23)⟩), []⟩, ⟨[], [], none, []⟩]
noncomputable def f28_r5 : List EOper := [oG 13 (.mv (tG 6)), oG 14 (.bin .sub (tG 13) (cG 1)), oG 6 (.as (tG 14))]
noncomputable def f28_l0 : EC := (.seq (.seq (.reg f28_r3) (.cond (tG 12) .skip (.exit 0))) (.seq (.block 1 (.draw f28_r4)) (.reg f28_r5)))
noncomputable def f28_r6 : List EOper := [oG 24 (.ldn 2 (tG 5)), ⟨none, none, .st 2 (tG 4) (tG 24)⟩]
noncomputable def f28_c : EC := (.seq (.reg f28_r0) (.seq (.reg f28_r1) (.seq (.seq (.reg f28_r2) (.block 0 (.loop f28_l0))) (.seq (.reg f28_r6) .ret))))
noncomputable def f28 : EF := ⟨25, [.celln (.ofNat 4) 2], f28_c, none⟩
noncomputable def f29_r0 : List EOper := [oG 2 (.box 2 (tG 0)), oG 4 (.alloc 2 [(.i .i64 (.ofNat 0)), (.i .i64 (.ofNat 0))])]
noncomputable def f29_r1 : List EOper := [oG 6 (.iadr 2 1 (tG 2) (cG 1)), oG 7 (.ld (tG 6)), oG 8 (.conv .u64 (tG 7)), oG 9 (.mv (tG 1)), oG 10 (.conv .u64 (tG 9)), oG 11 (.bin .rem (tG 8) (tG 10)), oG 12 (.conv .i64 (tG 11)), oG 13 (.bin .add (cG 1) (tG 12)), oG 5 (.as (tG 13))]
noncomputable def f29_r2 : List EOper := [oG 14 (.iadr 2 1 (tG 2) (cG 0)), oG 15 (.ld (tG 14)), oG 16 (.conv .u64 (tG 15)), oG 17 (.mv (tG 5)), oG 18 (.bin .add (tG 17) (cG 1)), oG 19 (.conv .u64 (tG 18)), oG 20 (.bin .rem (tG 16) (tG 19)), oG 21 (.conv .i64 (tG 20)), oG 22 (.mv (tG 5)), oG 23 (.call (fG 54) [(tG 21), (tG 22)]), ⟨none, none, .st 2 (tG 4) (tG 23)⟩]
noncomputable def f29_c : EC := (.seq (.reg f29_r0) (.seq (.reg f29_r1) (.seq (.reg f29_r2) .ret)))
noncomputable def f29 : EF := ⟨24, [.celln (.ofNat 4) 2], f29_c, none⟩
noncomputable def f18_r0 : List EOper := [oG 3 (.box 2 (tG 1)), oG 4 (.alloc 2 [(.i .i64 (.ofNat 0)), (.i .i64 (.ofNat 0))]), oG 5 (.as (cG 0))]
noncomputable def f18_r1 : List EOper := [oG 9 (.mv (tG 0)), oG 10 (.call (fG 14) [(tG 9)]), oG 6 (.as (tG 10))]
noncomputable def f18_r2 : List EOper := [oG 11 (.mv (tG 6)), oG 12 (.bin .neq (tG 11) (cG 0))]
noncomputable def f18_r3 : List EOper := [oG 13 (.build [(.i .i64 (.ofNat 0)), (.i .i64 (.ofNat 0))] []), oG 14 (.mv (tG 6)), ⟨none, none, .st 2 (tG 4) (tG 13)⟩, oG 5 (.as (tG 14))]
noncomputable def f18_r4 : List EOper := [oG 16 (.ldn 2 (tG 3)), oG 17 (.call (fG 60) [(tG 16), (cG 64)]), oG 15 (.mv (tG 17)), oG 18 (.ext (tG 15) 0), oG 19 (.ext (tG 15) 1), oG 7 (.alloc 2 [(.i .i64 (.ofNat 0)), (.i .i64 (.ofNat 0))]), ⟨none, none, .st 2 (tG 7) (tG 18)⟩, oG 8 (.as (tG 19))]
noncomputable def f18_r5 : List EOper := [oG 20 (.mv (tG 8)), oG 21 (.not (tG 20))]
noncomputable def f18_r6 : List EOper := [oG 22 (.build [(.i .i64 (.ofNat 0)), (.i .i64 (.ofNat 0))] []), ⟨none, none, .st 2 (tG 4) (tG 22)⟩, oG 5 (.as (cG 1))]
noncomputable def f18_r7 : List EOper := [oG 23 (.mv (tG 0)), oG 24 (.ldn 2 (tG 7)), oG 25 (.call (fG 61) [(tG 23), (tG 24)]), oG 26 (.call (fG 62) [(tG 25)]), ⟨none, none, .st 2 (tG 4) (tG 26)⟩, oG 5 (.as (cG 0))]
noncomputable def f18_c : EC := (.seq (.reg f18_r0) (.seq (.seq (.reg f18_r1) (.seq (.reg f18_r2) (.cond (tG 12) (.seq (.reg f18_r3) .ret) .skip))) (.seq (.reg f18_r4) (.seq (.seq (.reg f18_r5) (.cond (tG 21) (.seq (.reg f18_r6) .ret) .skip)) (.seq (.reg f18_r7) .ret)))))
noncomputable def f18 : EF := ⟨27, [.celln (.ofNat 4) 2, .tmp (.ofNat 5)], f18_c, none⟩
section
variable {fs : T EF} {h : H} {v w : V} {L : List Int} {a b m : Int}
structure CallsF (fs : T EF) : Prop where
  c73 : fs.get (K.ofNat 73) = some f73
  c54 : fs.get (K.ofNat 54) = some f54
  c75 : fs.get (K.ofNat 75) = some f75
  c74 : fs.get (K.ofNat 74) = some f74
theorem mul_ret {p q : Rat} (k : CallsF fs) (b : MlB p q) : Ret fs f75 [.agg (frL p), .agg (frL q)] h fun r h' => r = .agg (frL (p * q)) ∧ Grow h.nx.nat h h' := f75_ret k.c54 k.c73 b.p1 b.p2 b.q1 b.q2 b.b1 b.b2
theorem add_ret {p q : Rat} (k : CallsF fs) (b : AdB p q) : Ret fs f74 [.agg (frL p), .agg (frL q)] h fun r h' => r = .agg (frL (p + q)) ∧ Grow h.nx.nat h h' := f74_ret k.c54 k.c73 b.p2 b.q2 b.b1 b.b2 b.b3 b.b4
theorem frL_low {a b : Int} (hb : 0 < b) (hg : Int.gcd a b = 1) : [V.i .i64 a, .i .i64 b] = frL (Rat.divInt a b) := by
  obtain ⟨e1, e2⟩ := (low_iff hb).2 hg
  unfold frL
  rw [← e1, ← e2]
theorem fr_beq {q : Rat} : beqV (.agg (frL q)) (.agg (frL q)) = true := beq_2
theorem fr_load {id : K} {q : Rat} (hb : h.get id = .cells 2 (frL q)) : loadV h (.p id 0) (many? 2) = .ok (.agg (frL q)) h := load2 hb
theorem fr_store {id : K} {cs : List V} {c1 c2 : V} {q : Rat} (hb : h.get id = .cells 2 cs) (hcs : cs = [c1, c2]) : storeV h 2 (.p id 0) (.agg (frL q)) = .ok undefV (h.put id (.cells 2 (frL q))) := by subst hcs; exact store2 hb
theorem fr_cells {q : Rat} : cellsN 2 (.agg (frL q)) = some (frL q) := cell2_agg
structure CallsVa (fs : T EF) : Prop extends CallsV fs, CSm fs where
  c60 : fs.get (K.ofNat 60) = some f60
  c61 : fs.get (K.ofNat 61) = some f61
  c62 : fs.get (K.ofNat 62) = some f62
theorem pl_get {L : List Int} (h : plB L = true) (i : Nat) : (L.getD i 0).natAbs ≤ 100 := by
  have := sm_get (plB_len h).2.2 i
  omega
end
end Go.Ev
namespace Go.Ev
open Go Go.RowKit
noncomputable def f76_r0 : List EOper := [oG 4 (.as (cG 0))]
noncomputable def f76_r1 : List EOper := [oG 5 (.as (cG 1))]
noncomputable def f76_r2 : List EOper := [oG 6 (.as (cG 1))]
noncomputable def f76_r3 : List EOper := [oG 7 (.mv (tG 6)), oG 8 (.mv (tG 1)), oG 9 (.bin .leq (tG 7) (tG 8))]
noncomputable def f76_r4 : List EOper := [oG 12 (.mv (tG 5)), oG 13 (.mv (tG 0)), oG 14 (.mv (tG 6)), oG 15 (.bin .sub (tG 13) (tG 14)), oG 16 (.bin .add (tG 15) (cG 1)), oG 17 (.bin .mul (tG 12) (tG 16)), oG 18 (.mv (tG 6)), oG 19 (.bin .quo (tG 17) (tG 18)), oG 5 (.as (tG 19))]
noncomputable def f76_r5 : List EOper := [oG 10 (.mv (tG 6)), oG 11 (.bin .add (tG 10) (cG 1)), oG 6 (.as (tG 11))]
noncomputable def f76_l0 : EC := (.seq (.seq (.reg f76_r3) (.cond (tG 9) .skip (.exit 0))) (.seq (.block 1 (.reg f76_r4)) (.reg f76_r5)))
noncomputable def f76_r6 : List EOper := [oG 20 (.mv (tG 5)), oG 4 (.as (tG 20))]
noncomputable def f76_c : EC := (.seq (.reg f76_r0) (.seq (.reg f76_r1) (.seq (.seq (.reg f76_r2) (.block 0 (.loop f76_l0))) (.seq (.reg f76_r6) .ret))))
noncomputable def f76 : EF := ⟨21, [.tmp (.ofNat 4)], f76_c, none⟩
noncomputable def f100_r0 : List EOper := [oG 4 (.as (cG 0))]
noncomputable def f100_r1 : List EOper := [oG 5 (.as (cG 1))]
noncomputable def f100_r2 : List EOper := [oG 7 (.mv (tG 1)), oG 8 (.mv (cG 0))]
noncomputable def f100_r3 : List EOper := [oG 9 (.bin .lss (tG 8) (tG 7))]
noncomputable def f100_r4 : List EOper := [oG 10 (.mv (tG 8)), oG 6 (.as (tG 10))]
noncomputable def f100_r5 : List EOper := [oG 11 (.mv (tG 5)), oG 12 (.mv (tG 0)), oG 13 (.mv (tG 6)), oG 14 (.bin .sub (tG 12) (tG 13)), oG 15 (.bin .mul (tG 11) (tG 14)), oG 16 (.mv (tG 6)), oG 17 (.bin .add (tG 16) (cG 1)), oG 18 (.bin .quo (tG 15) (tG 17)), oG 5 (.as (tG 18))]
noncomputable def f100_r6 : List EOper := [oG 19 (.bin .add (tG 8) (cG 1)), oG 8 (.mv (tG 19))]
noncomputable def f100_l0 : EC := (.seq (.reg f100_r3) (.seq (.cond (tG 9) .skip (.exit 0)) (.seq (.block 1 (.seq (.reg f100_r4) (.reg f100_r5))) (.reg f100_r6))))
noncomputable def f100_r7 : List EOper := [oG 20 (.mv (tG 5)), oG 4 (.as (tG 20))]
noncomputable def f100_c : EC := (.seq (.reg f100_r0) (.seq (.reg f100_r1) (.seq (.seq (.reg f100_r2) (.block 0 (.loop f100_l0))) (.seq (.reg f100_r7) .ret))))
noncomputable def f100 : EF := ⟨21, [.tmp (.ofNat 4)], f100_c, none⟩
theorem f100_rs : f100.rs = [.tmp (.ofNat 4)] := of_eq_true (eq_self _)
noncomputable def f30_r0 : List EOper := [oG 2 (.as (.c .sn))]
noncomputable def f30_r1 : List EOper := [oG 6 (.mv (tG 0)), oG 7 (.len (tG 6)), oG 8 (.mkslice 1 [(.i .i64 (.ofNat 0))] (tG 7)), oG 3 (.as (tG 8))]
noncomputable def f30_r2 : List EOper := [oG 4 (.as (cG 0))]
noncomputable def f30_r3 : List EOper := [oG 9 (.mv (tG 4)), oG 10 (.mv (tG 0)), oG 11 (.len (tG 10)), oG 12 (.bin .lss (tG 9) (tG 11))]
noncomputable def f30_r4 : List EOper := [oG 5 (.as (cG 0))]
noncomputable def f30_r5 : List EOper := [oG 15 (.mv (tG 5)), oG 16 (.mv (tG 4)), oG 17 (.bin .leq (tG 15) (tG 16))]
noncomputable def f30_r6 : List Stage := [⟨[oG 20 (.mv (tG 3)), oG 21 (.mv (tG 5)), oG 22 (.mv (tG 3)), oG 23 (.mv (tG 5)), oG 24 (.iads 1 (tG 22) (tG 23)), oG 25 (.ld (tG 24)), oG 26 (.mv (tG 0)), oG 27 (.mv (tG 4)), oG 28 (.iads 1 (tG 26) (tG 27)), oG 29 (.ld (tG 28)), oG 30 (.mv (tG 4)), oG 31 (.mv (tG 5)), oG 34 (.mv (tG 5)), oG 35 (.bin .rem (tG 34) (cG 2)), oG 36 (.bin .mul (cG 2) (tG 35)), oG 37 (.bin .sub (cG 1) (tG 36))], [], (some (oG 32 (.call (fG 76) [(tG 30), (tG 31)]))), []⟩, ⟨[oG 33 (.bin .mul (tG 29) (tG 32)), oG 38 (.bin .mul (tG 33) (tG 37)), oG 39 (.bin .add (tG 25) (tG 38)), oG 40 (.iads 1 (tG 20) (tG 21))], [oG 20 (.mv (tG 3)), oG 21 (.mv (tG 5)), oG 22 (.mv (tG 3)), oG 23 (.mv (tG 5)), oG 24 (.iads 1 (tG 22) (tG 23)), oG 25 (.ld (tG 24)), oG 26 (.mv (tG 0)), oG 27 (.mv (tG 4)), oG 28 (.iads 1 (tG 26) (tG 27)), oG 29 (.ld (tG 28)), oG 34 (.mv (tG 5)), oG 35 (.bin .rem (tG 34) (cG 2)), oG 36 (.bin .mul (cG 2) (tG 35)), oG 37 (.bin .sub (cG 1) (tG 36))], (some ⟨none, none, .st 1 (tG 40) (tG 39)⟩), []⟩, ⟨[], [], none, []⟩]
noncomputable def f30_r7 : List EOper := [oG 18 (.mv (tG 5)), oG 19 (.bin .add (tG 18) (cG 1)), oG 5 (.as (tG 19))]
noncomputable def f30_l0 : EC := (.seq (.seq (.reg f30_r5) (.cond (tG 17) .skip (.exit 2))) (.seq (.block 3 (.draw f30_r6)) (.reg f30_r7)))
noncomputable def f30_r8 : List EOper := [oG 13 (.mv (tG 4)), oG 14 (.bin .add (tG 13) (cG 1)), oG 4 (.as (tG 14))]
noncomputable def f30_l1 : EC := (.seq (.seq (.reg f30_r3) (.cond (tG 12) .skip (.exit 0))) (.seq (.block 1 (.seq (.reg f30_r4) (.block 2 (.loop f30_l0)))) (.reg f30_r8)))
noncomputable def f30_r9 : List EOper := [oG 41 (.mv (tG 3)), oG 2 (.as (tG 41))]
noncomputable def f30_c : EC := (.seq (.reg f30_r0) (.seq (.reg f30_r1) (.seq (.seq (.reg f30_r2) (.block 0 (.loop f30_l1))) (.seq (.reg f30_r9) .ret))))
noncomputable def f30 : EF := ⟨42, [.tmp (.ofNat 2)], f30_c, none⟩
noncomputable def f71_r0 : List EOper := [oG 2 (.as (.c .sn))]
noncomputable def f71_r1 : List EOper := [oG 8 (.mv (tG 0)), oG 9 (.len (tG 8)), oG 10 (.mkslice 1 [(.i .i64 (.ofNat 0))] (tG 9)), oG 3 (.as (tG 10))]
noncomputable def f71_r2 : List EOper := [oG 11 (.mv (tG 0)), oG 12 (.len (tG 11)), oG 13 (.mv (cG 0))]
noncomputable def f71_r3 : List EOper := [oG 14 (.bin .lss (tG 13) (tG 12))]
noncomputable def f71_r4 : List EOper := [oG 15 (.mv (tG 13)), oG 16 (.iads 1 (tG 11) (tG 13)), oG 17 (.ld (tG 16)), oG 4 (.as (tG 15)), oG 5 (.as (tG 17))]
noncomputable def f71_r5 : List EOper := [oG 18 (.mv (tG 4)), oG 19 (.bin .add (tG 18) (cG 1)), oG 20 (.mv (cG 0))]
noncomputable def f71_r6 : List EOper := [oG 21 (.bin .lss (tG 20) (tG 19))]
noncomputable def f71_r7 : List EOper := [oG 22 (.mv (tG 20)), oG 6 (.as (tG 22))]
noncomputable def f71_r8 : List EOper := [oG 23 (.mv (tG 6)), oG 24 (.bin .rem (tG 23) (cG 2)), oG 25 (.bin .mul (cG 2) (tG 24)), oG 26 (.bin .sub (cG 1) (tG 25)), oG 7 (.as (tG 26))]
noncomputable def f71_r9 : List Stage := [⟨[oG 27 (.mv (tG 3)), oG 28 (.mv (tG 6)), oG 29 (.iads 1 (tG 27) (tG 28)), oG 30 (.ld (tG 29)), oG 31 (.mv (tG 7)), oG 32 (.mv (tG 4)), oG 33 (.mv (tG 6)), oG 36 (.mv (tG 5))], [], (some (oG 34 (.call (fG 100) [(tG 32), (tG 33)]))), []⟩, ⟨[oG 35 (.bin .mul (tG 31) (tG 34)), oG 37 (.bin .mul (tG 35) (tG 36)), oG 38 (.bin .add (tG 30) (tG 37)), oG 39 (.iads 1 (tG 27) (tG 28))], [oG 27 (.mv (tG 3)), oG 28 (.mv (tG 6)), oG 29 (.iads 1 (tG 27) (tG 28)), oG 30 (.ld (tG 29)), oG 31 (.mv (tG 7)), oG 36 (.mv (tG 5))], (some ⟨none, none, .st 1 (tG 39) (tG 38)⟩), []⟩, ⟨[], [], none, []⟩]
noncomputable def f71_r10 : List EOper := [oG 40 (.bin .add (tG 20) (cG 1)), oG 20 (.mv (tG 40))]
noncomputable def f71_l0 : EC := (.seq (.reg f71_r6) (.seq (.cond (tG 21) .skip (.exit 2)) (.seq (.block 3 (.seq (.reg f71_r7) (.seq (.reg f71_r8) (.draw f71_r9)))) (.reg f71_r10))))
noncomputable def f71_r11 : List EOper := [oG 41 (.bin .add (tG 13) (cG 1)), oG 13 (.mv (tG 41))]
noncomputable def f71_l1 : EC := (.seq (.reg f71_r3) (.seq (.cond (tG 14) .skip (.exit 0)) (.seq (.block 1 (.seq (.reg f71_r4) (.seq (.reg f71_r5) (.block 2 (.loop f71_l0))))) (.reg f71_r11))))
noncomputable def f71_r12 : List EOper := [oG 42 (.mv (tG 3)), oG 2 (.as (tG 42))]
noncomputable def f71_c : EC := (.seq (.reg f71_r0) (.seq (.reg f71_r1) (.seq (.seq (.reg f71_r2) (.block 0 (.loop f71_l1))) (.seq (.reg f71_r12) .ret))))
noncomputable def f71 : EF := ⟨43, [.tmp (.ofNat 2)], f71_c, none⟩
theorem f71_rs : f71.rs = [.tmp (.ofNat 2)] := of_eq_true (eq_self _)
noncomputable def f31_r0 : List EOper := [oG 2 (.as (.c .sn))]
noncomputable def f31_r1 : List EOper := [oG 5 (.mv (tG 0)), oG 6 (.len (tG 5)), oG 7 (.bin .eql (tG 6) (cG 1))]
noncomputable def f31_r2 : List EOper := [oG 8 (.bslice 1 1 [(.i .i64 (.ofNat 0))] [(0, 1, (cG 0))]), oG 2 (.as (tG 8))]
noncomputable def f31_r3 : List EOper := [oG 3 (.as (.c .sn))]
noncomputable def f31_r4 : List EOper := [oG 4 (.as (cG 1))]
noncomputable def f31_r5 : List EOper := [oG 9 (.mv (tG 4)), oG 10 (.mv (tG 0)), oG 11 (.len (tG 10)), oG 12 (.bin .lss (tG 9) (tG 11))]
noncomputable def f31_r6 : List EOper := [oG 15 (.mv (tG 3)), oG 16 (.mv (tG 4)), oG 17 (.mv (tG 0)), oG 18 (.mv (tG 4)), oG 19 (.iads 1 (tG 17) (tG 18)), oG 20 (.ld (tG 19)), oG 21 (.bin .mul (tG 16) (tG 20)), oG 22 (.bslice 1 1 [(.i .i64 (.ofNat 0))] [(0, 1, (tG 21))]), oG 23 (.app 1 (tG 15) (tG 22)), oG 3 (.as (tG 23))]
noncomputable def f31_r7 : List EOper := [oG 13 (.mv (tG 4)), oG 14 (.bin .add (tG 13) (cG 1)), oG 4 (.as (tG 14))]
noncomputable def f31_l0 : EC := (.seq (.seq (.reg f31_r5) (.cond (tG 12) .skip (.exit 0))) (.seq (.block 1 (.reg f31_r6)) (.reg f31_r7)))
noncomputable def f31_r8 : List EOper := [oG 24 (.mv (tG 3)), oG 2 (.as (tG 24))]
noncomputable def f31_c : EC := (.seq (.reg f31_r0) (.seq (.seq (.reg f31_r1) (.cond (tG 7) (.seq (.reg f31_r2) .ret) .skip)) (.seq (.reg f31_r3) (.seq (.seq (.reg f31_r4) (.block 0 (.loop f31_l0))) (.seq (.reg f31_r8) .ret)))))
noncomputable def f31 : EF := ⟨25, [.tmp (.ofNat 2)], f31_c, none⟩
noncomputable def f72_r0 : List EOper := [oG 2 (.as (.c .sn))]
noncomputable def f72_r1 : List EOper := [oG 5 (.mv (tG 0)), oG 6 (.len (tG 5)), oG 7 (.bin .eql (tG 6) (cG 1))]
noncomputable def f72_r2 : List EOper := [oG 8 (.bslice 1 1 [(.i .i64 (.ofNat 0))] [(0, 1, (cG 0))]), oG 2 (.as (tG 8))]
noncomputable def f72_r3 : List EOper := [oG 9 (.mv (tG 0)), oG 10 (.len (tG 9)), oG 11 (.bin .sub (tG 10) (cG 1)), oG 12 (.mkslice 1 [(.i .i64 (.ofNat 0))] (tG 11)), oG 3 (.as (tG 12))]
noncomputable def f72_r4 : List EOper := [oG 13 (.mv (tG 3)), oG 14 (.len (tG 13)), oG 15 (.mv (cG 0))]
noncomputable def f72_r5 : List EOper := [oG 16 (.bin .lss (tG 15) (tG 14))]
noncomputable def f72_r6 : List EOper := [oG 17 (.mv (tG 15)), oG 4 (.as (tG 17))]
noncomputable def f72_r7 : List EOper := [oG 18 (.mv (tG 3)), oG 19 (.mv (tG 4)), oG 20 (.mv (tG 4)), oG 21 (.bin .add (tG 20) (cG 1)), oG 22 (.mv (tG 0)), oG 23 (.mv (tG 4)), oG 24 (.bin .add (tG 23) (cG 1)), oG 25 (.iads 1 (tG 22) (tG 24)), oG 26 (.ld (tG 25)), oG 27 (.bin .mul (tG 21) (tG 26)), oG 28 (.iads 1 (tG 18) (tG 19)), ⟨none, none, .st 1 (tG 28) (tG 27)⟩]
noncomputable def f72_r8 : List EOper := [oG 29 (.bin .add (tG 15) (cG 1)), oG 15 (.mv (tG 29))]
noncomputable def f72_l0 : EC := (.seq (.reg f72_r5) (.seq (.cond (tG 16) .skip (.exit 0)) (.seq (.block 1 (.seq (.reg f72_r6) (.reg f72_r7))) (.reg f72_r8))))
noncomputable def f72_r9 : List EOper := [oG 30 (.mv (tG 3)), oG 2 (.as (tG 30))]
noncomputable def f72_c : EC := (.seq (.reg f72_r0) (.seq (.seq (.reg f72_r1) (.cond (tG 7) (.seq (.reg f72_r2) .ret) .skip)) (.seq (.reg f72_r3) (.seq (.seq (.reg f72_r4) (.block 0 (.loop f72_l0))) (.seq (.reg f72_r9) .ret)))))
noncomputable def f72 : EF := ⟨31, [.tmp (.ofNat 2)], f72_c, none⟩
section
variable {fs : T EF} {h : H} {v w : V} {L M : List Int} {n k : Nat}
theorem ch_div {n i : Nat} (hn : n ≤ 6) (hi : i < n) : fw .i64 ((fw .i64 ((chR n i : Int) * ((n : Int) - (i : Int)))).tdiv ((i : Int) + 1)) = (chR n (i + 1) : Int) := by
  have b := (ch_le ⟨n, by omega⟩ ⟨i, by omega⟩).1
  have c := (ch_le ⟨n, by omega⟩ ⟨i + 1, by omega⟩).2
  have b : chR n i * (n - i) ≤ 140 := b
  have c : chR n (i + 1) ≤ 35 := c
  have e1 : (chR n i : Int) * ((n : Int) - (i : Int)) = ((chR n i * (n - i) : Nat) : Int) := by rw [Int.natCast_mul, show ((n : Int) - (i : Int)) = ((n - i : Nat) : Int) by omega]
  have e2 : ((chR n i * (n - i) : Nat) : Int).tdiv ((i : Int) + 1) = ((chR n (i + 1) : Nat) : Int) := by
    rw [Int.tdiv_eq_ediv_of_nonneg (by omega)]
    show _ = ((chR n i * (n - i) / (i + 1) : Nat) : Int)
    rw [Int.natCast_ediv]; rfl
  rw [e1, fw64 (a := ((chR n i * (n - i) : Nat) : Int)) (by omega) (by omega), e2]
  exact fw64 (by omega) (by omega)
def f100_I (h0 : H) (n k i : Nat) (fr : Fr) (h1 : H) : Prop := i ≤ k ∧ h1 = h0 ∧ fr.get (K.ofNat 0) = some (.i .i64 (n : Int)) ∧ fr.get (K.ofNat 5) = some (.i .i64 (chR n i : Int)) ∧ fr.get (K.ofNat 7) = some (.i .i64 (k : Int)) ∧ fr.get (K.ofNat 8) = some (.i .i64 (i : Int))
theorem f100_ret (hn : n ≤ 6) (hk : k ≤ n) : Ret fs f100 [.i .i64 (n : Int), .i .i64 (k : Int)] h fun r h' => r = .i .i64 (chR n k : Int) ∧ h' = h := by
  apply ret_of rfl
  show W fs none f100_c _ _ _
  unfold f100_c
  have hr : ((chR n 0 : Nat) : Int) = 1 := rfl
  simp (disch := omega) only [f100_r0, f100_r1, f100_r2, Nat.reduceEqDiff, ↓reduceIte, bz]
  refine W_loop (f100_I h n k) (fun i => k - i) ?_ 0 ⟨by omega, rfl, by simp (disch := omega) only [getK_set, Nat.reduceEqDiff, ↓reduceIte, and_self, Int.natCast_zero, hr]⟩
  rintro i fr h1 ⟨hi, rfl, g0, g5, g7, g8⟩
  unfold f100_l0
  by_cases hlt : i < k
  · have d1 : decide ((i : Int) < (k : Int)) = true := decide_eq_true (by omega)
    have e4 : fw .i64 ((i : Int) + 1) = (i : Int) + 1 := fw64 (by omega) (by omega)
    have en : fw .i64 ((n : Int) - (i : Int)) = (n : Int) - (i : Int) := fw64 (by omega) (by omega)
    have d0 : decide ((i : Int) + 1 = 0) = false := decide_eq_false (by omega)
    have ed := ch_div hn (show i < n by omega)
    simp (disch := omega) only [f100_r3, f100_r4, f100_r5, f100_r6, Nat.reduceEqDiff, ↓reduceIte, g0, g5, g7, g8, d1, e4, en, ed, bz]
    exact ⟨i + 1, by omega, by omega, rfl, by simp (disch := omega) only [getK_set, Nat.reduceEqDiff, ↓reduceIte, g0, g7, and_self, Int.natCast_add, Int.natCast_one]⟩
  · have d1 : decide ((i : Int) < (k : Int)) = false := decide_eq_false (by omega)
    obtain rfl : i = k := by omega
    simp (disch := omega) only [f100_r3, f100_r7, f100_rs, Option.some.injEq, exists_eq_left', Nat.reduceEqDiff, ↓reduceIte, Bool.false_eq_true, g5, g7, g8, d1, and_self, bz]
theorem f100_eq (k100 : fs.get (.ofNat 100) = some f100) (hn : n ≤ 6) (hk : k ≤ n) {P : V → H → Prop} : CallP fs (.fn (.ofNat 100) []) [.i .i64 (n : Int), .i .i64 (k : Int)] h P = P (.i .i64 (chR n k : Int)) h := callP_eq2 (callP_0 k100 rfl (f100_ret hn hk))
def tmM (L : List Int) (i k : Nat) : Int := (1 - 2 * ((k : Int) % 2)) * (chR i k : Int) * L.getD i 0
def mIn (L : List Int) (i : Nat) (M : List Int) : Nat → List Int
  | 0 => M
  | k + 1 => (mIn L i M k).set k (fw .i64 ((mIn L i M k).getD k 0 + tmM L i k))
def mOut (L : List Int) (n : Nat) : Nat → List Int
  | 0 => List.replicate n 0
  | i + 1 => mIn L i (mOut L n i) (i + 1)
theorem mIn_len {i : Nat} : ∀ k, (mIn L i M k).length = M.length
  | 0 => rfl
  | k + 1 => by show ((mIn L i M k).set k _).length = _; rw [List.length_set]; exact mIn_len k
theorem mOut_len : ∀ i, (mOut L n i).length = n
  | 0 => by simp [mOut]
  | i + 1 => by show (mIn L i _ _).length = _; rw [mIn_len]; exact mOut_len i
theorem tm_wr (hL : ∀ i, (L.getD i 0).natAbs ≤ 100) {i k : Nat} (hi : i ≤ 6) (hk : k ≤ i) :
    fw .i64 (1 - fw .i64 (2 * (k : Int).tmod 2)) = 1 - 2 * ((k : Int) % 2) ∧ fw .i64 ((1 - 2 * ((k : Int) % 2)) * (chR i k : Int)) = (1 - 2 * ((k : Int) % 2)) * (chR i k : Int) ∧ fw .i64 ((1 - 2 * ((k : Int) % 2)) * (chR i k : Int) * L.getD i 0) = tmM L i k ∧ fw .i64 (L.getD i 0 * (chR i k : Int)) = L.getD i 0 * (chR i k : Int) ∧ fw .i64 (L.getD i 0 * (chR i k : Int) * (1 - 2 * ((k : Int) % 2))) = tmM L i k := by
  have c : chR i k ≤ 35 := (ch_le ⟨i, by omega⟩ ⟨k, by omega⟩).2
  have hs : 1 - 2 * ((k : Int) % 2) = 1 ∨ 1 - 2 * ((k : Int) % 2) = -1 := by omega
  have et : (k : Int).tmod 2 = (k : Int) % 2 := Int.tmod_eq_emod_of_nonneg (by omega)
  have b := nm (hL i) (show (chR i k : Int).natAbs ≤ 35 by omega)
  have e : L.getD i 0 * (chR i k : Int) * (1 - 2 * ((k : Int) % 2)) = tmM L i k := by unfold tmM; rw [Int.mul_comm (L.getD i 0), Int.mul_comm _ (1 - 2 * ((k : Int) % 2)), Int.mul_assoc]
  have bt : (tmM L i k).natAbs ≤ 3500 := by
    rw [← e]
    have := nm b (show (1 - 2 * ((k : Int) % 2)).natAbs ≤ 1 by omega)
    omega
  refine ⟨by rw [et, fw64 (a := 2 * ((k : Int) % 2)) (by omega) (by omega)]; exact fw64 (by omega) (by omega), ?_, ?_, fw64 (by omega) (by omega), by rw [e]; exact fw64 (by omega) (by omega)⟩
  · rcases hs with hs | hs <;> rw [hs] <;> exact fw64 (by omega) (by omega)
  · exact fw64 (a := tmM L i k) (by omega) (by omega)
end
end Go.Ev
