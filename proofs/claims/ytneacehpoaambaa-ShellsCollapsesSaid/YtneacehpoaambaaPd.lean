/-
  The evaluator, weakest preconditions: memory that grows; slices whose elements take one cell each.
  The evaluator, an example: an iterator over a family of sets (shells.family.all's literal, function 91 of the seat of d3d68b0): what it does for any body.
  The evaluator, an example: the iterator over a set's corners (shells.cornersOf's literal, function 92 of the seat of d3d68b0): what it does for any body.
  The evaluator, weakest preconditions: loops over functions; parts of slices; arrays.
  The evaluator, weakest preconditions: statements whose order is open.
  The evaluator, weakest preconditions: a call with a slice that came in.
  The evaluator: what is proved of a function of numbers whose result is a new slice of numbers.
  A slice of numbers that comes in, and reads behind the call as it read before.
  The evaluator, weakest preconditions: more on slices.
  Slices that are only read; calls with several slices that came in and may overlap.
  The pieces of Pieces of the reference, and what they make.
  Functions of the seat: few, partsOf.
  Functions of the seat: family.all, family.tops.
  Functions of the seat: piecesOf, Made.
  The law ShellsMakes.
-/
import Derived.Test.YtneacehpoaambaaPc
import Derived.ProofKit
import Derived.SizedLaws
import Derived.ChangeSlices
namespace Go.Ev
open Go Go.RowKit

/-! ### Memory that grows -/
/-- Nothing lies beyond the names that were given. -/
def HC (h : H) : Prop := ∀ id : K, h.nx.nat ≤ id.nat → h.get id = .dead
/-- What has a name below b stays. -/
structure Grow (b : Nat) (h h' : H) : Prop where
  nx : h.nx.nat ≤ h'.nx.nat
  old : ∀ id : K, id.nat < b → h'.get id = h.get id
  hc : HC h → HC h'
theorem Grow.refl (b : Nat) (h : H) : Grow b h h := ⟨Nat.le_refl _, fun _ _ => rfl, fun h => h⟩
theorem Grow.trans {b : Nat} {h h1 h2 : H} (k : Grow b h h1) (l : Grow b h1 h2) : Grow b h h2 := ⟨Nat.le_trans k.nx l.nx, fun id hi => (l.old id hi).trans (k.old id hi), fun hc => l.hc (k.hc hc)⟩
theorem Grow.low {b c : Nat} {h h1 : H} (hb : b ≤ c) (k : Grow c h h1) : Grow b h h1 := ⟨k.nx, fun id hi => k.old id (Nat.lt_of_lt_of_le hi hb), k.hc⟩
theorem nx_new (h : H) (x : Blk) : (h.new x).nx.nat = h.nx.nat + 1 := K.succ_nat _
theorem nx_put (h : H) (k : K) (x : Blk) : (h.put k x).nx = h.nx := rfl
theorem Grow.new {b : Nat} {h : H} (hb : b ≤ h.nx.nat) (x : Blk) : Grow b h (h.new x) := by
  refine ⟨by rw [nx_new]; omega, fun id hi => ?_, fun hc id hi => ?_⟩
  · rw [H.get_new, if_neg (fun e => by rw [e] at hi; omega)]
  · rw [nx_new] at hi
    rw [H.get_new, if_neg (fun e => by rw [e] at hi; omega)]
    exact hc id (by omega)
theorem Grow.put {b : Nat} {h : H} {k : K} (hb : b ≤ k.nat) (hk : k.nat < h.nx.nat) (x : Blk) : Grow b h (h.put k x) := by
  refine ⟨Nat.le_refl _, fun id hi => ?_, fun hc id hi => ?_⟩
  · rw [H.get_put, if_neg (fun e => by rw [e] at hi; omega)]
  · rw [nx_put] at hi
    rw [H.get_put, if_neg (fun e => by rw [e] at hi; omega)]
    exact hc id hi
theorem HC.lt {h : H} (hc : HC h) {id : K} (hd : h.get id ≠ .dead) : id.nat < h.nx.nat := by
  rcases Nat.lt_or_ge id.nat h.nx.nat with e | e
  · exact e
  · exact absurd (hc id e) hd
theorem HC.cells {h : H} (hc : HC h) {id : K} {m : Nat} {cs : List V} (hd : h.get id = .cells m cs) : id.nat < h.nx.nat := hc.lt (by rw [hd]; simp)
theorem HC.dead {h : H} (hc : HC h) : (h.get h.nx).isDead = true := by rw [hc h.nx (Nat.le_refl _)]; rfl
theorem get_new_same {h : H} {x : Blk} : (h.new x).get h.nx = x := by rw [H.get_new, if_pos rfl]
theorem get_new_old {h : H} {x : Blk} {id : K} (hi : id.nat < h.nx.nat) : (h.new x).get id = h.get id := by rw [H.get_new, if_neg (fun e => by rw [e] at hi; omega)]
theorem get_put_same {h : H} {x : Blk} {id : K} : (h.put id x).get id = x := by rw [H.get_put, if_pos rfl]
theorem get_put_other {h : H} {x : Blk} {id id' : K} (hi : id' ≠ id) : (h.put id x).get id' = h.get id' := by rw [H.get_put, if_neg hi]

/-! ### Slices -/
def Sl {α : Type} (e : α → V) (h : H) (v : V) (L : List α) : Prop := (v = .sn ∧ L = []) ∨ ∃ id off m cs, v = .sl id off L.length 1 ∧ h.get id = .cells m cs ∧ cs.length = m ∧ off + L.length ≤ m ∧ ∀ i (hi : i < L.length), cs[off + i]? = some (e L[i])
/-- The slice was made since. -/
def Own (b : Nat) (v : V) : Prop := ∀ id off n sz, v = .sl id off n sz → b ≤ id.nat
/-- The slice is no part of that block. -/
def NotIn (id : K) (v : V) : Prop := ∀ off n sz, v ≠ .sl id off n sz
noncomputable def iE (n : Int) : V := .i .i64 n
section
variable {α : Type} {e : α → V} {h h' : H} {v u : V} {L M : List α} {b : Nat}
theorem Sl.nil : Sl e h .sn ([] : List α) := .inl ⟨rfl, rfl⟩
theorem Own.sn : Own b .sn := fun _ _ _ _ h => by cases h
theorem NotIn.sn {id : K} : NotIn id .sn := fun _ _ _ h => by cases h
theorem Own.low {c : Nat} (ho : Own c v) (hb : b ≤ c) : Own b v := fun id off n sz e => Nat.le_trans hb (ho id off n sz e)
theorem Own.notIn {id : K} (ho : Own b v) (hi : id.nat < b) : NotIn id v := fun off n sz e => by have := ho id off n sz e; omega
theorem Sl.len (hs : Sl e h v L) (h1 : H) : lenV v h1 = .ok (.i .i64 (L.length : Int)) h1 := by
  rcases hs with ⟨rfl, rfl⟩ | ⟨id, off, m, cs, rfl, _⟩ <;> rfl
theorem Sl.at (hs : Sl e h v L) (i : Nat) (hi : i < L.length) : ∃ p, (∀ k h1, iadsV 1 v (.i k (i : Int)) h1 = .ok p h1) ∧ loadV h p one? = .ok (e L[i]) h := by
  rcases hs with ⟨rfl, rfl⟩ | ⟨id, off, m, cs, rfl, hb, hl, hm, hx⟩
  · simp at hi
  · refine ⟨.p id (off + i * 1), fun k h1 => ?_, ?_⟩
    · rw [iads_sl, idx_n hi]
    · exact load_p hb (by rw [nth_eq, Nat.mul_one]; exact hx i hi)
theorem Sl.same (hs : Sl e h v L) (hg : ∀ id off n sz, v = .sl id off n sz → h'.get id = h.get id) : Sl e h' v L := by
  rcases hs with ⟨rfl, rfl⟩ | ⟨id, off, m, cs, rfl, hb, hl, hm, hx⟩
  · exact .inl ⟨rfl, rfl⟩
  · exact .inr ⟨id, off, m, cs, rfl, by rw [hg _ _ _ _ rfl]; exact hb, hl, hm, hx⟩
theorem Sl.lt (hs : Sl e h v L) (hc : HC h) : ∀ id off n sz, v = .sl id off n sz → id.nat < h.nx.nat := by
  rcases hs with ⟨rfl, rfl⟩ | ⟨id, off, m, cs, rfl, hb, hl, hm, hx⟩
  · exact fun _ _ _ _ h => by cases h
  · exact fun _ _ _ _ h => by cases h; exact hc.cells hb
/-- What was there when the call began is there. -/
theorem Sl.grow (hs : Sl e h v L) (hc : HC h) (hg : Grow h.nx.nat h h') : Sl e h' v L := hs.same fun id off n sz ev => hg.old id (hs.lt hc id off n sz ev)
theorem Sl.new (hs : Sl e h v L) (hc : HC h) (x : Blk) : Sl e (h.new x) v L := hs.grow hc (Grow.new (Nat.le_refl _) x)
theorem Sl.put (hs : Sl e h v L) {id : K} (hn : NotIn id v) (x : Blk) : Sl e (h.put id x) v L := hs.same fun id' off n sz ev => get_put_other (fun ee => hn off n sz (by rw [ev, ee]))
theorem Sl.addOf (hs : Sl e h v L) : addOf 1 h v = some (L.length, L.map e) := by
  rcases hs with ⟨rfl, rfl⟩ | ⟨id, off, m, cs, rfl, hb, hl, hm, hx⟩
  · rfl
  · show (h.get id).onC none (fun len cs => bif Nat.beq 1 1 && Nat.ble (off + L.length * 1) len then some (L.length, takeN (L.length * 1) (dropN off cs)) else none) = _
    rw [hb]
    show (bif Nat.beq 1 1 && Nat.ble (off + L.length * 1) m then some (L.length, takeN (L.length * 1) (dropN off cs)) else none) = _
    rw [show (Nat.beq 1 1 && Nat.ble (off + L.length * 1) m) = true by rw [Nat.beq_refl, Nat.ble_eq_true_of_le (by omega)]; rfl]
    show some (L.length, takeN (L.length * 1) (dropN off cs)) = _
    congr 2
    rw [takeN_eq, dropN_eq, Nat.mul_one]
    apply List.ext_getElem?
    intro i
    by_cases hi : i < L.length
    · rw [List.getElem?_take, if_pos hi, List.getElem?_drop, hx i hi]; simp [hi]
    · rw [List.getElem?_eq_none (by simp; omega), List.getElem?_eq_none (by simp; omega)]
/-- What appending does. -/
theorem Sl.appA (hs : Sl e h v L) (ho : Own b v) (hb : b ≤ h.nx.nat) (hu : Go.Ev.addOf 1 h u = some (M.length, M.map e)) (hc : HC h) (hn : L.length + M.length ≤ 16777216) :
    ∃ v' h', appV 1 h v u = .ok v' h' ∧ Sl e h' v' (L ++ M) ∧ Own b v' ∧ Grow b h h' ∧ ∀ id : K, id.nat < h.nx.nat → NotIn id v → h'.get id = h.get id ∧ NotIn id v' := by
  have hne : ∀ id : K, id.nat < h.nx.nat → id ≠ h.nx := fun id hi ee => by rw [ee] at hi; omega
  unfold appV
  rw [hu]
  show ∃ v' h', v.onSl RV.no (bif Nat.ble M.length 16777216 then app0 1 h M.length (M.map e) else .no) (fun id off n sz' => (h.get id).onW .no fun len cs => bif Nat.beq 1 sz' && Nat.ble (off + n * 1) len && Nat.ble (n + M.length) 16777216 then app1 1 h id off n cs M.length (M.map e) else .no) = .ok v' h' ∧ _
  rcases hs with ⟨rfl, rfl⟩ | ⟨id, off, m, cs, rfl, hb', hl, hm, hx⟩
  · show ∃ v' h', (bif Nat.ble M.length 16777216 then app0 1 h M.length (M.map e) else .no) = .ok v' h' ∧ _
    rw [Nat.ble_eq_true_of_le (by simpa using hn)]
    show ∃ v' h', app0 1 h M.length (M.map e) = .ok v' h' ∧ _
    unfold app0
    by_cases hz : M.length = 0
    · have : M = [] := List.length_eq_zero_iff.1 hz
      subst this
      exact ⟨.sn, h, rfl, .inl ⟨rfl, rfl⟩, Own.sn, Grow.refl _ _, fun id hi _ => ⟨rfl, NotIn.sn⟩⟩
    · rw [show Nat.beq M.length 0 = false by rw [← Bool.not_eq_true]; intro h; exact hz (Nat.eq_of_beq_eq_true h)]
      refine ⟨_, _, rfl, .inr ⟨h.nx, 0, M.length * 1, M.map e, rfl, get_new_same, by simp, by simp, fun i hi => ?_⟩, fun _ _ _ _ h => by cases h; exact hb, Grow.new hb _, fun id hi _ => ⟨get_new_old hi, fun _ _ _ h => by cases h; omega⟩⟩
      have hi : i < M.length := by simpa using hi
      simp [hi]
  · show ∃ v' h', (h.get id).onW RV.no (fun len cs => bif Nat.beq 1 1 && Nat.ble (off + L.length * 1) len && Nat.ble (L.length + M.length) 16777216 then app1 1 h id off L.length cs M.length (M.map e) else .no) = .ok v' h' ∧ _
    rw [hb']
    show ∃ v' h', (bif Nat.beq 1 1 && Nat.ble (off + L.length * 1) m && Nat.ble (L.length + M.length) 16777216 then app1 1 h id off L.length cs M.length (M.map e) else .no) = .ok v' h' ∧ _
    rw [show (Nat.beq 1 1 && Nat.ble (off + L.length * 1) m && Nat.ble (L.length + M.length) 16777216) = true by rw [Nat.beq_refl, Nat.ble_eq_true_of_le (show off + L.length * 1 ≤ m by omega), Nat.ble_eq_true_of_le hn]; rfl]
    show ∃ v' h', app1 1 h id off L.length cs M.length (M.map e) = .ok v' h' ∧ _
    unfold app1
    by_cases hz : M.length = 0
    · have : M = [] := List.length_eq_zero_iff.1 hz
      subst this
      refine ⟨_, h, rfl, .inr ⟨id, off, m, cs, by simp, hb', hl, by simpa using hm, fun i hi => ?_⟩, ho, Grow.refl _ _, fun id' hi hni => ⟨rfl, hni⟩⟩
      have hi' : i < L.length := by simpa using hi
      simpa using hx i hi'
    · rw [show Nat.beq M.length 0 = false by rw [← Bool.not_eq_true]; intro h; exact hz (Nat.eq_of_beq_eq_true h)]
      have hid := hc.cells hb'
      refine ⟨_, _, rfl, .inr ⟨h.nx, 0, (L.length + M.length) * 1, cat (takeN (L.length * 1) (dropN off cs)) (M.map e), by simp, get_new_same, ?_, by simp, fun i hi => ?_⟩, fun _ _ _ _ h => by cases h; exact hb, (Grow.put (ho _ _ _ _ rfl) hid _).trans (Grow.new (by exact hb) _), fun id' hi hni => ⟨?_, fun _ _ _ h => by cases h; exact absurd hi (Nat.lt_irrefl _)⟩⟩
      · rw [cat_eq, takeN_eq, dropN_eq]; simp; omega
      · rw [cat_eq, takeN_eq, dropN_eq, Nat.mul_one, Nat.zero_add]
        have hi' : i < L.length + M.length := by simpa using hi
        by_cases h1 : i < L.length
        · rw [List.getElem?_append_left (by simp; omega), List.getElem?_take, if_pos h1, List.getElem?_drop, hx i h1]
          simp [List.getElem_append_left h1]
        · rw [List.getElem?_append_right (by simp; omega)]
          have : (List.take L.length (List.drop off cs)).length = L.length := by simp; omega
          have hi2 : i - L.length < M.length := by omega
          rw [this, List.getElem_append_right (by omega), List.getElem?_map, List.getElem?_eq_getElem hi2]
          rfl
      · show ((h.put id .dead).new _).get id' = _
        rw [H.get_new, if_neg (show id' ≠ (h.put id .dead).nx from hne id' hi), get_put_other (fun ee => hni off L.length 1 (by rw [ee]))]
theorem Sl.app (hs : Sl e h v L) (ho : Own b v) (hb : b ≤ h.nx.nat) (hu : Sl e h u M) (hc : HC h) (hn : L.length + M.length ≤ 16777216) :
    ∃ v' h', appV 1 h v u = .ok v' h' ∧ Sl e h' v' (L ++ M) ∧ Own b v' ∧ Grow b h h' ∧ ∀ id : K, id.nat < h.nx.nat → NotIn id v → h'.get id = h.get id ∧ NotIn id v' := Sl.appA hs ho hb hu.addOf hc hn
theorem Sl.lit {x : α} : Sl e (h.new (.cells (1 * 1) [e x])) (.sl h.nx 0 1 1) [x] := by
  refine .inr ⟨h.nx, 0, 1 * 1, [e x], rfl, get_new_same, rfl, by simp, fun i hi => ?_⟩
  have : i = 0 := by simpa using hi
  subst this; rfl
/-- append(v, x). -/
theorem Sl.push {x : α} {c : V} (hx : c = e x) (hs : Sl e h v L) (ho : Own b v) (hb : b ≤ h.nx.nat) (hc : HC h) (hn : L.length < 16777216) :
    ∃ v' h', appV 1 (h.new (.cells (1 * 1) [c])) v (.sl h.nx 0 1 1) = .ok v' h' ∧ Sl e h' v' (L ++ [x]) ∧ Own b v' ∧ Grow b h h' ∧ ∀ id : K, id.nat < h.nx.nat → NotIn id v → h'.get id = h.get id ∧ NotIn id v' := by
  subst hx
  have hg := Grow.new (b := b) hb (.cells (1 * 1) [e x])
  have hnx := nx_new h (.cells (1 * 1) [e x])
  obtain ⟨v', h', e1, e2, e3, e4, e5⟩ := Sl.app (b := b) (hs.new hc (.cells (1 * 1) [e x])) ho (by omega) (Sl.lit (e := e) (x := x)) (hg.hc hc) (by simp; omega)
  refine ⟨v', h', e1, e2, e3, hg.trans e4, fun id hi hni => ?_⟩
  obtain ⟨e6, e7⟩ := e5 id (by omega) hni
  exact ⟨by rw [e6, get_new_old hi], e7⟩
theorem fill_1 {fr : Fr} {x : EO} {z : V} : fillE fr [z] [(0, 1, x)] = oGet (cellsN 1 (ev fr x)) none (fun cs => some (setMany [z] 0 cs)) := of_eq_true (eq_self _)
theorem set_1 {z c : V} : setMany [z] 0 [c] = [c] := of_eq_true (eq_self _)
theorem of0 : Int.ofNat 0 = 0 := of_eq_true (eq_self _)
theorem of1 : Int.ofNat 1 = 1 := of_eq_true (eq_self _)
theorem of2 : Int.ofNat 2 = 2 := of_eq_true (eq_self _)
theorem of12 : Int.ofNat 12 = 12 := of_eq_true (eq_self _)
theorem of6 : Int.ofNat 6 = 6 := of_eq_true (eq_self _)
theorem of10 : Int.ofNat 10 = 10 := of_eq_true (eq_self _)
theorem of64 : Int.ofNat 64 = 64 := of_eq_true (eq_self _)
end
end Go.Ev
namespace Go.Ev
open Go Go.RowKit
noncomputable def al0 : List EOper := [⟨(some (.o (.z .e))), none, .ldn 64 (.t (.o .e))⟩, ⟨(some (.z (.z .e))), none, .mv (.c (.i .i64 (.ofNat 0)))⟩]
noncomputable def al1 : List EOper := [⟨(some (.o (.o (.o .e)))), none, .bin .lss (.t (.z (.z .e))) (.c (.i .i64 (.ofNat 64)))⟩]
noncomputable def al2 : List EOper := [⟨(some (.z (.o (.o .e)))), none, .mv (.t (.z (.z .e)))⟩, ⟨(some (.o (.z (.o .e)))), none, .ix 64 1 false (.t (.o (.z .e))) (.t (.z (.z .e)))⟩, ⟨(some (.o (.o .e))), none, .as (.t (.z (.o (.o .e))))⟩, ⟨(some (.z (.o .e))), none, .as (.t (.o (.z (.o .e))))⟩]
noncomputable def al3 : List EOper := [⟨(some (.z (.z (.o .e)))), none, .mv (.t (.z (.o .e)))⟩, ⟨(some (.o (.o (.z .e)))), none, .mv (.t (.z (.z (.o .e))))⟩, ⟨(some (.z (.o (.z .e)))), (some ((.o (.o (.z .e))), true)), .mv (.t .e)⟩, ⟨(some (.o (.z (.z .e)))), (some ((.o (.o (.z .e))), true)), .mv (.t (.o (.o .e)))⟩, ⟨(some (.z (.z (.z .e)))), (some ((.o (.o (.z .e))), true)), .call (.t (.z (.o (.z .e)))) [(.t (.o (.z (.z .e))))]⟩, ⟨(some (.o (.o (.o (.o .e))))), (some ((.o (.o (.z .e))), true)), .not (.t (.z (.z (.z .e))))⟩, ⟨(some (.z (.o (.o (.o .e))))), none, .pick (.t (.o (.o (.z .e)))) (.t (.o (.o (.o (.o .e))))) (.c (.b false))⟩]
noncomputable def al4 : List EOper := [⟨(some (.o (.z (.o (.o .e))))), none, .bin .add (.t (.z (.z .e))) (.c (.i .i64 (.ofNat 1)))⟩, ⟨(some (.z (.z .e))), none, .mv (.t (.o (.z (.o (.o .e)))))⟩]
/-- A round gives b. -/
def Round (fs : T EF) (id : K) (v : V) (h : H) (b : Bool) (h' : H) : Prop := ∃ n, callV fs (eval fs n) (.yl id) [v] h = .ok (.b b) h'
section
variable {fs : T EF} {go : Go} {fr : Fr} {h h' : H} {id : K} {i : Nat} {cs : List V} {B : Nat → Bool}
theorem evs_one {x : EO} : evs fr [x] = [ev fr x] := rfl
theorem e_callv {f : EO} {as : List EO} {fv v : V} {vs : List V} (hf : ev fr f = fv) (ha : evs fr as = vs) (hr : callV fs go fv vs h = .ok v h') : evop fs go fr h (.call f as) = .ok v h' := by
  subst hf; subst ha; exact hr
theorem al1_ok (g6 : fr.get (.z (.z .e)) = some (.i .i64 (.ofNat i))) : ∃ fr', runOps fs go al1 fr h = .ok .normal fr' h ∧ fr'.get (.o (.o (.o .e))) = some (.b (Nat.blt i 64)) ∧ ∀ k, k ∈ [K.e, .o (.z .e), .z (.z .e)] → fr'.get k = fr.get k := by
  refine ⟨?w, ?a, ?b, ?c⟩
  case a =>
    unfold al1
    rw [run_op rfl (e_bin (k := .i64) (i := .ofNat i) (j := .ofNat 64) (v := .b (ilt (.ofNat i) (.ofNat 64))) (by simp [ev, g6, getV]) (by simp [ev]) rfl), run_nil]
  case b => rw [T.get_set, if_pos rfl]; rfl
  case c =>
    intro k hk
    simp only [List.mem_cons, List.not_mem_nil, or_false] at hk
    rcases hk with rfl | rfl | rfl <;> simp [T.get_set]
theorem al2_ok (g5 : fr.get (.o (.z .e)) = some (.agg cs)) (g6 : fr.get (.z (.z .e)) = some (.i .i64 (.ofNat i))) (hi : i < 64) (hc : nth cs (i * 1) = some (.b (B i))) :
    ∃ fr', runOps fs go al2 fr h = .ok .normal fr' h ∧ fr'.get (.o (.o .e)) = some (.i .i64 (.ofNat i)) ∧ fr'.get (.z (.o .e)) = some (.b (B i)) ∧ ∀ k, k ∈ [K.e, .o (.z .e), .z (.z .e)] → fr'.get k = fr.get k := by
  refine ⟨?w, ?a, ?b, ?b2, ?c⟩
  case a =>
    unfold al2
    rw [run_op rfl (e_mv (v := .i .i64 (.ofNat i)) (by simp [ev, g6, getV])), run_op rfl (e_ix (cs := cs) (k := .i64) (m := i) (v := .b (B i)) (by simp [ev, T.get_set, getV, g5]) (by simp [ev, T.get_set, getV, g6]) hi hc), run_op rfl (e_as (v := .i .i64 (.ofNat i)) (by simp [ev, T.get_set, getV])), run_op rfl (e_as (v := .b (B i)) (by simp [ev, T.get_set, getV])), run_nil]
  case b => simp [T.get_set]
  case b2 => simp [T.get_set]
  case c =>
    intro k hk
    simp only [List.mem_cons, List.not_mem_nil, or_false] at hk
    rcases hk with rfl | rfl | rfl <;> simp [T.get_set]
theorem al3_in {b : Bool} {n : Nat} (g0 : fr.get .e = some (.yl id)) (g3 : fr.get (.o (.o .e)) = some (.i .i64 (.ofNat i))) (g4 : fr.get (.z (.o .e)) = some (.b true)) (hr : callV fs (eval fs n) (.yl id) [.i .i64 (.ofNat i)] h = .ok (.b b) h') :
    ∃ fr', runOps fs (eval fs n) al3 fr h = .ok .normal fr' h' ∧ fr'.get (.z (.o (.o (.o .e)))) = some (.b (!b)) ∧ ∀ k, k ∈ [K.e, .o (.z .e), .z (.z .e)] → fr'.get k = fr.get k := by
  refine ⟨?w, ?a, ?b, ?c⟩
  case a =>
    unfold al3
    rw [run_op rfl (e_mv (v := .b true) (by simp [ev, g4, getV])), run_op rfl (e_mv (v := .b true) (by simp [ev, T.get_set, getV])), run_op (by simp [wants, oGet, guardV, T.get_set, getV]) (e_mv (v := .yl id) (by simp [ev, T.get_set, getV, g0])),
      run_op (by simp [wants, oGet, guardV, T.get_set, getV]) (e_mv (v := .i .i64 (.ofNat i)) (by simp [ev, T.get_set, getV, g3])),
      run_op (v := .b b) (h1 := h') (by simp [wants, oGet, guardV, T.get_set, getV]) (e_callv (fv := .yl id) (vs := [.i .i64 (.ofNat i)]) (by simp [ev, T.get_set, getV]) (by rw [evs_one]; simp [ev, T.get_set, getV]) hr),
      run_op (by simp [wants, oGet, guardV, T.get_set, getV]) (e_not (b := b) (by simp [ev, T.get_set, getV])),
      run_op rfl (e_pick (b := true) (v := .b (!b)) (u := .b false) (by simp [ev, T.get_set, getV]) (by simp [ev, T.get_set, getV]) rfl), run_nil]
  case b => rw [T.get_set, if_pos rfl]; rfl
  case c =>
    intro k hk
    simp only [List.mem_cons, List.not_mem_nil, or_false] at hk
    rcases hk with rfl | rfl | rfl <;> simp [T.get_set]
theorem al3_out (g4 : fr.get (.z (.o .e)) = some (.b false)) :
    ∃ fr', runOps fs go al3 fr h = .ok .normal fr' h ∧ fr'.get (.z (.o (.o (.o .e)))) = some (.b false) ∧ ∀ k, k ∈ [K.e, .o (.z .e), .z (.z .e)] → fr'.get k = fr.get k := by
  refine ⟨?w, ?a, ?b, ?c⟩
  case a =>
    unfold al3
    rw [run_op rfl (e_mv (v := .b false) (by simp [ev, g4, getV])), run_op rfl (e_mv (v := .b false) (by simp [ev, T.get_set, getV])), run_not (by simp [wants, oGet, guardV, T.get_set, getV]), run_not (by simp [wants, oGet, guardV, T.get_set, getV, putD]), run_not (by simp [wants, oGet, guardV, T.get_set, getV, putD]), run_not (by simp [wants, oGet, guardV, T.get_set, getV, putD]),
      run_op rfl (e_pick (b := false) (v := undefV) (u := .b false) (by simp [ev, T.get_set, getV, putD]) (by simp [ev, T.get_set, getV, putD]) rfl), run_nil]
  case b => rw [T.get_set, if_pos rfl]; rfl
  case c =>
    intro k hk
    simp only [List.mem_cons, List.not_mem_nil, or_false] at hk
    rcases hk with rfl | rfl | rfl <;> simp [T.get_set, putD]
theorem al4_ok (g6 : fr.get (.z (.z .e)) = some (.i .i64 (.ofNat i))) (hi : i < 64) : ∃ fr', runOps fs go al4 fr h = .ok .normal fr' h ∧ fr'.get (.z (.z .e)) = some (.i .i64 (.ofNat (i + 1))) ∧ ∀ k, k ∈ [K.e, .o (.z .e)] → fr'.get k = fr.get k := by
  refine ⟨?w, ?a, ?b, ?c⟩
  case a =>
    unfold al4
    rw [run_op rfl (e_bin (k := .i64) (i := .ofNat i) (j := .ofNat 1) (v := .i .i64 (.ofNat (i + 1))) (by simp [ev, g6, getV]) rfl (b_add1 (by omega))), run_op rfl (e_mv (v := .i .i64 (.ofNat (i + 1))) (by simp [ev, T.get_set, getV])), run_nil]
  case b => simp [T.get_set]
  case c =>
    intro k hk
    simp only [List.mem_cons, List.not_mem_nil, or_false] at hk
    rcases hk with rfl | rfl <;> simp [T.get_set]
noncomputable def alBody : EC := (.seq (.reg al1) (.seq (.cond (.t (.o (.o (.o .e)))) .skip (.exit 0)) (.seq (.block 1 (.seq (.reg al2) (.seq (.reg al3) (.cond (.t (.z (.o (.o (.o .e))))) .ret .skip)))) (.reg al4))))
/-- The iterator's loop: I holds of memory before the i-th set, Q where a round has said that it is enough. -/
theorem al_loop {I : Nat → H → Prop} {Q : H → Prop} (hcs : ∀ i, i < 64 → nth cs (i * 1) = some (.b (B i)))
    (round : ∀ i h, i < 64 → B i = true → I i h → ∃ b h', Round fs id (.i .i64 (.ofNat i)) h b h' ∧ (b = true → I (i + 1) h') ∧ (b = false → Q h')) (skip : ∀ i h, i < 64 → B i = false → I i h → I (i + 1) h) :
    ∀ (j i : Nat) (fr : Fr) (h : H), 64 - i = j → i ≤ 64 → fr.get .e = some (.yl id) → fr.get (.o (.z .e)) = some (.agg cs) → fr.get (.z (.z .e)) = some (.i .i64 (.ofNat i)) → I i h →
      ∃ e fr' h', Runs fs none (.loop alBody) fr h e fr' h' ∧ ((e = .exit 0 ∧ I 64 h') ∨ (e = .ret ∧ Q h')) := by
  intro j
  induction j with
  | zero =>
    intro i fr h hj hle g0 g5 g6 hI
    obtain rfl : i = 64 := by omega
    obtain ⟨fr1, p1, p2, p3⟩ := al1_ok (fs := fs) (go := eval fs 0) (h := h) g6
    exact ⟨.exit 0, fr1, h, .loop_out (.seq (.reg p1) (.seq_out (.cond (r := false) (by simp only [ev, p2, getV]; rfl) .exit) (by simp))) (by simp), .inl ⟨rfl, hI⟩⟩
  | succ j ih =>
    intro i fr h hj hle g0 g5 g6 hI
    have hi : i < 64 := by omega
    obtain ⟨fr1, p1, p2, p3⟩ := al1_ok (fs := fs) (go := eval fs 0) (h := h) g6
    have hb : Nat.blt i 64 = true := Nat.ble_eq_true_of_le hi
    rw [hb] at p2
    obtain ⟨fr2, q1, q2, q3, q4⟩ := al2_ok (fs := fs) (go := eval fs 0) (h := h) ((p3 (.o (.z .e)) (by simp)).trans g5) ((p3 (.z (.z .e)) (by simp)).trans g6) hi (hcs i hi)
    have a0 := (q4 .e (by simp)).trans ((p3 .e (by simp)).trans g0)
    have a5 := (q4 (.o (.z .e)) (by simp)).trans ((p3 (.o (.z .e)) (by simp)).trans g5)
    have a6 := (q4 (.z (.z .e)) (by simp)).trans ((p3 (.z (.z .e)) (by simp)).trans g6)
    have c1 : Runs fs none (.cond (.t (.o (.o (.o .e)))) .skip (.exit 0)) fr1 h .normal fr1 h := .cond (r := true) (by simp [ev, p2, getV]) .skip
    -- what a round that goes on leaves
    have go_on : ∀ (n : Nat) (fr3 : Fr) (h3 : H), runOps fs (eval fs n) al3 fr2 h = .ok .normal fr3 h3 → fr3.get (.z (.o (.o (.o .e)))) = some (.b false) → (∀ k, k ∈ [K.e, .o (.z .e), .z (.z .e)] → fr3.get k = fr2.get k) → I (i + 1) h3 →
        ∃ e fr' h', Runs fs none (.loop alBody) fr h e fr' h' ∧ ((e = .exit 0 ∧ I 64 h') ∨ (e = .ret ∧ Q h')) := by
      intro n fr3 h3 r1 r2 r3 hI3
      obtain ⟨fr4, s1, s2, s3⟩ := al4_ok (fs := fs) (go := eval fs 0) (h := h3) ((r3 (.z (.z .e)) (by simp)).trans a6) hi
      have c2 : Runs fs none (.block 1 (.seq (.reg al2) (.seq (.reg al3) (.cond (.t (.z (.o (.o (.o .e))))) .ret .skip)))) fr1 h .normal fr3 h3 :=
        .block (.seq (.reg q1) (.seq (.reg r1) (.cond (r := false) (by simp [ev, r2, getV]) .skip))) (.inr ⟨by simp, rfl⟩)
      have c3 : Runs fs none alBody fr h .normal fr4 h3 := .seq (.reg p1) (.seq c1 (.seq c2 (.reg s1)))
      obtain ⟨e, fr', h', t1, t2⟩ := ih (i + 1) fr4 h3 (by omega) hi ((s3 .e (by simp)).trans ((r3 .e (by simp)).trans a0)) ((s3 (.o (.z .e)) (by simp)).trans ((r3 (.o (.z .e)) (by simp)).trans a5)) s2 hI3
      exact ⟨e, fr', h', .loop c3 t1, t2⟩
    cases hB : B i with
    | false =>
      rw [hB] at q3
      obtain ⟨fr3, r1, r2, r3⟩ := al3_out (fs := fs) (go := eval fs 0) (h := h) q3
      exact go_on 0 fr3 h r1 r2 r3 (skip i h hi hB hI)
    | true =>
      rw [hB] at q3
      obtain ⟨b, h', ⟨n, hr⟩, hT, hF⟩ := round i h hi hB hI
      obtain ⟨fr3, r1, r2, r3⟩ := al3_in a0 q2 q3 hr
      cases b with
      | true => exact go_on n fr3 h' r1 r2 r3 (hT rfl)
      | false =>
        have c2 : Runs fs none (.block 1 (.seq (.reg al2) (.seq (.reg al3) (.cond (.t (.z (.o (.o (.o .e))))) .ret .skip)))) fr1 h .ret fr3 h' :=
          .block (.seq (.reg q1) (.seq (.reg r1) (.cond (r := true) (by simp [ev, r2, getV]) .ret))) (.inr ⟨by simp, rfl⟩)
        exact ⟨.ret, fr3, h', .loop_out (.seq (.reg p1) (.seq c1 (.seq_out c2 (by simp)))) (by simp), .inr ⟨rfl, hF rfl⟩⟩
end

/-! ### A round, and a loop over a function -/
section
variable {fs : T EF} {fr fr1 fr2 : Fr} {h h1 h2 h3 : H} {id : K} {ps : List K} {a c : EC} {v : V} {vs : List V} {e : Ex}
/-- What stands of the loop behind a round. -/
def afterR (e : Ex) (fr : Fr) (ps : List K) (a c : EC) : Blk := match e with
  | .normal => .loop .ready none fr ps a c
  | e => .loop .done (some e) fr ps a c
def isNo (e : Ex) : Bool := match e with | .normal => true | _ => false
theorem round_of (hb : h.get id = .loop .ready none fr ps a c) (hl : Nat.beq (lenL [v]) (lenL ps) = true) (ha : Runs fs (some id) a (bindK fr ps [v]) h .normal fr1 h1) (hb1 : h1.get id = .loop .ready none fr ps a c)
    (hc : Runs fs (some id) c fr1 (h1.put id (.loop .busy none fr ps a c)) e fr2 h2) (hb2 : h2.get id = .loop .busy none fr ps a c) : Round fs id v h (isNo e) (h2.put id (afterR e fr ps a c)) := by
  obtain ⟨n, e1⟩ := ha
  obtain ⟨m, e2⟩ := hc
  have e1 := eval_le fs (Nat.le_max_left n m) _ _ _ _ _ _ _ e1
  have e2 := eval_le fs (Nat.le_max_right n m) _ _ _ _ _ _ _ e2
  refine ⟨max n m, ?_⟩
  show (h.get id).onL (fun s _ fr ps a c => roundA (eval fs (max n m)) id [v] h s fr ps a c) = _
  rw [hb]
  show roundA (eval fs (max n m)) id [v] h .ready fr ps a c = _
  unfold roundA
  rw [hl]
  show ((eval fs (max n m) (some id) a (bindK fr ps [v]) h).all fun e fr' h => isN e ((h.get id).onL fun s j fr ps a c' => roundB (eval fs (max n m)) id c fr' h s j fr ps a c')) = _
  rw [e1]
  show (h1.get id).onL (fun s j fr ps a c' => roundB (eval fs (max n m)) id c fr1 h1 s j fr ps a c') = _
  rw [hb1]
  show ((eval fs (max n m) (some id) c fr1 (h1.put id (.loop .busy none fr ps a c))).all fun e _ h => (h.get id).onL fun s _ fr ps a c => isBusy s (endR id e fr ps a c h)) = _
  rw [e2]
  show (h2.get id).onL (fun s _ fr ps a c => isBusy s (endR id e fr ps a c h2)) = _
  rw [hb2]
  cases e <;> rfl
/-- How a loop over a function ends. -/
theorem Runs.range {ro : Option K} {f : EO} {k : K} {caps : List V} {u : V} {s : LS} {j : Option Ex} {ps' : List K} {a' c' : EC} {frl : Fr} (hro : roOk ro h = true) (hf : ev fr f = .fn k caps)
    (hcall : ∃ n, callV fs (eval fs n) (.fn k caps) [.yl h.nx] (h.new (.loop .ready none fr ps a c)) = .ok u h1) (hb : h1.get h.nx = .loop s j frl ps' a' c') (he : (s = .ready ∧ j = none ∧ e = .normal) ∨ (s = .done ∧ j = some e)) :
    Runs fs ro (.rangeF f ps a c) fr h e fr (h1.put h.nx .dead) := by
  obtain ⟨n, hc⟩ := hcall
  refine ⟨n + 1, ?_⟩
  show rangeL fs (eval fs n) ro (ev fr f) ps a c fr h = _
  rw [hf]
  unfold rangeL
  have : (roOk ro h && (V.fn k caps).isF) = true := by rw [hro]; rfl
  rw [this]
  show ((callV fs (eval fs n) (.fn k caps) [.yl h.nx] (h.new (.loop .ready none fr ps a c))).to fun _ h' => (h'.get h.nx).onL' fun s j => endL s j h.nx fr h') = _
  rw [hc]
  show (h1.get h.nx).onL' (fun s j => endL s j h.nx fr h1) = _
  rw [hb]
  rcases he with ⟨rfl, rfl, rfl⟩ | ⟨rfl, rfl⟩ <;> rfl
end

section
variable {fs : T EF} {go : Go} {fr : Fr} {h : H} {id idp : K} {cs : List V} {B : Nat → Bool} {x : EO} {off m n : Nat} {v : V} {k : K}
theorem e_ldn (hx : ev fr x = .p id off) (hb : h.get id = .cells m cs) (hm : off + n ≤ m) : evop fs go fr h (.ldn n x) = .ok (.agg (takeN n (dropN off cs))) h := by
  show okv (readP h (ev fr x) (many? n)) h = _
  rw [hx]
  show okv ((h.get id).onC none fun m cs => many? n cs m off) h = _
  rw [hb]
  show okv (bif Nat.ble (off + n) m then some (.agg (takeN n (dropN off cs))) else none) h = _
  have : Nat.ble (off + n) m = true := Nat.ble_eq_true_of_le hm
  rw [this]; rfl
noncomputable def alF : EF := ⟨18, [], (.seq (.reg al0) (.block 0 (.loop alBody))), none⟩
/-- The iterator over a family, called with a body. -/
theorem al_call {I : Nat → H → Prop} {Q : H → Prop} (hf : fs.get k = some alF) (hb : h.get idp = .cells 64 cs) (hcs : ∀ i, i < 64 → nth cs i = some (.b (B i)))
    (round : ∀ i h, i < 64 → B i = true → I i h → ∃ b h', Round fs id (.i .i64 (.ofNat i)) h b h' ∧ (b = true → I (i + 1) h') ∧ (b = false → Q h')) (skip : ∀ i h, i < 64 → B i = false → I i h → I (i + 1) h) (hI : I 0 h) :
    ∃ n h', callV fs (eval fs n) (.fn k [.p idp 0]) [.yl id] h = .ok (.tup []) h' ∧ (I 64 h' ∨ Q h') := by
  have f0 : (frame .e [.yl id, .p idp 0] .nil).get .e = some (.yl id) := by rw [frame_get]; rfl
  have f1 : (frame .e [.yl id, .p idp 0] .nil).get (.o .e) = some (.p idp 0) := by rw [frame_get]; rfl
  have hl : ∀ i, i < 64 → nth (takeN 64 (dropN 0 cs)) (i * 1) = some (.b (B i)) := fun i hi => by
    have := hcs i hi
    rw [nth_eq] at this
    rw [nth_eq, takeN_eq, dropN_eq, List.drop_zero, Nat.mul_one, List.getElem?_take, if_pos hi, this]
  have c0 : ∃ fr', runOps fs (eval fs 0) al0 (frame .e [.yl id, .p idp 0] .nil) h = .ok .normal fr' h ∧ fr'.get .e = some (.yl id) ∧ fr'.get (.o (.z .e)) = some (.agg (takeN 64 (dropN 0 cs))) ∧ fr'.get (.z (.z .e)) = some (.i .i64 (.ofNat 0)) := by
    refine ⟨?w, ?a, ?b, ?c, ?d⟩
    case a =>
      unfold al0
      rw [run_op rfl (e_ldn (id := idp) (off := 0) (n := 64) (by simp [ev, f1, getV]) hb (by omega)), run_op rfl (e_mv (v := .i .i64 (.ofNat 0)) rfl), run_nil]
    case b => simp [T.get_set, f0]
    case c => simp [T.get_set]
    case d => simp [T.get_set]
  obtain ⟨fr1, p1, p2, p3, p4⟩ := c0
  obtain ⟨e, fr', h', r1, r2⟩ := al_loop (fs := fs) hl round skip 64 0 fr1 h rfl (by omega) p2 p3 p4 hI
  have fin : ∀ (e' : Ex), (e' = .normal ∨ e' = .ret) → Runs fs none (.seq (.reg al0) (.block 0 (.loop alBody))) (frame .e [.yl id, .p idp 0] .nil) h e' fr' h' → (I 64 h' ∨ Q h') → ∃ n h', callV fs (eval fs n) (.fn k [.p idp 0]) [.yl id] h = .ok (.tup []) h' ∧ (I 64 h' ∨ Q h') := by
    rintro e' he ⟨n, hr⟩ hq
    refine ⟨n, h', ?_, hq⟩
    show (oGet (fs.get k) .no fun ef => callE (eval fs n) ef (cat [.yl id] [.p idp 0]) h) = _
    rw [hf]
    show ((eval fs n none (.seq (.reg al0) (.block 0 (.loop alBody))) (frame .e [.yl id, .p idp 0] .nil) h).all fun e fr h => leave alF e fr h) = _
    rw [hr]
    rcases he with rfl | rfl <;> rfl
  rcases r2 with ⟨rfl, hq⟩ | ⟨rfl, hq⟩
  · exact fin .normal (.inl rfl) (.seq (.reg p1) (.block r1 (.inl ⟨rfl, rfl⟩))) (.inl hq)
  · exact fin .ret (.inr rfl) (.seq (.reg p1) (.block r1 (.inr ⟨by simp, rfl⟩))) (.inr hq)
end
end Go.Ev
namespace Go.Ev
open Go Go.RowKit
noncomputable def co0 : List EOper := [⟨(some (.o (.z .e))), none, .mv (.c (.i .i64 (.ofNat 0)))⟩]
noncomputable def co1 : List EOper := [⟨(some (.z (.z .e))), none, .bin .lss (.t (.o (.z .e))) (.c (.i .i64 (.ofNat 6)))⟩]
noncomputable def co2 : List EOper := [⟨(some (.o (.o (.o .e)))), none, .mv (.t (.o (.z .e)))⟩, ⟨(some (.o (.o .e))), none, .as (.t (.o (.o (.o .e))))⟩]
noncomputable def co3 : List EOper := [⟨(some (.z (.o (.o .e)))), none, .mv (.t (.o (.o .e)))⟩, ⟨(some (.o (.z (.o .e)))), none, .bin .shl (.c (.i .i64 (.ofNat 1))) (.t (.z (.o (.o .e))))⟩, ⟨(some (.z (.o .e))), none, .as (.t (.o (.z (.o .e))))⟩]
noncomputable def co4 : List EOper := [⟨(some (.z (.z (.o .e)))), none, .mv (.t (.z (.o .e)))⟩, ⟨(some (.o (.o (.z .e)))), none, .ld (.t (.o .e))⟩, ⟨(some (.z (.o (.z .e)))), none, .call (.c (.fn (.z (.z (.z (.o (.z .e))))) [])) [(.t (.z (.z (.o .e)))), (.t (.o (.o (.z .e))))]⟩, ⟨(some (.o (.z (.z .e)))), none, .mv (.t (.z (.o (.z .e))))⟩, ⟨(some (.z (.z (.z .e)))), (some ((.o (.z (.z .e))), true)), .mv (.t .e)⟩, ⟨(some (.o (.o (.o (.o .e))))), (some ((.o (.z (.z .e))), true)), .mv (.t (.z (.o .e)))⟩, ⟨(some (.z (.o (.o (.o .e))))), (some ((.o (.z (.z .e))), true)), .call (.t (.z (.z (.z .e)))) [(.t (.o (.o (.o (.o .e)))))]⟩, ⟨(some (.o (.z (.o (.o .e))))), (some ((.o (.z (.z .e))), true)), .not (.t (.z (.o (.o (.o .e)))))⟩, ⟨(some (.z (.z (.o (.o .e))))), none, .pick (.t (.o (.z (.z .e)))) (.t (.o (.z (.o (.o .e))))) (.c (.b false))⟩]
noncomputable def co5 : List EOper := [⟨(some (.o (.o (.z (.o .e))))), none, .bin .add (.t (.o (.z .e))) (.c (.i .i64 (.ofNat 1)))⟩, ⟨(some (.o (.z .e))), none, .mv (.t (.o (.o (.z (.o .e)))))⟩]
/-- The i-th corner, and whether it is one of the set's. -/
noncomputable def cornI (i : Nat) : Int := fw .i64 (imul (.ofNat 1) (.ofNat (2 ^ (Nat.min i 64))))
noncomputable def partB (a b : Int) : Bool := ieq (ibits (fun m n => Nat.xor m (Nat.land m n)) (fun _ x y => x &&& ~~~y) .i64 a b) (.ofNat 0)
section
variable {fs : T EF} {go : Go} {fr : Fr} {h h' : H} {id idp : K} {i : Nat} {S : Int}
theorem co1_ok (g5 : fr.get (.o (.z .e)) = some (.i .i64 (.ofNat i))) : ∃ fr', runOps fs go co1 fr h = .ok .normal fr' h ∧ fr'.get (.z (.z .e)) = some (.b (Nat.blt i 6)) ∧ ∀ k, k ∈ [K.e, .o .e, .o (.z .e)] → fr'.get k = fr.get k := by
  refine ⟨?w, ?a, ?b, ?c⟩
  case a =>
    unfold co1
    rw [run_op rfl (e_bin (k := .i64) (i := .ofNat i) (j := .ofNat 6) (v := .b (ilt (.ofNat i) (.ofNat 6))) (by simp [ev, g5, getV]) (by simp [ev]) rfl), run_nil]
  case b => rw [T.get_set, if_pos rfl]; rfl
  case c =>
    intro k hk
    simp only [List.mem_cons, List.not_mem_nil, or_false] at hk
    rcases hk with rfl | rfl | rfl <;> simp [T.get_set]
theorem co23_ok (g5 : fr.get (.o (.z .e)) = some (.i .i64 (.ofNat i))) : ∃ fr' fr'', runOps fs go co2 fr h = .ok .normal fr' h ∧ runOps fs go co3 fr' h = .ok .normal fr'' h ∧ fr''.get (.z (.o .e)) = some (.i .i64 (cornI i)) ∧ ∀ k, k ∈ [K.e, .o .e, .o (.z .e)] → fr''.get k = fr.get k := by
  refine ⟨?w, ?w2, ?a, ?a2, ?b, ?c⟩
  case a =>
    unfold co2
    rw [run_op rfl (e_mv (v := .i .i64 (.ofNat i)) (by simp [ev, g5, getV])), run_op rfl (e_as (v := .i .i64 (.ofNat i)) (by simp [ev, T.get_set, getV])), run_nil]
  case a2 =>
    unfold co3
    rw [run_op rfl (e_mv (v := .i .i64 (.ofNat i)) (by simp [ev, T.get_set, getV])), run_op rfl (e_bin (k := .i64) (i := .ofNat 1) (j := .ofNat i) (v := .i .i64 (cornI i)) rfl (by simp [ev, T.get_set, getV]) rfl), run_op rfl (e_as (v := .i .i64 (cornI i)) (by simp [ev, T.get_set, getV])), run_nil]
  case b => simp [T.get_set]
  case c =>
    intro k hk
    simp only [List.mem_cons, List.not_mem_nil, or_false] at hk
    rcases hk with rfl | rfl | rfl <;> simp [T.get_set]
theorem co4_in {b : Bool} {n : Nat} {ef : EF} (hp : fs.get (.z (.z (.z (.o (.z .e))))) = some ef) (hn : ef.nv = some (flatG partG)) (hS : h.get idp = .cells 1 [.i .i64 S]) (g0 : fr.get .e = some (.yl id)) (g1 : fr.get (.o .e) = some (.p idp 0)) (g4 : fr.get (.z (.o .e)) = some (.i .i64 (cornI i))) (hB : partB (cornI i) S = true) (hr : callV fs (eval fs n) (.yl id) [.i .i64 (cornI i)] h = .ok (.b b) h') :
    ∃ fr', runOps fs (eval fs n) co4 fr h = .ok .normal fr' h' ∧ fr'.get (.z (.z (.o (.o .e)))) = some (.b (!b)) ∧ ∀ k, k ∈ [K.e, .o .e, .o (.z .e)] → fr'.get k = fr.get k := by
  have hg : flatG partG (cat [.i .i64 (cornI i), .i .i64 S] []) h = some (.b true, h) := by rw [← hB]; rfl
  refine ⟨?w, ?a, ?b, ?c⟩
  case a =>
    unfold co4
    rw [run_op rfl (e_mv (v := .i .i64 (cornI i)) (by simp [ev, g4, getV])), run_op rfl (e_ld (id := idp) (off := 0) (v := .i .i64 S) (by simp [ev, T.get_set, getV, g1]) hS rfl),
      run_op rfl (e_call (vs := [.i .i64 (cornI i), .i .i64 S]) rfl (by show [_, _] = _; simp [ev, T.get_set, getV]) hp hn hg),
      run_op rfl (e_mv (v := .b true) (by simp [ev, T.get_set, getV])),
      run_op (by simp [wants, oGet, guardV, T.get_set, getV]) (e_mv (v := .yl id) (by simp [ev, T.get_set, getV, g0])),
      run_op (by simp [wants, oGet, guardV, T.get_set, getV]) (e_mv (v := .i .i64 (cornI i)) (by simp [ev, T.get_set, getV, g4])),
      run_op (v := .b b) (h1 := h') (by simp [wants, oGet, guardV, T.get_set, getV]) (e_callv (fv := .yl id) (vs := [.i .i64 (cornI i)]) (by simp [ev, T.get_set, getV]) (by rw [evs_one]; simp [ev, T.get_set, getV]) hr),
      run_op (by simp [wants, oGet, guardV, T.get_set, getV]) (e_not (b := b) (by simp [ev, T.get_set, getV])),
      run_op rfl (e_pick (b := true) (v := .b (!b)) (u := .b false) (by simp [ev, T.get_set, getV]) (by simp [ev, T.get_set, getV]) rfl), run_nil]
  case b => rw [T.get_set, if_pos rfl]; rfl
  case c =>
    intro k hk
    simp only [List.mem_cons, List.not_mem_nil, or_false] at hk
    rcases hk with rfl | rfl | rfl <;> simp [T.get_set]
theorem co4_out {ef : EF} (hp : fs.get (.z (.z (.z (.o (.z .e))))) = some ef) (hn : ef.nv = some (flatG partG)) (hS : h.get idp = .cells 1 [.i .i64 S]) (g1 : fr.get (.o .e) = some (.p idp 0)) (g4 : fr.get (.z (.o .e)) = some (.i .i64 (cornI i))) (hB : partB (cornI i) S = false) :
    ∃ fr', runOps fs go co4 fr h = .ok .normal fr' h ∧ fr'.get (.z (.z (.o (.o .e)))) = some (.b false) ∧ ∀ k, k ∈ [K.e, .o .e, .o (.z .e)] → fr'.get k = fr.get k := by
  have hg : flatG partG (cat [.i .i64 (cornI i), .i .i64 S] []) h = some (.b false, h) := by rw [← hB]; rfl
  refine ⟨?w, ?a, ?b, ?c⟩
  case a =>
    unfold co4
    rw [run_op rfl (e_mv (v := .i .i64 (cornI i)) (by simp [ev, g4, getV])), run_op rfl (e_ld (id := idp) (off := 0) (v := .i .i64 S) (by simp [ev, T.get_set, getV, g1]) hS rfl),
      run_op rfl (e_call (vs := [.i .i64 (cornI i), .i .i64 S]) rfl (by show [_, _] = _; simp [ev, T.get_set, getV]) hp hn hg),
      run_op rfl (e_mv (v := .b false) (by simp [ev, T.get_set, getV])),
      run_not (by simp [wants, oGet, guardV, T.get_set, getV]), run_not (by simp [wants, oGet, guardV, T.get_set, getV, putD]), run_not (by simp [wants, oGet, guardV, T.get_set, getV, putD]), run_not (by simp [wants, oGet, guardV, T.get_set, getV, putD]),
      run_op rfl (e_pick (b := false) (v := undefV) (u := .b false) (by simp [ev, T.get_set, getV, putD]) (by simp [ev, T.get_set, getV, putD]) rfl), run_nil]
  case b => rw [T.get_set, if_pos rfl]; rfl
  case c =>
    intro k hk
    simp only [List.mem_cons, List.not_mem_nil, or_false] at hk
    rcases hk with rfl | rfl | rfl <;> simp [T.get_set, putD]
theorem co5_ok (g5 : fr.get (.o (.z .e)) = some (.i .i64 (.ofNat i))) (hi : i < 6) : ∃ fr', runOps fs go co5 fr h = .ok .normal fr' h ∧ fr'.get (.o (.z .e)) = some (.i .i64 (.ofNat (i + 1))) ∧ ∀ k, k ∈ [K.e, .o .e] → fr'.get k = fr.get k := by
  refine ⟨?w, ?a, ?b, ?c⟩
  case a =>
    unfold co5
    rw [run_op rfl (e_bin (k := .i64) (i := .ofNat i) (j := .ofNat 1) (v := .i .i64 (.ofNat (i + 1))) (by simp [ev, g5, getV]) rfl (b_add1 (by omega))), run_op rfl (e_mv (v := .i .i64 (.ofNat (i + 1))) (by simp [ev, T.get_set, getV])), run_nil]
  case b => simp [T.get_set]
  case c =>
    intro k hk
    simp only [List.mem_cons, List.not_mem_nil, or_false] at hk
    rcases hk with rfl | rfl <;> simp [T.get_set]
noncomputable def coBody : EC := (.seq (.reg co1) (.seq (.cond (.t (.z (.z .e))) .skip (.exit 0)) (.seq (.block 1 (.seq (.reg co2) (.seq (.reg co3) (.seq (.reg co4) (.cond (.t (.z (.z (.o (.o .e))))) .ret .skip))))) (.reg co5))))
theorem co_loop {I : Nat → H → Prop} {Q : H → Prop} {ef : EF} (hp : fs.get (.z (.z (.z (.o (.z .e))))) = some ef) (hn : ef.nv = some (flatG partG)) (hS : ∀ i h, I i h → h.get idp = .cells 1 [.i .i64 S])
    (round : ∀ i h, i < 6 → partB (cornI i) S = true → I i h → ∃ b h', Round fs id (.i .i64 (cornI i)) h b h' ∧ (b = true → I (i + 1) h') ∧ (b = false → Q h')) (skip : ∀ i h, i < 6 → partB (cornI i) S = false → I i h → I (i + 1) h) :
    ∀ (j i : Nat) (fr : Fr) (h : H), 6 - i = j → i ≤ 6 → fr.get .e = some (.yl id) → fr.get (.o .e) = some (.p idp 0) → fr.get (.o (.z .e)) = some (.i .i64 (.ofNat i)) → I i h →
      ∃ e fr' h', Runs fs none (.loop coBody) fr h e fr' h' ∧ ((e = .exit 0 ∧ I 6 h') ∨ (e = .ret ∧ Q h')) := by
  intro j
  induction j with
  | zero =>
    intro i fr h hj hle g0 g1 g5 hI
    obtain rfl : i = 6 := by omega
    obtain ⟨fr1, p1, p2, p3⟩ := co1_ok (fs := fs) (go := eval fs 0) (h := h) g5
    exact ⟨.exit 0, fr1, h, .loop_out (.seq (.reg p1) (.seq_out (.cond (r := false) (by simp only [ev, p2, getV]; rfl) .exit) (by simp))) (by simp), .inl ⟨rfl, hI⟩⟩
  | succ j ih =>
    intro i fr h hj hle g0 g1 g5 hI
    have hi : i < 6 := by omega
    obtain ⟨fr1, p1, p2, p3⟩ := co1_ok (fs := fs) (go := eval fs 0) (h := h) g5
    have hb : Nat.blt i 6 = true := Nat.ble_eq_true_of_le hi
    rw [hb] at p2
    obtain ⟨fr2', fr2, q1, q1', q2, q4⟩ := co23_ok (fs := fs) (go := eval fs 0) (h := h) ((p3 (.o (.z .e)) (by simp)).trans g5)
    have a0 := (q4 .e (by simp)).trans ((p3 .e (by simp)).trans g0)
    have a1 := (q4 (.o .e) (by simp)).trans ((p3 (.o .e) (by simp)).trans g1)
    have a5 := (q4 (.o (.z .e)) (by simp)).trans ((p3 (.o (.z .e)) (by simp)).trans g5)
    have c1 : Runs fs none (.cond (.t (.z (.z .e))) .skip (.exit 0)) fr1 h .normal fr1 h := .cond (r := true) (by simp [ev, p2, getV]) .skip
    have go_on : ∀ (n : Nat) (fr3 : Fr) (h3 : H), runOps fs (eval fs n) co4 fr2 h = .ok .normal fr3 h3 → fr3.get (.z (.z (.o (.o .e)))) = some (.b false) → (∀ k, k ∈ [K.e, .o .e, .o (.z .e)] → fr3.get k = fr2.get k) → I (i + 1) h3 →
        ∃ e fr' h', Runs fs none (.loop coBody) fr h e fr' h' ∧ ((e = .exit 0 ∧ I 6 h') ∨ (e = .ret ∧ Q h')) := by
      intro n fr3 h3 r1 r2 r3 hI3
      obtain ⟨fr4, s1, s2, s3⟩ := co5_ok (fs := fs) (go := eval fs 0) (h := h3) ((r3 (.o (.z .e)) (by simp)).trans a5) hi
      have c2 : Runs fs none (.block 1 (.seq (.reg co2) (.seq (.reg co3) (.seq (.reg co4) (.cond (.t (.z (.z (.o (.o .e))))) .ret .skip))))) fr1 h .normal fr3 h3 :=
        .block (.seq (.reg q1) (.seq (.reg q1') (.seq (.reg r1) (.cond (r := false) (by simp [ev, r2, getV]) .skip)))) (.inr ⟨by simp, rfl⟩)
      have c3 : Runs fs none coBody fr h .normal fr4 h3 := .seq (.reg p1) (.seq c1 (.seq c2 (.reg s1)))
      obtain ⟨e, fr', h', t1, t2⟩ := ih (i + 1) fr4 h3 (by omega) hi ((s3 .e (by simp)).trans ((r3 .e (by simp)).trans a0)) ((s3 (.o .e) (by simp)).trans ((r3 (.o .e) (by simp)).trans a1)) s2 hI3
      exact ⟨e, fr', h', .loop c3 t1, t2⟩
    cases hB : partB (cornI i) S with
    | false =>
      obtain ⟨fr3, r1, r2, r3⟩ := co4_out (go := eval fs 0) hp hn (hS i h hI) a1 q2 hB
      exact go_on 0 fr3 h r1 r2 r3 (skip i h hi hB hI)
    | true =>
      obtain ⟨b, h', ⟨n, hr⟩, hT, hF⟩ := round i h hi hB hI
      obtain ⟨fr3, r1, r2, r3⟩ := co4_in hp hn (hS i h hI) a0 a1 q2 hB hr
      cases b with
      | true => exact go_on n fr3 h' r1 r2 r3 (hT rfl)
      | false =>
        have c2 : Runs fs none (.block 1 (.seq (.reg co2) (.seq (.reg co3) (.seq (.reg co4) (.cond (.t (.z (.z (.o (.o .e))))) .ret .skip))))) fr1 h .ret fr3 h' :=
          .block (.seq (.reg q1) (.seq (.reg q1') (.seq (.reg r1) (.cond (r := true) (by simp [ev, r2, getV]) .ret)))) (.inr ⟨by simp, rfl⟩)
        exact ⟨.ret, fr3, h', .loop_out (.seq (.reg p1) (.seq c1 (.seq_out c2 (by simp)))) (by simp), .inr ⟨rfl, hF rfl⟩⟩
noncomputable def coF : EF := ⟨20, [], (.seq (.reg co0) (.block 0 (.loop coBody))), none⟩
/-- The iterator over a set's corners, called with a body. -/
theorem co_call {k : K} {I : Nat → H → Prop} {Q : H → Prop} {ef : EF} (hf : fs.get k = some coF) (hp : fs.get (.z (.z (.z (.o (.z .e))))) = some ef) (hn : ef.nv = some (flatG partG)) (hS : ∀ i h, I i h → h.get idp = .cells 1 [.i .i64 S])
    (round : ∀ i h, i < 6 → partB (cornI i) S = true → I i h → ∃ b h', Round fs id (.i .i64 (cornI i)) h b h' ∧ (b = true → I (i + 1) h') ∧ (b = false → Q h')) (skip : ∀ i h, i < 6 → partB (cornI i) S = false → I i h → I (i + 1) h) (hI : I 0 h) :
    ∃ n h', callV fs (eval fs n) (.fn k [.p idp 0]) [.yl id] h = .ok (.tup []) h' ∧ (I 6 h' ∨ Q h') := by
  have f0 : (frame .e [.yl id, .p idp 0] .nil).get .e = some (.yl id) := by rw [frame_get]; rfl
  have f1 : (frame .e [.yl id, .p idp 0] .nil).get (.o .e) = some (.p idp 0) := by rw [frame_get]; rfl
  have p1 : runOps fs (eval fs 0) co0 (frame .e [.yl id, .p idp 0] .nil) h = .ok .normal ((frame .e [.yl id, .p idp 0] .nil).set (.o (.z .e)) (.i .i64 (.ofNat 0))) h := by
    unfold co0
    rw [run_op rfl (e_mv (v := .i .i64 (.ofNat 0)) rfl), run_nil]
  obtain ⟨e, fr', h', r1, r2⟩ := co_loop (fs := fs) hp hn hS round skip 6 0 _ h rfl (by omega) (show ((frame .e [.yl id, .p idp 0] .nil).set (.o (.z .e)) (.i .i64 (.ofNat 0))).get .e = some (.yl id) by simp [T.get_set, f0]) (by simp [T.get_set, f1]) (by simp [T.get_set]) hI
  have fin : ∀ (e' : Ex), (e' = .normal ∨ e' = .ret) → Runs fs none (.seq (.reg co0) (.block 0 (.loop coBody))) (frame .e [.yl id, .p idp 0] .nil) h e' fr' h' → (I 6 h' ∨ Q h') → ∃ n h', callV fs (eval fs n) (.fn k [.p idp 0]) [.yl id] h = .ok (.tup []) h' ∧ (I 6 h' ∨ Q h') := by
    rintro e' he ⟨n, hr⟩ hq
    refine ⟨n, h', ?_, hq⟩
    show (oGet (fs.get k) .no fun ef => callE (eval fs n) ef (cat [.yl id] [.p idp 0]) h) = _
    rw [hf]
    show ((eval fs n none (.seq (.reg co0) (.block 0 (.loop coBody))) (frame .e [.yl id, .p idp 0] .nil) h).all fun e fr h => leave coF e fr h) = _
    rw [hr]
    rcases he with rfl | rfl <;> rfl
  rcases r2 with ⟨rfl, hq⟩ | ⟨rfl, hq⟩
  · exact fin .normal (.inl rfl) (.seq (.reg p1) (.block r1 (.inl ⟨rfl, rfl⟩))) (.inl hq)
  · exact fin .ret (.inr rfl) (.seq (.reg p1) (.block r1 (.inr ⟨by simp, rfl⟩))) (.inr hq)
end
end Go.Ev
namespace Go.Ev
open Go Go.RowKit
section
variable {fs : T EF}
/-- The function, called with a body, goes through these values, as long as memory holds what it needs. -/
def Yields (fs : T EF) (k : K) (caps : List V) (N : H → Prop) (ys : List V) : Prop :=
  ∀ (id : K) (I : Nat → H → Prop) (D : H → Prop) (h : H), (∀ i h, I i h → N h) → I 0 h →
    (∀ i h (hi : i < ys.length), I i h → ∃ b h', Round fs id ys[i] h b h' ∧ (b = true → I (i + 1) h') ∧ (b = false → D h')) →
    ∃ n h', callV fs (eval fs n) (.fn k caps) [.yl id] h = .ok (.tup []) h' ∧ (I ys.length h' ∨ D h')

def cntB (B : Nat → Bool) (j : Nat) : Nat := ((List.range j).filter B).length
theorem cntB_succ {B : Nat → Bool} {j : Nat} : cntB B (j + 1) = cntB B j + (if B j = true then 1 else 0) := by
  unfold cntB
  rw [List.range_succ, List.filter_append, List.length_append]
  cases h : B j <;> simp [h]
theorem filter_at {B : Nat → Bool} {n j : Nat} (hj : j < n) (hB : B j = true) : ((List.range n).filter B)[cntB B j]? = some j := by
  induction n with
  | zero => omega
  | succ n ih =>
    rw [List.range_succ, List.filter_append]
    by_cases e : j = n
    · subst e
      rw [List.getElem?_append_right (by unfold cntB; omega)]
      simp [cntB, hB]
    · have hlt : j < n := by omega
      have h1 := ih hlt
      have h2 : cntB B j < ((List.range n).filter B).length := (List.getElem?_eq_some_iff.1 h1).1
      rw [List.getElem?_append_left h2, h1]
/-- The sets of a family, one after another. -/
theorem all_yields {k idp : K} {cs : List V} {B : Nat → Bool} (hf : fs.get k = some alF) (hcs : ∀ i, i < 64 → nth cs i = some (.b (B i))) :
    Yields fs k [.p idp 0] (fun h => h.get idp = .cells 64 cs) (((List.range 64).filter B).map fun (i : Nat) => V.i .i64 (i : Int)) := by
  intro id I D h hN h0 round
  have hlen : (((List.range 64).filter B).map fun (i : Nat) => V.i .i64 (i : Int)).length = cntB B 64 := by simp [cntB]
  rw [hlen]
  refine al_call (I := fun j h => I (cntB B j) h) (Q := D) hf (hN _ _ h0) hcs (fun j h hj hB hI => ?_) (fun j h hj hB hI => ?_) (by simpa [cntB] using h0)
  · have h1 := filter_at hj hB
    have h2 : cntB B j < (((List.range 64).filter B).map fun (i : Nat) => V.i .i64 (i : Int)).length := by
      rw [List.length_map]; exact (List.getElem?_eq_some_iff.1 h1).1
    obtain ⟨b, h', r1, r2, r3⟩ := round (cntB B j) h h2 hI
    refine ⟨b, h', ?_, fun e => by rw [cntB_succ, if_pos hB]; exact r2 e, r3⟩
    have h3 : (((List.range 64).filter B).map fun (i : Nat) => V.i .i64 (i : Int))[cntB B j] = .i .i64 (.ofNat j) := by
      have := List.getElem_map (fun (i : Nat) => V.i .i64 (i : Int)) (l := (List.range 64).filter B) (i := cntB B j) (h := h2)
      rw [this, (List.getElem?_eq_some_iff.1 h1).2]; rfl
    rw [← h3]; exact r1
  · rw [cntB_succ, hB]; simpa using hI
def rdyB (fr : Fr) (ps : List K) (a c : EC) : Blk := .loop .ready none fr ps a c
def bsyB (fr : Fr) (ps : List K) (a c : EC) : Blk := .loop .busy none fr ps a c
/-- A round's end. -/
def rndK (id : K) (fr : Fr) (ps : List K) (a c : EC) (I : H → Prop) (D : Ex → H → Prop) : Ex → Fr → H → Prop := fun e _ h => h.get id = bsyB fr ps a c ∧ (match e with | .normal => I (h.put id (rdyB fr ps a c)) | e => D e (h.put id .dead))
def rndA (fs : T EF) (id : K) (fr : Fr) (ps : List K) (a c : EC) (I : H → Prop) (D : Ex → H → Prop) : Ex → Fr → H → Prop := fun e fr1 h => e = .normal ∧ h.get id = rdyB fr ps a c ∧ W fs (some id) c (rndK id fr ps a c I D) fr1 (h.put id (bsyB fr ps a c))
section
variable {id : K} {fr fr1 : Fr} {ps : List K} {a c : EC} {I : H → Prop} {D : Ex → H → Prop} {h : H} {i : Nat}
theorem rndA_n : rndA fs id fr ps a c I D .normal fr1 h = (h.get id = rdyB fr ps a c ∧ W fs (some id) c (rndK id fr ps a c I D) fr1 (h.put id (bsyB fr ps a c))) := by
  show (Ex.normal = Ex.normal ∧ _) = _
  rw [eq_self, true_and]
theorem rndK_n : rndK id fr ps a c I D .normal fr1 h = (h.get id = bsyB fr ps a c ∧ I (h.put id (rdyB fr ps a c))) := of_eq_true (eq_self _)
theorem rndK_e : rndK id fr ps a c I D (.exit i) fr1 h = (h.get id = bsyB fr ps a c ∧ D (.exit i) (h.put id .dead)) := of_eq_true (eq_self _)
theorem rndK_r : rndK id fr ps a c I D .ret fr1 h = (h.get id = bsyB fr ps a c ∧ D .ret (h.put id .dead)) := of_eq_true (eq_self _)
end
theorem T.set_set {α : Type} (k : K) (x y : α) : ∀ t : T α, T.set k y (T.set k x t) = T.set k y t := by
  induction k with
  | e => intro t; rfl
  | o k ih =>
    intro t
    show T.node (T.set k y (T.set k x t.left)) t.val t.right = T.node (T.set k y t.left) t.val t.right
    rw [ih]
  | z k ih =>
    intro t
    show T.node t.left t.val (T.set k y (T.set k x t.right)) = T.node t.left t.val (T.set k y t.right)
    rw [ih]
theorem H.put_put (h : H) (k : K) (x y : Blk) : (h.put k x).put k y = h.put k y := by
  show (⟨h.nx, T.set k y (T.set k x h.t)⟩ : H) = ⟨h.nx, T.set k y h.t⟩
  rw [T.set_set]
/-- A loop over a function. -/
theorem W_range {ro : Option K} {f : EO} {k : K} {caps : List V} {p : K} {a c : EC} {fr : Fr} {h : H} {Q : Ex → Fr → H → Prop} {N : H → Prop} {ys : List V} (hro : roOk ro h = true) (hf : ev fr f = .fn k caps) (hy : Yields fs k caps N ys)
    (I : Nat → H → Prop) (D : Ex → H → Prop) (hN : ∀ i h1, I i h1 → N h1) (hI0 : I 0 (h.new (rdyB fr [p] a c)))
    (step : ∀ i h1 (hi : i < ys.length), I i h1 → h1.get h.nx = rdyB fr [p] a c → W fs (some h.nx) a (rndA fs h.nx fr [p] a c (I (i + 1)) D) (fr.set p ys[i]) h1)
    (fin : ∀ h1, I ys.length h1 → Q .normal fr (h1.put h.nx .dead)) (brk : ∀ e h1, e ≠ .normal → D e h1 → Q e fr h1) : W fs ro (.rangeF f [p] a c) Q fr h := by
  have key := hy h.nx (fun i h1 => I i h1 ∧ h1.get h.nx = rdyB fr [p] a c) (fun h1 => ∃ e, e ≠ .normal ∧ D e (h1.put h.nx .dead) ∧ h1.get h.nx = .loop .done (some e) fr [p] a c) (h.new (rdyB fr [p] a c)) (fun i h1 hi => hN i h1 hi.1) ⟨hI0, get_new_same⟩ ?_
  · obtain ⟨n, h1, hc, hq⟩ := key
    rcases hq with ⟨hI, hb⟩ | ⟨e, hne, hD, hb⟩
    · exact ⟨.normal, fr, _, Runs.range hro hf ⟨n, hc⟩ hb (.inl ⟨rfl, rfl, rfl⟩), fin h1 hI⟩
    · exact ⟨e, fr, _, Runs.range hro hf ⟨n, hc⟩ hb (.inr ⟨rfl, rfl⟩), brk e _ hne hD⟩
  · rintro i h1 hi ⟨hI, hb⟩
    obtain ⟨e1, fr1, h2, r1, rfl, hb2, hw⟩ := W_ok _ _ _ _ (step i h1 hi hI hb)
    obtain ⟨e2, fr2, h3, r2, hb3, hq⟩ := W_ok _ _ _ _ hw
    refine ⟨isNo e2, h3.put h.nx (afterR e2 fr [p] a c), round_of hb rfl r1 hb2 r2 hb3, fun he => ?_, fun he => ?_⟩
    · cases e2 <;> first | exact ⟨hq, get_put_same⟩ | cases he
    · cases e2 with
      | normal => cases he
      | exit j => exact ⟨.exit j, by simp, by rw [H.put_put]; exact hq, get_put_same⟩
      | ret => exact ⟨.ret, by simp, by rw [H.put_put]; exact hq, get_put_same⟩
end
section
variable {α : Type} {e : α → V} {fr : Fr} {h : H} {x y : EO} {v : V} {L M : List α} {sz : Nat} {lo hi mx : Option EO}
/-! ### Parts of slices -/
noncomputable def bnd (o : Option V) (d : Nat) : Option Nat := oGet o (some d) fun v => v.onI none fun _ n => nonneg n
noncomputable def sliceB (sz : Nat) (x : V) (lo hi mx : Option V) (h : H) : RV := x.onSl .no
    (oGet (bnd lo 0) .no fun l => oGet (bnd hi 0) .no fun u => oGet (bnd mx 0) .no fun m => bif Nat.beq l 0 && Nat.beq u 0 && Nat.beq m 0 then .ok .sn h else .no)
    fun id off n sz' => bif Nat.beq sz sz' then (oGet (bnd lo 0) .no fun l => oGet (bnd hi n) .no fun u => oGet mx (cutV id off n sz h l u none) fun _ => oGet (bnd mx 0) .no fun m => cutV id off n sz h l u (some m)) else .no
theorem bound_eq (o : Option EO) (d : Nat) : bound fr o d = bnd (o.map (ev fr)) d := by cases o <;> rfl
theorem sliceV_eq : sliceV fr sz v lo hi mx h = sliceB sz v (lo.map (ev fr)) (hi.map (ev fr)) (mx.map (ev fr)) h := by
  unfold sliceV sliceB
  congr 1
  · rw [bound_eq, bound_eq, bound_eq]
  · funext id off n sz'
    congr 1
    rw [bound_eq]; congr 1; funext l; rw [bound_eq]; congr 1; funext u
    cases mx with
    | none => rfl
    | some m => rfl
theorem Sl.cut {lo hi : Option V} {l u : Nat} (hs : Sl e h v L) (hl : bnd lo 0 = some l) (hu : bnd hi L.length = some u) (h1 : l ≤ u) (h2 : u ≤ L.length) :
    ∃ v', (∀ h1, sliceB 1 v lo hi none h1 = .ok v' h1) ∧ Sl e h v' ((L.take u).drop l) ∧ (∀ b, Own b v → Own b v') ∧ ∀ id, NotIn id v → NotIn id v' := by
  rcases hs with ⟨rfl, rfl⟩ | ⟨id, off, m, cs, rfl, hb, hll, hm, hx⟩
  · have hu0 : u = 0 := by simpa using h2
    subst hu0
    have hl0 : l = 0 := by omega
    subst hl0
    refine ⟨.sn, fun h1 => ?_, .inl ⟨rfl, rfl⟩, fun b h => h, fun id h => h⟩
    unfold sliceB
    have hu : bnd hi 0 = some 0 := hu
    show (oGet (bnd lo 0) .no fun l => oGet (bnd hi 0) .no fun u => oGet (bnd none 0) .no fun m => bif Nat.beq l 0 && Nat.beq u 0 && Nat.beq m 0 then RV.ok .sn h1 else .no) = _
    rw [hl, hu]; rfl
  · refine ⟨.sl id (off + l * 1) (u - l) 1, fun h1 => ?_, .inr ⟨id, off + l * 1, m, cs, ?_, hb, hll, ?_, fun i hi => ?_⟩, fun b ho _ _ _ _ e => ?_, fun id' hn _ _ _ e => ?_⟩
    · unfold sliceB
      show (bif Nat.beq 1 1 then (oGet (bnd lo 0) .no fun l => oGet (bnd hi L.length) .no fun u => oGet none (cutV id off L.length 1 h1 l u none) fun _ => oGet (bnd none 0) .no fun m => cutV id off L.length 1 h1 l u (some m)) else RV.no) = _
      rw [hl, hu, Nat.beq_refl]
      show cutV id off L.length 1 h1 l u none = _
      unfold cutV
      rw [Nat.ble_eq_true_of_le ‹l ≤ u›, Nat.ble_eq_true_of_le h2]; rfl
    · congr 1; simp; omega
    · simp; omega
    · have hi' : i < u - l := by simp at hi; omega
      rw [show off + l * 1 + i = off + (l + i) by omega, hx (l + i) (by omega)]
      simp
    · cases e; exact ho _ _ _ _ rfl
    · cases e; exact hn _ _ _ rfl
theorem bnd_none {d : Nat} : bnd none d = some d := rfl
theorem bnd_i {d m : Nat} {k : IntKind} : bnd (some (.i k (m : Int))) d = some m := rfl
/-! ### Arrays -/
def Ar (e : α → V) (h : H) (id : K) (L : List α) : Prop := h.get id = .cells L.length (L.map e)
theorem Ar.ld {id : K} (ha : Ar e h id L) {i : Nat} (hi : i < L.length) : loadV h (.p id (0 + i * 1)) one? = .ok (e L[i]) h :=
  load_p ha (by rw [nth_eq, Nat.zero_add, Nat.mul_one]; simp [hi])
theorem Ar.ldn {id : K} (ha : Ar e h id L) {n : Nat} (hn : n = L.length) : loadV h (.p id 0) (many? n) = .ok (.agg (L.map e)) h := by
  subst hn
  rw [loadn_p ha (by omega), takeN_eq, dropN_eq, List.drop_zero, List.take_of_length_le (by simp)]
theorem Ar.st {id : K} (ha : Ar e h id L) {i : Nat} (hi : i < L.length) {x : α} {c : V} (hc : c = e x) (ho : cellsN 1 c = some [c]) :
    storeV h 1 (.p id (0 + i * 1)) c = .ok undefV (h.put id (.cells L.length ((L.set i x).map e))) ∧ Ar e (h.put id (.cells L.length ((L.set i x).map e))) id (L.set i x) := by
  subst hc
  refine ⟨?_, ?_⟩
  · rw [store_p ha ho (by omega)]
    congr 3
    rw [setMany_eq _ _ _ (by simp; omega)]
    apply List.ext_getElem?
    intro j
    simp only [List.length_cons, List.length_nil, Nat.zero_add, Nat.mul_one]
    rcases Nat.lt_trichotomy j i with h1 | h1 | h1
    · rw [List.append_assoc, List.getElem?_append_left (by simp; omega), List.getElem?_take, if_pos h1, List.getElem?_map, List.getElem?_map, List.getElem?_set, if_neg (by omega)]
    · subst h1
      rw [List.append_assoc, List.getElem?_append_right (by simp; omega)]; simp [hi]
      have : min j L.length = j := by omega
      rw [this]; simp
    · rw [List.getElem?_append_right (by simp; omega)]
      simp
      rw [show i + 1 + (j - (min i L.length + 1)) = j by omega, List.getElem?_set]
      simp; omega
  · show (h.put id _).get id = _
    rw [get_put_same]; simp
theorem Ar.same {h' : H} {id : K} (ha : Ar e h id L) (hg : h'.get id = h.get id) : Ar e h' id L := by unfold Ar; rw [hg]; exact ha
def arr (f : Nat → α) (n : Nat) : List α := (List.range n).map f
theorem arr_len {f : Nat → α} {n : Nat} : (arr f n).length = n := by simp [arr]
theorem arr_at {f : Nat → α} {n i : Nat} (hi : i < (arr f n).length) : (arr f n)[i] = f i := by simp [arr]
theorem arr_set {f : Nat → α} {n i : Nat} {x : α} : (arr f n).set i x = arr (fun k => if k = i then x else f k) n := by
  apply List.ext_getElem?
  intro j
  rw [List.getElem?_set]
  by_cases h : j < n
  · by_cases hij : i = j
    · subst hij; simp [arr, h]
    · have : j ≠ i := fun e => hij e.symm
      simp [arr, h, hij, this]
  · have : n ≤ j := by omega
    simp [arr, this]; intro h1; omega
theorem arr_congr {f g : Nat → α} {n : Nat} (hfg : ∀ i, i < n → f i = g i) : arr f n = arr g n := by
  unfold arr; apply List.map_congr_left; intro i hi; exact hfg i (by simpa using hi)
end
end Go.Ev
namespace Go.Ev
open Go Go.RowKit
section
variable {fs : T EF} {R : Fr → H → Prop} {fr : Fr} {h h0 : H} {d : Option K} {l : List EOper} {x y z : EO} {v : V}
def kG (fs : T EF) (l : List EOper) (Q : Fr → H → Prop) (fr : Fr) (d : Option K) (h0 : H) (v : V) (_ : H) : Prop := XG fs l Q (putD fr d v) h0
theorem kg : kG fs l R fr d h0 v h = XG fs l R (putD fr d v) h0 := of_eq_true (eq_self _)
theorem xg_nil : XG fs [] R fr h = R fr h := of_eq_true (eq_self _)
theorem xg_mv  : XG fs (⟨d, none, .mv x⟩ :: l) R fr h = XG fs l R (putD fr d (ev fr x)) h := by show GP (some true) (true = true ∧ _) _ = _; rw [gp_t, eq_self, true_and]; rfl
theorem xg_build {zs : List V} {ps : List (Nat × Nat × EO)} : XG fs (⟨d, none, .build zs ps⟩ :: l) R fr h = rvP (oGet (fillE fr zs ps) .no fun cs => .ok (.agg cs) h) (kG fs l R fr d h) := by show GP (some true) (true = true ∧ _) _ = _; rw [gp_t, eq_self, true_and]; rfl
theorem xg_ld  : XG fs (⟨d, none, .ld x⟩ :: l) R fr h = rvP (loadV h (ev fr x) one?) (kG fs l R fr d h) := by show GP (some true) (true = true ∧ _) _ = _; rw [gp_t, eq_self, true_and]; rfl
theorem xg_ldn {n : Nat} : XG fs (⟨d, none, .ldn n x⟩ :: l) R fr h = rvP (loadV h (ev fr x) (many? n)) (kG fs l R fr d h) := by show GP (some true) (true = true ∧ _) _ = _; rw [gp_t, eq_self, true_and]; rfl
theorem xg_bin {op : BinOp} : XG fs (⟨d, none, .bin op x y⟩ :: l) R fr h = rvP (okv (binV op (ev fr x) (ev fr y)) h) (kG fs l R fr d h) := by show GP (some true) (true = true ∧ _) _ = _; rw [gp_t, eq_self, true_and]; rfl
theorem xg_eqk {kd : KD} {b : Bool} : XG fs (⟨d, none, .eqk kd b x y⟩ :: l) R fr h = rvP (okv (oGet (keyEq kd (ev fr x) (ev fr y)) none fun r => some (.b (bif b then !r else r))) h) (kG fs l R fr d h) := by show GP (some true) (true = true ∧ _) _ = _; rw [gp_t, eq_self, true_and]; rfl
theorem xg_neg  : XG fs (⟨d, none, .neg x⟩ :: l) R fr h = rvP ((ev fr x).onI .no fun k n => .ok (.i k (fw k (isub 0 n))) h) (kG fs l R fr d h) := by show GP (some true) (true = true ∧ _) _ = _; rw [gp_t, eq_self, true_and]; rfl
theorem xg_conv {k : IntKind} : XG fs (⟨d, none, .conv k x⟩ :: l) R fr h = rvP ((ev fr x).onI .no fun _ n => .ok (.i k (fw k n)) h) (kG fs l R fr d h) := by show GP (some true) (true = true ∧ _) _ = _; rw [gp_t, eq_self, true_and]; rfl
theorem xg_slice {sz : Nat} {lo hi mx : Option EO} : XG fs (⟨d, none, .slice sz x lo hi mx⟩ :: l) R fr h = rvP (sliceV fr sz (ev fr x) lo hi mx h) (kG fs l R fr d h) := by show GP (some true) (true = true ∧ _) _ = _; rw [gp_t, eq_self, true_and]; rfl
theorem xg_fadr {o : Nat} : XG fs (⟨d, none, .fadr o x⟩ :: l) R fr h = rvP ((ev fr x).onP fun id p => .ok (.p id (p + o)) h) (kG fs l R fr d h) := by show GP (some true) (true = true ∧ _) _ = _; rw [gp_t, eq_self, true_and]; rfl
theorem xg_iadr {n sz : Nat} : XG fs (⟨d, none, .iadr n sz x y⟩ :: l) R fr h = rvP ((ev fr x).onP fun id off => idxV (ev fr y) n fun m => .ok (.p id (off + m * sz)) h) (kG fs l R fr d h) := by show GP (some true) (true = true ∧ _) _ = _; rw [gp_t, eq_self, true_and]; rfl
theorem xg_iads {sz : Nat} : XG fs (⟨d, none, .iads sz x y⟩ :: l) R fr h = rvP (iadsV sz (ev fr x) (ev fr y) h) (kG fs l R fr d h) := by show GP (some true) (true = true ∧ _) _ = _; rw [gp_t, eq_self, true_and]; rfl
theorem xg_ext {i : Nat} : XG fs (⟨d, none, .ext x i⟩ :: l) R fr h = rvP ((ev fr x).onTup fun l => okv (nth l i) h) (kG fs l R fr d h) := by show GP (some true) (true = true ∧ _) _ = _; rw [gp_t, eq_self, true_and]; rfl
theorem xg_len  : XG fs (⟨d, none, .len x⟩ :: l) R fr h = rvP (lenV (ev fr x) h) (kG fs l R fr d h) := by show GP (some true) (true = true ∧ _) _ = _; rw [gp_t, eq_self, true_and]; rfl
theorem xg_min  : XG fs (⟨d, none, .min x y⟩ :: l) R fr h = rvP (minV (ev fr x) (ev fr y) h) (kG fs l R fr d h) := by show GP (some true) (true = true ∧ _) _ = _; rw [gp_t, eq_self, true_and]; rfl
theorem xg_bslice {k : K} {n sz : Nat} {zs : List V} {ps : List (Nat × Nat × EO)} : XG fs (⟨some k, none, .bslice n sz zs ps⟩ :: l) R fr h = ((h.get h.nx).isDead = true ∧ ∃ cs, fillE fr zs ps = some cs ∧ XG fs l R (fr.set k (.sl h.nx 0 n sz)) (h.new (.cells (n * sz) cs))) := by
  show GP (some true) (∃ k' cs, some k = some k' ∧ _) _ = _
  rw [gp_t]
  apply propext
  constructor
  · rintro ⟨k', cs, e, e1, e2, e3⟩
    cases e
    exact ⟨e1, cs, e2, e3⟩
  · rintro ⟨e1, cs, e2, e3⟩
    exact ⟨k, cs, rfl, e1, e2, e3⟩
def stK (fs : T EF) (b : List K) (c : List EOper) (o : Option EOper) (l : List Stage) (Q : Fr → H → Prop) (h0 : H) (fr : Fr) (h : H) : Prop := isFresh h0 h fr b = true ∧ allStay fs goNo fr h c = true ∧ (match o with | none => Q fr h | some o => X fs [o] (XD fs l Q) fr h)
theorem xd_cons {g c : List EOper} {b : List K} {o : Option EOper} {l : List Stage} : XD fs (⟨g, c, o, b⟩ :: l) R fr h = XG fs g (stK fs b c o l R h) fr h := of_eq_true (eq_self _)
theorem fresh_nil : isFresh h0 h fr [] = true := of_eq_true (eq_self _)
theorem stK_n {b : List K} {c : List EOper} {l : List Stage} : stK fs b c none l R h0 fr h = (isFresh h0 h fr b = true ∧ allStay fs goNo fr h c = true ∧ R fr h) := of_eq_true (eq_self _)
theorem stK_s {b : List K} {c : List EOper} {o : EOper} {l : List Stage} : stK fs b c (some o) l R h0 fr h = (isFresh h0 h fr b = true ∧ allStay fs goNo fr h c = true ∧ X fs [o] (XD fs l R) fr h) := of_eq_true (eq_self _)
theorem stay_nil : allStay fs goNo fr h [] = true := of_eq_true (eq_self _)
theorem stay_cons {o : EOper} {c : List EOper} : (allStay fs goNo fr h (o :: c) = true) = (stays fs goNo fr h o = true ∧ allStay fs goNo fr h c = true) := by
  show ((stays fs goNo fr h o && allStay fs goNo fr h c) = true) = _
  rw [Bool.and_eq_true]
/-- An operation that gives again what it gave. -/
def again (r : RV) (u : V) : Prop := ∃ v h, r = .ok v h ∧ beqV v u = true
theorem again_ok {u : V} : again (.ok v h) u = (beqV v u = true) := by
  apply propext
  constructor
  · rintro ⟨v', h', e, hb⟩; cases e; exact hb
  · exact fun hb => ⟨v, h, rfl, hb⟩
theorem chk_again {r : RV} {u : V} : (r.chk (fun v => beqV v u) = true) = again r u := by
  apply propext
  cases r with
  | no => exact Iff.intro (fun h => by cases h) (fun ⟨v, h, e, _⟩ => by cases e)
  | ok v h => rw [again_ok]; rfl
theorem stay_mv {k : K} : (stays fs goNo fr h ⟨some k, none, .mv x⟩ = true) = (beqV (ev fr x) (getV (fr.get k)) = true) := of_eq_true (eq_self _)
theorem stay_len {k : K} : (stays fs goNo fr h ⟨some k, none, .len x⟩ = true) = again (lenV (ev fr x) h) (getV (fr.get k)) := chk_again
theorem stay_min {k : K} : (stays fs goNo fr h ⟨some k, none, .min x y⟩ = true) = again (minV (ev fr x) (ev fr y) h) (getV (fr.get k)) := chk_again
theorem stay_slice {k : K} {sz : Nat} {lo hi mx : Option EO} : (stays fs goNo fr h ⟨some k, none, .slice sz x lo hi mx⟩ = true) = again (sliceV fr sz (ev fr x) lo hi mx h) (getV (fr.get k)) := chk_again
theorem beq_i {k : IntKind} {n : Int} : beqV (.i k n) (.i k n) = true := by
  show (k == k && ieq n n) = true
  rw [ieq_eq]; cases k <;> simp
theorem Nat.beq_same {n : Nat} : Nat.beq n n = true := Nat.beq_refl n
theorem Sl.beq {α : Type} {e : α → V} {L : List α} (hs : Sl e h v L) : beqV v v = true := by
  rcases hs with ⟨rfl, _⟩ | ⟨id, off, m, cs, rfl, _⟩
  · rfl
  · show (id.beq id && Nat.beq off off && Nat.beq L.length L.length && Nat.beq 1 1) = true
    rw [K.beq_refl, Nat.beq_same, Nat.beq_same]; rfl
/-- One new slice. -/
theorem fresh_one {k : K} {n sz : Nat} {x : Blk} (hg : fr.get k = some (.sl h0.nx 0 n sz)) : isFresh h0 (h0.new x) fr [k] = true := by
  show freshL h0.nx.nat (h0.new x).nx.nat (oGet (slId (getV (fr.get k))) [] fun id => [id]) = true
  rw [hg]
  show (Nat.ble h0.nx.nat h0.nx.nat && Nat.blt h0.nx.nat (h0.new x).nx.nat && notIn h0.nx [] && true) = true
  rw [Nat.ble_eq_true_of_le (Nat.le_refl _), show Nat.blt h0.nx.nat (h0.new x).nx.nat = true from Nat.ble_eq_true_of_le (by rw [nx_new]; exact Nat.le_refl _)]
  rfl
end
end Go.Ev
namespace Go.Ev
open Go Go.RowKit
/-- A slice of numbers as it came in. -/
def SlArg (W : World) (val : Value) (L : List Int) : Prop := (val = .slice none 0 0 ∧ L = []) ∨ ∃ (b off len : Nat) (zs : List Int), val = .slice (some ⟨b, off, none⟩) len zs.length ∧ len ≤ zs.length ∧ L = zs.take len ∧
  (∀ i (hi : i < zs.length), W.cell? ⟨b, off + i, none⟩ = some (.int .i64 zs[i])) ∧ ∀ i, i < zs.length → W.frozen? ⟨b, off + i, none⟩ = false
theorem intsVR {ι : Io} : ∀ {zs : List Int} {vs : List Value}, vs.length = zs.length → (∀ i (hi : i < zs.length), vs[i]? = some (.int .i64 zs[i])) → VRs ι (zs.map iE) vs := by
  intro zs vs hl h
  refine ⟨by rw [List.length_map, hl], fun i h1 h2 => ?_⟩
  have hi : i < zs.length := by simpa using h1
  have := h i hi
  rw [List.getElem?_eq_getElem h2, Option.some.injEq] at this
  rw [this, List.getElem_map]
  exact .i _ _
end Go.Ev
namespace Go.Ev
open Go Go.RowKit
section
variable {Y : Rig} {fs : T EF} {k : K} {ef : EF} {n : Nat} {args : List V} {L : List Int}
end
theorem callP_flat {fs : T EF} {k : K} {ef : EF} {args : List V} {h : H} {v : V} {g : List V → Option V} {P : V → H → Prop} (hf : fs.get k = some ef) (hn : ef.nv = some (flatG g)) (hg : g args = some v) : CallP fs (.fn k []) args h P = P v h := by
  have hc : ∀ n, callV fs (eval fs n) (.fn k []) args h = .ok v h := fun n => by
    show (oGet (fs.get k) RV.no fun ef => callE (eval fs n) ef (cat args []) h) = _
    rw [hf]
    show oGet ef.nv (callF (eval fs n) ef (cat args []) h) (fun g => oGet (g (cat args []) h) RV.no fun p => RV.ok p.1 p.2) = _
    rw [hn, cat_eq, List.append_nil]
    show (oGet (flatG g args h) RV.no fun p => RV.ok p.1 p.2) = _
    unfold flatG
    rw [hg]; rfl
  apply propext
  constructor
  · rintro ⟨n, v', h', e, hp⟩
    rw [hc] at e
    cases e; exact hp
  · intro hp
    exact ⟨0, v, h, hc 0, hp⟩
theorem Sl.toI {h : H} {v : V} {L : List Int} (hs : Sl iE h v L) : SlI h v L := by
  rcases hs with ⟨rfl, rfl⟩ | ⟨id, off, m, cs, rfl, hb, hl, hm, hx⟩
  · exact .inl ⟨rfl, rfl⟩
  · exact .inr ⟨id, off, m, cs, rfl, hb, fun i hi => by rw [nth_eq, Nat.mul_one]; exact hx i hi⟩
theorem callP_ints {fs : T EF} {k : K} (hf : fs.get k = some izF) {h : H} {v u : V} {L M : List Int} {P : V → H → Prop} (hv : Sl iE h v L) (hu : Sl iE h u M) (hn : L.length ≤ 1000000) (hp : P (.b (decide (L = M))) h) : CallP fs (.fn k []) [v, u] h P := by
  obtain ⟨n, e⟩ := iz_run (fs := fs) hv.toI hu.toI hn
  exact callP_0 hf rfl ⟨n, _, _, e, hp⟩
end Go.Ev
namespace Go.Ev
open Go Go.RowKit Go.ChangeShapes Go.WideShapes Go.ChangeAt
theorem trod_slArg {H : Type} {enc : TypeId × Value → H} {P : Program} {W : World} {base : Nat} {t e : TypeId} (ht : P.underlying t = some (.slice e)) (he : P.underlying e = some (.int .i64)) (hc : P.cellsOf e = 1) {v : Value} {d : DataW H} {p ps : List MemPlace}
    (hval : Value.okWide P W .any base t v) (hd : DataW.Trod enc P W 0 (fun _ => true) true t v d p) (hps : ∀ x ∈ p, x ∈ ps) (hnf : W.noneFrozen ps) :
    ∃ L, SlArg W v L ∧ ∀ W', Below W.heap.size W W' → DataW.Trod enc P W' 0 (fun b => decide (b < W.heap.size)) true t v d p := by
  obtain ⟨ao, len, cap, rfl⟩ := okWide_slice ht hval
  obtain ⟨fuel, hf⟩ := hd
  rcases open_ints ht he hc hf with ⟨hcs, hx⟩ | ⟨a, len', cap', zs, hcs, _, hl, hm, hz, hx, hcell, hwf⟩
  · have hv : Value.slice ao len cap = .slice none 0 0 := by
      have : (Value.slice ao len cap).cells.toList = [.slice ao len cap] := rfl
      rw [this] at hcs
      exact (List.cons.inj hcs).1
    cases hv
    cases hx
    exact ⟨[], .inl ⟨rfl, rfl⟩, fun W' _ => ⟨1, by rw [DataW.trod_step]; unfold DataW.trodStep; simp only [ht]; rfl⟩⟩
  · have hv : Value.slice ao len cap = .slice (some a) len' cap' := by
      have : (Value.slice ao len cap).cells.toList = [.slice ao len cap] := rfl
      rw [this] at hcs
      exact (List.cons.inj hcs).1
    cases hv
    cases hx
    simp only [if_true] at hz
    have hspot : a.spot = none := by
      simp only [Value.okWide, ht, Cell.okWide, Cell.ok] at hval
      exact hval.2.2.2.1
    obtain ⟨b, off, sp⟩ := a
    have hspot : sp = none := hspot
    subst hspot
    have hcell' : ∀ i (hi : i < zs.length), W.cell? ⟨b, off + i, none⟩ = some (.int .i64 zs[i]) := fun i hi => by
      have := hcell i hi
      rw [add_lit'] at this
      rw [this]; simp [List.getD, hi]
    refine ⟨zs.take len, .inr ⟨b, off, len, zs, by rw [hz], by omega, rfl, hcell', fun i hi => ?_⟩, fun W' hb => ?_⟩
    · refine hnf b (off + i) (hps _ ?_)
      unfold MemPlace.row
      rw [List.mem_map]
      exact ⟨i, by simpa using hi, rfl⟩
    · refine ⟨0 + 2, ?_⟩
      have hlt : zs.length ≠ 0 → b < W.heap.size := fun hne => by
        have := hcell' 0 (by omega)
        unfold World.cell? at this
        split at this
        · rename_i hh; exact (Array.getElem?_eq_some_iff.1 hh).1
        · cases this
      refine shut_ints (zs := zs) 0 ht he hc (Nat.zero_le _) hl hm ?_ (fun i hi => ?_) hwf
      · by_cases hne : zs.length = 0
        · split <;> omega
        · have := hlt hne
          simp [this, hz]
      · rw [← hcell i hi, add_lit']
        have := hlt (by omega)
        unfold World.cell?
        show (match W'.heap[b]? with | some (.cells c _ _) => _ | _ => _) = _
        rw [hb.block b this]
        rfl
end Go.Ev
namespace Go.Ev
open Go Go.RowKit
section
variable {α : Type} {e : α → V} {h h' : H} {v u : V} {L M : List α} {b : Nat}
/-- x[:m:m] -/
theorem Sl.cut3 {k k' : IntKind} {m : Nat} (hs : Sl e h v L) (hm : m ≤ L.length) :
    ∃ v', (∀ h1, sliceB 1 v none (some (.i k (m : Int))) (some (.i k' (m : Int))) h1 = .ok v' h1) ∧ Sl e h v' (L.take m) ∧ (∀ b, Own b v → Own b v') ∧ ∀ id, NotIn id v → NotIn id v' := by
  rcases hs with ⟨rfl, rfl⟩ | ⟨id, off, c, cs, rfl, hb, hll, hc, hx⟩
  · have hu0 : m = 0 := by simpa using hm
    subst hu0
    exact ⟨.sn, fun h1 => rfl, .inl ⟨rfl, rfl⟩, fun b h => h, fun id h => h⟩
  · refine ⟨.sl id (off + 0 * 1) (m - 0) 1, fun h1 => ?_, .inr ⟨id, off + 0 * 1, c, cs, ?_, hb, hll, ?_, fun i hi => ?_⟩, fun b ho _ _ _ _ e => ?_, fun id' hn _ _ _ e => ?_⟩
    · show (bif Nat.beq 1 1 then cutV id off L.length 1 h1 0 m (some m) else RV.no) = _
      rw [Nat.beq_refl]
      show cutV id off L.length 1 h1 0 m (some m) = _
      unfold cutV
      have : (Nat.ble 0 m && Nat.ble m L.length && oGet (some m) true fun x => Nat.ble m x && Nat.ble x L.length) = true := by
        show (Nat.ble 0 m && Nat.ble m L.length && (Nat.ble m m && Nat.ble m L.length)) = true
        rw [Nat.ble_eq_true_of_le hm, Nat.ble_eq_true_of_le (Nat.zero_le m), Nat.ble_eq_true_of_le (Nat.le_refl m)]; rfl
      rw [this]; rfl
    · congr 1; simp; omega
    · simp; omega
    · have hi' : i < m := by simp at hi; omega
      rw [show off + 0 * 1 + i = off + i by omega, hx i (by omega)]
      simp
    · cases e; exact ho _ _ _ _ rfl
    · cases e; exact hn _ _ _ rfl
/-- A store into a slice. -/
theorem Sl.st (hs : Sl e h v L) {i : Nat} (hi : i < L.length) {x : α} {c : V} (hc : c = e x) (ho : cellsN 1 c = some [c]) (hhc : HC h) :
    ∃ p id m cs', (∀ k h1, iadsV 1 v (.i k (i : Int)) h1 = .ok p h1) ∧ storeV h 1 p c = .ok undefV (h.put id (.cells m cs')) ∧ Sl e (h.put id (.cells m cs')) v (L.set i x) ∧ (∃ off n sz, v = .sl id off n sz) ∧ id.nat < h.nx.nat := by
  subst hc
  rcases hs with ⟨rfl, rfl⟩ | ⟨id, off, m, cs, rfl, hb, hl, hm, hx⟩
  · simp at hi
  · refine ⟨.p id (off + i * 1), id, m, setMany cs (off + i * 1) [e x], fun k h1 => ?_, ?_, ?_, ⟨off, L.length, 1, rfl⟩, hhc.cells hb⟩
    · rw [iads_sl, idx_n hi]
    · exact store_p hb ho (by omega)
    · have hsm : setMany cs (off + i * 1) [e x] = cs.set (off + i) (e x) := by
        rw [setMany_eq _ _ _ (by simp; omega), Nat.mul_one]
        apply List.ext_getElem?
        intro j
        rcases Nat.lt_trichotomy j (off + i) with h1 | h1 | h1
        · rw [List.append_assoc, List.getElem?_append_left (by simp; omega), List.getElem?_take, if_pos h1, List.getElem?_set, if_neg (by omega)]
        · subst h1
          rw [List.append_assoc, List.getElem?_append_right (by simp; omega), List.getElem?_set]
          have h2 : off + i < cs.length := by omega
          have : off + i - min (off + i) cs.length = 0 := by omega
          simp [this, h2]
        · rw [List.getElem?_append_right (by simp; omega), List.getElem?_set, if_neg (by omega), List.getElem?_drop]
          congr 1
          simp; omega
      refine .inr ⟨id, off, m, _, by rw [List.length_set], get_put_same, by rw [hsm, List.length_set]; exact hl, by rw [List.length_set]; exact hm, fun j hj => ?_⟩
      have hj' : j < L.length := by simpa using hj
      rw [hsm, List.getElem?_set]
      by_cases e1 : i = j
      · subst e1
        rw [if_pos rfl, if_pos (by omega)]; simp
      · rw [if_neg (by omega), hx j hj', List.getElem_set_ne e1]
end

theorem kNe {a b : K} (h : a.nat < b.nat) : a ≠ b := fun e => by rw [e] at h; omega
/-- A slice that is gathered in a box, while a loop over a function runs. -/
structure AccI {α : Type} (e : α → V) (b : Nat) (h : H) (idb idl : K) (kept : List (K × Blk)) (o : V) (L : List α) (lb : Blk) (h1 : H) : Prop where
  sl : Sl e h1 o L
  own : Own (idl.nat + 1) o
  gr : Grow b h h1
  eb : h1.get idb = .cells 1 [o]
  kp : ∀ p ∈ kept, h1.get p.1 = p.2
  el : h1.get idl = lb
  nx : idl.nat + 1 ≤ h1.nx.nat
  o1 : idb.nat < idl.nat
  ob : b ≤ idb.nat
  ok : ∀ p ∈ kept, p.1.nat < idl.nat ∧ p.1 ≠ idb
section
variable {α : Type} {e : α → V} {b : Nat} {h h1 h2 : H} {idb idl : K} {kept : List (K × Blk)} {o o' : V} {L L' : List α} {lb : Blk}
theorem AccI.grow (t : AccI e b h idb idl kept o L lb h1) (hc : HC h1) (g : Grow h1.nx.nat h1 h2) : AccI e b h idb idl kept o L lb h2 := by
  have := t.nx; have := t.o1; have := t.ob; have := g.nx
  exact ⟨t.sl.grow hc g, t.own, t.gr.trans (g.low (by omega)), by rw [g.old _ (by omega)]; exact t.eb, fun p hp => by have := (t.ok p hp).1; rw [g.old _ (by omega)]; exact t.kp p hp, by rw [g.old _ (by omega)]; exact t.el, by omega, t.o1, t.ob, t.ok⟩
theorem AccI.loop (t : AccI e b h idb idl kept o L lb h1) (lb' : Blk) : AccI e b h idb idl kept o L lb' (h1.put idl lb') := by
  have := t.nx; have := t.o1; have := t.ob
  exact ⟨t.sl.put (t.own.notIn (by omega)) _, t.own, t.gr.trans (Grow.put (by omega) (by omega) _), by rw [get_put_other (kNe (by omega))]; exact t.eb, fun p hp => by have := (t.ok p hp).1; rw [get_put_other (kNe (by omega))]; exact t.kp p hp, get_put_same, t.nx, t.o1, t.ob, t.ok⟩
theorem AccI.put (t : AccI e b h idb idl kept o L lb h1) (hs : Sl e h2 o' L') (ho : Own (idl.nat + 1) o') (g : Grow (idl.nat + 1) h1 h2) : AccI e b h idb idl kept o' L' lb (h2.put idb (.cells 1 [o'])) := by
  have := t.nx; have := t.o1; have := t.ob; have := g.nx
  exact ⟨hs.put (ho.notIn (by omega)) _, ho, (t.gr.trans (g.low (by omega))).trans (Grow.put (by omega) (by omega) _), get_put_same, fun p hp => by have := (t.ok p hp).1; rw [get_put_other (t.ok p hp).2, g.old _ (by omega)]; exact t.kp p hp,
    by rw [get_put_other (kNe (by omega)).symm, g.old _ (by omega)]; exact t.el, by rw [nx_put]; omega, t.o1, t.ob, t.ok⟩
/-- The slice itself has turned. -/
theorem AccI.turned (t : AccI e b h idb idl kept o L lb h1) (hs : Sl e h2 o L') (g : Grow (idl.nat + 1) h1 h2) : AccI e b h idb idl kept o L' lb h2 := by
  have := t.nx; have := t.o1; have := t.ob; have := g.nx
  exact ⟨hs, t.own, t.gr.trans (g.low (by omega)), by rw [g.old _ (by omega)]; exact t.eb, fun p hp => by have := (t.ok p hp).1; rw [g.old _ (by omega)]; exact t.kp p hp, by rw [g.old _ (by omega)]; exact t.el, by omega, t.o1, t.ob, t.ok⟩
theorem AccI.ld (t : AccI e b h idb idl kept o L lb h1) : loadV h1 (.p idb 0) one? = .ok o h1 := load_p t.eb rfl
theorem Sl.one {v : V} (hs : Sl e h v L) : cellsN 1 v = some [v] := by rcases hs with ⟨rfl, _⟩ | ⟨_, _, _, _, rfl, _⟩ <;> rfl
/-- box = append(box, x) -/
theorem AccI.push {x : α} {c : V} (hx : c = e x) (t : AccI e b h idb idl kept o L lb h1) (hc : HC h1) (hn : L.length < 16777216) :
    ∃ v' h', appV 1 (h1.new (.cells (1 * 1) [c])) o (.sl h1.nx 0 1 1) = .ok v' h' ∧ storeV h' 1 (.p idb 0) v' = .ok undefV (h'.put idb (.cells 1 [v'])) ∧ AccI e b h idb idl kept v' (L ++ [x]) lb (h'.put idb (.cells 1 [v'])) := by
  obtain ⟨v', h', p1, p2, p3, p4, _⟩ := Sl.push (x := x) hx t.sl t.own t.nx hc hn
  have := t.o1
  refine ⟨v', h', p1, ?_, t.put p2 p3 p4⟩
  rw [store_p (m := 1) (cs := [o]) (by rw [p4.old _ (by omega)]; exact t.eb) p2.one (by omega)]; rfl
end

section
variable {fs : T EF} {fr : Fr} {h : H} {k : K} {x y : EO}
theorem stay_iads {sz : Nat} : (stays fs goNo fr h ⟨some k, none, .iads sz x y⟩ = true) = again (iadsV sz (ev fr x) (ev fr y) h) (getV (fr.get k)) := chk_again
theorem stay_ld : (stays fs goNo fr h ⟨some k, none, .ld x⟩ = true) = again (loadV h (ev fr x) one?) (getV (fr.get k)) := chk_again
theorem stay_bin {op : BinOp} : (stays fs goNo fr h ⟨some k, none, .bin op x y⟩ = true) = again (okv (binV op (ev fr x) (ev fr y)) h) (getV (fr.get k)) := chk_again
theorem beq_p {id : K} {off : Nat} : beqV (.p id off) (.p id off) = true := by
  show (id.beq id && Nat.beq off off) = true
  rw [K.beq_refl, Nat.beq_same]; rfl
theorem beq_b {b : Bool} : beqV (.b b) (.b b) = true := by cases b <;> rfl
variable {α : Type} {e : α → V} {v : V} {L : List α}
theorem Sl.atb (hs : Sl e h v L) (i : Nat) (hi : i < L.length) : ∃ p, (∀ k h1, iadsV 1 v (.i k (i : Int)) h1 = .ok p h1) ∧ loadV h p one? = .ok (e L[i]) h ∧ beqV p p = true := by
  rcases hs with ⟨rfl, rfl⟩ | ⟨id, off, m, cs, rfl, hb, hl, hm, hx⟩
  · simp at hi
  · refine ⟨.p id (off + i * 1), fun k h1 => ?_, ?_, beq_p⟩
    · rw [iads_sl, idx_n hi]
    · exact load_p hb (by rw [nth_eq, Nat.mul_one]; exact hx i hi)
end
theorem rep_cell {z : V} : ∀ n, rep [z] n = List.replicate n z
  | 0 => rfl
  | n + 1 => by
    show cat [z] (rep [z] n) = _
    rw [rep_cell n, cat_eq]; rfl
/-- make([]int, n) -/
theorem mks_ints {h : H} {k : IntKind} {n : Nat} (hn : n ≤ 1000000) : mksV 1 [.i .i64 0] h (.i k (n : Int)) = .ok (.sl h.nx 0 n 1) (h.new (.cells (n * 1) (rep [.i .i64 0] n))) := by
  show (bif Nat.ble n 1000000 then RV.ok (.sl h.nx 0 n 1) (h.new (.cells (n * 1) (rep [.i .i64 0] n))) else .no) = _
  rw [Nat.ble_eq_true_of_le hn]; rfl
theorem mks_sl {h : H} {n : Nat} : Sl iE (h.new (.cells (n * 1) (rep [.i .i64 0] n))) (.sl h.nx 0 n 1) (List.replicate n (0 : Int)) :=
  .inr ⟨h.nx, 0, n * 1, rep [.i .i64 0] n, by rw [List.length_replicate], get_new_same, by rw [rep_cell, List.length_replicate, Nat.mul_one], by rw [List.length_replicate]; omega, fun i hi => by
    have hi : i < n := by simpa using hi
    rw [rep_cell, Nat.zero_add, List.getElem?_replicate, if_pos hi, List.getElem_replicate]; rfl⟩
end Go.Ev
namespace Go.Ev
open Go Go.RowKit
/-- A slice that is only read. -/
def Sr {α : Type} (e : α → V) (h : H) (v : V) (L : List α) : Prop := (v = .sn ∧ L = []) ∨ ∃ id off m cs, v = .sl id off L.length 1 ∧ (h.get id = .cells m cs ∨ h.get id = .rom m cs) ∧ cs.length = m ∧ off + L.length ≤ m ∧ ∀ i (hi : i < L.length), cs[off + i]? = some (e L[i])
theorem load_r {h : H} {id : K} {m off : Nat} {v : V} {cs : List V} (hb : h.get id = .cells m cs ∨ h.get id = .rom m cs) (hc : nth cs off = some v) : loadV h (.p id off) one? = .ok v h := by
  show okv ((h.get id).onC none fun n cs => one? cs n off) h = _
  rcases hb with hb | hb <;> rw [hb] <;> show okv (nth cs off) h = _ <;> rw [hc] <;> rfl
section
variable {α : Type} {e : α → V} {h h' : H} {v u : V} {L M : List α} {b : Nat}
theorem Sr.nil : Sr e h .sn ([] : List α) := .inl ⟨rfl, rfl⟩
theorem Sr.len (hs : Sr e h v L) (h1 : H) : lenV v h1 = .ok (.i .i64 (L.length : Int)) h1 := by
  rcases hs with ⟨rfl, rfl⟩ | ⟨id, off, m, cs, rfl, _⟩ <;> rfl
theorem Sr.at (hs : Sr e h v L) (i : Nat) (hi : i < L.length) : ∃ p, (∀ k h1, iadsV 1 v (.i k (i : Int)) h1 = .ok p h1) ∧ loadV h p one? = .ok (e L[i]) h := by
  rcases hs with ⟨rfl, rfl⟩ | ⟨id, off, m, cs, rfl, hb, hl, hm, hx⟩
  · simp at hi
  · refine ⟨.p id (off + i * 1), fun k h1 => ?_, ?_⟩
    · rw [iads_sl, idx_n hi]
    · exact load_r hb (by rw [nth_eq, Nat.mul_one]; exact hx i hi)
theorem Sr.same (hs : Sr e h v L) (hg : ∀ id off n sz, v = .sl id off n sz → h'.get id = h.get id) : Sr e h' v L := by
  rcases hs with ⟨rfl, rfl⟩ | ⟨id, off, m, cs, rfl, hb, hl, hm, hx⟩
  · exact .inl ⟨rfl, rfl⟩
  · exact .inr ⟨id, off, m, cs, rfl, by rw [hg _ _ _ _ rfl]; exact hb, hl, hm, hx⟩
theorem Sr.lt (hs : Sr e h v L) (hc : HC h) : ∀ id off n sz, v = .sl id off n sz → id.nat < h.nx.nat := by
  rcases hs with ⟨rfl, rfl⟩ | ⟨id, off, m, cs, rfl, hb, hl, hm, hx⟩
  · exact fun _ _ _ _ h => by cases h
  · exact fun _ _ _ _ h => by cases h; exact hc.lt (by rcases hb with hb | hb <;> rw [hb] <;> simp)
theorem Sr.grow (hs : Sr e h v L) (hc : HC h) (hg : Grow h.nx.nat h h') : Sr e h' v L := hs.same fun id off n sz ev => hg.old id (hs.lt hc id off n sz ev)
end
/-! ### Memory that came in -/
theorem vr_det {ι ι' : Io} {cs : List V} {vs vs' : List Value} (hd : ∀ c ∈ cs, ∃ k n, c = .i k n) (h : VRs ι cs vs) (h' : VRs ι' cs vs') : vs = vs' := by
  apply List.ext_getElem
  · rw [h.len, h'.len]
  · intro i h1 h2
    have hi : i < cs.length := by rw [← h.len]; exact h1
    have a := h.at_ i hi h1
    have b := h'.at_ i hi h2
    obtain ⟨k, n, e⟩ := hd _ (List.getElem_mem hi)
    rw [e] at a b
    rw [a.of_i, b.of_i]
structure Roms (Y : Rig) (ι : Io) (h : H) (W : World) : Prop where
  wr : WR Y.tab ι h W
  hc : HC h
  all : ∀ id q, ι id = some q → ∃ n cs, h.get id = .rom n cs ∧ (∀ c ∈ cs, ∃ k n, c = .i k n) ∧ n = q.room ∧ ∃ p, q.pin = some p ∧ W.heap[q.b]? = some (.cells p.1 p.2.1 p.2.2)
noncomputable def noH : H := ⟨.e, .nil⟩
theorem Roms.nil {Y : Rig} {W : World} : Roms Y (fun _ => none) noH W :=
  ⟨⟨(fun _ _ h => absurd h (by simp)), (fun _ _ h => absurd h (by simp)), (fun _ _ _ _ h => absurd h (by simp)), (fun _ _ => rfl)⟩, fun id _ => by
    show getB (T.get id .nil) = .dead
    rw [T.get_nil]; rfl, fun _ _ h => absurd h (by simp)⟩
section
variable {Y : Rig} {ι : Io} {h : H} {W : World}
/-- A slice of numbers comes in. -/
theorem Roms.add (r : Roms Y ι h W) {val : Value} {L : List Int} (ha : SlArg W val L) : ∃ ι' h' v, Roms Y ι' h' W ∧ Ext ι ι' ∧ VR ι' v val ∧ Sr iE h' v L ∧ Grow h.nx.nat h h' := by
  rcases ha with ⟨rfl, rfl⟩ | ⟨b, off, len, zs, rfl, hlen, rfl, hcell, hfro⟩
  · exact ⟨ι, h, .sn, r, Ext.refl _, .sn, Sr.nil, Grow.refl _ _⟩
  have hn : ι h.nx = none := r.wr.fresh _ (Nat.le_refl _)
  by_cases hz : zs.length = 0
  · obtain rfl := List.length_eq_zero_iff.1 hz
    obtain rfl : len = 0 := by simpa using hlen
    have g : Grow h.nx.nat h (h.new (.rom 0 [])) := Grow.new (Nat.le_refl _) _
    refine ⟨ι, h.new (.rom 0 []), .sl h.nx 0 0 1, ⟨r.wr.more (HX.new h _), g.hc r.hc, fun id q hq => ?_⟩, Ext.refl _, .sl0, .inr ⟨h.nx, 0, 0, [], rfl, .inr get_new_same, rfl, by simp, fun i hi => by simp at hi⟩, g⟩
    have : id.nat < h.nx.nat := by
      rcases Nat.lt_or_ge id.nat h.nx.nat with h1 | h1
      · exact h1
      · rw [r.wr.fresh id h1] at hq; cases hq
    rw [get_new_old this]
    exact r.all id q hq
  · have h0 := hcell 0 (by omega)
    obtain ⟨cur, ty, fz, hb⟩ : ∃ cur ty fz, W.heap[b]? = some (.cells cur ty fz) := by
      unfold World.cell? at h0
      split at h0
      · rename_i c t f hh; exact ⟨c, t, f, hh⟩
      · cases h0
    have hbl : b < W.heap.size := (Array.getElem?_eq_some_iff.1 hb).1
    have hcur : ∀ i (hi : i < zs.length), cur[off + i]? = some (.int .i64 zs[i]) := fun i hi => by
      have := hcell i hi
      rw [cell_of_row W b _ cur ty fz hb] at this
      exact this
    have hsz : off + zs.length ≤ cur.size := by
      have := hcur (zs.length - 1) (by omega)
      have := (Array.getElem?_eq_some_iff.1 this).1
      omega
    have hin : List.take zs.length (List.drop off cur.toList) = zs.map (Value.int .i64) := by
      apply List.ext_getElem?
      intro i
      rw [List.getElem?_take, List.getElem?_map]
      by_cases hi : i < zs.length
      · rw [if_pos hi, List.getElem?_drop, Array.getElem?_toList, hcur i hi, List.getElem?_eq_getElem hi]; rfl
      · rw [if_neg hi, List.getElem?_eq_none (by omega)]; rfl
    have q : ∃ q : Pl, q = ⟨b, off, zs.length, some (cur, ty, fz)⟩ := ⟨_, rfl⟩
    obtain ⟨q, hq⟩ := q
    have hext := updI_ext (q := q) hn
    have g : Grow h.nx.nat h (h.new (.rom zs.length (zs.map iE))) := Grow.new (Nat.le_refl _) _
    have hlt : ∀ id q', ι id = some q' → id.nat < h.nx.nat := fun id q' hq' => by
      rcases Nat.lt_or_ge id.nat h.nx.nat with h1 | h1
      · exact h1
      · rw [r.wr.fresh id h1] at hq'; cases hq'
    have hall : ∀ id q', updI ι h.nx q id = some q' → ∃ n cs, (h.new (.rom zs.length (zs.map iE))).get id = .rom n cs ∧ (∀ c ∈ cs, ∃ k n, c = .i k n) ∧ n = q'.room ∧ ∃ p, q'.pin = some p ∧ W.heap[q'.b]? = some (.cells p.1 p.2.1 p.2.2) := fun id q' hq' => by
      by_cases e : id = h.nx
      · subst e
        rw [updI_same] at hq'
        cases hq'
        subst hq
        exact ⟨_, _, get_new_same, fun c hc => by obtain ⟨z, _, rfl⟩ := List.mem_map.1 hc; exact ⟨_, _, rfl⟩, rfl, _, rfl, hb⟩
      · rw [updI_other _ _ e] at hq'
        rw [get_new_old (hlt id q' hq')]
        exact r.all id q' hq'
    refine ⟨updI ι h.nx q, h.new (.rom zs.length (zs.map iE)), .sl h.nx 0 len 1, ⟨⟨fun id q' h' => ?_, fun id q' h' => ?_, fun id id' q1 q2 h1 h2 _ _ _ => ?_, fun id hid => ?_⟩, g.hc r.hc, hall⟩, hext, ?_, ?_, g⟩
    · by_cases e : id = h.nx
      · subst e
        rw [updI_same] at h'
        cases h'
        rw [get_new_same]
        subst hq
        refine ⟨cur, ty, fz, hb, by simp, hsz, Nat.le_refl _, fun c hc => ?_, ?_, ?_, ?_⟩
        · obtain ⟨z, _, rfl⟩ := List.mem_map.1 hc; rfl
        · show VRs _ _ (List.take zs.length (List.drop off cur.toList))
          rw [hin]
          exact intsVR (by simp) (fun i hi => by simp [hi])
        · intro j h1 h2 h3
          have h1 : off ≤ j := h1
          have h2 : j < off + zs.length := h2
          have := hfro (j - off) (by omega)
          unfold World.frozen? at this
          rw [hb] at this
          simp only [Bool.and_eq_false_iff, decide_eq_false_iff_not] at this
          omega
        · intro p hp
          cases hp
          exact ⟨rfl, rfl, fun _ _ => rfl⟩
      · rw [updI_other _ _ e] at h'
        rw [get_new_old (hlt id q' h')]
        exact (r.wr.blk id q' h').mono hext rfl
    · by_cases e : id = h.nx
      · subst e; rw [updI_same] at h'; cases h'; subst hq; exact hbl
      · rw [updI_other _ _ e] at h'; exact r.wr.lt id q' h'
    · obtain ⟨_, _, a1, _⟩ := hall id q1 h1
      obtain ⟨_, _, a2, _⟩ := hall id' q2 h2
      exact .inr ⟨by rw [a1]; trivial, by rw [a2]; trivial⟩
    · have h1 : (h.new (.rom zs.length (zs.map iE))).nx.nat = h.nx.nat + 1 := K.succ_nat _
      rw [h1] at hid
      rw [updI_other _ _ (fun e => by rw [e] at hid; omega)]
      exact r.wr.fresh id (by omega)
    · have := VR.sl (off := 0) (n := len) (sz := 1) (c := zs.length) (updI_same ι h.nx q) (by subst hq; show 0 + zs.length * 1 ≤ zs.length; omega) hlen (by omega)
      subst hq
      simpa using this
    · refine .inr ⟨h.nx, 0, zs.length, zs.map iE, by rw [List.length_take, Nat.min_eq_left hlen], .inr get_new_same, by simp, by simp; omega, fun i hi => ?_⟩
      have hi' : i < len := by rw [List.length_take] at hi; omega
      rw [Nat.zero_add, List.getElem?_map, List.getElem?_eq_getElem (by omega), List.getElem_take]; rfl
/-- What came in is as it was. -/
theorem Roms.below (r : Roms Y ι h W) {n' : Nat} {ι' : Io} {h' : H} {W' : World} (st : Step h.nx.nat ι W n' ι' W') (wr' : WR Y.tab ι' h' W') (g : Grow h.nx.nat h h') : Below W.heap.size W W' := by
  refine ⟨st.os, st.tape, st.output, st.size, fun b' hb' => ?_⟩
  by_cases ex : ∃ id q, ι id = some q ∧ q.b = b'
  · obtain ⟨id, q, hq, rfl⟩ := ex
    obtain ⟨n, cs, hg, hd, hn, p, hp, hW⟩ := r.all id q hq
    have hid : id.nat < h.nx.nat := by
      rcases Nat.lt_or_ge id.nat h.nx.nat with h1 | h1
      · exact h1
      · rw [r.wr.fresh id h1] at hq; cases hq
    have b0 := r.wr.blk id q hq
    have b1 := wr'.blk id q (st.ext id q hq)
    rw [g.old id hid, hg] at b1
    rw [hg] at b0
    obtain ⟨cur0, ty0, fz0, k1, k2, k3, k4, k5, k6, k7⟩ := b0
    obtain ⟨cur, ty, fz, j1, j2, j3, j4, j5, j6, j7, j8⟩ := b1
    rw [hW] at k1
    cases k1
    obtain ⟨p1, p2, p3⟩ := j8 p hp
    subst p1 p2
    have hwin := vr_det hd j6 k6
    have : cur = p.1 := by
      apply Array.ext_getElem?
      intro j
      by_cases hj : q.base ≤ j ∧ j < q.base + n
      · have h1 := congrArg (fun l => l[j - q.base]?) hwin
        simp only [List.getElem?_take, if_pos (show j - q.base < n by omega), List.getElem?_drop, Array.getElem?_toList, show q.base + (j - q.base) = j by omega] at h1
        exact h1
      · exact p3 j (by omega)
    rw [j1, hW, this]
  · exact st.keep b' hb' fun id q hq e => ex ⟨id, q, hq, e⟩
/-- A call with what came in. -/
theorem Roms.call (r : Roms Y ι h W) {fs : T EF} (hfs : Fns Y fs) {k : K} {ef : EF} (hf : ef.nv = none ∧ ∃ fn c, FnOk Y k ef fn c) {vs : List V} {vals : List Value} (hv : VRs ι vs vals) (hrun : Ret fs ef vs h fun u h' => u = .b true ∧ Grow h.nx.nat h h') :
    Calls Y.P k.nat vals.toArray W fun e W' => e = .returned (.bool true) ∧ Below W.heap.size W W' := by
  obtain ⟨hnv, fn, c, hfn⟩ := hf
  obtain ⟨n, u, h', e, rfl, hg⟩ := hrun
  refine (callsIn_wide.1 (callF_rel (evalOk hfs n) hfn e hv r.wr)).mono ?_
  rintro e w' ⟨ι', v', rfl, hst, hvr, hwr⟩
  have := hvr.of_b
  subst this
  exact ⟨rfl, r.below hst hwr hg⟩
end
end Go.Ev
namespace Go.Ev
open Go Go.RowKit
noncomputable def f49_r0 : List EOper := [⟨(some (K.ofNat 2)), none, .as (.c .sn)⟩]
noncomputable def f49_r1 : List EOper := [⟨(some (K.ofNat 3)), none, .as (.c .sn)⟩]
noncomputable def f49_r2 : List EOper := [⟨(some (K.ofNat 4)), none, .as (.c (.i .i64 (.ofNat 0)))⟩]
noncomputable def f49_r3 : List EOper := [⟨(some (K.ofNat 8)), none, .mv (.t (K.ofNat 4))⟩, ⟨(some (K.ofNat 9)), none, .bin .lss (.t (K.ofNat 8)) (.c (.i .i64 (.ofNat 64)))⟩]
noncomputable def f49_r4 : List EOper := [⟨(some (K.ofNat 5)), none, .as (.c (.b false))⟩, ⟨(some (K.ofNat 6)), none, .as (.c (.b true))⟩]
noncomputable def f49_r5 : List EOper := [⟨(some (K.ofNat 7)), none, .as (.c (.i .i64 (.ofNat 0)))⟩]
noncomputable def f49_r6 : List EOper := [⟨(some (K.ofNat 12)), none, .mv (.t (K.ofNat 7))⟩, ⟨(some (K.ofNat 13)), none, .mv (.t (K.ofNat 0))⟩, ⟨(some (K.ofNat 14)), none, .len (.t (K.ofNat 13))⟩, ⟨(some (K.ofNat 15)), none, .bin .lss (.t (K.ofNat 12)) (.t (K.ofNat 14))⟩]
noncomputable def f49_r7 : List EOper := [⟨(some (K.ofNat 18)), none, .mv (.t (K.ofNat 5))⟩, ⟨(some (K.ofNat 19)), none, .mv (.t (K.ofNat 18))⟩, ⟨(some (K.ofNat 20)), (some ((K.ofNat 19), false)), .mv (.t (K.ofNat 0))⟩, ⟨(some (K.ofNat 21)), (some ((K.ofNat 19), false)), .mv (.t (K.ofNat 7))⟩, ⟨(some (K.ofNat 22)), (some ((K.ofNat 19), false)), .iads 1 (.t (K.ofNat 20)) (.t (K.ofNat 21))⟩, ⟨(some (K.ofNat 23)), (some ((K.ofNat 19), false)), .ld (.t (K.ofNat 22))⟩, ⟨(some (K.ofNat 24)), (some ((K.ofNat 19), false)), .mv (.t (K.ofNat 4))⟩, ⟨(some (K.ofNat 25)), (some ((K.ofNat 19), false)), .bin .eql (.t (K.ofNat 23)) (.t (K.ofNat 24))⟩, ⟨(some (K.ofNat 26)), none, .pick (.t (K.ofNat 19)) (.c (.b true)) (.t (K.ofNat 25))⟩, ⟨(some (K.ofNat 5)), none, .as (.t (K.ofNat 26))⟩]
noncomputable def f49_r8 : List EOper := [⟨(some (K.ofNat 27)), none, .mv (.t (K.ofNat 6))⟩, ⟨(some (K.ofNat 28)), none, .mv (.t (K.ofNat 27))⟩, ⟨(some (K.ofNat 29)), (some ((K.ofNat 28), true)), .mv (.t (K.ofNat 0))⟩, ⟨(some (K.ofNat 30)), (some ((K.ofNat 28), true)), .mv (.t (K.ofNat 7))⟩, ⟨(some (K.ofNat 31)), (some ((K.ofNat 28), true)), .iads 1 (.t (K.ofNat 29)) (.t (K.ofNat 30))⟩, ⟨(some (K.ofNat 32)), (some ((K.ofNat 28), true)), .ld (.t (K.ofNat 31))⟩, ⟨(some (K.ofNat 33)), (some ((K.ofNat 28), true)), .mv (.t (K.ofNat 4))⟩, ⟨(some (K.ofNat 34)), (some ((K.ofNat 28), true)), .bin .eql (.t (K.ofNat 32)) (.t (K.ofNat 33))⟩, ⟨(some (K.ofNat 35)), (some ((K.ofNat 28), true)), .mv (.t (K.ofNat 34))⟩, ⟨(some (K.ofNat 36)), (some ((K.ofNat 35), false)), .mv (.t (K.ofNat 4))⟩, ⟨(some (K.ofNat 37)), (some ((K.ofNat 35), false)), .mv (.t (K.ofNat 0))⟩, ⟨(some (K.ofNat 38)), (some ((K.ofNat 35), false)), .mv (.t (K.ofNat 7))⟩, ⟨(some (K.ofNat 39)), (some ((K.ofNat 35), false)), .iads 1 (.t (K.ofNat 37)) (.t (K.ofNat 38))⟩, ⟨(some (K.ofNat 40)), (some ((K.ofNat 35), false)), .ld (.t (K.ofNat 39))⟩, ⟨(some (K.ofNat 41)), (some ((K.ofNat 35), false)), .call (.c (.fn (K.ofNat 53) [])) [(.t (K.ofNat 36)), (.t (K.ofNat 40))]⟩, ⟨(some (K.ofNat 42)), (some ((K.ofNat 35), false)), .not (.t (K.ofNat 41))⟩, ⟨(some (K.ofNat 43)), (some ((K.ofNat 28), true)), .pick (.t (K.ofNat 35)) (.c (.b true)) (.t (K.ofNat 42))⟩, ⟨(some (K.ofNat 44)), none, .pick (.t (K.ofNat 28)) (.t (K.ofNat 43)) (.c (.b false))⟩, ⟨(some (K.ofNat 6)), none, .as (.t (K.ofNat 44))⟩]
noncomputable def f49_r9 : List EOper := [⟨(some (K.ofNat 16)), none, .mv (.t (K.ofNat 7))⟩, ⟨(some (K.ofNat 17)), none, .bin .add (.t (K.ofNat 16)) (.c (.i .i64 (.ofNat 1)))⟩, ⟨(some (K.ofNat 7)), none, .as (.t (K.ofNat 17))⟩]
noncomputable def f49_l0 : EC := (.seq (.seq (.reg f49_r6) (.cond (.t (K.ofNat 15)) .skip (.exit 2))) (.seq (.block 3 (.seq (.reg f49_r7) (.reg f49_r8))) (.reg f49_r9)))
noncomputable def f49_r10 : List EOper := [⟨(some (K.ofNat 45)), none, .mv (.t (K.ofNat 5))⟩, ⟨(some (K.ofNat 46)), none, .mv (.t (K.ofNat 45))⟩, ⟨(some (K.ofNat 47)), (some ((K.ofNat 46), true)), .mv (.t (K.ofNat 6))⟩, ⟨(some (K.ofNat 48)), none, .pick (.t (K.ofNat 46)) (.t (K.ofNat 47)) (.c (.b false))⟩]
noncomputable def f49_r11 : List EOper := [⟨(some (K.ofNat 49)), none, .mv (.t (K.ofNat 3))⟩, ⟨(some (K.ofNat 50)), none, .mv (.t (K.ofNat 4))⟩, ⟨(some (K.ofNat 51)), none, .bslice 1 1 [(.i .i64 (.ofNat 0))] [(0, 1, (.t (K.ofNat 50)))]⟩, ⟨(some (K.ofNat 52)), none, .app 1 (.t (K.ofNat 49)) (.t (K.ofNat 51))⟩, ⟨(some (K.ofNat 3)), none, .as (.t (K.ofNat 52))⟩]
noncomputable def f49_r12 : List EOper := [⟨(some (K.ofNat 10)), none, .mv (.t (K.ofNat 4))⟩, ⟨(some (K.ofNat 11)), none, .bin .add (.t (K.ofNat 10)) (.c (.i .i64 (.ofNat 1)))⟩, ⟨(some (K.ofNat 4)), none, .as (.t (K.ofNat 11))⟩]
noncomputable def f49_l1 : EC := (.seq (.seq (.reg f49_r3) (.cond (.t (K.ofNat 9)) .skip (.exit 0))) (.seq (.block 1 (.seq (.reg f49_r4) (.seq (.seq (.reg f49_r5) (.block 2 (.loop f49_l0))) (.seq (.reg f49_r10) (.cond (.t (K.ofNat 48)) (.reg f49_r11) .skip))))) (.reg f49_r12)))
noncomputable def f49_r13 : List EOper := [⟨(some (K.ofNat 53)), none, .mv (.t (K.ofNat 3))⟩, ⟨(some (K.ofNat 2)), none, .as (.t (K.ofNat 53))⟩]
noncomputable def f49_c : EC := (.seq (.reg f49_r0) (.seq (.reg f49_r1) (.seq (.seq (.reg f49_r2) (.block 0 (.loop f49_l1))) (.seq (.reg f49_r13) .ret))))
noncomputable def f49 : EF := ⟨54, [.tmp (K.ofNat 2)], f49_c, none⟩
theorem f49_rs : f49.rs = [.tmp (K.ofNat 2)] := of_eq_true (eq_self _)
noncomputable def ptI (a b : Int) : Bool := ieq (ibits (fun m n => Nat.xor m (Nat.land m n)) (fun _ x y => x &&& ~~~y) .i64 a b) (.ofNat 0)
noncomputable def inP (S : List Int) (x : Int) : Bool := S.any fun y => decide (y = x)
noncomputable def grP (S : List Int) (x : Int) : Bool := S.all fun y => decide (y = x) || !ptI x y
section
variable {fs : T EF} {ro : Option K}
theorem inP_snoc {S : List Int} {x : Int} {i : Nat} (hi : i < S.length) : inP (S.take (i + 1)) x = (inP (S.take i) x || decide (S[i] = x)) := by
  unfold inP; rw [List.take_succ_eq_append_getElem hi, List.any_append]; simp
theorem grP_snoc {S : List Int} {x : Int} {i : Nat} (hi : i < S.length) : grP (S.take (i + 1)) x = (grP (S.take i) x && (decide (S[i] = x) || !ptI x S[i])) := by
  unfold grP; rw [List.take_succ_eq_append_getElem hi, List.all_append]; simp
def f49_I0 (h : H) (v o : V) (S : List Int) (x : Int) (i : Nat) (fr : Fr) (h1 : H) : Prop := h1 = h ∧ i ≤ S.length ∧ fr.get (K.ofNat 0) = some (v) ∧ fr.get (K.ofNat 3) = some (o) ∧ fr.get (K.ofNat 4) = some (.i .i64 x) ∧ fr.get (K.ofNat 5) = some (.b (inP (S.take i) x)) ∧ fr.get (K.ofNat 6) = some (.b (grP (S.take i) x)) ∧ fr.get (K.ofNat 7) = some (.i .i64 (i : Int))
theorem f49_inner {Q : Ex → Fr → H → Prop} {h : H} {v : V} {S : List Int} {x : Int} {o : V}
    (hp : ∀ a b h P, CallP fs (.fn (K.ofNat 53) []) [.i .i64 a, .i .i64 b] h P = P (.b (ptI a b)) h)
    (hv : Sl iE h v S) (hS : S.length ≤ 1000000)
    (hq : ∀ fr, fr.get (K.ofNat 0) = some (v) ∧ fr.get (K.ofNat 3) = some (o) ∧ fr.get (K.ofNat 4) = some (.i .i64 x) ∧ fr.get (K.ofNat 5) = some (.b (inP S x)) ∧ fr.get (K.ofNat 6) = some (.b (grP S x)) → Q (.exit 2) fr h)
    {fr : Fr} (hg : fr.get (K.ofNat 0) = some (v) ∧ fr.get (K.ofNat 3) = some (o) ∧ fr.get (K.ofNat 4) = some (.i .i64 x) ∧ fr.get (K.ofNat 5) = some (.b false) ∧ fr.get (K.ofNat 6) = some (.b true) ∧ fr.get (K.ofNat 7) = some (.i .i64 0)) :
    W fs ro (.loop f49_l0) Q fr h := by
  refine W_loop (f49_I0 h v o S x) (fun i => S.length - i) ?_ 0 ⟨rfl, by omega, hg⟩
  clear hg fr
  rintro i fr h1 ⟨rfl, hi, g0, g3, g4, g5, g6, g7⟩
  unfold f49_l0
  simp (disch := omega) only [f49_r6, w_skip, w_reg, w_seq, w_cond, w_block, w_exit, seqK_n, seqK_e, loopK_e, ckB_b, cbB_b, true_and, x_nil, x_mv, x_bin, x_len, kx, rvP_ok, okv_some, ev_t, getV_some, putD_some, bin_lss, getK_set, Nat.reduceEqDiff, ↓reduceIte, decide_eq_true_eq, g0, g7, hv.len]
  split
  · rename_i hlt
    have hi' : i < S.length := by omega
    obtain ⟨p, hp1, hp2⟩ := hv.at i hi'
    have hinS := inP_snoc (x := x) hi'
    have hgrS := grP_snoc (x := x) hi'
    generalize inP (S.take i) x = bi at *
    generalize grP (S.take i) x = bg at *
    suffices ∀ fr, fr.get (K.ofNat 0) = some (v) ∧ fr.get (K.ofNat 3) = some (o) ∧ fr.get (K.ofNat 4) = some (.i .i64 x) ∧ fr.get (K.ofNat 5) = some (.b (inP (S.take (i + 1)) x)) ∧ fr.get (K.ofNat 6) = some (.b bg) ∧ fr.get (K.ofNat 7) = some (.i .i64 (i : Int)) → X fs f49_r8 (atK 3 (seqK (W fs ro (EC.reg f49_r9)) (loopK (f49_I0 h1 v o S x) (fun i => S.length - i) i Q)) Ex.normal) fr h1 by
      cases bi
      · simp (disch := omega) only [f49_r7, w_reg, seqK_n, okG_b, asG_f, true_and, x_nil, x_g, x_mv, x_as, x_pick, x_ld, x_bin, x_iads, kx, rvP_ok, okv_some, ev_t, ev_c, getV_some, putD_some, bin_eql, pick_b, getK_set, Nat.reduceEqDiff, ↓reduceIte, Bool.false_eq_true, Bool.not_false, g0, g4, g5, g7, hp1, hp2, iE]
        apply this; simp (disch := omega) only [getK_set, Nat.reduceEqDiff, ↓reduceIte, g0, g3, g4, g6, g7, hinS, Bool.false_or, and_self]
      · simp (disch := omega) only [f49_r7, w_reg, seqK_n, okG_b, asG_f, true_and, x_nil, x_g, x_mv, x_as, x_pick, kx, rvP_ok, ev_t, ev_c, getV_some, putD_some, pick_b, getK_set, Nat.reduceEqDiff, ↓reduceIte, Bool.false_eq_true, Bool.not_true, g5]
        apply this; simp (disch := omega) only [getK_set, Nat.reduceEqDiff, ↓reduceIte, g0, g3, g4, g6, g7, hinS, Bool.true_or, and_self]
    clear g0 g3 g4 g5 g6 g7 fr
    rintro fr ⟨g0, g3, g4, g5, g6, g7⟩
    have fin : ∀ fr, fr.get (K.ofNat 0) = some (v) ∧ fr.get (K.ofNat 3) = some (o) ∧ fr.get (K.ofNat 4) = some (.i .i64 x) ∧ fr.get (K.ofNat 5) = some (.b (inP (S.take (i + 1)) x)) ∧ fr.get (K.ofNat 6) = some (.b (grP (S.take (i + 1)) x)) ∧ fr.get (K.ofNat 7) = some (.i .i64 (i : Int)) → X fs f49_r9 (loopK (f49_I0 h1 v o S x) (fun i => S.length - i) i Q Ex.normal) fr h1 := by
      clear g0 g3 g4 g5 g6 g7 fr
      rintro fr ⟨g0, g3, g4, g5, g6, g7⟩
      simp (disch := omega) only [f49_r9, loopK_n, x_nil, x_mv, x_as, x_bin, kx, rvP_ok, okv_some, ev_t, ev_c, getV_some, putD_some, bin_add, of1, getK_set, ↓reduceIte, g7, fw64]
      refine ⟨i + 1, by omega, rfl, hi', ?_⟩
      simp (disch := omega) only [getK_set, Nat.reduceEqDiff, ↓reduceIte, g0, g3, g4, g5, g6, hinS, Int.natCast_add, Int.natCast_one, and_self]
    cases bg
    · simp (disch := omega) only [f49_r8, w_reg, seqK_n, atK_n, okG_b, okG_u, asG_t, asG_u, true_and, x_nil, x_g, x_mv, x_as, x_pick, kx, rvP_ok, ev_t, ev_c, getV_some, putD_some, pick_b, getK_set, Nat.reduceEqDiff, ↓reduceIte, Bool.false_eq_true, g6]
      apply fin; simp (disch := omega) only [getK_set, Nat.reduceEqDiff, ↓reduceIte, g0, g3, g4, g5, g7, hgrS, Bool.false_and, and_self]
    · by_cases hd : S[i] = x
      · simp (disch := omega) only [f49_r8, w_reg, seqK_n, atK_n, okG_b, asG_t, asG_f, true_and, x_nil, x_g, x_mv, x_as, x_pick, x_ld, x_bin, x_iads, kx, rvP_ok, okv_some, ev_t, ev_c, getV_some, putD_some, bin_eql, pick_b, getK_set, Nat.reduceEqDiff, ↓reduceIte, Bool.false_eq_true, Bool.not_true, g0, g4, g6, g7, hp1, hp2, iE, hd, decide_true]
        apply fin; simp (disch := omega) only [getK_set, Nat.reduceEqDiff, ↓reduceIte, g0, g3, g4, g5, g7, hgrS, hd, decide_true, Bool.true_and, Bool.true_or, and_self]
      · simp (disch := omega) only [f49_r8, w_reg, seqK_n, atK_n, okG_b, asG_t, asG_f, true_and, x_nil, x_g, x_mv, x_as, x_pick, x_ld, x_bin, x_not, x_iads, x_call, kx, rvP_ok, okv_some, ev_t, ev_c, evs_nil, evs_cons, getV_some, putD_some, bin_eql, pick_b, onB_b, getK_set, Nat.reduceEqDiff, ↓reduceIte, Bool.false_eq_true, Bool.not_false, g0, g4, g6, g7, hp1, hp2, hp, iE, hd, decide_false]
        apply fin; simp (disch := omega) only [getK_set, Nat.reduceEqDiff, ↓reduceIte, g0, g3, g4, g5, g7, hgrS, hd, decide_false, Bool.true_and, Bool.false_or, and_self]
  · rename_i hlt
    have hi' : i = S.length := by omega
    subst hi'
    rw [List.take_length] at g5 g6
    apply hq; simp (disch := omega) only [getK_set, Nat.reduceEqDiff, ↓reduceIte, g0, g3, g4, g5, g6, and_self]

noncomputable def piecesTo (S : List Int) (i : Nat) : List Int := ((List.range i).filter fun (k : Nat) => inP S (k : Int) && grP S (k : Int)).map fun (k : Nat) => (k : Int)
theorem piecesTo_succ {S : List Int} {i : Nat} : piecesTo S (i + 1) = if (inP S (i : Int) && grP S (i : Int)) = true then piecesTo S i ++ [(i : Int)] else piecesTo S i := by
  unfold piecesTo
  rw [List.range_succ, List.filter_append, List.map_append]
  cases h : (inP S (i : Int) && grP S (i : Int)) <;> simp [h]
theorem piecesTo_len {S : List Int} {i : Nat} : (piecesTo S i).length ≤ i := by
  unfold piecesTo; rw [List.length_map]
  exact Nat.le_trans (List.length_filter_le _ _) (by simp)
def f49_I1 (h : H) (v : V) (S : List Int) (i : Nat) (fr : Fr) (h1 : H) : Prop := ∃ o, i ≤ 64 ∧ Sl iE h1 o (piecesTo S i) ∧ Own h.nx.nat o ∧ Grow h.nx.nat h h1 ∧ fr.get (K.ofNat 0) = some (v) ∧ fr.get (K.ofNat 3) = some (o) ∧ fr.get (K.ofNat 4) = some (.i .i64 (i : Int))
theorem f49_ret {h : H} {v : V} {S : List Int}
    (hp : ∀ a b h P, CallP fs (.fn (K.ofNat 53) []) [.i .i64 a, .i .i64 b] h P = P (.b (ptI a b)) h)
    (hv : Sl iE h v S) (hS : S.length ≤ 1000000) (hc : HC h) : Ret fs f49 [v] h fun u h' => Sl iE h' u (piecesTo S 64) ∧ Own h.nx.nat u ∧ Grow h.nx.nat h h' := by
  apply ret_of rfl
  show W fs none f49_c _ _ _
  unfold f49_c
  simp (disch := omega) only [f49_r0, f49_r1, f49_r2, w_reg, w_seq, w_block, seqK_n, x_nil, x_as, ev_c, putD_some, frame_1, of0]
  refine W_loop (f49_I1 h v S) (fun i => 64 - i) ?_ 0 ⟨.sn, by omega, Sl.nil, Own.sn, Grow.refl _ _, by simp (disch := omega) only [getK_set, Nat.reduceEqDiff, ↓reduceIte, and_self, Int.natCast_zero]⟩
  rintro i fr h1 ⟨o, hi, hso, hoo, hgr, g0, g3, g4⟩
  have hc1 := hgr.hc hc
  have hv1 := hv.grow hc hgr
  unfold f49_l1
  simp (disch := omega) only [f49_r3, w_skip, w_reg, w_seq, w_cond, w_block, w_exit, seqK_n, seqK_e, atK_e, loopK_e, ckB_b, cbB_b, true_and, x_nil, x_mv, x_bin, kx, rvP_ok, okv_some, ev_t, ev_c, getV_some, putD_some, bin_lss, of64, getK_set, ↓reduceIte, decide_eq_true_eq, g4]
  split
  · rename_i hlt
    simp (disch := omega) only [f49_r4, f49_r5, w_reg, w_seq, w_block, seqK_n, x_nil, x_as, ev_c, putD_some, of0]
    refine f49_inner hp hv1 hS (x := i) (o := o) ?_ (by simp (disch := omega) only [getK_set, Nat.reduceEqDiff, ↓reduceIte, g0, g3, g4, and_self])
    clear g0 g3 g4 fr
    rintro fr ⟨g0, g3, g4, g5, g6⟩
    have fin : ∀ fr h2 o2, Sl iE h2 o2 (piecesTo S (i + 1)) → Own h.nx.nat o2 → Grow h.nx.nat h h2 → fr.get (K.ofNat 0) = some (v) ∧ fr.get (K.ofNat 3) = some (o2) ∧ fr.get (K.ofNat 4) = some (.i .i64 (i : Int)) → X fs f49_r12 (loopK (f49_I1 h v S) (fun i => 64 - i) i (atK 0 (seqK (W fs none (EC.seq (EC.reg f49_r13) EC.ret)) (retK f49 fun u h' => Sl iE h' u (piecesTo S 64) ∧ Own h.nx.nat u ∧ Grow h.nx.nat h h'))) Ex.normal) fr h2 := by
      clear g0 g3 g4 g5 g6 fr
      rintro fr h2 o2 q1 q2 q3 ⟨g0, g3, g4⟩
      simp (disch := omega) only [f49_r12, loopK_n, x_nil, x_mv, x_as, x_bin, kx, rvP_ok, okv_some, ev_t, ev_c, getV_some, putD_some, bin_add, of1, getK_set, ↓reduceIte, g4, fw64]
      exact ⟨i + 1, by omega, o2, by omega, q1, q2, q3, by simp (disch := omega) only [getK_set, Nat.reduceEqDiff, ↓reduceIte, g0, g3, Int.natCast_add, Int.natCast_one, and_self]⟩
    cases hin : inP S i <;> cases hgd : grP S i <;> rw [hin] at g5 <;> rw [hgd] at g6
    · simp (disch := omega) only [f49_r10, w_skip, w_reg, w_seq, w_cond, seqK_n, atK_n, atK_e, ckB_b, cbB_b, okG_b, asG_t, true_and, x_nil, x_g, x_mv, x_pick, kx, rvP_ok, ev_t, ev_c, getV_some, putD_some, pick_b, getK_set, Nat.reduceEqDiff, ↓reduceIte, Bool.false_eq_true, g5]
      exact fin _ _ o (by rw [piecesTo_succ, hin]; exact hso) hoo hgr (by simp (disch := omega) only [getK_set, Nat.reduceEqDiff, ↓reduceIte, g0, g3, g4, and_self])
    · simp (disch := omega) only [f49_r10, w_skip, w_reg, w_seq, w_cond, seqK_n, atK_n, atK_e, ckB_b, cbB_b, okG_b, asG_t, true_and, x_nil, x_g, x_mv, x_pick, kx, rvP_ok, ev_t, ev_c, getV_some, putD_some, pick_b, getK_set, Nat.reduceEqDiff, ↓reduceIte, Bool.false_eq_true, g5]
      exact fin _ _ o (by rw [piecesTo_succ, hin]; exact hso) hoo hgr (by simp (disch := omega) only [getK_set, Nat.reduceEqDiff, ↓reduceIte, g0, g3, g4, and_self])
    · simp (disch := omega) only [f49_r10, w_skip, w_reg, w_seq, w_cond, seqK_n, atK_n, atK_e, ckB_b, cbB_b, okG_b, asG_t, true_and, x_nil, x_g, x_mv, x_pick, kx, rvP_ok, ev_t, ev_c, getV_some, putD_some, pick_b, getK_set, Nat.reduceEqDiff, ↓reduceIte, Bool.false_eq_true, g5, g6]
      exact fin _ _ o (by rw [piecesTo_succ, hgd, Bool.and_false]; exact hso) hoo hgr (by simp (disch := omega) only [getK_set, Nat.reduceEqDiff, ↓reduceIte, g0, g3, g4, and_self])
    · obtain ⟨v', h', p1, p2, p3, p4, p5⟩ := Sl.push (L := piecesTo S i) (x := (i : Int)) (c := .i .i64 i) rfl hso hoo hgr.nx hc1 (by have := piecesTo_len (S := S) (i := i); omega)
      simp (disch := omega) only [f49_r10, f49_r11, w_reg, w_seq, w_cond, seqK_n, atK_n, atK_e, ckB_b, cbB_b, okG_b, asG_t, true_and, x_nil, x_g, x_mv, x_as, x_pick, x_bslice, x_app, kx, rvP_ok, ev_t, ev_c, getV_some, putD_some, pick_b, oGet_s, cells1_i, fill_1, set_1, of0, getK_set, Nat.reduceEqDiff, ↓reduceIte, g3, g4, g5, g6, p1]
      exact fin _ _ v' (by rw [piecesTo_succ, hin, hgd]; exact p2) p3 (hgr.trans p4) (by simp (disch := omega) only [getK_set, Nat.reduceEqDiff, ↓reduceIte, g0, g4, and_self])
  · rename_i hlt
    obtain rfl : i = 64 := by omega
    simp (disch := omega) only [f49_r13, f49_rs, w_ret, seqK_n, retK_r, x_nil, x_mv, x_as, ev_t, getV_some, putD_some, oGet_s, readRs_nil, readRs_t, retV_1, Option.some.injEq, exists_eq_left', getK_set, Nat.reduceEqDiff, ↓reduceIte, g3]
    exact ⟨hso, hoo, hgr⟩
end
end Go.Ev
namespace Go.Ev
open Go Go.RowKit
noncomputable def f55_r0 : List EOper := [⟨(some (K.ofNat 2)), none, .alloc 64 (List.replicate 64 (.b false))⟩]
noncomputable def f55_r1 : List EOper := [⟨(some (K.ofNat 3)), none, .alloc 64 (List.replicate 64 (.b false))⟩]
noncomputable def f55_r2 : List EOper := [⟨(some (K.ofNat 7)), none, .mv (.c (.i .i64 (.ofNat 0)))⟩]
noncomputable def f55_r3 : List EOper := [⟨(some (K.ofNat 8)), none, .bin .lss (.t (K.ofNat 7)) (.c (.i .i64 (.ofNat 64)))⟩]
noncomputable def f55_r4 : List EOper := [⟨(some (K.ofNat 9)), none, .mv (.t (K.ofNat 7))⟩, ⟨(some (K.ofNat 4)), none, .as (.t (K.ofNat 9))⟩]
noncomputable def f55_r5 : List EOper := [⟨(some (K.ofNat 10)), none, .mv (.t (K.ofNat 0))⟩, ⟨(some (K.ofNat 11)), none, .len (.t (K.ofNat 10))⟩, ⟨(some (K.ofNat 12)), none, .mv (.c (.i .i64 (.ofNat 0)))⟩]
noncomputable def f55_r6 : List EOper := [⟨(some (K.ofNat 13)), none, .bin .lss (.t (K.ofNat 12)) (.t (K.ofNat 11))⟩]
noncomputable def f55_r7 : List EOper := [⟨(some (K.ofNat 14)), none, .iads 1 (.t (K.ofNat 10)) (.t (K.ofNat 12))⟩, ⟨(some (K.ofNat 15)), none, .ld (.t (K.ofNat 14))⟩, ⟨(some (K.ofNat 6)), none, .as (.t (K.ofNat 15))⟩]
noncomputable def f55_r8 : List EOper := [⟨(some (K.ofNat 16)), none, .mv (.t (K.ofNat 4))⟩, ⟨(some (K.ofNat 17)), none, .mv (.t (K.ofNat 4))⟩, ⟨(some (K.ofNat 18)), none, .iadr 64 1 (.t (K.ofNat 3)) (.t (K.ofNat 17))⟩, ⟨(some (K.ofNat 19)), none, .ld (.t (K.ofNat 18))⟩, ⟨(some (K.ofNat 20)), none, .mv (.t (K.ofNat 19))⟩, ⟨(some (K.ofNat 21)), (some ((K.ofNat 20), false)), .mv (.t (K.ofNat 4))⟩, ⟨(some (K.ofNat 22)), (some ((K.ofNat 20), false)), .mv (.t (K.ofNat 6))⟩, ⟨(some (K.ofNat 23)), (some ((K.ofNat 20), false)), .call (.c (.fn (K.ofNat 54) [])) [(.t (K.ofNat 21)), (.t (K.ofNat 22))]⟩, ⟨(some (K.ofNat 24)), none, .pick (.t (K.ofNat 20)) (.c (.b true)) (.t (K.ofNat 23))⟩, ⟨(some (K.ofNat 25)), none, .iadr 64 1 (.t (K.ofNat 3)) (.t (K.ofNat 16))⟩, ⟨none, none, .st 1 (.t (K.ofNat 25)) (.t (K.ofNat 24))⟩]
noncomputable def f55_r9 : List EOper := [⟨(some (K.ofNat 26)), none, .bin .add (.t (K.ofNat 12)) (.c (.i .i64 (.ofNat 1)))⟩, ⟨(some (K.ofNat 12)), none, .mv (.t (K.ofNat 26))⟩]
noncomputable def f55_l0 : EC := (.seq (.reg f55_r6) (.seq (.cond (.t (K.ofNat 13)) .skip (.exit 2)) (.seq (.block 3 (.seq (.reg f55_r7) (.reg f55_r8))) (.reg f55_r9))))
noncomputable def f55_r10 : List EOper := [⟨(some (K.ofNat 27)), none, .bin .add (.t (K.ofNat 7)) (.c (.i .i64 (.ofNat 1)))⟩, ⟨(some (K.ofNat 7)), none, .mv (.t (K.ofNat 27))⟩]
noncomputable def f55_l1 : EC := (.seq (.reg f55_r3) (.seq (.cond (.t (K.ofNat 8)) .skip (.exit 0)) (.seq (.block 1 (.seq (.reg f55_r4) (.seq (.reg f55_r5) (.block 2 (.loop f55_l0))))) (.reg f55_r10))))
noncomputable def f55_r11 : List EOper := [⟨(some (K.ofNat 28)), none, .ldn 64 (.t (K.ofNat 3))⟩, ⟨none, none, .st 64 (.t (K.ofNat 2)) (.t (K.ofNat 28))⟩]
noncomputable def f55_c : EC := (.seq (.reg f55_r0) (.seq (.reg f55_r1) (.seq (.seq (.reg f55_r2) (.block 0 (.loop f55_l1))) (.seq (.reg f55_r11) .ret))))
noncomputable def f55 : EF := ⟨29, [.celln (K.ofNat 2) 64], f55_c, none⟩
theorem f55_rs : f55.rs = [.celln (K.ofNat 2) 64] := of_eq_true (eq_self _)
section
variable {fs : T EF} {ro : Option K}
noncomputable def famB (S : List Int) (i : Nat) : Bool := S.any fun s => ptI (i : Int) s
theorem any_snoc {S : List Int} {p : Int → Bool} {j : Nat} (hj : j < S.length) : (S.take (j + 1)).any p = ((S.take j).any p || p S[j]) := by
  rw [List.take_succ_eq_append_getElem hj, List.any_append]; simp
/-- What has been filled in before the set i's j-th piece. -/
noncomputable def famF (S : List Int) (i j : Nat) (k : Nat) : Bool := if k = i then (S.take j).any (fun s => ptI (i : Int) s) else decide (k < i) && famB S k
def f55_I0 (h : H) (v : V) (S : List Int) (id2 id : K) (i : Nat) (j : Nat) (fr : Fr) (h1 : H) : Prop := j ≤ S.length ∧ Grow h.nx.nat h h1 ∧ Ar V.b h1 id (arr (famF S i j) 64) ∧ h1.get id2 = .cells 64 (List.replicate 64 (.b false)) ∧ id2.nat < h1.nx.nat ∧ id.nat < h1.nx.nat ∧ fr.get (K.ofNat 0) = some (v) ∧ fr.get (K.ofNat 2) = some (.p id2 0) ∧ fr.get (K.ofNat 3) = some (.p id 0) ∧ fr.get (K.ofNat 4) = some (.i .i64 (i : Int)) ∧ fr.get (K.ofNat 7) = some (.i .i64 (i : Int)) ∧ fr.get (K.ofNat 10) = some (v) ∧ fr.get (K.ofNat 11) = some (.i .i64 (S.length : Int)) ∧ fr.get (K.ofNat 12) = some (.i .i64 (j : Int))
def f55_I1 (h : H) (v : V) (S : List Int) (id2 id : K) (i : Nat) (fr : Fr) (h1 : H) : Prop := i ≤ 64 ∧ Grow h.nx.nat h h1 ∧ Ar V.b h1 id (arr (famF S i 0) 64) ∧ h1.get id2 = .cells 64 (List.replicate 64 (.b false)) ∧ id2.nat < h1.nx.nat ∧ id.nat < h1.nx.nat ∧ fr.get (K.ofNat 0) = some (v) ∧ fr.get (K.ofNat 2) = some (.p id2 0) ∧ fr.get (K.ofNat 3) = some (.p id 0) ∧ fr.get (K.ofNat 7) = some (.i .i64 (i : Int))
theorem f55_inner {Q : Ex → Fr → H → Prop} {h h1 : H} {v : V} {S : List Int} {id2 id : K} {i : Nat} {fr : Fr}
    (hp : ∀ a b h P, CallP fs (.fn (K.ofNat 54) []) [.i .i64 a, .i .i64 b] h P = P (.b (ptI a b)) h) (hv : Sl iE h v S) (hc : HC h) (hS : S.length ≤ 1000000)
    (hid : h.nx.nat ≤ id.nat) (hne : id2 ≠ id) (hi : i < 64)
    (hI : f55_I0 h v S id2 id i 0 fr h1) (hq : ∀ fr h1, f55_I0 h v S id2 id i S.length fr h1 → Q (.exit 2) fr h1) : W fs ro (.loop f55_l0) Q fr h1 := by
  refine W_loop (f55_I0 h v S id2 id i) (fun j => S.length - j) ?_ 0 hI
  clear hI fr h1
  rintro j fr h1 hI
  obtain ⟨hj, hgr, har, h2c, h2l, hl, g0, g2, g3, g4, g7, g10, g11, g12⟩ := hI
  have hv1 := hv.grow hc hgr
  unfold f55_l0
  simp (disch := omega) only [f55_r6, w_skip, w_reg, w_seq, w_cond, w_block, w_exit, seqK_n, seqK_e, loopK_e, ckB_b, cbB_b, true_and, x_nil, x_bin, kx, rvP_ok, okv_some, ev_t, getV_some, putD_some, bin_lss, getK_set, ↓reduceIte, decide_eq_true_eq, g11, g12]
  split
  · rename_i hlt
    have hj' : j < S.length := by omega
    obtain ⟨p, hp1, hp2⟩ := hv1.at j hj'
    have hld := har.ld (i := i) (by rw [arr_len]; exact hi)
    rw [arr_at, show famF S i j i = (S.take j).any (fun s => ptI (i : Int) s) by simp [famF]] at hld
    have hs := any_snoc (p := fun s => ptI (i : Int) s) hj'
    obtain ⟨st1, st2⟩ := har.st (i := i) (x := (S.take (j + 1)).any (fun s => ptI (i : Int) s)) (c := .b ((S.take (j + 1)).any (fun s => ptI (i : Int) s))) (by rw [arr_len]; exact hi) rfl rfl
    have hF : (arr (famF S i j) 64).set i ((S.take (j + 1)).any fun s => ptI (i : Int) s) = arr (famF S i (j + 1)) 64 := by
      rw [arr_set]; apply arr_congr; intro k _; unfold famF; by_cases e : k = i <;> simp [e]
    rw [hF, arr_len] at st1 st2
    generalize hb : (S.take j).any (fun s => ptI (i : Int) s) = b at hld hs
    have fin : ∀ fr h3, h3 = h1.put id (.cells 64 ((arr (famF S i (j + 1)) 64).map V.b)) → fr.get (K.ofNat 0) = some (v) ∧ fr.get (K.ofNat 2) = some (.p id2 0) ∧ fr.get (K.ofNat 3) = some (.p id 0) ∧ fr.get (K.ofNat 4) = some (.i .i64 (i : Int)) ∧ fr.get (K.ofNat 7) = some (.i .i64 (i : Int)) ∧ fr.get (K.ofNat 10) = some (v) ∧ fr.get (K.ofNat 11) = some (.i .i64 (S.length : Int)) ∧ fr.get (K.ofNat 12) = some (.i .i64 (j : Int)) →
        X fs f55_r9 (loopK (f55_I0 h v S id2 id i) (fun j => S.length - j) j Q Ex.normal) fr h3 := by
      clear g0 g2 g3 g4 g7 g10 g11 g12 fr
      rintro fr h3 rfl ⟨g0, g2, g3, g4, g7, g10, g11, g12⟩
      simp (disch := omega) only [f55_r9, loopK_n, x_nil, x_mv, x_bin, kx, rvP_ok, okv_some, ev_t, ev_c, getV_some, putD_some, bin_add, of1, getK_set, ↓reduceIte, g12, fw64]
      refine ⟨j + 1, by omega, hj', hgr.trans (Grow.put hid hl _), st2, by rw [get_put_other hne]; exact h2c, h2l, hl, ?_⟩
      simp (disch := omega) only [getK_set, Nat.reduceEqDiff, ↓reduceIte, g0, g2, g3, g4, g7, g10, g11, Int.natCast_add, Int.natCast_one, and_self]
    cases b
    · rw [Bool.false_or] at hs; rw [hs] at st1
      simp (disch := omega) only [f55_r7, f55_r8, w_reg, seqK_n, atK_n, okG_b, asG_f, true_and, x_nil, x_g, x_mv, x_as, x_pick, x_ld, x_st, x_iadr, x_iads, x_call, kx, rvP_ok, ev_t, ev_c, evs_nil, evs_cons, getV_some, putD_some, putD_none, pick_b, onP_p, idx_n, getK_set, Nat.reduceEqDiff, ↓reduceIte, Bool.false_eq_true, Bool.not_false, g3, g4, g10, g12, hp1, hp2, hp, hld, iE, st1]
      exact fin _ _ rfl (by simp (disch := omega) only [getK_set, Nat.reduceEqDiff, ↓reduceIte, g0, g2, g3, g4, g7, g10, g11, g12, and_self])
    · rw [Bool.true_or] at hs; rw [hs] at st1
      simp (disch := omega) only [f55_r7, f55_r8, w_reg, seqK_n, atK_n, okG_b, asG_f, true_and, x_nil, x_g, x_mv, x_as, x_pick, x_ld, x_st, x_iadr, x_iads, kx, rvP_ok, ev_t, ev_c, getV_some, putD_some, putD_none, pick_b, onP_p, idx_n, getK_set, Nat.reduceEqDiff, ↓reduceIte, Bool.false_eq_true, Bool.not_true, g3, g4, g10, g12, hp1, hp2, hld, iE, st1]
      exact fin _ _ rfl (by simp (disch := omega) only [getK_set, Nat.reduceEqDiff, ↓reduceIte, g0, g2, g3, g4, g7, g10, g11, g12, and_self])
  · rename_i hlt
    obtain rfl : j = S.length := by omega
    exact hq _ _ ⟨Nat.le_refl _, hgr, har, h2c, h2l, hl, by simp (disch := omega) only [getK_set, Nat.reduceEqDiff, ↓reduceIte, g0, g2, g3, g4, g7, g10, g11, g12, and_self]⟩
/-- The family of all parts of the sets. -/
theorem f55_ret {h : H} {v : V} {S : List Int} (hp : ∀ a b h P, CallP fs (.fn (K.ofNat 54) []) [.i .i64 a, .i .i64 b] h P = P (.b (ptI a b)) h) (hv : Sl iE h v S) (hc : HC h) (hS : S.length ≤ 1000000) :
    Ret fs f55 [v] h fun u h' => u = .agg ((arr (famB S) 64).map V.b) ∧ Grow h.nx.nat h h' := by
  apply ret_of rfl
  show W fs none f55_c _ _ _
  unfold f55_c
  simp (disch := omega) only [f55_r0, f55_r1, f55_r2, w_reg, w_seq, w_block, seqK_n, x_nil, x_mv, x_alloc, ev_c, putD_some, frame_1, of0]
  have n1 := nx_new h (.cells 64 (List.replicate 64 (.b false)))
  have n2 := nx_new (h.new (.cells 64 (List.replicate 64 (.b false)))) (.cells 64 (List.replicate 64 (.b false)))
  have hne : h.nx ≠ (h.new (.cells 64 (List.replicate 64 (.b false)))).nx := fun e => by rw [← e] at n1; omega
  have hg2 : Grow h.nx.nat h ((h.new (.cells 64 (List.replicate 64 (.b false)))).new (.cells 64 (List.replicate 64 (.b false)))) := (Grow.new (Nat.le_refl _) _).trans (Grow.new (by omega) _)
  refine W_loop (f55_I1 h v S h.nx (h.new (.cells 64 (List.replicate 64 (.b false)))).nx) (fun i => 64 - i) ?_ 0 ⟨by omega, hg2, ?_, ?_, by omega, by omega, by simp (disch := omega) only [getK_set, Nat.reduceEqDiff, ↓reduceIte, and_self, Int.natCast_zero]⟩
  · generalize hid : (h.new (.cells 64 (List.replicate 64 (.b false)))).nx = id at *
    rintro i fr h1 ⟨hi, hgr, har, h2c, h2l, hl, g0, g2, g3, g7⟩
    have hv1 := hv.grow hc hgr
    unfold f55_l1
    simp (disch := omega) only [f55_r3, w_skip, w_reg, w_seq, w_cond, w_block, w_exit, seqK_n, seqK_e, atK_e, loopK_e, ckB_b, cbB_b, true_and, x_nil, x_bin, kx, rvP_ok, okv_some, ev_t, ev_c, getV_some, putD_some, bin_lss, of64, getK_set, ↓reduceIte, decide_eq_true_eq, g7]
    split
    · rename_i hlt
      have hi' : i < 64 := by omega
      simp (disch := omega) only [f55_r4, f55_r5, w_reg, w_seq, w_block, seqK_n, x_nil, x_mv, x_as, x_len, kx, rvP_ok, ev_t, ev_c, getV_some, putD_some, of0, getK_set, Nat.reduceEqDiff, ↓reduceIte, g0, g7, hv1.len]
      refine f55_inner (i := i) (id2 := h.nx) (id := id) (h := h) hp hv hc hS (by omega) hne hi' ⟨by omega, hgr, har, h2c, h2l, hl, by simp (disch := omega) only [getK_set, Nat.reduceEqDiff, ↓reduceIte, g0, g2, g3, g7, and_self, Int.natCast_zero]⟩ ?_
      clear g0 g2 g3 g7 har hgr h2c h2l hl hv1 fr h1
      rintro fr h1 ⟨hj, hgr, har, h2c, h2l, hl, g0, g2, g3, g4, g7, g10, g11, g12⟩
      simp (disch := omega) only [f55_r10, w_reg, seqK_n, atK_n, atK_e, loopK_n, x_nil, x_mv, x_bin, kx, rvP_ok, okv_some, ev_t, ev_c, getV_some, putD_some, bin_add, of1, getK_set, ↓reduceIte, g7, fw64]
      refine ⟨i + 1, by omega, by omega, hgr, ?_, h2c, h2l, hl, by simp (disch := omega) only [getK_set, Nat.reduceEqDiff, ↓reduceIte, g0, g2, g3, and_self, Int.natCast_add, Int.natCast_one]⟩
      rw [show arr (famF S (i + 1) 0) 64 = arr (famF S i S.length) 64 from arr_congr fun k hk => ?_]
      · exact har
      · unfold famF
        rw [List.take_length, List.take_zero]
        by_cases e1 : k = i
        · subst e1; simp [famB]
        · by_cases e2 : k = i + 1
          · subst e2; simp; intro h; omega
          · have e3 : decide (k < i + 1) = decide (k < i) := by simp; omega
            simp [e1, e2, e3]
    · rename_i hlt
      obtain rfl : i = 64 := by omega
      have hA : arr (famF S 64 0) 64 = arr (famB S) 64 := arr_congr fun k hk => by
        unfold famF
        rw [if_neg (by omega)]; simp [hk]
      rw [hA] at har
      have hx : storeV h1 64 (.p h.nx 0) (.agg ((arr (famB S) 64).map V.b)) = .ok undefV (h1.put h.nx (.cells 64 (setMany (List.replicate 64 (.b false)) 0 ((arr (famB S) 64).map V.b)))) := by
        refine store_p h2c ?_ (by omega)
        show (bif Nat.beq (lenL ((arr (famB S) 64).map V.b)) 64 then some _ else none) = _
        rw [lenL_eq, List.length_map, arr_len]; rfl
      have hs : setMany (List.replicate 64 (V.b false)) 0 ((arr (famB S) 64).map V.b) = (arr (famB S) 64).map V.b := by
        rw [setMany_eq _ _ _ (by simp [arr_len])]
        simp [arr_len]
      rw [hs] at hx
      have hr : readP (h1.put h.nx (.cells 64 ((arr (famB S) 64).map V.b))) (.p h.nx 0) (many? 64) = some (.agg ((arr (famB S) 64).map V.b)) := by
        show ((h1.put h.nx (.cells 64 ((arr (famB S) 64).map V.b))).get h.nx).onC none (fun n cs => many? 64 cs n 0) = _
        rw [get_put_same]
        show (bif Nat.ble (0 + 64) 64 then some (V.agg (takeN 64 (dropN 0 ((arr (famB S) 64).map V.b)))) else none) = _
        rw [takeN_eq, dropN_eq, List.drop_zero, List.take_of_length_le (by simp [arr_len])]; rfl
      simp (disch := omega) only [f55_r11, f55_rs, w_ret, seqK_n, true_and, retK_r, x_nil, x_ldn, x_st, kx, rvP_ok, ev_t, getV_some, putD_some, putD_none, oGet_s, readRs_nil, readRs_n, retV_1, Option.some.injEq, exists_eq_left', getK_set, Nat.reduceEqDiff, ↓reduceIte, g2, g3, har.ldn (n := 64) (by rw [arr_len]), hx, hr]
      exact hgr.trans (Grow.put (Nat.le_refl _) h2l _)
  · show H.get _ _ = _
    rw [get_new_same, arr_len]
    congr 1
  · rw [get_new_old (by omega), get_new_same]
end
end Go.Ev
namespace Go.Ev
open Go Go.RowKit
noncomputable def f78_r0 : List EOper := [⟨(some (K.ofNat 1)), none, .box 64 (.t (K.ofNat 0))⟩, ⟨(some (K.ofNat 2)), none, .as (.c .fnil)⟩]
noncomputable def f78_r1 : List EOper := [⟨(some (K.ofNat 3)), none, .mkfn (K.ofNat 91) [(.t (K.ofNat 1))]⟩, ⟨(some (K.ofNat 2)), none, .as (.t (K.ofNat 3))⟩]
noncomputable def f78_c : EC := (.seq (.reg f78_r0) (.seq (.reg f78_r1) .ret))
noncomputable def f78 : EF := ⟨4, [.tmp (K.ofNat 2)], f78_c, none⟩
theorem f78_rs : f78.rs = [.tmp (K.ofNat 2)] := of_eq_true (eq_self _)
section
variable {fs : T EF} {ro : Option K}
theorem cells64 {cs : List V} (hl : cs.length = 64) : cellsN 64 (.agg cs) = some cs := by
  show (bif Nat.beq (lenL cs) 64 then some cs else none) = _
  rw [lenL_eq, hl]; rfl
theorem f78_ret {h : H} {cs : List V} (hl : cs.length = 64) : Ret fs f78 [.agg cs] h fun u h' => u = .fn (K.ofNat 91) [.p h.nx 0] ∧ h' = h.new (.cells 64 cs) := by
  apply ret_of rfl
  show W fs none f78_c _ _ _
  unfold f78_c
  simp (disch := omega) only [f78_r0, f78_r1, f78_rs, w_reg, w_seq, w_ret, seqK_n, retK_r, x_nil, x_as, x_box, x_mkfn, kx, rvP_ok, ev_t, ev_c, evs_nil, evs_cons, getV_some, putD_some, oGet_s, readRs_nil, readRs_t, retV_1, frame_1, Option.some.injEq, exists_eq_left', getK_set, Nat.reduceEqDiff, ↓reduceIte, cells64 hl, and_self]
def boolV (B : Nat → Bool) : List V := (arr B 64).map V.b
theorem boolV_len {B : Nat → Bool} : (boolV B).length = 64 := by unfold boolV; rw [List.length_map, arr_len]
theorem boolV_at {B : Nat → Bool} : ∀ i, i < 64 → nth (boolV B) i = some (.b (B i)) := fun i hi => by rw [nth_eq]; simp [boolV, arr, hi]
def mem64 (B : Nat → Bool) : List Nat := (List.range 64).filter B
noncomputable def isTop (B : Nat → Bool) (x : Nat) : Bool := (mem64 B).all fun y => !(decide ((y : Int) ≠ (x : Int)) && ptI (x : Int) (y : Int))
noncomputable def topsTo (B : Nat → Bool) (i : Nat) : List Int := (((mem64 B).take i).filter (isTop B)).map fun (k : Nat) => (k : Int)
theorem mem64_len {B : Nat → Bool} : (mem64 B).length ≤ 64 := Nat.le_trans (List.length_filter_le _ _) (by simp)
def ysOf (B : Nat → Bool) : List V := (mem64 B).map fun (i : Nat) => V.i .i64 (i : Int)
theorem ysOf_len {B : Nat → Bool} : (ysOf B).length = (mem64 B).length := by simp [ysOf]
theorem ysOf_at {B : Nat → Bool} {i : Nat} (hi : i < (ysOf B).length) : (ysOf B)[i] = .i .i64 ((mem64 B)[i]'(by rw [← ysOf_len]; exact hi) : Int) := by simp [ysOf]

section
variable {b : Nat} {h h1 h2 : H} {B : Nat → Bool} {id1 id3 idf idl : K} {o o' : V} {L L' : List Int} {lb : Blk}
end
end
end Go.Ev
namespace Go.Ev
open Go Go.RowKit
section
variable {fs : T EF} {ro : Option K}
theorem shl_n {n : Int} (h1 : 1 ≤ n) (h6 : n ≤ 6) : fw .i64 (1 * 2 ^ (min n.toNat IntKind.i64.bits)) = 2 ^ n.toNat := by
  have : n = 1 ∨ n = 2 ∨ n = 3 ∨ n = 4 ∨ n = 5 ∨ n = 6 := by omega
  rcases this with rfl | rfl | rfl | rfl | rfl | rfl <;> rfl
theorem all_snoc {S : List Int} {p : Int → Bool} {j : Nat} (hj : j < S.length) : (S.take (j + 1)).all p = ((S.take j).all p && p S[j]) := by
  rw [List.take_succ_eq_append_getElem hj, List.all_append]; simp
end
end Go.Ev
namespace Go.Ev
open Go Go.RowKit
section
variable {fs : T EF} {ro : Option K}
theorem shlu_n {n : Int} (h1 : 1 ≤ n) (h6 : n ≤ 6) : fw .u64 (1 * 2 ^ (min n.toNat IntKind.u64.bits)) = 2 ^ n.toNat := by
  have : n = 1 ∨ n = 2 ∨ n = 3 ∨ n = 4 ∨ n = 5 ∨ n = 6 := by omega
  rcases this with rfl | rfl | rfl | rfl | rfl | rfl <;> rfl
end
end Go.Ev
