/-
  The evaluator, weakest preconditions: more that stays; memory of which a few blocks differ; pairs.
  Functions of the seat: isHollow, without, isCorner, collapseAt.
  Functions of the seat: collapseAt.
  What is true of collapses: one after another, down to a corner.
  The state of the search for collapses: its boxes, its slice of pairs, its map.
  Functions of the seat: the search for collapses (findCollapses's closure).
  Functions of the seat: findCollapses, Collapse; collapsed and Left of no collapses.
-/
import Derived.Test.YtneacehpoaambaaPd
import Derived.Test.YtneacehpoaambaaPf
import Derived.Test.YtneacehpoaambaaPe
namespace Go.Ev
open Go Go.RowKit
section
variable {fs : T EF} {fr : Fr} {h h1 h2 : H} {x y : EO} {k : K}
theorem stay_fadr {o : Nat} : (stays fs goNo fr h ⟨some k, none, .fadr o x⟩ = true) = again ((ev fr x).onP fun id p => .ok (.p id (p + o)) h) (getV (fr.get k)) := chk_again
theorem stay_build {zs : List V} {ps : List (Nat × Nat × EO)} : (stays fs goNo fr h ⟨some k, none, .build zs ps⟩ = true) = again (oGet (fillE fr zs ps) .no fun cs => .ok (.agg cs) h) (getV (fr.get k)) := chk_again
theorem stay_eqk {kd : KD} {b : Bool} : (stays fs goNo fr h ⟨some k, none, .eqk kd b x y⟩ = true) = again (okv (oGet (keyEq kd (ev fr x) (ev fr y)) none fun r => some (.b (bif b then !r else r))) h) (getV (fr.get k)) := chk_again
theorem fill_0 {zs : List V} : fillE fr zs [] = some zs := of_eq_true (eq_self _)
theorem inR_n {m : Nat} (hm : m ≤ 1000000) : inR .i64 (m : Int) = true := Nat.ble_eq_true_of_le (show m ≤ 9223372036854775807 by omega)
theorem cells2 {a b : V} : cellsN 2 (.agg [a, b]) = some [a, b] := of_eq_true (eq_self _)
theorem ldn2 {id : K} {a b : V} (hb : h.get id = .cells 2 [a, b]) : loadV h (.p id 0) (many? 2) = .ok (.agg [a, b]) h := by
  rw [loadn_p hb (by omega)]; rfl
theorem ld20 {id : K} {a b : V} (hb : h.get id = .cells 2 [a, b]) : loadV h (.p id 0) one? = .ok a h := load_p hb rfl
theorem ld21 {id : K} {a b : V} (hb : h.get id = .cells 2 [a, b]) : loadV h (.p id 1) one? = .ok b h := load_p hb rfl
theorem st2 {id : K} {a b c d : V} (hb : h.get id = .cells 2 [a, b]) : storeV h 2 (.p id 0) (.agg [c, d]) = .ok undefV (h.put id (.cells 2 [c, d])) := by
  rw [store_p hb cells2 (by omega)]; rfl
theorem st1 {id : K} {a c : V} (hb : h.get id = .cells 1 [a]) (hc : cellsN 1 c = some [c]) : storeV h 1 (.p id 0) c = .ok undefV (h.put id (.cells 1 [c])) := by
  rw [store_p hb hc (by omega)]; rfl
theorem ck_i {x y : Int} (hx : inR .i64 x = true) (hy : inR .i64 y = true) : ckEq (some .i64) (.i .i64 x) (.i .i64 y) = some (ieq x y) := by
  show (bif (IntKind.i64 == IntKind.i64 && IntKind.i64 == IntKind.i64) && (inR .i64 x && inR .i64 y) then some (ieq x y) else none) = _
  rw [hx, hy]; rfl
theorem keyEq_2 {a b c d : Int} (ha : inR .i64 a = true) (hb : inR .i64 b = true) (hc : inR .i64 c = true) (hd : inR .i64 d = true) : keyEq (.many [some .i64, some .i64]) (.agg [.i .i64 a, .i .i64 b]) (.agg [.i .i64 c, .i .i64 d]) = some (decide (a = c) && decide (b = d)) := by
  show oGet (ckEq (some .i64) (.i .i64 a) (.i .i64 c)) none (fun r => oGet (oGet (ckEq (some .i64) (.i .i64 b) (.i .i64 d)) none fun r => oGet (some true) none fun s => some (r && s)) none fun s => some (r && s)) = _
  rw [ck_i ha hc, ck_i hb hd]
  show some (ieq a c && (ieq b d && true)) = _
  rw [ieq_eq, ieq_eq]
  by_cases e1 : a = c <;> by_cases e2 : b = d <;> simp [e1, e2]
end
/-! ### Slices of elements of several cells -/
def Sk {α : Type} (k : Nat) (e : α → List V) (h : H) (v : V) (L : List α) : Prop := (v = .sn ∧ L = []) ∨ ∃ id off m cs, v = .sl id off L.length k ∧ h.get id = .cells m cs ∧ cs.length = m ∧ off + L.length * k ≤ m ∧ (cs.drop off).take (L.length * k) = L.flatMap e
section
variable {α : Type} {k : Nat} {e : α → List V} {h h' : H} {v u : V} {L M : List α} {b : Nat}
theorem Sk.nil : Sk k e h .sn ([] : List α) := .inl ⟨rfl, rfl⟩
theorem Sk.len (hs : Sk k e h v L) (h1 : H) : lenV v h1 = .ok (.i .i64 (L.length : Int)) h1 := by
  rcases hs with ⟨rfl, rfl⟩ | ⟨id, off, m, cs, rfl, _⟩ <;> rfl
theorem Sk.same (hs : Sk k e h v L) (hg : ∀ id off n sz, v = .sl id off n sz → h'.get id = h.get id) : Sk k e h' v L := by
  rcases hs with ⟨rfl, rfl⟩ | ⟨id, off, m, cs, rfl, hb, hx⟩
  · exact .inl ⟨rfl, rfl⟩
  · exact .inr ⟨id, off, m, cs, rfl, by rw [hg _ _ _ _ rfl]; exact hb, hx⟩
theorem Sk.lt (hs : Sk k e h v L) (hc : HC h) : ∀ id off n sz, v = .sl id off n sz → id.nat < h.nx.nat := by
  rcases hs with ⟨rfl, rfl⟩ | ⟨id, off, m, cs, rfl, hb, hx⟩
  · exact fun _ _ _ _ h => by cases h
  · exact fun _ _ _ _ h => by cases h; exact hc.cells hb
theorem Sk.grow (hs : Sk k e h v L) (hc : HC h) (hg : Grow h.nx.nat h h') : Sk k e h' v L := hs.same fun id off n sz ev => hg.old id (hs.lt hc id off n sz ev)
theorem Sk.put (hs : Sk k e h v L) {id : K} (hn : NotIn id v) (x : Blk) : Sk k e (h.put id x) v L := hs.same fun id' off n sz ev => get_put_other (fun ee => hn off n sz (by rw [ev, ee]))
theorem Sk.one {v : V} (hs : Sk k e h v L) : cellsN 1 v = some [v] := by rcases hs with ⟨rfl, _⟩ | ⟨_, _, _, _, rfl, _⟩ <;> rfl
theorem flat_take (he : ∀ x, (e x).length = k) : ∀ (L : List α) (u : Nat), u ≤ L.length → (L.flatMap e).take (u * k) = (L.take u).flatMap e
  | _, 0, _ => by simp
  | [], u + 1, h => by simp at h
  | x :: L, u + 1, h => by
    rw [List.flatMap_cons, List.take_succ_cons, List.flatMap_cons, show (u + 1) * k = (e x).length + u * k by rw [he, Nat.add_mul]; omega, List.take_length_add_append, flat_take he L u (by simpa using h)]
theorem flat_len (he : ∀ x, (e x).length = k) (L : List α) : (L.flatMap e).length = L.length * k := by
  induction L with
  | nil => simp
  | cons x L ih => rw [List.flatMap_cons, List.length_append, ih, he, List.length_cons, Nat.add_mul]; omega
/-- append(v, x): one element of several cells. -/
theorem Sk.push (he : ∀ x, (e x).length = k) (hk : 0 < k) {x : α} (hs : Sk k e h v L) (ho : Own b v) (hb : b ≤ h.nx.nat) (hc : HC h) (hn : L.length < 16777216) :
    ∃ v' h', appV k (h.new (.cells (1 * k) (e x))) v (.sl h.nx 0 1 k) = .ok v' h' ∧ Sk k e h' v' (L ++ [x]) ∧ Own b v' ∧ Grow b h h' ∧ ∀ id : K, id.nat < h.nx.nat → NotIn id v → h'.get id = h.get id ∧ NotIn id v' := by
  have hg := Grow.new (b := b) hb (.cells (1 * k) (e x))
  have hnx := nx_new h (.cells (1 * k) (e x))
  have hne : ∀ id : K, id.nat < h.nx.nat + 1 → id ≠ (h.new (.cells (1 * k) (e x))).nx := fun id hi ee => by rw [ee] at hi; omega
  have hadd : addOf k (h.new (.cells (1 * k) (e x))) (.sl h.nx 0 1 k) = some (1, e x) := by
    show ((h.new (.cells (1 * k) (e x))).get h.nx).onC none (fun len cs => bif Nat.beq k k && Nat.ble (0 + 1 * k) len then some (1, takeN (1 * k) (dropN 0 cs)) else none) = _
    rw [get_new_same]
    show (bif Nat.beq k k && Nat.ble (0 + 1 * k) (1 * k) then some (1, takeN (1 * k) (dropN 0 (e x))) else none) = _
    rw [Nat.beq_refl, Nat.ble_eq_true_of_le (by omega), takeN_eq, dropN_eq, List.drop_zero, List.take_of_length_le (by rw [he]; omega)]; rfl
  unfold appV
  rw [hadd]
  show ∃ v' h', v.onSl RV.no (bif Nat.ble 1 16777216 then app0 k (h.new (.cells (1 * k) (e x))) 1 (e x) else .no) (fun id off n sz' => ((h.new (.cells (1 * k) (e x))).get id).onW .no fun len cs => bif Nat.beq k sz' && Nat.ble (off + n * k) len && Nat.ble (n + 1) 16777216 then app1 k (h.new (.cells (1 * k) (e x))) id off n cs 1 (e x) else .no) = .ok v' h' ∧ _
  rcases hs with ⟨rfl, rfl⟩ | ⟨id, off, m, cs, rfl, hb', hl, hm, hx⟩
  · refine ⟨_, _, rfl, .inr ⟨_, 0, 1 * k, e x, rfl, get_new_same, by rw [he]; omega, by simp, ?_⟩, fun _ _ _ _ h => by cases h; omega, hg.trans (Grow.new (by omega) _), fun id hi _ => ⟨?_, fun _ _ _ h => by cases h; omega⟩⟩
    · simp [he, List.take_of_length_le]
    · rw [get_new_old (by omega), get_new_old hi]
  · have hid := hc.cells hb'
    show ∃ v' h', ((h.new (.cells (1 * k) (e x))).get id).onW RV.no (fun len cs => bif Nat.beq k k && Nat.ble (off + L.length * k) len && Nat.ble (L.length + 1) 16777216 then app1 k (h.new (.cells (1 * k) (e x))) id off L.length cs 1 (e x) else .no) = .ok v' h' ∧ _
    rw [get_new_old hid, hb']
    show ∃ v' h', (bif Nat.beq k k && Nat.ble (off + L.length * k) m && Nat.ble (L.length + 1) 16777216 then app1 k (h.new (.cells (1 * k) (e x))) id off L.length cs 1 (e x) else .no) = .ok v' h' ∧ _
    rw [show (Nat.beq k k && Nat.ble (off + L.length * k) m && Nat.ble (L.length + 1) 16777216) = true by rw [Nat.beq_refl, Nat.ble_eq_true_of_le hm, Nat.ble_eq_true_of_le (show L.length + 1 ≤ 16777216 by omega)]; rfl]
    refine ⟨_, _, rfl, .inr ⟨(h.new (.cells (1 * k) (e x))).nx, 0, (L.length + 1) * k, cat (takeN (L.length * k) (dropN off cs)) (e x), by simp, get_new_same, ?_, by simp, ?_⟩, fun _ _ _ _ h => by cases h; omega, (hg.trans (Grow.put (ho _ _ _ _ rfl) (by omega) _)).trans (Grow.new (by rw [nx_put]; omega) _), fun id' hi hni => ⟨?_, fun _ _ _ h => by cases h; omega⟩⟩
    · rw [cat_eq, takeN_eq, dropN_eq, hx, List.length_append, flat_len he, he, Nat.add_mul]; omega
    · rw [cat_eq, takeN_eq, dropN_eq, hx, List.drop_zero, List.flatMap_append, List.take_of_length_le (by rw [List.length_append, flat_len he, he]; simp [Nat.add_mul])]
      simp
    · show (((h.new (.cells (1 * k) (e x))).put id .dead).new _).get id' = _
      rw [H.get_new, if_neg (show id' ≠ ((h.new (.cells (1 * k) (e x))).put id .dead).nx from hne id' (by omega)), get_put_other (fun ee => hni off L.length k (by rw [ee])), get_new_old hi]
/-- v[:u] -/
theorem Sk.cut (he : ∀ x, (e x).length = k) {u : Nat} {kk : IntKind} (hs : Sk k e h v L) (h2 : u ≤ L.length) :
    ∃ v', (∀ h1, sliceB k v none (some (.i kk (u : Int))) none h1 = .ok v' h1) ∧ Sk k e h v' (L.take u) ∧ (∀ b, Own b v → Own b v') ∧ ∀ id, NotIn id v → NotIn id v' := by
  rcases hs with ⟨rfl, rfl⟩ | ⟨id, off, m, cs, rfl, hb, hll, hm, hx⟩
  · have hu0 : u = 0 := by simpa using h2
    subst hu0
    exact ⟨.sn, fun h1 => rfl, .inl ⟨rfl, rfl⟩, fun b h => h, fun id h => h⟩
  · have hmul : u * k ≤ L.length * k := Nat.mul_le_mul_right k h2
    refine ⟨.sl id (off + 0 * k) (u - 0) k, fun h1 => ?_, .inr ⟨id, off + 0 * k, m, cs, ?_, hb, hll, ?_, ?_⟩, fun b ho _ _ _ _ e => ?_, fun id' hn _ _ _ e => ?_⟩
    · unfold sliceB
      show (bif Nat.beq k k then cutV id off L.length k h1 0 u none else RV.no) = _
      rw [Nat.beq_refl]
      show cutV id off L.length k h1 0 u none = _
      unfold cutV
      rw [Nat.ble_eq_true_of_le (Nat.zero_le u), Nat.ble_eq_true_of_le h2]; rfl
    · congr 1; simp; omega
    · rw [List.length_take, Nat.min_eq_left h2]; omega
    · rw [List.length_take, Nat.min_eq_left h2, ← flat_take he L u h2, ← hx, List.take_take, Nat.min_eq_left hmul]; simp
    · cases e; exact ho _ _ _ _ rfl
    · cases e; exact hn _ _ _ rfl
end
end Go.Ev
namespace Go.Ev
open Go Go.RowKit
noncomputable def f84_r0 : List EOper := [⟨(some (K.ofNat 1)), none, .box 64 (.t (K.ofNat 0))⟩, ⟨(some (K.ofNat 2)), none, .as (.c (.b false))⟩]
noncomputable def f84_r1 : List EOper := [⟨(some (K.ofNat 5)), none, .ldn 64 (.t (K.ofNat 1))⟩, ⟨(some (K.ofNat 6)), none, .call (.c (.fn (K.ofNat 64) [])) [(.t (K.ofNat 5))]⟩, ⟨(some (K.ofNat 7)), none, .len (.t (K.ofNat 6))⟩, ⟨(some (K.ofNat 8)), none, .mv (.c (.i .i64 (.ofNat 0)))⟩]
noncomputable def f84_r2 : List EOper := [⟨(some (K.ofNat 9)), none, .bin .lss (.t (K.ofNat 8)) (.t (K.ofNat 7))⟩]
noncomputable def f84_r3 : List EOper := [⟨(some (K.ofNat 10)), none, .iads 1 (.t (K.ofNat 6)) (.t (K.ofNat 8))⟩, ⟨(some (K.ofNat 11)), none, .ld (.t (K.ofNat 10))⟩, ⟨(some (K.ofNat 4)), none, .as (.t (K.ofNat 11))⟩]
noncomputable def f84_r4 : List EOper := [⟨(some (K.ofNat 12)), none, .mv (.t (K.ofNat 4))⟩, ⟨(some (K.ofNat 13)), none, .bin .neq (.t (K.ofNat 12)) (.c (.i .i64 (.ofNat 0)))⟩]
noncomputable def f84_r5 : List EOper := [⟨(some (K.ofNat 2)), none, .as (.c (.b true))⟩]
noncomputable def f84_r6 : List EOper := [⟨(some (K.ofNat 14)), none, .bin .add (.t (K.ofNat 8)) (.c (.i .i64 (.ofNat 1)))⟩, ⟨(some (K.ofNat 8)), none, .mv (.t (K.ofNat 14))⟩]
noncomputable def f84_l0 : EC := (.seq (.reg f84_r2) (.seq (.cond (.t (K.ofNat 9)) .skip (.exit 0)) (.seq (.block 1 (.seq (.reg f84_r3) (.seq (.reg f84_r4) (.cond (.t (K.ofNat 13)) (.seq (.reg f84_r5) .ret) .skip)))) (.reg f84_r6))))
noncomputable def f84_r7 : List EOper := [⟨(some (K.ofNat 2)), none, .as (.c (.b false))⟩]
noncomputable def f84_c : EC := (.seq (.reg f84_r0) (.seq (.seq (.reg f84_r1) (.block 0 (.loop f84_l0))) (.seq (.reg f84_r7) .ret)))
noncomputable def f84 : EF := ⟨15, [.tmp (K.ofNat 2)], f84_c, none⟩
theorem f84_rs : f84.rs = [.tmp (K.ofNat 2)] := of_eq_true (eq_self _)
noncomputable def f88_r0 : List EOper := [⟨(some (K.ofNat 2)), none, .box 64 (.t (K.ofNat 0))⟩, ⟨(some (K.ofNat 3)), none, .box 2 (.t (K.ofNat 1))⟩, ⟨(some (K.ofNat 4)), none, .alloc 64 (List.replicate 64 (.b false))⟩]
noncomputable def f88_r1 : List Stage := [⟨[⟨(some (K.ofNat 5)), none, .fadr 0 (.t (K.ofNat 3))⟩, ⟨(some (K.ofNat 6)), none, .ld (.t (K.ofNat 5))⟩, ⟨(some (K.ofNat 7)), none, .fadr 1 (.t (K.ofNat 3))⟩, ⟨(some (K.ofNat 8)), none, .ld (.t (K.ofNat 7))⟩, ⟨(some (K.ofNat 9)), none, .iadr 64 1 (.t (K.ofNat 2)) (.t (K.ofNat 6))⟩], [], (some ⟨none, none, .st 1 (.t (K.ofNat 9)) (.c (.b false))⟩), []⟩, ⟨[⟨(some (K.ofNat 10)), none, .iadr 64 1 (.t (K.ofNat 2)) (.t (K.ofNat 8))⟩], [⟨(some (K.ofNat 7)), none, .fadr 1 (.t (K.ofNat 3))⟩, ⟨(some (K.ofNat 8)), none, .ld (.t (K.ofNat 7))⟩], (some ⟨none, none, .st 1 (.t (K.ofNat 10)) (.c (.b false))⟩), []⟩, ⟨[], [], none, []⟩]
noncomputable def f88_r2 : List EOper := [⟨(some (K.ofNat 11)), none, .ldn 64 (.t (K.ofNat 2))⟩, ⟨none, none, .st 64 (.t (K.ofNat 4)) (.t (K.ofNat 11))⟩]
noncomputable def f88_c : EC := (.seq (.reg f88_r0) (.seq (.draw f88_r1) (.seq (.reg f88_r2) .ret)))
noncomputable def f88 : EF := ⟨12, [.celln (K.ofNat 4) 64], f88_c, none⟩
theorem f88_rs : f88.rs = [.celln (K.ofNat 4) 64] := of_eq_true (eq_self _)
noncomputable def f86_r0 : List EOper := [⟨(some (K.ofNat 1)), none, .box 64 (.t (K.ofNat 0))⟩, ⟨(some (K.ofNat 2)), none, .alloc 1 [(.b false)]⟩]
noncomputable def f86_r1 : List EOper := [⟨(some (K.ofNat 4)), none, .call (.c (.fn (K.ofNat 82) [])) [(.c (.i .i64 (.ofNat 63)))]⟩]
noncomputable def f86_r2 : List EOper := [⟨(some (K.ofNat 3)), none, .as (.t (K.ofNat 5))⟩]
noncomputable def f86_a0 : EC := (.reg f86_r2)
noncomputable def f86_r3 : List Stage := [⟨[⟨(some (K.ofNat 6)), none, .ldn 64 (.t (K.ofNat 1))⟩, ⟨(some (K.ofNat 7)), none, .mv (.t (K.ofNat 3))⟩, ⟨(some (K.ofNat 8)), none, .bslice 1 1 [(.i .i64 (.ofNat 0))] [(0, 1, (.t (K.ofNat 7)))]⟩], [], (some ⟨(some (K.ofNat 9)), none, .call (.c (.fn (K.ofNat 55) [])) [(.t (K.ofNat 8))]⟩), [(K.ofNat 8)]⟩, ⟨[⟨(some (K.ofNat 10)), none, .eqk (.many (List.replicate 64 none)) false (.t (K.ofNat 6)) (.t (K.ofNat 9))⟩], [⟨(some (K.ofNat 6)), none, .ldn 64 (.t (K.ofNat 1))⟩], none, []⟩]
noncomputable def f86_r4 : List EOper := [⟨none, none, .st 1 (.t (K.ofNat 2)) (.c (.b true))⟩]
noncomputable def f86_b0 : EC := (.block 1 (.seq (.draw f86_r3) (.cond (.t (K.ofNat 10)) (.seq (.reg f86_r4) .ret) .skip)))
noncomputable def f86_r5 : List EOper := [⟨none, none, .st 1 (.t (K.ofNat 2)) (.c (.b false))⟩]
noncomputable def f86_c : EC := (.seq (.reg f86_r0) (.seq (.seq (.reg f86_r1) (.block 0 (.rangeF (.t (K.ofNat 4)) [(K.ofNat 5)] f86_a0 f86_b0))) (.seq (.reg f86_r5) .ret)))
noncomputable def f86 : EF := ⟨11, [.cell (K.ofNat 2)], f86_c, none⟩
theorem f86_rs : f86.rs = [.cell (K.ofNat 2)] := of_eq_true (eq_self _)
section
variable {fs : T EF} {ro : Option K}
theorem Ar.stA {h : H} {id : K} {B : Nat → Bool} {n i : Nat} (ha : Ar V.b h id (arr B n)) (hi : i < n) (x : Bool) : ∃ h', storeV h 1 (.p id (0 + i * 1)) (.b x) = .ok undefV h' ∧ Ar V.b h' id (arr (fun k => if k = i then x else B k) n) ∧ (∀ id', id' ≠ id → h'.get id' = h.get id') ∧ h'.nx = h.nx ∧ ∀ b, b ≤ id.nat → id.nat < h.nx.nat → Grow b h h' := by
  obtain ⟨s, a⟩ := ha.st (i := i) (x := x) (c := .b x) (by rw [arr_len]; exact hi) rfl rfl
  refine ⟨_, s, ?_, fun id' hne => get_put_other hne, rfl, fun b h1 h2 => Grow.put h1 h2 _⟩
  rw [arr_set] at a ⊢
  exact a
theorem Ar.stnA {h : H} {id : K} {f g : Nat → Bool} {n : Nat} (ha : Ar V.b h id (arr f n)) : ∃ h', storeV h n (.p id 0) (.agg ((arr g n).map V.b)) = .ok undefV h' ∧ Ar V.b h' id (arr g n) ∧ (∀ id', id' ≠ id → h'.get id' = h.get id') ∧ h'.nx = h.nx ∧ ∀ b, b ≤ id.nat → id.nat < h.nx.nat → Grow b h h' :=
  ⟨_, ha.stn (g := g), by unfold Ar; rw [get_put_same, arr_len], fun id' hne => get_put_other hne, rfl, fun b h1 h2 => Grow.put h1 h2 _⟩
/-! ### isHollow -/
noncomputable def holB (B : Nat → Bool) : Bool := (hollS (cntS (mem64 B)) B).any fun x => decide (x ≠ 0)
def f84_I (h : H) (u : V) (L : List Int) (i : Nat) (fr : Fr) (h1 : H) : Prop := h1 = h ∧ i ≤ L.length ∧ (L.take i).any (fun x => decide (x ≠ 0)) = false ∧ fr.get (K.ofNat 6) = some (u) ∧ fr.get (K.ofNat 7) = some (.i .i64 (L.length : Int)) ∧ fr.get (K.ofNat 8) = some (.i .i64 (i : Int))
theorem f84_ret {h : H} {B : Nat → Bool} {ef : EF} (hp75 : ∀ m : Nat, m < 64 → ∀ h P, CallP fs (.fn (K.ofNat 75) []) [.i .i64 (m : Int)] h P = P (.i .i64 (pop6 m : Int)) h)
    (h57 : fs.get (K.ofNat 57) = some f57) (h78 : fs.get (K.ofNat 78) = some f78) (h91 : fs.get (K.ofNat 91) = some alF) (h82 : fs.get (K.ofNat 82) = some f82) (h92 : fs.get (K.ofNat 92) = some coF) (h54 : fs.get (K.ofNat 54) = some ef) (hn : ef.nv = some (flatG partG)) (h93 : fs.get (K.ofNat 93) = some f93) (h94 : fs.get (K.ofNat 94) = some f94) (h89 : fs.get (K.ofNat 89) = some f89) (h64 : fs.get (K.ofNat 64) = some f64) (hc : HC h) (hne : 1 ≤ (cntS (mem64 B)).length) :
    Ret fs f84 [.agg (boolV B)] h fun u h' => u = .b (holB B) ∧ Grow h.nx.nat h h' := by
  apply ret_of rfl
  show W fs none f84_c _ _ _
  unfold f84_c
  have g1 : Grow h.nx.nat h (h.new (.cells 64 (boolV B))) := Grow.new (Nat.le_refl _) _
  have hA : Ar V.b (h.new (.cells 64 (boolV B))) h.nx (arr B 64) := Ar.box
  have hld := hA.ldn (n := 64) (by rw [arr_len])
  change loadV _ _ _ = .ok (.agg (boolV B)) _ at hld
  have hc1 := g1.hc hc
  simp (disch := omega) only [f84_r0, f84_r1, w_reg, w_seq, seqK_n, x_nil, x_as, x_box, x_ldn, x_call, kx, rvP_ok, ev_t, ev_c, evs_nil, evs_cons, getV_some, putD_some, oGet_s, frame_1, of0, getK_set, Nat.reduceEqDiff, ↓reduceIte, cells64 (boolV_len (B := B)), hld]
  refine (callP_0 (ef := f64) h64 rfl (f64_ret hp75 h57 h78 h91 h82 h92 h54 hn h93 h94 h89 hc1 hne)).mono ?_
  rintro u h2 ⟨hsu, _, g2⟩
  have gr := g1.trans (g2.low (by have := g1.nx; omega))
  have hB : holB B = (hollS (cntS (mem64 B)) B).any fun x => decide (x ≠ 0) := rfl
  have hLl : (hollS (cntS (mem64 B)) B).length = (cntS (mem64 B)).length - 1 := by unfold hollS; rw [List.length_map, List.length_range]
  generalize hollS (cntS (mem64 B)) B = L at *
  simp (disch := omega) only [w_block, seqK_n, x_nil, x_mv, x_len, kx, rvP_ok, ev_t, ev_c, getV_some, putD_some, getK_set, ↓reduceIte, hsu.len]
  refine W_loop (f84_I h2 u L) (fun i => L.length - i) ?_ 0 ⟨rfl, Nat.zero_le _, by simp, by simp (disch := omega) only [getK_set, Nat.reduceEqDiff, ↓reduceIte, and_self, Int.natCast_zero]⟩
  rintro i fr h3 ⟨rfl, hi, hal, g6, g7, g8⟩
  unfold f84_l0
  by_cases hlt : i < L.length
  · have hlt' : (i : Int) < (L.length : Int) := by omega
    obtain ⟨p, hp1, hp2⟩ := hsu.at i hlt
    have hs : (L.take (i + 1)).any (fun x => decide (x ≠ 0)) = decide (L[i] ≠ 0) := by
      rw [List.take_succ_eq_append_getElem hlt, List.any_append, hal]; simp
    have hL : L.length ≤ 64 := by have := cntS_len (mem64 B); rw [hLl]; omega
    by_cases e : L[i] = 0
    · have e' : ¬ L[i] ≠ 0 := fun h => h e
      simp (disch := omega) only [f84_r2, f84_r3, f84_r4, f84_r6, w_skip, w_reg, w_seq, w_cond, w_block, seqK_n, atK_n, loopK_n, ckB_b, cbB_b, true_and, x_nil, x_mv, x_as, x_ld, x_bin, x_iads, kx, rvP_ok, okv_some, ev_t, ev_c, getV_some, putD_some, bin_add, bin_neq, bin_lss, of0, of1, getK_set, Nat.reduceEqDiff, ↓reduceIte, Bool.false_eq_true, g6, g7, g8, hlt', decide_true, hp1, hp2, iE, e', decide_false, fw64]
      exact ⟨i + 1, by omega, rfl, hlt, by rw [hs, decide_eq_false e'], by simp (disch := omega) only [getK_set, Nat.reduceEqDiff, ↓reduceIte, g6, g7, and_self, Int.natCast_add, Int.natCast_one]⟩
    · have e' : L[i] ≠ 0 := e
      have hf : holB B = true := by
        rw [hB, List.any_eq_true]
        exact ⟨L[i], List.getElem_mem hlt, decide_eq_true e'⟩
      simp (disch := omega) only [f84_r2, f84_r3, f84_r4, f84_r5, f84_rs, w_skip, w_reg, w_seq, w_cond, w_block, w_ret, seqK_n, seqK_r, atK_r, loopK_r, ckB_b, cbB_b, true_and, retK_r, x_nil, x_mv, x_as, x_ld, x_bin, x_iads, kx, rvP_ok, okv_some, ev_t, ev_c, getV_some, putD_some, bin_neq, bin_lss, oGet_s, readRs_nil, readRs_t, retV_1, of0, Option.some.injEq, exists_eq_left', getK_set, Nat.reduceEqDiff, ↓reduceIte, g6, g7, g8, hlt', decide_true, hp1, hp2, iE, ne_eq, e, not_false_eq_true, hf, true_and]
      exact gr
  · obtain rfl : i = L.length := by omega
    rw [List.take_length] at hal
    rw [hal] at hB
    simp (disch := omega) only [f84_r2, f84_r7, f84_rs, w_reg, w_seq, w_cond, w_exit, w_ret, seqK_n, seqK_e, atK_e, loopK_e, ckB_b, cbB_b, true_and, retK_r, x_nil, x_as, x_bin, kx, rvP_ok, okv_some, ev_t, ev_c, getV_some, putD_some, bin_lss, oGet_s, readRs_nil, readRs_t, retV_1, Option.some.injEq, exists_eq_left', getK_set, ↓reduceIte, Bool.false_eq_true, g7, g8, Int.lt_irrefl, decide_false, hB, true_and]
    exact gr
/-! ### without -/
def lessB (B : Nat → Bool) (f o : Nat) (k : Nat) : Bool := if k = o then false else if k = f then false else B k
theorem f88_ret {h : H} {B : Nat → Bool} {f o : Nat} (hf : f < 64) (ho : o < 64) (hc : HC h) : Ret fs f88 [.agg (boolV B), .agg [.i .i64 (f : Int), .i .i64 (o : Int)]] h fun u h' => u = .agg (boolV (lessB B f o)) ∧ Grow h.nx.nat h h' := by
  apply ret_of rfl
  show W fs none f88_c _ _ _
  unfold f88_c
  have n1 := nx_new h (.cells 64 (boolV B))
  have g1 : Grow h.nx.nat h (h.new (.cells 64 (boolV B))) := Grow.new (Nat.le_refl _) _
  have hA : Ar V.b (h.new (.cells 64 (boolV B))) h.nx (arr B 64) := Ar.box
  have c2 : cellsN 2 (.agg [.i .i64 (f : Int), .i .i64 (o : Int)]) = some [.i .i64 (f : Int), .i .i64 (o : Int)] := cells2
  generalize hh1 : h.new (.cells 64 (boolV B)) = h1 at *
  have n2 := nx_new h1 (.cells 2 [.i .i64 (f : Int), .i .i64 (o : Int)])
  have g2 : Grow h1.nx.nat h1 (h1.new (.cells 2 [.i .i64 (f : Int), .i .i64 (o : Int)])) := Grow.new (Nat.le_refl _) _
  have e2 : (h1.new (.cells 2 [.i .i64 (f : Int), .i .i64 (o : Int)])).get h1.nx = .cells 2 [.i .i64 (f : Int), .i .i64 (o : Int)] := get_new_same
  have hA2 : Ar V.b (h1.new (.cells 2 [.i .i64 (f : Int), .i .i64 (o : Int)])) h.nx (arr B 64) := hA.same (get_new_old (by omega))
  generalize hh2 : h1.new (.cells 2 [.i .i64 (f : Int), .i .i64 (o : Int)]) = h2 at *
  have n3 := nx_new h2 (.cells 64 (List.replicate 64 (.b false)))
  have g3 : Grow h2.nx.nat h2 (h2.new (.cells 64 (List.replicate 64 (.b false)))) := Grow.new (Nat.le_refl _) _
  have e3 : (h2.new (.cells 64 (List.replicate 64 (.b false)))).get h1.nx = .cells 2 [.i .i64 (f : Int), .i .i64 (o : Int)] := by rw [get_new_old (by omega)]; exact e2
  have hA3 : Ar V.b (h2.new (.cells 64 (List.replicate 64 (.b false)))) h.nx (arr B 64) := hA2.same (get_new_old (by omega))
  have hO3 : Ar V.b (h2.new (.cells 64 (List.replicate 64 (.b false)))) h2.nx (arr (fun _ => false) 64) := by unfold Ar; rw [get_new_same]; rfl
  generalize hh3 : h2.new (.cells 64 (List.replicate 64 (.b false))) = h3 at *
  obtain ⟨h4, s4, hA4, o4, n4, g4⟩ := hA3.stA hf false
  have e4 : h4.get h1.nx = .cells 2 [.i .i64 (f : Int), .i .i64 (o : Int)] := by rw [o4 _ (kNe (by omega)).symm]; exact e3
  have hO4 : Ar V.b h4 h2.nx (arr (fun _ => false) 64) := hO3.same (o4 _ (kNe (by omega)).symm)
  obtain ⟨h5, s5, hA5, o5, n5, g5⟩ := hA4.stA ho false
  have hO5 : Ar V.b h5 h2.nx (arr (fun _ => false) 64) := hO4.same (o5 _ (kNe (by omega)).symm)
  have hA5' : Ar V.b h5 h.nx (arr (lessB B f o) 64) := hA5
  have ld5 := hA5'.ldn (n := 64) (by rw [arr_len])
  obtain ⟨h6, s6, hA6, o6, n6, g6⟩ := hO5.stnA (g := lessB B f o)
  have ld6 := hA6.ldn (n := 64) (by rw [arr_len])
  have gr : Grow h.nx.nat h h6 := g1.trans ((g2.low (by omega)).trans ((g3.low (by omega)).trans ((g4 _ (Nat.le_refl _) (by omega)).trans ((g5 _ (Nat.le_refl _) (by rw [n4]; omega)).trans (g6 _ (by omega) (by rw [n5, n4]; omega))))))
  simp (disch := omega) only [f88_r0, w_reg, w_draw, w_seq, seqK_n, x_nil, x_alloc, x_box, kx, rvP_ok, ev_t, getV_some, putD_some, oGet_s, frame_2, getK_set, Nat.reduceEqDiff, ↓reduceIte, cells64 (boolV_len (B := B)), c2, hh1, hh2, hh3]
  simp (disch := omega) only [f88_r1, w_reg, w_seq, seqK_n, true_and, x_nil, x_st, kx, kg, xg_nil, xg_ld, xg_fadr, xg_iadr, xd_cons, fresh_nil, stK_n, stK_s, stay_nil, stay_cons, again_ok, beq_i, stay_ld, beq_p, rvP_ok, ev_t, ev_c, getV_some, putD_some, putD_none, onP_p, idx_n, getK_set, Nat.reduceEqDiff, ↓reduceIte, ld20 e3, ld21 e3, s4, ld21 e4, stay_fadr, s5, and_self]
  have rd6 : readP h6 (.p h2.nx 0) (many? 64) = some (.agg ((arr (lessB B f o) 64).map V.b)) := (okv_ok ld6).1
  simp (disch := omega) only [f88_r2, f88_rs, w_ret, seqK_n, retK_r, x_nil, x_ldn, x_st, kx, rvP_ok, ev_t, getV_some, putD_some, putD_none, oGet_s, readRs_nil, readRs_n, retV_1, Option.some.injEq, exists_eq_left', getK_set, Nat.reduceEqDiff, ↓reduceIte, ld5, s6, rd6]
  exact ⟨rfl, gr⟩
/-! ### isCorner -/
noncomputable def cornB (B : Nat → Bool) : Bool := (cornN 63).any fun c => decide (arr B 64 = arr (famB [(c : Int)]) 64)
structure CoI (b : Nat) (h : H) (B : Nat → Bool) (k1 k2 kf idl : K) (lb : Blk) (h1 : H) : Prop where
  gr : Grow b h h1
  e1 : h1.get k1 = .cells 64 (boolV B)
  e2 : h1.get k2 = .cells 1 [.b false]
  ef : h1.get kf = .cells 1 [.i .i64 63]
  el : h1.get idl = lb
  nx : idl.nat + 1 ≤ h1.nx.nat
  o1 : k1.nat < k2.nat
  o2 : k2.nat < kf.nat
  of : kf.nat < idl.nat
  ob : b ≤ k1.nat
section
variable {b : Nat} {h h1 h2 : H} {B : Nat → Bool} {k1 k2 kf idl : K} {lb : Blk}
theorem CoI.loop (t : CoI b h B k1 k2 kf idl lb h1) (lb' : Blk) : CoI b h B k1 k2 kf idl lb' (h1.put idl lb') := by
  have := t.nx; have := t.o1; have := t.o2; have := t.of; have := t.ob
  exact ⟨t.gr.trans (Grow.put (by omega) (by omega) _), by rw [get_put_other (kNe (by omega))]; exact t.e1, by rw [get_put_other (kNe (by omega))]; exact t.e2, by rw [get_put_other (kNe (by omega))]; exact t.ef, get_put_same, t.nx, t.o1, t.o2, t.of, t.ob⟩
theorem CoI.grow (t : CoI b h B k1 k2 kf idl lb h1) (g : Grow h1.nx.nat h1 h2) : CoI b h B k1 k2 kf idl lb h2 := by
  have := t.nx; have := t.o1; have := t.o2; have := t.of; have := t.ob; have := g.nx
  exact ⟨t.gr.trans (g.low (by omega)), by rw [g.old _ (by omega)]; exact t.e1, by rw [g.old _ (by omega)]; exact t.e2, by rw [g.old _ (by omega)]; exact t.ef, by rw [g.old _ (by omega)]; exact t.el, by omega, t.o1, t.o2, t.of, t.ob⟩
end
theorem f86_ret {h : H} {B : Nat → Bool} {ef : EF} (hp : ∀ a b h P, CallP fs (.fn (K.ofNat 54) []) [.i .i64 a, .i .i64 b] h P = P (.b (ptI a b)) h)
    (h82 : fs.get (K.ofNat 82) = some f82) (h92 : fs.get (K.ofNat 92) = some coF) (h54 : fs.get (K.ofNat 54) = some ef) (hn : ef.nv = some (flatG partG)) (h55 : fs.get (K.ofNat 55) = some f55) (hc : HC h) :
    Ret fs f86 [.agg (boolV B)] h fun u h' => u = .b (cornB B) ∧ Grow h.nx.nat h h' := by
  apply ret_of rfl
  show W fs none f86_c _ _ _
  unfold f86_c
  have n1 := nx_new h (.cells 64 (boolV B))
  have g1 : Grow h.nx.nat h (h.new (.cells 64 (boolV B))) := Grow.new (Nat.le_refl _) _
  have e1 : (h.new (.cells 64 (boolV B))).get h.nx = .cells 64 (boolV B) := get_new_same
  simp (disch := omega) only [f86_r0, f86_r1, w_reg, w_seq, seqK_n, x_nil, x_alloc, x_box, x_call, kx, rvP_ok, ev_t, ev_c, evs_nil, evs_cons, getV_some, putD_some, oGet_s, frame_1, getK_set, ↓reduceIte, cells64 (boolV_len (B := B))]
  generalize h.new (.cells 64 (boolV B)) = h1 at *
  have n2 := nx_new h1 (.cells 1 [.b false])
  have g2 : Grow h1.nx.nat h1 (h1.new (.cells 1 [.b false])) := Grow.new (Nat.le_refl _) _
  have e2 : (h1.new (.cells 1 [.b false])).get h1.nx = .cells 1 [.b false] := get_new_same
  generalize h1.new (.cells 1 [.b false]) = h2 at *
  refine (callP_0 (ef := f82) h82 rfl (f82_ret (x := 63))).mono ?_
  rintro u h3 ⟨rfl, rfl⟩
  simp (disch := omega) only [w_block, seqK_n, x_nil, kx, putD_some]
  have n3 := nx_new h2 (.cells 1 [.i .i64 63])
  have g3 : Grow h2.nx.nat h2 (h2.new (.cells 1 [.i .i64 63])) := Grow.new (Nat.le_refl _) _
  have e3 : (h2.new (.cells 1 [.i .i64 63])).get h2.nx = .cells 1 [.i .i64 63] := get_new_same
  generalize h2.new (.cells 1 [.i .i64 63]) = h3 at *
  generalize hfr1 : T.set (K.ofNat 4) (V.fn (K.ofNat 92) [V.p h2.nx 0]) _ = fr1
  have f4 : fr1.get (K.ofNat 4) = some (.fn (K.ofNat 92) [.p h2.nx 0]) := by rw [← hfr1]; simp (disch := omega) only [getK_set, ↓reduceIte]
  have f1 : fr1.get (K.ofNat 1) = some (.p h.nx 0) := by rw [← hfr1]; simp (disch := omega) only [getK_set, Nat.reduceEqDiff, ↓reduceIte]
  have f2 : fr1.get (K.ofNat 2) = some (.p h1.nx 0) := by rw [← hfr1]; simp (disch := omega) only [getK_set, Nat.reduceEqDiff, ↓reduceIte]
  clear hfr1
  have n4 := nx_new h3 (rdyB fr1 [(K.ofNat 5)] f86_a0 f86_b0)
  have g4 : Grow h3.nx.nat h3 (h3.new (rdyB fr1 [(K.ofNat 5)] f86_a0 f86_b0)) := Grow.new (Nat.le_refl _) _
  have hy := corner_yields (fs := fs) (idp := h2.nx) (S := 63) h92 h54 hn
  rw [show ((List.range 6).filter fun i => partB (cornI i) 63).map (fun (i : Nat) => V.i .i64 (cornI i)) = (cornN 63).map nE from cornN_ys (x := 63)] at hy
  have g14 := g1.trans ((g2.low (by omega)).trans ((g3.low (by omega)).trans (g4.low (b := h.nx.nat) (by omega))))
  have t0 : CoI h.nx.nat h B h.nx h1.nx h2.nx h3.nx (rdyB fr1 [(K.ofNat 5)] f86_a0 f86_b0) (h3.new (rdyB fr1 [(K.ofNat 5)] f86_a0 f86_b0)) :=
    ⟨g14, by rw [g4.old _ (by omega), g3.old _ (by omega), g2.old _ (by omega)]; exact e1, by rw [g4.old _ (by omega), g3.old _ (by omega)]; exact e2, by rw [g4.old _ (by omega)]; exact e3, get_new_same, by omega, by omega, by omega, by omega, Nat.le_refl _⟩
  refine W_range (k := (K.ofNat 92)) (caps := [.p h2.nx 0]) (N := fun h => h.get h2.nx = .cells 1 [.i .i64 63]) (ys := (cornN 63).map nE) rfl (by simp (disch := omega) only [ev_t, getV_some, f4]) hy
    (fun j h6 => ∃ lb, CoI h.nx.nat h B h.nx h1.nx h2.nx h3.nx lb h6 ∧ ((cornN 63).take j).any (fun c => decide (arr B 64 = arr (famB [(c : Int)]) 64)) = false)
    (fun e h6 => e = .ret ∧ h6.get h1.nx = .cells 1 [.b true] ∧ Grow h.nx.nat h h6 ∧ cornB B = true) (fun i h5 ⟨lb, ht, _⟩ => ht.ef)
    ⟨_, t0, by simp⟩ ?_ ?_ ?_
  · rintro j h6 hj ⟨lb, ht, hal⟩ hrd
    have hj' : j < (cornN 63).length := by simpa using hj
    obtain rfl : lb = rdyB fr1 [(K.ofNat 5)] f86_a0 f86_b0 := ht.el.symm.trans hrd
    rw [List.getElem_map]
    have hs : ((cornN 63).take (j + 1)).any (fun c => decide (arr B 64 = arr (famB [(c : Int)]) 64)) = decide (arr B 64 = arr (famB [((cornN 63)[j] : Int)]) 64) := by
      rw [List.take_succ_eq_append_getElem hj', List.any_append, hal]; simp
    have hcm := List.getElem_mem hj'
    generalize (cornN 63)[j] = c at *
    rw [show ∀ Q fr h, W fs (some h3.nx) f86_a0 Q fr h = X fs f86_r2 (Q .normal) fr h from fun _ _ _ => rfl]
    simp (disch := omega) only [f86_r2, rndA_n, x_nil, x_as, ev_t, getV_some, putD_some, getK_set, ↓reduceIte, nE]
    refine ⟨ht.el, ?_⟩
    have ht7 := ht.loop (bsyB fr1 [(K.ofNat 5)] f86_a0 f86_b0)
    generalize h6.put h3.nx (bsyB fr1 [(K.ofNat 5)] f86_a0 f86_b0) = h7 at *
    have hc7 := ht7.gr.hc hc
    have hA7 : Ar V.b h7 h.nx (arr B 64) := by unfold Ar; rw [arr_len]; exact ht7.e1
    have ld7 := hA7.ldn (n := 64) (by rw [arr_len])
    have g8 : Grow h7.nx.nat h7 (h7.new (.cells (1 * 1) [.i .i64 (c : Int)])) := Grow.new (Nat.le_refl _) _
    rw [show ∀ Q fr h, W fs (some h3.nx) f86_b0 Q fr h = W fs (some h3.nx) (.block 1 (.seq (.draw f86_r3) (.cond (.t (K.ofNat 10)) (.seq (.reg f86_r4) .ret) .skip))) Q fr h from fun _ _ _ => rfl]
    simp (disch := omega) only [f86_r3, w_draw, w_seq, w_block, true_and, x_call, kg, xg_nil, xg_mv, xg_ldn, xg_bslice, xd_cons, stK_s, stay_nil, rvP_ok, ev_t, ev_c, evs_nil, evs_cons, getV_some, putD_some, oGet_s, cells1_i, fill_1, set_1, of0, Option.some.injEq, exists_eq_left', getK_set, Nat.reduceEqDiff, ↓reduceIte, f1, ld7, hc7.dead]
    refine ⟨fresh_one (n := 1) (sz := 1) (by simp (disch := omega) only [getK_set, ↓reduceIte]), (callP_0 (ef := f55) h55 rfl (f55_ret (S := [(c : Int)]) hp (Sl.lit (e := iE)) (g8.hc hc7) (by simp))).mono ?_⟩
    rintro u h8 ⟨rfl, g9⟩
    have ht8 := (ht7.grow g8).grow g9
    have hA8 : Ar V.b h8 h.nx (arr B 64) := by unfold Ar; rw [arr_len]; exact ht8.e1
    have ld8 := hA8.ldn (n := 64) (by rw [arr_len])
    have hke : keyEq (.many (List.replicate 64 none)) (.agg ((arr B 64).map V.b)) (.agg ((arr (famB [(c : Int)]) 64).map V.b)) = some (decide (arr B 64 = arr (famB [(c : Int)]) 64)) := keyEq_b (arr_len) (arr_len)
    have hbb : beqV (.agg ((arr B 64).map V.b)) (.agg ((arr B 64).map V.b)) = true := beq_boolV (B := B)
    by_cases e : arr B 64 = arr (famB [(c : Int)]) 64
    · rw [decide_eq_true e] at hke
      have hcb : cornB B = true := by
        unfold cornB
        rw [List.any_eq_true]
        exact ⟨c, hcm, decide_eq_true e⟩
      have s8 := st1 (h := h8) (c := .b true) ht8.e2 rfl
      simp (disch := omega) only [f86_r4, w_reg, w_seq, w_cond, w_ret, seqK_n, atK_r, ckB_b, cbB_b, true_and, rndK_r, x_nil, x_st, kx, kg, xg_nil, xg_eqk, xd_cons, fresh_nil, stK_n, stay_nil, stay_cons, again_ok, rvP_ok, okv_some, ev_t, ev_c, getV_some, putD_some, putD_none, oGet_s, getK_set, Nat.reduceEqDiff, ↓reduceIte, f1, f2, ld8, stay_ldn, hke, hbb, cond_false, and_self, s8]
      have := ht8.nx; have := ht8.o1; have := ht8.o2; have := ht8.of; have := ht8.ob
      exact ⟨by rw [get_put_other (kNe (by omega)).symm]; exact ht8.el, by rw [get_put_other (kNe (by omega)), get_put_same], ht8.gr.trans ((Grow.put (by omega) (by omega) _).trans (Grow.put (by omega) (by rw [nx_put]; omega) _)), hcb⟩
    · rw [decide_eq_false e] at hke
      simp (disch := omega) only [w_skip, w_cond, seqK_n, atK_n, ckB_b, cbB_b, true_and, rndK_n, x_nil, kx, kg, xg_nil, xg_eqk, xd_cons, fresh_nil, stK_n, stay_nil, stay_cons, again_ok, rvP_ok, okv_some, ev_t, getV_some, putD_some, oGet_s, getK_set, Nat.reduceEqDiff, ↓reduceIte, Bool.false_eq_true, f1, ld8, stay_ldn, hke, hbb, cond_false, and_self]
      exact ⟨ht8.el, _, ht8.loop _, by rw [hs, decide_eq_false e]⟩
  · rintro h6 ⟨lb, ht, hal⟩
    rw [List.length_map, List.take_length] at hal
    have ht2 := ht.loop .dead
    have s6 := st1 (c := .b false) ht2.e2 rfl
    have rd6 : readP ((h6.put h3.nx .dead).put h1.nx (.cells 1 [.b false])) (.p h1.nx 0) one? = some (.b false) := (okv_ok (load_p (get_put_same) rfl)).1
    have hcb : cornB B = false := hal
    have := ht2.nx; have := ht2.o1; have := ht2.ob; have := ht2.o2; have := ht2.of
    simp (disch := omega) only [f86_r5, f86_rs, w_reg, w_seq, w_ret, seqK_n, atK_n, true_and, retK_r, x_nil, x_st, kx, rvP_ok, ev_t, ev_c, getV_some, putD_none, oGet_s, readRs_nil, readRs_c, retV_1, Option.some.injEq, exists_eq_left', f2, s6, readRs_c, rd6, hcb, true_and]
    exact ht2.gr.trans (Grow.put (by omega) (by omega) _)
  · rintro e h6 hne ⟨rfl, he, hg, hcb⟩
    have rd6 : readP h6 (.p h1.nx 0) one? = some (.b true) := (okv_ok (load_p he rfl)).1
    simp (disch := omega) only [f86_rs, seqK_r, atK_r, true_and, retK_r, getV_some, oGet_s, readRs_nil, readRs_c, retV_1, Option.some.injEq, exists_eq_left', f2, readRs_c, rd6, hcb, true_and]
    exact hg
end
end Go.Ev
namespace Go.Ev
open Go Go.RowKit
noncomputable def f87_r0 : List EOper := [⟨(some (K.ofNat 2)), none, .box 64 (.t (K.ofNat 0))⟩, ⟨(some (K.ofNat 3)), none, .box 1 (.t (K.ofNat 1))⟩, ⟨(some (K.ofNat 4)), none, .alloc 2 [(.i .i64 (.ofNat 0)), (.i .i64 (.ofNat 0))]⟩, ⟨(some (K.ofNat 5)), none, .alloc 1 [(.b false)]⟩]
noncomputable def f87_r1 : List EOper := [⟨(some (K.ofNat 8)), none, .ld (.t (K.ofNat 3))⟩, ⟨(some (K.ofNat 9)), none, .bin .lss (.t (K.ofNat 8)) (.c (.i .i64 (.ofNat 1)))⟩, ⟨(some (K.ofNat 10)), none, .mv (.t (K.ofNat 9))⟩, ⟨(some (K.ofNat 11)), (some ((K.ofNat 10), false)), .ld (.t (K.ofNat 3))⟩, ⟨(some (K.ofNat 12)), (some ((K.ofNat 10), false)), .bin .geq (.t (K.ofNat 11)) (.c (.i .i64 (.ofNat 64)))⟩, ⟨(some (K.ofNat 13)), none, .pick (.t (K.ofNat 10)) (.c (.b true)) (.t (K.ofNat 12))⟩, ⟨(some (K.ofNat 14)), none, .mv (.t (K.ofNat 13))⟩, ⟨(some (K.ofNat 15)), (some ((K.ofNat 14), false)), .ld (.t (K.ofNat 3))⟩, ⟨(some (K.ofNat 16)), (some ((K.ofNat 14), false)), .iadr 64 1 (.t (K.ofNat 2)) (.t (K.ofNat 15))⟩, ⟨(some (K.ofNat 17)), (some ((K.ofNat 14), false)), .ld (.t (K.ofNat 16))⟩, ⟨(some (K.ofNat 18)), (some ((K.ofNat 14), false)), .not (.t (K.ofNat 17))⟩, ⟨(some (K.ofNat 19)), none, .pick (.t (K.ofNat 14)) (.c (.b true)) (.t (K.ofNat 18))⟩]
noncomputable def f87_r2 : List EOper := [⟨(some (K.ofNat 20)), none, .build [(.i .i64 (.ofNat 0)), (.i .i64 (.ofNat 0))] []⟩, ⟨none, none, .st 2 (.t (K.ofNat 4)) (.t (K.ofNat 20))⟩, ⟨none, none, .st 1 (.t (K.ofNat 5)) (.c (.b false))⟩]
noncomputable def f87_r3 : List EOper := [⟨(some (K.ofNat 21)), none, .build [(.i .i64 (.ofNat 0)), (.i .i64 (.ofNat 0))] []⟩, ⟨(some (K.ofNat 6)), none, .alloc 2 [(.i .i64 (.ofNat 0)), (.i .i64 (.ofNat 0))]⟩, ⟨none, none, .st 2 (.t (K.ofNat 6)) (.t (K.ofNat 21))⟩]
noncomputable def f87_r4 : List EOper := [⟨(some (K.ofNat 22)), none, .ldn 64 (.t (K.ofNat 2))⟩, ⟨(some (K.ofNat 23)), none, .call (.c (.fn (K.ofNat 78) [])) [(.t (K.ofNat 22))]⟩]
noncomputable def f87_r5 : List EOper := [⟨(some (K.ofNat 7)), none, .as (.t (K.ofNat 24))⟩]
noncomputable def f87_a0 : EC := (.reg f87_r5)
noncomputable def f87_r6 : List EOper := [⟨(some (K.ofNat 25)), none, .mv (.t (K.ofNat 7))⟩, ⟨(some (K.ofNat 26)), none, .ld (.t (K.ofNat 3))⟩, ⟨(some (K.ofNat 27)), none, .bin .eql (.t (K.ofNat 25)) (.t (K.ofNat 26))⟩, ⟨(some (K.ofNat 28)), none, .mv (.t (K.ofNat 27))⟩, ⟨(some (K.ofNat 29)), (some ((K.ofNat 28), false)), .ld (.t (K.ofNat 3))⟩, ⟨(some (K.ofNat 30)), (some ((K.ofNat 28), false)), .mv (.t (K.ofNat 7))⟩, ⟨(some (K.ofNat 31)), (some ((K.ofNat 28), false)), .call (.c (.fn (K.ofNat 54) [])) [(.t (K.ofNat 29)), (.t (K.ofNat 30))]⟩, ⟨(some (K.ofNat 32)), (some ((K.ofNat 28), false)), .not (.t (K.ofNat 31))⟩, ⟨(some (K.ofNat 33)), none, .pick (.t (K.ofNat 28)) (.c (.b true)) (.t (K.ofNat 32))⟩]
noncomputable def f87_r7 : List EOper := [⟨(some (K.ofNat 34)), none, .ldn 2 (.t (K.ofNat 6))⟩, ⟨(some (K.ofNat 35)), none, .build [(.i .i64 (.ofNat 0)), (.i .i64 (.ofNat 0))] []⟩, ⟨(some (K.ofNat 36)), none, .eqk (.many [(some .i64), (some .i64)]) true (.t (K.ofNat 34)) (.t (K.ofNat 35))⟩]
noncomputable def f87_r8 : List EOper := [⟨(some (K.ofNat 37)), none, .build [(.i .i64 (.ofNat 0)), (.i .i64 (.ofNat 0))] []⟩, ⟨none, none, .st 2 (.t (K.ofNat 4)) (.t (K.ofNat 37))⟩, ⟨none, none, .st 1 (.t (K.ofNat 5)) (.c (.b false))⟩]
noncomputable def f87_r9 : List EOper := [⟨(some (K.ofNat 38)), none, .ld (.t (K.ofNat 3))⟩, ⟨(some (K.ofNat 39)), none, .mv (.t (K.ofNat 7))⟩, ⟨(some (K.ofNat 40)), none, .build [(.i .i64 (.ofNat 0)), (.i .i64 (.ofNat 0))] [(0, 1, (.t (K.ofNat 38))), (1, 1, (.t (K.ofNat 39)))]⟩, ⟨none, none, .st 2 (.t (K.ofNat 6)) (.t (K.ofNat 40))⟩]
noncomputable def f87_b0 : EC := (.block 1 (.seq (.seq (.reg f87_r6) (.cond (.t (K.ofNat 33)) (.exit 1) .skip)) (.seq (.seq (.reg f87_r7) (.cond (.t (K.ofNat 36)) (.seq (.reg f87_r8) .ret) .skip)) (.reg f87_r9))))
noncomputable def f87_r10 : List Stage := [⟨[⟨(some (K.ofNat 41)), none, .ldn 2 (.t (K.ofNat 6))⟩, ⟨(some (K.ofNat 42)), none, .ldn 2 (.t (K.ofNat 6))⟩, ⟨(some (K.ofNat 43)), none, .build [(.i .i64 (.ofNat 0)), (.i .i64 (.ofNat 0))] []⟩, ⟨(some (K.ofNat 44)), none, .eqk (.many [(some .i64), (some .i64)]) true (.t (K.ofNat 42)) (.t (K.ofNat 43))⟩], [], (some ⟨none, none, .st 2 (.t (K.ofNat 4)) (.t (K.ofNat 41))⟩), []⟩, ⟨[], [⟨(some (K.ofNat 42)), none, .ldn 2 (.t (K.ofNat 6))⟩, ⟨(some (K.ofNat 43)), none, .build [(.i .i64 (.ofNat 0)), (.i .i64 (.ofNat 0))] []⟩, ⟨(some (K.ofNat 44)), none, .eqk (.many [(some .i64), (some .i64)]) true (.t (K.ofNat 42)) (.t (K.ofNat 43))⟩], (some ⟨none, none, .st 1 (.t (K.ofNat 5)) (.t (K.ofNat 44))⟩), []⟩, ⟨[], [], none, []⟩]
noncomputable def f87_c : EC := (.seq (.reg f87_r0) (.seq (.seq (.reg f87_r1) (.cond (.t (K.ofNat 19)) (.seq (.reg f87_r2) .ret) .skip)) (.seq (.reg f87_r3) (.seq (.seq (.reg f87_r4) (.block 0 (.rangeF (.t (K.ofNat 23)) [(K.ofNat 24)] f87_a0 f87_b0))) (.seq (.draw f87_r10) .ret)))))
noncomputable def f87 : EF := ⟨45, [.celln (K.ofNat 4) 2, .cell (K.ofNat 5)], f87_c, none⟩
theorem f87_rs : f87.rs = [.celln (K.ofNat 4) 2, .cell (K.ofNat 5)] := of_eq_true (eq_self _)
section
variable {fs : T EF} {ro : Option K}
noncomputable def ovP (f s : Nat) : Bool := decide ((s : Int) ≠ (f : Int)) && ptI (f : Int) (s : Int)
noncomputable def ovB (B : Nat → Bool) (f : Nat) : List Nat := (mem64 B).filter (ovP f)
/-- What is taken away together with f, if there is just one. -/
noncomputable def colS (B : Nat → Bool) (f : Int) : Option Nat := if 1 ≤ f ∧ f < 64 ∧ B f.toNat = true then (match ovB B f.toNat with | [o] => some o | _ => none) else none
noncomputable def colV (B : Nat → Bool) (f : Int) : V := match colS B f with
  | some o => .tup [.agg [.i .i64 f, .i .i64 (o : Int)], .b true]
  | none => .tup [.agg [.i .i64 0, .i .i64 0], .b false]
structure CaI (b : Nat) (h : H) (B : Nat → Bool) (f : Nat) (k2 k3 k4 k5 k6 kf idl : K) (p q : Int) (lb : Blk) (h1 : H) : Prop where
  gr : Grow b h h1
  e2 : h1.get k2 = .cells 64 (boolV B)
  e3 : h1.get k3 = .cells 1 [.i .i64 (f : Int)]
  e4 : h1.get k4 = .cells 2 [.i .i64 0, .i .i64 0]
  e5 : h1.get k5 = .cells 1 [.b false]
  e6 : h1.get k6 = .cells 2 [.i .i64 p, .i .i64 q]
  ef : h1.get kf = .cells 64 (boolV B)
  el : h1.get idl = lb
  nx : idl.nat + 1 ≤ h1.nx.nat
  o2 : k2.nat < k3.nat
  o3 : k3.nat < k4.nat
  o4 : k4.nat < k5.nat
  o5 : k5.nat < k6.nat
  o6 : k6.nat < kf.nat
  of : kf.nat < idl.nat
  ob : b ≤ k2.nat
section
variable {b : Nat} {h h1 h2 : H} {B : Nat → Bool} {f : Nat} {k2 k3 k4 k5 k6 kf idl : K} {lb : Blk} {p q p' q' : Int}
theorem CaI.loop (t : CaI b h B f k2 k3 k4 k5 k6 kf idl p q lb h1) (lb' : Blk) : CaI b h B f k2 k3 k4 k5 k6 kf idl p q lb' (h1.put idl lb') := by
  obtain ⟨gr, e2, e3, e4, e5, e6, ef, el, nx, o2, o3, o4, o5, o6, of, ob⟩ := t
  exact ⟨gr.trans (Grow.put (by omega) (by omega) _), by rw [get_put_other (kNe (by omega))]; exact e2, by rw [get_put_other (kNe (by omega))]; exact e3, by rw [get_put_other (kNe (by omega))]; exact e4, by rw [get_put_other (kNe (by omega))]; exact e5, by rw [get_put_other (kNe (by omega))]; exact e6, by rw [get_put_other (kNe (by omega))]; exact ef, get_put_same, nx, o2, o3, o4, o5, o6, of, ob⟩
theorem CaI.put (t : CaI b h B f k2 k3 k4 k5 k6 kf idl p q lb h1) : CaI b h B f k2 k3 k4 k5 k6 kf idl p' q' lb (h1.put k6 (.cells 2 [.i .i64 p', .i .i64 q'])) := by
  obtain ⟨gr, e2, e3, e4, e5, e6, ef, el, nx, o2, o3, o4, o5, o6, of, ob⟩ := t
  exact ⟨gr.trans (Grow.put (by omega) (by omega) _), by rw [get_put_other (kNe (by omega))]; exact e2, by rw [get_put_other (kNe (by omega))]; exact e3, by rw [get_put_other (kNe (by omega))]; exact e4, by rw [get_put_other (kNe (by omega))]; exact e5, get_put_same, by rw [get_put_other (kNe (by omega)).symm]; exact ef, by rw [get_put_other (kNe (by omega)).symm]; exact el, nx, o2, o3, o4, o5, o6, of, ob⟩
end
/-- What is found after some of the sets. -/
def fnd (f : Nat) (l : List Nat) : Int × Int := match l with | [] => (0, 0) | o :: _ => ((f : Int), (o : Int))
theorem beq_2 {a b : Int} : beqV (.agg [.i .i64 a, .i .i64 b]) (.agg [.i .i64 a, .i .i64 b]) = true := by
  show (beqV (.i .i64 a) (.i .i64 a) && (beqV (.i .i64 b) (.i .i64 b) && true)) = true
  rw [beq_i, beq_i]; rfl
theorem in0 : inR .i64 (0 : Int) = true := rfl
theorem f87_ret {h : H} {B : Nat → Bool} {f : Int} (hp : ∀ a b h P, CallP fs (.fn (K.ofNat 54) []) [.i .i64 a, .i .i64 b] h P = P (.b (ptI a b)) h)
    (h78 : fs.get (K.ofNat 78) = some f78) (h91 : fs.get (K.ofNat 91) = some alF) (hc : HC h) :
    Ret fs f87 [.agg (boolV B), .i .i64 f] h fun u h' => u = colV B f ∧ Grow h.nx.nat h h' := by
  apply ret_of rfl
  show W fs none f87_c _ _ _
  unfold f87_c
  have n1 := nx_new h (.cells 64 (boolV B))
  have g1 : Grow h.nx.nat h (h.new (.cells 64 (boolV B))) := Grow.new (Nat.le_refl _) _
  have e2 : (h.new (.cells 64 (boolV B))).get h.nx = .cells 64 (boolV B) := get_new_same
  generalize hh1 : h.new (.cells 64 (boolV B)) = h1 at *
  have n2 := nx_new h1 (.cells 1 [.i .i64 f])
  have g2 : Grow h1.nx.nat h1 (h1.new (.cells 1 [.i .i64 f])) := Grow.new (Nat.le_refl _) _
  have e3 : (h1.new (.cells 1 [.i .i64 f])).get h1.nx = .cells 1 [.i .i64 f] := get_new_same
  generalize hh2 : h1.new (.cells 1 [.i .i64 f]) = h2 at *
  have n3 := nx_new h2 (.cells 2 [.i .i64 0, .i .i64 0])
  have g3 : Grow h2.nx.nat h2 (h2.new (.cells 2 [.i .i64 0, .i .i64 0])) := Grow.new (Nat.le_refl _) _
  have e4 : (h2.new (.cells 2 [.i .i64 0, .i .i64 0])).get h2.nx = .cells 2 [.i .i64 0, .i .i64 0] := get_new_same
  generalize hh3 : h2.new (.cells 2 [.i .i64 0, .i .i64 0]) = h3 at *
  have n4 := nx_new h3 (.cells 1 [.b false])
  have g4 : Grow h3.nx.nat h3 (h3.new (.cells 1 [.b false])) := Grow.new (Nat.le_refl _) _
  have e5 : (h3.new (.cells 1 [.b false])).get h3.nx = .cells 1 [.b false] := get_new_same
  generalize hh4 : h3.new (.cells 1 [.b false]) = h4 at *
  have e2 : h4.get h.nx = .cells 64 (boolV B) := by rw [g4.old _ (by omega), g3.old _ (by omega), g2.old _ (by omega)]; exact e2
  have e3 : h4.get h1.nx = .cells 1 [.i .i64 f] := by rw [g4.old _ (by omega), g3.old _ (by omega)]; exact e3
  have e4 : h4.get h2.nx = .cells 2 [.i .i64 0, .i .i64 0] := by rw [g4.old _ (by omega)]; exact e4
  have g14 : Grow h.nx.nat h h4 := g1.trans ((g2.low (by omega)).trans ((g3.low (by omega)).trans (g4.low (by omega))))
  have hA : Ar V.b h4 h.nx (arr B 64) := by unfold Ar; rw [arr_len]; exact e2
  have ld3 : loadV h4 (.p h1.nx 0) one? = .ok (.i .i64 f) h4 := load_p e3 rfl
  -- none is there
  have bad : colS B f = none → ∀ fr : Fr, fr.get (K.ofNat 4) = some (.p h2.nx 0) ∧ fr.get (K.ofNat 5) = some (.p h3.nx 0) → X fs f87_r2 (seqK (W fs none .ret) (retK f87 fun u h' => u = colV B f ∧ Grow h.nx.nat h h') .normal) fr h4 := by
    rintro hn fr ⟨f4, f5⟩
    have s4 := st2 (c := .i .i64 0) (d := .i .i64 0) e4
    have e5' : (h4.put h2.nx (.cells 2 [.i .i64 0, .i .i64 0])).get h3.nx = .cells 1 [.b false] := by rw [get_put_other (kNe (by omega)).symm]; exact e5
    have s5 := st1 (c := .b false) e5' rfl
    have r4 : readP ((h4.put h2.nx (.cells 2 [.i .i64 0, .i .i64 0])).put h3.nx (.cells 1 [.b false])) (.p h2.nx 0) (many? 2) = some (.agg [.i .i64 0, .i .i64 0]) := (okv_ok (ldn2 (by rw [get_put_other (kNe (by omega)), get_put_same]))).1
    have r5 : readP ((h4.put h2.nx (.cells 2 [.i .i64 0, .i .i64 0])).put h3.nx (.cells 1 [.b false])) (.p h3.nx 0) one? = some (.b false) := (okv_ok (load_p get_put_same rfl)).1
    have hv : colV B f = .tup [.agg [.i .i64 0, .i .i64 0], .b false] := by unfold colV; rw [hn]
    simp (disch := omega) only [f87_r2, f87_rs, w_ret, seqK_n, true_and, retK_r, x_nil, x_build, x_st, kx, rvP_ok, ev_t, ev_c, getV_some, putD_some, putD_none, oGet_s, readRs_nil, readRs_c, readRs_n, retV_2, of0, Option.some.injEq, exists_eq_left', getK_set, Nat.reduceEqDiff, ↓reduceIte, f4, f5, fill_0, s4, s5, r4, r5, readRs_n, readRs_c, hv, true_and]
    exact g14.trans ((Grow.put (by omega) (by omega) _).trans (Grow.put (by omega) (by rw [nx_put]; omega) _))
  simp (disch := omega) only [f87_r0, w_reg, w_seq, seqK_n, x_nil, x_alloc, x_box, kx, rvP_ok, ev_t, getV_some, putD_some, oGet_s, frame_2, cells1_i, of0, getK_set, Nat.reduceEqDiff, ↓reduceIte, cells64 (boolV_len (B := B)), hh1, hh2, hh3, hh4]
  by_cases b1 : f < 1
  · simp (disch := omega) only [f87_r1, w_reg, w_seq, w_cond, seqK_n, ckB_b, cbB_b, okG_b, asG_f, true_and, x_nil, x_g, x_mv, x_pick, x_ld, x_bin, kx, rvP_ok, okv_some, ev_t, ev_c, getV_some, putD_some, bin_lss, pick_b, of1, of64, getK_set, Nat.reduceEqDiff, ↓reduceIte, Bool.false_eq_true, Bool.not_true, ld3, b1, decide_true]
    exact bad (by unfold colS; rw [if_neg (by omega)]) _ (by simp (disch := omega) only [getK_set, Nat.reduceEqDiff, ↓reduceIte, and_self])
  by_cases b2 : 64 ≤ f
  · simp (disch := omega) only [f87_r1, w_reg, w_seq, w_cond, seqK_n, ckB_b, cbB_b, okG_b, asG_f, true_and, x_nil, x_g, x_mv, x_pick, x_ld, x_bin, kx, rvP_ok, okv_some, ev_t, ev_c, getV_some, putD_some, bin_lss, bin_geq, pick_b, of1, of64, getK_set, Nat.reduceEqDiff, ↓reduceIte, Bool.false_eq_true, Bool.not_true, Bool.not_false, ld3, b1, b2, decide_true, decide_false]
    exact bad (by unfold colS; rw [if_neg (by omega)]) _ (by simp (disch := omega) only [getK_set, Nat.reduceEqDiff, ↓reduceIte, and_self])
  obtain ⟨m, rfl⟩ := Int.eq_ofNat_of_zero_le (show 0 ≤ f by omega)
  have hm : m < 64 := by omega
  have hld := hA.ld (i := m) (by rw [arr_len]; exact hm)
  rw [arr_at] at hld
  cases b3 : B m
  · rw [b3] at hld
    simp (disch := omega) only [f87_r1, w_reg, w_seq, w_cond, seqK_n, ckB_b, cbB_b, okG_b, asG_f, true_and, x_nil, x_g, x_mv, x_pick, x_ld, x_bin, x_not, x_iadr, kx, rvP_ok, okv_some, ev_t, ev_c, getV_some, putD_some, bin_lss, bin_geq, pick_b, onB_b, onP_p, idx_n, of1, of64, getK_set, Nat.reduceEqDiff, ↓reduceIte, Bool.false_eq_true, Bool.not_false, ld3, b1, b2, decide_false, hld]
    exact bad (by unfold colS; rw [if_neg (fun h => absurd (show B m = true from h.2.2) (by rw [b3]; simp))]) _ (by simp (disch := omega) only [getK_set, Nat.reduceEqDiff, ↓reduceIte, and_self])
  · rw [b3] at hld
    simp (disch := omega) only [f87_r1, w_skip, w_reg, w_seq, w_cond, seqK_n, ckB_b, cbB_b, okG_b, asG_f, true_and, x_nil, x_g, x_mv, x_pick, x_ld, x_bin, x_not, x_iadr, kx, rvP_ok, okv_some, ev_t, ev_c, getV_some, putD_some, bin_lss, bin_geq, pick_b, onB_b, onP_p, idx_n, of1, of64, getK_set, Nat.reduceEqDiff, ↓reduceIte, Bool.false_eq_true, Bool.not_true, Bool.not_false, ld3, b1, b2, decide_false, hld]
    clear bad
    have n5 := nx_new h4 (.cells 2 [.i .i64 0, .i .i64 0])
    have g5 : Grow h4.nx.nat h4 (h4.new (.cells 2 [.i .i64 0, .i .i64 0])) := Grow.new (Nat.le_refl _) _
    have e6' : (h4.new (.cells 2 [.i .i64 0, .i .i64 0])).get h4.nx = .cells 2 [.i .i64 0, .i .i64 0] := get_new_same
    have s6 := st2 (c := .i .i64 0) (d := .i .i64 0) e6'
    have g6 : Grow h4.nx.nat (h4.new (.cells 2 [.i .i64 0, .i .i64 0])) ((h4.new (.cells 2 [.i .i64 0, .i .i64 0])).put h4.nx (.cells 2 [.i .i64 0, .i .i64 0])) := Grow.put (Nat.le_refl _) (by omega) _
    have e6 : ((h4.new (.cells 2 [.i .i64 0, .i .i64 0])).put h4.nx (.cells 2 [.i .i64 0, .i .i64 0])).get h4.nx = .cells 2 [.i .i64 0, .i .i64 0] := get_put_same
    have n6 : ((h4.new (.cells 2 [.i .i64 0, .i .i64 0])).put h4.nx (.cells 2 [.i .i64 0, .i .i64 0])).nx.nat = h4.nx.nat + 1 := n5
    have g46 := g5.trans g6
    simp (disch := omega) only [f87_r3, w_reg, w_seq, seqK_n, x_nil, x_alloc, x_build, x_st, kx, rvP_ok, ev_t, getV_some, putD_some, putD_none, oGet_s, of0, getK_set, Nat.reduceEqDiff, ↓reduceIte, fill_0, s6]
    generalize (h4.new (.cells 2 [.i .i64 0, .i .i64 0])).put h4.nx (.cells 2 [.i .i64 0, .i .i64 0]) = h6 at *
    have hA6 : Ar V.b h6 h.nx (arr B 64) := hA.same (g46.old _ (by omega))
    have ld6 := hA6.ldn (n := 64) (by rw [arr_len])
    simp (disch := omega) only [f87_r4, x_ldn, x_call, kx, rvP_ok, ev_t, ev_c, evs_nil, evs_cons, getV_some, putD_some, getK_set, Nat.reduceEqDiff, ↓reduceIte, ld6]
    refine (callP_0 (ef := f78) h78 rfl (f78_ret (boolV_len (B := B)))).mono ?_
    rintro u h7 ⟨rfl, rfl⟩
    have n7 := nx_new h6 (.cells 64 (boolV B))
    have g7 : Grow h6.nx.nat h6 (h6.new (.cells 64 (boolV B))) := Grow.new (Nat.le_refl _) _
    have e7 : (h6.new (.cells 64 (boolV B))).get h6.nx = .cells 64 (boolV B) := get_new_same
    simp (disch := omega) only [w_block, seqK_n, x_nil, kx, putD_some]
    generalize h6.new (.cells 64 (boolV B)) = h7 at *
    generalize hfr1 : T.set (K.ofNat 23) (V.fn (K.ofNat 91) [V.p h6.nx 0]) _ = fr1
    have f23 : fr1.get (K.ofNat 23) = some (.fn (K.ofNat 91) [.p h6.nx 0]) := by rw [← hfr1]; simp (disch := omega) only [getK_set, ↓reduceIte]
    have f3 : fr1.get (K.ofNat 3) = some (.p h1.nx 0) := by rw [← hfr1]; simp (disch := omega) only [getK_set, Nat.reduceEqDiff, ↓reduceIte]
    have f4 : fr1.get (K.ofNat 4) = some (.p h2.nx 0) := by rw [← hfr1]; simp (disch := omega) only [getK_set, Nat.reduceEqDiff, ↓reduceIte]
    have f5 : fr1.get (K.ofNat 5) = some (.p h3.nx 0) := by rw [← hfr1]; simp (disch := omega) only [getK_set, Nat.reduceEqDiff, ↓reduceIte]
    have f6 : fr1.get (K.ofNat 6) = some (.p h4.nx 0) := by rw [← hfr1]; simp (disch := omega) only [getK_set, Nat.reduceEqDiff, ↓reduceIte]
    clear hfr1
    have n8 := nx_new h7 (rdyB fr1 [(K.ofNat 24)] f87_a0 f87_b0)
    have g8 : Grow h7.nx.nat h7 (h7.new (rdyB fr1 [(K.ofNat 24)] f87_a0 f87_b0)) := Grow.new (Nat.le_refl _) _
    have hlen := ysOf_len (B := B)
    have hm64 := mem64_len (B := B)
    have t0 : CaI h.nx.nat h B m h.nx h1.nx h2.nx h3.nx h4.nx h6.nx h7.nx 0 0 (rdyB fr1 [(K.ofNat 24)] f87_a0 f87_b0) (h7.new (rdyB fr1 [(K.ofNat 24)] f87_a0 f87_b0)) := by
      refine ⟨g14.trans ((g46.low (by omega)).trans ((g7.low (by omega)).trans (g8.low (by omega)))), ?_, ?_, ?_, ?_, ?_, ?_, get_new_same, by omega, by omega, by omega, by omega, by omega, by omega, by omega, Nat.le_refl _⟩
      · rw [g8.old _ (by omega), g7.old _ (by omega), g46.old _ (by omega)]; exact e2
      · rw [g8.old _ (by omega), g7.old _ (by omega), g46.old _ (by omega)]; exact e3
      · rw [g8.old _ (by omega), g7.old _ (by omega), g46.old _ (by omega)]; exact e4
      · rw [g8.old _ (by omega), g7.old _ (by omega), g46.old _ (by omega)]; exact e5
      · rw [g8.old _ (by omega), g7.old _ (by omega)]; exact e6
      · rw [g8.old _ (by omega)]; exact e7
    have hcol : ∀ o, colS B (m : Int) = o ↔ (match ovB B m with | [x] => some x | _ => none) = o := fun o => by
      unfold colS; rw [if_pos ⟨by omega, by omega, b3⟩]; rfl
    refine W_range (k := (K.ofNat 91)) (caps := [.p h6.nx 0]) (N := fun h => h.get h6.nx = .cells 64 (boolV B)) (ys := ysOf B) rfl (by simp (disch := omega) only [ev_t, getV_some, f23]) (all_yields h91 boolV_at)
      (fun j h8 => ∃ lb, CaI h.nx.nat h B m h.nx h1.nx h2.nx h3.nx h4.nx h6.nx h7.nx (fnd m (((mem64 B).take j).filter (ovP m))).1 (fnd m (((mem64 B).take j).filter (ovP m))).2 lb h8 ∧ (((mem64 B).take j).filter (ovP m)).length ≤ 1)
      (fun e h8 => e = .ret ∧ h8.get h2.nx = .cells 2 [.i .i64 0, .i .i64 0] ∧ h8.get h3.nx = .cells 1 [.b false] ∧ Grow h.nx.nat h h8 ∧ colS B (m : Int) = none) (fun i h5 ⟨lb, ht, _⟩ => ht.ef)
      ⟨_, by simp only [List.take_zero, List.filter_nil]; exact t0, by simp⟩ ?_ ?_ ?_
    · rintro j h8 hj ⟨lb, ht, hl1⟩ hrd
      have hj' : j < (mem64 B).length := by omega
      obtain rfl : lb = rdyB fr1 [(K.ofNat 24)] f87_a0 f87_b0 := ht.el.symm.trans hrd
      rw [ysOf_at hj]
      have hs : ((mem64 B).take (j + 1)).filter (ovP m) = ((mem64 B).take j).filter (ovP m) ++ (if ovP m (mem64 B)[j] = true then [(mem64 B)[j]] else []) := by
        rw [List.take_succ_eq_append_getElem hj', List.filter_append]
        cases h : ovP m (mem64 B)[j] <;> simp [h]
      have hsub : (((mem64 B).take (j + 1)).filter (ovP m)).Sublist (ovB B m) := (List.take_sublist _ _).filter _
      have hs64 : (mem64 B)[j] < 64 := by
        have := List.getElem_mem hj'
        unfold mem64 at this
        exact List.mem_range.1 (List.mem_filter.1 this).1
      have hofm : ∀ o ∈ ((mem64 B).take j).filter (ovP m), o < 64 := fun o ho => by
        have := List.mem_of_mem_take (List.mem_filter.1 ho).1
        unfold mem64 at this
        exact List.mem_range.1 (List.mem_filter.1 this).1
      generalize (mem64 B)[j] = s at *
      generalize hofs : ((mem64 B).take j).filter (ovP m) = ofs at *
      rw [show ∀ Q fr h, W fs (some h7.nx) f87_a0 Q fr h = X fs f87_r5 (Q .normal) fr h from fun _ _ _ => rfl]
      simp (disch := omega) only [f87_r5, rndA_n, x_nil, x_as, ev_t, getV_some, putD_some, getK_set, ↓reduceIte]
      refine ⟨ht.el, ?_⟩
      have ht7 := ht.loop (bsyB fr1 [(K.ofNat 24)] f87_a0 f87_b0)
      generalize h8.put h7.nx (bsyB fr1 [(K.ofNat 24)] f87_a0 f87_b0) = h9 at *
      have ld3' : loadV h9 (.p h1.nx 0) one? = .ok (.i .i64 (m : Int)) h9 := load_p ht7.e3 rfl
      have hov : ovP m s = (decide ((s : Int) ≠ (m : Int)) && ptI (m : Int) (s : Int)) := rfl
      rw [show ∀ Q fr h, W fs (some h7.nx) f87_b0 Q fr h = W fs (some h7.nx) (.block 1 (.seq (.seq (.reg f87_r6) (.cond (.t (K.ofNat 33)) (.exit 1) .skip)) (.seq (.seq (.reg f87_r7) (.cond (.t (K.ofNat 36)) (.seq (.reg f87_r8) .ret) .skip)) (.reg f87_r9)))) Q fr h from fun _ _ _ => rfl]
      by_cases hsm : (s : Int) = (m : Int)
      · have hf : ovP m s = false := by rw [hov, decide_eq_false (fun h => h hsm)]; rfl
        rw [hf, if_neg (by simp), List.append_nil] at hs
        simp (disch := omega) only [f87_r6, w_reg, w_seq, w_cond, w_block, w_exit, seqK_n, seqK_e, atK_e, ckB_b, cbB_b, okG_b, asG_f, true_and, rndK_n, x_nil, x_g, x_mv, x_pick, x_ld, x_bin, kx, rvP_ok, okv_some, ev_t, ev_c, getV_some, putD_some, bin_eql, pick_b, getK_set, Nat.reduceEqDiff, ↓reduceIte, Bool.false_eq_true, Bool.not_true, f3, ld3', hsm, decide_true]
        exact ⟨ht7.el, _, by rw [hs]; exact ht7.loop _, by rw [hs]; exact hl1⟩
      · cases hpt : ptI (m : Int) (s : Int)
        · have hf : ovP m s = false := by rw [hov, hpt, Bool.and_false]
          rw [hf, if_neg (by simp), List.append_nil] at hs
          simp (disch := omega) only [f87_r6, w_reg, w_seq, w_cond, w_block, w_exit, seqK_n, seqK_e, atK_e, ckB_b, cbB_b, okG_b, asG_f, true_and, rndK_n, x_nil, x_g, x_mv, x_pick, x_ld, x_bin, x_not, x_call, kx, rvP_ok, okv_some, ev_t, ev_c, evs_nil, evs_cons, getV_some, putD_some, bin_eql, pick_b, onB_b, getK_set, Nat.reduceEqDiff, ↓reduceIte, Bool.false_eq_true, Bool.not_false, f3, ld3', hsm, decide_false, hp, hpt]
          exact ⟨ht7.el, _, by rw [hs]; exact ht7.loop _, by rw [hs]; exact hl1⟩
        · have hf : ovP m s = true := by rw [hov, hpt, decide_eq_true hsm]; rfl
          rw [hf, if_pos rfl] at hs
          have ld6' := ldn2 ht7.e6
          match ofs, hl1, hofs with
          | [], _, hofs =>
            have hke : keyEq (.many [some .i64, some .i64]) (.agg [.i .i64 (fnd m []).1, .i .i64 (fnd m []).2]) (.agg [.i .i64 0, .i .i64 0]) = some true := keyEq_2 in0 in0 in0 in0
            have s9 := st2 (c := .i .i64 (m : Int)) (d := .i .i64 (s : Int)) ht7.e6
            simp (disch := omega) only [f87_r6, f87_r7, f87_r9, w_skip, w_reg, w_seq, w_cond, w_block, seqK_n, atK_n, ckB_b, cbB_b, okG_b, asG_f, true_and, rndK_n, x_nil, x_g, x_mv, x_pick, x_build, x_ld, x_ldn, x_st, x_bin, x_eqk, x_not, x_call, kx, rvP_ok, okv_some, ev_t, ev_c, evs_nil, evs_cons, getV_some, putD_some, putD_none, bin_eql, pick_b, onB_b, oGet_s, cells1_i, of0, getK_set, Nat.reduceEqDiff, ↓reduceIte, Bool.false_eq_true, Bool.not_true, Bool.not_false, f3, f6, ld3', hsm, decide_false, hp, hpt, ld6', fill_0, hke, cond_true, fill_2, set_2, s9]
            exact ⟨ht7.put.el, _, by rw [hs]; exact ht7.put.loop _, by rw [hs]; simp⟩
          | [o], _, hofs =>
            have ho := hofm o (by simp)
            have hke : keyEq (.many [some .i64, some .i64]) (.agg [.i .i64 (fnd m [o]).1, .i .i64 (fnd m [o]).2]) (.agg [.i .i64 0, .i .i64 0]) = some false := by
              show keyEq (.many [some .i64, some .i64]) (.agg [.i .i64 (m : Int), .i .i64 (o : Int)]) (.agg [.i .i64 0, .i .i64 0]) = _
              rw [keyEq_2 (inR_n (by omega)) (inR_n (by omega)) in0 in0, decide_eq_false (by omega)]; rfl
            have hcn : colS B (m : Int) = none := by
              rw [hcol]
              have h2 := hsub.length_le
              rw [hs] at h2
              simp only [List.length_append, List.length_cons, List.length_nil] at h2
              split
              · rename_i x hx; rw [hx] at h2; simp at h2
              · rfl
            have s9 := st2 (c := .i .i64 0) (d := .i .i64 0) ht7.e4
            obtain ⟨gr, q2, q3, q4, q5, q6, qf, el, nx, o2, o3, o4, o5, o6, of, ob⟩ := ht7
            have q5' : (h9.put h2.nx (.cells 2 [.i .i64 0, .i .i64 0])).get h3.nx = .cells 1 [.b false] := by rw [get_put_other (kNe (by omega)).symm]; exact q5
            have s10 := st1 (c := .b false) q5' rfl
            simp (disch := omega) only [f87_r6, f87_r7, f87_r8, w_skip, w_reg, w_seq, w_cond, w_block, w_ret, seqK_n, seqK_r, atK_r, ckB_b, cbB_b, okG_b, asG_f, true_and, rndK_r, x_nil, x_g, x_mv, x_pick, x_build, x_ld, x_ldn, x_st, x_bin, x_eqk, x_not, x_call, kx, rvP_ok, okv_some, ev_t, ev_c, evs_nil, evs_cons, getV_some, putD_some, putD_none, bin_eql, pick_b, onB_b, oGet_s, of0, getK_set, Nat.reduceEqDiff, ↓reduceIte, Bool.false_eq_true, Bool.not_true, Bool.not_false, f3, f4, f5, f6, ld3', hsm, decide_false, hp, hpt, ld6', fill_0, hke, cond_true, s9, s10]
            refine ⟨by rw [get_put_other (kNe (by omega)).symm, get_put_other (kNe (by omega)).symm]; exact el, ?_, ?_, ?_, hcn⟩
            · rw [get_put_other (kNe (by omega)), get_put_other (kNe (by omega)), get_put_same]
            · rw [get_put_other (kNe (by omega)), get_put_same]
            · exact gr.trans ((Grow.put (by omega) (by omega) _).trans ((Grow.put (by omega) (by rw [nx_put]; omega) _).trans (Grow.put (by omega) (by rw [nx_put, nx_put]; omega) _)))
          | _ :: _ :: _, hl, _ => simp at hl
    · rintro h8 ⟨lb, ht, hl1⟩
      rw [hlen, List.take_length] at ht hl1
      change CaI h.nx.nat h B m h.nx h1.nx h2.nx h3.nx h4.nx h6.nx h7.nx (fnd m (ovB B m)).1 (fnd m (ovB B m)).2 lb h8 at ht
      change (ovB B m).length ≤ 1 at hl1
      have hofm : ∀ o ∈ ovB B m, o < 64 := fun o ho => by
        have := (List.mem_filter.1 ho).1
        unfold mem64 at this
        exact List.mem_range.1 (List.mem_filter.1 this).1
      have hres : colV B (m : Int) = .tup [.agg [.i .i64 (fnd m (ovB B m)).1, .i .i64 (fnd m (ovB B m)).2], .b (decide (ovB B m ≠ []))] := by
        unfold colV
        rw [(hcol _).2 rfl]
        generalize ovB B m = l at *
        match l, hl1 with
        | [], _ => rfl
        | [o], _ => rfl
        | _ :: _ :: _, hl => simp at hl
      have hke : keyEq (.many [some .i64, some .i64]) (.agg [.i .i64 (fnd m (ovB B m)).1, .i .i64 (fnd m (ovB B m)).2]) (.agg [.i .i64 0, .i .i64 0]) = some (!decide (ovB B m ≠ [])) := by
        generalize ovB B m = l at *
        match l, hl1 with
        | [], _ => exact keyEq_2 in0 in0 in0 in0
        | [o], _ =>
          have ho := hofm o (by simp)
          show keyEq (.many [some .i64, some .i64]) (.agg [.i .i64 (m : Int), .i .i64 (o : Int)]) (.agg [.i .i64 0, .i .i64 0]) = _
          rw [keyEq_2 (inR_n (by omega)) (inR_n (by omega)) in0 in0, decide_eq_false (by omega)]; rfl
        | _ :: _ :: _, hl => simp at hl
      rw [hres]
      generalize (fnd m (ovB B m)).1 = a at *
      generalize (fnd m (ovB B m)).2 = c at *
      generalize decide (ovB B m ≠ []) = r at *
      have ht2 := ht.loop .dead
      obtain ⟨gr, q2, q3, q4, q5, q6, qf, el, nx, o2, o3, o4, o5, o6, of, ob⟩ := ht2
      generalize h8.put h7.nx .dead = h9 at *
      have ld9 := ldn2 q6
      have s9 := st2 (c := .i .i64 a) (d := .i .i64 c) q4
      have q6' : (h9.put h2.nx (.cells 2 [.i .i64 a, .i .i64 c])).get h4.nx = .cells 2 [.i .i64 a, .i .i64 c] := by rw [get_put_other (kNe (by omega)).symm]; exact q6
      have ld9' := ldn2 q6'
      have q5' : (h9.put h2.nx (.cells 2 [.i .i64 a, .i .i64 c])).get h3.nx = .cells 1 [.b false] := by rw [get_put_other (kNe (by omega)).symm]; exact q5
      have s10 := st1 (c := .b r) q5' rfl
      have r4 : readP ((h9.put h2.nx (.cells 2 [.i .i64 a, .i .i64 c])).put h3.nx (.cells 1 [.b r])) (.p h2.nx 0) (many? 2) = some (.agg [.i .i64 a, .i .i64 c]) := (okv_ok (ldn2 (by rw [get_put_other (kNe (by omega)), get_put_same]))).1
      have r5 : readP ((h9.put h2.nx (.cells 2 [.i .i64 a, .i .i64 c])).put h3.nx (.cells 1 [.b r])) (.p h3.nx 0) one? = some (.b r) := (okv_ok (load_p get_put_same rfl)).1
      simp (disch := omega) only [f87_r10, f87_rs, w_draw, w_seq, w_ret, seqK_n, atK_n, true_and, retK_r, x_nil, x_st, kx, kg, xg_nil, xg_build, xg_ldn, xg_eqk, xd_cons, fresh_nil, stK_n, stK_s, stay_nil, stay_cons, again_ok, beq_b, rvP_ok, okv_some, ev_t, getV_some, putD_some, putD_none, oGet_s, readRs_nil, readRs_c, readRs_n, retV_2, of0, Option.some.injEq, exists_eq_left', getK_set, Nat.reduceEqDiff, ↓reduceIte, f4, f5, f6, ld9, fill_0, hke, cond_true, Bool.not_not, s9, ld9', stay_ldn, stay_build, stay_eqk, beq_2, beq_b, and_self, s10, readRs_n, readRs_c, r4, r5, true_and]
      exact gr.trans ((Grow.put (by omega) (by omega) _).trans (Grow.put (by omega) (by rw [nx_put]; omega) _))
    · rintro e h8 hne ⟨rfl, q4, q5, hg, hcn⟩
      have r4 : readP h8 (.p h2.nx 0) (many? 2) = some (.agg [.i .i64 0, .i .i64 0]) := (okv_ok (ldn2 q4)).1
      have r5 : readP h8 (.p h3.nx 0) one? = some (.b false) := (okv_ok (load_p q5 rfl)).1
      have hv : colV B (m : Int) = .tup [.agg [.i .i64 0, .i .i64 0], .b false] := by unfold colV; rw [hcn]
      simp (disch := omega) only [f87_rs, seqK_r, atK_r, true_and, retK_r, getV_some, oGet_s, readRs_nil, readRs_c, readRs_n, retV_2, Option.some.injEq, exists_eq_left', f4, f5, readRs_n, readRs_c, r4, r5, hv, true_and]
      exact hg
end
end Go.Ev
namespace Go.Ev
open Go Go.RowKit
/-- Nothing beyond the sets of six corners. -/
def Low (B : Nat → Bool) : Prop := ∀ i, 64 ≤ i → B i = false
theorem low_ext {B B' : Nat → Bool} (h : Low B) (h' : Low B') (e : arr B 64 = arr B' 64) : B = B' := by
  funext i
  by_cases hi : i < 64
  · have h1 : (arr B 64)[i]'(by rw [arr_len]; exact hi) = (arr B' 64)[i]'(by rw [arr_len]; exact hi) := by simp only [e]
    rwa [arr_at, arr_at] at h1
  · rw [h i (by omega), h' i (by omega)]
theorem low_less {B : Nat → Bool} {f o : Nat} (h : Low B) : Low (lessB B f o) := fun i hi => by
  unfold lessB
  split
  · rfl
  · split
    · rfl
    · exact h i hi
def card (B : Nat → Bool) : Nat := (mem64 B).length
theorem col_mem {B : Nat → Bool} {f : Int} {o : Nat} (h : colS B f = some o) : ∃ m : Nat, f = (m : Int) ∧ 1 ≤ m ∧ m < 64 ∧ B m = true ∧ ovB B m = [o] ∧ o < 64 ∧ B o = true ∧ o ≠ m := by
  unfold colS at h
  split at h
  · rename_i hc
    obtain ⟨m, rfl⟩ := Int.eq_ofNat_of_zero_le (show 0 ≤ f by omega)
    have h3 : B m = true := hc.2.2
    change (match ovB B m with | [o] => some o | _ => none) = some o at h
    have hov : ovB B m = [o] := by
      generalize ovB B m = l at h
      match l with
      | [] => cases h
      | [x] => cases h; rfl
      | _ :: _ :: _ => cases h
    have hm : o ∈ ovB B m := by rw [hov]; simp
    unfold ovB at hm
    obtain ⟨h4, h5⟩ := List.mem_filter.1 hm
    unfold mem64 at h4
    obtain ⟨h6, h7⟩ := List.mem_filter.1 h4
    unfold ovP at h5
    rw [Bool.and_eq_true, decide_eq_true_eq] at h5
    exact ⟨m, rfl, by omega, by omega, h3, hov, List.mem_range.1 h6, h7, fun e => h5.1 (by rw [e])⟩
  · cases h
theorem filter_lt {α : Type} {p q : α → Bool} : ∀ (l : List α), (∀ x ∈ l, p x = true → q x = true) → ∀ y ∈ l, q y = true → p y = false → (l.filter p).length < (l.filter q).length
  | [], _, y, hy, _, _ => by cases hy
  | x :: l, h, y, hy, h1, h2 => by
    have hle : (l.filter p).length ≤ (l.filter q).length := by
      have : ∀ l : List α, (∀ x ∈ l, p x = true → q x = true) → (l.filter p).length ≤ (l.filter q).length := by
        intro l
        induction l with
        | nil => intro _; exact Nat.le_refl _
        | cons a l ih =>
          intro hl
          have := ih fun z hz => hl z (List.mem_cons_of_mem _ hz)
          cases ea : p a <;> cases eb : q a <;> simp only [List.filter_cons, ea, eb, if_true, if_false, Bool.false_eq_true, List.length_cons] <;> try omega
          have := hl a (by simp) ea
          rw [eb] at this; cases this
      exact this l fun z hz => h z (List.mem_cons_of_mem _ hz)
    rcases List.mem_cons.1 hy with rfl | hy
    · simp only [List.filter_cons, h1, h2, if_true, if_false, Bool.false_eq_true, List.length_cons]; omega
    · have ih := filter_lt l (fun z hz => h z (List.mem_cons_of_mem _ hz)) y hy h1 h2
      cases ea : p x <;> cases eb : q x <;> simp only [List.filter_cons, ea, eb, if_true, if_false, Bool.false_eq_true, List.length_cons] <;> try omega
      have := h x (by simp) ea
      rw [eb] at this; cases this
theorem card_less {B : Nat → Bool} {m o : Nat} (hm : m < 64) (hB : B m = true) : card (lessB B m o) < card B := by
  unfold card mem64
  refine filter_lt _ (fun x _ h => ?_) m (List.mem_range.2 hm) hB ?_
  · unfold lessB at h
    split at h
    · cases h
    · split at h
      · cases h
      · exact h
  · unfold lessB
    split
    · rfl
    · rw [if_pos rfl]
/-- Collapses lead to a corner. -/
inductive ToC : (Nat → Bool) → Prop
  | corner {B : Nat → Bool} : cornB B = true → ToC B
  | step {B : Nat → Bool} {f : Nat} {o : Nat} : colS B (f : Int) = some o → ToC (lessB B f o) → ToC B
/-- These collapses, one after another, lead to a corner. -/
def SeqC : (Nat → Bool) → List (Nat × Nat) → Prop
  | B, [] => cornB B = true
  | B, (f, o) :: l => colS B (f : Int) = some o ∧ SeqC (lessB B f o) l
theorem SeqC.to : ∀ {l : List (Nat × Nat)} {B : Nat → Bool}, SeqC B l → ToC B
  | [], _, h => .corner h
  | (_, _) :: _, _, h => .step h.1 (SeqC.to h.2)
/-- What was tried: no corner can be left of it, or it is greater than c. -/
def TrC (M : List (List Bool)) (c : Nat) : Prop := ∀ x ∈ M, ∃ B, Low B ∧ x = arr B 64 ∧ (¬ ToC B ∨ c < card B)
theorem TrC.len {M : List (List Bool)} {c : Nat} (t : TrC M c) : ∀ x ∈ M, x.length = 64 := fun x hx => by
  obtain ⟨B, _, rfl, _⟩ := t x hx; exact arr_len
theorem TrC.hit {M : List (List Bool)} {B : Nat → Bool} (t : TrC M (card B)) (hB : Low B) (h : arr B 64 ∈ M) : ¬ ToC B := by
  obtain ⟨B', h1, h2, h3⟩ := t _ h
  have := low_ext hB h1 h2
  subst this
  exact h3.elim id fun h => absurd h (Nat.lt_irrefl _)
/-- What was tried is as before, or no corner can be left of it. -/
def MoreC (M M' : List (List Bool)) : Prop := ∀ x ∈ M', x ∈ M ∨ ∃ B, Low B ∧ x = arr B 64 ∧ ¬ ToC B
theorem MoreC.refl {M : List (List Bool)} : MoreC M M := fun _ h => .inl h
theorem MoreC.trans {M M' M'' : List (List Bool)} (a : MoreC M M') (b : MoreC M' M'') : MoreC M M'' := fun x hx => by
  rcases b x hx with h | h
  · exact a x h
  · exact .inr h
theorem TrC.more {M M' : List (List Bool)} {c : Nat} (t : TrC M c) (m : MoreC M M') : TrC M' c := fun x hx => by
  rcases m x hx with h | ⟨B, h1, h2, h3⟩
  · exact t x h
  · exact ⟨B, h1, h2, .inl h3⟩
theorem TrC.add {M : List (List Bool)} {B : Nat → Bool} {c : Nat} (t : TrC M (card B)) (hB : Low B) (hc : c < card B) : TrC (M ++ [arr B 64]) c := fun x hx => by
  rcases List.mem_append.1 hx with h | h
  · obtain ⟨B', h1, h2, h3⟩ := t x h
    exact ⟨B', h1, h2, h3.imp id fun h => by omega⟩
  · exact ⟨B, hB, by simpa using h, .inr hc⟩
theorem MoreC.add {M : List (List Bool)} {B : Nat → Bool} (hB : Low B) (hn : ¬ ToC B) : MoreC M (M ++ [arr B 64]) := fun x hx => by
  rcases List.mem_append.1 hx with h | h
  · exact .inl h
  · exact .inr ⟨B, hB, by simpa using h, hn⟩
/-- No collapse leads on. -/
theorem no_col {B : Nat → Bool} (hc : cornB B = false) (h : ∀ f ∈ mem64 B, ∀ o, colS B (f : Int) = some o → ¬ ToC (lessB B f o)) : ¬ ToC B := by
  intro t
  cases t with
  | corner h1 => rw [hc] at h1; cases h1
  | @step _ f o h1 h2 =>
    obtain ⟨m, e, _, h3, h4, _⟩ := col_mem h1
    have : f = m := by omega
    subst this
    exact h f (by unfold mem64; rw [List.mem_filter, List.mem_range]; exact ⟨h3, h4⟩) o h1 h2
end Go.Ev
namespace Go.Ev
open Go Go.RowKit
structure CIds where
  (F M T W : K)
structure CIdsOk (b c : Nat) (d : CIds) : Prop where
  a1 : b ≤ d.F.nat
  a2 : d.F.nat < d.M.nat
  a3 : d.M.nat < d.T.nat
  a4 : d.T.nat < d.W.nat
  a5 : d.W.nat < c
noncomputable def capsC (d : CIds) : List V := [.p d.T 0, .p d.F 0, .p d.W 0]
def pE (x : Nat × Nat) : List V := [.i .i64 (x.1 : Int), .i .i64 (x.2 : Int)]
theorem pE_len : ∀ x, (pE x).length = 2 := fun _ => rfl
structure CSt (b c : Nat) (h0 : H) (d : CIds) (M : List (List Bool)) (C : List (Nat × Nat)) (w : V) (h : H) : Prop where
  gr : Grow b h0 h
  nx : c ≤ h.nx.nat
  eF : h.get d.F = .cells 1 [w]
  eM : MapI h d.M 67 M
  eT : h.get d.T = .cells 1 [.m d.M]
  eW : h.get d.W = .cells 1 [.fn (K.ofNat 85) (capsC d)]
  sw : Sk 2 pE h w C
  ow : Own c w
/-- What lies beside stays. -/
def KeptC (c : Nat) (h : H) (w : V) (h' : H) (w' : V) : Prop := h.nx.nat ≤ h'.nx.nat ∧ ∀ id : K, c ≤ id.nat → id.nat < h.nx.nat → NotIn id w → h'.get id = h.get id ∧ NotIn id w'
section
variable {b c : Nat} {h0 h h' h1 h2 : H} {d : CIds} {M : List (List Bool)} {C : List (Nat × Nat)} {w w1 w2 : V}
theorem KeptC.trans (k : KeptC c h w h1 w1) (l : KeptC c h1 w1 h2 w2) : KeptC c h w h2 w2 := by
  refine ⟨Nat.le_trans k.1 l.1, fun id h1 h2 h3 => ?_⟩
  obtain ⟨q1, q2⟩ := k.2 id h1 h2 h3
  have := k.1
  obtain ⟨q4, q5⟩ := l.2 id h1 (by omega) q2
  exact ⟨q4.trans q1, q5⟩
theorem KeptC.grow (g : Grow h.nx.nat h h') : KeptC c h w h' w := ⟨g.nx, fun id _ h2 h3 => ⟨g.old id h2, h3⟩⟩
theorem KeptC.put {id : K} {x : Blk} (hi : id.nat < c) : KeptC c h w (h.put id x) w := ⟨Nat.le_refl _, fun id' h1 _ h3 => ⟨get_put_other (kNe (by omega)).symm, h3⟩⟩
/-- A store above what was there. -/
theorem KeptC.above (k : KeptC c h w h1 w1) {id : K} {x : Blk} (hi : h.nx.nat ≤ id.nat) : KeptC c h w (h1.put id x) w1 := ⟨k.1, fun id' i1 i2 i3 => by
  obtain ⟨q1, q2⟩ := k.2 id' i1 i2 i3
  exact ⟨by rw [get_put_other (kNe (by omega))]; exact q1, q2⟩⟩
theorem CSt.hc (t : CSt b c h0 d M C w h) (h1 : HC h0) : HC h := t.gr.hc h1
theorem CSt.grow (t : CSt b c h0 d M C w h) (h1 : HC h0) (k : CIdsOk b c d) (g : Grow h.nx.nat h h') : CSt b c h0 d M C w h' := by
  have := t.nx; have := g.nx; obtain ⟨a1, a2, a3, a4, a5⟩ := k
  have hc := t.hc h1
  exact ⟨t.gr.trans (g.low (by omega)), by omega, by rw [g.old _ (by omega)]; exact t.eF, by unfold MapI; rw [g.old _ (by omega)]; exact t.eM, by rw [g.old _ (by omega)]; exact t.eT, by rw [g.old _ (by omega)]; exact t.eW, t.sw.grow hc g, t.ow⟩
/-- A store beside. -/
theorem CSt.beside (t : CSt b c h0 d M C w h) (k : CIdsOk b c d) {id : K} {x : Blk} (h1 : c ≤ id.nat) (h2 : id.nat < h.nx.nat) (h3 : NotIn id w) : CSt b c h0 d M C w (h.put id x) := by
  have := t.nx; obtain ⟨a1, a2, a3, a4, a5⟩ := k
  have ne : ∀ j : K, j.nat < c → (h.put id x).get j = h.get j := fun j hj => get_put_other (kNe (by omega))
  exact ⟨t.gr.trans (Grow.put (by omega) h2 _), t.nx, by rw [ne _ (by omega)]; exact t.eF, by unfold MapI; rw [ne _ (by omega)]; exact t.eM, by rw [ne _ (by omega)]; exact t.eT, by rw [ne _ (by omega)]; exact t.eW, t.sw.put h3 _, t.ow⟩
/-- The map gets an entry. -/
theorem CSt.mark (t : CSt b c h0 d M C w h) (k : CIdsOk b c d) {M' : List (List Bool)} {x : Blk} (h1 : MapI (h.put d.M x) d.M 67 M') : CSt b c h0 d M' C w (h.put d.M x) := by
  have := t.nx; obtain ⟨a1, a2, a3, a4, a5⟩ := k
  have n1 := t.ow.notIn (id := d.M) (by omega)
  exact ⟨t.gr.trans (Grow.put (by omega) (by omega) _), t.nx, by rw [get_put_other (kNe (by omega))]; exact t.eF, h1, by rw [get_put_other (kNe (by omega)).symm]; exact t.eT, by rw [get_put_other (kNe (by omega)).symm]; exact t.eW, t.sw.put n1 _, t.ow⟩
/-- The slice has turned, and lies in its box. -/
theorem CSt.turn {C' : List (Nat × Nat)} {w' : V} (t : CSt b c h0 d M C w h) (k : CIdsOk b c d) (g : Grow c h h2) (sw : Sk 2 pE h2 w' C') (ow : Own c w') : CSt b c h0 d M C' w' (h2.put d.F (.cells 1 [w'])) := by
  have := t.nx; have := g.nx; obtain ⟨a1, a2, a3, a4, a5⟩ := k
  have ne : ∀ j : K, j.nat < c → j ≠ d.F → (h2.put d.F (.cells 1 [w'])).get j = h.get j := fun j hj n1 => by rw [get_put_other n1, g.old _ hj]
  exact ⟨(t.gr.trans (g.low (by omega))).trans (Grow.put (by omega) (by omega) _), by rw [nx_put]; omega, get_put_same, by unfold MapI; rw [ne _ (by omega) (kNe (by omega)).symm]; exact t.eM, by rw [ne _ (by omega) (kNe (by omega)).symm]; exact t.eT, by rw [ne _ (by omega) (kNe (by omega)).symm]; exact t.eW, sw.put (ow.notIn (by omega)) _, ow⟩
theorem CSt.ldF (t : CSt b c h0 d M C w h) : loadV h (.p d.F 0) one? = .ok w h := load_p t.eF rfl
theorem CSt.ldT (t : CSt b c h0 d M C w h) : loadV h (.p d.T 0) one? = .ok (.m d.M) h := load_p t.eT rfl
theorem CSt.ldW (t : CSt b c h0 d M C w h) : loadV h (.p d.W 0) one? = .ok (.fn (K.ofNat 85) (capsC d)) h := load_p t.eW rfl
/-- found = append(found, x) -/
theorem CSt.push (t : CSt b c h0 d M C w h) (h1 : HC h0) (k : CIdsOk b c d) (x : Nat × Nat) (hn : C.length < 1000000) :
    ∃ w' h3, appV 2 (h.new (.cells (1 * 2) (pE x))) w (.sl h.nx 0 1 2) = .ok w' h3 ∧ storeV h3 1 (.p d.F 0) w' = .ok undefV (h3.put d.F (.cells 1 [w'])) ∧ CSt b c h0 d M (C ++ [x]) w' (h3.put d.F (.cells 1 [w'])) ∧ KeptC c h w (h3.put d.F (.cells 1 [w'])) w' := by
  have hc := t.hc h1
  have nx := t.nx
  have kk := k
  obtain ⟨a1, a2, a3, a4, a5⟩ := k
  obtain ⟨w', h3, p1, p2, p3, p4, p5⟩ := Sk.push (b := c) pE_len (by omega) (x := x) t.sw t.ow nx hc (by omega)
  have e3 : h3.get d.F = .cells 1 [w] := by rw [p4.old _ (by omega)]; exact t.eF
  refine ⟨w', h3, p1, ?_, t.turn kk p4 p2 p3, p4.nx, fun id i1 i2 i3 => ?_⟩
  · rw [store_p e3 p2.one (by omega)]; rfl
  · obtain ⟨q1, q2⟩ := p5 id i2 i3
    exact ⟨by rw [get_put_other (kNe (by omega)).symm]; exact q1, q2⟩
/-- found = found[:len(found)-1] -/
theorem CSt.pop {x : Nat × Nat} (t : CSt b c h0 d M (C ++ [x]) w h) (k : CIdsOk b c d) :
    ∃ w', (∀ kk h1, sliceB 2 w none (some (.i kk (C.length : Int))) none h1 = .ok w' h1) ∧ storeV h 1 (.p d.F 0) w' = .ok undefV (h.put d.F (.cells 1 [w'])) ∧ CSt b c h0 d M C w' (h.put d.F (.cells 1 [w'])) ∧ KeptC c h w (h.put d.F (.cells 1 [w'])) w' := by
  have kk := k
  obtain ⟨a1, a2, a3, a4, a5⟩ := k
  obtain ⟨w', p1, p2, p3, p4⟩ := t.sw.cut (kk := .i64) (u := C.length) pE_len (by simp)
  have e1 : (C ++ [x]).take C.length = C := by simp
  rw [e1] at p2
  refine ⟨w', ?_, ?_, t.turn kk (Grow.refl _ _) p2 (p3 _ t.ow), Nat.le_refl _, fun id i1 i2 i3 => ⟨get_put_other (kNe (by omega)).symm, p4 id i3⟩⟩
  · intro kk h1; rw [← p1 h1]; cases w <;> rfl
  · rw [store_p t.eF p2.one (by omega)]; rfl
end
/-- Blocks of a call of its own. -/
def Loc (c : Nat) (ks : List (K × Blk)) (h : H) (w : V) : Prop := ∀ p ∈ ks, h.get p.1 = p.2 ∧ NotIn p.1 w ∧ c ≤ p.1.nat ∧ p.1.nat < h.nx.nat
theorem Loc.kept {c : Nat} {ks : List (K × Blk)} {h h' : H} {w w' : V} (l : Loc c ks h w) (k : KeptC c h w h' w') : Loc c ks h' w' := fun p hp => by
  obtain ⟨a, b, c1, d⟩ := l p hp
  obtain ⟨q1, q2⟩ := k.2 p.1 c1 d b
  have := k.1
  exact ⟨q1.trans a, q2, c1, by omega⟩
/-- The state in a round. -/
structure FoI (b c : Nat) (h0 : H) (d : CIds) (B : Nat → Bool) (M : List (List Bool)) (C : List (Nat × Nat)) (w : V) (he : H) (we : V) (id4 id6 kf idl : K) (lb : Blk) (h1 : H) : Prop where
  st : CSt b c h0 d M C w h1
  kp : KeptC c he we h1 w
  lc : Loc c [(id4, .cells 64 (boolV B)), (id6, .cells 1 [.b false]), (kf, .cells 64 (boolV B)), (idl, lb)] h1 w
  o4 : he.nx.nat ≤ id4.nat
  o6 : id4.nat < id6.nat
  of : id6.nat < kf.nat
  ol : kf.nat < idl.nat
section
variable {b c : Nat} {h0 he h1 h2 : H} {d : CIds} {B : Nat → Bool} {M M' : List (List Bool)} {C C' : List (Nat × Nat)} {w w' we : V} {id4 id6 kf idl : K} {lb : Blk}
theorem FoI.e4 (t : FoI b c h0 d B M C w he we id4 id6 kf idl lb h1) : h1.get id4 = .cells 64 (boolV B) := (t.lc (id4, .cells 64 (boolV B)) (by simp)).1
theorem FoI.e6 (t : FoI b c h0 d B M C w he we id4 id6 kf idl lb h1) : h1.get id6 = .cells 1 [.b false] := (t.lc (id6, .cells 1 [.b false]) (by simp)).1
theorem FoI.ef (t : FoI b c h0 d B M C w he we id4 id6 kf idl lb h1) : h1.get kf = .cells 64 (boolV B) := (t.lc (kf, .cells 64 (boolV B)) (by simp)).1
theorem FoI.el (t : FoI b c h0 d B M C w he we id4 id6 kf idl lb h1) : h1.get idl = lb := (t.lc (idl, lb) (by simp)).1
theorem FoI.ll (t : FoI b c h0 d B M C w he we id4 id6 kf idl lb h1) : NotIn idl w ∧ c ≤ idl.nat ∧ idl.nat < h1.nx.nat := (t.lc (idl, lb) (by simp)).2
theorem FoI.loop (t : FoI b c h0 d B M C w he we id4 id6 kf idl lb h1) (k : CIdsOk b c d) (lb' : Blk) : FoI b c h0 d B M C w he we id4 id6 kf idl lb' (h1.put idl lb') := by
  obtain ⟨n1, n2, n3⟩ := t.ll
  have := t.o4; have := t.o6; have := t.of; have := t.ol
  refine ⟨t.st.beside k n2 n3 n1, t.kp.above (by omega), fun p hp => ?_, t.o4, t.o6, t.of, t.ol⟩
  simp only [List.mem_cons, List.not_mem_nil, or_false] at hp
  have old := t.lc
  rcases hp with rfl | rfl | rfl | rfl
  · obtain ⟨a, b⟩ := old (id4, .cells 64 (boolV B)) (by simp)
    exact ⟨by show (h1.put idl lb').get id4 = _; rw [get_put_other (kNe (by omega))]; exact a, b⟩
  · obtain ⟨a, b⟩ := old (id6, .cells 1 [.b false]) (by simp)
    exact ⟨by show (h1.put idl lb').get id6 = _; rw [get_put_other (kNe (by omega))]; exact a, b⟩
  · obtain ⟨a, b⟩ := old (kf, .cells 64 (boolV B)) (by simp)
    exact ⟨by show (h1.put idl lb').get kf = _; rw [get_put_other (kNe (by omega))]; exact a, b⟩
  · exact ⟨get_put_same, n1, n2, n3⟩
theorem FoI.next (t : FoI b c h0 d B M C w he we id4 id6 kf idl lb h1) (st : CSt b c h0 d M' C' w' h2) (kp : KeptC c h1 w h2 w') : FoI b c h0 d B M' C' w' he we id4 id6 kf idl lb h2 :=
  ⟨st, t.kp.trans kp, t.lc.kept kp, t.o4, t.o6, t.of, t.ol⟩
end
end Go.Ev
namespace Go.Ev
open Go Go.RowKit
noncomputable def f85_r0 : List EOper := [⟨(some (K.ofNat 4)), none, .box 64 (.t (K.ofNat 0))⟩, ⟨(some (K.ofNat 5)), none, .as (.c (.b false))⟩]
noncomputable def f85_r1 : List EOper := [⟨(some (K.ofNat 10)), none, .ldn 64 (.t (K.ofNat 4))⟩, ⟨(some (K.ofNat 11)), none, .call (.c (.fn (K.ofNat 86) [])) [(.t (K.ofNat 10))]⟩, ⟨(some (K.ofNat 6)), none, .alloc 1 [(.b false)]⟩, ⟨none, none, .st 1 (.t (K.ofNat 6)) (.t (K.ofNat 11))⟩]
noncomputable def f85_r2 : List EOper := [⟨(some (K.ofNat 12)), none, .ld (.t (K.ofNat 6))⟩, ⟨(some (K.ofNat 13)), none, .mv (.t (K.ofNat 12))⟩, ⟨(some (K.ofNat 14)), (some ((K.ofNat 13), false)), .ld (.t (K.ofNat 1))⟩, ⟨(some (K.ofNat 15)), (some ((K.ofNat 13), false)), .ldn 64 (.t (K.ofNat 4))⟩, ⟨(some (K.ofNat 16)), (some ((K.ofNat 13), false)), .look 67 (.many (List.replicate 64 none)) (.b false) (.t (K.ofNat 14)) (.t (K.ofNat 15)) false⟩, ⟨(some (K.ofNat 17)), none, .pick (.t (K.ofNat 13)) (.c (.b true)) (.t (K.ofNat 16))⟩]
noncomputable def f85_r3 : List EOper := [⟨(some (K.ofNat 18)), none, .ld (.t (K.ofNat 6))⟩, ⟨(some (K.ofNat 5)), none, .as (.t (K.ofNat 18))⟩]
noncomputable def f85_r4 : List EOper := [⟨(some (K.ofNat 19)), none, .ld (.t (K.ofNat 1))⟩, ⟨(some (K.ofNat 20)), none, .ldn 64 (.t (K.ofNat 4))⟩, ⟨none, none, .mupd 67 (.many (List.replicate 64 none)) (.t (K.ofNat 19)) (.t (K.ofNat 20)) (.c (.b true))⟩]
noncomputable def f85_r5 : List EOper := [⟨(some (K.ofNat 21)), none, .ldn 64 (.t (K.ofNat 4))⟩, ⟨(some (K.ofNat 22)), none, .call (.c (.fn (K.ofNat 78) [])) [(.t (K.ofNat 21))]⟩]
noncomputable def f85_r6 : List EOper := [⟨(some (K.ofNat 7)), none, .as (.t (K.ofNat 23))⟩]
noncomputable def f85_a0 : EC := (.reg f85_r6)
noncomputable def f85_r7 : List EOper := [⟨(some (K.ofNat 25)), none, .ldn 64 (.t (K.ofNat 4))⟩, ⟨(some (K.ofNat 26)), none, .mv (.t (K.ofNat 7))⟩, ⟨(some (K.ofNat 27)), none, .call (.c (.fn (K.ofNat 87) [])) [(.t (K.ofNat 25)), (.t (K.ofNat 26))]⟩, ⟨(some (K.ofNat 24)), none, .mv (.t (K.ofNat 27))⟩, ⟨(some (K.ofNat 28)), none, .ext (.t (K.ofNat 24)) 0⟩, ⟨(some (K.ofNat 29)), none, .ext (.t (K.ofNat 24)) 1⟩, ⟨(some (K.ofNat 8)), none, .alloc 2 [(.i .i64 (.ofNat 0)), (.i .i64 (.ofNat 0))]⟩, ⟨none, none, .st 2 (.t (K.ofNat 8)) (.t (K.ofNat 28))⟩, ⟨(some (K.ofNat 9)), none, .as (.t (K.ofNat 29))⟩]
noncomputable def f85_r8 : List EOper := [⟨(some (K.ofNat 30)), none, .mv (.t (K.ofNat 9))⟩, ⟨(some (K.ofNat 31)), none, .not (.t (K.ofNat 30))⟩]
noncomputable def f85_r9 : List EOper := [⟨(some (K.ofNat 32)), none, .ld (.t (K.ofNat 2))⟩, ⟨(some (K.ofNat 33)), none, .fadr 0 (.t (K.ofNat 8))⟩, ⟨(some (K.ofNat 34)), none, .ld (.t (K.ofNat 33))⟩, ⟨(some (K.ofNat 35)), none, .fadr 1 (.t (K.ofNat 8))⟩, ⟨(some (K.ofNat 36)), none, .ld (.t (K.ofNat 35))⟩, ⟨(some (K.ofNat 37)), none, .build [(.i .i64 (.ofNat 0)), (.i .i64 (.ofNat 0))] [(0, 1, (.t (K.ofNat 34))), (1, 1, (.t (K.ofNat 36)))]⟩, ⟨(some (K.ofNat 38)), none, .bslice 1 2 [(.i .i64 (.ofNat 0)), (.i .i64 (.ofNat 0))] [(0, 2, (.t (K.ofNat 37)))]⟩, ⟨(some (K.ofNat 39)), none, .app 2 (.t (K.ofNat 32)) (.t (K.ofNat 38))⟩, ⟨none, none, .st 1 (.t (K.ofNat 2)) (.t (K.ofNat 39))⟩]
noncomputable def f85_r10 : List Stage := [⟨[⟨(some (K.ofNat 40)), none, .ld (.t (K.ofNat 3))⟩, ⟨(some (K.ofNat 41)), none, .ldn 64 (.t (K.ofNat 4))⟩, ⟨(some (K.ofNat 42)), none, .ldn 2 (.t (K.ofNat 8))⟩], [], (some ⟨(some (K.ofNat 43)), none, .call (.c (.fn (K.ofNat 88) [])) [(.t (K.ofNat 41)), (.t (K.ofNat 42))]⟩), []⟩, ⟨[], [⟨(some (K.ofNat 40)), none, .ld (.t (K.ofNat 3))⟩], (some ⟨(some (K.ofNat 44)), none, .call (.t (K.ofNat 40)) [(.t (K.ofNat 43))]⟩), []⟩, ⟨[], [], none, []⟩]
noncomputable def f85_r11 : List EOper := [⟨none, none, .st 1 (.t (K.ofNat 6)) (.c (.b true))⟩]
noncomputable def f85_r12 : List EOper := [⟨(some (K.ofNat 45)), none, .ld (.t (K.ofNat 2))⟩, ⟨(some (K.ofNat 46)), none, .ld (.t (K.ofNat 2))⟩, ⟨(some (K.ofNat 47)), none, .len (.t (K.ofNat 46))⟩, ⟨(some (K.ofNat 48)), none, .bin .sub (.t (K.ofNat 47)) (.c (.i .i64 (.ofNat 1)))⟩, ⟨(some (K.ofNat 49)), none, .slice 2 (.t (K.ofNat 45)) none (some (.t (K.ofNat 48))) none⟩, ⟨none, none, .st 1 (.t (K.ofNat 2)) (.t (K.ofNat 49))⟩]
noncomputable def f85_b0 : EC := (.block 1 (.seq (.reg f85_r7) (.seq (.seq (.reg f85_r8) (.cond (.t (K.ofNat 31)) (.exit 1) .skip)) (.seq (.reg f85_r9) (.seq (.seq (.draw f85_r10) (.cond (.t (K.ofNat 44)) (.seq (.reg f85_r11) (.exit 0)) .skip)) (.reg f85_r12))))))
noncomputable def f85_r13 : List EOper := [⟨(some (K.ofNat 50)), none, .ld (.t (K.ofNat 6))⟩, ⟨(some (K.ofNat 5)), none, .as (.t (K.ofNat 50))⟩]
noncomputable def f85_c : EC := (.seq (.reg f85_r0) (.scope (.seq (.reg f85_r1) (.seq (.seq (.reg f85_r2) (.cond (.t (K.ofNat 17)) (.seq (.reg f85_r3) .ret) .skip)) (.seq (.reg f85_r4) (.seq .skip (.seq (.seq (.reg f85_r5) (.block 0 (.rangeF (.t (K.ofNat 22)) [(K.ofNat 23)] f85_a0 f85_b0))) (.seq (.reg f85_r13) .ret))))))))
noncomputable def f85 : EF := ⟨51, [.tmp (K.ofNat 5)], f85_c, none⟩
theorem f85_rs : f85.rs = [.tmp (K.ofNat 5)] := of_eq_true (eq_self _)
section
variable {fs : T EF} {ro : Option K}
/-- What the search needs to call. -/
structure Calls85 (fs : T EF) : Prop where
  p54 : ∀ a b h P, CallP fs (.fn (K.ofNat 54) []) [.i .i64 a, .i .i64 b] h P = P (.b (ptI a b)) h
  pt : ∃ ef, fs.get (K.ofNat 54) = some ef ∧ ef.nv = some (flatG partG)
  c55 : fs.get (K.ofNat 55) = some f55
  c78 : fs.get (K.ofNat 78) = some f78
  c82 : fs.get (K.ofNat 82) = some f82
  c85 : fs.get (K.ofNat 85) = some f85
  c86 : fs.get (K.ofNat 86) = some f86
  c87 : fs.get (K.ofNat 87) = some f87
  c88 : fs.get (K.ofNat 88) = some f88
  c91 : fs.get (K.ofNat 91) = some alF
  c92 : fs.get (K.ofNat 92) = some coF
structure Post85 (b c : Nat) (h0 : H) (d : CIds) (B : Nat → Bool) (M : List (List Bool)) (C : List (Nat × Nat)) (w : V) (h : H) (r : Bool) (h' : H) : Prop where
  ex : ∃ M' C' w', CSt b c h0 d M' C' w' h' ∧ KeptC c h w h' w' ∧ (r = true → ∃ D, C' = C ++ D ∧ SeqC B D) ∧ (r = false → C' = C ∧ MoreC M M' ∧ ¬ ToC B)
theorem beq_caps {d : CIds} {k : K} : beqV (.fn k (capsC d)) (.fn k (capsC d)) = true := by
  show (k.beq k && (beqV (.p d.T 0) (.p d.T 0) && (beqV (.p d.F 0) (.p d.F 0) && (beqV (.p d.W 0) (.p d.W 0) && true)))) = true
  have hp : ∀ k : K, beqV (.p k 0) (.p k 0) = true := fun k => by
    show (k.beq k && Nat.beq 0 0) = true
    rw [K.beq_refl]; rfl
  rw [hp, hp, hp, K.beq_refl]; rfl
theorem fill_p {fr : Fr} {x : EO} {z1 z2 a b : V} (hx : ev fr x = .agg [a, b]) : fillE fr [z1, z2] [(0, 2, x)] = some [a, b] := by
  show oGet (cellsN 2 (ev fr x)) none (fun cs => some (setMany [z1, z2] 0 cs)) = _
  rw [hx, cells2]; rfl
def f85_Q (b c : Nat) (h0 : H) (d : CIds) (B : Nat → Bool) (M : List (List Bool)) (C : List (Nat × Nat)) (w : V) (h : H) (id6 : K) (e : Ex) (h8 : H) : Prop := e = .exit 0 ∧ ∃ M1 C1 w1, CSt b c h0 d M1 C1 w1 h8 ∧ KeptC c h w h8 w1 ∧ h8.get id6 = .cells 1 [.b true] ∧ ∃ D, C1 = C ++ D ∧ SeqC B D
def f85_I (b c : Nat) (h0 : H) (d : CIds) (B : Nat → Bool) (M : List (List Bool)) (C : List (Nat × Nat)) (w : V) (h : H) (id4 id6 kf idl : K) (j : Nat) (h8 : H) : Prop := ∃ M1 w1 lb, FoI b c h0 d B M1 C w1 h w id4 id6 kf idl lb h8 ∧ MoreC (M ++ [arr B 64]) M1 ∧ ∀ x ∈ (mem64 B).take j, ∀ o, colS B (x : Int) = some o → ¬ ToC (lessB B x o)
theorem f85_body {b c : Nat} {h0 h : H} {d : CIds} {B : Nat → Bool} {M : List (List Bool)} {C : List (Nat × Nat)} {w : V} {id4 id6 kf idl : K} {fr1 : Fr} (k : Calls85 fs) (kd : CIdsOk b c d) (hc0 : HC h0) (hB : Low B) (hcard : C.length + card B ≤ 64) (tr : TrC M (card B))
    (f2 : fr1.get (K.ofNat 2) = some (.p d.F 0)) (f3 : fr1.get (K.ofNat 3) = some (.p d.W 0)) (f4 : fr1.get (K.ofNat 4) = some (.p id4 0)) (f6 : fr1.get (K.ofNat 6) = some (.p id6 0))
    (ih : ∀ (B2 : Nat → Bool) (M2 : List (List Bool)) (C2 : List (Nat × Nat)) (w2 : V) (h2 : H), card B2 < card B → Low B2 → C2.length + card B2 ≤ 64 → TrC M2 (card B2) → CSt b c h0 d M2 C2 w2 h2 → CallP fs (.fn (K.ofNat 85) (capsC d)) [.agg (boolV B2)] h2 fun r h' => ∃ x, r = .b x ∧ Post85 b c h0 d B2 M2 C2 w2 h2 x h')
    (j : Nat) (h8 : H) (hj : j < (mem64 B).length) (hi : f85_I b c h0 d B M C w h id4 id6 kf idl j h8) (hrd : h8.get idl = rdyB fr1 [(K.ofNat 23)] f85_a0 f85_b0) :
    W fs (some idl) f85_a0 (rndA fs idl fr1 [(K.ofNat 23)] f85_a0 f85_b0 (f85_I b c h0 d B M C w h id4 id6 kf idl (j + 1)) (f85_Q b c h0 d B M C w h id6)) (fr1.set (K.ofNat 23) (.i .i64 ((mem64 B)[j] : Int))) h8 := by
  obtain ⟨M1, w1, lb, ht, hmore, hno⟩ := hi
  obtain rfl : lb = rdyB fr1 [(K.ofNat 23)] f85_a0 f85_b0 := ht.el.symm.trans hrd
  have htk : (mem64 B).take (j + 1) = (mem64 B).take j ++ [(mem64 B)[j]] := List.take_succ_eq_append_getElem hj
  have hxm := List.getElem_mem hj
  generalize (mem64 B)[j] = x at *
  have hx64 : x < 64 := by
    unfold mem64 at hxm
    exact List.mem_range.1 (List.mem_filter.1 hxm).1
  rw [show ∀ Q fr h, W fs (some idl) f85_a0 Q fr h = X fs f85_r6 (Q .normal) fr h from fun _ _ _ => rfl]
  simp (disch := omega) only [f85_r6, rndA_n, x_nil, x_as, ev_t, getV_some, putD_some, getK_set, ↓reduceIte]
  refine ⟨ht.el, ?_⟩
  have ht9 := ht.loop kd (bsyB fr1 [(K.ofNat 23)] f85_a0 f85_b0)
  generalize h8.put idl (bsyB fr1 [(K.ofNat 23)] f85_a0 f85_b0) = h9 at *
  have hc9 := ht9.st.hc hc0
  have hA9 : Ar V.b h9 id4 (arr B 64) := by unfold Ar; rw [arr_len]; exact ht9.e4
  have ld9 := hA9.ldn (n := 64) (by rw [arr_len])
  rw [show ∀ Q fr h, W fs (some idl) f85_b0 Q fr h = W fs (some idl) (.block 1 (.seq (.reg f85_r7) (.seq (.seq (.reg f85_r8) (.cond (.t (K.ofNat 31)) (.exit 1) .skip)) (.seq (.reg f85_r9) (.seq (.seq (.draw f85_r10) (.cond (.t (K.ofNat 44)) (.seq (.reg f85_r11) (.exit 0)) .skip)) (.reg f85_r12)))))) Q fr h from fun _ _ _ => rfl]
  simp (disch := omega) only [f85_r7, w_reg, w_seq, w_block, x_mv, x_ldn, x_call, kx, rvP_ok, ev_t, ev_c, evs_nil, evs_cons, getV_some, putD_some, of0, getK_set, Nat.reduceEqDiff, ↓reduceIte, f4, ld9]
  refine (callP_0 (ef := f87) k.c87 rfl (f87_ret (B := B) (f := (x : Int)) k.p54 k.c78 k.c91 hc9)).mono ?_
  rintro u h10 ⟨rfl, g10⟩
  have n11 := nx_new h10 (.cells 2 [.i .i64 0, .i .i64 0])
  have g11 : Grow h10.nx.nat h10 (h10.new (.cells 2 [.i .i64 0, .i .i64 0])) := Grow.new (Nat.le_refl _) _
  have e11 : (h10.new (.cells 2 [.i .i64 0, .i .i64 0])).get h10.nx = .cells 2 [.i .i64 0, .i .i64 0] := get_new_same
  generalize hh11 : h10.new (.cells 2 [.i .i64 0, .i .i64 0]) = h11 at *
  have nx10 := g10.nx
  cases hcol : colS B (x : Int) with
  | none =>
    have hcv : colV B (x : Int) = .tup [.agg [.i .i64 0, .i .i64 0], .b false] := by unfold colV; rw [hcol]
    have s12 := st2 (c := .i .i64 0) (d := .i .i64 0) e11
    have g12 : Grow h9.nx.nat h9 (h11.put h10.nx (.cells 2 [.i .i64 0, .i .i64 0])) := g10.trans ((g11.low (by omega)).trans (Grow.put (by omega) (by omega) _))
    have ht12 := ht9.next (ht9.st.grow hc0 kd g12) (KeptC.grow g12)
    simp (disch := omega) only [f85_r8, w_reg, w_seq, w_cond, w_exit, seqK_n, seqK_e, atK_e, ckB_b, cbB_b, true_and, rndK_n, x_nil, x_mv, x_as, x_alloc, x_st, x_not, x_ext, kx, rvP_ok, okv_some, ev_t, getV_some, putD_some, putD_none, onB_b, onTup_t, nth0, nth1, getK_set, Nat.reduceEqDiff, ↓reduceIte, Bool.not_false, hcv, hh11, s12]
    refine ⟨ht12.el, M1, w1, _, ht12.loop kd _, hmore, fun y hy o ho => ?_⟩
    rw [htk] at hy
    rcases List.mem_append.1 hy with hy | hy
    · exact hno y hy o ho
    · rw [List.mem_singleton.1 hy, hcol] at ho; cases ho
  | some o =>
    obtain ⟨m, em, hm1, hm64, hBm, hov, ho64, hBo, hne⟩ := col_mem hcol
    obtain rfl : x = m := by omega
    have hcv : colV B (x : Int) = .tup [.agg [.i .i64 (x : Int), .i .i64 (o : Int)], .b true] := by unfold colV; rw [hcol]
    have s12 := st2 (c := .i .i64 (x : Int)) (d := .i .i64 (o : Int)) e11
    have e12 : (h11.put h10.nx (.cells 2 [.i .i64 (x : Int), .i .i64 (o : Int)])).get h10.nx = .cells 2 [.i .i64 (x : Int), .i .i64 (o : Int)] := get_put_same
    have n12 : (h11.put h10.nx (.cells 2 [.i .i64 (x : Int), .i .i64 (o : Int)])).nx.nat = h10.nx.nat + 1 := n11
    have g12 : Grow h9.nx.nat h9 (h11.put h10.nx (.cells 2 [.i .i64 (x : Int), .i .i64 (o : Int)])) := g10.trans ((g11.low (by omega)).trans (Grow.put (by omega) (by omega) _))
    have ht12 := ht9.next (ht9.st.grow hc0 kd g12) (KeptC.grow g12)
    have lw := ht9.st.sw.lt hc9
    simp (disch := omega) only [f85_r8, w_skip, w_reg, w_seq, w_cond, seqK_n, ckB_b, cbB_b, true_and, x_nil, x_mv, x_as, x_alloc, x_st, x_not, x_ext, kx, rvP_ok, okv_some, ev_t, getV_some, putD_some, putD_none, onB_b, onTup_t, nth0, nth1, getK_set, Nat.reduceEqDiff, ↓reduceIte, Bool.false_eq_true, Bool.not_true, hcv, hh11, s12]
    generalize h11.put h10.nx (.cells 2 [.i .i64 (x : Int), .i .i64 (o : Int)]) = h12 at *
    have hc12 := ht12.st.hc hc0
    obtain ⟨w2, h13, p1, p2, st13, kp13⟩ := ht12.st.push hc0 kd (x, o) (by omega)
    change appV 2 (h12.new (.cells (1 * 2) [.i .i64 (x : Int), .i .i64 (o : Int)])) w1 (.sl h12.nx 0 1 2) = _ at p1
    have e8n : NotIn h10.nx w1 := fun off n sz e => by have := lw _ _ _ _ e; omega
    have hnx9 := ht9.st.nx
    obtain ⟨q1, q2⟩ := kp13.2 h10.nx (by omega) (by omega) e8n
    have ht13 := ht12.next st13 kp13
    have fp : ∀ fr : Fr, fr.get (K.ofNat 37) = some (.agg [.i .i64 (x : Int), .i .i64 (o : Int)]) → fillE fr [.i .i64 0, .i .i64 0] [(0, 2, .t (K.ofNat 37))] = some [.i .i64 (x : Int), .i .i64 (o : Int)] := fun fr g => fill_p (by rw [ev_t, g]; rfl)
    simp (disch := omega) only [f85_r9, x_build, x_bslice, x_ld, x_fadr, kx, rvP_ok, ev_t, getV_some, putD_some, onP_p, oGet_s, cells1_i, of0, getK_set, Nat.reduceEqDiff, ↓reduceIte, f2, ht12.st.ldF, ld20 e12, ld21 e12, fill_2, set_2]
    rw [fp _ (by simp (disch := omega) only [getK_set, ↓reduceIte])]
    simp (disch := omega) only [w_draw, w_seq, seqK_n, x_nil, x_st, x_app, kx, rvP_ok, ev_t, getV_some, putD_some, putD_none, oGet_s, getK_set, Nat.reduceEqDiff, ↓reduceIte, f2, p1, p2]
    have e13 : (h13.put d.F (.cells 1 [w2])).get h10.nx = .cells 2 [.i .i64 (x : Int), .i .i64 (o : Int)] := q1.trans e12
    clear p1 p2 fp s12 e12 e11 hh11
    have hnx13 := kp13.1
    generalize h13.put d.F (.cells 1 [w2]) = h14 at *
    have hA14 : Ar V.b h14 id4 (arr B 64) := by unfold Ar; rw [arr_len]; exact ht13.e4
    have ld14 := hA14.ldn (n := 64) (by rw [arr_len])
    have hc14 := st13.hc hc0
    simp (disch := omega) only [f85_r10, true_and, x_call, kg, xg_nil, xg_ld, xg_ldn, xd_cons, fresh_nil, stK_s, stay_nil, rvP_ok, ev_t, ev_c, evs_nil, evs_cons, getV_some, putD_some, getK_set, Nat.reduceEqDiff, ↓reduceIte, f3, f4, st13.ldW, ld14, ldn2 e13]
    refine (callP_0 (ef := f88) k.c88 rfl (f88_ret (B := B) hx64 ho64 hc14)).mono ?_
    rintro u h15 ⟨rfl, g15⟩
    have st15 := st13.grow hc0 kd g15
    have hcl := card_less (o := o) hx64 hBm
    simp (disch := omega) only [true_and, x_nil, x_call, kx, xg_nil, xd_cons, fresh_nil, stK_s, stay_nil, stay_cons, again_ok, stay_ld, ev_t, evs_nil, evs_cons, getV_some, putD_some, getK_set, Nat.reduceEqDiff, ↓reduceIte, f3, st15.ldW, beq_caps, and_self]
    have tr1 : TrC M1 (card (lessB B x o)) := (tr.add hB hcl).more hmore
    refine (ih (lessB B x o) M1 (C ++ [(x, o)]) w2 h15 hcl (low_less hB) (by simp; omega) tr1 st15).mono ?_
    rintro r h16 ⟨y, rfl, po⟩
    obtain ⟨M9, C9, w9, st9, kp9, hy1, hy0⟩ := po.ex
    have kp19 : KeptC c h14 w2 h16 w9 := (KeptC.grow g15).trans kp9
    have ht16 := ht13.next st9 kp19
    cases y
    · obtain ⟨rfl, hm9, hn9⟩ := hy0 rfl
      obtain ⟨wa, s1, s2, s3, s4⟩ := st9.pop kd
      have hsub : fw .i64 (((C ++ [(x, o)]).length : Int) - 1) = (C.length : Int) := by
        have : (C ++ [(x, o)]).length = C.length + 1 := by simp
        rw [fw64 (by omega) (by omega)]; omega
      simp (disch := omega) only [f85_r12, w_skip, w_reg, w_cond, seqK_n, atK_n, ckB_b, cbB_b, true_and, rndK_n, x_nil, x_ld, x_st, x_bin, x_slice, sliceV_eq, Option.map_none, Option.map_some, x_len, kx, xg_nil, xd_cons, fresh_nil, stK_n, stay_nil, rvP_ok, okv_some, ev_t, ev_c, getV_some, putD_some, putD_none, bin_sub, of1, getK_set, Nat.reduceEqDiff, ↓reduceIte, Bool.false_eq_true, f2, st9.ldF, st9.sw.len, hsub, s1, s2]
      have ht17 := ht16.next s3 s4
      refine ⟨ht17.el, M9, wa, _, ht17.loop kd _, hmore.trans hm9, fun y hy o' ho' => ?_⟩
      rw [htk] at hy
      rcases List.mem_append.1 hy with hy | hy
      · exact hno y hy o' ho'
      · rw [List.mem_singleton.1 hy, hcol] at ho'
        rw [List.mem_singleton.1 hy]
        cases ho'; exact hn9
    · obtain ⟨D, rfl, hD⟩ := hy1 rfl
      have s6 := st1 (c := .b true) ht16.e6 rfl
      simp (disch := omega) only [f85_r11, w_reg, w_seq, w_cond, w_exit, seqK_n, seqK_e, atK_e, ckB_b, cbB_b, true_and, rndK_e, x_nil, x_st, kx, xg_nil, xd_cons, fresh_nil, stK_n, stay_nil, rvP_ok, ev_t, ev_c, getV_some, putD_some, putD_none, getK_set, Nat.reduceEqDiff, ↓reduceIte, f6, s6]
      obtain ⟨l1, l2, l3⟩ := ht16.ll
      obtain ⟨m1, m2, m3, m4⟩ := ht16.lc (id6, .cells 1 [.b false]) (by simp)
      have := ht16.o4; have := ht16.o6; have := ht16.of; have := ht16.ol
      have st17 := st9.beside kd (x := .cells 1 [.b true]) m3 m4 m2
      have st18 := st17.beside kd (x := .dead) l2 (by rw [nx_put]; exact l3) l1
      refine ⟨by rw [get_put_other (kNe (by omega)).symm]; exact ht16.el, rfl, M9, _, w9, st18, (ht16.kp.above (by omega)).above (by omega), ?_, (x, o) :: D, by simp, hcol, hD⟩
      rw [get_put_other (kNe (by omega)), get_put_same]
theorem f85_step {b c : Nat} {h0 h : H} {d : CIds} {B : Nat → Bool} {M : List (List Bool)} {C : List (Nat × Nat)} {w : V} (k : Calls85 fs) (kd : CIdsOk b c d) (hc0 : HC h0) (hB : Low B) (hcard : C.length + card B ≤ 64) (tr : TrC M (card B)) (st : CSt b c h0 d M C w h)
    (ih : ∀ (B2 : Nat → Bool) (M2 : List (List Bool)) (C2 : List (Nat × Nat)) (w2 : V) (h2 : H), card B2 < card B → Low B2 → C2.length + card B2 ≤ 64 → TrC M2 (card B2) → CSt b c h0 d M2 C2 w2 h2 → CallP fs (.fn (K.ofNat 85) (capsC d)) [.agg (boolV B2)] h2 fun r h' => ∃ x, r = .b x ∧ Post85 b c h0 d B2 M2 C2 w2 h2 x h') :
    Ret fs f85 (.agg (boolV B) :: capsC d) h fun r h' => ∃ x, r = .b x ∧ Post85 b c h0 d B M C w h x h' := by
  apply ret_of rfl
  show W fs none f85_c _ _ _
  unfold f85_c capsC
  have hc := st.hc hc0
  have nxh := st.nx
  have kk := kd
  obtain ⟨a1, a2, a3, a4, a5⟩ := kk
  have n1 := nx_new h (.cells 64 (boolV B))
  have g1 : Grow h.nx.nat h (h.new (.cells 64 (boolV B))) := Grow.new (Nat.le_refl _) _
  have e1 : (h.new (.cells 64 (boolV B))).get h.nx = .cells 64 (boolV B) := get_new_same
  have hA1 : Ar V.b (h.new (.cells 64 (boolV B))) h.nx (arr B 64) := Ar.box
  have ld1 := hA1.ldn (n := 64) (by rw [arr_len])
  have hc1 := g1.hc hc
  simp (disch := omega) only [f85_r0, f85_r1, w_reg, w_seq, w_scope, seqK_n, x_nil, x_as, x_box, x_ldn, x_call, kx, rvP_ok, ev_t, ev_c, evs_nil, evs_cons, getV_some, putD_some, oGet_s, frame_4, getK_set, Nat.reduceEqDiff, ↓reduceIte, frame_4, cells64 (boolV_len (B := B)), ld1]
  generalize h.new (.cells 64 (boolV B)) = h1 at *
  obtain ⟨ef, pt1, pt2⟩ := k.pt
  refine (callP_0 (ef := f86) k.c86 rfl (f86_ret (B := B) k.p54 k.c82 k.c92 pt1 pt2 k.c55 hc1)).mono ?_
  rintro u h2 ⟨rfl, g2⟩
  have nx2 := g2.nx
  have n3 := nx_new h2 (.cells 1 [.b false])
  have g3 : Grow h2.nx.nat h2 (h2.new (.cells 1 [.b false])) := Grow.new (Nat.le_refl _) _
  have e3 : (h2.new (.cells 1 [.b false])).get h2.nx = .cells 1 [.b false] := get_new_same
  have s4 := st1 (c := .b (cornB B)) e3 rfl
  have e4 : ((h2.new (.cells 1 [.b false])).put h2.nx (.cells 1 [.b (cornB B)])).get h2.nx = .cells 1 [.b (cornB B)] := get_put_same
  have g4 : Grow h2.nx.nat (h2.new (.cells 1 [.b false])) ((h2.new (.cells 1 [.b false])).put h2.nx (.cells 1 [.b (cornB B)])) := Grow.put (Nat.le_refl _) (by omega) _
  have n4 : ((h2.new (.cells 1 [.b false])).put h2.nx (.cells 1 [.b (cornB B)])).nx.nat = h2.nx.nat + 1 := n3
  have g24 := g3.trans g4
  have gg : Grow h.nx.nat h ((h2.new (.cells 1 [.b false])).put h2.nx (.cells 1 [.b (cornB B)])) := g1.trans ((g2.low (by omega)).trans (g24.low (by omega)))
  simp (disch := omega) only [w_reg, w_seq, seqK_n, x_nil, x_alloc, x_st, kx, rvP_ok, ev_t, getV_some, putD_some, putD_none, getK_set, Nat.reduceEqDiff, ↓reduceIte, s4]
  generalize (h2.new (.cells 1 [.b false])).put h2.nx (.cells 1 [.b (cornB B)]) = h4 at *
  have st4 := st.grow hc0 kd gg
  have ld6 : loadV h4 (.p h2.nx 0) one? = .ok (.b (cornB B)) h4 := load_p e4 rfl
  have e14 : h4.get h.nx = .cells 64 (boolV B) := by rw [g24.old _ (by omega), g2.old _ (by omega)]; exact e1
  have hA4 : Ar V.b h4 h.nx (arr B 64) := by unfold Ar; rw [arr_len]; exact e14
  have ld4 := hA4.ldn (n := 64) (by rw [arr_len])
  cases hcb : cornB B
  · rw [hcb] at ld6 e4
    have lk := st4.eM.look (n := 64) (L := arr B 64) arr_len tr.len
    by_cases em : arr B 64 ∈ M
    · rw [decide_eq_true em] at lk
      change lookV 67 _ _ _ _ (.agg ((arr B 64).map V.b)) _ = _ at lk
      simp (disch := omega) only [f85_r2, f85_r3, f85_rs, w_reg, w_seq, w_cond, w_ret, seqK_n, seqK_r, ckB_b, cbB_b, okG_b, asG_f, true_and, retK_r, x_nil, x_g, x_mv, x_as, x_pick, x_ld, x_ldn, x_look, kx, rvP_ok, ev_t, ev_c, getV_some, putD_some, pick_b, oGet_s, readRs_nil, readRs_t, retV_1, Option.some.injEq, exists_eq_left', getK_set, Nat.reduceEqDiff, ↓reduceIte, Bool.false_eq_true, Bool.not_false, ld6, st4.ldT, ld4, lk]
      exact ⟨false, rfl, M, C, w, st4, KeptC.grow gg, fun h => (by cases h), fun _ => ⟨rfl, MoreC.refl, tr.hit hB em⟩⟩
    · rw [decide_eq_false em] at lk
      change lookV 67 _ _ _ _ (.agg ((arr B 64).map V.b)) _ = _ at lk
      obtain ⟨mp1, mp2⟩ := st4.eM.put (n := 64) (L := arr B 64) arr_len tr.len em
      change mupdV 67 _ _ _ (.agg ((arr B 64).map V.b)) _ = _ at mp1
      have st5 := st4.mark kd mp2
      have kp5 : KeptC c h w (h4.put d.M (.map 67 (ents (M ++ [arr B 64])))) w := (KeptC.grow gg).trans (KeptC.put (by omega))
      have hA5 : Ar V.b (h4.put d.M (.map 67 (ents (M ++ [arr B 64])))) h.nx (arr B 64) := hA4.same (get_put_other (kNe (by omega)).symm)
      have e65 : (h4.put d.M (.map 67 (ents (M ++ [arr B 64])))).get h2.nx = .cells 1 [.b false] := by rw [get_put_other (kNe (by omega)).symm]; exact e4
      have e15 : (h4.put d.M (.map 67 (ents (M ++ [arr B 64])))).get h.nx = .cells 64 (boolV B) := by rw [get_put_other (kNe (by omega)).symm]; exact e14
      have ld5 := hA5.ldn (n := 64) (by rw [arr_len])
      have n5 : (h4.put d.M (.map 67 (ents (M ++ [arr B 64])))).nx.nat = h2.nx.nat + 1 := n4
      simp (disch := omega) only [f85_r2, f85_r4, f85_r5, w_skip, w_reg, w_seq, w_cond, seqK_n, ckB_b, cbB_b, okG_b, asG_f, true_and, x_nil, x_g, x_mv, x_pick, x_ld, x_ldn, x_look, x_mupd, x_call, kx, rvP_ok, ev_t, ev_c, evs_nil, evs_cons, getV_some, putD_some, putD_none, pick_b, getK_set, Nat.reduceEqDiff, ↓reduceIte, Bool.false_eq_true, Bool.not_false, ld6, st4.ldT, ld4, lk, mp1, ld5]
      generalize h4.put d.M (.map 67 (ents (M ++ [arr B 64]))) = h5 at *
      refine (callP_0 (ef := f78) k.c78 rfl (f78_ret (boolV_len (B := B)))).mono ?_
      rintro u h6 ⟨rfl, rfl⟩
      have n6 := nx_new h5 (.cells 64 (boolV B))
      have g6 : Grow h5.nx.nat h5 (h5.new (.cells 64 (boolV B))) := Grow.new (Nat.le_refl _) _
      have e6 : (h5.new (.cells 64 (boolV B))).get h5.nx = .cells 64 (boolV B) := get_new_same
      simp (disch := omega) only [w_block, seqK_n, x_nil, kx, putD_some]
      generalize h5.new (.cells 64 (boolV B)) = h6 at *
      generalize hfr1 : T.set (K.ofNat 22) (V.fn (K.ofNat 91) [V.p h5.nx 0]) _ = fr1
      have f22 : fr1.get (K.ofNat 22) = some (.fn (K.ofNat 91) [.p h5.nx 0]) := by rw [← hfr1]; simp (disch := omega) only [getK_set, ↓reduceIte]
      have f2 : fr1.get (K.ofNat 2) = some (.p d.F 0) := by rw [← hfr1]; simp (disch := omega) only [getK_set, Nat.reduceEqDiff, ↓reduceIte]
      have f3 : fr1.get (K.ofNat 3) = some (.p d.W 0) := by rw [← hfr1]; simp (disch := omega) only [getK_set, Nat.reduceEqDiff, ↓reduceIte]
      have f4 : fr1.get (K.ofNat 4) = some (.p h.nx 0) := by rw [← hfr1]; simp (disch := omega) only [getK_set, Nat.reduceEqDiff, ↓reduceIte]
      have f6 : fr1.get (K.ofNat 6) = some (.p h2.nx 0) := by rw [← hfr1]; simp (disch := omega) only [getK_set, Nat.reduceEqDiff, ↓reduceIte]
      clear hfr1
      have n7 := nx_new h6 (rdyB fr1 [(K.ofNat 23)] f85_a0 f85_b0)
      have g7 : Grow h6.nx.nat h6 (h6.new (rdyB fr1 [(K.ofNat 23)] f85_a0 f85_b0)) := Grow.new (Nat.le_refl _) _
      have g57 : Grow h5.nx.nat h5 (h6.new (rdyB fr1 [(K.ofNat 23)] f85_a0 f85_b0)) := g6.trans (g7.low (by omega))
      have lw := st.sw.lt hc
      have nin : ∀ id : K, h.nx.nat ≤ id.nat → NotIn id w := fun id hi off n sz e => by have := lw _ _ _ _ e; omega
      have t0 : FoI b c h0 d B (M ++ [arr B 64]) C w h w h.nx h2.nx h5.nx h6.nx (rdyB fr1 [(K.ofNat 23)] f85_a0 f85_b0) (h6.new (rdyB fr1 [(K.ofNat 23)] f85_a0 f85_b0)) := by
        refine ⟨st5.grow hc0 kd g57, kp5.trans (KeptC.grow g57), fun p hp => ?_, Nat.le_refl _, by omega, by omega, by omega⟩
        simp only [List.mem_cons, List.not_mem_nil, or_false] at hp
        rcases hp with rfl | rfl | rfl | rfl
        · exact ⟨by show (h6.new _).get h.nx = _; rw [g57.old _ (by omega)]; exact e15, nin _ (Nat.le_refl _), nxh, by show h.nx.nat < _; omega⟩
        · exact ⟨by show (h6.new _).get h2.nx = _; rw [g57.old _ (by omega)]; exact e65, nin _ (by show h.nx.nat ≤ h2.nx.nat; omega), by show c ≤ h2.nx.nat; omega, by show h2.nx.nat < _; omega⟩
        · exact ⟨by show (h6.new _).get h5.nx = _; rw [g7.old _ (by omega)]; exact e6, nin _ (by show h.nx.nat ≤ h5.nx.nat; omega), by show c ≤ h5.nx.nat; omega, by show h5.nx.nat < _; omega⟩
        · exact ⟨get_new_same, nin _ (by show h.nx.nat ≤ h6.nx.nat; omega), by show c ≤ h6.nx.nat; omega, by show h6.nx.nat < _; omega⟩
      have hlen := ysOf_len (B := B)
      refine W_range (k := (K.ofNat 91)) (caps := [.p h5.nx 0]) (N := fun h => h.get h5.nx = .cells 64 (boolV B)) (ys := ysOf B) rfl (by simp (disch := omega) only [ev_t, getV_some, f22]) (all_yields k.c91 boolV_at)
        (f85_I b c h0 d B M C w h h.nx h2.nx h5.nx h6.nx) (f85_Q b c h0 d B M C w h h2.nx) (fun i h8 ⟨M1, w1, lb, ht, _⟩ => ht.ef)
        ⟨_, _, _, t0, MoreC.refl, fun x hx => by simp at hx⟩ ?_ ?_ ?_
      · intro j h8 hj hi hrd
        rw [ysOf_at hj]
        exact f85_body k kd hc0 hB hcard tr f2 f3 f4 f6 ih j h8 (by omega) hi hrd
      · rintro h8 ⟨M1, w1, lb, ht, hmore, hno⟩
        rw [hlen, List.take_length] at hno
        have nt := no_col hcb hno
        have ht2 := ht.loop kd .dead
        have ld8 : loadV (h8.put h6.nx .dead) (.p h2.nx 0) one? = .ok (.b false) _ := load_p ht2.e6 rfl
        simp (disch := omega) only [f85_r13, f85_rs, w_reg, w_seq, w_ret, seqK_n, atK_n, retK_r, x_nil, x_as, x_ld, kx, rvP_ok, ev_t, getV_some, putD_some, oGet_s, readRs_nil, readRs_t, retV_1, Option.some.injEq, exists_eq_left', getK_set, ↓reduceIte, f6, ld8]
        exact ⟨false, rfl, M1, C, w1, ht2.st, ht2.kp, fun h => (by cases h), fun _ => ⟨rfl, (MoreC.add hB nt).trans hmore, nt⟩⟩
      · rintro e h8 hne ⟨rfl, M1, C1, w1, s8, k8, e8, hD⟩
        have ld8 : loadV h8 (.p h2.nx 0) one? = .ok (.b true) _ := load_p e8 rfl
        simp (disch := omega) only [f85_r13, f85_rs, w_reg, w_seq, w_ret, seqK_n, atK_e, retK_r, x_nil, x_as, x_ld, kx, rvP_ok, ev_t, getV_some, putD_some, oGet_s, readRs_nil, readRs_t, retV_1, Option.some.injEq, exists_eq_left', getK_set, ↓reduceIte, f6, ld8]
        exact ⟨true, rfl, M1, C1, w1, s8, k8, fun _ => hD, fun h => (by cases h)⟩
  · rw [hcb] at ld6
    simp (disch := omega) only [f85_r2, f85_r3, f85_rs, w_reg, w_seq, w_cond, w_ret, seqK_n, seqK_r, ckB_b, cbB_b, okG_b, asG_f, true_and, retK_r, x_nil, x_g, x_mv, x_as, x_pick, x_ld, kx, rvP_ok, ev_t, ev_c, getV_some, putD_some, pick_b, oGet_s, readRs_nil, readRs_t, retV_1, Option.some.injEq, exists_eq_left', getK_set, Nat.reduceEqDiff, ↓reduceIte, Bool.false_eq_true, Bool.not_true, ld6]
    exact ⟨true, rfl, M, C, w, st4, KeptC.grow gg, fun _ => ⟨[], by simp, hcb⟩, fun h => (by cases h)⟩
theorem f85_ret {b c : Nat} {h0 : H} {d : CIds} (k : Calls85 fs) (kd : CIdsOk b c d) (hc0 : HC h0) :
    ∀ (n : Nat) (B : Nat → Bool) (M : List (List Bool)) (C : List (Nat × Nat)) (w : V) (h : H), card B ≤ n → Low B → C.length + card B ≤ 64 → TrC M (card B) → CSt b c h0 d M C w h →
      Ret fs f85 (.agg (boolV B) :: capsC d) h fun r h' => ∃ x, r = .b x ∧ Post85 b c h0 d B M C w h x h' := by
  intro n
  induction n with
  | zero =>
    intro B M C w h hn hB hcd tr st
    exact f85_step k kd hc0 hB hcd tr st fun B2 _ _ _ _ h2 => absurd h2 (by omega)
  | succ n ih =>
    intro B M C w h hn hB hcd tr st
    exact f85_step k kd hc0 hB hcd tr st fun B2 M2 C2 w2 h2 hlt hB2 hc2 tr2 st2 => callP_c k.c85 rfl (ih B2 M2 C2 w2 h2 (by omega) hB2 hc2 tr2 st2)
end
end Go.Ev
namespace Go.Ev
open Go Go.RowKit
noncomputable def f62_r0 : List EOper := [⟨(some (K.ofNat 1)), none, .box 64 (.t (K.ofNat 0))⟩, ⟨(some (K.ofNat 2)), none, .as (.c .sn)⟩, ⟨(some (K.ofNat 3)), none, .as (.c (.b false))⟩]
noncomputable def f62_r1 : List EOper := [⟨(some (K.ofNat 7)), none, .ldn 64 (.t (K.ofNat 1))⟩, ⟨(some (K.ofNat 8)), none, .call (.c (.fn (K.ofNat 84) [])) [(.t (K.ofNat 7))]⟩]
noncomputable def f62_r2 : List EOper := [⟨(some (K.ofNat 2)), none, .as (.c .sn)⟩, ⟨(some (K.ofNat 3)), none, .as (.c (.b false))⟩]
noncomputable def f62_r3 : List EOper := [⟨(some (K.ofNat 4)), none, .alloc 1 [.sn]⟩]
noncomputable def f62_r4 : List EOper := [⟨(some (K.ofNat 9)), none, .mkmap 67⟩, ⟨(some (K.ofNat 5)), none, .alloc 1 [.mn]⟩, ⟨none, none, .st 1 (.t (K.ofNat 5)) (.t (K.ofNat 9))⟩]
noncomputable def f62_r5 : List EOper := [⟨(some (K.ofNat 6)), none, .alloc 1 [.fnil]⟩]
noncomputable def f62_r6 : List EOper := [⟨(some (K.ofNat 10)), none, .mkfn (K.ofNat 85) [(.t (K.ofNat 5)), (.t (K.ofNat 4)), (.t (K.ofNat 6))]⟩, ⟨none, none, .st 1 (.t (K.ofNat 6)) (.t (K.ofNat 10))⟩]
noncomputable def f62_r7 : List EOper := [⟨(some (K.ofNat 11)), none, .ld (.t (K.ofNat 6))⟩, ⟨(some (K.ofNat 12)), none, .ldn 64 (.t (K.ofNat 1))⟩, ⟨(some (K.ofNat 13)), none, .call (.t (K.ofNat 11)) [(.t (K.ofNat 12))]⟩, ⟨(some (K.ofNat 14)), none, .not (.t (K.ofNat 13))⟩]
noncomputable def f62_r8 : List EOper := [⟨(some (K.ofNat 2)), none, .as (.c .sn)⟩, ⟨(some (K.ofNat 3)), none, .as (.c (.b false))⟩]
noncomputable def f62_r9 : List EOper := [⟨(some (K.ofNat 15)), none, .ld (.t (K.ofNat 4))⟩, ⟨(some (K.ofNat 2)), none, .as (.t (K.ofNat 15))⟩, ⟨(some (K.ofNat 3)), none, .as (.c (.b true))⟩]
noncomputable def f62_c : EC := (.seq (.reg f62_r0) (.seq (.seq (.reg f62_r1) (.cond (.t (K.ofNat 8)) (.seq (.reg f62_r2) .ret) .skip)) (.seq (.reg f62_r3) (.seq (.reg f62_r4) (.seq (.reg f62_r5) (.seq (.reg f62_r6) (.seq (.seq (.reg f62_r7) (.cond (.t (K.ofNat 14)) (.seq (.reg f62_r8) .ret) .skip)) (.seq (.reg f62_r9) .ret))))))))
noncomputable def f62 : EF := ⟨16, [.tmp (K.ofNat 2), .tmp (K.ofNat 3)], f62_c, none⟩
theorem f62_rs : f62.rs = [.tmp (K.ofNat 2), .tmp (K.ofNat 3)] := of_eq_true (eq_self _)
noncomputable def f24_r0 : List EOper := [⟨(some (K.ofNat 4)), none, .as (.c .sn)⟩, ⟨(some (K.ofNat 5)), none, .as (.c (.b false))⟩, ⟨(some (K.ofNat 6)), none, .as (.c (.i .i64 (.ofNat 0)))⟩]
noncomputable def f24_r1 : List EOper := [⟨(some (K.ofNat 10)), none, .mv (.t (K.ofNat 0))⟩, ⟨(some (K.ofNat 11)), none, .mv (.t (K.ofNat 1))⟩, ⟨(some (K.ofNat 12)), none, .call (.c (.fn (K.ofNat 16) [])) [(.t (K.ofNat 10)), (.t (K.ofNat 11))]⟩, ⟨(some (K.ofNat 7)), none, .as (.t (K.ofNat 12))⟩]
noncomputable def f24_r2 : List EOper := [⟨(some (K.ofNat 13)), none, .mv (.t (K.ofNat 7))⟩, ⟨(some (K.ofNat 14)), none, .bin .neq (.t (K.ofNat 13)) (.c (.i .i64 (.ofNat 0)))⟩]
noncomputable def f24_r3 : List EOper := [⟨(some (K.ofNat 15)), none, .mv (.t (K.ofNat 7))⟩, ⟨(some (K.ofNat 4)), none, .as (.c .sn)⟩, ⟨(some (K.ofNat 5)), none, .as (.c (.b false))⟩, ⟨(some (K.ofNat 6)), none, .as (.t (K.ofNat 15))⟩]
noncomputable def f24_r4 : List EOper := [⟨(some (K.ofNat 17)), none, .mv (.t (K.ofNat 1))⟩, ⟨(some (K.ofNat 18)), none, .call (.c (.fn (K.ofNat 55) [])) [(.t (K.ofNat 17))]⟩, ⟨(some (K.ofNat 19)), none, .call (.c (.fn (K.ofNat 62) [])) [(.t (K.ofNat 18))]⟩, ⟨(some (K.ofNat 16)), none, .mv (.t (K.ofNat 19))⟩, ⟨(some (K.ofNat 20)), none, .ext (.t (K.ofNat 16)) 0⟩, ⟨(some (K.ofNat 21)), none, .ext (.t (K.ofNat 16)) 1⟩, ⟨(some (K.ofNat 8)), none, .as (.t (K.ofNat 20))⟩, ⟨(some (K.ofNat 9)), none, .as (.t (K.ofNat 21))⟩]
noncomputable def f24_r5 : List EOper := [⟨(some (K.ofNat 22)), none, .mv (.t (K.ofNat 8))⟩, ⟨(some (K.ofNat 23)), none, .mv (.t (K.ofNat 9))⟩, ⟨(some (K.ofNat 4)), none, .as (.t (K.ofNat 22))⟩, ⟨(some (K.ofNat 5)), none, .as (.t (K.ofNat 23))⟩, ⟨(some (K.ofNat 6)), none, .as (.c (.i .i64 (.ofNat 0)))⟩]
noncomputable def f24_c : EC := (.seq (.reg f24_r0) (.seq (.seq (.reg f24_r1) (.seq (.reg f24_r2) (.cond (.t (K.ofNat 14)) (.seq (.reg f24_r3) .ret) .skip))) (.seq (.reg f24_r4) (.seq (.reg f24_r5) .ret))))
noncomputable def f24 : EF := ⟨24, [.tmp (K.ofNat 4), .tmp (K.ofNat 5), .tmp (K.ofNat 6)], f24_c, none⟩
theorem f24_rs : f24.rs = [.tmp (K.ofNat 4), .tmp (K.ofNat 5), .tmp (K.ofNat 6)] := of_eq_true (eq_self _)
noncomputable def f63_r0 : List EOper := [⟨(some (K.ofNat 2)), none, .box 64 (.t (K.ofNat 0))⟩, ⟨(some (K.ofNat 4)), none, .alloc 64 (List.replicate 64 (.b false))⟩, ⟨(some (K.ofNat 5)), none, .as (.c (.b false))⟩]
noncomputable def f63_r1 : List EOper := [⟨(some (K.ofNat 10)), none, .mv (.t (K.ofNat 1))⟩, ⟨(some (K.ofNat 11)), none, .len (.t (K.ofNat 10))⟩, ⟨(some (K.ofNat 12)), none, .mv (.c (.i .i64 (.ofNat 0)))⟩]
noncomputable def f63_r2 : List EOper := [⟨(some (K.ofNat 13)), none, .bin .lss (.t (K.ofNat 12)) (.t (K.ofNat 11))⟩]
noncomputable def f63_r3 : List EOper := [⟨(some (K.ofNat 14)), none, .iads 2 (.t (K.ofNat 10)) (.t (K.ofNat 12))⟩, ⟨(some (K.ofNat 15)), none, .ldn 2 (.t (K.ofNat 14))⟩, ⟨(some (K.ofNat 7)), none, .alloc 2 [(.i .i64 (.ofNat 0)), (.i .i64 (.ofNat 0))]⟩, ⟨none, none, .st 2 (.t (K.ofNat 7)) (.t (K.ofNat 15))⟩]
noncomputable def f63_r4 : List EOper := [⟨(some (K.ofNat 17)), none, .ldn 64 (.t (K.ofNat 2))⟩, ⟨(some (K.ofNat 18)), none, .iadr 2 1 (.t (K.ofNat 7)) (.c (.i .i64 (.ofNat 0)))⟩, ⟨(some (K.ofNat 19)), none, .ld (.t (K.ofNat 18))⟩, ⟨(some (K.ofNat 20)), none, .call (.c (.fn (K.ofNat 87) [])) [(.t (K.ofNat 17)), (.t (K.ofNat 19))]⟩, ⟨(some (K.ofNat 16)), none, .mv (.t (K.ofNat 20))⟩, ⟨(some (K.ofNat 21)), none, .ext (.t (K.ofNat 16)) 0⟩, ⟨(some (K.ofNat 22)), none, .ext (.t (K.ofNat 16)) 1⟩, ⟨(some (K.ofNat 8)), none, .alloc 2 [(.i .i64 (.ofNat 0)), (.i .i64 (.ofNat 0))]⟩, ⟨none, none, .st 2 (.t (K.ofNat 8)) (.t (K.ofNat 21))⟩, ⟨(some (K.ofNat 9)), none, .as (.t (K.ofNat 22))⟩]
noncomputable def f63_r5 : List EOper := [⟨(some (K.ofNat 23)), none, .mv (.t (K.ofNat 9))⟩, ⟨(some (K.ofNat 24)), none, .not (.t (K.ofNat 23))⟩, ⟨(some (K.ofNat 25)), none, .mv (.t (K.ofNat 24))⟩, ⟨(some (K.ofNat 26)), (some ((K.ofNat 25), false)), .ldn 2 (.t (K.ofNat 8))⟩, ⟨(some (K.ofNat 27)), (some ((K.ofNat 25), false)), .iadr 2 1 (.t (K.ofNat 7)) (.c (.i .i64 (.ofNat 0)))⟩, ⟨(some (K.ofNat 28)), (some ((K.ofNat 25), false)), .ld (.t (K.ofNat 27))⟩, ⟨(some (K.ofNat 29)), (some ((K.ofNat 25), false)), .iadr 2 1 (.t (K.ofNat 7)) (.c (.i .i64 (.ofNat 1)))⟩, ⟨(some (K.ofNat 30)), (some ((K.ofNat 25), false)), .ld (.t (K.ofNat 29))⟩, ⟨(some (K.ofNat 31)), (some ((K.ofNat 25), false)), .build [(.i .i64 (.ofNat 0)), (.i .i64 (.ofNat 0))] [(0, 1, (.t (K.ofNat 28))), (1, 1, (.t (K.ofNat 30)))]⟩, ⟨(some (K.ofNat 32)), (some ((K.ofNat 25), false)), .eqk (.many [(some .i64), (some .i64)]) true (.t (K.ofNat 26)) (.t (K.ofNat 31))⟩, ⟨(some (K.ofNat 33)), none, .pick (.t (K.ofNat 25)) (.c (.b true)) (.t (K.ofNat 32))⟩]
noncomputable def f63_r6 : List EOper := [⟨(some (K.ofNat 34)), none, .build (List.replicate 64 (.b false)) []⟩, ⟨none, none, .st 64 (.t (K.ofNat 4)) (.t (K.ofNat 34))⟩, ⟨(some (K.ofNat 5)), none, .as (.c (.b false))⟩]
noncomputable def f63_r7 : List EOper := [⟨(some (K.ofNat 35)), none, .ldn 64 (.t (K.ofNat 2))⟩, ⟨(some (K.ofNat 36)), none, .ldn 2 (.t (K.ofNat 8))⟩, ⟨(some (K.ofNat 37)), none, .call (.c (.fn (K.ofNat 88) [])) [(.t (K.ofNat 35)), (.t (K.ofNat 36))]⟩, ⟨none, none, .st 64 (.t (K.ofNat 2)) (.t (K.ofNat 37))⟩]
noncomputable def f63_r8 : List EOper := [⟨(some (K.ofNat 38)), none, .bin .add (.t (K.ofNat 12)) (.c (.i .i64 (.ofNat 1)))⟩, ⟨(some (K.ofNat 12)), none, .mv (.t (K.ofNat 38))⟩]
noncomputable def f63_l0 : EC := (.seq (.reg f63_r2) (.seq (.cond (.t (K.ofNat 13)) .skip (.exit 0)) (.seq (.block 1 (.seq (.reg f63_r3) (.seq (.reg f63_r4) (.seq (.seq (.reg f63_r5) (.cond (.t (K.ofNat 33)) (.seq (.reg f63_r6) .ret) .skip)) (.reg f63_r7))))) (.reg f63_r8))))
noncomputable def f63_r9 : List EOper := [⟨(some (K.ofNat 39)), none, .ldn 64 (.t (K.ofNat 2))⟩, ⟨none, none, .st 64 (.t (K.ofNat 4)) (.t (K.ofNat 39))⟩, ⟨(some (K.ofNat 5)), none, .as (.c (.b true))⟩]
noncomputable def f63_c : EC := (.seq (.reg f63_r0) (.seq (.seq (.reg f63_r1) (.block 0 (.loop f63_l0))) (.seq (.reg f63_r9) .ret)))
noncomputable def f63 : EF := ⟨40, [.celln (K.ofNat 4) 64, .tmp (K.ofNat 5)], f63_c, none⟩
theorem f63_rs : f63.rs = [.celln (K.ofNat 4) 64, .tmp (K.ofNat 5)] := of_eq_true (eq_self _)
noncomputable def f25_r0 : List EOper := [⟨(some (K.ofNat 6)), none, .as (.c .sn)⟩, ⟨(some (K.ofNat 7)), none, .as (.c (.b false))⟩, ⟨(some (K.ofNat 8)), none, .as (.c (.i .i64 (.ofNat 0)))⟩]
noncomputable def f25_r1 : List EOper := [⟨(some (K.ofNat 12)), none, .mv (.t (K.ofNat 0))⟩, ⟨(some (K.ofNat 13)), none, .mv (.t (K.ofNat 1))⟩, ⟨(some (K.ofNat 14)), none, .call (.c (.fn (K.ofNat 16) [])) [(.t (K.ofNat 12)), (.t (K.ofNat 13))]⟩, ⟨(some (K.ofNat 9)), none, .as (.t (K.ofNat 14))⟩]
noncomputable def f25_r2 : List EOper := [⟨(some (K.ofNat 15)), none, .mv (.t (K.ofNat 9))⟩, ⟨(some (K.ofNat 16)), none, .bin .neq (.t (K.ofNat 15)) (.c (.i .i64 (.ofNat 0)))⟩]
noncomputable def f25_r3 : List EOper := [⟨(some (K.ofNat 17)), none, .mv (.t (K.ofNat 9))⟩, ⟨(some (K.ofNat 6)), none, .as (.c .sn)⟩, ⟨(some (K.ofNat 7)), none, .as (.c (.b false))⟩, ⟨(some (K.ofNat 8)), none, .as (.t (K.ofNat 17))⟩]
noncomputable def f25_r4 : List EOper := [⟨(some (K.ofNat 19)), none, .mv (.t (K.ofNat 1))⟩, ⟨(some (K.ofNat 20)), none, .call (.c (.fn (K.ofNat 55) [])) [(.t (K.ofNat 19))]⟩, ⟨(some (K.ofNat 21)), none, .mv (.t (K.ofNat 2))⟩, ⟨(some (K.ofNat 22)), none, .call (.c (.fn (K.ofNat 63) [])) [(.t (K.ofNat 20)), (.t (K.ofNat 21))]⟩, ⟨(some (K.ofNat 18)), none, .mv (.t (K.ofNat 22))⟩, ⟨(some (K.ofNat 23)), none, .ext (.t (K.ofNat 18)) 0⟩, ⟨(some (K.ofNat 24)), none, .ext (.t (K.ofNat 18)) 1⟩, ⟨(some (K.ofNat 10)), none, .alloc 64 (List.replicate 64 (.b false))⟩, ⟨none, none, .st 64 (.t (K.ofNat 10)) (.t (K.ofNat 23))⟩, ⟨(some (K.ofNat 11)), none, .as (.t (K.ofNat 24))⟩]
noncomputable def f25_r5 : List EOper := [⟨(some (K.ofNat 25)), none, .ldn 64 (.t (K.ofNat 10))⟩, ⟨(some (K.ofNat 26)), none, .call (.c (.fn (K.ofNat 56) [])) [(.t (K.ofNat 25))]⟩, ⟨(some (K.ofNat 27)), none, .mv (.t (K.ofNat 11))⟩, ⟨(some (K.ofNat 6)), none, .as (.t (K.ofNat 26))⟩, ⟨(some (K.ofNat 7)), none, .as (.t (K.ofNat 27))⟩, ⟨(some (K.ofNat 8)), none, .as (.c (.i .i64 (.ofNat 0)))⟩]
noncomputable def f25_c : EC := (.seq (.reg f25_r0) (.seq (.seq (.reg f25_r1) (.seq (.reg f25_r2) (.cond (.t (K.ofNat 16)) (.seq (.reg f25_r3) .ret) .skip))) (.seq (.reg f25_r4) (.seq (.reg f25_r5) .ret))))
noncomputable def f25 : EF := ⟨28, [.tmp (K.ofNat 6), .tmp (K.ofNat 7), .tmp (K.ofNat 8)], f25_c, none⟩
theorem f25_rs : f25.rs = [.tmp (K.ofNat 6), .tmp (K.ofNat 7), .tmp (K.ofNat 8)] := of_eq_true (eq_self _)
section
variable {fs : T EF} {ro : Option K}
structure Calls62 (fs : T EF) : Prop extends Calls85 fs where
  p75 : ∀ m : Nat, m < 64 → ∀ h P, CallP fs (.fn (K.ofNat 75) []) [.i .i64 (m : Int)] h P = P (.i .i64 (pop6 m : Int)) h
  c57 : fs.get (K.ofNat 57) = some f57
  c62 : fs.get (K.ofNat 62) = some f62
  c64 : fs.get (K.ofNat 64) = some f64
  c84 : fs.get (K.ofNat 84) = some f84
  c89 : fs.get (K.ofNat 89) = some f89
  c93 : fs.get (K.ofNat 93) = some f93
  c94 : fs.get (K.ofNat 94) = some f94
theorem f62_ret {h : H} {B : Nat → Bool} (k : Calls62 fs) (hB : Low B) (hne : 1 ≤ (cntS (mem64 B)).length) (hc : HC h) :
    Ret fs f62 [.agg (boolV B)] h fun r h' => ∃ x u, r = .tup [u, .b x] ∧ Grow h.nx.nat h h' ∧ (x = true → holB B = false ∧ ∃ D, Sk 2 pE h' u D ∧ Own h.nx.nat u ∧ SeqC B D) ∧ (x = false → u = .sn ∧ (holB B = true ∨ ¬ ToC B)) := by
  apply ret_of rfl
  show W fs none f62_c _ _ _
  unfold f62_c
  have n1 := nx_new h (.cells 64 (boolV B))
  have g1 : Grow h.nx.nat h (h.new (.cells 64 (boolV B))) := Grow.new (Nat.le_refl _) _
  have hA1 : Ar V.b (h.new (.cells 64 (boolV B))) h.nx (arr B 64) := Ar.box
  have ld1 := hA1.ldn (n := 64) (by rw [arr_len])
  have hc1 := g1.hc hc
  simp (disch := omega) only [f62_r0, f62_r1, w_reg, w_seq, seqK_n, x_nil, x_as, x_box, x_ldn, x_call, kx, rvP_ok, ev_t, ev_c, evs_nil, evs_cons, getV_some, putD_some, oGet_s, frame_1, getK_set, Nat.reduceEqDiff, ↓reduceIte, cells64 (boolV_len (B := B)), ld1]
  generalize h.new (.cells 64 (boolV B)) = h1 at *
  obtain ⟨ef, pt1, pt2⟩ := k.pt
  refine (callP_0 (ef := f84) k.c84 rfl (f84_ret (B := B) k.p75 k.c57 k.c78 k.c91 k.c82 k.c92 pt1 pt2 k.c93 k.c94 k.c89 k.c64 hc1 hne)).mono ?_
  rintro u h2 ⟨rfl, g2⟩
  have nx2 := g2.nx
  have g12 : Grow h.nx.nat h h2 := g1.trans (g2.low (by omega))
  cases hh : holB B
  · have n3 := nx_new h2 (.cells 1 [.sn])
    have g3 : Grow h2.nx.nat h2 (h2.new (.cells 1 [.sn])) := Grow.new (Nat.le_refl _) _
    have e3 : (h2.new (.cells 1 [.sn])).get h2.nx = .cells 1 [.sn] := get_new_same
    simp (disch := omega) only [f62_r3, w_skip, w_reg, w_seq, w_cond, seqK_n, ckB_b, cbB_b, true_and, x_nil, x_alloc, kx, ev_t, getV_some, putD_some, getK_set, ↓reduceIte, Bool.false_eq_true]
    generalize h2.new (.cells 1 [.sn]) = h3 at *
    have n4 := nx_new h3 (.map 67 [])
    have g4 : Grow h3.nx.nat h3 (h3.new (.map 67 [])) := Grow.new (Nat.le_refl _) _
    have e4 : (h3.new (.map 67 [])).get h3.nx = .map 67 [] := get_new_same
    have n5 := nx_new (h3.new (.map 67 [])) (.cells 1 [.mn])
    have g5 : Grow (h3.new (.map 67 [])).nx.nat (h3.new (.map 67 [])) ((h3.new (.map 67 [])).new (.cells 1 [.mn])) := Grow.new (Nat.le_refl _) _
    have s5 := st1 (h := (h3.new (.map 67 [])).new (.cells 1 [.mn])) (id := (h3.new (.map 67 [])).nx) (a := .mn) (c := .m h3.nx) get_new_same rfl
    have g6 : Grow (h3.new (.map 67 [])).nx.nat ((h3.new (.map 67 [])).new (.cells 1 [.mn])) (((h3.new (.map 67 [])).new (.cells 1 [.mn])).put (h3.new (.map 67 [])).nx (.cells 1 [.m h3.nx])) := Grow.put (Nat.le_refl _) (by omega) _
    have e6 : (((h3.new (.map 67 [])).new (.cells 1 [.mn])).put (h3.new (.map 67 [])).nx (.cells 1 [.m h3.nx])).get (h3.new (.map 67 [])).nx = .cells 1 [.m h3.nx] := get_put_same
    have n6 : (((h3.new (.map 67 [])).new (.cells 1 [.mn])).put (h3.new (.map 67 [])).nx (.cells 1 [.m h3.nx])).nx.nat = ((h3.new (.map 67 [])).new (.cells 1 [.mn])).nx.nat := rfl
    simp (disch := omega) only [f62_r4, w_reg, w_seq, seqK_n, x_nil, x_alloc, x_st, x_mkmap, kx, rvP_ok, ev_t, getV_some, putD_some, putD_none, getK_set, Nat.reduceEqDiff, ↓reduceIte, s5]
    generalize h3.new (.map 67 []) = h4 at *
    generalize h4.new (.cells 1 [.mn]) = h5 at *
    generalize h5.put h4.nx (.cells 1 [.m h3.nx]) = h6 at *
    have n7 := nx_new h6 (.cells 1 [.fnil])
    have g7 : Grow h6.nx.nat h6 (h6.new (.cells 1 [.fnil])) := Grow.new (Nat.le_refl _) _
    have s8 := st1 (h := h6.new (.cells 1 [.fnil])) (id := h6.nx) (a := .fnil) (c := .fn (K.ofNat 85) [.p h4.nx 0, .p h2.nx 0, .p h6.nx 0]) get_new_same rfl
    have g8 : Grow h6.nx.nat (h6.new (.cells 1 [.fnil])) ((h6.new (.cells 1 [.fnil])).put h6.nx (.cells 1 [.fn (K.ofNat 85) [.p h4.nx 0, .p h2.nx 0, .p h6.nx 0]])) := Grow.put (Nat.le_refl _) (by omega) _
    have e8 : ((h6.new (.cells 1 [.fnil])).put h6.nx (.cells 1 [.fn (K.ofNat 85) [.p h4.nx 0, .p h2.nx 0, .p h6.nx 0]])).get h6.nx = .cells 1 [.fn (K.ofNat 85) [.p h4.nx 0, .p h2.nx 0, .p h6.nx 0]] := get_put_same
    have n8 : ((h6.new (.cells 1 [.fnil])).put h6.nx (.cells 1 [.fn (K.ofNat 85) [.p h4.nx 0, .p h2.nx 0, .p h6.nx 0]])).nx.nat = h6.nx.nat + 1 := n7
    simp (disch := omega) only [f62_r5, f62_r6, w_reg, w_seq, seqK_n, x_nil, x_alloc, x_st, x_mkfn, kx, rvP_ok, ev_t, evs_nil, evs_cons, getV_some, putD_some, putD_none, getK_set, Nat.reduceEqDiff, ↓reduceIte, s8]
    generalize (h6.new (.cells 1 [.fnil])).put h6.nx (.cells 1 [.fn (K.ofNat 85) [.p h4.nx 0, .p h2.nx 0, .p h6.nx 0]]) = h8 at *
    have z6 : Grow h6.nx.nat h6 h8 := g7.trans g8
    have z4 : Grow h4.nx.nat h4 h8 := (g5.trans g6).trans (z6.low (by omega))
    have z3 : Grow h3.nx.nat h3 h8 := g4.trans (z4.low (by omega))
    have z2 : Grow h2.nx.nat h2 h8 := g3.trans (z3.low (by omega))
    have hc2 := g12.hc hc
    have kd : CIdsOk h2.nx.nat h8.nx.nat ⟨h2.nx, h3.nx, h4.nx, h6.nx⟩ := by
      constructor
      · show h2.nx.nat ≤ h2.nx.nat; omega
      · show h2.nx.nat < h3.nx.nat; omega
      · show h3.nx.nat < h4.nx.nat; omega
      · show h4.nx.nat < h6.nx.nat; omega
      · show h6.nx.nat < h8.nx.nat; omega
    have st : CSt h2.nx.nat h8.nx.nat h2 ⟨h2.nx, h3.nx, h4.nx, h6.nx⟩ [] [] .sn h8 := by
      refine ⟨z2, Nat.le_refl _, ?_, ?_, ?_, e8, Sk.nil, Own.sn⟩
      · show h8.get h2.nx = _; rw [z3.old _ (by omega)]; exact e3
      · show h8.get h3.nx = _; rw [z4.old _ (by omega)]; exact e4
      · show h8.get h4.nx = _; rw [z6.old _ (by omega)]; exact e6
    have ldW := st.ldW
    change loadV h8 (.p h6.nx 0) one? = .ok (.fn (K.ofNat 85) (capsC ⟨h2.nx, h3.nx, h4.nx, h6.nx⟩)) h8 at ldW
    have hA8 : Ar V.b h8 h.nx (arr B 64) := (hA1.same (g2.old _ (by omega))).same (z2.old _ (by omega))
    have ld8 := hA8.ldn (n := 64) (by rw [arr_len])
    have hcard : card B ≤ 64 := mem64_len
    simp (disch := omega) only [f62_r7, x_ld, x_ldn, x_call, kx, rvP_ok, ev_t, evs_nil, evs_cons, getV_some, putD_some, getK_set, Nat.reduceEqDiff, ↓reduceIte, ldW, ld8]
    refine (callP_c k.c85 rfl (f85_ret k.toCalls85 kd hc2 64 B [] [] .sn h8 hcard hB (by simpa using hcard) (fun x hx => by cases hx) st)).mono ?_
    rintro r h9 ⟨x, rfl, po⟩
    obtain ⟨M9, C9, w9, st9, k9, y1, y0⟩ := po.ex
    have gr : Grow h.nx.nat h h9 := g12.trans (st9.gr.low (by omega))
    cases x
    · obtain ⟨_, _, hn⟩ := y0 rfl
      simp (disch := omega) only [f62_r8, f62_rs, w_reg, w_seq, w_cond, w_ret, seqK_n, seqK_r, ckB_b, cbB_b, true_and, retK_r, x_nil, x_as, x_not, kx, rvP_ok, ev_t, ev_c, getV_some, putD_some, onB_b, oGet_s, readRs_nil, readRs_t, retV_2, Option.some.injEq, exists_eq_left', getK_set, Nat.reduceEqDiff, ↓reduceIte, Bool.not_false]
      exact ⟨false, .sn, rfl, gr, fun h => (by cases h), fun _ => ⟨rfl, .inr hn⟩⟩
    · obtain ⟨D, hCD, hD⟩ := y1 rfl
      obtain rfl : C9 = D := by simpa using hCD
      have ldF := st9.ldF
      change loadV h9 (.p h2.nx 0) one? = _ at ldF
      have ow := st9.ow.low (b := h.nx.nat) (by omega)
      simp (disch := omega) only [f62_r9, f62_rs, w_skip, w_reg, w_seq, w_cond, w_ret, seqK_n, ckB_b, cbB_b, true_and, retK_r, x_nil, x_as, x_ld, x_not, kx, rvP_ok, ev_t, ev_c, getV_some, putD_some, onB_b, oGet_s, readRs_nil, readRs_t, retV_2, Option.some.injEq, exists_eq_left', getK_set, Nat.reduceEqDiff, ↓reduceIte, Bool.false_eq_true, Bool.not_true, ldF]
      exact ⟨true, w9, rfl, gr, fun _ => ⟨C9, st9.sw, ow, hD⟩, fun h => (by cases h)⟩
  · simp (disch := omega) only [f62_r2, f62_rs, w_reg, w_seq, w_cond, w_ret, seqK_n, seqK_r, ckB_b, cbB_b, true_and, retK_r, x_nil, x_as, kx, ev_t, ev_c, getV_some, putD_some, oGet_s, readRs_nil, readRs_t, retV_2, Option.some.injEq, exists_eq_left', getK_set, Nat.reduceEqDiff, ↓reduceIte]
    exact ⟨false, .sn, rfl, g12, fun h => (by cases h), fun _ => ⟨rfl, .inl trivial⟩⟩
/-- A family, and nothing beyond. -/
def lowB (B : Nat → Bool) (i : Nat) : Bool := decide (i < 64) && B i
theorem low_low {B : Nat → Bool} : Low (lowB B) := fun i hi => by unfold lowB; rw [decide_eq_false (by omega)]; rfl
theorem lowB_at {B : Nat → Bool} {i : Nat} (hi : i < 64) : lowB B i = B i := by unfold lowB; rw [decide_eq_true hi]; rfl
theorem lowB_V {B : Nat → Bool} : boolV (lowB B) = boolV B := by
  unfold boolV
  rw [arr_congr fun i hi => lowB_at hi]
theorem lowB_mem {B : Nat → Bool} : mem64 (lowB B) = mem64 B := by
  unfold mem64
  exact List.filter_congr fun i hi => lowB_at (List.mem_range.1 hi)
structure Calls24 (fs : T EF) : Prop extends Calls62 fs where
  c16 : fs.get (K.ofNat 16) = some f16
/-- Collapse, of what is a complex. -/
theorem f24_ret {h : H} {v : V} {S : List Int} {n : Int} (k : Calls24 fs) (hv : Sl iE h v S) (hc : HC h) (hS : S.length ≤ 1000000) (hchk : chkS n S = 0) (hne : 1 ≤ (cntS (mem64 (famB S))).length) :
    Ret fs f24 [.i .i64 n, v] h fun r h' => ∃ x u, r = .tup [u, .b x, .i .i64 0] ∧ Grow h.nx.nat h h' ∧ (x = true → holB (lowB (famB S)) = false ∧ ∃ D, Sk 2 pE h' u D ∧ Own h.nx.nat u ∧ SeqC (lowB (famB S)) D) ∧ (x = false → u = .sn ∧ (holB (lowB (famB S)) = true ∨ ¬ ToC (lowB (famB S)))) := by
  apply ret_of rfl
  show W fs none f24_c _ _ _
  unfold f24_c
  have ne0 : decide ((0 : Int) ≠ 0) = false := rfl
  simp (disch := omega) only [f24_r0, f24_r1, w_reg, w_seq, seqK_n, x_nil, x_mv, x_as, x_call, ev_t, ev_c, evs_nil, evs_cons, getV_some, putD_some, frame_2, of0, getK_set, Nat.reduceEqDiff, ↓reduceIte]
  refine (callP_0 (ef := f16) k.c16 rfl (f16_ret (n := n) k.p54 hv)).mono ?_
  rintro r h1 ⟨rfl, rfl⟩
  rw [hchk]
  simp (disch := omega) only [f24_r2, f24_r4, w_skip, w_reg, w_seq, w_cond, seqK_n, ckB_b, cbB_b, true_and, x_nil, x_mv, x_as, x_bin, x_call, kx, rvP_ok, okv_some, ev_t, ev_c, evs_nil, evs_cons, getV_some, putD_some, bin_neq, of0, getK_set, Nat.reduceEqDiff, ↓reduceIte, Bool.false_eq_true, ne0]
  refine (callP_0 (ef := f55) k.c55 rfl (f55_ret (S := S) k.p54 hv hc hS)).mono ?_
  rintro u h2 ⟨rfl, g2⟩
  rw [famB_list, ← lowB_V]
  simp (disch := omega) only [x_call, kx, ev_t, ev_c, evs_nil, evs_cons, getV_some, putD_some, getK_set, ↓reduceIte]
  refine (callP_0 (ef := f62) k.c62 rfl (f62_ret (B := lowB (famB S)) k.toCalls62 low_low (by rw [lowB_mem]; exact hne) (g2.hc hc))).mono ?_
  rintro r h3 ⟨x, u, rfl, g3, yes, no⟩
  simp (disch := omega) only [f24_r5, f24_rs, w_reg, w_seq, w_ret, seqK_n, retK_r, x_nil, x_mv, x_as, x_ext, kx, rvP_ok, okv_some, ev_t, ev_c, getV_some, putD_some, onTup_t, oGet_s, nth0, nth1, readRs_nil, readRs_t, retV_2, of0, Option.some.injEq, exists_eq_left', getK_set, Nat.reduceEqDiff, ↓reduceIte]
  have nx2 := g2.nx
  refine ⟨x, u, rfl, g2.trans (g3.low (by omega)), fun h => ?_, no⟩
  obtain ⟨a, D, b, c, d⟩ := yes h
  exact ⟨a, D, b, c.low (by omega), d⟩
end
end Go.Ev
