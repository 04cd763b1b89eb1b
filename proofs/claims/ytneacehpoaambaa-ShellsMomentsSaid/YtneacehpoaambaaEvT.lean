/-
  The evaluator, part T: keys.
-/
import Derived.Test.YtneacehpoaambaaEvR
import Derived.DeepKeys5
import Derived.Laws.StructEq
namespace Go.Ev
open Go Go.RowKit

/-- What a type of arrays and structs must be to be a key. -/
structure WideKey (P : Program) (t : TypeId) : Prop where
  laid : laidOutB P = true
  small : Nat.ble (P.types.size + 2) 10000 = true
  row : Nat.blt t P.types.size = true
  key : P.keyType t = true
  wide : (match P.underlying t with | some (.array _ _) | some (.struct _) => true | _ => false) = true
  guard : P.eqGuardType P.depth t = false

theorem keyOk_wide {P : Program} {t : TypeId} {cs : List CK} (h : WideKey P t) (hk : ∀ v, fitV (.many cs) v → ∃ l, keyOf P t v = some l) : KeyOk P t (.many cs) := by
  have hsmall : P.types.size + 2 ≤ 10000 := Nat.le_of_ble_eq_true h.small
  have hrow : t < P.types.size := Nat.lt_of_lt_of_le (Nat.lt_succ_self _) (Nat.le_of_ble_eq_true h.row)
  have kl := deep_law_gate h.laid hsmall hrow h.key h.wide
  refine ⟨fun w x y hx hy => ?_, fun w op ox oy x y hx hy => ?_, fun w em v hv => ?_, fun w x es hx hes => ?_, fun w v hv => ?_⟩
  · obtain ⟨lx, h1⟩ := hk x hx
    obtain ⟨ly, h2⟩ := hk y hy
    obtain ⟨r, h3, h4⟩ := run_equal_deep w (m := P.types.size + 1) (by omega) h.key h.wide h1 h2
    refine ⟨r, h3, h4.trans ⟨fun e => kl.inj h1 (e ▸ h2), fun e => ?_⟩⟩
    rw [e, h2] at h1
    exact (Option.some.inj h1).symm
  · obtain ⟨vs, rfl, _⟩ := hx
    obtain ⟨us, rfl, _⟩ := hy
    exact run_eqGuard_agg w op t ox oy _ _ h.guard
  · obtain ⟨l, h1⟩ := hk v hv
    exact kl.check w em h1
  · obtain ⟨l, h1⟩ := hk x hx
    exact kl.find w h1 es fun e he => hk e.key (hes e he)
  · obtain ⟨l, h1⟩ := hk v hv
    exact kl.stays w h1

theorem keyOk_bools {P : Program} {t e : TypeId} {n : Nat} (h : WideKey P t) (hu : P.underlying t = some (.array n e)) (he : P.underlying e = some .bool) (hc : P.cellsOf t = n) (hce : P.cellsOf e = 1) : KeyOk P t (.many (List.replicate n none)) := by
  refine keyOk_wide h fun v hv => ?_
  obtain ⟨vs, rfl, hl, hf⟩ := hv
  rw [List.length_replicate] at hl
  have hb : ∀ i (hi : i < vs.length), ∃ b, vs[i] = .bool b := fun i hi => by
    have := hf i (by simpa using (by omega : i < n)) hi
    simpa [fitC] using this
  have hpos : 0 < P.types.size := Nat.lt_of_le_of_lt (Nat.zero_le _) (Nat.lt_of_lt_of_le (Nat.lt_succ_self _) (Nat.le_of_ble_eq_true h.row))
  obtain ⟨m, hm⟩ : ∃ m, P.types.size = m + 1 := ⟨P.types.size - 1, by omega⟩
  have hformed : (Value.agg vs.toArray).formed P t = true := by simp [Value.formed, hu, hc, hl]
  have key : ∀ (l : List Nat), (∀ i ∈ l, i < n) → ∃ ls : List (List Lit), (l.mapM fun i => P.keyLits P.types.size e ((vs.drop (i * P.cellsOf e)).take (P.cellsOf e))) = some ls := by
    intro l
    induction l with
    | nil => intro _; exact ⟨[], rfl⟩
    | cons i l ih =>
      intro hi
      obtain ⟨ls, h1⟩ := ih fun j hj => hi j (List.mem_cons_of_mem _ hj)
      have hin : i < vs.length := by have := hi i List.mem_cons_self; omega
      obtain ⟨b, hb1⟩ := hb i hin
      have e1 : (vs.drop (i * P.cellsOf e)).take (P.cellsOf e) = [.bool b] := by
        rw [hce, Nat.mul_one, List.drop_eq_getElem_cons hin, hb1]
        rfl
      refine ⟨[.bool b] :: ls, ?_⟩
      rw [List.mapM_cons, e1, h1]
      have : P.keyLits P.types.size e [.bool b] = some [.bool b] := by
        rw [hm]
        unfold Program.keyLits
        rw [he]
      rw [this]
      rfl
  obtain ⟨ls, h1⟩ := key (List.range n) fun i hi => List.mem_range.1 hi
  refine ⟨.string (keyBytes ls.flatten), ?_⟩
  unfold keyOf
  rw [hu]
  simp only [h.key, hformed, Bool.and_self, if_true]
  unfold Program.keyLits
  rw [hu]
  simp only [Value.cells, hc, hl, if_true]
  rw [h1]
  rfl
end Go.Ev
