/-
  The evaluator, part V: what is proved of small functions of numbers.
-/
import Derived.Test.YtneacehpoaambaaEvU
namespace Go.Ev
open Go Go.RowKit

/-- The number of elements of a set below 64. -/
noncomputable def pop6 (m : Nat) : Nat := Nat.add (Nat.mod m 2) (Nat.add (Nat.mod (Nat.div m 2) 2) (Nat.add (Nat.mod (Nat.div m 4) 2) (Nat.add (Nat.mod (Nat.div m 8) 2) (Nat.add (Nat.mod (Nat.div m 16) 2) (Nat.mod (Nat.div m 32) 2)))))
noncomputable def onNat (i : Int) (f : Nat → Option V) : Option V := match i with | .ofNat m => f m | .negSucc _ => none
noncomputable def popG (args : List V) : Option V := match args with
  | [.i .i64 n] => onNat n fun m => bif Nat.blt m 64 then some (.i .i64 (.ofNat (pop6 m))) else none
  | _ => none
noncomputable def chkPop (fs : T EF) (n : Nat) (ef : EF) (k : Nat) : Bool := Nat.rec true (fun m ih => givesB fs n ef [.i .i64 (.ofNat m)] (.i .i64 (.ofNat (pop6 m))) && ih) k
theorem chkPop_at {fs : T EF} {n : Nat} {ef : EF} : ∀ {k : Nat}, chkPop fs n ef k = true → ∀ m, m < k → givesB fs n ef [.i .i64 (.ofNat m)] (.i .i64 (.ofNat (pop6 m))) = true
  | 0, _, m, hm => by omega
  | k + 1, h, m, hm => by
    have h : (givesB fs n ef [.i .i64 (.ofNat k)] (.i .i64 (.ofNat (pop6 k))) && chkPop fs n ef k) = true := h
    rw [Bool.and_eq_true] at h
    by_cases e : m = k
    · subst e; exact h.1
    · exact chkPop_at h.2 m (by omega)
theorem popG_gives {Y : Rig} {fs : T EF} (hfs : Fns Y fs) {k : K} {ef : EF} (hf : ef.nv = none ∧ ∃ fn c, FnOk Y k ef fn c) {n : Nat} (h : chkPop fs n ef 64 = true) : ∀ args v, popG args = some v → Gives Y k args v := by
  intro args v hg
  unfold popG at hg
  split at hg
  · rename_i i
    cases i with
    | negSucc m => cases hg
    | ofNat m =>
      have hg : (bif Nat.blt m 64 then some (V.i .i64 (.ofNat (pop6 m))) else none) = some v := hg
      obtain ⟨hb, hv⟩ := cond_ok (by simp) hg
      cases hv
      have hlt : m < 64 := Nat.lt_of_lt_of_le (Nat.lt_succ_self _) (Nat.le_of_ble_eq_true hb)
      exact gives_of_eval hfs hf rfl rfl (chkPop_at h m hlt)
  · cases hg

/-- Is a set a part of another? -/
noncomputable def partG (args : List V) : Option V := match args with
  | [.i .i64 a, .i .i64 b] => some (.b (ieq (ibits (fun m n => Nat.xor m (Nat.land m n)) (fun _ x y => x &&& ~~~y) .i64 a b) (.ofNat 0)))
  | _ => none
theorem partG_gives {Y : Rig} {fs : T EF} (hfs : Fns Y fs) {k : K} {ef : EF} (hf : ef.nv = none ∧ ∃ fn c, FnOk Y k ef fn c) {n : Nat} {h' : Int → Int → H}
    (h : ∀ a b, callF (eval fs n) ef [.i .i64 a, .i .i64 b] ⟨.e, .nil⟩ = .ok (.b (ieq (ibits (fun m n => Nat.xor m (Nat.land m n)) (fun _ x y => x &&& ~~~y) .i64 a b) (.ofNat 0))) (h' a b)) : ∀ args v, partG args = some v → Gives Y k args v := by
  intro args v hg
  unfold partG at hg
  split at hg
  · rename_i a b
    cases hg
    intro ι vals w hvals
    obtain ⟨_, fn, c, hf⟩ := hf
    refine (callF_rel (evalOk hfs n) hf (h a b) (hvals.flat (ι' := fun _ => none) rfl) (WR.empty Y.tab w)).mono ?_
    rintro e w' ⟨ι', v', rfl, hs, hvr, _⟩
    exact ⟨v', rfl, fun ι => hvr.flat rfl, hs.os, hs.tape, hs.output, hs.size, fun b hb => hs.keep b hb fun _ _ h => absurd h (by simp)⟩
  · cases hg
/-- An entry by what is proved. -/
theorem entry_nat {Y : Rig} {k : K} {n : Nat} {fn : Func} {g : List V → Option V} (hk : k.nat = n) (h1 : Y.P.funcs[n]? = some fn) (h2 : (fn.name == "runtime.NumGoroutine") = false) (h3 : fn.body.isSome = true) (hg : ∀ args v, g args = some v → Gives Y k args v) : EntryOk Y k ⟨0, [], .no, some g⟩ := by
  subst hk
  exact .inr ⟨g, rfl, ⟨fn, h1, (fun e => by rw [e] at h3; cases h3), h2⟩, hg⟩
end Go.Ev
