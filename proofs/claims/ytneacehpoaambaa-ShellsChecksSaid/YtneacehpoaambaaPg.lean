/-
  Functions of the seat: the reference's next.
  Functions of the seat: the reference's Shelling.
  Functions of the seat: the reference's Shellable.
  Maps whose keys are arrays of bools, and whose values are true: sets of these.
  More rules: six arguments, two literals in one stage, literals that must stay, calls of closures.
  Functions of the seat: the reference's Hs.
  The law ShellsCounts.
  What is true of the complexes that the law makes, and of their counts.
  Horner's rule and the sum with binomial coefficients give the same; so do the two sums with signs.
  The law ShellsHollows.
  What is true of complexes: links, duals, and the numbers of holes.
  What is true of shellings: which piece may come next.
  What is true of the search for a shelling: orders of pieces, each of which may come next.
  The state of the search for a shelling: its boxes, its two slices, its map.
  Functions of the seat: the search for a shelling (findShelling's closure).
  Functions of the seat: findShelling, Shell.
  Complexes as the laws make them: tame, and pure.
  McMullen: the new parts of a shelling, by the number of their corners, are the h-list.
  Functions of the seat: arranged, shelled.
-/
import Derived.Test.YtneacehpoaambaaPf
namespace Go.Ev
open Go Go.RowKit
section
variable {fs : T EF} {ro : Option K}
noncomputable def nxC (Q : List Nat) (m x y b : Nat) : Bool := decide (m / 2 ^ b % 2 = 1) && (decide (pop6 (lessC x (Q.getD b 0)) = 1) && decide (lessC x (Q.getD b 0) &&& y = 0))
noncomputable def nxA (Q : List Nat) (m x y j : Nat) : Bool := (List.range j).any (nxC Q m x y)
noncomputable def nxB (Q : List Nat) (m x a : Nat) : Bool := decide (m / 2 ^ a % 2 = 0) || nxA Q m x (Q.getD a 0) Q.length
/-- May the i-th piece come next, after those of m? -/
noncomputable def nextR (Q : List Nat) (m i : Nat) : Bool := (List.range Q.length).all (nxB Q m (Q.getD i 0))
end
end Go.Ev
namespace Go.Ev
open Go Go.RowKit
section
variable {fs : T EF} {ro : Option K}
noncomputable def shT (Q : List Nat) : List Int → Nat → Bool
  | [], _ => true
  | o :: t, m => !decide (o < 0) && (!decide ((Q.length : Int) ≤ o) && (!decide (m / 2 ^ o.toNat % 2 = 1) && (nextR Q m o.toNat && shT Q t (m ||| 2 ^ o.toNat))))
def castL (Q : List Nat) : List Int := Q.map fun (k : Nat) => (k : Int)
noncomputable def shellR (Q : List Nat) (O : List Int) : Bool := shT Q O 0 && (decide (O.length = Q.length) && pureS (castL Q))
end
end Go.Ev
namespace Go.Ev
open Go Go.RowKit
section
variable {fs : T EF} {ro : Option K}
/-- May the i-th piece come after those of m? -/
def okN (Q : List Nat) (m i : Nat) : Prop := i < Q.length ∧ m / 2 ^ i % 2 = 0 ∧ nextR Q m i = true
end
end Go.Ev
namespace Go.Ev
open Go Go.RowKit
def bK (L : List Bool) : V := .agg (L.map V.b)
def ents (M : List (List Bool)) : List (V × V) := M.map fun L => (bK L, .b true)
theorem eqK_b : ∀ (n : Nat) (L M : List Bool), L.length = n → M.length = n → eqK (List.replicate n none) (L.map V.b) (M.map V.b) = some (decide (L = M))
  | 0, [], [], _, _ => rfl
  | 0, _ :: _, _, h, _ => by simp at h
  | 0, [], _ :: _, _, h => by simp at h
  | n + 1, [], _, h, _ => by simp at h
  | n + 1, _ :: _, [], _, h => by simp at h
  | n + 1, a :: L, b :: M, h1, h2 => by
    have ih := eqK_b n L M (by simpa using h1) (by simpa using h2)
    show oGet (some (a == b)) none (fun r => oGet (eqK (List.replicate n none) (L.map V.b) (M.map V.b)) none fun s => some (r && s)) = _
    rw [ih]
    show some ((a == b) && decide (L = M)) = _
    by_cases e1 : a = b
    · by_cases e2 : L = M
      · simp [e1, e2]
      · simp [e1, e2]
    · simp [e1]
theorem keyEq_b {n : Nat} {L M : List Bool} (h1 : L.length = n) (h2 : M.length = n) : keyEq (.many (List.replicate n none)) (bK L) (bK M) = some (decide (L = M)) := eqK_b n L M h1 h2
theorem findE_b {n : Nat} {L : List Bool} (h1 : L.length = n) : ∀ (M : List (List Bool)), (∀ x ∈ M, x.length = n) → findE (.many (List.replicate n none)) (bK L) (ents M) = some (if L ∈ M then some (.b true) else none)
  | [], _ => by
    show (oGet (keyEq (.many (List.replicate n none)) (bK L) (bK L)) none fun _ => some none) = _
    rw [keyEq_b h1 h1]; rfl
  | x :: M, h => by
    have ih := findE_b h1 M fun y hy => h y (List.mem_cons_of_mem _ hy)
    show (oGet (keyEq (.many (List.replicate n none)) (bK L) (bK x)) none fun r => bif r then some (some (.b true)) else findE (.many (List.replicate n none)) (bK L) (ents M)) = _
    rw [keyEq_b h1 (h x (by simp)), ih]
    show (bif decide (L = x) then _ else _) = _
    by_cases e : L = x
    · rw [decide_eq_true e, if_pos (show L ∈ x :: M by rw [e]; exact List.mem_cons_self)]; rfl
    · rw [decide_eq_false e]
      by_cases e2 : L ∈ M
      · rw [if_pos e2, if_pos (show L ∈ x :: M from List.mem_cons_of_mem _ e2)]; rfl
      · rw [if_neg e2, if_neg (show ¬ L ∈ x :: M from fun h => by rcases List.mem_cons.1 h with h | h <;> contradiction)]; rfl
theorem updE_b {n : Nat} {L : List Bool} (h1 : L.length = n) : ∀ (M : List (List Bool)), (∀ x ∈ M, x.length = n) → L ∉ M → updE (.many (List.replicate n none)) (bK L) (.b true) (ents M) = some (ents (M ++ [L]))
  | [], _, _ => by
    show (oGet (keyEq (.many (List.replicate n none)) (bK L) (bK L)) none fun _ => some [(bK L, V.b true)]) = _
    rw [keyEq_b h1 h1]; rfl
  | x :: M, h, hn => by
    have e : ¬ L = x := fun e => hn (by rw [e]; simp)
    have ih := updE_b h1 M (fun y hy => h y (List.mem_cons_of_mem _ hy)) fun hm => hn (List.mem_cons_of_mem _ hm)
    show (oGet (keyEq (.many (List.replicate n none)) (bK L) (bK x)) none fun r => bif r then some ((bK L, V.b true) :: ents M) else oGet (updE (.many (List.replicate n none)) (bK L) (.b true) (ents M)) none fun l => some ((bK x, V.b true) :: l)) = _
    rw [keyEq_b h1 (h x (by simp)), ih, decide_eq_false e]; rfl
/-- A set of arrays, in memory. -/
def MapI (h : H) (id : K) (kt : Nat) (M : List (List Bool)) : Prop := h.get id = .map kt (ents M)
theorem MapI.look {n kt : Nat} {h : H} {id : K} {M : List (List Bool)} {L : List Bool} (hm : MapI h id kt M) (h1 : L.length = n) (h2 : ∀ x ∈ M, x.length = n) :
    lookV kt (.many (List.replicate n none)) (.b false) h (.m id) (bK L) false = .ok (.b (decide (L ∈ M))) h := by
  show ((h.get id).onM kt fun es => oGet (findE (.many (List.replicate n none)) (bK L) es) RV.no fun r => bif false then _ else RV.ok (oGet r (.b false) fun v => v) h) = _
  rw [hm]
  show (bif Nat.beq kt kt then (oGet (findE (.many (List.replicate n none)) (bK L) (ents M)) RV.no fun r => RV.ok (oGet r (.b false) fun v => v) h) else _) = _
  rw [Nat.beq_same, findE_b h1 M h2]
  by_cases e : L ∈ M
  · rw [if_pos e, decide_eq_true e]; rfl
  · rw [if_neg e, decide_eq_false e]; rfl
theorem MapI.put {n kt : Nat} {h : H} {id : K} {M : List (List Bool)} {L : List Bool} (hm : MapI h id kt M) (h1 : L.length = n) (h2 : ∀ x ∈ M, x.length = n) (hn : L ∉ M) :
    mupdV kt (.many (List.replicate n none)) h (.m id) (bK L) (.b true) = .ok undefV (h.put id (.map kt (ents (M ++ [L])))) ∧ MapI (h.put id (.map kt (ents (M ++ [L])))) id kt (M ++ [L]) := by
  refine ⟨?_, get_put_same⟩
  show ((h.get id).onM kt fun es => oGet (updE (.many (List.replicate n none)) (bK L) (.b true) es) RV.no fun es => RV.ok undefV (h.put id (.map kt es))) = _
  rw [hm]
  show (bif Nat.beq kt kt then (oGet (updE (.many (List.replicate n none)) (bK L) (.b true) (ents M)) RV.no fun es => RV.ok undefV (h.put id (.map kt es))) else _) = _
  rw [Nat.beq_same, updE_b h1 M h2 hn]; rfl
end Go.Ev
namespace Go.Ev
open Go Go.RowKit
section
variable {fs : T EF} {fr : Fr} {h h0 : H} {k k2 : K}
theorem frame_6 {v1 v2 v3 v4 v5 v6 : V} : frame .e [v1, v2, v3, v4, v5, v6] .nil = T.set (K.ofNat 5) v6 (T.set (K.ofNat 4) v5 (T.set (K.ofNat 3) v4 (T.set (K.ofNat 2) v3 (T.set (K.ofNat 1) v2 (T.set (K.ofNat 0) v1 .nil))))) := of_eq_true (eq_self _)
theorem callP_c {ef : EF} {args caps : List V} {P : V → H → Prop} (hf : fs.get k = some ef) (hn : ef.nv = none) (hr : Ret fs ef (args ++ caps) h P) : CallP fs (.fn k caps) args h P :=
  callP_of hf hn (by rw [cat_eq]; exact hr)
theorem fresh_two {n sz n2 sz2 : Nat} {x y : Blk} (hg : fr.get k = some (.sl h0.nx 0 n sz)) (hg2 : fr.get k2 = some (.sl (h0.new x).nx 0 n2 sz2)) : isFresh h0 ((h0.new x).new y) fr [k, k2] = true := by
  have n1 := nx_new h0 x
  have n2 := nx_new (h0.new x) y
  show freshL h0.nx.nat ((h0.new x).new y).nx.nat (oGet (slId (getV (fr.get k))) (oGet (slId (getV (fr.get k2))) [] fun id => [id]) fun id => id :: oGet (slId (getV (fr.get k2))) [] fun id => [id]) = true
  rw [hg, hg2]
  show (Nat.ble h0.nx.nat h0.nx.nat && Nat.blt h0.nx.nat ((h0.new x).new y).nx.nat && (!(h0.nx.beq (h0.new x).nx) && true) && (Nat.ble h0.nx.nat (h0.new x).nx.nat && Nat.blt (h0.new x).nx.nat ((h0.new x).new y).nx.nat && true && true)) = true
  have hb : h0.nx.beq (h0.new x).nx = false := by
    cases e : h0.nx.beq (h0.new x).nx
    · rfl
    · have := K.beq_eq e
      exact absurd this (kNe (by omega))
  rw [hb, Nat.ble_eq_true_of_le (Nat.le_refl _), Nat.ble_eq_true_of_le (show h0.nx.nat ≤ (h0.new x).nx.nat by omega), show Nat.blt h0.nx.nat ((h0.new x).new y).nx.nat = true from Nat.ble_eq_true_of_le (by omega), show Nat.blt (h0.new x).nx.nat ((h0.new x).new y).nx.nat = true from Nat.ble_eq_true_of_le (by omega)]
  rfl
theorem stay_lit {n sz off : Nat} {z : List V} {ps : List (Nat × Nat × EO)} {id : K} {cs : List V} (hg : fr.get k = some (.sl id 0 n sz)) (hb : h.get id = .cells (n * sz) cs) (hf : fillE fr z ps = some cs) (hq : beqL cs cs = true) : stays fs goNo fr h ⟨some k, none, .bslice n sz z ps⟩ = true := by
  show litOk fr h n sz z ps (getV (fr.get k)) = true
  rw [hg]
  show (Nat.beq 0 0 && Nat.beq n n && Nat.beq sz sz && (h.get id).onW false fun m cs => Nat.beq m (n * sz) && oGet (fillE fr z ps) false fun cs' => beqL cs cs') = true
  rw [hb, hf, Nat.beq_same, Nat.beq_same, Nat.beq_same]
  show (true && (Nat.beq (n * sz) (n * sz) && beqL cs cs)) = true
  rw [Nat.beq_same, hq]; rfl
end
end Go.Ev
namespace Go.Ev
open Go Go.RowKit
section
variable {fs : T EF} {ro : Option K}
end
end Go.Ev
namespace Go.Ev
open Go Go.RowKit
noncomputable def f4_r0 : List EOper := [⟨(some (K.ofNat 4)), none, .as (.c (.b false))⟩]
noncomputable def f4_r1 : List EOper := [⟨(some (K.ofNat 17)), none, .mv (.t (K.ofNat 0))⟩, ⟨(some (K.ofNat 18)), none, .mv (.t (K.ofNat 1))⟩, ⟨(some (K.ofNat 19)), none, .call (.c (.fn (K.ofNat 30) [])) [(.t (K.ofNat 17)), (.t (K.ofNat 18))]⟩, ⟨(some (K.ofNat 16)), none, .mv (.t (K.ofNat 19))⟩, ⟨(some (K.ofNat 20)), none, .ext (.t (K.ofNat 16)) 0⟩, ⟨(some (K.ofNat 21)), none, .ext (.t (K.ofNat 16)) 1⟩, ⟨(some (K.ofNat 5)), none, .as (.t (K.ofNat 20))⟩, ⟨(some (K.ofNat 6)), none, .as (.t (K.ofNat 21))⟩]
noncomputable def f4_r2 : List EOper := [⟨(some (K.ofNat 23)), none, .mv (.t (K.ofNat 5))⟩, ⟨(some (K.ofNat 24)), none, .mv (.t (K.ofNat 6))⟩, ⟨(some (K.ofNat 25)), none, .call (.c (.fn (K.ofNat 17) [])) [(.t (K.ofNat 23)), (.t (K.ofNat 24))]⟩, ⟨(some (K.ofNat 22)), none, .mv (.t (K.ofNat 25))⟩, ⟨(some (K.ofNat 26)), none, .ext (.t (K.ofNat 22)) 0⟩, ⟨(some (K.ofNat 27)), none, .ext (.t (K.ofNat 22)) 1⟩, ⟨(some (K.ofNat 7)), none, .as (.t (K.ofNat 26))⟩, ⟨(some (K.ofNat 8)), none, .as (.t (K.ofNat 27))⟩]
noncomputable def f4_r3 : List EOper := [⟨(some (K.ofNat 29)), none, .mv (.t (K.ofNat 5))⟩, ⟨(some (K.ofNat 30)), none, .mv (.t (K.ofNat 6))⟩, ⟨(some (K.ofNat 31)), none, .call (.c (.fn (K.ofNat 18) [])) [(.t (K.ofNat 29)), (.t (K.ofNat 30))]⟩, ⟨(some (K.ofNat 28)), none, .mv (.t (K.ofNat 31))⟩, ⟨(some (K.ofNat 32)), none, .ext (.t (K.ofNat 28)) 0⟩, ⟨(some (K.ofNat 33)), none, .ext (.t (K.ofNat 28)) 1⟩, ⟨(some (K.ofNat 9)), none, .as (.t (K.ofNat 32))⟩, ⟨(some (K.ofNat 10)), none, .as (.t (K.ofNat 33))⟩]
noncomputable def f4_r4 : List EOper := [⟨(some (K.ofNat 35)), none, .mv (.t (K.ofNat 5))⟩, ⟨(some (K.ofNat 36)), none, .mv (.t (K.ofNat 6))⟩, ⟨(some (K.ofNat 37)), none, .call (.c (.fn (K.ofNat 19) [])) [(.t (K.ofNat 35)), (.t (K.ofNat 36))]⟩, ⟨(some (K.ofNat 34)), none, .mv (.t (K.ofNat 37))⟩, ⟨(some (K.ofNat 38)), none, .ext (.t (K.ofNat 34)) 0⟩, ⟨(some (K.ofNat 39)), none, .ext (.t (K.ofNat 34)) 1⟩, ⟨(some (K.ofNat 11)), none, .as (.t (K.ofNat 38))⟩, ⟨(some (K.ofNat 12)), none, .as (.t (K.ofNat 39))⟩]
noncomputable def f4_r5 : List EOper := [⟨(some (K.ofNat 41)), none, .mv (.t (K.ofNat 5))⟩, ⟨(some (K.ofNat 42)), none, .mv (.t (K.ofNat 6))⟩, ⟨(some (K.ofNat 43)), none, .call (.c (.fn (K.ofNat 20) [])) [(.t (K.ofNat 41)), (.t (K.ofNat 42))]⟩, ⟨(some (K.ofNat 40)), none, .mv (.t (K.ofNat 43))⟩, ⟨(some (K.ofNat 44)), none, .ext (.t (K.ofNat 40)) 0⟩, ⟨(some (K.ofNat 45)), none, .ext (.t (K.ofNat 40)) 1⟩, ⟨(some (K.ofNat 13)), none, .as (.t (K.ofNat 44))⟩, ⟨(some (K.ofNat 14)), none, .as (.t (K.ofNat 45))⟩]
noncomputable def f4_r6 : List EOper := [⟨(some (K.ofNat 46)), none, .mv (.t (K.ofNat 5))⟩, ⟨(some (K.ofNat 47)), none, .mv (.t (K.ofNat 6))⟩, ⟨(some (K.ofNat 48)), none, .call (.c (.fn (K.ofNat 31) [])) [(.t (K.ofNat 46)), (.t (K.ofNat 47))]⟩, ⟨(some (K.ofNat 15)), none, .as (.t (K.ofNat 48))⟩]
noncomputable def f4_r7 : List EOper := [⟨(some (K.ofNat 49)), none, .mv (.t (K.ofNat 8))⟩, ⟨(some (K.ofNat 50)), none, .bin .eql (.t (K.ofNat 49)) (.c (.i .i64 (.ofNat 0)))⟩, ⟨(some (K.ofNat 51)), none, .mv (.t (K.ofNat 50))⟩, ⟨(some (K.ofNat 52)), (some ((K.ofNat 51), true)), .mv (.t (K.ofNat 7))⟩, ⟨(some (K.ofNat 53)), (some ((K.ofNat 51), true)), .mv (.t (K.ofNat 5))⟩, ⟨(some (K.ofNat 54)), (some ((K.ofNat 51), true)), .mv (.t (K.ofNat 6))⟩, ⟨(some (K.ofNat 55)), (some ((K.ofNat 51), true)), .call (.c (.fn (K.ofNat 33) [])) [(.t (K.ofNat 53)), (.t (K.ofNat 54))]⟩, ⟨(some (K.ofNat 56)), (some ((K.ofNat 51), true)), .call (.c (.fn (K.ofNat 32) [])) [(.t (K.ofNat 52)), (.t (K.ofNat 55))]⟩, ⟨(some (K.ofNat 57)), none, .pick (.t (K.ofNat 51)) (.t (K.ofNat 56)) (.c (.b false))⟩, ⟨(some (K.ofNat 58)), none, .mv (.t (K.ofNat 57))⟩, ⟨(some (K.ofNat 59)), (some ((K.ofNat 58), true)), .mv (.t (K.ofNat 10))⟩, ⟨(some (K.ofNat 60)), (some ((K.ofNat 58), true)), .bin .eql (.t (K.ofNat 59)) (.c (.i .i64 (.ofNat 0)))⟩, ⟨(some (K.ofNat 61)), none, .pick (.t (K.ofNat 58)) (.t (K.ofNat 60)) (.c (.b false))⟩, ⟨(some (K.ofNat 62)), none, .mv (.t (K.ofNat 61))⟩, ⟨(some (K.ofNat 63)), (some ((K.ofNat 62), true)), .mv (.t (K.ofNat 9))⟩, ⟨(some (K.ofNat 64)), (some ((K.ofNat 62), true)), .mv (.t (K.ofNat 15))⟩, ⟨(some (K.ofNat 65)), (some ((K.ofNat 62), true)), .call (.c (.fn (K.ofNat 32) [])) [(.t (K.ofNat 63)), (.t (K.ofNat 64))]⟩, ⟨(some (K.ofNat 66)), none, .pick (.t (K.ofNat 62)) (.t (K.ofNat 65)) (.c (.b false))⟩, ⟨(some (K.ofNat 67)), none, .mv (.t (K.ofNat 66))⟩, ⟨(some (K.ofNat 68)), (some ((K.ofNat 67), true)), .mv (.t (K.ofNat 12))⟩, ⟨(some (K.ofNat 69)), (some ((K.ofNat 67), true)), .bin .eql (.t (K.ofNat 68)) (.c (.i .i64 (.ofNat 0)))⟩, ⟨(some (K.ofNat 70)), none, .pick (.t (K.ofNat 67)) (.t (K.ofNat 69)) (.c (.b false))⟩, ⟨(some (K.ofNat 71)), none, .mv (.t (K.ofNat 70))⟩, ⟨(some (K.ofNat 72)), (some ((K.ofNat 71), true)), .mv (.t (K.ofNat 11))⟩, ⟨(some (K.ofNat 73)), (some ((K.ofNat 71), true)), .mv (.t (K.ofNat 15))⟩, ⟨(some (K.ofNat 74)), (some ((K.ofNat 71), true)), .call (.c (.fn (K.ofNat 34) [])) [(.t (K.ofNat 73))]⟩, ⟨(some (K.ofNat 75)), (some ((K.ofNat 71), true)), .call (.c (.fn (K.ofNat 32) [])) [(.t (K.ofNat 72)), (.t (K.ofNat 74))]⟩, ⟨(some (K.ofNat 76)), none, .pick (.t (K.ofNat 71)) (.t (K.ofNat 75)) (.c (.b false))⟩, ⟨(some (K.ofNat 77)), none, .mv (.t (K.ofNat 76))⟩, ⟨(some (K.ofNat 78)), (some ((K.ofNat 77), true)), .mv (.t (K.ofNat 14))⟩, ⟨(some (K.ofNat 79)), (some ((K.ofNat 77), true)), .bin .eql (.t (K.ofNat 78)) (.c (.i .i64 (.ofNat 0)))⟩, ⟨(some (K.ofNat 80)), none, .pick (.t (K.ofNat 77)) (.t (K.ofNat 79)) (.c (.b false))⟩, ⟨(some (K.ofNat 81)), none, .mv (.t (K.ofNat 80))⟩, ⟨(some (K.ofNat 82)), (some ((K.ofNat 81), true)), .mv (.t (K.ofNat 13))⟩, ⟨(some (K.ofNat 83)), (some ((K.ofNat 81), true)), .mv (.t (K.ofNat 15))⟩, ⟨(some (K.ofNat 84)), (some ((K.ofNat 81), true)), .call (.c (.fn (K.ofNat 35) [])) [(.t (K.ofNat 83))]⟩, ⟨(some (K.ofNat 85)), (some ((K.ofNat 81), true)), .bin .eql (.t (K.ofNat 82)) (.t (K.ofNat 84))⟩, ⟨(some (K.ofNat 86)), none, .pick (.t (K.ofNat 81)) (.t (K.ofNat 85)) (.c (.b false))⟩, ⟨(some (K.ofNat 87)), none, .mv (.t (K.ofNat 86))⟩, ⟨(some (K.ofNat 88)), (some ((K.ofNat 87), true)), .call (.c (.fn (K.ofNat 29) [])) []⟩, ⟨(some (K.ofNat 89)), none, .pick (.t (K.ofNat 87)) (.t (K.ofNat 88)) (.c (.b false))⟩, ⟨(some (K.ofNat 4)), none, .as (.t (K.ofNat 89))⟩]
noncomputable def f4_c : EC := (.seq (.reg f4_r0) (.seq (.reg f4_r1) (.seq (.reg f4_r2) (.seq (.reg f4_r3) (.seq (.reg f4_r4) (.seq (.reg f4_r5) (.seq (.reg f4_r6) (.seq (.reg f4_r7) .ret))))))))
noncomputable def f4 : EF := ⟨90, [.tmp (K.ofNat 4)], f4_c, none⟩
section
variable {fs : T EF} {ro : Option K}
end
end Go.Ev
namespace Go.Ev
open Go Go.RowKit
theorem chk_good {N : Int} {P : List Int} (h1 : 1 ≤ N) (h6 : N ≤ 6) (hne : P ≠ []) (hl : P.length ≤ 10) (hs : P.Pairwise (· < ·)) (hin : ∀ x ∈ P, 1 ≤ x ∧ x < 2 ^ N.toNat) (ha : ∀ x ∈ P, ∀ y ∈ P, y = x ∨ ptI x y = false) : chkS N P = 0 := by
  unfold chkS
  rw [if_neg (by omega), if_pos]
  unfold goodS
  have h0 : P.length ≠ 0 := fun e => hne (List.length_eq_zero_iff.1 e)
  rw [decide_eq_true (by omega), decide_eq_true hl, Bool.true_and, Bool.true_and, List.all_eq_true]
  intro i hi
  have hi : i < P.length := by simpa using hi
  have hg : P.getD i 0 = P[i] := by simp [List.getD, hi]
  unfold okAt
  rw [hg]
  have hm := List.getElem_mem hi
  have hb := hin _ hm
  rw [decide_eq_true hb.1, decide_eq_true hb.2, Bool.true_and, Bool.true_and, List.all_eq_true]
  intro y hy
  obtain ⟨j, hj, rfl⟩ := List.getElem_of_mem hy
  have hj2 : j < i := by rw [List.length_take] at hj; omega
  rw [List.getElem_take]
  have hlt : P[j] < P[i] := List.pairwise_iff_getElem.1 hs j i (by omega) hi hj2
  unfold pairOk
  rw [decide_eq_true hlt]
  rcases ha P[j] (List.getElem_mem _) P[i] hm with e | e
  · omega
  · rw [e]; rfl
/-! ### The counts -/
theorem getD_cpad {C : List Int} {m j : Nat} : (cpad C m).getD j 0 = C.getD j 0 := by
  unfold cpad
  by_cases h : j < C.length
  · simp [List.getD, List.getElem?_append_left h]
  · simp only [List.getD]
    rw [List.getElem?_append_right (by omega), List.getElem?_replicate, List.getElem?_eq_none (by omega)]
    split <;> rfl
theorem cnt_len {d : Nat} : ∀ (l : List Nat), (∀ k ∈ l, pop6 k ≤ d) → (cntS l).length ≤ d + 1 ∧ (∀ k ∈ l, pop6 k < (cntS l).length) ∧ ∀ j, (cntS l).getD j 0 = (rcnt d l).getD j 0 := by
  intro l
  refine snoc_ind (P := fun l => (∀ k ∈ l, pop6 k ≤ d) → (cntS l).length ≤ d + 1 ∧ (∀ k ∈ l, pop6 k < (cntS l).length) ∧ ∀ j, (cntS l).getD j 0 = (rcnt d l).getD j 0) (fun _ => ?_) (fun l k ih hd => ?_) l
  · refine ⟨by simp [cntS], (fun k h => by cases h), fun j => ?_⟩
    show ([] : List Int).getD j 0 = (List.replicate (d + 1) (0 : Int)).getD j 0
    simp only [List.getD, List.getElem?_nil, List.getElem?_replicate]
    split <;> rfl
  · obtain ⟨i1, i2, i3⟩ := ih (fun k hk => hd k (by simp [hk]))
    have hk := hd k (by simp)
    rw [cntS_snoc, rcnt_snoc]
    have hlen : (cstep (cntS l) (pop6 k)).length = max (cntS l).length (pop6 k + 1) := by
      unfold cstep cpad
      rw [List.length_set, List.length_append, List.length_replicate]; omega
    refine ⟨by rw [hlen]; omega, fun x hx => ?_, fun j => ?_⟩
    · rw [hlen]
      rcases List.mem_append.1 hx with h | h
      · have := i2 x h; omega
      · have : x = k := by simpa using h
        subst this; omega
    · unfold cstep bump
      have hp := cpad_len (C := cntS l) (m := pop6 k)
      have hr := rcnt_len (d := d) l
      have g1 : ∀ (A : List Int) (i : Nat) (x : Int), i < A.length → (A.set i x).getD j 0 = if i = j then x else A.getD j 0 := by
        intro A i x hi
        simp only [List.getD, List.getElem?_set]
        by_cases e : i = j
        · subst e; simp [hi]
        · simp [e]
      rw [g1 _ _ _ hp, g1 _ _ _ (by omega), getD_cpad, getD_cpad, i3, i3]
end Go.Ev
namespace Go.Ev
open Go Go.RowKit
end Go.Ev
namespace Go.Ev
open Go Go.RowKit
noncomputable def f8_r0 : List EOper := [⟨(some (K.ofNat 6)), none, .as (.c (.b false))⟩]
noncomputable def f8_r1 : List EOper := [⟨(some (K.ofNat 19)), none, .mv (.t (K.ofNat 0))⟩, ⟨(some (K.ofNat 20)), none, .mv (.t (K.ofNat 1))⟩, ⟨(some (K.ofNat 21)), none, .call (.c (.fn (K.ofNat 30) [])) [(.t (K.ofNat 19)), (.t (K.ofNat 20))]⟩, ⟨(some (K.ofNat 18)), none, .mv (.t (K.ofNat 21))⟩, ⟨(some (K.ofNat 22)), none, .ext (.t (K.ofNat 18)) 0⟩, ⟨(some (K.ofNat 23)), none, .ext (.t (K.ofNat 18)) 1⟩, ⟨(some (K.ofNat 7)), none, .as (.t (K.ofNat 22))⟩, ⟨(some (K.ofNat 8)), none, .as (.t (K.ofNat 23))⟩]
noncomputable def f8_r2 : List EOper := [⟨(some (K.ofNat 25)), none, .mv (.t (K.ofNat 7))⟩, ⟨(some (K.ofNat 26)), none, .mv (.t (K.ofNat 8))⟩, ⟨(some (K.ofNat 27)), none, .call (.c (.fn (K.ofNat 26) [])) [(.t (K.ofNat 25)), (.t (K.ofNat 26))]⟩, ⟨(some (K.ofNat 24)), none, .mv (.t (K.ofNat 27))⟩, ⟨(some (K.ofNat 28)), none, .ext (.t (K.ofNat 24)) 0⟩, ⟨(some (K.ofNat 29)), none, .ext (.t (K.ofNat 24)) 1⟩, ⟨(some (K.ofNat 9)), none, .as (.t (K.ofNat 28))⟩, ⟨(some (K.ofNat 10)), none, .as (.t (K.ofNat 29))⟩]
noncomputable def f8_r3 : List EOper := [⟨(some (K.ofNat 30)), none, .mv (.t (K.ofNat 10))⟩, ⟨(some (K.ofNat 31)), none, .bin .neq (.t (K.ofNat 30)) (.c (.i .i64 (.ofNat 0)))⟩, ⟨(some (K.ofNat 32)), none, .mv (.t (K.ofNat 31))⟩, ⟨(some (K.ofNat 33)), (some ((K.ofNat 32), false)), .mv (.t (K.ofNat 9))⟩, ⟨(some (K.ofNat 34)), (some ((K.ofNat 32), false)), .mv (.t (K.ofNat 7))⟩, ⟨(some (K.ofNat 35)), (some ((K.ofNat 32), false)), .mv (.t (K.ofNat 8))⟩, ⟨(some (K.ofNat 36)), (some ((K.ofNat 32), false)), .call (.c (.fn (K.ofNat 44) [])) [(.t (K.ofNat 34)), (.t (K.ofNat 35))]⟩, ⟨(some (K.ofNat 37)), (some ((K.ofNat 32), false)), .call (.c (.fn (K.ofNat 32) [])) [(.t (K.ofNat 33)), (.t (K.ofNat 36))]⟩, ⟨(some (K.ofNat 38)), (some ((K.ofNat 32), false)), .not (.t (K.ofNat 37))⟩, ⟨(some (K.ofNat 39)), none, .pick (.t (K.ofNat 32)) (.c (.b true)) (.t (K.ofNat 38))⟩]
noncomputable def f8_r4 : List EOper := [⟨(some (K.ofNat 6)), none, .as (.c (.b false))⟩]
noncomputable def f8_r5 : List EOper := [⟨(some (K.ofNat 11)), none, .as (.c (.i .i64 (.ofNat 0)))⟩]
noncomputable def f8_r6 : List EOper := [⟨(some (K.ofNat 40)), none, .mv (.t (K.ofNat 11))⟩, ⟨(some (K.ofNat 41)), none, .bin .lss (.t (K.ofNat 40)) (.c (.i .i64 (.ofNat 2)))⟩]
noncomputable def f8_r7 : List EOper := [⟨(some (K.ofNat 45)), none, .mv (.t (K.ofNat 7))⟩, ⟨(some (K.ofNat 46)), none, .mv (.t (K.ofNat 8))⟩, ⟨(some (K.ofNat 47)), none, .mv (.t (K.ofNat 2))⟩, ⟨(some (K.ofNat 48)), none, .call (.c (.fn (K.ofNat 27) [])) [(.t (K.ofNat 45)), (.t (K.ofNat 46)), (.t (K.ofNat 47))]⟩, ⟨(some (K.ofNat 44)), none, .mv (.t (K.ofNat 48))⟩, ⟨(some (K.ofNat 49)), none, .ext (.t (K.ofNat 44)) 0⟩, ⟨(some (K.ofNat 50)), none, .ext (.t (K.ofNat 44)) 1⟩, ⟨(some (K.ofNat 12)), none, .as (.t (K.ofNat 49))⟩, ⟨(some (K.ofNat 13)), none, .as (.t (K.ofNat 50))⟩]
noncomputable def f8_r8 : List EOper := [⟨(some (K.ofNat 51)), none, .mv (.t (K.ofNat 2))⟩, ⟨(some (K.ofNat 52)), none, .bin .lss (.t (K.ofNat 51)) (.c (.i .i64 (.ofNat 0)))⟩, ⟨(some (K.ofNat 53)), none, .mv (.t (K.ofNat 52))⟩, ⟨(some (K.ofNat 54)), (some ((K.ofNat 53), false)), .mv (.t (K.ofNat 2))⟩, ⟨(some (K.ofNat 55)), (some ((K.ofNat 53), false)), .mv (.t (K.ofNat 7))⟩, ⟨(some (K.ofNat 56)), (some ((K.ofNat 53), false)), .bin .shl (.c (.i .i64 (.ofNat 1))) (.t (K.ofNat 55))⟩, ⟨(some (K.ofNat 57)), (some ((K.ofNat 53), false)), .bin .geq (.t (K.ofNat 54)) (.t (K.ofNat 56))⟩, ⟨(some (K.ofNat 58)), none, .pick (.t (K.ofNat 53)) (.c (.b true)) (.t (K.ofNat 57))⟩, ⟨(some (K.ofNat 59)), none, .mv (.t (K.ofNat 58))⟩, ⟨(some (K.ofNat 60)), (some ((K.ofNat 59), false)), .mv (.t (K.ofNat 8))⟩, ⟨(some (K.ofNat 61)), (some ((K.ofNat 59), false)), .mv (.t (K.ofNat 2))⟩, ⟨(some (K.ofNat 62)), (some ((K.ofNat 59), false)), .call (.c (.fn (K.ofNat 45) [])) [(.t (K.ofNat 60)), (.t (K.ofNat 61))]⟩, ⟨(some (K.ofNat 63)), (some ((K.ofNat 59), false)), .not (.t (K.ofNat 62))⟩, ⟨(some (K.ofNat 64)), none, .pick (.t (K.ofNat 59)) (.c (.b true)) (.t (K.ofNat 63))⟩]
noncomputable def f8_r9 : List EOper := [⟨(some (K.ofNat 65)), none, .mv (.t (K.ofNat 13))⟩, ⟨(some (K.ofNat 66)), none, .bin .neq (.t (K.ofNat 65)) (.c (.i .i64 (.ofNat 1)))⟩, ⟨(some (K.ofNat 67)), none, .mv (.t (K.ofNat 66))⟩, ⟨(some (K.ofNat 68)), (some ((K.ofNat 67), false)), .mv (.t (K.ofNat 12))⟩, ⟨(some (K.ofNat 69)), (some ((K.ofNat 67), false)), .len (.t (K.ofNat 68))⟩, ⟨(some (K.ofNat 70)), (some ((K.ofNat 67), false)), .bin .neq (.t (K.ofNat 69)) (.c (.i .i64 (.ofNat 0)))⟩, ⟨(some (K.ofNat 71)), none, .pick (.t (K.ofNat 67)) (.c (.b true)) (.t (K.ofNat 70))⟩]
noncomputable def f8_r10 : List EOper := [⟨(some (K.ofNat 6)), none, .as (.c (.b false))⟩]
noncomputable def f8_r11 : List EOper := [⟨(some (K.ofNat 72)), none, .mv (.t (K.ofNat 13))⟩, ⟨(some (K.ofNat 73)), none, .bin .neq (.t (K.ofNat 72)) (.c (.i .i64 (.ofNat 0)))⟩, ⟨(some (K.ofNat 74)), none, .mv (.t (K.ofNat 73))⟩, ⟨(some (K.ofNat 75)), (some ((K.ofNat 74), false)), .mv (.t (K.ofNat 12))⟩, ⟨(some (K.ofNat 76)), (some ((K.ofNat 74), false)), .mv (.t (K.ofNat 7))⟩, ⟨(some (K.ofNat 77)), (some ((K.ofNat 74), false)), .mv (.t (K.ofNat 8))⟩, ⟨(some (K.ofNat 78)), (some ((K.ofNat 74), false)), .mv (.t (K.ofNat 2))⟩, ⟨(some (K.ofNat 79)), (some ((K.ofNat 74), false)), .call (.c (.fn (K.ofNat 46) [])) [(.t (K.ofNat 76)), (.t (K.ofNat 77)), (.t (K.ofNat 78))]⟩, ⟨(some (K.ofNat 80)), (some ((K.ofNat 74), false)), .call (.c (.fn (K.ofNat 32) [])) [(.t (K.ofNat 75)), (.t (K.ofNat 79))]⟩, ⟨(some (K.ofNat 81)), (some ((K.ofNat 74), false)), .not (.t (K.ofNat 80))⟩, ⟨(some (K.ofNat 82)), none, .pick (.t (K.ofNat 74)) (.c (.b true)) (.t (K.ofNat 81))⟩]
noncomputable def f8_r12 : List EOper := [⟨(some (K.ofNat 6)), none, .as (.c (.b false))⟩]
noncomputable def f8_r13 : List EOper := [⟨(some (K.ofNat 83)), none, .mv (.t (K.ofNat 7))⟩, ⟨(some (K.ofNat 84)), none, .mv (.t (K.ofNat 8))⟩, ⟨(some (K.ofNat 85)), none, .call (.c (.fn (K.ofNat 33) [])) [(.t (K.ofNat 83)), (.t (K.ofNat 84))]⟩, ⟨(some (K.ofNat 14)), none, .as (.t (K.ofNat 85))⟩]
noncomputable def f8_r14 : List EOper := [⟨(some (K.ofNat 86)), none, .mv (.t (K.ofNat 14))⟩, ⟨(some (K.ofNat 87)), none, .mv (.t (K.ofNat 2))⟩, ⟨(some (K.ofNat 88)), none, .conv .u64 (.t (K.ofNat 87))⟩, ⟨(some (K.ofNat 89)), none, .mv (.t (K.ofNat 14))⟩, ⟨(some (K.ofNat 90)), none, .len (.t (K.ofNat 89))⟩, ⟨(some (K.ofNat 91)), none, .conv .u64 (.t (K.ofNat 90))⟩, ⟨(some (K.ofNat 92)), none, .bin .rem (.t (K.ofNat 88)) (.t (K.ofNat 91))⟩, ⟨(some (K.ofNat 93)), none, .conv .i64 (.t (K.ofNat 92))⟩, ⟨(some (K.ofNat 94)), none, .iads 1 (.t (K.ofNat 86)) (.t (K.ofNat 93))⟩, ⟨(some (K.ofNat 95)), none, .ld (.t (K.ofNat 94))⟩, ⟨(some (K.ofNat 2)), none, .as (.t (K.ofNat 95))⟩]
noncomputable def f8_r15 : List EOper := [⟨(some (K.ofNat 42)), none, .mv (.t (K.ofNat 11))⟩, ⟨(some (K.ofNat 43)), none, .bin .add (.t (K.ofNat 42)) (.c (.i .i64 (.ofNat 1)))⟩, ⟨(some (K.ofNat 11)), none, .as (.t (K.ofNat 43))⟩]
noncomputable def f8_l0 : EC := (.seq (.seq (.reg f8_r6) (.cond (.t (K.ofNat 41)) .skip (.exit 0))) (.seq (.block 1 (.seq (.reg f8_r7) (.seq (.seq (.reg f8_r8) (.cond (.t (K.ofNat 64)) (.seq (.reg f8_r9) (.cond (.t (K.ofNat 71)) (.seq (.reg f8_r10) .ret) .skip)) (.seq (.reg f8_r11) (.cond (.t (K.ofNat 82)) (.seq (.reg f8_r12) .ret) .skip)))) (.seq (.reg f8_r13) (.reg f8_r14))))) (.reg f8_r15)))
noncomputable def f8_r16 : List EOper := [⟨(some (K.ofNat 97)), none, .mv (.t (K.ofNat 7))⟩, ⟨(some (K.ofNat 98)), none, .mv (.t (K.ofNat 8))⟩, ⟨(some (K.ofNat 99)), none, .call (.c (.fn (K.ofNat 28) [])) [(.t (K.ofNat 97)), (.t (K.ofNat 98))]⟩, ⟨(some (K.ofNat 96)), none, .mv (.t (K.ofNat 99))⟩, ⟨(some (K.ofNat 100)), none, .ext (.t (K.ofNat 96)) 0⟩, ⟨(some (K.ofNat 101)), none, .ext (.t (K.ofNat 96)) 1⟩, ⟨(some (K.ofNat 15)), none, .as (.t (K.ofNat 100))⟩, ⟨(some (K.ofNat 16)), none, .as (.t (K.ofNat 101))⟩]
noncomputable def f8_r17 : List EOper := [⟨(some (K.ofNat 102)), none, .mv (.t (K.ofNat 7))⟩, ⟨(some (K.ofNat 103)), none, .mv (.t (K.ofNat 8))⟩, ⟨(some (K.ofNat 104)), none, .call (.c (.fn (K.ofNat 47) [])) [(.t (K.ofNat 102)), (.t (K.ofNat 103))]⟩, ⟨(some (K.ofNat 17)), none, .as (.t (K.ofNat 104))⟩]
noncomputable def f8_r18 : List EOper := [⟨(some (K.ofNat 106)), none, .mv (.t (K.ofNat 17))⟩, ⟨(some (K.ofNat 107)), none, .len (.t (K.ofNat 106))⟩, ⟨(some (K.ofNat 108)), none, .bin .eql (.t (K.ofNat 107)) (.c (.i .i64 (.ofNat 0)))⟩, ⟨(some (K.ofNat 109)), none, .mv (.t (K.ofNat 108))⟩, ⟨(some (K.ofNat 110)), (some ((K.ofNat 109), false)), .mv (.t (K.ofNat 17))⟩, ⟨(some (K.ofNat 111)), (some ((K.ofNat 109), false)), .mv (.t (K.ofNat 17))⟩, ⟨(some (K.ofNat 112)), (some ((K.ofNat 109), false)), .len (.t (K.ofNat 111))⟩, ⟨(some (K.ofNat 113)), (some ((K.ofNat 109), false)), .bin .sub (.t (K.ofNat 112)) (.c (.i .i64 (.ofNat 1)))⟩, ⟨(some (K.ofNat 114)), (some ((K.ofNat 109), false)), .iads 1 (.t (K.ofNat 110)) (.t (K.ofNat 113))⟩, ⟨(some (K.ofNat 115)), (some ((K.ofNat 109), false)), .ld (.t (K.ofNat 114))⟩, ⟨(some (K.ofNat 116)), (some ((K.ofNat 109), false)), .bin .eql (.t (K.ofNat 115)) (.c (.i .i64 (.ofNat 0)))⟩, ⟨(some (K.ofNat 117)), none, .pick (.t (K.ofNat 109)) (.c (.b true)) (.t (K.ofNat 116))⟩, ⟨(some (K.ofNat 105)), none, .as (.t (K.ofNat 117))⟩]
noncomputable def f8_r19 : List EOper := [⟨(some (K.ofNat 118)), none, .mv (.t (K.ofNat 16))⟩, ⟨(some (K.ofNat 119)), none, .bin .eql (.t (K.ofNat 118)) (.c (.i .i64 (.ofNat 4)))⟩, ⟨(some (K.ofNat 120)), none, .mv (.t (K.ofNat 119))⟩, ⟨(some (K.ofNat 121)), (some ((K.ofNat 120), true)), .mv (.t (K.ofNat 15))⟩, ⟨(some (K.ofNat 122)), (some ((K.ofNat 120), true)), .len (.t (K.ofNat 121))⟩, ⟨(some (K.ofNat 123)), (some ((K.ofNat 120), true)), .bin .eql (.t (K.ofNat 122)) (.c (.i .i64 (.ofNat 0)))⟩, ⟨(some (K.ofNat 124)), none, .pick (.t (K.ofNat 120)) (.t (K.ofNat 123)) (.c (.b false))⟩, ⟨(some (K.ofNat 125)), none, .mv (.t (K.ofNat 124))⟩, ⟨(some (K.ofNat 126)), (some ((K.ofNat 125), true)), .call (.c (.fn (K.ofNat 29) [])) []⟩, ⟨(some (K.ofNat 127)), none, .pick (.t (K.ofNat 125)) (.t (K.ofNat 126)) (.c (.b false))⟩, ⟨(some (K.ofNat 6)), none, .as (.t (K.ofNat 127))⟩]
noncomputable def f8_r20 : List EOper := [⟨(some (K.ofNat 129)), none, .mv (.t (K.ofNat 17))⟩, ⟨(some (K.ofNat 130)), none, .len (.t (K.ofNat 129))⟩, ⟨(some (K.ofNat 131)), none, .bin .gtr (.t (K.ofNat 130)) (.c (.i .i64 (.ofNat 10)))⟩, ⟨(some (K.ofNat 128)), none, .as (.t (K.ofNat 131))⟩]
noncomputable def f8_r21 : List EOper := [⟨(some (K.ofNat 132)), none, .mv (.t (K.ofNat 16))⟩, ⟨(some (K.ofNat 133)), none, .bin .eql (.t (K.ofNat 132)) (.c (.i .i64 (.ofNat 8)))⟩, ⟨(some (K.ofNat 134)), none, .mv (.t (K.ofNat 133))⟩, ⟨(some (K.ofNat 135)), (some ((K.ofNat 134), true)), .mv (.t (K.ofNat 15))⟩, ⟨(some (K.ofNat 136)), (some ((K.ofNat 134), true)), .len (.t (K.ofNat 135))⟩, ⟨(some (K.ofNat 137)), (some ((K.ofNat 134), true)), .bin .eql (.t (K.ofNat 136)) (.c (.i .i64 (.ofNat 0)))⟩, ⟨(some (K.ofNat 138)), none, .pick (.t (K.ofNat 134)) (.t (K.ofNat 137)) (.c (.b false))⟩, ⟨(some (K.ofNat 139)), none, .mv (.t (K.ofNat 138))⟩, ⟨(some (K.ofNat 140)), (some ((K.ofNat 139), true)), .call (.c (.fn (K.ofNat 29) [])) []⟩, ⟨(some (K.ofNat 141)), none, .pick (.t (K.ofNat 139)) (.t (K.ofNat 140)) (.c (.b false))⟩, ⟨(some (K.ofNat 6)), none, .as (.t (K.ofNat 141))⟩]
noncomputable def f8_r22 : List EOper := [⟨(some (K.ofNat 142)), none, .mv (.t (K.ofNat 16))⟩, ⟨(some (K.ofNat 143)), none, .bin .eql (.t (K.ofNat 142)) (.c (.i .i64 (.ofNat 0)))⟩, ⟨(some (K.ofNat 144)), none, .mv (.t (K.ofNat 143))⟩, ⟨(some (K.ofNat 145)), (some ((K.ofNat 144), true)), .mv (.t (K.ofNat 15))⟩, ⟨(some (K.ofNat 146)), (some ((K.ofNat 144), true)), .mv (.t (K.ofNat 17))⟩, ⟨(some (K.ofNat 147)), (some ((K.ofNat 144), true)), .call (.c (.fn (K.ofNat 32) [])) [(.t (K.ofNat 145)), (.t (K.ofNat 146))]⟩, ⟨(some (K.ofNat 148)), none, .pick (.t (K.ofNat 144)) (.t (K.ofNat 147)) (.c (.b false))⟩, ⟨(some (K.ofNat 149)), none, .mv (.t (K.ofNat 148))⟩, ⟨(some (K.ofNat 150)), (some ((K.ofNat 149), true)), .call (.c (.fn (K.ofNat 29) [])) []⟩, ⟨(some (K.ofNat 151)), none, .pick (.t (K.ofNat 149)) (.t (K.ofNat 150)) (.c (.b false))⟩, ⟨(some (K.ofNat 6)), none, .as (.t (K.ofNat 151))⟩]
noncomputable def f8_c : EC := (.seq (.reg f8_r0) (.seq (.reg f8_r1) (.seq (.reg f8_r2) (.seq (.seq (.reg f8_r3) (.cond (.t (K.ofNat 39)) (.seq (.reg f8_r4) .ret) .skip)) (.seq (.seq (.reg f8_r5) (.block 0 (.loop f8_l0))) (.seq (.reg f8_r16) (.seq (.reg f8_r17) (.seq (.block 2 (.seq (.reg f8_r18) (.cond (.t (K.ofNat 105)) (.seq (.reg f8_r19) .ret) (.seq (.reg f8_r20) (.cond (.t (K.ofNat 128)) (.seq (.reg f8_r21) .ret) .skip))))) (.seq (.reg f8_r22) .ret)))))))))
noncomputable def f8 : EF := ⟨152, [.tmp (K.ofNat 6)], f8_c, none⟩
section
variable {fs : T EF} {ro : Option K}
end
end Go.Ev
namespace Go.Ev
open Go Go.RowKit
theorem fam_iff {S : List Int} (hS : Sets S) {y : Nat} (hy : y < 64) : famB S y = true ↔ ∃ t : Nat, t < 64 ∧ (t : Int) ∈ S ∧ y &&& t = y := by
  unfold famB
  rw [List.any_eq_true]
  constructor
  · rintro ⟨s, hs, h⟩
    obtain ⟨t, ht, rfl⟩ := hS s hs
    rw [ptI_nat hy ht, decide_eq_true_eq] at h
    exact ⟨t, ht, hs, h⟩
  · rintro ⟨t, ht, hs, h⟩
    exact ⟨_, hs, by rw [ptI_nat hy ht, decide_eq_true_eq]; exact h⟩
theorem self_or {x f : Nat} : x &&& (x ||| f) = x := by
  apply Nat.eq_of_testBit_eq
  intro i
  simp only [Nat.testBit_and, Nat.testBit_or]
  cases x.testBit i <;> cases f.testBit i <;> rfl
theorem sets_map {l : List Nat} (h : ∀ k ∈ l, k < 64) : Sets (l.map fun (k : Nat) => (k : Int)) := by
  intro s hs
  obtain ⟨k, hk, rfl⟩ := List.mem_map.1 hs
  exact ⟨k, h k hk, rfl⟩
theorem cast_mem {l : List Nat} {t : Nat} (h : (t : Int) ∈ l.map fun (k : Nat) => (k : Int)) : t ∈ l := by
  obtain ⟨k, hk, e⟩ := List.mem_map.1 h
  have : k = t := by omega
  rw [← this]; exact hk
end Go.Ev
namespace Go.Ev
open Go Go.RowKit
theorem opp_one : ∀ x, x < 64 → ∀ z, z < 64 → x &&& z ≠ x → ∀ c ∈ cornN x, lessC x c &&& z = lessC x c → lessC x z = c := by decide +kernel
theorem one_opp : ∀ x, x < 64 → ∀ z, z < 64 → pop6 (lessC x z) = 1 → lessC x z ∈ cornN x ∧ lessC x (lessC x z) &&& z = lessC x (lessC x z) := by decide +kernel
theorem corn_pop : ∀ x, x < 64 → ∀ c ∈ cornN x, pop6 c = 1 := by decide +kernel
theorem corn_or : ∀ x, x < 64 → ∀ c ∈ cornN x, ∀ y, y < 64 → c &&& y = c ∨ c &&& y = 0 := by decide +kernel
theorem corn_ne : ∀ x, x < 64 → ∀ c ∈ cornN x, c ≠ 0 := by decide +kernel
theorem or_sub_iff {a b y : Nat} : (a ||| b) &&& y = a ||| b ↔ a &&& y = a ∧ b &&& y = b := by
  constructor
  · intro h
    constructor
    · exact sub_trans self_or h
    · exact sub_trans (by rw [Nat.or_comm]; exact self_or) h
  · rintro ⟨h1, h2⟩
    rw [Nat.and_or_distrib_right, h1, h2]
theorem fold_sub {p : Nat → Bool} {y : Nat} : ∀ (l : List Nat), ((l.foldl (fun s c => if p c = true then s ||| c else s) 0) &&& y = l.foldl (fun s c => if p c = true then s ||| c else s) 0) ↔ ∀ c ∈ l, p c = true → c &&& y = c := by
  intro l
  refine snoc_ind (P := fun l => ((l.foldl (fun s c => if p c = true then s ||| c else s) 0) &&& y = l.foldl (fun s c => if p c = true then s ||| c else s) 0) ↔ ∀ c ∈ l, p c = true → c &&& y = c) (by simp) (fun l a ih => ?_) l
  rw [List.foldl_append]
  show ((if p a = true then _ ||| a else _) &&& y = if p a = true then _ ||| a else _) ↔ _
  by_cases e : p a = true
  · rw [if_pos e, or_sub_iff, ih]
    constructor
    · rintro ⟨h1, h2⟩ c hc hp
      rcases List.mem_append.1 hc with h | h
      · exact h1 c h hp
      · rw [List.mem_singleton.1 h]; exact h2
    · intro h
      exact ⟨fun c hc hp => h c (List.mem_append_left _ hc) hp, h a (by simp) e⟩
  · rw [if_neg e, ih]
    constructor
    · intro h1 c hc hp
      rcases List.mem_append.1 hc with h | h
      · exact h1 c h hp
      · rw [List.mem_singleton.1 h] at hp; exact absurd hp e
    · intro h c hc hp
      exact h c (List.mem_append_left _ hc) hp
theorem newPS_lt {x : Nat} {S : List Int} (hx : x < 64) : newPS x S < 64 := by
  have := npTo_lt (S := S) hx (cornN x).length (Nat.le_refl _)
  rwa [show npTo x S (cornN x).length = newPS x S by unfold npTo newPS; rw [List.take_length]] at this
theorem opp_iff {x c : Nat} {B : List Nat} (hx : x < 64) (hB : ∀ z ∈ B, z < 64) : oppS x c (castL B) = true ↔ ∃ z ∈ B, lessC x c &&& z = lessC x c := by
  unfold oppS castL
  rw [List.any_eq_true]
  have hl := @less_le x c
  constructor
  · rintro ⟨s, hs, h⟩
    obtain ⟨z, hz, rfl⟩ := List.mem_map.1 hs
    have hz64 := hB z hz
    rw [ptI_nat (by omega) (by omega), decide_eq_true_eq] at h
    exact ⟨z, hz, h⟩
  · rintro ⟨z, hz, h⟩
    have hz64 := hB z hz
    exact ⟨_, List.mem_map.2 ⟨z, hz, rfl⟩, by rw [ptI_nat (by omega) (by omega), decide_eq_true_eq]; exact h⟩
/-- A piece fits if each piece before it misses a corner whose opposite side lies in some piece before. -/
theorem fits_iff {x : Nat} {B : List Nat} (hx : x < 64) (hB : ∀ z ∈ B, z < 64) (ha : ∀ z ∈ B, x &&& z ≠ x) :
    fitS x (castL B) = true ↔ ∀ y ∈ B, ∃ z ∈ B, pop6 (lessC x z) = 1 ∧ lessC x z &&& y = 0 := by
  have key : ∀ y ∈ B, (ptI (newPS x (castL B) : Int) (y : Int) = false ↔ ∃ z ∈ B, pop6 (lessC x z) = 1 ∧ lessC x z &&& y = 0) := by
    intro y hy
    have hy64 := hB y hy
    rw [ptI_nat (newPS_lt hx) hy64, decide_eq_false_iff_not]
    unfold newPS
    rw [fold_sub]
    constructor
    · intro h
      have h2 : ∃ c ∈ cornN x, oppS x c (castL B) = true ∧ ¬ c &&& y = c := by
        apply Classical.byContradiction
        intro hn
        exact h fun c hc hp => Classical.byContradiction fun hne => hn ⟨c, hc, hp, hne⟩
      obtain ⟨c, hc, ho, hne⟩ := h2
      obtain ⟨z, hz, hs⟩ := (opp_iff hx hB).1 ho
      have e := opp_one x hx z (hB z hz) (ha z hz) c hc hs
      refine ⟨z, hz, by rw [e]; exact corn_pop x hx c hc, ?_⟩
      rw [e]
      rcases corn_or x hx c hc y hy64 with h3 | h3
      · exact absurd h3 hne
      · exact h3
    · rintro ⟨z, hz, h1, h2⟩ h
      obtain ⟨hc, hs⟩ := one_opp x hx z (hB z hz) h1
      have := h _ hc ((opp_iff hx hB).2 ⟨z, hz, hs⟩)
      rw [h2] at this
      exact corn_ne x hx _ hc this.symm
  unfold fitS
  rw [List.all_eq_true]
  constructor
  · intro h y hy
    have := h _ (List.mem_map.2 ⟨y, hy, rfl⟩)
    exact (key y hy).1 (by simpa using this)
  · intro h s hs
    obtain ⟨y, hy, rfl⟩ := List.mem_map.1 hs
    have := (key y hy).2 (h y hy)
    simpa using this
theorem nextR_iff {Q : List Nat} {m i : Nat} : nextR Q m i = true ↔ ∀ a, a < Q.length → m / 2 ^ a % 2 = 1 → ∃ b, b < Q.length ∧ m / 2 ^ b % 2 = 1 ∧ pop6 (lessC (Q.getD i 0) (Q.getD b 0)) = 1 ∧ lessC (Q.getD i 0) (Q.getD b 0) &&& Q.getD a 0 = 0 := by
  unfold nextR nxB nxA nxC
  simp only [List.all_eq_true, List.mem_range, Bool.or_eq_true, decide_eq_true_eq, List.any_eq_true, Bool.and_eq_true]
  constructor
  · intro h a ha h1
    rcases h a ha with h2 | ⟨b, h3, h4, h5, h6⟩
    · omega
    · exact ⟨b, h3, h4, h5, h6⟩
  · intro h a ha
    by_cases e : m / 2 ^ a % 2 = 0
    · exact .inl e
    · obtain ⟨b, h3, h4, h5, h6⟩ := h a ha (by omega)
      exact .inr ⟨b, h3, h4, h5, h6⟩
/-- Both say the same, if m is the set of the pieces before. -/
theorem fits_next {Q B : List Nat} {m i : Nat} (hi : i < Q.length) (hQ : ∀ y ∈ Q, y < 64) (ha : ∀ j, j < Q.length → j ≠ i → Q.getD i 0 &&& Q.getD j 0 ≠ Q.getD i 0)
    (hm : m / 2 ^ i % 2 = 0) (hB : ∀ z, z ∈ B ↔ ∃ j, j < Q.length ∧ m / 2 ^ j % 2 = 1 ∧ Q.getD j 0 = z) : fitS (Q.getD i 0) (castL B) = nextR Q m i := by
  have hQ' : ∀ j, j < Q.length → Q.getD j 0 < 64 := fun j hj => by
    have := hQ _ (List.getElem_mem hj)
    simpa [List.getD, hj] using this
  have h64 : ∀ z ∈ B, z < 64 := fun z hz => by
    obtain ⟨j, hj, _, rfl⟩ := (hB z).1 hz
    exact hQ' j hj
  have hanti : ∀ z ∈ B, Q.getD i 0 &&& z ≠ Q.getD i 0 := fun z hz => by
    obtain ⟨j, hj, h1, rfl⟩ := (hB z).1 hz
    exact ha j hj fun e => by rw [e] at h1; omega
  rw [Bool.eq_iff_iff, fits_iff (hQ' i hi) h64 hanti, nextR_iff]
  constructor
  · intro h a hal h1
    obtain ⟨z, hz, h2, h3⟩ := h _ ((hB _).2 ⟨a, hal, h1, rfl⟩)
    obtain ⟨b, hb, h4, rfl⟩ := (hB z).1 hz
    exact ⟨b, hb, h4, h2, h3⟩
  · intro h y hy
    obtain ⟨a, hal, h1, rfl⟩ := (hB y).1 hy
    obtain ⟨b, hb, h2, h3, h4⟩ := h a hal h1
    exact ⟨_, (hB _).2 ⟨b, hb, h2, rfl⟩, h3, h4⟩
end Go.Ev
namespace Go.Ev
open Go Go.RowKit
/-- From m the rest can follow. -/
inductive Fin0 (Q : List Nat) : Nat → Prop
  | full : Fin0 Q (2 ^ Q.length - 1)
  | step {m i : Nat} : okN Q m i → Fin0 Q (m ||| 2 ^ i) → Fin0 Q m
/-- The set of the indices. -/
def setO (O : List Nat) : Nat := O.foldl (fun s i => s ||| 2 ^ i) 0
theorem setO_snoc {O : List Nat} {i : Nat} : setO (O ++ [i]) = setO O ||| 2 ^ i := by unfold setO; rw [List.foldl_append]; rfl
theorem setO_nil : setO [] = 0 := rfl
theorem setO_bit (O : List Nat) (j : Nat) : (setO O).testBit j = decide (j ∈ O) := by
  refine snoc_ind (P := fun O => (setO O).testBit j = decide (j ∈ O)) (by simp [setO]) (fun l a ih => ?_) O
  rw [setO_snoc, Nat.testBit_or, ih, Nat.testBit_two_pow]
  by_cases e : a = j
  · subst e; simp
  · by_cases e2 : j ∈ l
    · simp [e2]
    · simp [e2, e, Ne.symm e]
theorem bit_iff {m j : Nat} : m.testBit j = true ↔ m / 2 ^ j % 2 = 1 := by rw [Nat.testBit_eq_decide_div_mod_eq, decide_eq_true_eq]
theorem bit_iff0 {m j : Nat} : m.testBit j = false ↔ m / 2 ^ j % 2 = 0 := by rw [Nat.testBit_eq_decide_div_mod_eq, decide_eq_false_iff_not]; omega
theorem setO_mem {O : List Nat} {j : Nat} : setO O / 2 ^ j % 2 = 1 ↔ j ∈ O := by rw [← bit_iff, setO_bit, decide_eq_true_eq]
theorem setO_not {O : List Nat} {j : Nat} : setO O / 2 ^ j % 2 = 0 ↔ j ∉ O := by rw [← bit_iff0, setO_bit, decide_eq_false_iff_not]
theorem setO_lt {O : List Nat} {n : Nat} (h : ∀ i ∈ O, i < n) : setO O < 2 ^ n := by
  revert h
  refine snoc_ind (P := fun O => (∀ i ∈ O, i < n) → setO O < 2 ^ n) (fun _ => Nat.two_pow_pos n) (fun l a ih h => ?_) O
  rw [setO_snoc]
  exact Nat.or_lt_two_pow (ih fun i hi => h i (List.mem_append_left _ hi)) (Nat.pow_lt_pow_right (by omega) (h a (by simp)))
/-- An order in which each piece may come next. -/
inductive Ord (Q : List Nat) : List Nat → Prop
  | nil : Ord Q []
  | snoc {O : List Nat} {i : Nat} : Ord Q O → okN Q (setO O) i → Ord Q (O ++ [i])
theorem Ord.lt {Q O : List Nat} (h : Ord Q O) : ∀ i ∈ O, i < Q.length := by
  induction h with
  | nil => intro i hi; cases hi
  | snoc _ ho ih =>
    intro i hi
    rcases List.mem_append.1 hi with h | h
    · exact ih i h
    · rw [List.mem_singleton.1 h]; exact ho.1
theorem nodup_len : ∀ (n : Nat) (O : List Nat), O.Nodup → (∀ i ∈ O, i < n) → O.length ≤ n ∧ (O.length = n → ∀ j, j < n → j ∈ O)
  | 0, [], _, _ => ⟨Nat.le_refl _, fun _ j hj => by omega⟩
  | 0, a :: l, _, h => absurd (h a List.mem_cons_self) (by omega)
  | n + 1, O, hd, h => by
    have hd2 : (O.erase n).Nodup := hd.erase n
    have h2 : ∀ i ∈ O.erase n, i < n := fun i hi => by
      have h3 := h i (List.mem_of_mem_erase hi)
      have h4 : i ≠ n := ((List.Nodup.mem_erase_iff hd).1 hi).1
      omega
    obtain ⟨q1, q2⟩ := nodup_len n (O.erase n) hd2 h2
    by_cases e : n ∈ O
    · have hl := List.length_erase_of_mem e
      have : 1 ≤ O.length := List.length_pos_of_mem e
      refine ⟨by omega, fun h5 j hj => ?_⟩
      by_cases e2 : j = n
      · rw [e2]; exact e
      · exact List.mem_of_mem_erase (q2 (by omega) j (by omega))
    · rw [List.erase_of_not_mem e] at q1 q2
      refine ⟨by omega, fun h5 => by omega⟩
theorem Ord.nodup {Q O : List Nat} (h : Ord Q O) : O.Nodup := by
  induction h with
  | nil => exact List.nodup_nil
  | snoc hh ho ih =>
    rw [List.nodup_append]
    refine ⟨ih, by simp, ?_⟩
    intro a ha b hb e
    rw [List.mem_singleton.1 hb] at e
    subst e
    exact setO_not.1 ho.2.1 ha
theorem Ord.len {Q O : List Nat} (h : Ord Q O) : O.length ≤ Q.length := (nodup_len _ _ h.nodup h.lt).1
/-- The reference's test of such an order. -/
theorem shT_app {Q : List Nat} : ∀ (A B : List Int) (m : Nat), shT Q (A ++ B) m = (shT Q A m && shT Q B (A.foldl (fun s i => s ||| 2 ^ i.toNat) m))
  | [], B, m => rfl
  | o :: A, B, m => by
    show shT Q (o :: (A ++ B)) m = _
    rw [shT, shT_app A B, shT]
    show _ = ((_ && _) && shT Q B (A.foldl _ (m ||| 2 ^ o.toNat)))
    cases decide (o < 0) <;> cases decide ((Q.length : Int) ≤ o) <;> cases decide (m / 2 ^ o.toNat % 2 = 1) <;> cases nextR Q m o.toNat <;> simp
theorem foldO (O : List Nat) : ∀ m, (castL O).foldl (fun s i => s ||| 2 ^ i.toNat) m = O.foldl (fun s i => s ||| 2 ^ i) m := by
  induction O with
  | nil => intro m; rfl
  | cons a l ih => intro m; exact ih _
theorem Ord.sh {Q O : List Nat} (h : Ord Q O) : shT Q (castL O) 0 = true := by
  induction h with
  | nil => rfl
  | @snoc O i _ ho ih =>
    have e : castL (O ++ [i]) = castL O ++ [(i : Int)] := by unfold castL; rw [List.map_append]; rfl
    rw [e, shT_app, ih, foldO]
    show (true && shT Q [(i : Int)] (setO O)) = true
    have h1 : ¬ (i : Int) < 0 := by omega
    have h2 : ¬ (Q.length : Int) ≤ (i : Int) := by have := ho.1; omega
    have h3 : ¬ setO O / 2 ^ i % 2 = 1 := by have := ho.2.1; omega
    rw [shT, shT, decide_eq_false h1, decide_eq_false h2, show ((i : Int)).toNat = i from rfl, decide_eq_false h3, ho.2.2]; rfl
theorem Ord.shell {Q O : List Nat} (h : Ord Q O) (hl : O.length = Q.length) (hp : pureS (castL Q) = true) : shellR Q (castL O) = true := by
  unfold shellR
  rw [h.sh, hp, decide_eq_true (show (castL O).length = Q.length by unfold castL; rw [List.length_map]; exact hl)]; rfl
/-- What was tried: sets from which the rest can't follow, or those of a beginning of the order. -/
structure Tri (Q : List Nat) (M : List (List Bool)) (O : List Nat) : Prop where
  len : ∀ x ∈ M, x.length = 10
  bad : ∀ x ∈ M, (∃ m, m < 1024 ∧ x = arr (fun i => m.testBit i) 10 ∧ ¬ Fin0 Q m) ∨ ∃ k, k < O.length ∧ x = arr (fun i => (setO (O.take k)).testBit i) 10
theorem arr_bits {a b : Nat} (ha : a < 1024) (hb : b < 1024) (h : arr (fun i => a.testBit i) 10 = arr (fun i => b.testBit i) 10) : a = b := by
  apply Nat.eq_of_testBit_eq
  intro j
  by_cases e : j < 10
  · have := congrArg (fun l => l[j]?) h
    simpa [arr, e] using this
  · have h1 : (2 : Nat) ^ 10 ≤ 2 ^ j := Nat.pow_le_pow_right (by omega) (by omega)
    rw [Nat.testBit_lt_two_pow (by omega), Nat.testBit_lt_two_pow (by omega)]
theorem setO_len {O : List Nat} (hd : O.Nodup) {k : Nat} (hk : k < O.length) : setO (O.take k) ≠ setO O := by
  intro e
  have h1 : O[k] ∈ O := List.getElem_mem hk
  have h2 := setO_mem.2 h1
  rw [← e] at h2
  have h3 := setO_mem.1 h2
  rw [List.nodup_iff_pairwise_ne, List.pairwise_iff_getElem] at hd
  obtain ⟨j, hj, e2⟩ := List.getElem_of_mem h3
  have hj' : j < k := by simp at hj; omega
  rw [List.getElem_take] at e2
  exact hd j k (by omega) hk hj' e2
theorem Tri.hit {Q M : List _} {O : List Nat} (t : Tri Q M O) (ho : Ord Q O) (hQ : Q.length ≤ 10) (hm : arr (fun i => (setO O).testBit i) 10 ∈ M) : ¬ Fin0 Q (setO O) := by
  have h10 : ∀ {P : List Nat}, (∀ i ∈ P, i < Q.length) → setO P < 1024 := fun {P} h => by
    have := setO_lt h
    have h2 : 2 ^ Q.length ≤ 2 ^ 10 := Nat.pow_le_pow_right (by omega) hQ
    omega
  rcases t.bad _ hm with ⟨m, h1, h2, h3⟩ | ⟨k, h1, h2⟩
  · rw [arr_bits (h10 ho.lt) h1 h2]; exact h3
  · have := arr_bits (h10 ho.lt) (h10 fun i hi => ho.lt i (List.mem_of_mem_take hi)) h2
    exact absurd this.symm (setO_len ho.nodup h1)
theorem Tri.enter {Q M : List _} {O : List Nat} {i : Nat} (t : Tri Q M O) : Tri Q (M ++ [arr (fun i => (setO O).testBit i) 10]) (O ++ [i]) := by
  refine ⟨fun x hx => ?_, fun x hx => ?_⟩
  · rcases List.mem_append.1 hx with h | h
    · exact t.len x h
    · rw [List.mem_singleton.1 h, arr_len]
  · rcases List.mem_append.1 hx with h | h
    · rcases t.bad x h with h2 | ⟨k, h2, h3⟩
      · exact .inl h2
      · exact .inr ⟨k, by simp; omega, by rw [List.take_append_of_le_length (by omega)]; exact h3⟩
    · rw [List.mem_singleton.1 h]
      exact .inr ⟨O.length, by simp, by rw [List.take_append_of_le_length (by omega), List.take_length]⟩
/-- While the pieces are gone through: the set itself is there too. -/
structure Tri1 (Q : List Nat) (M : List (List Bool)) (O : List Nat) : Prop where
  len : ∀ x ∈ M, x.length = 10
  bad : ∀ x ∈ M, (∃ m, m < 1024 ∧ x = arr (fun i => m.testBit i) 10 ∧ ¬ Fin0 Q m) ∨ ∃ k, k ≤ O.length ∧ x = arr (fun i => (setO (O.take k)).testBit i) 10
theorem Tri.add {Q M : List _} {O : List Nat} (t : Tri Q M O) : Tri1 Q (M ++ [arr (fun i => (setO O).testBit i) 10]) O := by
  refine ⟨fun x hx => ?_, fun x hx => ?_⟩
  · rcases List.mem_append.1 hx with h | h
    · exact t.len x h
    · rw [List.mem_singleton.1 h, arr_len]
  · rcases List.mem_append.1 hx with h | h
    · rcases t.bad x h with h2 | ⟨k, h2, h3⟩
      · exact .inl h2
      · exact .inr ⟨k, by omega, h3⟩
    · rw [List.mem_singleton.1 h]
      exact .inr ⟨O.length, Nat.le_refl _, by rw [List.take_length]⟩
theorem Tri1.down {Q M : List _} {O : List Nat} {i : Nat} (t : Tri1 Q M O) : Tri Q M (O ++ [i]) :=
  ⟨t.len, fun x hx => by
    rcases t.bad x hx with h2 | ⟨k, h2, h3⟩
    · exact .inl h2
    · exact .inr ⟨k, by simp; omega, by rw [List.take_append_of_le_length (by omega)]; exact h3⟩⟩
theorem Tri.up {Q M : List _} {O : List Nat} {i : Nat} (t : Tri Q M (O ++ [i])) : Tri1 Q M O :=
  ⟨t.len, fun x hx => by
    rcases t.bad x hx with h2 | ⟨k, h2, h3⟩
    · exact .inl h2
    · simp only [List.length_append, List.length_cons, List.length_nil] at h2
      exact .inr ⟨k, by omega, by rw [List.take_append_of_le_length (by omega)] at h3; exact h3⟩⟩
theorem Tri1.out {Q M : List _} {O : List Nat} (t : Tri1 Q M O) (ho : Ord Q O) (hQ : Q.length ≤ 10) (hf : ¬ Fin0 Q (setO O)) : Tri Q M O :=
  ⟨t.len, fun x hx => by
    rcases t.bad x hx with h2 | ⟨k, h2, h3⟩
    · exact .inl h2
    · by_cases e : k = O.length
      · subst e
        rw [List.take_length] at h3
        have h4 := setO_lt ho.lt
        have h5 : 2 ^ Q.length ≤ 2 ^ 10 := Nat.pow_le_pow_right (by omega) hQ
        exact .inl ⟨_, by omega, h3, hf⟩
      · exact .inr ⟨k, by omega, h3⟩⟩
theorem cover_len : ∀ (n : Nat) (O : List Nat), (∀ j, j < n → j ∈ O) → n ≤ O.length
  | 0, _, _ => Nat.zero_le _
  | n + 1, O, h => by
    have e := h n (by omega)
    have hl := List.length_erase_of_mem e
    have : 1 ≤ O.length := List.length_pos_of_mem e
    have := cover_len n (O.erase n) fun j hj => (List.mem_erase_of_ne (by omega)).2 (h j (by omega))
    omega
/-- If no piece can come next such that the rest can follow, and some are left, the rest can't follow. -/
theorem no_fin {Q O : List Nat} (ho : Ord Q O) (hl : O.length < Q.length) (h : ∀ i, i < Q.length → okN Q (setO O) i → ¬ Fin0 Q (setO (O ++ [i]))) : ¬ Fin0 Q (setO O) := by
  intro hf
  generalize hm : setO O = m at hf
  cases hf with
  | full =>
    have h1 : ∀ j, j < Q.length → j ∈ O := fun j hj => by
      have : (setO O).testBit j = true := by rw [hm, Nat.testBit_two_pow_sub_one, decide_eq_true hj]
      rwa [setO_bit, decide_eq_true_eq] at this
    have : Q.length ≤ O.length := by
      exact cover_len _ _ h1
    omega
  | step hk hf => exact h _ hk.1 (by rw [hm]; exact hk) (by rw [setO_snoc, hm]; exact hf)
end Go.Ev
namespace Go.Ev
open Go Go.RowKit
section
variable {α : Type} {e : α → V} {h h' : H} {v : V} {L : List α}
theorem Sl.map {β : Type} {e : β → V} {f : α → β} (hs : Sl (fun x => e (f x)) h v L) : Sl e h v (L.map f) := by
  rcases hs with ⟨rfl, rfl⟩ | ⟨id, off, m, cs, rfl, hb, hl, hm, hx⟩
  · exact .inl ⟨rfl, rfl⟩
  · exact .inr ⟨id, off, m, cs, by rw [List.length_map], hb, hl, by rw [List.length_map]; exact hm, fun i hi => by
      have hi' : i < L.length := by simpa using hi
      rw [hx i hi', List.getElem_map]⟩
theorem cellsN_arr {f : Nat → α} {n : Nat} : cellsN n (.agg ((arr f n).map e)) = some ((arr f n).map e) := by
  show (bif Nat.beq (lenL ((arr f n).map e)) n then some ((arr f n).map e) else none) = _
  rw [lenL_eq, List.length_map, arr_len, Nat.beq_refl]; rfl
theorem Ar.box {f : Nat → α} {n : Nat} : Ar e (h.new (.cells n ((arr f n).map e))) h.nx (arr f n) := by
  unfold Ar; rw [get_new_same, arr_len]
/-- The whole array is stored. -/
theorem Ar.stn {f g : Nat → α} {n : Nat} {id : K} (ha : Ar e h id (arr f n)) : storeV h n (.p id 0) (.agg ((arr g n).map e)) = .ok undefV (h.put id (.cells n ((arr g n).map e))) := by
  unfold Ar at ha
  rw [arr_len] at ha
  rw [store_p ha cellsN_arr (by omega), setMany_eq _ _ _ (by simp [arr]), List.take_zero, List.nil_append, List.drop_eq_nil_of_le (by simp [arr]), List.append_nil]
end
/-- Two slices in different blocks. -/
def Apart (o w : V) : Prop := ∀ id off n sz, o = .sl id off n sz → NotIn id w
theorem Apart.symm {o w : V} (h : Apart o w) : Apart w o := fun id off n sz e off' n' sz' e' => h id off' n' sz' e' off n sz e
structure Ids where
  (P O B M T F : K)
structure IdsOk (b c : Nat) (d : Ids) : Prop where
  a1 : b ≤ d.P.nat
  a2 : d.P.nat < d.O.nat
  a3 : d.O.nat < d.B.nat
  a4 : d.B.nat < d.M.nat
  a5 : d.M.nat < d.T.nat
  a6 : d.T.nat < d.F.nat
  a7 : d.F.nat < c
noncomputable def capsF (d : Ids) : List V := [.p d.O 0, .p d.P 0, .p d.T 0, .p d.B 0, .p d.F 0]
structure FSt (b c : Nat) (h0 : H) (d : Ids) (v : V) (Q : List Nat) (M : List (List Bool)) (O : List Nat) (o w : V) (h : H) : Prop where
  gr : Grow b h0 h
  nx : c ≤ h.nx.nat
  eP : h.get d.P = .cells 1 [v]
  eO : h.get d.O = .cells 1 [o]
  eB : h.get d.B = .cells 1 [w]
  eM : MapI h d.M 89 M
  eT : h.get d.T = .cells 1 [.m d.M]
  eF : h.get d.F = .cells 1 [.fn (K.ofNat 79) (capsF d)]
  so : Sl nE h o O
  sw : Sl nE h w (O.map fun i => Q.getD i 0)
  oo : Own c o
  ow : Own c w
  ap : Apart o w
  /-- What lies beside stays. -/
def Kept (c : Nat) (h : H) (o w : V) (h' : H) (o' w' : V) : Prop := h.nx.nat ≤ h'.nx.nat ∧ ∀ id : K, c ≤ id.nat → id.nat < h.nx.nat → NotIn id o → NotIn id w → h'.get id = h.get id ∧ NotIn id o' ∧ NotIn id w'
theorem Kept.trans {c : Nat} {h h1 h2 : H} {o w o1 w1 o2 w2 : V} (k : Kept c h o w h1 o1 w1) (l : Kept c h1 o1 w1 h2 o2 w2) : Kept c h o w h2 o2 w2 := by
  refine ⟨Nat.le_trans k.1 l.1, fun id h1 h2 h3 h4 => ?_⟩
  obtain ⟨q1, q2, q3⟩ := k.2 id h1 h2 h3 h4
  have := k.1
  obtain ⟨q4, q5, q6⟩ := l.2 id h1 (by omega) q2 q3
  exact ⟨q4.trans q1, q5, q6⟩
theorem Kept.grow {c : Nat} {h h' : H} {o w : V} (g : Grow h.nx.nat h h') : Kept c h o w h' o w := ⟨g.nx, fun id _ h2 h3 h4 => ⟨g.old id h2, h3, h4⟩⟩
theorem Kept.put {c : Nat} {h : H} {o w : V} {id : K} {x : Blk} (hi : id.nat < c) : Kept c h o w (h.put id x) o w := ⟨Nat.le_refl _, fun id' h1 _ h3 h4 => ⟨get_put_other (kNe (by omega)).symm, h3, h4⟩⟩
section
variable {b c : Nat} {h0 h h' : H} {d : Ids} {v : V} {Q O : List Nat} {M : List (List Bool)} {o w : V}
theorem FSt.hc (t : FSt b c h0 d v Q M O o w h) (h1 : HC h0) : HC h := t.gr.hc h1
theorem FSt.grow (t : FSt b c h0 d v Q M O o w h) (h1 : HC h0) (k : IdsOk b c d) (g : Grow h.nx.nat h h') : FSt b c h0 d v Q M O o w h' := by
  have := t.nx; have := g.nx; obtain ⟨a1, a2, a3, a4, a5, a6, a7⟩ := k
  have hc := t.hc h1
  exact ⟨t.gr.trans (g.low (by omega)), by omega, by rw [g.old _ (by omega)]; exact t.eP, by rw [g.old _ (by omega)]; exact t.eO, by rw [g.old _ (by omega)]; exact t.eB, by unfold MapI; rw [g.old _ (by omega)]; exact t.eM,
    by rw [g.old _ (by omega)]; exact t.eT, by rw [g.old _ (by omega)]; exact t.eF, t.so.grow hc g, t.sw.grow hc g, t.oo, t.ow, t.ap⟩
/-- The map gets an entry. -/
theorem FSt.mark (t : FSt b c h0 d v Q M O o w h) (k : IdsOk b c d) {M' : List (List Bool)} {x : Blk} (h1 : MapI (h.put d.M x) d.M 89 M') : FSt b c h0 d v Q M' O o w (h.put d.M x) := by
  have := t.nx; obtain ⟨a1, a2, a3, a4, a5, a6, a7⟩ := k
  have n1 := t.oo.notIn (id := d.M) (by omega)
  have n2 := t.ow.notIn (id := d.M) (by omega)
  exact ⟨t.gr.trans (Grow.put (by omega) (by omega) _), t.nx, by rw [get_put_other (kNe (by omega))]; exact t.eP, by rw [get_put_other (kNe (by omega))]; exact t.eO, by rw [get_put_other (kNe (by omega))]; exact t.eB, h1,
    by rw [get_put_other (kNe (by omega)).symm]; exact t.eT, by rw [get_put_other (kNe (by omega)).symm]; exact t.eF, t.so.put n1 _, t.sw.put n2 _, t.oo, t.ow, t.ap⟩
/-- Both slices have turned, and lie in their boxes. -/
theorem FSt.turn {O' : List Nat} {o' w' : V} {h2 : H} (t : FSt b c h0 d v Q M O o w h) (k : IdsOk b c d) (g : Grow c h h2) (so : Sl nE h2 o' O') (sw : Sl nE h2 w' (O'.map fun i => Q.getD i 0)) (oo : Own c o') (ow : Own c w') (ap : Apart o' w') :
    FSt b c h0 d v Q M O' o' w' ((h2.put d.O (.cells 1 [o'])).put d.B (.cells 1 [w'])) := by
  have := t.nx; have := g.nx; obtain ⟨a1, a2, a3, a4, a5, a6, a7⟩ := k
  have ne : ∀ j : K, j.nat < c → j ≠ d.O → j ≠ d.B → ((h2.put d.O (.cells 1 [o'])).put d.B (.cells 1 [w'])).get j = h.get j := fun j hj n1 n2 => by rw [get_put_other n2, get_put_other n1, g.old _ hj]
  have g1 : Grow b h2 (h2.put d.O (.cells 1 [o'])) := Grow.put (by omega) (by omega) _
  have g2 : Grow b (h2.put d.O (.cells 1 [o'])) ((h2.put d.O (.cells 1 [o'])).put d.B (.cells 1 [w'])) := Grow.put (by omega) (by rw [nx_put]; omega) _
  refine ⟨((t.gr.trans (g.low (by omega))).trans g1).trans g2, by rw [nx_put, nx_put]; omega, by rw [ne _ (by omega) (kNe (by omega)) (kNe (by omega))]; exact t.eP, by rw [get_put_other (kNe (by omega)), get_put_same], get_put_same,
    by unfold MapI; rw [ne _ (by omega) (kNe (by omega)).symm (kNe (by omega)).symm]; exact t.eM, by rw [ne _ (by omega) (kNe (by omega)).symm (kNe (by omega)).symm]; exact t.eT, by rw [ne _ (by omega) (kNe (by omega)).symm (kNe (by omega)).symm]; exact t.eF,
    (so.put (oo.notIn (by omega)) _).put (oo.notIn (by omega)) _, (sw.put (ow.notIn (by omega)) _).put (ow.notIn (by omega)) _, oo, ow, ap⟩
/-- order, before = append(order, i), append(before, piece) -/
theorem FSt.push (t : FSt b c h0 d v Q M O o w h) (h1 : HC h0) (k : IdsOk b c d) (i : Nat) (hn : O.length < 1000000) (A B : Blk) (hA : A = .cells (1 * 1) [nE i]) (hB : B = .cells (1 * 1) [nE (Q.getD i 0)]) :
    ∃ o' w' h3 h4, appV 1 ((h.new A).new B) o (.sl h.nx 0 1 1) = .ok o' h3 ∧ h3.get d.B = .cells 1 [w] ∧ h3.get (h.new A).nx = B ∧ appV 1 h3 w (.sl (h.new A).nx 0 1 1) = .ok w' h4 ∧
      storeV h4 1 (.p d.O 0) o' = .ok undefV (h4.put d.O (.cells 1 [o'])) ∧ storeV (h4.put d.O (.cells 1 [o'])) 1 (.p d.B 0) w' = .ok undefV ((h4.put d.O (.cells 1 [o'])).put d.B (.cells 1 [w'])) ∧
      FSt b c h0 d v Q M (O ++ [i]) o' w' ((h4.put d.O (.cells 1 [o'])).put d.B (.cells 1 [w'])) ∧ Kept c h o w ((h4.put d.O (.cells 1 [o'])).put d.B (.cells 1 [w'])) o' w' := by
  have nx := t.nx; have kk := k; obtain ⟨a1, a2, a3, a4, a5, a6, a7⟩ := k
  have hc := t.hc h1
  have n1 := nx_new h A
  have n2 := nx_new (h.new A) B
  have g1 : Grow h.nx.nat h (h.new A) := Grow.new (Nat.le_refl _) A
  have hc1 := g1.hc hc
  have g2 : Grow (h.new A).nx.nat (h.new A) ((h.new A).new B) := Grow.new (Nat.le_refl _) B
  have g12 : Grow h.nx.nat h ((h.new A).new B) := g1.trans (g2.low (by omega))
  have hc2 := g2.hc hc1
  have sA : Sl nE (h.new A) (.sl h.nx 0 1 1) [i] := by subst hA; exact Sl.lit
  have sB : Sl nE ((h.new A).new B) (.sl (h.new A).nx 0 1 1) [Q.getD i 0] := by subst hB; exact Sl.lit
  obtain ⟨o', h3, p1, p2, p3, p4, p5⟩ := Sl.app (b := c) (t.so.grow hc g12) t.oo (by omega) (sA.grow hc1 g2) hc2 (by simp; omega)
  have hc3 := p4.hc hc2
  have nx3 := p4.nx
  have lo := t.so.lt hc
  have lw := t.sw.lt hc
  have oB : NotIn (h.new A).nx o := fun off n sz e => by have := lo _ _ _ _ e; omega
  have wB : NotIn (h.new A).nx w := fun off n sz e => by have := lw _ _ _ _ e; omega
  obtain ⟨b3, b4⟩ := p5 (h.new A).nx (by omega) oB
  have eB3 : h3.get (h.new A).nx = B := b3.trans get_new_same
  have sB3 : Sl nE h3 (.sl (h.new A).nx 0 1 1) [Q.getD i 0] := sB.same fun id off n sz e => by cases e; exact b3
  have sw3 : Sl nE h3 w (O.map fun i => Q.getD i 0) := (t.sw.grow hc g12).same fun id off n sz e => (p5 id (by have := lw _ _ _ _ e; omega) (t.ap.symm _ _ _ _ e)).1
  obtain ⟨w', h4, q1, q2, q3, q4, q5⟩ := Sl.app (b := c) sw3 t.ow (by omega) sB3 hc3 (by simp; omega)
  have nx4 := q4.nx
  have lo3 := p2.lt hc3
  -- the new order lies in no block of before
  have ow3 : Apart o' w := fun id off n sz e off' n' sz' e' => (p5 id (by have := lw _ _ _ _ e'; omega) (t.ap.symm _ _ _ _ e')).2 _ _ _ e
  have so4 : Sl nE h4 o' (O ++ [i]) := p2.same fun id off n sz e => (q5 id (lo3 _ _ _ _ e) (ow3 _ _ _ _ e)).1
  have ap4 : Apart o' w' := fun id off n sz e => (q5 id (lo3 _ _ _ _ e) (ow3 _ _ _ _ e)).2
  have gg : Grow c h h4 := ((g12.low (by omega)).trans p4).trans q4
  have sw4 : Sl nE h4 w' ((O ++ [i]).map fun i => Q.getD i 0) := by rw [List.map_append]; exact q2
  have eB3' : h3.get d.B = .cells 1 [w] := by rw [p4.old _ (by omega), g12.old _ (by omega)]; exact t.eB
  have eO4 : h4.get d.O = .cells 1 [o] := by rw [gg.old _ (by omega)]; exact t.eO
  have eB4 : (h4.put d.O (.cells 1 [o'])).get d.B = .cells 1 [w] := by rw [get_put_other (kNe (by omega)).symm, gg.old _ (by omega)]; exact t.eB
  refine ⟨o', w', h3, h4, p1, eB3', eB3, q1, ?_, ?_, t.turn kk gg so4 sw4 p3 q3 ap4, ?_⟩
  · rw [store_p eO4 p2.one (by omega)]; rfl
  · rw [store_p eB4 q2.one (by omega)]; rfl
  · refine ⟨by rw [nx_put, nx_put]; omega, fun id i1 i2 i3 i4 => ?_⟩
    obtain ⟨r1, r2⟩ := p5 id (by omega) i3
    obtain ⟨r3, r4⟩ := q5 id (by omega) i4
    refine ⟨?_, ?_, r4⟩
    · rw [get_put_other (kNe (by omega)).symm, get_put_other (kNe (by omega)).symm, r3, r1, g12.old _ i2]
    · exact r2
/-- order, before = order[:len(order)-1], before[:len(before)-1] -/
theorem FSt.pop {i : Nat} (t : FSt b c h0 d v Q M (O ++ [i]) o w h) (k : IdsOk b c d) :
    ∃ o' w', (∀ k h1, sliceB 1 o none (some (.i k (O.length : Int))) none h1 = .ok o' h1) ∧ (∀ k h1, sliceB 1 w none (some (.i k (O.length : Int))) none h1 = .ok w' h1) ∧ beqV w' w' = true ∧ beqV w w = true ∧
      storeV h 1 (.p d.O 0) o' = .ok undefV (h.put d.O (.cells 1 [o'])) ∧ storeV (h.put d.O (.cells 1 [o'])) 1 (.p d.B 0) w' = .ok undefV ((h.put d.O (.cells 1 [o'])).put d.B (.cells 1 [w'])) ∧
      FSt b c h0 d v Q M O o' w' ((h.put d.O (.cells 1 [o'])).put d.B (.cells 1 [w'])) ∧ Kept c h o w ((h.put d.O (.cells 1 [o'])).put d.B (.cells 1 [w'])) o' w' := by
  have nx := t.nx; have kk := k; obtain ⟨a1, a2, a3, a4, a5, a6, a7⟩ := k
  obtain ⟨o', p1, p2, p3, p4⟩ := t.so.cut (lo := none) (hi := some (.i .i64 (O.length : Int))) (l := 0) (u := O.length) rfl rfl (Nat.zero_le _) (by simp)
  obtain ⟨w', q1, q2, q3, q4⟩ := t.sw.cut (lo := none) (hi := some (.i .i64 (O.length : Int))) (l := 0) (u := O.length) rfl rfl (Nat.zero_le _) (by simp)
  have e1 : ((O ++ [i]).take O.length).drop 0 = O := by simp
  have e2 : (((O ++ [i]).map fun i => Q.getD i 0).take O.length).drop 0 = O.map fun i => Q.getD i 0 := by simp
  rw [e1] at p2
  rw [e2] at q2
  have ap' : Apart o' w' := fun id off n sz e => q4 id fun off' n' sz' e' => by
    have : ¬ NotIn id o' := fun hh => hh _ _ _ e
    exact this (p4 id fun o2 n2 s2 e2 => t.ap _ _ _ _ e2 _ _ _ e')
  have eB4 : (h.put d.O (.cells 1 [o'])).get d.B = .cells 1 [w] := by rw [get_put_other (kNe (by omega)).symm]; exact t.eB
  refine ⟨o', w', ?_, ?_, q2.beq, t.sw.beq, ?_, ?_, t.turn kk (Grow.refl _ _) p2 q2 (p3 _ t.oo) (q3 _ t.ow) ap', ⟨Nat.le_refl _, fun id i1 i2 i3 i4 => ⟨?_, p4 id i3, q4 id i4⟩⟩⟩
  · intro kk h1; rw [← p1 h1]; cases o <;> rfl
  · intro kk h1; rw [← q1 h1]; cases w <;> rfl
  · rw [store_p t.eO p2.one (by omega)]; rfl
  · rw [store_p eB4 q2.one (by omega)]; rfl
  · rw [get_put_other (kNe (by omega)).symm, get_put_other (kNe (by omega)).symm]
theorem FSt.ldP (t : FSt b c h0 d v Q M O o w h) : loadV h (.p d.P 0) one? = .ok v h := load_p t.eP rfl
theorem FSt.ldO (t : FSt b c h0 d v Q M O o w h) : loadV h (.p d.O 0) one? = .ok o h := load_p t.eO rfl
theorem FSt.ldB (t : FSt b c h0 d v Q M O o w h) : loadV h (.p d.B 0) one? = .ok w h := load_p t.eB rfl
theorem FSt.ldT (t : FSt b c h0 d v Q M O o w h) : loadV h (.p d.T 0) one? = .ok (.m d.M) h := load_p t.eT rfl
theorem FSt.ldF (t : FSt b c h0 d v Q M O o w h) : loadV h (.p d.F 0) one? = .ok (.fn (K.ofNat 79) (capsF d)) h := load_p t.eF rfl
end
end Go.Ev
namespace Go.Ev
open Go Go.RowKit
noncomputable def f79_r0 : List EOper := [⟨(some (K.ofNat 6)), none, .box 10 (.t (K.ofNat 0))⟩, ⟨(some (K.ofNat 7)), none, .as (.c (.b false))⟩]
noncomputable def f79_r1 : List EOper := [⟨(some (K.ofNat 11)), none, .ld (.t (K.ofNat 1))⟩, ⟨(some (K.ofNat 12)), none, .len (.t (K.ofNat 11))⟩, ⟨(some (K.ofNat 13)), none, .ld (.t (K.ofNat 2))⟩, ⟨(some (K.ofNat 14)), none, .len (.t (K.ofNat 13))⟩, ⟨(some (K.ofNat 15)), none, .bin .eql (.t (K.ofNat 12)) (.t (K.ofNat 14))⟩]
noncomputable def f79_r2 : List EOper := [⟨(some (K.ofNat 7)), none, .as (.c (.b true))⟩]
noncomputable def f79_r3 : List EOper := [⟨(some (K.ofNat 16)), none, .ld (.t (K.ofNat 3))⟩, ⟨(some (K.ofNat 17)), none, .ldn 10 (.t (K.ofNat 6))⟩, ⟨(some (K.ofNat 18)), none, .look 89 (.many (List.replicate 10 none)) (.b false) (.t (K.ofNat 16)) (.t (K.ofNat 17)) false⟩]
noncomputable def f79_r4 : List EOper := [⟨(some (K.ofNat 7)), none, .as (.c (.b false))⟩]
noncomputable def f79_r5 : List EOper := [⟨(some (K.ofNat 19)), none, .ld (.t (K.ofNat 3))⟩, ⟨(some (K.ofNat 20)), none, .ldn 10 (.t (K.ofNat 6))⟩, ⟨none, none, .mupd 89 (.many (List.replicate 10 none)) (.t (K.ofNat 19)) (.t (K.ofNat 20)) (.c (.b true))⟩]
noncomputable def f79_r6 : List EOper := [⟨(some (K.ofNat 21)), none, .ld (.t (K.ofNat 2))⟩, ⟨(some (K.ofNat 22)), none, .len (.t (K.ofNat 21))⟩, ⟨(some (K.ofNat 23)), none, .mv (.c (.i .i64 (.ofNat 0)))⟩]
noncomputable def f79_r7 : List EOper := [⟨(some (K.ofNat 24)), none, .bin .lss (.t (K.ofNat 23)) (.t (K.ofNat 22))⟩]
noncomputable def f79_r8 : List EOper := [⟨(some (K.ofNat 25)), none, .mv (.t (K.ofNat 23))⟩, ⟨(some (K.ofNat 26)), none, .iads 1 (.t (K.ofNat 21)) (.t (K.ofNat 23))⟩, ⟨(some (K.ofNat 27)), none, .ld (.t (K.ofNat 26))⟩, ⟨(some (K.ofNat 8)), none, .as (.t (K.ofNat 25))⟩, ⟨(some (K.ofNat 9)), none, .as (.t (K.ofNat 27))⟩]
noncomputable def f79_r9 : List EOper := [⟨(some (K.ofNat 28)), none, .mv (.t (K.ofNat 8))⟩, ⟨(some (K.ofNat 29)), none, .iadr 10 1 (.t (K.ofNat 6)) (.t (K.ofNat 28))⟩, ⟨(some (K.ofNat 30)), none, .ld (.t (K.ofNat 29))⟩, ⟨(some (K.ofNat 31)), none, .mv (.t (K.ofNat 30))⟩, ⟨(some (K.ofNat 32)), (some ((K.ofNat 31), false)), .mv (.t (K.ofNat 9))⟩, ⟨(some (K.ofNat 33)), (some ((K.ofNat 31), false)), .ld (.t (K.ofNat 4))⟩, ⟨(some (K.ofNat 34)), (some ((K.ofNat 31), false)), .call (.c (.fn (K.ofNat 80) [])) [(.t (K.ofNat 32)), (.t (K.ofNat 33))]⟩, ⟨(some (K.ofNat 35)), (some ((K.ofNat 31), false)), .not (.t (K.ofNat 34))⟩, ⟨(some (K.ofNat 36)), none, .pick (.t (K.ofNat 31)) (.c (.b true)) (.t (K.ofNat 35))⟩]
noncomputable def f79_r10 : List Stage := [⟨[⟨(some (K.ofNat 37)), none, .ld (.t (K.ofNat 1))⟩, ⟨(some (K.ofNat 38)), none, .mv (.t (K.ofNat 8))⟩, ⟨(some (K.ofNat 39)), none, .bslice 1 1 [(.i .i64 (.ofNat 0))] [(0, 1, (.t (K.ofNat 38)))]⟩, ⟨(some (K.ofNat 41)), none, .ld (.t (K.ofNat 4))⟩, ⟨(some (K.ofNat 42)), none, .mv (.t (K.ofNat 9))⟩, ⟨(some (K.ofNat 43)), none, .bslice 1 1 [(.i .i64 (.ofNat 0))] [(0, 1, (.t (K.ofNat 42)))]⟩], [], (some ⟨(some (K.ofNat 40)), none, .app 1 (.t (K.ofNat 37)) (.t (K.ofNat 39))⟩), [(K.ofNat 39), (K.ofNat 43)]⟩, ⟨[], [⟨(some (K.ofNat 41)), none, .ld (.t (K.ofNat 4))⟩, ⟨(some (K.ofNat 42)), none, .mv (.t (K.ofNat 9))⟩, ⟨(some (K.ofNat 43)), none, .bslice 1 1 [(.i .i64 (.ofNat 0))] [(0, 1, (.t (K.ofNat 42)))]⟩], (some ⟨(some (K.ofNat 44)), none, .app 1 (.t (K.ofNat 41)) (.t (K.ofNat 43))⟩), []⟩, ⟨[], [], (some ⟨none, none, .st 1 (.t (K.ofNat 1)) (.t (K.ofNat 40))⟩), []⟩, ⟨[], [], (some ⟨none, none, .st 1 (.t (K.ofNat 4)) (.t (K.ofNat 44))⟩), []⟩, ⟨[], [], none, []⟩]
noncomputable def f79_r11 : List EOper := [⟨(some (K.ofNat 45)), none, .ldn 10 (.t (K.ofNat 6))⟩, ⟨(some (K.ofNat 10)), none, .alloc 10 (List.replicate 10 (.b false))⟩, ⟨none, none, .st 10 (.t (K.ofNat 10)) (.t (K.ofNat 45))⟩]
noncomputable def f79_r12 : List EOper := [⟨(some (K.ofNat 46)), none, .mv (.t (K.ofNat 8))⟩, ⟨(some (K.ofNat 47)), none, .iadr 10 1 (.t (K.ofNat 10)) (.t (K.ofNat 46))⟩, ⟨none, none, .st 1 (.t (K.ofNat 47)) (.c (.b true))⟩]
noncomputable def f79_r13 : List EOper := [⟨(some (K.ofNat 48)), none, .ld (.t (K.ofNat 5))⟩, ⟨(some (K.ofNat 49)), none, .ldn 10 (.t (K.ofNat 10))⟩, ⟨(some (K.ofNat 50)), none, .call (.t (K.ofNat 48)) [(.t (K.ofNat 49))]⟩]
noncomputable def f79_r14 : List EOper := [⟨(some (K.ofNat 7)), none, .as (.c (.b true))⟩]
noncomputable def f79_r15 : List Stage := [⟨[⟨(some (K.ofNat 51)), none, .ld (.t (K.ofNat 1))⟩, ⟨(some (K.ofNat 52)), none, .ld (.t (K.ofNat 1))⟩, ⟨(some (K.ofNat 53)), none, .len (.t (K.ofNat 52))⟩, ⟨(some (K.ofNat 54)), none, .bin .sub (.t (K.ofNat 53)) (.c (.i .i64 (.ofNat 1)))⟩, ⟨(some (K.ofNat 55)), none, .slice 1 (.t (K.ofNat 51)) none (some (.t (K.ofNat 54))) none⟩, ⟨(some (K.ofNat 56)), none, .ld (.t (K.ofNat 4))⟩, ⟨(some (K.ofNat 57)), none, .ld (.t (K.ofNat 4))⟩, ⟨(some (K.ofNat 58)), none, .len (.t (K.ofNat 57))⟩, ⟨(some (K.ofNat 59)), none, .bin .sub (.t (K.ofNat 58)) (.c (.i .i64 (.ofNat 1)))⟩, ⟨(some (K.ofNat 60)), none, .slice 1 (.t (K.ofNat 56)) none (some (.t (K.ofNat 59))) none⟩], [], (some ⟨none, none, .st 1 (.t (K.ofNat 1)) (.t (K.ofNat 55))⟩), []⟩, ⟨[], [⟨(some (K.ofNat 56)), none, .ld (.t (K.ofNat 4))⟩, ⟨(some (K.ofNat 57)), none, .ld (.t (K.ofNat 4))⟩, ⟨(some (K.ofNat 58)), none, .len (.t (K.ofNat 57))⟩, ⟨(some (K.ofNat 59)), none, .bin .sub (.t (K.ofNat 58)) (.c (.i .i64 (.ofNat 1)))⟩, ⟨(some (K.ofNat 60)), none, .slice 1 (.t (K.ofNat 56)) none (some (.t (K.ofNat 59))) none⟩], (some ⟨none, none, .st 1 (.t (K.ofNat 4)) (.t (K.ofNat 60))⟩), []⟩, ⟨[], [], none, []⟩]
noncomputable def f79_r16 : List EOper := [⟨(some (K.ofNat 61)), none, .bin .add (.t (K.ofNat 23)) (.c (.i .i64 (.ofNat 1)))⟩, ⟨(some (K.ofNat 23)), none, .mv (.t (K.ofNat 61))⟩]
noncomputable def f79_l0 : EC := (.seq (.reg f79_r7) (.seq (.cond (.t (K.ofNat 24)) .skip (.exit 0)) (.seq (.block 1 (.seq (.reg f79_r8) (.seq (.seq (.reg f79_r9) (.cond (.t (K.ofNat 36)) (.exit 1) .skip)) (.seq (.draw f79_r10) (.seq (.reg f79_r11) (.seq (.reg f79_r12) (.seq (.seq (.reg f79_r13) (.cond (.t (K.ofNat 50)) (.seq (.reg f79_r14) .ret) .skip)) (.draw f79_r15)))))))) (.reg f79_r16))))
noncomputable def f79_r17 : List EOper := [⟨(some (K.ofNat 7)), none, .as (.c (.b false))⟩]
noncomputable def f79_c : EC := (.seq (.reg f79_r0) (.seq (.seq (.reg f79_r1) (.cond (.t (K.ofNat 15)) (.seq (.reg f79_r2) .ret) .skip)) (.seq (.seq (.reg f79_r3) (.cond (.t (K.ofNat 18)) (.seq (.reg f79_r4) .ret) .skip)) (.seq (.reg f79_r5) (.seq (.seq (.reg f79_r6) (.block 0 (.loop f79_l0))) (.seq (.reg f79_r17) .ret))))))
noncomputable def f79 : EF := ⟨62, [.tmp (K.ofNat 7)], f79_c, none⟩
theorem f79_rs : f79.rs = [.tmp (K.ofNat 7)] := of_eq_true (eq_self _)
section
variable {fs : T EF} {ro : Option K}
/-- What the search needs to call. -/
structure Calls79 (fs : T EF) : Prop where
  p54 : ∀ a b h P, CallP fs (.fn (K.ofNat 54) []) [.i .i64 a, .i .i64 b] h P = P (.b (ptI a b)) h
  pt : ∃ ef, fs.get (K.ofNat 54) = some ef ∧ ef.nv = some (flatG partG)
  c82 : fs.get (K.ofNat 82) = some f82
  c92 : fs.get (K.ofNat 92) = some coF
  c83 : fs.get (K.ofNat 83) = some f83
  c61 : fs.get (K.ofNat 61) = some f61
  c80 : fs.get (K.ofNat 80) = some f80
  c79 : fs.get (K.ofNat 79) = some f79
structure Anti (Q : List Nat) : Prop where
  len : Q.length ≤ 10
  lt : ∀ y ∈ Q, y < 64
  no : ∀ i j, i < Q.length → j < Q.length → j ≠ i → Q.getD i 0 &&& Q.getD j 0 ≠ Q.getD i 0
def bitsA (m : Nat) : List Bool := arr (fun i => m.testBit i) 10
structure Post79 (b c : Nat) (h0 : H) (d : Ids) (v : V) (Q O : List Nat) (o w : V) (h : H) (r : Bool) (h' : H) : Prop where
  ex : ∃ M' O' o' w', FSt b c h0 d v Q M' O' o' w' h' ∧ Kept c h o w h' o' w' ∧ (r = true → Ord Q O' ∧ O'.length = Q.length) ∧ (r = false → O' = O ∧ Tri Q M' O ∧ ¬ Fin0 Q (setO O))
def f79_I (b c : Nat) (h0 : H) (d : Ids) (v : V) (Q O : List Nat) (o w : V) (h : H) (u : K) (i : Nat) (fr : Fr) (h1 : H) : Prop := ∃ M1 o1 w1, i ≤ Q.length ∧ FSt b c h0 d v Q M1 O o1 w1 h1 ∧ Tri1 Q M1 O ∧ Kept c h o w h1 o1 w1 ∧
  (Ar V.b h1 u (bitsA (setO O)) ∧ NotIn u o1 ∧ NotIn u w1 ∧ u.nat < h1.nx.nat) ∧ (∀ k, k < i → okN Q (setO O) k → ¬ Fin0 Q (setO (O ++ [k]))) ∧
  fr.get (K.ofNat 1) = some (.p d.O 0) ∧ fr.get (K.ofNat 2) = some (.p d.P 0) ∧ fr.get (K.ofNat 3) = some (.p d.T 0) ∧ fr.get (K.ofNat 4) = some (.p d.B 0) ∧ fr.get (K.ofNat 5) = some (.p d.F 0) ∧ fr.get (K.ofNat 6) = some (.p u 0) ∧ fr.get (K.ofNat 21) = some (v) ∧ fr.get (K.ofNat 22) = some (.i .i64 (Q.length : Int)) ∧ fr.get (K.ofNat 23) = some (.i .i64 (i : Int))
theorem beqL_i {k : IntKind} {n : Int} : beqL [.i k n] [.i k n] = true := by
  show (beqV (.i k n) (.i k n) && true) = true
  rw [beq_i]; rfl
theorem bitsA_set {O : List Nat} {i : Nat} : (bitsA (setO O)).set i true = bitsA (setO (O ++ [i])) := by
  unfold bitsA
  rw [arr_set]
  apply arr_congr
  intro k _
  rw [setO_snoc, Nat.testBit_or, Nat.testBit_two_pow]
  by_cases e : k = i
  · subst e; simp
  · rw [if_neg e, decide_eq_false (fun h => e h.symm), Bool.or_false]
theorem bitsA_len {m : Nat} : (bitsA m).length = 10 := arr_len
theorem f79_body {b c : Nat} {h0 h : H} {d : Ids} {v : V} {Q O : List Nat} {o w : V} {u : K} {P : V → H → Prop} (k : Calls79 fs) (kd : IdsOk b c d) (hc0 : HC h0) (hv : Sl nE h0 v Q) (hvb : ∀ id off n sz, v = .sl id off n sz → id.nat < b) (an : Anti Q) (ho : Ord Q O)
    (hlt : O.length < Q.length) (hcu : c ≤ u.nat) (huh : h.nx.nat ≤ u.nat)
    (ih : ∀ i, i < Q.length → ∀ (M2 : List (List Bool)) (o2 w2 : V) (h2 : H), FSt b c h0 d v Q M2 (O ++ [i]) o2 w2 h2 → Ord Q (O ++ [i]) → Tri Q M2 (O ++ [i]) → CallP fs (.fn (K.ofNat 79) (capsF d)) [bK (bitsA (setO (O ++ [i])))] h2 fun r h' => ∃ x, r = .b x ∧ Post79 b c h0 d v Q (O ++ [i]) o2 w2 h2 x h')
    (hp1 : ∀ h', Post79 b c h0 d v Q O o w h true h' → P (.b true) h')
    (hp2 : ∀ h', Post79 b c h0 d v Q O o w h false h' → P (.b false) h')
    (i : Nat) (fr : Fr) (h1 : H) (hi : f79_I b c h0 d v Q O o w h u i fr h1) : W fs none f79_l0 (loopK (f79_I b c h0 d v Q O o w h u) (fun i => Q.length - i) i (atK 0 (seqK (W fs none (.seq (.reg f79_r17) .ret)) (retK f79 P)))) fr h1 := by
  obtain ⟨M1, o1, w1, hi, st, tr, kp, ⟨hu, hu1, hu2, hu3⟩, hno, g1, g2, g3, g4, g5, g6, g21, g22, g23⟩ := hi
  unfold f79_l0
  have hc1 := st.hc hc0
  have hv1 : Sl nE h1 v Q := hv.same fun id off n sz e => st.gr.old id (hvb _ _ _ _ e)
  by_cases hil : i < Q.length
  · have hil' : (i : Int) < (Q.length : Int) := by omega
    obtain ⟨p, hq1, hq2⟩ := hv1.at i hil
    have gi : Q.getD i 0 = Q[i] := by simp [List.getD, hil]
    have hx := an.lt _ (List.getElem_mem hil)
    have hal := an.len
    have hul : i < (bitsA (setO O)).length := by rw [bitsA_len]; omega
    have hub : (bitsA (setO O))[i] = (setO O).testBit i := arr_at hul
    have ldu : loadV h1 (.p u (0 + i * 1)) one? = .ok (.b ((setO O).testBit i)) h1 := by rw [hu.ld hul, hub]
    have i10 : i < 10 := by omega
    by_cases e1 : (setO O).testBit i = true
    · rw [e1] at ldu
      simp (disch := omega) only [f79_r7, f79_r8, f79_r9, f79_r16, w_skip, w_reg, w_seq, w_cond, w_block, w_exit, seqK_n, seqK_e, atK_e, loopK_n, ckB_b, cbB_b, okG_b, asG_f, true_and, x_nil, x_g, x_mv, x_as, x_pick, x_ld, x_bin, x_iadr, x_iads, kx, rvP_ok, okv_some, ev_t, ev_c, getV_some, putD_some, bin_add, bin_lss, pick_b, onP_p, idx_n, of1, getK_set, Nat.reduceEqDiff, ↓reduceIte, Bool.false_eq_true, Bool.not_true, g6, g21, g22, g23, hil', decide_true, hq1, hq2, nE, ldu, fw64]
      refine ⟨i + 1, by omega, M1, o1, w1, hil, st, tr, kp, ⟨hu, hu1, hu2, hu3⟩, fun k hk hok => ?_, by simp (disch := omega) only [getK_set, Nat.reduceEqDiff, ↓reduceIte, g1, g2, g3, g4, g5, g6, g21, g22, and_self, Int.natCast_add, Int.natCast_one]⟩
      by_cases e : k = i
      · subst e; have := hok.2.1; have := bit_iff.1 e1; omega
      · exact hno k (by omega) hok
    · have e1 : (setO O).testBit i = false := by simpa using e1
      rw [e1] at ldu
      simp (disch := omega) only [f79_r7, f79_r8, f79_r9, w_skip, w_reg, w_seq, w_cond, w_block, seqK_n, ckB_b, cbB_b, okG_b, asG_f, true_and, x_nil, x_g, x_mv, x_as, x_ld, x_bin, x_iadr, x_iads, x_call, kx, rvP_ok, okv_some, ev_t, ev_c, evs_nil, evs_cons, getV_some, putD_some, bin_lss, onP_p, idx_n, getK_set, Nat.reduceEqDiff, ↓reduceIte, Bool.not_false, g4, g6, g21, g22, g23, hil', decide_true, hq1, hq2, nE, ldu, st.ldB]
      have hnext : fitS (Q.getD i 0) (castL (O.map fun i => Q.getD i 0)) = nextR Q (setO O) i :=
        fits_next hil an.lt (fun j hj hne => an.no i j hil hj hne) (bit_iff0.1 e1) (fun z => by
          rw [List.mem_map]
          constructor
          · rintro ⟨j, hj, rfl⟩
            exact ⟨j, ho.lt j hj, setO_mem.2 hj, rfl⟩
          · rintro ⟨j, _, hj, rfl⟩
            exact ⟨j, setO_mem.1 hj, rfl⟩)
      have hsw : Sl iE h1 w1 (castL (O.map fun i => Q.getD i 0)) := Sl.map (f := fun (k : Nat) => (k : Int)) st.sw
      obtain ⟨ef, pt1, pt2⟩ := k.pt
      refine (callP_0 (ef := f80) k.c80 rfl (f80_ret (x := Q[i]) k.p54 k.c82 k.c92 pt1 pt2 k.c83 k.c61 hsw hc1 (by simp [castL]; omega) hx)).mono ?_
      rintro u1 h2 ⟨rfl, gr2⟩
      rw [← gi, hnext]
      have st2 := st.grow hc0 kd gr2
      have kp2 := kp.trans (Kept.grow (o := o1) (w := w1) gr2)
      have hu_2 : Ar V.b h2 u (bitsA (setO O)) := hu.same (gr2.old u hu3)
      have hu3_2 : u.nat < h2.nx.nat := by have := gr2.nx; omega
      have hc2 := st2.hc hc0
      cases e2 : nextR Q (setO O) i
      · simp (disch := omega) only [f79_r16, w_reg, w_cond, w_exit, seqK_n, seqK_e, atK_e, loopK_n, ckB_b, cbB_b, okG_b, asG_f, true_and, x_nil, x_g, x_mv, x_pick, x_bin, x_not, kx, rvP_ok, okv_some, ev_t, ev_c, getV_some, putD_some, bin_add, pick_b, onB_b, of1, getK_set, Nat.reduceEqDiff, ↓reduceIte, Bool.false_eq_true, Bool.not_false, g23, fw64]
        refine ⟨i + 1, by omega, M1, o1, w1, hil, st2, tr, kp2, ⟨hu_2, hu1, hu2, hu3_2⟩, fun k hk hok => ?_, by simp (disch := omega) only [getK_set, Nat.reduceEqDiff, ↓reduceIte, g1, g2, g3, g4, g5, g6, g21, g22, and_self, Int.natCast_add, Int.natCast_one]⟩
        by_cases e : k = i
        · subst e; have := hok.2.2; rw [e2] at this; cases this
        · exact hno k (by omega) hok
      · have hok : okN Q (setO O) i := ⟨hil, bit_iff0.1 e1, e2⟩
        have ho2 := Ord.snoc ho hok
        obtain ⟨o', w', h3, h4, q1, q2, q3, q4, q5, q6, q7, q8⟩ := st2.push hc0 kd i (by omega) (.cells (1 * 1) [.i .i64 (i : Int)]) (.cells (1 * 1) [.i .i64 (Q.getD i 0 : Int)]) rfl rfl
        have hcA : HC (h2.new (.cells (1 * 1) [.i .i64 (i : Int)])) := (Grow.new (b := 0) (Nat.zero_le _) _).hc hc2
        have nx2 := st2.nx
        have ldA : loadV (h2.new (.cells (1 * 1) [.i .i64 (i : Int)])) (.p d.B 0) one? = .ok w1 _ := load_p (by rw [get_new_old (by have := kd.a4; have := kd.a5; have := kd.a6; have := kd.a7; omega)]; exact st2.eB) rfl
        have ld3 : loadV h3 (.p d.B 0) one? = .ok w1 h3 := load_p q2 rfl
        simp (disch := omega) only [f79_r10, w_skip, w_reg, w_draw, w_seq, w_cond, seqK_n, ckB_b, cbB_b, okG_b, asG_f, true_and, x_nil, x_g, x_pick, x_st, x_not, x_app, kx, kg, xg_nil, xg_mv, xg_ld, xg_bslice, xd_cons, fresh_nil, stK_n, stK_s, stay_nil, stay_cons, again_ok, stay_mv, beq_i, stay_ld, rvP_ok, ev_t, ev_c, getV_some, putD_some, putD_none, pick_b, onB_b, oGet_s, cells1_i, fill_1, set_1, of0, Option.some.injEq, exists_eq_left', getK_set, Nat.reduceEqDiff, ↓reduceIte, Bool.false_eq_true, Bool.not_true, Bool.not_false, g1, g4, st2.ldO, hc2.dead, hcA.dead, ldA, q1, q4, q5, q6, ld3, st2.sw.beq]
        refine ⟨fresh_two (n := 1) (sz := 1) (n2 := 1) (sz2 := 1) (by simp (disch := omega) only [getK_set, Nat.reduceEqDiff, ↓reduceIte]) (by simp (disch := omega) only [getK_set, ↓reduceIte]), ⟨stay_lit (off := 0) (id := (h2.new (.cells (1 * 1) [.i .i64 (i : Int)])).nx) (cs := [.i .i64 (Q.getD i 0 : Int)]) (by simp (disch := omega) only [getK_set, Nat.reduceEqDiff, ↓reduceIte]) q3 (by simp (disch := omega) only [ev_t, getV_some, oGet_s, cells1_i, fill_1, set_1, getK_set, Nat.reduceEqDiff, ↓reduceIte]) beqL_i, trivial⟩, ?_⟩
        obtain ⟨ku1, ku2, ku3⟩ := q8.2 u hcu hu3_2 hu1 hu2
        have hu5 := hu_2.same ku1
        have kp5 := kp2.trans q8
        have hu35 : u.nat < ((h4.put d.O (.cells 1 [o'])).put d.B (.cells 1 [w'])).nx.nat := by have := q8.1; omega
        clear q1 q2 q3 q4 q5 q6 q8 ld3 ldA hcA ku1
        generalize (h4.put d.O (.cells 1 [o'])).put d.B (.cells 1 [w']) = h5 at *
        have hc5 := q7.hc hc0
        have nx6 := nx_new h5 (.cells 10 (List.replicate 10 (.b false)))
        have hA6 : Ar V.b (h5.new (.cells 10 (List.replicate 10 (.b false)))) h5.nx (arr (fun _ => false) 10) := by unfold Ar; rw [get_new_same]; rfl
        have st6 := hA6.stn (g := fun i => (setO O).testBit i)
        have gw6 : Grow h5.nx.nat h5 (h5.new (.cells 10 (List.replicate 10 (.b false)))) := Grow.new (Nat.le_refl _) _
        have gw7 : Grow h5.nx.nat (h5.new (.cells 10 (List.replicate 10 (.b false)))) ((h5.new (.cells 10 (List.replicate 10 (.b false)))).put h5.nx (.cells 10 ((bitsA (setO O)).map V.b))) := Grow.put (Nat.le_refl _) (by omega) _
        have hA7 : Ar V.b ((h5.new (.cells 10 (List.replicate 10 (.b false)))).put h5.nx (.cells 10 ((bitsA (setO O)).map V.b))) h5.nx (bitsA (setO O)) := by unfold Ar; rw [get_put_same, bitsA_len]
        have ldn5 := hu5.ldn (n := 10) bitsA_len.symm
        obtain ⟨st8, hA8⟩ := hA7.st (i := i) (x := true) (c := .b true) hul rfl rfl
        have gw8 : Grow h5.nx.nat ((h5.new (.cells 10 (List.replicate 10 (.b false)))).put h5.nx (.cells 10 ((bitsA (setO O)).map V.b))) (((h5.new (.cells 10 (List.replicate 10 (.b false)))).put h5.nx (.cells 10 ((bitsA (setO O)).map V.b))).put h5.nx (.cells (bitsA (setO O)).length (((bitsA (setO O)).set i true).map V.b))) := Grow.put (Nat.le_refl _) (by rw [nx_put]; omega) _
        have g58 := (gw6.trans gw7).trans gw8
        have ldn8 := hA8.ldn (n := 10) (by rw [List.length_set]; exact bitsA_len.symm)
        have t8 := q7.grow hc0 kd g58
        change storeV _ 10 _ (.agg ((bitsA (setO O)).map V.b)) = .ok undefV ((h5.new (.cells 10 (List.replicate 10 (.b false)))).put h5.nx (.cells 10 ((bitsA (setO O)).map V.b))) at st6
        have ldF8 := t8.ldF
        simp (disch := omega) only [f79_r11, f79_r12, f79_r13, w_reg, w_seq, seqK_n, x_nil, x_mv, x_alloc, x_ld, x_ldn, x_st, x_iadr, x_call, kx, rvP_ok, ev_t, ev_c, evs_nil, evs_cons, getV_some, putD_some, putD_none, onP_p, idx_n, getK_set, Nat.reduceEqDiff, ↓reduceIte, g5, g6, ldn5, st6, st8, ldF8, ldn8]
        clear st6 st8 hA6 hA7 ldF8 ldn5 gw6 gw7 gw8 nx6 ldn8 hA8
        generalize ((h5.new (.cells 10 (List.replicate 10 (.b false)))).put h5.nx (.cells 10 ((bitsA (setO O)).map V.b))).put h5.nx (.cells (bitsA (setO O)).length (((bitsA (setO O)).set i true).map V.b)) = h8 at *
        rw [bitsA_set]
        refine (ih i hil M1 o' w' h8 t8 ho2 tr.down).mono ?_
        rintro r h9 ⟨x, rfl, po⟩
        obtain ⟨M9, O9, o9, w9, t9, k9, f9, f9'⟩ := po.ex
        have kp9 := (kp5.trans (Kept.grow (o := o') (w := w') g58)).trans k9
        cases x
        · obtain ⟨rfl, tr9, nf9⟩ := f9' rfl
          obtain ⟨oa, wa, s1, s2, s3, s4, s5, s6, s7, s8⟩ := t9.pop kd
          have hsub : fw .i64 (((O ++ [i]).length : Int) - 1) = (O.length : Int) := by
            have : (O ++ [i]).length = O.length + 1 := by simp
            rw [fw64 (by omega) (by omega)]; omega
          have hln := t9.so.len
          have hlw := t9.sw.len
          rw [List.length_map] at hlw
          have ldb : loadV (h9.put d.O (.cells 1 [oa])) (.p d.B 0) one? = .ok w9 _ := load_p (by rw [get_put_other (kNe kd.a3).symm]; exact t9.eB) rfl
          obtain ⟨v1, v2, v3⟩ := k9.2 u hcu (by have := g58.nx; omega) ku2 ku3
          obtain ⟨v4, v5, v6⟩ := s8.2 u hcu (by have := g58.nx; have := k9.1; omega) v2 v3
          simp (disch := omega) only [f79_r15, w_skip, w_reg, w_draw, w_cond, seqK_n, atK_n, ckB_b, cbB_b, true_and, x_nil, x_st, sliceV_eq, Option.map_none, Option.map_some, kx, kg, xg_nil, xg_ld, xg_bin, xg_slice, xg_len, xd_cons, fresh_nil, stK_n, stK_s, stay_nil, stay_cons, again_ok, stay_len, stay_slice, beq_i, stay_ld, stay_bin, rvP_ok, okv_some, ev_t, ev_c, getV_some, putD_some, putD_none, bin_sub, of1, getK_set, Nat.reduceEqDiff, ↓reduceIte, Bool.false_eq_true, g1, g4, t9.ldO, t9.ldB, hln, hlw, hsub, s1, s2, s3, s4, s5, s6, ldb]
          simp (disch := omega) only [f79_r16, loopK_n, x_nil, x_mv, x_bin, kx, rvP_ok, okv_some, ev_t, ev_c, getV_some, putD_some, bin_add, of1, getK_set, Nat.reduceEqDiff, ↓reduceIte, g23, fw64]
          refine ⟨i + 1, by omega, M9, oa, wa, hil, s7, tr9.up, kp9.trans s8, ⟨((hu5.same (g58.old u hu35)).same v1).same v4, v5, v6, by have := s8.1; have := k9.1; have := g58.nx; omega⟩, fun k hk hok => ?_, by simp (disch := omega) only [getK_set, Nat.reduceEqDiff, ↓reduceIte, g1, g2, g3, g4, g5, g6, g21, g22, and_self, Int.natCast_add, Int.natCast_one]⟩
          by_cases e : k = i
          · subst e; exact nf9
          · exact hno k (by omega) hok
        · simp (disch := omega) only [f79_r14, f79_rs, w_reg, w_seq, w_cond, w_ret, seqK_n, seqK_r, atK_r, loopK_r, ckB_b, cbB_b, true_and, retK_r, x_nil, x_as, kx, ev_t, ev_c, getV_some, putD_some, oGet_s, readRs_nil, readRs_t, retV_1, Option.some.injEq, exists_eq_left', getK_set, ↓reduceIte]
          exact hp1 _ ⟨M9, O9, o9, w9, t9, kp9, f9, fun h => by cases h⟩
  · obtain rfl : i = Q.length := by omega
    simp (disch := omega) only [f79_r7, f79_r17, f79_rs, w_reg, w_seq, w_cond, w_exit, w_ret, seqK_n, seqK_e, atK_e, loopK_e, ckB_b, cbB_b, true_and, retK_r, x_nil, x_as, x_bin, kx, rvP_ok, okv_some, ev_t, ev_c, getV_some, putD_some, bin_lss, oGet_s, readRs_nil, readRs_t, retV_1, Option.some.injEq, exists_eq_left', getK_set, ↓reduceIte, Bool.false_eq_true, g22, g23, Int.lt_irrefl, decide_false]
    have nf := no_fin ho hlt fun k hk hok => hno k hk hok
    exact hp2 _ ⟨M1, O, o1, w1, st, kp, fun h => (by cases h), fun _ => ⟨rfl, tr.out ho an.len nf, nf⟩⟩
theorem f79_ret {b c : Nat} {h0 : H} {d : Ids} {v : V} {Q : List Nat} (k : Calls79 fs) (kd : IdsOk b c d) (hc0 : HC h0) (hv : Sl nE h0 v Q) (hvb : ∀ id off n sz, v = .sl id off n sz → id.nat < b) (an : Anti Q) :
    ∀ (n : Nat) (M : List (List Bool)) (O : List Nat) (o w : V) (h : H), Q.length - O.length ≤ n → FSt b c h0 d v Q M O o w h → Ord Q O → Tri Q M O →
      Ret fs f79 (bK (bitsA (setO O)) :: capsF d) h fun r h' => ∃ x, r = .b x ∧ Post79 b c h0 d v Q O o w h x h' := by
  intro n
  induction n with
  | zero =>
    intro M O o w h hn st ho tr
    have hl := ho.len
    apply ret_of rfl
    show W fs none f79_c _ _ _
    unfold f79_c capsF
    have e : O.length = Q.length := by omega
    have hb : cellsN 10 (bK (bitsA (setO O))) = some ((bitsA (setO O)).map V.b) := cellsN_arr
    have g1 : Grow h.nx.nat h (h.new (.cells 10 ((bitsA (setO O)).map V.b))) := Grow.new (Nat.le_refl _) _
    have st1 := st.grow hc0 kd g1
    have hv1 : Sl nE (h.new (.cells 10 ((bitsA (setO O)).map V.b))) v Q := hv.same fun id off n sz e => st1.gr.old id (hvb _ _ _ _ e)
    have e' : ((O.length : Nat) : Int) = ((Q.length : Nat) : Int) := by omega
    simp (disch := omega) only [f79_r0, f79_r1, f79_r2, f79_rs, w_reg, w_seq, w_cond, w_ret, seqK_n, seqK_r, ckB_b, cbB_b, true_and, retK_r, x_nil, x_as, x_box, x_ld, x_bin, x_len, kx, rvP_ok, okv_some, ev_t, ev_c, getV_some, putD_some, bin_eql, oGet_s, readRs_nil, readRs_t, retV_1, Option.some.injEq, exists_eq_left', getK_set, Nat.reduceEqDiff, ↓reduceIte, frame_6, hb, st1.ldO, st1.ldP, st1.so.len, hv1.len, e', decide_true]
    exact ⟨true, rfl, ⟨M, O, o, w, st1, Kept.grow g1, fun _ => ⟨ho, e⟩, fun h => by cases h⟩⟩
  | succ n ih =>
    intro M O o w h hn st ho tr
    have hl := ho.len
    apply ret_of rfl
    show W fs none f79_c _ _ _
    unfold f79_c capsF
    have hb : cellsN 10 (bK (bitsA (setO O))) = some ((bitsA (setO O)).map V.b) := cellsN_arr
    have g1 : Grow h.nx.nat h (h.new (.cells 10 ((bitsA (setO O)).map V.b))) := Grow.new (Nat.le_refl _) _
    have st1 := st.grow hc0 kd g1
    have hc := st.hc hc0
    have nx1 := nx_new h (.cells 10 ((bitsA (setO O)).map V.b))
    have hv1 : Sl nE (h.new (.cells 10 ((bitsA (setO O)).map V.b))) v Q := hv.same fun id off n sz e => st1.gr.old id (hvb _ _ _ _ e)
    by_cases e : O.length = Q.length
    · have e' : ((O.length : Nat) : Int) = ((Q.length : Nat) : Int) := by omega
      simp (disch := omega) only [f79_r0, f79_r1, f79_r2, f79_rs, w_reg, w_seq, w_cond, w_ret, seqK_n, seqK_r, ckB_b, cbB_b, true_and, retK_r, x_nil, x_as, x_box, x_ld, x_bin, x_len, kx, rvP_ok, okv_some, ev_t, ev_c, getV_some, putD_some, bin_eql, oGet_s, readRs_nil, readRs_t, retV_1, Option.some.injEq, exists_eq_left', getK_set, Nat.reduceEqDiff, ↓reduceIte, frame_6, hb, st1.ldO, st1.ldP, st1.so.len, hv1.len, e', decide_true]
      exact ⟨true, rfl, ⟨M, O, o, w, st1, Kept.grow g1, fun _ => ⟨ho, e⟩, fun h => by cases h⟩⟩
    · have e' : ¬ ((O.length : Nat) : Int) = ((Q.length : Nat) : Int) := by omega
      have hu : Ar V.b (h.new (.cells 10 ((bitsA (setO O)).map V.b))) h.nx (bitsA (setO O)) := Ar.box
      have ldu := hu.ldn (n := 10) bitsA_len.symm
      have lk := st1.eM.look (n := 10) (L := bitsA (setO O)) bitsA_len tr.len
      have lo := st.so.lt hc
      have lw := st.sw.lt hc
      have hlen := an.len
      by_cases em : bitsA (setO O) ∈ M
      · rw [decide_eq_true em] at lk
        change lookV 89 _ _ _ _ (.agg ((bitsA (setO O)).map V.b)) _ = _ at lk
        simp (disch := omega) only [f79_r0, f79_r1, f79_r3, f79_r4, f79_rs, w_skip, w_reg, w_seq, w_cond, w_ret, seqK_n, seqK_r, ckB_b, cbB_b, true_and, retK_r, x_nil, x_as, x_box, x_ld, x_ldn, x_bin, x_look, x_len, kx, rvP_ok, okv_some, ev_t, ev_c, getV_some, putD_some, bin_eql, oGet_s, readRs_nil, readRs_t, retV_1, Option.some.injEq, exists_eq_left', getK_set, Nat.reduceEqDiff, ↓reduceIte, Bool.false_eq_true, frame_6, hb, st1.ldO, st1.ldP, st1.so.len, hv1.len, e', decide_false, st1.ldT, ldu, lk]
        exact ⟨false, rfl, ⟨M, O, o, w, st1, Kept.grow g1, fun h => (by cases h), fun _ => ⟨rfl, tr, tr.hit ho hlen em⟩⟩⟩
      · rw [decide_eq_false em] at lk
        change lookV 89 _ _ _ _ (.agg ((bitsA (setO O)).map V.b)) _ = _ at lk
        obtain ⟨mp1, mp2⟩ := st1.eM.put (n := 10) (L := bitsA (setO O)) bitsA_len tr.len em
        change mupdV 89 _ _ _ (.agg ((bitsA (setO O)).map V.b)) _ = _ at mp1
        have st2 := st1.mark kd mp2
        have hdM : d.M.nat < c := by have := kd.a5; have := kd.a6; have := kd.a7; omega
        have hch := st.nx
        have hu2 : Ar V.b ((h.new (.cells 10 ((bitsA (setO O)).map V.b))).put d.M (.map 89 (ents (M ++ [bitsA (setO O)])))) h.nx (bitsA (setO O)) := hu.same (get_put_other (kNe (by omega)).symm)
        simp (disch := omega) only [f79_r0, f79_r1, f79_r3, f79_r5, f79_r6, w_skip, w_reg, w_seq, w_cond, w_block, seqK_n, ckB_b, cbB_b, true_and, x_nil, x_mv, x_as, x_box, x_ld, x_ldn, x_bin, x_look, x_mupd, x_len, kx, rvP_ok, okv_some, ev_t, ev_c, getV_some, putD_some, putD_none, bin_eql, oGet_s, of0, getK_set, Nat.reduceEqDiff, ↓reduceIte, Bool.false_eq_true, frame_6, hb, st1.ldO, st1.ldP, st1.so.len, hv1.len, e', decide_false, st1.ldT, ldu, lk, mp1, st2.ldP]
        refine W_loop (f79_I b c h0 d v Q O o w h h.nx) (fun i => Q.length - i) (f79_body k kd hc0 hv hvb an ho (by omega) st.nx (Nat.le_refl _) ?_ ?_ ?_) 0 ⟨M ++ [bitsA (setO O)], o, w, Nat.zero_le _, st2, tr.add, (Kept.grow g1).trans (Kept.put (by omega)), ⟨hu2, fun off n sz e => by have := lo _ _ _ _ e; omega, fun off n sz e => by have := lw _ _ _ _ e; omega, by rw [nx_put]; omega⟩, fun k hk => by omega, by simp (disch := omega) only [getK_set, Nat.reduceEqDiff, ↓reduceIte, and_self, Int.natCast_zero]⟩
        · intro i hi M2 o2 w2 h2 st2 ho2 tr2
          refine callP_c k.c79 rfl (ih M2 (O ++ [i]) o2 w2 h2 (by simp; omega) st2 ho2 tr2)
        · exact fun h' po => ⟨true, rfl, po⟩
        · exact fun h' po => ⟨false, rfl, po⟩
end
end Go.Ev
namespace Go.Ev
open Go Go.RowKit
noncomputable def f59_r0 : List EOper := [⟨(some (K.ofNat 1)), none, .box 1 (.t (K.ofNat 0))⟩, ⟨(some (K.ofNat 2)), none, .as (.c .sn)⟩, ⟨(some (K.ofNat 3)), none, .as (.c (.b false))⟩]
noncomputable def f59_r1 : List EOper := [⟨(some (K.ofNat 4)), none, .alloc 1 [.sn]⟩, ⟨(some (K.ofNat 5)), none, .alloc 1 [.sn]⟩]
noncomputable def f59_r2 : List EOper := [⟨(some (K.ofNat 8)), none, .mkmap 89⟩, ⟨(some (K.ofNat 6)), none, .alloc 1 [.mn]⟩, ⟨none, none, .st 1 (.t (K.ofNat 6)) (.t (K.ofNat 8))⟩]
noncomputable def f59_r3 : List EOper := [⟨(some (K.ofNat 7)), none, .alloc 1 [.fnil]⟩]
noncomputable def f59_r4 : List EOper := [⟨(some (K.ofNat 9)), none, .mkfn (K.ofNat 79) [(.t (K.ofNat 4)), (.t (K.ofNat 1)), (.t (K.ofNat 6)), (.t (K.ofNat 5)), (.t (K.ofNat 7))]⟩, ⟨none, none, .st 1 (.t (K.ofNat 7)) (.t (K.ofNat 9))⟩]
noncomputable def f59_r5 : List EOper := [⟨(some (K.ofNat 10)), none, .ld (.t (K.ofNat 7))⟩, ⟨(some (K.ofNat 11)), none, .build (List.replicate 10 (.b false)) []⟩, ⟨(some (K.ofNat 12)), none, .call (.t (K.ofNat 10)) [(.t (K.ofNat 11))]⟩, ⟨(some (K.ofNat 13)), none, .not (.t (K.ofNat 12))⟩]
noncomputable def f59_r6 : List EOper := [⟨(some (K.ofNat 2)), none, .as (.c .sn)⟩, ⟨(some (K.ofNat 3)), none, .as (.c (.b false))⟩]
noncomputable def f59_r7 : List EOper := [⟨(some (K.ofNat 14)), none, .ld (.t (K.ofNat 4))⟩, ⟨(some (K.ofNat 2)), none, .as (.t (K.ofNat 14))⟩, ⟨(some (K.ofNat 3)), none, .as (.c (.b true))⟩]
noncomputable def f59_c : EC := (.seq (.reg f59_r0) (.seq (.reg f59_r1) (.seq (.reg f59_r2) (.seq (.reg f59_r3) (.seq (.reg f59_r4) (.seq (.seq (.reg f59_r5) (.cond (.t (K.ofNat 13)) (.seq (.reg f59_r6) .ret) .skip)) (.seq (.reg f59_r7) .ret)))))))
noncomputable def f59 : EF := ⟨15, [.tmp (K.ofNat 2), .tmp (K.ofNat 3)], f59_c, none⟩
theorem f59_rs : f59.rs = [.tmp (K.ofNat 2), .tmp (K.ofNat 3)] := of_eq_true (eq_self _)
noncomputable def f21_r0 : List EOper := [⟨(some (K.ofNat 4)), none, .as (.c .sn)⟩, ⟨(some (K.ofNat 5)), none, .as (.c (.b false))⟩, ⟨(some (K.ofNat 6)), none, .as (.c (.i .i64 (.ofNat 0)))⟩]
noncomputable def f21_r1 : List EOper := [⟨(some (K.ofNat 10)), none, .mv (.t (K.ofNat 0))⟩, ⟨(some (K.ofNat 11)), none, .mv (.t (K.ofNat 1))⟩, ⟨(some (K.ofNat 12)), none, .call (.c (.fn (K.ofNat 16) [])) [(.t (K.ofNat 10)), (.t (K.ofNat 11))]⟩, ⟨(some (K.ofNat 7)), none, .as (.t (K.ofNat 12))⟩]
noncomputable def f21_r2 : List EOper := [⟨(some (K.ofNat 13)), none, .mv (.t (K.ofNat 7))⟩, ⟨(some (K.ofNat 14)), none, .bin .neq (.t (K.ofNat 13)) (.c (.i .i64 (.ofNat 0)))⟩]
noncomputable def f21_r3 : List EOper := [⟨(some (K.ofNat 15)), none, .mv (.t (K.ofNat 7))⟩, ⟨(some (K.ofNat 4)), none, .as (.c .sn)⟩, ⟨(some (K.ofNat 5)), none, .as (.c (.b false))⟩, ⟨(some (K.ofNat 6)), none, .as (.t (K.ofNat 15))⟩]
noncomputable def f21_r4 : List EOper := [⟨(some (K.ofNat 16)), none, .mv (.t (K.ofNat 1))⟩, ⟨(some (K.ofNat 17)), none, .call (.c (.fn (K.ofNat 58) [])) [(.t (K.ofNat 16))]⟩, ⟨(some (K.ofNat 18)), none, .not (.t (K.ofNat 17))⟩]
noncomputable def f21_r5 : List EOper := [⟨(some (K.ofNat 4)), none, .as (.c .sn)⟩, ⟨(some (K.ofNat 5)), none, .as (.c (.b false))⟩, ⟨(some (K.ofNat 6)), none, .as (.c (.i .i64 (.ofNat 0)))⟩]
noncomputable def f21_r6 : List EOper := [⟨(some (K.ofNat 20)), none, .mv (.t (K.ofNat 1))⟩, ⟨(some (K.ofNat 21)), none, .call (.c (.fn (K.ofNat 59) [])) [(.t (K.ofNat 20))]⟩, ⟨(some (K.ofNat 19)), none, .mv (.t (K.ofNat 21))⟩, ⟨(some (K.ofNat 22)), none, .ext (.t (K.ofNat 19)) 0⟩, ⟨(some (K.ofNat 23)), none, .ext (.t (K.ofNat 19)) 1⟩, ⟨(some (K.ofNat 8)), none, .as (.t (K.ofNat 22))⟩, ⟨(some (K.ofNat 9)), none, .as (.t (K.ofNat 23))⟩]
noncomputable def f21_r7 : List EOper := [⟨(some (K.ofNat 24)), none, .mv (.t (K.ofNat 8))⟩, ⟨(some (K.ofNat 25)), none, .mv (.t (K.ofNat 9))⟩, ⟨(some (K.ofNat 4)), none, .as (.t (K.ofNat 24))⟩, ⟨(some (K.ofNat 5)), none, .as (.t (K.ofNat 25))⟩, ⟨(some (K.ofNat 6)), none, .as (.c (.i .i64 (.ofNat 0)))⟩]
noncomputable def f21_c : EC := (.seq (.reg f21_r0) (.seq (.seq (.reg f21_r1) (.seq (.reg f21_r2) (.cond (.t (K.ofNat 14)) (.seq (.reg f21_r3) .ret) .skip))) (.seq (.seq (.reg f21_r4) (.cond (.t (K.ofNat 18)) (.seq (.reg f21_r5) .ret) .skip)) (.seq (.reg f21_r6) (.seq (.reg f21_r7) .ret)))))
noncomputable def f21 : EF := ⟨26, [.tmp (K.ofNat 4), .tmp (K.ofNat 5), .tmp (K.ofNat 6)], f21_c, none⟩
theorem f21_rs : f21.rs = [.tmp (K.ofNat 4), .tmp (K.ofNat 5), .tmp (K.ofNat 6)] := of_eq_true (eq_self _)
section
variable {fs : T EF} {ro : Option K}
structure Found (Q : List Nat) (h h' : H) (x : Bool) (u : V) : Prop where
  gr : Grow h.nx.nat h h'
  yes : x = true → ∃ O, Sl nE h' u O ∧ Own h.nx.nat u ∧ Ord Q O ∧ O.length = Q.length
  no : x = false → u = .sn ∧ ¬ Fin0 Q 0
theorem f59_ret {h : H} {v : V} {Q : List Nat} (k : Calls79 fs) (hc : HC h) (hv : Sl nE h v Q) (an : Anti Q) :
    Ret fs f59 [v] h fun r h' => ∃ x u, r = .tup [u, .b x] ∧ Found Q h h' x u := by
  apply ret_of rfl
  show W fs none f59_c _ _ _
  unfold f59_c
  have n1 := nx_new h (.cells 1 [v])
  have n2 := nx_new (h.new (.cells 1 [v])) (.cells 1 [.sn])
  have b2 : (h.new (.cells 1 [v])).get h.nx = .cells 1 [v] := get_new_same
  have w1 : Grow h.nx.nat h (h.new (.cells 1 [v])) := Grow.new (Nat.le_refl _) _
  have hv1 := hv.one
  simp (disch := omega) only [f59_r0, w_reg, w_seq, seqK_n, x_nil, x_as, x_box, kx, rvP_ok, ev_t, ev_c, getV_some, putD_some, oGet_s, frame_1, getK_set, ↓reduceIte, hv1]
  generalize h.new (.cells 1 [v]) = h1 at *
  have w2 : Grow h1.nx.nat h1 (h1.new (.cells 1 [.sn])) := Grow.new (Nat.le_refl _) _
  have c2 : (h1.new (.cells 1 [.sn])).get h1.nx = .cells 1 [.sn] := get_new_same
  have n3 := nx_new (h1.new (.cells 1 [.sn])) (.cells 1 [.sn])
  have w3 : Grow (h1.new (.cells 1 [.sn])).nx.nat (h1.new (.cells 1 [.sn])) ((h1.new (.cells 1 [.sn])).new (.cells 1 [.sn])) := Grow.new (Nat.le_refl _) _
  have c3 : ((h1.new (.cells 1 [.sn])).new (.cells 1 [.sn])).get (h1.new (.cells 1 [.sn])).nx = .cells 1 [.sn] := get_new_same
  simp (disch := omega) only [f59_r1, w_reg, w_seq, seqK_n, x_nil, x_alloc, putD_some]
  generalize h1.new (.cells 1 [.sn]) = h2 at *
  generalize h2.new (.cells 1 [.sn]) = h3 at *
  have n4 := nx_new h3 (.map 89 [])
  have w4 : Grow h3.nx.nat h3 (h3.new (.map 89 [])) := Grow.new (Nat.le_refl _) _
  have c4 : (h3.new (.map 89 [])).get h3.nx = .map 89 [] := get_new_same
  have n5 := nx_new (h3.new (.map 89 [])) (.cells 1 [.mn])
  have w5 : Grow (h3.new (.map 89 [])).nx.nat (h3.new (.map 89 [])) ((h3.new (.map 89 [])).new (.cells 1 [.mn])) := Grow.new (Nat.le_refl _) _
  have s5 : storeV ((h3.new (.map 89 [])).new (.cells 1 [.mn])) 1 (.p (h3.new (.map 89 [])).nx 0) (.m h3.nx) = .ok undefV (((h3.new (.map 89 [])).new (.cells 1 [.mn])).put (h3.new (.map 89 [])).nx (.cells 1 [.m h3.nx])) := by
    rw [store_p (m := 1) (cs := [.mn]) get_new_same (xs := [.m h3.nx]) rfl (by omega)]; rfl
  have w6 : Grow (h3.new (.map 89 [])).nx.nat ((h3.new (.map 89 [])).new (.cells 1 [.mn])) (((h3.new (.map 89 [])).new (.cells 1 [.mn])).put (h3.new (.map 89 [])).nx (.cells 1 [.m h3.nx])) := Grow.put (Nat.le_refl _) (by omega) _
  have c6 : (((h3.new (.map 89 [])).new (.cells 1 [.mn])).put (h3.new (.map 89 [])).nx (.cells 1 [.m h3.nx])).get (h3.new (.map 89 [])).nx = .cells 1 [.m h3.nx] := get_put_same
  have n6 : (((h3.new (.map 89 [])).new (.cells 1 [.mn])).put (h3.new (.map 89 [])).nx (.cells 1 [.m h3.nx])).nx.nat = ((h3.new (.map 89 [])).new (.cells 1 [.mn])).nx.nat := rfl
  simp (disch := omega) only [f59_r2, w_reg, w_seq, seqK_n, x_nil, x_alloc, x_st, x_mkmap, kx, rvP_ok, ev_t, getV_some, putD_some, putD_none, getK_set, Nat.reduceEqDiff, ↓reduceIte, s5]
  generalize h3.new (.map 89 []) = h4 at *
  generalize h4.new (.cells 1 [.mn]) = h5 at *
  generalize h5.put h4.nx (.cells 1 [.m h3.nx]) = h6 at *
  have n7 := nx_new h6 (.cells 1 [.fnil])
  have w7 : Grow h6.nx.nat h6 (h6.new (.cells 1 [.fnil])) := Grow.new (Nat.le_refl _) _
  have s7 : storeV (h6.new (.cells 1 [.fnil])) 1 (.p h6.nx 0) (.fn (K.ofNat 79) [.p h1.nx 0, .p h.nx 0, .p h4.nx 0, .p h2.nx 0, .p h6.nx 0]) = .ok undefV ((h6.new (.cells 1 [.fnil])).put h6.nx (.cells 1 [.fn (K.ofNat 79) [.p h1.nx 0, .p h.nx 0, .p h4.nx 0, .p h2.nx 0, .p h6.nx 0]])) := by
    rw [store_p (m := 1) (cs := [.fnil]) get_new_same (xs := [.fn (K.ofNat 79) [.p h1.nx 0, .p h.nx 0, .p h4.nx 0, .p h2.nx 0, .p h6.nx 0]]) rfl (by omega)]; rfl
  have w8 : Grow h6.nx.nat (h6.new (.cells 1 [.fnil])) ((h6.new (.cells 1 [.fnil])).put h6.nx (.cells 1 [.fn (K.ofNat 79) [.p h1.nx 0, .p h.nx 0, .p h4.nx 0, .p h2.nx 0, .p h6.nx 0]])) := Grow.put (Nat.le_refl _) (by omega) _
  have c8 : ((h6.new (.cells 1 [.fnil])).put h6.nx (.cells 1 [.fn (K.ofNat 79) [.p h1.nx 0, .p h.nx 0, .p h4.nx 0, .p h2.nx 0, .p h6.nx 0]])).get h6.nx = .cells 1 [.fn (K.ofNat 79) [.p h1.nx 0, .p h.nx 0, .p h4.nx 0, .p h2.nx 0, .p h6.nx 0]] := get_put_same
  have n8 : ((h6.new (.cells 1 [.fnil])).put h6.nx (.cells 1 [.fn (K.ofNat 79) [.p h1.nx 0, .p h.nx 0, .p h4.nx 0, .p h2.nx 0, .p h6.nx 0]])).nx.nat = (h6.new (.cells 1 [.fnil])).nx.nat := rfl
  simp (disch := omega) only [f59_r3, f59_r4, w_reg, w_seq, seqK_n, x_nil, x_alloc, x_st, x_mkfn, kx, rvP_ok, ev_t, evs_nil, evs_cons, getV_some, putD_some, putD_none, getK_set, Nat.reduceEqDiff, ↓reduceIte, s7]
  generalize h6.new (.cells 1 [.fnil]) = h7 at *
  generalize h7.put h6.nx (.cells 1 [.fn (K.ofNat 79) [.p h1.nx 0, .p h.nx 0, .p h4.nx 0, .p h2.nx 0, .p h6.nx 0]]) = h8 at *
  have z6 : Grow h6.nx.nat h6 h8 := w7.trans w8
  have z4 : Grow h4.nx.nat h4 h8 := (w5.trans w6).trans (z6.low (by omega))
  have z3 : Grow h3.nx.nat h3 h8 := w4.trans (z4.low (by omega))
  have z2 : Grow h2.nx.nat h2 h8 := w3.trans (z3.low (by omega))
  have z1 : Grow h1.nx.nat h1 h8 := w2.trans (z2.low (by omega))
  have z0 : Grow h.nx.nat h h8 := w1.trans (z1.low (by omega))
  have hvl := hv.lt hc
  have kd : IdsOk h.nx.nat h8.nx.nat ⟨h.nx, h1.nx, h2.nx, h3.nx, h4.nx, h6.nx⟩ := by
    constructor
    · show h.nx.nat ≤ h.nx.nat; omega
    · show h.nx.nat < h1.nx.nat; omega
    · show h1.nx.nat < h2.nx.nat; omega
    · show h2.nx.nat < h3.nx.nat; omega
    · show h3.nx.nat < h4.nx.nat; omega
    · show h4.nx.nat < h6.nx.nat; omega
    · show h6.nx.nat < h8.nx.nat; omega
  have st : FSt h.nx.nat h8.nx.nat h ⟨h.nx, h1.nx, h2.nx, h3.nx, h4.nx, h6.nx⟩ v Q [] [] .sn .sn h8 := by
    refine ⟨z0, Nat.le_refl _, ?_, ?_, ?_, ?_, ?_, ?_, Sl.nil, Sl.nil, Own.sn, Own.sn, fun _ _ _ _ e => by cases e⟩
    · show h8.get h.nx = _; rw [z1.old _ (by omega)]; exact b2
    · show h8.get h1.nx = _; rw [z2.old _ (by omega)]; exact c2
    · show h8.get h2.nx = _; rw [z3.old _ (by omega)]; exact c3
    · show h8.get h3.nx = _; rw [z4.old _ (by omega)]; exact c4
    · show h8.get h4.nx = _; rw [z6.old _ (by omega)]; exact c6
    · exact c8
  have ldF := st.ldF
  change loadV h8 (.p h6.nx 0) one? = .ok (.fn (K.ofNat 79) (capsF ⟨h.nx, h1.nx, h2.nx, h3.nx, h4.nx, h6.nx⟩)) h8 at ldF
  have fl0 : ∀ fr : Fr, fillE fr (List.replicate 10 (.b false)) [] = some (List.replicate 10 (.b false)) := fun _ => rfl
  simp (disch := omega) only [f59_r5, x_build, x_ld, x_call, kx, rvP_ok, ev_t, evs_nil, evs_cons, getV_some, putD_some, oGet_s, getK_set, Nat.reduceEqDiff, ↓reduceIte, ldF, fl0]
  have hbk : V.agg (List.replicate 10 (.b false)) = bK (bitsA (setO [])) := rfl
  rw [hbk]
  refine (callP_c k.c79 rfl (f79_ret k kd hc hv hvl an Q.length [] [] .sn .sn h8 (by simp) st .nil ⟨fun x hx => (by cases hx), fun x hx => (by cases hx)⟩)).mono ?_
  rintro r h9 ⟨x, rfl, po⟩
  obtain ⟨M9, O9, o9, w9, t9, k9, f9, f9'⟩ := po.ex
  have ldO := t9.ldO
  change loadV h9 (.p h1.nx 0) one? = .ok o9 h9 at ldO
  cases x
  · obtain ⟨_, _, nf⟩ := f9' rfl
    simp (disch := omega) only [f59_r6, f59_rs, w_reg, w_seq, w_cond, w_ret, seqK_n, seqK_r, ckB_b, cbB_b, true_and, retK_r, x_nil, x_as, x_not, kx, rvP_ok, ev_t, ev_c, getV_some, putD_some, onB_b, oGet_s, readRs_nil, readRs_t, retV_2, Option.some.injEq, exists_eq_left', getK_set, Nat.reduceEqDiff, ↓reduceIte, Bool.not_false]
    exact ⟨_, _, rfl, t9.gr, fun h => (by cases h), fun _ => ⟨rfl, nf⟩⟩
  · obtain ⟨ho, hl⟩ := f9 rfl
    simp (disch := omega) only [f59_r7, f59_rs, w_skip, w_reg, w_seq, w_cond, w_ret, seqK_n, ckB_b, cbB_b, true_and, retK_r, x_nil, x_as, x_ld, x_not, kx, rvP_ok, ev_t, ev_c, getV_some, putD_some, onB_b, oGet_s, readRs_nil, readRs_t, retV_2, Option.some.injEq, exists_eq_left', getK_set, Nat.reduceEqDiff, ↓reduceIte, Bool.false_eq_true, Bool.not_true, ldO]
    exact ⟨_, _, rfl, t9.gr, fun _ => ⟨O9, t9.so, t9.oo.low (by omega), ho, hl⟩, fun h => (by cases h)⟩
/-- Shell, of what is a complex. -/
theorem f21_ret {h : H} {v : V} {Q : List Nat} {n : Int} (k : Calls79 fs) (hp75 : ∀ m : Nat, m < 64 → ∀ h P, CallP fs (.fn (K.ofNat 75) []) [.i .i64 (m : Int)] h P = P (.i .i64 (pop6 m : Int)) h) (h16 : fs.get (K.ofNat 16) = some f16) (h58 : fs.get (K.ofNat 58) = some f58) (h59 : fs.get (K.ofNat 59) = some f59)
    (hv : Sl iE h v (castL Q)) (hc : HC h) (an : Anti Q) (hchk : chkS n (castL Q) = 0) :
    Ret fs f21 [.i .i64 n, v] h fun r h' => ∃ x u, r = .tup [u, .b x, .i .i64 0] ∧ Grow h.nx.nat h h' ∧ (x = true → pureS (castL Q) = true ∧ ∃ O, Sl nE h' u O ∧ Own h.nx.nat u ∧ Ord Q O ∧ O.length = Q.length) ∧ (x = false → u = .sn ∧ (pureS (castL Q) = false ∨ ¬ Fin0 Q 0)) := by
  apply ret_of rfl
  show W fs none f21_c _ _ _
  unfold f21_c
  have hl := an.len
  have ne0 : decide ((0 : Int) ≠ 0) = false := rfl
  simp (disch := omega) only [f21_r0, f21_r1, w_reg, w_seq, seqK_n, x_nil, x_mv, x_as, x_call, ev_t, ev_c, evs_nil, evs_cons, getV_some, putD_some, frame_2, of0, getK_set, Nat.reduceEqDiff, ↓reduceIte]
  refine (callP_0 (ef := f16) h16 rfl (f16_ret (n := n) k.p54 hv)).mono ?_
  rintro r h1 ⟨rfl, rfl⟩
  rw [hchk]
  simp (disch := omega) only [f21_r2, f21_r4, w_skip, w_reg, w_seq, w_cond, seqK_n, ckB_b, cbB_b, true_and, x_nil, x_mv, x_as, x_bin, x_call, kx, rvP_ok, okv_some, ev_t, ev_c, evs_nil, evs_cons, getV_some, putD_some, bin_neq, of0, getK_set, Nat.reduceEqDiff, ↓reduceIte, Bool.false_eq_true, ne0]
  refine (callP_0 (ef := f58) h58 rfl (f58_ret hp75 hv (by simp [castL]; omega) (sets_map an.lt))).mono ?_
  rintro r h2 ⟨rfl, rfl⟩
  cases e : pureS (castL Q)
  · simp (disch := omega) only [f21_r5, f21_rs, w_reg, w_seq, w_cond, w_ret, seqK_n, seqK_r, ckB_b, cbB_b, true_and, retK_r, x_nil, x_as, x_not, kx, rvP_ok, ev_t, ev_c, getV_some, putD_some, onB_b, oGet_s, readRs_nil, readRs_t, retV_2, of0, Option.some.injEq, exists_eq_left', getK_set, Nat.reduceEqDiff, ↓reduceIte, Bool.false_eq_true, Bool.not_false]
    exact ⟨false, .sn, rfl, Grow.refl _ _, fun h => (by cases h), fun _ => ⟨rfl, .inl trivial⟩⟩
  · simp (disch := omega) only [f21_r6, w_skip, w_reg, w_seq, w_cond, seqK_n, ckB_b, cbB_b, true_and, x_nil, x_mv, x_not, x_call, kx, rvP_ok, ev_t, ev_c, evs_nil, evs_cons, getV_some, putD_some, onB_b, getK_set, Nat.reduceEqDiff, ↓reduceIte, Bool.false_eq_true, Bool.not_true]
    refine (callP_0 (ef := f59) h59 rfl (f59_ret k hc hv.unmap an)).mono ?_
    rintro r h3 ⟨x, u, rfl, fd⟩
    simp (disch := omega) only [f21_r7, f21_rs, w_reg, w_seq, w_ret, seqK_n, retK_r, x_nil, x_mv, x_as, x_ext, kx, rvP_ok, okv_some, ev_t, ev_c, getV_some, putD_some, onTup_t, oGet_s, nth0, nth1, readRs_nil, readRs_t, retV_2, of0, Option.some.injEq, exists_eq_left', getK_set, Nat.reduceEqDiff, ↓reduceIte]
    exact ⟨x, u, rfl, fd.gr, fd.yes, fun h => ⟨(fd.no h).1, by first | exact .inr (fd.no h).2 | exact (fd.no h).2⟩⟩
/-- Shell, of what is none. -/
theorem f21_err {h : H} {v : V} {S : List Int} {n : Int} (hp : ∀ a b h P, CallP fs (.fn (K.ofNat 54) []) [.i .i64 a, .i .i64 b] h P = P (.b (ptI a b)) h) (h16 : fs.get (K.ofNat 16) = some f16)
    (hv : Sl iE h v S) (hchk : chkS n S ≠ 0) :
    Ret fs f21 [.i .i64 n, v] h fun r h' => r = .tup [.sn, .b false, .i .i64 (chkS n S)] ∧ h' = h := by
  apply ret_of rfl
  show W fs none f21_c _ _ _
  unfold f21_c
  simp (disch := omega) only [f21_r0, f21_r1, w_reg, w_seq, seqK_n, x_nil, x_mv, x_as, x_call, ev_t, ev_c, evs_nil, evs_cons, getV_some, putD_some, frame_2, of0, getK_set, Nat.reduceEqDiff, ↓reduceIte]
  refine (callP_0 (ef := f16) h16 rfl (f16_ret (n := n) hp hv)).mono ?_
  rintro r h1 ⟨rfl, rfl⟩
  have ne0 : decide (chkS n S ≠ 0) = true := decide_eq_true hchk
  simp (disch := omega) only [f21_r2, f21_r3, f21_rs, w_reg, w_seq, w_cond, w_ret, seqK_n, seqK_r, ckB_b, cbB_b, retK_r, x_nil, x_mv, x_as, x_bin, kx, rvP_ok, okv_some, ev_t, ev_c, getV_some, putD_some, bin_neq, oGet_s, readRs_nil, readRs_t, retV_2, of0, Option.some.injEq, exists_eq_left', getK_set, Nat.reduceEqDiff, ↓reduceIte, ne0, and_self]
end
end Go.Ev
namespace Go.Ev
open Go Go.RowKit
structure Cpx (N : Int) (P : List Int) : Prop where
  chk : chkS N P = 0
  ne : P ≠ []
  ex : ∃ Q, P = castL Q ∧ Anti Q
theorem cast_toNat : ∀ {P : List Int}, (∀ x ∈ P, 0 ≤ x) → castL (P.map Int.toNat) = P
  | [], _ => rfl
  | x :: P, h => by
    have ih := cast_toNat (P := P) fun y hy => h y (List.mem_cons_of_mem _ hy)
    have hx := h x (by simp)
    unfold castL at ih ⊢
    rw [List.map_cons, List.map_cons, ih]
    congr 1
    show ((x.toNat : Nat) : Int) = x
    omega
theorem cpx_of {N : Int} {P : List Int} (h1 : 1 ≤ N) (h6 : N ≤ 6) (hne : P ≠ []) (hl : P.length ≤ 10) (hs : P.Pairwise (· < ·)) (hin : ∀ x ∈ P, 1 ≤ x ∧ x < 2 ^ N.toNat) (ha : ∀ x ∈ P, ∀ y ∈ P, y = x ∨ ptI x y = false) : Cpx N P := by
  refine ⟨chk_good h1 h6 hne hl hs hin ha, hne, P.map Int.toNat, (cast_toNat fun x hx => by have := (hin x hx).1; omega).symm, ?_⟩
  obtain ⟨hpw, hpe⟩ := pow_n h1 h6
  have hlt : ∀ y ∈ P.map Int.toNat, y < 64 := by
    intro y hy
    obtain ⟨x, hx, rfl⟩ := List.mem_map.1 hy
    have := hin x hx
    omega
  refine ⟨by simpa using hl, hlt, fun i j hi hj hne => ?_⟩
  have hi' : i < P.length := by simpa using hi
  have hj' : j < P.length := by simpa using hj
  have ei : (P.map Int.toNat).getD i 0 = P[i].toNat := by simp [List.getD, hi']
  have ej : (P.map Int.toNat).getD j 0 = P[j].toNat := by simp [List.getD, hj']
  have pi := hin _ (List.getElem_mem hi')
  have pj := hin _ (List.getElem_mem hj')
  have ci : ((P[i].toNat : Nat) : Int) = P[i] := by omega
  have cj : ((P[j].toNat : Nat) : Int) = P[j] := by omega
  rw [ei, ej]
  intro e
  rcases ha _ (List.getElem_mem hi') _ (List.getElem_mem hj') with h | h
  · rw [List.pairwise_iff_getElem] at hs
    rcases Nat.lt_or_gt_of_ne hne with h2 | h2
    · have := hs j i hj' hi' h2; omega
    · have := hs i j hi' hj' h2; omega
  · rw [← ci, ← cj, ptI_nat (by omega) (by omega), decide_eq_true e] at h
    cases h
end Go.Ev
namespace Go.Ev
open Go Go.RowKit
def sumL : List Nat → (Nat → Int) → Int
  | [], _ => 0
  | i :: l, g => g i + sumL l g
def binN : Nat → Nat → Nat
  | _, 0 => 1
  | 0, _ + 1 => 0
  | n + 1, k + 1 => binN n k + binN n (k + 1)
/-- The coefficient of the count i in the element k of the h-list, for d corners. -/
def hcf (d i k : Nat) : Int := if (k - i) % 2 = 0 then (binN (d - i) (k - i) : Int) else -(binN (d - i) (k - i) : Int)
def hln (d : Nat) (f : Nat → Int) (k : Nat) : Int := sumL (List.range (k + 1)) fun i => hcf d i k * f i
theorem fam_cast {B : List Nat} (hB : ∀ z ∈ B, z < 64) {k : Nat} (hk : k < 64) : famB (castL B) k = true ↔ ∃ y ∈ B, k &&& y = k := by
  rw [show castL B = B.map fun (k : Nat) => (k : Int) from rfl, fam_iff (sets_map hB) hk]
  constructor
  · rintro ⟨t, _, h1, h2⟩
    exact ⟨t, cast_mem h1, h2⟩
  · rintro ⟨y, h1, h2⟩
    exact ⟨y, hB y h1, List.mem_map.2 ⟨y, h1, rfl⟩, h2⟩
/-- The pieces of an order, and their new parts. -/
def pcsO (Q O : List Nat) : List Nat := O.map fun i => Q.getD i 0
noncomputable def newsO (Q O : List Nat) : List Nat := (List.range O.length).map fun i => newPS (Q.getD (O.getD i 0) 0) (castL (pcsO Q (O.take i)))
theorem newsO_len {Q O : List Nat} : (newsO Q O).length = O.length := by unfold newsO; simp
theorem pcsO_snoc {Q O : List Nat} {i : Nat} : pcsO Q (O ++ [i]) = pcsO Q O ++ [Q.getD i 0] := by unfold pcsO; simp
theorem castL_snoc {B : List Nat} {x : Nat} : castL (B ++ [x]) = castL B ++ [(x : Int)] := by unfold castL; simp
theorem getD_mem {Q : List Nat} {i : Nat} (h : i < Q.length) : Q.getD i 0 ∈ Q := by simp [List.getD, h]
end Go.Ev
namespace Go.Ev
open Go Go.RowKit
noncomputable def f81_r0 : List EOper := [⟨(some (K.ofNat 4)), none, .as (.c .sn)⟩, ⟨(some (K.ofNat 5)), none, .as (.c (.b false))⟩]
noncomputable def f81_r1 : List EOper := [⟨(some (K.ofNat 10)), none, .mv (.t (K.ofNat 1))⟩, ⟨(some (K.ofNat 11)), none, .len (.t (K.ofNat 10))⟩, ⟨(some (K.ofNat 12)), none, .mv (.t (K.ofNat 0))⟩, ⟨(some (K.ofNat 13)), none, .len (.t (K.ofNat 12))⟩, ⟨(some (K.ofNat 14)), none, .bin .neq (.t (K.ofNat 11)) (.t (K.ofNat 13))⟩]
noncomputable def f81_r2 : List EOper := [⟨(some (K.ofNat 4)), none, .as (.c .sn)⟩, ⟨(some (K.ofNat 5)), none, .as (.c (.b false))⟩]
noncomputable def f81_r3 : List EOper := [⟨(some (K.ofNat 6)), none, .alloc 10 (List.replicate 10 (.b false))⟩]
noncomputable def f81_r4 : List EOper := [⟨(some (K.ofNat 7)), none, .as (.c .sn)⟩]
noncomputable def f81_r5 : List EOper := [⟨(some (K.ofNat 15)), none, .mv (.t (K.ofNat 1))⟩, ⟨(some (K.ofNat 16)), none, .len (.t (K.ofNat 15))⟩, ⟨(some (K.ofNat 17)), none, .mv (.c (.i .i64 (.ofNat 0)))⟩]
noncomputable def f81_r6 : List EOper := [⟨(some (K.ofNat 18)), none, .bin .lss (.t (K.ofNat 17)) (.t (K.ofNat 16))⟩]
noncomputable def f81_r7 : List EOper := [⟨(some (K.ofNat 19)), none, .iads 1 (.t (K.ofNat 15)) (.t (K.ofNat 17))⟩, ⟨(some (K.ofNat 20)), none, .ld (.t (K.ofNat 19))⟩, ⟨(some (K.ofNat 9)), none, .as (.t (K.ofNat 20))⟩]
noncomputable def f81_r8 : List EOper := [⟨(some (K.ofNat 21)), none, .mv (.t (K.ofNat 9))⟩, ⟨(some (K.ofNat 22)), none, .bin .lss (.t (K.ofNat 21)) (.c (.i .i64 (.ofNat 0)))⟩, ⟨(some (K.ofNat 23)), none, .mv (.t (K.ofNat 22))⟩, ⟨(some (K.ofNat 24)), (some ((K.ofNat 23), false)), .mv (.t (K.ofNat 9))⟩, ⟨(some (K.ofNat 25)), (some ((K.ofNat 23), false)), .mv (.t (K.ofNat 0))⟩, ⟨(some (K.ofNat 26)), (some ((K.ofNat 23), false)), .len (.t (K.ofNat 25))⟩, ⟨(some (K.ofNat 27)), (some ((K.ofNat 23), false)), .bin .geq (.t (K.ofNat 24)) (.t (K.ofNat 26))⟩, ⟨(some (K.ofNat 28)), none, .pick (.t (K.ofNat 23)) (.c (.b true)) (.t (K.ofNat 27))⟩, ⟨(some (K.ofNat 29)), none, .mv (.t (K.ofNat 28))⟩, ⟨(some (K.ofNat 30)), (some ((K.ofNat 29), false)), .mv (.t (K.ofNat 9))⟩, ⟨(some (K.ofNat 31)), (some ((K.ofNat 29), false)), .iadr 10 1 (.t (K.ofNat 6)) (.t (K.ofNat 30))⟩, ⟨(some (K.ofNat 32)), (some ((K.ofNat 29), false)), .ld (.t (K.ofNat 31))⟩, ⟨(some (K.ofNat 33)), none, .pick (.t (K.ofNat 29)) (.c (.b true)) (.t (K.ofNat 32))⟩]
noncomputable def f81_r9 : List EOper := [⟨(some (K.ofNat 4)), none, .as (.c .sn)⟩, ⟨(some (K.ofNat 5)), none, .as (.c (.b false))⟩]
noncomputable def f81_r10 : List EOper := [⟨(some (K.ofNat 34)), none, .mv (.t (K.ofNat 9))⟩, ⟨(some (K.ofNat 35)), none, .iadr 10 1 (.t (K.ofNat 6)) (.t (K.ofNat 34))⟩, ⟨none, none, .st 1 (.t (K.ofNat 35)) (.c (.b true))⟩]
noncomputable def f81_r11 : List EOper := [⟨(some (K.ofNat 36)), none, .mv (.t (K.ofNat 7))⟩, ⟨(some (K.ofNat 37)), none, .mv (.t (K.ofNat 0))⟩, ⟨(some (K.ofNat 38)), none, .mv (.t (K.ofNat 9))⟩, ⟨(some (K.ofNat 39)), none, .iads 1 (.t (K.ofNat 37)) (.t (K.ofNat 38))⟩, ⟨(some (K.ofNat 40)), none, .ld (.t (K.ofNat 39))⟩, ⟨(some (K.ofNat 41)), none, .bslice 1 1 [(.i .i64 (.ofNat 0))] [(0, 1, (.t (K.ofNat 40)))]⟩, ⟨(some (K.ofNat 42)), none, .app 1 (.t (K.ofNat 36)) (.t (K.ofNat 41))⟩, ⟨(some (K.ofNat 7)), none, .as (.t (K.ofNat 42))⟩]
noncomputable def f81_r12 : List EOper := [⟨(some (K.ofNat 43)), none, .bin .add (.t (K.ofNat 17)) (.c (.i .i64 (.ofNat 1)))⟩, ⟨(some (K.ofNat 17)), none, .mv (.t (K.ofNat 43))⟩]
noncomputable def f81_l0 : EC := (.seq (.reg f81_r6) (.seq (.cond (.t (K.ofNat 18)) .skip (.exit 0)) (.seq (.block 1 (.seq (.reg f81_r7) (.seq (.seq (.reg f81_r8) (.cond (.t (K.ofNat 33)) (.seq (.reg f81_r9) .ret) .skip)) (.seq (.reg f81_r10) (.reg f81_r11))))) (.reg f81_r12))))
noncomputable def f81_r13 : List EOper := [⟨(some (K.ofNat 44)), none, .mv (.t (K.ofNat 7))⟩, ⟨(some (K.ofNat 4)), none, .as (.t (K.ofNat 44))⟩, ⟨(some (K.ofNat 5)), none, .as (.c (.b true))⟩]
noncomputable def f81_c : EC := (.seq (.reg f81_r0) (.seq (.seq (.reg f81_r1) (.cond (.t (K.ofNat 14)) (.seq (.reg f81_r2) .ret) .skip)) (.seq (.reg f81_r3) (.seq (.reg f81_r4) (.seq (.seq (.reg f81_r5) (.block 0 (.loop f81_l0))) (.seq (.reg f81_r13) .ret))))))
noncomputable def f81 : EF := ⟨45, [.tmp (K.ofNat 4), .tmp (K.ofNat 5)], f81_c, none⟩
theorem f81_rs : f81.rs = [.tmp (K.ofNat 4), .tmp (K.ofNat 5)] := of_eq_true (eq_self _)
noncomputable def f60_r0 : List EOper := [⟨(some (K.ofNat 4)), none, .as (.c .sn)⟩, ⟨(some (K.ofNat 5)), none, .as (.c (.b false))⟩]
noncomputable def f60_r1 : List EOper := [⟨(some (K.ofNat 11)), none, .mv (.t (K.ofNat 0))⟩, ⟨(some (K.ofNat 12)), none, .mv (.t (K.ofNat 1))⟩, ⟨(some (K.ofNat 13)), none, .call (.c (.fn (K.ofNat 81) [])) [(.t (K.ofNat 11)), (.t (K.ofNat 12))]⟩, ⟨(some (K.ofNat 10)), none, .mv (.t (K.ofNat 13))⟩, ⟨(some (K.ofNat 14)), none, .ext (.t (K.ofNat 10)) 0⟩, ⟨(some (K.ofNat 15)), none, .ext (.t (K.ofNat 10)) 1⟩, ⟨(some (K.ofNat 6)), none, .as (.t (K.ofNat 14))⟩, ⟨(some (K.ofNat 7)), none, .as (.t (K.ofNat 15))⟩]
noncomputable def f60_r2 : List EOper := [⟨(some (K.ofNat 16)), none, .mv (.t (K.ofNat 7))⟩, ⟨(some (K.ofNat 17)), none, .not (.t (K.ofNat 16))⟩, ⟨(some (K.ofNat 18)), none, .mv (.t (K.ofNat 17))⟩, ⟨(some (K.ofNat 19)), (some ((K.ofNat 18), false)), .mv (.t (K.ofNat 0))⟩, ⟨(some (K.ofNat 20)), (some ((K.ofNat 18), false)), .call (.c (.fn (K.ofNat 58) [])) [(.t (K.ofNat 19))]⟩, ⟨(some (K.ofNat 21)), (some ((K.ofNat 18), false)), .not (.t (K.ofNat 20))⟩, ⟨(some (K.ofNat 22)), none, .pick (.t (K.ofNat 18)) (.c (.b true)) (.t (K.ofNat 21))⟩]
noncomputable def f60_r3 : List EOper := [⟨(some (K.ofNat 4)), none, .as (.c .sn)⟩, ⟨(some (K.ofNat 5)), none, .as (.c (.b false))⟩]
noncomputable def f60_r4 : List EOper := [⟨(some (K.ofNat 23)), none, .mv (.t (K.ofNat 6))⟩, ⟨(some (K.ofNat 24)), none, .len (.t (K.ofNat 23))⟩, ⟨(some (K.ofNat 25)), none, .mv (.c (.i .i64 (.ofNat 0)))⟩]
noncomputable def f60_r5 : List EOper := [⟨(some (K.ofNat 26)), none, .bin .lss (.t (K.ofNat 25)) (.t (K.ofNat 24))⟩]
noncomputable def f60_r6 : List EOper := [⟨(some (K.ofNat 27)), none, .mv (.t (K.ofNat 25))⟩, ⟨(some (K.ofNat 28)), none, .iads 1 (.t (K.ofNat 23)) (.t (K.ofNat 25))⟩, ⟨(some (K.ofNat 29)), none, .ld (.t (K.ofNat 28))⟩, ⟨(some (K.ofNat 8)), none, .as (.t (K.ofNat 27))⟩, ⟨(some (K.ofNat 9)), none, .as (.t (K.ofNat 29))⟩]
noncomputable def f60_r7 : List EOper := [⟨(some (K.ofNat 30)), none, .mv (.t (K.ofNat 9))⟩, ⟨(some (K.ofNat 31)), none, .mv (.t (K.ofNat 6))⟩, ⟨(some (K.ofNat 32)), none, .mv (.t (K.ofNat 8))⟩, ⟨(some (K.ofNat 33)), none, .slice 1 (.t (K.ofNat 31)) none (some (.t (K.ofNat 32))) none⟩, ⟨(some (K.ofNat 34)), none, .call (.c (.fn (K.ofNat 80) [])) [(.t (K.ofNat 30)), (.t (K.ofNat 33))]⟩, ⟨(some (K.ofNat 35)), none, .not (.t (K.ofNat 34))⟩]
noncomputable def f60_r8 : List EOper := [⟨(some (K.ofNat 4)), none, .as (.c .sn)⟩, ⟨(some (K.ofNat 5)), none, .as (.c (.b false))⟩]
noncomputable def f60_r9 : List EOper := [⟨(some (K.ofNat 36)), none, .bin .add (.t (K.ofNat 25)) (.c (.i .i64 (.ofNat 1)))⟩, ⟨(some (K.ofNat 25)), none, .mv (.t (K.ofNat 36))⟩]
noncomputable def f60_l0 : EC := (.seq (.reg f60_r5) (.seq (.cond (.t (K.ofNat 26)) .skip (.exit 0)) (.seq (.block 1 (.seq (.reg f60_r6) (.seq (.reg f60_r7) (.cond (.t (K.ofNat 35)) (.seq (.reg f60_r8) .ret) .skip)))) (.reg f60_r9))))
noncomputable def f60_r10 : List EOper := [⟨(some (K.ofNat 37)), none, .mv (.t (K.ofNat 6))⟩, ⟨(some (K.ofNat 4)), none, .as (.t (K.ofNat 37))⟩, ⟨(some (K.ofNat 5)), none, .as (.c (.b true))⟩]
noncomputable def f60_c : EC := (.seq (.reg f60_r0) (.seq (.reg f60_r1) (.seq (.seq (.reg f60_r2) (.cond (.t (K.ofNat 22)) (.seq (.reg f60_r3) .ret) .skip)) (.seq (.seq (.reg f60_r4) (.block 0 (.loop f60_l0))) (.seq (.reg f60_r10) .ret)))))
noncomputable def f60 : EF := ⟨38, [.tmp (K.ofNat 4), .tmp (K.ofNat 5)], f60_c, none⟩
theorem f60_rs : f60.rs = [.tmp (K.ofNat 4), .tmp (K.ofNat 5)] := of_eq_true (eq_self _)
section
variable {fs : T EF} {ro : Option K}
/-- The list names each piece once. -/
structure ArrP (Q : List Nat) (S : List Int) (O : List Nat) : Prop where
  eq : S = castL O
  nd : O.Nodup
  lt : ∀ j ∈ O, j < Q.length
  len : O.length = Q.length
theorem pcsO_len {Q O : List Nat} : (pcsO Q O).length = O.length := by simp [pcsO]
theorem castL_len' {O : List Nat} : (castL O).length = O.length := by simp [castL]
theorem castL_inj {A B : List Nat} (h : castL A = castL B) : A = B := by
  unfold castL at h
  exact List.map_inj_right (fun a b => by omega) |>.1 h
theorem castL_take {A : List Nat} {i : Nat} : (castL A).take i = castL (A.take i) := by unfold castL; rw [List.map_take]
theorem castL_at {A : List Nat} {i : Nat} (h : i < (castL A).length) : (castL A)[i] = (A[i]'(by rw [castL_len'] at h; exact h) : Int) := by simp [castL]
def f81_I (h : H) (v w : V) (Q : List Nat) (S : List Int) (id : K) (i : Nat) (fr : Fr) (h1 : H) : Prop := ∃ O o, i ≤ S.length ∧ S.take i = castL O ∧ O.Nodup ∧ (∀ j ∈ O, j < Q.length) ∧ Sl nE h1 o (pcsO Q O) ∧ Own (id.nat + 1) o ∧ Ar V.b h1 id (bitsA (setO O)) ∧ id.nat < h1.nx.nat ∧ Grow h.nx.nat h h1 ∧ fr.get (K.ofNat 0) = some (v) ∧ fr.get (K.ofNat 1) = some (w) ∧ fr.get (K.ofNat 6) = some (.p id 0) ∧ fr.get (K.ofNat 7) = some (o) ∧ fr.get (K.ofNat 15) = some (w) ∧ fr.get (K.ofNat 16) = some (.i .i64 (S.length : Int)) ∧ fr.get (K.ofNat 17) = some (.i .i64 (i : Int))
theorem f81_ret {h : H} {v w : V} {Q : List Nat} {S : List Int} (hv : Sl nE h v Q) (hw : Sl iE h w S) (hc : HC h) (hQ : Q.length ≤ 10) :
    Ret fs f81 [v, w] h fun r h' => ∃ x u, r = .tup [u, .b x] ∧ Grow h.nx.nat h h' ∧ (x = true → ∃ O, ArrP Q S O ∧ Sl nE h' u (pcsO Q O) ∧ Own h.nx.nat u) ∧ (x = false → u = .sn ∧ ∀ O, ¬ ArrP Q S O) := by
  apply ret_of rfl
  show W fs none f81_c _ _ _
  unfold f81_c
  by_cases hl : S.length = Q.length
  · have hl' : (S.length : Int) = (Q.length : Int) := by omega
    simp (disch := omega) only [f81_r0, f81_r1, w_skip, w_reg, w_seq, w_cond, seqK_n, ckB_b, cbB_b, true_and, x_nil, x_mv, x_as, x_bin, x_len, kx, rvP_ok, okv_some, ev_t, ev_c, getV_some, putD_some, bin_neq, frame_2, getK_set, Nat.reduceEqDiff, ↓reduceIte, Bool.false_eq_true, hv.len, hw.len, hl', ne_eq, not_true_eq_false, decide_false]
    have n1 := nx_new h (.cells 10 (List.replicate 10 (.b false)))
    have gn : Grow h.nx.nat h (h.new (.cells 10 (List.replicate 10 (.b false)))) := Grow.new (Nat.le_refl _) _
    have hA : Ar V.b (h.new (.cells 10 (List.replicate 10 (.b false)))) h.nx (bitsA (setO [])) := by unfold Ar; rw [get_new_same]; rfl
    simp (disch := omega) only [f81_r3, f81_r4, f81_r5, w_reg, w_seq, w_block, seqK_n, x_nil, x_mv, x_as, x_alloc, x_len, kx, rvP_ok, ev_t, ev_c, getV_some, putD_some, of0, getK_set, Nat.reduceEqDiff, ↓reduceIte, hw.len]
    generalize h.new (.cells 10 (List.replicate 10 (.b false))) = h0 at *
    refine W_loop (f81_I h v w Q S h.nx) (fun i => S.length - i) ?_ 0 ⟨[], .sn, Nat.zero_le _, by simp [castL], List.nodup_nil, (fun _ h => by cases h), Sl.nil, Own.sn, hA, by omega, gn, by simp (disch := omega) only [getK_set, Nat.reduceEqDiff, ↓reduceIte, and_self, Int.natCast_zero, hl']⟩
    clear gn hA n1 h0
    rintro i fr h1 ⟨O, o, hi, htk, hnd, hlt0, hso, hoo, hA, hidn, hgr, g0, g1, g6, g7, g15, g16, g17⟩
    have hc1 := hgr.hc hc
    have hv1 := hv.grow hc hgr
    have hw1 := hw.grow hc hgr
    have hOl : O.length = i := by
      have := congrArg List.length htk
      rw [castL_len', List.length_take] at this; omega
    unfold f81_l0
    by_cases hlt : i < S.length
    · have hlt' : (i : Int) < (S.length : Int) := by omega
      obtain ⟨p, hp1, hp2⟩ := hw1.at i hlt
      have nope : (∀ k : Nat, S[i] = (k : Int) → k < Q.length → k ∈ O) → ∀ O', ¬ ArrP Q S O' := by
        rintro hk O' ⟨e1, e2, e3, e4⟩
        subst e1
        have hi' : i < O'.length := by rw [castL_len'] at hlt; exact hlt
        have he := castL_at hlt
        have hm := hk _ he (e3 _ (List.getElem_mem hi'))
        rw [castL_take] at htk
        rw [← castL_inj htk] at hm
        obtain ⟨j, hj, hje⟩ := List.mem_iff_getElem.1 hm
        rw [List.length_take] at hj
        rw [List.getElem_take] at hje
        exact (List.pairwise_iff_getElem.1 e2) j i (by omega) hi' (by omega) hje
      by_cases b1 : S[i] < 0
      · simp (disch := omega) only [f81_r6, f81_r7, f81_r8, f81_r9, f81_rs, w_skip, w_reg, w_seq, w_cond, w_block, w_ret, seqK_n, seqK_r, atK_r, loopK_r, ckB_b, cbB_b, okG_b, asG_f, true_and, retK_r, x_nil, x_g, x_mv, x_as, x_pick, x_ld, x_bin, x_iads, kx, rvP_ok, okv_some, ev_t, ev_c, getV_some, putD_some, bin_lss, pick_b, oGet_s, readRs_nil, readRs_t, retV_2, of0, Option.some.injEq, exists_eq_left', getK_set, Nat.reduceEqDiff, ↓reduceIte, Bool.false_eq_true, Bool.not_true, g15, g16, g17, hlt', decide_true, hp1, hp2, iE, b1]
        exact ⟨false, .sn, rfl, hgr, fun h => (by cases h), fun _ => ⟨rfl, nope fun k hk _ => by omega⟩⟩
      · by_cases b2 : (Q.length : Int) ≤ S[i]
        · simp (disch := omega) only [f81_r6, f81_r7, f81_r8, f81_r9, f81_rs, w_skip, w_reg, w_seq, w_cond, w_block, w_ret, seqK_n, seqK_r, atK_r, loopK_r, ckB_b, cbB_b, okG_b, asG_f, true_and, retK_r, x_nil, x_g, x_mv, x_as, x_pick, x_ld, x_bin, x_iads, x_len, kx, rvP_ok, okv_some, ev_t, ev_c, getV_some, putD_some, bin_lss, bin_geq, pick_b, oGet_s, readRs_nil, readRs_t, retV_2, of0, Option.some.injEq, exists_eq_left', getK_set, Nat.reduceEqDiff, ↓reduceIte, Bool.false_eq_true, Bool.not_true, Bool.not_false, g0, g15, g16, g17, hlt', decide_true, decide_false, hp1, hp2, iE, b1, b2, hv1.len]
          exact ⟨false, .sn, rfl, hgr, fun h => (by cases h), fun _ => ⟨rfl, nope fun k hk _ => by omega⟩⟩
        · obtain ⟨k, hk⟩ := Int.eq_ofNat_of_zero_le (show 0 ≤ S[i] by omega)
          rw [hk] at b1 b2 hp2
          have hkl : k < Q.length := by omega
          have hkb : k < (bitsA (setO O)).length := by rw [bitsA_len]; omega
          have hub : (bitsA (setO O))[k] = (setO O).testBit k := arr_at hkb
          have ldu : loadV h1 (.p h.nx (0 + k * 1)) one? = .ok (.b ((setO O).testBit k)) h1 := by rw [hA.ld hkb, hub]
          have k10 : k < 10 := by omega
          by_cases b3 : k ∈ O
          · rw [setO_bit, decide_eq_true b3] at ldu
            simp (disch := omega) only [f81_r6, f81_r7, f81_r8, f81_r9, f81_rs, w_skip, w_reg, w_seq, w_cond, w_block, w_ret, seqK_n, seqK_r, atK_r, loopK_r, ckB_b, cbB_b, okG_b, asG_f, true_and, retK_r, x_nil, x_g, x_mv, x_as, x_pick, x_ld, x_bin, x_iadr, x_iads, x_len, kx, rvP_ok, okv_some, ev_t, ev_c, getV_some, putD_some, bin_lss, bin_geq, pick_b, onP_p, oGet_s, idx_n, readRs_nil, readRs_t, retV_2, of0, Option.some.injEq, exists_eq_left', getK_set, Nat.reduceEqDiff, ↓reduceIte, Bool.false_eq_true, Bool.not_false, g0, g6, g15, g16, g17, hlt', decide_true, decide_false, hp1, hp2, iE, b1, b2, hv1.len, ldu]
            exact ⟨false, .sn, rfl, hgr, fun h => (by cases h), fun _ => ⟨rfl, nope fun k' hk' _ => (show k' = k by omega) ▸ b3⟩⟩
          · rw [setO_bit, decide_eq_false b3] at ldu
            obtain ⟨st8, hA8⟩ := hA.st (i := k) (x := true) (c := .b true) hkb rfl rfl
            have gw8 : Grow h.nx.nat h1 (h1.put h.nx (.cells (bitsA (setO O)).length (((bitsA (setO O)).set k true).map V.b))) := Grow.put (Nat.le_refl _) hidn _
            have gr8 := hgr.trans gw8
            have hc8 := gr8.hc hc
            have hv8 := hv.grow hc gr8
            have hso8 := hso.put (hoo.notIn (id := h.nx) (by omega)) (.cells (bitsA (setO O)).length (((bitsA (setO O)).set k true).map V.b))
            obtain ⟨q, hq1, hq2⟩ := hv8.at k hkl
            have nx8 : (h1.put h.nx (.cells (bitsA (setO O)).length (((bitsA (setO O)).set k true).map V.b))).nx = h1.nx := rfl
            rw [bitsA_set] at hA8
            obtain ⟨v', h', q1, q2, q3, q4, q5⟩ := Sl.push (e := nE) (L := pcsO Q O) (x := Q[k]) (c := .i .i64 (Q[k] : Int)) rfl hso8 hoo (by rw [nx8]; omega) hc8 (by rw [pcsO_len]; omega)
            have hge : Q.getD k 0 = Q[k] := by simp [List.getD, hkl]
            simp (disch := omega) only [f81_r6, f81_r7, f81_r8, f81_r10, w_skip, w_reg, w_seq, w_cond, w_block, seqK_n, ckB_b, cbB_b, okG_b, asG_f, true_and, x_nil, x_g, x_mv, x_as, x_pick, x_ld, x_st, x_bin, x_iadr, x_iads, x_len, kx, rvP_ok, okv_some, ev_t, ev_c, getV_some, putD_some, putD_none, bin_lss, bin_geq, pick_b, onP_p, idx_n, of0, getK_set, Nat.reduceEqDiff, ↓reduceIte, Bool.false_eq_true, Bool.not_false, g0, g6, g15, g16, g17, hlt', decide_true, decide_false, hp1, hp2, iE, b1, b2, hv1.len, ldu, st8]
            simp (disch := omega) only [f81_r11, f81_r12, w_reg, seqK_n, atK_n, loopK_n, x_nil, x_mv, x_as, x_bslice, x_ld, x_bin, x_iads, x_app, kx, rvP_ok, okv_some, ev_t, ev_c, getV_some, putD_some, bin_add, oGet_s, cells1_i, fill_1, set_1, of0, of1, getK_set, Nat.reduceEqDiff, ↓reduceIte, g0, g7, g17, hq1, hq2, nE, q1, fw64]
            obtain ⟨r1, r2⟩ := q5 h.nx (by rw [nx8]; exact hidn) (hoo.notIn (by omega))
            refine ⟨i + 1, by omega, O ++ [k], v', hlt, ?_, ?_, ?_, ?_, q3, hA8.same (by rw [bitsA_set] at r1; exact r1), ?_, gr8.trans (q4.low (by omega)), by simp (disch := omega) only [getK_set, Nat.reduceEqDiff, ↓reduceIte, g0, g1, g6, g15, g16, and_self, Int.natCast_add, Int.natCast_one]⟩
            · rw [List.take_succ_eq_append_getElem hlt, htk, hk]; simp [castL]
            · rw [List.nodup_append]
              exact ⟨hnd, by simp, fun a ha b hb e => by rw [List.mem_singleton.1 hb] at e; exact b3 (e ▸ ha)⟩
            · intro j hj
              rcases List.mem_append.1 hj with h2 | h2
              · exact hlt0 j h2
              · rw [List.mem_singleton.1 h2]; exact hkl
            · rw [pcsO_snoc, hge]; exact q2
            · have := q4.nx; rw [nx8] at this; omega
    · obtain rfl : i = S.length := by omega
      rw [List.take_length] at htk
      simp (disch := omega) only [f81_r6, f81_r13, f81_rs, w_reg, w_seq, w_cond, w_exit, w_ret, seqK_n, seqK_e, atK_e, loopK_e, ckB_b, cbB_b, true_and, retK_r, x_nil, x_mv, x_as, x_bin, kx, rvP_ok, okv_some, ev_t, ev_c, getV_some, putD_some, bin_lss, oGet_s, readRs_nil, readRs_t, retV_2, Option.some.injEq, exists_eq_left', getK_set, Nat.reduceEqDiff, ↓reduceIte, Bool.false_eq_true, g7, g16, g17, Int.lt_irrefl, decide_false]
      exact ⟨true, o, rfl, hgr, fun _ => ⟨O, ⟨htk, hnd, hlt0, by omega⟩, hso, hoo.low (by omega)⟩, fun h => (by cases h)⟩
  · have hl' : ¬ (S.length : Int) = (Q.length : Int) := by omega
    simp (disch := omega) only [f81_r0, f81_r1, f81_r2, f81_rs, w_reg, w_seq, w_cond, w_ret, seqK_n, seqK_r, ckB_b, cbB_b, true_and, retK_r, x_nil, x_mv, x_as, x_bin, x_len, kx, rvP_ok, okv_some, ev_t, ev_c, getV_some, putD_some, bin_neq, oGet_s, readRs_nil, readRs_t, retV_2, frame_2, Option.some.injEq, exists_eq_left', getK_set, Nat.reduceEqDiff, ↓reduceIte, hv.len, hw.len, hl', ne_eq, not_false_eq_true, decide_true]
    exact ⟨false, .sn, rfl, Grow.refl _ _, fun h => (by cases h), fun _ => ⟨rfl, fun O ha => hl (by rw [ha.eq, castL_len', ha.len])⟩⟩
/-- The list is a shelling. -/
structure ShP (Q : List Nat) (S : List Int) (O : List Nat) : Prop where
  eq : S = castL O
  ord : Ord Q O
  len : O.length = Q.length
  pure : pureS (castL Q) = true
theorem Ord.at {Q O : List Nat} (h : Ord Q O) : ∀ i (hi : i < O.length), okN Q (setO (O.take i)) O[i] := by
  induction h with
  | nil => intro i hi; cases hi
  | snoc h hk ih =>
    rename_i O k
    intro i hi
    by_cases e : i < O.length
    · have := ih i e
      rw [List.take_append_of_le_length (by omega), List.getElem_append_left e]; exact this
    · have e2 : i = O.length := by rw [List.length_append, List.length_singleton] at hi; omega
      subst e2
      rw [List.take_left, List.getElem_append_right (Nat.le_refl _)]
      simpa using hk
theorem pcsO_take {Q O : List Nat} {i : Nat} : (pcsO Q O).take i = pcsO Q (O.take i) := by unfold pcsO; rw [List.map_take]
theorem pcsO_at {Q O : List Nat} {i : Nat} (h : i < (pcsO Q O).length) : (pcsO Q O)[i] = Q.getD (O[i]'(by rw [pcsO_len] at h; exact h)) 0 := by simp [pcsO]
/-- Whether the next piece fits says whether the next place of the order may come next. -/
theorem fits_at {Q O : List Nat} {i : Nat} (an : Anti Q) (nd : O.Nodup) (lt : ∀ j ∈ O, j < Q.length) (hi : i < O.length) : fitS (Q.getD O[i] 0) (castL (pcsO Q (O.take i))) = nextR Q (setO (O.take i)) O[i] ∧ O[i] ∉ O.take i := by
  have hn : O[i] ∉ O.take i := by
    intro hm
    obtain ⟨j, hj, hje⟩ := List.mem_iff_getElem.1 hm
    rw [List.length_take] at hj
    rw [List.getElem_take] at hje
    exact (List.pairwise_iff_getElem.1 nd) j i (by omega) hi (by omega) hje
  have hl := lt _ (List.getElem_mem hi)
  refine ⟨fits_next (m := setO (O.take i)) hl an.lt (fun j hj hne => an.no _ j hl hj hne) (setO_not.2 hn) fun z => ?_, hn⟩
  unfold pcsO
  rw [List.mem_map]
  constructor
  · rintro ⟨j, hj, rfl⟩; exact ⟨j, lt j (List.mem_of_mem_take hj), setO_mem.2 hj, rfl⟩
  · rintro ⟨j, _, hj, rfl⟩; exact ⟨j, setO_mem.1 hj, rfl⟩
def f60_I (b : Nat) (h : H) (u : V) (Q O : List Nat) (i : Nat) (fr : Fr) (h1 : H) : Prop := i ≤ O.length ∧ Ord Q (O.take i) ∧ Sl nE h1 u (pcsO Q O) ∧ HC h1 ∧ Grow b h h1 ∧ fr.get (K.ofNat 6) = some (u) ∧ fr.get (K.ofNat 23) = some (u) ∧ fr.get (K.ofNat 24) = some (.i .i64 (O.length : Int)) ∧ fr.get (K.ofNat 25) = some (.i .i64 (i : Int))
theorem f60_ret {h : H} {v w : V} {Q : List Nat} {S : List Int} (k : Calls79 fs) (hp75 : ∀ m : Nat, m < 64 → ∀ h P, CallP fs (.fn (K.ofNat 75) []) [.i .i64 (m : Int)] h P = P (.i .i64 (pop6 m : Int)) h) (h58 : fs.get (K.ofNat 58) = some f58) (h81 : fs.get (K.ofNat 81) = some f81)
    (hv : Sl iE h v (castL Q)) (hw : Sl iE h w S) (hc : HC h) (an : Anti Q) :
    Ret fs f60 [v, w] h fun r h' => ∃ x u, r = .tup [u, .b x] ∧ Grow h.nx.nat h h' ∧ (x = true → ∃ O, ShP Q S O ∧ Sl nE h' u (pcsO Q O) ∧ Own h.nx.nat u) ∧ (x = false → u = .sn ∧ ∀ O, ¬ ShP Q S O) := by
  apply ret_of rfl
  show W fs none f60_c _ _ _
  unfold f60_c
  simp (disch := omega) only [f60_r0, f60_r1, w_reg, w_seq, seqK_n, x_nil, x_mv, x_as, x_call, ev_t, ev_c, evs_nil, evs_cons, getV_some, putD_some, frame_2, getK_set, Nat.reduceEqDiff, ↓reduceIte]
  refine (callP_0 (ef := f81) h81 rfl (f81_ret (Q := Q) hv.unmap hw hc an.len)).mono ?_
  rintro r h1 ⟨x, u, rfl, gr1, yes, no⟩
  have hc1 := gr1.hc hc
  cases x
  · obtain ⟨rfl, hno⟩ := no rfl
    simp (disch := omega) only [f60_r2, f60_r3, f60_rs, w_reg, w_seq, w_cond, w_ret, seqK_n, seqK_r, ckB_b, cbB_b, okG_b, asG_f, true_and, retK_r, x_nil, x_g, x_mv, x_as, x_pick, x_not, x_ext, kx, rvP_ok, okv_some, ev_t, ev_c, getV_some, putD_some, pick_b, onB_b, onTup_t, oGet_s, nth0, nth1, readRs_nil, readRs_t, retV_2, Option.some.injEq, exists_eq_left', getK_set, Nat.reduceEqDiff, ↓reduceIte, Bool.false_eq_true, Bool.not_true, Bool.not_false]
    exact ⟨false, .sn, rfl, gr1, fun h => (by cases h), fun _ => ⟨rfl, fun O hs => hno O ⟨hs.eq, hs.ord.nodup, hs.ord.lt, hs.len⟩⟩⟩
  · obtain ⟨O, ha, hso, hoo⟩ := yes rfl
    have hal := an.len
    have hOl := ha.len
    have nsh : ∀ i (hi : i < O.length), nextR Q (setO (O.take i)) O[i] = false → ∀ O', ¬ ShP Q S O' := by
      rintro i hi e O' ⟨e1, e2, e3, e4⟩
      have : O = O' := castL_inj (ha.eq ▸ e1)
      subst this
      have := (e2.at i hi).2.2
      rw [e] at this; cases this
    simp (disch := omega) only [f60_r2, w_reg, w_seq, seqK_n, okG_b, asG_f, true_and, x_nil, x_g, x_mv, x_as, x_not, x_ext, x_call, kx, rvP_ok, okv_some, ev_t, ev_c, evs_nil, evs_cons, getV_some, putD_some, onB_b, onTup_t, nth0, nth1, getK_set, Nat.reduceEqDiff, ↓reduceIte, Bool.not_true, Bool.not_false]
    refine (callP_0 (ef := f58) h58 rfl (f58_ret hp75 (hv.grow hc gr1) (by simp [castL]; omega) (sets_map an.lt))).mono ?_
    rintro r h2 ⟨rfl, rfl⟩
    cases e : pureS (castL Q)
    · simp (disch := omega) only [f60_r3, f60_rs, w_reg, w_seq, w_cond, w_ret, seqK_n, seqK_r, ckB_b, cbB_b, okG_b, asG_f, true_and, retK_r, x_nil, x_g, x_as, x_pick, x_not, kx, rvP_ok, ev_t, ev_c, getV_some, putD_some, pick_b, onB_b, oGet_s, readRs_nil, readRs_t, retV_2, Option.some.injEq, exists_eq_left', getK_set, Nat.reduceEqDiff, ↓reduceIte, Bool.false_eq_true, Bool.not_false]
      exact ⟨false, .sn, rfl, gr1, fun h => (by cases h), fun _ => ⟨rfl, fun O hs => by have := hs.pure; rw [e] at this; cases this⟩⟩
    · have hpl := pcsO_len (Q := Q) (O := O)
      simp (disch := omega) only [f60_r4, w_skip, w_reg, w_seq, w_cond, w_block, seqK_n, ckB_b, cbB_b, okG_b, asG_f, true_and, x_nil, x_g, x_mv, x_pick, x_not, x_len, kx, rvP_ok, ev_t, ev_c, getV_some, putD_some, pick_b, onB_b, of0, getK_set, Nat.reduceEqDiff, ↓reduceIte, Bool.false_eq_true, Bool.not_true, Bool.not_false, hso.len, hpl]
      refine W_loop (f60_I h.nx.nat h u Q O) (fun i => O.length - i) ?_ 0 ⟨Nat.zero_le _, by rw [List.take_zero]; exact .nil, hso, hc1, gr1, by simp (disch := omega) only [getK_set, Nat.reduceEqDiff, ↓reduceIte, and_self, Int.natCast_zero]⟩
      clear hc1 gr1 hso
      rintro i fr h3 ⟨hi, ho, hso, hc3, gr3, g6, g23, g24, g25⟩
      unfold f60_l0
      by_cases hlt : i < O.length
      · have hlt' : (i : Int) < (O.length : Int) := by omega
        obtain ⟨p, hp1, hp2⟩ := hso.at i (by rw [hpl]; exact hlt)
        rw [pcsO_at] at hp2
        obtain ⟨x, x1, x2, x3, x4⟩ := Sl.cut (lo := none) (hi := some (.i .i64 (i : Int))) (l := 0) (u := i) hso bnd_none bnd_i (by omega) (by rw [hpl]; omega)
        rw [List.drop_zero, pcsO_take] at x2
        obtain ⟨hf, hn⟩ := fits_at an ha.nd ha.lt hlt
        have hgl := ha.lt _ (List.getElem_mem hlt)
        have hx := an.lt _ (getD_mem hgl)
        obtain ⟨ef, pt1, pt2⟩ := k.pt
        simp (disch := omega) only [f60_r5, f60_r6, f60_r7, w_skip, w_reg, w_seq, w_cond, w_block, seqK_n, ckB_b, cbB_b, true_and, x_nil, x_mv, x_as, x_ld, x_bin, x_slice, sliceV_eq, Option.map_none, Option.map_some, x_iads, x_call, kx, rvP_ok, okv_some, ev_t, ev_c, evs_nil, evs_cons, getV_some, putD_some, bin_lss, getK_set, Nat.reduceEqDiff, ↓reduceIte, g6, g23, g24, g25, hlt', decide_true, hp1, hp2, nE, x1]
        refine (callP_0 (ef := f80) k.c80 rfl (f80_ret (x := Q.getD O[i] 0) k.p54 k.c82 k.c92 pt1 pt2 k.c83 k.c61 (Sl.map (f := fun (k : Nat) => (k : Int)) x2) hc3 (by simp [pcsO]; omega) hx)).mono ?_
        rintro u1 h4 ⟨rfl, gr4⟩
        have hf' : fitS (Q.getD O[i] 0) ((pcsO Q (O.take i)).map fun (k : Nat) => (k : Int)) = nextR Q (setO (O.take i)) O[i] := hf
        rw [hf']
        have gr5 := gr3.trans (gr4.low gr3.nx)
        cases e5 : nextR Q (setO (O.take i)) O[i]
        · simp (disch := omega) only [f60_r8, f60_rs, w_reg, w_seq, w_cond, w_ret, seqK_n, seqK_r, atK_r, loopK_r, ckB_b, cbB_b, true_and, retK_r, x_nil, x_as, x_not, kx, rvP_ok, ev_t, ev_c, getV_some, putD_some, onB_b, oGet_s, readRs_nil, readRs_t, retV_2, Option.some.injEq, exists_eq_left', getK_set, Nat.reduceEqDiff, ↓reduceIte, Bool.not_false]
          exact ⟨false, .sn, rfl, gr5, fun h => (by cases h), fun _ => ⟨rfl, nsh i hlt e5⟩⟩
        · simp (disch := omega) only [f60_r9, w_skip, w_reg, w_cond, seqK_n, atK_n, loopK_n, ckB_b, cbB_b, true_and, x_nil, x_mv, x_bin, x_not, kx, rvP_ok, okv_some, ev_t, ev_c, getV_some, putD_some, bin_add, onB_b, of1, getK_set, Nat.reduceEqDiff, ↓reduceIte, Bool.false_eq_true, Bool.not_true, g25, fw64]
          refine ⟨i + 1, by omega, hlt, ?_, hso.grow hc3 gr4, gr4.hc hc3, gr5, by simp (disch := omega) only [getK_set, Nat.reduceEqDiff, ↓reduceIte, g6, g23, g24, and_self, Int.natCast_add, Int.natCast_one]⟩
          rw [List.take_succ_eq_append_getElem hlt]
          exact .snoc ho ⟨hgl, setO_not.2 hn, e5⟩
      · obtain rfl : i = O.length := by omega
        rw [List.take_length] at ho
        simp (disch := omega) only [f60_r5, f60_r10, f60_rs, w_reg, w_seq, w_cond, w_exit, w_ret, seqK_n, seqK_e, atK_e, loopK_e, ckB_b, cbB_b, true_and, retK_r, x_nil, x_mv, x_as, x_bin, kx, rvP_ok, okv_some, ev_t, ev_c, getV_some, putD_some, bin_lss, oGet_s, readRs_nil, readRs_t, retV_2, Option.some.injEq, exists_eq_left', getK_set, Nat.reduceEqDiff, ↓reduceIte, Bool.false_eq_true, g6, g24, g25, Int.lt_irrefl, decide_false]
        exact ⟨true, u, rfl, gr3, fun _ => ⟨O, ⟨ha.eq, ho, ha.len, e⟩, hso, hoo⟩, fun h => (by cases h)⟩
end
end Go.Ev
