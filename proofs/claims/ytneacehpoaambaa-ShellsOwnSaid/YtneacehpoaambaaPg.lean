/-
  What is true of the complexes that the law makes, and of their counts.
  Horner's rule and the sum with binomial coefficients give the same; so do the two sums with signs.
  The law ShellsHollows.
  What is true of complexes: links, duals, and the numbers of holes.
  What is true of shellings: which piece may come next.
  What is true of the search for a shelling: orders of pieces, each of which may come next.
  The state of the search for a shelling: its boxes, its two slices, its map.
  Functions of the seat: the search for a shelling (findShelling's closure).
  Functions of the seat: findShelling, Shell.
  A family of slices, into which is stored.
  Complexes as the laws make them: tame, and pure.
-/
import Derived.Test.YtneacehpoaambaaPf
import Derived.Test.YtneacehpoaambaaPd
namespace Go.Ev
open Go Go.RowKit
/-! ### The sets -/
theorem tameX_in {N x : Int} (h1 : 1 ≤ N) (h6 : N ≤ 6) : 0 ≤ tameX N x ∧ tameX N x < 2 ^ N.toNat := by
  have h0 : 0 ≤ fw .u64 x := by rw [fw_eq]; exact Int.emod_nonneg _ (by decide)
  obtain ⟨m, hm⟩ := Int.eq_ofNat_of_zero_le h0
  unfold tameX
  rw [hm]
  have key : ∀ p : Nat, 0 < p → p ≤ 64 → 0 ≤ fw .i64 (Int.tmod (m : Int) (p : Int)) ∧ fw .i64 (Int.tmod (m : Int) (p : Int)) < (p : Int) := by
    intro p hp hp2
    have e : Int.tmod (m : Int) (p : Int) = ((m % p : Nat) : Int) := rfl
    have hlt := Nat.mod_lt m hp
    rw [e, fw64 (by omega) (by omega)]
    omega
  obtain ⟨q1, q2⟩ := pow_n h1 h6
  rw [← q2]
  exact key _ (Nat.two_pow_pos _) q1
theorem tameS_in {N : Int} {L : List Int} {i : Nat} (h1 : 1 ≤ N) (h6 : N ≤ 6) : ∀ s ∈ tameS N L i, 0 ≤ s ∧ s < 2 ^ N.toNat := by
  intro s hs
  unfold tameS at hs
  rcases List.mem_cons.1 hs with rfl | hs
  · have : N = 1 ∨ N = 2 ∨ N = 3 ∨ N = 4 ∨ N = 5 ∨ N = 6 := by omega
    rcases this with rfl | rfl | rfl | rfl | rfl | rfl <;> decide
  · obtain ⟨x, _, rfl⟩ := List.mem_map.1 hs
    exact tameX_in h1 h6
theorem sets_in {N : Int} {S : List Int} (h1 : 1 ≤ N) (h6 : N ≤ 6) (h : ∀ s ∈ S, 0 ≤ s ∧ s < 2 ^ N.toNat) : Sets S := by
  intro s hs
  obtain ⟨a, b⟩ := h s hs
  obtain ⟨q1, q2⟩ := pow_n h1 h6
  exact ⟨s.toNat, by omega, by omega⟩
theorem mem_pieces {S : List Int} {x : Int} (h : x ∈ piecesTo S 64) : ∃ k : Nat, x = (k : Int) ∧ k < 64 ∧ (k : Int) ∈ S ∧ ∀ y ∈ S, y = (k : Int) ∨ ptI (k : Int) y = false := by
  unfold piecesTo at h
  obtain ⟨k, hk, rfl⟩ := List.mem_map.1 h
  rw [List.mem_filter, List.mem_range, Bool.and_eq_true] at hk
  obtain ⟨h1, h2, h3⟩ := hk
  refine ⟨k, rfl, h1, ?_, fun y hy => ?_⟩
  · unfold inP at h2
    obtain ⟨y, hy, e⟩ := List.any_eq_true.1 h2
    have : y = (k : Int) := by simpa using e
    rw [← this]; exact hy
  · unfold grP at h3
    have := List.all_eq_true.1 h3 y hy
    simpa using this
theorem pieces_ne {S : List Int} (hS : Sets S) (hne : S ≠ []) : piecesTo S 64 ≠ [] := by
  obtain ⟨m, hm, hmax⟩ := exists_max S hne
  obtain ⟨t, ht, rfl⟩ := hS m hm
  have hmem : (t : Int) ∈ piecesTo S 64 := by
    unfold piecesTo
    rw [List.mem_map]
    refine ⟨t, ?_, rfl⟩
    rw [List.mem_filter, List.mem_range, Bool.and_eq_true]
    refine ⟨ht, ?_, ?_⟩
    · unfold inP; rw [List.any_eq_true]; exact ⟨_, hm, by simp⟩
    · unfold grP; rw [List.all_eq_true]
      intro y hy
      obtain ⟨u, hu, rfl⟩ := hS y hy
      rw [ptI_nat ht hu]
      have h1 := hmax _ hy
      by_cases e : u = t
      · simp [e]
      · have : ¬ t &&& u = t := fun h2 => by have := sub_le h2; omega
        simp [this]
  intro e
  rw [e] at hmem; cases hmem
theorem pieces_sorted {S : List Int} {i : Nat} : (piecesTo S i).Pairwise (· < ·) := by
  unfold piecesTo
  rw [List.pairwise_map]
  refine List.Pairwise.imp (R := (· < ·)) (fun h => by omega) ?_
  exact List.Pairwise.filter _ List.pairwise_lt_range
theorem facts_P {N : Int} {L : List Int} (h1 : 1 ≤ N) (h6 : N ≤ 6) :
    let P := (tameP N L).take 10
    P ≠ [] ∧ P.length ≤ 10 ∧ P.Pairwise (· < ·) ∧ (∀ x ∈ P, 1 ≤ x ∧ x < 2 ^ N.toNat) ∧ ∀ x ∈ P, ∀ y ∈ P, y = x ∨ ptI x y = false := by
  intro P
  have hin := tameS_in (N := N) (L := L) (i := 10) h1 h6
  have hS := sets_in h1 h6 hin
  have hone : (1 : Int) ∈ tameS N L 10 := by unfold tameS; exact List.mem_cons_self
  have hpos : ∀ x ∈ piecesTo (tameS N L 10) 64, 1 ≤ x ∧ x < 2 ^ N.toNat := by
    intro x hx
    obtain ⟨k, rfl, hk, hks, hkm⟩ := mem_pieces hx
    have := hin _ hks
    refine ⟨?_, this.2⟩
    rcases Nat.eq_zero_or_pos k with e | e
    · subst e
      rcases hkm 1 hone with h | h
      · cases h
      · have h2 : ptI ((0 : Nat) : Int) ((1 : Nat) : Int) = false := h
        rw [ptI_nat (by omega) (by omega)] at h2
        simp at h2
    · omega
  have hP : P = (piecesTo (tameS N L 10) 64).take 10 := by
    show (tameP N L).take 10 = _
    unfold tameP
    simp only []
    rw [if_neg]
    rintro ⟨_, e⟩
    obtain ⟨a, b⟩ := List.getElem?_eq_some_iff.1 e
    have := (hpos _ (List.getElem_mem a)).1
    omega
  rw [hP]
  have sub : ∀ x ∈ (piecesTo (tameS N L 10) 64).take 10, x ∈ piecesTo (tameS N L 10) 64 := fun x hx => List.mem_of_mem_take hx
  refine ⟨fun e => ?_, by rw [List.length_take]; omega, List.Pairwise.sublist (List.take_sublist _ _) pieces_sorted, fun x hx => hpos x (sub x hx), fun x hx y hy => ?_⟩
  · have h2 := pieces_ne hS (by unfold tameS; simp)
    have h3 := congrArg List.length e
    rw [List.length_take] at h3
    have : (piecesTo (tameS N L 10) 64).length ≠ 0 := fun e => h2 (List.length_eq_zero_iff.1 e)
    have h3 : min 10 (piecesTo (tameS N L 10) 64).length = 0 := h3
    omega
  · obtain ⟨k, rfl, hk, hks, hkm⟩ := mem_pieces (sub x hx)
    obtain ⟨j, rfl, hj, hjs, hjm⟩ := mem_pieces (sub y hy)
    exact hkm _ hjs
theorem chk_good {N : Int} {P : List Int} (h1 : 1 ≤ N) (h6 : N ≤ 6) (hne : P ≠ []) (hl : P.length ≤ 10) (hs : P.Pairwise (· < ·)) (hin : ∀ x ∈ P, 1 ≤ x ∧ x < 2 ^ N.toNat) (ha : ∀ x ∈ P, ∀ y ∈ P, y = x ∨ ptI x y = false) : chkS N P = 0 := by
  unfold chkS
  rw [if_neg (by omega), if_pos]
  unfold goodS
  have h0 : P.length ≠ 0 := fun e => hne (List.length_eq_zero_iff.1 e)
  rw [decide_eq_true (by omega), decide_eq_true hl, Bool.true_and, Bool.true_and, List.all_eq_true]
  intro i hi
  have hi : i < P.length := by simpa using hi
  have hg : P.getD i 0 = P[i] := by simp [List.getD, hi]
  unfold okAt
  rw [hg]
  have hm := List.getElem_mem hi
  have hb := hin _ hm
  rw [decide_eq_true hb.1, decide_eq_true hb.2, Bool.true_and, Bool.true_and, List.all_eq_true]
  intro y hy
  obtain ⟨j, hj, rfl⟩ := List.getElem_of_mem hy
  have hj2 : j < i := by rw [List.length_take] at hj; omega
  rw [List.getElem_take]
  have hlt : P[j] < P[i] := List.pairwise_iff_getElem.1 hs j i (by omega) hi hj2
  unfold pairOk
  rw [decide_eq_true hlt]
  rcases ha P[j] (List.getElem_mem _) P[i] hm with e | e
  · omega
  · rw [e]; rfl
/-! ### The faces -/
theorem range_filter {B : Nat → Bool} {m : Nat} : ∀ n, m ≤ n → (∀ k, m ≤ k → k < n → B k = false) → (List.range n).filter B = (List.range m).filter B := by
  intro n
  induction n with
  | zero => intro h _; have : m = 0 := by omega
            rw [this]
  | succ n ih =>
    intro h hb
    by_cases e : m = n + 1
    · rw [e]
    · rw [List.range_succ, List.filter_append, ih (by omega) (fun k h1 h2 => hb k h1 (by omega))]
      simp [hb n (by omega) (by omega)]
theorem faces_eq {N : Int} {P : List Int} (h1 : 1 ≤ N) (h6 : N ≤ 6) (hin : ∀ x ∈ P, 1 ≤ x ∧ x < 2 ^ N.toNat) : mem64 (famB P) = facN P (2 ^ N.toNat) := by
  obtain ⟨q1, q2⟩ := pow_n h1 h6
  unfold mem64 facN
  show (List.range 64).filter (famB P) = (List.range (2 ^ N.toNat)).filter (famB P)
  refine range_filter 64 q1 fun k hk hk2 => ?_
  unfold famB
  rw [List.any_eq_false]
  intro s hs
  obtain ⟨a, b⟩ := hin s hs
  have e : s = (s.toNat : Int) := by omega
  rw [e, ptI_nat hk2 (by omega), decide_eq_true_eq]
  intro h
  have := sub_le h
  omega
theorem pop_mono : ∀ s : Nat, s < 64 → ∀ k : Nat, k < 64 → k &&& s = k → pop6 k ≤ pop6 s := by
  have h : ((List.range 64).all fun s => (List.range 64).all fun k => !(decide (k &&& s = k)) || decide (pop6 k ≤ pop6 s)) = true := by decide +kernel
  intro s hs k hk hsub
  have h1 := List.all_eq_true.1 (List.all_eq_true.1 h s (by simpa using hs)) k (by simpa using hk)
  rw [decide_eq_true hsub] at h1
  simpa using h1
theorem maxS_mem : ∀ {P : List Int} {s : Int}, s ∈ P → pop6 s.toNat ≤ maxS P := by
  intro P
  refine snoc_ind (P := fun P => ∀ {s : Int}, s ∈ P → pop6 s.toNat ≤ maxS P) (fun h => by cases h) (fun l a ih s hs => ?_) P
  rw [maxS_snoc]
  rcases List.mem_append.1 hs with h | h
  · have := ih h; omega
  · have : s = a := by simpa using h
    subst this; omega
theorem maxS_ex : ∀ {P : List Int}, P ≠ [] → ∃ s ∈ P, pop6 s.toNat = maxS P := by
  intro P
  refine snoc_ind (P := fun P => P ≠ [] → ∃ s ∈ P, pop6 s.toNat = maxS P) (fun h => absurd rfl h) (fun l a ih _ => ?_) P
  rw [maxS_snoc]
  by_cases e : l = []
  · subst e; exact ⟨a, by simp, by show _ = max 0 _; omega⟩
  · obtain ⟨s, hs, hm⟩ := ih e
    by_cases h : pop6 a.toNat ≤ maxS l
    · exact ⟨s, by simp [hs], by omega⟩
    · exact ⟨a, by simp, by omega⟩
theorem face_sz {N : Int} {P : List Int} (h1 : 1 ≤ N) (h6 : N ≤ 6) (hin : ∀ x ∈ P, 1 ≤ x ∧ x < 2 ^ N.toNat) : ∀ k ∈ facN P (2 ^ N.toNat), pop6 k ≤ maxS P := by
  obtain ⟨q1, q2⟩ := pow_n h1 h6
  intro k hk
  unfold facN at hk
  rw [List.mem_filter, List.mem_range] at hk
  obtain ⟨hk1, hk2⟩ := hk
  unfold isF at hk2
  obtain ⟨s, hs, e⟩ := List.any_eq_true.1 hk2
  obtain ⟨a, b⟩ := hin s hs
  have es : s = (s.toNat : Int) := by omega
  rw [es, ptI_nat (by omega) (by omega), decide_eq_true_eq] at e
  exact Nat.le_trans (pop_mono s.toNat (by omega) k (by omega) e) (maxS_mem hs)
theorem face_piece {N : Int} {P : List Int} (h1 : 1 ≤ N) (h6 : N ≤ 6) (hin : ∀ x ∈ P, 1 ≤ x ∧ x < 2 ^ N.toNat) {s : Int} (hs : s ∈ P) : s.toNat ∈ facN P (2 ^ N.toNat) := by
  obtain ⟨q1, q2⟩ := pow_n h1 h6
  obtain ⟨a, b⟩ := hin s hs
  unfold facN
  rw [List.mem_filter, List.mem_range]
  refine ⟨by omega, ?_⟩
  unfold isF
  rw [List.any_eq_true]
  refine ⟨s, hs, ?_⟩
  have es : s = (s.toNat : Int) := by omega
  have e2 : ptI (s.toNat : Int) (s.toNat : Int) = true := by rw [ptI_nat (by omega) (by omega)]; simp
  rw [← es] at e2 ⊢
  exact e2
/-! ### The counts -/
theorem getD_cpad {C : List Int} {m j : Nat} : (cpad C m).getD j 0 = C.getD j 0 := by
  unfold cpad
  by_cases h : j < C.length
  · simp [List.getD, List.getElem?_append_left h]
  · simp only [List.getD]
    rw [List.getElem?_append_right (by omega), List.getElem?_replicate, List.getElem?_eq_none (by omega)]
    split <;> rfl
theorem cnt_len {d : Nat} : ∀ (l : List Nat), (∀ k ∈ l, pop6 k ≤ d) → (cntS l).length ≤ d + 1 ∧ (∀ k ∈ l, pop6 k < (cntS l).length) ∧ ∀ j, (cntS l).getD j 0 = (rcnt d l).getD j 0 := by
  intro l
  refine snoc_ind (P := fun l => (∀ k ∈ l, pop6 k ≤ d) → (cntS l).length ≤ d + 1 ∧ (∀ k ∈ l, pop6 k < (cntS l).length) ∧ ∀ j, (cntS l).getD j 0 = (rcnt d l).getD j 0) (fun _ => ?_) (fun l k ih hd => ?_) l
  · refine ⟨by simp [cntS], (fun k h => by cases h), fun j => ?_⟩
    show ([] : List Int).getD j 0 = (List.replicate (d + 1) (0 : Int)).getD j 0
    simp only [List.getD, List.getElem?_nil, List.getElem?_replicate]
    split <;> rfl
  · obtain ⟨i1, i2, i3⟩ := ih (fun k hk => hd k (by simp [hk]))
    have hk := hd k (by simp)
    rw [cntS_snoc, rcnt_snoc]
    have hlen : (cstep (cntS l) (pop6 k)).length = max (cntS l).length (pop6 k + 1) := by
      unfold cstep cpad
      rw [List.length_set, List.length_append, List.length_replicate]; omega
    refine ⟨by rw [hlen]; omega, fun x hx => ?_, fun j => ?_⟩
    · rw [hlen]
      rcases List.mem_append.1 hx with h | h
      · have := i2 x h; omega
      · have : x = k := by simpa using h
        subst this; omega
    · unfold cstep bump
      have hp := cpad_len (C := cntS l) (m := pop6 k)
      have hr := rcnt_len (d := d) l
      have g1 : ∀ (A : List Int) (i : Nat) (x : Int), i < A.length → (A.set i x).getD j 0 = if i = j then x else A.getD j 0 := by
        intro A i x hi
        simp only [List.getD, List.getElem?_set]
        by_cases e : i = j
        · subst e; simp [hi]
        · simp [e]
      rw [g1 _ _ _ hp, g1 _ _ _ (by omega), getD_cpad, getD_cpad, i3, i3]
theorem counts_eq {d : Nat} {l : List Nat} (hd : ∀ k ∈ l, pop6 k ≤ d) (he : ∃ k ∈ l, pop6 k = d) : cntS l = rcnt d l := by
  obtain ⟨h1, h2, h3⟩ := cnt_len l hd
  obtain ⟨k, hk, e⟩ := he
  have h4 := h2 k hk
  have hr := rcnt_len (d := d) l
  apply List.ext_getElem (by omega)
  intro i a b
  have := h3 i
  simp only [List.getD] at this
  rw [List.getElem?_eq_getElem a, List.getElem?_eq_getElem b] at this
  simpa using this
end Go.Ev
namespace Go.Ev
open Go Go.RowKit
theorem sg0 : sgnS 0 = 1 := by decide +kernel
theorem sg1 : sgnS 1 = -1 := by decide +kernel
theorem sg2 : sgnS 2 = 1 := by decide +kernel
theorem sg3 : sgnS 3 = -1 := by decide +kernel
theorem sg4 : sgnS 4 = 1 := by decide +kernel
theorem sg5 : sgnS 5 = -1 := by decide +kernel
theorem sg6 : sgnS 6 = 1 := by decide +kernel
theorem hsA1 {a : Int} (ha : 0 ≤ a ∧ a ≤ 64) : hsS [a] = [1 * a] := by
  simp [hsS, hsTo, List.range, List.range.loop, innerS]
theorem hsB1 {a : Int} (ha : 0 ≤ a ∧ a ≤ 64) : rhsS [a] = [1 * a] := by
  simp [rhsS, arr, List.range, List.range.loop, rkS, bin6, sg0]
  simp (disch := omega) only [fw64]
theorem hsA2 {a b : Int} (ha : 0 ≤ a ∧ a ≤ 64) (hb : 0 ≤ b ∧ b ≤ 64) : hsS [a, b] = [1 * a, (-1) * a + 1 * b] := by
  simp [hsS, hsTo, List.range, List.range.loop, innerS]
  simp (disch := omega) only [fw64]
  omega
theorem hsB2 {a b : Int} (ha : 0 ≤ a ∧ a ≤ 64) (hb : 0 ≤ b ∧ b ≤ 64) : rhsS [a, b] = [1 * a, (-1) * a + 1 * b] := by
  simp [rhsS, arr, List.range, List.range.loop, rkS, bin6, sg0, sg1]
  simp (disch := omega) only [fw64]
  exact ⟨trivial, trivial⟩
theorem hsA3 {a b c : Int} (ha : 0 ≤ a ∧ a ≤ 64) (hb : 0 ≤ b ∧ b ≤ 64) (hc : 0 ≤ c ∧ c ≤ 64) : hsS [a, b, c] = [1 * a, (-2) * a + 1 * b, 1 * a + (-1) * b + 1 * c] := by
  simp [hsS, hsTo, List.range, List.range.loop, innerS]
  simp (disch := omega) only [fw64]
  omega
theorem hsB3 {a b c : Int} (ha : 0 ≤ a ∧ a ≤ 64) (hb : 0 ≤ b ∧ b ≤ 64) (hc : 0 ≤ c ∧ c ≤ 64) : rhsS [a, b, c] = [1 * a, (-2) * a + 1 * b, 1 * a + (-1) * b + 1 * c] := by
  simp [rhsS, arr, List.range, List.range.loop, rkS, bin6, sg0, sg1, sg2]
  simp (disch := omega) only [fw64]
  simp only [true_and, and_true]
  omega
theorem hsA4 {a b c d : Int} (ha : 0 ≤ a ∧ a ≤ 64) (hb : 0 ≤ b ∧ b ≤ 64) (hc : 0 ≤ c ∧ c ≤ 64) (hd : 0 ≤ d ∧ d ≤ 64) : hsS [a, b, c, d] = [1 * a, (-3) * a + 1 * b, 3 * a + (-2) * b + 1 * c, (-1) * a + 1 * b + (-1) * c + 1 * d] := by
  simp [hsS, hsTo, List.range, List.range.loop, innerS]
  simp (disch := omega) only [fw64]
  omega
theorem hsB4 {a b c d : Int} (ha : 0 ≤ a ∧ a ≤ 64) (hb : 0 ≤ b ∧ b ≤ 64) (hc : 0 ≤ c ∧ c ≤ 64) (hd : 0 ≤ d ∧ d ≤ 64) : rhsS [a, b, c, d] = [1 * a, (-3) * a + 1 * b, 3 * a + (-2) * b + 1 * c, (-1) * a + 1 * b + (-1) * c + 1 * d] := by
  simp [rhsS, arr, List.range, List.range.loop, rkS, bin6, sg0, sg1, sg2, sg3]
  simp (disch := omega) only [fw64]
  simp only [true_and, and_true]
  omega
theorem hsA5 {a b c d e : Int} (ha : 0 ≤ a ∧ a ≤ 64) (hb : 0 ≤ b ∧ b ≤ 64) (hc : 0 ≤ c ∧ c ≤ 64) (hd : 0 ≤ d ∧ d ≤ 64) (he : 0 ≤ e ∧ e ≤ 64) : hsS [a, b, c, d, e] = [1 * a, (-4) * a + 1 * b, 6 * a + (-3) * b + 1 * c, (-4) * a + 3 * b + (-2) * c + 1 * d, 1 * a + (-1) * b + 1 * c + (-1) * d + 1 * e] := by
  simp [hsS, hsTo, List.range, List.range.loop, innerS]
  simp (disch := omega) only [fw64]
  omega
theorem hsB5 {a b c d e : Int} (ha : 0 ≤ a ∧ a ≤ 64) (hb : 0 ≤ b ∧ b ≤ 64) (hc : 0 ≤ c ∧ c ≤ 64) (hd : 0 ≤ d ∧ d ≤ 64) (he : 0 ≤ e ∧ e ≤ 64) : rhsS [a, b, c, d, e] = [1 * a, (-4) * a + 1 * b, 6 * a + (-3) * b + 1 * c, (-4) * a + 3 * b + (-2) * c + 1 * d, 1 * a + (-1) * b + 1 * c + (-1) * d + 1 * e] := by
  simp [rhsS, arr, List.range, List.range.loop, rkS, bin6, sg0, sg1, sg2, sg3, sg4]
  simp (disch := omega) only [fw64]
  simp only [true_and, and_true]
  omega
theorem hsA6 {a b c d e f : Int} (ha : 0 ≤ a ∧ a ≤ 64) (hb : 0 ≤ b ∧ b ≤ 64) (hc : 0 ≤ c ∧ c ≤ 64) (hd : 0 ≤ d ∧ d ≤ 64) (he : 0 ≤ e ∧ e ≤ 64) (hf : 0 ≤ f ∧ f ≤ 64) : hsS [a, b, c, d, e, f] = [1 * a, (-5) * a + 1 * b, 10 * a + (-4) * b + 1 * c, (-10) * a + 6 * b + (-3) * c + 1 * d, 5 * a + (-4) * b + 3 * c + (-2) * d + 1 * e, (-1) * a + 1 * b + (-1) * c + 1 * d + (-1) * e + 1 * f] := by
  simp [hsS, hsTo, List.range, List.range.loop, innerS]
  simp (disch := omega) only [fw64]
  omega
theorem hsB6 {a b c d e f : Int} (ha : 0 ≤ a ∧ a ≤ 64) (hb : 0 ≤ b ∧ b ≤ 64) (hc : 0 ≤ c ∧ c ≤ 64) (hd : 0 ≤ d ∧ d ≤ 64) (he : 0 ≤ e ∧ e ≤ 64) (hf : 0 ≤ f ∧ f ≤ 64) : rhsS [a, b, c, d, e, f] = [1 * a, (-5) * a + 1 * b, 10 * a + (-4) * b + 1 * c, (-10) * a + 6 * b + (-3) * c + 1 * d, 5 * a + (-4) * b + 3 * c + (-2) * d + 1 * e, (-1) * a + 1 * b + (-1) * c + 1 * d + (-1) * e + 1 * f] := by
  simp [rhsS, arr, List.range, List.range.loop, rkS, bin6, sg0, sg1, sg2, sg3, sg4, sg5]
  simp (disch := omega) only [fw64]
  simp only [true_and, and_true]
  omega
theorem hsA7 {a b c d e f g : Int} (ha : 0 ≤ a ∧ a ≤ 64) (hb : 0 ≤ b ∧ b ≤ 64) (hc : 0 ≤ c ∧ c ≤ 64) (hd : 0 ≤ d ∧ d ≤ 64) (he : 0 ≤ e ∧ e ≤ 64) (hf : 0 ≤ f ∧ f ≤ 64) (hg : 0 ≤ g ∧ g ≤ 64) : hsS [a, b, c, d, e, f, g] = [1 * a, (-6) * a + 1 * b, 15 * a + (-5) * b + 1 * c, (-20) * a + 10 * b + (-4) * c + 1 * d, 15 * a + (-10) * b + 6 * c + (-3) * d + 1 * e, (-6) * a + 5 * b + (-4) * c + 3 * d + (-2) * e + 1 * f, 1 * a + (-1) * b + 1 * c + (-1) * d + 1 * e + (-1) * f + 1 * g] := by
  simp [hsS, hsTo, List.range, List.range.loop, innerS]
  simp (disch := omega) only [fw64]
  omega
theorem hsB7 {a b c d e f g : Int} (ha : 0 ≤ a ∧ a ≤ 64) (hb : 0 ≤ b ∧ b ≤ 64) (hc : 0 ≤ c ∧ c ≤ 64) (hd : 0 ≤ d ∧ d ≤ 64) (he : 0 ≤ e ∧ e ≤ 64) (hf : 0 ≤ f ∧ f ≤ 64) (hg : 0 ≤ g ∧ g ≤ 64) : rhsS [a, b, c, d, e, f, g] = [1 * a, (-6) * a + 1 * b, 15 * a + (-5) * b + 1 * c, (-20) * a + 10 * b + (-4) * c + 1 * d, 15 * a + (-10) * b + 6 * c + (-3) * d + 1 * e, (-6) * a + 5 * b + (-4) * c + 3 * d + (-2) * e + 1 * f, 1 * a + (-1) * b + 1 * c + (-1) * d + 1 * e + (-1) * f + 1 * g] := by
  simp [rhsS, arr, List.range, List.range.loop, rkS, bin6, sg0, sg1, sg2, sg3, sg4, sg5, sg6]
  simp (disch := omega) only [fw64]
  simp only [true_and, and_true]
  omega
theorem tm1 : Int.tmod (1 : Int) 2 = 1 := by decide
theorem tm3 : Int.tmod (3 : Int) 2 = 1 := by decide
theorem tm4 : Int.tmod (4 : Int) 2 = 0 := by decide
theorem tm5 : Int.tmod (5 : Int) 2 = 1 := by decide
theorem tm6 : Int.tmod (6 : Int) 2 = 0 := by decide
theorem tf1 : fw .i64 1 = 1 := by decide +kernel
theorem tf2 : fw .i64 (-1) = -1 := by decide +kernel
theorem tf3 : fw .i64 2 = 2 := by decide +kernel
theorem hs_eq {L : List Int} (h1 : 1 ≤ L.length) (h7 : L.length ≤ 7) (hb : ∀ x ∈ L, 0 ≤ x ∧ x ≤ 64) : hsS L = rhsS L := by
  match L, h1, h7, hb with
  | [a], _, _, hb => rw [hsA1 (hb a (by simp)), hsB1 (hb a (by simp))]
  | [a, b], _, _, hb => rw [hsA2 (hb a (by simp)) (hb b (by simp)), hsB2 (hb a (by simp)) (hb b (by simp))]
  | [a, b, c], _, _, hb => rw [hsA3 (hb a (by simp)) (hb b (by simp)) (hb c (by simp)), hsB3 (hb a (by simp)) (hb b (by simp)) (hb c (by simp))]
  | [a, b, c, d], _, _, hb => rw [hsA4 (hb a (by simp)) (hb b (by simp)) (hb c (by simp)) (hb d (by simp)), hsB4 (hb a (by simp)) (hb b (by simp)) (hb c (by simp)) (hb d (by simp))]
  | [a, b, c, d, e], _, _, hb => rw [hsA5 (hb a (by simp)) (hb b (by simp)) (hb c (by simp)) (hb d (by simp)) (hb e (by simp)), hsB5 (hb a (by simp)) (hb b (by simp)) (hb c (by simp)) (hb d (by simp)) (hb e (by simp))]
  | [a, b, c, d, e, f], _, _, hb => rw [hsA6 (hb a (by simp)) (hb b (by simp)) (hb c (by simp)) (hb d (by simp)) (hb e (by simp)) (hb f (by simp)), hsB6 (hb a (by simp)) (hb b (by simp)) (hb c (by simp)) (hb d (by simp)) (hb e (by simp)) (hb f (by simp))]
  | [a, b, c, d, e, f, g], _, _, hb => rw [hsA7 (hb a (by simp)) (hb b (by simp)) (hb c (by simp)) (hb d (by simp)) (hb e (by simp)) (hb f (by simp)) (hb g (by simp)), hsB7 (hb a (by simp)) (hb b (by simp)) (hb c (by simp)) (hb d (by simp)) (hb e (by simp)) (hb f (by simp)) (hb g (by simp))]
  | [], h1, _, _ => simp at h1
  | _ :: _ :: _ :: _ :: _ :: _ :: _ :: _ :: _, _, h7, _ => simp at h7
theorem eu1 {a : Int} (ha : 0 ≤ a ∧ a ≤ 64) : euS (List.drop 1 [a]) 0 1 = reuS [a] 0 1 0 := by
  simp [euS, reuS, List.drop]
theorem eu2 {a b : Int} (ha : 0 ≤ a ∧ a ≤ 64) (hb : 0 ≤ b ∧ b ≤ 64) : euS (List.drop 1 [a, b]) 0 1 = reuS [a, b] 1 1 0 := by
  simp [euS, reuS, List.drop, tm1, tf1, tf3]
theorem eu3 {a b c : Int} (ha : 0 ≤ a ∧ a ≤ 64) (hb : 0 ≤ b ∧ b ≤ 64) (hc : 0 ≤ c ∧ c ≤ 64) : euS (List.drop 1 [a, b, c]) 0 1 = reuS [a, b, c] 2 1 0 := by
  simp [euS, reuS, isub_eq, List.drop, tm1, tf1, tf2, tf3]
  simp (disch := omega) only [fw64]
  omega
theorem eu4 {a b c d : Int} (ha : 0 ≤ a ∧ a ≤ 64) (hb : 0 ≤ b ∧ b ≤ 64) (hc : 0 ≤ c ∧ c ≤ 64) (hd : 0 ≤ d ∧ d ≤ 64) : euS (List.drop 1 [a, b, c, d]) 0 1 = reuS [a, b, c, d] 3 1 0 := by
  simp [euS, reuS, isub_eq, List.drop, tm1, tm3, tf1, tf2, tf3]
  simp (disch := omega) only [fw64]
  omega
theorem eu5 {a b c d e : Int} (ha : 0 ≤ a ∧ a ≤ 64) (hb : 0 ≤ b ∧ b ≤ 64) (hc : 0 ≤ c ∧ c ≤ 64) (hd : 0 ≤ d ∧ d ≤ 64) (he : 0 ≤ e ∧ e ≤ 64) : euS (List.drop 1 [a, b, c, d, e]) 0 1 = reuS [a, b, c, d, e] 4 1 0 := by
  simp [euS, reuS, isub_eq, List.drop, tm1, tm3, tm4, tf1, tf2, tf3]
  simp (disch := omega) only [fw64]
  omega
theorem eu6 {a b c d e f : Int} (ha : 0 ≤ a ∧ a ≤ 64) (hb : 0 ≤ b ∧ b ≤ 64) (hc : 0 ≤ c ∧ c ≤ 64) (hd : 0 ≤ d ∧ d ≤ 64) (he : 0 ≤ e ∧ e ≤ 64) (hf : 0 ≤ f ∧ f ≤ 64) : euS (List.drop 1 [a, b, c, d, e, f]) 0 1 = reuS [a, b, c, d, e, f] 5 1 0 := by
  simp [euS, reuS, isub_eq, List.drop, tm1, tm3, tm4, tm5, tf1, tf2, tf3]
  simp (disch := omega) only [fw64]
  omega
theorem eu7 {a b c d e f g : Int} (ha : 0 ≤ a ∧ a ≤ 64) (hb : 0 ≤ b ∧ b ≤ 64) (hc : 0 ≤ c ∧ c ≤ 64) (hd : 0 ≤ d ∧ d ≤ 64) (he : 0 ≤ e ∧ e ≤ 64) (hf : 0 ≤ f ∧ f ≤ 64) (hg : 0 ≤ g ∧ g ≤ 64) : euS (List.drop 1 [a, b, c, d, e, f, g]) 0 1 = reuS [a, b, c, d, e, f, g] 6 1 0 := by
  simp [euS, reuS, isub_eq, List.drop, tm1, tm3, tm4, tm5, tm6, tf1, tf2, tf3]
  simp (disch := omega) only [fw64]
  omega
theorem eu_eq {L : List Int} (h1 : 1 ≤ L.length) (h7 : L.length ≤ 7) (hb : ∀ x ∈ L, 0 ≤ x ∧ x ≤ 64) : euS (L.drop 1) 0 1 = reuS L (L.length - 1) 1 0 := by
  match L, h1, h7, hb with
  | [a], _, _, hb => exact eu1 (hb a (by simp))
  | [a, b], _, _, hb => exact eu2 (hb a (by simp)) (hb b (by simp))
  | [a, b, c], _, _, hb => exact eu3 (hb a (by simp)) (hb b (by simp)) (hb c (by simp))
  | [a, b, c, d], _, _, hb => exact eu4 (hb a (by simp)) (hb b (by simp)) (hb c (by simp)) (hb d (by simp))
  | [a, b, c, d, e], _, _, hb => exact eu5 (hb a (by simp)) (hb b (by simp)) (hb c (by simp)) (hb d (by simp)) (hb e (by simp))
  | [a, b, c, d, e, f], _, _, hb => exact eu6 (hb a (by simp)) (hb b (by simp)) (hb c (by simp)) (hb d (by simp)) (hb e (by simp)) (hb f (by simp))
  | [a, b, c, d, e, f, g], _, _, hb => exact eu7 (hb a (by simp)) (hb b (by simp)) (hb c (by simp)) (hb d (by simp)) (hb e (by simp)) (hb f (by simp)) (hb g (by simp))
  | [], h1, _, _ => simp at h1
  | _ :: _ :: _ :: _ :: _ :: _ :: _ :: _ :: _, _, h7, _ => simp at h7
theorem facts4 (n : Int) (L : List Int) : Facts4 (tameN n) ((tameP (tameN n) L).take 10) := by
  obtain ⟨n1, n6⟩ := tameN_in n
  obtain ⟨f1, f2, f3, f4, f5⟩ := facts_P (N := tameN n) (L := L) n1 n6
  generalize (tameP (tameN n) L).take 10 = P at *
  generalize tameN n = N at *
  have hsets : Sets P := sets_in n1 n6 (fun s hs => by have := f4 s hs; omega)
  have hsz := face_sz n1 n6 f4
  have hfe := faces_eq n1 n6 f4
  have hcnt : cntS (mem64 (famB P)) = rcnt (maxS P) (facN P (2 ^ N.toNat)) := by
    rw [hfe]
    obtain ⟨s, hs, e⟩ := maxS_ex f1
    exact counts_eq hsz ⟨s.toNat, face_piece n1 n6 f4 hs, e⟩
  have hne : 1 ≤ (cntS (mem64 (famB P))).length := by rw [hcnt, rcnt_len]; omega
  have h7 := cntS_len (mem64 (famB P))
  have hbd : ∀ x ∈ cntS (mem64 (famB P)), 0 ≤ x ∧ x ≤ 64 := fun x hx => by
    have := cntS_bd _ x hx
    have := mem64_len (B := famB P)
    omega
  exact ⟨chk_good n1 n6 f1 f2 f3 f4 f5, f2, hsets, hsz, by unfold memI facTo; rw [hfe]; rfl, hcnt, hs_eq hne h7 hbd, eu_eq hne h7 hbd, hne⟩
end Go.Ev
namespace Go.Ev
open Go Go.RowKit
noncomputable def f8_r0 : List EOper := [⟨(some (K.ofNat 6)), none, .as (.c (.b false))⟩]
noncomputable def f8_r1 : List EOper := [⟨(some (K.ofNat 19)), none, .mv (.t (K.ofNat 0))⟩, ⟨(some (K.ofNat 20)), none, .mv (.t (K.ofNat 1))⟩, ⟨(some (K.ofNat 21)), none, .call (.c (.fn (K.ofNat 30) [])) [(.t (K.ofNat 19)), (.t (K.ofNat 20))]⟩, ⟨(some (K.ofNat 18)), none, .mv (.t (K.ofNat 21))⟩, ⟨(some (K.ofNat 22)), none, .ext (.t (K.ofNat 18)) 0⟩, ⟨(some (K.ofNat 23)), none, .ext (.t (K.ofNat 18)) 1⟩, ⟨(some (K.ofNat 7)), none, .as (.t (K.ofNat 22))⟩, ⟨(some (K.ofNat 8)), none, .as (.t (K.ofNat 23))⟩]
noncomputable def f8_r2 : List EOper := [⟨(some (K.ofNat 25)), none, .mv (.t (K.ofNat 7))⟩, ⟨(some (K.ofNat 26)), none, .mv (.t (K.ofNat 8))⟩, ⟨(some (K.ofNat 27)), none, .call (.c (.fn (K.ofNat 26) [])) [(.t (K.ofNat 25)), (.t (K.ofNat 26))]⟩, ⟨(some (K.ofNat 24)), none, .mv (.t (K.ofNat 27))⟩, ⟨(some (K.ofNat 28)), none, .ext (.t (K.ofNat 24)) 0⟩, ⟨(some (K.ofNat 29)), none, .ext (.t (K.ofNat 24)) 1⟩, ⟨(some (K.ofNat 9)), none, .as (.t (K.ofNat 28))⟩, ⟨(some (K.ofNat 10)), none, .as (.t (K.ofNat 29))⟩]
noncomputable def f8_r3 : List EOper := [⟨(some (K.ofNat 30)), none, .mv (.t (K.ofNat 10))⟩, ⟨(some (K.ofNat 31)), none, .bin .neq (.t (K.ofNat 30)) (.c (.i .i64 (.ofNat 0)))⟩, ⟨(some (K.ofNat 32)), none, .mv (.t (K.ofNat 31))⟩, ⟨(some (K.ofNat 33)), (some ((K.ofNat 32), false)), .mv (.t (K.ofNat 9))⟩, ⟨(some (K.ofNat 34)), (some ((K.ofNat 32), false)), .mv (.t (K.ofNat 7))⟩, ⟨(some (K.ofNat 35)), (some ((K.ofNat 32), false)), .mv (.t (K.ofNat 8))⟩, ⟨(some (K.ofNat 36)), (some ((K.ofNat 32), false)), .call (.c (.fn (K.ofNat 44) [])) [(.t (K.ofNat 34)), (.t (K.ofNat 35))]⟩, ⟨(some (K.ofNat 37)), (some ((K.ofNat 32), false)), .call (.c (.fn (K.ofNat 32) [])) [(.t (K.ofNat 33)), (.t (K.ofNat 36))]⟩, ⟨(some (K.ofNat 38)), (some ((K.ofNat 32), false)), .not (.t (K.ofNat 37))⟩, ⟨(some (K.ofNat 39)), none, .pick (.t (K.ofNat 32)) (.c (.b true)) (.t (K.ofNat 38))⟩]
noncomputable def f8_r4 : List EOper := [⟨(some (K.ofNat 6)), none, .as (.c (.b false))⟩]
noncomputable def f8_r5 : List EOper := [⟨(some (K.ofNat 11)), none, .as (.c (.i .i64 (.ofNat 0)))⟩]
noncomputable def f8_r6 : List EOper := [⟨(some (K.ofNat 40)), none, .mv (.t (K.ofNat 11))⟩, ⟨(some (K.ofNat 41)), none, .bin .lss (.t (K.ofNat 40)) (.c (.i .i64 (.ofNat 2)))⟩]
noncomputable def f8_r7 : List EOper := [⟨(some (K.ofNat 45)), none, .mv (.t (K.ofNat 7))⟩, ⟨(some (K.ofNat 46)), none, .mv (.t (K.ofNat 8))⟩, ⟨(some (K.ofNat 47)), none, .mv (.t (K.ofNat 2))⟩, ⟨(some (K.ofNat 48)), none, .call (.c (.fn (K.ofNat 27) [])) [(.t (K.ofNat 45)), (.t (K.ofNat 46)), (.t (K.ofNat 47))]⟩, ⟨(some (K.ofNat 44)), none, .mv (.t (K.ofNat 48))⟩, ⟨(some (K.ofNat 49)), none, .ext (.t (K.ofNat 44)) 0⟩, ⟨(some (K.ofNat 50)), none, .ext (.t (K.ofNat 44)) 1⟩, ⟨(some (K.ofNat 12)), none, .as (.t (K.ofNat 49))⟩, ⟨(some (K.ofNat 13)), none, .as (.t (K.ofNat 50))⟩]
noncomputable def f8_r8 : List EOper := [⟨(some (K.ofNat 51)), none, .mv (.t (K.ofNat 2))⟩, ⟨(some (K.ofNat 52)), none, .bin .lss (.t (K.ofNat 51)) (.c (.i .i64 (.ofNat 0)))⟩, ⟨(some (K.ofNat 53)), none, .mv (.t (K.ofNat 52))⟩, ⟨(some (K.ofNat 54)), (some ((K.ofNat 53), false)), .mv (.t (K.ofNat 2))⟩, ⟨(some (K.ofNat 55)), (some ((K.ofNat 53), false)), .mv (.t (K.ofNat 7))⟩, ⟨(some (K.ofNat 56)), (some ((K.ofNat 53), false)), .bin .shl (.c (.i .i64 (.ofNat 1))) (.t (K.ofNat 55))⟩, ⟨(some (K.ofNat 57)), (some ((K.ofNat 53), false)), .bin .geq (.t (K.ofNat 54)) (.t (K.ofNat 56))⟩, ⟨(some (K.ofNat 58)), none, .pick (.t (K.ofNat 53)) (.c (.b true)) (.t (K.ofNat 57))⟩, ⟨(some (K.ofNat 59)), none, .mv (.t (K.ofNat 58))⟩, ⟨(some (K.ofNat 60)), (some ((K.ofNat 59), false)), .mv (.t (K.ofNat 8))⟩, ⟨(some (K.ofNat 61)), (some ((K.ofNat 59), false)), .mv (.t (K.ofNat 2))⟩, ⟨(some (K.ofNat 62)), (some ((K.ofNat 59), false)), .call (.c (.fn (K.ofNat 45) [])) [(.t (K.ofNat 60)), (.t (K.ofNat 61))]⟩, ⟨(some (K.ofNat 63)), (some ((K.ofNat 59), false)), .not (.t (K.ofNat 62))⟩, ⟨(some (K.ofNat 64)), none, .pick (.t (K.ofNat 59)) (.c (.b true)) (.t (K.ofNat 63))⟩]
noncomputable def f8_r9 : List EOper := [⟨(some (K.ofNat 65)), none, .mv (.t (K.ofNat 13))⟩, ⟨(some (K.ofNat 66)), none, .bin .neq (.t (K.ofNat 65)) (.c (.i .i64 (.ofNat 1)))⟩, ⟨(some (K.ofNat 67)), none, .mv (.t (K.ofNat 66))⟩, ⟨(some (K.ofNat 68)), (some ((K.ofNat 67), false)), .mv (.t (K.ofNat 12))⟩, ⟨(some (K.ofNat 69)), (some ((K.ofNat 67), false)), .len (.t (K.ofNat 68))⟩, ⟨(some (K.ofNat 70)), (some ((K.ofNat 67), false)), .bin .neq (.t (K.ofNat 69)) (.c (.i .i64 (.ofNat 0)))⟩, ⟨(some (K.ofNat 71)), none, .pick (.t (K.ofNat 67)) (.c (.b true)) (.t (K.ofNat 70))⟩]
noncomputable def f8_r10 : List EOper := [⟨(some (K.ofNat 6)), none, .as (.c (.b false))⟩]
noncomputable def f8_r11 : List EOper := [⟨(some (K.ofNat 72)), none, .mv (.t (K.ofNat 13))⟩, ⟨(some (K.ofNat 73)), none, .bin .neq (.t (K.ofNat 72)) (.c (.i .i64 (.ofNat 0)))⟩, ⟨(some (K.ofNat 74)), none, .mv (.t (K.ofNat 73))⟩, ⟨(some (K.ofNat 75)), (some ((K.ofNat 74), false)), .mv (.t (K.ofNat 12))⟩, ⟨(some (K.ofNat 76)), (some ((K.ofNat 74), false)), .mv (.t (K.ofNat 7))⟩, ⟨(some (K.ofNat 77)), (some ((K.ofNat 74), false)), .mv (.t (K.ofNat 8))⟩, ⟨(some (K.ofNat 78)), (some ((K.ofNat 74), false)), .mv (.t (K.ofNat 2))⟩, ⟨(some (K.ofNat 79)), (some ((K.ofNat 74), false)), .call (.c (.fn (K.ofNat 46) [])) [(.t (K.ofNat 76)), (.t (K.ofNat 77)), (.t (K.ofNat 78))]⟩, ⟨(some (K.ofNat 80)), (some ((K.ofNat 74), false)), .call (.c (.fn (K.ofNat 32) [])) [(.t (K.ofNat 75)), (.t (K.ofNat 79))]⟩, ⟨(some (K.ofNat 81)), (some ((K.ofNat 74), false)), .not (.t (K.ofNat 80))⟩, ⟨(some (K.ofNat 82)), none, .pick (.t (K.ofNat 74)) (.c (.b true)) (.t (K.ofNat 81))⟩]
noncomputable def f8_r12 : List EOper := [⟨(some (K.ofNat 6)), none, .as (.c (.b false))⟩]
noncomputable def f8_r13 : List EOper := [⟨(some (K.ofNat 83)), none, .mv (.t (K.ofNat 7))⟩, ⟨(some (K.ofNat 84)), none, .mv (.t (K.ofNat 8))⟩, ⟨(some (K.ofNat 85)), none, .call (.c (.fn (K.ofNat 33) [])) [(.t (K.ofNat 83)), (.t (K.ofNat 84))]⟩, ⟨(some (K.ofNat 14)), none, .as (.t (K.ofNat 85))⟩]
noncomputable def f8_r14 : List EOper := [⟨(some (K.ofNat 86)), none, .mv (.t (K.ofNat 14))⟩, ⟨(some (K.ofNat 87)), none, .mv (.t (K.ofNat 2))⟩, ⟨(some (K.ofNat 88)), none, .conv .u64 (.t (K.ofNat 87))⟩, ⟨(some (K.ofNat 89)), none, .mv (.t (K.ofNat 14))⟩, ⟨(some (K.ofNat 90)), none, .len (.t (K.ofNat 89))⟩, ⟨(some (K.ofNat 91)), none, .conv .u64 (.t (K.ofNat 90))⟩, ⟨(some (K.ofNat 92)), none, .bin .rem (.t (K.ofNat 88)) (.t (K.ofNat 91))⟩, ⟨(some (K.ofNat 93)), none, .conv .i64 (.t (K.ofNat 92))⟩, ⟨(some (K.ofNat 94)), none, .iads 1 (.t (K.ofNat 86)) (.t (K.ofNat 93))⟩, ⟨(some (K.ofNat 95)), none, .ld (.t (K.ofNat 94))⟩, ⟨(some (K.ofNat 2)), none, .as (.t (K.ofNat 95))⟩]
noncomputable def f8_r15 : List EOper := [⟨(some (K.ofNat 42)), none, .mv (.t (K.ofNat 11))⟩, ⟨(some (K.ofNat 43)), none, .bin .add (.t (K.ofNat 42)) (.c (.i .i64 (.ofNat 1)))⟩, ⟨(some (K.ofNat 11)), none, .as (.t (K.ofNat 43))⟩]
noncomputable def f8_l0 : EC := (.seq (.seq (.reg f8_r6) (.cond (.t (K.ofNat 41)) .skip (.exit 0))) (.seq (.block 1 (.seq (.reg f8_r7) (.seq (.seq (.reg f8_r8) (.cond (.t (K.ofNat 64)) (.seq (.reg f8_r9) (.cond (.t (K.ofNat 71)) (.seq (.reg f8_r10) .ret) .skip)) (.seq (.reg f8_r11) (.cond (.t (K.ofNat 82)) (.seq (.reg f8_r12) .ret) .skip)))) (.seq (.reg f8_r13) (.reg f8_r14))))) (.reg f8_r15)))
noncomputable def f8_r16 : List EOper := [⟨(some (K.ofNat 97)), none, .mv (.t (K.ofNat 7))⟩, ⟨(some (K.ofNat 98)), none, .mv (.t (K.ofNat 8))⟩, ⟨(some (K.ofNat 99)), none, .call (.c (.fn (K.ofNat 28) [])) [(.t (K.ofNat 97)), (.t (K.ofNat 98))]⟩, ⟨(some (K.ofNat 96)), none, .mv (.t (K.ofNat 99))⟩, ⟨(some (K.ofNat 100)), none, .ext (.t (K.ofNat 96)) 0⟩, ⟨(some (K.ofNat 101)), none, .ext (.t (K.ofNat 96)) 1⟩, ⟨(some (K.ofNat 15)), none, .as (.t (K.ofNat 100))⟩, ⟨(some (K.ofNat 16)), none, .as (.t (K.ofNat 101))⟩]
noncomputable def f8_r17 : List EOper := [⟨(some (K.ofNat 102)), none, .mv (.t (K.ofNat 7))⟩, ⟨(some (K.ofNat 103)), none, .mv (.t (K.ofNat 8))⟩, ⟨(some (K.ofNat 104)), none, .call (.c (.fn (K.ofNat 47) [])) [(.t (K.ofNat 102)), (.t (K.ofNat 103))]⟩, ⟨(some (K.ofNat 17)), none, .as (.t (K.ofNat 104))⟩]
noncomputable def f8_r18 : List EOper := [⟨(some (K.ofNat 106)), none, .mv (.t (K.ofNat 17))⟩, ⟨(some (K.ofNat 107)), none, .len (.t (K.ofNat 106))⟩, ⟨(some (K.ofNat 108)), none, .bin .eql (.t (K.ofNat 107)) (.c (.i .i64 (.ofNat 0)))⟩, ⟨(some (K.ofNat 109)), none, .mv (.t (K.ofNat 108))⟩, ⟨(some (K.ofNat 110)), (some ((K.ofNat 109), false)), .mv (.t (K.ofNat 17))⟩, ⟨(some (K.ofNat 111)), (some ((K.ofNat 109), false)), .mv (.t (K.ofNat 17))⟩, ⟨(some (K.ofNat 112)), (some ((K.ofNat 109), false)), .len (.t (K.ofNat 111))⟩, ⟨(some (K.ofNat 113)), (some ((K.ofNat 109), false)), .bin .sub (.t (K.ofNat 112)) (.c (.i .i64 (.ofNat 1)))⟩, ⟨(some (K.ofNat 114)), (some ((K.ofNat 109), false)), .iads 1 (.t (K.ofNat 110)) (.t (K.ofNat 113))⟩, ⟨(some (K.ofNat 115)), (some ((K.ofNat 109), false)), .ld (.t (K.ofNat 114))⟩, ⟨(some (K.ofNat 116)), (some ((K.ofNat 109), false)), .bin .eql (.t (K.ofNat 115)) (.c (.i .i64 (.ofNat 0)))⟩, ⟨(some (K.ofNat 117)), none, .pick (.t (K.ofNat 109)) (.c (.b true)) (.t (K.ofNat 116))⟩, ⟨(some (K.ofNat 105)), none, .as (.t (K.ofNat 117))⟩]
noncomputable def f8_r19 : List EOper := [⟨(some (K.ofNat 118)), none, .mv (.t (K.ofNat 16))⟩, ⟨(some (K.ofNat 119)), none, .bin .eql (.t (K.ofNat 118)) (.c (.i .i64 (.ofNat 4)))⟩, ⟨(some (K.ofNat 120)), none, .mv (.t (K.ofNat 119))⟩, ⟨(some (K.ofNat 121)), (some ((K.ofNat 120), true)), .mv (.t (K.ofNat 15))⟩, ⟨(some (K.ofNat 122)), (some ((K.ofNat 120), true)), .len (.t (K.ofNat 121))⟩, ⟨(some (K.ofNat 123)), (some ((K.ofNat 120), true)), .bin .eql (.t (K.ofNat 122)) (.c (.i .i64 (.ofNat 0)))⟩, ⟨(some (K.ofNat 124)), none, .pick (.t (K.ofNat 120)) (.t (K.ofNat 123)) (.c (.b false))⟩, ⟨(some (K.ofNat 125)), none, .mv (.t (K.ofNat 124))⟩, ⟨(some (K.ofNat 126)), (some ((K.ofNat 125), true)), .call (.c (.fn (K.ofNat 29) [])) []⟩, ⟨(some (K.ofNat 127)), none, .pick (.t (K.ofNat 125)) (.t (K.ofNat 126)) (.c (.b false))⟩, ⟨(some (K.ofNat 6)), none, .as (.t (K.ofNat 127))⟩]
noncomputable def f8_r20 : List EOper := [⟨(some (K.ofNat 129)), none, .mv (.t (K.ofNat 17))⟩, ⟨(some (K.ofNat 130)), none, .len (.t (K.ofNat 129))⟩, ⟨(some (K.ofNat 131)), none, .bin .gtr (.t (K.ofNat 130)) (.c (.i .i64 (.ofNat 10)))⟩, ⟨(some (K.ofNat 128)), none, .as (.t (K.ofNat 131))⟩]
noncomputable def f8_r21 : List EOper := [⟨(some (K.ofNat 132)), none, .mv (.t (K.ofNat 16))⟩, ⟨(some (K.ofNat 133)), none, .bin .eql (.t (K.ofNat 132)) (.c (.i .i64 (.ofNat 8)))⟩, ⟨(some (K.ofNat 134)), none, .mv (.t (K.ofNat 133))⟩, ⟨(some (K.ofNat 135)), (some ((K.ofNat 134), true)), .mv (.t (K.ofNat 15))⟩, ⟨(some (K.ofNat 136)), (some ((K.ofNat 134), true)), .len (.t (K.ofNat 135))⟩, ⟨(some (K.ofNat 137)), (some ((K.ofNat 134), true)), .bin .eql (.t (K.ofNat 136)) (.c (.i .i64 (.ofNat 0)))⟩, ⟨(some (K.ofNat 138)), none, .pick (.t (K.ofNat 134)) (.t (K.ofNat 137)) (.c (.b false))⟩, ⟨(some (K.ofNat 139)), none, .mv (.t (K.ofNat 138))⟩, ⟨(some (K.ofNat 140)), (some ((K.ofNat 139), true)), .call (.c (.fn (K.ofNat 29) [])) []⟩, ⟨(some (K.ofNat 141)), none, .pick (.t (K.ofNat 139)) (.t (K.ofNat 140)) (.c (.b false))⟩, ⟨(some (K.ofNat 6)), none, .as (.t (K.ofNat 141))⟩]
noncomputable def f8_r22 : List EOper := [⟨(some (K.ofNat 142)), none, .mv (.t (K.ofNat 16))⟩, ⟨(some (K.ofNat 143)), none, .bin .eql (.t (K.ofNat 142)) (.c (.i .i64 (.ofNat 0)))⟩, ⟨(some (K.ofNat 144)), none, .mv (.t (K.ofNat 143))⟩, ⟨(some (K.ofNat 145)), (some ((K.ofNat 144), true)), .mv (.t (K.ofNat 15))⟩, ⟨(some (K.ofNat 146)), (some ((K.ofNat 144), true)), .mv (.t (K.ofNat 17))⟩, ⟨(some (K.ofNat 147)), (some ((K.ofNat 144), true)), .call (.c (.fn (K.ofNat 32) [])) [(.t (K.ofNat 145)), (.t (K.ofNat 146))]⟩, ⟨(some (K.ofNat 148)), none, .pick (.t (K.ofNat 144)) (.t (K.ofNat 147)) (.c (.b false))⟩, ⟨(some (K.ofNat 149)), none, .mv (.t (K.ofNat 148))⟩, ⟨(some (K.ofNat 150)), (some ((K.ofNat 149), true)), .call (.c (.fn (K.ofNat 29) [])) []⟩, ⟨(some (K.ofNat 151)), none, .pick (.t (K.ofNat 149)) (.t (K.ofNat 150)) (.c (.b false))⟩, ⟨(some (K.ofNat 6)), none, .as (.t (K.ofNat 151))⟩]
noncomputable def f8_c : EC := (.seq (.reg f8_r0) (.seq (.reg f8_r1) (.seq (.reg f8_r2) (.seq (.seq (.reg f8_r3) (.cond (.t (K.ofNat 39)) (.seq (.reg f8_r4) .ret) .skip)) (.seq (.seq (.reg f8_r5) (.block 0 (.loop f8_l0))) (.seq (.reg f8_r16) (.seq (.reg f8_r17) (.seq (.block 2 (.seq (.reg f8_r18) (.cond (.t (K.ofNat 105)) (.seq (.reg f8_r19) .ret) (.seq (.reg f8_r20) (.cond (.t (K.ofNat 128)) (.seq (.reg f8_r21) .ret) .skip))))) (.seq (.reg f8_r22) .ret)))))))))
noncomputable def f8 : EF := ⟨152, [.tmp (K.ofNat 6)], f8_c, none⟩
section
variable {fs : T EF} {ro : Option K}
structure Calls8 (fs : T EF) : Prop where
  p53 : ∀ a b h P, CallP fs (.fn (K.ofNat 53) []) [.i .i64 a, .i .i64 b] h P = P (.b (ptI a b)) h
  p54 : ∀ a b h P, CallP fs (.fn (K.ofNat 54) []) [.i .i64 a, .i .i64 b] h P = P (.b (ptI a b)) h
  p52 : ∀ m : Nat, m < 64 → ∀ h P, CallP fs (.fn (K.ofNat 52) []) [.i .i64 (m : Int)] h P = P (.i .i64 (pop6 m : Int)) h
  p75 : ∀ m : Nat, m < 64 → ∀ h P, CallP fs (.fn (K.ofNat 75) []) [.i .i64 (m : Int)] h P = P (.i .i64 (pop6 m : Int)) h
  aw : ∀ h P, CallP fs (.fn (K.ofNat 29) []) [] h P = P (.b true) h
  c32 : ∀ h v u L M P, Sl iE h v L → Sl iE h u M → L.length ≤ 1000000 → P (.b (decide (L = M))) h → CallP fs (.fn (K.ofNat 32) []) [v, u] h P
  pt : ∃ ef, fs.get (K.ofNat 54) = some ef ∧ ef.nv = some (flatG partG)
  c16 : fs.get (K.ofNat 16) = some f16
  c26 : fs.get (K.ofNat 26) = some f26
  c27 : fs.get (K.ofNat 27) = some f27
  c28 : fs.get (K.ofNat 28) = some f28
  c30 : fs.get (K.ofNat 30) = some f30
  c31 : fs.get (K.ofNat 31) = some f31
  c33 : fs.get (K.ofNat 33) = some f33
  c44 : fs.get (K.ofNat 44) = some f44
  c45 : fs.get (K.ofNat 45) = some f45
  c46 : fs.get (K.ofNat 46) = some f46
  c47 : fs.get (K.ofNat 47) = some f47
  c49 : fs.get (K.ofNat 49) = some f49
  c55 : fs.get (K.ofNat 55) = some f55
  c57 : fs.get (K.ofNat 57) = some f57
  c64 : fs.get (K.ofNat 64) = some f64
  c65 : fs.get (K.ofNat 65) = some f65
  c66 : fs.get (K.ofNat 66) = some f66
  c67 : fs.get (K.ofNat 67) = some f67
  c68 : fs.get (K.ofNat 68) = some f68
  c73 : fs.get (K.ofNat 73) = some f73
  c74 : fs.get (K.ofNat 74) = some f74
  c78 : fs.get (K.ofNat 78) = some f78
  c82 : fs.get (K.ofNat 82) = some f82
  c83 : fs.get (K.ofNat 83) = some f83
  c89 : fs.get (K.ofNat 89) = some f89
  c91 : fs.get (K.ofNat 91) = some alF
  c92 : fs.get (K.ofNat 92) = some coF
  c93 : fs.get (K.ofNat 93) = some f93
  c94 : fs.get (K.ofNat 94) = some f94
structure Facts8 (N : Int) (P : List Int) : Prop where
  chk : chkS N P = 0
  len : P.length ≤ 10
  sets : Sets P
  sz : ∀ k ∈ facN P (2 ^ N.toNat), pop6 k ≤ maxS P
  ne : 1 ≤ (cntS (mem64 (famB P))).length
  hol : hollS (cntS (mem64 (famB P))) (famB P) = rhTo (facN P (2 ^ N.toNat)) (maxS P)
  bad : ∀ f : Int, badF (famB P) f = (decide (f < 0) || (decide ((2 : Int) ^ N.toNat ≤ f) || !isF P f))
  lnk : ∀ f : Nat, f < 64 → famB P f = true → topsTo (linkB (famB P) f) 64 = piecesTo (lkR P f (2 ^ N.toNat)) 64
  du : topsTo (dualB (famB P) (2 ^ N.toNat - 1)) 64 = piecesTo (duR P (2 ^ N.toNat - 1) (2 ^ N.toNat - 1 + 1)) 64
  du0 : ∀ D, D = piecesTo (duR P (2 ^ N.toNat - 1) (2 ^ N.toNat - 1 + 1)) 64 → ∀ h : 0 < D.length, (D[0]? = some 0 ↔ D[D.length - 1]'(by omega) = 0)
  fne : 1 ≤ (facTo P (2 ^ N.toNat)).length
end
end Go.Ev
namespace Go.Ev
open Go Go.RowKit
theorem fam_iff {S : List Int} (hS : Sets S) {y : Nat} (hy : y < 64) : famB S y = true ↔ ∃ t : Nat, t < 64 ∧ (t : Int) ∈ S ∧ y &&& t = y := by
  unfold famB
  rw [List.any_eq_true]
  constructor
  · rintro ⟨s, hs, h⟩
    obtain ⟨t, ht, rfl⟩ := hS s hs
    rw [ptI_nat hy ht, decide_eq_true_eq] at h
    exact ⟨t, ht, hs, h⟩
  · rintro ⟨t, ht, hs, h⟩
    exact ⟨_, hs, by rw [ptI_nat hy ht, decide_eq_true_eq]; exact h⟩
theorem self_or {x f : Nat} : x &&& (x ||| f) = x := by
  apply Nat.eq_of_testBit_eq
  intro i
  simp only [Nat.testBit_and, Nat.testBit_or]
  cases x.testBit i <;> cases f.testBit i <;> rfl
theorem sets_map {l : List Nat} (h : ∀ k ∈ l, k < 64) : Sets (l.map fun (k : Nat) => (k : Int)) := by
  intro s hs
  obtain ⟨k, hk, rfl⟩ := List.mem_map.1 hs
  exact ⟨k, h k hk, rfl⟩
end Go.Ev
namespace Go.Ev
open Go Go.RowKit
theorem opp_one : ∀ x, x < 64 → ∀ z, z < 64 → x &&& z ≠ x → ∀ c ∈ cornN x, lessC x c &&& z = lessC x c → lessC x z = c := by decide +kernel
theorem one_opp : ∀ x, x < 64 → ∀ z, z < 64 → pop6 (lessC x z) = 1 → lessC x z ∈ cornN x ∧ lessC x (lessC x z) &&& z = lessC x (lessC x z) := by decide +kernel
theorem corn_pop : ∀ x, x < 64 → ∀ c ∈ cornN x, pop6 c = 1 := by decide +kernel
theorem corn_or : ∀ x, x < 64 → ∀ c ∈ cornN x, ∀ y, y < 64 → c &&& y = c ∨ c &&& y = 0 := by decide +kernel
theorem corn_ne : ∀ x, x < 64 → ∀ c ∈ cornN x, c ≠ 0 := by decide +kernel
theorem or_sub_iff {a b y : Nat} : (a ||| b) &&& y = a ||| b ↔ a &&& y = a ∧ b &&& y = b := by
  constructor
  · intro h
    constructor
    · exact sub_trans self_or h
    · exact sub_trans (by rw [Nat.or_comm]; exact self_or) h
  · rintro ⟨h1, h2⟩
    rw [Nat.and_or_distrib_right, h1, h2]
theorem fold_sub {p : Nat → Bool} {y : Nat} : ∀ (l : List Nat), ((l.foldl (fun s c => if p c = true then s ||| c else s) 0) &&& y = l.foldl (fun s c => if p c = true then s ||| c else s) 0) ↔ ∀ c ∈ l, p c = true → c &&& y = c := by
  intro l
  refine snoc_ind (P := fun l => ((l.foldl (fun s c => if p c = true then s ||| c else s) 0) &&& y = l.foldl (fun s c => if p c = true then s ||| c else s) 0) ↔ ∀ c ∈ l, p c = true → c &&& y = c) (by simp) (fun l a ih => ?_) l
  rw [List.foldl_append]
  show ((if p a = true then _ ||| a else _) &&& y = if p a = true then _ ||| a else _) ↔ _
  by_cases e : p a = true
  · rw [if_pos e, or_sub_iff, ih]
    constructor
    · rintro ⟨h1, h2⟩ c hc hp
      rcases List.mem_append.1 hc with h | h
      · exact h1 c h hp
      · rw [List.mem_singleton.1 h]; exact h2
    · intro h
      exact ⟨fun c hc hp => h c (List.mem_append_left _ hc) hp, h a (by simp) e⟩
  · rw [if_neg e, ih]
    constructor
    · intro h1 c hc hp
      rcases List.mem_append.1 hc with h | h
      · exact h1 c h hp
      · rw [List.mem_singleton.1 h] at hp; exact absurd hp e
    · intro h c hc hp
      exact h c (List.mem_append_left _ hc) hp
theorem newPS_lt {x : Nat} {S : List Int} (hx : x < 64) : newPS x S < 64 := by
  have := npTo_lt (S := S) hx (cornN x).length (Nat.le_refl _)
  rwa [show npTo x S (cornN x).length = newPS x S by unfold npTo newPS; rw [List.take_length]] at this
theorem opp_iff {x c : Nat} {B : List Nat} (hx : x < 64) (hB : ∀ z ∈ B, z < 64) : oppS x c (castL B) = true ↔ ∃ z ∈ B, lessC x c &&& z = lessC x c := by
  unfold oppS castL
  rw [List.any_eq_true]
  have hl := @less_le x c
  constructor
  · rintro ⟨s, hs, h⟩
    obtain ⟨z, hz, rfl⟩ := List.mem_map.1 hs
    have hz64 := hB z hz
    rw [ptI_nat (by omega) (by omega), decide_eq_true_eq] at h
    exact ⟨z, hz, h⟩
  · rintro ⟨z, hz, h⟩
    have hz64 := hB z hz
    exact ⟨_, List.mem_map.2 ⟨z, hz, rfl⟩, by rw [ptI_nat (by omega) (by omega), decide_eq_true_eq]; exact h⟩
/-- A piece fits if each piece before it misses a corner whose opposite side lies in some piece before. -/
theorem fits_iff {x : Nat} {B : List Nat} (hx : x < 64) (hB : ∀ z ∈ B, z < 64) (ha : ∀ z ∈ B, x &&& z ≠ x) :
    fitS x (castL B) = true ↔ ∀ y ∈ B, ∃ z ∈ B, pop6 (lessC x z) = 1 ∧ lessC x z &&& y = 0 := by
  have key : ∀ y ∈ B, (ptI (newPS x (castL B) : Int) (y : Int) = false ↔ ∃ z ∈ B, pop6 (lessC x z) = 1 ∧ lessC x z &&& y = 0) := by
    intro y hy
    have hy64 := hB y hy
    rw [ptI_nat (newPS_lt hx) hy64, decide_eq_false_iff_not]
    unfold newPS
    rw [fold_sub]
    constructor
    · intro h
      have h2 : ∃ c ∈ cornN x, oppS x c (castL B) = true ∧ ¬ c &&& y = c := by
        apply Classical.byContradiction
        intro hn
        exact h fun c hc hp => Classical.byContradiction fun hne => hn ⟨c, hc, hp, hne⟩
      obtain ⟨c, hc, ho, hne⟩ := h2
      obtain ⟨z, hz, hs⟩ := (opp_iff hx hB).1 ho
      have e := opp_one x hx z (hB z hz) (ha z hz) c hc hs
      refine ⟨z, hz, by rw [e]; exact corn_pop x hx c hc, ?_⟩
      rw [e]
      rcases corn_or x hx c hc y hy64 with h3 | h3
      · exact absurd h3 hne
      · exact h3
    · rintro ⟨z, hz, h1, h2⟩ h
      obtain ⟨hc, hs⟩ := one_opp x hx z (hB z hz) h1
      have := h _ hc ((opp_iff hx hB).2 ⟨z, hz, hs⟩)
      rw [h2] at this
      exact corn_ne x hx _ hc this.symm
  unfold fitS
  rw [List.all_eq_true]
  constructor
  · intro h y hy
    have := h _ (List.mem_map.2 ⟨y, hy, rfl⟩)
    exact (key y hy).1 (by simpa using this)
  · intro h s hs
    obtain ⟨y, hy, rfl⟩ := List.mem_map.1 hs
    have := (key y hy).2 (h y hy)
    simpa using this
theorem nextR_iff {Q : List Nat} {m i : Nat} : nextR Q m i = true ↔ ∀ a, a < Q.length → m / 2 ^ a % 2 = 1 → ∃ b, b < Q.length ∧ m / 2 ^ b % 2 = 1 ∧ pop6 (lessC (Q.getD i 0) (Q.getD b 0)) = 1 ∧ lessC (Q.getD i 0) (Q.getD b 0) &&& Q.getD a 0 = 0 := by
  unfold nextR nxB nxA nxC
  simp only [List.all_eq_true, List.mem_range, Bool.or_eq_true, decide_eq_true_eq, List.any_eq_true, Bool.and_eq_true]
  constructor
  · intro h a ha h1
    rcases h a ha with h2 | ⟨b, h3, h4, h5, h6⟩
    · omega
    · exact ⟨b, h3, h4, h5, h6⟩
  · intro h a ha
    by_cases e : m / 2 ^ a % 2 = 0
    · exact .inl e
    · obtain ⟨b, h3, h4, h5, h6⟩ := h a ha (by omega)
      exact .inr ⟨b, h3, h4, h5, h6⟩
/-- Both say the same, if m is the set of the pieces before. -/
theorem fits_next {Q B : List Nat} {m i : Nat} (hi : i < Q.length) (hQ : ∀ y ∈ Q, y < 64) (ha : ∀ j, j < Q.length → j ≠ i → Q.getD i 0 &&& Q.getD j 0 ≠ Q.getD i 0)
    (hm : m / 2 ^ i % 2 = 0) (hB : ∀ z, z ∈ B ↔ ∃ j, j < Q.length ∧ m / 2 ^ j % 2 = 1 ∧ Q.getD j 0 = z) : fitS (Q.getD i 0) (castL B) = nextR Q m i := by
  have hQ' : ∀ j, j < Q.length → Q.getD j 0 < 64 := fun j hj => by
    have := hQ _ (List.getElem_mem hj)
    simpa [List.getD, hj] using this
  have h64 : ∀ z ∈ B, z < 64 := fun z hz => by
    obtain ⟨j, hj, _, rfl⟩ := (hB z).1 hz
    exact hQ' j hj
  have hanti : ∀ z ∈ B, Q.getD i 0 &&& z ≠ Q.getD i 0 := fun z hz => by
    obtain ⟨j, hj, h1, rfl⟩ := (hB z).1 hz
    exact ha j hj fun e => by rw [e] at h1; omega
  rw [Bool.eq_iff_iff, fits_iff (hQ' i hi) h64 hanti, nextR_iff]
  constructor
  · intro h a hal h1
    obtain ⟨z, hz, h2, h3⟩ := h _ ((hB _).2 ⟨a, hal, h1, rfl⟩)
    obtain ⟨b, hb, h4, rfl⟩ := (hB z).1 hz
    exact ⟨b, hb, h4, h2, h3⟩
  · intro h y hy
    obtain ⟨a, hal, h1, rfl⟩ := (hB y).1 hy
    obtain ⟨b, hb, h2, h3, h4⟩ := h a hal h1
    exact ⟨_, (hB _).2 ⟨b, hb, h2, rfl⟩, h3, h4⟩
end Go.Ev
namespace Go.Ev
open Go Go.RowKit
/-- From m the rest can follow. -/
inductive Fin0 (Q : List Nat) : Nat → Prop
  | full : Fin0 Q (2 ^ Q.length - 1)
  | step {m i : Nat} : okN Q m i → Fin0 Q (m ||| 2 ^ i) → Fin0 Q m
/-- The set of the indices. -/
def setO (O : List Nat) : Nat := O.foldl (fun s i => s ||| 2 ^ i) 0
theorem setO_snoc {O : List Nat} {i : Nat} : setO (O ++ [i]) = setO O ||| 2 ^ i := by unfold setO; rw [List.foldl_append]; rfl
theorem setO_bit (O : List Nat) (j : Nat) : (setO O).testBit j = decide (j ∈ O) := by
  refine snoc_ind (P := fun O => (setO O).testBit j = decide (j ∈ O)) (by simp [setO]) (fun l a ih => ?_) O
  rw [setO_snoc, Nat.testBit_or, ih, Nat.testBit_two_pow]
  by_cases e : a = j
  · subst e; simp
  · by_cases e2 : j ∈ l
    · simp [e2]
    · simp [e2, e, Ne.symm e]
theorem bit_iff {m j : Nat} : m.testBit j = true ↔ m / 2 ^ j % 2 = 1 := by rw [Nat.testBit_eq_decide_div_mod_eq, decide_eq_true_eq]
theorem bit_iff0 {m j : Nat} : m.testBit j = false ↔ m / 2 ^ j % 2 = 0 := by rw [Nat.testBit_eq_decide_div_mod_eq, decide_eq_false_iff_not]; omega
theorem setO_mem {O : List Nat} {j : Nat} : setO O / 2 ^ j % 2 = 1 ↔ j ∈ O := by rw [← bit_iff, setO_bit, decide_eq_true_eq]
theorem setO_not {O : List Nat} {j : Nat} : setO O / 2 ^ j % 2 = 0 ↔ j ∉ O := by rw [← bit_iff0, setO_bit, decide_eq_false_iff_not]
theorem setO_lt {O : List Nat} {n : Nat} (h : ∀ i ∈ O, i < n) : setO O < 2 ^ n := by
  revert h
  refine snoc_ind (P := fun O => (∀ i ∈ O, i < n) → setO O < 2 ^ n) (fun _ => Nat.two_pow_pos n) (fun l a ih h => ?_) O
  rw [setO_snoc]
  exact Nat.or_lt_two_pow (ih fun i hi => h i (List.mem_append_left _ hi)) (Nat.pow_lt_pow_right (by omega) (h a (by simp)))
/-- An order in which each piece may come next. -/
inductive Ord (Q : List Nat) : List Nat → Prop
  | nil : Ord Q []
  | snoc {O : List Nat} {i : Nat} : Ord Q O → okN Q (setO O) i → Ord Q (O ++ [i])
theorem Ord.lt {Q O : List Nat} (h : Ord Q O) : ∀ i ∈ O, i < Q.length := by
  induction h with
  | nil => intro i hi; cases hi
  | snoc _ ho ih =>
    intro i hi
    rcases List.mem_append.1 hi with h | h
    · exact ih i h
    · rw [List.mem_singleton.1 h]; exact ho.1
theorem nodup_len : ∀ (n : Nat) (O : List Nat), O.Nodup → (∀ i ∈ O, i < n) → O.length ≤ n ∧ (O.length = n → ∀ j, j < n → j ∈ O)
  | 0, [], _, _ => ⟨Nat.le_refl _, fun _ j hj => by omega⟩
  | 0, a :: l, _, h => absurd (h a List.mem_cons_self) (by omega)
  | n + 1, O, hd, h => by
    have hd2 : (O.erase n).Nodup := hd.erase n
    have h2 : ∀ i ∈ O.erase n, i < n := fun i hi => by
      have h3 := h i (List.mem_of_mem_erase hi)
      have h4 : i ≠ n := ((List.Nodup.mem_erase_iff hd).1 hi).1
      omega
    obtain ⟨q1, q2⟩ := nodup_len n (O.erase n) hd2 h2
    by_cases e : n ∈ O
    · have hl := List.length_erase_of_mem e
      have : 1 ≤ O.length := List.length_pos_of_mem e
      refine ⟨by omega, fun h5 j hj => ?_⟩
      by_cases e2 : j = n
      · rw [e2]; exact e
      · exact List.mem_of_mem_erase (q2 (by omega) j (by omega))
    · rw [List.erase_of_not_mem e] at q1 q2
      refine ⟨by omega, fun h5 => by omega⟩
theorem Ord.nodup {Q O : List Nat} (h : Ord Q O) : O.Nodup := by
  induction h with
  | nil => exact List.nodup_nil
  | snoc hh ho ih =>
    rw [List.nodup_append]
    refine ⟨ih, by simp, ?_⟩
    intro a ha b hb e
    rw [List.mem_singleton.1 hb] at e
    subst e
    exact setO_not.1 ho.2.1 ha
theorem Ord.len {Q O : List Nat} (h : Ord Q O) : O.length ≤ Q.length := (nodup_len _ _ h.nodup h.lt).1
theorem Ord.full {Q O : List Nat} (h : Ord Q O) (hl : O.length = Q.length) : setO O = 2 ^ Q.length - 1 := by
  apply Nat.eq_of_testBit_eq
  intro j
  rw [setO_bit, Nat.testBit_two_pow_sub_one]
  by_cases e : j < Q.length
  · rw [decide_eq_true e, decide_eq_true ((nodup_len _ _ h.nodup h.lt).2 hl j e)]
  · rw [decide_eq_false e, decide_eq_false fun hm => e (h.lt j hm)]
theorem Ord.fin {Q O : List Nat} (h : Ord Q O) : Fin0 Q (setO O) → Fin0 Q 0 := by
  induction h with
  | nil => exact fun h => h
  | snoc _ ho ih => exact fun h => ih (.step ho (by rw [← setO_snoc]; exact h))
/-- What was tried: sets from which the rest can't follow, or those of a beginning of the order. -/
structure Tri (Q : List Nat) (M : List (List Bool)) (O : List Nat) : Prop where
  len : ∀ x ∈ M, x.length = 10
  bad : ∀ x ∈ M, (∃ m, m < 1024 ∧ x = arr (fun i => m.testBit i) 10 ∧ ¬ Fin0 Q m) ∨ ∃ k, k < O.length ∧ x = arr (fun i => (setO (O.take k)).testBit i) 10
theorem arr_bits {a b : Nat} (ha : a < 1024) (hb : b < 1024) (h : arr (fun i => a.testBit i) 10 = arr (fun i => b.testBit i) 10) : a = b := by
  apply Nat.eq_of_testBit_eq
  intro j
  by_cases e : j < 10
  · have := congrArg (fun l => l[j]?) h
    simpa [arr, e] using this
  · have h1 : (2 : Nat) ^ 10 ≤ 2 ^ j := Nat.pow_le_pow_right (by omega) (by omega)
    rw [Nat.testBit_lt_two_pow (by omega), Nat.testBit_lt_two_pow (by omega)]
theorem setO_len {O : List Nat} (hd : O.Nodup) {k : Nat} (hk : k < O.length) : setO (O.take k) ≠ setO O := by
  intro e
  have h1 : O[k] ∈ O := List.getElem_mem hk
  have h2 := setO_mem.2 h1
  rw [← e] at h2
  have h3 := setO_mem.1 h2
  rw [List.nodup_iff_pairwise_ne, List.pairwise_iff_getElem] at hd
  obtain ⟨j, hj, e2⟩ := List.getElem_of_mem h3
  have hj' : j < k := by simp at hj; omega
  rw [List.getElem_take] at e2
  exact hd j k (by omega) hk hj' e2
theorem Tri.hit {Q M : List _} {O : List Nat} (t : Tri Q M O) (ho : Ord Q O) (hQ : Q.length ≤ 10) (hm : arr (fun i => (setO O).testBit i) 10 ∈ M) : ¬ Fin0 Q (setO O) := by
  have h10 : ∀ {P : List Nat}, (∀ i ∈ P, i < Q.length) → setO P < 1024 := fun {P} h => by
    have := setO_lt h
    have h2 : 2 ^ Q.length ≤ 2 ^ 10 := Nat.pow_le_pow_right (by omega) hQ
    omega
  rcases t.bad _ hm with ⟨m, h1, h2, h3⟩ | ⟨k, h1, h2⟩
  · rw [arr_bits (h10 ho.lt) h1 h2]; exact h3
  · have := arr_bits (h10 ho.lt) (h10 fun i hi => ho.lt i (List.mem_of_mem_take hi)) h2
    exact absurd this.symm (setO_len ho.nodup h1)
theorem Tri.enter {Q M : List _} {O : List Nat} {i : Nat} (t : Tri Q M O) : Tri Q (M ++ [arr (fun i => (setO O).testBit i) 10]) (O ++ [i]) := by
  refine ⟨fun x hx => ?_, fun x hx => ?_⟩
  · rcases List.mem_append.1 hx with h | h
    · exact t.len x h
    · rw [List.mem_singleton.1 h, arr_len]
  · rcases List.mem_append.1 hx with h | h
    · rcases t.bad x h with h2 | ⟨k, h2, h3⟩
      · exact .inl h2
      · exact .inr ⟨k, by simp; omega, by rw [List.take_append_of_le_length (by omega)]; exact h3⟩
    · rw [List.mem_singleton.1 h]
      exact .inr ⟨O.length, by simp, by rw [List.take_append_of_le_length (by omega), List.take_length]⟩
/-- While the pieces are gone through: the set itself is there too. -/
structure Tri1 (Q : List Nat) (M : List (List Bool)) (O : List Nat) : Prop where
  len : ∀ x ∈ M, x.length = 10
  bad : ∀ x ∈ M, (∃ m, m < 1024 ∧ x = arr (fun i => m.testBit i) 10 ∧ ¬ Fin0 Q m) ∨ ∃ k, k ≤ O.length ∧ x = arr (fun i => (setO (O.take k)).testBit i) 10
theorem Tri.add {Q M : List _} {O : List Nat} (t : Tri Q M O) : Tri1 Q (M ++ [arr (fun i => (setO O).testBit i) 10]) O := by
  refine ⟨fun x hx => ?_, fun x hx => ?_⟩
  · rcases List.mem_append.1 hx with h | h
    · exact t.len x h
    · rw [List.mem_singleton.1 h, arr_len]
  · rcases List.mem_append.1 hx with h | h
    · rcases t.bad x h with h2 | ⟨k, h2, h3⟩
      · exact .inl h2
      · exact .inr ⟨k, by omega, h3⟩
    · rw [List.mem_singleton.1 h]
      exact .inr ⟨O.length, Nat.le_refl _, by rw [List.take_length]⟩
theorem Tri1.down {Q M : List _} {O : List Nat} {i : Nat} (t : Tri1 Q M O) : Tri Q M (O ++ [i]) :=
  ⟨t.len, fun x hx => by
    rcases t.bad x hx with h2 | ⟨k, h2, h3⟩
    · exact .inl h2
    · exact .inr ⟨k, by simp; omega, by rw [List.take_append_of_le_length (by omega)]; exact h3⟩⟩
theorem Tri.up {Q M : List _} {O : List Nat} {i : Nat} (t : Tri Q M (O ++ [i])) : Tri1 Q M O :=
  ⟨t.len, fun x hx => by
    rcases t.bad x hx with h2 | ⟨k, h2, h3⟩
    · exact .inl h2
    · simp only [List.length_append, List.length_cons, List.length_nil] at h2
      exact .inr ⟨k, by omega, by rw [List.take_append_of_le_length (by omega)] at h3; exact h3⟩⟩
theorem Tri1.out {Q M : List _} {O : List Nat} (t : Tri1 Q M O) (ho : Ord Q O) (hQ : Q.length ≤ 10) (hf : ¬ Fin0 Q (setO O)) : Tri Q M O :=
  ⟨t.len, fun x hx => by
    rcases t.bad x hx with h2 | ⟨k, h2, h3⟩
    · exact .inl h2
    · by_cases e : k = O.length
      · subst e
        rw [List.take_length] at h3
        have h4 := setO_lt ho.lt
        have h5 : 2 ^ Q.length ≤ 2 ^ 10 := Nat.pow_le_pow_right (by omega) hQ
        exact .inl ⟨_, by omega, h3, hf⟩
      · exact .inr ⟨k, by omega, h3⟩⟩
theorem cover_len : ∀ (n : Nat) (O : List Nat), (∀ j, j < n → j ∈ O) → n ≤ O.length
  | 0, _, _ => Nat.zero_le _
  | n + 1, O, h => by
    have e := h n (by omega)
    have hl := List.length_erase_of_mem e
    have : 1 ≤ O.length := List.length_pos_of_mem e
    have := cover_len n (O.erase n) fun j hj => (List.mem_erase_of_ne (by omega)).2 (h j (by omega))
    omega
/-- If no piece can come next such that the rest can follow, and some are left, the rest can't follow. -/
theorem no_fin {Q O : List Nat} (ho : Ord Q O) (hl : O.length < Q.length) (h : ∀ i, i < Q.length → okN Q (setO O) i → ¬ Fin0 Q (setO (O ++ [i]))) : ¬ Fin0 Q (setO O) := by
  intro hf
  generalize hm : setO O = m at hf
  cases hf with
  | full =>
    have h1 : ∀ j, j < Q.length → j ∈ O := fun j hj => by
      have : (setO O).testBit j = true := by rw [hm, Nat.testBit_two_pow_sub_one, decide_eq_true hj]
      rwa [setO_bit, decide_eq_true_eq] at this
    have : Q.length ≤ O.length := by
      exact cover_len _ _ h1
    omega
  | step hk hf => exact h _ hk.1 (by rw [hm]; exact hk) (by rw [setO_snoc, hm]; exact hf)
end Go.Ev
namespace Go.Ev
open Go Go.RowKit
section
variable {α : Type} {e : α → V} {h h' : H} {v : V} {L : List α}
theorem Sl.map {β : Type} {e : β → V} {f : α → β} (hs : Sl (fun x => e (f x)) h v L) : Sl e h v (L.map f) := by
  rcases hs with ⟨rfl, rfl⟩ | ⟨id, off, m, cs, rfl, hb, hl, hm, hx⟩
  · exact .inl ⟨rfl, rfl⟩
  · exact .inr ⟨id, off, m, cs, by rw [List.length_map], hb, hl, by rw [List.length_map]; exact hm, fun i hi => by
      have hi' : i < L.length := by simpa using hi
      rw [hx i hi', List.getElem_map]⟩
theorem cellsN_arr {f : Nat → α} {n : Nat} : cellsN n (.agg ((arr f n).map e)) = some ((arr f n).map e) := by
  show (bif Nat.beq (lenL ((arr f n).map e)) n then some ((arr f n).map e) else none) = _
  rw [lenL_eq, List.length_map, arr_len, Nat.beq_refl]; rfl
theorem Ar.box {f : Nat → α} {n : Nat} : Ar e (h.new (.cells n ((arr f n).map e))) h.nx (arr f n) := by
  unfold Ar; rw [get_new_same, arr_len]
/-- The whole array is stored. -/
theorem Ar.stn {f g : Nat → α} {n : Nat} {id : K} (ha : Ar e h id (arr f n)) : storeV h n (.p id 0) (.agg ((arr g n).map e)) = .ok undefV (h.put id (.cells n ((arr g n).map e))) := by
  unfold Ar at ha
  rw [arr_len] at ha
  rw [store_p ha cellsN_arr (by omega), setMany_eq _ _ _ (by simp [arr]), List.take_zero, List.nil_append, List.drop_eq_nil_of_le (by simp [arr]), List.append_nil]
end
/-- Two slices in different blocks. -/
def Apart (o w : V) : Prop := ∀ id off n sz, o = .sl id off n sz → NotIn id w
theorem Apart.symm {o w : V} (h : Apart o w) : Apart w o := fun id off n sz e off' n' sz' e' => h id off' n' sz' e' off n sz e
structure Ids where
  (P O B M T F : K)
structure IdsOk (b c : Nat) (d : Ids) : Prop where
  a1 : b ≤ d.P.nat
  a2 : d.P.nat < d.O.nat
  a3 : d.O.nat < d.B.nat
  a4 : d.B.nat < d.M.nat
  a5 : d.M.nat < d.T.nat
  a6 : d.T.nat < d.F.nat
  a7 : d.F.nat < c
noncomputable def capsF (d : Ids) : List V := [.p d.O 0, .p d.P 0, .p d.T 0, .p d.B 0, .p d.F 0]
structure FSt (b c : Nat) (h0 : H) (d : Ids) (v : V) (Q : List Nat) (M : List (List Bool)) (O : List Nat) (o w : V) (h : H) : Prop where
  gr : Grow b h0 h
  nx : c ≤ h.nx.nat
  eP : h.get d.P = .cells 1 [v]
  eO : h.get d.O = .cells 1 [o]
  eB : h.get d.B = .cells 1 [w]
  eM : MapI h d.M 89 M
  eT : h.get d.T = .cells 1 [.m d.M]
  eF : h.get d.F = .cells 1 [.fn (K.ofNat 79) (capsF d)]
  so : Sl nE h o O
  sw : Sl nE h w (O.map fun i => Q.getD i 0)
  oo : Own c o
  ow : Own c w
  ap : Apart o w
  /-- What lies beside stays. -/
def Kept (c : Nat) (h : H) (o w : V) (h' : H) (o' w' : V) : Prop := h.nx.nat ≤ h'.nx.nat ∧ ∀ id : K, c ≤ id.nat → id.nat < h.nx.nat → NotIn id o → NotIn id w → h'.get id = h.get id ∧ NotIn id o' ∧ NotIn id w'
theorem Kept.refl {c : Nat} {h : H} {o w : V} : Kept c h o w h o w := ⟨Nat.le_refl _, fun _ _ _ h1 h2 => ⟨rfl, h1, h2⟩⟩
theorem Kept.trans {c : Nat} {h h1 h2 : H} {o w o1 w1 o2 w2 : V} (k : Kept c h o w h1 o1 w1) (l : Kept c h1 o1 w1 h2 o2 w2) : Kept c h o w h2 o2 w2 := by
  refine ⟨Nat.le_trans k.1 l.1, fun id h1 h2 h3 h4 => ?_⟩
  obtain ⟨q1, q2, q3⟩ := k.2 id h1 h2 h3 h4
  have := k.1
  obtain ⟨q4, q5, q6⟩ := l.2 id h1 (by omega) q2 q3
  exact ⟨q4.trans q1, q5, q6⟩
theorem Kept.grow {c : Nat} {h h' : H} {o w : V} (g : Grow h.nx.nat h h') : Kept c h o w h' o w := ⟨g.nx, fun id _ h2 h3 h4 => ⟨g.old id h2, h3, h4⟩⟩
theorem Kept.put {c : Nat} {h : H} {o w : V} {id : K} {x : Blk} (hi : id.nat < c) : Kept c h o w (h.put id x) o w := ⟨Nat.le_refl _, fun id' h1 _ h3 h4 => ⟨get_put_other (kNe (by omega)).symm, h3, h4⟩⟩
section
variable {b c : Nat} {h0 h h' : H} {d : Ids} {v : V} {Q O : List Nat} {M : List (List Bool)} {o w : V}
theorem FSt.hc (t : FSt b c h0 d v Q M O o w h) (h1 : HC h0) : HC h := t.gr.hc h1
theorem FSt.grow (t : FSt b c h0 d v Q M O o w h) (h1 : HC h0) (k : IdsOk b c d) (g : Grow h.nx.nat h h') : FSt b c h0 d v Q M O o w h' := by
  have := t.nx; have := g.nx; obtain ⟨a1, a2, a3, a4, a5, a6, a7⟩ := k
  have hc := t.hc h1
  exact ⟨t.gr.trans (g.low (by omega)), by omega, by rw [g.old _ (by omega)]; exact t.eP, by rw [g.old _ (by omega)]; exact t.eO, by rw [g.old _ (by omega)]; exact t.eB, by unfold MapI; rw [g.old _ (by omega)]; exact t.eM,
    by rw [g.old _ (by omega)]; exact t.eT, by rw [g.old _ (by omega)]; exact t.eF, t.so.grow hc g, t.sw.grow hc g, t.oo, t.ow, t.ap⟩
/-- The map gets an entry. -/
theorem FSt.mark (t : FSt b c h0 d v Q M O o w h) (k : IdsOk b c d) {M' : List (List Bool)} {x : Blk} (h1 : MapI (h.put d.M x) d.M 89 M') : FSt b c h0 d v Q M' O o w (h.put d.M x) := by
  have := t.nx; obtain ⟨a1, a2, a3, a4, a5, a6, a7⟩ := k
  have n1 := t.oo.notIn (id := d.M) (by omega)
  have n2 := t.ow.notIn (id := d.M) (by omega)
  exact ⟨t.gr.trans (Grow.put (by omega) (by omega) _), t.nx, by rw [get_put_other (kNe (by omega))]; exact t.eP, by rw [get_put_other (kNe (by omega))]; exact t.eO, by rw [get_put_other (kNe (by omega))]; exact t.eB, h1,
    by rw [get_put_other (kNe (by omega)).symm]; exact t.eT, by rw [get_put_other (kNe (by omega)).symm]; exact t.eF, t.so.put n1 _, t.sw.put n2 _, t.oo, t.ow, t.ap⟩
/-- Both slices have turned, and lie in their boxes. -/
theorem FSt.turn {O' : List Nat} {o' w' : V} {h2 : H} (t : FSt b c h0 d v Q M O o w h) (k : IdsOk b c d) (g : Grow c h h2) (so : Sl nE h2 o' O') (sw : Sl nE h2 w' (O'.map fun i => Q.getD i 0)) (oo : Own c o') (ow : Own c w') (ap : Apart o' w') :
    FSt b c h0 d v Q M O' o' w' ((h2.put d.O (.cells 1 [o'])).put d.B (.cells 1 [w'])) := by
  have := t.nx; have := g.nx; obtain ⟨a1, a2, a3, a4, a5, a6, a7⟩ := k
  have ne : ∀ j : K, j.nat < c → j ≠ d.O → j ≠ d.B → ((h2.put d.O (.cells 1 [o'])).put d.B (.cells 1 [w'])).get j = h.get j := fun j hj n1 n2 => by rw [get_put_other n2, get_put_other n1, g.old _ hj]
  have g1 : Grow b h2 (h2.put d.O (.cells 1 [o'])) := Grow.put (by omega) (by omega) _
  have g2 : Grow b (h2.put d.O (.cells 1 [o'])) ((h2.put d.O (.cells 1 [o'])).put d.B (.cells 1 [w'])) := Grow.put (by omega) (by rw [nx_put]; omega) _
  refine ⟨((t.gr.trans (g.low (by omega))).trans g1).trans g2, by rw [nx_put, nx_put]; omega, by rw [ne _ (by omega) (kNe (by omega)) (kNe (by omega))]; exact t.eP, by rw [get_put_other (kNe (by omega)), get_put_same], get_put_same,
    by unfold MapI; rw [ne _ (by omega) (kNe (by omega)).symm (kNe (by omega)).symm]; exact t.eM, by rw [ne _ (by omega) (kNe (by omega)).symm (kNe (by omega)).symm]; exact t.eT, by rw [ne _ (by omega) (kNe (by omega)).symm (kNe (by omega)).symm]; exact t.eF,
    (so.put (oo.notIn (by omega)) _).put (oo.notIn (by omega)) _, (sw.put (ow.notIn (by omega)) _).put (ow.notIn (by omega)) _, oo, ow, ap⟩
/-- order, before = append(order, i), append(before, piece) -/
theorem FSt.push (t : FSt b c h0 d v Q M O o w h) (h1 : HC h0) (k : IdsOk b c d) (i : Nat) (hn : O.length < 1000000) (A B : Blk) (hA : A = .cells (1 * 1) [nE i]) (hB : B = .cells (1 * 1) [nE (Q.getD i 0)]) :
    ∃ o' w' h3 h4, appV 1 ((h.new A).new B) o (.sl h.nx 0 1 1) = .ok o' h3 ∧ h3.get d.B = .cells 1 [w] ∧ h3.get (h.new A).nx = B ∧ appV 1 h3 w (.sl (h.new A).nx 0 1 1) = .ok w' h4 ∧
      storeV h4 1 (.p d.O 0) o' = .ok undefV (h4.put d.O (.cells 1 [o'])) ∧ storeV (h4.put d.O (.cells 1 [o'])) 1 (.p d.B 0) w' = .ok undefV ((h4.put d.O (.cells 1 [o'])).put d.B (.cells 1 [w'])) ∧
      FSt b c h0 d v Q M (O ++ [i]) o' w' ((h4.put d.O (.cells 1 [o'])).put d.B (.cells 1 [w'])) ∧ Kept c h o w ((h4.put d.O (.cells 1 [o'])).put d.B (.cells 1 [w'])) o' w' := by
  have nx := t.nx; have kk := k; obtain ⟨a1, a2, a3, a4, a5, a6, a7⟩ := k
  have hc := t.hc h1
  have n1 := nx_new h A
  have n2 := nx_new (h.new A) B
  have g1 : Grow h.nx.nat h (h.new A) := Grow.new (Nat.le_refl _) A
  have hc1 := g1.hc hc
  have g2 : Grow (h.new A).nx.nat (h.new A) ((h.new A).new B) := Grow.new (Nat.le_refl _) B
  have g12 : Grow h.nx.nat h ((h.new A).new B) := g1.trans (g2.low (by omega))
  have hc2 := g2.hc hc1
  have sA : Sl nE (h.new A) (.sl h.nx 0 1 1) [i] := by subst hA; exact Sl.lit
  have sB : Sl nE ((h.new A).new B) (.sl (h.new A).nx 0 1 1) [Q.getD i 0] := by subst hB; exact Sl.lit
  obtain ⟨o', h3, p1, p2, p3, p4, p5⟩ := Sl.app (b := c) (t.so.grow hc g12) t.oo (by omega) (sA.grow hc1 g2) hc2 (by simp; omega)
  have hc3 := p4.hc hc2
  have nx3 := p4.nx
  have lo := t.so.lt hc
  have lw := t.sw.lt hc
  have oB : NotIn (h.new A).nx o := fun off n sz e => by have := lo _ _ _ _ e; omega
  have wB : NotIn (h.new A).nx w := fun off n sz e => by have := lw _ _ _ _ e; omega
  obtain ⟨b3, b4⟩ := p5 (h.new A).nx (by omega) oB
  have eB3 : h3.get (h.new A).nx = B := b3.trans get_new_same
  have sB3 : Sl nE h3 (.sl (h.new A).nx 0 1 1) [Q.getD i 0] := sB.same fun id off n sz e => by cases e; exact b3
  have sw3 : Sl nE h3 w (O.map fun i => Q.getD i 0) := (t.sw.grow hc g12).same fun id off n sz e => (p5 id (by have := lw _ _ _ _ e; omega) (t.ap.symm _ _ _ _ e)).1
  obtain ⟨w', h4, q1, q2, q3, q4, q5⟩ := Sl.app (b := c) sw3 t.ow (by omega) sB3 hc3 (by simp; omega)
  have nx4 := q4.nx
  have lo3 := p2.lt hc3
  -- the new order lies in no block of before
  have ow3 : Apart o' w := fun id off n sz e off' n' sz' e' => (p5 id (by have := lw _ _ _ _ e'; omega) (t.ap.symm _ _ _ _ e')).2 _ _ _ e
  have so4 : Sl nE h4 o' (O ++ [i]) := p2.same fun id off n sz e => (q5 id (lo3 _ _ _ _ e) (ow3 _ _ _ _ e)).1
  have ap4 : Apart o' w' := fun id off n sz e => (q5 id (lo3 _ _ _ _ e) (ow3 _ _ _ _ e)).2
  have gg : Grow c h h4 := ((g12.low (by omega)).trans p4).trans q4
  have sw4 : Sl nE h4 w' ((O ++ [i]).map fun i => Q.getD i 0) := by rw [List.map_append]; exact q2
  have eB3' : h3.get d.B = .cells 1 [w] := by rw [p4.old _ (by omega), g12.old _ (by omega)]; exact t.eB
  have eO4 : h4.get d.O = .cells 1 [o] := by rw [gg.old _ (by omega)]; exact t.eO
  have eB4 : (h4.put d.O (.cells 1 [o'])).get d.B = .cells 1 [w] := by rw [get_put_other (kNe (by omega)).symm, gg.old _ (by omega)]; exact t.eB
  refine ⟨o', w', h3, h4, p1, eB3', eB3, q1, ?_, ?_, t.turn kk gg so4 sw4 p3 q3 ap4, ?_⟩
  · rw [store_p eO4 p2.one (by omega)]; rfl
  · rw [store_p eB4 q2.one (by omega)]; rfl
  · refine ⟨by rw [nx_put, nx_put]; omega, fun id i1 i2 i3 i4 => ?_⟩
    obtain ⟨r1, r2⟩ := p5 id (by omega) i3
    obtain ⟨r3, r4⟩ := q5 id (by omega) i4
    refine ⟨?_, ?_, r4⟩
    · rw [get_put_other (kNe (by omega)).symm, get_put_other (kNe (by omega)).symm, r3, r1, g12.old _ i2]
    · exact r2
/-- order, before = order[:len(order)-1], before[:len(before)-1] -/
theorem FSt.pop {i : Nat} (t : FSt b c h0 d v Q M (O ++ [i]) o w h) (k : IdsOk b c d) :
    ∃ o' w', (∀ k h1, sliceB 1 o none (some (.i k (O.length : Int))) none h1 = .ok o' h1) ∧ (∀ k h1, sliceB 1 w none (some (.i k (O.length : Int))) none h1 = .ok w' h1) ∧ beqV w' w' = true ∧ beqV w w = true ∧
      storeV h 1 (.p d.O 0) o' = .ok undefV (h.put d.O (.cells 1 [o'])) ∧ storeV (h.put d.O (.cells 1 [o'])) 1 (.p d.B 0) w' = .ok undefV ((h.put d.O (.cells 1 [o'])).put d.B (.cells 1 [w'])) ∧
      FSt b c h0 d v Q M O o' w' ((h.put d.O (.cells 1 [o'])).put d.B (.cells 1 [w'])) ∧ Kept c h o w ((h.put d.O (.cells 1 [o'])).put d.B (.cells 1 [w'])) o' w' := by
  have nx := t.nx; have kk := k; obtain ⟨a1, a2, a3, a4, a5, a6, a7⟩ := k
  obtain ⟨o', p1, p2, p3, p4⟩ := t.so.cut (lo := none) (hi := some (.i .i64 (O.length : Int))) (l := 0) (u := O.length) rfl rfl (Nat.zero_le _) (by simp)
  obtain ⟨w', q1, q2, q3, q4⟩ := t.sw.cut (lo := none) (hi := some (.i .i64 (O.length : Int))) (l := 0) (u := O.length) rfl rfl (Nat.zero_le _) (by simp)
  have e1 : ((O ++ [i]).take O.length).drop 0 = O := by simp
  have e2 : (((O ++ [i]).map fun i => Q.getD i 0).take O.length).drop 0 = O.map fun i => Q.getD i 0 := by simp
  rw [e1] at p2
  rw [e2] at q2
  have ap' : Apart o' w' := fun id off n sz e => q4 id fun off' n' sz' e' => by
    have : ¬ NotIn id o' := fun hh => hh _ _ _ e
    exact this (p4 id fun o2 n2 s2 e2 => t.ap _ _ _ _ e2 _ _ _ e')
  have eB4 : (h.put d.O (.cells 1 [o'])).get d.B = .cells 1 [w] := by rw [get_put_other (kNe (by omega)).symm]; exact t.eB
  refine ⟨o', w', ?_, ?_, q2.beq, t.sw.beq, ?_, ?_, t.turn kk (Grow.refl _ _) p2 q2 (p3 _ t.oo) (q3 _ t.ow) ap', ⟨Nat.le_refl _, fun id i1 i2 i3 i4 => ⟨?_, p4 id i3, q4 id i4⟩⟩⟩
  · intro kk h1; rw [← p1 h1]; cases o <;> rfl
  · intro kk h1; rw [← q1 h1]; cases w <;> rfl
  · rw [store_p t.eO p2.one (by omega)]; rfl
  · rw [store_p eB4 q2.one (by omega)]; rfl
  · rw [get_put_other (kNe (by omega)).symm, get_put_other (kNe (by omega)).symm]
theorem FSt.ldP (t : FSt b c h0 d v Q M O o w h) : loadV h (.p d.P 0) one? = .ok v h := load_p t.eP rfl
theorem FSt.ldO (t : FSt b c h0 d v Q M O o w h) : loadV h (.p d.O 0) one? = .ok o h := load_p t.eO rfl
theorem FSt.ldB (t : FSt b c h0 d v Q M O o w h) : loadV h (.p d.B 0) one? = .ok w h := load_p t.eB rfl
theorem FSt.ldT (t : FSt b c h0 d v Q M O o w h) : loadV h (.p d.T 0) one? = .ok (.m d.M) h := load_p t.eT rfl
theorem FSt.ldF (t : FSt b c h0 d v Q M O o w h) : loadV h (.p d.F 0) one? = .ok (.fn (K.ofNat 79) (capsF d)) h := load_p t.eF rfl
end
end Go.Ev
namespace Go.Ev
open Go Go.RowKit
noncomputable def f79_r0 : List EOper := [⟨(some (K.ofNat 6)), none, .box 10 (.t (K.ofNat 0))⟩, ⟨(some (K.ofNat 7)), none, .as (.c (.b false))⟩]
noncomputable def f79_r1 : List EOper := [⟨(some (K.ofNat 11)), none, .ld (.t (K.ofNat 1))⟩, ⟨(some (K.ofNat 12)), none, .len (.t (K.ofNat 11))⟩, ⟨(some (K.ofNat 13)), none, .ld (.t (K.ofNat 2))⟩, ⟨(some (K.ofNat 14)), none, .len (.t (K.ofNat 13))⟩, ⟨(some (K.ofNat 15)), none, .bin .eql (.t (K.ofNat 12)) (.t (K.ofNat 14))⟩]
noncomputable def f79_r2 : List EOper := [⟨(some (K.ofNat 7)), none, .as (.c (.b true))⟩]
noncomputable def f79_r3 : List EOper := [⟨(some (K.ofNat 16)), none, .ld (.t (K.ofNat 3))⟩, ⟨(some (K.ofNat 17)), none, .ldn 10 (.t (K.ofNat 6))⟩, ⟨(some (K.ofNat 18)), none, .look 89 (.many (List.replicate 10 none)) (.b false) (.t (K.ofNat 16)) (.t (K.ofNat 17)) false⟩]
noncomputable def f79_r4 : List EOper := [⟨(some (K.ofNat 7)), none, .as (.c (.b false))⟩]
noncomputable def f79_r5 : List EOper := [⟨(some (K.ofNat 19)), none, .ld (.t (K.ofNat 3))⟩, ⟨(some (K.ofNat 20)), none, .ldn 10 (.t (K.ofNat 6))⟩, ⟨none, none, .mupd 89 (.many (List.replicate 10 none)) (.t (K.ofNat 19)) (.t (K.ofNat 20)) (.c (.b true))⟩]
noncomputable def f79_r6 : List EOper := [⟨(some (K.ofNat 21)), none, .ld (.t (K.ofNat 2))⟩, ⟨(some (K.ofNat 22)), none, .len (.t (K.ofNat 21))⟩, ⟨(some (K.ofNat 23)), none, .mv (.c (.i .i64 (.ofNat 0)))⟩]
noncomputable def f79_r7 : List EOper := [⟨(some (K.ofNat 24)), none, .bin .lss (.t (K.ofNat 23)) (.t (K.ofNat 22))⟩]
noncomputable def f79_r8 : List EOper := [⟨(some (K.ofNat 25)), none, .mv (.t (K.ofNat 23))⟩, ⟨(some (K.ofNat 26)), none, .iads 1 (.t (K.ofNat 21)) (.t (K.ofNat 23))⟩, ⟨(some (K.ofNat 27)), none, .ld (.t (K.ofNat 26))⟩, ⟨(some (K.ofNat 8)), none, .as (.t (K.ofNat 25))⟩, ⟨(some (K.ofNat 9)), none, .as (.t (K.ofNat 27))⟩]
noncomputable def f79_r9 : List EOper := [⟨(some (K.ofNat 28)), none, .mv (.t (K.ofNat 8))⟩, ⟨(some (K.ofNat 29)), none, .iadr 10 1 (.t (K.ofNat 6)) (.t (K.ofNat 28))⟩, ⟨(some (K.ofNat 30)), none, .ld (.t (K.ofNat 29))⟩, ⟨(some (K.ofNat 31)), none, .mv (.t (K.ofNat 30))⟩, ⟨(some (K.ofNat 32)), (some ((K.ofNat 31), false)), .mv (.t (K.ofNat 9))⟩, ⟨(some (K.ofNat 33)), (some ((K.ofNat 31), false)), .ld (.t (K.ofNat 4))⟩, ⟨(some (K.ofNat 34)), (some ((K.ofNat 31), false)), .call (.c (.fn (K.ofNat 80) [])) [(.t (K.ofNat 32)), (.t (K.ofNat 33))]⟩, ⟨(some (K.ofNat 35)), (some ((K.ofNat 31), false)), .not (.t (K.ofNat 34))⟩, ⟨(some (K.ofNat 36)), none, .pick (.t (K.ofNat 31)) (.c (.b true)) (.t (K.ofNat 35))⟩]
noncomputable def f79_r10 : List Stage := [⟨[⟨(some (K.ofNat 37)), none, .ld (.t (K.ofNat 1))⟩, ⟨(some (K.ofNat 38)), none, .mv (.t (K.ofNat 8))⟩, ⟨(some (K.ofNat 39)), none, .bslice 1 1 [(.i .i64 (.ofNat 0))] [(0, 1, (.t (K.ofNat 38)))]⟩, ⟨(some (K.ofNat 41)), none, .ld (.t (K.ofNat 4))⟩, ⟨(some (K.ofNat 42)), none, .mv (.t (K.ofNat 9))⟩, ⟨(some (K.ofNat 43)), none, .bslice 1 1 [(.i .i64 (.ofNat 0))] [(0, 1, (.t (K.ofNat 42)))]⟩], [], (some ⟨(some (K.ofNat 40)), none, .app 1 (.t (K.ofNat 37)) (.t (K.ofNat 39))⟩), [(K.ofNat 39), (K.ofNat 43)]⟩, ⟨[], [⟨(some (K.ofNat 41)), none, .ld (.t (K.ofNat 4))⟩, ⟨(some (K.ofNat 42)), none, .mv (.t (K.ofNat 9))⟩, ⟨(some (K.ofNat 43)), none, .bslice 1 1 [(.i .i64 (.ofNat 0))] [(0, 1, (.t (K.ofNat 42)))]⟩], (some ⟨(some (K.ofNat 44)), none, .app 1 (.t (K.ofNat 41)) (.t (K.ofNat 43))⟩), []⟩, ⟨[], [], (some ⟨none, none, .st 1 (.t (K.ofNat 1)) (.t (K.ofNat 40))⟩), []⟩, ⟨[], [], (some ⟨none, none, .st 1 (.t (K.ofNat 4)) (.t (K.ofNat 44))⟩), []⟩, ⟨[], [], none, []⟩]
noncomputable def f79_r11 : List EOper := [⟨(some (K.ofNat 45)), none, .ldn 10 (.t (K.ofNat 6))⟩, ⟨(some (K.ofNat 10)), none, .alloc 10 (List.replicate 10 (.b false))⟩, ⟨none, none, .st 10 (.t (K.ofNat 10)) (.t (K.ofNat 45))⟩]
noncomputable def f79_r12 : List EOper := [⟨(some (K.ofNat 46)), none, .mv (.t (K.ofNat 8))⟩, ⟨(some (K.ofNat 47)), none, .iadr 10 1 (.t (K.ofNat 10)) (.t (K.ofNat 46))⟩, ⟨none, none, .st 1 (.t (K.ofNat 47)) (.c (.b true))⟩]
noncomputable def f79_r13 : List EOper := [⟨(some (K.ofNat 48)), none, .ld (.t (K.ofNat 5))⟩, ⟨(some (K.ofNat 49)), none, .ldn 10 (.t (K.ofNat 10))⟩, ⟨(some (K.ofNat 50)), none, .call (.t (K.ofNat 48)) [(.t (K.ofNat 49))]⟩]
noncomputable def f79_r14 : List EOper := [⟨(some (K.ofNat 7)), none, .as (.c (.b true))⟩]
noncomputable def f79_r15 : List Stage := [⟨[⟨(some (K.ofNat 51)), none, .ld (.t (K.ofNat 1))⟩, ⟨(some (K.ofNat 52)), none, .ld (.t (K.ofNat 1))⟩, ⟨(some (K.ofNat 53)), none, .len (.t (K.ofNat 52))⟩, ⟨(some (K.ofNat 54)), none, .bin .sub (.t (K.ofNat 53)) (.c (.i .i64 (.ofNat 1)))⟩, ⟨(some (K.ofNat 55)), none, .slice 1 (.t (K.ofNat 51)) none (some (.t (K.ofNat 54))) none⟩, ⟨(some (K.ofNat 56)), none, .ld (.t (K.ofNat 4))⟩, ⟨(some (K.ofNat 57)), none, .ld (.t (K.ofNat 4))⟩, ⟨(some (K.ofNat 58)), none, .len (.t (K.ofNat 57))⟩, ⟨(some (K.ofNat 59)), none, .bin .sub (.t (K.ofNat 58)) (.c (.i .i64 (.ofNat 1)))⟩, ⟨(some (K.ofNat 60)), none, .slice 1 (.t (K.ofNat 56)) none (some (.t (K.ofNat 59))) none⟩], [], (some ⟨none, none, .st 1 (.t (K.ofNat 1)) (.t (K.ofNat 55))⟩), []⟩, ⟨[], [⟨(some (K.ofNat 56)), none, .ld (.t (K.ofNat 4))⟩, ⟨(some (K.ofNat 57)), none, .ld (.t (K.ofNat 4))⟩, ⟨(some (K.ofNat 58)), none, .len (.t (K.ofNat 57))⟩, ⟨(some (K.ofNat 59)), none, .bin .sub (.t (K.ofNat 58)) (.c (.i .i64 (.ofNat 1)))⟩, ⟨(some (K.ofNat 60)), none, .slice 1 (.t (K.ofNat 56)) none (some (.t (K.ofNat 59))) none⟩], (some ⟨none, none, .st 1 (.t (K.ofNat 4)) (.t (K.ofNat 60))⟩), []⟩, ⟨[], [], none, []⟩]
noncomputable def f79_r16 : List EOper := [⟨(some (K.ofNat 61)), none, .bin .add (.t (K.ofNat 23)) (.c (.i .i64 (.ofNat 1)))⟩, ⟨(some (K.ofNat 23)), none, .mv (.t (K.ofNat 61))⟩]
noncomputable def f79_l0 : EC := (.seq (.reg f79_r7) (.seq (.cond (.t (K.ofNat 24)) .skip (.exit 0)) (.seq (.block 1 (.seq (.reg f79_r8) (.seq (.seq (.reg f79_r9) (.cond (.t (K.ofNat 36)) (.exit 1) .skip)) (.seq (.draw f79_r10) (.seq (.reg f79_r11) (.seq (.reg f79_r12) (.seq (.seq (.reg f79_r13) (.cond (.t (K.ofNat 50)) (.seq (.reg f79_r14) .ret) .skip)) (.draw f79_r15)))))))) (.reg f79_r16))))
noncomputable def f79_r17 : List EOper := [⟨(some (K.ofNat 7)), none, .as (.c (.b false))⟩]
noncomputable def f79_c : EC := (.seq (.reg f79_r0) (.seq (.seq (.reg f79_r1) (.cond (.t (K.ofNat 15)) (.seq (.reg f79_r2) .ret) .skip)) (.seq (.seq (.reg f79_r3) (.cond (.t (K.ofNat 18)) (.seq (.reg f79_r4) .ret) .skip)) (.seq (.reg f79_r5) (.seq (.seq (.reg f79_r6) (.block 0 (.loop f79_l0))) (.seq (.reg f79_r17) .ret))))))
noncomputable def f79 : EF := ⟨62, [.tmp (K.ofNat 7)], f79_c, none⟩
theorem f79_rs : f79.rs = [.tmp (K.ofNat 7)] := of_eq_true (eq_self _)
section
variable {fs : T EF} {ro : Option K}
/-- What the search needs to call. -/
structure Calls79 (fs : T EF) : Prop where
  p54 : ∀ a b h P, CallP fs (.fn (K.ofNat 54) []) [.i .i64 a, .i .i64 b] h P = P (.b (ptI a b)) h
  pt : ∃ ef, fs.get (K.ofNat 54) = some ef ∧ ef.nv = some (flatG partG)
  c82 : fs.get (K.ofNat 82) = some f82
  c92 : fs.get (K.ofNat 92) = some coF
  c83 : fs.get (K.ofNat 83) = some f83
  c61 : fs.get (K.ofNat 61) = some f61
  c80 : fs.get (K.ofNat 80) = some f80
  c79 : fs.get (K.ofNat 79) = some f79
structure Anti (Q : List Nat) : Prop where
  len : Q.length ≤ 10
  lt : ∀ y ∈ Q, y < 64
  no : ∀ i j, i < Q.length → j < Q.length → j ≠ i → Q.getD i 0 &&& Q.getD j 0 ≠ Q.getD i 0
def bitsA (m : Nat) : List Bool := arr (fun i => m.testBit i) 10
structure Post79 (b c : Nat) (h0 : H) (d : Ids) (v : V) (Q O : List Nat) (o w : V) (h : H) (r : Bool) (h' : H) : Prop where
  ex : ∃ M' O' o' w', FSt b c h0 d v Q M' O' o' w' h' ∧ Kept c h o w h' o' w' ∧ (r = true → Ord Q O' ∧ O'.length = Q.length) ∧ (r = false → O' = O ∧ Tri Q M' O ∧ ¬ Fin0 Q (setO O))
def f79_I (b c : Nat) (h0 : H) (d : Ids) (v : V) (Q O : List Nat) (o w : V) (h : H) (u : K) (i : Nat) (fr : Fr) (h1 : H) : Prop := ∃ M1 o1 w1, i ≤ Q.length ∧ FSt b c h0 d v Q M1 O o1 w1 h1 ∧ Tri1 Q M1 O ∧ Kept c h o w h1 o1 w1 ∧
  (Ar V.b h1 u (bitsA (setO O)) ∧ NotIn u o1 ∧ NotIn u w1 ∧ u.nat < h1.nx.nat) ∧ (∀ k, k < i → okN Q (setO O) k → ¬ Fin0 Q (setO (O ++ [k]))) ∧
  fr.get (K.ofNat 1) = some (.p d.O 0) ∧ fr.get (K.ofNat 2) = some (.p d.P 0) ∧ fr.get (K.ofNat 3) = some (.p d.T 0) ∧ fr.get (K.ofNat 4) = some (.p d.B 0) ∧ fr.get (K.ofNat 5) = some (.p d.F 0) ∧ fr.get (K.ofNat 6) = some (.p u 0) ∧ fr.get (K.ofNat 21) = some (v) ∧ fr.get (K.ofNat 22) = some (.i .i64 (Q.length : Int)) ∧ fr.get (K.ofNat 23) = some (.i .i64 (i : Int))
theorem beqL_i {k : IntKind} {n : Int} : beqL [.i k n] [.i k n] = true := by
  show (beqV (.i k n) (.i k n) && true) = true
  rw [beq_i]; rfl
theorem bitsA_set {O : List Nat} {i : Nat} : (bitsA (setO O)).set i true = bitsA (setO (O ++ [i])) := by
  unfold bitsA
  rw [arr_set]
  apply arr_congr
  intro k _
  rw [setO_snoc, Nat.testBit_or, Nat.testBit_two_pow]
  by_cases e : k = i
  · subst e; simp
  · rw [if_neg e, decide_eq_false (fun h => e h.symm), Bool.or_false]
theorem bitsA_len {m : Nat} : (bitsA m).length = 10 := arr_len
theorem f79_body {b c : Nat} {h0 h : H} {d : Ids} {v : V} {Q O : List Nat} {o w : V} {u : K} {P : V → H → Prop} (k : Calls79 fs) (kd : IdsOk b c d) (hc0 : HC h0) (hv : Sl nE h0 v Q) (hvb : ∀ id off n sz, v = .sl id off n sz → id.nat < b) (an : Anti Q) (ho : Ord Q O)
    (hlt : O.length < Q.length) (hcu : c ≤ u.nat) (huh : h.nx.nat ≤ u.nat)
    (ih : ∀ i, i < Q.length → ∀ (M2 : List (List Bool)) (o2 w2 : V) (h2 : H), FSt b c h0 d v Q M2 (O ++ [i]) o2 w2 h2 → Ord Q (O ++ [i]) → Tri Q M2 (O ++ [i]) → CallP fs (.fn (K.ofNat 79) (capsF d)) [bK (bitsA (setO (O ++ [i])))] h2 fun r h' => ∃ x, r = .b x ∧ Post79 b c h0 d v Q (O ++ [i]) o2 w2 h2 x h')
    (hp1 : ∀ h', Post79 b c h0 d v Q O o w h true h' → P (.b true) h')
    (hp2 : ∀ h', Post79 b c h0 d v Q O o w h false h' → P (.b false) h')
    (i : Nat) (fr : Fr) (h1 : H) (hi : f79_I b c h0 d v Q O o w h u i fr h1) : W fs none f79_l0 (loopK (f79_I b c h0 d v Q O o w h u) (fun i => Q.length - i) i (atK 0 (seqK (W fs none (.seq (.reg f79_r17) .ret)) (retK f79 P)))) fr h1 := by
  obtain ⟨M1, o1, w1, hi, st, tr, kp, ⟨hu, hu1, hu2, hu3⟩, hno, g1, g2, g3, g4, g5, g6, g21, g22, g23⟩ := hi
  unfold f79_l0
  have hc1 := st.hc hc0
  have hv1 : Sl nE h1 v Q := hv.same fun id off n sz e => st.gr.old id (hvb _ _ _ _ e)
  by_cases hil : i < Q.length
  · have hil' : (i : Int) < (Q.length : Int) := by omega
    obtain ⟨p, hq1, hq2⟩ := hv1.at i hil
    have gi : Q.getD i 0 = Q[i] := by simp [List.getD, hil]
    have hx := an.lt _ (List.getElem_mem hil)
    have hal := an.len
    have hul : i < (bitsA (setO O)).length := by rw [bitsA_len]; omega
    have hub : (bitsA (setO O))[i] = (setO O).testBit i := arr_at hul
    have ldu : loadV h1 (.p u (0 + i * 1)) one? = .ok (.b ((setO O).testBit i)) h1 := by rw [hu.ld hul, hub]
    have i10 : i < 10 := by omega
    by_cases e1 : (setO O).testBit i = true
    · rw [e1] at ldu
      simp (disch := omega) only [f79_r7, f79_r8, f79_r9, f79_r16, w_skip, w_reg, w_seq, w_cond, w_block, w_exit, seqK_n, seqK_e, atK_e, loopK_n, ckB_b, cbB_b, okG_b, asG_f, true_and, x_nil, x_g, x_mv, x_as, x_pick, x_ld, x_bin, x_iadr, x_iads, kx, rvP_ok, okv_some, ev_t, ev_c, getV_some, putD_some, bin_add, bin_lss, pick_b, onP_p, idx_n, of1, getK_set, Nat.reduceEqDiff, ↓reduceIte, Bool.false_eq_true, Bool.not_true, g6, g21, g22, g23, hil', decide_true, hq1, hq2, nE, ldu, fw64]
      refine ⟨i + 1, by omega, M1, o1, w1, hil, st, tr, kp, ⟨hu, hu1, hu2, hu3⟩, fun k hk hok => ?_, by simp (disch := omega) only [getK_set, Nat.reduceEqDiff, ↓reduceIte, g1, g2, g3, g4, g5, g6, g21, g22, and_self, Int.natCast_add, Int.natCast_one]⟩
      by_cases e : k = i
      · subst e; have := hok.2.1; have := bit_iff.1 e1; omega
      · exact hno k (by omega) hok
    · have e1 : (setO O).testBit i = false := by simpa using e1
      rw [e1] at ldu
      simp (disch := omega) only [f79_r7, f79_r8, f79_r9, w_skip, w_reg, w_seq, w_cond, w_block, seqK_n, ckB_b, cbB_b, okG_b, asG_f, true_and, x_nil, x_g, x_mv, x_as, x_ld, x_bin, x_iadr, x_iads, x_call, kx, rvP_ok, okv_some, ev_t, ev_c, evs_nil, evs_cons, getV_some, putD_some, bin_lss, onP_p, idx_n, getK_set, Nat.reduceEqDiff, ↓reduceIte, Bool.not_false, g4, g6, g21, g22, g23, hil', decide_true, hq1, hq2, nE, ldu, st.ldB]
      have hnext : fitS (Q.getD i 0) (castL (O.map fun i => Q.getD i 0)) = nextR Q (setO O) i :=
        fits_next hil an.lt (fun j hj hne => an.no i j hil hj hne) (bit_iff0.1 e1) (fun z => by
          rw [List.mem_map]
          constructor
          · rintro ⟨j, hj, rfl⟩
            exact ⟨j, ho.lt j hj, setO_mem.2 hj, rfl⟩
          · rintro ⟨j, _, hj, rfl⟩
            exact ⟨j, setO_mem.1 hj, rfl⟩)
      have hsw : Sl iE h1 w1 (castL (O.map fun i => Q.getD i 0)) := Sl.map (f := fun (k : Nat) => (k : Int)) st.sw
      obtain ⟨ef, pt1, pt2⟩ := k.pt
      refine (callP_0 (ef := f80) k.c80 rfl (f80_ret (x := Q[i]) k.p54 k.c82 k.c92 pt1 pt2 k.c83 k.c61 hsw hc1 (by simp [castL]; omega) hx)).mono ?_
      rintro u1 h2 ⟨rfl, gr2⟩
      rw [← gi, hnext]
      have st2 := st.grow hc0 kd gr2
      have kp2 := kp.trans (Kept.grow (o := o1) (w := w1) gr2)
      have hu_2 : Ar V.b h2 u (bitsA (setO O)) := hu.same (gr2.old u hu3)
      have hu3_2 : u.nat < h2.nx.nat := by have := gr2.nx; omega
      have hc2 := st2.hc hc0
      cases e2 : nextR Q (setO O) i
      · simp (disch := omega) only [f79_r16, w_reg, w_cond, w_exit, seqK_n, seqK_e, atK_e, loopK_n, ckB_b, cbB_b, okG_b, asG_f, true_and, x_nil, x_g, x_mv, x_pick, x_bin, x_not, kx, rvP_ok, okv_some, ev_t, ev_c, getV_some, putD_some, bin_add, pick_b, onB_b, of1, getK_set, Nat.reduceEqDiff, ↓reduceIte, Bool.false_eq_true, Bool.not_false, g23, fw64]
        refine ⟨i + 1, by omega, M1, o1, w1, hil, st2, tr, kp2, ⟨hu_2, hu1, hu2, hu3_2⟩, fun k hk hok => ?_, by simp (disch := omega) only [getK_set, Nat.reduceEqDiff, ↓reduceIte, g1, g2, g3, g4, g5, g6, g21, g22, and_self, Int.natCast_add, Int.natCast_one]⟩
        by_cases e : k = i
        · subst e; have := hok.2.2; rw [e2] at this; cases this
        · exact hno k (by omega) hok
      · have hok : okN Q (setO O) i := ⟨hil, bit_iff0.1 e1, e2⟩
        have ho2 := Ord.snoc ho hok
        obtain ⟨o', w', h3, h4, q1, q2, q3, q4, q5, q6, q7, q8⟩ := st2.push hc0 kd i (by omega) (.cells (1 * 1) [.i .i64 (i : Int)]) (.cells (1 * 1) [.i .i64 (Q.getD i 0 : Int)]) rfl rfl
        have hcA : HC (h2.new (.cells (1 * 1) [.i .i64 (i : Int)])) := (Grow.new (b := 0) (Nat.zero_le _) _).hc hc2
        have nx2 := st2.nx
        have ldA : loadV (h2.new (.cells (1 * 1) [.i .i64 (i : Int)])) (.p d.B 0) one? = .ok w1 _ := load_p (by rw [get_new_old (by have := kd.a4; have := kd.a5; have := kd.a6; have := kd.a7; omega)]; exact st2.eB) rfl
        have ld3 : loadV h3 (.p d.B 0) one? = .ok w1 h3 := load_p q2 rfl
        simp (disch := omega) only [f79_r10, w_skip, w_reg, w_draw, w_seq, w_cond, seqK_n, ckB_b, cbB_b, okG_b, asG_f, true_and, x_nil, x_g, x_pick, x_st, x_not, x_app, kx, kg, xg_nil, xg_mv, xg_ld, xg_bslice, xd_cons, fresh_nil, stK_n, stK_s, stay_nil, stay_cons, again_ok, stay_mv, beq_i, stay_ld, rvP_ok, ev_t, ev_c, getV_some, putD_some, putD_none, pick_b, onB_b, oGet_s, cells1_i, fill_1, set_1, of0, Option.some.injEq, exists_eq_left', getK_set, Nat.reduceEqDiff, ↓reduceIte, Bool.false_eq_true, Bool.not_true, Bool.not_false, g1, g4, st2.ldO, hc2.dead, hcA.dead, ldA, q1, q4, q5, q6, ld3, st2.sw.beq]
        refine ⟨fresh_two (n := 1) (sz := 1) (n2 := 1) (sz2 := 1) (by simp (disch := omega) only [getK_set, Nat.reduceEqDiff, ↓reduceIte]) (by simp (disch := omega) only [getK_set, ↓reduceIte]), ⟨stay_lit (off := 0) (id := (h2.new (.cells (1 * 1) [.i .i64 (i : Int)])).nx) (cs := [.i .i64 (Q.getD i 0 : Int)]) (by simp (disch := omega) only [getK_set, Nat.reduceEqDiff, ↓reduceIte]) q3 (by simp (disch := omega) only [ev_t, getV_some, oGet_s, cells1_i, fill_1, set_1, getK_set, Nat.reduceEqDiff, ↓reduceIte]) beqL_i, trivial⟩, ?_⟩
        obtain ⟨ku1, ku2, ku3⟩ := q8.2 u hcu hu3_2 hu1 hu2
        have hu5 := hu_2.same ku1
        have kp5 := kp2.trans q8
        have hu35 : u.nat < ((h4.put d.O (.cells 1 [o'])).put d.B (.cells 1 [w'])).nx.nat := by have := q8.1; omega
        clear q1 q2 q3 q4 q5 q6 q8 ld3 ldA hcA ku1
        generalize (h4.put d.O (.cells 1 [o'])).put d.B (.cells 1 [w']) = h5 at *
        have hc5 := q7.hc hc0
        have nx6 := nx_new h5 (.cells 10 (List.replicate 10 (.b false)))
        have hA6 : Ar V.b (h5.new (.cells 10 (List.replicate 10 (.b false)))) h5.nx (arr (fun _ => false) 10) := by unfold Ar; rw [get_new_same]; rfl
        have st6 := hA6.stn (g := fun i => (setO O).testBit i)
        have gw6 : Grow h5.nx.nat h5 (h5.new (.cells 10 (List.replicate 10 (.b false)))) := Grow.new (Nat.le_refl _) _
        have gw7 : Grow h5.nx.nat (h5.new (.cells 10 (List.replicate 10 (.b false)))) ((h5.new (.cells 10 (List.replicate 10 (.b false)))).put h5.nx (.cells 10 ((bitsA (setO O)).map V.b))) := Grow.put (Nat.le_refl _) (by omega) _
        have hA7 : Ar V.b ((h5.new (.cells 10 (List.replicate 10 (.b false)))).put h5.nx (.cells 10 ((bitsA (setO O)).map V.b))) h5.nx (bitsA (setO O)) := by unfold Ar; rw [get_put_same, bitsA_len]
        have ldn5 := hu5.ldn (n := 10) bitsA_len.symm
        obtain ⟨st8, hA8⟩ := hA7.st (i := i) (x := true) (c := .b true) hul rfl rfl
        have gw8 : Grow h5.nx.nat ((h5.new (.cells 10 (List.replicate 10 (.b false)))).put h5.nx (.cells 10 ((bitsA (setO O)).map V.b))) (((h5.new (.cells 10 (List.replicate 10 (.b false)))).put h5.nx (.cells 10 ((bitsA (setO O)).map V.b))).put h5.nx (.cells (bitsA (setO O)).length (((bitsA (setO O)).set i true).map V.b))) := Grow.put (Nat.le_refl _) (by rw [nx_put]; omega) _
        have g58 := (gw6.trans gw7).trans gw8
        have ldn8 := hA8.ldn (n := 10) (by rw [List.length_set]; exact bitsA_len.symm)
        have t8 := q7.grow hc0 kd g58
        change storeV _ 10 _ (.agg ((bitsA (setO O)).map V.b)) = .ok undefV ((h5.new (.cells 10 (List.replicate 10 (.b false)))).put h5.nx (.cells 10 ((bitsA (setO O)).map V.b))) at st6
        have ldF8 := t8.ldF
        simp (disch := omega) only [f79_r11, f79_r12, f79_r13, w_reg, w_seq, seqK_n, x_nil, x_mv, x_alloc, x_ld, x_ldn, x_st, x_iadr, x_call, kx, rvP_ok, ev_t, ev_c, evs_nil, evs_cons, getV_some, putD_some, putD_none, onP_p, idx_n, getK_set, Nat.reduceEqDiff, ↓reduceIte, g5, g6, ldn5, st6, st8, ldF8, ldn8]
        clear st6 st8 hA6 hA7 ldF8 ldn5 gw6 gw7 gw8 nx6 ldn8 hA8
        generalize ((h5.new (.cells 10 (List.replicate 10 (.b false)))).put h5.nx (.cells 10 ((bitsA (setO O)).map V.b))).put h5.nx (.cells (bitsA (setO O)).length (((bitsA (setO O)).set i true).map V.b)) = h8 at *
        rw [bitsA_set]
        refine (ih i hil M1 o' w' h8 t8 ho2 tr.down).mono ?_
        rintro r h9 ⟨x, rfl, po⟩
        obtain ⟨M9, O9, o9, w9, t9, k9, f9, f9'⟩ := po.ex
        have kp9 := (kp5.trans (Kept.grow (o := o') (w := w') g58)).trans k9
        cases x
        · obtain ⟨rfl, tr9, nf9⟩ := f9' rfl
          obtain ⟨oa, wa, s1, s2, s3, s4, s5, s6, s7, s8⟩ := t9.pop kd
          have hsub : fw .i64 (((O ++ [i]).length : Int) - 1) = (O.length : Int) := by
            have : (O ++ [i]).length = O.length + 1 := by simp
            rw [fw64 (by omega) (by omega)]; omega
          have hln := t9.so.len
          have hlw := t9.sw.len
          rw [List.length_map] at hlw
          have ldb : loadV (h9.put d.O (.cells 1 [oa])) (.p d.B 0) one? = .ok w9 _ := load_p (by rw [get_put_other (kNe kd.a3).symm]; exact t9.eB) rfl
          obtain ⟨v1, v2, v3⟩ := k9.2 u hcu (by have := g58.nx; omega) ku2 ku3
          obtain ⟨v4, v5, v6⟩ := s8.2 u hcu (by have := g58.nx; have := k9.1; omega) v2 v3
          simp (disch := omega) only [f79_r15, w_skip, w_reg, w_draw, w_cond, seqK_n, atK_n, ckB_b, cbB_b, true_and, x_nil, x_st, sliceV_eq, Option.map_none, Option.map_some, kx, kg, xg_nil, xg_ld, xg_bin, xg_slice, xg_len, xd_cons, fresh_nil, stK_n, stK_s, stay_nil, stay_cons, again_ok, stay_len, stay_slice, beq_i, stay_ld, stay_bin, rvP_ok, okv_some, ev_t, ev_c, getV_some, putD_some, putD_none, bin_sub, of1, getK_set, Nat.reduceEqDiff, ↓reduceIte, Bool.false_eq_true, g1, g4, t9.ldO, t9.ldB, hln, hlw, hsub, s1, s2, s3, s4, s5, s6, ldb]
          simp (disch := omega) only [f79_r16, loopK_n, x_nil, x_mv, x_bin, kx, rvP_ok, okv_some, ev_t, ev_c, getV_some, putD_some, bin_add, of1, getK_set, Nat.reduceEqDiff, ↓reduceIte, g23, fw64]
          refine ⟨i + 1, by omega, M9, oa, wa, hil, s7, tr9.up, kp9.trans s8, ⟨((hu5.same (g58.old u hu35)).same v1).same v4, v5, v6, by have := s8.1; have := k9.1; have := g58.nx; omega⟩, fun k hk hok => ?_, by simp (disch := omega) only [getK_set, Nat.reduceEqDiff, ↓reduceIte, g1, g2, g3, g4, g5, g6, g21, g22, and_self, Int.natCast_add, Int.natCast_one]⟩
          by_cases e : k = i
          · subst e; exact nf9
          · exact hno k (by omega) hok
        · simp (disch := omega) only [f79_r14, f79_rs, w_reg, w_seq, w_cond, w_ret, seqK_n, seqK_r, atK_r, loopK_r, ckB_b, cbB_b, true_and, retK_r, x_nil, x_as, kx, ev_t, ev_c, getV_some, putD_some, oGet_s, readRs_nil, readRs_t, retV_1, Option.some.injEq, exists_eq_left', getK_set, ↓reduceIte]
          exact hp1 _ ⟨M9, O9, o9, w9, t9, kp9, f9, fun h => by cases h⟩
  · obtain rfl : i = Q.length := by omega
    simp (disch := omega) only [f79_r7, f79_r17, f79_rs, w_reg, w_seq, w_cond, w_exit, w_ret, seqK_n, seqK_e, atK_e, loopK_e, ckB_b, cbB_b, true_and, retK_r, x_nil, x_as, x_bin, kx, rvP_ok, okv_some, ev_t, ev_c, getV_some, putD_some, bin_lss, oGet_s, readRs_nil, readRs_t, retV_1, Option.some.injEq, exists_eq_left', getK_set, ↓reduceIte, Bool.false_eq_true, g22, g23, Int.lt_irrefl, decide_false]
    have nf := no_fin ho hlt fun k hk hok => hno k hk hok
    exact hp2 _ ⟨M1, O, o1, w1, st, kp, fun h => (by cases h), fun _ => ⟨rfl, tr.out ho an.len nf, nf⟩⟩
theorem f79_ret {b c : Nat} {h0 : H} {d : Ids} {v : V} {Q : List Nat} (k : Calls79 fs) (kd : IdsOk b c d) (hc0 : HC h0) (hv : Sl nE h0 v Q) (hvb : ∀ id off n sz, v = .sl id off n sz → id.nat < b) (an : Anti Q) :
    ∀ (n : Nat) (M : List (List Bool)) (O : List Nat) (o w : V) (h : H), Q.length - O.length ≤ n → FSt b c h0 d v Q M O o w h → Ord Q O → Tri Q M O →
      Ret fs f79 (bK (bitsA (setO O)) :: capsF d) h fun r h' => ∃ x, r = .b x ∧ Post79 b c h0 d v Q O o w h x h' := by
  intro n
  induction n with
  | zero =>
    intro M O o w h hn st ho tr
    have hl := ho.len
    apply ret_of rfl
    show W fs none f79_c _ _ _
    unfold f79_c capsF
    have e : O.length = Q.length := by omega
    have hb : cellsN 10 (bK (bitsA (setO O))) = some ((bitsA (setO O)).map V.b) := cellsN_arr
    have g1 : Grow h.nx.nat h (h.new (.cells 10 ((bitsA (setO O)).map V.b))) := Grow.new (Nat.le_refl _) _
    have st1 := st.grow hc0 kd g1
    have hv1 : Sl nE (h.new (.cells 10 ((bitsA (setO O)).map V.b))) v Q := hv.same fun id off n sz e => st1.gr.old id (hvb _ _ _ _ e)
    have e' : ((O.length : Nat) : Int) = ((Q.length : Nat) : Int) := by omega
    simp (disch := omega) only [f79_r0, f79_r1, f79_r2, f79_rs, w_reg, w_seq, w_cond, w_ret, seqK_n, seqK_r, ckB_b, cbB_b, true_and, retK_r, x_nil, x_as, x_box, x_ld, x_bin, x_len, kx, rvP_ok, okv_some, ev_t, ev_c, getV_some, putD_some, bin_eql, oGet_s, readRs_nil, readRs_t, retV_1, Option.some.injEq, exists_eq_left', getK_set, Nat.reduceEqDiff, ↓reduceIte, frame_6, hb, st1.ldO, st1.ldP, st1.so.len, hv1.len, e', decide_true]
    exact ⟨true, rfl, ⟨M, O, o, w, st1, Kept.grow g1, fun _ => ⟨ho, e⟩, fun h => by cases h⟩⟩
  | succ n ih =>
    intro M O o w h hn st ho tr
    have hl := ho.len
    apply ret_of rfl
    show W fs none f79_c _ _ _
    unfold f79_c capsF
    have hb : cellsN 10 (bK (bitsA (setO O))) = some ((bitsA (setO O)).map V.b) := cellsN_arr
    have g1 : Grow h.nx.nat h (h.new (.cells 10 ((bitsA (setO O)).map V.b))) := Grow.new (Nat.le_refl _) _
    have st1 := st.grow hc0 kd g1
    have hc := st.hc hc0
    have nx1 := nx_new h (.cells 10 ((bitsA (setO O)).map V.b))
    have hv1 : Sl nE (h.new (.cells 10 ((bitsA (setO O)).map V.b))) v Q := hv.same fun id off n sz e => st1.gr.old id (hvb _ _ _ _ e)
    by_cases e : O.length = Q.length
    · have e' : ((O.length : Nat) : Int) = ((Q.length : Nat) : Int) := by omega
      simp (disch := omega) only [f79_r0, f79_r1, f79_r2, f79_rs, w_reg, w_seq, w_cond, w_ret, seqK_n, seqK_r, ckB_b, cbB_b, true_and, retK_r, x_nil, x_as, x_box, x_ld, x_bin, x_len, kx, rvP_ok, okv_some, ev_t, ev_c, getV_some, putD_some, bin_eql, oGet_s, readRs_nil, readRs_t, retV_1, Option.some.injEq, exists_eq_left', getK_set, Nat.reduceEqDiff, ↓reduceIte, frame_6, hb, st1.ldO, st1.ldP, st1.so.len, hv1.len, e', decide_true]
      exact ⟨true, rfl, ⟨M, O, o, w, st1, Kept.grow g1, fun _ => ⟨ho, e⟩, fun h => by cases h⟩⟩
    · have e' : ¬ ((O.length : Nat) : Int) = ((Q.length : Nat) : Int) := by omega
      have hu : Ar V.b (h.new (.cells 10 ((bitsA (setO O)).map V.b))) h.nx (bitsA (setO O)) := Ar.box
      have ldu := hu.ldn (n := 10) bitsA_len.symm
      have lk := st1.eM.look (n := 10) (L := bitsA (setO O)) bitsA_len tr.len
      have lo := st.so.lt hc
      have lw := st.sw.lt hc
      have hlen := an.len
      by_cases em : bitsA (setO O) ∈ M
      · rw [decide_eq_true em] at lk
        change lookV 89 _ _ _ _ (.agg ((bitsA (setO O)).map V.b)) _ = _ at lk
        simp (disch := omega) only [f79_r0, f79_r1, f79_r3, f79_r4, f79_rs, w_skip, w_reg, w_seq, w_cond, w_ret, seqK_n, seqK_r, ckB_b, cbB_b, true_and, retK_r, x_nil, x_as, x_box, x_ld, x_ldn, x_bin, x_look, x_len, kx, rvP_ok, okv_some, ev_t, ev_c, getV_some, putD_some, bin_eql, oGet_s, readRs_nil, readRs_t, retV_1, Option.some.injEq, exists_eq_left', getK_set, Nat.reduceEqDiff, ↓reduceIte, Bool.false_eq_true, frame_6, hb, st1.ldO, st1.ldP, st1.so.len, hv1.len, e', decide_false, st1.ldT, ldu, lk]
        exact ⟨false, rfl, ⟨M, O, o, w, st1, Kept.grow g1, fun h => (by cases h), fun _ => ⟨rfl, tr, tr.hit ho hlen em⟩⟩⟩
      · rw [decide_eq_false em] at lk
        change lookV 89 _ _ _ _ (.agg ((bitsA (setO O)).map V.b)) _ = _ at lk
        obtain ⟨mp1, mp2⟩ := st1.eM.put (n := 10) (L := bitsA (setO O)) bitsA_len tr.len em
        change mupdV 89 _ _ _ (.agg ((bitsA (setO O)).map V.b)) _ = _ at mp1
        have st2 := st1.mark kd mp2
        have hdM : d.M.nat < c := by have := kd.a5; have := kd.a6; have := kd.a7; omega
        have hch := st.nx
        have hu2 : Ar V.b ((h.new (.cells 10 ((bitsA (setO O)).map V.b))).put d.M (.map 89 (ents (M ++ [bitsA (setO O)])))) h.nx (bitsA (setO O)) := hu.same (get_put_other (kNe (by omega)).symm)
        simp (disch := omega) only [f79_r0, f79_r1, f79_r3, f79_r5, f79_r6, w_skip, w_reg, w_seq, w_cond, w_block, seqK_n, ckB_b, cbB_b, true_and, x_nil, x_mv, x_as, x_box, x_ld, x_ldn, x_bin, x_look, x_mupd, x_len, kx, rvP_ok, okv_some, ev_t, ev_c, getV_some, putD_some, putD_none, bin_eql, oGet_s, of0, getK_set, Nat.reduceEqDiff, ↓reduceIte, Bool.false_eq_true, frame_6, hb, st1.ldO, st1.ldP, st1.so.len, hv1.len, e', decide_false, st1.ldT, ldu, lk, mp1, st2.ldP]
        refine W_loop (f79_I b c h0 d v Q O o w h h.nx) (fun i => Q.length - i) (f79_body k kd hc0 hv hvb an ho (by omega) st.nx (Nat.le_refl _) ?_ ?_ ?_) 0 ⟨M ++ [bitsA (setO O)], o, w, Nat.zero_le _, st2, tr.add, (Kept.grow g1).trans (Kept.put (by omega)), ⟨hu2, fun off n sz e => by have := lo _ _ _ _ e; omega, fun off n sz e => by have := lw _ _ _ _ e; omega, by rw [nx_put]; omega⟩, fun k hk => by omega, by simp (disch := omega) only [getK_set, Nat.reduceEqDiff, ↓reduceIte, and_self, Int.natCast_zero]⟩
        · intro i hi M2 o2 w2 h2 st2 ho2 tr2
          refine callP_c k.c79 rfl (ih M2 (O ++ [i]) o2 w2 h2 (by simp; omega) st2 ho2 tr2)
        · exact fun h' po => ⟨true, rfl, po⟩
        · exact fun h' po => ⟨false, rfl, po⟩
end
end Go.Ev
namespace Go.Ev
open Go Go.RowKit
noncomputable def f59_r0 : List EOper := [⟨(some (K.ofNat 1)), none, .box 1 (.t (K.ofNat 0))⟩, ⟨(some (K.ofNat 2)), none, .as (.c .sn)⟩, ⟨(some (K.ofNat 3)), none, .as (.c (.b false))⟩]
noncomputable def f59_r1 : List EOper := [⟨(some (K.ofNat 4)), none, .alloc 1 [.sn]⟩, ⟨(some (K.ofNat 5)), none, .alloc 1 [.sn]⟩]
noncomputable def f59_r2 : List EOper := [⟨(some (K.ofNat 8)), none, .mkmap 89⟩, ⟨(some (K.ofNat 6)), none, .alloc 1 [.mn]⟩, ⟨none, none, .st 1 (.t (K.ofNat 6)) (.t (K.ofNat 8))⟩]
noncomputable def f59_r3 : List EOper := [⟨(some (K.ofNat 7)), none, .alloc 1 [.fnil]⟩]
noncomputable def f59_r4 : List EOper := [⟨(some (K.ofNat 9)), none, .mkfn (K.ofNat 79) [(.t (K.ofNat 4)), (.t (K.ofNat 1)), (.t (K.ofNat 6)), (.t (K.ofNat 5)), (.t (K.ofNat 7))]⟩, ⟨none, none, .st 1 (.t (K.ofNat 7)) (.t (K.ofNat 9))⟩]
noncomputable def f59_r5 : List EOper := [⟨(some (K.ofNat 10)), none, .ld (.t (K.ofNat 7))⟩, ⟨(some (K.ofNat 11)), none, .build (List.replicate 10 (.b false)) []⟩, ⟨(some (K.ofNat 12)), none, .call (.t (K.ofNat 10)) [(.t (K.ofNat 11))]⟩, ⟨(some (K.ofNat 13)), none, .not (.t (K.ofNat 12))⟩]
noncomputable def f59_r6 : List EOper := [⟨(some (K.ofNat 2)), none, .as (.c .sn)⟩, ⟨(some (K.ofNat 3)), none, .as (.c (.b false))⟩]
noncomputable def f59_r7 : List EOper := [⟨(some (K.ofNat 14)), none, .ld (.t (K.ofNat 4))⟩, ⟨(some (K.ofNat 2)), none, .as (.t (K.ofNat 14))⟩, ⟨(some (K.ofNat 3)), none, .as (.c (.b true))⟩]
noncomputable def f59_c : EC := (.seq (.reg f59_r0) (.seq (.reg f59_r1) (.seq (.reg f59_r2) (.seq (.reg f59_r3) (.seq (.reg f59_r4) (.seq (.seq (.reg f59_r5) (.cond (.t (K.ofNat 13)) (.seq (.reg f59_r6) .ret) .skip)) (.seq (.reg f59_r7) .ret)))))))
noncomputable def f59 : EF := ⟨15, [.tmp (K.ofNat 2), .tmp (K.ofNat 3)], f59_c, none⟩
theorem f59_rs : f59.rs = [.tmp (K.ofNat 2), .tmp (K.ofNat 3)] := of_eq_true (eq_self _)
noncomputable def f21_r0 : List EOper := [⟨(some (K.ofNat 4)), none, .as (.c .sn)⟩, ⟨(some (K.ofNat 5)), none, .as (.c (.b false))⟩, ⟨(some (K.ofNat 6)), none, .as (.c (.i .i64 (.ofNat 0)))⟩]
noncomputable def f21_r1 : List EOper := [⟨(some (K.ofNat 10)), none, .mv (.t (K.ofNat 0))⟩, ⟨(some (K.ofNat 11)), none, .mv (.t (K.ofNat 1))⟩, ⟨(some (K.ofNat 12)), none, .call (.c (.fn (K.ofNat 16) [])) [(.t (K.ofNat 10)), (.t (K.ofNat 11))]⟩, ⟨(some (K.ofNat 7)), none, .as (.t (K.ofNat 12))⟩]
noncomputable def f21_r2 : List EOper := [⟨(some (K.ofNat 13)), none, .mv (.t (K.ofNat 7))⟩, ⟨(some (K.ofNat 14)), none, .bin .neq (.t (K.ofNat 13)) (.c (.i .i64 (.ofNat 0)))⟩]
noncomputable def f21_r3 : List EOper := [⟨(some (K.ofNat 15)), none, .mv (.t (K.ofNat 7))⟩, ⟨(some (K.ofNat 4)), none, .as (.c .sn)⟩, ⟨(some (K.ofNat 5)), none, .as (.c (.b false))⟩, ⟨(some (K.ofNat 6)), none, .as (.t (K.ofNat 15))⟩]
noncomputable def f21_r4 : List EOper := [⟨(some (K.ofNat 16)), none, .mv (.t (K.ofNat 1))⟩, ⟨(some (K.ofNat 17)), none, .call (.c (.fn (K.ofNat 58) [])) [(.t (K.ofNat 16))]⟩, ⟨(some (K.ofNat 18)), none, .not (.t (K.ofNat 17))⟩]
noncomputable def f21_r5 : List EOper := [⟨(some (K.ofNat 4)), none, .as (.c .sn)⟩, ⟨(some (K.ofNat 5)), none, .as (.c (.b false))⟩, ⟨(some (K.ofNat 6)), none, .as (.c (.i .i64 (.ofNat 0)))⟩]
noncomputable def f21_r6 : List EOper := [⟨(some (K.ofNat 20)), none, .mv (.t (K.ofNat 1))⟩, ⟨(some (K.ofNat 21)), none, .call (.c (.fn (K.ofNat 59) [])) [(.t (K.ofNat 20))]⟩, ⟨(some (K.ofNat 19)), none, .mv (.t (K.ofNat 21))⟩, ⟨(some (K.ofNat 22)), none, .ext (.t (K.ofNat 19)) 0⟩, ⟨(some (K.ofNat 23)), none, .ext (.t (K.ofNat 19)) 1⟩, ⟨(some (K.ofNat 8)), none, .as (.t (K.ofNat 22))⟩, ⟨(some (K.ofNat 9)), none, .as (.t (K.ofNat 23))⟩]
noncomputable def f21_r7 : List EOper := [⟨(some (K.ofNat 24)), none, .mv (.t (K.ofNat 8))⟩, ⟨(some (K.ofNat 25)), none, .mv (.t (K.ofNat 9))⟩, ⟨(some (K.ofNat 4)), none, .as (.t (K.ofNat 24))⟩, ⟨(some (K.ofNat 5)), none, .as (.t (K.ofNat 25))⟩, ⟨(some (K.ofNat 6)), none, .as (.c (.i .i64 (.ofNat 0)))⟩]
noncomputable def f21_c : EC := (.seq (.reg f21_r0) (.seq (.seq (.reg f21_r1) (.seq (.reg f21_r2) (.cond (.t (K.ofNat 14)) (.seq (.reg f21_r3) .ret) .skip))) (.seq (.seq (.reg f21_r4) (.cond (.t (K.ofNat 18)) (.seq (.reg f21_r5) .ret) .skip)) (.seq (.reg f21_r6) (.seq (.reg f21_r7) .ret)))))
noncomputable def f21 : EF := ⟨26, [.tmp (K.ofNat 4), .tmp (K.ofNat 5), .tmp (K.ofNat 6)], f21_c, none⟩
theorem f21_rs : f21.rs = [.tmp (K.ofNat 4), .tmp (K.ofNat 5), .tmp (K.ofNat 6)] := of_eq_true (eq_self _)
section
variable {fs : T EF} {ro : Option K}
structure Found (Q : List Nat) (h h' : H) (x : Bool) (u : V) : Prop where
  gr : Grow h.nx.nat h h'
  yes : x = true → ∃ O, Sl nE h' u O ∧ Own h.nx.nat u ∧ Ord Q O ∧ O.length = Q.length
  no : x = false → u = .sn ∧ ¬ Fin0 Q 0
theorem f59_ret {h : H} {v : V} {Q : List Nat} (k : Calls79 fs) (hc : HC h) (hv : Sl nE h v Q) (an : Anti Q) :
    Ret fs f59 [v] h fun r h' => ∃ x u, r = .tup [u, .b x] ∧ Found Q h h' x u := by
  apply ret_of rfl
  show W fs none f59_c _ _ _
  unfold f59_c
  have n1 := nx_new h (.cells 1 [v])
  have n2 := nx_new (h.new (.cells 1 [v])) (.cells 1 [.sn])
  have b2 : (h.new (.cells 1 [v])).get h.nx = .cells 1 [v] := get_new_same
  have w1 : Grow h.nx.nat h (h.new (.cells 1 [v])) := Grow.new (Nat.le_refl _) _
  have hv1 := hv.one
  simp (disch := omega) only [f59_r0, w_reg, w_seq, seqK_n, x_nil, x_as, x_box, kx, rvP_ok, ev_t, ev_c, getV_some, putD_some, oGet_s, frame_1, getK_set, ↓reduceIte, hv1]
  generalize h.new (.cells 1 [v]) = h1 at *
  have w2 : Grow h1.nx.nat h1 (h1.new (.cells 1 [.sn])) := Grow.new (Nat.le_refl _) _
  have c2 : (h1.new (.cells 1 [.sn])).get h1.nx = .cells 1 [.sn] := get_new_same
  have n3 := nx_new (h1.new (.cells 1 [.sn])) (.cells 1 [.sn])
  have w3 : Grow (h1.new (.cells 1 [.sn])).nx.nat (h1.new (.cells 1 [.sn])) ((h1.new (.cells 1 [.sn])).new (.cells 1 [.sn])) := Grow.new (Nat.le_refl _) _
  have c3 : ((h1.new (.cells 1 [.sn])).new (.cells 1 [.sn])).get (h1.new (.cells 1 [.sn])).nx = .cells 1 [.sn] := get_new_same
  simp (disch := omega) only [f59_r1, w_reg, w_seq, seqK_n, x_nil, x_alloc, putD_some]
  generalize h1.new (.cells 1 [.sn]) = h2 at *
  generalize h2.new (.cells 1 [.sn]) = h3 at *
  have n4 := nx_new h3 (.map 89 [])
  have w4 : Grow h3.nx.nat h3 (h3.new (.map 89 [])) := Grow.new (Nat.le_refl _) _
  have c4 : (h3.new (.map 89 [])).get h3.nx = .map 89 [] := get_new_same
  have n5 := nx_new (h3.new (.map 89 [])) (.cells 1 [.mn])
  have w5 : Grow (h3.new (.map 89 [])).nx.nat (h3.new (.map 89 [])) ((h3.new (.map 89 [])).new (.cells 1 [.mn])) := Grow.new (Nat.le_refl _) _
  have s5 : storeV ((h3.new (.map 89 [])).new (.cells 1 [.mn])) 1 (.p (h3.new (.map 89 [])).nx 0) (.m h3.nx) = .ok undefV (((h3.new (.map 89 [])).new (.cells 1 [.mn])).put (h3.new (.map 89 [])).nx (.cells 1 [.m h3.nx])) := by
    rw [store_p (m := 1) (cs := [.mn]) get_new_same (xs := [.m h3.nx]) rfl (by omega)]; rfl
  have w6 : Grow (h3.new (.map 89 [])).nx.nat ((h3.new (.map 89 [])).new (.cells 1 [.mn])) (((h3.new (.map 89 [])).new (.cells 1 [.mn])).put (h3.new (.map 89 [])).nx (.cells 1 [.m h3.nx])) := Grow.put (Nat.le_refl _) (by omega) _
  have c6 : (((h3.new (.map 89 [])).new (.cells 1 [.mn])).put (h3.new (.map 89 [])).nx (.cells 1 [.m h3.nx])).get (h3.new (.map 89 [])).nx = .cells 1 [.m h3.nx] := get_put_same
  have n6 : (((h3.new (.map 89 [])).new (.cells 1 [.mn])).put (h3.new (.map 89 [])).nx (.cells 1 [.m h3.nx])).nx.nat = ((h3.new (.map 89 [])).new (.cells 1 [.mn])).nx.nat := rfl
  simp (disch := omega) only [f59_r2, w_reg, w_seq, seqK_n, x_nil, x_alloc, x_st, x_mkmap, kx, rvP_ok, ev_t, getV_some, putD_some, putD_none, getK_set, Nat.reduceEqDiff, ↓reduceIte, s5]
  generalize h3.new (.map 89 []) = h4 at *
  generalize h4.new (.cells 1 [.mn]) = h5 at *
  generalize h5.put h4.nx (.cells 1 [.m h3.nx]) = h6 at *
  have n7 := nx_new h6 (.cells 1 [.fnil])
  have w7 : Grow h6.nx.nat h6 (h6.new (.cells 1 [.fnil])) := Grow.new (Nat.le_refl _) _
  have s7 : storeV (h6.new (.cells 1 [.fnil])) 1 (.p h6.nx 0) (.fn (K.ofNat 79) [.p h1.nx 0, .p h.nx 0, .p h4.nx 0, .p h2.nx 0, .p h6.nx 0]) = .ok undefV ((h6.new (.cells 1 [.fnil])).put h6.nx (.cells 1 [.fn (K.ofNat 79) [.p h1.nx 0, .p h.nx 0, .p h4.nx 0, .p h2.nx 0, .p h6.nx 0]])) := by
    rw [store_p (m := 1) (cs := [.fnil]) get_new_same (xs := [.fn (K.ofNat 79) [.p h1.nx 0, .p h.nx 0, .p h4.nx 0, .p h2.nx 0, .p h6.nx 0]]) rfl (by omega)]; rfl
  have w8 : Grow h6.nx.nat (h6.new (.cells 1 [.fnil])) ((h6.new (.cells 1 [.fnil])).put h6.nx (.cells 1 [.fn (K.ofNat 79) [.p h1.nx 0, .p h.nx 0, .p h4.nx 0, .p h2.nx 0, .p h6.nx 0]])) := Grow.put (Nat.le_refl _) (by omega) _
  have c8 : ((h6.new (.cells 1 [.fnil])).put h6.nx (.cells 1 [.fn (K.ofNat 79) [.p h1.nx 0, .p h.nx 0, .p h4.nx 0, .p h2.nx 0, .p h6.nx 0]])).get h6.nx = .cells 1 [.fn (K.ofNat 79) [.p h1.nx 0, .p h.nx 0, .p h4.nx 0, .p h2.nx 0, .p h6.nx 0]] := get_put_same
  have n8 : ((h6.new (.cells 1 [.fnil])).put h6.nx (.cells 1 [.fn (K.ofNat 79) [.p h1.nx 0, .p h.nx 0, .p h4.nx 0, .p h2.nx 0, .p h6.nx 0]])).nx.nat = (h6.new (.cells 1 [.fnil])).nx.nat := rfl
  simp (disch := omega) only [f59_r3, f59_r4, w_reg, w_seq, seqK_n, x_nil, x_alloc, x_st, x_mkfn, kx, rvP_ok, ev_t, evs_nil, evs_cons, getV_some, putD_some, putD_none, getK_set, Nat.reduceEqDiff, ↓reduceIte, s7]
  generalize h6.new (.cells 1 [.fnil]) = h7 at *
  generalize h7.put h6.nx (.cells 1 [.fn (K.ofNat 79) [.p h1.nx 0, .p h.nx 0, .p h4.nx 0, .p h2.nx 0, .p h6.nx 0]]) = h8 at *
  have z6 : Grow h6.nx.nat h6 h8 := w7.trans w8
  have z4 : Grow h4.nx.nat h4 h8 := (w5.trans w6).trans (z6.low (by omega))
  have z3 : Grow h3.nx.nat h3 h8 := w4.trans (z4.low (by omega))
  have z2 : Grow h2.nx.nat h2 h8 := w3.trans (z3.low (by omega))
  have z1 : Grow h1.nx.nat h1 h8 := w2.trans (z2.low (by omega))
  have z0 : Grow h.nx.nat h h8 := w1.trans (z1.low (by omega))
  have hvl := hv.lt hc
  have kd : IdsOk h.nx.nat h8.nx.nat ⟨h.nx, h1.nx, h2.nx, h3.nx, h4.nx, h6.nx⟩ := by
    constructor
    · show h.nx.nat ≤ h.nx.nat; omega
    · show h.nx.nat < h1.nx.nat; omega
    · show h1.nx.nat < h2.nx.nat; omega
    · show h2.nx.nat < h3.nx.nat; omega
    · show h3.nx.nat < h4.nx.nat; omega
    · show h4.nx.nat < h6.nx.nat; omega
    · show h6.nx.nat < h8.nx.nat; omega
  have st : FSt h.nx.nat h8.nx.nat h ⟨h.nx, h1.nx, h2.nx, h3.nx, h4.nx, h6.nx⟩ v Q [] [] .sn .sn h8 := by
    refine ⟨z0, Nat.le_refl _, ?_, ?_, ?_, ?_, ?_, ?_, Sl.nil, Sl.nil, Own.sn, Own.sn, fun _ _ _ _ e => by cases e⟩
    · show h8.get h.nx = _; rw [z1.old _ (by omega)]; exact b2
    · show h8.get h1.nx = _; rw [z2.old _ (by omega)]; exact c2
    · show h8.get h2.nx = _; rw [z3.old _ (by omega)]; exact c3
    · show h8.get h3.nx = _; rw [z4.old _ (by omega)]; exact c4
    · show h8.get h4.nx = _; rw [z6.old _ (by omega)]; exact c6
    · exact c8
  have ldF := st.ldF
  change loadV h8 (.p h6.nx 0) one? = .ok (.fn (K.ofNat 79) (capsF ⟨h.nx, h1.nx, h2.nx, h3.nx, h4.nx, h6.nx⟩)) h8 at ldF
  have fl0 : ∀ fr : Fr, fillE fr (List.replicate 10 (.b false)) [] = some (List.replicate 10 (.b false)) := fun _ => rfl
  simp (disch := omega) only [f59_r5, x_build, x_ld, x_call, kx, rvP_ok, ev_t, evs_nil, evs_cons, getV_some, putD_some, oGet_s, getK_set, Nat.reduceEqDiff, ↓reduceIte, ldF, fl0]
  have hbk : V.agg (List.replicate 10 (.b false)) = bK (bitsA (setO [])) := rfl
  rw [hbk]
  refine (callP_c k.c79 rfl (f79_ret k kd hc hv hvl an Q.length [] [] .sn .sn h8 (by simp) st .nil ⟨fun x hx => (by cases hx), fun x hx => (by cases hx)⟩)).mono ?_
  rintro r h9 ⟨x, rfl, po⟩
  obtain ⟨M9, O9, o9, w9, t9, k9, f9, f9'⟩ := po.ex
  have ldO := t9.ldO
  change loadV h9 (.p h1.nx 0) one? = .ok o9 h9 at ldO
  cases x
  · obtain ⟨_, _, nf⟩ := f9' rfl
    simp (disch := omega) only [f59_r6, f59_rs, w_reg, w_seq, w_cond, w_ret, seqK_n, seqK_r, ckB_b, cbB_b, true_and, retK_r, x_nil, x_as, x_not, kx, rvP_ok, ev_t, ev_c, getV_some, putD_some, onB_b, oGet_s, readRs_nil, readRs_t, retV_2, Option.some.injEq, exists_eq_left', getK_set, Nat.reduceEqDiff, ↓reduceIte, Bool.not_false]
    exact ⟨_, _, rfl, t9.gr, fun h => (by cases h), fun _ => ⟨rfl, nf⟩⟩
  · obtain ⟨ho, hl⟩ := f9 rfl
    simp (disch := omega) only [f59_r7, f59_rs, w_skip, w_reg, w_seq, w_cond, w_ret, seqK_n, ckB_b, cbB_b, true_and, retK_r, x_nil, x_as, x_ld, x_not, kx, rvP_ok, ev_t, ev_c, getV_some, putD_some, onB_b, oGet_s, readRs_nil, readRs_t, retV_2, Option.some.injEq, exists_eq_left', getK_set, Nat.reduceEqDiff, ↓reduceIte, Bool.false_eq_true, Bool.not_true, ldO]
    exact ⟨_, _, rfl, t9.gr, fun _ => ⟨O9, t9.so, t9.oo.low (by omega), ho, hl⟩, fun h => (by cases h)⟩
/-- Shell, of what is a complex. -/
theorem f21_ret {h : H} {v : V} {Q : List Nat} {n : Int} (k : Calls79 fs) (hp75 : ∀ m : Nat, m < 64 → ∀ h P, CallP fs (.fn (K.ofNat 75) []) [.i .i64 (m : Int)] h P = P (.i .i64 (pop6 m : Int)) h) (h16 : fs.get (K.ofNat 16) = some f16) (h58 : fs.get (K.ofNat 58) = some f58) (h59 : fs.get (K.ofNat 59) = some f59)
    (hv : Sl iE h v (castL Q)) (hc : HC h) (an : Anti Q) (hchk : chkS n (castL Q) = 0) :
    Ret fs f21 [.i .i64 n, v] h fun r h' => ∃ x u, r = .tup [u, .b x, .i .i64 0] ∧ Grow h.nx.nat h h' ∧ (x = true → pureS (castL Q) = true ∧ ∃ O, Sl nE h' u O ∧ Own h.nx.nat u ∧ Ord Q O ∧ O.length = Q.length) ∧ (x = false → u = .sn ∧ (pureS (castL Q) = false ∨ ¬ Fin0 Q 0)) := by
  apply ret_of rfl
  show W fs none f21_c _ _ _
  unfold f21_c
  have hl := an.len
  have ne0 : decide ((0 : Int) ≠ 0) = false := rfl
  simp (disch := omega) only [f21_r0, f21_r1, w_reg, w_seq, seqK_n, x_nil, x_mv, x_as, x_call, ev_t, ev_c, evs_nil, evs_cons, getV_some, putD_some, frame_2, of0, getK_set, Nat.reduceEqDiff, ↓reduceIte]
  refine (callP_0 (ef := f16) h16 rfl (f16_ret (n := n) k.p54 hv)).mono ?_
  rintro r h1 ⟨rfl, rfl⟩
  rw [hchk]
  simp (disch := omega) only [f21_r2, f21_r4, w_skip, w_reg, w_seq, w_cond, seqK_n, ckB_b, cbB_b, true_and, x_nil, x_mv, x_as, x_bin, x_call, kx, rvP_ok, okv_some, ev_t, ev_c, evs_nil, evs_cons, getV_some, putD_some, bin_neq, of0, getK_set, Nat.reduceEqDiff, ↓reduceIte, Bool.false_eq_true, ne0]
  refine (callP_0 (ef := f58) h58 rfl (f58_ret hp75 hv (by simp [castL]; omega) (sets_map an.lt))).mono ?_
  rintro r h2 ⟨rfl, rfl⟩
  cases e : pureS (castL Q)
  · simp (disch := omega) only [f21_r5, f21_rs, w_reg, w_seq, w_cond, w_ret, seqK_n, seqK_r, ckB_b, cbB_b, true_and, retK_r, x_nil, x_as, x_not, kx, rvP_ok, ev_t, ev_c, getV_some, putD_some, onB_b, oGet_s, readRs_nil, readRs_t, retV_2, of0, Option.some.injEq, exists_eq_left', getK_set, Nat.reduceEqDiff, ↓reduceIte, Bool.false_eq_true, Bool.not_false]
    exact ⟨false, .sn, rfl, Grow.refl _ _, fun h => (by cases h), fun _ => ⟨rfl, .inl trivial⟩⟩
  · simp (disch := omega) only [f21_r6, w_skip, w_reg, w_seq, w_cond, seqK_n, ckB_b, cbB_b, true_and, x_nil, x_mv, x_not, x_call, kx, rvP_ok, ev_t, ev_c, evs_nil, evs_cons, getV_some, putD_some, onB_b, getK_set, Nat.reduceEqDiff, ↓reduceIte, Bool.false_eq_true, Bool.not_true]
    refine (callP_0 (ef := f59) h59 rfl (f59_ret k hc hv.unmap an)).mono ?_
    rintro r h3 ⟨x, u, rfl, fd⟩
    simp (disch := omega) only [f21_r7, f21_rs, w_reg, w_seq, w_ret, seqK_n, retK_r, x_nil, x_mv, x_as, x_ext, kx, rvP_ok, okv_some, ev_t, ev_c, getV_some, putD_some, onTup_t, oGet_s, nth0, nth1, readRs_nil, readRs_t, retV_2, of0, Option.some.injEq, exists_eq_left', getK_set, Nat.reduceEqDiff, ↓reduceIte]
    exact ⟨x, u, rfl, fd.gr, fd.yes, fun h => ⟨(fd.no h).1, by first | exact .inr (fd.no h).2 | exact (fd.no h).2⟩⟩
end
end Go.Ev
namespace Go.Ev
open Go Go.RowKit
noncomputable def vlen (v : V) : Nat := match v with | .sl _ _ n _ => n | _ => 0
section
variable {α : Type} {e : α → V} {h h' h0 h1 : H} {v u : V} {L M : List α} {b : Nat}
theorem Sl.vlen (hs : Sl e h v L) : vlen v = L.length := by
  rcases hs with ⟨rfl, rfl⟩ | ⟨_, _, _, _, rfl, _⟩ <;> rfl
theorem setMany1 {cs : List V} {k : Nat} {c : V} (h : k < cs.length) : setMany cs k [c] = cs.set k c := by
  rw [setMany_eq _ _ _ (by simp; omega)]
  apply List.ext_getElem?
  intro j
  rcases Nat.lt_trichotomy j k with h1 | h1 | h1
  · rw [List.append_assoc, List.getElem?_append_left (by simp; omega), List.getElem?_take, if_pos h1, List.getElem?_set, if_neg (by omega)]
  · subst h1
    rw [List.append_assoc, List.getElem?_append_right (by simp; omega), List.getElem?_set]
    have : j - min j cs.length = 0 := by omega
    simp [this, h]
  · rw [List.getElem?_append_right (by simp; omega), List.getElem?_set, if_neg (by omega), List.getElem?_drop]
    congr 1
    simp; omega
/-- A slice, after a store somewhere into a block. -/
theorem Sl.touch (hs : Sl e h v L) {id : K} {m k : Nat} {cs : List V} {x : α} (hb : h.get id = .cells m cs) (hk : k < cs.length) : ∃ L', L'.length = L.length ∧ Sl e (h.put id (.cells m (setMany cs k [e x]))) v L' := by
  rw [setMany1 hk]
  rcases hs with ⟨rfl, rfl⟩ | ⟨id2, off, m2, cs2, rfl, hb2, hl, hm, hx⟩
  · exact ⟨[], rfl, .inl ⟨rfl, rfl⟩⟩
  · by_cases e1 : id2 = id
    · subst e1
      rw [hb] at hb2
      cases hb2
      refine ⟨(List.range L.length).map fun i => if off + i = k then x else L.getD i x, by simp, .inr ⟨id2, off, m, _, by simp, get_put_same, by rw [List.length_set]; exact hl, by simpa using hm, fun i hi => ?_⟩⟩
      have hi' : i < L.length := by simpa using hi
      rw [List.getElem?_set]
      by_cases e2 : k = off + i
      · rw [if_pos e2, if_pos (by omega)]
        simp [e2]
      · rw [if_neg e2, hx i hi']
        simp [hi', show ¬ off + i = k from fun h => e2 h.symm]
    · exact ⟨L, rfl, .inr ⟨id2, off, m2, cs2, rfl, by rw [get_put_other e1]; exact hb2, hl, hm, hx⟩⟩
structure OwnSt {α : Type} (e : α → V) (c : Nat) (s : K) (vs : List V) (h0 h1 : H) : Prop where
  gr : Grow c h0 h1
  eb : h1.get s = .cells vs.length vs
  al : ∀ v ∈ vs, ∃ L, Sl e h1 v L
  ow : ∀ v ∈ vs, Own c v
  ni : ∀ v ∈ vs, NotIn s v
theorem OwnSt.ld {s : K} {c : Nat} {vs : List V} (t : OwnSt e c s vs h0 h1) {i : Nat} (hi : i < vs.length) : loadV h1 (.p s (0 + i * 1)) one? = .ok vs[i] h1 :=
  load_p t.eb (by rw [nth_eq, Nat.zero_add, Nat.mul_one, List.getElem?_eq_getElem hi])
theorem OwnSt.st {s : K} {c : Nat} {vs : List V} (t : OwnSt e c s vs h0 h1) (hc : HC h1) {i j : Nat} (hi : i < vs.length) (hj : j < vlen vs[i]) {x : α} {z : V} (hz : z = e x) (ho : cellsN 1 z = some [z]) :
    ∃ p h2, (∀ k h', iadsV 1 vs[i] (.i k (j : Int)) h' = .ok p h') ∧ storeV h1 1 p z = .ok undefV h2 ∧ OwnSt e c s vs h0 h2 ∧ HC h2 := by
  subst hz
  have hm := List.getElem_mem hi
  obtain ⟨L, hs⟩ := t.al _ hm
  have hl := hs.vlen
  have how := t.ow _ hm
  have hni := t.ni _ hm
  generalize vs[i] = v at *
  rcases hs with ⟨rfl, rfl⟩ | ⟨id, off, m, cs, rfl, hb, hll, hmm, hx⟩
  · exact absurd hj (by rw [hl]; simp)
  · rw [hl] at hj
    have hid := hc.cells hb
    have hcid : c ≤ id.nat := how _ _ _ _ rfl
    have g : Grow c h1 (h1.put id (.cells m (setMany cs (off + j * 1) [e x]))) := Grow.put hcid hid _
    refine ⟨.p id (off + j * 1), _, fun k h' => by rw [iads_sl, idx_n hj], store_p hb ho (by omega), ⟨t.gr.trans g, ?_, fun u hu => ?_, t.ow, t.ni⟩, g.hc hc⟩
    · rw [get_put_other (fun e => hni off L.length 1 (by rw [e]))]; exact t.eb
    · obtain ⟨M, hM⟩ := t.al u hu
      obtain ⟨M', _, hM'⟩ := hM.touch (x := x) hb (k := off + j * 1) (by omega)
      exact ⟨M', hM'⟩
end
end Go.Ev
namespace Go.Ev
open Go Go.RowKit
structure Cpx (N : Int) (P : List Int) : Prop where
  chk : chkS N P = 0
  ne : P ≠ []
  ex : ∃ Q, P = castL Q ∧ Anti Q
theorem cast_toNat : ∀ {P : List Int}, (∀ x ∈ P, 0 ≤ x) → castL (P.map Int.toNat) = P
  | [], _ => rfl
  | x :: P, h => by
    have ih := cast_toNat (P := P) fun y hy => h y (List.mem_cons_of_mem _ hy)
    have hx := h x (by simp)
    unfold castL at ih ⊢
    rw [List.map_cons, List.map_cons, ih]
    congr 1
    show ((x.toNat : Nat) : Int) = x
    omega
theorem cpx_of {N : Int} {P : List Int} (h1 : 1 ≤ N) (h6 : N ≤ 6) (hne : P ≠ []) (hl : P.length ≤ 10) (hs : P.Pairwise (· < ·)) (hin : ∀ x ∈ P, 1 ≤ x ∧ x < 2 ^ N.toNat) (ha : ∀ x ∈ P, ∀ y ∈ P, y = x ∨ ptI x y = false) : Cpx N P := by
  refine ⟨chk_good h1 h6 hne hl hs hin ha, hne, P.map Int.toNat, (cast_toNat fun x hx => by have := (hin x hx).1; omega).symm, ?_⟩
  obtain ⟨hpw, hpe⟩ := pow_n h1 h6
  have hlt : ∀ y ∈ P.map Int.toNat, y < 64 := by
    intro y hy
    obtain ⟨x, hx, rfl⟩ := List.mem_map.1 hy
    have := hin x hx
    omega
  refine ⟨by simpa using hl, hlt, fun i j hi hj hne => ?_⟩
  have hi' : i < P.length := by simpa using hi
  have hj' : j < P.length := by simpa using hj
  have ei : (P.map Int.toNat).getD i 0 = P[i].toNat := by simp [List.getD, hi']
  have ej : (P.map Int.toNat).getD j 0 = P[j].toNat := by simp [List.getD, hj']
  have pi := hin _ (List.getElem_mem hi')
  have pj := hin _ (List.getElem_mem hj')
  have ci : ((P[i].toNat : Nat) : Int) = P[i] := by omega
  have cj : ((P[j].toNat : Nat) : Int) = P[j] := by omega
  rw [ei, ej]
  intro e
  rcases ha _ (List.getElem_mem hi') _ (List.getElem_mem hj') with h | h
  · rw [List.pairwise_iff_getElem] at hs
    rcases Nat.lt_or_gt_of_ne hne with h2 | h2
    · have := hs j i hj' hi' h2; omega
    · have := hs i j hi' hj' h2; omega
  · rw [← ci, ← cj, ptI_nat (by omega) (by omega), decide_eq_true e] at h
    cases h
theorem cpx_tame (n : Int) (L : List Int) : Cpx (tameN n) ((tameP (tameN n) L).take 10) := by
  obtain ⟨n1, n6⟩ := tameN_in n
  obtain ⟨f1, f2, f3, f4, f5⟩ := facts_P (N := tameN n) (L := L) n1 n6
  exact cpx_of n1 n6 f1 f2 f3 f4 f5
end Go.Ev
