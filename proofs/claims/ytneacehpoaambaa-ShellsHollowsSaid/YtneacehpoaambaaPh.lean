/-
  What is true of the complexes that the law makes, and of their counts.
  Horner's rule and the sum with binomial coefficients give the same; so do the two sums with signs.
-/
import Derived.Test.YtneacehpoaambaaPg
namespace Go.Ev
open Go Go.RowKit
/-! ### The sets -/
theorem tameX_in {N x : Int} (h1 : 1 ≤ N) (h6 : N ≤ 6) : 0 ≤ tameX N x ∧ tameX N x < 2 ^ N.toNat := by
  have h0 : 0 ≤ fw .u64 x := by rw [fw_eq]; exact Int.emod_nonneg _ (by decide)
  obtain ⟨m, hm⟩ := Int.eq_ofNat_of_zero_le h0
  unfold tameX
  rw [hm]
  have key : ∀ p : Nat, 0 < p → p ≤ 64 → 0 ≤ fw .i64 (Int.tmod (m : Int) (p : Int)) ∧ fw .i64 (Int.tmod (m : Int) (p : Int)) < (p : Int) := by
    intro p hp hp2
    have e : Int.tmod (m : Int) (p : Int) = ((m % p : Nat) : Int) := rfl
    have hlt := Nat.mod_lt m hp
    rw [e, fw64 (by omega) (by omega)]
    omega
  obtain ⟨q1, q2⟩ := pow_n h1 h6
  rw [← q2]
  exact key _ (Nat.two_pow_pos _) q1
theorem tameS_in {N : Int} {L : List Int} {i : Nat} (h1 : 1 ≤ N) (h6 : N ≤ 6) : ∀ s ∈ tameS N L i, 0 ≤ s ∧ s < 2 ^ N.toNat := by
  intro s hs
  unfold tameS at hs
  rcases List.mem_cons.1 hs with rfl | hs
  · have : N = 1 ∨ N = 2 ∨ N = 3 ∨ N = 4 ∨ N = 5 ∨ N = 6 := by omega
    rcases this with rfl | rfl | rfl | rfl | rfl | rfl <;> decide
  · obtain ⟨x, _, rfl⟩ := List.mem_map.1 hs
    exact tameX_in h1 h6
theorem sets_in {N : Int} {S : List Int} (h1 : 1 ≤ N) (h6 : N ≤ 6) (h : ∀ s ∈ S, 0 ≤ s ∧ s < 2 ^ N.toNat) : Sets S := by
  intro s hs
  obtain ⟨a, b⟩ := h s hs
  obtain ⟨q1, q2⟩ := pow_n h1 h6
  exact ⟨s.toNat, by omega, by omega⟩
theorem mem_pieces {S : List Int} {x : Int} (h : x ∈ piecesTo S 64) : ∃ k : Nat, x = (k : Int) ∧ k < 64 ∧ (k : Int) ∈ S ∧ ∀ y ∈ S, y = (k : Int) ∨ ptI (k : Int) y = false := by
  unfold piecesTo at h
  obtain ⟨k, hk, rfl⟩ := List.mem_map.1 h
  rw [List.mem_filter, List.mem_range, Bool.and_eq_true] at hk
  obtain ⟨h1, h2, h3⟩ := hk
  refine ⟨k, rfl, h1, ?_, fun y hy => ?_⟩
  · unfold inP at h2
    obtain ⟨y, hy, e⟩ := List.any_eq_true.1 h2
    have : y = (k : Int) := by simpa using e
    rw [← this]; exact hy
  · unfold grP at h3
    have := List.all_eq_true.1 h3 y hy
    simpa using this
theorem pieces_ne {S : List Int} (hS : Sets S) (hne : S ≠ []) : piecesTo S 64 ≠ [] := by
  obtain ⟨m, hm, hmax⟩ := exists_max S hne
  obtain ⟨t, ht, rfl⟩ := hS m hm
  have hmem : (t : Int) ∈ piecesTo S 64 := by
    unfold piecesTo
    rw [List.mem_map]
    refine ⟨t, ?_, rfl⟩
    rw [List.mem_filter, List.mem_range, Bool.and_eq_true]
    refine ⟨ht, ?_, ?_⟩
    · unfold inP; rw [List.any_eq_true]; exact ⟨_, hm, by simp⟩
    · unfold grP; rw [List.all_eq_true]
      intro y hy
      obtain ⟨u, hu, rfl⟩ := hS y hy
      rw [ptI_nat ht hu]
      have h1 := hmax _ hy
      by_cases e : u = t
      · simp [e]
      · have : ¬ t &&& u = t := fun h2 => by have := sub_le h2; omega
        simp [this]
  intro e
  rw [e] at hmem; cases hmem
theorem pieces_sorted {S : List Int} {i : Nat} : (piecesTo S i).Pairwise (· < ·) := by
  unfold piecesTo
  rw [List.pairwise_map]
  refine List.Pairwise.imp (R := (· < ·)) (fun h => by omega) ?_
  exact List.Pairwise.filter _ List.pairwise_lt_range
theorem facts_P {N : Int} {L : List Int} (h1 : 1 ≤ N) (h6 : N ≤ 6) :
    let P := (tameP N L).take 10
    P ≠ [] ∧ P.length ≤ 10 ∧ P.Pairwise (· < ·) ∧ (∀ x ∈ P, 1 ≤ x ∧ x < 2 ^ N.toNat) ∧ ∀ x ∈ P, ∀ y ∈ P, y = x ∨ ptI x y = false := by
  intro P
  have hin := tameS_in (N := N) (L := L) (i := 10) h1 h6
  have hS := sets_in h1 h6 hin
  have hone : (1 : Int) ∈ tameS N L 10 := by unfold tameS; exact List.mem_cons_self
  have hpos : ∀ x ∈ piecesTo (tameS N L 10) 64, 1 ≤ x ∧ x < 2 ^ N.toNat := by
    intro x hx
    obtain ⟨k, rfl, hk, hks, hkm⟩ := mem_pieces hx
    have := hin _ hks
    refine ⟨?_, this.2⟩
    rcases Nat.eq_zero_or_pos k with e | e
    · subst e
      rcases hkm 1 hone with h | h
      · cases h
      · have h2 : ptI ((0 : Nat) : Int) ((1 : Nat) : Int) = false := h
        rw [ptI_nat (by omega) (by omega)] at h2
        simp at h2
    · omega
  have hP : P = (piecesTo (tameS N L 10) 64).take 10 := by
    show (tameP N L).take 10 = _
    unfold tameP
    simp only []
    rw [if_neg]
    rintro ⟨_, e⟩
    obtain ⟨a, b⟩ := List.getElem?_eq_some_iff.1 e
    have := (hpos _ (List.getElem_mem a)).1
    omega
  rw [hP]
  have sub : ∀ x ∈ (piecesTo (tameS N L 10) 64).take 10, x ∈ piecesTo (tameS N L 10) 64 := fun x hx => List.mem_of_mem_take hx
  refine ⟨fun e => ?_, by rw [List.length_take]; omega, List.Pairwise.sublist (List.take_sublist _ _) pieces_sorted, fun x hx => hpos x (sub x hx), fun x hx y hy => ?_⟩
  · have h2 := pieces_ne hS (by unfold tameS; simp)
    have h3 := congrArg List.length e
    rw [List.length_take] at h3
    have : (piecesTo (tameS N L 10) 64).length ≠ 0 := fun e => h2 (List.length_eq_zero_iff.1 e)
    have h3 : min 10 (piecesTo (tameS N L 10) 64).length = 0 := h3
    omega
  · obtain ⟨k, rfl, hk, hks, hkm⟩ := mem_pieces (sub x hx)
    obtain ⟨j, rfl, hj, hjs, hjm⟩ := mem_pieces (sub y hy)
    exact hkm _ hjs
theorem chk_good {N : Int} {P : List Int} (h1 : 1 ≤ N) (h6 : N ≤ 6) (hne : P ≠ []) (hl : P.length ≤ 10) (hs : P.Pairwise (· < ·)) (hin : ∀ x ∈ P, 1 ≤ x ∧ x < 2 ^ N.toNat) (ha : ∀ x ∈ P, ∀ y ∈ P, y = x ∨ ptI x y = false) : chkS N P = 0 := by
  unfold chkS
  rw [if_neg (by omega), if_pos]
  unfold goodS
  have h0 : P.length ≠ 0 := fun e => hne (List.length_eq_zero_iff.1 e)
  rw [decide_eq_true (by omega), decide_eq_true hl, Bool.true_and, Bool.true_and, List.all_eq_true]
  intro i hi
  have hi : i < P.length := by simpa using hi
  have hg : P.getD i 0 = P[i] := by simp [List.getD, hi]
  unfold okAt
  rw [hg]
  have hm := List.getElem_mem hi
  have hb := hin _ hm
  rw [decide_eq_true hb.1, decide_eq_true hb.2, Bool.true_and, Bool.true_and, List.all_eq_true]
  intro y hy
  obtain ⟨j, hj, rfl⟩ := List.getElem_of_mem hy
  have hj2 : j < i := by rw [List.length_take] at hj; omega
  rw [List.getElem_take]
  have hlt : P[j] < P[i] := List.pairwise_iff_getElem.1 hs j i (by omega) hi hj2
  unfold pairOk
  rw [decide_eq_true hlt]
  rcases ha P[j] (List.getElem_mem _) P[i] hm with e | e
  · omega
  · rw [e]; rfl
/-! ### The faces -/
theorem range_filter {B : Nat → Bool} {m : Nat} : ∀ n, m ≤ n → (∀ k, m ≤ k → k < n → B k = false) → (List.range n).filter B = (List.range m).filter B := by
  intro n
  induction n with
  | zero => intro h _; have : m = 0 := by omega
            rw [this]
  | succ n ih =>
    intro h hb
    by_cases e : m = n + 1
    · rw [e]
    · rw [List.range_succ, List.filter_append, ih (by omega) (fun k h1 h2 => hb k h1 (by omega))]
      simp [hb n (by omega) (by omega)]
theorem faces_eq {N : Int} {P : List Int} (h1 : 1 ≤ N) (h6 : N ≤ 6) (hin : ∀ x ∈ P, 1 ≤ x ∧ x < 2 ^ N.toNat) : mem64 (famB P) = facN P (2 ^ N.toNat) := by
  obtain ⟨q1, q2⟩ := pow_n h1 h6
  unfold mem64 facN
  show (List.range 64).filter (famB P) = (List.range (2 ^ N.toNat)).filter (famB P)
  refine range_filter 64 q1 fun k hk hk2 => ?_
  unfold famB
  rw [List.any_eq_false]
  intro s hs
  obtain ⟨a, b⟩ := hin s hs
  have e : s = (s.toNat : Int) := by omega
  rw [e, ptI_nat hk2 (by omega), decide_eq_true_eq]
  intro h
  have := sub_le h
  omega
theorem pop_mono : ∀ s : Nat, s < 64 → ∀ k : Nat, k < 64 → k &&& s = k → pop6 k ≤ pop6 s := by
  have h : ((List.range 64).all fun s => (List.range 64).all fun k => !(decide (k &&& s = k)) || decide (pop6 k ≤ pop6 s)) = true := by decide +kernel
  intro s hs k hk hsub
  have h1 := List.all_eq_true.1 (List.all_eq_true.1 h s (by simpa using hs)) k (by simpa using hk)
  rw [decide_eq_true hsub] at h1
  simpa using h1
theorem maxS_mem : ∀ {P : List Int} {s : Int}, s ∈ P → pop6 s.toNat ≤ maxS P := by
  intro P
  refine snoc_ind (P := fun P => ∀ {s : Int}, s ∈ P → pop6 s.toNat ≤ maxS P) (fun h => by cases h) (fun l a ih s hs => ?_) P
  rw [maxS_snoc]
  rcases List.mem_append.1 hs with h | h
  · have := ih h; omega
  · have : s = a := by simpa using h
    subst this; omega
theorem maxS_ex : ∀ {P : List Int}, P ≠ [] → ∃ s ∈ P, pop6 s.toNat = maxS P := by
  intro P
  refine snoc_ind (P := fun P => P ≠ [] → ∃ s ∈ P, pop6 s.toNat = maxS P) (fun h => absurd rfl h) (fun l a ih _ => ?_) P
  rw [maxS_snoc]
  by_cases e : l = []
  · subst e; exact ⟨a, by simp, by show _ = max 0 _; omega⟩
  · obtain ⟨s, hs, hm⟩ := ih e
    by_cases h : pop6 a.toNat ≤ maxS l
    · exact ⟨s, by simp [hs], by omega⟩
    · exact ⟨a, by simp, by omega⟩
theorem face_sz {N : Int} {P : List Int} (h1 : 1 ≤ N) (h6 : N ≤ 6) (hin : ∀ x ∈ P, 1 ≤ x ∧ x < 2 ^ N.toNat) : ∀ k ∈ facN P (2 ^ N.toNat), pop6 k ≤ maxS P := by
  obtain ⟨q1, q2⟩ := pow_n h1 h6
  intro k hk
  unfold facN at hk
  rw [List.mem_filter, List.mem_range] at hk
  obtain ⟨hk1, hk2⟩ := hk
  unfold isF at hk2
  obtain ⟨s, hs, e⟩ := List.any_eq_true.1 hk2
  obtain ⟨a, b⟩ := hin s hs
  have es : s = (s.toNat : Int) := by omega
  rw [es, ptI_nat (by omega) (by omega), decide_eq_true_eq] at e
  exact Nat.le_trans (pop_mono s.toNat (by omega) k (by omega) e) (maxS_mem hs)
theorem face_piece {N : Int} {P : List Int} (h1 : 1 ≤ N) (h6 : N ≤ 6) (hin : ∀ x ∈ P, 1 ≤ x ∧ x < 2 ^ N.toNat) {s : Int} (hs : s ∈ P) : s.toNat ∈ facN P (2 ^ N.toNat) := by
  obtain ⟨q1, q2⟩ := pow_n h1 h6
  obtain ⟨a, b⟩ := hin s hs
  unfold facN
  rw [List.mem_filter, List.mem_range]
  refine ⟨by omega, ?_⟩
  unfold isF
  rw [List.any_eq_true]
  refine ⟨s, hs, ?_⟩
  have es : s = (s.toNat : Int) := by omega
  have e2 : ptI (s.toNat : Int) (s.toNat : Int) = true := by rw [ptI_nat (by omega) (by omega)]; simp
  rw [← es] at e2 ⊢
  exact e2
/-! ### The counts -/
theorem getD_cpad {C : List Int} {m j : Nat} : (cpad C m).getD j 0 = C.getD j 0 := by
  unfold cpad
  by_cases h : j < C.length
  · simp [List.getD, List.getElem?_append_left h]
  · simp only [List.getD]
    rw [List.getElem?_append_right (by omega), List.getElem?_replicate, List.getElem?_eq_none (by omega)]
    split <;> rfl
theorem cnt_len {d : Nat} : ∀ (l : List Nat), (∀ k ∈ l, pop6 k ≤ d) → (cntS l).length ≤ d + 1 ∧ (∀ k ∈ l, pop6 k < (cntS l).length) ∧ ∀ j, (cntS l).getD j 0 = (rcnt d l).getD j 0 := by
  intro l
  refine snoc_ind (P := fun l => (∀ k ∈ l, pop6 k ≤ d) → (cntS l).length ≤ d + 1 ∧ (∀ k ∈ l, pop6 k < (cntS l).length) ∧ ∀ j, (cntS l).getD j 0 = (rcnt d l).getD j 0) (fun _ => ?_) (fun l k ih hd => ?_) l
  · refine ⟨by simp [cntS], (fun k h => by cases h), fun j => ?_⟩
    show ([] : List Int).getD j 0 = (List.replicate (d + 1) (0 : Int)).getD j 0
    simp only [List.getD, List.getElem?_nil, List.getElem?_replicate]
    split <;> rfl
  · obtain ⟨i1, i2, i3⟩ := ih (fun k hk => hd k (by simp [hk]))
    have hk := hd k (by simp)
    rw [cntS_snoc, rcnt_snoc]
    have hlen : (cstep (cntS l) (pop6 k)).length = max (cntS l).length (pop6 k + 1) := by
      unfold cstep cpad
      rw [List.length_set, List.length_append, List.length_replicate]; omega
    refine ⟨by rw [hlen]; omega, fun x hx => ?_, fun j => ?_⟩
    · rw [hlen]
      rcases List.mem_append.1 hx with h | h
      · have := i2 x h; omega
      · have : x = k := by simpa using h
        subst this; omega
    · unfold cstep bump
      have hp := cpad_len (C := cntS l) (m := pop6 k)
      have hr := rcnt_len (d := d) l
      have g1 : ∀ (A : List Int) (i : Nat) (x : Int), i < A.length → (A.set i x).getD j 0 = if i = j then x else A.getD j 0 := by
        intro A i x hi
        simp only [List.getD, List.getElem?_set]
        by_cases e : i = j
        · subst e; simp [hi]
        · simp [e]
      rw [g1 _ _ _ hp, g1 _ _ _ (by omega), getD_cpad, getD_cpad, i3, i3]
theorem counts_eq {d : Nat} {l : List Nat} (hd : ∀ k ∈ l, pop6 k ≤ d) (he : ∃ k ∈ l, pop6 k = d) : cntS l = rcnt d l := by
  obtain ⟨h1, h2, h3⟩ := cnt_len l hd
  obtain ⟨k, hk, e⟩ := he
  have h4 := h2 k hk
  have hr := rcnt_len (d := d) l
  apply List.ext_getElem (by omega)
  intro i a b
  have := h3 i
  simp only [List.getD] at this
  rw [List.getElem?_eq_getElem a, List.getElem?_eq_getElem b] at this
  simpa using this
end Go.Ev
namespace Go.Ev
open Go Go.RowKit
theorem sg0 : sgnS 0 = 1 := by decide +kernel
theorem sg1 : sgnS 1 = -1 := by decide +kernel
theorem sg2 : sgnS 2 = 1 := by decide +kernel
theorem sg3 : sgnS 3 = -1 := by decide +kernel
theorem sg4 : sgnS 4 = 1 := by decide +kernel
theorem sg5 : sgnS 5 = -1 := by decide +kernel
theorem sg6 : sgnS 6 = 1 := by decide +kernel
theorem hsA1 {a : Int} (ha : 0 ≤ a ∧ a ≤ 64) : hsS [a] = [1 * a] := by
  simp [hsS, hsTo, List.range, List.range.loop, innerS]
theorem hsB1 {a : Int} (ha : 0 ≤ a ∧ a ≤ 64) : rhsS [a] = [1 * a] := by
  simp [rhsS, arr, List.range, List.range.loop, rkS, bin6, sg0]
  simp (disch := omega) only [fw64]
theorem hsA2 {a b : Int} (ha : 0 ≤ a ∧ a ≤ 64) (hb : 0 ≤ b ∧ b ≤ 64) : hsS [a, b] = [1 * a, (-1) * a + 1 * b] := by
  simp [hsS, hsTo, List.range, List.range.loop, innerS]
  simp (disch := omega) only [fw64]
  omega
theorem hsB2 {a b : Int} (ha : 0 ≤ a ∧ a ≤ 64) (hb : 0 ≤ b ∧ b ≤ 64) : rhsS [a, b] = [1 * a, (-1) * a + 1 * b] := by
  simp [rhsS, arr, List.range, List.range.loop, rkS, bin6, sg0, sg1]
  simp (disch := omega) only [fw64]
  exact ⟨trivial, trivial⟩
theorem hsA3 {a b c : Int} (ha : 0 ≤ a ∧ a ≤ 64) (hb : 0 ≤ b ∧ b ≤ 64) (hc : 0 ≤ c ∧ c ≤ 64) : hsS [a, b, c] = [1 * a, (-2) * a + 1 * b, 1 * a + (-1) * b + 1 * c] := by
  simp [hsS, hsTo, List.range, List.range.loop, innerS]
  simp (disch := omega) only [fw64]
  omega
theorem hsB3 {a b c : Int} (ha : 0 ≤ a ∧ a ≤ 64) (hb : 0 ≤ b ∧ b ≤ 64) (hc : 0 ≤ c ∧ c ≤ 64) : rhsS [a, b, c] = [1 * a, (-2) * a + 1 * b, 1 * a + (-1) * b + 1 * c] := by
  simp [rhsS, arr, List.range, List.range.loop, rkS, bin6, sg0, sg1, sg2]
  simp (disch := omega) only [fw64]
  simp only [true_and, and_true]
  omega
theorem hsA4 {a b c d : Int} (ha : 0 ≤ a ∧ a ≤ 64) (hb : 0 ≤ b ∧ b ≤ 64) (hc : 0 ≤ c ∧ c ≤ 64) (hd : 0 ≤ d ∧ d ≤ 64) : hsS [a, b, c, d] = [1 * a, (-3) * a + 1 * b, 3 * a + (-2) * b + 1 * c, (-1) * a + 1 * b + (-1) * c + 1 * d] := by
  simp [hsS, hsTo, List.range, List.range.loop, innerS]
  simp (disch := omega) only [fw64]
  omega
theorem hsB4 {a b c d : Int} (ha : 0 ≤ a ∧ a ≤ 64) (hb : 0 ≤ b ∧ b ≤ 64) (hc : 0 ≤ c ∧ c ≤ 64) (hd : 0 ≤ d ∧ d ≤ 64) : rhsS [a, b, c, d] = [1 * a, (-3) * a + 1 * b, 3 * a + (-2) * b + 1 * c, (-1) * a + 1 * b + (-1) * c + 1 * d] := by
  simp [rhsS, arr, List.range, List.range.loop, rkS, bin6, sg0, sg1, sg2, sg3]
  simp (disch := omega) only [fw64]
  simp only [true_and, and_true]
  omega
theorem hsA5 {a b c d e : Int} (ha : 0 ≤ a ∧ a ≤ 64) (hb : 0 ≤ b ∧ b ≤ 64) (hc : 0 ≤ c ∧ c ≤ 64) (hd : 0 ≤ d ∧ d ≤ 64) (he : 0 ≤ e ∧ e ≤ 64) : hsS [a, b, c, d, e] = [1 * a, (-4) * a + 1 * b, 6 * a + (-3) * b + 1 * c, (-4) * a + 3 * b + (-2) * c + 1 * d, 1 * a + (-1) * b + 1 * c + (-1) * d + 1 * e] := by
  simp [hsS, hsTo, List.range, List.range.loop, innerS]
  simp (disch := omega) only [fw64]
  omega
theorem hsB5 {a b c d e : Int} (ha : 0 ≤ a ∧ a ≤ 64) (hb : 0 ≤ b ∧ b ≤ 64) (hc : 0 ≤ c ∧ c ≤ 64) (hd : 0 ≤ d ∧ d ≤ 64) (he : 0 ≤ e ∧ e ≤ 64) : rhsS [a, b, c, d, e] = [1 * a, (-4) * a + 1 * b, 6 * a + (-3) * b + 1 * c, (-4) * a + 3 * b + (-2) * c + 1 * d, 1 * a + (-1) * b + 1 * c + (-1) * d + 1 * e] := by
  simp [rhsS, arr, List.range, List.range.loop, rkS, bin6, sg0, sg1, sg2, sg3, sg4]
  simp (disch := omega) only [fw64]
  simp only [true_and, and_true]
  omega
theorem hsA6 {a b c d e f : Int} (ha : 0 ≤ a ∧ a ≤ 64) (hb : 0 ≤ b ∧ b ≤ 64) (hc : 0 ≤ c ∧ c ≤ 64) (hd : 0 ≤ d ∧ d ≤ 64) (he : 0 ≤ e ∧ e ≤ 64) (hf : 0 ≤ f ∧ f ≤ 64) : hsS [a, b, c, d, e, f] = [1 * a, (-5) * a + 1 * b, 10 * a + (-4) * b + 1 * c, (-10) * a + 6 * b + (-3) * c + 1 * d, 5 * a + (-4) * b + 3 * c + (-2) * d + 1 * e, (-1) * a + 1 * b + (-1) * c + 1 * d + (-1) * e + 1 * f] := by
  simp [hsS, hsTo, List.range, List.range.loop, innerS]
  simp (disch := omega) only [fw64]
  omega
theorem hsB6 {a b c d e f : Int} (ha : 0 ≤ a ∧ a ≤ 64) (hb : 0 ≤ b ∧ b ≤ 64) (hc : 0 ≤ c ∧ c ≤ 64) (hd : 0 ≤ d ∧ d ≤ 64) (he : 0 ≤ e ∧ e ≤ 64) (hf : 0 ≤ f ∧ f ≤ 64) : rhsS [a, b, c, d, e, f] = [1 * a, (-5) * a + 1 * b, 10 * a + (-4) * b + 1 * c, (-10) * a + 6 * b + (-3) * c + 1 * d, 5 * a + (-4) * b + 3 * c + (-2) * d + 1 * e, (-1) * a + 1 * b + (-1) * c + 1 * d + (-1) * e + 1 * f] := by
  simp [rhsS, arr, List.range, List.range.loop, rkS, bin6, sg0, sg1, sg2, sg3, sg4, sg5]
  simp (disch := omega) only [fw64]
  simp only [true_and, and_true]
  omega
theorem hsA7 {a b c d e f g : Int} (ha : 0 ≤ a ∧ a ≤ 64) (hb : 0 ≤ b ∧ b ≤ 64) (hc : 0 ≤ c ∧ c ≤ 64) (hd : 0 ≤ d ∧ d ≤ 64) (he : 0 ≤ e ∧ e ≤ 64) (hf : 0 ≤ f ∧ f ≤ 64) (hg : 0 ≤ g ∧ g ≤ 64) : hsS [a, b, c, d, e, f, g] = [1 * a, (-6) * a + 1 * b, 15 * a + (-5) * b + 1 * c, (-20) * a + 10 * b + (-4) * c + 1 * d, 15 * a + (-10) * b + 6 * c + (-3) * d + 1 * e, (-6) * a + 5 * b + (-4) * c + 3 * d + (-2) * e + 1 * f, 1 * a + (-1) * b + 1 * c + (-1) * d + 1 * e + (-1) * f + 1 * g] := by
  simp [hsS, hsTo, List.range, List.range.loop, innerS]
  simp (disch := omega) only [fw64]
  omega
theorem hsB7 {a b c d e f g : Int} (ha : 0 ≤ a ∧ a ≤ 64) (hb : 0 ≤ b ∧ b ≤ 64) (hc : 0 ≤ c ∧ c ≤ 64) (hd : 0 ≤ d ∧ d ≤ 64) (he : 0 ≤ e ∧ e ≤ 64) (hf : 0 ≤ f ∧ f ≤ 64) (hg : 0 ≤ g ∧ g ≤ 64) : rhsS [a, b, c, d, e, f, g] = [1 * a, (-6) * a + 1 * b, 15 * a + (-5) * b + 1 * c, (-20) * a + 10 * b + (-4) * c + 1 * d, 15 * a + (-10) * b + 6 * c + (-3) * d + 1 * e, (-6) * a + 5 * b + (-4) * c + 3 * d + (-2) * e + 1 * f, 1 * a + (-1) * b + 1 * c + (-1) * d + 1 * e + (-1) * f + 1 * g] := by
  simp [rhsS, arr, List.range, List.range.loop, rkS, bin6, sg0, sg1, sg2, sg3, sg4, sg5, sg6]
  simp (disch := omega) only [fw64]
  simp only [true_and, and_true]
  omega
theorem tm1 : Int.tmod (1 : Int) 2 = 1 := by decide
theorem tm2 : Int.tmod (2 : Int) 2 = 0 := by decide
theorem tm3 : Int.tmod (3 : Int) 2 = 1 := by decide
theorem tm4 : Int.tmod (4 : Int) 2 = 0 := by decide
theorem tm5 : Int.tmod (5 : Int) 2 = 1 := by decide
theorem tm6 : Int.tmod (6 : Int) 2 = 0 := by decide
theorem tf1 : fw .i64 1 = 1 := by decide +kernel
theorem tf2 : fw .i64 (-1) = -1 := by decide +kernel
theorem tf3 : fw .i64 2 = 2 := by decide +kernel
theorem hs_eq {L : List Int} (h1 : 1 ≤ L.length) (h7 : L.length ≤ 7) (hb : ∀ x ∈ L, 0 ≤ x ∧ x ≤ 64) : hsS L = rhsS L := by
  match L, h1, h7, hb with
  | [a], _, _, hb => rw [hsA1 (hb a (by simp)), hsB1 (hb a (by simp))]
  | [a, b], _, _, hb => rw [hsA2 (hb a (by simp)) (hb b (by simp)), hsB2 (hb a (by simp)) (hb b (by simp))]
  | [a, b, c], _, _, hb => rw [hsA3 (hb a (by simp)) (hb b (by simp)) (hb c (by simp)), hsB3 (hb a (by simp)) (hb b (by simp)) (hb c (by simp))]
  | [a, b, c, d], _, _, hb => rw [hsA4 (hb a (by simp)) (hb b (by simp)) (hb c (by simp)) (hb d (by simp)), hsB4 (hb a (by simp)) (hb b (by simp)) (hb c (by simp)) (hb d (by simp))]
  | [a, b, c, d, e], _, _, hb => rw [hsA5 (hb a (by simp)) (hb b (by simp)) (hb c (by simp)) (hb d (by simp)) (hb e (by simp)), hsB5 (hb a (by simp)) (hb b (by simp)) (hb c (by simp)) (hb d (by simp)) (hb e (by simp))]
  | [a, b, c, d, e, f], _, _, hb => rw [hsA6 (hb a (by simp)) (hb b (by simp)) (hb c (by simp)) (hb d (by simp)) (hb e (by simp)) (hb f (by simp)), hsB6 (hb a (by simp)) (hb b (by simp)) (hb c (by simp)) (hb d (by simp)) (hb e (by simp)) (hb f (by simp))]
  | [a, b, c, d, e, f, g], _, _, hb => rw [hsA7 (hb a (by simp)) (hb b (by simp)) (hb c (by simp)) (hb d (by simp)) (hb e (by simp)) (hb f (by simp)) (hb g (by simp)), hsB7 (hb a (by simp)) (hb b (by simp)) (hb c (by simp)) (hb d (by simp)) (hb e (by simp)) (hb f (by simp)) (hb g (by simp))]
  | [], h1, _, _ => simp at h1
  | _ :: _ :: _ :: _ :: _ :: _ :: _ :: _ :: _, _, h7, _ => simp at h7
theorem eu1 {a : Int} (ha : 0 ≤ a ∧ a ≤ 64) : euS (List.drop 1 [a]) 0 1 = reuS [a] 0 1 0 := by
  simp [euS, reuS, isub_eq, List.drop, tm1, tm2, tm3, tm4, tm5, tm6, tf1, tf2, tf3]
theorem eu2 {a b : Int} (ha : 0 ≤ a ∧ a ≤ 64) (hb : 0 ≤ b ∧ b ≤ 64) : euS (List.drop 1 [a, b]) 0 1 = reuS [a, b] 1 1 0 := by
  simp [euS, reuS, isub_eq, List.drop, tm1, tm2, tm3, tm4, tm5, tm6, tf1, tf2, tf3]
theorem eu3 {a b c : Int} (ha : 0 ≤ a ∧ a ≤ 64) (hb : 0 ≤ b ∧ b ≤ 64) (hc : 0 ≤ c ∧ c ≤ 64) : euS (List.drop 1 [a, b, c]) 0 1 = reuS [a, b, c] 2 1 0 := by
  simp [euS, reuS, isub_eq, List.drop, tm1, tm2, tm3, tm4, tm5, tm6, tf1, tf2, tf3]
  simp (disch := omega) only [fw64]
  omega
theorem eu4 {a b c d : Int} (ha : 0 ≤ a ∧ a ≤ 64) (hb : 0 ≤ b ∧ b ≤ 64) (hc : 0 ≤ c ∧ c ≤ 64) (hd : 0 ≤ d ∧ d ≤ 64) : euS (List.drop 1 [a, b, c, d]) 0 1 = reuS [a, b, c, d] 3 1 0 := by
  simp [euS, reuS, isub_eq, List.drop, tm1, tm2, tm3, tm4, tm5, tm6, tf1, tf2, tf3]
  simp (disch := omega) only [fw64]
  omega
theorem eu5 {a b c d e : Int} (ha : 0 ≤ a ∧ a ≤ 64) (hb : 0 ≤ b ∧ b ≤ 64) (hc : 0 ≤ c ∧ c ≤ 64) (hd : 0 ≤ d ∧ d ≤ 64) (he : 0 ≤ e ∧ e ≤ 64) : euS (List.drop 1 [a, b, c, d, e]) 0 1 = reuS [a, b, c, d, e] 4 1 0 := by
  simp [euS, reuS, isub_eq, List.drop, tm1, tm2, tm3, tm4, tm5, tm6, tf1, tf2, tf3]
  simp (disch := omega) only [fw64]
  omega
theorem eu6 {a b c d e f : Int} (ha : 0 ≤ a ∧ a ≤ 64) (hb : 0 ≤ b ∧ b ≤ 64) (hc : 0 ≤ c ∧ c ≤ 64) (hd : 0 ≤ d ∧ d ≤ 64) (he : 0 ≤ e ∧ e ≤ 64) (hf : 0 ≤ f ∧ f ≤ 64) : euS (List.drop 1 [a, b, c, d, e, f]) 0 1 = reuS [a, b, c, d, e, f] 5 1 0 := by
  simp [euS, reuS, isub_eq, List.drop, tm1, tm2, tm3, tm4, tm5, tm6, tf1, tf2, tf3]
  simp (disch := omega) only [fw64]
  omega
theorem eu7 {a b c d e f g : Int} (ha : 0 ≤ a ∧ a ≤ 64) (hb : 0 ≤ b ∧ b ≤ 64) (hc : 0 ≤ c ∧ c ≤ 64) (hd : 0 ≤ d ∧ d ≤ 64) (he : 0 ≤ e ∧ e ≤ 64) (hf : 0 ≤ f ∧ f ≤ 64) (hg : 0 ≤ g ∧ g ≤ 64) : euS (List.drop 1 [a, b, c, d, e, f, g]) 0 1 = reuS [a, b, c, d, e, f, g] 6 1 0 := by
  simp [euS, reuS, isub_eq, List.drop, tm1, tm2, tm3, tm4, tm5, tm6, tf1, tf2, tf3]
  simp (disch := omega) only [fw64]
  omega
theorem eu_eq {L : List Int} (h1 : 1 ≤ L.length) (h7 : L.length ≤ 7) (hb : ∀ x ∈ L, 0 ≤ x ∧ x ≤ 64) : euS (L.drop 1) 0 1 = reuS L (L.length - 1) 1 0 := by
  match L, h1, h7, hb with
  | [a], _, _, hb => exact eu1 (hb a (by simp))
  | [a, b], _, _, hb => exact eu2 (hb a (by simp)) (hb b (by simp))
  | [a, b, c], _, _, hb => exact eu3 (hb a (by simp)) (hb b (by simp)) (hb c (by simp))
  | [a, b, c, d], _, _, hb => exact eu4 (hb a (by simp)) (hb b (by simp)) (hb c (by simp)) (hb d (by simp))
  | [a, b, c, d, e], _, _, hb => exact eu5 (hb a (by simp)) (hb b (by simp)) (hb c (by simp)) (hb d (by simp)) (hb e (by simp))
  | [a, b, c, d, e, f], _, _, hb => exact eu6 (hb a (by simp)) (hb b (by simp)) (hb c (by simp)) (hb d (by simp)) (hb e (by simp)) (hb f (by simp))
  | [a, b, c, d, e, f, g], _, _, hb => exact eu7 (hb a (by simp)) (hb b (by simp)) (hb c (by simp)) (hb d (by simp)) (hb e (by simp)) (hb f (by simp)) (hb g (by simp))
  | [], h1, _, _ => simp at h1
  | _ :: _ :: _ :: _ :: _ :: _ :: _ :: _ :: _, _, h7, _ => simp at h7
theorem facts4 (n : Int) (L : List Int) : Facts4 (tameN n) ((tameP (tameN n) L).take 10) := by
  obtain ⟨n1, n6⟩ := tameN_in n
  obtain ⟨f1, f2, f3, f4, f5⟩ := facts_P (N := tameN n) (L := L) n1 n6
  generalize (tameP (tameN n) L).take 10 = P at *
  generalize tameN n = N at *
  have hsets : Sets P := sets_in n1 n6 (fun s hs => by have := f4 s hs; omega)
  have hsz := face_sz n1 n6 f4
  have hfe := faces_eq n1 n6 f4
  have hcnt : cntS (mem64 (famB P)) = rcnt (maxS P) (facN P (2 ^ N.toNat)) := by
    rw [hfe]
    obtain ⟨s, hs, e⟩ := maxS_ex f1
    exact counts_eq hsz ⟨s.toNat, face_piece n1 n6 f4 hs, e⟩
  have hne : 1 ≤ (cntS (mem64 (famB P))).length := by rw [hcnt, rcnt_len]; omega
  have h7 := cntS_len (mem64 (famB P))
  have hbd : ∀ x ∈ cntS (mem64 (famB P)), 0 ≤ x ∧ x ≤ 64 := fun x hx => by
    have := cntS_bd _ x hx
    have := mem64_len (B := famB P)
    omega
  exact ⟨chk_good n1 n6 f1 f2 f3 f4 f5, f2, hsets, hsz, by unfold memI facTo; rw [hfe]; rfl, hcnt, hs_eq hne h7 hbd, eu_eq hne h7 hbd, hne⟩
end Go.Ev
