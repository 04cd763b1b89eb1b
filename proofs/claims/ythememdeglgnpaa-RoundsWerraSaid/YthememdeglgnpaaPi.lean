/-
  Rounds: at least n - 2 breaks; with just these, another team plays the other way round.
  Rounds: the fewest breaks (Least), the other way round (exchanged), numbers of teams.
  Rounds: the law RoundsWerra.
-/
import Derived.Test.YthememdeglgnpaaPh
namespace Go.Ev
open Go Go.RowKit
section
variable {n : Nat} {Q : List (List (Int × Int))} {l : List (Int × Int)} {t u j : Nat}
theorem sm_pos {f : Nat → Int} : ∀ n, 0 < sm f n → ∃ t, t < n ∧ 0 < f t
  | 0, h => absurd h (by show ¬ (0 : Int) < 0; omega)
  | n + 1, h => by
    have h : 0 < sm f n + f n := h
    by_cases e : 0 < f n
    · exact ⟨n, by omega, e⟩
    · obtain ⟨t, h1, h2⟩ := sm_pos (f := f) n (by omega)
      exact ⟨t, by omega, h2⟩
theorem sm_nn {f : Nat → Int} : ∀ n, (∀ t, t < n → 0 ≤ f t) → 0 ≤ sm f n
  | 0, _ => Int.le_refl _
  | n + 1, h => by
    have h1 := sm_nn n fun t ht => h t (by omega)
    have h2 := h n (by omega)
    show 0 ≤ sm f n + f n
    omega
theorem sm_nil {f : Nat → Int} : ∀ n, (∀ t, t < n → 0 ≤ f t) → sm f n ≤ 0 → ∀ t, t < n → f t = 0
  | 0, _, _, t, ht => by omega
  | n + 1, h, h0, t, ht => by
    have h0 : sm f n + f n ≤ 0 := h0
    have h1 := sm_nn n fun t ht => h t (by omega)
    have h2 := h n (by omega)
    by_cases e : t = n
    · subst e; omega
    · exact sm_nil n (fun t ht => h t (by omega)) (by omega) t (by omega)
theorem hm_not {a b : Int} : ∀ {l : List (Int × Int)}, (plL l).Nodup → (a, b) ∈ l → b ∉ hmL l
  | [], _, h => by simp at h
  | e :: l, hn, h => by
    have hn : (e.1 :: e.2 :: plL l).Nodup := hn
    obtain ⟨n1, n2⟩ := List.nodup_cons.1 hn
    obtain ⟨n3, n4⟩ := List.nodup_cons.1 n2
    intro hb
    have hb : b ∈ e.1 :: hmL l := hb
    rcases List.mem_cons.1 h with h | h
    · have eb : e.2 = b := by rw [← h]
      rcases List.mem_cons.1 hb with hb | hb
      · exact n1 (by rw [← hb, ← eb]; simp)
      · exact n3 (by rw [eb]; exact hm_pl hb)
    · rcases List.mem_cons.1 hb with hb | hb
      · exact n1 (by rw [← hb]; exact List.mem_cons_of_mem _ (pl_mem h).2)
      · exact hm_not n4 h hb
theorem mem_hm {a b : Int} (h : (a, b) ∈ l) : a ∈ hmL l := List.mem_map.2 ⟨_, h, rfl⟩
/-- Of two that play each other one is at home. -/
theorem ho_op (hr : rndB n l = true) (ht : t < n) (h : opF l (t : Int) = (u : Int)) : hoB l t ≠ hoB l u := by
  have hd := rnd_nd hr
  have := op_mem (rnd_all hr (t := (t : Int)) ⟨by omega, by omega⟩)
  rw [h] at this
  unfold hoB
  rcases this with h1 | h1
  · rw [decide_eq_true (mem_hm h1), decide_eq_false (hm_not hd h1)]; simp
  · rw [decide_eq_true (mem_hm h1), decide_eq_false (hm_not hd h1)]; simp
/-- Any two teams play in some round. -/
theorem meet_all (s : Sched n Q) (ht : t < n) (hu : u < n) (hne : t ≠ u) : ∃ r, r < Q.length ∧ opF (Q.getD r []) (t : Int) = (u : Int) := by
  have hlen := s.len
  have hbd := s.bd.2
  have hnd : ((t : Int) :: (List.range (n - 1)).map fun r => opF (Q.getD r []) (t : Int)).Nodup := by
    refine List.nodup_cons.2 ⟨fun hm => ?_, ?_⟩
    · obtain ⟨r, hr, e⟩ := List.mem_map.1 hm
      have hr : r < n - 1 := by simpa using hr
      have := ho_op (s.vd.rnd (Q.getD r []) (by rw [getD_at (show r < Q.length by omega)]; exact List.getElem_mem _)) ht e
      exact this rfl
    · rw [List.nodup_iff_pairwise_ne, List.pairwise_map]
      refine List.Pairwise.imp_of_mem ?_ List.pairwise_lt_range
      intro a b ha hb hab e
      have ha : a < n - 1 := by simpa using ha
      have hb : b < n - 1 := by simpa using hb
      have w1 := (wh_op s.vd ht (j := t) (r := a) (by omega))
      obtain ⟨c, hc, ec⟩ := op_in s.vd (show a < Q.length by omega) ht
      have w1 := (wh_op s.vd ht (j := c) (r := a) (by omega)).2 ec
      have w2 := (wh_op s.vd ht (j := c) (r := b) (by omega)).2 (by rw [← ec]; exact e.symm)
      rw [w1] at w2
      injection w2 with w2
      omega
  obtain ⟨r, hr, e⟩ := onto (n := n) (by simp; omega) (fun x hx => by
    rcases List.mem_cons.1 hx with rfl | hx
    · exact ⟨by omega, by omega⟩
    · obtain ⟨r, hr, rfl⟩ := List.mem_map.1 hx
      have hr : r < n - 1 := by simpa using hr
      obtain ⟨c, hc, ec⟩ := op_in s.vd (show r < Q.length by omega) ht
      rw [ec]; omega) hnd hu
  cases r with
  | zero => rw [List.getD_cons_zero] at e; omega
  | succ r =>
    rw [List.getD_cons_succ, getD_at (by simp; omega)] at e
    exact ⟨r, by omega, by simpa using e⟩
theorem rnd_half (hr : rndB n l = true) : sm (fun t => if hoB l t = true then 1 else 0) n = ((n / 2 : Nat) : Int) ∧ 2 * (n / 2) = n := by
  have hd := rnd_nd hr
  have hr' := hr
  unfold rndB aaB at hr'
  simp only [Bool.and_eq_true, decide_eq_true_iff] at hr'
  obtain ⟨h0, h1, h2, h3⟩ := hr'
  have hpl : ∀ l : List (Int × Int), (plL l).length = 2 * l.length := fun l => by
    induction l with
    | nil => rfl
    | cons e l ih => show (e.1 :: e.2 :: plL l).length = _; simp [ih]; omega
  have hp := hpl l
  have hhd : ∀ l : List (Int × Int), (plL l).Nodup → (hmL l).Nodup := fun l => by
    induction l with
    | nil => intro _; exact List.nodup_nil
    | cons e l ih =>
      intro hn
      have hn : (e.1 :: e.2 :: plL l).Nodup := hn
      obtain ⟨n1, n2⟩ := List.nodup_cons.1 hn
      obtain ⟨n3, n4⟩ := List.nodup_cons.1 n2
      exact List.nodup_cons.2 ⟨fun h => n1 (List.mem_cons_of_mem _ (hm_pl h)), ih n4⟩
  rw [← sm_filter (p := fun t => hoB l t)]
  have hF : (((List.range n).filter fun t => hoB l t).map fun (k : Nat) => (k : Int)).Nodup := by
    rw [List.nodup_iff_pairwise_ne, List.pairwise_map]
    refine List.Pairwise.imp ?_ (List.nodup_range.filter _)
    intro a b h e
    exact h (by omega)
  have i1 := nodup_le (m := hmL l) hF fun x hx => by
    obtain ⟨k, hk, rfl⟩ := List.mem_map.1 hx
    exact of_decide_eq_true (List.mem_filter.1 hk).2
  have i2 := nodup_le (m := ((List.range n).filter fun t => hoB l t).map fun (k : Nat) => (k : Int)) (hhd l hd) fun x hx => by
    have := h2 x (hm_pl hx)
    refine List.mem_map.2 ⟨x.toNat, List.mem_filter.2 ⟨by simp; omega, decide_eq_true ?_⟩, by omega⟩
    rw [show ((x.toNat : Nat) : Int) = x by omega]
    exact hx
  rw [List.length_map] at i1 i2
  have : (hmL l).length = l.length := by simp [hmL]
  omega
/-! ### Breaks, team by team -/
def bT (Q : List (List (Int × Int))) (j t : Nat) : Bool := hoB (Q.getD j []) t
def bkT (Q : List (List (Int × Int))) (t : Nat) : Int := sm (fun j => eqE Q j t) (Q.length - 1)
theorem eqE_01 : eqE Q j t = if bT Q j t = bT Q (j + 1) t then 1 else 0 := rfl
theorem eqE_nn : 0 ≤ eqE Q j t := by rw [eqE_01]; split <;> omega
theorem bkT_nn : 0 ≤ bkT Q t := sm_nn _ fun _ _ => eqE_nn
theorem same_steps {N : Nat} (h : ∀ j, j < N → eqE Q j t = eqE Q j u) : ∀ j, j ≤ N → ((bT Q j t = bT Q j u) ↔ (bT Q 0 t = bT Q 0 u))
  | 0, _ => Iff.rfl
  | j + 1, hj => by
    have ih := same_steps h j (by omega)
    have e := h j (by omega)
    rw [eqE_01, eqE_01] at e
    rw [← ih]
    cases h1 : bT Q j t <;> cases h2 : bT Q (j + 1) t <;> cases h3 : bT Q j u <;> cases h4 : bT Q (j + 1) u <;> simp [h1, h2, h3, h4] at e ⊢
theorem bT_ne (s : Sched n Q) (ht : t < n) (hu : u < n) (hne : t ≠ u) : ∃ r, r < Q.length ∧ bT Q r t ≠ bT Q r u := by
  obtain ⟨r, hr, e⟩ := meet_all s ht hu hne
  exact ⟨r, hr, ho_op (s.vd.rnd (Q.getD r []) (by rw [getD_at hr]; exact List.getElem_mem _)) ht e⟩
theorem zero_all (h : bkT Q t = 0) : ∀ j, j < Q.length - 1 → eqE Q j t = 0 := fun j hj => sm_nil (f := fun j => eqE Q j t) _ (fun _ _ => eqE_nn) (by show bkT Q t ≤ 0; omega) j hj
theorem steps_ne (s : Sched n Q) (ht : t < n) (hu : u < n) (hne : t ≠ u) (h : ∀ j, j < Q.length - 1 → eqE Q j t = eqE Q j u) : ∀ j, j < Q.length → bT Q j u = !bT Q j t := fun j hj => by
  obtain ⟨r, hr, e⟩ := bT_ne s ht hu hne
  have h1 := (same_steps h r (by omega))
  have h2 := (same_steps h j (by omega))
  have h3 : ¬ bT Q j t = bT Q j u := fun q => e (h1.2 (h2.1 q))
  cases q1 : bT Q j t <;> cases q2 : bT Q j u <;> simp [q1, q2] at h3 ⊢
def zrB (Q : List (List (Int × Int))) (t : Nat) : Bool := decide (bkT Q t = 0)
def zrN (n : Nat) (Q : List (List (Int × Int))) : Int := sm (fun t => if zrB Q t = true then 1 else 0) n
theorem zr_le (s : Sched n Q) : zrN n Q ≤ 2 := by
  unfold zrN
  rw [← sm_filter (p := fun t => zrB Q t)]
  have hF : ((List.range n).filter fun t => zrB Q t).Nodup := List.nodup_range.filter _
  have hm : ∀ t ∈ (List.range n).filter (fun t => zrB Q t), t < n ∧ bkT Q t = 0 := fun t ht => by
    have := List.mem_filter.1 ht
    exact ⟨by simpa using this.1, of_decide_eq_true this.2⟩
  generalize (List.range n).filter (fun t => zrB Q t) = F at hF hm
  have key : ∀ a ∈ F, ∀ b ∈ F, a ≠ b → bT Q 0 a ≠ bT Q 0 b := fun a ha b hb hab => by
    have := steps_ne s (hm a ha).1 (hm b hb).1 hab (fun j hj => by rw [zero_all (hm a ha).2 j hj, zero_all (hm b hb).2 j hj]) 0 (by have := s.len; have := s.bd; omega)
    rw [this]; cases bT Q 0 a <;> simp
  rcases F with _ | ⟨a, _ | ⟨b, _ | ⟨c, F⟩⟩⟩
  · simp
  · simp
  · simp
  · exfalso
    obtain ⟨n1, n2⟩ := List.nodup_cons.1 hF
    obtain ⟨n3, n4⟩ := List.nodup_cons.1 n2
    have k1 := key a (by simp) b (by simp) (fun e => n1 (by rw [e]; simp))
    have k2 := key a (by simp) c (by simp) (fun e => n1 (by rw [e]; simp))
    have k3 := key b (by simp) c (by simp) (fun e => n3 (by rw [e]; simp))
    cases q1 : bT Q 0 a <;> cases q2 : bT Q 0 b <;> cases q3 : bT Q 0 c <;> simp [q1, q2, q3] at k1 k2 k3
theorem brk_sm (s : Sched n Q) : brk n Q = sm (fun t => bkT Q t) n := by
  have hb := s.bd
  exact (bk_eq (n := n) (Ls := Q) (by omega) (fun l hl e he => by
    have hr := s.vd.rnd l hl
    unfold rndB aaB at hr
    simp only [Bool.and_eq_true, decide_eq_true_iff] at hr
    exact (hr.2.2.1 _ (pl_mem he).1).2) (N := Q.length - 1)).symm
/-- What is more than one break for each team that has any. -/
def exS (Q : List (List (Int × Int))) (t : Nat) : Int := bkT Q t + ((if zrB Q t = true then 1 else 0) + (-1))
theorem exS_nn : 0 ≤ exS Q t := by
  have := bkT_nn (Q := Q) (t := t)
  unfold exS zrB
  by_cases e : bkT Q t = 0
  · rw [decide_eq_true e]; simp; omega
  · rw [decide_eq_false e]; simp; omega
theorem ex_sum (s : Sched n Q) : sm (fun t => exS Q t) n = brk n Q + (zrN n Q - (n : Int)) := by
  unfold exS
  rw [sm_add, sm_add, sm_const, ← brk_sm s]
  unfold zrN
  omega
theorem brk_ge (s : Sched n Q) : (n : Int) - 2 ≤ brk n Q := by
  have h1 := zr_le s
  have h2 := ex_sum s
  have h3 := sm_nn (f := fun t => exS Q t) n fun _ _ => exS_nn
  omega
/-- With n - 2 breaks: whoever plays the other way round. -/
theorem partner (s : Sched n Q) (hb : brk n Q = (n : Int) - 2) (ht : t < n) : ∃ u, u < n ∧ ∀ j, j < Q.length → bT Q j u = !bT Q j t := by
  have h1 := zr_le s
  have h2 := ex_sum s
  have h3 := sm_nn (f := fun t => exS Q t) n fun _ _ => exS_nn
  have hex : ∀ u, u < n → exS Q u = 0 := fun u hu => sm_nil (f := fun t => exS Q t) n (fun _ _ => exS_nn) (by omega) u hu
  have hl := s.len
  have hbd := s.bd
  by_cases hz : bkT Q t = 0
  · have hz2 : zrN n Q = 2 := by omega
    unfold zrN at hz2
    rw [sm_split n ht, if_pos (show zrB Q t = true from decide_eq_true hz)] at hz2
    obtain ⟨u, hu, e⟩ := sm_pos n (show 0 < sm (fun k => if k = t then (0 : Int) else if zrB Q k = true then 1 else 0) n by omega)
    by_cases eu : u = t
    · rw [if_pos eu] at e; omega
    · rw [if_neg eu] at e
      have hzu : bkT Q u = 0 := by
        apply Classical.byContradiction
        intro h
        rw [if_neg (by unfold zrB; rw [decide_eq_false h]; simp)] at e
        omega
      exact ⟨u, hu, steps_ne s ht hu (fun q => eu q.symm) fun j hj => by rw [zero_all hz j hj, zero_all hzu j hj]⟩
  · have hone : ∀ u, u < n → bkT Q u ≤ 1 := fun u hu => by
      have h := hex u hu
      unfold exS at h
      have := bkT_nn (Q := Q) (t := u)
      split at h <;> omega
    have hpos : 0 < sm (fun j => eqE Q j t) (Q.length - 1) := by
      have := bkT_nn (Q := Q) (t := t)
      unfold bkT at hz this
      omega
    obtain ⟨r, hr, er⟩ := sm_pos _ hpos
    have her : bT Q r t = bT Q (r + 1) t := by
      apply Classical.byContradiction
      intro h
      rw [eqE_01, if_neg h] at er
      omega
    have hR := rnd_half (s.vd.rnd (Q.getD r []) (by rw [getD_at (by omega)]; exact List.getElem_mem _))
    have hR1 := rnd_half (s.vd.rnd (Q.getD (r + 1) []) (by rw [getD_at (by omega)]; exact List.getElem_mem _))
    -- as many stay at home as away
    have hbal : sm (fun u => if bT Q r u = true ∧ bT Q (r + 1) u = true then 1 else 0) n = sm (fun u => if bT Q r u = false ∧ bT Q (r + 1) u = false then 1 else 0) n := by
      have e1 := hR.1
      have e2 := hR1.1
      have e3 := sm_one n
      have e4 : sm (fun u => (if bT Q r u = true then 1 else 0) + (if bT Q (r + 1) u = true then 1 else 0)) n = sm (fun u => 1 + ((if bT Q r u = true ∧ bT Q (r + 1) u = true then 1 else 0) + (-1) * (if bT Q r u = false ∧ bT Q (r + 1) u = false then 1 else 0))) n := sm_cong n fun u hu => by
        cases bT Q r u <;> cases bT Q (r + 1) u <;> simp
      have e5 : ∀ (f : Nat → Int) m, sm (fun u => (-1) * f u) m = - sm f m := fun f m => by
        induction m with
        | zero => rfl
        | succ m ih => show sm (fun u => (-1) * f u) m + (-1) * f m = - (sm f m + f m); rw [ih]; omega
      rw [sm_add, sm_add, sm_add, e5, e3] at e4
      have e1 : sm (fun u => if bT Q r u = true then 1 else 0) n = _ := e1
      have e2 : sm (fun u => if bT Q (r + 1) u = true then 1 else 0) n = _ := e2
      rw [e1, e2] at e4
      have := hR.2
      omega
    have hex2 : ∃ u, u < n ∧ bT Q r u = (!bT Q r t) ∧ bT Q (r + 1) u = (!bT Q r t) := by
      cases q : bT Q r t with
      | true =>
        have p1 : 0 < sm (fun u => if bT Q r u = true ∧ bT Q (r + 1) u = true then (1 : Int) else 0) n := by
          rw [sm_split n ht, if_pos ⟨q, by rw [← her]; exact q⟩]
          have := sm_nn (f := fun k => if k = t then (0 : Int) else if bT Q r k = true ∧ bT Q (r + 1) k = true then 1 else 0) n (fun k _ => by split; omega; split <;> omega)
          omega
        rw [hbal] at p1
        obtain ⟨u, hu, e⟩ := sm_pos _ p1
        by_cases c : bT Q r u = false ∧ bT Q (r + 1) u = false
        · exact ⟨u, hu, c⟩
        · rw [if_neg c] at e; omega
      | false =>
        have p1 : 0 < sm (fun u => if bT Q r u = false ∧ bT Q (r + 1) u = false then (1 : Int) else 0) n := by
          rw [sm_split n ht, if_pos ⟨q, by rw [← her]; exact q⟩]
          have := sm_nn (f := fun k => if k = t then (0 : Int) else if bT Q r k = false ∧ bT Q (r + 1) k = false then 1 else 0) n (fun k _ => by split; omega; split <;> omega)
          omega
        rw [← hbal] at p1
        obtain ⟨u, hu, e⟩ := sm_pos _ p1
        by_cases c : bT Q r u = true ∧ bT Q (r + 1) u = true
        · exact ⟨u, hu, c⟩
        · rw [if_neg c] at e; omega
    obtain ⟨u, hu, c1, c2⟩ := hex2
    have ner : t ≠ u := fun e => by rw [e] at c1; cases q : bT Q r u <;> simp [q] at c1
    have only : ∀ x, x < n → eqE Q r x = 1 → ∀ j, j < Q.length - 1 → eqE Q j x = if j = r then 1 else 0 := fun x hx e j hj => by
      have h1 := hone x hx
      unfold bkT at h1
      rw [sm_split _ hr, e] at h1
      by_cases q : j = r
      · rw [if_pos q, q]; exact e
      · rw [if_neg q]
        have := sm_nil (f := fun k => if k = r then (0 : Int) else eqE Q k x) (Q.length - 1) (fun k _ => by split; omega; exact eqE_nn) (by omega) j hj
        rw [if_neg q] at this
        exact this
    have et : eqE Q r t = 1 := by rw [eqE_01, if_pos her]
    have eu : eqE Q r u = 1 := by rw [eqE_01, if_pos (c1.trans c2.symm)]
    exact ⟨u, hu, steps_ne s ht hu ner fun j hj => by rw [only t ht et j hj, only u hu eu j hj]⟩
end
end Go.Ev
namespace Go.Ev
open Go Go.RowKit
noncomputable def f50_r0 : List EOper := [⟨(some (K.ofNat 2)), none, .as (.c (.s ⟨#[]⟩))⟩]
noncomputable def f50_r1 : List EOper := [⟨(some (K.ofNat 3)), none, .as (.c (.s ⟨#[]⟩))⟩]
noncomputable def f50_r2 : List EOper := [⟨(some (K.ofNat 4)), none, .as (.c (.i .i64 (.ofNat 0)))⟩]
noncomputable def f50_r3 : List EOper := [⟨(some (K.ofNat 5)), none, .mv (.t (K.ofNat 4))⟩, ⟨(some (K.ofNat 6)), none, .mv (.t (K.ofNat 0))⟩, ⟨(some (K.ofNat 7)), none, .pr .slen (.t (K.ofNat 6)) (.t (K.ofNat 6))⟩, ⟨(some (K.ofNat 8)), none, .bin .lss (.t (K.ofNat 5)) (.t (K.ofNat 7))⟩, ⟨(some (K.ofNat 9)), none, .mv (.t (K.ofNat 8))⟩, ⟨(some (K.ofNat 10)), (some ((K.ofNat 9), true)), .mv (.t (K.ofNat 4))⟩, ⟨(some (K.ofNat 11)), (some ((K.ofNat 9), true)), .bin .lss (.t (K.ofNat 10)) (.c (.i .i64 (.ofNat 20)))⟩, ⟨(some (K.ofNat 12)), none, .pick (.t (K.ofNat 9)) (.t (K.ofNat 11)) (.c (.b false))⟩]
noncomputable def f50_r4 : List EOper := [⟨(some (K.ofNat 15)), none, .mv (.t (K.ofNat 0))⟩, ⟨(some (K.ofNat 16)), none, .mv (.t (K.ofNat 4))⟩, ⟨(some (K.ofNat 17)), none, .pr .sidx (.t (K.ofNat 15)) (.t (K.ofNat 16))⟩, ⟨(some (K.ofNat 18)), none, .bin .eql (.t (K.ofNat 17)) (.c (.i .u8 (.ofNat 72)))⟩]
noncomputable def f50_r5 : List EOper := [⟨(some (K.ofNat 19)), none, .mv (.t (K.ofNat 3))⟩, ⟨(some (K.ofNat 20)), none, .pr .sadd (.t (K.ofNat 19)) (.c (.s ⟨#[65]⟩))⟩, ⟨(some (K.ofNat 3)), none, .as (.t (K.ofNat 20))⟩]
noncomputable def f50_r6 : List EOper := [⟨(some (K.ofNat 21)), none, .mv (.t (K.ofNat 3))⟩, ⟨(some (K.ofNat 22)), none, .pr .sadd (.t (K.ofNat 21)) (.c (.s ⟨#[72]⟩))⟩, ⟨(some (K.ofNat 3)), none, .as (.t (K.ofNat 22))⟩]
noncomputable def f50_r7 : List EOper := [⟨(some (K.ofNat 13)), none, .mv (.t (K.ofNat 4))⟩, ⟨(some (K.ofNat 14)), none, .bin .add (.t (K.ofNat 13)) (.c (.i .i64 (.ofNat 1)))⟩, ⟨(some (K.ofNat 4)), none, .as (.t (K.ofNat 14))⟩]
noncomputable def f50_l0 : EC := (.seq (.seq (.reg f50_r3) (.cond (.t (K.ofNat 12)) .skip (.exit 0))) (.seq (.block 1 (.seq (.reg f50_r4) (.cond (.t (K.ofNat 18)) (.reg f50_r5) (.reg f50_r6)))) (.reg f50_r7)))
noncomputable def f50_r8 : List EOper := [⟨(some (K.ofNat 23)), none, .mv (.t (K.ofNat 3))⟩, ⟨(some (K.ofNat 2)), none, .as (.t (K.ofNat 23))⟩]
noncomputable def f50_c : EC := (.seq (.reg f50_r0) (.seq (.reg f50_r1) (.seq (.seq (.reg f50_r2) (.block 0 (.loop f50_l0))) (.seq (.reg f50_r8) .ret))))
noncomputable def f50 : EF := ⟨24, [.tmp (K.ofNat 2)], f50_c, none⟩
theorem f50_rs : f50.rs = [.tmp (K.ofNat 2)] := of_eq_true (eq_self _)
section
variable {fs : T EF} {h : H} {v : V} {us : List V} {n : Nat} {Q Ls : List (List (Int × Int))}
theorem rok_of (s : Sched n Q) : Rok Q := by
  have hb := s.bd
  have hl := s.len
  refine ⟨by omega, fun l hlm => ?_⟩
  have hr := s.vd.rnd l hlm
  unfold rndB aaB at hr
  simp only [Bool.and_eq_true, decide_eq_true_iff] at hr
  obtain ⟨h0, _, h2, _⟩ := hr
  refine ⟨by omega, fun e => ?_, fun e he => ?_⟩
  · rw [e] at h0
    have h0 : 0 = n / 2 := h0
    omega
  · have h3 := h2 _ (pl_mem he).1
    have h4 := h2 _ (pl_mem he).2
    omega
theorem ver_fl {l : List (Int × Int)} {s : Nat} : FlL l (verL l s) := by
  refine FlL.of (by simp [verL]) fun j h1 h2 => ?_
  have e : (verL l s)[j] = verE l s j := by simp [verL]
  rw [e]
  unfold verE
  rw [getD_at h1]
  split
  · exact .inr rfl
  · exact .inl rfl
theorem alt_fl (h : AltP Ls Ls.length Q) : FlQ Ls Q := by
  refine FlQ.of h.1 fun j h1 h2 => ?_
  obtain ⟨s, _, e⟩ := h.2 j h1
  rw [getD_at h2, getD_at h1] at e
  rw [e]
  exact ver_fl
theorem alt_sched (s : Sched n Ls) (h : AltP Ls Ls.length Q) : Sched n Q :=
  Sched.of s.ok ((s.vd.fl (alt_fl h)).sh (by rw [h.1]; exact s.len))
/-- Least, of few teams. -/
theorem f23_ok (k : CallsTd fs) (kc : CallsCh fs) (k60 : fs.get (K.ofNat 60) = some f60) (s : Sched n Ls) (hn : n ≤ 6) (hv : Nrp h v us Ls) (hc : HC h) : Ret fs f23 [.i .i64 (n : Int), v] h fun r h' => ∃ u xs Q, r = .tup [.i .i64 (brk n Q), u, .i .i64 0] ∧ Nrp h' u xs Q ∧ AltP Ls Ls.length Q ∧ (∀ Q', AltP Ls Ls.length Q' → brk n Q ≤ brk n Q') ∧ Grow h.nx.nat h h' := by
  have ne0 : decide ((0 : Int) ≠ 0) = false := rfl
  have hb := s.bd
  have hl := s.len
  have d6 : decide ((n : Int) > 6) = false := decide_eq_false (by omega)
  apply ret_of rfl
  show W fs none f23_c _ _ _
  unfold f23_c
  simp (disch := omega) only [f23_r0, f23_r1, w_reg, w_seq, seqK_n, x_nil, x_mv, x_as, x_call, ev_t, ev_c, evs_nil, evs_cons, getV_some, putD_some, frame_2, of0, getK_set, Nat.reduceEqDiff, ↓reduceIte]
  refine (callP_0 (ef := f51) k.c51 rfl (f51_ret kc s.ok hv s.big hc)).mono ?_
  rintro r h1 ⟨c, ws, rfl, hc1, hG1⟩
  rw [if_pos s.sh] at hc1
  have hcc := hG1.hc hc
  simp (disch := omega) only [f23_r2, f23_r4, f23_r6, w_skip, w_reg, w_seq, w_cond, seqK_n, ckB_b, cbB_b, true_and, x_nil, x_mv, x_as, x_bin, x_ext, x_call, kx, rvP_ok, okv_some, ev_t, ev_c, evs_nil, evs_cons, getV_some, putD_some, bin_neq, bin_gtr, onTup_t, nth0, nth1, of0, of6, getK_set, Nat.reduceEqDiff, ↓reduceIte, Bool.false_eq_true, s.sh, ne0, d6]
  refine (callP_0 (ef := f59) k.c59 rfl (f59_ret k (by omega) hc1.1.nrp (rok_of s) (by omega) hcc)).mono ?_
  rintro u h2 ⟨xs, Q, hu, ha, hmin, hG2⟩
  have hc2 := hG2.hc hcc
  have s' := alt_sched s ha
  have hF := s'.vd.few (by omega) (by rw [s'.len]; omega)
  simp (disch := omega) only [f23_r7, w_reg, w_seq, seqK_n, x_nil, x_mv, x_as, x_call, kx, ev_t, ev_c, evs_nil, evs_cons, getV_some, putD_some, of0, getK_set, Nat.reduceEqDiff, ↓reduceIte]
  refine (callP_0 (ef := f52) k.c52 rfl (f52_ret k.toCallsBk (by omega) hu hF (by rw [s'.len]; omega) hc2)).mono ?_
  rintro r h3 ⟨rfl, hG3⟩
  have hc3 := hG3.hc hc2
  simp (disch := omega) only [x_mv, x_call, kx, ev_t, ev_c, evs_nil, evs_cons, getV_some, putD_some, getK_set, Nat.reduceEqDiff, ↓reduceIte]
  refine (callP_0 (ef := f60) k60 rfl (f60_ret (hu.grow hc2 hG3) ⟨by rw [s'.len]; omega, fun l hl => by have := s'.row l hl; omega⟩ hc3)).mono ?_
  rintro u' h4 ⟨xs', hu', hG4⟩
  simp (disch := omega) only [f23_rs, w_ret, seqK_n, retK_r, x_nil, x_as, kx, ev_t, ev_c, getV_some, putD_some, oGet_s, readRs_nil, readRs_t, retV_2, Option.some.injEq, exists_eq_left', getK_set, Nat.reduceEqDiff, ↓reduceIte]
  have hA := hG1.trans (hG2.low hG1.nx)
  have hB := hA.trans (hG3.low hA.nx)
  exact ⟨u', xs', Q, rfl, hu', ha, hmin, hB.trans (hG4.low hB.nx)⟩
/-! ### The other way round -/
def xcB (b : UInt8) : UInt8 := if b = 72 then 65 else 72
def xcS (L : List UInt8) : List UInt8 := L.map xcB
theorem of72 : Int.ofNat 72 = 72 := rfl
def f50_I (h : H) (L : List UInt8) (i : Nat) (fr : Fr) (h1 : H) : Prop := i ≤ L.length ∧ h1 = h ∧ fr.get (K.ofNat 0) = some (sE L) ∧ fr.get (K.ofNat 3) = some (sE (xcS (L.take i))) ∧ fr.get (K.ofNat 4) = some (.i .i64 (i : Int))
theorem f50_ret {L : List UInt8} (hL : L.length ≤ 20) : Ret fs f50 [sE L] h fun r h' => r = sE (xcS L) ∧ h' = h := by
  apply ret_of rfl
  show W fs none f50_c _ _ _
  unfold f50_c
  simp (disch := omega) only [f50_r0, f50_r1, f50_r2, w_reg, w_seq, w_block, seqK_n, x_nil, x_as, ev_c, putD_some, frame_1, of0, s_nil]
  refine W_loop (f50_I h L) (fun i => L.length - i) ?_ 0 ⟨by omega, rfl, by simp (disch := omega) only [getK_set, Nat.reduceEqDiff, ↓reduceIte, xcS, List.take_zero, List.map_nil, and_self, Int.natCast_zero]⟩
  rintro i fr h1 ⟨hi, rfl, g0, g3, g4⟩
  unfold f50_l0
  have sl : ∀ y, prV .slen (sE L) y = some (.i .i64 (L.length : Int)) := fun y => slen_s
  by_cases hlt : i < L.length
  · have d0 : decide ((i : Int) < (L.length : Int)) = true := decide_eq_true (by omega)
    have d1 : decide ((i : Int) < 20) = true := decide_eq_true (by omega)
    have hx : ∀ k : IntKind, prV .sidx (sE L) (.i k (i : Int)) = some (.i .u8 ((L[i].toNat : Nat) : Int)) := fun k => sidx_s (List.getElem?_eq_getElem hlt)
    have htk : xcS (L.take (i + 1)) = xcS (L.take i) ++ [xcB L[i]] := by rw [List.take_succ_eq_append_getElem hlt]; unfold xcS; rw [List.map_append]; rfl
    have hla : prV .sadd (sE (xcS (L.take i))) (sE [xcB L[i]]) = some (sE (xcS (L.take (i + 1)))) := by rw [htk]; exact sadd_s (by simp [xcS]; omega)
    by_cases hb : L[i] = 72
    · have d2 : decide (((L[i].toNat : Nat) : Int) = 72) = true := decide_eq_true (by rw [hb]; rfl)
      have hla : prV .sadd (sE (xcS (L.take i))) (sE [65]) = some (sE (xcS (L.take (i + 1)))) := by rw [← hla]; unfold xcB; rw [if_pos hb]
      simp (disch := omega) only [f50_r3, f50_r4, f50_r5, f50_r7, w_skip, w_reg, w_seq, w_cond, w_block, seqK_n, atK_n, loopK_n, ckB_b, cbB_b, okG_b, asG_t, true_and, x_nil, x_g, x_mv, x_as, x_pick, x_bin, kx, rvP_ok, okv_some, ev_t, ev_c, getV_some, putD_some, bin_add, bin_eql, bin_lss, pick_b, of1, getK_set, Nat.reduceEqDiff, ↓reduceIte, x_pr, of20, g0, g3, g4, sl, d0, d1, hx, of72, d2, s_A, hla, fw64]
      exact ⟨i + 1, by omega, by omega, rfl, by simp (disch := omega) only [getK_set, Nat.reduceEqDiff, ↓reduceIte, g0, and_self, Int.natCast_add, Int.natCast_one]⟩
    · have d2 : decide (((L[i].toNat : Nat) : Int) = 72) = false := decide_eq_false fun e => hb (UInt8.toNat_inj.1 (show L[i].toNat = (72 : UInt8).toNat by have : (72 : UInt8).toNat = 72 := rfl; omega))
      have hla : prV .sadd (sE (xcS (L.take i))) (sE [72]) = some (sE (xcS (L.take (i + 1)))) := by rw [← hla]; unfold xcB; rw [if_neg hb]
      simp (disch := omega) only [f50_r3, f50_r4, f50_r6, f50_r7, w_skip, w_reg, w_seq, w_cond, w_block, seqK_n, atK_n, loopK_n, ckB_b, cbB_b, okG_b, asG_t, true_and, x_nil, x_g, x_mv, x_as, x_pick, x_bin, kx, rvP_ok, okv_some, ev_t, ev_c, getV_some, putD_some, bin_add, bin_eql, bin_lss, pick_b, of1, getK_set, Nat.reduceEqDiff, ↓reduceIte, Bool.false_eq_true, x_pr, of20, g0, g3, g4, sl, d0, d1, hx, of72, d2, s_H, hla, fw64]
      exact ⟨i + 1, by omega, by omega, rfl, by simp (disch := omega) only [getK_set, Nat.reduceEqDiff, ↓reduceIte, g0, and_self, Int.natCast_add, Int.natCast_one]⟩
  · have d0 : decide ((i : Int) < (L.length : Int)) = false := decide_eq_false (by omega)
    have ei : i = L.length := by omega
    rw [ei, List.take_length] at g3
    simp (disch := omega) only [f50_r3, f50_r8, f50_rs, w_reg, w_seq, w_cond, w_exit, w_ret, seqK_n, seqK_e, atK_e, loopK_e, ckB_b, cbB_b, okG_b, asG_t, retK_r, x_nil, x_g, x_mv, x_as, x_pick, x_bin, kx, rvP_ok, okv_some, ev_t, ev_c, getV_some, putD_some, bin_lss, pick_b, oGet_s, readRs_nil, readRs_t, retV_1, Option.some.injEq, exists_eq_left', getK_set, Nat.reduceEqDiff, ↓reduceIte, Bool.false_eq_true, x_pr, of20, g0, g3, g4, sl, d0, and_self]
theorem xc_at {t i : Nat} (hi : i < Q.length) : (xcS (hoS Q t))[i]? = some (if hoB (Q.getD i []) t = true then 65 else 72) := by
  unfold xcS
  rw [List.getElem?_map, hoS_at hi]
  cases hoB (Q.getD i []) t <;> rfl
theorem ho_eq {t u : Nat} (h : hoS Q t = hoS Q u) {i : Nat} (hi : i < Q.length) : bT Q i t = bT Q i u := by
  have h1 := hoS_at (t := t) hi
  have h2 := hoS_at (t := u) hi
  rw [h, h2] at h1
  unfold bT
  cases q1 : hoB (Q.getD i []) t <;> cases q2 : hoB (Q.getD i []) u <;> rw [q1, q2] at h1 <;> simp at h1 ⊢
theorem xc_eq {t u : Nat} : xcS (hoS Q u) = hoS Q t ↔ ∀ i, i < Q.length → bT Q i u = !bT Q i t := by
  refine ⟨fun h i hi => ?_, fun h => List.ext_getElem? fun i => ?_⟩
  · have h1 := hoS_at (t := t) hi
    rw [← h, xc_at hi] at h1
    unfold bT
    cases q1 : hoB (Q.getD i []) t <;> cases q2 : hoB (Q.getD i []) u <;> rw [q1, q2] at h1 <;> simp at h1 ⊢
  · by_cases hi : i < Q.length
    · have := h i hi
      unfold bT at this
      rw [xc_at hi, hoS_at hi, this]
      cases hoB (Q.getD i []) t <;> rfl
    · rw [List.getElem?_eq_none (by simp [xcS, hoS_len]; omega), List.getElem?_eq_none (by rw [hoS_len]; omega)]
def smC (Q : List (List (Int × Int))) (i m : Nat) : Int := sm (fun j => if hoS Q j = hoS Q i then 1 else 0) m
def exC (Q : List (List (Int × Int))) (i m : Nat) : Int := sm (fun j => if xcS (hoS Q j) = hoS Q i then 1 else 0) m
theorem same_1 (s : Sched n Q) {i : Nat} (hi : i < n) : smC Q i n = 1 := by
  unfold smC
  rw [sm_at hi fun r hr hne => ?_, if_pos rfl]
  rw [if_neg]
  intro e
  obtain ⟨j, hj, hjn⟩ := bT_ne s hr hi hne
  exact hjn (ho_eq e hj)
theorem ex_1 (s : Sched n Q) (hb : brk n Q = (n : Int) - 2) {i : Nat} (hi : i < n) : exC Q i n = 1 := by
  obtain ⟨u, hu, hp⟩ := partner s hb hi
  unfold exC
  rw [sm_at hu fun r hr hne => ?_, if_pos (xc_eq.2 hp)]
  rw [if_neg]
  intro e
  obtain ⟨j, hj, hjn⟩ := bT_ne s hr hu hne
  exact hjn (by rw [xc_eq.1 e j hj, hp j hj])
theorem sm_b {f : Nat → Int} (hf : ∀ t, 0 ≤ f t ∧ f t ≤ 1) : ∀ m : Nat, 0 ≤ sm f m ∧ sm f m ≤ (m : Int)
  | 0 => ⟨Int.le_refl _, Int.le_refl _⟩
  | m + 1 => by
    have h1 := sm_b hf m
    have h2 := hf m
    show 0 ≤ sm f m + f m ∧ sm f m + f m ≤ ((m + 1 : Nat) : Int)
    omega
theorem smC_b {i m : Nat} : 0 ≤ smC Q i m ∧ smC Q i m ≤ (m : Int) := sm_b (fun t => by split <;> omega) m
theorem exC_b {i m : Nat} : 0 ≤ exC Q i m ∧ exC Q i m ≤ (m : Int) := sm_b (fun t => by split <;> omega) m
theorem seql_s {a b : List UInt8} : prV (.seql false) (sE a) (sE b) = some (.b (decide (a = b))) := by
  show some (V.b (bif false then _ else sameB (bytes ⟨⟨a⟩⟩) (bytes ⟨⟨b⟩⟩))) = _
  rw [sameB_eq]
  show some (V.b (a == b)) = _
  congr 2
  by_cases e : a = b
  · rw [decide_eq_true e, e]; simp
  · rw [decide_eq_false e]; simpa using e
theorem beq_s {a : List UInt8} : beqV (sE a) (sE a) = true := by
  show sameB (bytes ⟨⟨a⟩⟩) (bytes ⟨⟨a⟩⟩) = true
  rw [sameB_eq]; simp
/-! ### Numbers of teams -/
noncomputable def teams6 (n : Int) : Int := 2 + 2 * ((IntKind.u64.wrap n).tmod 3)
theorem t3_b (n : Int) : 0 ≤ (IntKind.u64.wrap n).tmod 3 ∧ (IntKind.u64.wrap n).tmod 3 < 3 := by
  have hw : 0 ≤ IntKind.u64.wrap n := Int.emod_nonneg _ (by decide)
  obtain ⟨m, hm⟩ := Int.eq_ofNat_of_zero_le hw
  rw [hm]
  have : ((m : Int).tmod 3) = ((m % 3 : Nat) : Int) := rfl
  omega
theorem f41_6 {n : Int} : Ret fs f41 [.i .i64 n, .i .i64 6] h fun r h' => r = .i .i64 (teams6 n) ∧ h' = h := by
  apply ret_of rfl
  show W fs none f41_c _ _ _
  unfold f41_c
  have e1 : fw .u64 (fw .i64 (Int.tdiv 6 2)) = 3 := rfl
  have hr := t3_b n
  have e2 : fw .i64 ((IntKind.u64.wrap n).tmod 3) = (IntKind.u64.wrap n).tmod 3 := by rw [fw_eq]; exact wrap_in .i64 _ (by simp only [kmin]; omega) (by simp only [kmax]; omega)
  have e3 : fw .i64 (2 * ((IntKind.u64.wrap n).tmod 3)) = 2 * ((IntKind.u64.wrap n).tmod 3) := by rw [fw_eq]; exact wrap_in .i64 _ (by simp only [kmin]; omega) (by simp only [kmax]; omega)
  have e4 : fw .i64 (2 + 2 * ((IntKind.u64.wrap n).tmod 3)) = 2 + 2 * ((IntKind.u64.wrap n).tmod 3) := by rw [fw_eq]; exact wrap_in .i64 _ (by simp only [kmin]; omega) (by simp only [kmax]; omega)
  have e5 : fw .u64 n = IntKind.u64.wrap n := fw_eq _ _
  simp (disch := omega) only [f41_r0, f41_r1, f41_rs, w_reg, w_seq, w_ret, seqK_n, retK_r, x_nil, x_mv, x_as, x_bin, x_conv, kx, rvP_ok, okv_some, ev_t, ev_c, getV_some, putD_some, bin_add, bin_mul, bin_rem, bin_quo, onI_i, oGet_s, readRs_nil, readRs_t, retV_1, frame_2, of0, of2, Option.some.injEq, exists_eq_left', getK_set, Nat.reduceEqDiff, ↓reduceIte, e1, e2, e3, e4, e5, teams6, and_self]
end
end Go.Ev
namespace Go.Ev
open Go Go.RowKit
noncomputable def f10_r0 : List EOper := [⟨(some (K.ofNat 4)), none, .as (.c (.b false))⟩]
noncomputable def f10_r1 : List EOper := [⟨(some (K.ofNat 21)), none, .mv (.t (K.ofNat 0))⟩, ⟨(some (K.ofNat 22)), none, .mv (.t (K.ofNat 1))⟩, ⟨(some (K.ofNat 23)), none, .call (.c (.fn (K.ofNat 25) [])) [(.t (K.ofNat 21)), (.t (K.ofNat 22))]⟩, ⟨(some (K.ofNat 20)), none, .mv (.t (K.ofNat 23))⟩, ⟨(some (K.ofNat 24)), none, .ext (.t (K.ofNat 20)) 0⟩, ⟨(some (K.ofNat 25)), none, .ext (.t (K.ofNat 20)) 1⟩, ⟨(some (K.ofNat 5)), none, .as (.t (K.ofNat 24))⟩, ⟨(some (K.ofNat 6)), none, .as (.t (K.ofNat 25))⟩]
noncomputable def f10_r2 : List EOper := [⟨(some (K.ofNat 7)), none, .as (.c (.i .i64 (.ofNat 0)))⟩]
noncomputable def f10_r3 : List EOper := [⟨(some (K.ofNat 26)), none, .mv (.t (K.ofNat 7))⟩, ⟨(some (K.ofNat 27)), none, .bin .lss (.t (K.ofNat 26)) (.c (.i .i64 (.ofNat 3)))⟩]
noncomputable def f10_r4 : List EOper := [⟨(some (K.ofNat 31)), none, .mv (.t (K.ofNat 5))⟩, ⟨(some (K.ofNat 32)), none, .mv (.t (K.ofNat 6))⟩, ⟨(some (K.ofNat 33)), none, .call (.c (.fn (K.ofNat 16) [])) [(.t (K.ofNat 31)), (.t (K.ofNat 32))]⟩, ⟨(some (K.ofNat 30)), none, .mv (.t (K.ofNat 33))⟩, ⟨(some (K.ofNat 34)), none, .ext (.t (K.ofNat 30)) 0⟩, ⟨(some (K.ofNat 35)), none, .ext (.t (K.ofNat 30)) 1⟩, ⟨(some (K.ofNat 8)), none, .as (.t (K.ofNat 34))⟩, ⟨(some (K.ofNat 9)), none, .as (.t (K.ofNat 35))⟩]
noncomputable def f10_r5 : List EOper := [⟨(some (K.ofNat 37)), none, .mv (.t (K.ofNat 5))⟩, ⟨(some (K.ofNat 38)), none, .mv (.t (K.ofNat 6))⟩, ⟨(some (K.ofNat 39)), none, .call (.c (.fn (K.ofNat 17) [])) [(.t (K.ofNat 37)), (.t (K.ofNat 38))]⟩, ⟨(some (K.ofNat 36)), none, .mv (.t (K.ofNat 39))⟩, ⟨(some (K.ofNat 40)), none, .ext (.t (K.ofNat 36)) 0⟩, ⟨(some (K.ofNat 41)), none, .ext (.t (K.ofNat 36)) 1⟩, ⟨(some (K.ofNat 10)), none, .as (.t (K.ofNat 40))⟩, ⟨(some (K.ofNat 11)), none, .as (.t (K.ofNat 41))⟩]
noncomputable def f10_r6 : List EOper := [⟨(some (K.ofNat 42)), none, .mv (.t (K.ofNat 9))⟩, ⟨(some (K.ofNat 43)), none, .bin .neq (.t (K.ofNat 42)) (.c (.i .i64 (.ofNat 0)))⟩, ⟨(some (K.ofNat 44)), none, .mv (.t (K.ofNat 43))⟩, ⟨(some (K.ofNat 45)), (some ((K.ofNat 44), false)), .mv (.t (K.ofNat 11))⟩, ⟨(some (K.ofNat 46)), (some ((K.ofNat 44), false)), .bin .neq (.t (K.ofNat 45)) (.c (.i .i64 (.ofNat 0)))⟩, ⟨(some (K.ofNat 47)), none, .pick (.t (K.ofNat 44)) (.c (.b true)) (.t (K.ofNat 46))⟩, ⟨(some (K.ofNat 48)), none, .mv (.t (K.ofNat 47))⟩, ⟨(some (K.ofNat 49)), (some ((K.ofNat 48), false)), .mv (.t (K.ofNat 8))⟩, ⟨(some (K.ofNat 50)), (some ((K.ofNat 48), false)), .mv (.t (K.ofNat 5))⟩, ⟨(some (K.ofNat 51)), (some ((K.ofNat 48), false)), .bin .sub (.t (K.ofNat 50)) (.c (.i .i64 (.ofNat 2)))⟩, ⟨(some (K.ofNat 52)), (some ((K.ofNat 48), false)), .bin .lss (.t (K.ofNat 49)) (.t (K.ofNat 51))⟩, ⟨(some (K.ofNat 53)), none, .pick (.t (K.ofNat 48)) (.c (.b true)) (.t (K.ofNat 52))⟩, ⟨(some (K.ofNat 54)), none, .mv (.t (K.ofNat 53))⟩, ⟨(some (K.ofNat 55)), (some ((K.ofNat 54), false)), .mv (.t (K.ofNat 10))⟩, ⟨(some (K.ofNat 56)), (some ((K.ofNat 54), false)), .len (.t (K.ofNat 55))⟩, ⟨(some (K.ofNat 57)), (some ((K.ofNat 54), false)), .mv (.t (K.ofNat 5))⟩, ⟨(some (K.ofNat 58)), (some ((K.ofNat 54), false)), .bin .neq (.t (K.ofNat 56)) (.t (K.ofNat 57))⟩, ⟨(some (K.ofNat 59)), none, .pick (.t (K.ofNat 54)) (.c (.b true)) (.t (K.ofNat 58))⟩]
noncomputable def f10_r7 : List EOper := [⟨(some (K.ofNat 4)), none, .as (.c (.b false))⟩]
noncomputable def f10_r8 : List EOper := [⟨(some (K.ofNat 12)), none, .as (.c (.i .i64 (.ofNat 0)))⟩]
noncomputable def f10_r9 : List EOper := [⟨(some (K.ofNat 60)), none, .mv (.t (K.ofNat 12))⟩, ⟨(some (K.ofNat 61)), none, .mv (.t (K.ofNat 5))⟩, ⟨(some (K.ofNat 62)), none, .bin .lss (.t (K.ofNat 60)) (.t (K.ofNat 61))⟩, ⟨(some (K.ofNat 63)), none, .mv (.t (K.ofNat 62))⟩, ⟨(some (K.ofNat 64)), (some ((K.ofNat 63), true)), .mv (.t (K.ofNat 8))⟩, ⟨(some (K.ofNat 65)), (some ((K.ofNat 63), true)), .mv (.t (K.ofNat 5))⟩, ⟨(some (K.ofNat 66)), (some ((K.ofNat 63), true)), .bin .sub (.t (K.ofNat 65)) (.c (.i .i64 (.ofNat 2)))⟩, ⟨(some (K.ofNat 67)), (some ((K.ofNat 63), true)), .bin .eql (.t (K.ofNat 64)) (.t (K.ofNat 66))⟩, ⟨(some (K.ofNat 68)), none, .pick (.t (K.ofNat 63)) (.t (K.ofNat 67)) (.c (.b false))⟩]
noncomputable def f10_r10 : List EOper := [⟨(some (K.ofNat 13)), none, .as (.c (.i .i64 (.ofNat 0)))⟩, ⟨(some (K.ofNat 14)), none, .as (.c (.i .i64 (.ofNat 0)))⟩]
noncomputable def f10_r11 : List EOper := [⟨(some (K.ofNat 15)), none, .as (.c (.i .i64 (.ofNat 0)))⟩]
noncomputable def f10_r12 : List EOper := [⟨(some (K.ofNat 71)), none, .mv (.t (K.ofNat 15))⟩, ⟨(some (K.ofNat 72)), none, .mv (.t (K.ofNat 5))⟩, ⟨(some (K.ofNat 73)), none, .bin .lss (.t (K.ofNat 71)) (.t (K.ofNat 72))⟩]
noncomputable def f10_r13 : List Stage := [⟨[⟨(some (K.ofNat 76)), none, .mv (.t (K.ofNat 10))⟩, ⟨(some (K.ofNat 77)), none, .mv (.t (K.ofNat 15))⟩, ⟨(some (K.ofNat 78)), none, .iads 1 (.t (K.ofNat 76)) (.t (K.ofNat 77))⟩, ⟨(some (K.ofNat 79)), none, .ld (.t (K.ofNat 78))⟩, ⟨(some (K.ofNat 80)), none, .mv (.t (K.ofNat 10))⟩, ⟨(some (K.ofNat 81)), none, .mv (.t (K.ofNat 12))⟩, ⟨(some (K.ofNat 82)), none, .iads 1 (.t (K.ofNat 80)) (.t (K.ofNat 81))⟩, ⟨(some (K.ofNat 83)), none, .ld (.t (K.ofNat 82))⟩, ⟨(some (K.ofNat 84)), none, .pr (.seql false) (.t (K.ofNat 79)) (.t (K.ofNat 83))⟩], [], none, []⟩]
noncomputable def f10_r14 : List EOper := [⟨(some (K.ofNat 85)), none, .mv (.t (K.ofNat 13))⟩, ⟨(some (K.ofNat 86)), none, .bin .add (.t (K.ofNat 85)) (.c (.i .i64 (.ofNat 1)))⟩, ⟨(some (K.ofNat 13)), none, .as (.t (K.ofNat 86))⟩]
noncomputable def f10_r15 : List Stage := [⟨[⟨(some (K.ofNat 87)), none, .mv (.t (K.ofNat 10))⟩, ⟨(some (K.ofNat 88)), none, .mv (.t (K.ofNat 15))⟩, ⟨(some (K.ofNat 89)), none, .iads 1 (.t (K.ofNat 87)) (.t (K.ofNat 88))⟩, ⟨(some (K.ofNat 90)), none, .ld (.t (K.ofNat 89))⟩, ⟨(some (K.ofNat 92)), none, .mv (.t (K.ofNat 10))⟩, ⟨(some (K.ofNat 93)), none, .mv (.t (K.ofNat 12))⟩, ⟨(some (K.ofNat 94)), none, .iads 1 (.t (K.ofNat 92)) (.t (K.ofNat 93))⟩, ⟨(some (K.ofNat 95)), none, .ld (.t (K.ofNat 94))⟩], [], (some ⟨(some (K.ofNat 91)), none, .call (.c (.fn (K.ofNat 50) [])) [(.t (K.ofNat 90))]⟩), []⟩, ⟨[⟨(some (K.ofNat 96)), none, .pr (.seql false) (.t (K.ofNat 91)) (.t (K.ofNat 95))⟩], [⟨(some (K.ofNat 92)), none, .mv (.t (K.ofNat 10))⟩, ⟨(some (K.ofNat 93)), none, .mv (.t (K.ofNat 12))⟩, ⟨(some (K.ofNat 94)), none, .iads 1 (.t (K.ofNat 92)) (.t (K.ofNat 93))⟩, ⟨(some (K.ofNat 95)), none, .ld (.t (K.ofNat 94))⟩], none, []⟩]
noncomputable def f10_r16 : List EOper := [⟨(some (K.ofNat 97)), none, .mv (.t (K.ofNat 14))⟩, ⟨(some (K.ofNat 98)), none, .bin .add (.t (K.ofNat 97)) (.c (.i .i64 (.ofNat 1)))⟩, ⟨(some (K.ofNat 14)), none, .as (.t (K.ofNat 98))⟩]
noncomputable def f10_r17 : List EOper := [⟨(some (K.ofNat 74)), none, .mv (.t (K.ofNat 15))⟩, ⟨(some (K.ofNat 75)), none, .bin .add (.t (K.ofNat 74)) (.c (.i .i64 (.ofNat 1)))⟩, ⟨(some (K.ofNat 15)), none, .as (.t (K.ofNat 75))⟩]
noncomputable def f10_l0 : EC := (.seq (.seq (.reg f10_r12) (.cond (.t (K.ofNat 73)) .skip (.exit 4))) (.seq (.block 5 (.seq (.seq (.draw f10_r13) (.cond (.t (K.ofNat 84)) (.reg f10_r14) .skip)) (.seq (.draw f10_r15) (.cond (.t (K.ofNat 96)) (.reg f10_r16) .skip)))) (.reg f10_r17)))
noncomputable def f10_r18 : List EOper := [⟨(some (K.ofNat 99)), none, .mv (.t (K.ofNat 13))⟩, ⟨(some (K.ofNat 100)), none, .bin .neq (.t (K.ofNat 99)) (.c (.i .i64 (.ofNat 1)))⟩, ⟨(some (K.ofNat 101)), none, .mv (.t (K.ofNat 100))⟩, ⟨(some (K.ofNat 102)), (some ((K.ofNat 101), false)), .mv (.t (K.ofNat 14))⟩, ⟨(some (K.ofNat 103)), (some ((K.ofNat 101), false)), .bin .neq (.t (K.ofNat 102)) (.c (.i .i64 (.ofNat 1)))⟩, ⟨(some (K.ofNat 104)), none, .pick (.t (K.ofNat 101)) (.c (.b true)) (.t (K.ofNat 103))⟩]
noncomputable def f10_r19 : List EOper := [⟨(some (K.ofNat 4)), none, .as (.c (.b false))⟩]
noncomputable def f10_r20 : List EOper := [⟨(some (K.ofNat 69)), none, .mv (.t (K.ofNat 12))⟩, ⟨(some (K.ofNat 70)), none, .bin .add (.t (K.ofNat 69)) (.c (.i .i64 (.ofNat 1)))⟩, ⟨(some (K.ofNat 12)), none, .as (.t (K.ofNat 70))⟩]
noncomputable def f10_l1 : EC := (.seq (.seq (.reg f10_r9) (.cond (.t (K.ofNat 68)) .skip (.exit 2))) (.seq (.block 3 (.seq (.reg f10_r10) (.seq (.seq (.reg f10_r11) (.block 4 (.loop f10_l0))) (.seq (.reg f10_r18) (.cond (.t (K.ofNat 104)) (.seq (.reg f10_r19) .ret) .skip))))) (.reg f10_r20)))
noncomputable def f10_r21 : List EOper := [⟨(some (K.ofNat 106)), none, .mv (.t (K.ofNat 5))⟩, ⟨(some (K.ofNat 107)), none, .call (.c (.fn (K.ofNat 34) [])) [(.t (K.ofNat 106))]⟩, ⟨(some (K.ofNat 105)), none, .mv (.t (K.ofNat 107))⟩, ⟨(some (K.ofNat 108)), none, .ext (.t (K.ofNat 105)) 0⟩, ⟨(some (K.ofNat 109)), none, .ext (.t (K.ofNat 105)) 1⟩, ⟨(some (K.ofNat 16)), none, .as (.t (K.ofNat 108))⟩, ⟨(some (K.ofNat 17)), none, .as (.t (K.ofNat 109))⟩]
noncomputable def f10_r22 : List EOper := [⟨(some (K.ofNat 110)), none, .mv (.t (K.ofNat 7))⟩, ⟨(some (K.ofNat 111)), none, .bin .eql (.t (K.ofNat 110)) (.c (.i .i64 (.ofNat 1)))⟩]
noncomputable def f10_r23 : List EOper := [⟨(some (K.ofNat 112)), none, .mv (.t (K.ofNat 0))⟩, ⟨(some (K.ofNat 113)), none, .call (.c (.fn (K.ofNat 41) [])) [(.t (K.ofNat 112)), (.c (.i .i64 (.ofNat 6)))]⟩, ⟨(some (K.ofNat 5)), none, .as (.t (K.ofNat 113))⟩]
noncomputable def f10_r24 : List EOper := [⟨(some (K.ofNat 115)), none, .mv (.t (K.ofNat 5))⟩, ⟨(some (K.ofNat 116)), none, .bin .quo (.t (K.ofNat 115)) (.c (.i .i64 (.ofNat 2)))⟩, ⟨(some (K.ofNat 117)), none, .bin .sub (.t (K.ofNat 116)) (.c (.i .i64 (.ofNat 1)))⟩, ⟨(some (K.ofNat 118)), none, .mv (.t (K.ofNat 1))⟩, ⟨(some (K.ofNat 119)), none, .call (.c (.fn (K.ofNat 25) [])) [(.t (K.ofNat 117)), (.t (K.ofNat 118))]⟩, ⟨(some (K.ofNat 114)), none, .mv (.t (K.ofNat 119))⟩, ⟨(some (K.ofNat 120)), none, .ext (.t (K.ofNat 114)) 0⟩, ⟨(some (K.ofNat 121)), none, .ext (.t (K.ofNat 114)) 1⟩, ⟨(some (K.ofNat 18)), none, .as (.t (K.ofNat 120))⟩, ⟨(some (K.ofNat 19)), none, .as (.t (K.ofNat 121))⟩]
noncomputable def f10_r25 : List EOper := [⟨(some (K.ofNat 123)), none, .mv (.t (K.ofNat 5))⟩, ⟨(some (K.ofNat 124)), none, .mv (.t (K.ofNat 19))⟩, ⟨(some (K.ofNat 125)), none, .call (.c (.fn (K.ofNat 23) [])) [(.t (K.ofNat 123)), (.t (K.ofNat 124))]⟩, ⟨(some (K.ofNat 122)), none, .mv (.t (K.ofNat 125))⟩, ⟨(some (K.ofNat 126)), none, .ext (.t (K.ofNat 122)) 0⟩, ⟨(some (K.ofNat 127)), none, .ext (.t (K.ofNat 122)) 1⟩, ⟨(some (K.ofNat 128)), none, .ext (.t (K.ofNat 122)) 2⟩, ⟨(some (K.ofNat 16)), none, .as (.t (K.ofNat 127))⟩, ⟨(some (K.ofNat 17)), none, .as (.t (K.ofNat 128))⟩]
noncomputable def f10_r26 : List EOper := [⟨(some (K.ofNat 129)), none, .mv (.t (K.ofNat 17))⟩, ⟨(some (K.ofNat 130)), none, .bin .neq (.t (K.ofNat 129)) (.c (.i .i64 (.ofNat 0)))⟩, ⟨(some (K.ofNat 131)), none, .mv (.t (K.ofNat 130))⟩, ⟨(some (K.ofNat 132)), (some ((K.ofNat 131), false)), .mv (.t (K.ofNat 5))⟩, ⟨(some (K.ofNat 133)), (some ((K.ofNat 131), false)), .mv (.t (K.ofNat 16))⟩, ⟨(some (K.ofNat 134)), (some ((K.ofNat 131), false)), .call (.c (.fn (K.ofNat 14) [])) [(.t (K.ofNat 132)), (.t (K.ofNat 133))]⟩, ⟨(some (K.ofNat 135)), (some ((K.ofNat 131), false)), .bin .neq (.t (K.ofNat 134)) (.c (.i .i64 (.ofNat 0)))⟩, ⟨(some (K.ofNat 136)), none, .pick (.t (K.ofNat 131)) (.c (.b true)) (.t (K.ofNat 135))⟩]
noncomputable def f10_r27 : List EOper := [⟨(some (K.ofNat 4)), none, .as (.c (.b false))⟩]
noncomputable def f10_r28 : List EOper := [⟨(some (K.ofNat 137)), none, .mv (.t (K.ofNat 16))⟩, ⟨(some (K.ofNat 6)), none, .as (.t (K.ofNat 137))⟩]
noncomputable def f10_r29 : List EOper := [⟨(some (K.ofNat 28)), none, .mv (.t (K.ofNat 7))⟩, ⟨(some (K.ofNat 29)), none, .bin .add (.t (K.ofNat 28)) (.c (.i .i64 (.ofNat 1)))⟩, ⟨(some (K.ofNat 7)), none, .as (.t (K.ofNat 29))⟩]
noncomputable def f10_l2 : EC := (.seq (.seq (.reg f10_r3) (.cond (.t (K.ofNat 27)) .skip (.exit 0))) (.seq (.block 1 (.seq (.reg f10_r4) (.seq (.reg f10_r5) (.seq (.seq (.reg f10_r6) (.cond (.t (K.ofNat 59)) (.seq (.reg f10_r7) .ret) .skip)) (.seq (.seq (.reg f10_r8) (.block 2 (.loop f10_l1))) (.seq (.reg f10_r21) (.seq (.seq (.reg f10_r22) (.cond (.t (K.ofNat 111)) (.seq (.reg f10_r23) (.seq (.reg f10_r24) (.reg f10_r25))) .skip)) (.seq (.seq (.reg f10_r26) (.cond (.t (K.ofNat 136)) (.seq (.reg f10_r27) .ret) .skip)) (.reg f10_r28))))))))) (.reg f10_r29)))
noncomputable def f10_r30 : List EOper := [⟨(some (K.ofNat 138)), none, .call (.c (.fn (K.ofNat 22) [])) []⟩, ⟨(some (K.ofNat 4)), none, .as (.t (K.ofNat 138))⟩]
noncomputable def f10_c : EC := (.seq (.reg f10_r0) (.seq (.reg f10_r1) (.seq (.seq (.reg f10_r2) (.block 0 (.loop f10_l2))) (.seq (.reg f10_r30) .ret))))
noncomputable def f10 : EF := ⟨139, [.tmp (K.ofNat 4)], f10_c, none⟩
theorem f10_rs : f10.rs = [.tmp (K.ofNat 4)] := of_eq_true (eq_self _)
theorem loop_mono {fs : T EF} {ro : Option K} {c : EC} {Q Q' : Ex → Fr → H → Prop} {fr : Fr} {h : H} (hq : ∀ e fr h, Q e fr h → Q' e fr h) (hw : W fs ro (.loop c) Q fr h) : W fs ro (.loop c) Q' fr h := by
  obtain ⟨e, fr', h', r, q⟩ := hw
  exact ⟨e, fr', h', r, hq _ _ _ q⟩
theorem teams_6 (n : Int) : ∃ r : Nat, r < 3 ∧ teams6 n = ((2 + 2 * r : Nat) : Int) ∧ teamsN (r : Int) = ((2 + 2 * r : Nat) : Int) := by
  have hr := t3_b n
  refine ⟨((IntKind.u64.wrap n).tmod 3).toNat, by omega, by unfold teams6; omega, ?_⟩
  obtain e | e | e : ((IntKind.u64.wrap n).tmod 3).toNat = 0 ∨ ((IntKind.u64.wrap n).tmod 3).toNat = 1 ∨ ((IntKind.u64.wrap n).tmod 3).toNat = 2 := by omega
  · rw [e]; rfl
  · rw [e]; rfl
  · rw [e]; rfl
structure CallsWe (fs : T EF) : Prop extends CallsFo fs, CallsTd fs, CallsH fs where
  w16 : fs.get (K.ofNat 16) = some f16
  w17 : fs.get (K.ofNat 17) = some f17
  w23 : fs.get (K.ofNat 23) = some f23
  w41 : fs.get (K.ofNat 41) = some f41
  w50 : fs.get (K.ofNat 50) = some f50
  w60 : fs.get (K.ofNat 60) = some f60
section
variable {fs : T EF}
def f10_I (h : H) (sd : Int) (v : V) (i : Nat) (fr : Fr) (h1 : H) : Prop := i ≤ 3 ∧ Grow h.nx.nat h h1 ∧ ∃ m Q c ws, Sched m Q ∧ Nrp h1 c ws Q ∧ fr.get (K.ofNat 0) = some (.i .i64 sd) ∧ fr.get (K.ofNat 1) = some (v) ∧ fr.get (K.ofNat 5) = some (.i .i64 (m : Int)) ∧ fr.get (K.ofNat 6) = some (c) ∧ fr.get (K.ofNat 7) = some (.i .i64 (i : Int))
def f10_J (h2 : H) (sd : Int) (v c w : V) (m : Nat) (Q : List (List (Int × Int))) (i : Nat) (t : Nat) (fr : Fr) (h1 : H) : Prop := t ≤ m ∧ h1 = h2 ∧ fr.get (K.ofNat 0) = some (.i .i64 sd) ∧ fr.get (K.ofNat 1) = some (v) ∧ fr.get (K.ofNat 5) = some (.i .i64 (m : Int)) ∧ fr.get (K.ofNat 6) = some (c) ∧ fr.get (K.ofNat 7) = some (.i .i64 (i : Int)) ∧ fr.get (K.ofNat 8) = some (.i .i64 (brk m Q)) ∧ fr.get (K.ofNat 10) = some (w) ∧ fr.get (K.ofNat 12) = some (.i .i64 (t : Int))
def f10_K (h2 : H) (sd : Int) (v c w : V) (m : Nat) (Q : List (List (Int × Int))) (i t : Nat) (j : Nat) (fr : Fr) (h1 : H) : Prop := j ≤ m ∧ h1 = h2 ∧ fr.get (K.ofNat 0) = some (.i .i64 sd) ∧ fr.get (K.ofNat 1) = some (v) ∧ fr.get (K.ofNat 5) = some (.i .i64 (m : Int)) ∧ fr.get (K.ofNat 6) = some (c) ∧ fr.get (K.ofNat 7) = some (.i .i64 (i : Int)) ∧ fr.get (K.ofNat 8) = some (.i .i64 (brk m Q)) ∧ fr.get (K.ofNat 10) = some (w) ∧ fr.get (K.ofNat 12) = some (.i .i64 (t : Int)) ∧ fr.get (K.ofNat 13) = some (.i .i64 (smC Q t j)) ∧ fr.get (K.ofNat 14) = some (.i .i64 (exC Q t j)) ∧ fr.get (K.ofNat 15) = some (.i .i64 (j : Int))
theorem f10_ret {h : H} {v : V} {B : List Int} {n : Int} (k : CallsWe fs) (hv : Sr iE h v B) (hB : B.length ≤ 9223372036854775807) (hc : HC h) : Ret fs f10 [.i .i64 n, v] h fun r h' => r = .b true ∧ Grow h.nx.nat h h' := by
  have aw := k.aw
  apply ret_of rfl
  show W fs none f10_c _ _ _
  unfold f10_c
  simp (disch := omega) only [f10_r0, f10_r1, w_reg, w_seq, seqK_n, x_nil, x_mv, x_as, x_call, ev_t, ev_c, evs_nil, evs_cons, getV_some, putD_some, frame_2, getK_set, Nat.reduceEqDiff, ↓reduceIte]
  refine (callP_0 (ef := f25) k.c25 rfl (f25_ret (n := n) k.toCallsTm hv hB hc)).mono ?_
  rintro r h1 ⟨m, c, ws, rfl, hm, hS, hG1⟩
  have ho := teams_nat hm
  simp (disch := omega) only [f10_r2, w_reg, w_seq, w_block, seqK_n, x_nil, x_mv, x_as, x_ext, kx, rvP_ok, okv_some, ev_t, ev_c, getV_some, putD_some, onTup_t, nth0, nth1, of0, getK_set, Nat.reduceEqDiff, ↓reduceIte]
  refine W_loop (f10_I h n v) (fun i => 3 - i) ?_ 0 ⟨by omega, hG1, m, _, c, ws, Sched.of ho (tame_sh ho), hS, by simp (disch := omega) only [getK_set, Nat.reduceEqDiff, ↓reduceIte, and_self, Int.natCast_zero]⟩
  clear hS hG1 ho hm ws c m h1
  rintro i fr h1 ⟨hi, hG, m, Q, c, ws, s, hS, g0, g1, g5, g6, g7⟩
  have hc1 := hG.hc hc
  have ne0 : decide ((0 : Int) ≠ 0) = false := rfl
  obtain ⟨hb10, hb2⟩ := s.bd
  have hql := s.len
  unfold f10_l2
  by_cases hlt : i < 3
  · have d0 : decide ((i : Int) < 3) = true := decide_eq_true (by omega)
    simp (disch := omega) only [f10_r3, f10_r4, w_skip, w_reg, w_seq, w_cond, w_block, seqK_n, ckB_b, cbB_b, true_and, x_nil, x_mv, x_bin, x_call, kx, rvP_ok, okv_some, ev_t, ev_c, evs_nil, evs_cons, getV_some, putD_some, bin_lss, of3, getK_set, Nat.reduceEqDiff, ↓reduceIte, g5, g6, g7, d0]
    refine (callP_0 (ef := f16) k.w16 rfl (f16_ret k.toCallsBk s.ok hS s.big s.sh hc1)).mono ?_
    rintro r h2 ⟨rfl, hG2⟩
    rw [show smI (bkL m Q (Q.length - 1)) = brk m Q from rfl]
    have hc2 := hG2.hc hc1
    have hS2 := hS.grow hc1 hG2
    have hGa := hG.trans (hG2.low hG.nx)
    simp (disch := omega) only [f10_r5, w_reg, w_seq, seqK_n, x_nil, x_mv, x_as, x_ext, x_call, kx, rvP_ok, okv_some, ev_t, ev_c, evs_nil, evs_cons, getV_some, putD_some, onTup_t, nth0, nth1, getK_set, Nat.reduceEqDiff, ↓reduceIte, g5, g6]
    refine (callP_0 (ef := f17) k.w17 rfl (f17_ret k.toCallsH s.ok hS2 s.big s.sh hc2)).mono ?_
    rintro r h3 ⟨w, rfl, hw, hG3⟩
    have hc3 := hG3.hc hc2
    have hS3 := hS2.grow hc2 hG3
    have hGb := hGa.trans (hG3.low hGa.nx)
    have hge := brk_ge s
    have hle : brk m Q ≤ 1000 := by
      rw [brk_sm s]
      have := (sm_bd (f := fun t => bkT Q t) (b := 10) (fun t => ⟨bkT_nn, by
        have := (sm_bd (f := fun j => eqE Q j t) (b := 1) (fun j => by rw [eqE_01]; split <;> omega) (Q.length - 1)).2
        unfold bkT
        omega⟩) m).2
      have : m * 10 ≤ 100 := Nat.mul_le_mul_right 10 hb10
      omega
    have hwl : ∀ h1, lenV w h1 = .ok (.i .i64 (m : Int)) h1 := fun h1 => by rw [hw.len]; simp
    have d1 : decide (brk m Q < (m : Int) - 2) = false := decide_eq_false (by omega)
    have nel : decide ((m : Int) ≠ (m : Int)) = false := by simp
    have hat : ∀ j, j < m → ∃ p, (∀ k h1, iadsV 1 w (.i k (j : Int)) h1 = .ok p h1) ∧ loadV h3 p one? = .ok (sE (hoS Q j)) h3 ∧ beqV p p = true := fun j hj => by
      obtain ⟨p, q1, q2, q3⟩ := hw.atb j (by simpa using hj)
      exact ⟨p, q1, by rw [q2]; simp, q3⟩
    have hwb := hw.sr.beq
    simp (disch := omega) only [f10_r6, f10_r8, w_skip, w_reg, w_seq, w_cond, w_block, seqK_n, ckB_b, cbB_b, okG_b, asG_f, true_and, x_nil, x_g, x_mv, x_as, x_pick, x_bin, x_ext, x_len, kx, rvP_ok, okv_some, ev_t, ev_c, getV_some, putD_some, bin_sub, bin_neq, bin_lss, pick_b, onTup_t, nth0, nth1, of0, of2, getK_set, Nat.reduceEqDiff, ↓reduceIte, Bool.false_eq_true, Bool.not_false, g5, ne0, d1, hwl, nel, fw64]
    refine loop_mono (Q := fun e fr h => e = .exit 2 ∧ h = h3 ∧ fr.get (K.ofNat 0) = some (.i .i64 n) ∧ fr.get (K.ofNat 1) = some (v) ∧ fr.get (K.ofNat 5) = some (.i .i64 (m : Int)) ∧ fr.get (K.ofNat 6) = some (c) ∧ fr.get (K.ofNat 7) = some (.i .i64 (i : Int))) ?_ (W_loop (f10_J h3 n v c w m Q i) (fun t => m - t) ?_ 0 ⟨by omega, rfl, by simp (disch := omega) only [getK_set, Nat.reduceEqDiff, ↓reduceIte, g0, g1, g5, g6, g7, and_self, Int.natCast_zero]⟩)
    · clear g0 g1 g5 g6 g7 fr
      rintro e fr h4 ⟨rfl, rfl, g0, g1, g5, g6, g7⟩
      have fin : ∀ (n' : Nat) (Q' : List (List (Int × Int))) (u : V) (ys : List V) fr h9, Sched n' Q' → Nrp h9 u ys Q' → Grow h.nx.nat h h9 → fr.get (K.ofNat 0) = some (.i .i64 n) ∧ fr.get (K.ofNat 1) = some (v) ∧ fr.get (K.ofNat 5) = some (.i .i64 (n' : Int)) ∧ fr.get (K.ofNat 7) = some (.i .i64 (i : Int)) ∧ fr.get (K.ofNat 16) = some (u) ∧ fr.get (K.ofNat 17) = some (.i .i64 0) →
          Go.Ev.X fs f10_r26 (seqK (W fs none (.cond (.t (K.ofNat 136)) (.seq (.reg f10_r27) .ret) .skip)) (seqK (W fs none (.reg f10_r28)) (atK 1 (seqK (W fs none (.reg f10_r29)) (loopK (f10_I h n v) (fun i => 3 - i) i (atK 0 (seqK (W fs none (.seq (.reg f10_r30) .ret)) (retK f10 fun r h' => r = .b true ∧ Grow h.nx.nat h h'))))))) .normal) fr h9 := by
        clear g0 g1 g5 g6 g7 fr
        rintro n' Q' u ys fr h9 s' hu hG9 ⟨g0, g1, g5, g7, g16, g17⟩
        have hc9 := hG9.hc hc
        obtain ⟨hb10', hb2'⟩ := s'.bd
        have hql' := s'.len
        have hck : ckI n' Q' = 0 := by unfold ckI; rw [if_pos s'.sh]
        simp (disch := omega) only [f10_r26, okG_b, asG_f, true_and, x_g, x_mv, x_bin, x_call, kx, rvP_ok, okv_some, ev_t, ev_c, evs_nil, evs_cons, getV_some, putD_some, bin_neq, of0, getK_set, Nat.reduceEqDiff, ↓reduceIte, Bool.not_false, g5, g16, g17, ne0]
        refine (callP_0 (ef := f14) k.c14 rfl (f14_ret k.toCallsRc s'.ok hu (by omega) s'.big hc9)).mono ?_
        rintro r h10 ⟨rfl, hG10⟩
        rw [hck]
        have hGx := hG9.trans (hG10.low hG9.nx)
        simp (disch := omega) only [f10_r28, f10_r29, w_skip, w_reg, w_cond, seqK_n, atK_n, loopK_n, ckB_b, cbB_b, okG_b, asG_f, true_and, x_nil, x_g, x_mv, x_as, x_pick, x_bin, kx, rvP_ok, okv_some, ev_t, ev_c, getV_some, putD_some, bin_add, bin_neq, pick_b, of1, getK_set, Nat.reduceEqDiff, ↓reduceIte, Bool.false_eq_true, Bool.not_false, g7, g16, ne0, fw64]
        exact ⟨i + 1, by omega, by omega, hGx, n', _, u, ys, s', hu.grow hc9 hG10, by simp (disch := omega) only [getK_set, Nat.reduceEqDiff, ↓reduceIte, g0, g1, g5, and_self, Int.natCast_add, Int.natCast_one]⟩
      simp (disch := omega) only [f10_r21, w_reg, w_seq, seqK_n, atK_e, x_mv, x_call, ev_t, ev_c, evs_nil, evs_cons, getV_some, putD_some, getK_set, ↓reduceIte, g5]
      refine (callP_0 (ef := f34) k.c34 rfl (f34_ok k.toCallsMk s.ok hc3)).mono ?_
      rintro r h5 ⟨u, ys, rfl, hu, hG5⟩
      have hc5 := hG5.hc hc3
      have hGc := hGb.trans (hG5.low hGb.nx)
      by_cases e1 : i = 1
      · have d2 : decide ((i : Int) = 1) = true := decide_eq_true (by omega)
        obtain ⟨q, hq, hq6, hqN⟩ := teams_6 n
        simp (disch := omega) only [f10_r22, f10_r23, w_reg, w_seq, w_cond, seqK_n, ckB_b, cbB_b, true_and, x_nil, x_mv, x_as, x_bin, x_ext, x_call, kx, rvP_ok, okv_some, ev_t, ev_c, evs_nil, evs_cons, getV_some, putD_some, bin_eql, onTup_t, nth0, nth1, of1, of6, getK_set, Nat.reduceEqDiff, ↓reduceIte, g0, g7, d2]
        refine (callP_0 (ef := f41) k.w41 rfl f41_6).mono ?_
        rintro r h6 ⟨rfl, e6⟩
        rw [e6, hq6]
        have z1 : (((2 + 2 * q : Nat) : Int)).tdiv 2 = ((1 + q : Nat) : Int) := by
          show (((2 + 2 * q) / 2 : Nat) : Int) = _
          omega
        have z2 : ((1 + q : Nat) : Int) - 1 = (q : Int) := by omega
        simp (disch := omega) only [f10_r24, w_reg, w_seq, seqK_n, x_nil, x_mv, x_as, x_bin, x_call, kx, rvP_ok, okv_some, ev_t, ev_c, evs_nil, evs_cons, getV_some, putD_some, bin_sub, bin_quo, of1, of2, getK_set, Nat.reduceEqDiff, ↓reduceIte, g1, z1, z2, fw64]
        refine (callP_0 (ef := f25) k.c25 rfl (f25_ret (n := (q : Int)) k.toCallsTm (hv.grow hc hGc) hB hc5)).mono ?_
        rintro r h7 ⟨m2, c2, ws2, rfl, hm2, hS7, hG7⟩
        have hm22 : m2 = 2 + 2 * q := by omega
        have ho2 := teams_nat hm2
        have s2 : Sched m2 (tameL m2 B) := Sched.of ho2 (tame_sh ho2)
        have hc7 := hG7.hc hc5
        have hGd := hGc.trans (hG7.low hGc.nx)
        subst hm22
        simp (disch := omega) only [f10_r25, w_reg, seqK_n, x_nil, x_mv, x_as, x_ext, x_call, kx, rvP_ok, okv_some, ev_t, ev_c, evs_nil, evs_cons, getV_some, putD_some, onTup_t, nth0, nth1, getK_set, Nat.reduceEqDiff, ↓reduceIte]
        refine (callP_0 (ef := f23) k.w23 rfl (f23_ok k.toCallsTd k.toCallsCh k.w60 s2 (by omega) hS7 hc7)).mono ?_
        rintro r h8 ⟨u2, ys2, Q2, rfl, hu2, ha2, _, hG8⟩
        simp (disch := omega) only [w_reg, w_seq, seqK_n, x_nil, x_mv, x_as, x_ext, kx, rvP_ok, okv_some, ev_t, getV_some, putD_some, onTup_t, nth0, nth1, nth2, getK_set, Nat.reduceEqDiff, ↓reduceIte]
        exact fin (2 + 2 * q) _ u2 ys2 _ _ (alt_sched s2 ha2) hu2 (hGd.trans (hG8.low hGd.nx)) (by simp (disch := omega) only [getK_set, Nat.reduceEqDiff, ↓reduceIte, g0, g1, g7, and_self])
      · have d2 : decide ((i : Int) = 1) = false := decide_eq_false (by omega)
        simp (disch := omega) only [f10_r22, w_skip, w_reg, w_seq, w_cond, seqK_n, ckB_b, cbB_b, true_and, x_nil, x_mv, x_as, x_bin, x_ext, kx, rvP_ok, okv_some, ev_t, ev_c, getV_some, putD_some, bin_eql, onTup_t, nth0, nth1, of1, getK_set, Nat.reduceEqDiff, ↓reduceIte, Bool.false_eq_true, g7, d2]
        exact fin m _ u ys _ _ (Sched.of s.ok (tg_sh s.ok)) hu hGc (by simp (disch := omega) only [getK_set, Nat.reduceEqDiff, ↓reduceIte, g0, g1, g5, g7, and_self])
    · clear g0 g1 g5 g6 g7 fr hS3 hS2 hS hG2 hG3
      rintro t fr h4 ⟨ht, rfl, g0, g1, g5, g6, g7, g8, g10, g12⟩
      unfold f10_l1
      by_cases hlt2 : t < m
      · have d2 : decide ((t : Int) < (m : Int)) = true := decide_eq_true (by omega)
        by_cases hbr : brk m Q = (m : Int) - 2
        · have d3 : decide (brk m Q = (m : Int) - 2) = true := decide_eq_true hbr
          obtain ⟨p, p1, p2, p3⟩ := hat t hlt2
          simp (disch := omega) only [f10_r9, f10_r10, f10_r11, w_skip, w_reg, w_seq, w_cond, w_block, seqK_n, ckB_b, cbB_b, okG_b, asG_t, true_and, x_nil, x_g, x_mv, x_as, x_pick, x_bin, kx, rvP_ok, okv_some, ev_t, ev_c, getV_some, putD_some, bin_sub, bin_eql, bin_lss, pick_b, of0, of2, getK_set, Nat.reduceEqDiff, ↓reduceIte, g5, g8, g12, d2, d3, fw64]
          refine W_loop (f10_K h4 n v c w m Q i t) (fun j => m - j) ?_ 0 ⟨by omega, rfl, by simp (disch := omega) only [getK_set, Nat.reduceEqDiff, ↓reduceIte, g0, g1, g5, g6, g7, g8, g10, g12, and_self, Int.natCast_zero, smC, exC, sm]⟩
          clear g0 g1 g5 g6 g7 g8 g10 g12 fr
          rintro j fr h5 ⟨hj, rfl, g0, g1, g5, g6, g7, g8, g10, g12, g13, g14, g15⟩
          unfold f10_l0
          by_cases hlt3 : j < m
          · have d4 : decide ((j : Int) < (m : Int)) = true := decide_eq_true (by omega)
            obtain ⟨q, q1, q2, q3⟩ := hat j hlt3
            have hjl : (hoS Q j).length ≤ 20 := by rw [hoS_len]; omega
            have b1 := smC_b (Q := Q) (i := t) (m := j)
            have b2 := exC_b (Q := Q) (i := t) (m := j)
            have hbs : ∀ a, beqV (sE a) (sE a) = true := fun a => beq_s
            have c1 : smC Q t (j + 1) = smC Q t j + (if hoS Q j = hoS Q t then 1 else 0) := rfl
            have c2 : exC Q t (j + 1) = exC Q t j + (if xcS (hoS Q j) = hoS Q t then 1 else 0) := rfl
            by_cases e1 : hoS Q j = hoS Q t
            · have f1 : decide (hoS Q j = hoS Q t) = true := decide_eq_true e1
              rw [if_pos e1] at c1
              simp (disch := omega) only [f10_r12, f10_r13, f10_r14, f10_r15, w_skip, w_reg, w_draw, w_seq, w_cond, w_block, seqK_n, ckB_b, cbB_b, true_and, x_nil, x_mv, x_as, x_bin, x_call, kx, kg, xg_nil, xg_mv, xg_ld, xg_iads, xd_cons, fresh_nil, stK_n, stK_s, stay_nil, rvP_ok, okv_some, ev_t, ev_c, evs_nil, evs_cons, getV_some, putD_some, bin_add, bin_lss, of1, getK_set, Nat.reduceEqDiff, ↓reduceIte, xg_pr, g5, g10, g12, g13, g15, d4, p1, p2, q1, q2, seql_s, f1, fw64]
              refine (callP_0 (ef := f50) k.w50 rfl (f50_ret hjl)).mono ?_
              rintro r h6 ⟨rfl, e6⟩
              rw [e6]
              by_cases e2 : xcS (hoS Q j) = hoS Q t
              · have f2 : decide (xcS (hoS Q j) = hoS Q t) = true := decide_eq_true e2
                rw [if_pos e2] at c2
                simp (disch := omega) only [f10_r16, f10_r17, w_reg, w_cond, seqK_n, atK_n, loopK_n, ckB_b, cbB_b, true_and, x_nil, x_mv, x_as, x_bin, kx, kg, xg_nil, xd_cons, fresh_nil, stK_n, stay_nil, stay_cons, again_ok, stay_mv, beq_i, stay_iads, stay_ld, rvP_ok, okv_some, ev_t, ev_c, getV_some, putD_some, bin_add, of1, getK_set, Nat.reduceEqDiff, ↓reduceIte, xg_pr, g10, g12, g14, g15, p1, p2, p3, hwb, hbs, seql_s, f2, fw64]
                exact ⟨j + 1, by omega, by omega, rfl, by simp (disch := omega) only [getK_set, Nat.reduceEqDiff, ↓reduceIte, g0, g1, g5, g6, g7, g8, g10, g12, and_self, c1, c2, Int.natCast_add, Int.natCast_one]⟩
              · have f2 : decide (xcS (hoS Q j) = hoS Q t) = false := decide_eq_false e2
                rw [if_neg e2, Int.add_zero] at c2
                simp (disch := omega) only [f10_r17, w_skip, w_reg, w_cond, seqK_n, atK_n, loopK_n, ckB_b, cbB_b, true_and, x_nil, x_mv, x_as, x_bin, kx, kg, xg_nil, xd_cons, fresh_nil, stK_n, stay_nil, stay_cons, again_ok, stay_mv, beq_i, stay_iads, stay_ld, rvP_ok, okv_some, ev_t, ev_c, getV_some, putD_some, bin_add, of1, getK_set, Nat.reduceEqDiff, ↓reduceIte, Bool.false_eq_true, xg_pr, g10, g12, g15, p1, p2, p3, hwb, hbs, seql_s, f2, fw64]
                exact ⟨j + 1, by omega, by omega, rfl, by simp (disch := omega) only [getK_set, Nat.reduceEqDiff, ↓reduceIte, g0, g1, g5, g6, g7, g8, g10, g12, g14, and_self, c1, c2, Int.natCast_add, Int.natCast_one]⟩
            · have f1 : decide (hoS Q j = hoS Q t) = false := decide_eq_false e1
              rw [if_neg e1, Int.add_zero] at c1
              simp (disch := omega) only [f10_r12, f10_r13, f10_r15, w_skip, w_reg, w_draw, w_seq, w_cond, w_block, seqK_n, ckB_b, cbB_b, true_and, x_nil, x_mv, x_bin, x_call, kx, kg, xg_nil, xg_mv, xg_ld, xg_iads, xd_cons, fresh_nil, stK_n, stK_s, stay_nil, rvP_ok, okv_some, ev_t, ev_c, evs_nil, evs_cons, getV_some, putD_some, bin_lss, getK_set, Nat.reduceEqDiff, ↓reduceIte, Bool.false_eq_true, xg_pr, g5, g10, g12, g15, d4, p1, p2, q1, q2, seql_s, f1]
              refine (callP_0 (ef := f50) k.w50 rfl (f50_ret hjl)).mono ?_
              rintro r h6 ⟨rfl, e6⟩
              rw [e6]
              by_cases e2 : xcS (hoS Q j) = hoS Q t
              · have f2 : decide (xcS (hoS Q j) = hoS Q t) = true := decide_eq_true e2
                rw [if_pos e2] at c2
                simp (disch := omega) only [f10_r16, f10_r17, w_reg, w_cond, seqK_n, atK_n, loopK_n, ckB_b, cbB_b, true_and, x_nil, x_mv, x_as, x_bin, kx, kg, xg_nil, xd_cons, fresh_nil, stK_n, stay_nil, stay_cons, again_ok, stay_mv, beq_i, stay_iads, stay_ld, rvP_ok, okv_some, ev_t, ev_c, getV_some, putD_some, bin_add, of1, getK_set, Nat.reduceEqDiff, ↓reduceIte, xg_pr, g10, g12, g14, g15, p1, p2, p3, hwb, hbs, seql_s, f2, fw64]
                exact ⟨j + 1, by omega, by omega, rfl, by simp (disch := omega) only [getK_set, Nat.reduceEqDiff, ↓reduceIte, g0, g1, g5, g6, g7, g8, g10, g12, g13, and_self, c1, c2, Int.natCast_add, Int.natCast_one]⟩
              · have f2 : decide (xcS (hoS Q j) = hoS Q t) = false := decide_eq_false e2
                rw [if_neg e2, Int.add_zero] at c2
                simp (disch := omega) only [f10_r17, w_skip, w_reg, w_cond, seqK_n, atK_n, loopK_n, ckB_b, cbB_b, true_and, x_nil, x_mv, x_as, x_bin, kx, kg, xg_nil, xd_cons, fresh_nil, stK_n, stay_nil, stay_cons, again_ok, stay_mv, beq_i, stay_iads, stay_ld, rvP_ok, okv_some, ev_t, ev_c, getV_some, putD_some, bin_add, of1, getK_set, Nat.reduceEqDiff, ↓reduceIte, Bool.false_eq_true, xg_pr, g10, g12, g15, p1, p2, p3, hwb, hbs, seql_s, f2, fw64]
                exact ⟨j + 1, by omega, by omega, rfl, by simp (disch := omega) only [getK_set, Nat.reduceEqDiff, ↓reduceIte, g0, g1, g5, g6, g7, g8, g10, g12, g13, g14, and_self, c1, c2, Int.natCast_add, Int.natCast_one]⟩
          · have d4 : decide ((j : Int) < (m : Int)) = false := decide_eq_false (by omega)
            have ej : j = m := by omega
            subst ej
            rw [same_1 s hlt2] at g13
            rw [ex_1 s hbr hlt2] at g14
            have ne1 : decide ((1 : Int) ≠ 1) = false := rfl
            simp (disch := omega) only [f10_r12, f10_r18, f10_r20, w_skip, w_reg, w_seq, w_cond, w_exit, seqK_n, seqK_e, atK_n, atK_e, loopK_n, loopK_e, ckB_b, cbB_b, okG_b, asG_f, true_and, x_nil, x_g, x_mv, x_as, x_pick, x_bin, kx, rvP_ok, okv_some, ev_t, ev_c, getV_some, putD_some, bin_add, bin_neq, bin_lss, pick_b, of1, getK_set, Nat.reduceEqDiff, ↓reduceIte, Bool.false_eq_true, Bool.not_false, g5, g12, g13, g14, g15, d4, ne1, fw64]
            exact ⟨t + 1, by omega, by omega, rfl, by simp (disch := omega) only [getK_set, Nat.reduceEqDiff, ↓reduceIte, g0, g1, g5, g6, g7, g8, g10, and_self, Int.natCast_add, Int.natCast_one]⟩
        · have d3 : decide (brk m Q = (m : Int) - 2) = false := decide_eq_false hbr
          simp (disch := omega) only [f10_r9, w_reg, w_seq, w_cond, w_exit, seqK_n, seqK_e, loopK_e, ckB_b, cbB_b, okG_b, asG_t, x_nil, x_g, x_mv, x_pick, x_bin, kx, rvP_ok, okv_some, ev_t, ev_c, getV_some, putD_some, bin_sub, bin_eql, bin_lss, pick_b, of2, getK_set, Nat.reduceEqDiff, ↓reduceIte, Bool.false_eq_true, g0, g1, g5, g6, g7, g8, g12, d2, d3, fw64, and_self]
      · have d2 : decide ((t : Int) < (m : Int)) = false := decide_eq_false (by omega)
        simp (disch := omega) only [f10_r9, w_reg, w_seq, w_cond, w_exit, seqK_n, seqK_e, loopK_e, ckB_b, cbB_b, okG_b, asG_t, x_nil, x_g, x_mv, x_pick, x_bin, kx, rvP_ok, okv_some, ev_t, ev_c, getV_some, putD_some, bin_lss, pick_b, of2, getK_set, Nat.reduceEqDiff, ↓reduceIte, Bool.false_eq_true, g0, g1, g5, g6, g7, g12, d2, and_self]
  · have d0 : decide ((i : Int) < 3) = false := decide_eq_false (by omega)
    simp (disch := omega) only [f10_r3, f10_r30, f10_rs, w_reg, w_seq, w_cond, w_exit, w_ret, seqK_n, seqK_e, atK_e, loopK_e, ckB_b, cbB_b, true_and, retK_r, x_nil, x_mv, x_as, x_bin, x_call, kx, rvP_ok, okv_some, ev_t, ev_c, evs_nil, getV_some, putD_some, bin_lss, oGet_s, readRs_nil, readRs_t, retV_1, of3, Option.some.injEq, exists_eq_left', getK_set, ↓reduceIte, Bool.false_eq_true, g7, d0, aw]
    exact hG
end
end Go.Ev
