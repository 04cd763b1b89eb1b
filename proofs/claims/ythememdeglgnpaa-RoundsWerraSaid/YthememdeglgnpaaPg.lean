/-
  Rounds: the follow numbers, counted by rounds.
  Rounds: whether a schedule is balanced; follow numbers of the reference.
  Rounds: the follow numbers of the reference.
  Rounds: rings.
  slices.Sort of few numbers.
  Rounds: rings, of the program.
  Rounds: rings, of the reference.
  Rounds: one ring, whichever round is the first.
  Rounds: whether a schedule is perfect; rings of two rounds.
  Rounds: schedules that are made.
  Rounds: is it a round, a beginning, a schedule? (the reference)
-/
import Derived.Test.YthememdeglgnpaaPf
namespace Go.Ev
open Go Go.RowKit
theorem op_mem {t : Int} : ∀ {l : List (Int × Int)}, t ∈ plL l → (t, opF l t) ∈ l ∨ (opF l t, t) ∈ l
  | [], h => by simp [plL] at h
  | e :: l, h => by
    unfold opF
    by_cases h1 : t = e.1
    · rw [if_pos h1]; left; rw [h1]; simp
    · rw [if_neg h1]
      by_cases h2 : t = e.2
      · rw [if_pos h2]; right; rw [h2]; simp
      · rw [if_neg h2]
        have : t ∈ plL l := by
          have h : t ∈ e.1 :: e.2 :: plL l := h
          rcases List.mem_cons.1 h with h | h
          · exact absurd h h1
          · rcases List.mem_cons.1 h with h | h
            · exact absurd h h2
            · exact h
        rcases op_mem this with h | h
        · exact .inl (List.mem_cons_of_mem _ h)
        · exact .inr (List.mem_cons_of_mem _ h)
theorem pl_mem {l : List (Int × Int)} {e : Int × Int} (h : e ∈ l) : e.1 ∈ plL l ∧ e.2 ∈ plL l :=
  ⟨List.mem_flatMap.2 ⟨e, h, by simp⟩, List.mem_flatMap.2 ⟨e, h, by simp⟩⟩
theorem op_of {a b : Int} : ∀ {l : List (Int × Int)}, (plL l).Nodup → (a, b) ∈ l ∨ (b, a) ∈ l → opF l a = b
  | [], _, h => by simp at h
  | e :: l, hn, h => by
    have hn : (e.1 :: e.2 :: plL l).Nodup := hn
    obtain ⟨n1, n2⟩ := List.nodup_cons.1 hn
    obtain ⟨n3, n4⟩ := List.nodup_cons.1 n2
    have ne : e.1 ≠ e.2 := fun q => n1 (by rw [q]; simp)
    unfold opF
    have tail : (a, b) ∈ l ∨ (b, a) ∈ l → (if a = e.1 then e.2 else if a = e.2 then e.1 else opF l a) = b := fun h => by
      have ha : a ∈ plL l := by rcases h with h | h; exact (pl_mem h).1; exact (pl_mem h).2
      rw [if_neg (fun q => n1 (by rw [← q]; exact List.mem_cons_of_mem _ ha)), if_neg (fun q => n3 (by rw [← q]; exact ha))]
      exact op_of n4 h
    rcases h with h | h
    · rcases List.mem_cons.1 h with h | h
      · rw [← h, if_pos rfl]
      · exact tail (.inl h)
    · rcases List.mem_cons.1 h with h | h
      · rw [← h] at ne ⊢
        rw [if_neg (fun q => ne q.symm), if_pos rfl]
      · exact tail (.inr h)
theorem whR_eq {r : Int} {x : Int × Int} : ∀ {l : List (Int × Int)} {f : Int × Int → Option Int}, whR r l f x = if x ∈ l ∨ (x.2, x.1) ∈ l then some r else f x
  | [], f => by simp [whR]
  | e :: l, f => by
    show whR r l (upd2 f e r) x = _
    rw [whR_eq]
    unfold upd2
    by_cases h : x ∈ l ∨ (x.2, x.1) ∈ l
    · rw [if_pos h, if_pos (by rcases h with h | h; exact .inl (List.mem_cons_of_mem _ h); exact .inr (List.mem_cons_of_mem _ h))]
    · rw [if_neg h]
      by_cases h1 : x = (e.2, e.1)
      · rw [if_pos h1, if_pos (.inr (by rw [h1]; simp))]
      · rw [if_neg h1]
        by_cases h2 : x = e
        · rw [if_pos h2, if_pos (.inl (by rw [h2]; simp))]
        · rw [if_neg h2, if_neg]
          rintro (h3 | h3)
          · rcases List.mem_cons.1 h3 with h3 | h3
            · exact h2 h3
            · exact h (.inl h3)
          · rcases List.mem_cons.1 h3 with h3 | h3
            · exact h1 (by rw [← h3])
            · exact h (.inr h3)
section
variable {Q : List (List (Int × Int))} {n : Nat}
theorem wh_some {x : Int × Int} {a : Int} : ∀ {i : Nat}, whP Q i x = some a → ∃ r : Nat, a = (r : Int) ∧ r < i ∧ (x ∈ Q.getD r [] ∨ (x.2, x.1) ∈ Q.getD r [])
  | 0, h => by cases h
  | i + 1, h => by
    have h : whR (i : Int) (Q.getD i []) (whP Q i) x = some a := h
    rw [whR_eq] at h
    split at h
    · rename_i hx
      injection h with h
      exact ⟨i, h.symm, by omega, hx⟩
    · obtain ⟨r, h1, h2, h3⟩ := wh_some h
      exact ⟨r, h1, by omega, h3⟩
theorem vld_ds (v : Vld n Q) {i j : Nat} (hij : i < j) (hj : j < Q.length) : ∀ x ∈ Q[i]'(by omega), ∀ y ∈ Q[j], dsR x y := by
  have := v.pw
  rw [List.pairwise_flatten] at this
  exact List.pairwise_iff_getElem.1 this.2 i j (by omega) hj hij
theorem getD_at {α : Type} {l : List α} {i : Nat} {d : α} (h : i < l.length) : l.getD i d = l[i] := by
  rw [List.getD_eq_getElem?_getD, List.getElem?_eq_getElem h]; rfl
theorem wh_of (v : Vld n Q) {x : Int × Int} {r : Nat} (hx : x ∈ Q.getD r [] ∨ (x.2, x.1) ∈ Q.getD r []) : ∀ {i : Nat}, r < i → i ≤ Q.length → whP Q i x = some (r : Int)
  | 0, h, _ => by omega
  | i + 1, h, hl => by
    show whR (i : Int) (Q.getD i []) (whP Q i) x = _
    rw [whR_eq]
    by_cases e : r = i
    · subst e; rw [if_pos hx]
    · rw [if_neg, wh_of v hx (by omega) (by omega)]
      rw [getD_at (show i < Q.length by omega)]
      rw [getD_at (show r < Q.length by omega)] at hx
      have ds := vld_ds v (show r < i by omega) (by omega)
      rintro (h2 | h2) <;> rcases hx with hx | hx
      · exact (ds _ hx _ h2).1 rfl
      · exact (ds _ hx _ h2).2 rfl
      · exact (ds _ hx _ h2).2 rfl
      · exact (ds _ hx _ h2).1 rfl
theorem wh_op (v : Vld n Q) {i j : Nat} (hi : i < n) {r : Nat} (hr : r < Q.length) : whP Q Q.length ((i : Int), (j : Int)) = some (r : Int) ↔ opF (Q.getD r []) (i : Int) = (j : Int) := by
  have hrd := v.rnd (Q[r]) (List.getElem_mem hr)
  constructor
  · intro h
    obtain ⟨r', h1, h2, h3⟩ := wh_some h
    have : r = r' := by omega
    subst this
    rw [getD_at hr] at h3 ⊢
    exact op_of (rnd_nd hrd) h3
  · intro h
    have hm := op_mem (rnd_all hrd (t := (i : Int)) (by omega))
    rw [getD_at hr] at h
    rw [h] at hm
    exact wh_of v (by rw [getD_at hr]; exact hm) hr (Nat.le_refl _)
theorem op_in (v : Vld n Q) {r : Nat} (hr : r < Q.length) {t : Nat} (ht : t < n) : ∃ u : Nat, u < n ∧ opF (Q.getD r []) (t : Int) = (u : Int) := by
  have hrd := v.rnd (Q[r]) (List.getElem_mem hr)
  rw [getD_at hr]
  rcases op_mem (rnd_all hrd (t := (t : Int)) (by omega)) with h | h
  · have := (rnd_e hrd _ h).2.1
    exact ⟨(opF Q[r] (t : Int)).toNat, by omega, by omega⟩
  · have := (rnd_e hrd _ h).1
    exact ⟨(opF Q[r] (t : Int)).toNat, by omega, by omega⟩
theorem sm_at {g : Nat → Int} {r0 : Nat} : ∀ {L : Nat}, r0 < L → (∀ r, r < L → r ≠ r0 → g r = 0) → sm g L = g r0
  | 0, h, _ => by omega
  | L + 1, h, hz => by
    show sm g L + g L = _
    by_cases e : r0 = L
    · subst e
      rw [show sm g r0 = sm (fun _ => 0) r0 from sm_cong r0 fun t ht => hz t (by omega) (by omega), sm_zero]; omega
    · rw [sm_at (by omega) (fun r hr hne => hz r (by omega) hne), hz L (by omega) (fun q => e q.symm)]; omega
end
end Go.Ev
namespace Go.Ev
open Go Go.RowKit
noncomputable def f55_r0 : List EOper := [⟨(some (K.ofNat 4)), none, .as (.c (.b false))⟩]
noncomputable def f55_r1 : List EOper := [⟨(some (K.ofNat 9)), none, .mv (.t (K.ofNat 0))⟩, ⟨(some (K.ofNat 10)), none, .mv (.t (K.ofNat 1))⟩, ⟨(some (K.ofNat 11)), none, .call (.c (.fn (K.ofNat 54) [])) [(.t (K.ofNat 9)), (.t (K.ofNat 10))]⟩, ⟨(some (K.ofNat 12)), none, .len (.t (K.ofNat 11))⟩, ⟨(some (K.ofNat 13)), none, .mv (.c (.i .i64 (.ofNat 0)))⟩]
noncomputable def f55_r2 : List EOper := [⟨(some (K.ofNat 14)), none, .bin .lss (.t (K.ofNat 13)) (.t (K.ofNat 12))⟩]
noncomputable def f55_r3 : List EOper := [⟨(some (K.ofNat 15)), none, .mv (.t (K.ofNat 13))⟩, ⟨(some (K.ofNat 16)), none, .iads 1 (.t (K.ofNat 11)) (.t (K.ofNat 13))⟩, ⟨(some (K.ofNat 17)), none, .ld (.t (K.ofNat 16))⟩, ⟨(some (K.ofNat 5)), none, .as (.t (K.ofNat 15))⟩, ⟨(some (K.ofNat 6)), none, .as (.t (K.ofNat 17))⟩]
noncomputable def f55_r4 : List EOper := [⟨(some (K.ofNat 18)), none, .mv (.t (K.ofNat 6))⟩, ⟨(some (K.ofNat 19)), none, .len (.t (K.ofNat 18))⟩, ⟨(some (K.ofNat 20)), none, .mv (.c (.i .i64 (.ofNat 0)))⟩]
noncomputable def f55_r5 : List EOper := [⟨(some (K.ofNat 21)), none, .bin .lss (.t (K.ofNat 20)) (.t (K.ofNat 19))⟩]
noncomputable def f55_r6 : List EOper := [⟨(some (K.ofNat 22)), none, .mv (.t (K.ofNat 20))⟩, ⟨(some (K.ofNat 23)), none, .iads 1 (.t (K.ofNat 18)) (.t (K.ofNat 20))⟩, ⟨(some (K.ofNat 24)), none, .ld (.t (K.ofNat 23))⟩, ⟨(some (K.ofNat 7)), none, .as (.t (K.ofNat 22))⟩, ⟨(some (K.ofNat 8)), none, .as (.t (K.ofNat 24))⟩]
noncomputable def f55_r7 : List EOper := [⟨(some (K.ofNat 25)), none, .mv (.t (K.ofNat 5))⟩, ⟨(some (K.ofNat 26)), none, .mv (.t (K.ofNat 7))⟩, ⟨(some (K.ofNat 27)), none, .bin .neq (.t (K.ofNat 25)) (.t (K.ofNat 26))⟩, ⟨(some (K.ofNat 28)), none, .mv (.t (K.ofNat 27))⟩, ⟨(some (K.ofNat 29)), (some ((K.ofNat 28), true)), .mv (.t (K.ofNat 8))⟩, ⟨(some (K.ofNat 30)), (some ((K.ofNat 28), true)), .bin .neq (.t (K.ofNat 29)) (.c (.i .i64 (.ofNat 1)))⟩, ⟨(some (K.ofNat 31)), none, .pick (.t (K.ofNat 28)) (.t (K.ofNat 30)) (.c (.b false))⟩]
noncomputable def f55_r8 : List EOper := [⟨(some (K.ofNat 4)), none, .as (.c (.b false))⟩]
noncomputable def f55_r9 : List EOper := [⟨(some (K.ofNat 32)), none, .bin .add (.t (K.ofNat 20)) (.c (.i .i64 (.ofNat 1)))⟩, ⟨(some (K.ofNat 20)), none, .mv (.t (K.ofNat 32))⟩]
noncomputable def f55_l0 : EC := (.seq (.reg f55_r5) (.seq (.cond (.t (K.ofNat 21)) .skip (.exit 2)) (.seq (.block 3 (.seq (.reg f55_r6) (.seq (.reg f55_r7) (.cond (.t (K.ofNat 31)) (.seq (.reg f55_r8) .ret) .skip)))) (.reg f55_r9))))
noncomputable def f55_r10 : List EOper := [⟨(some (K.ofNat 33)), none, .bin .add (.t (K.ofNat 13)) (.c (.i .i64 (.ofNat 1)))⟩, ⟨(some (K.ofNat 13)), none, .mv (.t (K.ofNat 33))⟩]
noncomputable def f55_l1 : EC := (.seq (.reg f55_r2) (.seq (.cond (.t (K.ofNat 14)) .skip (.exit 0)) (.seq (.block 1 (.seq (.reg f55_r3) (.seq (.reg f55_r4) (.block 2 (.loop f55_l0))))) (.reg f55_r10))))
noncomputable def f55_r11 : List EOper := [⟨(some (K.ofNat 4)), none, .as (.c (.b true))⟩]
noncomputable def f55_c : EC := (.seq (.reg f55_r0) (.seq (.seq (.reg f55_r1) (.block 0 (.loop f55_l1))) (.seq (.reg f55_r11) .ret)))
noncomputable def f55 : EF := ⟨34, [.tmp (K.ofNat 4)], f55_c, none⟩
noncomputable def f38_r0 : List EOper := [⟨(some (K.ofNat 2)), none, .as (.c (.b false))⟩]
noncomputable def f38_r1 : List EOper := [⟨(some (K.ofNat 3)), none, .as (.c (.i .i64 (.ofNat 0)))⟩]
noncomputable def f38_r2 : List EOper := [⟨(some (K.ofNat 5)), none, .mv (.t (K.ofNat 3))⟩, ⟨(some (K.ofNat 6)), none, .mv (.t (K.ofNat 0))⟩, ⟨(some (K.ofNat 7)), none, .len (.t (K.ofNat 6))⟩, ⟨(some (K.ofNat 8)), none, .bin .lss (.t (K.ofNat 5)) (.t (K.ofNat 7))⟩]
noncomputable def f38_r3 : List EOper := [⟨(some (K.ofNat 4)), none, .as (.c (.i .i64 (.ofNat 0)))⟩]
noncomputable def f38_r4 : List EOper := [⟨(some (K.ofNat 11)), none, .mv (.t (K.ofNat 4))⟩, ⟨(some (K.ofNat 12)), none, .mv (.t (K.ofNat 0))⟩, ⟨(some (K.ofNat 13)), none, .mv (.t (K.ofNat 3))⟩, ⟨(some (K.ofNat 14)), none, .iads 1 (.t (K.ofNat 12)) (.t (K.ofNat 13))⟩, ⟨(some (K.ofNat 15)), none, .ld (.t (K.ofNat 14))⟩, ⟨(some (K.ofNat 16)), none, .len (.t (K.ofNat 15))⟩, ⟨(some (K.ofNat 17)), none, .bin .lss (.t (K.ofNat 11)) (.t (K.ofNat 16))⟩]
noncomputable def f38_r5 : List EOper := [⟨(some (K.ofNat 20)), none, .mv (.t (K.ofNat 3))⟩, ⟨(some (K.ofNat 21)), none, .mv (.t (K.ofNat 4))⟩, ⟨(some (K.ofNat 22)), none, .bin .neq (.t (K.ofNat 20)) (.t (K.ofNat 21))⟩, ⟨(some (K.ofNat 23)), none, .mv (.t (K.ofNat 22))⟩, ⟨(some (K.ofNat 24)), (some ((K.ofNat 23), true)), .mv (.t (K.ofNat 0))⟩, ⟨(some (K.ofNat 25)), (some ((K.ofNat 23), true)), .mv (.t (K.ofNat 3))⟩, ⟨(some (K.ofNat 26)), (some ((K.ofNat 23), true)), .iads 1 (.t (K.ofNat 24)) (.t (K.ofNat 25))⟩, ⟨(some (K.ofNat 27)), (some ((K.ofNat 23), true)), .ld (.t (K.ofNat 26))⟩, ⟨(some (K.ofNat 28)), (some ((K.ofNat 23), true)), .mv (.t (K.ofNat 4))⟩, ⟨(some (K.ofNat 29)), (some ((K.ofNat 23), true)), .iads 1 (.t (K.ofNat 27)) (.t (K.ofNat 28))⟩, ⟨(some (K.ofNat 30)), (some ((K.ofNat 23), true)), .ld (.t (K.ofNat 29))⟩, ⟨(some (K.ofNat 31)), (some ((K.ofNat 23), true)), .bin .neq (.t (K.ofNat 30)) (.c (.i .i64 (.ofNat 1)))⟩, ⟨(some (K.ofNat 32)), none, .pick (.t (K.ofNat 23)) (.t (K.ofNat 31)) (.c (.b false))⟩]
noncomputable def f38_r6 : List EOper := [⟨(some (K.ofNat 2)), none, .as (.c (.b false))⟩]
noncomputable def f38_r7 : List EOper := [⟨(some (K.ofNat 18)), none, .mv (.t (K.ofNat 4))⟩, ⟨(some (K.ofNat 19)), none, .bin .add (.t (K.ofNat 18)) (.c (.i .i64 (.ofNat 1)))⟩, ⟨(some (K.ofNat 4)), none, .as (.t (K.ofNat 19))⟩]
noncomputable def f38_l0 : EC := (.seq (.seq (.reg f38_r4) (.cond (.t (K.ofNat 17)) .skip (.exit 2))) (.seq (.block 3 (.seq (.reg f38_r5) (.cond (.t (K.ofNat 32)) (.seq (.reg f38_r6) .ret) .skip))) (.reg f38_r7)))
noncomputable def f38_r8 : List EOper := [⟨(some (K.ofNat 9)), none, .mv (.t (K.ofNat 3))⟩, ⟨(some (K.ofNat 10)), none, .bin .add (.t (K.ofNat 9)) (.c (.i .i64 (.ofNat 1)))⟩, ⟨(some (K.ofNat 3)), none, .as (.t (K.ofNat 10))⟩]
noncomputable def f38_l1 : EC := (.seq (.seq (.reg f38_r2) (.cond (.t (K.ofNat 8)) .skip (.exit 0))) (.seq (.block 1 (.seq (.reg f38_r3) (.block 2 (.loop f38_l0)))) (.reg f38_r8)))
noncomputable def f38_r9 : List EOper := [⟨(some (K.ofNat 2)), none, .as (.c (.b true))⟩]
noncomputable def f38_c : EC := (.seq (.reg f38_r0) (.seq (.seq (.reg f38_r1) (.block 0 (.loop f38_l1))) (.seq (.reg f38_r9) .ret)))
noncomputable def f38 : EF := ⟨33, [.tmp (K.ofNat 2)], f38_c, none⟩
noncomputable def f18_r0 : List EOper := [⟨(some (K.ofNat 4)), none, .as (.c .sn)⟩, ⟨(some (K.ofNat 5)), none, .as (.c (.i .i64 (.ofNat 0)))⟩]
noncomputable def f18_r1 : List EOper := [⟨(some (K.ofNat 9)), none, .mv (.t (K.ofNat 0))⟩, ⟨(some (K.ofNat 10)), none, .mv (.t (K.ofNat 1))⟩, ⟨(some (K.ofNat 11)), none, .call (.c (.fn (K.ofNat 51) [])) [(.t (K.ofNat 9)), (.t (K.ofNat 10))]⟩, ⟨(some (K.ofNat 8)), none, .mv (.t (K.ofNat 11))⟩, ⟨(some (K.ofNat 12)), none, .ext (.t (K.ofNat 8)) 0⟩, ⟨(some (K.ofNat 13)), none, .ext (.t (K.ofNat 8)) 1⟩, ⟨(some (K.ofNat 6)), none, .as (.t (K.ofNat 12))⟩, ⟨(some (K.ofNat 7)), none, .as (.t (K.ofNat 13))⟩]
noncomputable def f18_r2 : List EOper := [⟨(some (K.ofNat 14)), none, .mv (.t (K.ofNat 7))⟩, ⟨(some (K.ofNat 15)), none, .bin .neq (.t (K.ofNat 14)) (.c (.i .i64 (.ofNat 0)))⟩]
noncomputable def f18_r3 : List EOper := [⟨(some (K.ofNat 16)), none, .mv (.t (K.ofNat 7))⟩, ⟨(some (K.ofNat 4)), none, .as (.c .sn)⟩, ⟨(some (K.ofNat 5)), none, .as (.t (K.ofNat 16))⟩]
noncomputable def f18_r4 : List EOper := [⟨(some (K.ofNat 17)), none, .mv (.t (K.ofNat 6))⟩, ⟨(some (K.ofNat 18)), none, .mv (.t (K.ofNat 0))⟩, ⟨(some (K.ofNat 19)), none, .call (.c (.fn (K.ofNat 54) [])) [(.t (K.ofNat 17)), (.t (K.ofNat 18))]⟩, ⟨(some (K.ofNat 4)), none, .as (.t (K.ofNat 19))⟩, ⟨(some (K.ofNat 5)), none, .as (.c (.i .i64 (.ofNat 0)))⟩]
noncomputable def f18_c : EC := (.seq (.reg f18_r0) (.seq (.reg f18_r1) (.seq (.seq (.reg f18_r2) (.cond (.t (K.ofNat 15)) (.seq (.reg f18_r3) .ret) .skip)) (.seq (.reg f18_r4) .ret))))
noncomputable def f18 : EF := ⟨20, [.tmp (K.ofNat 4), .tmp (K.ofNat 5)], f18_c, none⟩
noncomputable def f19_r0 : List EOper := [⟨(some (K.ofNat 4)), none, .as (.c (.b false))⟩, ⟨(some (K.ofNat 5)), none, .as (.c (.i .i64 (.ofNat 0)))⟩]
noncomputable def f19_r1 : List EOper := [⟨(some (K.ofNat 9)), none, .mv (.t (K.ofNat 0))⟩, ⟨(some (K.ofNat 10)), none, .mv (.t (K.ofNat 1))⟩, ⟨(some (K.ofNat 11)), none, .call (.c (.fn (K.ofNat 51) [])) [(.t (K.ofNat 9)), (.t (K.ofNat 10))]⟩, ⟨(some (K.ofNat 8)), none, .mv (.t (K.ofNat 11))⟩, ⟨(some (K.ofNat 12)), none, .ext (.t (K.ofNat 8)) 0⟩, ⟨(some (K.ofNat 13)), none, .ext (.t (K.ofNat 8)) 1⟩, ⟨(some (K.ofNat 6)), none, .as (.t (K.ofNat 12))⟩, ⟨(some (K.ofNat 7)), none, .as (.t (K.ofNat 13))⟩]
noncomputable def f19_r2 : List EOper := [⟨(some (K.ofNat 14)), none, .mv (.t (K.ofNat 7))⟩, ⟨(some (K.ofNat 15)), none, .bin .neq (.t (K.ofNat 14)) (.c (.i .i64 (.ofNat 0)))⟩]
noncomputable def f19_r3 : List EOper := [⟨(some (K.ofNat 16)), none, .mv (.t (K.ofNat 7))⟩, ⟨(some (K.ofNat 4)), none, .as (.c (.b false))⟩, ⟨(some (K.ofNat 5)), none, .as (.t (K.ofNat 16))⟩]
noncomputable def f19_r4 : List EOper := [⟨(some (K.ofNat 17)), none, .mv (.t (K.ofNat 6))⟩, ⟨(some (K.ofNat 18)), none, .mv (.t (K.ofNat 0))⟩, ⟨(some (K.ofNat 19)), none, .call (.c (.fn (K.ofNat 55) [])) [(.t (K.ofNat 17)), (.t (K.ofNat 18))]⟩, ⟨(some (K.ofNat 4)), none, .as (.t (K.ofNat 19))⟩, ⟨(some (K.ofNat 5)), none, .as (.c (.i .i64 (.ofNat 0)))⟩]
noncomputable def f19_c : EC := (.seq (.reg f19_r0) (.seq (.reg f19_r1) (.seq (.seq (.reg f19_r2) (.cond (.t (K.ofNat 15)) (.seq (.reg f19_r3) .ret) .skip)) (.seq (.reg f19_r4) .ret))))
noncomputable def f19 : EF := ⟨20, [.tmp (K.ofNat 4), .tmp (K.ofNat 5)], f19_c, none⟩
section
variable {fs : T EF} {h : H} {w : V} {xs : List V} {T : List (List Int)}
end
section
variable {fs : T EF} {h : H} {v : V} {us : List V} {Ls : List (List (Int × Int))} {n : Nat}
structure CallsBa (fs : T EF) : Prop extends CallsF5 fs where
  c54 : fs.get (K.ofNat 54) = some f54
structure CallsFw (fs : T EF) : Prop extends CallsCh fs, CallsBa fs where
  c18 : fs.get (K.ofNat 18) = some f18
  c19 : fs.get (K.ofNat 19) = some f19
  c55 : fs.get (K.ofNat 55) = some f55
end
end Go.Ev
namespace Go.Ev
open Go Go.RowKit
noncomputable def f39_r0 : List EOper := [⟨(some (K.ofNat 4)), none, .as (.c .sn)⟩]
noncomputable def f39_r1 : List EOper := [⟨(some (K.ofNat 5)), none, .as (.c .sn)⟩]
noncomputable def f39_r2 : List EOper := [⟨(some (K.ofNat 6)), none, .as (.c (.i .i64 (.ofNat 0)))⟩]
noncomputable def f39_r3 : List EOper := [⟨(some (K.ofNat 13)), none, .mv (.t (K.ofNat 6))⟩, ⟨(some (K.ofNat 14)), none, .mv (.t (K.ofNat 0))⟩, ⟨(some (K.ofNat 15)), none, .bin .lss (.t (K.ofNat 13)) (.t (K.ofNat 14))⟩]
noncomputable def f39_r4 : List EOper := [⟨(some (K.ofNat 18)), none, .mv (.t (K.ofNat 0))⟩, ⟨(some (K.ofNat 19)), none, .mkslice 1 [(.i .i64 (.ofNat 0))] (.t (K.ofNat 18))⟩, ⟨(some (K.ofNat 7)), none, .as (.t (K.ofNat 19))⟩]
noncomputable def f39_r5 : List EOper := [⟨(some (K.ofNat 8)), none, .as (.c (.i .i64 (.ofNat 0)))⟩]
noncomputable def f39_r6 : List EOper := [⟨(some (K.ofNat 20)), none, .mv (.t (K.ofNat 8))⟩, ⟨(some (K.ofNat 21)), none, .mv (.t (K.ofNat 1))⟩, ⟨(some (K.ofNat 22)), none, .len (.t (K.ofNat 21))⟩, ⟨(some (K.ofNat 23)), none, .bin .lss (.t (K.ofNat 20)) (.t (K.ofNat 22))⟩]
noncomputable def f39_r7 : List EOper := [⟨(some (K.ofNat 27)), none, .mv (.t (K.ofNat 1))⟩, ⟨(some (K.ofNat 28)), none, .mv (.t (K.ofNat 8))⟩, ⟨(some (K.ofNat 29)), none, .iads 1 (.t (K.ofNat 27)) (.t (K.ofNat 28))⟩, ⟨(some (K.ofNat 30)), none, .ld (.t (K.ofNat 29))⟩, ⟨(some (K.ofNat 31)), none, .mv (.t (K.ofNat 6))⟩, ⟨(some (K.ofNat 32)), none, .call (.c (.fn (K.ofNat 64) [])) [(.t (K.ofNat 30)), (.t (K.ofNat 31))]⟩, ⟨(some (K.ofNat 26)), none, .mv (.t (K.ofNat 32))⟩, ⟨(some (K.ofNat 33)), none, .ext (.t (K.ofNat 26)) 0⟩, ⟨(some (K.ofNat 34)), none, .ext (.t (K.ofNat 26)) 1⟩, ⟨(some (K.ofNat 9)), none, .as (.t (K.ofNat 33))⟩, ⟨(some (K.ofNat 10)), none, .as (.t (K.ofNat 34))⟩]
noncomputable def f39_r8 : List EOper := [⟨(some (K.ofNat 36)), none, .mv (.t (K.ofNat 1))⟩, ⟨(some (K.ofNat 37)), none, .mv (.t (K.ofNat 8))⟩, ⟨(some (K.ofNat 38)), none, .bin .add (.t (K.ofNat 37)) (.c (.i .i64 (.ofNat 1)))⟩, ⟨(some (K.ofNat 39)), none, .mv (.t (K.ofNat 1))⟩, ⟨(some (K.ofNat 40)), none, .len (.t (K.ofNat 39))⟩, ⟨(some (K.ofNat 41)), none, .bin .rem (.t (K.ofNat 38)) (.t (K.ofNat 40))⟩, ⟨(some (K.ofNat 42)), none, .iads 1 (.t (K.ofNat 36)) (.t (K.ofNat 41))⟩, ⟨(some (K.ofNat 43)), none, .ld (.t (K.ofNat 42))⟩, ⟨(some (K.ofNat 44)), none, .mv (.t (K.ofNat 10))⟩, ⟨(some (K.ofNat 45)), none, .call (.c (.fn (K.ofNat 64) [])) [(.t (K.ofNat 43)), (.t (K.ofNat 44))]⟩, ⟨(some (K.ofNat 35)), none, .mv (.t (K.ofNat 45))⟩, ⟨(some (K.ofNat 46)), none, .ext (.t (K.ofNat 35)) 0⟩, ⟨(some (K.ofNat 47)), none, .ext (.t (K.ofNat 35)) 1⟩, ⟨(some (K.ofNat 11)), none, .as (.t (K.ofNat 46))⟩, ⟨(some (K.ofNat 12)), none, .as (.t (K.ofNat 47))⟩]
noncomputable def f39_r9 : List EOper := [⟨(some (K.ofNat 48)), none, .mv (.t (K.ofNat 7))⟩, ⟨(some (K.ofNat 49)), none, .mv (.t (K.ofNat 12))⟩, ⟨(some (K.ofNat 50)), none, .iads 1 (.t (K.ofNat 48)) (.t (K.ofNat 49))⟩, ⟨(some (K.ofNat 51)), none, .ld (.t (K.ofNat 50))⟩, ⟨(some (K.ofNat 52)), none, .bin .add (.t (K.ofNat 51)) (.c (.i .i64 (.ofNat 1)))⟩, ⟨(some (K.ofNat 53)), none, .iads 1 (.t (K.ofNat 48)) (.t (K.ofNat 49))⟩, ⟨none, none, .st 1 (.t (K.ofNat 53)) (.t (K.ofNat 52))⟩]
noncomputable def f39_r10 : List EOper := [⟨(some (K.ofNat 24)), none, .mv (.t (K.ofNat 8))⟩, ⟨(some (K.ofNat 25)), none, .bin .add (.t (K.ofNat 24)) (.c (.i .i64 (.ofNat 1)))⟩, ⟨(some (K.ofNat 8)), none, .as (.t (K.ofNat 25))⟩]
noncomputable def f39_l0 : EC := (.seq (.seq (.reg f39_r6) (.cond (.t (K.ofNat 23)) .skip (.exit 2))) (.seq (.block 3 (.seq (.reg f39_r7) (.seq (.reg f39_r8) (.reg f39_r9)))) (.reg f39_r10)))
noncomputable def f39_r11 : List EOper := [⟨(some (K.ofNat 54)), none, .mv (.t (K.ofNat 5))⟩, ⟨(some (K.ofNat 55)), none, .mv (.t (K.ofNat 7))⟩, ⟨(some (K.ofNat 56)), none, .bslice 1 1 [.sn] [(0, 1, (.t (K.ofNat 55)))]⟩, ⟨(some (K.ofNat 57)), none, .app 1 (.t (K.ofNat 54)) (.t (K.ofNat 56))⟩, ⟨(some (K.ofNat 5)), none, .as (.t (K.ofNat 57))⟩]
noncomputable def f39_r12 : List EOper := [⟨(some (K.ofNat 16)), none, .mv (.t (K.ofNat 6))⟩, ⟨(some (K.ofNat 17)), none, .bin .add (.t (K.ofNat 16)) (.c (.i .i64 (.ofNat 1)))⟩, ⟨(some (K.ofNat 6)), none, .as (.t (K.ofNat 17))⟩]
noncomputable def f39_l1 : EC := (.seq (.seq (.reg f39_r3) (.cond (.t (K.ofNat 15)) .skip (.exit 0))) (.seq (.block 1 (.seq (.reg f39_r4) (.seq (.seq (.reg f39_r5) (.block 2 (.loop f39_l0))) (.reg f39_r11)))) (.reg f39_r12)))
noncomputable def f39_r13 : List EOper := [⟨(some (K.ofNat 58)), none, .mv (.t (K.ofNat 5))⟩, ⟨(some (K.ofNat 4)), none, .as (.t (K.ofNat 58))⟩]
noncomputable def f39_c : EC := (.seq (.reg f39_r0) (.seq (.reg f39_r1) (.seq (.seq (.reg f39_r2) (.block 0 (.loop f39_l1))) (.seq (.reg f39_r13) .ret))))
noncomputable def f39 : EF := ⟨59, [.tmp (K.ofNat 4)], f39_c, none⟩
section
variable {fs : T EF} {h : H} {v : V} {us : List V} {Ls : List (List (Int × Int))} {n : Nat}
end
end Go.Ev
namespace Go.Ev
open Go Go.RowKit
section
variable {A B : Int → Int} {n : Nat} {t x : Int} {L : List Int}
end
end Go.Ev
namespace Go.Ev
open Go Go.RowKit
noncomputable def f103_r0 : List EOper := [⟨(some (K.ofNat 2)), none, .as (.c (.b false))⟩]
noncomputable def f103_r1 : List EOper := [⟨(some (K.ofNat 3)), none, .mv (.t (K.ofNat 0))⟩, ⟨(some (K.ofNat 4)), none, .mv (.t (K.ofNat 0))⟩, ⟨(some (K.ofNat 5)), none, .bin .neq (.t (K.ofNat 3)) (.t (K.ofNat 4))⟩, ⟨(some (K.ofNat 2)), none, .as (.t (K.ofNat 5))⟩]
noncomputable def f103_c : EC := (.seq (.reg f103_r0) (.seq (.reg f103_r1) .ret))
noncomputable def f103 : EF := ⟨6, [.tmp (K.ofNat 2)], f103_c, none⟩
theorem f103_rs : f103.rs = [.tmp (K.ofNat 2)] := of_eq_true (eq_self _)
noncomputable def f110_r0 : List EOper := [⟨(some (K.ofNat 4)), none, .as (.c (.b false))⟩]
noncomputable def f110_r1 : List EOper := [⟨(some (K.ofNat 5)), none, .mv (.t (K.ofNat 0))⟩, ⟨(some (K.ofNat 6)), none, .call (.c (.fn (K.ofNat 103) [])) [(.t (K.ofNat 5))]⟩, ⟨(some (K.ofNat 7)), none, .mv (.t (K.ofNat 6))⟩, ⟨(some (K.ofNat 8)), (some ((K.ofNat 7), true)), .mv (.t (K.ofNat 1))⟩, ⟨(some (K.ofNat 9)), (some ((K.ofNat 7), true)), .call (.c (.fn (K.ofNat 103) [])) [(.t (K.ofNat 8))]⟩, ⟨(some (K.ofNat 10)), (some ((K.ofNat 7), true)), .not (.t (K.ofNat 9))⟩, ⟨(some (K.ofNat 11)), none, .pick (.t (K.ofNat 7)) (.t (K.ofNat 10)) (.c (.b false))⟩, ⟨(some (K.ofNat 12)), none, .mv (.t (K.ofNat 11))⟩, ⟨(some (K.ofNat 13)), (some ((K.ofNat 12), false)), .mv (.t (K.ofNat 0))⟩, ⟨(some (K.ofNat 14)), (some ((K.ofNat 12), false)), .mv (.t (K.ofNat 1))⟩, ⟨(some (K.ofNat 15)), (some ((K.ofNat 12), false)), .bin .lss (.t (K.ofNat 13)) (.t (K.ofNat 14))⟩, ⟨(some (K.ofNat 16)), none, .pick (.t (K.ofNat 12)) (.c (.b true)) (.t (K.ofNat 15))⟩, ⟨(some (K.ofNat 4)), none, .as (.t (K.ofNat 16))⟩]
noncomputable def f110_c : EC := (.seq (.reg f110_r0) (.seq (.reg f110_r1) .ret))
noncomputable def f110 : EF := ⟨17, [.tmp (K.ofNat 4)], f110_c, none⟩
noncomputable def f104_r0 : List EOper := [⟨(some (K.ofNat 8)), none, .mv (.t (K.ofNat 1))⟩, ⟨(some (K.ofNat 9)), none, .bin .add (.t (K.ofNat 8)) (.c (.i .i64 (.ofNat 1)))⟩, ⟨(some (K.ofNat 6)), none, .as (.t (K.ofNat 9))⟩]
noncomputable def f104_r1 : List EOper := [⟨(some (K.ofNat 10)), none, .mv (.t (K.ofNat 6))⟩, ⟨(some (K.ofNat 11)), none, .mv (.t (K.ofNat 2))⟩, ⟨(some (K.ofNat 12)), none, .bin .lss (.t (K.ofNat 10)) (.t (K.ofNat 11))⟩]
noncomputable def f104_r2 : List EOper := [⟨(some (K.ofNat 15)), none, .mv (.t (K.ofNat 6))⟩, ⟨(some (K.ofNat 7)), none, .as (.t (K.ofNat 15))⟩]
noncomputable def f104_r3 : List Stage := [⟨[⟨(some (K.ofNat 16)), none, .mv (.t (K.ofNat 7))⟩, ⟨(some (K.ofNat 17)), none, .mv (.t (K.ofNat 1))⟩, ⟨(some (K.ofNat 18)), none, .bin .gtr (.t (K.ofNat 16)) (.t (K.ofNat 17))⟩, ⟨(some (K.ofNat 19)), none, .mv (.t (K.ofNat 18))⟩, ⟨(some (K.ofNat 20)), (some ((K.ofNat 19), true)), .mv (.t (K.ofNat 0))⟩, ⟨(some (K.ofNat 21)), (some ((K.ofNat 19), true)), .mv (.t (K.ofNat 7))⟩, ⟨(some (K.ofNat 22)), (some ((K.ofNat 19), true)), .iads 1 (.t (K.ofNat 20)) (.t (K.ofNat 21))⟩, ⟨(some (K.ofNat 23)), (some ((K.ofNat 19), true)), .ld (.t (K.ofNat 22))⟩, ⟨(some (K.ofNat 24)), (some ((K.ofNat 19), true)), .mv (.t (K.ofNat 0))⟩, ⟨(some (K.ofNat 25)), (some ((K.ofNat 19), true)), .mv (.t (K.ofNat 7))⟩, ⟨(some (K.ofNat 26)), (some ((K.ofNat 19), true)), .bin .sub (.t (K.ofNat 25)) (.c (.i .i64 (.ofNat 1)))⟩, ⟨(some (K.ofNat 27)), (some ((K.ofNat 19), true)), .iads 1 (.t (K.ofNat 24)) (.t (K.ofNat 26))⟩, ⟨(some (K.ofNat 28)), (some ((K.ofNat 19), true)), .ld (.t (K.ofNat 27))⟩], [], (some ⟨(some (K.ofNat 29)), (some ((K.ofNat 19), true)), .call (.c (.fn (K.ofNat 110) [])) [(.t (K.ofNat 23)), (.t (K.ofNat 28))]⟩), []⟩, ⟨[⟨(some (K.ofNat 30)), none, .pick (.t (K.ofNat 19)) (.t (K.ofNat 29)) (.c (.b false))⟩], [], none, []⟩]
noncomputable def f104_r4 : List Stage := [⟨[⟨(some (K.ofNat 33)), none, .mv (.t (K.ofNat 0))⟩, ⟨(some (K.ofNat 34)), none, .mv (.t (K.ofNat 7))⟩, ⟨(some (K.ofNat 35)), none, .mv (.t (K.ofNat 0))⟩, ⟨(some (K.ofNat 36)), none, .mv (.t (K.ofNat 7))⟩, ⟨(some (K.ofNat 37)), none, .bin .sub (.t (K.ofNat 36)) (.c (.i .i64 (.ofNat 1)))⟩, ⟨(some (K.ofNat 38)), none, .mv (.t (K.ofNat 0))⟩, ⟨(some (K.ofNat 39)), none, .mv (.t (K.ofNat 7))⟩, ⟨(some (K.ofNat 40)), none, .bin .sub (.t (K.ofNat 39)) (.c (.i .i64 (.ofNat 1)))⟩, ⟨(some (K.ofNat 41)), none, .iads 1 (.t (K.ofNat 38)) (.t (K.ofNat 40))⟩, ⟨(some (K.ofNat 42)), none, .ld (.t (K.ofNat 41))⟩, ⟨(some (K.ofNat 43)), none, .mv (.t (K.ofNat 0))⟩, ⟨(some (K.ofNat 44)), none, .mv (.t (K.ofNat 7))⟩, ⟨(some (K.ofNat 45)), none, .iads 1 (.t (K.ofNat 43)) (.t (K.ofNat 44))⟩, ⟨(some (K.ofNat 46)), none, .ld (.t (K.ofNat 45))⟩, ⟨(some (K.ofNat 47)), none, .iads 1 (.t (K.ofNat 33)) (.t (K.ofNat 34))⟩], [], (some ⟨none, none, .st 1 (.t (K.ofNat 47)) (.t (K.ofNat 42))⟩), []⟩, ⟨[⟨(some (K.ofNat 48)), none, .iads 1 (.t (K.ofNat 35)) (.t (K.ofNat 37))⟩], [⟨(some (K.ofNat 35)), none, .mv (.t (K.ofNat 0))⟩, ⟨(some (K.ofNat 36)), none, .mv (.t (K.ofNat 7))⟩, ⟨(some (K.ofNat 37)), none, .bin .sub (.t (K.ofNat 36)) (.c (.i .i64 (.ofNat 1)))⟩], (some ⟨none, none, .st 1 (.t (K.ofNat 48)) (.t (K.ofNat 46))⟩), []⟩, ⟨[], [], none, []⟩]
noncomputable def f104_r5 : List EOper := [⟨(some (K.ofNat 31)), none, .mv (.t (K.ofNat 7))⟩, ⟨(some (K.ofNat 32)), none, .bin .sub (.t (K.ofNat 31)) (.c (.i .i64 (.ofNat 1)))⟩, ⟨(some (K.ofNat 7)), none, .as (.t (K.ofNat 32))⟩]
noncomputable def f104_l0 : EC := (.seq (.seq (.draw f104_r3) (.cond (.t (K.ofNat 30)) .skip (.exit 2))) (.seq (.block 3 (.draw f104_r4)) (.reg f104_r5)))
noncomputable def f104_r6 : List EOper := [⟨(some (K.ofNat 13)), none, .mv (.t (K.ofNat 6))⟩, ⟨(some (K.ofNat 14)), none, .bin .add (.t (K.ofNat 13)) (.c (.i .i64 (.ofNat 1)))⟩, ⟨(some (K.ofNat 6)), none, .as (.t (K.ofNat 14))⟩]
noncomputable def f104_l1 : EC := (.seq (.seq (.reg f104_r1) (.cond (.t (K.ofNat 12)) .skip (.exit 0))) (.seq (.block 1 (.seq (.reg f104_r2) (.block 2 (.loop f104_l0)))) (.reg f104_r6)))
noncomputable def f104_c : EC := (.seq (.reg f104_r0) (.block 0 (.loop f104_l1)))
noncomputable def f104 : EF := ⟨49, [], f104_c, none⟩
noncomputable def f114_r0 : List EOper := [⟨(some (K.ofNat 2)), none, .as (.c (.i .i64 (.ofNat 0)))⟩]
noncomputable def f114_r1 : List EOper := [⟨(some (K.ofNat 3)), none, .mv (.t (K.ofNat 0))⟩, ⟨(some (K.ofNat 4)), none, .bin .geq (.t (K.ofNat 3)) (.c (.i .u64 (.ofNat 4294967296)))⟩]
noncomputable def f114_r2 : List EOper := [⟨(some (K.ofNat 5)), none, .mv (.t (K.ofNat 0))⟩, ⟨(some (K.ofNat 6)), none, .bin .shr (.t (K.ofNat 5)) (.c (.i .u64 (.ofNat 32)))⟩, ⟨(some (K.ofNat 0)), none, .as (.t (K.ofNat 6))⟩]
noncomputable def f114_r3 : List EOper := [⟨(some (K.ofNat 2)), none, .as (.c (.i .i64 (.ofNat 32)))⟩]
noncomputable def f114_r4 : List EOper := [⟨(some (K.ofNat 7)), none, .mv (.t (K.ofNat 0))⟩, ⟨(some (K.ofNat 8)), none, .bin .geq (.t (K.ofNat 7)) (.c (.i .u64 (.ofNat 65536)))⟩]
noncomputable def f114_r5 : List EOper := [⟨(some (K.ofNat 9)), none, .mv (.t (K.ofNat 0))⟩, ⟨(some (K.ofNat 10)), none, .bin .shr (.t (K.ofNat 9)) (.c (.i .u64 (.ofNat 16)))⟩, ⟨(some (K.ofNat 0)), none, .as (.t (K.ofNat 10))⟩]
noncomputable def f114_r6 : List EOper := [⟨(some (K.ofNat 11)), none, .mv (.t (K.ofNat 2))⟩, ⟨(some (K.ofNat 12)), none, .bin .add (.t (K.ofNat 11)) (.c (.i .i64 (.ofNat 16)))⟩, ⟨(some (K.ofNat 2)), none, .as (.t (K.ofNat 12))⟩]
noncomputable def f114_r7 : List EOper := [⟨(some (K.ofNat 13)), none, .mv (.t (K.ofNat 0))⟩, ⟨(some (K.ofNat 14)), none, .bin .geq (.t (K.ofNat 13)) (.c (.i .u64 (.ofNat 256)))⟩]
noncomputable def f114_r8 : List EOper := [⟨(some (K.ofNat 15)), none, .mv (.t (K.ofNat 0))⟩, ⟨(some (K.ofNat 16)), none, .bin .shr (.t (K.ofNat 15)) (.c (.i .u64 (.ofNat 8)))⟩, ⟨(some (K.ofNat 0)), none, .as (.t (K.ofNat 16))⟩]
noncomputable def f114_r9 : List EOper := [⟨(some (K.ofNat 17)), none, .mv (.t (K.ofNat 2))⟩, ⟨(some (K.ofNat 18)), none, .bin .add (.t (K.ofNat 17)) (.c (.i .i64 (.ofNat 8)))⟩, ⟨(some (K.ofNat 2)), none, .as (.t (K.ofNat 18))⟩]
noncomputable def f114_r10 : List EOper := [⟨(some (K.ofNat 19)), none, .mv (.t (K.ofNat 2))⟩, ⟨(some (K.ofNat 20)), none, .mv (.t (K.ofNat 0))⟩, ⟨(some (K.ofNat 21)), none, .conv .u8 (.t (K.ofNat 20))⟩, ⟨(some (K.ofNat 22)), none, .pr .sidx (.c (.s ⟨#[0, 1, 2, 2, 3, 3, 3, 3, 4, 4, 4, 4, 4, 4, 4, 4, 5, 5, 5, 5, 5, 5, 5, 5, 5, 5, 5, 5, 5, 5, 5, 5, 6, 6, 6, 6, 6, 6, 6, 6, 6, 6, 6, 6, 6, 6, 6, 6, 6, 6, 6, 6, 6, 6, 6, 6, 6, 6, 6, 6, 6, 6, 6, 6, 7, 7, 7, 7, 7, 7, 7, 7, 7, 7, 7, 7, 7, 7, 7, 7, 7, 7, 7, 7, 7, 7, 7, 7, 7, 7, 7, 7, 7, 7, 7, 7, 7, 7, 7, 7, 7, 7, 7, 7, 7, 7, 7, 7, 7, 7, 7, 7, 7, 7, 7, 7, 7, 7, 7, 7, 7, 7, 7, 7, 7, 7, 7, 7, 8, 8, 8, 8, 8, 8, 8, 8, 8, 8, 8, 8, 8, 8, 8, 8, 8, 8, 8, 8, 8, 8, 8, 8, 8, 8, 8, 8, 8, 8, 8, 8, 8, 8, 8, 8, 8, 8, 8, 8, 8, 8, 8, 8, 8, 8, 8, 8, 8, 8, 8, 8, 8, 8, 8, 8, 8, 8, 8, 8, 8, 8, 8, 8, 8, 8, 8, 8, 8, 8, 8, 8, 8, 8, 8, 8, 8, 8, 8, 8, 8, 8, 8, 8, 8, 8, 8, 8, 8, 8, 8, 8, 8, 8, 8, 8, 8, 8, 8, 8, 8, 8, 8, 8, 8, 8, 8, 8, 8, 8, 8, 8, 8, 8, 8, 8, 8, 8, 8, 8, 8, 8, 8, 8, 8, 8, 8, 8]⟩)) (.t (K.ofNat 21))⟩, ⟨(some (K.ofNat 23)), none, .conv .i64 (.t (K.ofNat 22))⟩, ⟨(some (K.ofNat 24)), none, .bin .add (.t (K.ofNat 19)) (.t (K.ofNat 23))⟩, ⟨(some (K.ofNat 2)), none, .as (.t (K.ofNat 24))⟩]
noncomputable def f114_c : EC := (.seq (.reg f114_r0) (.seq (.seq (.reg f114_r1) (.cond (.t (K.ofNat 4)) (.seq (.reg f114_r2) (.reg f114_r3)) .skip)) (.seq (.seq (.reg f114_r4) (.cond (.t (K.ofNat 8)) (.seq (.reg f114_r5) (.reg f114_r6)) .skip)) (.seq (.seq (.reg f114_r7) (.cond (.t (K.ofNat 14)) (.seq (.reg f114_r8) (.reg f114_r9)) .skip)) (.seq (.reg f114_r10) .ret)))))
noncomputable def f114 : EF := ⟨25, [.tmp (K.ofNat 2)], f114_c, none⟩
noncomputable def f99_r0 : List EOper := [⟨(some (K.ofNat 2)), none, .as (.c (.i .i64 (.ofNat 0)))⟩]
noncomputable def f99_r1 : List EOper := [⟨(some (K.ofNat 3)), none, .mv (.t (K.ofNat 0))⟩, ⟨(some (K.ofNat 4)), none, .conv .u32 (.t (K.ofNat 3))⟩, ⟨(some (K.ofNat 5)), none, .call (.c (.fn (K.ofNat 113) [])) [(.t (K.ofNat 4))]⟩, ⟨(some (K.ofNat 2)), none, .as (.t (K.ofNat 5))⟩]
noncomputable def f99_r2 : List EOper := [⟨(some (K.ofNat 6)), none, .mv (.t (K.ofNat 0))⟩, ⟨(some (K.ofNat 7)), none, .call (.c (.fn (K.ofNat 114) [])) [(.t (K.ofNat 6))]⟩, ⟨(some (K.ofNat 2)), none, .as (.t (K.ofNat 7))⟩]
noncomputable def f99_c : EC := (.seq (.reg f99_r0) (.seq (.cond (.c (.b false)) (.seq (.reg f99_r1) .ret) .skip) (.seq (.reg f99_r2) .ret)))
noncomputable def f99 : EF := ⟨8, [.tmp (K.ofNat 2)], f99_c, none⟩
noncomputable def f98_r0 : List EOper := [⟨(some (K.ofNat 8)), none, .as (.c (.b true))⟩]
noncomputable def f98_r1 : List EOper := [⟨(some (K.ofNat 9)), none, .as (.c (.b true))⟩]
noncomputable def f98_r2 : List EOper := [⟨(some (K.ofNat 19)), none, .mv (.t (K.ofNat 2))⟩, ⟨(some (K.ofNat 20)), none, .mv (.t (K.ofNat 1))⟩, ⟨(some (K.ofNat 21)), none, .bin .sub (.t (K.ofNat 19)) (.t (K.ofNat 20))⟩, ⟨(some (K.ofNat 10)), none, .as (.t (K.ofNat 21))⟩]
noncomputable def f98_r3 : List EOper := [⟨(some (K.ofNat 22)), none, .mv (.t (K.ofNat 10))⟩, ⟨(some (K.ofNat 23)), none, .bin .leq (.t (K.ofNat 22)) (.c (.i .i64 (.ofNat 12)))⟩]
noncomputable def f98_r4 : List EOper := [⟨(some (K.ofNat 24)), none, .mv (.t (K.ofNat 0))⟩, ⟨(some (K.ofNat 25)), none, .mv (.t (K.ofNat 1))⟩, ⟨(some (K.ofNat 26)), none, .mv (.t (K.ofNat 2))⟩, ⟨(some (K.ofNat 27)), none, .call (.c (.fn (K.ofNat 104) [])) [(.t (K.ofNat 24)), (.t (K.ofNat 25)), (.t (K.ofNat 26))]⟩]
noncomputable def f98_r5 : List EOper := [⟨(some (K.ofNat 28)), none, .mv (.t (K.ofNat 3))⟩, ⟨(some (K.ofNat 29)), none, .bin .eql (.t (K.ofNat 28)) (.c (.i .i64 (.ofNat 0)))⟩]
noncomputable def f98_r6 : List EOper := [⟨(some (K.ofNat 30)), none, .mv (.t (K.ofNat 0))⟩, ⟨(some (K.ofNat 31)), none, .mv (.t (K.ofNat 1))⟩, ⟨(some (K.ofNat 32)), none, .mv (.t (K.ofNat 2))⟩, ⟨(some (K.ofNat 33)), none, .call (.c (.fn (K.ofNat 105) [])) [(.t (K.ofNat 30)), (.t (K.ofNat 31)), (.t (K.ofNat 32))]⟩]
noncomputable def f98_r7 : List EOper := [⟨(some (K.ofNat 34)), none, .mv (.t (K.ofNat 8))⟩, ⟨(some (K.ofNat 35)), none, .not (.t (K.ofNat 34))⟩]
noncomputable def f98_r8 : List EOper := [⟨(some (K.ofNat 36)), none, .mv (.t (K.ofNat 0))⟩, ⟨(some (K.ofNat 37)), none, .mv (.t (K.ofNat 1))⟩, ⟨(some (K.ofNat 38)), none, .mv (.t (K.ofNat 2))⟩, ⟨(some (K.ofNat 39)), none, .call (.c (.fn (K.ofNat 106) [])) [(.t (K.ofNat 36)), (.t (K.ofNat 37)), (.t (K.ofNat 38))]⟩]
noncomputable def f98_r9 : List EOper := [⟨(some (K.ofNat 40)), none, .mv (.t (K.ofNat 3))⟩, ⟨(some (K.ofNat 41)), none, .bin .sub (.t (K.ofNat 40)) (.c (.i .i64 (.ofNat 1)))⟩, ⟨(some (K.ofNat 3)), none, .as (.t (K.ofNat 41))⟩]
noncomputable def f98_r10 : List EOper := [⟨(some (K.ofNat 43)), none, .mv (.t (K.ofNat 0))⟩, ⟨(some (K.ofNat 44)), none, .mv (.t (K.ofNat 1))⟩, ⟨(some (K.ofNat 45)), none, .mv (.t (K.ofNat 2))⟩, ⟨(some (K.ofNat 46)), none, .call (.c (.fn (K.ofNat 107) [])) [(.t (K.ofNat 43)), (.t (K.ofNat 44)), (.t (K.ofNat 45))]⟩, ⟨(some (K.ofNat 42)), none, .mv (.t (K.ofNat 46))⟩, ⟨(some (K.ofNat 47)), none, .ext (.t (K.ofNat 42)) 0⟩, ⟨(some (K.ofNat 48)), none, .ext (.t (K.ofNat 42)) 1⟩, ⟨(some (K.ofNat 11)), none, .as (.t (K.ofNat 47))⟩, ⟨(some (K.ofNat 12)), none, .as (.t (K.ofNat 48))⟩]
noncomputable def f98_r11 : List EOper := [⟨(some (K.ofNat 49)), none, .mv (.t (K.ofNat 12))⟩, ⟨(some (K.ofNat 50)), none, .bin .eql (.t (K.ofNat 49)) (.c (.i .i64 (.ofNat 2)))⟩]
noncomputable def f98_r12 : List EOper := [⟨(some (K.ofNat 51)), none, .mv (.t (K.ofNat 0))⟩, ⟨(some (K.ofNat 52)), none, .mv (.t (K.ofNat 1))⟩, ⟨(some (K.ofNat 53)), none, .mv (.t (K.ofNat 2))⟩, ⟨(some (K.ofNat 54)), none, .call (.c (.fn (K.ofNat 108) [])) [(.t (K.ofNat 51)), (.t (K.ofNat 52)), (.t (K.ofNat 53))]⟩]
noncomputable def f98_r13 : List EOper := [⟨(some (K.ofNat 55)), none, .mv (.t (K.ofNat 2))⟩, ⟨(some (K.ofNat 56)), none, .bin .sub (.t (K.ofNat 55)) (.c (.i .i64 (.ofNat 1)))⟩, ⟨(some (K.ofNat 57)), none, .mv (.t (K.ofNat 11))⟩, ⟨(some (K.ofNat 58)), none, .mv (.t (K.ofNat 1))⟩, ⟨(some (K.ofNat 59)), none, .bin .sub (.t (K.ofNat 57)) (.t (K.ofNat 58))⟩, ⟨(some (K.ofNat 60)), none, .bin .sub (.t (K.ofNat 56)) (.t (K.ofNat 59))⟩, ⟨(some (K.ofNat 11)), none, .as (.t (K.ofNat 60))⟩]
noncomputable def f98_r14 : List EOper := [⟨(some (K.ofNat 12)), none, .as (.c (.i .i64 (.ofNat 1)))⟩]
noncomputable def f98_r15 : List EOper := [⟨(some (K.ofNat 61)), none, .mv (.t (K.ofNat 8))⟩, ⟨(some (K.ofNat 62)), none, .mv (.t (K.ofNat 61))⟩, ⟨(some (K.ofNat 63)), (some ((K.ofNat 62), true)), .mv (.t (K.ofNat 9))⟩, ⟨(some (K.ofNat 64)), none, .pick (.t (K.ofNat 62)) (.t (K.ofNat 63)) (.c (.b false))⟩, ⟨(some (K.ofNat 65)), none, .mv (.t (K.ofNat 64))⟩, ⟨(some (K.ofNat 66)), (some ((K.ofNat 65), true)), .mv (.t (K.ofNat 12))⟩, ⟨(some (K.ofNat 67)), (some ((K.ofNat 65), true)), .bin .eql (.t (K.ofNat 66)) (.c (.i .i64 (.ofNat 1)))⟩, ⟨(some (K.ofNat 68)), none, .pick (.t (K.ofNat 65)) (.t (K.ofNat 67)) (.c (.b false))⟩]
noncomputable def f98_r16 : List EOper := [⟨(some (K.ofNat 69)), none, .mv (.t (K.ofNat 0))⟩, ⟨(some (K.ofNat 70)), none, .mv (.t (K.ofNat 1))⟩, ⟨(some (K.ofNat 71)), none, .mv (.t (K.ofNat 2))⟩, ⟨(some (K.ofNat 72)), none, .call (.c (.fn (K.ofNat 109) [])) [(.t (K.ofNat 69)), (.t (K.ofNat 70)), (.t (K.ofNat 71))]⟩]
noncomputable def f98_r17 : List Stage := [⟨[⟨(some (K.ofNat 73)), none, .mv (.t (K.ofNat 1))⟩, ⟨(some (K.ofNat 74)), none, .bin .gtr (.t (K.ofNat 73)) (.c (.i .i64 (.ofNat 0)))⟩, ⟨(some (K.ofNat 75)), none, .mv (.t (K.ofNat 74))⟩, ⟨(some (K.ofNat 76)), (some ((K.ofNat 75), true)), .mv (.t (K.ofNat 0))⟩, ⟨(some (K.ofNat 77)), (some ((K.ofNat 75), true)), .mv (.t (K.ofNat 1))⟩, ⟨(some (K.ofNat 78)), (some ((K.ofNat 75), true)), .bin .sub (.t (K.ofNat 77)) (.c (.i .i64 (.ofNat 1)))⟩, ⟨(some (K.ofNat 79)), (some ((K.ofNat 75), true)), .iads 1 (.t (K.ofNat 76)) (.t (K.ofNat 78))⟩, ⟨(some (K.ofNat 80)), (some ((K.ofNat 75), true)), .ld (.t (K.ofNat 79))⟩, ⟨(some (K.ofNat 81)), (some ((K.ofNat 75), true)), .mv (.t (K.ofNat 0))⟩, ⟨(some (K.ofNat 82)), (some ((K.ofNat 75), true)), .mv (.t (K.ofNat 11))⟩, ⟨(some (K.ofNat 83)), (some ((K.ofNat 75), true)), .iads 1 (.t (K.ofNat 81)) (.t (K.ofNat 82))⟩, ⟨(some (K.ofNat 84)), (some ((K.ofNat 75), true)), .ld (.t (K.ofNat 83))⟩], [], (some ⟨(some (K.ofNat 85)), (some ((K.ofNat 75), true)), .call (.c (.fn (K.ofNat 110) [])) [(.t (K.ofNat 80)), (.t (K.ofNat 84))]⟩), []⟩, ⟨[⟨(some (K.ofNat 86)), (some ((K.ofNat 75), true)), .not (.t (K.ofNat 85))⟩, ⟨(some (K.ofNat 87)), none, .pick (.t (K.ofNat 75)) (.t (K.ofNat 86)) (.c (.b false))⟩], [], none, []⟩]
noncomputable def f98_r18 : List EOper := [⟨(some (K.ofNat 88)), none, .mv (.t (K.ofNat 0))⟩, ⟨(some (K.ofNat 89)), none, .mv (.t (K.ofNat 1))⟩, ⟨(some (K.ofNat 90)), none, .mv (.t (K.ofNat 2))⟩, ⟨(some (K.ofNat 91)), none, .mv (.t (K.ofNat 11))⟩, ⟨(some (K.ofNat 92)), none, .call (.c (.fn (K.ofNat 111) [])) [(.t (K.ofNat 88)), (.t (K.ofNat 89)), (.t (K.ofNat 90)), (.t (K.ofNat 91))]⟩, ⟨(some (K.ofNat 13)), none, .as (.t (K.ofNat 92))⟩]
noncomputable def f98_r19 : List EOper := [⟨(some (K.ofNat 93)), none, .mv (.t (K.ofNat 13))⟩, ⟨(some (K.ofNat 1)), none, .as (.t (K.ofNat 93))⟩]
noncomputable def f98_r20 : List EOper := [⟨(some (K.ofNat 95)), none, .mv (.t (K.ofNat 0))⟩, ⟨(some (K.ofNat 96)), none, .mv (.t (K.ofNat 1))⟩, ⟨(some (K.ofNat 97)), none, .mv (.t (K.ofNat 2))⟩, ⟨(some (K.ofNat 98)), none, .mv (.t (K.ofNat 11))⟩, ⟨(some (K.ofNat 99)), none, .call (.c (.fn (K.ofNat 112) [])) [(.t (K.ofNat 95)), (.t (K.ofNat 96)), (.t (K.ofNat 97)), (.t (K.ofNat 98))]⟩, ⟨(some (K.ofNat 94)), none, .mv (.t (K.ofNat 99))⟩, ⟨(some (K.ofNat 100)), none, .ext (.t (K.ofNat 94)) 0⟩, ⟨(some (K.ofNat 101)), none, .ext (.t (K.ofNat 94)) 1⟩, ⟨(some (K.ofNat 14)), none, .as (.t (K.ofNat 100))⟩, ⟨(some (K.ofNat 15)), none, .as (.t (K.ofNat 101))⟩]
noncomputable def f98_r21 : List EOper := [⟨(some (K.ofNat 102)), none, .mv (.t (K.ofNat 15))⟩, ⟨(some (K.ofNat 9)), none, .as (.t (K.ofNat 102))⟩]
noncomputable def f98_r22 : List EOper := [⟨(some (K.ofNat 103)), none, .mv (.t (K.ofNat 14))⟩, ⟨(some (K.ofNat 104)), none, .mv (.t (K.ofNat 1))⟩, ⟨(some (K.ofNat 105)), none, .bin .sub (.t (K.ofNat 103)) (.t (K.ofNat 104))⟩, ⟨(some (K.ofNat 106)), none, .mv (.t (K.ofNat 2))⟩, ⟨(some (K.ofNat 107)), none, .mv (.t (K.ofNat 14))⟩, ⟨(some (K.ofNat 108)), none, .bin .sub (.t (K.ofNat 106)) (.t (K.ofNat 107))⟩, ⟨(some (K.ofNat 16)), none, .as (.t (K.ofNat 105))⟩, ⟨(some (K.ofNat 17)), none, .as (.t (K.ofNat 108))⟩]
noncomputable def f98_r23 : List EOper := [⟨(some (K.ofNat 109)), none, .mv (.t (K.ofNat 10))⟩, ⟨(some (K.ofNat 110)), none, .bin .quo (.t (K.ofNat 109)) (.c (.i .i64 (.ofNat 8)))⟩, ⟨(some (K.ofNat 18)), none, .as (.t (K.ofNat 110))⟩]
noncomputable def f98_r24 : List EOper := [⟨(some (K.ofNat 111)), none, .mv (.t (K.ofNat 16))⟩, ⟨(some (K.ofNat 112)), none, .mv (.t (K.ofNat 17))⟩, ⟨(some (K.ofNat 113)), none, .bin .lss (.t (K.ofNat 111)) (.t (K.ofNat 112))⟩]
noncomputable def f98_r25 : List EOper := [⟨(some (K.ofNat 114)), none, .mv (.t (K.ofNat 16))⟩, ⟨(some (K.ofNat 115)), none, .mv (.t (K.ofNat 18))⟩, ⟨(some (K.ofNat 116)), none, .bin .geq (.t (K.ofNat 114)) (.t (K.ofNat 115))⟩, ⟨(some (K.ofNat 8)), none, .as (.t (K.ofNat 116))⟩]
noncomputable def f98_r26 : List EOper := [⟨(some (K.ofNat 117)), none, .mv (.t (K.ofNat 0))⟩, ⟨(some (K.ofNat 118)), none, .mv (.t (K.ofNat 1))⟩, ⟨(some (K.ofNat 119)), none, .mv (.t (K.ofNat 14))⟩, ⟨(some (K.ofNat 120)), none, .mv (.t (K.ofNat 3))⟩, ⟨(some (K.ofNat 121)), none, .call (.c (.fn (K.ofNat 98) [])) [(.t (K.ofNat 117)), (.t (K.ofNat 118)), (.t (K.ofNat 119)), (.t (K.ofNat 120))]⟩]
noncomputable def f98_r27 : List EOper := [⟨(some (K.ofNat 122)), none, .mv (.t (K.ofNat 14))⟩, ⟨(some (K.ofNat 123)), none, .bin .add (.t (K.ofNat 122)) (.c (.i .i64 (.ofNat 1)))⟩, ⟨(some (K.ofNat 1)), none, .as (.t (K.ofNat 123))⟩]
noncomputable def f98_r28 : List EOper := [⟨(some (K.ofNat 124)), none, .mv (.t (K.ofNat 17))⟩, ⟨(some (K.ofNat 125)), none, .mv (.t (K.ofNat 18))⟩, ⟨(some (K.ofNat 126)), none, .bin .geq (.t (K.ofNat 124)) (.t (K.ofNat 125))⟩, ⟨(some (K.ofNat 8)), none, .as (.t (K.ofNat 126))⟩]
noncomputable def f98_r29 : List EOper := [⟨(some (K.ofNat 127)), none, .mv (.t (K.ofNat 0))⟩, ⟨(some (K.ofNat 128)), none, .mv (.t (K.ofNat 14))⟩, ⟨(some (K.ofNat 129)), none, .bin .add (.t (K.ofNat 128)) (.c (.i .i64 (.ofNat 1)))⟩, ⟨(some (K.ofNat 130)), none, .mv (.t (K.ofNat 2))⟩, ⟨(some (K.ofNat 131)), none, .mv (.t (K.ofNat 3))⟩, ⟨(some (K.ofNat 132)), none, .call (.c (.fn (K.ofNat 98) [])) [(.t (K.ofNat 127)), (.t (K.ofNat 129)), (.t (K.ofNat 130)), (.t (K.ofNat 131))]⟩]
noncomputable def f98_r30 : List EOper := [⟨(some (K.ofNat 133)), none, .mv (.t (K.ofNat 14))⟩, ⟨(some (K.ofNat 2)), none, .as (.t (K.ofNat 133))⟩]
noncomputable def f98_l0 : EC := (.block 1 (.seq (.reg f98_r2) (.seq (.seq (.reg f98_r3) (.cond (.t (K.ofNat 23)) (.seq (.reg f98_r4) .ret) .skip)) (.seq (.seq (.reg f98_r5) (.cond (.t (K.ofNat 29)) (.seq (.reg f98_r6) .ret) .skip)) (.seq (.seq (.reg f98_r7) (.cond (.t (K.ofNat 35)) (.seq (.reg f98_r8) (.reg f98_r9)) .skip)) (.seq (.reg f98_r10) (.seq (.seq (.reg f98_r11) (.cond (.t (K.ofNat 50)) (.seq (.reg f98_r12) (.seq (.reg f98_r13) (.reg f98_r14))) .skip)) (.seq (.seq (.reg f98_r15) (.cond (.t (K.ofNat 68)) (.seq (.reg f98_r16) (.cond (.t (K.ofNat 72)) .ret .skip)) .skip)) (.seq (.seq (.draw f98_r17) (.cond (.t (K.ofNat 87)) (.seq (.reg f98_r18) (.seq (.reg f98_r19) (.exit 1))) .skip)) (.seq (.reg f98_r20) (.seq (.reg f98_r21) (.seq (.reg f98_r22) (.seq (.reg f98_r23) (.seq (.reg f98_r24) (.cond (.t (K.ofNat 113)) (.seq (.reg f98_r25) (.seq (.reg f98_r26) (.reg f98_r27))) (.seq (.reg f98_r28) (.seq (.reg f98_r29) (.reg f98_r30))))))))))))))))))
noncomputable def f98_c : EC := (.seq (.reg f98_r0) (.seq (.reg f98_r1) (.block 0 (.loop f98_l0))))
noncomputable def f98 : EF := ⟨134, [], f98_c, none⟩
noncomputable def f86_r0 : List EOper := [⟨(some (K.ofNat 3)), none, .mv (.t (K.ofNat 0))⟩, ⟨(some (K.ofNat 4)), none, .len (.t (K.ofNat 3))⟩, ⟨(some (K.ofNat 2)), none, .as (.t (K.ofNat 4))⟩]
noncomputable def f86_r1 : List EOper := [⟨(some (K.ofNat 5)), none, .mv (.t (K.ofNat 0))⟩, ⟨(some (K.ofNat 6)), none, .mv (.t (K.ofNat 2))⟩, ⟨(some (K.ofNat 7)), none, .mv (.t (K.ofNat 2))⟩, ⟨(some (K.ofNat 8)), none, .conv .u64 (.t (K.ofNat 7))⟩, ⟨(some (K.ofNat 9)), none, .call (.c (.fn (K.ofNat 99) [])) [(.t (K.ofNat 8))]⟩, ⟨(some (K.ofNat 10)), none, .call (.c (.fn (K.ofNat 98) [])) [(.t (K.ofNat 5)), (.c (.i .i64 (.ofNat 0))), (.t (K.ofNat 6)), (.t (K.ofNat 9))]⟩]
noncomputable def f86_c : EC := (.seq (.reg f86_r0) (.reg f86_r1))
noncomputable def f86 : EF := ⟨11, [], f86_c, none⟩
structure CallsSr (fs : T EF) : Prop where
  c_nan : fs.get (K.ofNat 103) = some f103
  c_less : fs.get (K.ofNat 110) = some f110
  c_ins : fs.get (K.ofNat 104) = some f104
  c_l64 : fs.get (K.ofNat 114) = some f114
  c_blen : fs.get (K.ofNat 99) = some f99
  c_pdq : fs.get (K.ofNat 98) = some f98
section
variable {fs : T EF} {h : H} {v : V} {S : List Int}
theorem nan_ret {x : Int} : Ret fs f103 [.i .i64 x] h fun r h' => r = .b false ∧ h' = h := by
  apply ret_of rfl
  show W fs none f103_c _ _ _
  unfold f103_c
  have d : decide (x ≠ x) = false := by simp
  simp (disch := omega) only [f103_r0, f103_r1, f103_rs, w_reg, w_seq, w_ret, seqK_n, retK_r, x_nil, x_mv, x_as, x_bin, kx, rvP_ok, okv_some, ev_t, ev_c, getV_some, putD_some, bin_neq, oGet_s, readRs_nil, readRs_t, retV_1, frame_1, Option.some.injEq, exists_eq_left', getK_set, Nat.reduceEqDiff, ↓reduceIte, d, and_self]
end
end Go.Ev
namespace Go.Ev
open Go Go.RowKit
noncomputable def f85_r0 : List EOper := [⟨(some (K.ofNat 6)), none, .as (.c (.i .u16 (.ofNat 0)))⟩]
noncomputable def f85_r1 : List EOper := [⟨(some (K.ofNat 7)), none, .as (.c (.i .u16 (.ofNat 0)))⟩]
noncomputable def f85_r2 : List EOper := [⟨(some (K.ofNat 9)), none, .mv (.t (K.ofNat 0))⟩, ⟨(some (K.ofNat 8)), none, .as (.t (K.ofNat 9))⟩]
noncomputable def f85_r3 : List EOper := [⟨(some (K.ofNat 10)), none, .mv (.t (K.ofNat 7))⟩, ⟨(some (K.ofNat 11)), none, .mv (.t (K.ofNat 8))⟩, ⟨(some (K.ofNat 12)), none, .call (.c (.fn (K.ofNat 76) [])) [(.t (K.ofNat 10)), (.t (K.ofNat 11))]⟩, ⟨(some (K.ofNat 13)), none, .not (.t (K.ofNat 12))⟩]
noncomputable def f85_r4 : List EOper := [⟨(some (K.ofNat 19)), none, .mv (.t (K.ofNat 7))⟩, ⟨(some (K.ofNat 20)), none, .mv (.t (K.ofNat 8))⟩, ⟨(some (K.ofNat 21)), none, .call (.c (.fn (K.ofNat 83) [])) [(.t (K.ofNat 19)), (.t (K.ofNat 20))]⟩, ⟨(some (K.ofNat 22)), none, .mv (.t (K.ofNat 1))⟩, ⟨(some (K.ofNat 23)), none, .mv (.t (K.ofNat 8))⟩, ⟨(some (K.ofNat 24)), none, .call (.t (K.ofNat 22)) [(.t (K.ofNat 23))]⟩, ⟨(some (K.ofNat 25)), none, .call (.c (.fn (K.ofNat 83) [])) [(.t (K.ofNat 21)), (.t (K.ofNat 24))]⟩, ⟨(some (K.ofNat 7)), none, .as (.t (K.ofNat 25))⟩]
noncomputable def f85_r5 : List EOper := [⟨(some (K.ofNat 14)), none, .mv (.t (K.ofNat 2))⟩, ⟨(some (K.ofNat 15)), none, .mv (.t (K.ofNat 1))⟩, ⟨(some (K.ofNat 16)), none, .mv (.t (K.ofNat 8))⟩, ⟨(some (K.ofNat 17)), none, .call (.t (K.ofNat 15)) [(.t (K.ofNat 16))]⟩, ⟨(some (K.ofNat 18)), none, .call (.t (K.ofNat 14)) [(.t (K.ofNat 17))]⟩, ⟨(some (K.ofNat 8)), none, .as (.t (K.ofNat 18))⟩]
noncomputable def f85_l0 : EC := (.seq (.seq (.reg f85_r3) (.cond (.t (K.ofNat 13)) .skip (.exit 0))) (.seq (.block 1 (.reg f85_r4)) (.reg f85_r5)))
noncomputable def f85_r6 : List EOper := [⟨(some (K.ofNat 26)), none, .mv (.t (K.ofNat 7))⟩, ⟨(some (K.ofNat 6)), none, .as (.t (K.ofNat 26))⟩]
noncomputable def f85_c : EC := (.seq (.reg f85_r0) (.seq (.reg f85_r1) (.seq (.seq (.reg f85_r2) (.block 0 (.loop f85_l0))) (.seq (.reg f85_r6) .ret))))
noncomputable def f85 : EF := ⟨27, [.tmp (K.ofNat 6)], f85_c, none⟩
noncomputable def f69_r0 : List EOper := [⟨(some (K.ofNat 6)), none, .as (.c .sn)⟩]
noncomputable def f69_r1 : List EOper := [⟨(some (K.ofNat 7)), none, .as (.c .sn)⟩]
noncomputable def f69_r2 : List EOper := [⟨(some (K.ofNat 8)), none, .as (.c (.i .u16 (.ofNat 0)))⟩]
noncomputable def f69_r3 : List EOper := [⟨(some (K.ofNat 11)), none, .mv (.t (K.ofNat 0))⟩, ⟨(some (K.ofNat 12)), none, .mv (.c (.i .i64 (.ofNat 0)))⟩]
noncomputable def f69_r4 : List EOper := [⟨(some (K.ofNat 13)), none, .bin .lss (.t (K.ofNat 12)) (.t (K.ofNat 11))⟩]
noncomputable def f69_r5 : List EOper := [⟨(some (K.ofNat 14)), none, .mv (.t (K.ofNat 12))⟩, ⟨(some (K.ofNat 9)), none, .as (.t (K.ofNat 14))⟩]
noncomputable def f69_r6 : List EOper := [⟨(some (K.ofNat 15)), none, .mv (.t (K.ofNat 8))⟩, ⟨(some (K.ofNat 16)), none, .mv (.t (K.ofNat 9))⟩, ⟨(some (K.ofNat 17)), none, .call (.c (.fn (K.ofNat 76) [])) [(.t (K.ofNat 15)), (.t (K.ofNat 16))]⟩]
noncomputable def f69_r7 : List EOper := [⟨(some (K.ofNat 18)), none, .mv (.t (K.ofNat 9))⟩, ⟨(some (K.ofNat 19)), none, .mv (.t (K.ofNat 1))⟩, ⟨(some (K.ofNat 20)), none, .mkbf (K.ofNat 58) [(.t (K.ofNat 19))] []⟩, ⟨(some (K.ofNat 21)), none, .mv (.t (K.ofNat 2))⟩, ⟨(some (K.ofNat 22)), none, .mkbf (K.ofNat 58) [(.t (K.ofNat 21))] []⟩, ⟨(some (K.ofNat 23)), none, .call (.c (.fn (K.ofNat 85) [])) [(.t (K.ofNat 18)), (.t (K.ofNat 20)), (.t (K.ofNat 22))]⟩, ⟨(some (K.ofNat 10)), none, .as (.t (K.ofNat 23))⟩]
noncomputable def f69_r8 : List EOper := [⟨(some (K.ofNat 24)), none, .mv (.t (K.ofNat 8))⟩, ⟨(some (K.ofNat 25)), none, .mv (.t (K.ofNat 10))⟩, ⟨(some (K.ofNat 26)), none, .bin .or (.t (K.ofNat 24)) (.t (K.ofNat 25))⟩, ⟨(some (K.ofNat 8)), none, .as (.t (K.ofNat 26))⟩]
noncomputable def f69_r9 : List EOper := [⟨(some (K.ofNat 27)), none, .mv (.t (K.ofNat 7))⟩, ⟨(some (K.ofNat 28)), none, .mv (.t (K.ofNat 10))⟩, ⟨(some (K.ofNat 29)), none, .call (.c (.fn (K.ofNat 74) [])) [(.t (K.ofNat 28))]⟩, ⟨(some (K.ofNat 30)), none, .bslice 1 1 [(.i .i64 (.ofNat 0))] [(0, 1, (.t (K.ofNat 29)))]⟩, ⟨(some (K.ofNat 31)), none, .app 1 (.t (K.ofNat 27)) (.t (K.ofNat 30))⟩, ⟨(some (K.ofNat 7)), none, .as (.t (K.ofNat 31))⟩]
noncomputable def f69_r10 : List EOper := [⟨(some (K.ofNat 32)), none, .bin .add (.t (K.ofNat 12)) (.c (.i .i64 (.ofNat 1)))⟩, ⟨(some (K.ofNat 12)), none, .mv (.t (K.ofNat 32))⟩]
noncomputable def f69_l0 : EC := (.seq (.reg f69_r4) (.seq (.cond (.t (K.ofNat 13)) .skip (.exit 0)) (.seq (.block 1 (.seq (.reg f69_r5) (.seq (.seq (.reg f69_r6) (.cond (.t (K.ofNat 17)) (.exit 1) .skip)) (.seq (.reg f69_r7) (.seq (.reg f69_r8) (.reg f69_r9)))))) (.reg f69_r10))))
noncomputable def f69_r11 : List EOper := [⟨(some (K.ofNat 33)), none, .mv (.t (K.ofNat 7))⟩, ⟨(some (K.ofNat 34)), none, .call (.c (.fn (K.ofNat 86) [])) [(.t (K.ofNat 33))]⟩]
noncomputable def f69_r12 : List EOper := [⟨(some (K.ofNat 35)), none, .mv (.t (K.ofNat 7))⟩, ⟨(some (K.ofNat 6)), none, .as (.t (K.ofNat 35))⟩]
noncomputable def f69_c : EC := (.seq (.reg f69_r0) (.seq (.reg f69_r1) (.seq (.reg f69_r2) (.seq (.seq (.reg f69_r3) (.block 0 (.loop f69_l0))) (.seq (.reg f69_r11) (.seq (.reg f69_r12) .ret))))))
noncomputable def f69 : EF := ⟨36, [.tmp (K.ofNat 6)], f69_c, none⟩
structure CallsRg (fs : T EF) : Prop extends CallsAa fs, CallsSr fs where
  c58 : fs.get (K.ofNat 58) = some f58
  c74 : fs.get (K.ofNat 74) = some f74
  c85 : fs.get (K.ofNat 85) = some f85
  c86 : fs.get (K.ofNat 86) = some f86
  c92 : fs.get (K.ofNat 92) = some f92
section
variable {fs : T EF} {h : H} {va vb : V} {a b : List (Int × Int)} {n : Nat}
end
end Go.Ev
namespace Go.Ev
open Go Go.RowKit
noncomputable def f46_r0 : List EOper := [⟨(some (K.ofNat 6)), none, .as (.c .sn)⟩]
noncomputable def f46_r1 : List EOper := [⟨(some (K.ofNat 16)), none, .mv (.t (K.ofNat 0))⟩, ⟨(some (K.ofNat 17)), none, .mkslice 1 [(.b false)] (.t (K.ofNat 16))⟩, ⟨(some (K.ofNat 7)), none, .as (.t (K.ofNat 17))⟩]
noncomputable def f46_r2 : List EOper := [⟨(some (K.ofNat 8)), none, .as (.c .sn)⟩]
noncomputable def f46_r3 : List EOper := [⟨(some (K.ofNat 9)), none, .as (.c (.i .i64 (.ofNat 0)))⟩]
noncomputable def f46_r4 : List EOper := [⟨(some (K.ofNat 18)), none, .mv (.t (K.ofNat 9))⟩, ⟨(some (K.ofNat 19)), none, .mv (.t (K.ofNat 0))⟩, ⟨(some (K.ofNat 20)), none, .bin .lss (.t (K.ofNat 18)) (.t (K.ofNat 19))⟩]
noncomputable def f46_r5 : List EOper := [⟨(some (K.ofNat 10)), none, .as (.c (.i .i64 (.ofNat 0)))⟩]
noncomputable def f46_r6 : List EOper := [⟨(some (K.ofNat 23)), none, .mv (.t (K.ofNat 9))⟩, ⟨(some (K.ofNat 11)), none, .as (.t (K.ofNat 23))⟩]
noncomputable def f46_r7 : List EOper := [⟨(some (K.ofNat 24)), none, .mv (.t (K.ofNat 7))⟩, ⟨(some (K.ofNat 25)), none, .mv (.t (K.ofNat 11))⟩, ⟨(some (K.ofNat 26)), none, .iads 1 (.t (K.ofNat 24)) (.t (K.ofNat 25))⟩, ⟨(some (K.ofNat 27)), none, .ld (.t (K.ofNat 26))⟩, ⟨(some (K.ofNat 28)), none, .not (.t (K.ofNat 27))⟩]
noncomputable def f46_r8 : List EOper := [⟨(some (K.ofNat 29)), none, .mv (.t (K.ofNat 7))⟩, ⟨(some (K.ofNat 30)), none, .mv (.t (K.ofNat 11))⟩, ⟨(some (K.ofNat 31)), none, .iads 1 (.t (K.ofNat 29)) (.t (K.ofNat 30))⟩, ⟨none, none, .st 1 (.t (K.ofNat 31)) (.c (.b true))⟩]
noncomputable def f46_r9 : List EOper := [⟨(some (K.ofNat 33)), none, .mv (.t (K.ofNat 1))⟩, ⟨(some (K.ofNat 34)), none, .mv (.t (K.ofNat 11))⟩, ⟨(some (K.ofNat 35)), none, .call (.c (.fn (K.ofNat 64) [])) [(.t (K.ofNat 33)), (.t (K.ofNat 34))]⟩, ⟨(some (K.ofNat 32)), none, .mv (.t (K.ofNat 35))⟩, ⟨(some (K.ofNat 36)), none, .ext (.t (K.ofNat 32)) 0⟩, ⟨(some (K.ofNat 37)), none, .ext (.t (K.ofNat 32)) 1⟩, ⟨(some (K.ofNat 12)), none, .as (.t (K.ofNat 36))⟩, ⟨(some (K.ofNat 13)), none, .as (.t (K.ofNat 37))⟩]
noncomputable def f46_r10 : List EOper := [⟨(some (K.ofNat 38)), none, .mv (.t (K.ofNat 7))⟩, ⟨(some (K.ofNat 39)), none, .mv (.t (K.ofNat 13))⟩, ⟨(some (K.ofNat 40)), none, .iads 1 (.t (K.ofNat 38)) (.t (K.ofNat 39))⟩, ⟨none, none, .st 1 (.t (K.ofNat 40)) (.c (.b true))⟩]
noncomputable def f46_r11 : List EOper := [⟨(some (K.ofNat 42)), none, .mv (.t (K.ofNat 2))⟩, ⟨(some (K.ofNat 43)), none, .mv (.t (K.ofNat 13))⟩, ⟨(some (K.ofNat 44)), none, .call (.c (.fn (K.ofNat 64) [])) [(.t (K.ofNat 42)), (.t (K.ofNat 43))]⟩, ⟨(some (K.ofNat 41)), none, .mv (.t (K.ofNat 44))⟩, ⟨(some (K.ofNat 45)), none, .ext (.t (K.ofNat 41)) 0⟩, ⟨(some (K.ofNat 46)), none, .ext (.t (K.ofNat 41)) 1⟩, ⟨(some (K.ofNat 11)), none, .as (.t (K.ofNat 46))⟩]
noncomputable def f46_r12 : List EOper := [⟨(some (K.ofNat 47)), none, .mv (.t (K.ofNat 10))⟩, ⟨(some (K.ofNat 48)), none, .bin .add (.t (K.ofNat 47)) (.c (.i .i64 (.ofNat 2)))⟩, ⟨(some (K.ofNat 10)), none, .as (.t (K.ofNat 48))⟩]
noncomputable def f46_l0 : EC := (.seq (.seq (.reg f46_r7) (.cond (.t (K.ofNat 28)) .skip (.exit 2))) (.block 3 (.seq (.reg f46_r8) (.seq (.reg f46_r9) (.seq (.reg f46_r10) (.seq (.reg f46_r11) (.reg f46_r12)))))))
noncomputable def f46_r13 : List EOper := [⟨(some (K.ofNat 49)), none, .mv (.t (K.ofNat 10))⟩, ⟨(some (K.ofNat 50)), none, .bin .eql (.t (K.ofNat 49)) (.c (.i .i64 (.ofNat 0)))⟩]
noncomputable def f46_r14 : List EOper := [⟨(some (K.ofNat 14)), none, .as (.c (.i .i64 (.ofNat 0)))⟩]
noncomputable def f46_r15 : List EOper := [⟨(some (K.ofNat 51)), none, .mv (.t (K.ofNat 14))⟩, ⟨(some (K.ofNat 52)), none, .mv (.t (K.ofNat 8))⟩, ⟨(some (K.ofNat 53)), none, .len (.t (K.ofNat 52))⟩, ⟨(some (K.ofNat 54)), none, .bin .lss (.t (K.ofNat 51)) (.t (K.ofNat 53))⟩, ⟨(some (K.ofNat 55)), none, .mv (.t (K.ofNat 54))⟩, ⟨(some (K.ofNat 56)), (some ((K.ofNat 55), true)), .mv (.t (K.ofNat 8))⟩, ⟨(some (K.ofNat 57)), (some ((K.ofNat 55), true)), .mv (.t (K.ofNat 14))⟩, ⟨(some (K.ofNat 58)), (some ((K.ofNat 55), true)), .iads 1 (.t (K.ofNat 56)) (.t (K.ofNat 57))⟩, ⟨(some (K.ofNat 59)), (some ((K.ofNat 55), true)), .ld (.t (K.ofNat 58))⟩, ⟨(some (K.ofNat 60)), (some ((K.ofNat 55), true)), .mv (.t (K.ofNat 10))⟩, ⟨(some (K.ofNat 61)), (some ((K.ofNat 55), true)), .bin .leq (.t (K.ofNat 59)) (.t (K.ofNat 60))⟩, ⟨(some (K.ofNat 62)), none, .pick (.t (K.ofNat 55)) (.t (K.ofNat 61)) (.c (.b false))⟩]
noncomputable def f46_r16 : List EOper := [⟨(some (K.ofNat 63)), none, .mv (.t (K.ofNat 14))⟩, ⟨(some (K.ofNat 64)), none, .bin .add (.t (K.ofNat 63)) (.c (.i .i64 (.ofNat 1)))⟩, ⟨(some (K.ofNat 14)), none, .as (.t (K.ofNat 64))⟩]
noncomputable def f46_l1 : EC := (.seq (.seq (.reg f46_r15) (.cond (.t (K.ofNat 62)) .skip (.exit 4))) (.block 5 (.reg f46_r16)))
noncomputable def f46_r17 : List EOper := [⟨(some (K.ofNat 15)), none, .as (.c .sn)⟩]
noncomputable def f46_r18 : List EOper := [⟨(some (K.ofNat 65)), none, .mv (.t (K.ofNat 15))⟩, ⟨(some (K.ofNat 66)), none, .mv (.t (K.ofNat 8))⟩, ⟨(some (K.ofNat 67)), none, .mv (.t (K.ofNat 14))⟩, ⟨(some (K.ofNat 68)), none, .slice 1 (.t (K.ofNat 66)) none (some (.t (K.ofNat 67))) none⟩, ⟨(some (K.ofNat 69)), none, .app 1 (.t (K.ofNat 65)) (.t (K.ofNat 68))⟩, ⟨(some (K.ofNat 15)), none, .as (.t (K.ofNat 69))⟩]
noncomputable def f46_r19 : List EOper := [⟨(some (K.ofNat 70)), none, .mv (.t (K.ofNat 15))⟩, ⟨(some (K.ofNat 71)), none, .mv (.t (K.ofNat 10))⟩, ⟨(some (K.ofNat 72)), none, .bslice 1 1 [(.i .i64 (.ofNat 0))] [(0, 1, (.t (K.ofNat 71)))]⟩, ⟨(some (K.ofNat 73)), none, .app 1 (.t (K.ofNat 70)) (.t (K.ofNat 72))⟩, ⟨(some (K.ofNat 15)), none, .as (.t (K.ofNat 73))⟩]
noncomputable def f46_r20 : List EOper := [⟨(some (K.ofNat 74)), none, .mv (.t (K.ofNat 15))⟩, ⟨(some (K.ofNat 75)), none, .mv (.t (K.ofNat 8))⟩, ⟨(some (K.ofNat 76)), none, .mv (.t (K.ofNat 14))⟩, ⟨(some (K.ofNat 77)), none, .slice 1 (.t (K.ofNat 75)) (some (.t (K.ofNat 76))) none none⟩, ⟨(some (K.ofNat 78)), none, .app 1 (.t (K.ofNat 74)) (.t (K.ofNat 77))⟩, ⟨(some (K.ofNat 8)), none, .as (.t (K.ofNat 78))⟩]
noncomputable def f46_r21 : List EOper := [⟨(some (K.ofNat 21)), none, .mv (.t (K.ofNat 9))⟩, ⟨(some (K.ofNat 22)), none, .bin .add (.t (K.ofNat 21)) (.c (.i .i64 (.ofNat 1)))⟩, ⟨(some (K.ofNat 9)), none, .as (.t (K.ofNat 22))⟩]
noncomputable def f46_l2 : EC := (.seq (.seq (.reg f46_r4) (.cond (.t (K.ofNat 20)) .skip (.exit 0))) (.seq (.block 1 (.seq (.reg f46_r5) (.seq (.seq (.reg f46_r6) (.block 2 (.loop f46_l0))) (.seq (.seq (.reg f46_r13) (.cond (.t (K.ofNat 50)) (.exit 1) .skip)) (.seq (.reg f46_r14) (.seq (.block 4 (.loop f46_l1)) (.seq (.reg f46_r17) (.seq (.reg f46_r18) (.seq (.reg f46_r19) (.reg f46_r20)))))))))) (.reg f46_r21)))
noncomputable def f46_r22 : List EOper := [⟨(some (K.ofNat 79)), none, .mv (.t (K.ofNat 8))⟩, ⟨(some (K.ofNat 6)), none, .as (.t (K.ofNat 79))⟩]
noncomputable def f46_c : EC := (.seq (.reg f46_r0) (.seq (.reg f46_r1) (.seq (.reg f46_r2) (.seq (.seq (.reg f46_r3) (.block 0 (.loop f46_l2))) (.seq (.reg f46_r22) .ret)))))
noncomputable def f46 : EF := ⟨80, [.tmp (K.ofNat 6)], f46_c, none⟩
section
variable {fs : T EF} {h : H} {va vb : V} {a b : List (Int × Int)} {n : Nat}
end
end Go.Ev
namespace Go.Ev
open Go Go.RowKit
section
variable {A B : Int → Int} {n : Nat}
end
end Go.Ev
namespace Go.Ev
open Go Go.RowKit
noncomputable def f56_r0 : List EOper := [⟨(some (K.ofNat 4)), none, .as (.c (.b false))⟩]
noncomputable def f56_r1 : List EOper := [⟨(some (K.ofNat 9)), none, .mv (.t (K.ofNat 0))⟩, ⟨(some (K.ofNat 10)), none, .len (.t (K.ofNat 9))⟩, ⟨(some (K.ofNat 11)), none, .mv (.c (.i .i64 (.ofNat 0)))⟩]
noncomputable def f56_r2 : List EOper := [⟨(some (K.ofNat 12)), none, .bin .lss (.t (K.ofNat 11)) (.t (K.ofNat 10))⟩]
noncomputable def f56_r3 : List EOper := [⟨(some (K.ofNat 13)), none, .mv (.t (K.ofNat 11))⟩, ⟨(some (K.ofNat 14)), none, .iads 1 (.t (K.ofNat 9)) (.t (K.ofNat 11))⟩, ⟨(some (K.ofNat 15)), none, .ld (.t (K.ofNat 14))⟩, ⟨(some (K.ofNat 5)), none, .as (.t (K.ofNat 13))⟩, ⟨(some (K.ofNat 6)), none, .as (.t (K.ofNat 15))⟩]
noncomputable def f56_r4 : List EOper := [⟨(some (K.ofNat 16)), none, .mv (.t (K.ofNat 0))⟩, ⟨(some (K.ofNat 17)), none, .mv (.t (K.ofNat 5))⟩, ⟨(some (K.ofNat 18)), none, .slice 1 (.t (K.ofNat 16)) none (some (.t (K.ofNat 17))) none⟩, ⟨(some (K.ofNat 19)), none, .len (.t (K.ofNat 18))⟩, ⟨(some (K.ofNat 20)), none, .mv (.c (.i .i64 (.ofNat 0)))⟩]
noncomputable def f56_r5 : List EOper := [⟨(some (K.ofNat 21)), none, .bin .lss (.t (K.ofNat 20)) (.t (K.ofNat 19))⟩]
noncomputable def f56_r6 : List EOper := [⟨(some (K.ofNat 22)), none, .iads 1 (.t (K.ofNat 18)) (.t (K.ofNat 20))⟩, ⟨(some (K.ofNat 23)), none, .ld (.t (K.ofNat 22))⟩, ⟨(some (K.ofNat 8)), none, .as (.t (K.ofNat 23))⟩]
noncomputable def f56_r7 : List EOper := [⟨(some (K.ofNat 24)), none, .mv (.t (K.ofNat 1))⟩, ⟨(some (K.ofNat 25)), none, .mv (.t (K.ofNat 8))⟩, ⟨(some (K.ofNat 26)), none, .mv (.t (K.ofNat 6))⟩, ⟨(some (K.ofNat 27)), none, .call (.c (.fn (K.ofNat 69) [])) [(.t (K.ofNat 24)), (.t (K.ofNat 25)), (.t (K.ofNat 26))]⟩, ⟨(some (K.ofNat 28)), none, .len (.t (K.ofNat 27))⟩, ⟨(some (K.ofNat 29)), none, .bin .gtr (.t (K.ofNat 28)) (.c (.i .i64 (.ofNat 1)))⟩]
noncomputable def f56_r8 : List EOper := [⟨(some (K.ofNat 4)), none, .as (.c (.b false))⟩]
noncomputable def f56_r9 : List EOper := [⟨(some (K.ofNat 30)), none, .bin .add (.t (K.ofNat 20)) (.c (.i .i64 (.ofNat 1)))⟩, ⟨(some (K.ofNat 20)), none, .mv (.t (K.ofNat 30))⟩]
noncomputable def f56_l0 : EC := (.seq (.reg f56_r5) (.seq (.cond (.t (K.ofNat 21)) .skip (.exit 2)) (.seq (.block 3 (.seq (.reg f56_r6) (.seq (.reg f56_r7) (.cond (.t (K.ofNat 29)) (.seq (.reg f56_r8) .ret) .skip)))) (.reg f56_r9))))
noncomputable def f56_r10 : List EOper := [⟨(some (K.ofNat 31)), none, .bin .add (.t (K.ofNat 11)) (.c (.i .i64 (.ofNat 1)))⟩, ⟨(some (K.ofNat 11)), none, .mv (.t (K.ofNat 31))⟩]
noncomputable def f56_l1 : EC := (.seq (.reg f56_r2) (.seq (.cond (.t (K.ofNat 12)) .skip (.exit 0)) (.seq (.block 1 (.seq (.reg f56_r3) (.seq (.reg f56_r4) (.block 2 (.loop f56_l0))))) (.reg f56_r10))))
noncomputable def f56_r11 : List EOper := [⟨(some (K.ofNat 4)), none, .as (.c (.b true))⟩]
noncomputable def f56_c : EC := (.seq (.reg f56_r0) (.seq (.seq (.reg f56_r1) (.block 0 (.loop f56_l1))) (.seq (.reg f56_r11) .ret)))
noncomputable def f56 : EF := ⟨32, [.tmp (K.ofNat 4)], f56_c, none⟩
noncomputable def f20_r0 : List EOper := [⟨(some (K.ofNat 4)), none, .as (.c (.b false))⟩, ⟨(some (K.ofNat 5)), none, .as (.c (.i .i64 (.ofNat 0)))⟩]
noncomputable def f20_r1 : List EOper := [⟨(some (K.ofNat 9)), none, .mv (.t (K.ofNat 0))⟩, ⟨(some (K.ofNat 10)), none, .mv (.t (K.ofNat 1))⟩, ⟨(some (K.ofNat 11)), none, .call (.c (.fn (K.ofNat 51) [])) [(.t (K.ofNat 9)), (.t (K.ofNat 10))]⟩, ⟨(some (K.ofNat 8)), none, .mv (.t (K.ofNat 11))⟩, ⟨(some (K.ofNat 12)), none, .ext (.t (K.ofNat 8)) 0⟩, ⟨(some (K.ofNat 13)), none, .ext (.t (K.ofNat 8)) 1⟩, ⟨(some (K.ofNat 6)), none, .as (.t (K.ofNat 12))⟩, ⟨(some (K.ofNat 7)), none, .as (.t (K.ofNat 13))⟩]
noncomputable def f20_r2 : List EOper := [⟨(some (K.ofNat 14)), none, .mv (.t (K.ofNat 7))⟩, ⟨(some (K.ofNat 15)), none, .bin .neq (.t (K.ofNat 14)) (.c (.i .i64 (.ofNat 0)))⟩]
noncomputable def f20_r3 : List EOper := [⟨(some (K.ofNat 16)), none, .mv (.t (K.ofNat 7))⟩, ⟨(some (K.ofNat 4)), none, .as (.c (.b false))⟩, ⟨(some (K.ofNat 5)), none, .as (.t (K.ofNat 16))⟩]
noncomputable def f20_r4 : List EOper := [⟨(some (K.ofNat 17)), none, .mv (.t (K.ofNat 6))⟩, ⟨(some (K.ofNat 18)), none, .mv (.t (K.ofNat 0))⟩, ⟨(some (K.ofNat 19)), none, .call (.c (.fn (K.ofNat 56) [])) [(.t (K.ofNat 17)), (.t (K.ofNat 18))]⟩, ⟨(some (K.ofNat 4)), none, .as (.t (K.ofNat 19))⟩, ⟨(some (K.ofNat 5)), none, .as (.c (.i .i64 (.ofNat 0)))⟩]
noncomputable def f20_c : EC := (.seq (.reg f20_r0) (.seq (.reg f20_r1) (.seq (.seq (.reg f20_r2) (.cond (.t (K.ofNat 15)) (.seq (.reg f20_r3) .ret) .skip)) (.seq (.reg f20_r4) .ret))))
noncomputable def f20 : EF := ⟨20, [.tmp (K.ofNat 4), .tmp (K.ofNat 5)], f20_c, none⟩
noncomputable def f40_r0 : List EOper := [⟨(some (K.ofNat 4)), none, .as (.c (.b false))⟩]
noncomputable def f40_r1 : List EOper := [⟨(some (K.ofNat 5)), none, .as (.c (.i .i64 (.ofNat 0)))⟩]
noncomputable def f40_r2 : List EOper := [⟨(some (K.ofNat 7)), none, .mv (.t (K.ofNat 5))⟩, ⟨(some (K.ofNat 8)), none, .mv (.t (K.ofNat 1))⟩, ⟨(some (K.ofNat 9)), none, .len (.t (K.ofNat 8))⟩, ⟨(some (K.ofNat 10)), none, .bin .lss (.t (K.ofNat 7)) (.t (K.ofNat 9))⟩]
noncomputable def f40_r3 : List EOper := [⟨(some (K.ofNat 6)), none, .as (.c (.i .i64 (.ofNat 0)))⟩]
noncomputable def f40_r4 : List EOper := [⟨(some (K.ofNat 13)), none, .mv (.t (K.ofNat 6))⟩, ⟨(some (K.ofNat 14)), none, .mv (.t (K.ofNat 5))⟩, ⟨(some (K.ofNat 15)), none, .bin .lss (.t (K.ofNat 13)) (.t (K.ofNat 14))⟩]
noncomputable def f40_r5 : List Stage := [⟨[⟨(some (K.ofNat 18)), none, .mv (.t (K.ofNat 0))⟩, ⟨(some (K.ofNat 19)), none, .mv (.t (K.ofNat 1))⟩, ⟨(some (K.ofNat 20)), none, .mv (.t (K.ofNat 5))⟩, ⟨(some (K.ofNat 21)), none, .iads 1 (.t (K.ofNat 19)) (.t (K.ofNat 20))⟩, ⟨(some (K.ofNat 22)), none, .ld (.t (K.ofNat 21))⟩, ⟨(some (K.ofNat 23)), none, .mv (.t (K.ofNat 1))⟩, ⟨(some (K.ofNat 24)), none, .mv (.t (K.ofNat 6))⟩, ⟨(some (K.ofNat 25)), none, .iads 1 (.t (K.ofNat 23)) (.t (K.ofNat 24))⟩, ⟨(some (K.ofNat 26)), none, .ld (.t (K.ofNat 25))⟩], [], (some ⟨(some (K.ofNat 27)), none, .call (.c (.fn (K.ofNat 46) [])) [(.t (K.ofNat 18)), (.t (K.ofNat 22)), (.t (K.ofNat 26))]⟩), []⟩, ⟨[⟨(some (K.ofNat 28)), none, .len (.t (K.ofNat 27))⟩, ⟨(some (K.ofNat 29)), none, .bin .neq (.t (K.ofNat 28)) (.c (.i .i64 (.ofNat 1)))⟩], [], none, []⟩]
noncomputable def f40_r6 : List EOper := [⟨(some (K.ofNat 4)), none, .as (.c (.b false))⟩]
noncomputable def f40_r7 : List EOper := [⟨(some (K.ofNat 16)), none, .mv (.t (K.ofNat 6))⟩, ⟨(some (K.ofNat 17)), none, .bin .add (.t (K.ofNat 16)) (.c (.i .i64 (.ofNat 1)))⟩, ⟨(some (K.ofNat 6)), none, .as (.t (K.ofNat 17))⟩]
noncomputable def f40_l0 : EC := (.seq (.seq (.reg f40_r4) (.cond (.t (K.ofNat 15)) .skip (.exit 2))) (.seq (.block 3 (.seq (.draw f40_r5) (.cond (.t (K.ofNat 29)) (.seq (.reg f40_r6) .ret) .skip))) (.reg f40_r7)))
noncomputable def f40_r8 : List EOper := [⟨(some (K.ofNat 11)), none, .mv (.t (K.ofNat 5))⟩, ⟨(some (K.ofNat 12)), none, .bin .add (.t (K.ofNat 11)) (.c (.i .i64 (.ofNat 1)))⟩, ⟨(some (K.ofNat 5)), none, .as (.t (K.ofNat 12))⟩]
noncomputable def f40_l1 : EC := (.seq (.seq (.reg f40_r2) (.cond (.t (K.ofNat 10)) .skip (.exit 0))) (.seq (.block 1 (.seq (.reg f40_r3) (.block 2 (.loop f40_l0)))) (.reg f40_r8)))
noncomputable def f40_r9 : List EOper := [⟨(some (K.ofNat 4)), none, .as (.c (.b true))⟩]
noncomputable def f40_c : EC := (.seq (.reg f40_r0) (.seq (.seq (.reg f40_r1) (.block 0 (.loop f40_l1))) (.seq (.reg f40_r9) .ret)))
noncomputable def f40 : EF := ⟨30, [.tmp (K.ofNat 4)], f40_c, none⟩
section
variable {fs : T EF} {h : H} {v : V} {us : List V} {Ls : List (List (Int × Int))} {n : Nat}
structure CallsPf (fs : T EF) : Prop extends CallsRg fs where
  c69 : fs.get (K.ofNat 69) = some f69
end
end Go.Ev
namespace Go.Ev
open Go Go.RowKit
noncomputable def f66_r0 : List EOper := [⟨(some (K.ofNat 2)), none, .as (.c .sn)⟩]
noncomputable def f66_r1 : List EOper := [⟨(some (K.ofNat 9)), none, .mv (.t (K.ofNat 0))⟩, ⟨(some (K.ofNat 10)), none, .bin .sub (.t (K.ofNat 9)) (.c (.i .i64 (.ofNat 1)))⟩, ⟨(some (K.ofNat 3)), none, .as (.t (K.ofNat 10))⟩]
noncomputable def f66_r2 : List EOper := [⟨(some (K.ofNat 11)), none, .mv (.t (K.ofNat 3))⟩, ⟨(some (K.ofNat 12)), none, .mkslice 1 [.sn] (.t (K.ofNat 11))⟩, ⟨(some (K.ofNat 4)), none, .as (.t (K.ofNat 12))⟩]
noncomputable def f66_r3 : List EOper := [⟨(some (K.ofNat 13)), none, .mv (.t (K.ofNat 3))⟩, ⟨(some (K.ofNat 14)), none, .mv (.c (.i .i64 (.ofNat 0)))⟩]
noncomputable def f66_r4 : List EOper := [⟨(some (K.ofNat 15)), none, .bin .lss (.t (K.ofNat 14)) (.t (K.ofNat 13))⟩]
noncomputable def f66_r5 : List EOper := [⟨(some (K.ofNat 16)), none, .mv (.t (K.ofNat 14))⟩, ⟨(some (K.ofNat 5)), none, .as (.t (K.ofNat 16))⟩]
noncomputable def f66_r6 : List EOper := [⟨(some (K.ofNat 17)), none, .mv (.t (K.ofNat 5))⟩, ⟨(some (K.ofNat 18)), none, .mv (.t (K.ofNat 0))⟩, ⟨(some (K.ofNat 19)), none, .bin .sub (.t (K.ofNat 18)) (.c (.i .i64 (.ofNat 1)))⟩, ⟨(some (K.ofNat 20)), none, .build [(.i .i64 (.ofNat 0)), (.i .i64 (.ofNat 0))] [(0, 1, (.t (K.ofNat 17))), (1, 1, (.t (K.ofNat 19)))]⟩, ⟨(some (K.ofNat 6)), none, .alloc 2 [(.i .i64 (.ofNat 0)), (.i .i64 (.ofNat 0))]⟩, ⟨none, none, .st 2 (.t (K.ofNat 6)) (.t (K.ofNat 20))⟩]
noncomputable def f66_r7 : List EOper := [⟨(some (K.ofNat 21)), none, .mv (.t (K.ofNat 5))⟩, ⟨(some (K.ofNat 22)), none, .bin .rem (.t (K.ofNat 21)) (.c (.i .i64 (.ofNat 2)))⟩, ⟨(some (K.ofNat 23)), none, .bin .eql (.t (K.ofNat 22)) (.c (.i .i64 (.ofNat 1)))⟩]
noncomputable def f66_r8 : List EOper := [⟨(some (K.ofNat 24)), none, .ldn 2 (.t (K.ofNat 6))⟩, ⟨(some (K.ofNat 25)), none, .call (.c (.fn (K.ofNat 84) [])) [(.t (K.ofNat 24))]⟩, ⟨none, none, .st 2 (.t (K.ofNat 6)) (.t (K.ofNat 25))⟩]
noncomputable def f66_r9 : List EOper := [⟨(some (K.ofNat 26)), none, .mv (.t (K.ofNat 4))⟩, ⟨(some (K.ofNat 27)), none, .mv (.t (K.ofNat 5))⟩, ⟨(some (K.ofNat 28)), none, .ldn 2 (.t (K.ofNat 6))⟩, ⟨(some (K.ofNat 29)), none, .bslice 1 2 [(.i .i64 (.ofNat 0)), (.i .i64 (.ofNat 0))] [(0, 2, (.t (K.ofNat 28)))]⟩, ⟨(some (K.ofNat 30)), none, .iads 1 (.t (K.ofNat 26)) (.t (K.ofNat 27))⟩, ⟨none, none, .st 1 (.t (K.ofNat 30)) (.t (K.ofNat 29))⟩]
noncomputable def f66_r10 : List EOper := [⟨(some (K.ofNat 7)), none, .as (.c (.i .i64 (.ofNat 1)))⟩]
noncomputable def f66_r11 : List EOper := [⟨(some (K.ofNat 31)), none, .mv (.t (K.ofNat 7))⟩, ⟨(some (K.ofNat 32)), none, .mv (.t (K.ofNat 0))⟩, ⟨(some (K.ofNat 33)), none, .bin .quo (.t (K.ofNat 32)) (.c (.i .i64 (.ofNat 2)))⟩, ⟨(some (K.ofNat 34)), none, .bin .lss (.t (K.ofNat 31)) (.t (K.ofNat 33))⟩]
noncomputable def f66_r12 : List Stage := [⟨[⟨(some (K.ofNat 37)), none, .mv (.t (K.ofNat 5))⟩, ⟨(some (K.ofNat 38)), none, .mv (.t (K.ofNat 7))⟩, ⟨(some (K.ofNat 39)), none, .bin .add (.t (K.ofNat 37)) (.t (K.ofNat 38))⟩, ⟨(some (K.ofNat 40)), none, .mv (.t (K.ofNat 3))⟩, ⟨(some (K.ofNat 41)), none, .bin .rem (.t (K.ofNat 39)) (.t (K.ofNat 40))⟩, ⟨(some (K.ofNat 42)), none, .mv (.t (K.ofNat 5))⟩, ⟨(some (K.ofNat 43)), none, .mv (.t (K.ofNat 7))⟩, ⟨(some (K.ofNat 44)), none, .bin .sub (.t (K.ofNat 42)) (.t (K.ofNat 43))⟩, ⟨(some (K.ofNat 45)), none, .mv (.t (K.ofNat 3))⟩, ⟨(some (K.ofNat 46)), none, .bin .add (.t (K.ofNat 44)) (.t (K.ofNat 45))⟩, ⟨(some (K.ofNat 47)), none, .mv (.t (K.ofNat 3))⟩, ⟨(some (K.ofNat 48)), none, .bin .rem (.t (K.ofNat 46)) (.t (K.ofNat 47))⟩, ⟨(some (K.ofNat 49)), none, .build [(.i .i64 (.ofNat 0)), (.i .i64 (.ofNat 0))] [(0, 1, (.t (K.ofNat 41))), (1, 1, (.t (K.ofNat 48)))]⟩, ⟨(some (K.ofNat 8)), none, .alloc 2 [(.i .i64 (.ofNat 0)), (.i .i64 (.ofNat 0))]⟩], [], (some ⟨none, none, .st 2 (.t (K.ofNat 8)) (.t (K.ofNat 49))⟩), [(K.ofNat 8)]⟩, ⟨[], [], none, []⟩]
noncomputable def f66_r13 : List EOper := [⟨(some (K.ofNat 50)), none, .mv (.t (K.ofNat 7))⟩, ⟨(some (K.ofNat 51)), none, .bin .rem (.t (K.ofNat 50)) (.c (.i .i64 (.ofNat 2)))⟩, ⟨(some (K.ofNat 52)), none, .bin .eql (.t (K.ofNat 51)) (.c (.i .i64 (.ofNat 0)))⟩]
noncomputable def f66_r14 : List EOper := [⟨(some (K.ofNat 53)), none, .ldn 2 (.t (K.ofNat 8))⟩, ⟨(some (K.ofNat 54)), none, .call (.c (.fn (K.ofNat 84) [])) [(.t (K.ofNat 53))]⟩, ⟨none, none, .st 2 (.t (K.ofNat 8)) (.t (K.ofNat 54))⟩]
noncomputable def f66_r15 : List Stage := [⟨[⟨(some (K.ofNat 55)), none, .mv (.t (K.ofNat 4))⟩, ⟨(some (K.ofNat 56)), none, .mv (.t (K.ofNat 5))⟩, ⟨(some (K.ofNat 57)), none, .mv (.t (K.ofNat 4))⟩, ⟨(some (K.ofNat 58)), none, .mv (.t (K.ofNat 5))⟩, ⟨(some (K.ofNat 59)), none, .iads 1 (.t (K.ofNat 57)) (.t (K.ofNat 58))⟩, ⟨(some (K.ofNat 60)), none, .ld (.t (K.ofNat 59))⟩, ⟨(some (K.ofNat 61)), none, .ldn 2 (.t (K.ofNat 8))⟩, ⟨(some (K.ofNat 62)), none, .bslice 1 2 [(.i .i64 (.ofNat 0)), (.i .i64 (.ofNat 0))] [(0, 2, (.t (K.ofNat 61)))]⟩], [], (some ⟨(some (K.ofNat 63)), none, .app 2 (.t (K.ofNat 60)) (.t (K.ofNat 62))⟩), [(K.ofNat 62)]⟩, ⟨[⟨(some (K.ofNat 64)), none, .iads 1 (.t (K.ofNat 55)) (.t (K.ofNat 56))⟩], [⟨(some (K.ofNat 55)), none, .mv (.t (K.ofNat 4))⟩, ⟨(some (K.ofNat 56)), none, .mv (.t (K.ofNat 5))⟩], (some ⟨none, none, .st 1 (.t (K.ofNat 64)) (.t (K.ofNat 63))⟩), []⟩, ⟨[], [], none, []⟩]
noncomputable def f66_r16 : List EOper := [⟨(some (K.ofNat 35)), none, .mv (.t (K.ofNat 7))⟩, ⟨(some (K.ofNat 36)), none, .bin .add (.t (K.ofNat 35)) (.c (.i .i64 (.ofNat 1)))⟩, ⟨(some (K.ofNat 7)), none, .as (.t (K.ofNat 36))⟩]
noncomputable def f66_l0 : EC := (.seq (.seq (.reg f66_r11) (.cond (.t (K.ofNat 34)) .skip (.exit 2))) (.seq (.block 3 (.seq (.draw f66_r12) (.seq (.seq (.reg f66_r13) (.cond (.t (K.ofNat 52)) (.reg f66_r14) .skip)) (.draw f66_r15)))) (.reg f66_r16)))
noncomputable def f66_r17 : List EOper := [⟨(some (K.ofNat 65)), none, .bin .add (.t (K.ofNat 14)) (.c (.i .i64 (.ofNat 1)))⟩, ⟨(some (K.ofNat 14)), none, .mv (.t (K.ofNat 65))⟩]
noncomputable def f66_l1 : EC := (.seq (.reg f66_r4) (.seq (.cond (.t (K.ofNat 15)) .skip (.exit 0)) (.seq (.block 1 (.seq (.reg f66_r5) (.seq (.reg f66_r6) (.seq (.seq (.reg f66_r7) (.cond (.t (K.ofNat 23)) (.reg f66_r8) .skip)) (.seq (.reg f66_r9) (.seq (.reg f66_r10) (.block 2 (.loop f66_l0)))))))) (.reg f66_r17))))
noncomputable def f66_r18 : List EOper := [⟨(some (K.ofNat 66)), none, .mv (.t (K.ofNat 4))⟩, ⟨(some (K.ofNat 2)), none, .as (.t (K.ofNat 66))⟩]
noncomputable def f66_c : EC := (.seq (.reg f66_r0) (.seq (.reg f66_r1) (.seq (.reg f66_r2) (.seq (.seq (.reg f66_r3) (.block 0 (.loop f66_l1))) (.seq (.reg f66_r18) .ret)))))
noncomputable def f66 : EF := ⟨67, [.tmp (K.ofNat 2)], f66_c, none⟩
theorem f66_rs : f66.rs = [.tmp (K.ofNat 2)] := of_eq_true (eq_self _)
noncomputable def f67_r0 : List EOper := [⟨(some (K.ofNat 2)), none, .as (.c .sn)⟩]
noncomputable def f67_r1 : List EOper := [⟨(some (K.ofNat 8)), none, .mv (.t (K.ofNat 0))⟩, ⟨(some (K.ofNat 9)), none, .bin .sub (.t (K.ofNat 8)) (.c (.i .i64 (.ofNat 1)))⟩, ⟨(some (K.ofNat 10)), none, .mkslice 1 [.sn] (.t (K.ofNat 9))⟩, ⟨(some (K.ofNat 3)), none, .as (.t (K.ofNat 10))⟩]
noncomputable def f67_r2 : List EOper := [⟨(some (K.ofNat 4)), none, .as (.c (.i .i64 (.ofNat 1)))⟩]
noncomputable def f67_r3 : List EOper := [⟨(some (K.ofNat 11)), none, .mv (.t (K.ofNat 3))⟩, ⟨(some (K.ofNat 12)), none, .len (.t (K.ofNat 11))⟩, ⟨(some (K.ofNat 13)), none, .mv (.c (.i .i64 (.ofNat 0)))⟩]
noncomputable def f67_r4 : List EOper := [⟨(some (K.ofNat 14)), none, .bin .lss (.t (K.ofNat 13)) (.t (K.ofNat 12))⟩]
noncomputable def f67_r5 : List EOper := [⟨(some (K.ofNat 15)), none, .mv (.t (K.ofNat 13))⟩, ⟨(some (K.ofNat 5)), none, .as (.t (K.ofNat 15))⟩]
noncomputable def f67_r6 : List EOper := [⟨(some (K.ofNat 16)), none, .mv (.t (K.ofNat 0))⟩, ⟨(some (K.ofNat 17)), none, .mv (.c (.i .i64 (.ofNat 0)))⟩]
noncomputable def f67_r7 : List EOper := [⟨(some (K.ofNat 18)), none, .bin .lss (.t (K.ofNat 17)) (.t (K.ofNat 16))⟩]
noncomputable def f67_r8 : List EOper := [⟨(some (K.ofNat 19)), none, .mv (.t (K.ofNat 17))⟩, ⟨(some (K.ofNat 6)), none, .as (.t (K.ofNat 19))⟩]
noncomputable def f67_r9 : List EOper := [⟨(some (K.ofNat 20)), none, .mv (.t (K.ofNat 6))⟩, ⟨(some (K.ofNat 21)), none, .mv (.t (K.ofNat 4))⟩, ⟨(some (K.ofNat 22)), none, .bin .xor (.t (K.ofNat 20)) (.t (K.ofNat 21))⟩, ⟨(some (K.ofNat 7)), none, .as (.t (K.ofNat 22))⟩]
noncomputable def f67_r10 : List EOper := [⟨(some (K.ofNat 23)), none, .mv (.t (K.ofNat 6))⟩, ⟨(some (K.ofNat 24)), none, .mv (.t (K.ofNat 7))⟩, ⟨(some (K.ofNat 25)), none, .bin .lss (.t (K.ofNat 23)) (.t (K.ofNat 24))⟩]
noncomputable def f67_r11 : List EOper := [⟨(some (K.ofNat 26)), none, .mv (.t (K.ofNat 3))⟩, ⟨(some (K.ofNat 27)), none, .mv (.t (K.ofNat 5))⟩, ⟨(some (K.ofNat 28)), none, .mv (.t (K.ofNat 3))⟩, ⟨(some (K.ofNat 29)), none, .mv (.t (K.ofNat 5))⟩, ⟨(some (K.ofNat 30)), none, .iads 1 (.t (K.ofNat 28)) (.t (K.ofNat 29))⟩, ⟨(some (K.ofNat 31)), none, .ld (.t (K.ofNat 30))⟩, ⟨(some (K.ofNat 32)), none, .mv (.t (K.ofNat 6))⟩, ⟨(some (K.ofNat 33)), none, .mv (.t (K.ofNat 7))⟩, ⟨(some (K.ofNat 34)), none, .build [(.i .i64 (.ofNat 0)), (.i .i64 (.ofNat 0))] [(0, 1, (.t (K.ofNat 32))), (1, 1, (.t (K.ofNat 33)))]⟩, ⟨(some (K.ofNat 35)), none, .bslice 1 2 [(.i .i64 (.ofNat 0)), (.i .i64 (.ofNat 0))] [(0, 2, (.t (K.ofNat 34)))]⟩, ⟨(some (K.ofNat 36)), none, .app 2 (.t (K.ofNat 31)) (.t (K.ofNat 35))⟩, ⟨(some (K.ofNat 37)), none, .iads 1 (.t (K.ofNat 26)) (.t (K.ofNat 27))⟩, ⟨none, none, .st 1 (.t (K.ofNat 37)) (.t (K.ofNat 36))⟩]
noncomputable def f67_r12 : List EOper := [⟨(some (K.ofNat 38)), none, .bin .add (.t (K.ofNat 17)) (.c (.i .i64 (.ofNat 1)))⟩, ⟨(some (K.ofNat 17)), none, .mv (.t (K.ofNat 38))⟩]
noncomputable def f67_l0 : EC := (.seq (.reg f67_r7) (.seq (.cond (.t (K.ofNat 18)) .skip (.exit 2)) (.seq (.block 3 (.seq (.reg f67_r8) (.seq (.reg f67_r9) (.seq (.reg f67_r10) (.cond (.t (K.ofNat 25)) (.reg f67_r11) .skip))))) (.reg f67_r12))))
noncomputable def f67_r13 : List EOper := [⟨(some (K.ofNat 39)), none, .mv (.t (K.ofNat 4))⟩, ⟨(some (K.ofNat 40)), none, .bin .mul (.t (K.ofNat 39)) (.c (.i .i64 (.ofNat 2)))⟩, ⟨(some (K.ofNat 4)), none, .as (.t (K.ofNat 40))⟩]
noncomputable def f67_r14 : List EOper := [⟨(some (K.ofNat 41)), none, .mv (.t (K.ofNat 4))⟩, ⟨(some (K.ofNat 42)), none, .mv (.t (K.ofNat 0))⟩, ⟨(some (K.ofNat 43)), none, .bin .geq (.t (K.ofNat 41)) (.t (K.ofNat 42))⟩]
noncomputable def f67_r15 : List EOper := [⟨(some (K.ofNat 44)), none, .mv (.t (K.ofNat 4))⟩, ⟨(some (K.ofNat 45)), none, .mv (.t (K.ofNat 0))⟩, ⟨(some (K.ofNat 46)), none, .bin .or (.t (K.ofNat 45)) (.c (.i .i64 (.ofNat 3)))⟩, ⟨(some (K.ofNat 47)), none, .bin .xor (.t (K.ofNat 44)) (.t (K.ofNat 46))⟩, ⟨(some (K.ofNat 4)), none, .as (.t (K.ofNat 47))⟩]
noncomputable def f67_r16 : List EOper := [⟨(some (K.ofNat 48)), none, .bin .add (.t (K.ofNat 13)) (.c (.i .i64 (.ofNat 1)))⟩, ⟨(some (K.ofNat 13)), none, .mv (.t (K.ofNat 48))⟩]
noncomputable def f67_l1 : EC := (.seq (.reg f67_r4) (.seq (.cond (.t (K.ofNat 14)) .skip (.exit 0)) (.seq (.block 1 (.seq (.reg f67_r5) (.seq (.seq (.reg f67_r6) (.block 2 (.loop f67_l0))) (.seq (.reg f67_r13) (.seq (.reg f67_r14) (.cond (.t (K.ofNat 43)) (.reg f67_r15) .skip)))))) (.reg f67_r16))))
noncomputable def f67_r17 : List EOper := [⟨(some (K.ofNat 49)), none, .mv (.t (K.ofNat 3))⟩, ⟨(some (K.ofNat 2)), none, .as (.t (K.ofNat 49))⟩]
noncomputable def f67_c : EC := (.seq (.reg f67_r0) (.seq (.reg f67_r1) (.seq (.reg f67_r2) (.seq (.seq (.reg f67_r3) (.block 0 (.loop f67_l1))) (.seq (.reg f67_r17) .ret)))))
noncomputable def f67 : EF := ⟨50, [.tmp (K.ofNat 2)], f67_c, none⟩
section
variable {h h' : H} {v u : V} {us : List V} {Ls : List (List (Int × Int))} {L : List (Int × Int)} {b : Nat}
/-- One row is another one. -/
theorem Sld.setr (s : Sld h v us Ls) (hc : HC h) {i : Nat} (hi : i < us.length) (hu : Sk 2 qE h u L) (hsep : ∀ id off n sz, u = .sl id off n sz → NotIn id v) (hdis : ∀ x ∈ us, ∀ id off n sz, u = .sl id off n sz → NotIn id x) :
    ∃ p id m cs', (∀ k h1, iadsV 1 v (.i k (i : Int)) h1 = .ok p h1) ∧ storeV h 1 p u = .ok undefV (h.put id (.cells m cs')) ∧ Sld (h.put id (.cells m cs')) v (us.set i u) (Ls.set i L) ∧ (∃ off n sz, v = .sl id off n sz) ∧ id.nat < h.nx.nat := by
  obtain ⟨p, id, m, cs', b1, b2, b3, ⟨off, n, sz, b4⟩, b5⟩ := s.out.st hi (x := u) (c := u) rfl hu.one hc
  have sk : ∀ j (h1 : j < (us.set i u).length) (h2 : j < (Ls.set i L).length), Sk 2 qE (h.put id (.cells m cs')) (us.set i u)[j] (Ls.set i L)[j] := fun j h1 h2 => by
    have hj : j < us.length := by simpa using h1
    have hj2 : j < Ls.length := by simpa using h2
    rw [List.getElem_set, List.getElem_set]
    by_cases e : i = j
    · rw [if_pos e, if_pos e]; exact hu.put (fun off' n' sz' e' => hsep _ _ _ _ e' _ _ _ b4) _
    · rw [if_neg e, if_neg e]; exact (s.sk j hj hj2).put (fun off' n' sz' e' => s.sep _ (List.getElem_mem hj) _ _ _ _ e' _ _ _ b4) _
  refine ⟨p, id, m, cs', b1, b2, ⟨⟨by simp [s.len], b3, fun j h1 h2 => (sk j h1 h2).srp, fun y hy id' off' n' sz' e' => ?_⟩, sk, fun j j' hj hj' hjj id' off' n' sz' e' => ?_⟩, ⟨off, n, sz, b4⟩, b5⟩
  · rcases List.mem_or_eq_of_mem_set hy with hy | hy
    · exact s.sep y hy _ _ _ _ e'
    · rw [hy] at e'; exact hsep _ _ _ _ e'
  · have hj1 : j < us.length := by simpa using hj
    have hj2 : j' < us.length := by simpa using hj'
    rw [List.getElem_set] at e' ⊢
    by_cases e : i = j
    · rw [if_pos e] at e'
      rw [if_neg (fun e3 => hjj (e.symm.trans e3))]
      exact hdis _ (List.getElem_mem hj2) _ _ _ _ e'
    · rw [if_neg e] at e'
      by_cases e3 : i = j'
      · rw [if_pos e3]
        intro off2 n2 sz2 e2
        exact hdis _ (List.getElem_mem hj1) _ _ _ _ e2 _ _ _ e'
      · rw [if_neg e3]
        exact s.dis j j' hj1 hj2 hjj _ _ _ _ e'
end
theorem bin_quo2 {n : Nat} (hn : n ≤ 1000000) : binV .quo (.i .i64 (n : Int)) (.i .i64 2) = some (.i .i64 ((n / 2 : Nat) : Int)) := by
  show (bif ieq 2 0 then none else some (V.i .i64 (fw .i64 ((n : Int).tdiv 2)))) = _
  rw [show (n : Int).tdiv 2 = ((n / 2 : Nat) : Int) from rfl, fw64 (by omega) (by omega)]; rfl
def g0F (n i : Nat) : Int × Int := if i % 2 = 1 then (((n - 1 : Nat) : Int), (i : Int)) else ((i : Int), ((n - 1 : Nat) : Int))
def gmF (n i p : Nat) : Int × Int := if p % 2 = 0 then ((((i + (n - 1) - p) % (n - 1) : Nat) : Int), (((i + p) % (n - 1) : Nat) : Int)) else ((((i + p) % (n - 1) : Nat) : Int), (((i + (n - 1) - p) % (n - 1) : Nat) : Int))
def tgR (n i k : Nat) : List (Int × Int) := g0F n i :: (List.range k).map fun q => gmF n i (q + 1)
theorem tgR_succ {n i k : Nat} : tgR n i (k + 1) = tgR n i k ++ [gmF n i (k + 1)] := by
  unfold tgR; rw [List.range_succ, List.map_append]; rfl
theorem tgR_len {n i k : Nat} : (tgR n i k).length = k + 1 := by simp [tgR]
def tgF (n i : Nat) : List (Int × Int) := tgR n i (n / 2 - 1)
def tgS (n : Nat) : List (List (Int × Int)) := (List.range (n - 1)).map (tgF n)
section
variable {fs : T EF} {h : H}
def f66_I (h : H) (n : Nat) (i : Nat) (fr : Fr) (h1 : H) : Prop := i ≤ n - 1 ∧ ∃ w xs, Rows h h1 w xs (tbL (tgF n) [] (n - 1) i) ∧ fr.get (K.ofNat 0) = some (.i .i64 (n : Int)) ∧ fr.get (K.ofNat 3) = some (.i .i64 ((n - 1 : Nat) : Int)) ∧ fr.get (K.ofNat 4) = some (w) ∧ fr.get (K.ofNat 13) = some (.i .i64 ((n - 1 : Nat) : Int)) ∧ fr.get (K.ofNat 14) = some (.i .i64 (i : Int))
def f66_J (h : H) (n i : Nat) (k : Nat) (fr : Fr) (h1 : H) : Prop := k ≤ n / 2 - 1 ∧ ∃ w xs, Rows h h1 w xs ((tbL (tgF n) [] (n - 1) i).set i (tgR n i k)) ∧ fr.get (K.ofNat 0) = some (.i .i64 (n : Int)) ∧ fr.get (K.ofNat 3) = some (.i .i64 ((n - 1 : Nat) : Int)) ∧ fr.get (K.ofNat 4) = some (w) ∧ fr.get (K.ofNat 5) = some (.i .i64 (i : Int)) ∧ fr.get (K.ofNat 7) = some (.i .i64 ((k + 1 : Nat) : Int)) ∧ fr.get (K.ofNat 13) = some (.i .i64 ((n - 1 : Nat) : Int)) ∧ fr.get (K.ofNat 14) = some (.i .i64 (i : Int))
theorem f66_ret {n : Nat} (h84 : fs.get (K.ofNat 84) = some f84) (hn : 2 ≤ n ∧ n ≤ 100) (hc : HC h) : Ret fs f66 [.i .i64 (n : Int)] h fun r h' => ∃ xs, Nrp h' r xs (tgS n) ∧ Grow h.nx.nat h h' := by
  apply ret_of rfl
  show W fs none f66_c _ _ _
  unfold f66_c
  have en1 : (n : Int) - 1 = ((n - 1 : Nat) : Int) := by omega
  have hmk := mks_sn (h := h) (k := .i64) (n := n - 1) (by omega)
  have hs0 := Sld.empty (h := h) (n := n - 1)
  have gD := Grow.new (Nat.le_refl h.nx.nat) (.cells ((n - 1) * 1) (rep [.sn] (n - 1)))
  rw [← tb_nil (f := tgF n)] at hs0
  simp (disch := omega) only [f66_r0, f66_r1, f66_r2, f66_r3, w_reg, w_seq, w_block, seqK_n, x_nil, x_mv, x_as, x_bin, x_mks, kx, rvP_ok, okv_some, ev_t, ev_c, getV_some, putD_some, bin_sub, frame_1, of0, of1, getK_set, Nat.reduceEqDiff, ↓reduceIte, en1, hmk, fw64]
  refine W_loop (f66_I h n) (fun i => n - 1 - i) ?_ 0 ⟨by omega, .sl h.nx 0 (n - 1) 1, _, ⟨hs0, (fun _ _ _ _ e => (by cases e; exact Nat.le_refl _)), (fun x hx id off n sz e => (by rw [(List.mem_replicate.1 hx).2] at e; cases e)), gD⟩, by simp (disch := omega) only [getK_set, Nat.reduceEqDiff, ↓reduceIte, and_self, Int.natCast_zero]⟩
  clear hmk hs0 gD
  rintro i fr h1 ⟨hi, w, xs, hR, g0, g3, g4, g13, g14⟩
  have hc1 := hR.gr.hc hc
  unfold f66_l1
  by_cases hlt : i < n - 1
  · have d0 : decide ((i : Int) < ((n - 1 : Nat) : Int)) = true := decide_eq_true (by omega)
    have hst : storeV (h1.new (.cells 2 [.i .i64 0, .i .i64 0])) 2 (.p h1.nx 0) (.agg [.i .i64 (i : Int), .i .i64 ((n - 1 : Nat) : Int)]) = .ok undefV ((h1.new (.cells 2 [.i .i64 0, .i .i64 0])).put h1.nx (.cells 2 [.i .i64 (i : Int), .i .i64 ((n - 1 : Nat) : Int)])) := st2 (a := .i .i64 0) (b := .i .i64 0) get_new_same
    have nx1 := nx_new h1 (.cells 2 [.i .i64 0, .i .i64 0])
    have gB : Grow h1.nx.nat h1 ((h1.new (.cells 2 [.i .i64 0, .i .i64 0])).put h1.nx (.cells 2 [.i .i64 (i : Int), .i .i64 ((n - 1 : Nat) : Int)])) := (Grow.new (Nat.le_refl _) _).trans (Grow.put (Nat.le_refl _) (by omega) _)
    have nx2 : ((h1.new (.cells 2 [.i .i64 0, .i .i64 0])).put h1.nx (.cells 2 [.i .i64 (i : Int), .i .i64 ((n - 1 : Nat) : Int)])).nx.nat = h1.nx.nat + 1 := nx1
    have c7 : ((h1.new (.cells 2 [.i .i64 0, .i .i64 0])).put h1.nx (.cells 2 [.i .i64 (i : Int), .i .i64 ((n - 1 : Nat) : Int)])).get h1.nx = .cells 2 [.i .i64 (i : Int), .i .i64 ((n - 1 : Nat) : Int)] := get_put_same
    have hi2 : binV .rem (.i .i64 (i : Int)) (.i .i64 2) = some (.i .i64 ((i % 2 : Nat) : Int)) := rfl
    -- behind the first game
    have rest : ∀ fr h3, h1.nx.nat < h3.nx.nat → Grow h1.nx.nat h1 h3 → h3.get h1.nx = .cells 2 [.i .i64 (g0F n i).1, .i .i64 (g0F n i).2] → fr.get (K.ofNat 0) = some (.i .i64 (n : Int)) ∧ fr.get (K.ofNat 3) = some (.i .i64 ((n - 1 : Nat) : Int)) ∧ fr.get (K.ofNat 4) = some (w) ∧ fr.get (K.ofNat 5) = some (.i .i64 (i : Int)) ∧ fr.get (K.ofNat 6) = some (.p h1.nx 0) ∧ fr.get (K.ofNat 13) = some (.i .i64 ((n - 1 : Nat) : Int)) ∧ fr.get (K.ofNat 14) = some (.i .i64 (i : Int)) →
        Go.Ev.X fs f66_r9 (seqK (W fs none (.seq (.reg f66_r10) (.block 2 (.loop f66_l0)))) (atK 1 (seqK (W fs none (.reg f66_r17)) (loopK (f66_I h n) (fun i => n - 1 - i) i (atK 0 (seqK (W fs none (.seq (.reg f66_r18) .ret)) (retK f66 fun r h' => ∃ xs, Nrp h' r xs (tgS n) ∧ Grow h.nx.nat h h')))))) .normal) fr h3 := by
      clear g0 g3 g4 g13 g14 fr hst gB nx2 c7 nx1
      rintro fr h3 hnx hG3 c3 ⟨g0, g3, g4, g5, g6, g13, g14⟩
      have hc3 := hG3.hc hc1
      have l3 : loadV h3 (.p h1.nx 0) (many? 2) = .ok (.agg [.i .i64 (g0F n i).1, .i .i64 (g0F n i).2]) h3 := ldn2 c3
      have gC := Grow.new (Nat.le_refl h3.nx.nat) (.cells (1 * 2) [.i .i64 (g0F n i).1, .i .i64 (g0F n i).2])
      have hc4 := gC.hc hc3
      have hsd := (hR.sd.grow hc1 hG3).grow hc3 gC
      have hu : Sk 2 qE (h3.new (.cells (1 * 2) [.i .i64 (g0F n i).1, .i .i64 (g0F n i).2])) (.sl h3.nx 0 1 2) (tgR n i 0) := Sk.lit2
      have vlt : ∀ id off n sz, w = .sl id off n sz → id.nat < h1.nx.nat := hR.sd.out.lt hc1
      have xlt : ∀ x ∈ xs, ∀ id off n sz, x = .sl id off n sz → id.nat < h1.nx.nat := fun x hx => by
        obtain ⟨a, ha, rfl⟩ := List.getElem_of_mem hx
        exact (hR.sd.sk a ha (by rw [← hR.sd.len]; exact ha)).lt hc1
      have hxl : i < xs.length := by rw [hR.sd.len, tb_len]; exact hlt
      obtain ⟨p, id, m, cs', a1, a2, a3, ⟨off, nn, sz, a4⟩, a5⟩ := hsd.setr hc4 hxl hu (fun id off n sz e off' n' sz' e' => by cases e; have := vlt _ _ _ _ e'; omega) (fun x hx id off n sz e off' n' sz' e' => by cases e; have := xlt x hx _ _ _ _ e'; omega)
      have hid := hR.ow _ _ _ _ a4
      have hGa := hR.gr.trans ((hG3.trans (gC.low hG3.nx)).low hR.gr.nx)
      have hGb := hGa.trans (Grow.put hid a5 (.cells m cs'))
      simp (disch := omega) only [f66_r9, f66_r10, w_reg, w_seq, w_block, seqK_n, x_nil, x_mv, x_as, x_bslice, x_ldn, x_st, x_iads, kx, rvP_ok, ev_t, ev_c, getV_some, putD_some, putD_none, oGet_s, of0, of1, getK_set, Nat.reduceEqDiff, ↓reduceIte, cells2, g4, g5, g6, l3, fill_p2, set_p2, cells2, a1, a2]
      refine W_loop (f66_J h n i) (fun k => n / 2 - 1 - k) ?_ 0 ⟨by omega, w, _, ⟨a3, hR.ow, fun x hx => ?_, hGb⟩, by simp (disch := omega) only [getK_set, Nat.reduceEqDiff, ↓reduceIte, g0, g3, g4, g5, g13, g14, and_self, Int.natCast_one, Nat.zero_add]⟩
      · clear g0 g3 g4 g5 g6 g13 g14 fr hsd hu a1 a2 a3 a4 hGa hGb hR vlt xlt hxl l3 c3 hG3 hc3 gC hc4
        rintro k fr h5 ⟨hk, w, xs, hR, g0, g3, g4, g5, g7, g13, g14⟩
        have hc5 := hR.gr.hc hc
        have hq2 : binV .quo (.i .i64 (n : Int)) (.i .i64 2) = some (.i .i64 ((n / 2 : Nat) : Int)) := bin_quo2 (by omega)
        unfold f66_l0
        by_cases hlt2 : k < n / 2 - 1
        · have d1 : decide (((k + 1 : Nat) : Int) < ((n / 2 : Nat) : Int)) = true := decide_eq_true (by omega)
          have hn0 : decide (((n - 1 : Nat) : Int) = 0) = false := decide_eq_false (by omega)
          have hm1 : ((i : Int) + ((k + 1 : Nat) : Int)).tmod ((n - 1 : Nat) : Int) = (((i + (k + 1)) % (n - 1) : Nat) : Int) := rfl
          have hsb : (i : Int) - ((k + 1 : Nat) : Int) + ((n - 1 : Nat) : Int) = ((i + (n - 1) - (k + 1) : Nat) : Int) := by omega
          have hm2 : (((i + (n - 1) - (k + 1) : Nat) : Int)).tmod ((n - 1 : Nat) : Int) = (((i + (n - 1) - (k + 1)) % (n - 1) : Nat) : Int) := rfl
          have hm3 : binV .rem (.i .i64 ((k + 1 : Nat) : Int)) (.i .i64 2) = some (.i .i64 (((k + 1) % 2 : Nat) : Int)) := rfl
          have ek : ((k + 1 : Nat) : Int) + 1 = ((k + 1 + 1 : Nat) : Int) := by omega
          have hst : ∀ a b, storeV (h5.new (.cells 2 [.i .i64 0, .i .i64 0])) 2 (.p h5.nx 0) (.agg [.i .i64 a, .i .i64 b]) = .ok undefV ((h5.new (.cells 2 [.i .i64 0, .i .i64 0])).put h5.nx (.cells 2 [.i .i64 a, .i .i64 b])) := fun a b => st2 (a := .i .i64 0) (b := .i .i64 0) get_new_same
          have nx1 := nx_new h5 (.cells 2 [.i .i64 0, .i .i64 0])
          have hsu := tgR_succ (n := n) (i := i) (k := k)
          have rest2 : ∀ fr h6, h5.nx.nat < h6.nx.nat → Grow h5.nx.nat h5 h6 → h6.get h5.nx = .cells 2 [.i .i64 (gmF n i (k + 1)).1, .i .i64 (gmF n i (k + 1)).2] → fr.get (K.ofNat 0) = some (.i .i64 (n : Int)) ∧ fr.get (K.ofNat 3) = some (.i .i64 ((n - 1 : Nat) : Int)) ∧ fr.get (K.ofNat 4) = some (w) ∧ fr.get (K.ofNat 5) = some (.i .i64 (i : Int)) ∧ fr.get (K.ofNat 7) = some (.i .i64 ((k + 1 : Nat) : Int)) ∧ fr.get (K.ofNat 8) = some (.p h5.nx 0) ∧ fr.get (K.ofNat 13) = some (.i .i64 ((n - 1 : Nat) : Int)) ∧ fr.get (K.ofNat 14) = some (.i .i64 (i : Int)) →
              XD fs f66_r15 (atK 3 (seqK (W fs none (.reg f66_r16)) (loopK (f66_J h n i) (fun k => n / 2 - 1 - k) k (atK 2 (atK 1 (seqK (W fs none (.reg f66_r17)) (loopK (f66_I h n) (fun i => n - 1 - i) i (atK 0 (seqK (W fs none (.seq (.reg f66_r18) .ret)) (retK f66 fun r h' => ∃ xs, Nrp h' r xs (tgS n) ∧ Grow h.nx.nat h h'))))))))) .normal) fr h6 := by
            clear g0 g3 g4 g5 g7 g13 g14 fr hst nx1
            rintro fr h6 hnx hG6 c6 ⟨g0, g3, g4, g5, g7, g8, g13, g14⟩
            have hc6 := hG6.hc hc5
            have l6 : loadV h6 (.p h5.nx 0) (many? 2) = .ok (.agg [.i .i64 (gmF n i (k + 1)).1, .i .i64 (gmF n i (k + 1)).2]) h6 := ldn2 c6
            have hQl : ((tbL (tgF n) [] (n - 1) i).set i (tgR n i k)).length = n - 1 := by rw [List.length_set, tb_len]
            have hQi : ((tbL (tgF n) [] (n - 1) i).set i (tgR n i k))[i]'(by rw [hQl]; exact hlt) = tgR n i k := List.getElem_set_self _
            have hsd := hR.sd.grow hc5 hG6
            obtain ⟨u', h7, p, id, m, cs', a1, b1, b2, b3, b4, b5, b6, _⟩ := hsd.row hR.ow hR.ox (Nat.le_trans hR.gr.nx hG6.nx) hc6 (i := i) (by rw [hsd.len, hQl]; exact hlt) (by rw [hQl]; exact hlt) (x := gmF n i (k + 1)) (by rw [hQi, tgR_len]; omega)
            rw [hQi, List.set_set, ← hsu] at b4
            have hwb := hsd.out.sr.beq
            simp (disch := omega) only [f66_r15, true_and, x_app, kg, xg_nil, xg_mv, xg_ld, xg_ldn, xg_iads, xg_bslice, xd_cons, stK_s, stay_nil, rvP_ok, ev_t, getV_some, putD_some, oGet_s, of0, Option.some.injEq, exists_eq_left', getK_set, Nat.reduceEqDiff, ↓reduceIte, cells2, g4, g5, g8, b1, b2, l6, fill_p2, set_p2, cells2, hc6.dead]
            refine ⟨fresh_one (n := 1) (sz := 2) (by simp (disch := omega) only [getK_set, ↓reduceIte]), ?_⟩
            simp (disch := omega) only [f66_r16, w_reg, seqK_n, atK_n, loopK_n, true_and, x_nil, x_mv, x_as, x_st, x_bin, kx, kg, xg_nil, xg_iads, xd_cons, fresh_nil, stK_n, stK_s, stay_nil, stay_cons, stay_mv, beq_i, rvP_ok, okv_some, ev_t, ev_c, getV_some, putD_some, putD_none, bin_add, of1, getK_set, Nat.reduceEqDiff, ↓reduceIte, g4, g5, g7, a1, b1, b3, hwb, beq_i, ek, fw64]
            exact ⟨k + 1, by omega, by omega, w, _, ⟨b4, hR.ow, b5, hR.gr.trans ((hG6.low hR.gr.nx).trans b6)⟩, by simp (disch := omega) only [getK_set, Nat.reduceEqDiff, ↓reduceIte, g0, g3, g4, g5, g13, g14, and_self]⟩
          have hrem2 := hm3
          simp (disch := omega) only [f66_r11, f66_r12, w_skip, w_reg, w_draw, w_seq, w_cond, w_block, seqK_n, ckB_b, cbB_b, true_and, x_nil, x_mv, x_st, x_bin, kx, kg, xg_nil, xg_mv, xg_build, xg_bin, xd_cons, fresh_nil, stK_n, stK_s, stay_nil, rvP_ok, okv_some, ev_t, ev_c, getV_some, putD_some, putD_none, bin_add, bin_sub, bin_lss, bin_rem, oGet_s, cells1_i, of0, of2, getK_set, Nat.reduceEqDiff, ↓reduceIte, xg_alloc, fill_2, set_2, g0, g3, g5, g7, hq2, d1, hm1, hsb, hm2, fill_2, set_2, hc5.dead, hst, fw64]
          refine ⟨fresh_p (by simp (disch := omega) only [getK_set, ↓reduceIte]), ?_⟩
          generalize hA : (((i + (k + 1)) % (n - 1) : Nat) : Int) = A at *
          generalize hBe : (((i + (n - 1) - (k + 1)) % (n - 1) : Nat) : Int) = B at *
          have gB : ∀ x, Grow h5.nx.nat h5 ((h5.new (.cells 2 [.i .i64 0, .i .i64 0])).put h5.nx x) := fun x => (Grow.new (Nat.le_refl _) _).trans (Grow.put (Nat.le_refl _) (by omega) _)
          have nx2 : ∀ x, ((h5.new (.cells 2 [.i .i64 0, .i .i64 0])).put h5.nx x).nx.nat = h5.nx.nat + 1 := fun _ => nx1
          by_cases e2 : (k + 1) % 2 = 0
          · have d2 : decide ((((k + 1) % 2 : Nat) : Int) = 0) = true := decide_eq_true (by omega)
            have eg : gmF n i (k + 1) = (B, A) := by unfold gmF; rw [if_pos e2, hA, hBe]
            simp (disch := omega) only [f66_r13, w_reg, w_cond, seqK_n, ckB_b, cbB_b, true_and, x_nil, x_mv, x_bin, kx, rvP_ok, okv_some, ev_t, ev_c, getV_some, putD_some, bin_eql, of0, of2, getK_set, Nat.reduceEqDiff, ↓reduceIte, g7, hm3, d2]
            have hst2 := hst A B
            have c7 : ((h5.new (.cells 2 [.i .i64 0, .i .i64 0])).put h5.nx (.cells 2 [.i .i64 A, .i .i64 B])).get h5.nx = .cells 2 [.i .i64 A, .i .i64 B] := get_put_same
            have gB2 := gB (.cells 2 [.i .i64 A, .i .i64 B])
            have nx3 := nx2 (.cells 2 [.i .i64 A, .i .i64 B])
            generalize (h5.new (.cells 2 [.i .i64 0, .i .i64 0])).put h5.nx (.cells 2 [.i .i64 A, .i .i64 B]) = h6 at *
            have l6 : loadV h6 (.p h5.nx 0) (many? 2) = .ok (.agg [.i .i64 A, .i .i64 B]) h6 := ldn2 c7
            simp (disch := omega) only [f66_r14, x_ldn, x_call, kx, rvP_ok, ev_t, ev_c, evs_nil, evs_cons, getV_some, putD_some, getK_set, Nat.reduceEqDiff, ↓reduceIte, l6]
            refine (callP_0 (ef := f84) h84 rfl (f84_ret (x := (A, B)) (gB2.hc hc5))).mono ?_
            rintro r h7 ⟨rfl, gC⟩
            have c8 : h7.get h5.nx = .cells 2 [.i .i64 A, .i .i64 B] := (gC.old _ (by omega)).trans c7
            have hst3 : storeV h7 2 (.p h5.nx 0) (.agg [.i .i64 B, .i .i64 A]) = .ok undefV (h7.put h5.nx (.cells 2 [.i .i64 B, .i .i64 A])) := st2 c8
            have hlt3 : h5.nx.nat < h7.nx.nat := by have := gC.nx; omega
            simp (disch := omega) only [w_draw, seqK_n, x_nil, x_st, kx, rvP_ok, ev_t, getV_some, putD_some, putD_none, getK_set, Nat.reduceEqDiff, ↓reduceIte, pZ, hst3]
            exact rest2 _ _ hlt3 ((gB2.trans (gC.low gB2.nx)).trans (Grow.put (Nat.le_refl _) hlt3 _)) (by rw [eg]; exact get_put_same) (by simp (disch := omega) only [getK_set, Nat.reduceEqDiff, ↓reduceIte, g0, g3, g4, g5, g7, g13, g14, and_self])
          · have d2 : decide ((((k + 1) % 2 : Nat) : Int) = 0) = false := decide_eq_false (by omega)
            have eg : gmF n i (k + 1) = (A, B) := by unfold gmF; rw [if_neg e2, hA, hBe]
            simp (disch := omega) only [f66_r13, w_skip, w_draw, w_cond, seqK_n, ckB_b, cbB_b, true_and, x_nil, x_mv, x_bin, kx, rvP_ok, okv_some, ev_t, ev_c, getV_some, putD_some, bin_eql, of0, of2, getK_set, Nat.reduceEqDiff, ↓reduceIte, Bool.false_eq_true, g7, hm3, d2]
            exact rest2 _ _ (by rw [nx2]; omega) (gB _) (by rw [eg]; exact get_put_same) (by simp (disch := omega) only [getK_set, Nat.reduceEqDiff, ↓reduceIte, g0, g3, g4, g5, g7, g13, g14, and_self])
        · have d1 : decide (((k + 1 : Nat) : Int) < ((n / 2 : Nat) : Int)) = false := decide_eq_false (by omega)
          have ek : k = n / 2 - 1 := by omega
          rw [ek, show tgR n i (n / 2 - 1) = tgF n i from rfl, tb_set] at hR
          simp (disch := omega) only [f66_r11, f66_r17, w_reg, w_seq, w_cond, w_exit, seqK_n, seqK_e, atK_n, atK_e, loopK_n, loopK_e, ckB_b, cbB_b, true_and, x_nil, x_mv, x_bin, kx, rvP_ok, okv_some, ev_t, ev_c, getV_some, putD_some, bin_add, bin_lss, of1, of2, getK_set, Nat.reduceEqDiff, ↓reduceIte, Bool.false_eq_true, g0, g7, g14, hq2, d1, fw64]
          exact ⟨i + 1, by omega, by omega, w, xs, hR, by simp (disch := omega) only [getK_set, Nat.reduceEqDiff, ↓reduceIte, g0, g3, g4, g13, and_self, Int.natCast_add, Int.natCast_one]⟩
      · rcases List.mem_or_eq_of_mem_set hx with hx | hx
        · exact hR.ox x hx
        · rw [hx]; intro _ _ _ _ e; cases e; have := hGa.nx; have := hR.gr.nx; have := hG3.nx; omega
    by_cases e2 : i % 2 = 1
    · have d1 : decide (((i % 2 : Nat) : Int) = 1) = true := decide_eq_true (by omega)
      have eg : g0F n i = (((n - 1 : Nat) : Int), (i : Int)) := if_pos e2
      simp (disch := omega) only [f66_r4, f66_r5, f66_r6, f66_r7, w_skip, w_reg, w_seq, w_cond, w_block, seqK_n, ckB_b, cbB_b, true_and, x_nil, x_mv, x_as, x_alloc, x_build, x_st, x_bin, kx, rvP_ok, okv_some, ev_t, ev_c, getV_some, putD_some, putD_none, bin_sub, bin_eql, bin_lss, oGet_s, cells1_i, of0, of1, of2, getK_set, Nat.reduceEqDiff, ↓reduceIte, fill_2, set_2, g0, g13, g14, d0, en1, fill_2, set_2, hst, hi2, d1, fw64]
      generalize (h1.new (.cells 2 [.i .i64 0, .i .i64 0])).put h1.nx (.cells 2 [.i .i64 (i : Int), .i .i64 ((n - 1 : Nat) : Int)]) = h2 at *
      have hc2 := gB.hc hc1
      have l2 : loadV h2 (.p h1.nx 0) (many? 2) = .ok (.agg [.i .i64 (i : Int), .i .i64 ((n - 1 : Nat) : Int)]) h2 := ldn2 c7
      simp (disch := omega) only [f66_r8, x_ldn, x_call, kx, rvP_ok, ev_t, ev_c, evs_nil, evs_cons, getV_some, putD_some, getK_set, Nat.reduceEqDiff, ↓reduceIte, l2]
      refine (callP_0 (ef := f84) h84 rfl (f84_ret (x := ((i : Int), ((n - 1 : Nat) : Int))) hc2)).mono ?_
      rintro r h3 ⟨rfl, gC⟩
      have c8 : h3.get h1.nx = .cells 2 [.i .i64 (i : Int), .i .i64 ((n - 1 : Nat) : Int)] := (gC.old _ (by omega)).trans c7
      have hst3 : storeV h3 2 (.p h1.nx 0) (.agg [.i .i64 ((n - 1 : Nat) : Int), .i .i64 (i : Int)]) = .ok undefV (h3.put h1.nx (.cells 2 [.i .i64 ((n - 1 : Nat) : Int), .i .i64 (i : Int)])) := st2 c8
      have hlt3 : h1.nx.nat < h3.nx.nat := by have := gC.nx; omega
      simp (disch := omega) only [w_reg, w_seq, seqK_n, x_nil, x_st, kx, rvP_ok, ev_t, getV_some, putD_some, putD_none, getK_set, Nat.reduceEqDiff, ↓reduceIte, pZ, hst3]
      exact rest _ _ hlt3 ((gB.trans (gC.low gB.nx)).trans (Grow.put (Nat.le_refl _) hlt3 _)) (by rw [eg]; exact get_put_same) (by simp (disch := omega) only [getK_set, Nat.reduceEqDiff, ↓reduceIte, g0, g3, g4, g13, g14, and_self])
    · have d1 : decide (((i % 2 : Nat) : Int) = 1) = false := decide_eq_false (by omega)
      have eg : g0F n i = ((i : Int), ((n - 1 : Nat) : Int)) := if_neg e2
      simp (disch := omega) only [f66_r4, f66_r5, f66_r6, f66_r7, w_skip, w_reg, w_seq, w_cond, w_block, seqK_n, ckB_b, cbB_b, true_and, x_nil, x_mv, x_as, x_alloc, x_build, x_st, x_bin, kx, rvP_ok, okv_some, ev_t, ev_c, getV_some, putD_some, putD_none, bin_sub, bin_eql, bin_lss, oGet_s, cells1_i, of0, of1, of2, getK_set, Nat.reduceEqDiff, ↓reduceIte, Bool.false_eq_true, fill_2, set_2, g0, g13, g14, d0, en1, fill_2, set_2, hst, hi2, d1, fw64]
      exact rest _ _ (by omega) gB (by rw [eg]; exact c7) (by simp (disch := omega) only [getK_set, Nat.reduceEqDiff, ↓reduceIte, g0, g3, g4, g13, g14, and_self])
  · have d0 : decide ((i : Int) < ((n - 1 : Nat) : Int)) = false := decide_eq_false (by omega)
    have ei : i = n - 1 := by omega
    rw [ei, tb_all] at hR
    simp (disch := omega) only [f66_r4, f66_r18, f66_rs, w_reg, w_seq, w_cond, w_exit, w_ret, seqK_n, seqK_e, atK_e, loopK_e, ckB_b, cbB_b, true_and, retK_r, x_nil, x_mv, x_as, x_bin, kx, rvP_ok, okv_some, ev_t, getV_some, putD_some, bin_lss, oGet_s, readRs_nil, readRs_t, retV_1, Option.some.injEq, exists_eq_left', getK_set, Nat.reduceEqDiff, ↓reduceIte, Bool.false_eq_true, g4, g13, g14, d0]
    exact ⟨xs, hR.sd.nrp, hR.gr⟩
end
section
variable {fs : T EF} {h : H}
end
end Go.Ev
namespace Go.Ev
open Go Go.RowKit
noncomputable def f45_r0 : List EOper := [⟨(some (K.ofNat 4)), none, .as (.c (.b false))⟩]
noncomputable def f45_r1 : List EOper := [⟨(some (K.ofNat 5)), none, .as (.c (.i .i64 (.ofNat 0)))⟩]
noncomputable def f45_r2 : List EOper := [⟨(some (K.ofNat 6)), none, .as (.c (.i .i64 (.ofNat 0)))⟩]
noncomputable def f45_r3 : List EOper := [⟨(some (K.ofNat 9)), none, .mv (.t (K.ofNat 6))⟩, ⟨(some (K.ofNat 10)), none, .mv (.t (K.ofNat 1))⟩, ⟨(some (K.ofNat 11)), none, .len (.t (K.ofNat 10))⟩, ⟨(some (K.ofNat 12)), none, .bin .lss (.t (K.ofNat 9)) (.t (K.ofNat 11))⟩]
noncomputable def f45_r4 : List Stage := [⟨[⟨(some (K.ofNat 15)), none, .mv (.t (K.ofNat 1))⟩, ⟨(some (K.ofNat 16)), none, .mv (.t (K.ofNat 6))⟩, ⟨(some (K.ofNat 17)), none, .iads 2 (.t (K.ofNat 15)) (.t (K.ofNat 16))⟩, ⟨(some (K.ofNat 18)), none, .iadr 2 1 (.t (K.ofNat 17)) (.c (.i .i64 (.ofNat 0)))⟩, ⟨(some (K.ofNat 19)), none, .ld (.t (K.ofNat 18))⟩, ⟨(some (K.ofNat 20)), none, .mv (.t (K.ofNat 1))⟩, ⟨(some (K.ofNat 21)), none, .mv (.t (K.ofNat 6))⟩, ⟨(some (K.ofNat 22)), none, .iads 2 (.t (K.ofNat 20)) (.t (K.ofNat 21))⟩, ⟨(some (K.ofNat 23)), none, .iadr 2 1 (.t (K.ofNat 22)) (.c (.i .i64 (.ofNat 1)))⟩, ⟨(some (K.ofNat 24)), none, .ld (.t (K.ofNat 23))⟩], [], (some ⟨(some (K.ofNat 7)), none, .as (.t (K.ofNat 19))⟩), []⟩, ⟨[], [⟨(some (K.ofNat 20)), none, .mv (.t (K.ofNat 1))⟩, ⟨(some (K.ofNat 21)), none, .mv (.t (K.ofNat 6))⟩, ⟨(some (K.ofNat 22)), none, .iads 2 (.t (K.ofNat 20)) (.t (K.ofNat 21))⟩, ⟨(some (K.ofNat 23)), none, .iadr 2 1 (.t (K.ofNat 22)) (.c (.i .i64 (.ofNat 1)))⟩, ⟨(some (K.ofNat 24)), none, .ld (.t (K.ofNat 23))⟩], (some ⟨(some (K.ofNat 8)), none, .as (.t (K.ofNat 24))⟩), []⟩, ⟨[], [], none, []⟩]
noncomputable def f45_r5 : List EOper := [⟨(some (K.ofNat 25)), none, .mv (.t (K.ofNat 7))⟩, ⟨(some (K.ofNat 26)), none, .bin .lss (.t (K.ofNat 25)) (.c (.i .i64 (.ofNat 0)))⟩, ⟨(some (K.ofNat 27)), none, .mv (.t (K.ofNat 26))⟩, ⟨(some (K.ofNat 28)), (some ((K.ofNat 27), false)), .mv (.t (K.ofNat 8))⟩, ⟨(some (K.ofNat 29)), (some ((K.ofNat 27), false)), .bin .lss (.t (K.ofNat 28)) (.c (.i .i64 (.ofNat 0)))⟩, ⟨(some (K.ofNat 30)), none, .pick (.t (K.ofNat 27)) (.c (.b true)) (.t (K.ofNat 29))⟩, ⟨(some (K.ofNat 31)), none, .mv (.t (K.ofNat 30))⟩, ⟨(some (K.ofNat 32)), (some ((K.ofNat 31), false)), .mv (.t (K.ofNat 7))⟩, ⟨(some (K.ofNat 33)), (some ((K.ofNat 31), false)), .mv (.t (K.ofNat 0))⟩, ⟨(some (K.ofNat 34)), (some ((K.ofNat 31), false)), .bin .geq (.t (K.ofNat 32)) (.t (K.ofNat 33))⟩, ⟨(some (K.ofNat 35)), none, .pick (.t (K.ofNat 31)) (.c (.b true)) (.t (K.ofNat 34))⟩, ⟨(some (K.ofNat 36)), none, .mv (.t (K.ofNat 35))⟩, ⟨(some (K.ofNat 37)), (some ((K.ofNat 36), false)), .mv (.t (K.ofNat 8))⟩, ⟨(some (K.ofNat 38)), (some ((K.ofNat 36), false)), .mv (.t (K.ofNat 0))⟩, ⟨(some (K.ofNat 39)), (some ((K.ofNat 36), false)), .bin .geq (.t (K.ofNat 37)) (.t (K.ofNat 38))⟩, ⟨(some (K.ofNat 40)), none, .pick (.t (K.ofNat 36)) (.c (.b true)) (.t (K.ofNat 39))⟩, ⟨(some (K.ofNat 41)), none, .mv (.t (K.ofNat 40))⟩, ⟨(some (K.ofNat 42)), (some ((K.ofNat 41), false)), .mv (.t (K.ofNat 7))⟩, ⟨(some (K.ofNat 43)), (some ((K.ofNat 41), false)), .mv (.t (K.ofNat 8))⟩, ⟨(some (K.ofNat 44)), (some ((K.ofNat 41), false)), .bin .eql (.t (K.ofNat 42)) (.t (K.ofNat 43))⟩, ⟨(some (K.ofNat 45)), none, .pick (.t (K.ofNat 41)) (.c (.b true)) (.t (K.ofNat 44))⟩, ⟨(some (K.ofNat 46)), none, .mv (.t (K.ofNat 45))⟩, ⟨(some (K.ofNat 47)), (some ((K.ofNat 46), false)), .mv (.t (K.ofNat 5))⟩, ⟨(some (K.ofNat 48)), (some ((K.ofNat 46), false)), .mv (.t (K.ofNat 7))⟩, ⟨(some (K.ofNat 49)), (some ((K.ofNat 46), false)), .bin .shr (.t (K.ofNat 47)) (.t (K.ofNat 48))⟩, ⟨(some (K.ofNat 50)), (some ((K.ofNat 46), false)), .bin .rem (.t (K.ofNat 49)) (.c (.i .i64 (.ofNat 2)))⟩, ⟨(some (K.ofNat 51)), (some ((K.ofNat 46), false)), .bin .eql (.t (K.ofNat 50)) (.c (.i .i64 (.ofNat 1)))⟩, ⟨(some (K.ofNat 52)), none, .pick (.t (K.ofNat 46)) (.c (.b true)) (.t (K.ofNat 51))⟩, ⟨(some (K.ofNat 53)), none, .mv (.t (K.ofNat 52))⟩, ⟨(some (K.ofNat 54)), (some ((K.ofNat 53), false)), .mv (.t (K.ofNat 5))⟩, ⟨(some (K.ofNat 55)), (some ((K.ofNat 53), false)), .mv (.t (K.ofNat 8))⟩, ⟨(some (K.ofNat 56)), (some ((K.ofNat 53), false)), .bin .shr (.t (K.ofNat 54)) (.t (K.ofNat 55))⟩, ⟨(some (K.ofNat 57)), (some ((K.ofNat 53), false)), .bin .rem (.t (K.ofNat 56)) (.c (.i .i64 (.ofNat 2)))⟩, ⟨(some (K.ofNat 58)), (some ((K.ofNat 53), false)), .bin .eql (.t (K.ofNat 57)) (.c (.i .i64 (.ofNat 1)))⟩, ⟨(some (K.ofNat 59)), none, .pick (.t (K.ofNat 53)) (.c (.b true)) (.t (K.ofNat 58))⟩]
noncomputable def f45_r6 : List EOper := [⟨(some (K.ofNat 4)), none, .as (.c (.b false))⟩]
noncomputable def f45_r7 : List Stage := [⟨[⟨(some (K.ofNat 60)), none, .mv (.t (K.ofNat 5))⟩, ⟨(some (K.ofNat 61)), none, .mv (.t (K.ofNat 7))⟩, ⟨(some (K.ofNat 62)), none, .bin .shl (.c (.i .i64 (.ofNat 1))) (.t (K.ofNat 61))⟩, ⟨(some (K.ofNat 63)), none, .bin .or (.t (K.ofNat 60)) (.t (K.ofNat 62))⟩, ⟨(some (K.ofNat 64)), none, .mv (.t (K.ofNat 8))⟩, ⟨(some (K.ofNat 65)), none, .bin .shl (.c (.i .i64 (.ofNat 1))) (.t (K.ofNat 64))⟩, ⟨(some (K.ofNat 66)), none, .bin .or (.t (K.ofNat 63)) (.t (K.ofNat 65))⟩], [], (some ⟨(some (K.ofNat 5)), none, .as (.t (K.ofNat 66))⟩), []⟩, ⟨[], [], none, []⟩]
noncomputable def f45_r8 : List EOper := [⟨(some (K.ofNat 13)), none, .mv (.t (K.ofNat 6))⟩, ⟨(some (K.ofNat 14)), none, .bin .add (.t (K.ofNat 13)) (.c (.i .i64 (.ofNat 1)))⟩, ⟨(some (K.ofNat 6)), none, .as (.t (K.ofNat 14))⟩]
noncomputable def f45_l0 : EC := (.seq (.seq (.reg f45_r3) (.cond (.t (K.ofNat 12)) .skip (.exit 0))) (.seq (.block 1 (.seq (.draw f45_r4) (.seq (.seq (.reg f45_r5) (.cond (.t (K.ofNat 59)) (.seq (.reg f45_r6) .ret) .skip)) (.draw f45_r7)))) (.reg f45_r8)))
noncomputable def f45_r9 : List EOper := [⟨(some (K.ofNat 67)), none, .mv (.t (K.ofNat 1))⟩, ⟨(some (K.ofNat 68)), none, .len (.t (K.ofNat 67))⟩, ⟨(some (K.ofNat 69)), none, .mv (.t (K.ofNat 0))⟩, ⟨(some (K.ofNat 70)), none, .bin .quo (.t (K.ofNat 69)) (.c (.i .i64 (.ofNat 2)))⟩, ⟨(some (K.ofNat 71)), none, .bin .eql (.t (K.ofNat 68)) (.t (K.ofNat 70))⟩, ⟨(some (K.ofNat 4)), none, .as (.t (K.ofNat 71))⟩]
noncomputable def f45_c : EC := (.seq (.reg f45_r0) (.seq (.reg f45_r1) (.seq (.seq (.reg f45_r2) (.block 0 (.loop f45_l0))) (.seq (.reg f45_r9) .ret))))
noncomputable def f45 : EF := ⟨72, [.tmp (K.ofNat 4)], f45_c, none⟩
theorem f45_rs : f45.rs = [.tmp (K.ofNat 4)] := of_eq_true (eq_self _)
noncomputable def f48_r0 : List EOper := [⟨(some (K.ofNat 4)), none, .as (.c (.b false))⟩]
noncomputable def f48_r1 : List EOper := [⟨(some (K.ofNat 5)), none, .alloc 100 (List.replicate 100 (.b false))⟩]
noncomputable def f48_r2 : List EOper := [⟨(some (K.ofNat 6)), none, .as (.c (.i .i64 (.ofNat 0)))⟩]
noncomputable def f48_r3 : List EOper := [⟨(some (K.ofNat 11)), none, .mv (.t (K.ofNat 6))⟩, ⟨(some (K.ofNat 12)), none, .mv (.t (K.ofNat 1))⟩, ⟨(some (K.ofNat 13)), none, .len (.t (K.ofNat 12))⟩, ⟨(some (K.ofNat 14)), none, .bin .lss (.t (K.ofNat 11)) (.t (K.ofNat 13))⟩]
noncomputable def f48_r4 : List EOper := [⟨(some (K.ofNat 17)), none, .mv (.t (K.ofNat 0))⟩, ⟨(some (K.ofNat 18)), none, .mv (.t (K.ofNat 1))⟩, ⟨(some (K.ofNat 19)), none, .mv (.t (K.ofNat 6))⟩, ⟨(some (K.ofNat 20)), none, .iads 1 (.t (K.ofNat 18)) (.t (K.ofNat 19))⟩, ⟨(some (K.ofNat 21)), none, .ld (.t (K.ofNat 20))⟩, ⟨(some (K.ofNat 22)), none, .call (.c (.fn (K.ofNat 45) [])) [(.t (K.ofNat 17)), (.t (K.ofNat 21))]⟩, ⟨(some (K.ofNat 23)), none, .not (.t (K.ofNat 22))⟩]
noncomputable def f48_r5 : List EOper := [⟨(some (K.ofNat 4)), none, .as (.c (.b false))⟩]
noncomputable def f48_r6 : List EOper := [⟨(some (K.ofNat 7)), none, .as (.c (.i .i64 (.ofNat 0)))⟩]
noncomputable def f48_r7 : List EOper := [⟨(some (K.ofNat 24)), none, .mv (.t (K.ofNat 7))⟩, ⟨(some (K.ofNat 25)), none, .mv (.t (K.ofNat 1))⟩, ⟨(some (K.ofNat 26)), none, .mv (.t (K.ofNat 6))⟩, ⟨(some (K.ofNat 27)), none, .iads 1 (.t (K.ofNat 25)) (.t (K.ofNat 26))⟩, ⟨(some (K.ofNat 28)), none, .ld (.t (K.ofNat 27))⟩, ⟨(some (K.ofNat 29)), none, .len (.t (K.ofNat 28))⟩, ⟨(some (K.ofNat 30)), none, .bin .lss (.t (K.ofNat 24)) (.t (K.ofNat 29))⟩]
noncomputable def f48_r8 : List Stage := [⟨[⟨(some (K.ofNat 33)), none, .mv (.t (K.ofNat 1))⟩, ⟨(some (K.ofNat 34)), none, .mv (.t (K.ofNat 6))⟩, ⟨(some (K.ofNat 35)), none, .iads 1 (.t (K.ofNat 33)) (.t (K.ofNat 34))⟩, ⟨(some (K.ofNat 36)), none, .ld (.t (K.ofNat 35))⟩, ⟨(some (K.ofNat 37)), none, .mv (.t (K.ofNat 7))⟩, ⟨(some (K.ofNat 38)), none, .iads 2 (.t (K.ofNat 36)) (.t (K.ofNat 37))⟩, ⟨(some (K.ofNat 39)), none, .iadr 2 1 (.t (K.ofNat 38)) (.c (.i .i64 (.ofNat 0)))⟩, ⟨(some (K.ofNat 40)), none, .ld (.t (K.ofNat 39))⟩, ⟨(some (K.ofNat 41)), none, .mv (.t (K.ofNat 1))⟩, ⟨(some (K.ofNat 42)), none, .mv (.t (K.ofNat 6))⟩, ⟨(some (K.ofNat 43)), none, .iads 1 (.t (K.ofNat 41)) (.t (K.ofNat 42))⟩, ⟨(some (K.ofNat 44)), none, .ld (.t (K.ofNat 43))⟩, ⟨(some (K.ofNat 45)), none, .mv (.t (K.ofNat 7))⟩, ⟨(some (K.ofNat 46)), none, .iads 2 (.t (K.ofNat 44)) (.t (K.ofNat 45))⟩, ⟨(some (K.ofNat 47)), none, .iadr 2 1 (.t (K.ofNat 46)) (.c (.i .i64 (.ofNat 1)))⟩, ⟨(some (K.ofNat 48)), none, .ld (.t (K.ofNat 47))⟩], [], (some ⟨(some (K.ofNat 8)), none, .as (.t (K.ofNat 40))⟩), []⟩, ⟨[], [⟨(some (K.ofNat 41)), none, .mv (.t (K.ofNat 1))⟩, ⟨(some (K.ofNat 42)), none, .mv (.t (K.ofNat 6))⟩, ⟨(some (K.ofNat 43)), none, .iads 1 (.t (K.ofNat 41)) (.t (K.ofNat 42))⟩, ⟨(some (K.ofNat 44)), none, .ld (.t (K.ofNat 43))⟩, ⟨(some (K.ofNat 45)), none, .mv (.t (K.ofNat 7))⟩, ⟨(some (K.ofNat 46)), none, .iads 2 (.t (K.ofNat 44)) (.t (K.ofNat 45))⟩, ⟨(some (K.ofNat 47)), none, .iadr 2 1 (.t (K.ofNat 46)) (.c (.i .i64 (.ofNat 1)))⟩, ⟨(some (K.ofNat 48)), none, .ld (.t (K.ofNat 47))⟩], (some ⟨(some (K.ofNat 9)), none, .as (.t (K.ofNat 48))⟩), []⟩, ⟨[], [], none, []⟩]
noncomputable def f48_r9 : List EOper := [⟨(some (K.ofNat 49)), none, .mv (.t (K.ofNat 8))⟩, ⟨(some (K.ofNat 50)), none, .mv (.t (K.ofNat 9))⟩, ⟨(some (K.ofNat 51)), none, .min (.t (K.ofNat 49)) (.t (K.ofNat 50))⟩, ⟨(some (K.ofNat 52)), none, .bin .mul (.t (K.ofNat 51)) (.c (.i .i64 (.ofNat 10)))⟩, ⟨(some (K.ofNat 53)), none, .mv (.t (K.ofNat 8))⟩, ⟨(some (K.ofNat 54)), none, .mv (.t (K.ofNat 9))⟩, ⟨(some (K.ofNat 55)), none, .max (.t (K.ofNat 53)) (.t (K.ofNat 54))⟩, ⟨(some (K.ofNat 56)), none, .bin .add (.t (K.ofNat 52)) (.t (K.ofNat 55))⟩, ⟨(some (K.ofNat 10)), none, .as (.t (K.ofNat 56))⟩]
noncomputable def f48_r10 : List EOper := [⟨(some (K.ofNat 57)), none, .mv (.t (K.ofNat 10))⟩, ⟨(some (K.ofNat 58)), none, .iadr 100 1 (.t (K.ofNat 5)) (.t (K.ofNat 57))⟩, ⟨(some (K.ofNat 59)), none, .ld (.t (K.ofNat 58))⟩]
noncomputable def f48_r11 : List EOper := [⟨(some (K.ofNat 4)), none, .as (.c (.b false))⟩]
noncomputable def f48_r12 : List EOper := [⟨(some (K.ofNat 60)), none, .mv (.t (K.ofNat 10))⟩, ⟨(some (K.ofNat 61)), none, .iadr 100 1 (.t (K.ofNat 5)) (.t (K.ofNat 60))⟩, ⟨none, none, .st 1 (.t (K.ofNat 61)) (.c (.b true))⟩]
noncomputable def f48_r13 : List EOper := [⟨(some (K.ofNat 31)), none, .mv (.t (K.ofNat 7))⟩, ⟨(some (K.ofNat 32)), none, .bin .add (.t (K.ofNat 31)) (.c (.i .i64 (.ofNat 1)))⟩, ⟨(some (K.ofNat 7)), none, .as (.t (K.ofNat 32))⟩]
noncomputable def f48_l0 : EC := (.seq (.seq (.reg f48_r7) (.cond (.t (K.ofNat 30)) .skip (.exit 2))) (.seq (.block 3 (.seq (.draw f48_r8) (.seq (.reg f48_r9) (.seq (.seq (.reg f48_r10) (.cond (.t (K.ofNat 59)) (.seq (.reg f48_r11) .ret) .skip)) (.reg f48_r12))))) (.reg f48_r13)))
noncomputable def f48_r14 : List EOper := [⟨(some (K.ofNat 15)), none, .mv (.t (K.ofNat 6))⟩, ⟨(some (K.ofNat 16)), none, .bin .add (.t (K.ofNat 15)) (.c (.i .i64 (.ofNat 1)))⟩, ⟨(some (K.ofNat 6)), none, .as (.t (K.ofNat 16))⟩]
noncomputable def f48_l1 : EC := (.seq (.seq (.reg f48_r3) (.cond (.t (K.ofNat 14)) .skip (.exit 0))) (.seq (.block 1 (.seq (.seq (.reg f48_r4) (.cond (.t (K.ofNat 23)) (.seq (.reg f48_r5) .ret) .skip)) (.seq (.reg f48_r6) (.block 2 (.loop f48_l0))))) (.reg f48_r14)))
noncomputable def f48_r15 : List EOper := [⟨(some (K.ofNat 62)), none, .mv (.t (K.ofNat 1))⟩, ⟨(some (K.ofNat 63)), none, .len (.t (K.ofNat 62))⟩, ⟨(some (K.ofNat 64)), none, .mv (.t (K.ofNat 0))⟩, ⟨(some (K.ofNat 65)), none, .bin .lss (.t (K.ofNat 63)) (.t (K.ofNat 64))⟩, ⟨(some (K.ofNat 4)), none, .as (.t (K.ofNat 65))⟩]
noncomputable def f48_c : EC := (.seq (.reg f48_r0) (.seq (.reg f48_r1) (.seq (.seq (.reg f48_r2) (.block 0 (.loop f48_l1))) (.seq (.reg f48_r15) .ret))))
noncomputable def f48 : EF := ⟨66, [.tmp (K.ofNat 4)], f48_c, none⟩
theorem f48_rs : f48.rs = [.tmp (K.ofNat 4)] := of_eq_true (eq_self _)
noncomputable def f14_r0 : List EOper := [⟨(some (K.ofNat 4)), none, .as (.c (.i .i64 (.ofNat 0)))⟩]
noncomputable def f14_r1 : List EOper := [⟨(some (K.ofNat 6)), none, .mv (.t (K.ofNat 0))⟩, ⟨(some (K.ofNat 7)), none, .call (.c (.fn (K.ofNat 37) [])) [(.t (K.ofNat 6))]⟩, ⟨(some (K.ofNat 8)), none, .not (.t (K.ofNat 7))⟩, ⟨(some (K.ofNat 5)), none, .as (.t (K.ofNat 8))⟩]
noncomputable def f14_r2 : List EOper := [⟨(some (K.ofNat 4)), none, .as (.c (.i .i64 (.ofNat 1)))⟩]
noncomputable def f14_r3 : List EOper := [⟨(some (K.ofNat 10)), none, .mv (.t (K.ofNat 1))⟩, ⟨(some (K.ofNat 11)), none, .len (.t (K.ofNat 10))⟩, ⟨(some (K.ofNat 12)), none, .mv (.t (K.ofNat 0))⟩, ⟨(some (K.ofNat 13)), none, .bin .sub (.t (K.ofNat 12)) (.c (.i .i64 (.ofNat 1)))⟩, ⟨(some (K.ofNat 14)), none, .bin .neq (.t (K.ofNat 11)) (.t (K.ofNat 13))⟩, ⟨(some (K.ofNat 15)), none, .mv (.t (K.ofNat 14))⟩, ⟨(some (K.ofNat 16)), (some ((K.ofNat 15), false)), .mv (.t (K.ofNat 0))⟩, ⟨(some (K.ofNat 17)), (some ((K.ofNat 15), false)), .mv (.t (K.ofNat 1))⟩, ⟨(some (K.ofNat 18)), (some ((K.ofNat 15), false)), .call (.c (.fn (K.ofNat 48) [])) [(.t (K.ofNat 16)), (.t (K.ofNat 17))]⟩, ⟨(some (K.ofNat 19)), (some ((K.ofNat 15), false)), .not (.t (K.ofNat 18))⟩, ⟨(some (K.ofNat 20)), none, .pick (.t (K.ofNat 15)) (.c (.b true)) (.t (K.ofNat 19))⟩, ⟨(some (K.ofNat 9)), none, .as (.t (K.ofNat 20))⟩]
noncomputable def f14_r4 : List EOper := [⟨(some (K.ofNat 4)), none, .as (.c (.i .i64 (.ofNat 40)))⟩]
noncomputable def f14_r5 : List EOper := [⟨(some (K.ofNat 4)), none, .as (.c (.i .i64 (.ofNat 0)))⟩]
noncomputable def f14_c : EC := (.seq (.reg f14_r0) (.seq (.block 0 (.seq (.reg f14_r1) (.cond (.t (K.ofNat 5)) (.seq (.reg f14_r2) .ret) (.seq (.reg f14_r3) (.cond (.t (K.ofNat 9)) (.seq (.reg f14_r4) .ret) .skip))))) (.seq (.reg f14_r5) .ret)))
noncomputable def f14 : EF := ⟨21, [.tmp (K.ofNat 4)], f14_c, none⟩
theorem f14_rs : f14.rs = [.tmp (K.ofNat 4)] := of_eq_true (eq_self _)
section
variable {fs : T EF} {h : H} {v : V} {us : List V} {Ls : List (List (Int × Int))} {l : List (Int × Int)} {n : Nat}
/-- One bit of a mask. -/
theorem bit_i {m x : Nat} (hx : x ≤ 15) : binV .shr (.i .i64 (m : Int)) (.i .i64 (x : Int)) = some (.i .i64 ((m / 2 ^ x : Nat) : Int)) ∧ ((m / 2 ^ x : Nat) : Int).tmod 2 = ((m / 2 ^ x % 2 : Nat) : Int) ∧ decide (((m / 2 ^ x % 2 : Nat) : Int) = 1) = m.testBit x ∧ binV .shl (.i .i64 1) (.i .i64 (x : Int)) = some (.i .i64 ((2 ^ x : Nat) : Int)) ∧ 2 ^ x ≤ 32768 := by
  have hp : 2 ^ x ≤ 2 ^ 15 := Nat.pow_le_pow_right (by omega) hx
  have hp2' : 2 ^ 15 = 32768 := by decide
  refine ⟨by rw [bin_shr, show min x (IntKind.bits .i64) = x by show min x 64 = x; omega], rfl, ?_, ?_, by omega⟩
  · rw [Nat.testBit_eq_decide_div_mod_eq]
    congr 1
    apply propext
    omega
  · rw [bin_shl (by omega), show min ((x : Int).toNat) (IntKind.bits .i64) = x by show min ((x : Int).toNat) 64 = x; omega, Int.one_mul]
    have hz : (2 : Int) ^ x = ((2 ^ x : Nat) : Int) := by rw [Int.natCast_pow]; rfl
    rw [hz, fw64 (by have : (0 : Int) ≤ ((2 ^ x : Nat) : Int) := Int.natCast_nonneg _; omega) (by omega)]
theorem aa_no {n : Nat} {L : List Int} (h : ¬ ((∀ x ∈ L, 0 ≤ x ∧ x < (n : Int)) ∧ L.Nodup)) : aaB (n : Int) L = false := by
  rw [Bool.eq_false_iff]
  intro hh
  unfold aaB at hh
  simp only [Bool.and_eq_true, decide_eq_true_iff] at hh
  exact h hh.2
def f45_I (h : H) (n : Nat) (v : V) (l : List (Int × Int)) (i : Nat) (fr : Fr) (h1 : H) : Prop := i ≤ l.length ∧ h1 = h ∧ (∀ x ∈ plL (l.take i), 0 ≤ x ∧ x < (n : Int)) ∧ (plL (l.take i)).Nodup ∧ ∃ m, Msk m (plL (l.take i)) ∧ fr.get (K.ofNat 0) = some (.i .i64 (n : Int)) ∧ fr.get (K.ofNat 1) = some (v) ∧ fr.get (K.ofNat 5) = some (.i .i64 (m : Int)) ∧ fr.get (K.ofNat 6) = some (.i .i64 (i : Int))
theorem f45_ret (hn : n ≤ 10) (he : n % 2 = 0) (hv : Srp h v l) (hL : l.length ≤ 9223372036854775807) : Ret fs f45 [.i .i64 (n : Int), v] h fun r h' => r = .b (rndB n l) ∧ h' = h := by
  apply ret_of rfl
  show W fs none f45_c _ _ _
  unfold f45_c
  have hlen := hv.len
  have hvb := hv.beq
  have hk : kmax .i64 = 9223372036854775807 := rfl
  simp (disch := omega) only [f45_r0, f45_r1, f45_r2, w_reg, w_seq, w_block, seqK_n, x_nil, x_as, ev_c, putD_some, frame_2, of0]
  refine W_loop (f45_I h n v l) (fun i => l.length - i) ?_ 0 ⟨by omega, rfl, by simp [plL], by simp [plL], 0, Msk.nil, by simp (disch := omega) only [getK_set, Nat.reduceEqDiff, ↓reduceIte, and_self, Int.natCast_zero]⟩
  rintro i fr h1 ⟨hi, rfl, hin, hnd, m, hm, g0, g1, g5, g6⟩
  unfold f45_l0
  by_cases hlt : i < l.length
  · have d0 : decide ((i : Int) < (l.length : Int)) = true := by simpa using hlt
    obtain ⟨ida, q, hp1, _, hp3, hp4⟩ := hv.at2 hlt
    have htk := plL_snoc hlt
    have hsub : (plL (l.take (i + 1))).Sublist (plL l) := by
      conv => rhs; rw [← List.take_append_drop (i + 1) l]
      unfold plL
      rw [List.flatMap_append]
      exact List.sublist_append_left _ _
    have bad : ¬ ((∀ x ∈ plL (l.take (i + 1)), 0 ≤ x ∧ x < (n : Int)) ∧ (plL (l.take (i + 1))).Nodup) → rndB n l = false := fun hb => by
      have := aa_no (n := n) (L := plL l) fun hh => hb ⟨fun x hx => hh.1 x (hsub.subset hx), List.Pairwise.sublist hsub hh.2⟩
      unfold rndB
      rw [this, Bool.and_false]
    have hpl : i ≤ 16 := by
      have h1 := nodup_le (m := (List.range n).map fun (k : Nat) => (k : Int)) hnd fun z hz => by
        obtain ⟨h1, h2⟩ := hin z hz
        exact List.mem_map.2 ⟨z.toNat, by simp; omega, by omega⟩
      rw [plL_len, List.length_take] at h1
      simp at h1
      omega
    rw [htk] at bad
    generalize l[i] = e at *
    have b1 : ¬ (0 ≤ e.1 ∧ e.1 < (n : Int)) → rndB n l = false := fun hb => bad fun hh => hb (hh.1 e.1 (by simp))
    have b2 : ¬ (0 ≤ e.2 ∧ e.2 < (n : Int)) → rndB n l = false := fun hb => bad fun hh => hb (hh.1 e.2 (by simp))
    have b3 : ¬ (plL (l.take i) ++ [e.1, e.2]).Nodup → rndB n l = false := fun hb => bad fun hh => hb hh.2
    obtain ⟨a, b⟩ := e
    simp only at hp3 hp4 b1 b2 b3 htk
    simp (disch := omega) only [f45_r3, f45_r4, w_skip, w_reg, w_draw, w_seq, w_cond, w_block, seqK_n, ckB_b, cbB_b, true_and, x_nil, x_mv, x_as, x_bin, x_len, kx, kg, xg_nil, xg_mv, xg_ld, xg_iadr, xg_iads, xd_cons, fresh_nil, stK_n, stK_s, stay_nil, stay_cons, again_ok, stay_mv, beq_i, stay_iads, stay_ld, beq_p, rvP_ok, okv_some, ev_t, ev_c, getV_some, putD_some, bin_lss, onP_p, of0, of1, getK_set, Nat.reduceEqDiff, ↓reduceIte, stay_iadr, ix2_0, ix2_1, g1, g6, hlen, d0, hp1, hp3, hp4, hvb]
    by_cases h1 : a < 0
    · have d1 : decide (a < 0) = true := decide_eq_true h1
      have hno := b1 (by omega)
      simp (disch := omega) only [f45_r5, f45_r6, f45_rs, w_reg, w_seq, w_cond, w_ret, seqK_n, seqK_r, atK_r, loopK_r, ckB_b, cbB_b, okG_b, asG_f, retK_r, x_nil, x_g, x_mv, x_as, x_pick, x_bin, kx, rvP_ok, okv_some, ev_t, ev_c, getV_some, putD_some, bin_lss, pick_b, oGet_s, readRs_nil, readRs_t, retV_1, of0, of1, of2, Option.some.injEq, exists_eq_left', getK_set, Nat.reduceEqDiff, ↓reduceIte, Bool.false_eq_true, Bool.not_true, d1, hno, and_self]
    have d1 : decide (a < 0) = false := decide_eq_false h1
    by_cases h2 : b < 0
    · have d2 : decide (b < 0) = true := decide_eq_true h2
      have hno := b2 (by omega)
      simp (disch := omega) only [f45_r5, f45_r6, f45_rs, w_reg, w_seq, w_cond, w_ret, seqK_n, seqK_r, atK_r, loopK_r, ckB_b, cbB_b, okG_b, asG_f, retK_r, x_nil, x_g, x_mv, x_as, x_pick, x_bin, kx, rvP_ok, okv_some, ev_t, ev_c, getV_some, putD_some, bin_lss, pick_b, oGet_s, readRs_nil, readRs_t, retV_1, of0, of1, of2, Option.some.injEq, exists_eq_left', getK_set, Nat.reduceEqDiff, ↓reduceIte, Bool.false_eq_true, Bool.not_true, Bool.not_false, d1, d2, hno, and_self]
    have d2 : decide (b < 0) = false := decide_eq_false h2
    by_cases h3 : a ≥ (n : Int)
    · have d3 : decide (a ≥ (n : Int)) = true := decide_eq_true h3
      have hno := b1 (by omega)
      simp (disch := omega) only [f45_r5, f45_r6, f45_rs, w_reg, w_seq, w_cond, w_ret, seqK_n, seqK_r, atK_r, loopK_r, ckB_b, cbB_b, okG_b, asG_f, retK_r, x_nil, x_g, x_mv, x_as, x_pick, x_bin, kx, rvP_ok, okv_some, ev_t, ev_c, getV_some, putD_some, bin_lss, bin_geq, pick_b, oGet_s, readRs_nil, readRs_t, retV_1, of0, of1, of2, Option.some.injEq, exists_eq_left', getK_set, Nat.reduceEqDiff, ↓reduceIte, Bool.false_eq_true, Bool.not_true, Bool.not_false, g0, d1, d2, d3, hno, and_self]
    have d3 : decide (a ≥ (n : Int)) = false := decide_eq_false h3
    by_cases h4 : b ≥ (n : Int)
    · have d4 : decide (b ≥ (n : Int)) = true := decide_eq_true h4
      have hno := b2 (by omega)
      simp (disch := omega) only [f45_r5, f45_r6, f45_rs, w_reg, w_seq, w_cond, w_ret, seqK_n, seqK_r, atK_r, loopK_r, ckB_b, cbB_b, okG_b, asG_f, retK_r, x_nil, x_g, x_mv, x_as, x_pick, x_bin, kx, rvP_ok, okv_some, ev_t, ev_c, getV_some, putD_some, bin_lss, bin_geq, pick_b, oGet_s, readRs_nil, readRs_t, retV_1, of0, of1, of2, Option.some.injEq, exists_eq_left', getK_set, Nat.reduceEqDiff, ↓reduceIte, Bool.false_eq_true, Bool.not_true, Bool.not_false, g0, d1, d2, d3, d4, hno, and_self]
    have d4 : decide (b ≥ (n : Int)) = false := decide_eq_false h4
    by_cases h5 : a = b
    · have d5 : decide (a = b) = true := decide_eq_true h5
      have hno := b3 (by rw [h5, List.nodup_append]; simp)
      simp (disch := omega) only [f45_r5, f45_r6, f45_rs, w_reg, w_seq, w_cond, w_ret, seqK_n, seqK_r, atK_r, loopK_r, ckB_b, cbB_b, okG_b, asG_f, retK_r, x_nil, x_g, x_mv, x_as, x_pick, x_bin, kx, rvP_ok, okv_some, ev_t, ev_c, getV_some, putD_some, bin_eql, bin_lss, bin_geq, pick_b, oGet_s, readRs_nil, readRs_t, retV_1, of0, of1, of2, Option.some.injEq, exists_eq_left', getK_set, Nat.reduceEqDiff, ↓reduceIte, Bool.false_eq_true, Bool.not_true, Bool.not_false, g0, d1, d2, d3, d4, d5, hno, and_self]
    have d5 : decide (a = b) = false := decide_eq_false h5
    obtain ⟨x, rfl⟩ : ∃ x : Nat, a = (x : Int) := ⟨a.toNat, by omega⟩
    obtain ⟨y, rfl⟩ : ∃ y : Nat, b = (y : Int) := ⟨b.toNat, by omega⟩
    have hm1 := hm.1
    obtain ⟨s1, s2, s3, s4, s5⟩ := bit_i (m := m) (show x ≤ 15 by omega)
    obtain ⟨t1, t2, t3, t4, t5⟩ := bit_i (m := m) (show y ≤ 15 by omega)
    rw [hm.2 x (by omega)] at s3
    rw [hm.2 y (by omega)] at t3
    by_cases h6 : (x : Int) ∈ plL (l.take i)
    · rw [decide_eq_true h6] at s3
      have hno := b3 (by rw [List.nodup_append]; exact fun hh => hh.2.2 _ h6 _ (by simp) rfl)
      simp (disch := omega) only [f45_r5, f45_r6, f45_rs, w_reg, w_seq, w_cond, w_ret, seqK_n, seqK_r, atK_r, loopK_r, ckB_b, cbB_b, okG_b, asG_f, retK_r, x_nil, x_g, x_mv, x_as, x_pick, x_bin, kx, rvP_ok, okv_some, ev_t, ev_c, getV_some, putD_some, bin_eql, bin_lss, bin_geq, bin_rem, pick_b, oGet_s, readRs_nil, readRs_t, retV_1, of0, of1, of2, Option.some.injEq, exists_eq_left', getK_set, Nat.reduceEqDiff, ↓reduceIte, Bool.false_eq_true, Bool.not_true, Bool.not_false, g0, g5, d1, d2, d3, d4, d5, s1, s2, s3, hno, and_self]
    rw [decide_eq_false h6] at s3
    by_cases h7 : (y : Int) ∈ plL (l.take i)
    · rw [decide_eq_true h7] at t3
      have hno := b3 (by rw [List.nodup_append]; exact fun hh => hh.2.2 _ h7 _ (by simp) rfl)
      simp (disch := omega) only [f45_r5, f45_r6, f45_rs, w_reg, w_seq, w_cond, w_ret, seqK_n, seqK_r, atK_r, loopK_r, ckB_b, cbB_b, okG_b, asG_f, retK_r, x_nil, x_g, x_mv, x_as, x_pick, x_bin, kx, rvP_ok, okv_some, ev_t, ev_c, getV_some, putD_some, bin_eql, bin_lss, bin_geq, bin_rem, pick_b, oGet_s, readRs_nil, readRs_t, retV_1, of0, of1, of2, Option.some.injEq, exists_eq_left', getK_set, Nat.reduceEqDiff, ↓reduceIte, Bool.false_eq_true, Bool.not_false, g0, g5, d1, d2, d3, d4, d5, s1, s2, s3, t1, t2, t3, hno, and_self]
    rw [decide_eq_false h7] at t3
    have hm2 := hm.snoc (show x ≤ 15 by omega)
    have hm3 := hm2.snoc (show y ≤ 15 by omega)
    rw [List.append_assoc] at hm3
    have q1 : binV .or (.i .i64 (m : Int)) (.i .i64 ((2 ^ x : Nat) : Int)) = some (.i .i64 ((m ||| 2 ^ x : Nat) : Int)) := bin_or (by omega) (by omega)
    have q2 : binV .or (.i .i64 ((m ||| 2 ^ x : Nat) : Int)) (.i .i64 ((2 ^ y : Nat) : Int)) = some (.i .i64 ((m ||| 2 ^ x ||| 2 ^ y : Nat) : Int)) := bin_or (by have := hm2.1; omega) (by omega)
    simp (disch := omega) only [f45_r5, w_skip, w_draw, w_cond, seqK_n, ckB_b, cbB_b, okG_b, asG_f, true_and, x_nil, x_g, x_mv, x_pick, x_bin, kx, rvP_ok, okv_some, ev_t, ev_c, getV_some, putD_some, bin_eql, bin_lss, bin_geq, bin_rem, pick_b, of0, of1, of2, getK_set, Nat.reduceEqDiff, ↓reduceIte, Bool.false_eq_true, Bool.not_false, g0, g5, d1, d2, d3, d4, d5, s1, s2, s3, t1, t2, t3]
    simp (disch := omega) only [f45_r7, f45_r8, w_reg, seqK_n, atK_n, loopK_n, true_and, x_nil, x_mv, x_as, x_bin, kx, kg, xg_nil, xg_mv, xg_bin, xd_cons, fresh_nil, stK_n, stK_s, stay_nil, rvP_ok, okv_some, ev_t, ev_c, getV_some, putD_some, bin_add, of1, getK_set, Nat.reduceEqDiff, ↓reduceIte, g5, g6, s4, t4, q1, q2, fw64]
    refine ⟨i + 1, by omega, by omega, rfl, ?_, ?_, _, by rw [htk]; exact hm3, by simp (disch := omega) only [getK_set, Nat.reduceEqDiff, ↓reduceIte, g0, g1, and_self, Int.natCast_add, Int.natCast_one]⟩
    · rw [htk]
      intro z hz
      rcases List.mem_append.1 hz with hz | hz
      · exact hin z hz
      · rcases List.mem_cons.1 hz with rfl | hz
        · omega
        · rw [List.mem_singleton.1 hz]; omega
    · rw [htk, List.nodup_append]
      refine ⟨hnd, by simpa using h5, fun p hp r hr er => ?_⟩
      rcases List.mem_cons.1 hr with rfl | hr
      · exact h6 (er ▸ hp)
      · rw [List.mem_singleton.1 hr] at er; exact h7 (er ▸ hp)
  · have d0 : decide ((i : Int) < (l.length : Int)) = false := by simpa using hlt
    have ei : i = l.length := by omega
    rw [ei, List.take_length] at hin hnd
    have hq2 : binV .quo (.i .i64 (n : Int)) (.i .i64 2) = some (.i .i64 ((n / 2 : Nat) : Int)) := bin_quo2 (by omega)
    have hyes : decide ((l.length : Int) = ((n / 2 : Nat) : Int)) = rndB n l := by
      unfold rndB aaB
      rw [decide_eq_true hin, decide_eq_true hnd, Bool.and_true, Bool.and_true, plL_len, Bool.eq_iff_iff]
      simp only [Bool.and_eq_true, decide_eq_true_iff]
      omega
    simp (disch := omega) only [f45_r3, f45_r9, f45_rs, w_reg, w_seq, w_cond, w_exit, w_ret, seqK_n, seqK_e, atK_e, loopK_e, ckB_b, cbB_b, retK_r, x_nil, x_mv, x_as, x_bin, x_len, kx, rvP_ok, okv_some, ev_t, ev_c, getV_some, putD_some, bin_eql, bin_lss, oGet_s, readRs_nil, readRs_t, retV_1, of2, Option.some.injEq, exists_eq_left', getK_set, Nat.reduceEqDiff, ↓reduceIte, Bool.false_eq_true, g0, g1, g6, hlen, d0, hq2, hyes, and_self]
/-- Which pairs have met. -/
structure MetB (T : List Bool) (P : List (Int × Int)) : Prop where
  len : T.length = 100
  at' : ∀ x y : Nat, x < y → y < 10 → T.getD (x * 10 + y) false = decide (((x : Int), (y : Int)) ∈ P ∨ ((y : Int), (x : Int)) ∈ P)
theorem MetB.nil : MetB (List.replicate 100 false) [] := ⟨by simp, fun x y _ hy => by
  rw [List.getD_eq_getElem?_getD, List.getElem?_replicate]
  split <;> simp⟩
theorem MetB.add {T : List Bool} {P : List (Int × Int)} {a b : Nat} (m : MetB T P) (ha : a < b) (hb : b < 10) {e : Int × Int} (he : e = ((a : Int), (b : Int)) ∨ e = ((b : Int), (a : Int))) : MetB (T.set (a * 10 + b) true) (P ++ [e]) := by
  refine ⟨by rw [List.length_set]; exact m.len, fun x y hxy hy => ?_⟩
  rw [List.getD_eq_getElem?_getD, List.getElem?_set]
  by_cases h : a * 10 + b = x * 10 + y
  · have h1 : a = x := by omega
    have h2 : b = y := by omega
    subst h1; subst h2
    rw [if_pos rfl, if_pos (by rw [m.len]; omega)]
    refine (decide_eq_true ?_).symm
    rcases he with rfl | rfl <;> simp
  · rw [if_neg h, ← List.getD_eq_getElem?_getD, m.at' x y hxy hy]
    congr 1
    refine propext ⟨fun h => ?_, fun h => ?_⟩
    · rcases h with h | h
      · exact .inl (List.mem_append_left _ h)
      · exact .inr (List.mem_append_left _ h)
    · have key : ∀ z : Int × Int, (z = ((x : Int), (y : Int)) ∨ z = ((y : Int), (x : Int))) → z ≠ e := by
        intro z hz q
        rw [q] at hz
        rcases he with rfl | rfl <;> rcases hz with hz | hz <;> simp only [Prod.mk.injEq] at hz <;> omega
      rcases h with h | h
      · rcases List.mem_append.1 h with h | h
        · exact .inl h
        · exact absurd (List.mem_singleton.1 h) (key _ (.inl rfl))
      · rcases List.mem_append.1 h with h | h
        · exact .inr h
        · exact absurd (List.mem_singleton.1 h) (key _ (.inr rfl))
theorem rep_b100 : List.replicate 100 (V.b false) = (List.replicate 100 false).map (fun b => V.b b) := by rw [List.map_replicate]
theorem bg_no {n : Nat} {Ls : List (List (Int × Int))} (h : ¬ ((∀ l ∈ Ls, rndB n l = true) ∧ Ls.flatten.Pairwise dsR)) : bgB n Ls = false := by
  rw [Bool.eq_false_iff]
  intro hh
  unfold bgB at hh
  simp only [Bool.and_eq_true, decide_eq_true_iff, List.all_eq_true] at hh
  exact h hh.2
def f48_I (h : H) (n : Nat) (v : V) (Ls : List (List (Int × Int))) (i : Nat) (fr : Fr) (h1 : H) : Prop := i ≤ Ls.length ∧ Grow h.nx.nat h h1 ∧ (∀ l ∈ Ls.take i, rndB n l = true) ∧ (Ls.take i).flatten.Pairwise dsR ∧ ∃ T, Ar (fun b => V.b b) h1 h.nx T ∧ MetB T (Ls.take i).flatten ∧ h.nx.nat < h1.nx.nat ∧ fr.get (K.ofNat 0) = some (.i .i64 (n : Int)) ∧ fr.get (K.ofNat 1) = some (v) ∧ fr.get (K.ofNat 5) = some (.p h.nx 0) ∧ fr.get (K.ofNat 6) = some (.i .i64 (i : Int))
def f48_J (h : H) (n : Nat) (v : V) (P l : List (Int × Int)) (i j : Nat) (fr : Fr) (h1 : H) : Prop := j ≤ l.length ∧ Grow h.nx.nat h h1 ∧ (P ++ l.take j).Pairwise dsR ∧ ∃ T, Ar (fun b => V.b b) h1 h.nx T ∧ MetB T (P ++ l.take j) ∧ h.nx.nat < h1.nx.nat ∧ fr.get (K.ofNat 0) = some (.i .i64 (n : Int)) ∧ fr.get (K.ofNat 1) = some (v) ∧ fr.get (K.ofNat 5) = some (.p h.nx 0) ∧ fr.get (K.ofNat 6) = some (.i .i64 (i : Int)) ∧ fr.get (K.ofNat 7) = some (.i .i64 (j : Int))
theorem f48_ret (h45 : fs.get (K.ofNat 45) = some f45) (hn : n ≤ 10) (hn1 : 1 ≤ n) (he : n % 2 = 0) (hv : Nrp h v us Ls) (hL : Ls.length ≤ 1000000) (hL2 : ∀ l ∈ Ls, l.length ≤ 9223372036854775807) (hc : HC h) : Ret fs f48 [.i .i64 (n : Int), v] h fun r h' => r = .b (bgB n Ls) ∧ Grow h.nx.nat h h' := by
  have hlen : ∀ h1, lenV v h1 = .ok (.i .i64 (Ls.length : Int)) h1 := fun h1 => by rw [hv.out.len, hv.len]
  have hvb := hv.out.beq
  apply ret_of rfl
  show W fs none f48_c _ _ _
  unfold f48_c
  have n1 := nx_new h (.cells 100 (List.replicate 100 (.b false)))
  have e1 : Ar (fun b => V.b b) (h.new (.cells 100 (List.replicate 100 (.b false)))) h.nx (List.replicate 100 false) := by
    unfold Ar
    rw [get_new_same, rep_b100]
    rfl
  have gA := Grow.new (Nat.le_refl h.nx.nat) (.cells 100 (List.replicate 100 (.b false)))
  simp (disch := omega) only [f48_r0, f48_r1, f48_r2, w_reg, w_seq, w_block, seqK_n, x_nil, x_as, x_alloc, ev_c, putD_some, frame_2, of0]
  refine W_loop (f48_I h n v Ls) (fun i => Ls.length - i) ?_ 0 ⟨by omega, gA, by simp, by simp, _, e1, MetB.nil, by omega, by simp (disch := omega) only [getK_set, Nat.reduceEqDiff, ↓reduceIte, and_self, Int.natCast_zero]⟩
  clear n1 e1 gA
  rintro i fr h1 ⟨hi, hG, hall, hpw, T, hT, hM, hnx, g0, g1, g5, g6⟩
  have hv1 := hv.grow hc hG
  unfold f48_l1
  by_cases hlt : i < Ls.length
  · have d0 : decide ((i : Int) < (Ls.length : Int)) = true := by simpa using hlt
    have hiu : i < us.length := by rw [hv.len]; exact hlt
    obtain ⟨p, hp1, hp2'⟩ := hv1.out.at i hiu
    have hp2 : loadV h1 p one? = .ok us[i] h1 := hp2'
    clear hp2'
    have hui := hv.inn i hiu hlt
    have hl2 := hL2 Ls[i] (List.getElem_mem hlt)
    have hsn : Ls.take (i + 1) = Ls.take i ++ [Ls[i]] := List.take_succ_eq_append_getElem hlt
    have hbad : rndB n Ls[i] = false → bgB n Ls = false := fun hr => bg_no fun hh => by
      have := hh.1 _ (List.getElem_mem hlt)
      rw [hr] at this; cases this
    have hfl : Ls.flatten = ((Ls.take i).flatten ++ Ls[i]) ++ (Ls.drop (i + 1)).flatten := by
      conv => lhs; rw [← List.take_append_drop (i + 1) Ls, hsn]
      rw [List.flatten_append, List.flatten_append]; simp
    simp (disch := omega) only [f48_r3, f48_r4, w_skip, w_reg, w_seq, w_cond, w_block, seqK_n, ckB_b, cbB_b, true_and, x_nil, x_mv, x_ld, x_bin, x_iads, x_call, x_len, kx, rvP_ok, okv_some, ev_t, ev_c, evs_nil, evs_cons, getV_some, putD_some, bin_lss, getK_set, Nat.reduceEqDiff, ↓reduceIte, g0, g1, g6, hlen, d0, hp1, hp2]
    refine (callP_0 (ef := f45) h45 rfl (f45_ret hn he (hui.grow hc hG) hl2)).mono ?_
    rintro r h2 ⟨rfl, rfl⟩
    cases hr : rndB n Ls[i] with
    | false =>
      have hno := hbad hr
      simp (disch := omega) only [f48_r5, f48_rs, w_reg, w_seq, w_cond, w_ret, seqK_n, seqK_r, atK_r, loopK_r, ckB_b, cbB_b, true_and, retK_r, x_nil, x_as, x_not, kx, rvP_ok, ev_t, ev_c, getV_some, putD_some, onB_b, oGet_s, readRs_nil, readRs_t, retV_1, Option.some.injEq, exists_eq_left', getK_set, ↓reduceIte, Bool.not_false, Bool.not_false, hno, true_and]
      exact hG
    | true =>
      have hre := rnd_e hr
      have hll : Ls[i].length = n / 2 := by
        unfold rndB at hr
        simp only [Bool.and_eq_true, decide_eq_true_iff] at hr
        exact hr.1
      have hfin : ∀ h3, Grow h.nx.nat h h3 → loadV h3 p one? = .ok us[i] h3 := fun h3 hG3 => by
        obtain ⟨p', a1, a2⟩ := (hv.grow hc hG3).out.at i hiu
        obtain rfl : p = p' := by have := (hp1 .i64 h3).symm.trans (a1 .i64 h3); injection this
        exact a2
      generalize us[i] = u at *
      generalize Ls[i] = l at *
      have hlu := hui.len
      have hub := hui.beq
      simp (disch := omega) only [f48_r6, w_skip, w_reg, w_seq, w_cond, w_block, seqK_n, ckB_b, cbB_b, true_and, x_nil, x_as, x_not, kx, rvP_ok, ev_t, ev_c, getV_some, putD_some, onB_b, of0, getK_set, ↓reduceIte, Bool.false_eq_true, Bool.not_true, Bool.not_true]
      refine W_loop (f48_J h n v (Ls.take i).flatten l i) (fun j => l.length - j) ?_ 0 ⟨by omega, hG, by simpa using hpw, T, hT, by simpa using hM, hnx, by simp (disch := omega) only [getK_set, Nat.reduceEqDiff, ↓reduceIte, g0, g1, g5, g6, and_self, Int.natCast_zero]⟩
      clear g0 g1 g5 g6 fr hG hT hM hnx hp2 hv1 hpw
      clear T
      rintro j fr h3 ⟨hj, hG, hpw, T, hT, hM, hnx, g0, g1, g5, g6, g7⟩
      have hp2 := hfin h3 hG
      unfold f48_l0
      by_cases hlt2 : j < l.length
      · have d1 : decide ((j : Int) < (l.length : Int)) = true := by simpa using hlt2
        obtain ⟨ida, q, hq1, _, hq3, hq4⟩ := (hui.grow hc hG).at2 hlt2
        obtain ⟨r1, r2, r3⟩ := hre l[j] (List.getElem_mem hlt2)
        have htk : (Ls.take i).flatten ++ l.take (j + 1) = ((Ls.take i).flatten ++ l.take j) ++ [l[j]] := by rw [List.take_succ_eq_append_getElem hlt2, List.append_assoc]
        have hds := ds_snoc (e := l[j]) hpw
        rw [← htk] at hds
        have hbad2 : (l[j] ∈ (Ls.take i).flatten ++ l.take j ∨ (l[j].2, l[j].1) ∈ (Ls.take i).flatten ++ l.take j) → bgB n Ls = false := fun hb => bg_no fun hh => by
          have h1 := hh.2
          rw [hfl, ← List.take_append_drop (j + 1) l, ← List.append_assoc, List.append_assoc] at h1
          exact absurd hb (hds.1 (List.pairwise_append.1 h1).1)
        obtain ⟨x, hx⟩ : ∃ x : Nat, l[j].1 = (x : Int) := ⟨l[j].1.toNat, by omega⟩
        obtain ⟨y, hy⟩ : ∃ y : Nat, l[j].2 = (y : Int) := ⟨l[j].2.toNat, by omega⟩
        have hee : l[j] = ((x : Int), (y : Int)) := Prod.ext hx hy
        rw [hee] at htk hds hbad2 hq3 hq4 r1 r2 r3
        simp only at r1 r2 r3 hbad2 hds
        obtain ⟨a, b, hab, hb10, hmin, hmax, hor⟩ : ∃ a b : Nat, a < b ∧ b < 10 ∧ min (x : Int) (y : Int) = (a : Int) ∧ max (x : Int) (y : Int) = (b : Int) ∧ ((((x : Int), (y : Int)) : Int × Int) = ((a : Int), (b : Int)) ∨ (((x : Int), (y : Int)) : Int × Int) = ((b : Int), (a : Int))) := by
          rcases Nat.lt_or_ge x y with h | h
          · exact ⟨x, y, h, by omega, by omega, by omega, .inl rfl⟩
          · exact ⟨y, x, by omega, by omega, by omega, by omega, .inr rfl⟩
        have hid : (a : Int) * 10 + (b : Int) = ((a * 10 + b : Nat) : Int) := by omega
        have hil : a * 10 + b < T.length := by rw [hM.len]; omega
        have hil2 : a * 10 + b < 100 := by omega
        have hl0 := hT.ld hil
        have hat := hM.at' a b hab hb10
        rw [getD_at hil] at hat
        have heq : decide (((a : Int), (b : Int)) ∈ (Ls.take i).flatten ++ l.take j ∨ ((b : Int), (a : Int)) ∈ (Ls.take i).flatten ++ l.take j) = decide (((x : Int), (y : Int)) ∈ (Ls.take i).flatten ++ l.take j ∨ ((y : Int), (x : Int)) ∈ (Ls.take i).flatten ++ l.take j) := by
          congr 1
          rcases hor with h | h
          · injection h with h1 h2; rw [h1, h2]
          · injection h with h1 h2; rw [h1, h2]; exact propext Or.comm
        rw [heq] at hat
        rw [hat] at hl0
        obtain ⟨hst, hT2⟩ := hT.st hil (x := true) (c := .b true) rfl rfl
        have hM2 := hM.add hab hb10 hor
        rw [← htk] at hM2
        have e10 : (a : Int) * 10 = ((a * 10 : Nat) : Int) := by omega
        have e11 : ((a * 10 : Nat) : Int) + (b : Int) = ((a * 10 + b : Nat) : Int) := by omega
        have hpb : beqV p p = true := by
          obtain ⟨p2, z1, _, z3⟩ := (hv.grow hc hG).out.atb i hiu
          obtain rfl : p = p2 := by have := (hp1 .i64 h3).symm.trans (z1 .i64 h3); injection this
          exact z3
        cases hd : decide (((x : Int), (y : Int)) ∈ (Ls.take i).flatten ++ l.take j ∨ ((y : Int), (x : Int)) ∈ (Ls.take i).flatten ++ l.take j) with
        | true =>
          rw [hd] at hl0
          have hno := hbad2 (of_decide_eq_true hd)
          simp (disch := omega) only [f48_r7, f48_r8, f48_r9, f48_r10, f48_r11, f48_rs, w_skip, w_reg, w_draw, w_seq, w_cond, w_block, w_ret, seqK_n, seqK_r, atK_r, loopK_r, ckB_b, cbB_b, true_and, retK_r, x_nil, x_mv, x_as, x_ld, x_bin, x_iadr, x_iads, x_len, x_min, x_max, kx, kg, xg_nil, xg_mv, xg_ld, xg_iadr, xg_iads, xd_cons, fresh_nil, stK_n, stK_s, stay_nil, stay_cons, again_ok, stay_mv, beq_i, stay_iads, stay_ld, beq_p, rvP_ok, okv_some, ev_t, ev_c, getV_some, putD_some, bin_add, bin_mul, bin_lss, onP_p, oGet_s, idx_n, min_ii, max_ii, readRs_nil, readRs_t, retV_1, of0, of1, of10, Option.some.injEq, exists_eq_left', getK_set, Nat.reduceEqDiff, ↓reduceIte, stay_iadr, ix2_0, ix2_1, g1, g5, g6, g7, hp1, hp2, hlu, d1, hq1, hq3, hq4, hvb, hub, hpb, hmin, hmax, e10, e11, hl0, hno, true_and, fw64]
          exact hG
        | false =>
          rw [hd] at hl0
          simp (disch := omega) only [f48_r7, f48_r8, f48_r9, f48_r10, w_skip, w_reg, w_draw, w_seq, w_cond, w_block, seqK_n, ckB_b, cbB_b, true_and, x_nil, x_mv, x_as, x_ld, x_bin, x_iadr, x_iads, x_len, x_min, x_max, kx, kg, xg_nil, xg_mv, xg_ld, xg_iadr, xg_iads, xd_cons, fresh_nil, stK_n, stK_s, stay_nil, stay_cons, again_ok, stay_mv, beq_i, stay_iads, stay_ld, beq_p, rvP_ok, okv_some, ev_t, ev_c, getV_some, putD_some, bin_add, bin_mul, bin_lss, onP_p, idx_n, min_ii, max_ii, of0, of1, of10, getK_set, Nat.reduceEqDiff, ↓reduceIte, Bool.false_eq_true, stay_iadr, ix2_0, ix2_1, g1, g5, g6, g7, hp1, hp2, hlu, d1, hq1, hq3, hq4, hvb, hub, hpb, hmin, hmax, e10, e11, hl0, fw64]
          simp (disch := omega) only [f48_r12, f48_r13, w_reg, seqK_n, atK_n, loopK_n, x_nil, x_mv, x_as, x_st, x_bin, x_iadr, kx, rvP_ok, okv_some, ev_t, ev_c, getV_some, putD_some, putD_none, bin_add, onP_p, idx_n, of1, getK_set, Nat.reduceEqDiff, ↓reduceIte, g5, g7, hst, fw64]
          exact ⟨j + 1, by omega, by omega, hG.trans (Grow.put (Nat.le_refl _) hnx _), hds.2 (of_decide_eq_false hd), _, hT2, hM2, hnx, by simp (disch := omega) only [getK_set, Nat.reduceEqDiff, ↓reduceIte, g0, g1, g5, g6, and_self, Int.natCast_add, Int.natCast_one]⟩
      · have d1 : decide ((j : Int) < (l.length : Int)) = false := by simpa using hlt2
        have ej : j = l.length := by omega
        have hfl2 : (Ls.take (i + 1)).flatten = (Ls.take i).flatten ++ l := by rw [hsn, List.flatten_append]; simp
        rw [ej, List.take_length, ← hfl2] at hM hpw
        simp (disch := omega) only [f48_r7, f48_r14, w_reg, w_seq, w_cond, w_exit, seqK_n, seqK_e, atK_n, atK_e, loopK_n, loopK_e, ckB_b, cbB_b, true_and, x_nil, x_mv, x_as, x_ld, x_bin, x_iads, x_len, kx, rvP_ok, okv_some, ev_t, ev_c, getV_some, putD_some, bin_add, bin_lss, of1, getK_set, Nat.reduceEqDiff, ↓reduceIte, Bool.false_eq_true, g1, g6, g7, hp1, hp2, hlu, d1, fw64]
        exact ⟨i + 1, by omega, by omega, hG, fun l' hl' => by
          rw [hsn] at hl'
          rcases List.mem_append.1 hl' with hl' | hl'
          · exact hall _ hl'
          · rw [List.mem_singleton.1 hl']; exact hr, hpw, T, hT, hM, hnx, by simp (disch := omega) only [getK_set, Nat.reduceEqDiff, ↓reduceIte, g0, g1, g5, and_self, Int.natCast_add, Int.natCast_one]⟩
  · have d0 : decide ((i : Int) < (Ls.length : Int)) = false := by simpa using hlt
    have ei : i = Ls.length := by omega
    rw [ei, List.take_length] at hall hpw
    have hyes : decide ((Ls.length : Int) < (n : Int)) = bgB n Ls := by
      unfold bgB
      rw [List.all_eq_true.2 hall, decide_eq_true hpw, Bool.and_true, Bool.and_true, Bool.eq_iff_iff]
      simp only [decide_eq_true_iff]
      omega
    simp (disch := omega) only [f48_r3, f48_r15, f48_rs, w_reg, w_seq, w_cond, w_exit, w_ret, seqK_n, seqK_e, atK_e, loopK_e, ckB_b, cbB_b, true_and, retK_r, x_nil, x_mv, x_as, x_bin, x_len, kx, rvP_ok, okv_some, ev_t, getV_some, putD_some, bin_lss, oGet_s, readRs_nil, readRs_t, retV_1, Option.some.injEq, exists_eq_left', getK_set, Nat.reduceEqDiff, ↓reduceIte, Bool.false_eq_true, g0, g1, g6, hlen, d0, hyes, true_and]
    exact hG
end
end Go.Ev
