/-
  The evaluator, weakest preconditions: a store into a slice of pairs; slices of slices of pairs.
  Labels: the copies.
  Labels: the copies, gathered.
  Labels: the law LabelsCopies.
  Labels: copies of graceful labels cover all pairs just once; turned labels.
  Labels: Covers.
  Labels: sums of differences; sides; complete graphs.
  Labels: complete graphs of two to five nodes.
  Labels: the law LabelsParity.
  Labels: all pairs just once, counted in two ways.
  Labels: the reference's Check.
  Labels: is a graph a caterpillar?
  Labels: is a graph a caterpillar?
  Labels: the law LabelsChecks.
  Labels: the law LabelsCovers.
-/
import Derived.Test.YtmnojcnimncbpaaPe
import Derived.KernelRfl
namespace Go.Ev
open Go Go.RowKit
section
variable {h h' : H} {v u : V} {L : List (Int × Int)} {b : Nat}
/-! ### Slices of slices of pairs -/
def vE (u : V) : V := u
structure Sll (h : H) (v : V) (us : List V) (Ls : List (List (Int × Int))) : Prop where
  len : us.length = Ls.length
  out : Sl vE h v us
  inn : ∀ i (h1 : i < us.length) (h2 : i < Ls.length), Srp h us[i] Ls[i]
  sep : ∀ u ∈ us, ∀ id off n sz, u = .sl id off n sz → NotIn id v
section
variable {us : List V} {Ls : List (List (Int × Int))}
theorem Sll.nil : Sll h .sn [] [] := ⟨rfl, Sl.nil, fun i h1 => absurd h1 (by simp), fun u hu => absurd hu (by simp)⟩
theorem Sll.grow (s : Sll h v us Ls) (hc : HC h) (hg : Grow h.nx.nat h h') : Sll h' v us Ls := ⟨s.len, s.out.grow hc hg, fun i h1 h2 => (s.inn i h1 h2).grow hc hg, s.sep⟩
theorem Srp.cell {L : List (Int × Int)} (hs : Srp h v L) : cellsN 1 v = some [v] := by rcases hs with ⟨rfl, _⟩ | ⟨_, _, _, _, rfl, _⟩ <;> rfl
theorem Srp.old {L : List (Int × Int)} (hs : Srp h v L) (hg : ∀ id off n sz, v = .sl id off n sz → h'.get id = h.get id) : Srp h' v L := by
  rcases hs with hs | ⟨id, off, m, cs, rfl, hb, hx⟩
  · exact .inl hs
  · exact .inr ⟨id, off, m, cs, rfl, by rw [hg _ _ _ _ rfl]; exact hb, hx⟩
/-- append(v, u): a slice more. -/
theorem Sll.push (s : Sll h v us Ls) (ho : Own b v) (hb : b ≤ h.nx.nat) (hc : HC h) (hn : Ls.length < 16777216) (hu : Srp h u L) (hsep : ∀ id off n sz, u = .sl id off n sz → NotIn id v) :
    ∃ v' h', appV 1 (h.new (.cells (1 * 1) [u])) v (.sl h.nx 0 1 1) = .ok v' h' ∧ Sll h' v' (us ++ [u]) (Ls ++ [L]) ∧ Own b v' ∧ Grow b h h' ∧ ∀ id : K, id.nat < h.nx.nat → NotIn id v → h'.get id = h.get id ∧ NotIn id v' := by
  obtain ⟨v', h', e1, e2, e3, e4, e5⟩ := Sl.push (e := vE) (x := u) (c := u) rfl s.out ho hb hc (by rw [s.len]; exact hn)
  have hul : ∀ id off n sz, u = .sl id off n sz → id.nat < h.nx.nat := Srk.lt hu hc
  have hil : ∀ w ∈ us, ∀ id off n sz, w = .sl id off n sz → id.nat < h.nx.nat := fun w hw => by
    obtain ⟨i, hi, rfl⟩ := List.getElem_of_mem hw
    exact Srk.lt (s.inn i hi (by rw [← s.len]; exact hi)) hc
  refine ⟨v', h', e1, ⟨by rw [List.length_append, List.length_append, s.len]; rfl, e2, fun i h1 h2 => ?_, fun w hw id off n sz ew => ?_⟩, e3, e4, e5⟩
  · by_cases hi : i < us.length
    · have hi2 : i < Ls.length := by rw [← s.len]; exact hi
      rw [List.getElem_append_left hi, List.getElem_append_left hi2]
      exact (s.inn i hi hi2).old fun id off n sz ew => (e5 id (hil _ (List.getElem_mem hi) _ _ _ _ ew) (s.sep _ (List.getElem_mem hi) _ _ _ _ ew)).1
    · have hl : i = us.length := by rw [List.length_append] at h1; simp at h1; omega
      subst hl
      rw [List.getElem_append_right (Nat.le_refl _), List.getElem_append_right (by rw [s.len]; exact Nat.le_refl _)]
      simp only [Nat.sub_self, List.getElem_cons_zero, s.len]
      exact hu.old fun id off n sz ew => (e5 id (hul _ _ _ _ ew) (hsep _ _ _ _ ew)).1
  · rcases List.mem_append.1 hw with hw | hw
    · exact (e5 id (hil w hw _ _ _ _ ew) (s.sep w hw _ _ _ _ ew)).2
    · rw [List.mem_singleton.1 hw] at ew
      exact (e5 id (hul _ _ _ _ ew) (hsep _ _ _ _ ew)).2
end
end
end Go.Ev
namespace Go.Ev
section
variable {h h' : H} {v u : V} {L M : List (Int × Int)}
/-- v[:u] of pairs that are only read. -/
theorem Srp.cut {u : Nat} {kk : IntKind} (hs : Srp h v L) (h2 : u ≤ L.length) : ∃ v', (∀ h1, sliceB 2 v none (some (.i kk (u : Int))) none h1 = .ok v' h1) ∧ Srp h v' (L.take u) ∧ (∀ b, Own b v → Own b v') := by
  rcases hs with ⟨rfl, h0, _⟩ | ⟨id, off, m, cs, rfl, hb, hll, hm, hx⟩
  · have hu0 : u = 0 := by omega
    subst hu0
    exact ⟨.sn, fun h1 => rfl, .inl ⟨rfl, by simp, by simp⟩, fun _ h => h⟩
  · have hmul : u * 2 ≤ L.length * 2 := Nat.mul_le_mul_right 2 h2
    refine ⟨.sl id (off + 0 * 2) (u - 0) 2, fun h1 => ?_, .inr ⟨id, off + 0 * 2, m, cs, ?_, hb, hll, ?_, ?_⟩, fun b ho _ _ _ _ e => by cases e; exact ho _ _ _ _ rfl⟩
    · unfold sliceB
      show cutV id off L.length 2 h1 0 u none = _
      unfold cutV
      rw [Nat.ble_eq_true_of_le (Nat.zero_le u), Nat.ble_eq_true_of_le h2]; rfl
    · congr 1; simp; omega
    · rw [List.length_take, Nat.min_eq_left h2]; omega
    · rw [List.length_take, Nat.min_eq_left h2, ← flat_take qE_len L u h2, ← hx, List.take_take, Nat.min_eq_left hmul]; simp
/-- append to nil. -/
theorem Srp.appN (hs : Srp h u M) (_ : HC h) (hn : M.length ≤ 16777216) : ∃ v' h', appV 2 h .sn u = .ok v' h' ∧ Sk 2 qE h' v' M ∧ Own h.nx.nat v' ∧ Grow h.nx.nat h h' := by
  have hadd : Go.Ev.addOf 2 h u = some (M.length, M.flatMap qE) := by
    rcases hs with ⟨rfl, h0, h1⟩ | ⟨id, off, m, cs, rfl, hb, hll, hm, hx⟩
    · rw [h1, h0]; rfl
    · show (h.get id).onC none (fun len cs => bif Nat.beq 2 2 && Nat.ble (off + M.length * 2) len then some (M.length, takeN (M.length * 2) (dropN off cs)) else none) = _
      have e0 : (h.get id).onC none (fun len cs => bif Nat.beq 2 2 && Nat.ble (off + M.length * 2) len then some (M.length, takeN (M.length * 2) (dropN off cs)) else none) = (bif Nat.beq 2 2 && Nat.ble (off + M.length * 2) m then some (M.length, takeN (M.length * 2) (dropN off cs)) else none) := by
        rcases hb with hb | hb <;> rw [hb] <;> rfl
      rw [e0, Nat.ble_eq_true_of_le hm, takeN_eq, dropN_eq, hx]; rfl
  unfold appV
  rw [hadd]
  show ∃ v' h', (bif Nat.ble M.length 16777216 then app0 2 h M.length (M.flatMap qE) else RV.no) = .ok v' h' ∧ _
  rw [Nat.ble_eq_true_of_le hn]
  show ∃ v' h', app0 2 h M.length (M.flatMap qE) = .ok v' h' ∧ _
  unfold app0
  by_cases hz : M.length = 0
  · have : M = [] := List.length_eq_zero_iff.1 hz
    subst this
    exact ⟨.sn, h, rfl, Sk.nil, Own.sn, Grow.refl _ _⟩
  · rw [show Nat.beq M.length 0 = false by rw [← Bool.not_eq_true]; intro h; exact hz (Nat.eq_of_beq_eq_true h)]
    exact ⟨_, _, rfl, .inr ⟨h.nx, 0, M.length * 2, M.flatMap qE, rfl, get_new_same, flat_len qE_len M, by omega, by rw [List.drop_zero, List.take_of_length_le (by rw [flat_len qE_len]; omega)]⟩, fun _ _ _ _ h => by cases h; exact Nat.le_refl _, Grow.new (Nat.le_refl _) _⟩
end
end Go.Ev
namespace Go.Ev
open Go Go.RowKit
section
variable {fs : T EF} {ro : Option K} {h h' : H} {v w : V} {E : List (Int × Int)} {L : List Int} {ide idl : K}
end
end Go.Ev
namespace Go.Ev
open Go Go.RowKit
section
variable {fs : T EF}
section
variable {h : H} {v w : V} {m : Nat} {E : List (Int × Int)} {L : List Int}
end
end
end Go.Ev
namespace Go.Ev
open Go Go.RowKit
noncomputable def f6_r0 : List EOper := [⟨(some (K.ofNat 6)), none, .as (.c (.b false))⟩]
noncomputable def f6_r1 : List EOper := [⟨(some (K.ofNat 14)), none, .mv (.t (K.ofNat 0))⟩, ⟨(some (K.ofNat 15)), none, .mv (.t (K.ofNat 1))⟩, ⟨(some (K.ofNat 16)), none, .call (.c (.fn (K.ofNat 28) [])) [(.t (K.ofNat 14)), (.t (K.ofNat 15)), (.c (.i .i64 (.ofNat 10)))]⟩, ⟨(some (K.ofNat 13)), none, .mv (.t (K.ofNat 16))⟩, ⟨(some (K.ofNat 17)), none, .ext (.t (K.ofNat 13)) 0⟩, ⟨(some (K.ofNat 18)), none, .ext (.t (K.ofNat 13)) 1⟩, ⟨(some (K.ofNat 7)), none, .as (.t (K.ofNat 17))⟩, ⟨(some (K.ofNat 8)), none, .as (.t (K.ofNat 18))⟩]
noncomputable def f6_r2 : List EOper := [⟨(some (K.ofNat 19)), none, .mv (.t (K.ofNat 2))⟩, ⟨(some (K.ofNat 20)), none, .call (.c (.fn (K.ofNat 15) [])) [(.t (K.ofNat 19)), (.c (.i .i64 (.ofNat 10)))]⟩, ⟨(some (K.ofNat 9)), none, .as (.t (K.ofNat 20))⟩]
noncomputable def f6_r3 : List EOper := [⟨(some (K.ofNat 10)), none, .as (.c (.i .i64 (.ofNat 0)))⟩]
noncomputable def f6_r4 : List EOper := [⟨(some (K.ofNat 21)), none, .mv (.t (K.ofNat 10))⟩, ⟨(some (K.ofNat 22)), none, .bin .lss (.t (K.ofNat 21)) (.c (.i .i64 (.ofNat 2)))⟩]
noncomputable def f6_r5 : List EOper := [⟨(some (K.ofNat 26)), none, .mv (.t (K.ofNat 7))⟩, ⟨(some (K.ofNat 27)), none, .mv (.t (K.ofNat 8))⟩, ⟨(some (K.ofNat 28)), none, .mv (.t (K.ofNat 9))⟩, ⟨(some (K.ofNat 29)), none, .call (.c (.fn (K.ofNat 21) [])) [(.t (K.ofNat 26)), (.t (K.ofNat 27)), (.t (K.ofNat 28))]⟩, ⟨(some (K.ofNat 25)), none, .mv (.t (K.ofNat 29))⟩, ⟨(some (K.ofNat 30)), none, .ext (.t (K.ofNat 25)) 0⟩, ⟨(some (K.ofNat 31)), none, .ext (.t (K.ofNat 25)) 1⟩, ⟨(some (K.ofNat 11)), none, .as (.t (K.ofNat 30))⟩, ⟨(some (K.ofNat 12)), none, .as (.t (K.ofNat 31))⟩]
noncomputable def f6_r6 : List EOper := [⟨(some (K.ofNat 32)), none, .mv (.t (K.ofNat 7))⟩, ⟨(some (K.ofNat 33)), none, .mv (.t (K.ofNat 8))⟩, ⟨(some (K.ofNat 34)), none, .mv (.t (K.ofNat 9))⟩, ⟨(some (K.ofNat 35)), none, .call (.c (.fn (K.ofNat 32) [])) [(.t (K.ofNat 32)), (.t (K.ofNat 33)), (.t (K.ofNat 34))]⟩, ⟨(some (K.ofNat 36)), none, .not (.t (K.ofNat 35))⟩]
noncomputable def f6_r7 : List EOper := [⟨(some (K.ofNat 37)), none, .mv (.t (K.ofNat 12))⟩, ⟨(some (K.ofNat 38)), none, .bin .neq (.t (K.ofNat 37)) (.c (.i .i64 (.ofNat 1)))⟩, ⟨(some (K.ofNat 39)), none, .mv (.t (K.ofNat 38))⟩, ⟨(some (K.ofNat 40)), (some ((K.ofNat 39), false)), .mv (.t (K.ofNat 11))⟩, ⟨(some (K.ofNat 41)), (some ((K.ofNat 39), false)), .len (.t (K.ofNat 40))⟩, ⟨(some (K.ofNat 42)), (some ((K.ofNat 39), false)), .bin .neq (.t (K.ofNat 41)) (.c (.i .i64 (.ofNat 0)))⟩, ⟨(some (K.ofNat 43)), none, .pick (.t (K.ofNat 39)) (.c (.b true)) (.t (K.ofNat 42))⟩]
noncomputable def f6_r8 : List EOper := [⟨(some (K.ofNat 6)), none, .as (.c (.b false))⟩]
noncomputable def f6_r9 : List EOper := [⟨(some (K.ofNat 44)), none, .mv (.t (K.ofNat 12))⟩, ⟨(some (K.ofNat 45)), none, .bin .neq (.t (K.ofNat 44)) (.c (.i .i64 (.ofNat 0)))⟩, ⟨(some (K.ofNat 46)), none, .mv (.t (K.ofNat 45))⟩, ⟨(some (K.ofNat 47)), (some ((K.ofNat 46), false)), .mv (.t (K.ofNat 11))⟩, ⟨(some (K.ofNat 48)), (some ((K.ofNat 46), false)), .mv (.t (K.ofNat 8))⟩, ⟨(some (K.ofNat 49)), (some ((K.ofNat 46), false)), .mv (.t (K.ofNat 9))⟩, ⟨(some (K.ofNat 50)), (some ((K.ofNat 46), false)), .call (.c (.fn (K.ofNat 36) [])) [(.t (K.ofNat 48)), (.t (K.ofNat 49))]⟩, ⟨(some (K.ofNat 51)), (some ((K.ofNat 46), false)), .call (.c (.fn (K.ofNat 35) [])) [(.t (K.ofNat 47)), (.t (K.ofNat 50))]⟩, ⟨(some (K.ofNat 52)), (some ((K.ofNat 46), false)), .not (.t (K.ofNat 51))⟩, ⟨(some (K.ofNat 53)), none, .pick (.t (K.ofNat 46)) (.c (.b true)) (.t (K.ofNat 52))⟩]
noncomputable def f6_r10 : List EOper := [⟨(some (K.ofNat 6)), none, .as (.c (.b false))⟩]
noncomputable def f6_r11 : List EOper := [⟨(some (K.ofNat 54)), none, .mv (.t (K.ofNat 7))⟩, ⟨(some (K.ofNat 55)), none, .mv (.t (K.ofNat 8))⟩, ⟨(some (K.ofNat 56)), none, .call (.c (.fn (K.ofNat 29) [])) [(.t (K.ofNat 54)), (.t (K.ofNat 55)), (.c (.b false))]⟩, ⟨(some (K.ofNat 9)), none, .as (.t (K.ofNat 56))⟩]
noncomputable def f6_r12 : List EOper := [⟨(some (K.ofNat 23)), none, .mv (.t (K.ofNat 10))⟩, ⟨(some (K.ofNat 24)), none, .bin .add (.t (K.ofNat 23)) (.c (.i .i64 (.ofNat 1)))⟩, ⟨(some (K.ofNat 10)), none, .as (.t (K.ofNat 24))⟩]
noncomputable def f6_l0 : EC := (.seq (.seq (.reg f6_r4) (.cond (.t (K.ofNat 22)) .skip (.exit 0))) (.seq (.block 1 (.seq (.reg f6_r5) (.seq (.seq (.reg f6_r6) (.cond (.t (K.ofNat 36)) (.seq (.reg f6_r7) (.cond (.t (K.ofNat 43)) (.seq (.reg f6_r8) .ret) .skip)) (.seq (.reg f6_r9) (.cond (.t (K.ofNat 53)) (.seq (.reg f6_r10) .ret) .skip)))) (.reg f6_r11)))) (.reg f6_r12)))
noncomputable def f6_r13 : List EOper := [⟨(some (K.ofNat 57)), none, .call (.c (.fn (K.ofNat 23) [])) []⟩, ⟨(some (K.ofNat 6)), none, .as (.t (K.ofNat 57))⟩]
noncomputable def f6_c : EC := (.seq (.reg f6_r0) (.seq (.reg f6_r1) (.seq (.reg f6_r2) (.seq (.seq (.reg f6_r3) (.block 0 (.loop f6_l0))) (.seq (.reg f6_r13) .ret)))))
noncomputable def f6 : EF := ⟨58, [.tmp (K.ofNat 6)], f6_c, none⟩
section
variable {fs : T EF} {h : H} {v w : V} {n : Nat} {E : List (Int × Int)} {L : List Int}
end
end Go.Ev
namespace Go.Ev
open Go Go.RowKit
section
variable {n : Nat} {E : List (Int × Int)} {M : List Int}
end
end Go.Ev
namespace Go.Ev
open Go Go.RowKit
noncomputable def f71_r0 : List EOper := [⟨(some (K.ofNat 4)), none, .as (.c (.i .i64 (.ofNat 0)))⟩]
noncomputable def f71_r1 : List EOper := [⟨(some (K.ofNat 9)), none, .mv (.t (K.ofNat 0))⟩, ⟨(some (K.ofNat 10)), none, .bin .lss (.t (K.ofNat 9)) (.c (.i .i64 (.ofNat 2)))⟩, ⟨(some (K.ofNat 11)), none, .mv (.t (K.ofNat 10))⟩, ⟨(some (K.ofNat 12)), (some ((K.ofNat 11), false)), .mv (.t (K.ofNat 0))⟩, ⟨(some (K.ofNat 13)), (some ((K.ofNat 11), false)), .bin .gtr (.t (K.ofNat 12)) (.c (.i .i64 (.ofNat 21)))⟩, ⟨(some (K.ofNat 14)), none, .pick (.t (K.ofNat 11)) (.c (.b true)) (.t (K.ofNat 13))⟩, ⟨(some (K.ofNat 15)), none, .mv (.t (K.ofNat 14))⟩, ⟨(some (K.ofNat 16)), (some ((K.ofNat 15), false)), .mv (.t (K.ofNat 1))⟩, ⟨(some (K.ofNat 17)), (some ((K.ofNat 15), false)), .len (.t (K.ofNat 16))⟩, ⟨(some (K.ofNat 18)), (some ((K.ofNat 15), false)), .bin .gtr (.t (K.ofNat 17)) (.c (.i .i64 (.ofNat 40)))⟩, ⟨(some (K.ofNat 19)), none, .pick (.t (K.ofNat 15)) (.c (.b true)) (.t (K.ofNat 18))⟩]
noncomputable def f71_r2 : List EOper := [⟨(some (K.ofNat 4)), none, .as (.c (.i .i64 (.ofNat 1)))⟩]
noncomputable def f71_r3 : List EOper := [⟨(some (K.ofNat 20)), none, .mv (.t (K.ofNat 1))⟩, ⟨(some (K.ofNat 21)), none, .len (.t (K.ofNat 20))⟩, ⟨(some (K.ofNat 22)), none, .mv (.c (.i .i64 (.ofNat 0)))⟩]
noncomputable def f71_r4 : List EOper := [⟨(some (K.ofNat 23)), none, .bin .lss (.t (K.ofNat 22)) (.t (K.ofNat 21))⟩]
noncomputable def f71_r5 : List EOper := [⟨(some (K.ofNat 24)), none, .iads 1 (.t (K.ofNat 20)) (.t (K.ofNat 22))⟩, ⟨(some (K.ofNat 25)), none, .ld (.t (K.ofNat 24))⟩, ⟨(some (K.ofNat 6)), none, .as (.t (K.ofNat 25))⟩]
noncomputable def f71_r6 : List EOper := [⟨(some (K.ofNat 26)), none, .mv (.t (K.ofNat 6))⟩, ⟨(some (K.ofNat 27)), none, .len (.t (K.ofNat 26))⟩, ⟨(some (K.ofNat 28)), none, .bin .gtr (.t (K.ofNat 27)) (.c (.i .i64 (.ofNat 20)))⟩]
noncomputable def f71_r7 : List EOper := [⟨(some (K.ofNat 4)), none, .as (.c (.i .i64 (.ofNat 1)))⟩]
noncomputable def f71_r8 : List EOper := [⟨(some (K.ofNat 29)), none, .mv (.t (K.ofNat 6))⟩, ⟨(some (K.ofNat 30)), none, .len (.t (K.ofNat 29))⟩, ⟨(some (K.ofNat 31)), none, .mv (.c (.i .i64 (.ofNat 0)))⟩]
noncomputable def f71_r9 : List EOper := [⟨(some (K.ofNat 32)), none, .bin .lss (.t (K.ofNat 31)) (.t (K.ofNat 30))⟩]
noncomputable def f71_r10 : List EOper := [⟨(some (K.ofNat 33)), none, .iads 2 (.t (K.ofNat 29)) (.t (K.ofNat 31))⟩, ⟨(some (K.ofNat 34)), none, .ldn 2 (.t (K.ofNat 33))⟩, ⟨(some (K.ofNat 8)), none, .alloc 2 [(.i .i64 (.ofNat 0)), (.i .i64 (.ofNat 0))]⟩, ⟨none, none, .st 2 (.t (K.ofNat 8)) (.t (K.ofNat 34))⟩]
noncomputable def f71_r11 : List EOper := [⟨(some (K.ofNat 35)), none, .mv (.t (K.ofNat 0))⟩, ⟨(some (K.ofNat 36)), none, .ldn 2 (.t (K.ofNat 8))⟩, ⟨(some (K.ofNat 37)), none, .call (.c (.fn (K.ofNat 60) [])) [(.t (K.ofNat 35)), (.t (K.ofNat 36))]⟩, ⟨(some (K.ofNat 38)), none, .not (.t (K.ofNat 37))⟩]
noncomputable def f71_r12 : List EOper := [⟨(some (K.ofNat 4)), none, .as (.c (.i .i64 (.ofNat 1)))⟩]
noncomputable def f71_r13 : List EOper := [⟨(some (K.ofNat 39)), none, .bin .add (.t (K.ofNat 31)) (.c (.i .i64 (.ofNat 1)))⟩, ⟨(some (K.ofNat 31)), none, .mv (.t (K.ofNat 39))⟩]
noncomputable def f71_l0 : EC := (.seq (.reg f71_r9) (.seq (.cond (.t (K.ofNat 32)) .skip (.exit 2)) (.seq (.block 3 (.seq (.reg f71_r10) (.seq (.reg f71_r11) (.cond (.t (K.ofNat 38)) (.seq (.reg f71_r12) .ret) .skip)))) (.reg f71_r13))))
noncomputable def f71_r14 : List EOper := [⟨(some (K.ofNat 40)), none, .bin .add (.t (K.ofNat 22)) (.c (.i .i64 (.ofNat 1)))⟩, ⟨(some (K.ofNat 22)), none, .mv (.t (K.ofNat 40))⟩]
noncomputable def f71_l1 : EC := (.seq (.reg f71_r4) (.seq (.cond (.t (K.ofNat 23)) .skip (.exit 0)) (.seq (.block 1 (.seq (.reg f71_r5) (.seq (.seq (.reg f71_r6) (.cond (.t (K.ofNat 28)) (.seq (.reg f71_r7) .ret) .skip)) (.seq (.reg f71_r8) (.block 2 (.loop f71_l0)))))) (.reg f71_r14))))
noncomputable def f71_r15 : List EOper := [⟨(some (K.ofNat 4)), none, .as (.c (.i .i64 (.ofNat 0)))⟩]
noncomputable def f71_c : EC := (.seq (.reg f71_r0) (.seq (.seq (.reg f71_r1) (.cond (.t (K.ofNat 19)) (.seq (.reg f71_r2) .ret) .skip)) (.seq (.seq (.reg f71_r3) (.block 0 (.loop f71_l1))) (.seq (.reg f71_r15) .ret))))
noncomputable def f71 : EF := ⟨41, [.tmp (K.ofNat 4)], f71_c, none⟩
theorem f71_rs : f71.rs = [.tmp (K.ofNat 4)] := of_eq_true (eq_self _)
noncomputable def f72_r0 : List EOper := [⟨(some (K.ofNat 4)), none, .as (.c (.b false))⟩]
noncomputable def f72_r1 : List EOper := [⟨(some (K.ofNat 11)), none, .mkmap 139⟩, ⟨(some (K.ofNat 5)), none, .as (.t (K.ofNat 11))⟩]
noncomputable def f72_r2 : List EOper := [⟨(some (K.ofNat 12)), none, .mv (.t (K.ofNat 1))⟩, ⟨(some (K.ofNat 13)), none, .len (.t (K.ofNat 12))⟩, ⟨(some (K.ofNat 14)), none, .mv (.c (.i .i64 (.ofNat 0)))⟩]
noncomputable def f72_r3 : List EOper := [⟨(some (K.ofNat 15)), none, .bin .lss (.t (K.ofNat 14)) (.t (K.ofNat 13))⟩]
noncomputable def f72_r4 : List EOper := [⟨(some (K.ofNat 16)), none, .iads 1 (.t (K.ofNat 12)) (.t (K.ofNat 14))⟩, ⟨(some (K.ofNat 17)), none, .ld (.t (K.ofNat 16))⟩, ⟨(some (K.ofNat 7)), none, .as (.t (K.ofNat 17))⟩]
noncomputable def f72_r5 : List EOper := [⟨(some (K.ofNat 18)), none, .mv (.t (K.ofNat 7))⟩, ⟨(some (K.ofNat 19)), none, .len (.t (K.ofNat 18))⟩, ⟨(some (K.ofNat 20)), none, .mv (.c (.i .i64 (.ofNat 0)))⟩]
noncomputable def f72_r6 : List EOper := [⟨(some (K.ofNat 21)), none, .bin .lss (.t (K.ofNat 20)) (.t (K.ofNat 19))⟩]
noncomputable def f72_r7 : List EOper := [⟨(some (K.ofNat 22)), none, .iads 2 (.t (K.ofNat 18)) (.t (K.ofNat 20))⟩, ⟨(some (K.ofNat 23)), none, .ldn 2 (.t (K.ofNat 22))⟩, ⟨(some (K.ofNat 9)), none, .alloc 2 [(.i .i64 (.ofNat 0)), (.i .i64 (.ofNat 0))]⟩, ⟨none, none, .st 2 (.t (K.ofNat 9)) (.t (K.ofNat 23))⟩]
noncomputable def f72_r8 : List EOper := [⟨(some (K.ofNat 24)), none, .iadr 2 1 (.t (K.ofNat 9)) (.c (.i .i64 (.ofNat 0)))⟩, ⟨(some (K.ofNat 25)), none, .ld (.t (K.ofNat 24))⟩, ⟨(some (K.ofNat 26)), none, .iadr 2 1 (.t (K.ofNat 9)) (.c (.i .i64 (.ofNat 1)))⟩, ⟨(some (K.ofNat 27)), none, .ld (.t (K.ofNat 26))⟩, ⟨(some (K.ofNat 28)), none, .build [(.i .i64 (.ofNat 0)), (.i .i64 (.ofNat 0))] [(0, 1, (.t (K.ofNat 25))), (1, 1, (.t (K.ofNat 27)))]⟩, ⟨(some (K.ofNat 10)), none, .alloc 2 [(.i .i64 (.ofNat 0)), (.i .i64 (.ofNat 0))]⟩, ⟨none, none, .st 2 (.t (K.ofNat 10)) (.t (K.ofNat 28))⟩]
noncomputable def f72_r9 : List EOper := [⟨(some (K.ofNat 29)), none, .mv (.t (K.ofNat 5))⟩, ⟨(some (K.ofNat 30)), none, .ldn 2 (.t (K.ofNat 10))⟩, ⟨(some (K.ofNat 31)), none, .look 139 (.many [(some .i64), (some .i64)]) (.b false) (.t (K.ofNat 29)) (.t (K.ofNat 30)) false⟩]
noncomputable def f72_r10 : List EOper := [⟨(some (K.ofNat 4)), none, .as (.c (.b false))⟩]
noncomputable def f72_r11 : List EOper := [⟨(some (K.ofNat 32)), none, .mv (.t (K.ofNat 5))⟩, ⟨(some (K.ofNat 33)), none, .ldn 2 (.t (K.ofNat 10))⟩, ⟨none, none, .mupd 139 (.many [(some .i64), (some .i64)]) (.t (K.ofNat 32)) (.t (K.ofNat 33)) (.c (.b true))⟩]
noncomputable def f72_r12 : List EOper := [⟨(some (K.ofNat 34)), none, .bin .add (.t (K.ofNat 20)) (.c (.i .i64 (.ofNat 1)))⟩, ⟨(some (K.ofNat 20)), none, .mv (.t (K.ofNat 34))⟩]
noncomputable def f72_l0 : EC := (.seq (.reg f72_r6) (.seq (.cond (.t (K.ofNat 21)) .skip (.exit 2)) (.seq (.block 3 (.seq (.reg f72_r7) (.seq (.reg f72_r8) (.seq (.seq (.reg f72_r9) (.cond (.t (K.ofNat 31)) (.seq (.reg f72_r10) .ret) .skip)) (.reg f72_r11))))) (.reg f72_r12))))
noncomputable def f72_r13 : List EOper := [⟨(some (K.ofNat 35)), none, .bin .add (.t (K.ofNat 14)) (.c (.i .i64 (.ofNat 1)))⟩, ⟨(some (K.ofNat 14)), none, .mv (.t (K.ofNat 35))⟩]
noncomputable def f72_l1 : EC := (.seq (.reg f72_r3) (.seq (.cond (.t (K.ofNat 15)) .skip (.exit 0)) (.seq (.block 1 (.seq (.reg f72_r4) (.seq (.reg f72_r5) (.block 2 (.loop f72_l0))))) (.reg f72_r13))))
noncomputable def f72_r14 : List EOper := [⟨(some (K.ofNat 36)), none, .mv (.t (K.ofNat 5))⟩, ⟨(some (K.ofNat 37)), none, .lenM 139 (.t (K.ofNat 36))⟩, ⟨(some (K.ofNat 38)), none, .mv (.t (K.ofNat 0))⟩, ⟨(some (K.ofNat 39)), none, .mv (.t (K.ofNat 0))⟩, ⟨(some (K.ofNat 40)), none, .bin .sub (.t (K.ofNat 39)) (.c (.i .i64 (.ofNat 1)))⟩, ⟨(some (K.ofNat 41)), none, .bin .mul (.t (K.ofNat 38)) (.t (K.ofNat 40))⟩, ⟨(some (K.ofNat 42)), none, .bin .quo (.t (K.ofNat 41)) (.c (.i .i64 (.ofNat 2)))⟩, ⟨(some (K.ofNat 43)), none, .bin .eql (.t (K.ofNat 37)) (.t (K.ofNat 42))⟩, ⟨(some (K.ofNat 4)), none, .as (.t (K.ofNat 43))⟩]
noncomputable def f72_c : EC := (.seq (.reg f72_r0) (.seq (.reg f72_r1) (.seq (.seq (.reg f72_r2) (.block 0 (.loop f72_l1))) (.seq (.reg f72_r14) .ret))))
noncomputable def f72 : EF := ⟨44, [.tmp (K.ofNat 4)], f72_c, none⟩
theorem f72_rs : f72.rs = [.tmp (K.ofNat 4)] := of_eq_true (eq_self _)
noncomputable def f37_r0 : List EOper := [⟨(some (K.ofNat 4)), none, .as (.c (.b false))⟩, ⟨(some (K.ofNat 5)), none, .as (.c (.i .i64 (.ofNat 0)))⟩]
noncomputable def f37_r1 : List EOper := [⟨(some (K.ofNat 7)), none, .mv (.t (K.ofNat 0))⟩, ⟨(some (K.ofNat 8)), none, .mv (.t (K.ofNat 1))⟩, ⟨(some (K.ofNat 9)), none, .call (.c (.fn (K.ofNat 71) [])) [(.t (K.ofNat 7)), (.t (K.ofNat 8))]⟩, ⟨(some (K.ofNat 6)), none, .as (.t (K.ofNat 9))⟩]
noncomputable def f37_r2 : List EOper := [⟨(some (K.ofNat 10)), none, .mv (.t (K.ofNat 6))⟩, ⟨(some (K.ofNat 11)), none, .bin .neq (.t (K.ofNat 10)) (.c (.i .i64 (.ofNat 0)))⟩]
noncomputable def f37_r3 : List EOper := [⟨(some (K.ofNat 12)), none, .mv (.t (K.ofNat 6))⟩, ⟨(some (K.ofNat 4)), none, .as (.c (.b false))⟩, ⟨(some (K.ofNat 5)), none, .as (.t (K.ofNat 12))⟩]
noncomputable def f37_r4 : List EOper := [⟨(some (K.ofNat 13)), none, .mv (.t (K.ofNat 0))⟩, ⟨(some (K.ofNat 14)), none, .mv (.t (K.ofNat 1))⟩, ⟨(some (K.ofNat 15)), none, .call (.c (.fn (K.ofNat 72) [])) [(.t (K.ofNat 13)), (.t (K.ofNat 14))]⟩, ⟨(some (K.ofNat 4)), none, .as (.t (K.ofNat 15))⟩, ⟨(some (K.ofNat 5)), none, .as (.c (.i .i64 (.ofNat 0)))⟩]
noncomputable def f37_c : EC := (.seq (.reg f37_r0) (.seq (.seq (.reg f37_r1) (.seq (.reg f37_r2) (.cond (.t (K.ofNat 11)) (.seq (.reg f37_r3) .ret) .skip))) (.seq (.reg f37_r4) .ret)))
noncomputable def f37 : EF := ⟨16, [.tmp (K.ofNat 4), .tmp (K.ofNat 5)], f37_c, none⟩
theorem f37_rs : f37.rs = [.tmp (K.ofNat 4), .tmp (K.ofNat 5)] := of_eq_true (eq_self _)
/-- Are these copies of a graph of that size? -/
def rgtB (s : Int) (Ls : List (List (Int × Int))) : Bool := Ls.all fun l => decide (l.length ≤ 20) && l.all (edB s)
def rgtI (s : Int) (Ls : List (List (Int × Int))) : Int := if s < 2 ∨ 21 < s ∨ 40 < Ls.length then 1 else if rgtB s Ls = true then 0 else 1
theorem rgtB_no {s : Int} {Ls : List (List (Int × Int))} {i : Nat} (hi : i < Ls.length) (h : (decide (Ls[i].length ≤ 20) && Ls[i].all (edB s)) = false) : rgtB s Ls = false := by
  rw [Bool.eq_false_iff]
  intro hr
  have := List.all_eq_true.1 hr _ (List.getElem_mem hi)
  rw [h] at this; cases this
section
variable {fs : T EF} {h : H} {v : V} {us : List V} {Ls : List (List (Int × Int))} {s : Int}
def f71_I (h : H) (s : Int) (v : V) (Ls : List (List (Int × Int))) (i : Nat) (fr : Fr) (h1 : H) : Prop := i ≤ Ls.length ∧ Grow h.nx.nat h h1 ∧ (∀ j (hj : j < Ls.length), j < i → (decide (Ls[j].length ≤ 20) && Ls[j].all (edB s)) = true) ∧ fr.get (K.ofNat 0) = some (.i .i64 s) ∧ fr.get (K.ofNat 1) = some (v) ∧ fr.get (K.ofNat 20) = some (v) ∧ fr.get (K.ofNat 21) = some (.i .i64 (Ls.length : Int)) ∧ fr.get (K.ofNat 22) = some (.i .i64 (i : Int))
def f71_J (h : H) (s : Int) (v u : V) (Ls : List (List (Int × Int))) (l : List (Int × Int)) (i : Nat) (j : Nat) (fr : Fr) (h1 : H) : Prop := j ≤ l.length ∧ Grow h.nx.nat h h1 ∧ (l.take j).all (edB s) = true ∧ fr.get (K.ofNat 0) = some (.i .i64 s) ∧ fr.get (K.ofNat 1) = some (v) ∧ fr.get (K.ofNat 6) = some (u) ∧ fr.get (K.ofNat 20) = some (v) ∧ fr.get (K.ofNat 21) = some (.i .i64 (Ls.length : Int)) ∧ fr.get (K.ofNat 22) = some (.i .i64 (i : Int)) ∧ fr.get (K.ofNat 29) = some (u) ∧ fr.get (K.ofNat 30) = some (.i .i64 (l.length : Int)) ∧ fr.get (K.ofNat 31) = some (.i .i64 (j : Int))
theorem f71_ret (h60 : fs.get (K.ofNat 60) = some f60) (hv : Sll h v us Ls) (hc : HC h) (hL : Ls.length ≤ 1000000) : Ret fs f71 [.i .i64 s, v] h fun r h' => r = .i .i64 (rgtI s Ls) ∧ Grow h.nx.nat h h' := by
  apply ret_of rfl
  show W fs none f71_c _ _ _
  unfold f71_c rgtI
  have hl : ∀ h1, lenV v h1 = .ok (.i .i64 (Ls.length : Int)) h1 := fun h1 => by rw [hv.out.len, hv.len]
  cases d1 : decide (s < 2) with
  | true =>
    have h1 : s < 2 ∨ 21 < s ∨ 40 < Ls.length := .inl (by simpa using d1)
    simp (disch := omega) only [f71_r0, f71_r1, f71_r2, f71_rs, w_reg, w_seq, w_cond, w_ret, seqK_n, seqK_r, ckB_b, cbB_b, okG_b, asG_f, true_and, retK_r, x_nil, x_g, x_mv, x_as, x_pick, x_bin, kx, rvP_ok, okv_some, ev_t, ev_c, getV_some, putD_some, bin_lss, pick_b, oGet_s, readRs_nil, readRs_t, retV_1, frame_2, of0, of1, of2, Option.some.injEq, exists_eq_left', getK_set, Nat.reduceEqDiff, ↓reduceIte, Bool.false_eq_true, Bool.not_true, of21, of40, d1, h1, Bool.not_true, true_and]
    exact Grow.refl _ _
  | false =>
  cases d2 : decide (s > 21) with
  | true =>
    have h1 : s < 2 ∨ 21 < s ∨ 40 < Ls.length := .inr (.inl (by simpa using d2))
    simp (disch := omega) only [f71_r0, f71_r1, f71_r2, f71_rs, w_reg, w_seq, w_cond, w_ret, seqK_n, seqK_r, ckB_b, cbB_b, okG_b, asG_f, true_and, retK_r, x_nil, x_g, x_mv, x_as, x_pick, x_bin, kx, rvP_ok, okv_some, ev_t, ev_c, getV_some, putD_some, bin_lss, bin_gtr, pick_b, oGet_s, readRs_nil, readRs_t, retV_1, frame_2, of0, of1, of2, Option.some.injEq, exists_eq_left', getK_set, Nat.reduceEqDiff, ↓reduceIte, Bool.false_eq_true, Bool.not_true, Bool.not_false, of21, of40, d1, d2, h1, Bool.not_true, Bool.not_false, true_and]
    exact Grow.refl _ _
  | false =>
  cases d3 : decide ((Ls.length : Int) > 40) with
  | true =>
    have h0 : (Ls.length : Int) > 40 := by simpa using d3
    have h1 : s < 2 ∨ 21 < s ∨ 40 < Ls.length := .inr (.inr (by omega))
    simp (disch := omega) only [f71_r0, f71_r1, f71_r2, f71_rs, w_reg, w_seq, w_cond, w_ret, seqK_n, seqK_r, ckB_b, cbB_b, okG_b, asG_f, true_and, retK_r, x_nil, x_g, x_mv, x_as, x_pick, x_bin, x_len, kx, rvP_ok, okv_some, ev_t, ev_c, getV_some, putD_some, bin_lss, bin_gtr, pick_b, oGet_s, readRs_nil, readRs_t, retV_1, frame_2, of0, of1, of2, Option.some.injEq, exists_eq_left', getK_set, Nat.reduceEqDiff, ↓reduceIte, Bool.false_eq_true, Bool.not_false, of21, of40, d1, d2, d3, h1, hl, Bool.not_false, true_and]
    exact Grow.refl _ _
  | false =>
  have h1 : ¬ (s < 2 ∨ 21 < s ∨ 40 < Ls.length) := by simp at d1 d2 d3; omega
  simp (disch := omega) only [f71_r0, f71_r1, f71_r3, w_skip, w_reg, w_seq, w_cond, w_block, seqK_n, ckB_b, cbB_b, okG_b, asG_f, true_and, x_nil, x_g, x_mv, x_as, x_pick, x_bin, x_len, kx, rvP_ok, okv_some, ev_t, ev_c, getV_some, putD_some, bin_lss, bin_gtr, pick_b, frame_2, of0, of2, getK_set, Nat.reduceEqDiff, ↓reduceIte, Bool.false_eq_true, Bool.not_false, of21, of40, d1, d2, d3, h1, hl, Bool.not_false]
  refine W_loop (f71_I h s v Ls) (fun i => Ls.length - i) ?_ 0 ⟨by omega, Grow.refl _ _, fun j hj h => by omega, by simp (disch := omega) only [getK_set, Nat.reduceEqDiff, ↓reduceIte, and_self, Int.natCast_zero]⟩
  rintro i fr h1 ⟨hi, hG, hok, g0, g1, g20, g21, g22⟩
  have hv1 := hv.grow hc hG
  unfold f71_l1
  by_cases hlt : i < Ls.length
  · have d4 : decide ((i : Int) < (Ls.length : Int)) = true := by simpa using hlt
    have hiv : i < us.length := by rw [hv.len]; exact hlt
    obtain ⟨p, hp1, hp2⟩ := hv1.out.at i hiv
    have hp2 : loadV h1 p one? = .ok us[i] h1 := hp2
    have hu0 := hv.inn i hiv hlt
    have hu := hu0.grow hc hG
    have bad := rgtB_no (s := s) hlt
    have good : ∀ h2 : (decide (Ls[i].length ≤ 20) && Ls[i].all (edB s)) = true, ∀ j (hj : j < Ls.length), j < i + 1 → (decide (Ls[j].length ≤ 20) && Ls[j].all (edB s)) = true := fun h2 j hj hji => by
      by_cases e : j = i
      · subst e; exact h2
      · exact hok j hj (by omega)
    generalize Ls[i] = l at *
    generalize us[i] = u at *
    cases d5 : decide ((l.length : Int) > 20) with
    | true =>
      have : rgtB s Ls = false := bad (by rw [decide_eq_false (by have := of_decide_eq_true d5; omega)]; rfl)
      simp (disch := omega) only [f71_r4, f71_r5, f71_r6, f71_r7, f71_rs, w_skip, w_reg, w_seq, w_cond, w_block, w_ret, seqK_n, seqK_r, atK_r, loopK_r, ckB_b, cbB_b, true_and, retK_r, x_nil, x_mv, x_as, x_ld, x_bin, x_iads, x_len, kx, rvP_ok, okv_some, ev_t, ev_c, getV_some, putD_some, bin_lss, bin_gtr, oGet_s, readRs_nil, readRs_t, retV_1, of1, Option.some.injEq, exists_eq_left', getK_set, Nat.reduceEqDiff, ↓reduceIte, Bool.false_eq_true, of20, g20, g21, g22, d4, hp1, hp2, hu.len, d5, this, Bool.false_eq_true, true_and]
      exact hG
    | false =>
    have hl20 : l.length ≤ 20 := by have := of_decide_eq_false d5; omega
    simp (disch := omega) only [f71_r4, f71_r5, f71_r6, f71_r8, w_skip, w_reg, w_seq, w_cond, w_block, seqK_n, ckB_b, cbB_b, true_and, x_nil, x_mv, x_as, x_ld, x_bin, x_iads, x_len, kx, rvP_ok, okv_some, ev_t, ev_c, getV_some, putD_some, bin_lss, bin_gtr, of0, getK_set, Nat.reduceEqDiff, ↓reduceIte, Bool.false_eq_true, of20, g20, g21, g22, d4, hp1, hp2, hu.len, d5]
    refine W_loop (f71_J h s v u Ls l i) (fun j => l.length - j) ?_ 0 ⟨by omega, hG, rfl, by simp (disch := omega) only [getK_set, Nat.reduceEqDiff, ↓reduceIte, g0, g1, g20, g21, g22, and_self, Int.natCast_zero]⟩
    clear hv1 hu hp1 hp2 hG g0 g1 g20 g21 g22 fr
    rintro j fr hx ⟨hj, hG, hall, g0, g1, g6, g20, g21, g22, g29, g30, g31⟩
    have hux := hu0.grow hc hG
    unfold f71_l0
    by_cases hlt2 : j < l.length
    · have d6 : decide ((j : Int) < (l.length : Int)) = true := by simpa using hlt2
      obtain ⟨ida, q, hp1, hp2, _, _⟩ := hux.at2 hlt2
      have hst2 : storeV (hx.new (.cells 2 zz)) 2 (.p hx.nx 0) (.agg [.i .i64 l[j].1, .i .i64 l[j].2]) = .ok undefV ((hx.new (.cells 2 zz)).put hx.nx (.cells 2 [.i .i64 l[j].1, .i .i64 l[j].2])) := st2 (a := .i .i64 (.ofNat 0)) (b := .i .i64 (.ofNat 0)) get_new_same
      have nx1 := nx_new hx (.cells 2 zz)
      have gB : Grow hx.nx.nat hx ((hx.new (.cells 2 zz)).put hx.nx (.cells 2 [.i .i64 l[j].1, .i .i64 l[j].2])) := (Grow.new (Nat.le_refl _) _).trans (Grow.put (Nat.le_refl _) (by omega) _)
      have c8 : ((hx.new (.cells 2 zz)).put hx.nx (.cells 2 [.i .i64 l[j].1, .i .i64 l[j].2])).get hx.nx = .cells 2 [.i .i64 l[j].1, .i .i64 l[j].2] := get_put_same
      have hzz : ([.i .i64 0, .i .i64 0] : List V) = zz := rfl
      generalize (hx.new (.cells 2 zz)).put hx.nx (.cells 2 [.i .i64 l[j].1, .i .i64 l[j].2]) = h4 at *
      have l2 : loadV h4 (.p hx.nx 0) (many? 2) = .ok (pV l[j]) h4 := ldn2 c8
      have hall2 := all_snoc (p := edB s) hlt2
      rw [hall, Bool.true_and] at hall2
      simp (disch := omega) only [f71_r9, f71_r10, f71_r11, w_skip, w_reg, w_seq, w_cond, w_block, seqK_n, ckB_b, cbB_b, true_and, x_nil, x_mv, x_alloc, x_ldn, x_st, x_bin, x_iads, x_call, kx, rvP_ok, okv_some, ev_t, ev_c, evs_nil, evs_cons, getV_some, putD_some, putD_none, bin_lss, of0, getK_set, Nat.reduceEqDiff, ↓reduceIte, g0, g29, g30, g31, d6, hp1, hp2, hzz, hst2, l2]
      refine (callP_0 (ef := f60) h60 rfl (f60_ret (n := s) (e := l[j]))).mono ?_
      rintro r h5 ⟨rfl, gC⟩
      have hG5 := hG.trans ((gB.trans (gC.low gB.nx)).low hG.nx)
      cases he : edB s l[j] with
      | false =>
        have hal : l.all (edB s) = false := by
          rw [Bool.eq_false_iff]
          intro h
          rw [List.all_eq_true.1 h _ (List.getElem_mem hlt2)] at he
          cases he
        have : rgtB s Ls = false := bad (by rw [hal, Bool.and_false])
        simp (disch := omega) only [f71_r12, f71_rs, w_reg, w_seq, w_cond, w_ret, seqK_n, seqK_r, atK_r, loopK_r, ckB_b, cbB_b, true_and, retK_r, x_nil, x_as, x_not, kx, rvP_ok, ev_t, ev_c, getV_some, putD_some, onB_b, oGet_s, readRs_nil, readRs_t, retV_1, of1, Option.some.injEq, exists_eq_left', getK_set, ↓reduceIte, Bool.false_eq_true, Bool.not_false, this, Bool.not_false, Bool.false_eq_true, true_and]
        exact hG5
      | true =>
        rw [he] at hall2
        simp (disch := omega) only [f71_r13, w_skip, w_reg, w_cond, seqK_n, atK_n, loopK_n, ckB_b, cbB_b, true_and, x_nil, x_mv, x_bin, x_not, kx, rvP_ok, okv_some, ev_t, ev_c, getV_some, putD_some, bin_add, onB_b, of1, getK_set, Nat.reduceEqDiff, ↓reduceIte, Bool.false_eq_true, Bool.not_true, g31, Bool.not_true, fw64]
        exact ⟨j + 1, by omega, by omega, hG5, hall2, by simp (disch := omega) only [getK_set, Nat.reduceEqDiff, ↓reduceIte, g0, g1, g6, g20, g21, g22, g29, g30, and_self, Int.natCast_add, Int.natCast_one]⟩
    · have d6 : decide ((j : Int) < (l.length : Int)) = false := by simpa using hlt2
      have ej : j = l.length := by omega
      rw [ej, List.take_length] at hall
      simp (disch := omega) only [f71_r9, f71_r14, w_reg, w_seq, w_cond, w_exit, seqK_n, seqK_e, atK_n, atK_e, loopK_n, loopK_e, ckB_b, cbB_b, true_and, x_nil, x_mv, x_bin, kx, rvP_ok, okv_some, ev_t, ev_c, getV_some, putD_some, bin_add, bin_lss, of1, getK_set, Nat.reduceEqDiff, ↓reduceIte, Bool.false_eq_true, g22, g30, g31, d6, fw64]
      exact ⟨i + 1, by omega, by omega, hG, good (by rw [decide_eq_true hl20, hall]; rfl), by simp (disch := omega) only [getK_set, Nat.reduceEqDiff, ↓reduceIte, g0, g1, g20, g21, and_self, Int.natCast_add, Int.natCast_one]⟩
  · have d4 : decide ((i : Int) < (Ls.length : Int)) = false := by simpa using hlt
    have : rgtB s Ls = true := List.all_eq_true.2 fun l hl => by
      obtain ⟨j, hj, rfl⟩ := List.getElem_of_mem hl
      exact hok j hj (by omega)
    simp (disch := omega) only [f71_r4, f71_r15, f71_rs, w_reg, w_seq, w_cond, w_exit, w_ret, seqK_n, seqK_e, atK_e, loopK_e, ckB_b, cbB_b, true_and, retK_r, x_nil, x_as, x_bin, kx, rvP_ok, okv_some, ev_t, ev_c, getV_some, putD_some, bin_lss, oGet_s, readRs_nil, readRs_t, retV_1, of0, Option.some.injEq, exists_eq_left', getK_set, ↓reduceIte, Bool.false_eq_true, g21, g22, d4, this, true_and]
    exact hG
/-! ### A set of pairs, as a map -/
def entP (M : List (Int × Int)) : List (V × V) := M.map fun p => (pV p, .b true)
def kdP : KD := .many [some .i64, some .i64]
def InP (M : List (Int × Int)) : Prop := ∀ x ∈ M, inR .i64 x.1 = true ∧ inR .i64 x.2 = true
theorem keyEq_p {x y : Int × Int} (hx : inR .i64 x.1 = true ∧ inR .i64 x.2 = true) (hy : inR .i64 y.1 = true ∧ inR .i64 y.2 = true) : keyEq kdP (pV x) (pV y) = some (decide (x = y)) := by
  have := keyEq_2 hx.1 hx.2 hy.1 hy.2
  have e : (decide (x.1 = y.1) && decide (x.2 = y.2)) = decide (x = y) := by
    rw [Bool.eq_iff_iff, Bool.and_eq_true, decide_eq_true_eq, decide_eq_true_eq, decide_eq_true_eq]
    exact ⟨fun h => Prod.ext h.1 h.2, fun h => by rw [h]; exact ⟨rfl, rfl⟩⟩
  rw [e] at this
  exact this
theorem findE_p {x : Int × Int} (hx : inR .i64 x.1 = true ∧ inR .i64 x.2 = true) : ∀ (M : List (Int × Int)), InP M → findE kdP (pV x) (entP M) = some (if x ∈ M then some (.b true) else none)
  | [], _ => by
    show (oGet (keyEq kdP (pV x) (pV x)) none fun _ => some none) = _
    rw [keyEq_p hx hx]; rfl
  | y :: M, hM => by
    have ih := findE_p hx M fun z hz => hM z (List.mem_cons_of_mem _ hz)
    show (oGet (keyEq kdP (pV x) (pV y)) none fun r => bif r then some (some (.b true)) else findE kdP (pV x) (entP M)) = _
    rw [keyEq_p hx (hM y (by simp)), ih]
    show (bif decide (x = y) then _ else _) = _
    by_cases e : x = y
    · rw [decide_eq_true e, if_pos (show x ∈ y :: M by rw [e]; exact List.mem_cons_self)]; rfl
    · rw [decide_eq_false e]
      by_cases e2 : x ∈ M
      · rw [if_pos e2, if_pos (show x ∈ y :: M from List.mem_cons_of_mem _ e2)]; rfl
      · rw [if_neg e2, if_neg (show ¬ x ∈ y :: M from fun h => by rcases List.mem_cons.1 h with h | h <;> contradiction)]; rfl
theorem updE_p {x : Int × Int} (hx : inR .i64 x.1 = true ∧ inR .i64 x.2 = true) : ∀ (M : List (Int × Int)), InP M → x ∉ M → updE kdP (pV x) (.b true) (entP M) = some (entP (M ++ [x]))
  | [], _, _ => by
    show (oGet (keyEq kdP (pV x) (pV x)) none fun _ => some [(pV x, V.b true)]) = _
    rw [keyEq_p hx hx]; rfl
  | y :: M, hM, hn => by
    have e : ¬ x = y := fun e => hn (by rw [e]; simp)
    have ih := updE_p hx M (fun z hz => hM z (List.mem_cons_of_mem _ hz)) fun hm => hn (List.mem_cons_of_mem _ hm)
    show (oGet (keyEq kdP (pV x) (pV y)) none fun r => bif r then some ((pV x, V.b true) :: entP M) else oGet (updE kdP (pV x) (.b true) (entP M)) none fun l => some ((pV y, V.b true) :: l)) = _
    rw [keyEq_p hx (hM y (by simp)), ih, decide_eq_false e]; rfl
def MapP (h : H) (id : K) (kt : Nat) (M : List (Int × Int)) : Prop := h.get id = .map kt (entP M)
theorem MapP.look {kt : Nat} {id : K} {M : List (Int × Int)} {x : Int × Int} (hm : MapP h id kt M) (hx : inR .i64 x.1 = true ∧ inR .i64 x.2 = true) (hM : InP M) :
    lookV kt kdP (.b false) h (.m id) (pV x) false = .ok (.b (decide (x ∈ M))) h := by
  show ((h.get id).onM kt fun es => oGet (findE kdP (pV x) es) RV.no fun r => bif false then _ else RV.ok (oGet r (.b false) fun v => v) h) = _
  rw [hm]
  show (bif Nat.beq kt kt then (oGet (findE kdP (pV x) (entP M)) RV.no fun r => RV.ok (oGet r (.b false) fun v => v) h) else _) = _
  rw [Nat.beq_same, findE_p hx M hM]
  by_cases e : x ∈ M
  · rw [if_pos e, decide_eq_true e]; rfl
  · rw [if_neg e, decide_eq_false e]; rfl
theorem MapP.put {kt : Nat} {id : K} {M : List (Int × Int)} {x : Int × Int} (hm : MapP h id kt M) (hx : inR .i64 x.1 = true ∧ inR .i64 x.2 = true) (hM : InP M) (hn : x ∉ M) :
    mupdV kt kdP h (.m id) (pV x) (.b true) = .ok undefV (h.put id (.map kt (entP (M ++ [x])))) ∧ MapP (h.put id (.map kt (entP (M ++ [x])))) id kt (M ++ [x]) := by
  refine ⟨?_, get_put_same⟩
  show ((h.get id).onM kt fun es => oGet (updE kdP (pV x) (.b true) es) RV.no fun es => RV.ok undefV (h.put id (.map kt es))) = _
  rw [hm]
  show (bif Nat.beq kt kt then (oGet (updE kdP (pV x) (.b true) (entP M)) RV.no fun es => RV.ok undefV (h.put id (.map kt es))) else _) = _
  rw [Nat.beq_same, updE_p hx M hM hn]; rfl
theorem MapP.len {kt : Nat} {id : K} {M : List (Int × Int)} (hm : MapP h id kt M) : lenMV kt (.m id) h = .ok (.i .i64 (M.length : Int)) h := by
  show ((h.get id).onM kt fun es => RV.ok (.i .i64 (.ofNat (lenL es))) h) = _
  rw [hm]
  show (bif Nat.beq kt kt then RV.ok (.i .i64 (.ofNat (lenL (entP M)))) h else _) = _
  rw [Nat.beq_same, lenL_eq]
  unfold entP
  rw [List.length_map]; rfl
/-! ### Is each pair there just once? -/
theorem edB_in {s : Int} (hs : s ≤ 1000) {x : Int × Int} (h : edB s x = true) : inR .i64 x.1 = true ∧ inR .i64 x.2 = true := by
  unfold edB at h
  simp only [Bool.and_eq_true, decide_eq_true_eq] at h
  obtain ⟨a, ha⟩ : ∃ a : Nat, x.1 = (a : Int) := ⟨x.1.toNat, by omega⟩
  obtain ⟨b, hb⟩ : ∃ b : Nat, x.2 = (b : Int) := ⟨x.2.toNat, by omega⟩
  rw [ha, hb]
  exact ⟨inR_n (by omega), inR_n (by omega)⟩
def f72_I (h : H) (s : Nat) (v : V) (Ls : List (List (Int × Int))) (i : Nat) (fr : Fr) (h1 : H) : Prop := i ≤ Ls.length ∧ Grow h.nx.nat h h1 ∧ h.nx.nat < h1.nx.nat ∧ MapP h1 h.nx 139 (Ls.take i).flatten ∧ (Ls.take i).flatten.Nodup ∧ fr.get (K.ofNat 0) = some (.i .i64 (s : Int)) ∧ fr.get (K.ofNat 1) = some (v) ∧ fr.get (K.ofNat 5) = some (.m h.nx) ∧ fr.get (K.ofNat 12) = some (v) ∧ fr.get (K.ofNat 13) = some (.i .i64 (Ls.length : Int)) ∧ fr.get (K.ofNat 14) = some (.i .i64 (i : Int))
def f72_J (h : H) (s : Nat) (v u : V) (Ls : List (List (Int × Int))) (l : List (Int × Int)) (i : Nat) (j : Nat) (fr : Fr) (h1 : H) : Prop := j ≤ l.length ∧ Grow h.nx.nat h h1 ∧ h.nx.nat < h1.nx.nat ∧ MapP h1 h.nx 139 ((Ls.take i).flatten ++ l.take j) ∧ ((Ls.take i).flatten ++ l.take j).Nodup ∧ fr.get (K.ofNat 0) = some (.i .i64 (s : Int)) ∧ fr.get (K.ofNat 1) = some (v) ∧ fr.get (K.ofNat 5) = some (.m h.nx) ∧ fr.get (K.ofNat 12) = some (v) ∧ fr.get (K.ofNat 13) = some (.i .i64 (Ls.length : Int)) ∧ fr.get (K.ofNat 14) = some (.i .i64 (i : Int)) ∧ fr.get (K.ofNat 18) = some (u) ∧ fr.get (K.ofNat 19) = some (.i .i64 (l.length : Int)) ∧ fr.get (K.ofNat 20) = some (.i .i64 (j : Int))
theorem f72_ret {s : Nat} (hv : Sll h v us Ls) (hc : HC h) (hs : 1 ≤ s ∧ s ≤ 1000) (hL : Ls.length ≤ 1000) (hb : ∀ l ∈ Ls, l.length ≤ 1000 ∧ ∀ x ∈ l, edB (s : Int) x = true) : Ret fs f72 [.i .i64 (s : Int), v] h fun r h' => (∃ c, r = .b c ∧ (c = true ↔ Ls.flatten.Nodup ∧ Ls.flatten.length = s * (s - 1) / 2)) ∧ Grow h.nx.nat h h' := by
  apply ret_of rfl
  show W fs none f72_c _ _ _
  unfold f72_c
  have hl : ∀ h1, lenV v h1 = .ok (.i .i64 (Ls.length : Int)) h1 := fun h1 => by rw [hv.out.len, hv.len]
  have n1 := nx_new h (.map 139 [])
  have g1' : Grow h.nx.nat h (h.new (.map 139 [])) := Grow.new (Nat.le_refl _) _
  have e1 : MapP (h.new (.map 139 [])) h.nx 139 (Ls.take 0).flatten := get_new_same
  simp (disch := omega) only [f72_r0, f72_r1, f72_r2, w_reg, w_seq, w_block, seqK_n, x_nil, x_mv, x_as, x_mkmap, x_len, kx, rvP_ok, ev_t, ev_c, getV_some, putD_some, frame_2, of0, getK_set, Nat.reduceEqDiff, ↓reduceIte, hl]
  refine W_loop (f72_I h s v Ls) (fun i => Ls.length - i) ?_ 0 ⟨by omega, g1', by omega, e1, by simp, by simp (disch := omega) only [getK_set, Nat.reduceEqDiff, ↓reduceIte, and_self, Int.natCast_zero]⟩
  clear e1 g1' n1
  rintro i fr h1 ⟨hi, hG, hnx, hm, hnd, g0, g1, g5, g12, g13, g14⟩
  have hv1 := hv.grow hc hG
  unfold f72_l1
  by_cases hlt : i < Ls.length
  · have d4 : decide ((i : Int) < (Ls.length : Int)) = true := by simpa using hlt
    have hiv : i < us.length := by rw [hv.len]; exact hlt
    obtain ⟨p, hp1, hp2⟩ := hv1.out.at i hiv
    have hp2 : loadV h1 p one? = .ok us[i] h1 := hp2
    have hu0 := hv.inn i hiv hlt
    have hu := hu0.grow hc hG
    have hsn : (Ls.take (i + 1)).flatten = (Ls.take i).flatten ++ Ls[i] := by rw [List.take_succ_eq_append_getElem hlt, List.flatten_append]; simp
    obtain ⟨hb1, hb2⟩ := hb _ (List.getElem_mem hlt)
    have hsplit : Ls.flatten = ((Ls.take i).flatten ++ Ls[i]) ++ (Ls.drop (i + 1)).flatten := by
      conv => lhs; rw [← List.take_append_drop (i + 1) Ls]
      rw [List.flatten_append, hsn]
    have hinT : InP (Ls.take i).flatten := fun x hx => by
      obtain ⟨l, hl, hx⟩ := List.mem_flatten.1 hx
      exact edB_in (by omega) ((hb l (List.mem_of_mem_take hl)).2 x hx)
    generalize Ls[i] = l at *
    generalize us[i] = u at *
    simp (disch := omega) only [f72_r3, f72_r4, f72_r5, w_skip, w_reg, w_seq, w_cond, w_block, seqK_n, ckB_b, cbB_b, true_and, x_nil, x_mv, x_as, x_ld, x_bin, x_iads, x_len, kx, rvP_ok, okv_some, ev_t, ev_c, getV_some, putD_some, bin_lss, of0, getK_set, Nat.reduceEqDiff, ↓reduceIte, g12, g13, g14, d4, hp1, hp2, hu.len]
    refine W_loop (f72_J h s v u Ls l i) (fun j => l.length - j) ?_ 0 ⟨by omega, hG, hnx, by simpa using hm, by simpa using hnd, by simp (disch := omega) only [getK_set, Nat.reduceEqDiff, ↓reduceIte, g0, g1, g5, g12, g13, g14, and_self, Int.natCast_zero]⟩
    clear hv1 hu hp1 hp2 hG hnx hm hnd g0 g1 g5 g12 g13 g14 fr
    rintro j fr hx ⟨hj, hG, hnx, hm, hnd, g0, g1, g5, g12, g13, g14, g18, g19, g20⟩
    have hux := hu0.grow hc hG
    unfold f72_l0
    by_cases hlt2 : j < l.length
    · have d6 : decide ((j : Int) < (l.length : Int)) = true := by simpa using hlt2
      obtain ⟨ida, q, hp1, hp2, _, _⟩ := hux.at2 hlt2
      have hst2 : storeV (hx.new (.cells 2 zz)) 2 (.p hx.nx 0) (.agg [.i .i64 l[j].1, .i .i64 l[j].2]) = .ok undefV ((hx.new (.cells 2 zz)).put hx.nx (.cells 2 [.i .i64 l[j].1, .i .i64 l[j].2])) := st2 (a := .i .i64 (.ofNat 0)) (b := .i .i64 (.ofNat 0)) get_new_same
      have nx1 := nx_new hx (.cells 2 zz)
      have gB : Grow hx.nx.nat hx ((hx.new (.cells 2 zz)).put hx.nx (.cells 2 [.i .i64 l[j].1, .i .i64 l[j].2])) := (Grow.new (Nat.le_refl _) _).trans (Grow.put (Nat.le_refl _) (by omega) _)
      have c9 : ((hx.new (.cells 2 zz)).put hx.nx (.cells 2 [.i .i64 l[j].1, .i .i64 l[j].2])).get hx.nx = .cells 2 [.i .i64 l[j].1, .i .i64 l[j].2] := get_put_same
      have hzz : ([.i .i64 0, .i .i64 0] : List V) = zz := rfl
      generalize (hx.new (.cells 2 zz)).put hx.nx (.cells 2 [.i .i64 l[j].1, .i .i64 l[j].2]) = h4 at *
      have l0 : loadV h4 (.p hx.nx (0 + 0 * 1)) one? = .ok (.i .i64 l[j].1) h4 := load_p c9 rfl
      have l1 : loadV h4 (.p hx.nx (0 + 1 * 1)) one? = .ok (.i .i64 l[j].2) h4 := load_p c9 rfl
      have hst4 : storeV (h4.new (.cells 2 zz)) 2 (.p h4.nx 0) (.agg [.i .i64 l[j].1, .i .i64 l[j].2]) = .ok undefV ((h4.new (.cells 2 zz)).put h4.nx (.cells 2 [.i .i64 l[j].1, .i .i64 l[j].2])) := st2 (a := .i .i64 (.ofNat 0)) (b := .i .i64 (.ofNat 0)) get_new_same
      have nx4 := nx_new h4 (.cells 2 zz)
      have gC : Grow h4.nx.nat h4 ((h4.new (.cells 2 zz)).put h4.nx (.cells 2 [.i .i64 l[j].1, .i .i64 l[j].2])) := (Grow.new (Nat.le_refl _) _).trans (Grow.put (Nat.le_refl _) (by omega) _)
      have c10 : ((h4.new (.cells 2 zz)).put h4.nx (.cells 2 [.i .i64 l[j].1, .i .i64 l[j].2])).get h4.nx = .cells 2 [.i .i64 l[j].1, .i .i64 l[j].2] := get_put_same
      have hf2 : ∀ (fr : Fr) (x y : EO), ev fr x = .i .i64 l[j].1 → ev fr y = .i .i64 l[j].2 → fillE fr zz [(0, 1, x), (1, 1, y)] = some [.i .i64 l[j].1, .i .i64 l[j].2] := fun fr x y h1 h2 => by
        show fillE fr [.i .i64 (.ofNat 0), .i .i64 (.ofNat 0)] [(0, 1, x), (1, 1, y)] = _
        rw [fill_2, h1, h2]; rfl
      generalize (h4.new (.cells 2 zz)).put h4.nx (.cells 2 [.i .i64 l[j].1, .i .i64 l[j].2]) = h5 at *
      have l2 : loadV h5 (.p h4.nx 0) (many? 2) = .ok (pV l[j]) h5 := ldn2 c10
      have gBC := gB.trans (gC.low gB.nx)
      have hG5 := hG.trans (gBC.low hG.nx)
      have hm5 : MapP h5 h.nx 139 ((Ls.take i).flatten ++ l.take j) := (gBC.old _ hnx).trans hm
      have hnx5 : h.nx.nat < h5.nx.nat := by have := gBC.nx; omega
      have hxin := edB_in (by omega) (hb2 _ (List.getElem_mem hlt2))
      have hinM : InP ((Ls.take i).flatten ++ l.take j) := fun x hx => by
        rcases List.mem_append.1 hx with hx | hx
        · exact hinT x hx
        · exact edB_in (by omega) (hb2 x (List.mem_of_mem_take hx))
      have hlk := hm5.look hxin hinM
      unfold kdP at hlk
      have hsnj : (Ls.take i).flatten ++ l.take (j + 1) = ((Ls.take i).flatten ++ l.take j) ++ [l[j]] := by rw [List.take_succ_eq_append_getElem hlt2, List.append_assoc]
      simp (disch := omega) only [f72_r6, f72_r7, w_skip, w_reg, w_seq, w_cond, w_block, seqK_n, ckB_b, cbB_b, true_and, x_nil, x_alloc, x_ldn, x_st, x_bin, x_iads, kx, rvP_ok, okv_some, ev_t, getV_some, putD_some, putD_none, bin_lss, of0, getK_set, Nat.reduceEqDiff, ↓reduceIte, g18, g19, g20, d6, hp1, hp2, hzz, hst2]
      simp (disch := omega) only [f72_r8, x_alloc, x_build, x_ld, x_st, x_iadr, kx, rvP_ok, ev_t, ev_c, getV_some, putD_some, onP_p, oGet_s, cells1_i, of0, of1, getK_set, Nat.reduceEqDiff, ↓reduceIte, fill_2, set_2, ix2_0, ix2_1, l0, l1, fill_2, set_2]
      simp (disch := omega) only [w_reg, w_seq, seqK_n, x_nil, kx, rvP_ok, putD_none, hzz, hst4]
      cases hin : decide (l[j] ∈ (Ls.take i).flatten ++ l.take j) with
      | true =>
        rw [hin] at hlk
        simp (disch := omega) only [f72_r9, f72_r10, f72_rs, w_reg, w_seq, w_cond, w_ret, seqK_n, seqK_r, atK_r, loopK_r, ckB_b, cbB_b, true_and, retK_r, x_nil, x_mv, x_as, x_ldn, x_look, kx, rvP_ok, ev_t, ev_c, getV_some, putD_some, oGet_s, readRs_nil, readRs_t, retV_1, Option.some.injEq, exists_eq_left', getK_set, Nat.reduceEqDiff, ↓reduceIte, g5, l2, hlk]
        refine ⟨⟨false, rfl, ⟨fun h => (by cases h), fun h => ?_⟩⟩, hG5⟩
        have h1 := h.1
        have hj1 : Ls.flatten = ((Ls.take i).flatten ++ l.take j) ++ ([l[j]] ++ (l.drop (j + 1) ++ (Ls.drop (i + 1)).flatten)) := by
          rw [hsplit]
          conv => lhs; rw [← List.take_append_drop (j + 1) l, List.take_succ_eq_append_getElem hlt2]
          simp only [List.append_assoc]
        rw [hj1, List.nodup_append] at h1
        exact absurd rfl (h1.2.2 _ (of_decide_eq_true hin) _ (by simp))
      | false =>
        rw [hin] at hlk
        obtain ⟨hp, hm6⟩ := hm5.put hxin hinM (of_decide_eq_false hin)
        unfold kdP at hp
        rw [← hsnj] at hm6 hp
        simp (disch := omega) only [f72_r9, f72_r11, f72_r12, w_skip, w_reg, w_cond, seqK_n, atK_n, loopK_n, ckB_b, cbB_b, true_and, x_nil, x_mv, x_ldn, x_bin, x_look, x_mupd, kx, rvP_ok, okv_some, ev_t, ev_c, getV_some, putD_some, putD_none, bin_add, of1, getK_set, Nat.reduceEqDiff, ↓reduceIte, Bool.false_eq_true, g5, g20, l2, hlk, hp, fw64]
        refine ⟨j + 1, by omega, by omega, hG5.trans (Grow.put (Nat.le_refl _) hnx5 _), hnx5, hm6, ?_, by simp (disch := omega) only [getK_set, Nat.reduceEqDiff, ↓reduceIte, g0, g1, g5, g12, g13, g14, g18, g19, and_self, Int.natCast_add, Int.natCast_one]⟩
        rw [hsnj, List.nodup_append]
        exact ⟨hnd, by simp, fun a ha b hb' => by
          rw [List.mem_singleton.1 hb']
          exact fun e => of_decide_eq_false hin (e ▸ ha)⟩
    · have d6 : decide ((j : Int) < (l.length : Int)) = false := by simpa using hlt2
      have ej : j = l.length := by omega
      rw [ej, List.take_length, ← hsn] at hm hnd
      simp (disch := omega) only [f72_r6, f72_r13, w_reg, w_seq, w_cond, w_exit, seqK_n, seqK_e, atK_n, atK_e, loopK_n, loopK_e, ckB_b, cbB_b, true_and, x_nil, x_mv, x_bin, kx, rvP_ok, okv_some, ev_t, ev_c, getV_some, putD_some, bin_add, bin_lss, of1, getK_set, Nat.reduceEqDiff, ↓reduceIte, Bool.false_eq_true, g14, g19, g20, d6, fw64]
      exact ⟨i + 1, by omega, by omega, hG, hnx, hm, hnd, by simp (disch := omega) only [getK_set, Nat.reduceEqDiff, ↓reduceIte, g0, g1, g5, g12, g13, and_self, Int.natCast_add, Int.natCast_one]⟩
  · have d4 : decide ((i : Int) < (Ls.length : Int)) = false := by simpa using hlt
    have ei : i = Ls.length := by omega
    rw [ei, List.take_length] at hm hnd
    have hs1 : ((s : Int) - 1) = ((s - 1 : Nat) : Int) := by omega
    have hmul : ((s : Int) * ((s - 1 : Nat) : Int)) = ((s * (s - 1) : Nat) : Int) := by rw [Int.natCast_mul]
    have hle : s * (s - 1) ≤ 1000 * 1000 := Nat.mul_le_mul (by omega) (by omega)
    have hq : (((s * (s - 1) : Nat) : Int)).tdiv 2 = ((s * (s - 1) / 2 : Nat) : Int) := rfl
    simp (disch := omega) only [f72_r3, f72_r14, f72_rs, w_reg, w_seq, w_cond, w_exit, w_ret, seqK_n, seqK_e, atK_e, loopK_e, ckB_b, cbB_b, true_and, retK_r, x_nil, x_mv, x_as, x_bin, x_lenM, kx, rvP_ok, okv_some, ev_t, ev_c, getV_some, putD_some, bin_sub, bin_mul, bin_eql, bin_lss, bin_quo, oGet_s, readRs_nil, readRs_t, retV_1, of1, of2, Option.some.injEq, exists_eq_left', getK_set, Nat.reduceEqDiff, ↓reduceIte, Bool.false_eq_true, g0, g5, g13, g14, d4, hm.len, fw64, hs1, hmul, hq]
    refine ⟨⟨_, rfl, ?_⟩, hG⟩
    rw [decide_eq_true_eq]
    exact ⟨fun h => ⟨hnd, by omega⟩, fun h => by rw [h.2]⟩
structure CallsCv (fs : T EF) : Prop where
  c37 : fs.get (K.ofNat 37) = some f37
  c60 : fs.get (K.ofNat 60) = some f60
  c71 : fs.get (K.ofNat 71) = some f71
  c72 : fs.get (K.ofNat 72) = some f72
theorem f37_ok (k : CallsCv fs) {s : Nat} (hv : Sll h v us Ls) (hc : HC h) (hr : rgtI (s : Int) Ls = 0) : Ret fs f37 [.i .i64 (s : Int), v] h fun r h' => (∃ c, r = .tup [.b c, .i .i64 0] ∧ (c = true ↔ Ls.flatten.Nodup ∧ Ls.flatten.length = s * (s - 1) / 2)) ∧ Grow h.nx.nat h h' := by
  have hr2 : (2 ≤ s ∧ s ≤ 21) ∧ Ls.length ≤ 40 ∧ rgtB (s : Int) Ls = true := by
    unfold rgtI at hr
    split at hr
    · cases hr
    · split at hr
      · exact ⟨by omega, by omega, by assumption⟩
      · cases hr
  apply ret_of rfl
  show W fs none f37_c _ _ _
  unfold f37_c
  simp (disch := omega) only [f37_r0, f37_r1, w_reg, w_seq, seqK_n, x_nil, x_mv, x_as, x_call, ev_t, ev_c, evs_nil, evs_cons, getV_some, putD_some, frame_2, of0, getK_set, Nat.reduceEqDiff, ↓reduceIte]
  refine (callP_0 (ef := f71) k.c71 rfl (f71_ret (s := (s : Int)) k.c60 hv hc (by omega))).mono ?_
  rintro r h1 ⟨rfl, hG1⟩
  have d : decide ((0 : Int) ≠ 0) = false := rfl
  simp (disch := omega) only [f37_r2, f37_r4, w_skip, w_reg, w_seq, w_cond, seqK_n, ckB_b, cbB_b, true_and, x_nil, x_mv, x_as, x_bin, x_call, kx, rvP_ok, okv_some, ev_t, ev_c, evs_nil, evs_cons, getV_some, putD_some, bin_neq, of0, getK_set, Nat.reduceEqDiff, ↓reduceIte, Bool.false_eq_true, hr, d]
  refine (callP_0 (ef := f72) k.c72 rfl (f72_ret (hv.grow hc hG1) (hG1.hc hc) (by omega) (by omega) fun l hl => ?_)).mono ?_
  · have := List.all_eq_true.1 hr2.2.2 l hl
    rw [Bool.and_eq_true] at this
    exact ⟨by have := of_decide_eq_true this.1; omega, fun x hx => List.all_eq_true.1 this.2 x hx⟩
  · rintro r h2 ⟨⟨c, rfl, hcc⟩, hG2⟩
    simp (disch := omega) only [f37_rs, w_ret, seqK_n, retK_r, x_nil, x_as, kx, ev_t, ev_c, getV_some, putD_some, oGet_s, readRs_nil, readRs_t, retV_2, Option.some.injEq, exists_eq_left', getK_set, Nat.reduceEqDiff, ↓reduceIte]
    exact ⟨⟨c, rfl, hcc⟩, hG1.trans (hG2.low hG1.nx)⟩
theorem f37_no (k : CallsCv fs) (hv : Sll h v us Ls) (hc : HC h) (hL : Ls.length ≤ 1000000) (hr : rgtI s Ls = 1) : Ret fs f37 [.i .i64 s, v] h fun r h' => r = .tup [.b false, .i .i64 1] ∧ Grow h.nx.nat h h' := by
  apply ret_of rfl
  show W fs none f37_c _ _ _
  unfold f37_c
  simp (disch := omega) only [f37_r0, f37_r1, w_reg, w_seq, seqK_n, x_nil, x_mv, x_as, x_call, ev_t, ev_c, evs_nil, evs_cons, getV_some, putD_some, frame_2, of0, getK_set, Nat.reduceEqDiff, ↓reduceIte]
  refine (callP_0 (ef := f71) k.c71 rfl (f71_ret (s := s) k.c60 hv hc hL)).mono ?_
  rintro r h1 ⟨rfl, hG1⟩
  have d : decide ((1 : Int) ≠ 0) = true := rfl
  simp (disch := omega) only [f37_r2, f37_r3, f37_rs, w_reg, w_seq, w_cond, w_ret, seqK_n, seqK_r, ckB_b, cbB_b, true_and, retK_r, x_nil, x_mv, x_as, x_bin, kx, rvP_ok, okv_some, ev_t, ev_c, getV_some, putD_some, bin_neq, oGet_s, readRs_nil, readRs_t, retV_2, of0, Option.some.injEq, exists_eq_left', getK_set, Nat.reduceEqDiff, ↓reduceIte, hr, d, true_and]
  exact hG1
end
end Go.Ev
namespace Go.Ev
open Go Go.RowKit
/-! ### Complete graphs -/
def allP (size : Nat) : List (Int × Int) := (List.range size).flatMap fun a => (List.range (size - (a + 1))).map fun k => ((a : Int), ((a + 1 + k : Nat) : Int))
end Go.Ev
namespace Go.Ev
end Go.Ev
namespace Go.Ev
open Go Go.RowKit
def rowP (_ a : Nat) (k : Nat) : List (Int × Int) := (List.range k).map fun k => ((a : Int), ((a + 1 + k : Nat) : Int))
def uptoP (s a : Nat) : List (Int × Int) := (List.range a).flatMap fun a => rowP s a (s - (a + 1))
theorem uptoP_succ {s a : Nat} : uptoP s (a + 1) = uptoP s a ++ rowP s a (s - (a + 1)) := by
  unfold uptoP; rw [List.range_succ, List.flatMap_append]; simp
theorem rowP_len {s a k : Nat} : (rowP s a k).length = k := by simp [rowP]
section
variable {fs : T EF} {ro : Option K}
end
end Go.Ev
namespace Go.Ev
open Go Go.RowKit
def codeP (s : Nat) (p : Int × Int) : Nat := p.1.toNat * s + p.2.toNat
def cntP (s : Nat) (F : List (Int × Int)) (i : Nat) : Int := F.foldr (fun p n => (if codeP s p = i then 1 else 0) + n) 0
theorem cntP_snoc {s i : Nat} {p : Int × Int} : ∀ {F : List (Int × Int)}, cntP s (F ++ [p]) i = cntP s F i + if codeP s p = i then 1 else 0
  | [] => by show (if codeP s p = i then (1 : Int) else 0) + 0 = 0 + _; omega
  | x :: F => by
    show (if codeP s x = i then (1 : Int) else 0) + cntP s (F ++ [p]) i = (if codeP s x = i then (1 : Int) else 0) + cntP s F i + _
    rw [cntP_snoc]; omega
theorem cntP_nn {s i : Nat} : ∀ {F : List (Int × Int)}, 0 ≤ cntP s F i ∧ cntP s F i ≤ F.length
  | [] => by show (0 : Int) ≤ 0 ∧ (0 : Int) ≤ _; simp
  | x :: F => by
    have h := cntP_nn (s := s) (i := i) (F := F)
    show 0 ≤ (if codeP s x = i then (1 : Int) else 0) + cntP s F i ∧ (if codeP s x = i then (1 : Int) else 0) + cntP s F i ≤ ((x :: F).length : Int)
    rw [List.length_cons]
    split <;> omega
theorem code_inj {s : Nat} {p q : Int × Int} (hp : edB (s : Int) p = true) (hq : edB (s : Int) q = true) (h : codeP s p = codeP s q) : p = q := by
  unfold edB at hp hq
  simp only [Bool.and_eq_true, decide_eq_true_eq] at hp hq
  unfold codeP at h
  have h1 : p.2.toNat = q.2.toNat := by
    have a1 : (p.1.toNat * s + p.2.toNat) % s = p.2.toNat := by rw [Nat.mul_comm, Nat.mul_add_mod, Nat.mod_eq_of_lt (by omega)]
    have a2 : (q.1.toNat * s + q.2.toNat) % s = q.2.toNat := by rw [Nat.mul_comm, Nat.mul_add_mod, Nat.mod_eq_of_lt (by omega)]
    rw [← a1, ← a2, h]
  have h2 : p.1.toNat = q.1.toNat := by
    have : p.1.toNat * s = q.1.toNat * s := by omega
    exact Nat.eq_of_mul_eq_mul_right (by omega) this
  ext <;> omega
theorem cnt_count {s : Nat} {p : Int × Int} (hp : edB (s : Int) p = true) : ∀ {F : List (Int × Int)}, (∀ x ∈ F, edB (s : Int) x = true) → cntP s F (codeP s p) = F.count p
  | [], _ => rfl
  | x :: F, h => by
    show (if codeP s x = codeP s p then (1 : Int) else 0) + cntP s F (codeP s p) = _
    rw [cnt_count hp fun y hy => h y (by simp [hy]), List.count_cons]
    by_cases e : x = p
    · subst e; simp; omega
    · rw [if_neg fun hc => e (code_inj (h x (by simp)) hp hc)]
      have : (x == p) = false := by simpa using e
      rw [this]; simp
theorem sub_len {α : Type} [BEq α] [LawfulBEq α] : ∀ {F G : List α}, F.Nodup → (∀ x ∈ F, x ∈ G) → F.length ≤ G.length
  | [], _, _, _ => by simp
  | x :: F, G, hn, hs => by
    have hn := List.nodup_cons.1 hn
    have hx : x ∈ G := hs x (by simp)
    have := sub_len (F := F) (G := G.erase x) hn.2 fun y hy => by
      have : y ≠ x := fun e => hn.1 (e ▸ hy)
      exact (List.mem_erase_of_ne this).2 (hs y (by simp [hy]))
    rw [List.length_erase_of_mem hx] at this
    have := List.length_pos_of_mem hx
    rw [List.length_cons]; omega
theorem uptoP_cnt {s : Nat} : ∀ {a : Nat}, a ≤ s → 2 * (uptoP s a).length + (a * a + a) = 2 * (a * s)
  | 0, _ => by simp [uptoP]
  | a + 1, h => by
    have ih := uptoP_cnt (s := s) (a := a) (by omega)
    rw [uptoP_succ, List.length_append, rowP_len]
    have e1 : (a + 1) * (a + 1) = a * a + 2 * a + 1 := by rw [Nat.add_mul, Nat.mul_add]; omega
    have e2 : (a + 1) * s = a * s + s := by rw [Nat.add_mul]; omega
    rw [e1, e2]; omega
theorem allP_len {s : Nat} : (allP s).length = s * (s - 1) / 2 := by
  have h := uptoP_cnt (s := s) (a := s) (Nat.le_refl _)
  have : (uptoP s s).length = (allP s).length := rfl
  rw [this] at h
  cases s with
  | zero => rfl
  | succ s =>
    have e1 : (s + 1) * (s + 1 - 1) = s * s + s := by rw [Nat.add_sub_cancel, Nat.add_mul]; omega
    have e2 : (s + 1) * (s + 1) = s * s + 2 * s + 1 := by rw [Nat.add_mul, Nat.mul_add]; omega
    rw [e2] at h
    rw [e1]; omega
theorem mem_rowP {s a k : Nat} {p : Int × Int} : p ∈ rowP s a k ↔ p.1 = (a : Int) ∧ (a : Int) + 1 ≤ p.2 ∧ p.2 < (a : Int) + 1 + k := by
  unfold rowP
  rw [List.mem_map]
  constructor
  · rintro ⟨i, hi, rfl⟩
    have hi := List.mem_range.1 hi
    exact ⟨rfl, by simp only; omega, by simp only; omega⟩
  · rintro ⟨h1, h2, h3⟩
    exact ⟨p.2.toNat - (a + 1), List.mem_range.2 (by omega), by ext <;> simp only <;> omega⟩
theorem mem_uptoP {s : Nat} {p : Int × Int} : ∀ {a : Nat}, p ∈ uptoP s a ↔ 0 ≤ p.1 ∧ p.1 < (a : Int) ∧ p.1 < p.2 ∧ p.2 < (s : Int)
  | 0 => by
    have : p ∉ uptoP s 0 := by simp [uptoP]
    exact ⟨fun h => absurd h this, fun h => by omega⟩
  | a + 1 => by
    rw [uptoP_succ, List.mem_append, mem_uptoP, mem_rowP]
    omega
theorem mem_allP {s : Nat} {p : Int × Int} : p ∈ allP s ↔ edB (s : Int) p = true := by
  have : p ∈ allP s ↔ p ∈ uptoP s s := Iff.rfl
  rw [this, mem_uptoP]
  unfold edB
  simp only [Bool.and_eq_true, decide_eq_true_eq]
  omega
theorem rowP_nodup {s a k : Nat} : (rowP s a k).Nodup := by
  unfold rowP List.Nodup
  rw [List.pairwise_map]
  exact List.Pairwise.imp (fun {i j} hij h => hij (by have := congrArg Prod.snd h; simp only at this; omega)) (List.nodup_range (n := k))
theorem uptoP_nodup {s : Nat} : ∀ {a : Nat}, (uptoP s a).Nodup
  | 0 => by simp [uptoP]
  | a + 1 => by
    rw [uptoP_succ, List.nodup_append]
    exact ⟨uptoP_nodup, rowP_nodup, fun x hx y hy e => by
      have h1 := mem_uptoP.1 hx
      have h2 := mem_rowP.1 hy
      rw [e] at h1; omega⟩
/-- Each pair is there just once, said in two ways. -/
theorem covers_iff {s : Nat} {F : List (Int × Int)} (hF : ∀ x ∈ F, edB (s : Int) x = true) : (F.Nodup ∧ F.length = s * (s - 1) / 2) ↔ ∀ p ∈ allP s, cntP s F (codeP s p) = 1 := by
  constructor
  · rintro ⟨h1, h2⟩ p hp
    rw [cnt_count (mem_allP.1 hp) hF]
    have hin : p ∈ F := by
      apply Classical.byContradiction
      intro hn
      have := sub_len (F := F) (G := (allP s).erase p) h1 fun x hx => by
        have : x ≠ p := fun e => hn (e ▸ hx)
        exact (List.mem_erase_of_ne this).2 (mem_allP.2 (hF x hx))
      rw [List.length_erase_of_mem hp, allP_len] at this
      have := List.length_pos_of_mem hp
      rw [allP_len] at this
      omega
    have h3 := List.nodup_iff_count.1 h1 p
    have h4 := List.count_pos_iff.2 hin
    omega
  · intro h
    have hnd : F.Nodup := List.nodup_iff_count.2 fun p => by
      by_cases hp : p ∈ F
      · have := h p (mem_allP.2 (hF p hp))
        rw [cnt_count (hF p hp) hF] at this
        omega
      · rw [List.count_eq_zero_of_not_mem hp]; omega
    refine ⟨hnd, ?_⟩
    rw [← allP_len]
    have h1 := sub_len hnd fun x hx => mem_allP.2 (hF x hx)
    have h2 := sub_len (F := allP s) (G := F) uptoP_nodup fun x hx => by
      have h3 := h x hx
      rw [cnt_count (mem_allP.1 hx) hF] at h3
      exact List.count_pos_iff.1 (by omega)
    omega
/-- The counts, by places. -/
def cntL (s : Nat) (F : List (Int × Int)) : List Int := (List.range (s * s)).map (cntP s F)
theorem cntL_len {s : Nat} {F : List (Int × Int)} : (cntL s F).length = s * s := by simp [cntL]
theorem cntL_at {s i : Nat} {F : List (Int × Int)} (h : i < (cntL s F).length) : (cntL s F)[i] = cntP s F i := by simp [cntL]
theorem cntL_step {s : Nat} {F : List (Int × Int)} {p : Int × Int} : cntL s (F ++ [p]) = (cntL s F).set (codeP s p) (cntP s F (codeP s p) + 1) := by
  apply List.ext_getElem
  · simp [cntL]
  · intro i h1 h2
    rw [cntL_at, cntP_snoc, List.getElem_set]
    by_cases e : codeP s p = i
    · rw [if_pos e, if_pos e, e]
    · rw [if_neg e, if_neg e, cntL_at (by simpa [cntL] using h1)]; omega
end Go.Ev
namespace Go.Ev
open Go Go.RowKit
section
variable {fs : T EF} {ro : Option K} {h : H} {v : V} {n : Int} {E : List (Int × Int)}
end
end Go.Ev
namespace Go.Ev
open Go Go.RowKit
section
variable {fs : T EF} {h : H}
end
end Go.Ev
namespace Go.Ev
open Go Go.RowKit
section
variable {fs : T EF} {h : H} {v : V} {n : Nat} {E : List (Int × Int)}
end
end Go.Ev
namespace Go.Ev
open Go Go.RowKit
noncomputable def f14_r0 : List EOper := [⟨(some (K.ofNat 4)), none, .as (.c .sn)⟩]
noncomputable def f14_r1 : List EOper := [⟨(some (K.ofNat 5)), none, .as (.c .sn)⟩]
noncomputable def f14_r2 : List EOper := [⟨(some (K.ofNat 6)), none, .mv (.t (K.ofNat 5))⟩, ⟨(some (K.ofNat 7)), none, .mv (.t (K.ofNat 0))⟩, ⟨(some (K.ofNat 8)), none, .mv (.t (K.ofNat 0))⟩, ⟨(some (K.ofNat 9)), none, .len (.t (K.ofNat 8))⟩, ⟨(some (K.ofNat 10)), none, .mv (.t (K.ofNat 1))⟩, ⟨(some (K.ofNat 11)), none, .min (.t (K.ofNat 9)) (.t (K.ofNat 10))⟩, ⟨(some (K.ofNat 12)), none, .slice 2 (.t (K.ofNat 7)) none (some (.t (K.ofNat 11))) none⟩, ⟨(some (K.ofNat 13)), none, .app 2 (.t (K.ofNat 6)) (.t (K.ofNat 12))⟩, ⟨(some (K.ofNat 4)), none, .as (.t (K.ofNat 13))⟩]
noncomputable def f14_c : EC := (.seq (.reg f14_r0) (.seq (.reg f14_r1) (.seq (.reg f14_r2) .ret)))
noncomputable def f14 : EF := ⟨14, [.tmp (K.ofNat 4)], f14_c, none⟩
theorem f14_rs : f14.rs = [.tmp (K.ofNat 4)] := of_eq_true (eq_self _)
noncomputable def f3_r0 : List EOper := [⟨(some (K.ofNat 6)), none, .as (.c (.b false))⟩]
noncomputable def f3_r1 : List EOper := [⟨(some (K.ofNat 31)), none, .mv (.t (K.ofNat 1))⟩, ⟨(some (K.ofNat 32)), none, .call (.c (.fn (K.ofNat 14) [])) [(.t (K.ofNat 31)), (.c (.i .i64 (.ofNat 20)))]⟩, ⟨(some (K.ofNat 33)), none, .mv (.t (K.ofNat 2))⟩, ⟨(some (K.ofNat 34)), none, .call (.c (.fn (K.ofNat 15) [])) [(.t (K.ofNat 33)), (.c (.i .i64 (.ofNat 10)))]⟩, ⟨(some (K.ofNat 7)), none, .as (.t (K.ofNat 32))⟩, ⟨(some (K.ofNat 8)), none, .as (.t (K.ofNat 34))⟩]
noncomputable def f3_r2 : List EOper := [⟨(some (K.ofNat 35)), none, .mv (.t (K.ofNat 0))⟩, ⟨(some (K.ofNat 36)), none, .mv (.t (K.ofNat 7))⟩, ⟨(some (K.ofNat 37)), none, .call (.c (.fn (K.ofNat 16) [])) [(.t (K.ofNat 35)), (.t (K.ofNat 36))]⟩, ⟨(some (K.ofNat 9)), none, .as (.t (K.ofNat 37))⟩]
noncomputable def f3_r3 : List EOper := [⟨(some (K.ofNat 38)), none, .mv (.t (K.ofNat 0))⟩, ⟨(some (K.ofNat 39)), none, .mv (.t (K.ofNat 7))⟩, ⟨(some (K.ofNat 40)), none, .call (.c (.fn (K.ofNat 17) [])) [(.t (K.ofNat 38)), (.t (K.ofNat 39))]⟩, ⟨(some (K.ofNat 41)), none, .mv (.t (K.ofNat 9))⟩, ⟨(some (K.ofNat 42)), none, .bin .neq (.t (K.ofNat 40)) (.t (K.ofNat 41))⟩]
noncomputable def f3_r4 : List EOper := [⟨(some (K.ofNat 6)), none, .as (.c (.b false))⟩]
noncomputable def f3_r5 : List EOper := [⟨(some (K.ofNat 44)), none, .mv (.t (K.ofNat 0))⟩, ⟨(some (K.ofNat 45)), none, .mv (.t (K.ofNat 7))⟩, ⟨(some (K.ofNat 46)), none, .mv (.t (K.ofNat 8))⟩, ⟨(some (K.ofNat 47)), none, .call (.c (.fn (K.ofNat 18) [])) [(.t (K.ofNat 44)), (.t (K.ofNat 45)), (.t (K.ofNat 46))]⟩, ⟨(some (K.ofNat 43)), none, .mv (.t (K.ofNat 47))⟩, ⟨(some (K.ofNat 48)), none, .ext (.t (K.ofNat 43)) 0⟩, ⟨(some (K.ofNat 49)), none, .ext (.t (K.ofNat 43)) 1⟩, ⟨(some (K.ofNat 10)), none, .as (.t (K.ofNat 48))⟩, ⟨(some (K.ofNat 11)), none, .as (.t (K.ofNat 49))⟩]
noncomputable def f3_r6 : List EOper := [⟨(some (K.ofNat 51)), none, .mv (.t (K.ofNat 0))⟩, ⟨(some (K.ofNat 52)), none, .mv (.t (K.ofNat 7))⟩, ⟨(some (K.ofNat 53)), none, .mv (.t (K.ofNat 8))⟩, ⟨(some (K.ofNat 54)), none, .call (.c (.fn (K.ofNat 19) [])) [(.t (K.ofNat 51)), (.t (K.ofNat 52)), (.t (K.ofNat 53))]⟩, ⟨(some (K.ofNat 50)), none, .mv (.t (K.ofNat 54))⟩, ⟨(some (K.ofNat 55)), none, .ext (.t (K.ofNat 50)) 0⟩, ⟨(some (K.ofNat 56)), none, .ext (.t (K.ofNat 50)) 1⟩, ⟨(some (K.ofNat 57)), none, .ext (.t (K.ofNat 50)) 2⟩, ⟨(some (K.ofNat 12)), none, .as (.t (K.ofNat 55))⟩, ⟨(some (K.ofNat 13)), none, .as (.t (K.ofNat 56))⟩, ⟨(some (K.ofNat 14)), none, .as (.t (K.ofNat 57))⟩]
noncomputable def f3_r7 : List EOper := [⟨(some (K.ofNat 59)), none, .mv (.t (K.ofNat 0))⟩, ⟨(some (K.ofNat 60)), none, .mv (.t (K.ofNat 7))⟩, ⟨(some (K.ofNat 61)), none, .mv (.t (K.ofNat 8))⟩, ⟨(some (K.ofNat 62)), none, .call (.c (.fn (K.ofNat 20) [])) [(.t (K.ofNat 59)), (.t (K.ofNat 60)), (.t (K.ofNat 61))]⟩, ⟨(some (K.ofNat 58)), none, .mv (.t (K.ofNat 62))⟩, ⟨(some (K.ofNat 63)), none, .ext (.t (K.ofNat 58)) 0⟩, ⟨(some (K.ofNat 64)), none, .ext (.t (K.ofNat 58)) 1⟩, ⟨(some (K.ofNat 15)), none, .as (.t (K.ofNat 63))⟩, ⟨(some (K.ofNat 16)), none, .as (.t (K.ofNat 64))⟩]
noncomputable def f3_r8 : List EOper := [⟨(some (K.ofNat 66)), none, .mv (.t (K.ofNat 0))⟩, ⟨(some (K.ofNat 67)), none, .mv (.t (K.ofNat 7))⟩, ⟨(some (K.ofNat 68)), none, .mv (.t (K.ofNat 8))⟩, ⟨(some (K.ofNat 69)), none, .call (.c (.fn (K.ofNat 21) [])) [(.t (K.ofNat 66)), (.t (K.ofNat 67)), (.t (K.ofNat 68))]⟩, ⟨(some (K.ofNat 65)), none, .mv (.t (K.ofNat 69))⟩, ⟨(some (K.ofNat 70)), none, .ext (.t (K.ofNat 65)) 0⟩, ⟨(some (K.ofNat 71)), none, .ext (.t (K.ofNat 65)) 1⟩, ⟨(some (K.ofNat 17)), none, .as (.t (K.ofNat 70))⟩, ⟨(some (K.ofNat 18)), none, .as (.t (K.ofNat 71))⟩]
noncomputable def f3_r9 : List EOper := [⟨(some (K.ofNat 73)), none, .mv (.t (K.ofNat 0))⟩, ⟨(some (K.ofNat 74)), none, .mv (.t (K.ofNat 7))⟩, ⟨(some (K.ofNat 75)), none, .call (.c (.fn (K.ofNat 22) [])) [(.t (K.ofNat 73)), (.t (K.ofNat 74))]⟩, ⟨(some (K.ofNat 72)), none, .mv (.t (K.ofNat 75))⟩, ⟨(some (K.ofNat 76)), none, .ext (.t (K.ofNat 72)) 0⟩, ⟨(some (K.ofNat 77)), none, .ext (.t (K.ofNat 72)) 1⟩, ⟨(some (K.ofNat 19)), none, .as (.t (K.ofNat 76))⟩, ⟨(some (K.ofNat 20)), none, .as (.t (K.ofNat 77))⟩]
noncomputable def f3_r10 : List EOper := [⟨(some (K.ofNat 78)), none, .mv (.t (K.ofNat 9))⟩, ⟨(some (K.ofNat 79)), none, .bin .eql (.t (K.ofNat 78)) (.c (.i .i64 (.ofNat 0)))⟩]
noncomputable def f3_r11 : List EOper := [⟨(some (K.ofNat 80)), none, .mv (.t (K.ofNat 11))⟩, ⟨(some (K.ofNat 81)), none, .bin .eql (.t (K.ofNat 80)) (.c (.i .i64 (.ofNat 0)))⟩, ⟨(some (K.ofNat 82)), none, .mv (.t (K.ofNat 81))⟩, ⟨(some (K.ofNat 83)), (some ((K.ofNat 82), true)), .mv (.t (K.ofNat 14))⟩, ⟨(some (K.ofNat 84)), (some ((K.ofNat 82), true)), .bin .eql (.t (K.ofNat 83)) (.c (.i .i64 (.ofNat 0)))⟩, ⟨(some (K.ofNat 85)), none, .pick (.t (K.ofNat 82)) (.t (K.ofNat 84)) (.c (.b false))⟩, ⟨(some (K.ofNat 86)), none, .mv (.t (K.ofNat 85))⟩, ⟨(some (K.ofNat 87)), (some ((K.ofNat 86), true)), .mv (.t (K.ofNat 20))⟩, ⟨(some (K.ofNat 88)), (some ((K.ofNat 86), true)), .bin .eql (.t (K.ofNat 87)) (.c (.i .i64 (.ofNat 0)))⟩, ⟨(some (K.ofNat 89)), none, .pick (.t (K.ofNat 86)) (.t (K.ofNat 88)) (.c (.b false))⟩, ⟨(some (K.ofNat 90)), none, .mv (.t (K.ofNat 89))⟩, ⟨(some (K.ofNat 91)), (some ((K.ofNat 90), true)), .call (.c (.fn (K.ofNat 23) [])) []⟩, ⟨(some (K.ofNat 92)), none, .pick (.t (K.ofNat 90)) (.t (K.ofNat 91)) (.c (.b false))⟩, ⟨(some (K.ofNat 6)), none, .as (.t (K.ofNat 92))⟩]
noncomputable def f3_r12 : List EOper := [⟨(some (K.ofNat 94)), none, .mv (.t (K.ofNat 0))⟩, ⟨(some (K.ofNat 95)), none, .mv (.t (K.ofNat 7))⟩, ⟨(some (K.ofNat 96)), none, .call (.c (.fn (K.ofNat 24) [])) [(.t (K.ofNat 94)), (.t (K.ofNat 95))]⟩, ⟨(some (K.ofNat 93)), none, .mv (.t (K.ofNat 96))⟩, ⟨(some (K.ofNat 97)), none, .ext (.t (K.ofNat 93)) 0⟩, ⟨(some (K.ofNat 98)), none, .ext (.t (K.ofNat 93)) 1⟩, ⟨(some (K.ofNat 99)), none, .ext (.t (K.ofNat 93)) 2⟩, ⟨(some (K.ofNat 21)), none, .as (.t (K.ofNat 97))⟩, ⟨(some (K.ofNat 22)), none, .as (.t (K.ofNat 98))⟩, ⟨(some (K.ofNat 23)), none, .as (.t (K.ofNat 99))⟩]
noncomputable def f3_r13 : List EOper := [⟨(some (K.ofNat 101)), none, .mv (.t (K.ofNat 0))⟩, ⟨(some (K.ofNat 102)), none, .mv (.t (K.ofNat 7))⟩, ⟨(some (K.ofNat 103)), none, .call (.c (.fn (K.ofNat 25) [])) [(.t (K.ofNat 101)), (.t (K.ofNat 102))]⟩, ⟨(some (K.ofNat 100)), none, .mv (.t (K.ofNat 103))⟩, ⟨(some (K.ofNat 104)), none, .ext (.t (K.ofNat 100)) 0⟩, ⟨(some (K.ofNat 105)), none, .ext (.t (K.ofNat 100)) 1⟩, ⟨(some (K.ofNat 24)), none, .as (.t (K.ofNat 104))⟩, ⟨(some (K.ofNat 25)), none, .as (.t (K.ofNat 105))⟩]
noncomputable def f3_r14 : List EOper := [⟨(some (K.ofNat 107)), none, .mv (.t (K.ofNat 0))⟩, ⟨(some (K.ofNat 108)), none, .mv (.t (K.ofNat 7))⟩, ⟨(some (K.ofNat 109)), none, .call (.c (.fn (K.ofNat 26) [])) [(.t (K.ofNat 107)), (.t (K.ofNat 108))]⟩, ⟨(some (K.ofNat 106)), none, .mv (.t (K.ofNat 109))⟩, ⟨(some (K.ofNat 110)), none, .ext (.t (K.ofNat 106)) 0⟩, ⟨(some (K.ofNat 111)), none, .ext (.t (K.ofNat 106)) 1⟩, ⟨(some (K.ofNat 112)), none, .ext (.t (K.ofNat 106)) 2⟩, ⟨(some (K.ofNat 26)), none, .as (.t (K.ofNat 110))⟩, ⟨(some (K.ofNat 27)), none, .as (.t (K.ofNat 111))⟩, ⟨(some (K.ofNat 28)), none, .as (.t (K.ofNat 112))⟩]
noncomputable def f3_r15 : List EOper := [⟨(some (K.ofNat 114)), none, .mv (.t (K.ofNat 0))⟩, ⟨(some (K.ofNat 115)), none, .mv (.t (K.ofNat 7))⟩, ⟨(some (K.ofNat 116)), none, .call (.c (.fn (K.ofNat 27) [])) [(.t (K.ofNat 114)), (.t (K.ofNat 115))]⟩, ⟨(some (K.ofNat 113)), none, .mv (.t (K.ofNat 116))⟩, ⟨(some (K.ofNat 117)), none, .ext (.t (K.ofNat 113)) 0⟩, ⟨(some (K.ofNat 118)), none, .ext (.t (K.ofNat 113)) 1⟩, ⟨(some (K.ofNat 29)), none, .as (.t (K.ofNat 117))⟩, ⟨(some (K.ofNat 30)), none, .as (.t (K.ofNat 118))⟩]
noncomputable def f3_r16 : List EOper := [⟨(some (K.ofNat 119)), none, .mv (.t (K.ofNat 11))⟩, ⟨(some (K.ofNat 120)), none, .mv (.t (K.ofNat 9))⟩, ⟨(some (K.ofNat 121)), none, .bin .eql (.t (K.ofNat 119)) (.t (K.ofNat 120))⟩, ⟨(some (K.ofNat 122)), none, .mv (.t (K.ofNat 121))⟩, ⟨(some (K.ofNat 123)), (some ((K.ofNat 122), true)), .mv (.t (K.ofNat 14))⟩, ⟨(some (K.ofNat 124)), (some ((K.ofNat 122), true)), .mv (.t (K.ofNat 9))⟩, ⟨(some (K.ofNat 125)), (some ((K.ofNat 122), true)), .bin .eql (.t (K.ofNat 123)) (.t (K.ofNat 124))⟩, ⟨(some (K.ofNat 126)), none, .pick (.t (K.ofNat 122)) (.t (K.ofNat 125)) (.c (.b false))⟩, ⟨(some (K.ofNat 127)), none, .mv (.t (K.ofNat 126))⟩, ⟨(some (K.ofNat 128)), (some ((K.ofNat 127), true)), .mv (.t (K.ofNat 16))⟩, ⟨(some (K.ofNat 129)), (some ((K.ofNat 127), true)), .mv (.t (K.ofNat 9))⟩, ⟨(some (K.ofNat 130)), (some ((K.ofNat 127), true)), .bin .eql (.t (K.ofNat 128)) (.t (K.ofNat 129))⟩, ⟨(some (K.ofNat 131)), none, .pick (.t (K.ofNat 127)) (.t (K.ofNat 130)) (.c (.b false))⟩, ⟨(some (K.ofNat 132)), none, .mv (.t (K.ofNat 131))⟩, ⟨(some (K.ofNat 133)), (some ((K.ofNat 132), true)), .mv (.t (K.ofNat 18))⟩, ⟨(some (K.ofNat 134)), (some ((K.ofNat 132), true)), .mv (.t (K.ofNat 9))⟩, ⟨(some (K.ofNat 135)), (some ((K.ofNat 132), true)), .bin .eql (.t (K.ofNat 133)) (.t (K.ofNat 134))⟩, ⟨(some (K.ofNat 136)), none, .pick (.t (K.ofNat 132)) (.t (K.ofNat 135)) (.c (.b false))⟩, ⟨(some (K.ofNat 137)), none, .mv (.t (K.ofNat 136))⟩, ⟨(some (K.ofNat 138)), (some ((K.ofNat 137), true)), .mv (.t (K.ofNat 20))⟩, ⟨(some (K.ofNat 139)), (some ((K.ofNat 137), true)), .mv (.t (K.ofNat 9))⟩, ⟨(some (K.ofNat 140)), (some ((K.ofNat 137), true)), .bin .eql (.t (K.ofNat 138)) (.t (K.ofNat 139))⟩, ⟨(some (K.ofNat 141)), none, .pick (.t (K.ofNat 137)) (.t (K.ofNat 140)) (.c (.b false))⟩, ⟨(some (K.ofNat 142)), none, .mv (.t (K.ofNat 141))⟩, ⟨(some (K.ofNat 143)), (some ((K.ofNat 142), true)), .mv (.t (K.ofNat 23))⟩, ⟨(some (K.ofNat 144)), (some ((K.ofNat 142), true)), .mv (.t (K.ofNat 9))⟩, ⟨(some (K.ofNat 145)), (some ((K.ofNat 142), true)), .bin .eql (.t (K.ofNat 143)) (.t (K.ofNat 144))⟩, ⟨(some (K.ofNat 146)), none, .pick (.t (K.ofNat 142)) (.t (K.ofNat 145)) (.c (.b false))⟩, ⟨(some (K.ofNat 147)), none, .mv (.t (K.ofNat 146))⟩, ⟨(some (K.ofNat 148)), (some ((K.ofNat 147), true)), .mv (.t (K.ofNat 25))⟩, ⟨(some (K.ofNat 149)), (some ((K.ofNat 147), true)), .mv (.t (K.ofNat 9))⟩, ⟨(some (K.ofNat 150)), (some ((K.ofNat 147), true)), .bin .eql (.t (K.ofNat 148)) (.t (K.ofNat 149))⟩, ⟨(some (K.ofNat 151)), none, .pick (.t (K.ofNat 147)) (.t (K.ofNat 150)) (.c (.b false))⟩, ⟨(some (K.ofNat 152)), none, .mv (.t (K.ofNat 151))⟩, ⟨(some (K.ofNat 153)), (some ((K.ofNat 152), true)), .mv (.t (K.ofNat 28))⟩, ⟨(some (K.ofNat 154)), (some ((K.ofNat 152), true)), .mv (.t (K.ofNat 9))⟩, ⟨(some (K.ofNat 155)), (some ((K.ofNat 152), true)), .bin .eql (.t (K.ofNat 153)) (.t (K.ofNat 154))⟩, ⟨(some (K.ofNat 156)), none, .pick (.t (K.ofNat 152)) (.t (K.ofNat 155)) (.c (.b false))⟩, ⟨(some (K.ofNat 157)), none, .mv (.t (K.ofNat 156))⟩, ⟨(some (K.ofNat 158)), (some ((K.ofNat 157), true)), .mv (.t (K.ofNat 30))⟩, ⟨(some (K.ofNat 159)), (some ((K.ofNat 157), true)), .mv (.t (K.ofNat 9))⟩, ⟨(some (K.ofNat 160)), (some ((K.ofNat 157), true)), .bin .eql (.t (K.ofNat 158)) (.t (K.ofNat 159))⟩, ⟨(some (K.ofNat 161)), none, .pick (.t (K.ofNat 157)) (.t (K.ofNat 160)) (.c (.b false))⟩, ⟨(some (K.ofNat 162)), none, .mv (.t (K.ofNat 161))⟩, ⟨(some (K.ofNat 163)), (some ((K.ofNat 162), true)), .mv (.t (K.ofNat 10))⟩, ⟨(some (K.ofNat 164)), (some ((K.ofNat 162), true)), .not (.t (K.ofNat 163))⟩, ⟨(some (K.ofNat 165)), none, .pick (.t (K.ofNat 162)) (.t (K.ofNat 164)) (.c (.b false))⟩, ⟨(some (K.ofNat 166)), none, .mv (.t (K.ofNat 165))⟩, ⟨(some (K.ofNat 167)), (some ((K.ofNat 166), true)), .mv (.t (K.ofNat 13))⟩, ⟨(some (K.ofNat 168)), (some ((K.ofNat 166), true)), .not (.t (K.ofNat 167))⟩, ⟨(some (K.ofNat 169)), none, .pick (.t (K.ofNat 166)) (.t (K.ofNat 168)) (.c (.b false))⟩, ⟨(some (K.ofNat 170)), none, .mv (.t (K.ofNat 169))⟩, ⟨(some (K.ofNat 171)), (some ((K.ofNat 170), true)), .mv (.t (K.ofNat 19))⟩, ⟨(some (K.ofNat 172)), (some ((K.ofNat 170), true)), .not (.t (K.ofNat 171))⟩, ⟨(some (K.ofNat 173)), none, .pick (.t (K.ofNat 170)) (.t (K.ofNat 172)) (.c (.b false))⟩, ⟨(some (K.ofNat 174)), none, .mv (.t (K.ofNat 173))⟩, ⟨(some (K.ofNat 175)), (some ((K.ofNat 174), true)), .mv (.t (K.ofNat 22))⟩, ⟨(some (K.ofNat 176)), (some ((K.ofNat 174), true)), .not (.t (K.ofNat 175))⟩, ⟨(some (K.ofNat 177)), none, .pick (.t (K.ofNat 174)) (.t (K.ofNat 176)) (.c (.b false))⟩, ⟨(some (K.ofNat 178)), none, .mv (.t (K.ofNat 177))⟩, ⟨(some (K.ofNat 179)), (some ((K.ofNat 178), true)), .mv (.t (K.ofNat 27))⟩, ⟨(some (K.ofNat 180)), (some ((K.ofNat 178), true)), .not (.t (K.ofNat 179))⟩, ⟨(some (K.ofNat 181)), none, .pick (.t (K.ofNat 178)) (.t (K.ofNat 180)) (.c (.b false))⟩, ⟨(some (K.ofNat 182)), none, .mv (.t (K.ofNat 181))⟩, ⟨(some (K.ofNat 183)), (some ((K.ofNat 182), true)), .mv (.t (K.ofNat 12))⟩, ⟨(some (K.ofNat 184)), (some ((K.ofNat 182), true)), .mv (.t (K.ofNat 15))⟩, ⟨(some (K.ofNat 185)), (some ((K.ofNat 182), true)), .len (.t (K.ofNat 184))⟩, ⟨(some (K.ofNat 186)), (some ((K.ofNat 182), true)), .bin .add (.t (K.ofNat 183)) (.t (K.ofNat 185))⟩, ⟨(some (K.ofNat 187)), (some ((K.ofNat 182), true)), .mv (.t (K.ofNat 17))⟩, ⟨(some (K.ofNat 188)), (some ((K.ofNat 182), true)), .len (.t (K.ofNat 187))⟩, ⟨(some (K.ofNat 189)), (some ((K.ofNat 182), true)), .bin .add (.t (K.ofNat 186)) (.t (K.ofNat 188))⟩, ⟨(some (K.ofNat 190)), (some ((K.ofNat 182), true)), .mv (.t (K.ofNat 21))⟩, ⟨(some (K.ofNat 191)), (some ((K.ofNat 182), true)), .len (.t (K.ofNat 190))⟩, ⟨(some (K.ofNat 192)), (some ((K.ofNat 182), true)), .bin .add (.t (K.ofNat 189)) (.t (K.ofNat 191))⟩, ⟨(some (K.ofNat 193)), (some ((K.ofNat 182), true)), .mv (.t (K.ofNat 24))⟩, ⟨(some (K.ofNat 194)), (some ((K.ofNat 182), true)), .bin .add (.t (K.ofNat 192)) (.t (K.ofNat 193))⟩, ⟨(some (K.ofNat 195)), (some ((K.ofNat 182), true)), .mv (.t (K.ofNat 26))⟩, ⟨(some (K.ofNat 196)), (some ((K.ofNat 182), true)), .len (.t (K.ofNat 195))⟩, ⟨(some (K.ofNat 197)), (some ((K.ofNat 182), true)), .bin .add (.t (K.ofNat 194)) (.t (K.ofNat 196))⟩, ⟨(some (K.ofNat 198)), (some ((K.ofNat 182), true)), .mv (.t (K.ofNat 29))⟩, ⟨(some (K.ofNat 199)), (some ((K.ofNat 182), true)), .len (.t (K.ofNat 198))⟩, ⟨(some (K.ofNat 200)), (some ((K.ofNat 182), true)), .bin .add (.t (K.ofNat 197)) (.t (K.ofNat 199))⟩, ⟨(some (K.ofNat 201)), (some ((K.ofNat 182), true)), .bin .eql (.t (K.ofNat 200)) (.c (.i .i64 (.ofNat 0)))⟩, ⟨(some (K.ofNat 202)), none, .pick (.t (K.ofNat 182)) (.t (K.ofNat 201)) (.c (.b false))⟩, ⟨(some (K.ofNat 203)), none, .mv (.t (K.ofNat 202))⟩, ⟨(some (K.ofNat 204)), (some ((K.ofNat 203), true)), .call (.c (.fn (K.ofNat 23) [])) []⟩, ⟨(some (K.ofNat 205)), none, .pick (.t (K.ofNat 203)) (.t (K.ofNat 204)) (.c (.b false))⟩, ⟨(some (K.ofNat 6)), none, .as (.t (K.ofNat 205))⟩]
noncomputable def f3_c : EC := (.seq (.reg f3_r0) (.seq (.reg f3_r1) (.seq (.reg f3_r2) (.seq (.seq (.reg f3_r3) (.cond (.t (K.ofNat 42)) (.seq (.reg f3_r4) .ret) .skip)) (.seq (.reg f3_r5) (.seq (.reg f3_r6) (.seq (.reg f3_r7) (.seq (.reg f3_r8) (.seq (.reg f3_r9) (.seq (.seq (.reg f3_r10) (.cond (.t (K.ofNat 79)) (.seq (.reg f3_r11) .ret) .skip)) (.seq (.reg f3_r12) (.seq (.reg f3_r13) (.seq (.reg f3_r14) (.seq (.reg f3_r15) (.seq (.reg f3_r16) .ret)))))))))))))))
noncomputable def f3 : EF := ⟨206, [.tmp (K.ofNat 6)], f3_c, none⟩
section
variable {fs : T EF} {h : H} {v : V} {E : List (Int × Int)}
theorem f14_ret {m : Nat} {L : List (Int × Int)} (hv : Srp h v L) (hc : HC h) (hm : m ≤ 1000000) : Ret fs f14 [v, .i .i64 (m : Int)] h fun u h' => Srp h' u (L.take m) ∧ Own h.nx.nat u ∧ Grow h.nx.nat h h' := by
  apply ret_of rfl
  show W fs none f14_c _ _ _
  unfold f14_c
  have hmin : min (L.length : Int) (m : Int) = ((min L.length m : Nat) : Int) := by omega
  obtain ⟨v', p1, p2, _⟩ := hv.cut (kk := .i64) (u := min L.length m) (by omega)
  rw [show L.take (min L.length m) = L.take m by rw [Nat.min_comm, List.take_eq_take_iff]; omega] at p2
  obtain ⟨v2, h2, q1, q2, q3, q4⟩ := p2.appN hc (by simp; omega)
  simp (disch := omega) only [f14_r0, f14_r1, f14_r2, f14_rs, w_reg, w_seq, w_ret, seqK_n, retK_r, x_nil, x_mv, x_as, x_slice, sliceV_eq, Option.map_none, Option.map_some, x_len, x_app, x_min, kx, rvP_ok, ev_t, ev_c, getV_some, putD_some, oGet_s, min_ii, readRs_nil, readRs_t, retV_1, frame_2, Option.some.injEq, exists_eq_left', getK_set, Nat.reduceEqDiff, ↓reduceIte, hv.len, hmin, sliceV_eq, Option.map_none, Option.map_some, p1, q1]
  exact ⟨q2.srp, q3, q4⟩
end
section
variable {fs : T EF} {h : H}
end
end Go.Ev
namespace Go.Ev
open Go Go.RowKit
noncomputable def f38_r0 : List EOper := [⟨(some (K.ofNat 4)), none, .as (.c (.b false))⟩]
noncomputable def f38_r1 : List EOper := [⟨(some (K.ofNat 8)), none, .mv (.t (K.ofNat 0))⟩, ⟨(some (K.ofNat 9)), none, .bin .lss (.t (K.ofNat 8)) (.c (.i .i64 (.ofNat 2)))⟩, ⟨(some (K.ofNat 10)), none, .mv (.t (K.ofNat 9))⟩, ⟨(some (K.ofNat 11)), (some ((K.ofNat 10), false)), .mv (.t (K.ofNat 0))⟩, ⟨(some (K.ofNat 12)), (some ((K.ofNat 10), false)), .bin .gtr (.t (K.ofNat 11)) (.c (.i .i64 (.ofNat 21)))⟩, ⟨(some (K.ofNat 13)), none, .pick (.t (K.ofNat 10)) (.c (.b true)) (.t (K.ofNat 12))⟩, ⟨(some (K.ofNat 14)), none, .mv (.t (K.ofNat 13))⟩, ⟨(some (K.ofNat 15)), (some ((K.ofNat 14), false)), .mv (.t (K.ofNat 1))⟩, ⟨(some (K.ofNat 16)), (some ((K.ofNat 14), false)), .len (.t (K.ofNat 15))⟩, ⟨(some (K.ofNat 17)), (some ((K.ofNat 14), false)), .bin .gtr (.t (K.ofNat 16)) (.c (.i .i64 (.ofNat 40)))⟩, ⟨(some (K.ofNat 18)), none, .pick (.t (K.ofNat 14)) (.c (.b true)) (.t (K.ofNat 17))⟩]
noncomputable def f38_r2 : List EOper := [⟨(some (K.ofNat 4)), none, .as (.c (.b false))⟩]
noncomputable def f38_r3 : List EOper := [⟨(some (K.ofNat 5)), none, .as (.c (.i .i64 (.ofNat 0)))⟩]
noncomputable def f38_r4 : List EOper := [⟨(some (K.ofNat 19)), none, .mv (.t (K.ofNat 5))⟩, ⟨(some (K.ofNat 20)), none, .mv (.t (K.ofNat 1))⟩, ⟨(some (K.ofNat 21)), none, .len (.t (K.ofNat 20))⟩, ⟨(some (K.ofNat 22)), none, .bin .lss (.t (K.ofNat 19)) (.t (K.ofNat 21))⟩]
noncomputable def f38_r5 : List EOper := [⟨(some (K.ofNat 25)), none, .mv (.t (K.ofNat 1))⟩, ⟨(some (K.ofNat 26)), none, .mv (.t (K.ofNat 5))⟩, ⟨(some (K.ofNat 27)), none, .iads 1 (.t (K.ofNat 25)) (.t (K.ofNat 26))⟩, ⟨(some (K.ofNat 28)), none, .ld (.t (K.ofNat 27))⟩, ⟨(some (K.ofNat 29)), none, .len (.t (K.ofNat 28))⟩, ⟨(some (K.ofNat 30)), none, .bin .gtr (.t (K.ofNat 29)) (.c (.i .i64 (.ofNat 20)))⟩]
noncomputable def f38_r6 : List EOper := [⟨(some (K.ofNat 4)), none, .as (.c (.b false))⟩]
noncomputable def f38_r7 : List EOper := [⟨(some (K.ofNat 6)), none, .as (.c (.i .i64 (.ofNat 0)))⟩]
noncomputable def f38_r8 : List EOper := [⟨(some (K.ofNat 31)), none, .mv (.t (K.ofNat 6))⟩, ⟨(some (K.ofNat 32)), none, .mv (.t (K.ofNat 1))⟩, ⟨(some (K.ofNat 33)), none, .mv (.t (K.ofNat 5))⟩, ⟨(some (K.ofNat 34)), none, .iads 1 (.t (K.ofNat 32)) (.t (K.ofNat 33))⟩, ⟨(some (K.ofNat 35)), none, .ld (.t (K.ofNat 34))⟩, ⟨(some (K.ofNat 36)), none, .len (.t (K.ofNat 35))⟩, ⟨(some (K.ofNat 37)), none, .bin .lss (.t (K.ofNat 31)) (.t (K.ofNat 36))⟩]
noncomputable def f38_r9 : List EOper := [⟨(some (K.ofNat 40)), none, .mv (.t (K.ofNat 1))⟩, ⟨(some (K.ofNat 41)), none, .mv (.t (K.ofNat 5))⟩, ⟨(some (K.ofNat 42)), none, .iads 1 (.t (K.ofNat 40)) (.t (K.ofNat 41))⟩, ⟨(some (K.ofNat 43)), none, .ld (.t (K.ofNat 42))⟩, ⟨(some (K.ofNat 44)), none, .mv (.t (K.ofNat 6))⟩, ⟨(some (K.ofNat 45)), none, .iads 2 (.t (K.ofNat 43)) (.t (K.ofNat 44))⟩, ⟨(some (K.ofNat 46)), none, .ldn 2 (.t (K.ofNat 45))⟩, ⟨(some (K.ofNat 7)), none, .alloc 2 [(.i .i64 (.ofNat 0)), (.i .i64 (.ofNat 0))]⟩, ⟨none, none, .st 2 (.t (K.ofNat 7)) (.t (K.ofNat 46))⟩]
noncomputable def f38_r10 : List EOper := [⟨(some (K.ofNat 47)), none, .iadr 2 1 (.t (K.ofNat 7)) (.c (.i .i64 (.ofNat 0)))⟩, ⟨(some (K.ofNat 48)), none, .ld (.t (K.ofNat 47))⟩, ⟨(some (K.ofNat 49)), none, .bin .lss (.t (K.ofNat 48)) (.c (.i .i64 (.ofNat 0)))⟩, ⟨(some (K.ofNat 50)), none, .mv (.t (K.ofNat 49))⟩, ⟨(some (K.ofNat 51)), (some ((K.ofNat 50), false)), .iadr 2 1 (.t (K.ofNat 7)) (.c (.i .i64 (.ofNat 0)))⟩, ⟨(some (K.ofNat 52)), (some ((K.ofNat 50), false)), .ld (.t (K.ofNat 51))⟩, ⟨(some (K.ofNat 53)), (some ((K.ofNat 50), false)), .iadr 2 1 (.t (K.ofNat 7)) (.c (.i .i64 (.ofNat 1)))⟩, ⟨(some (K.ofNat 54)), (some ((K.ofNat 50), false)), .ld (.t (K.ofNat 53))⟩, ⟨(some (K.ofNat 55)), (some ((K.ofNat 50), false)), .bin .geq (.t (K.ofNat 52)) (.t (K.ofNat 54))⟩, ⟨(some (K.ofNat 56)), none, .pick (.t (K.ofNat 50)) (.c (.b true)) (.t (K.ofNat 55))⟩, ⟨(some (K.ofNat 57)), none, .mv (.t (K.ofNat 56))⟩, ⟨(some (K.ofNat 58)), (some ((K.ofNat 57), false)), .iadr 2 1 (.t (K.ofNat 7)) (.c (.i .i64 (.ofNat 1)))⟩, ⟨(some (K.ofNat 59)), (some ((K.ofNat 57), false)), .ld (.t (K.ofNat 58))⟩, ⟨(some (K.ofNat 60)), (some ((K.ofNat 57), false)), .mv (.t (K.ofNat 0))⟩, ⟨(some (K.ofNat 61)), (some ((K.ofNat 57), false)), .bin .geq (.t (K.ofNat 59)) (.t (K.ofNat 60))⟩, ⟨(some (K.ofNat 62)), none, .pick (.t (K.ofNat 57)) (.c (.b true)) (.t (K.ofNat 61))⟩]
noncomputable def f38_r11 : List EOper := [⟨(some (K.ofNat 4)), none, .as (.c (.b false))⟩]
noncomputable def f38_r12 : List EOper := [⟨(some (K.ofNat 38)), none, .mv (.t (K.ofNat 6))⟩, ⟨(some (K.ofNat 39)), none, .bin .add (.t (K.ofNat 38)) (.c (.i .i64 (.ofNat 1)))⟩, ⟨(some (K.ofNat 6)), none, .as (.t (K.ofNat 39))⟩]
noncomputable def f38_l0 : EC := (.seq (.seq (.reg f38_r8) (.cond (.t (K.ofNat 37)) .skip (.exit 2))) (.seq (.block 3 (.seq (.reg f38_r9) (.seq (.reg f38_r10) (.cond (.t (K.ofNat 62)) (.seq (.reg f38_r11) .ret) .skip)))) (.reg f38_r12)))
noncomputable def f38_r13 : List EOper := [⟨(some (K.ofNat 23)), none, .mv (.t (K.ofNat 5))⟩, ⟨(some (K.ofNat 24)), none, .bin .add (.t (K.ofNat 23)) (.c (.i .i64 (.ofNat 1)))⟩, ⟨(some (K.ofNat 5)), none, .as (.t (K.ofNat 24))⟩]
noncomputable def f38_l1 : EC := (.seq (.seq (.reg f38_r4) (.cond (.t (K.ofNat 22)) .skip (.exit 0))) (.seq (.block 1 (.seq (.seq (.reg f38_r5) (.cond (.t (K.ofNat 30)) (.seq (.reg f38_r6) .ret) .skip)) (.seq (.reg f38_r7) (.block 2 (.loop f38_l0))))) (.reg f38_r13)))
noncomputable def f38_r14 : List EOper := [⟨(some (K.ofNat 4)), none, .as (.c (.b true))⟩]
noncomputable def f38_c : EC := (.seq (.reg f38_r0) (.seq (.seq (.reg f38_r1) (.cond (.t (K.ofNat 18)) (.seq (.reg f38_r2) .ret) .skip)) (.seq (.seq (.reg f38_r3) (.block 0 (.loop f38_l1))) (.seq (.reg f38_r14) .ret))))
noncomputable def f38 : EF := ⟨63, [.tmp (K.ofNat 4)], f38_c, none⟩
theorem f38_rs : f38.rs = [.tmp (K.ofNat 4)] := of_eq_true (eq_self _)
noncomputable def f39_r0 : List EOper := [⟨(some (K.ofNat 4)), none, .as (.c (.b false))⟩]
noncomputable def f39_r1 : List EOper := [⟨(some (K.ofNat 10)), none, .mv (.t (K.ofNat 0))⟩, ⟨(some (K.ofNat 11)), none, .mv (.t (K.ofNat 0))⟩, ⟨(some (K.ofNat 12)), none, .bin .mul (.t (K.ofNat 10)) (.t (K.ofNat 11))⟩, ⟨(some (K.ofNat 13)), none, .mkslice 1 [(.i .i64 (.ofNat 0))] (.t (K.ofNat 12))⟩, ⟨(some (K.ofNat 5)), none, .as (.t (K.ofNat 13))⟩]
noncomputable def f39_r2 : List EOper := [⟨(some (K.ofNat 6)), none, .as (.c (.i .i64 (.ofNat 0)))⟩]
noncomputable def f39_r3 : List EOper := [⟨(some (K.ofNat 14)), none, .mv (.t (K.ofNat 6))⟩, ⟨(some (K.ofNat 15)), none, .mv (.t (K.ofNat 1))⟩, ⟨(some (K.ofNat 16)), none, .len (.t (K.ofNat 15))⟩, ⟨(some (K.ofNat 17)), none, .bin .lss (.t (K.ofNat 14)) (.t (K.ofNat 16))⟩]
noncomputable def f39_r4 : List EOper := [⟨(some (K.ofNat 7)), none, .as (.c (.i .i64 (.ofNat 0)))⟩]
noncomputable def f39_r5 : List EOper := [⟨(some (K.ofNat 20)), none, .mv (.t (K.ofNat 7))⟩, ⟨(some (K.ofNat 21)), none, .mv (.t (K.ofNat 1))⟩, ⟨(some (K.ofNat 22)), none, .mv (.t (K.ofNat 6))⟩, ⟨(some (K.ofNat 23)), none, .iads 1 (.t (K.ofNat 21)) (.t (K.ofNat 22))⟩, ⟨(some (K.ofNat 24)), none, .ld (.t (K.ofNat 23))⟩, ⟨(some (K.ofNat 25)), none, .len (.t (K.ofNat 24))⟩, ⟨(some (K.ofNat 26)), none, .bin .lss (.t (K.ofNat 20)) (.t (K.ofNat 25))⟩]
noncomputable def f39_r6 : List Stage := [⟨[⟨(some (K.ofNat 29)), none, .mv (.t (K.ofNat 5))⟩, ⟨(some (K.ofNat 30)), none, .mv (.t (K.ofNat 1))⟩, ⟨(some (K.ofNat 31)), none, .mv (.t (K.ofNat 6))⟩, ⟨(some (K.ofNat 32)), none, .iads 1 (.t (K.ofNat 30)) (.t (K.ofNat 31))⟩, ⟨(some (K.ofNat 33)), none, .ld (.t (K.ofNat 32))⟩, ⟨(some (K.ofNat 34)), none, .mv (.t (K.ofNat 7))⟩, ⟨(some (K.ofNat 35)), none, .iads 2 (.t (K.ofNat 33)) (.t (K.ofNat 34))⟩, ⟨(some (K.ofNat 36)), none, .iadr 2 1 (.t (K.ofNat 35)) (.c (.i .i64 (.ofNat 0)))⟩, ⟨(some (K.ofNat 37)), none, .ld (.t (K.ofNat 36))⟩, ⟨(some (K.ofNat 38)), none, .mv (.t (K.ofNat 0))⟩, ⟨(some (K.ofNat 39)), none, .bin .mul (.t (K.ofNat 37)) (.t (K.ofNat 38))⟩, ⟨(some (K.ofNat 40)), none, .mv (.t (K.ofNat 1))⟩, ⟨(some (K.ofNat 41)), none, .mv (.t (K.ofNat 6))⟩, ⟨(some (K.ofNat 42)), none, .iads 1 (.t (K.ofNat 40)) (.t (K.ofNat 41))⟩, ⟨(some (K.ofNat 43)), none, .ld (.t (K.ofNat 42))⟩, ⟨(some (K.ofNat 44)), none, .mv (.t (K.ofNat 7))⟩, ⟨(some (K.ofNat 45)), none, .iads 2 (.t (K.ofNat 43)) (.t (K.ofNat 44))⟩, ⟨(some (K.ofNat 46)), none, .iadr 2 1 (.t (K.ofNat 45)) (.c (.i .i64 (.ofNat 1)))⟩, ⟨(some (K.ofNat 47)), none, .ld (.t (K.ofNat 46))⟩, ⟨(some (K.ofNat 48)), none, .bin .add (.t (K.ofNat 39)) (.t (K.ofNat 47))⟩, ⟨(some (K.ofNat 49)), none, .iads 1 (.t (K.ofNat 29)) (.t (K.ofNat 48))⟩, ⟨(some (K.ofNat 50)), none, .ld (.t (K.ofNat 49))⟩, ⟨(some (K.ofNat 51)), none, .bin .add (.t (K.ofNat 50)) (.c (.i .i64 (.ofNat 1)))⟩, ⟨(some (K.ofNat 52)), none, .iads 1 (.t (K.ofNat 29)) (.t (K.ofNat 48))⟩], [], (some ⟨none, none, .st 1 (.t (K.ofNat 52)) (.t (K.ofNat 51))⟩), []⟩, ⟨[], [], none, []⟩]
noncomputable def f39_r7 : List EOper := [⟨(some (K.ofNat 27)), none, .mv (.t (K.ofNat 7))⟩, ⟨(some (K.ofNat 28)), none, .bin .add (.t (K.ofNat 27)) (.c (.i .i64 (.ofNat 1)))⟩, ⟨(some (K.ofNat 7)), none, .as (.t (K.ofNat 28))⟩]
noncomputable def f39_l0 : EC := (.seq (.seq (.reg f39_r5) (.cond (.t (K.ofNat 26)) .skip (.exit 2))) (.seq (.block 3 (.draw f39_r6)) (.reg f39_r7)))
noncomputable def f39_r8 : List EOper := [⟨(some (K.ofNat 18)), none, .mv (.t (K.ofNat 6))⟩, ⟨(some (K.ofNat 19)), none, .bin .add (.t (K.ofNat 18)) (.c (.i .i64 (.ofNat 1)))⟩, ⟨(some (K.ofNat 6)), none, .as (.t (K.ofNat 19))⟩]
noncomputable def f39_l1 : EC := (.seq (.seq (.reg f39_r3) (.cond (.t (K.ofNat 17)) .skip (.exit 0))) (.seq (.block 1 (.seq (.reg f39_r4) (.block 2 (.loop f39_l0)))) (.reg f39_r8)))
noncomputable def f39_r9 : List EOper := [⟨(some (K.ofNat 8)), none, .as (.c (.i .i64 (.ofNat 0)))⟩]
noncomputable def f39_r10 : List EOper := [⟨(some (K.ofNat 53)), none, .mv (.t (K.ofNat 8))⟩, ⟨(some (K.ofNat 54)), none, .mv (.t (K.ofNat 0))⟩, ⟨(some (K.ofNat 55)), none, .bin .lss (.t (K.ofNat 53)) (.t (K.ofNat 54))⟩]
noncomputable def f39_r11 : List EOper := [⟨(some (K.ofNat 58)), none, .mv (.t (K.ofNat 8))⟩, ⟨(some (K.ofNat 59)), none, .bin .add (.t (K.ofNat 58)) (.c (.i .i64 (.ofNat 1)))⟩, ⟨(some (K.ofNat 9)), none, .as (.t (K.ofNat 59))⟩]
noncomputable def f39_r12 : List EOper := [⟨(some (K.ofNat 60)), none, .mv (.t (K.ofNat 9))⟩, ⟨(some (K.ofNat 61)), none, .mv (.t (K.ofNat 0))⟩, ⟨(some (K.ofNat 62)), none, .bin .lss (.t (K.ofNat 60)) (.t (K.ofNat 61))⟩]
noncomputable def f39_r13 : List EOper := [⟨(some (K.ofNat 65)), none, .mv (.t (K.ofNat 5))⟩, ⟨(some (K.ofNat 66)), none, .mv (.t (K.ofNat 8))⟩, ⟨(some (K.ofNat 67)), none, .mv (.t (K.ofNat 0))⟩, ⟨(some (K.ofNat 68)), none, .bin .mul (.t (K.ofNat 66)) (.t (K.ofNat 67))⟩, ⟨(some (K.ofNat 69)), none, .mv (.t (K.ofNat 9))⟩, ⟨(some (K.ofNat 70)), none, .bin .add (.t (K.ofNat 68)) (.t (K.ofNat 69))⟩, ⟨(some (K.ofNat 71)), none, .iads 1 (.t (K.ofNat 65)) (.t (K.ofNat 70))⟩, ⟨(some (K.ofNat 72)), none, .ld (.t (K.ofNat 71))⟩, ⟨(some (K.ofNat 73)), none, .bin .neq (.t (K.ofNat 72)) (.c (.i .i64 (.ofNat 1)))⟩]
noncomputable def f39_r14 : List EOper := [⟨(some (K.ofNat 4)), none, .as (.c (.b false))⟩]
noncomputable def f39_r15 : List EOper := [⟨(some (K.ofNat 63)), none, .mv (.t (K.ofNat 9))⟩, ⟨(some (K.ofNat 64)), none, .bin .add (.t (K.ofNat 63)) (.c (.i .i64 (.ofNat 1)))⟩, ⟨(some (K.ofNat 9)), none, .as (.t (K.ofNat 64))⟩]
noncomputable def f39_l2 : EC := (.seq (.seq (.reg f39_r12) (.cond (.t (K.ofNat 62)) .skip (.exit 6))) (.seq (.block 7 (.seq (.reg f39_r13) (.cond (.t (K.ofNat 73)) (.seq (.reg f39_r14) .ret) .skip))) (.reg f39_r15)))
noncomputable def f39_r16 : List EOper := [⟨(some (K.ofNat 56)), none, .mv (.t (K.ofNat 8))⟩, ⟨(some (K.ofNat 57)), none, .bin .add (.t (K.ofNat 56)) (.c (.i .i64 (.ofNat 1)))⟩, ⟨(some (K.ofNat 8)), none, .as (.t (K.ofNat 57))⟩]
noncomputable def f39_l3 : EC := (.seq (.seq (.reg f39_r10) (.cond (.t (K.ofNat 55)) .skip (.exit 4))) (.seq (.block 5 (.seq (.reg f39_r11) (.block 6 (.loop f39_l2)))) (.reg f39_r16)))
noncomputable def f39_r17 : List EOper := [⟨(some (K.ofNat 4)), none, .as (.c (.b true))⟩]
noncomputable def f39_c : EC := (.seq (.reg f39_r0) (.seq (.reg f39_r1) (.seq (.seq (.reg f39_r2) (.block 0 (.loop f39_l1))) (.seq (.seq (.reg f39_r9) (.block 4 (.loop f39_l3))) (.seq (.reg f39_r17) .ret)))))
noncomputable def f39 : EF := ⟨74, [.tmp (K.ofNat 4)], f39_c, none⟩
theorem f39_rs : f39.rs = [.tmp (K.ofNat 4)] := of_eq_true (eq_self _)
noncomputable def f7_r0 : List EOper := [⟨(some (K.ofNat 6)), none, .as (.c (.b false))⟩]
noncomputable def f7_r1 : List EOper := [⟨(some (K.ofNat 7)), none, .as (.c .sn)⟩]
noncomputable def f7_r2 : List EOper := [⟨(some (K.ofNat 8)), none, .as (.c (.i .i64 (.ofNat 0)))⟩]
noncomputable def f7_r3 : List EOper := [⟨(some (K.ofNat 16)), none, .mv (.t (K.ofNat 8))⟩, ⟨(some (K.ofNat 17)), none, .mv (.t (K.ofNat 1))⟩, ⟨(some (K.ofNat 18)), none, .len (.t (K.ofNat 17))⟩, ⟨(some (K.ofNat 19)), none, .bin .lss (.t (K.ofNat 16)) (.t (K.ofNat 18))⟩, ⟨(some (K.ofNat 20)), none, .mv (.t (K.ofNat 19))⟩, ⟨(some (K.ofNat 21)), (some ((K.ofNat 20), true)), .mv (.t (K.ofNat 8))⟩, ⟨(some (K.ofNat 22)), (some ((K.ofNat 20), true)), .bin .lss (.t (K.ofNat 21)) (.c (.i .i64 (.ofNat 42)))⟩, ⟨(some (K.ofNat 23)), none, .pick (.t (K.ofNat 20)) (.t (K.ofNat 22)) (.c (.b false))⟩]
noncomputable def f7_r4 : List EOper := [⟨(some (K.ofNat 26)), none, .mv (.t (K.ofNat 7))⟩, ⟨(some (K.ofNat 27)), none, .mv (.t (K.ofNat 1))⟩, ⟨(some (K.ofNat 28)), none, .mv (.t (K.ofNat 8))⟩, ⟨(some (K.ofNat 29)), none, .iads 1 (.t (K.ofNat 27)) (.t (K.ofNat 28))⟩, ⟨(some (K.ofNat 30)), none, .ld (.t (K.ofNat 29))⟩, ⟨(some (K.ofNat 31)), none, .call (.c (.fn (K.ofNat 14) [])) [(.t (K.ofNat 30)), (.c (.i .i64 (.ofNat 22)))]⟩, ⟨(some (K.ofNat 32)), none, .bslice 1 1 [.sn] [(0, 1, (.t (K.ofNat 31)))]⟩, ⟨(some (K.ofNat 33)), none, .app 1 (.t (K.ofNat 26)) (.t (K.ofNat 32))⟩, ⟨(some (K.ofNat 7)), none, .as (.t (K.ofNat 33))⟩]
noncomputable def f7_r5 : List EOper := [⟨(some (K.ofNat 24)), none, .mv (.t (K.ofNat 8))⟩, ⟨(some (K.ofNat 25)), none, .bin .add (.t (K.ofNat 24)) (.c (.i .i64 (.ofNat 1)))⟩, ⟨(some (K.ofNat 8)), none, .as (.t (K.ofNat 25))⟩]
noncomputable def f7_l0 : EC := (.seq (.seq (.reg f7_r3) (.cond (.t (K.ofNat 23)) .skip (.exit 0))) (.seq (.block 1 (.reg f7_r4)) (.reg f7_r5)))
noncomputable def f7_r6 : List EOper := [⟨(some (K.ofNat 9)), none, .as (.c (.i .i64 (.ofNat 0)))⟩]
noncomputable def f7_r7 : List EOper := [⟨(some (K.ofNat 34)), none, .mv (.t (K.ofNat 9))⟩, ⟨(some (K.ofNat 35)), none, .bin .lss (.t (K.ofNat 34)) (.c (.i .i64 (.ofNat 3)))⟩]
noncomputable def f7_r8 : List EOper := [⟨(some (K.ofNat 39)), none, .mv (.t (K.ofNat 0))⟩, ⟨(some (K.ofNat 40)), none, .mv (.t (K.ofNat 7))⟩, ⟨(some (K.ofNat 41)), none, .call (.c (.fn (K.ofNat 37) [])) [(.t (K.ofNat 39)), (.t (K.ofNat 40))]⟩, ⟨(some (K.ofNat 38)), none, .mv (.t (K.ofNat 41))⟩, ⟨(some (K.ofNat 42)), none, .ext (.t (K.ofNat 38)) 0⟩, ⟨(some (K.ofNat 43)), none, .ext (.t (K.ofNat 38)) 1⟩, ⟨(some (K.ofNat 10)), none, .as (.t (K.ofNat 42))⟩, ⟨(some (K.ofNat 11)), none, .as (.t (K.ofNat 43))⟩]
noncomputable def f7_r9 : List EOper := [⟨(some (K.ofNat 44)), none, .mv (.t (K.ofNat 0))⟩, ⟨(some (K.ofNat 45)), none, .mv (.t (K.ofNat 7))⟩, ⟨(some (K.ofNat 46)), none, .call (.c (.fn (K.ofNat 38) [])) [(.t (K.ofNat 44)), (.t (K.ofNat 45))]⟩, ⟨(some (K.ofNat 47)), none, .not (.t (K.ofNat 46))⟩]
noncomputable def f7_r10 : List EOper := [⟨(some (K.ofNat 48)), none, .mv (.t (K.ofNat 11))⟩, ⟨(some (K.ofNat 49)), none, .bin .neq (.t (K.ofNat 48)) (.c (.i .i64 (.ofNat 1)))⟩, ⟨(some (K.ofNat 50)), none, .mv (.t (K.ofNat 49))⟩, ⟨(some (K.ofNat 51)), (some ((K.ofNat 50), false)), .mv (.t (K.ofNat 10))⟩, ⟨(some (K.ofNat 52)), none, .pick (.t (K.ofNat 50)) (.c (.b true)) (.t (K.ofNat 51))⟩]
noncomputable def f7_r11 : List EOper := [⟨(some (K.ofNat 6)), none, .as (.c (.b false))⟩]
noncomputable def f7_r12 : List EOper := [⟨(some (K.ofNat 53)), none, .mv (.t (K.ofNat 11))⟩, ⟨(some (K.ofNat 54)), none, .bin .neq (.t (K.ofNat 53)) (.c (.i .i64 (.ofNat 0)))⟩, ⟨(some (K.ofNat 55)), none, .mv (.t (K.ofNat 54))⟩, ⟨(some (K.ofNat 56)), (some ((K.ofNat 55), false)), .mv (.t (K.ofNat 10))⟩, ⟨(some (K.ofNat 57)), (some ((K.ofNat 55), false)), .mv (.t (K.ofNat 0))⟩, ⟨(some (K.ofNat 58)), (some ((K.ofNat 55), false)), .mv (.t (K.ofNat 7))⟩, ⟨(some (K.ofNat 59)), (some ((K.ofNat 55), false)), .call (.c (.fn (K.ofNat 39) [])) [(.t (K.ofNat 57)), (.t (K.ofNat 58))]⟩, ⟨(some (K.ofNat 60)), (some ((K.ofNat 55), false)), .eqk (.one none) true (.t (K.ofNat 56)) (.t (K.ofNat 59))⟩, ⟨(some (K.ofNat 61)), none, .pick (.t (K.ofNat 55)) (.c (.b true)) (.t (K.ofNat 60))⟩]
noncomputable def f7_r13 : List EOper := [⟨(some (K.ofNat 6)), none, .as (.c (.b false))⟩]
noncomputable def f7_r14 : List EOper := [⟨(some (K.ofNat 62)), none, .mv (.t (K.ofNat 0))⟩, ⟨(some (K.ofNat 63)), none, .conv .u64 (.t (K.ofNat 62))⟩, ⟨(some (K.ofNat 64)), none, .bin .rem (.t (K.ofNat 63)) (.c (.i .u64 (.ofNat 14)))⟩, ⟨(some (K.ofNat 65)), none, .conv .i64 (.t (K.ofNat 64))⟩, ⟨(some (K.ofNat 66)), none, .bin .add (.c (.i .i64 (.ofNat 2))) (.t (K.ofNat 65))⟩, ⟨(some (K.ofNat 0)), none, .as (.t (K.ofNat 66))⟩]
noncomputable def f7_r15 : List EOper := [⟨(some (K.ofNat 7)), none, .as (.c .sn)⟩]
noncomputable def f7_r16 : List EOper := [⟨(some (K.ofNat 12)), none, .as (.c (.i .i64 (.ofNat 0)))⟩]
noncomputable def f7_r17 : List EOper := [⟨(some (K.ofNat 13)), none, .as (.c (.i .i64 (.ofNat 0)))⟩]
noncomputable def f7_r18 : List EOper := [⟨(some (K.ofNat 67)), none, .mv (.t (K.ofNat 13))⟩, ⟨(some (K.ofNat 68)), none, .mv (.t (K.ofNat 0))⟩, ⟨(some (K.ofNat 69)), none, .bin .lss (.t (K.ofNat 67)) (.t (K.ofNat 68))⟩]
noncomputable def f7_r19 : List EOper := [⟨(some (K.ofNat 14)), none, .as (.c .sn)⟩]
noncomputable def f7_r20 : List EOper := [⟨(some (K.ofNat 72)), none, .mv (.t (K.ofNat 13))⟩, ⟨(some (K.ofNat 73)), none, .bin .add (.t (K.ofNat 72)) (.c (.i .i64 (.ofNat 1)))⟩, ⟨(some (K.ofNat 15)), none, .as (.t (K.ofNat 73))⟩]
noncomputable def f7_r21 : List EOper := [⟨(some (K.ofNat 74)), none, .mv (.t (K.ofNat 15))⟩, ⟨(some (K.ofNat 75)), none, .mv (.t (K.ofNat 0))⟩, ⟨(some (K.ofNat 76)), none, .bin .lss (.t (K.ofNat 74)) (.t (K.ofNat 75))⟩]
noncomputable def f7_r22 : List EOper := [⟨(some (K.ofNat 79)), none, .mv (.t (K.ofNat 9))⟩, ⟨(some (K.ofNat 80)), none, .bin .eql (.t (K.ofNat 79)) (.c (.i .i64 (.ofNat 0)))⟩, ⟨(some (K.ofNat 81)), none, .mv (.t (K.ofNat 80))⟩, ⟨(some (K.ofNat 82)), (some ((K.ofNat 81), false)), .mv (.t (K.ofNat 12))⟩, ⟨(some (K.ofNat 83)), (some ((K.ofNat 81), false)), .mv (.t (K.ofNat 2))⟩, ⟨(some (K.ofNat 84)), (some ((K.ofNat 81), false)), .conv .u64 (.t (K.ofNat 83))⟩, ⟨(some (K.ofNat 85)), (some ((K.ofNat 81), false)), .bin .rem (.t (K.ofNat 84)) (.c (.i .u64 (.ofNat 91)))⟩, ⟨(some (K.ofNat 86)), (some ((K.ofNat 81), false)), .conv .i64 (.t (K.ofNat 85))⟩, ⟨(some (K.ofNat 87)), (some ((K.ofNat 81), false)), .bin .neq (.t (K.ofNat 82)) (.t (K.ofNat 86))⟩, ⟨(some (K.ofNat 88)), none, .pick (.t (K.ofNat 81)) (.c (.b true)) (.t (K.ofNat 87))⟩]
noncomputable def f7_r23 : List EOper := [⟨(some (K.ofNat 89)), none, .mv (.t (K.ofNat 14))⟩, ⟨(some (K.ofNat 90)), none, .mv (.t (K.ofNat 13))⟩, ⟨(some (K.ofNat 91)), none, .mv (.t (K.ofNat 15))⟩, ⟨(some (K.ofNat 92)), none, .build [(.i .i64 (.ofNat 0)), (.i .i64 (.ofNat 0))] [(0, 1, (.t (K.ofNat 90))), (1, 1, (.t (K.ofNat 91)))]⟩, ⟨(some (K.ofNat 93)), none, .bslice 1 2 [(.i .i64 (.ofNat 0)), (.i .i64 (.ofNat 0))] [(0, 2, (.t (K.ofNat 92)))]⟩, ⟨(some (K.ofNat 94)), none, .app 2 (.t (K.ofNat 89)) (.t (K.ofNat 93))⟩, ⟨(some (K.ofNat 14)), none, .as (.t (K.ofNat 94))⟩]
noncomputable def f7_r24 : List EOper := [⟨(some (K.ofNat 95)), none, .mv (.t (K.ofNat 12))⟩, ⟨(some (K.ofNat 96)), none, .bin .add (.t (K.ofNat 95)) (.c (.i .i64 (.ofNat 1)))⟩, ⟨(some (K.ofNat 12)), none, .as (.t (K.ofNat 96))⟩]
noncomputable def f7_r25 : List EOper := [⟨(some (K.ofNat 77)), none, .mv (.t (K.ofNat 15))⟩, ⟨(some (K.ofNat 78)), none, .bin .add (.t (K.ofNat 77)) (.c (.i .i64 (.ofNat 1)))⟩, ⟨(some (K.ofNat 15)), none, .as (.t (K.ofNat 78))⟩]
noncomputable def f7_l1 : EC := (.seq (.seq (.reg f7_r21) (.cond (.t (K.ofNat 76)) .skip (.exit 6))) (.seq (.block 7 (.seq (.seq (.reg f7_r22) (.cond (.t (K.ofNat 88)) (.reg f7_r23) .skip)) (.reg f7_r24))) (.reg f7_r25)))
noncomputable def f7_r26 : List EOper := [⟨(some (K.ofNat 97)), none, .mv (.t (K.ofNat 7))⟩, ⟨(some (K.ofNat 98)), none, .mv (.t (K.ofNat 14))⟩, ⟨(some (K.ofNat 99)), none, .bslice 1 1 [.sn] [(0, 1, (.t (K.ofNat 98)))]⟩, ⟨(some (K.ofNat 100)), none, .app 1 (.t (K.ofNat 97)) (.t (K.ofNat 99))⟩, ⟨(some (K.ofNat 7)), none, .as (.t (K.ofNat 100))⟩]
noncomputable def f7_r27 : List EOper := [⟨(some (K.ofNat 70)), none, .mv (.t (K.ofNat 13))⟩, ⟨(some (K.ofNat 71)), none, .bin .add (.t (K.ofNat 70)) (.c (.i .i64 (.ofNat 1)))⟩, ⟨(some (K.ofNat 13)), none, .as (.t (K.ofNat 71))⟩]
noncomputable def f7_l2 : EC := (.seq (.seq (.reg f7_r18) (.cond (.t (K.ofNat 69)) .skip (.exit 4))) (.seq (.block 5 (.seq (.reg f7_r19) (.seq (.seq (.reg f7_r20) (.block 6 (.loop f7_l1))) (.reg f7_r26)))) (.reg f7_r27)))
noncomputable def f7_r28 : List EOper := [⟨(some (K.ofNat 36)), none, .mv (.t (K.ofNat 9))⟩, ⟨(some (K.ofNat 37)), none, .bin .add (.t (K.ofNat 36)) (.c (.i .i64 (.ofNat 1)))⟩, ⟨(some (K.ofNat 9)), none, .as (.t (K.ofNat 37))⟩]
noncomputable def f7_l3 : EC := (.seq (.seq (.reg f7_r7) (.cond (.t (K.ofNat 35)) .skip (.exit 2))) (.seq (.block 3 (.seq (.reg f7_r8) (.seq (.seq (.reg f7_r9) (.cond (.t (K.ofNat 47)) (.seq (.reg f7_r10) (.cond (.t (K.ofNat 52)) (.seq (.reg f7_r11) .ret) .skip)) (.seq (.reg f7_r12) (.cond (.t (K.ofNat 61)) (.seq (.reg f7_r13) .ret) .skip)))) (.seq (.reg f7_r14) (.seq (.reg f7_r15) (.seq (.reg f7_r16) (.seq (.reg f7_r17) (.block 4 (.loop f7_l2))))))))) (.reg f7_r28)))
noncomputable def f7_r29 : List EOper := [⟨(some (K.ofNat 101)), none, .call (.c (.fn (K.ofNat 23) [])) []⟩, ⟨(some (K.ofNat 6)), none, .as (.t (K.ofNat 101))⟩]
noncomputable def f7_c : EC := (.seq (.reg f7_r0) (.seq (.reg f7_r1) (.seq (.seq (.reg f7_r2) (.block 0 (.loop f7_l0))) (.seq (.seq (.reg f7_r6) (.block 2 (.loop f7_l3))) (.seq (.reg f7_r29) .ret)))))
noncomputable def f7 : EF := ⟨102, [.tmp (K.ofNat 6)], f7_c, none⟩
theorem f7_rs : f7.rs = [.tmp (K.ofNat 6)] := of_eq_true (eq_self _)
section
variable {fs : T EF} {h : H} {v : V} {us : List V} {Ls : List (List (Int × Int))}
def f38_I (h : H) (s : Int) (v : V) (Ls : List (List (Int × Int))) (i : Nat) (fr : Fr) (h1 : H) : Prop := i ≤ Ls.length ∧ Grow h.nx.nat h h1 ∧ (∀ j (hj : j < Ls.length), j < i → (decide (Ls[j].length ≤ 20) && Ls[j].all (edB s)) = true) ∧ fr.get (K.ofNat 0) = some (.i .i64 s) ∧ fr.get (K.ofNat 1) = some (v) ∧ fr.get (K.ofNat 5) = some (.i .i64 (i : Int))
def f38_J (h : H) (s : Int) (v : V) (l : List (Int × Int)) (i : Nat) (j : Nat) (fr : Fr) (h1 : H) : Prop := j ≤ l.length ∧ Grow h.nx.nat h h1 ∧ (l.take j).all (edB s) = true ∧ fr.get (K.ofNat 0) = some (.i .i64 s) ∧ fr.get (K.ofNat 1) = some (v) ∧ fr.get (K.ofNat 5) = some (.i .i64 (i : Int)) ∧ fr.get (K.ofNat 6) = some (.i .i64 (j : Int))
theorem edB_3 {s : Int} {e : Int × Int} : edB s e = !(decide (e.1 < 0) || (decide (e.1 ≥ e.2) || decide (e.2 ≥ s))) := by
  unfold edB
  rw [Bool.eq_iff_iff]
  simp only [Bool.and_eq_true, decide_eq_true_eq, Bool.not_eq_true', Bool.or_eq_false_iff, decide_eq_false_iff_not]
  omega
theorem f38_ret {s : Int} (hv : Sll h v us Ls) (hc : HC h) (hL : Ls.length ≤ 1000000) (hl1 : ∀ l ∈ Ls, l.length ≤ 1000000) : Ret fs f38 [.i .i64 s, v] h fun r h' => r = .b (decide (rgtI s Ls = 0)) ∧ Grow h.nx.nat h h' := by
  apply ret_of rfl
  show W fs none f38_c _ _ _
  unfold f38_c
  have hl : ∀ h1, lenV v h1 = .ok (.i .i64 (Ls.length : Int)) h1 := fun h1 => by rw [hv.out.len, hv.len]
  have one0 : decide ((1 : Int) = 0) = false := rfl
  have zero0 : decide ((0 : Int) = 0) = true := rfl
  unfold rgtI
  cases d1 : decide (s < 2) with
  | true =>
    have h1 : s < 2 ∨ 21 < s ∨ 40 < Ls.length := .inl (by simpa using d1)
    simp (disch := omega) only [f38_r0, f38_r1, f38_r2, f38_rs, w_reg, w_seq, w_cond, w_ret, seqK_n, seqK_r, ckB_b, cbB_b, okG_b, asG_f, true_and, retK_r, x_nil, x_g, x_mv, x_as, x_pick, x_bin, kx, rvP_ok, okv_some, ev_t, ev_c, getV_some, putD_some, bin_lss, pick_b, oGet_s, readRs_nil, readRs_t, retV_1, frame_2, of2, Option.some.injEq, exists_eq_left', getK_set, Nat.reduceEqDiff, ↓reduceIte, Bool.false_eq_true, Bool.not_true, of21, of40, d1, h1, Bool.not_true, one0, true_and]
    exact Grow.refl _ _
  | false =>
  cases d2 : decide (s > 21) with
  | true =>
    have h1 : s < 2 ∨ 21 < s ∨ 40 < Ls.length := .inr (.inl (by simpa using d2))
    simp (disch := omega) only [f38_r0, f38_r1, f38_r2, f38_rs, w_reg, w_seq, w_cond, w_ret, seqK_n, seqK_r, ckB_b, cbB_b, okG_b, asG_f, true_and, retK_r, x_nil, x_g, x_mv, x_as, x_pick, x_bin, kx, rvP_ok, okv_some, ev_t, ev_c, getV_some, putD_some, bin_lss, bin_gtr, pick_b, oGet_s, readRs_nil, readRs_t, retV_1, frame_2, of2, Option.some.injEq, exists_eq_left', getK_set, Nat.reduceEqDiff, ↓reduceIte, Bool.false_eq_true, Bool.not_true, Bool.not_false, of21, of40, d1, d2, h1, Bool.not_true, Bool.not_false, one0, true_and]
    exact Grow.refl _ _
  | false =>
  cases d3 : decide ((Ls.length : Int) > 40) with
  | true =>
    have h0 : (Ls.length : Int) > 40 := by simpa using d3
    have h1 : s < 2 ∨ 21 < s ∨ 40 < Ls.length := .inr (.inr (by omega))
    simp (disch := omega) only [f38_r0, f38_r1, f38_r2, f38_rs, w_reg, w_seq, w_cond, w_ret, seqK_n, seqK_r, ckB_b, cbB_b, okG_b, asG_f, true_and, retK_r, x_nil, x_g, x_mv, x_as, x_pick, x_bin, x_len, kx, rvP_ok, okv_some, ev_t, ev_c, getV_some, putD_some, bin_lss, bin_gtr, pick_b, oGet_s, readRs_nil, readRs_t, retV_1, frame_2, of2, Option.some.injEq, exists_eq_left', getK_set, Nat.reduceEqDiff, ↓reduceIte, Bool.false_eq_true, Bool.not_false, of21, of40, d1, d2, d3, h1, hl, Bool.not_false, one0, true_and]
    exact Grow.refl _ _
  | false =>
  have h1 : ¬ (s < 2 ∨ 21 < s ∨ 40 < Ls.length) := by simp at d1 d2 d3; omega
  simp (disch := omega) only [f38_r0, f38_r1, f38_r3, w_skip, w_reg, w_seq, w_cond, w_block, seqK_n, ckB_b, cbB_b, okG_b, asG_f, true_and, x_nil, x_g, x_mv, x_as, x_pick, x_bin, x_len, kx, rvP_ok, okv_some, ev_t, ev_c, getV_some, putD_some, bin_lss, bin_gtr, pick_b, frame_2, of0, of2, getK_set, Nat.reduceEqDiff, ↓reduceIte, Bool.false_eq_true, Bool.not_false, of21, of40, d1, d2, d3, h1, hl, Bool.not_false]
  refine W_loop (f38_I h s v Ls) (fun i => Ls.length - i) ?_ 0 ⟨by omega, Grow.refl _ _, fun j hj h => by omega, by simp (disch := omega) only [getK_set, Nat.reduceEqDiff, ↓reduceIte, and_self, Int.natCast_zero]⟩
  rintro i fr h1 ⟨hi, hG, hok, g0, g1, g5⟩
  have hv1 := hv.grow hc hG
  unfold f38_l1
  by_cases hlt : i < Ls.length
  · have d4 : decide ((i : Int) < (Ls.length : Int)) = true := by simpa using hlt
    have hiv : i < us.length := by rw [hv.len]; exact hlt
    have hu0 := hv.inn i hiv hlt
    have bad := rgtB_no (s := s) hlt
    have good : ∀ h2 : (decide (Ls[i].length ≤ 20) && Ls[i].all (edB s)) = true, ∀ j (hj : j < Ls.length), j < i + 1 → (decide (Ls[j].length ≤ 20) && Ls[j].all (edB s)) = true := fun h2 j hj hji => by
      by_cases e : j = i
      · subst e; exact h2
      · exact hok j hj (by omega)
    have hat : ∀ h2, Sll h2 v us Ls → ∃ p, (∀ k h1, iadsV 1 v (.i k (i : Int)) h1 = .ok p h1) ∧ loadV h2 p one? = .ok us[i] h2 := fun h2 hs => hs.out.at i hiv
    have hl1 := hl1 _ (List.getElem_mem hlt)
    generalize Ls[i] = l at *
    generalize us[i] = u at *
    obtain ⟨p, hp1, hp2⟩ := hat h1 hv1
    have hu := hu0.grow hc hG
    cases d5 : decide ((l.length : Int) > 20) with
    | true =>
      have : rgtB s Ls = false := bad (by rw [decide_eq_false (by have := of_decide_eq_true d5; omega)]; rfl)
      simp (disch := omega) only [f38_r4, f38_r5, f38_r6, f38_rs, w_skip, w_reg, w_seq, w_cond, w_block, w_ret, seqK_n, seqK_r, atK_r, loopK_r, ckB_b, cbB_b, true_and, retK_r, x_nil, x_mv, x_as, x_ld, x_bin, x_iads, x_len, kx, rvP_ok, okv_some, ev_t, ev_c, getV_some, putD_some, bin_lss, bin_gtr, oGet_s, readRs_nil, readRs_t, retV_1, Option.some.injEq, exists_eq_left', getK_set, Nat.reduceEqDiff, ↓reduceIte, Bool.false_eq_true, of20, g1, g5, hl, d4, hp1, hp2, hu.len, d5, this, Bool.false_eq_true, one0, true_and]
      exact hG
    | false =>
    have hl20 : l.length ≤ 20 := by have := of_decide_eq_false d5; omega
    simp (disch := omega) only [f38_r4, f38_r5, f38_r7, w_skip, w_reg, w_seq, w_cond, w_block, seqK_n, ckB_b, cbB_b, true_and, x_nil, x_mv, x_as, x_ld, x_bin, x_iads, x_len, kx, rvP_ok, okv_some, ev_t, ev_c, getV_some, putD_some, bin_lss, bin_gtr, of0, getK_set, Nat.reduceEqDiff, ↓reduceIte, Bool.false_eq_true, of20, g1, g5, hl, d4, hp1, hp2, hu.len, d5]
    refine W_loop (f38_J h s v l i) (fun j => l.length - j) ?_ 0 ⟨by omega, hG, rfl, by simp (disch := omega) only [getK_set, Nat.reduceEqDiff, ↓reduceIte, g0, g1, g5, and_self, Int.natCast_zero]⟩
    clear hv1 hu hp1 hp2 hG g0 g1 g5 fr
    rintro j fr hx ⟨hj, hG, hall, g0, g1, g5, g6⟩
    have hux := hu0.grow hc hG
    obtain ⟨p, hp1, hp2⟩ := hat hx (hv.grow hc hG)
    unfold f38_l0
    by_cases hlt2 : j < l.length
    · have d6 : decide ((j : Int) < (l.length : Int)) = true := by simpa using hlt2
      obtain ⟨ida, q, hq1, hq2, _, _⟩ := hux.at2 hlt2
      have hst2 : storeV (hx.new (.cells 2 zz)) 2 (.p hx.nx 0) (.agg [.i .i64 l[j].1, .i .i64 l[j].2]) = .ok undefV ((hx.new (.cells 2 zz)).put hx.nx (.cells 2 [.i .i64 l[j].1, .i .i64 l[j].2])) := st2 (a := .i .i64 (.ofNat 0)) (b := .i .i64 (.ofNat 0)) get_new_same
      have nx1 := nx_new hx (.cells 2 zz)
      have gB : Grow hx.nx.nat hx ((hx.new (.cells 2 zz)).put hx.nx (.cells 2 [.i .i64 l[j].1, .i .i64 l[j].2])) := (Grow.new (Nat.le_refl _) _).trans (Grow.put (Nat.le_refl _) (by omega) _)
      have c7 : ((hx.new (.cells 2 zz)).put hx.nx (.cells 2 [.i .i64 l[j].1, .i .i64 l[j].2])).get hx.nx = .cells 2 [.i .i64 l[j].1, .i .i64 l[j].2] := get_put_same
      have hzz : ([.i .i64 0, .i .i64 0] : List V) = zz := rfl
      generalize (hx.new (.cells 2 zz)).put hx.nx (.cells 2 [.i .i64 l[j].1, .i .i64 l[j].2]) = h4 at *
      have l0 : loadV h4 (.p hx.nx (0 + 0 * 1)) one? = .ok (.i .i64 l[j].1) h4 := load_p c7 rfl
      have l1 : loadV h4 (.p hx.nx (0 + 1 * 1)) one? = .ok (.i .i64 l[j].2) h4 := load_p c7 rfl
      have hG4 := hG.trans (gB.low hG.nx)
      have hall2 := all_snoc (p := edB s) hlt2
      rw [hall, Bool.true_and] at hall2
      have he3 := edB_3 (s := s) (e := l[j])
      have no : edB s l[j] = false → rgtB s Ls = false := fun he => bad (by
        have hal : l.all (edB s) = false := by
          rw [Bool.eq_false_iff]
          intro h
          rw [List.all_eq_true.1 h _ (List.getElem_mem hlt2)] at he
          cases he
        rw [hal, Bool.and_false])
      cases da : decide (l[j].1 < 0) with
      | true =>
        rw [da] at he3
        have := no (by rw [he3]; rfl)
        simp (disch := omega) only [f38_r8, f38_r9, w_skip, w_reg, w_seq, w_cond, w_block, seqK_n, ckB_b, cbB_b, true_and, x_nil, x_mv, x_alloc, x_ld, x_ldn, x_st, x_bin, x_iads, x_len, kx, rvP_ok, okv_some, ev_t, getV_some, putD_some, putD_none, bin_lss, of0, getK_set, Nat.reduceEqDiff, ↓reduceIte, g1, g5, g6, hp1, hp2, hux.len, d6, hq1, hq2, hzz, hst2]
        simp (disch := omega) only [f38_r10, f38_r11, f38_rs, w_reg, w_seq, w_cond, w_ret, seqK_n, seqK_r, atK_r, loopK_r, ckB_b, cbB_b, okG_b, asG_f, true_and, retK_r, x_nil, x_g, x_mv, x_as, x_pick, x_ld, x_bin, x_iadr, kx, rvP_ok, okv_some, ev_t, ev_c, getV_some, putD_some, bin_lss, pick_b, onP_p, oGet_s, readRs_nil, readRs_t, retV_1, of0, of1, Option.some.injEq, exists_eq_left', getK_set, Nat.reduceEqDiff, ↓reduceIte, Bool.false_eq_true, Bool.not_true, ix2_0, l0, da, this, Bool.not_true, Bool.false_eq_true, one0, true_and]
        exact hG4
      | false =>
      cases db : decide (l[j].1 ≥ l[j].2) with
      | true =>
        rw [da, db] at he3
        have := no (by rw [he3]; rfl)
        simp (disch := omega) only [f38_r8, f38_r9, w_skip, w_reg, w_seq, w_cond, w_block, seqK_n, ckB_b, cbB_b, true_and, x_nil, x_mv, x_alloc, x_ld, x_ldn, x_st, x_bin, x_iads, x_len, kx, rvP_ok, okv_some, ev_t, getV_some, putD_some, putD_none, bin_lss, of0, getK_set, Nat.reduceEqDiff, ↓reduceIte, g1, g5, g6, hp1, hp2, hux.len, d6, hq1, hq2, hzz, hst2]
        simp (disch := omega) only [f38_r10, f38_r11, f38_rs, w_reg, w_seq, w_cond, w_ret, seqK_n, seqK_r, atK_r, loopK_r, ckB_b, cbB_b, okG_b, asG_f, true_and, retK_r, x_nil, x_g, x_mv, x_as, x_pick, x_ld, x_bin, x_iadr, kx, rvP_ok, okv_some, ev_t, ev_c, getV_some, putD_some, bin_lss, bin_geq, pick_b, onP_p, oGet_s, readRs_nil, readRs_t, retV_1, of0, of1, Option.some.injEq, exists_eq_left', getK_set, Nat.reduceEqDiff, ↓reduceIte, Bool.false_eq_true, Bool.not_true, Bool.not_false, ix2_0, ix2_1, l0, l1, da, db, this, Bool.not_true, Bool.not_false, Bool.false_eq_true, one0, true_and]
        exact hG4
      | false =>
      cases dc : decide (l[j].2 ≥ s) with
      | true =>
        rw [da, db, dc] at he3
        have := no (by rw [he3]; rfl)
        simp (disch := omega) only [f38_r8, f38_r9, w_skip, w_reg, w_seq, w_cond, w_block, seqK_n, ckB_b, cbB_b, true_and, x_nil, x_mv, x_alloc, x_ld, x_ldn, x_st, x_bin, x_iads, x_len, kx, rvP_ok, okv_some, ev_t, getV_some, putD_some, putD_none, bin_lss, of0, getK_set, Nat.reduceEqDiff, ↓reduceIte, g1, g5, g6, hp1, hp2, hux.len, d6, hq1, hq2, hzz, hst2]
        simp (disch := omega) only [f38_r10, f38_r11, f38_rs, w_reg, w_seq, w_cond, w_ret, seqK_n, seqK_r, atK_r, loopK_r, ckB_b, cbB_b, okG_b, asG_f, true_and, retK_r, x_nil, x_g, x_mv, x_as, x_pick, x_ld, x_bin, x_iadr, kx, rvP_ok, okv_some, ev_t, ev_c, getV_some, putD_some, bin_lss, bin_geq, pick_b, onP_p, oGet_s, readRs_nil, readRs_t, retV_1, of0, of1, Option.some.injEq, exists_eq_left', getK_set, Nat.reduceEqDiff, ↓reduceIte, Bool.false_eq_true, Bool.not_false, ix2_0, ix2_1, g0, l0, l1, da, db, dc, this, Bool.not_false, Bool.false_eq_true, one0, true_and]
        exact hG4
      | false =>
        rw [da, db, dc] at he3
        rw [he3] at hall2
        simp (disch := omega) only [f38_r8, f38_r9, w_skip, w_reg, w_seq, w_cond, w_block, seqK_n, ckB_b, cbB_b, true_and, x_nil, x_mv, x_alloc, x_ld, x_ldn, x_st, x_bin, x_iads, x_len, kx, rvP_ok, okv_some, ev_t, getV_some, putD_some, putD_none, bin_lss, of0, getK_set, Nat.reduceEqDiff, ↓reduceIte, g1, g5, g6, hp1, hp2, hux.len, d6, hq1, hq2, hzz, hst2]
        simp (disch := omega) only [f38_r10, f38_r12, w_skip, w_reg, w_cond, seqK_n, atK_n, loopK_n, ckB_b, cbB_b, okG_b, asG_f, true_and, x_nil, x_g, x_mv, x_as, x_pick, x_ld, x_bin, x_iadr, kx, rvP_ok, okv_some, ev_t, ev_c, getV_some, putD_some, bin_add, bin_lss, bin_geq, pick_b, onP_p, of0, of1, getK_set, Nat.reduceEqDiff, ↓reduceIte, Bool.false_eq_true, Bool.not_false, ix2_0, ix2_1, g0, g6, l0, l1, da, db, dc, Bool.not_false, fw64]
        exact ⟨j + 1, by omega, by omega, hG4, hall2, by simp (disch := omega) only [getK_set, Nat.reduceEqDiff, ↓reduceIte, g0, g1, g5, and_self, Int.natCast_add, Int.natCast_one]⟩
    · have d6 : decide ((j : Int) < (l.length : Int)) = false := by simpa using hlt2
      have ej : j = l.length := by omega
      rw [ej, List.take_length] at hall
      simp (disch := omega) only [f38_r8, f38_r13, w_reg, w_seq, w_cond, w_exit, seqK_n, seqK_e, atK_n, atK_e, loopK_n, loopK_e, ckB_b, cbB_b, true_and, x_nil, x_mv, x_as, x_ld, x_bin, x_iads, x_len, kx, rvP_ok, okv_some, ev_t, ev_c, getV_some, putD_some, bin_add, bin_lss, of1, getK_set, Nat.reduceEqDiff, ↓reduceIte, Bool.false_eq_true, g1, g5, g6, hp1, hp2, hux.len, d6, fw64]
      exact ⟨i + 1, by omega, by omega, hG, good (by rw [decide_eq_true hl20, hall]; rfl), by simp (disch := omega) only [getK_set, Nat.reduceEqDiff, ↓reduceIte, g0, g1, and_self, Int.natCast_add, Int.natCast_one]⟩
  · have d4 : decide ((i : Int) < (Ls.length : Int)) = false := by simpa using hlt
    have : rgtB s Ls = true := List.all_eq_true.2 fun l hl => by
      obtain ⟨j, hj, rfl⟩ := List.getElem_of_mem hl
      exact hok j hj (by omega)
    simp (disch := omega) only [f38_r4, f38_r14, f38_rs, w_reg, w_seq, w_cond, w_exit, w_ret, seqK_n, seqK_e, atK_e, loopK_e, ckB_b, cbB_b, true_and, retK_r, x_nil, x_mv, x_as, x_bin, x_len, kx, rvP_ok, okv_some, ev_t, ev_c, getV_some, putD_some, bin_lss, oGet_s, readRs_nil, readRs_t, retV_1, Option.some.injEq, exists_eq_left', getK_set, Nat.reduceEqDiff, ↓reduceIte, Bool.false_eq_true, g1, g5, hl, d4, this, decide_true, true_and]
    exact hG
/-! ### The reference's count -/
def f39_I (h0 : H) (s : Nat) (v m : V) (Ls : List (List (Int × Int))) (i : Nat) (fr : Fr) (h1 : H) : Prop := i ≤ Ls.length ∧ Grow h0.nx.nat h0 h1 ∧ Sl iE h1 m (cntL s (Ls.take i).flatten) ∧ fr.get (K.ofNat 0) = some (.i .i64 (s : Int)) ∧ fr.get (K.ofNat 1) = some (v) ∧ fr.get (K.ofNat 5) = some (m) ∧ fr.get (K.ofNat 6) = some (.i .i64 (i : Int))
def f39_J (h0 : H) (s : Nat) (v m : V) (Ls : List (List (Int × Int))) (l : List (Int × Int)) (i : Nat) (j : Nat) (fr : Fr) (h1 : H) : Prop := j ≤ l.length ∧ Grow h0.nx.nat h0 h1 ∧ Sl iE h1 m (cntL s ((Ls.take i).flatten ++ l.take j)) ∧ fr.get (K.ofNat 0) = some (.i .i64 (s : Int)) ∧ fr.get (K.ofNat 1) = some (v) ∧ fr.get (K.ofNat 5) = some (m) ∧ fr.get (K.ofNat 6) = some (.i .i64 (i : Int)) ∧ fr.get (K.ofNat 7) = some (.i .i64 (j : Int))
def f39_A (h0 : H) (s : Nat) (m : V) (F : List (Int × Int)) (a : Nat) (fr : Fr) (h1 : H) : Prop := a ≤ s ∧ h1 = h0 ∧ (∀ x y : Nat, x < a → x < y → y < s → cntP s F (x * s + y) = 1) ∧ fr.get (K.ofNat 0) = some (.i .i64 (s : Int)) ∧ fr.get (K.ofNat 5) = some (m) ∧ fr.get (K.ofNat 8) = some (.i .i64 (a : Int))
def f39_B (h0 : H) (s : Nat) (m : V) (F : List (Int × Int)) (a : Nat) (b : Nat) (fr : Fr) (h1 : H) : Prop := a < b ∧ b ≤ s ∧ h1 = h0 ∧ (∀ y : Nat, a < y → y < b → cntP s F (a * s + y) = 1) ∧ fr.get (K.ofNat 0) = some (.i .i64 (s : Int)) ∧ fr.get (K.ofNat 5) = some (m) ∧ fr.get (K.ofNat 8) = some (.i .i64 (a : Int)) ∧ fr.get (K.ofNat 9) = some (.i .i64 (b : Int))
theorem f39_ret {s : Nat} (hv : Sll h v us Ls) (hc : HC h) (hs : 2 ≤ s ∧ s ≤ 21) (hL : Ls.length ≤ 1000) (hb : ∀ l ∈ Ls, l.length ≤ 1000 ∧ ∀ x ∈ l, edB (s : Int) x = true) : Ret fs f39 [.i .i64 (s : Int), v] h fun r h' => (∃ c, r = .b c ∧ (c = true ↔ ∀ p ∈ allP s, cntP s Ls.flatten (codeP s p) = 1)) ∧ Grow h.nx.nat h h' := by
  apply ret_of rfl
  show W fs none f39_c _ _ _
  unfold f39_c
  have hl : ∀ h1, lenV v h1 = .ok (.i .i64 (Ls.length : Int)) h1 := fun h1 => by rw [hv.out.len, hv.len]
  have hss : s * s ≤ 21 * 21 := Nat.mul_le_mul hs.2 hs.2
  have hmul : ((s : Int) * (s : Int)) = ((s * s : Nat) : Int) := by rw [Int.natCast_mul]
  have hmk := mks_ints (h := h) (k := .i64) (n := s * s) (by omega)
  have hsl0 := mks_sl (h := h) (n := s * s)
  have gD := Grow.new (Nat.le_refl h.nx.nat) (.cells ((s * s) * 1) (rep [.i .i64 0] (s * s)))
  have own0 : Own h.nx.nat (.sl h.nx 0 (s * s) 1) := fun _ _ _ _ e => by cases e; exact Nat.le_refl _
  have hz : List.replicate (s * s) (0 : Int) = cntL s (Ls.take 0).flatten := by
    apply List.ext_getElem
    · simp [cntL]
    · intro i h1 h2; rw [List.getElem_replicate, cntL_at]; rfl
  rw [hz] at hsl0
  simp (disch := omega) only [f39_r0, f39_r1, f39_r2, w_reg, w_seq, w_block, seqK_n, x_nil, x_mv, x_as, x_bin, x_mks, kx, rvP_ok, okv_some, ev_t, ev_c, getV_some, putD_some, bin_mul, frame_2, of0, getK_set, Nat.reduceEqDiff, ↓reduceIte, fw64, hmul, hmk]
  generalize (h.new (.cells ((s * s) * 1) (rep [.i .i64 0] (s * s)))) = h1 at *
  generalize hm : V.sl h.nx 0 (s * s) 1 = m at *
  refine W_loop (f39_I h s v m Ls) (fun i => Ls.length - i) ?_ 0 ⟨by omega, gD, hsl0, by simp (disch := omega) only [getK_set, Nat.reduceEqDiff, ↓reduceIte, and_self, Int.natCast_zero]⟩
  clear gD hsl0 hmk hz h1
  rintro i fr h1 ⟨hi, hG, hD, g0, g1, g5, g6⟩
  unfold f39_l1
  by_cases hlt : i < Ls.length
  · have d4 : decide ((i : Int) < (Ls.length : Int)) = true := by simpa using hlt
    have hiv : i < us.length := by rw [hv.len]; exact hlt
    have hu0 := hv.inn i hiv hlt
    have hsn : (Ls.take (i + 1)).flatten = (Ls.take i).flatten ++ Ls[i] := by rw [List.take_succ_eq_append_getElem hlt, List.flatten_append]; simp
    obtain ⟨hb1, hb2⟩ := hb _ (List.getElem_mem hlt)
    have hat : ∀ h2, Sll h2 v us Ls → ∃ p, (∀ k h1, iadsV 1 v (.i k (i : Int)) h1 = .ok p h1) ∧ loadV h2 p one? = .ok us[i] h2 := fun h2 hs => hs.out.at i hiv
    generalize Ls[i] = l at *
    generalize us[i] = u at *
    simp (disch := omega) only [f39_r3, f39_r4, w_skip, w_reg, w_seq, w_cond, w_block, seqK_n, ckB_b, cbB_b, true_and, x_nil, x_mv, x_as, x_bin, x_len, kx, rvP_ok, okv_some, ev_t, ev_c, getV_some, putD_some, bin_lss, of0, getK_set, Nat.reduceEqDiff, ↓reduceIte, g1, g6, hl, d4]
    refine W_loop (f39_J h s v m Ls l i) (fun j => l.length - j) ?_ 0 ⟨by omega, hG, by simpa using hD, by simp (disch := omega) only [getK_set, Nat.reduceEqDiff, ↓reduceIte, g0, g1, g5, g6, and_self, Int.natCast_zero]⟩
    clear hG hD g0 g1 g5 g6 fr
    rintro j fr hx ⟨hj, hG, hD, g0, g1, g5, g6, g7⟩
    have hux := hu0.grow hc hG
    have hcx := hG.hc hc
    obtain ⟨p, hp1, hp2⟩ := hat hx (hv.grow hc hG)
    unfold f39_l0
    by_cases hlt2 : j < l.length
    · have d6 : decide ((j : Int) < (l.length : Int)) = true := by simpa using hlt2
      obtain ⟨ida, q, hq1, _, hq2, hq3⟩ := hux.at2 hlt2
      have hed := hb2 _ (List.getElem_mem hlt2)
      have hsnj : (Ls.take i).flatten ++ l.take (j + 1) = ((Ls.take i).flatten ++ l.take j) ++ [l[j]] := by rw [List.take_succ_eq_append_getElem hlt2, List.append_assoc]
      have hF : ((Ls.take i).flatten ++ l.take j).length ≤ 9223372036854775806 := by
        have : ∀ (M : List (List (Int × Int))), (∀ l ∈ M, l.length ≤ 1000) → M.flatten.length ≤ M.length * 1000 := fun M => by
          induction M with
          | nil => intro _; simp
          | cons x M ih => intro h; rw [List.flatten_cons, List.length_append, List.length_cons, Nat.add_mul]; have := h x (by simp); have := ih fun l hl => h l (by simp [hl]); omega
        have h1 := this (Ls.take i) fun l hl => (hb l (List.mem_of_mem_take hl)).1
        have h2 : (Ls.take i).length ≤ 1000 := by simp; omega
        rw [List.length_append, List.length_take]
        omega
      generalize (Ls.take i).flatten ++ l.take j = F at *
      generalize hlj : l[j] = pp at *
      obtain ⟨x, y⟩ := pp
      have hed' := hed
      unfold edB at hed'
      simp only [Bool.and_eq_true, decide_eq_true_eq] at hed' hq2 hq3
      obtain ⟨a, rfl⟩ : ∃ a : Nat, x = (a : Int) := ⟨x.toNat, by omega⟩
      obtain ⟨b, rfl⟩ : ∃ b : Nat, y = (b : Int) := ⟨y.toNat, by omega⟩
      have hcode : codeP s ((a : Int), (b : Int)) = a * s + b := rfl
      have hlt9 : a * s + b < s * s := by
        have h1 : (a + 1) * s ≤ s * s := Nat.mul_le_mul_right s (by omega)
        rw [Nat.add_mul] at h1
        omega
      have hm1 : ((a : Int) * (s : Int)) = ((a * s : Nat) : Int) := by rw [Int.natCast_mul]
      have hm2 : (((a * s : Nat) : Int) + (b : Int)) = ((a * s + b : Nat) : Int) := by omega
      have hil : a * s + b < (cntL s F).length := by rw [cntL_len]; exact hlt9
      obtain ⟨pz, hz1, hz2, hz3⟩ := hD.atb (a * s + b) hil
      rw [cntL_at] at hz2
      obtain ⟨pz', idz, mz, cs', w1, w2, w3, ⟨off', n', sz', w4⟩, w5⟩ := hD.st hil (x := cntP s F (a * s + b) + 1) (c := .i .i64 (cntP s F (a * s + b) + 1)) rfl rfl hcx
      obtain rfl : pz = pz' := by have := (hz1 .i64 hx).symm.trans (w1 .i64 hx); injection this
      have hcn := cntP_nn (s := s) (i := a * s + b) (F := F)
      have hst := cntL_step (s := s) (F := F) (p := ((a : Int), (b : Int)))
      rw [hcode] at hst
      rw [← hst, ← hsnj] at w3
      have gP := Grow.put (b := h.nx.nat) (by rw [← hm] at w4; cases w4; exact Nat.le_refl _) w5 (.cells mz cs')
      have hmb := hD.beq
      have hvb := hv.out.beq
      have hub := hu0.beq
      simp (disch := omega) only [f39_r5, f39_r6, f39_r7, w_skip, w_reg, w_draw, w_seq, w_cond, w_block, seqK_n, atK_n, loopK_n, ckB_b, cbB_b, true_and, x_nil, x_mv, x_as, x_ld, x_st, x_bin, x_iads, x_len, kx, kg, xg_nil, xg_mv, xg_ld, xg_bin, xg_iadr, xg_iads, xd_cons, fresh_nil, stK_n, stK_s, stay_nil, rvP_ok, okv_some, ev_t, ev_c, getV_some, putD_some, putD_none, bin_add, bin_mul, bin_lss, onP_p, of0, of1, getK_set, Nat.reduceEqDiff, ↓reduceIte, ix2_0, ix2_1, g0, g1, g5, g6, g7, hp1, hp2, hux.len, d6, hq1, hq2, hq3, fw64, hm1, hm2, hz1, hz2, iE, w2]
      exact ⟨j + 1, by omega, by omega, hG.trans gP, w3, by simp (disch := omega) only [getK_set, Nat.reduceEqDiff, ↓reduceIte, g0, g1, g5, g6, and_self, Int.natCast_add, Int.natCast_one]⟩
    · have d6 : decide ((j : Int) < (l.length : Int)) = false := by simpa using hlt2
      have ej : j = l.length := by omega
      rw [ej, List.take_length, ← hsn] at hD
      simp (disch := omega) only [f39_r5, f39_r8, w_reg, w_seq, w_cond, w_exit, seqK_n, seqK_e, atK_n, atK_e, loopK_n, loopK_e, ckB_b, cbB_b, true_and, x_nil, x_mv, x_as, x_ld, x_bin, x_iads, x_len, kx, rvP_ok, okv_some, ev_t, ev_c, getV_some, putD_some, bin_add, bin_lss, of1, getK_set, Nat.reduceEqDiff, ↓reduceIte, Bool.false_eq_true, g1, g6, g7, hp1, hp2, hux.len, d6, fw64]
      exact ⟨i + 1, by omega, by omega, hG, hD, by simp (disch := omega) only [getK_set, Nat.reduceEqDiff, ↓reduceIte, g0, g1, g5, and_self, Int.natCast_add, Int.natCast_one]⟩
  · have d4 : decide ((i : Int) < (Ls.length : Int)) = false := by simpa using hlt
    have ei : i = Ls.length := by omega
    rw [ei, List.take_length] at hD
    simp (disch := omega) only [f39_r3, f39_r9, w_reg, w_seq, w_cond, w_block, w_exit, seqK_n, seqK_e, atK_e, loopK_e, ckB_b, cbB_b, true_and, x_nil, x_mv, x_as, x_bin, x_len, kx, rvP_ok, okv_some, ev_t, ev_c, getV_some, putD_some, bin_lss, of0, getK_set, Nat.reduceEqDiff, ↓reduceIte, Bool.false_eq_true, g1, g6, hl, d4]
    refine W_loop (f39_A h1 s m Ls.flatten) (fun a => s - a) ?_ 0 ⟨by omega, rfl, fun x y h => by omega, by simp (disch := omega) only [getK_set, Nat.reduceEqDiff, ↓reduceIte, g0, g5, and_self, Int.natCast_zero]⟩
    clear g0 g1 g5 g6 fr
    rintro a fr h2 ⟨ha, rfl, hok, g0, g5, g8⟩
    unfold f39_l3
    by_cases hla : a < s
    · have d1 : decide ((a : Int) < (s : Int)) = true := by simpa using hla
      have ea1 : ((a : Int) + 1) = ((a + 1 : Nat) : Int) := by omega
      simp (disch := omega) only [f39_r10, f39_r11, w_skip, w_reg, w_seq, w_cond, w_block, seqK_n, ckB_b, cbB_b, true_and, x_nil, x_mv, x_as, x_bin, kx, rvP_ok, okv_some, ev_t, ev_c, getV_some, putD_some, bin_add, bin_lss, of1, getK_set, Nat.reduceEqDiff, ↓reduceIte, g0, g8, d1, fw64, ea1]
      refine W_loop (f39_B h2 s m Ls.flatten a) (fun b => s - b) ?_ (a + 1) ⟨by omega, by omega, rfl, fun y h1 h2 => by omega, by simp (disch := omega) only [getK_set, Nat.reduceEqDiff, ↓reduceIte, g0, g5, g8, and_self]⟩
      clear g0 g5 g8 fr
      rintro b fr h3 ⟨hab, hbs, rfl, hok2, g0, g5, g8, g9⟩
      unfold f39_l2
      by_cases hlb : b < s
      · have d2 : decide ((b : Int) < (s : Int)) = true := by simpa using hlb
        have hlt9 : a * s + b < s * s := by
          have h1 : (a + 1) * s ≤ s * s := Nat.mul_le_mul_right s (by omega)
          rw [Nat.add_mul] at h1
          omega
        have hm1 : ((a : Int) * (s : Int)) = ((a * s : Nat) : Int) := by rw [Int.natCast_mul]
        have hm2 : (((a * s : Nat) : Int) + (b : Int)) = ((a * s + b : Nat) : Int) := by omega
        have hil : a * s + b < (cntL s Ls.flatten).length := by rw [cntL_len]; exact hlt9
        obtain ⟨pz, hz1, hz2, hz3⟩ := hD.atb (a * s + b) hil
        rw [cntL_at] at hz2
        cases hone : decide (cntP s Ls.flatten (a * s + b) ≠ 1) with
        | true =>
          simp (disch := omega) only [f39_r12, f39_r13, f39_r14, f39_rs, w_skip, w_reg, w_seq, w_cond, w_block, w_ret, seqK_n, seqK_r, atK_r, loopK_r, ckB_b, cbB_b, true_and, retK_r, x_nil, x_mv, x_as, x_ld, x_bin, x_iads, kx, rvP_ok, okv_some, ev_t, ev_c, getV_some, putD_some, bin_add, bin_mul, bin_neq, bin_lss, oGet_s, readRs_nil, readRs_t, retV_1, of1, Option.some.injEq, exists_eq_left', getK_set, Nat.reduceEqDiff, ↓reduceIte, g0, g5, g8, g9, d2, fw64, hm1, hm2, hz1, hz2, iE, hone]
          refine ⟨⟨false, rfl, ⟨fun h => (by cases h), fun h => ?_⟩⟩, hG⟩
          have := h ((a : Int), (b : Int)) (mem_allP.2 (by unfold edB; simp only [Bool.and_eq_true, decide_eq_true_eq]; omega))
          exact absurd this (of_decide_eq_true hone)
        | false =>
          have hone' : cntP s Ls.flatten (a * s + b) = 1 := by
            have := of_decide_eq_false hone
            exact Classical.byContradiction this
          simp (disch := omega) only [f39_r12, f39_r13, f39_r15, w_skip, w_reg, w_seq, w_cond, w_block, seqK_n, atK_n, loopK_n, ckB_b, cbB_b, true_and, x_nil, x_mv, x_as, x_ld, x_bin, x_iads, kx, rvP_ok, okv_some, ev_t, ev_c, getV_some, putD_some, bin_add, bin_mul, bin_neq, bin_lss, of1, getK_set, Nat.reduceEqDiff, ↓reduceIte, Bool.false_eq_true, g0, g5, g8, g9, d2, fw64, hm1, hm2, hz1, hz2, iE, hone]
          refine ⟨b + 1, by omega, by omega, by omega, rfl, fun y h1 h2 => ?_, by simp (disch := omega) only [getK_set, Nat.reduceEqDiff, ↓reduceIte, g0, g5, g8, and_self, Int.natCast_add, Int.natCast_one]⟩
          by_cases e : y = b
          · subst e; exact hone'
          · exact hok2 y h1 (by omega)
      · have d2 : decide ((b : Int) < (s : Int)) = false := by simpa using hlb
        simp (disch := omega) only [f39_r12, f39_r16, w_reg, w_seq, w_cond, w_exit, seqK_n, seqK_e, atK_n, atK_e, loopK_n, loopK_e, ckB_b, cbB_b, true_and, x_nil, x_mv, x_as, x_bin, kx, rvP_ok, okv_some, ev_t, ev_c, getV_some, putD_some, bin_add, bin_lss, of1, getK_set, Nat.reduceEqDiff, ↓reduceIte, Bool.false_eq_true, g0, g8, g9, d2, fw64]
        refine ⟨a + 1, by omega, by omega, rfl, fun x y h1 h2 h3 => ?_, by simp (disch := omega) only [getK_set, Nat.reduceEqDiff, ↓reduceIte, g0, g5, and_self, Int.natCast_add, Int.natCast_one]⟩
        by_cases e : x = a
        · subst e; exact hok2 y h2 (by omega)
        · exact hok x y (by omega) h2 h3
    · have d1 : decide ((a : Int) < (s : Int)) = false := by simpa using hla
      simp (disch := omega) only [f39_r10, f39_r17, f39_rs, w_reg, w_seq, w_cond, w_exit, w_ret, seqK_n, seqK_e, atK_e, loopK_e, ckB_b, cbB_b, true_and, retK_r, x_nil, x_mv, x_as, x_bin, kx, rvP_ok, okv_some, ev_t, ev_c, getV_some, putD_some, bin_lss, oGet_s, readRs_nil, readRs_t, retV_1, Option.some.injEq, exists_eq_left', getK_set, Nat.reduceEqDiff, ↓reduceIte, Bool.false_eq_true, g0, g8, d1]
      refine ⟨⟨true, rfl, ⟨fun _ p hp => ?_, fun _ => rfl⟩⟩, hG⟩
      have hed := mem_allP.1 hp
      unfold edB at hed
      simp only [Bool.and_eq_true, decide_eq_true_eq] at hed
      exact hok p.1.toNat p.2.toNat (by omega) (by omega) (by omega)
end
end Go.Ev
