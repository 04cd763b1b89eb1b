/-
  The evaluator, weakest preconditions: a store into a slice of pairs; slices of slices of pairs.
  Labels: the copies.
  Labels: the copies, gathered.
  Labels: sums of differences; sides; complete graphs.
  Labels: complete graphs of two to five nodes.
  Labels: the law LabelsParity.
  Labels: is a graph a caterpillar?
  Labels: is a graph a caterpillar?
-/
import Derived.Test.YtmnojcnimncbpaaPf
import Derived.KernelRfl
namespace Go.Ev
open Go Go.RowKit
section
variable {h h' : H} {v u : V} {L : List (Int × Int)} {b : Nat}
theorem flat_get : ∀ {L : List (Int × Int)} {t : Nat}, (L.flatMap qE)[t]? = (L[t / 2]?).map fun p => if t % 2 = 0 then iE p.1 else iE p.2
  | [], t => by simp
  | x :: L, 0 => rfl
  | x :: L, 1 => rfl
  | x :: L, t + 2 => by
    rw [List.flatMap_cons]
    show (V.i .i64 x.1 :: V.i .i64 x.2 :: L.flatMap qE)[t + 2]? = _
    rw [List.getElem?_cons_succ, List.getElem?_cons_succ, flat_get (L := L) (t := t), show (t + 2) / 2 = t / 2 + 1 by omega, List.getElem?_cons_succ, show (t + 2) % 2 = t % 2 by omega]
theorem set_get {cs : List V} {p : Nat} {a b : V} (hp : p + 2 ≤ cs.length) {q : Nat} : (setMany cs p [a, b])[q]? = if q = p then some a else if q = p + 1 then some b else cs[q]? := by
  rw [setMany_eq _ _ _ (by simpa using hp)]
  rcases Nat.lt_trichotomy q p with h1 | h1 | h1
  · rw [List.append_assoc, List.getElem?_append_left (by simp; omega), List.getElem?_take, if_pos h1, if_neg (by omega), if_neg (by omega)]
  · subst h1
    rw [List.append_assoc, List.getElem?_append_right (by simp; omega), if_pos rfl]; simp
    have : min q cs.length = q := by omega
    rw [this]; simp
  · rw [if_neg (by omega)]
    by_cases h2 : q = p + 1
    · subst h2
      rw [if_pos rfl, List.append_assoc, List.getElem?_append_right (by simp; omega)]; simp
      have : p + 1 - min p cs.length = 1 := by omega
      rw [this]; simp
    · rw [if_neg h2, List.getElem?_append_right (by simp; omega)]
      simp
      rw [show p + 2 + (q - (min p cs.length + 2)) = q by omega]
/-- A store into a slice of pairs. -/
theorem Sk.st2 (hs : Sk 2 qE h v L) {i : Nat} (hi : i < L.length) {x : Int × Int} (hhc : HC h) :
    ∃ p id m cs', (∀ k h1, iadsV 2 v (.i k (i : Int)) h1 = .ok p h1) ∧ storeV h 2 p (.agg [.i .i64 x.1, .i .i64 x.2]) = .ok undefV (h.put id (.cells m cs')) ∧ Sk 2 qE (h.put id (.cells m cs')) v (L.set i x) ∧ (∃ off n sz, v = .sl id off n sz) ∧ id.nat < h.nx.nat := by
  rcases hs with ⟨rfl, rfl⟩ | ⟨id, off, m, cs, rfl, hb, hl, hm, hx⟩
  · simp at hi
  · have hin : i * 2 + 2 ≤ L.length * 2 := by omega
    refine ⟨.p id (off + i * 2), id, m, setMany cs (off + i * 2) [.i .i64 x.1, .i .i64 x.2], fun k h1 => ?_, ?_, ?_, ⟨off, L.length, 2, rfl⟩, hhc.cells hb⟩
    · rw [iads_sl, idx_n hi]
    · exact store_p hb cells2 (by omega)
    · refine .inr ⟨id, off, m, _, by rw [List.length_set], get_put_same, ?_, by rw [List.length_set]; exact hm, ?_⟩
      · rw [setMany_eq _ _ _ (by simp; omega)]; simp; omega
      · rw [List.length_set]
        apply List.ext_getElem?
        intro t
        rw [List.getElem?_take, flat_get]
        by_cases ht : t < L.length * 2
        · have h0 := congrArg (fun l => l[t]?) hx
          simp only [List.getElem?_take, if_pos ht, List.getElem?_drop, flat_get] at h0
          rw [if_pos ht, List.getElem?_drop, set_get (by omega), List.getElem?_set]
          by_cases e1 : t = i * 2
          · subst e1
            rw [if_pos rfl, show i * 2 / 2 = i by omega, if_pos rfl, if_pos hi]
            simp [iE]
          · by_cases e2 : t = i * 2 + 1
            · subst e2
              rw [if_neg (by omega), if_pos (by omega), show (i * 2 + 1) / 2 = i by omega, if_pos rfl, if_pos hi]
              simp [iE]
            · rw [if_neg (by omega), if_neg (by omega), if_neg (by omega), h0]
        · rw [if_neg ht, List.getElem?_eq_none (by simp; omega)]; rfl
theorem rep_flat {x : Int × Int} : ∀ n, rep (qE x) n = (List.replicate n x).flatMap qE
  | 0 => rfl
  | n + 1 => by
    show cat (qE x) (rep (qE x) n) = _
    rw [cat_eq, rep_flat n, List.replicate_succ, List.flatMap_cons]
theorem mks_p {k : IntKind} {n : Nat} (hn : n ≤ 1000000) : mksV 2 [.i .i64 0, .i .i64 0] h (.i k (n : Int)) = .ok (.sl h.nx 0 n 2) (h.new (.cells (n * 2) (rep (qE (0, 0)) n))) := by
  show (bif Nat.ble n 1000000 then RV.ok (.sl h.nx 0 n 2) (h.new (.cells (n * 2) (rep (qE (0, 0)) n))) else .no) = _
  rw [Nat.ble_eq_true_of_le hn]; rfl
theorem mksp_sl {n : Nat} : Sk 2 qE (h.new (.cells (n * 2) (rep (qE (0, 0)) n))) (.sl h.nx 0 n 2) (List.replicate n (0, 0)) :=
  .inr ⟨h.nx, 0, n * 2, _, by simp, get_new_same, by rw [rep_flat, flat_len qE_len]; simp, by simp, by rw [rep_flat, List.drop_zero, List.take_of_length_le (by rw [flat_len qE_len]; simp)]⟩
/-! ### Slices of slices of pairs -/
def vE (u : V) : V := u
structure Sll (h : H) (v : V) (us : List V) (Ls : List (List (Int × Int))) : Prop where
  len : us.length = Ls.length
  out : Sl vE h v us
  inn : ∀ i (h1 : i < us.length) (h2 : i < Ls.length), Srp h us[i] Ls[i]
  sep : ∀ u ∈ us, ∀ id off n sz, u = .sl id off n sz → NotIn id v
section
variable {us : List V} {Ls : List (List (Int × Int))}
theorem Sll.nil : Sll h .sn [] [] := ⟨rfl, Sl.nil, fun i h1 => absurd h1 (by simp), fun u hu => absurd hu (by simp)⟩
theorem Sll.grow (s : Sll h v us Ls) (hc : HC h) (hg : Grow h.nx.nat h h') : Sll h' v us Ls := ⟨s.len, s.out.grow hc hg, fun i h1 h2 => (s.inn i h1 h2).grow hc hg, s.sep⟩
theorem Srp.cell {L : List (Int × Int)} (hs : Srp h v L) : cellsN 1 v = some [v] := by rcases hs with ⟨rfl, _⟩ | ⟨_, _, _, _, rfl, _⟩ <;> rfl
theorem Srp.old {L : List (Int × Int)} (hs : Srp h v L) (hg : ∀ id off n sz, v = .sl id off n sz → h'.get id = h.get id) : Srp h' v L := by
  rcases hs with hs | ⟨id, off, m, cs, rfl, hb, hx⟩
  · exact .inl hs
  · exact .inr ⟨id, off, m, cs, rfl, by rw [hg _ _ _ _ rfl]; exact hb, hx⟩
/-- append(v, u): a slice more. -/
theorem Sll.push (s : Sll h v us Ls) (ho : Own b v) (hb : b ≤ h.nx.nat) (hc : HC h) (hn : Ls.length < 16777216) (hu : Srp h u L) (hsep : ∀ id off n sz, u = .sl id off n sz → NotIn id v) :
    ∃ v' h', appV 1 (h.new (.cells (1 * 1) [u])) v (.sl h.nx 0 1 1) = .ok v' h' ∧ Sll h' v' (us ++ [u]) (Ls ++ [L]) ∧ Own b v' ∧ Grow b h h' ∧ ∀ id : K, id.nat < h.nx.nat → NotIn id v → h'.get id = h.get id ∧ NotIn id v' := by
  obtain ⟨v', h', e1, e2, e3, e4, e5⟩ := Sl.push (e := vE) (x := u) (c := u) rfl s.out ho hb hc (by rw [s.len]; exact hn)
  have hul : ∀ id off n sz, u = .sl id off n sz → id.nat < h.nx.nat := Srk.lt hu hc
  have hil : ∀ w ∈ us, ∀ id off n sz, w = .sl id off n sz → id.nat < h.nx.nat := fun w hw => by
    obtain ⟨i, hi, rfl⟩ := List.getElem_of_mem hw
    exact Srk.lt (s.inn i hi (by rw [← s.len]; exact hi)) hc
  refine ⟨v', h', e1, ⟨by rw [List.length_append, List.length_append, s.len]; rfl, e2, fun i h1 h2 => ?_, fun w hw id off n sz ew => ?_⟩, e3, e4, e5⟩
  · by_cases hi : i < us.length
    · have hi2 : i < Ls.length := by rw [← s.len]; exact hi
      rw [List.getElem_append_left hi, List.getElem_append_left hi2]
      exact (s.inn i hi hi2).old fun id off n sz ew => (e5 id (hil _ (List.getElem_mem hi) _ _ _ _ ew) (s.sep _ (List.getElem_mem hi) _ _ _ _ ew)).1
    · have hl : i = us.length := by rw [List.length_append] at h1; simp at h1; omega
      subst hl
      rw [List.getElem_append_right (Nat.le_refl _), List.getElem_append_right (by rw [s.len]; exact Nat.le_refl _)]
      simp only [Nat.sub_self, List.getElem_cons_zero, s.len]
      exact hu.old fun id off n sz ew => (e5 id (hul _ _ _ _ ew) (hsep _ _ _ _ ew)).1
  · rcases List.mem_append.1 hw with hw | hw
    · exact (e5 id (hil w hw _ _ _ _ ew) (s.sep w hw _ _ _ _ ew)).2
    · rw [List.mem_singleton.1 hw] at ew
      exact (e5 id (hul _ _ _ _ ew) (hsep _ _ _ _ ew)).2
end
end
end Go.Ev
namespace Go.Ev
section
variable {h h' : H} {v u : V} {L M : List (Int × Int)}
/-- v[:u] of pairs that are only read. -/
theorem Srp.cut {u : Nat} {kk : IntKind} (hs : Srp h v L) (h2 : u ≤ L.length) : ∃ v', (∀ h1, sliceB 2 v none (some (.i kk (u : Int))) none h1 = .ok v' h1) ∧ Srp h v' (L.take u) ∧ (∀ b, Own b v → Own b v') := by
  rcases hs with ⟨rfl, h0, _⟩ | ⟨id, off, m, cs, rfl, hb, hll, hm, hx⟩
  · have hu0 : u = 0 := by omega
    subst hu0
    exact ⟨.sn, fun h1 => rfl, .inl ⟨rfl, by simp, by simp⟩, fun _ h => h⟩
  · have hmul : u * 2 ≤ L.length * 2 := Nat.mul_le_mul_right 2 h2
    refine ⟨.sl id (off + 0 * 2) (u - 0) 2, fun h1 => ?_, .inr ⟨id, off + 0 * 2, m, cs, ?_, hb, hll, ?_, ?_⟩, fun b ho _ _ _ _ e => by cases e; exact ho _ _ _ _ rfl⟩
    · unfold sliceB
      show cutV id off L.length 2 h1 0 u none = _
      unfold cutV
      rw [Nat.ble_eq_true_of_le (Nat.zero_le u), Nat.ble_eq_true_of_le h2]; rfl
    · congr 1; simp; omega
    · rw [List.length_take, Nat.min_eq_left h2]; omega
    · rw [List.length_take, Nat.min_eq_left h2, ← flat_take qE_len L u h2, ← hx, List.take_take, Nat.min_eq_left hmul]; simp
/-- append to nil. -/
theorem Srp.appN (hs : Srp h u M) (_ : HC h) (hn : M.length ≤ 16777216) : ∃ v' h', appV 2 h .sn u = .ok v' h' ∧ Sk 2 qE h' v' M ∧ Own h.nx.nat v' ∧ Grow h.nx.nat h h' := by
  have hadd : Go.Ev.addOf 2 h u = some (M.length, M.flatMap qE) := by
    rcases hs with ⟨rfl, h0, h1⟩ | ⟨id, off, m, cs, rfl, hb, hll, hm, hx⟩
    · rw [h1, h0]; rfl
    · show (h.get id).onC none (fun len cs => bif Nat.beq 2 2 && Nat.ble (off + M.length * 2) len then some (M.length, takeN (M.length * 2) (dropN off cs)) else none) = _
      have e0 : (h.get id).onC none (fun len cs => bif Nat.beq 2 2 && Nat.ble (off + M.length * 2) len then some (M.length, takeN (M.length * 2) (dropN off cs)) else none) = (bif Nat.beq 2 2 && Nat.ble (off + M.length * 2) m then some (M.length, takeN (M.length * 2) (dropN off cs)) else none) := by
        rcases hb with hb | hb <;> rw [hb] <;> rfl
      rw [e0, Nat.ble_eq_true_of_le hm, takeN_eq, dropN_eq, hx]; rfl
  unfold appV
  rw [hadd]
  show ∃ v' h', (bif Nat.ble M.length 16777216 then app0 2 h M.length (M.flatMap qE) else RV.no) = .ok v' h' ∧ _
  rw [Nat.ble_eq_true_of_le hn]
  show ∃ v' h', app0 2 h M.length (M.flatMap qE) = .ok v' h' ∧ _
  unfold app0
  by_cases hz : M.length = 0
  · have : M = [] := List.length_eq_zero_iff.1 hz
    subst this
    exact ⟨.sn, h, rfl, Sk.nil, Own.sn, Grow.refl _ _⟩
  · rw [show Nat.beq M.length 0 = false by rw [← Bool.not_eq_true]; intro h; exact hz (Nat.eq_of_beq_eq_true h)]
    exact ⟨_, _, rfl, .inr ⟨h.nx, 0, M.length * 2, M.flatMap qE, rfl, get_new_same, flat_len qE_len M, by omega, by rw [List.drop_zero, List.take_of_length_le (by rw [flat_len qE_len]; omega)]⟩, fun _ _ _ _ h => by cases h; exact Nat.le_refl _, Grow.new (Nat.le_refl _) _⟩
end
end Go.Ev
namespace Go.Ev
open Go Go.RowKit
noncomputable def f104_r0 : List EOper := [⟨(some (K.ofNat 11)), none, .ld (.t (K.ofNat 1))⟩, ⟨(some (K.ofNat 12)), none, .len (.t (K.ofNat 11))⟩, ⟨(some (K.ofNat 13)), none, .bin .mul (.c (.i .i64 (.ofNat 2))) (.t (K.ofNat 12))⟩, ⟨(some (K.ofNat 14)), none, .bin .add (.t (K.ofNat 13)) (.c (.i .i64 (.ofNat 1)))⟩, ⟨(some (K.ofNat 4)), none, .as (.t (K.ofNat 14))⟩]
noncomputable def f104_r1 : List EOper := [⟨(some (K.ofNat 15)), none, .mv (.t (K.ofNat 4))⟩, ⟨(some (K.ofNat 16)), none, .mv (.c (.i .i64 (.ofNat 0)))⟩]
noncomputable def f104_r2 : List EOper := [⟨(some (K.ofNat 17)), none, .bin .lss (.t (K.ofNat 16)) (.t (K.ofNat 15))⟩]
noncomputable def f104_r3 : List EOper := [⟨(some (K.ofNat 18)), none, .mv (.t (K.ofNat 16))⟩, ⟨(some (K.ofNat 5)), none, .as (.t (K.ofNat 18))⟩]
noncomputable def f104_r4 : List EOper := [⟨(some (K.ofNat 19)), none, .ld (.t (K.ofNat 1))⟩, ⟨(some (K.ofNat 20)), none, .len (.t (K.ofNat 19))⟩, ⟨(some (K.ofNat 21)), none, .mkslice 2 [(.i .i64 (.ofNat 0)), (.i .i64 (.ofNat 0))] (.t (K.ofNat 20))⟩, ⟨(some (K.ofNat 6)), none, .as (.t (K.ofNat 21))⟩]
noncomputable def f104_r5 : List EOper := [⟨(some (K.ofNat 22)), none, .ld (.t (K.ofNat 1))⟩, ⟨(some (K.ofNat 23)), none, .len (.t (K.ofNat 22))⟩, ⟨(some (K.ofNat 24)), none, .mv (.c (.i .i64 (.ofNat 0)))⟩]
noncomputable def f104_r6 : List EOper := [⟨(some (K.ofNat 25)), none, .bin .lss (.t (K.ofNat 24)) (.t (K.ofNat 23))⟩]
noncomputable def f104_r7 : List EOper := [⟨(some (K.ofNat 26)), none, .mv (.t (K.ofNat 24))⟩, ⟨(some (K.ofNat 27)), none, .iads 2 (.t (K.ofNat 22)) (.t (K.ofNat 24))⟩, ⟨(some (K.ofNat 28)), none, .ldn 2 (.t (K.ofNat 27))⟩, ⟨(some (K.ofNat 8)), none, .alloc 2 [(.i .i64 (.ofNat 0)), (.i .i64 (.ofNat 0))]⟩, ⟨(some (K.ofNat 7)), none, .as (.t (K.ofNat 26))⟩, ⟨none, none, .st 2 (.t (K.ofNat 8)) (.t (K.ofNat 28))⟩]
noncomputable def f104_r8 : List Stage := [⟨[⟨(some (K.ofNat 30)), none, .ld (.t (K.ofNat 2))⟩, ⟨(some (K.ofNat 31)), none, .iadr 2 1 (.t (K.ofNat 8)) (.c (.i .i64 (.ofNat 0)))⟩, ⟨(some (K.ofNat 32)), none, .ld (.t (K.ofNat 31))⟩, ⟨(some (K.ofNat 33)), none, .iads 1 (.t (K.ofNat 30)) (.t (K.ofNat 32))⟩, ⟨(some (K.ofNat 34)), none, .ld (.t (K.ofNat 33))⟩, ⟨(some (K.ofNat 35)), none, .mv (.t (K.ofNat 5))⟩, ⟨(some (K.ofNat 36)), none, .bin .add (.t (K.ofNat 34)) (.t (K.ofNat 35))⟩, ⟨(some (K.ofNat 37)), none, .mv (.t (K.ofNat 4))⟩, ⟨(some (K.ofNat 38)), none, .bin .rem (.t (K.ofNat 36)) (.t (K.ofNat 37))⟩, ⟨(some (K.ofNat 39)), none, .ld (.t (K.ofNat 2))⟩, ⟨(some (K.ofNat 40)), none, .iadr 2 1 (.t (K.ofNat 8)) (.c (.i .i64 (.ofNat 1)))⟩, ⟨(some (K.ofNat 41)), none, .ld (.t (K.ofNat 40))⟩, ⟨(some (K.ofNat 42)), none, .iads 1 (.t (K.ofNat 39)) (.t (K.ofNat 41))⟩, ⟨(some (K.ofNat 43)), none, .ld (.t (K.ofNat 42))⟩, ⟨(some (K.ofNat 44)), none, .mv (.t (K.ofNat 5))⟩, ⟨(some (K.ofNat 45)), none, .bin .add (.t (K.ofNat 43)) (.t (K.ofNat 44))⟩, ⟨(some (K.ofNat 46)), none, .mv (.t (K.ofNat 4))⟩, ⟨(some (K.ofNat 47)), none, .bin .rem (.t (K.ofNat 45)) (.t (K.ofNat 46))⟩, ⟨(some (K.ofNat 48)), none, .bslice 1 1 [(.i .i64 (.ofNat 0))] [(0, 1, (.t (K.ofNat 47)))]⟩], [], (some ⟨(some (K.ofNat 49)), none, .call (.c (.fn (K.ofNat 102) [])) [(.t (K.ofNat 38)), (.t (K.ofNat 48))]⟩), [(K.ofNat 48)]⟩, ⟨[⟨(some (K.ofNat 29)), none, .mv (.t (K.ofNat 49))⟩, ⟨(some (K.ofNat 50)), none, .ext (.t (K.ofNat 29)) 0⟩, ⟨(some (K.ofNat 51)), none, .ext (.t (K.ofNat 29)) 1⟩], [], (some ⟨(some (K.ofNat 9)), none, .as (.t (K.ofNat 50))⟩), []⟩, ⟨[], [⟨(some (K.ofNat 51)), none, .ext (.t (K.ofNat 29)) 1⟩], (some ⟨(some (K.ofNat 10)), none, .as (.t (K.ofNat 51))⟩), []⟩, ⟨[], [], none, []⟩]
noncomputable def f104_r9 : List EOper := [⟨(some (K.ofNat 52)), none, .mv (.t (K.ofNat 6))⟩, ⟨(some (K.ofNat 53)), none, .mv (.t (K.ofNat 7))⟩, ⟨(some (K.ofNat 54)), none, .mv (.t (K.ofNat 9))⟩, ⟨(some (K.ofNat 55)), none, .mv (.t (K.ofNat 10))⟩, ⟨(some (K.ofNat 56)), none, .build [(.i .i64 (.ofNat 0)), (.i .i64 (.ofNat 0))] [(0, 1, (.t (K.ofNat 54))), (1, 1, (.t (K.ofNat 55)))]⟩, ⟨(some (K.ofNat 57)), none, .iads 2 (.t (K.ofNat 52)) (.t (K.ofNat 53))⟩, ⟨none, none, .st 2 (.t (K.ofNat 57)) (.t (K.ofNat 56))⟩]
noncomputable def f104_r10 : List EOper := [⟨(some (K.ofNat 58)), none, .bin .add (.t (K.ofNat 24)) (.c (.i .i64 (.ofNat 1)))⟩, ⟨(some (K.ofNat 24)), none, .mv (.t (K.ofNat 58))⟩]
noncomputable def f104_l0 : EC := (.seq (.reg f104_r6) (.seq (.cond (.t (K.ofNat 25)) .skip (.exit 2)) (.seq (.block 3 (.seq (.reg f104_r7) (.seq (.draw f104_r8) (.reg f104_r9)))) (.reg f104_r10))))
noncomputable def f104_r11 : List EOper := [⟨(some (K.ofNat 59)), none, .mv (.t (K.ofNat 0))⟩, ⟨(some (K.ofNat 60)), none, .mv (.t (K.ofNat 6))⟩, ⟨(some (K.ofNat 61)), none, .call (.t (K.ofNat 59)) [(.t (K.ofNat 60))]⟩, ⟨(some (K.ofNat 62)), none, .not (.t (K.ofNat 61))⟩]
noncomputable def f104_r12 : List EOper := [⟨(some (K.ofNat 63)), none, .bin .add (.t (K.ofNat 16)) (.c (.i .i64 (.ofNat 1)))⟩, ⟨(some (K.ofNat 16)), none, .mv (.t (K.ofNat 63))⟩]
noncomputable def f104_l1 : EC := (.seq (.reg f104_r2) (.seq (.cond (.t (K.ofNat 17)) .skip (.exit 0)) (.seq (.block 1 (.seq (.reg f104_r3) (.seq (.reg f104_r4) (.seq (.seq (.reg f104_r5) (.block 2 (.loop f104_l0))) (.seq (.reg f104_r11) (.cond (.t (K.ofNat 62)) .ret .skip)))))) (.reg f104_r12))))
noncomputable def f104_c : EC := (.seq (.reg f104_r0) (.seq (.reg f104_r1) (.block 0 (.loop f104_l1))))
noncomputable def f104 : EF := ⟨64, [], f104_c, none⟩
theorem f104_rs : f104.rs = [] := of_eq_true (eq_self _)
noncomputable def f103_r0 : List EOper := [⟨(some (K.ofNat 2)), none, .box 1 (.t (K.ofNat 0))⟩, ⟨(some (K.ofNat 4)), none, .as (.c .sn)⟩]
noncomputable def f103_r1 : List EOper := [⟨(some (K.ofNat 6)), none, .mv (.t (K.ofNat 1))⟩]
noncomputable def f103_r2 : List EOper := [⟨(some (K.ofNat 5)), none, .as (.t (K.ofNat 7))⟩]
noncomputable def f103_a0 : EC := (.reg f103_r2)
noncomputable def f103_r3 : List EOper := [⟨(some (K.ofNat 8)), none, .ld (.t (K.ofNat 2))⟩, ⟨(some (K.ofNat 9)), none, .mv (.t (K.ofNat 5))⟩, ⟨(some (K.ofNat 10)), none, .bslice 1 1 [.sn] [(0, 1, (.t (K.ofNat 9)))]⟩, ⟨(some (K.ofNat 11)), none, .app 1 (.t (K.ofNat 8)) (.t (K.ofNat 10))⟩, ⟨none, none, .st 1 (.t (K.ofNat 2)) (.t (K.ofNat 11))⟩]
noncomputable def f103_b0 : EC := (.block 1 (.reg f103_r3))
noncomputable def f103_r4 : List EOper := [⟨(some (K.ofNat 12)), none, .ld (.t (K.ofNat 2))⟩, ⟨(some (K.ofNat 4)), none, .as (.t (K.ofNat 12))⟩]
noncomputable def f103_c : EC := (.seq (.reg f103_r0) (.seq (.seq (.reg f103_r1) (.block 0 (.rangeF (.t (K.ofNat 6)) [(K.ofNat 7)] f103_a0 f103_b0))) (.seq (.reg f103_r4) .ret)))
noncomputable def f103 : EF := ⟨13, [.tmp (K.ofNat 4)], f103_c, none⟩
theorem f103_rs : f103.rs = [.tmp (K.ofNat 4)] := of_eq_true (eq_self _)
noncomputable def f65_r0 : List EOper := [⟨(some (K.ofNat 2)), none, .as (.c .sn)⟩]
noncomputable def f65_r1 : List EOper := [⟨(some (K.ofNat 3)), none, .mv (.t (K.ofNat 0))⟩, ⟨(some (K.ofNat 4)), none, .call (.c (.fn (K.ofNat 103) [])) [(.c .sn), (.t (K.ofNat 3))]⟩, ⟨(some (K.ofNat 2)), none, .as (.t (K.ofNat 4))⟩]
noncomputable def f65_c : EC := (.seq (.reg f65_r0) (.seq (.reg f65_r1) .ret))
noncomputable def f65 : EF := ⟨5, [.tmp (K.ofNat 2)], f65_c, none⟩
theorem f65_rs : f65.rs = [.tmp (K.ofNat 2)] := of_eq_true (eq_self _)
noncomputable def f66_r0 : List EOper := [⟨(some (K.ofNat 2)), none, .box 1 (.t (K.ofNat 0))⟩, ⟨(some (K.ofNat 3)), none, .box 1 (.t (K.ofNat 1))⟩, ⟨(some (K.ofNat 4)), none, .as (.c .fnil)⟩]
noncomputable def f66_r1 : List EOper := [⟨(some (K.ofNat 5)), none, .mkfn (K.ofNat 104) [(.t (K.ofNat 2)), (.t (K.ofNat 3))]⟩, ⟨(some (K.ofNat 4)), none, .as (.t (K.ofNat 5))⟩]
noncomputable def f66_c : EC := (.seq (.reg f66_r0) (.seq (.reg f66_r1) .ret))
noncomputable def f66 : EF := ⟨6, [.tmp (K.ofNat 4)], f66_c, none⟩
theorem f66_rs : f66.rs = [.tmp (K.ofNat 4)] := of_eq_true (eq_self _)
noncomputable def f21_r0 : List EOper := [⟨(some (K.ofNat 6)), none, .as (.c .sn)⟩, ⟨(some (K.ofNat 7)), none, .as (.c (.i .i64 (.ofNat 0)))⟩]
noncomputable def f21_r1 : List EOper := [⟨(some (K.ofNat 9)), none, .mv (.t (K.ofNat 0))⟩, ⟨(some (K.ofNat 10)), none, .mv (.t (K.ofNat 1))⟩, ⟨(some (K.ofNat 11)), none, .mv (.t (K.ofNat 2))⟩, ⟨(some (K.ofNat 12)), none, .call (.c (.fn (K.ofNat 64) [])) [(.t (K.ofNat 9)), (.t (K.ofNat 10)), (.t (K.ofNat 11))]⟩, ⟨(some (K.ofNat 8)), none, .as (.t (K.ofNat 12))⟩]
noncomputable def f21_r2 : List EOper := [⟨(some (K.ofNat 13)), none, .mv (.t (K.ofNat 8))⟩, ⟨(some (K.ofNat 14)), none, .bin .neq (.t (K.ofNat 13)) (.c (.i .i64 (.ofNat 0)))⟩]
noncomputable def f21_r3 : List EOper := [⟨(some (K.ofNat 15)), none, .mv (.t (K.ofNat 8))⟩, ⟨(some (K.ofNat 6)), none, .as (.c .sn)⟩, ⟨(some (K.ofNat 7)), none, .as (.t (K.ofNat 15))⟩]
noncomputable def f21_r4 : List EOper := [⟨(some (K.ofNat 16)), none, .mv (.t (K.ofNat 1))⟩, ⟨(some (K.ofNat 17)), none, .mv (.t (K.ofNat 2))⟩, ⟨(some (K.ofNat 18)), none, .call (.c (.fn (K.ofNat 66) [])) [(.t (K.ofNat 16)), (.t (K.ofNat 17))]⟩, ⟨(some (K.ofNat 19)), none, .call (.c (.fn (K.ofNat 65) [])) [(.t (K.ofNat 18))]⟩, ⟨(some (K.ofNat 6)), none, .as (.t (K.ofNat 19))⟩, ⟨(some (K.ofNat 7)), none, .as (.c (.i .i64 (.ofNat 0)))⟩]
noncomputable def f21_c : EC := (.seq (.reg f21_r0) (.seq (.seq (.reg f21_r1) (.seq (.reg f21_r2) (.cond (.t (K.ofNat 14)) (.seq (.reg f21_r3) .ret) .skip))) (.seq (.reg f21_r4) .ret)))
noncomputable def f21 : EF := ⟨20, [.tmp (K.ofNat 6), .tmp (K.ofNat 7)], f21_c, none⟩
theorem f21_rs : f21.rs = [.tmp (K.ofNat 6), .tmp (K.ofNat 7)] := of_eq_true (eq_self _)
/-- An edge of copy t. -/
def cpE (L : List Int) (s t : Nat) (e : Int × Int) : Int × Int := (min (((L.getD e.1.toNat 0 + t).tmod s)) ((L.getD e.2.toNat 0 + t).tmod s), max (((L.getD e.1.toNat 0 + t).tmod s)) ((L.getD e.2.toNat 0 + t).tmod s))
def cpRow (E : List (Int × Int)) (L : List Int) (t : Nat) : List (Int × Int) := E.map (cpE L (2 * E.length + 1) t)
def cpAll (E : List (Int × Int)) (L : List Int) : List (List (Int × Int)) := (List.range (2 * E.length + 1)).map (cpRow E L)
theorem cpAll_at {E : List (Int × Int)} {L : List Int} {t : Nat} (h : t < (cpAll E L).length) : (cpAll E L)[t] = E.map (cpE L (2 * E.length + 1) t) := by simp [cpAll, cpRow]
/-- What the closure holds. -/
structure NC (ide idl : K) (w v : V) (E : List (Int × Int)) (L : List Int) (h : H) : Prop where
  he : h.get ide = .cells 1 [w]
  hl : h.get idl = .cells 1 [v]
  es : Srp h w E
  ls : Sr iE h v L
section
variable {fs : T EF} {ro : Option K} {h h' : H} {v w : V} {E : List (Int × Int)} {L : List Int} {ide idl : K}
theorem NC.grow (n : NC ide idl w v E L h) (hc : HC h) (hg : Grow h.nx.nat h h') : NC ide idl w v E L h' :=
  ⟨by rw [hg.old _ (hc.cells n.he)]; exact n.he, by rw [hg.old _ (hc.cells n.hl)]; exact n.hl, n.es.grow hc hg, n.ls.grow hc hg⟩
/-- The function, called with a body, goes through these lists of pairs: each is a new slice. -/
def YieldsQ (fs : T EF) (k : K) (caps : List V) (N : H → Prop) (Y : List (List (Int × Int))) : Prop :=
  ∀ (id : K) (I : Nat → H → Prop) (D : H → Prop) (h : H), (∀ i h1, I i h1 → N h1 ∧ HC h1) → I 0 h →
    (∀ i h1 h2 v (hi : i < Y.length), I i h1 → Grow h1.nx.nat h1 h2 → Srp h2 v Y[i] → Own h1.nx.nat v → ∃ r h', Round fs id v h2 r h' ∧ (r = true → I (i + 1) h') ∧ (r = false → D h')) →
    CallP fs (.fn k caps) [.yl id] h fun r h' => r = .tup [] ∧ ((∃ h1, I Y.length h1 ∧ Grow h1.nx.nat h1 h') ∨ D h')
def f104_I (id ide idl : K) (E : List (Int × Int)) (I : Nat → H → Prop) (t : Nat) (fr : Fr) (h1 : H) : Prop := t ≤ 2 * E.length + 1 ∧ I t h1 ∧ fr.get (K.ofNat 0) = some (.yl id) ∧ fr.get (K.ofNat 1) = some (.p ide 0) ∧ fr.get (K.ofNat 2) = some (.p idl 0) ∧ fr.get (K.ofNat 4) = some (.i .i64 ((2 * E.length + 1 : Nat) : Int)) ∧ fr.get (K.ofNat 15) = some (.i .i64 ((2 * E.length + 1 : Nat) : Int)) ∧ fr.get (K.ofNat 16) = some (.i .i64 (t : Int))
def f104_J (id ide idl : K) (w : V) (E : List (Int × Int)) (L : List Int) (h0 : H) (t : Nat) (j : Nat) (fr : Fr) (h1 : H) : Prop := j ≤ E.length ∧ Grow h0.nx.nat h0 h1 ∧ ∃ c, Sk 2 qE h1 c ((E.take j).map (cpE L (2 * E.length + 1) t) ++ List.replicate (E.length - j) (0, 0)) ∧ Own h0.nx.nat c ∧
  fr.get (K.ofNat 0) = some (.yl id) ∧ fr.get (K.ofNat 1) = some (.p ide 0) ∧ fr.get (K.ofNat 2) = some (.p idl 0) ∧ fr.get (K.ofNat 4) = some (.i .i64 ((2 * E.length + 1 : Nat) : Int)) ∧ fr.get (K.ofNat 5) = some (.i .i64 (t : Int)) ∧ fr.get (K.ofNat 6) = some (c) ∧ fr.get (K.ofNat 15) = some (.i .i64 ((2 * E.length + 1 : Nat) : Int)) ∧ fr.get (K.ofNat 16) = some (.i .i64 (t : Int)) ∧ fr.get (K.ofNat 22) = some (w) ∧ fr.get (K.ofNat 23) = some (.i .i64 (E.length : Int)) ∧ fr.get (K.ofNat 24) = some (.i .i64 (j : Int))
theorem copies_yield {n : Nat} (h104 : fs.get (K.ofNat 104) = some f104) (h102 : fs.get (K.ofNat 102) = some f102) (hE : EdgesOk n E) (hlab : LabOk E L) (hn : L.length = n) : YieldsQ fs (K.ofNat 104) [.p ide 0, .p idl 0] (NC ide idl w v E L) (cpAll E L) := by
  intro id I D h hN hI round
  have hE10 := hE.1
  have hYl : (cpAll E L).length = 2 * E.length + 1 := by simp [cpAll]
  refine callP_of (ef := f104) h104 rfl ?_
  show Ret fs f104 [.yl id, .p ide 0, .p idl 0] h _
  apply ret_of rfl
  show W fs none f104_c _ _ _
  unfold f104_c
  obtain ⟨N0, _⟩ := hN _ _ hI
  have l1 := load_p N0.he (show nth [w] 0 = some w from rfl)
  have es : (2 * (E.length : Int) + 1) = ((2 * E.length + 1 : Nat) : Int) := by omega
  have e2 : ((2 * E.length : Nat) : Int) = 2 * (E.length : Int) := by omega
  simp (disch := omega) only [f104_r0, f104_r1, w_reg, w_seq, w_block, seqK_n, x_nil, x_mv, x_as, x_ld, x_bin, x_len, kx, rvP_ok, okv_some, ev_t, ev_c, getV_some, putD_some, bin_add, bin_mul, frame_3, of0, of1, of2, getK_set, Nat.reduceEqDiff, ↓reduceIte, l1, N0.es.len, fw64, es]
  refine W_loop (f104_I id ide idl E I) (fun t => 2 * E.length + 1 - t) ?_ 0 ⟨by omega, hI, by simp (disch := omega) only [getK_set, Nat.reduceEqDiff, ↓reduceIte, and_self, Int.natCast_zero]⟩
  clear l1 N0 hI
  rintro t fr h0 ⟨ht, hIt, g0, g1, g2, g4, g15, g16⟩
  obtain ⟨N0, hc0⟩ := hN _ _ hIt
  unfold f104_l1
  by_cases hlt : t < 2 * E.length + 1
  · have d0 : decide ((t : Int) < ((2 * E.length + 1 : Nat) : Int)) = true := by simp only [decide_eq_true_eq]; omega
    have l1 := load_p N0.he (show nth [w] 0 = some w from rfl)
    have hmk := mks_p (h := h0) (k := .i64) (n := E.length) (by omega)
    have hsl0 := mksp_sl (h := h0) (n := E.length)
    have gD := Grow.new (Nat.le_refl h0.nx.nat) (.cells (E.length * 2) (rep (qE (0, 0)) E.length))
    simp (disch := omega) only [f104_r2, f104_r3, f104_r4, w_skip, w_reg, w_seq, w_cond, w_block, seqK_n, ckB_b, cbB_b, true_and, x_nil, x_mv, x_as, x_ld, x_bin, x_mks, x_len, kx, rvP_ok, okv_some, ev_t, getV_some, putD_some, bin_lss, of0, getK_set, Nat.reduceEqDiff, ↓reduceIte, g1, g15, g16, d0, l1, N0.es.len, hmk]
    have own0 : Own h0.nx.nat (.sl h0.nx 0 E.length 2) := fun _ _ _ _ e => by cases e; exact Nat.le_refl _
    generalize h0.new (.cells (E.length * 2) (rep (qE (0, 0)) E.length)) = h1 at *
    have N1 := N0.grow hc0 gD
    have l2 := load_p N1.he (show nth [w] 0 = some w from rfl)
    simp (disch := omega) only [f104_r5, w_block, seqK_n, x_nil, x_mv, x_ld, x_len, kx, rvP_ok, ev_t, ev_c, getV_some, putD_some, of0, getK_set, Nat.reduceEqDiff, ↓reduceIte, g1, l2, N1.es.len]
    refine W_loop (f104_J id ide idl w E L h0 t) (fun j => E.length - j) ?_ 0 ⟨by omega, gD, .sl h0.nx 0 E.length 2, by simpa using hsl0, own0, by simp (disch := omega) only [getK_set, Nat.reduceEqDiff, ↓reduceIte, g0, g1, g2, g4, g15, g16, and_self, Int.natCast_zero]⟩
    clear l1 l2 hmk hsl0 N1 gD own0 g0 g1 g2 g4 g15 g16 fr
    rintro j fr hx ⟨hj, hGx, c, hsk, hown, g0, g1, g2, g4, g5, g6, g15, g16, g22, g23, g24⟩
    have hcx := hGx.hc hc0
    have Nx := N0.grow hc0 hGx
    unfold f104_l0
    by_cases hlt2 : j < E.length
    · have d1 : decide ((j : Int) < (E.length : Int)) = true := by simpa using hlt2
      obtain ⟨ida, q, hp1, hp2, _, _⟩ := Nx.es.at2 hlt2
      obtain ⟨e0, e1, e3⟩ := hE.2.2 E[j] (List.getElem_mem hlt2)
      obtain ⟨a, ea⟩ : ∃ a : Nat, E[j].1 = (a : Int) := ⟨E[j].1.toNat, by omega⟩
      obtain ⟨b, eb⟩ : ∃ b : Nat, E[j].2 = (b : Int) := ⟨E[j].2.toNat, by omega⟩
      have ha : a < L.length := by omega
      have hb : b < L.length := by omega
      obtain ⟨x, hx'⟩ : ∃ x : Nat, L[a] = (x : Int) := ⟨L[a].toNat, by have := (hlab _ (List.getElem_mem ha)).1; omega⟩
      obtain ⟨y, hy'⟩ : ∃ y : Nat, L[b] = (y : Int) := ⟨L[b].toNat, by have := (hlab _ (List.getElem_mem hb)).1; omega⟩
      have hxb := (hlab _ (List.getElem_mem ha)).2
      have hyb := (hlab _ (List.getElem_mem hb)).2
      have hst2 : storeV (hx.new (.cells 2 zz)) 2 (.p hx.nx 0) (.agg [.i .i64 E[j].1, .i .i64 E[j].2]) = .ok undefV ((hx.new (.cells 2 zz)).put hx.nx (.cells 2 [.i .i64 E[j].1, .i .i64 E[j].2])) := st2 (a := .i .i64 (.ofNat 0)) (b := .i .i64 (.ofNat 0)) get_new_same
      have nx1 := nx_new hx (.cells 2 zz)
      have gA : Grow hx.nx.nat hx ((hx.new (.cells 2 zz)).put hx.nx (.cells 2 [.i .i64 E[j].1, .i .i64 E[j].2])) := (Grow.new (Nat.le_refl _) _).trans (Grow.put (Nat.le_refl _) (by omega) _)
      have c8 : ((hx.new (.cells 2 zz)).put hx.nx (.cells 2 [.i .i64 E[j].1, .i .i64 E[j].2])).get hx.nx = .cells 2 [.i .i64 E[j].1, .i .i64 E[j].2] := get_put_same
      have hzz : ([.i .i64 0, .i .i64 0] : List V) = zz := rfl
      generalize (hx.new (.cells 2 zz)).put hx.nx (.cells 2 [.i .i64 E[j].1, .i .i64 E[j].2]) = h3 at *
      have hG3 := hGx.trans (gA.low hGx.nx)
      have hc3 := hG3.hc hc0
      have N3 := N0.grow hc0 hG3
      have l0 : loadV h3 (.p hx.nx (0 + 0 * 1)) one? = .ok (.i .i64 E[j].1) h3 := load_p c8 rfl
      have l1 : loadV h3 (.p hx.nx (0 + 1 * 1)) one? = .ok (.i .i64 E[j].2) h3 := load_p c8 rfl
      have ll := load_p N3.hl (show nth [v] 0 = some v from rfl)
      obtain ⟨s1, hx1, hx2, hx3⟩ := N3.ls.atb a ha
      obtain ⟨s2, ht1, ht2, ht3⟩ := N3.ls.atb b hb
      have hwb := N3.ls.beq
      rw [ea] at l0
      rw [eb] at l1
      rw [ea, eb] at hst2 hp2
      have hrem : ∀ a, binV .rem (.i .i64 a) (.i .i64 ((2 * E.length + 1 : Nat) : Int)) = some (.i .i64 (a.tmod ((2 * E.length + 1 : Nat) : Int))) := fun a => bin_rem (by omega)
      have hcp : cpE L (2 * E.length + 1) t E[j] = (min ((L[a] + t).tmod ((2 * E.length + 1 : Nat) : Int)) ((L[b] + t).tmod ((2 * E.length + 1 : Nat) : Int)), max ((L[a] + t).tmod ((2 * E.length + 1 : Nat) : Int)) ((L[b] + t).tmod ((2 * E.length + 1 : Nat) : Int))) := by
        unfold cpE
        rw [ea, eb]
        simp only [Int.toNat_natCast, List.getD_eq_getElem?_getD, List.getElem?_eq_getElem ha, List.getElem?_eq_getElem hb, Option.getD_some]
      obtain ⟨A, hA⟩ : ∃ A, A = (L[a] + t).tmod ((2 * E.length + 1 : Nat) : Int) := ⟨_, rfl⟩
      obtain ⟨B, hB⟩ : ∃ B, B = (L[b] + t).tmod ((2 * E.length + 1 : Nat) : Int) := ⟨_, rfl⟩
      rw [← hA, ← hB] at hcp
      have hlit := Sl.lit (e := iE) (x := B) (h := h3)
      have gl := Grow.new (Nat.le_refl h3.nx.nat) (.cells (1 * 1) [iE B])
      simp (disch := omega) only [f104_r6, f104_r7, f104_r8, w_skip, w_reg, w_draw, w_seq, w_cond, w_block, seqK_n, ckB_b, cbB_b, true_and, x_nil, x_mv, x_as, x_alloc, x_ldn, x_st, x_bin, x_iads, x_call, kx, kg, xg_nil, xg_mv, xg_ld, xg_bin, xg_iadr, xg_iads, xg_bslice, xd_cons, stK_s, stay_nil, rvP_ok, okv_some, ev_t, ev_c, evs_nil, evs_cons, getV_some, putD_some, putD_none, bin_add, bin_lss, onP_p, oGet_s, cells1_i, fill_1, set_1, of0, of1, Option.some.injEq, exists_eq_left', getK_set, Nat.reduceEqDiff, ↓reduceIte, ix2_0, ix2_1, g2, g4, g5, g22, g23, g24, d1, hp1, hp2, hzz, hst2, l0, l1, ll, hx1, hx2, ht1, ht2, iE, hc3.dead, fill_1, set_1, hrem, ← hA, ← hB, fw64]
      refine ⟨fresh_one (n := 1) (sz := 1) (by simp (disch := omega) only [getK_set, ↓reduceIte]), ?_⟩
      refine (callP_0 (ef := f102) h102 rfl (f102_ret (a := A) hlit.sr (by simp))).mono ?_
      rintro r h4 ⟨rfl, rfl⟩
      have gAl := gA.trans (gl.low gA.nx)
      have hGl := hGx.trans (gAl.low hGx.nx)
      have hcl := hGl.hc hc0
      have em : minL A [B] = min A B := rfl
      have eM : maxL A [B] = max A B := rfl
      rw [em, eM]
      have hskl : Sk 2 qE (h3.new (.cells (1 * 1) [iE B])) c _ := hsk.grow hcx gAl
      generalize h3.new (.cells (1 * 1) [iE B]) = h5 at *
      have hil : j < ((E.take j).map (cpE L (2 * E.length + 1) t) ++ List.replicate (E.length - j) (0, 0)).length := by simp; omega
      obtain ⟨p, idz, m, cs', w1, w2, w3, ⟨off', n', sz', w4⟩, w5⟩ := hskl.st2 hil (x := (min A B, max A B)) hcl
      have gP := Grow.put (hown _ _ _ _ w4) w5 (.cells m cs')
      have hset : ((E.take j).map (cpE L (2 * E.length + 1) t) ++ List.replicate (E.length - j) (0, 0)).set j (min A B, max A B) = (E.take (j + 1)).map (cpE L (2 * E.length + 1) t) ++ List.replicate (E.length - (j + 1)) (0, 0) := by
        have hlen : ((E.take j).map (cpE L (2 * E.length + 1) t)).length = j := by simp; omega
        rw [List.set_append_right _ _ (by omega), hlen, Nat.sub_self, show E.length - j = (E.length - (j + 1)) + 1 by omega, List.replicate_succ, List.set_cons_zero, List.take_succ_eq_append_getElem hlt2, List.map_append, List.append_assoc]
        simp only [List.map_cons, List.map_nil, hcp, List.singleton_append]
      rw [hset] at w3
      simp (disch := omega) only [f104_r9, f104_r10, w_reg, seqK_n, atK_n, loopK_n, true_and, x_nil, x_mv, x_as, x_build, x_st, x_bin, x_iads, kx, kg, xg_nil, xg_mv, xg_ext, xd_cons, fresh_nil, stK_n, stK_s, stay_nil, stay_cons, again_ok, beq_i, rvP_ok, okv_some, ev_t, ev_c, getV_some, putD_some, putD_none, bin_add, onTup_t, oGet_s, nth0, nth1, cells1_i, of0, of1, getK_set, Nat.reduceEqDiff, ↓reduceIte, fill_2, set_2, g6, g24, stay_ext, again_ok, beq_i, fill_2, set_2, w1, w2, fw64]
      exact ⟨j + 1, by omega, by omega, hGl.trans gP, c, w3, hown, by simp (disch := omega) only [getK_set, Nat.reduceEqDiff, ↓reduceIte, g0, g1, g2, g4, g5, g6, g15, g16, g22, g23, and_self, Int.natCast_add, Int.natCast_one]⟩
    · have d1 : decide ((j : Int) < (E.length : Int)) = false := by simpa using hlt2
      have ej : j = E.length := by omega
      rw [ej, List.take_length, Nat.sub_self, List.replicate_zero, List.append_nil] at hsk
      have hi : t < (cpAll E L).length := by rw [hYl]; exact hlt
      have hYi := cpAll_at hi
      obtain ⟨r, h6, hr, r1, r2⟩ := round t h0 hx c hi hIt hGx (by rw [hYi]; exact hsk.srp) hown
      simp (disch := omega) only [f104_r6, f104_r11, w_reg, w_seq, w_cond, w_exit, seqK_n, seqK_e, atK_e, loopK_e, ckB_b, cbB_b, true_and, x_nil, x_mv, x_bin, x_call, kx, rvP_ok, okv_some, ev_t, evs_nil, evs_cons, getV_some, putD_some, bin_lss, getK_set, Nat.reduceEqDiff, ↓reduceIte, Bool.false_eq_true, g0, g6, g23, g24, d1]
      obtain ⟨m, hm⟩ := hr
      refine ⟨m, _, _, hm, ?_⟩
      cases r with
      | false =>
        simp (disch := omega) only [f104_rs, w_cond, w_ret, seqK_n, seqK_r, atK_r, loopK_r, ckB_b, cbB_b, true_and, retK_r, x_nil, x_not, kx, rvP_ok, ev_t, getV_some, putD_some, onB_b, readRs_nil, retV_0, Option.some.injEq, exists_eq_left', getK_set, ↓reduceIte, Bool.not_false, Bool.not_false, true_and]
        exact .inr (r2 rfl)
      | true =>
        simp (disch := omega) only [f104_r12, w_skip, w_reg, w_cond, seqK_n, atK_n, loopK_n, ckB_b, cbB_b, true_and, x_nil, x_mv, x_bin, x_not, kx, rvP_ok, okv_some, ev_t, ev_c, getV_some, putD_some, bin_add, onB_b, of1, getK_set, Nat.reduceEqDiff, ↓reduceIte, Bool.false_eq_true, Bool.not_true, g16, Bool.not_true, fw64]
        exact ⟨t + 1, by omega, by omega, r1 rfl, by simp (disch := omega) only [getK_set, Nat.reduceEqDiff, ↓reduceIte, g0, g1, g2, g4, g15, and_self, Int.natCast_add, Int.natCast_one]⟩
  · have d0 : decide ((t : Int) < ((2 * E.length + 1 : Nat) : Int)) = false := by simp only [decide_eq_false_iff_not]; omega
    have et : t = 2 * E.length + 1 := by omega
    simp (disch := omega) only [f104_r2, f104_rs, w_reg, w_seq, w_cond, w_exit, seqK_n, seqK_e, atK_e, loopK_e, ckB_b, cbB_b, true_and, retK_n, x_nil, x_bin, kx, rvP_ok, okv_some, ev_t, getV_some, putD_some, bin_lss, readRs_nil, retV_0, Option.some.injEq, exists_eq_left', getK_set, ↓reduceIte, Bool.false_eq_true, g15, g16, d0, true_and]
    exact .inl ⟨h0, by rw [hYl, ← et]; exact hIt, Grow.refl _ _⟩
end
end Go.Ev
namespace Go.Ev
open Go Go.RowKit
section
variable {fs : T EF}
/-- A loop over such a function. -/
theorem W_rangeQ {ro : Option K} {f : EO} {k : K} {caps : List V} {p : K} {a c : EC} {fr : Fr} {h : H} {Q : Ex → Fr → H → Prop} {N : H → Prop} {Y : List (List (Int × Int))} (hro : roOk ro h = true) (hf : ev fr f = .fn k caps) (hy : YieldsQ fs k caps N Y)
    (I : Nat → H → Prop) (D : Ex → H → Prop) (hN : ∀ i h1, I i h1 → N h1 ∧ HC h1 ∧ h.nx.nat < h1.nx.nat) (hI0 : I 0 (h.new (rdyB fr [p] a c)))
    (step : ∀ i h1 h2 v (hi : i < Y.length), I i h1 → Grow h1.nx.nat h1 h2 → h2.get h.nx = rdyB fr [p] a c → Srp h2 v Y[i] → Own h1.nx.nat v → W fs (some h.nx) a (rndA fs h.nx fr [p] a c (I (i + 1)) D) (fr.set p v) h2)
    (fin : ∀ h1 h2, I Y.length h1 → Grow h1.nx.nat h1 h2 → Q .normal fr (h2.put h.nx .dead)) (brk : ∀ e h1, e ≠ .normal → D e h1 → Q e fr h1) : W fs ro (.rangeF f [p] a c) Q fr h := by
  have key := hy h.nx (fun i h1 => I i h1 ∧ h1.get h.nx = rdyB fr [p] a c) (fun h1 => ∃ e, e ≠ .normal ∧ D e (h1.put h.nx .dead) ∧ h1.get h.nx = .loop .done (some e) fr [p] a c) (h.new (rdyB fr [p] a c)) (fun i h1 hi => ⟨(hN i h1 hi.1).1, (hN i h1 hi.1).2.1⟩) ⟨hI0, get_new_same⟩ ?_
  · obtain ⟨n, r, h1, hc, rfl, hq⟩ := key
    rcases hq with ⟨h0, ⟨hI, hb⟩, hG⟩ | ⟨e, hne, hD, hb⟩
    · have hb1 : h1.get h.nx = rdyB fr [p] a c := (hG.old _ (hN _ _ hI).2.2).trans hb
      exact ⟨.normal, fr, _, Runs.range hro hf ⟨n, hc⟩ hb1 (.inl ⟨rfl, rfl, rfl⟩), fin h0 h1 hI hG⟩
    · exact ⟨e, fr, _, Runs.range hro hf ⟨n, hc⟩ hb (.inr ⟨rfl, rfl⟩), brk e _ hne hD⟩
  · rintro i h1 h2 v hi ⟨hI, hb⟩ hG hs ho
    have hb2 : h2.get h.nx = rdyB fr [p] a c := (hG.old _ (hN _ _ hI).2.2).trans hb
    obtain ⟨e1, fr1, h3, r1, rfl, hb3, hw⟩ := W_ok _ _ _ _ (step i h1 h2 v hi hI hG hb2 hs ho)
    obtain ⟨e2, fr2, h4, r2, hb4, hq⟩ := W_ok _ _ _ _ hw
    refine ⟨isNo e2, h4.put h.nx (afterR e2 fr [p] a c), round_of hb2 rfl r1 hb3 r2 hb4, fun he => ?_, fun he => ?_⟩
    · cases e2 <;> first | exact ⟨hq, get_put_same⟩ | cases he
    · cases e2 with
      | normal => cases he
      | exit j => exact ⟨.exit j, by simp, by rw [H.put_put]; exact hq, get_put_same⟩
      | ret => exact ⟨.ret, by simp, by rw [H.put_put]; exact hq, get_put_same⟩
/-- What is gathered. -/
structure Gat (b : Nat) (h : H) (idb idl : K) (Ls : List (List (Int × Int))) (h1 : H) : Prop where
  ex : ∃ o us, h1.get idb = .cells 1 [o] ∧ Sll h1 o us Ls ∧ Own (idl.nat + 1) o ∧ ∀ u ∈ us, Own (idl.nat + 1) u
  gr : Grow b h h1
  hc : HC h1
  nx : idl.nat < h1.nx.nat
theorem f103_ret {h : H} {k : K} {caps : List V} {N : H → Prop} {Y : List (List (Int × Int))} (hy : YieldsQ fs k caps N Y) (hc : HC h) (hN : ∀ h1, Grow h.nx.nat h h1 → N h1) (hY : Y.length ≤ 1000000) :
    Ret fs f103 [.sn, .fn k caps] h fun r h' => (∃ us, Sll h' r us Y) ∧ Grow h.nx.nat h h' := by
  apply ret_of rfl
  show W fs none f103_c _ _ _
  unfold f103_c
  have cf : cellsN 1 .sn = some [.sn] := rfl
  have n1 := nx_new h (.cells 1 [.sn])
  have g1 := Grow.new (Nat.le_refl h.nx.nat) (.cells 1 [.sn])
  have e1 : (h.new (.cells 1 [.sn])).get h.nx = .cells 1 [.sn] := get_new_same
  simp (disch := omega) only [f103_r0, f103_r1, w_reg, w_seq, w_block, seqK_n, x_nil, x_mv, x_as, x_box, kx, rvP_ok, ev_t, ev_c, getV_some, putD_some, oGet_s, frame_2, getK_set, Nat.reduceEqDiff, ↓reduceIte, cf]
  generalize h.new (.cells 1 [.sn]) = h1 at *
  generalize hfr : T.set (K.ofNat 6) _ _ = fr6
  have f6' : fr6.get (K.ofNat 6) = some (.fn k caps) := by rw [← hfr]; simp (disch := omega) only [getK_set, ↓reduceIte]
  have f2' : fr6.get (K.ofNat 2) = some (.p h.nx 0) := by rw [← hfr]; simp (disch := omega) only [getK_set, Nat.reduceEqDiff, ↓reduceIte]
  clear hfr
  have hc1 := g1.hc hc
  have n2 := nx_new h1 (rdyB fr6 [(K.ofNat 7)] f103_a0 f103_b0)
  have g2 : Grow h1.nx.nat h1 (h1.new (rdyB fr6 [(K.ofNat 7)] f103_a0 f103_b0)) := Grow.new (Nat.le_refl _) _
  refine W_rangeQ (Y := Y) (N := N) rfl (by simp (disch := omega) only [ev_t, getV_some, f6']) hy (fun i h2 => Gat h.nx.nat h h.nx h1.nx (Y.take i) h2) (fun _ _ => False) (fun i h2 g => ⟨hN _ g.gr, g.hc, g.nx⟩) ?_ ?_ ?_ (fun _ _ _ hf => hf.elim)
  · exact ⟨⟨.sn, [], by rw [g2.old _ (by omega)]; exact e1, by rw [List.take_zero]; exact Sll.nil, Own.sn, fun u hu => absurd hu (by simp)⟩, g1.trans (g2.low (by omega)), g2.hc hc1, by omega⟩
  · rintro i h2 h3 v hi ⟨⟨o, us, eo, so, oo, ou⟩, gr, hc2, nx2⟩ hG hb hs ho
    rw [show ∀ Q fr h, W fs (some h1.nx) f103_a0 Q fr h = X fs f103_r2 (Q .normal) fr h from fun _ _ _ => rfl]
    simp (disch := omega) only [f103_r2, rndA_n, x_nil, x_as, ev_t, getV_some, putD_some, getK_set, ↓reduceIte]
    refine ⟨hb, ?_⟩
    show W fs (some h1.nx) (.block 1 (.reg f103_r3)) (rndK h1.nx fr6 [(K.ofNat 7)] f103_a0 f103_b0 _ _) _ _
    have hc3 := hG.hc hc2
    have so3 := so.grow hc2 hG
    have eo3 : h3.get h.nx = .cells 1 [o] := (hG.old _ (by omega)).trans eo
    have gr3 := gr.trans (hG.low gr.nx)
    have nx3 := hG.nx
    have olt : ∀ id off n sz, o = .sl id off n sz → id.nat < h2.nx.nat := so.out.lt hc2
    have gB : Grow 0 h3 (h3.put h1.nx (bsyB fr6 [(K.ofNat 7)] f103_a0 f103_b0)) := Grow.put (Nat.zero_le _) (by omega) _
    have e4 : (h3.put h1.nx (bsyB fr6 [(K.ofNat 7)] f103_a0 f103_b0)).get h1.nx = bsyB fr6 [(K.ofNat 7)] f103_a0 f103_b0 := get_put_same
    have o4 : ∀ y : K, y ≠ h1.nx → (h3.put h1.nx (bsyB fr6 [(K.ofNat 7)] f103_a0 f103_b0)).get y = h3.get y := fun y hy => get_put_other hy
    have x4 : (h3.put h1.nx (bsyB fr6 [(K.ofNat 7)] f103_a0 f103_b0)).nx = h3.nx := rfl
    have hc4 := gB.hc hc3
    generalize h3.put h1.nx (bsyB fr6 [(K.ofNat 7)] f103_a0 f103_b0) = h4 at *
    have eo4 : h4.get h.nx = .cells 1 [o] := (o4 _ (kNe (by omega))).trans eo3
    -- what is a slice lies in no loop's block
    have cellsNe : ∀ {id : K} {m : Nat} {cs : List V}, h3.get id = .cells m cs → id ≠ h1.nx := fun e e' => by rw [e', hb] at e; cases e
    have romNe : ∀ {id : K} {m : Nat} {cs : List V}, h3.get id = .rom m cs → id ≠ h1.nx := fun e e' => by rw [e', hb] at e; cases e
    have srp4 : ∀ {u : V} {L : List (Int × Int)}, Srp h3 u L → Srp h4 u L := fun {u L} hu => by
      rcases hu with hu | ⟨id, off, m, cs, rfl, hb', hx⟩
      · exact .inl hu
      · refine .inr ⟨id, off, m, cs, rfl, ?_, hx⟩
        rcases hb' with hb' | hb'
        · rw [o4 _ (cellsNe hb')]; exact .inl hb'
        · rw [o4 _ (romNe hb')]; exact .inr hb'
    have so4 : Sll h4 o us (Y.take i) := ⟨so3.len, so3.out.same fun id off n sz e => o4 _ (fun e' => by have := oo _ _ _ _ e; rw [e'] at this; omega), fun j q1 q2 => srp4 (so3.inn j q1 q2), so3.sep⟩
    have hs4 := srp4 hs
    have sepv : ∀ id off n sz, v = .sl id off n sz → NotIn id o := fun id off n sz e off' n' sz' e' => by
      have := ho _ _ _ _ e
      have := olt _ _ _ _ e'
      omega
    obtain ⟨o5, h5, a1, s5, ow5, gr5, kp5⟩ := so4.push (b := h1.nx.nat + 1) oo (by rw [x4]; omega) hc4 (by simp; omega) hs4 sepv
    have hno : NotIn h.nx o := fun off n sz e => by have := oo _ _ _ _ e; omega
    have hnl : NotIn h1.nx o := fun off n sz e => by have := oo _ _ _ _ e; omega
    have k1 := kp5 h.nx (by rw [x4]; omega) hno
    have k2 := kp5 h1.nx (by rw [x4]; omega) hnl
    have ld := load_p eo4 (show nth [o] 0 = some o from rfl)
    have st := st1 (h := h5) (id := h.nx) (a := o) (c := o5) (k1.1.trans eo4) s5.out.one
    have hvc := hs4.cell
    simp (disch := omega) only [f103_r3, w_reg, w_block, atK_n, rndK_n, x_nil, x_mv, x_bslice, x_ld, x_st, x_app, kx, rvP_ok, ev_t, getV_some, putD_some, putD_none, oGet_s, fill_1, set_1, getK_set, Nat.reduceEqDiff, ↓reduceIte, f2', ld, hvc, fill_1, set_1, a1, st]
    have hc5 := gr5.hc hc4
    have x5 := gr5.nx
    rw [x4] at x5
    refine ⟨by rw [get_put_other (kNe (by omega)).symm, k2.1]; exact e4, ?_⟩
    have ne01 : h.nx ≠ h1.nx := kNe (by omega)
    -- blocks that are slices
    have hno5 : NotIn h.nx o5 := k1.2
    have hnl5 : NotIn h1.nx o5 := k2.2
    have ov : ∀ u ∈ us ++ [v], Own (h1.nx.nat + 1) u := fun u hu => by
      rcases List.mem_append.1 hu with hu | hu
      · exact ou u hu
      · rw [List.mem_singleton.1 hu]; exact ho.low nx2
    have hiu : ∀ u ∈ us ++ [v], ∀ id off n sz, u = .sl id off n sz → id ≠ h.nx ∧ id ≠ h1.nx := fun u hu id off n sz e => by
      have := ov u hu _ _ _ _ e
      exact ⟨fun e' => by rw [e'] at this; omega, fun e' => by rw [e'] at this; omega⟩
    refine ⟨⟨o5, us ++ [v], ?_, ?_, ow5, ov⟩, ?_, ?_, ?_⟩
    · rw [get_put_other ne01, get_put_same]
    · rw [List.take_succ_eq_append_getElem hi]
      refine ⟨s5.len, s5.out.same fun id off n sz e => ?_, fun j q1 q2 => (s5.inn j q1 q2).old fun id off n sz e => ?_, s5.sep⟩
      · have := ow5 _ _ _ _ e
        rw [get_put_other (fun e' => by rw [e'] at this; omega), get_put_other (fun e' => by rw [e'] at this; omega)]
      · obtain ⟨n1, n2⟩ := hiu _ (List.getElem_mem q1) _ _ _ _ e
        rw [get_put_other n2, get_put_other n1]
    · refine ⟨by show h.nx.nat ≤ h5.nx.nat; omega, fun id hid => ?_, fun _ => (Grow.put (b := 0) (Nat.zero_le _) (by show h1.nx.nat < h5.nx.nat; omega) _).hc ((Grow.put (b := 0) (Nat.zero_le _) (by omega) _).hc hc5)⟩
      rw [get_put_other (kNe (by omega)), get_put_other (kNe hid), gr5.old id (by omega), o4 id (kNe (by omega)), gr3.old id hid]
    · exact (Grow.put (b := 0) (Nat.zero_le _) (by show h1.nx.nat < h5.nx.nat; omega) _).hc ((Grow.put (b := 0) (Nat.zero_le _) (by omega) _).hc hc5)
    · show h1.nx.nat < h5.nx.nat; omega
  · rintro h2 h3 ⟨⟨o, us, eo, so, oo, ou⟩, gr, hc2, nx2⟩ hG
    rw [List.take_length] at so
    have hc3 := hG.hc hc2
    have so3 := so.grow hc2 hG
    have eo3 : h3.get h.nx = .cells 1 [o] := (hG.old _ (by omega)).trans eo
    have gr3 := gr.trans (hG.low gr.nx)
    have nx3 := hG.nx
    have eo4 : (h3.put h1.nx .dead).get h.nx = .cells 1 [o] := by rw [get_put_other (kNe (by omega))]; exact eo3
    have ld := load_p eo4 (show nth [o] 0 = some o from rfl)
    simp (disch := omega) only [f103_r4, f103_rs, w_reg, w_seq, w_ret, seqK_n, atK_n, retK_r, x_nil, x_as, x_ld, kx, rvP_ok, ev_t, getV_some, putD_some, oGet_s, readRs_nil, readRs_t, retV_1, Option.some.injEq, exists_eq_left', getK_set, ↓reduceIte, f2', ld]
    refine ⟨⟨us, so3.len, so3.out.put (fun off n sz e => by have := oo _ _ _ _ e; omega) _, fun j q1 q2 => (so3.inn j q1 q2).old fun id off n sz e => get_put_other (fun e' => by have := ou _ (List.getElem_mem q1) _ _ _ _ e; rw [e'] at this; omega), so3.sep⟩, ?_⟩
    refine ⟨gr3.nx, fun id hid => ?_, fun _ => (Grow.put (b := 0) (Nat.zero_le _) (by omega) _).hc hc3⟩
    rw [get_put_other (kNe (by omega)), gr3.old id hid]
theorem f65_ret {h : H} {k : K} {caps : List V} {N : H → Prop} {Y : List (List (Int × Int))} (h103 : fs.get (K.ofNat 103) = some f103) (hy : YieldsQ fs k caps N Y) (hc : HC h) (hN : ∀ h1, Grow h.nx.nat h h1 → N h1) (hY : Y.length ≤ 1000000) :
    Ret fs f65 [.fn k caps] h fun r h' => (∃ us, Sll h' r us Y) ∧ Grow h.nx.nat h h' := by
  apply ret_of rfl
  show W fs none f65_c _ _ _
  unfold f65_c
  simp (disch := omega) only [f65_r0, f65_r1, w_reg, w_seq, seqK_n, x_nil, x_mv, x_as, x_call, ev_t, ev_c, evs_nil, evs_cons, getV_some, putD_some, frame_1, getK_set, Nat.reduceEqDiff, ↓reduceIte]
  refine (callP_0 (ef := f103) h103 rfl (f103_ret hy hc hN hY)).mono ?_
  rintro r h1 hh
  simp (disch := omega) only [f65_rs, w_ret, seqK_n, retK_r, x_nil, x_as, kx, ev_t, getV_some, putD_some, oGet_s, readRs_nil, readRs_t, retV_1, Option.some.injEq, exists_eq_left', getK_set, ↓reduceIte]
  exact hh
theorem f66_ret {h : H} {v w : V} (hv : cellsN 1 v = some [v]) (hw : cellsN 1 w = some [w]) : Ret fs f66 [w, v] h fun r h' => r = .fn (K.ofNat 104) [.p h.nx 0, .p (h.new (.cells 1 [w])).nx 0] ∧ h' = (h.new (.cells 1 [w])).new (.cells 1 [v]) := by
  apply ret_of rfl
  show W fs none f66_c _ _ _
  unfold f66_c
  simp (disch := omega) only [f66_r0, f66_r1, f66_rs, w_reg, w_seq, w_ret, seqK_n, retK_r, x_nil, x_as, x_box, x_mkfn, kx, rvP_ok, ev_t, ev_c, evs_nil, evs_cons, getV_some, putD_some, oGet_s, readRs_nil, readRs_t, retV_1, frame_2, Option.some.injEq, exists_eq_left', getK_set, Nat.reduceEqDiff, ↓reduceIte, hv, hw, and_self]
structure CallsCp (fs : T EF) : Prop extends CallsIg fs where
  c65 : fs.get (K.ofNat 65) = some f65
  c66 : fs.get (K.ofNat 66) = some f66
  c103 : fs.get (K.ofNat 103) = some f103
  c104 : fs.get (K.ofNat 104) = some f104
section
variable {h : H} {v w : V} {m : Nat} {E : List (Int × Int)} {L : List Int}
theorem f21_err {n : Int} (k : CallsIg fs) (hv : Srp h v E) (hc : HC h) (hE : E.length ≤ 1000000) (hn : chkI n E ≠ 0) : Ret fs f21 [.i .i64 n, v, w] h fun r h' => r = .tup [.sn, .i .i64 (chkI n E)] ∧ Grow h.nx.nat h h' := by
  apply ret_of rfl
  show W fs none f21_c _ _ _
  unfold f21_c
  simp (disch := omega) only [f21_r0, f21_r1, w_reg, w_seq, seqK_n, x_nil, x_mv, x_as, x_call, ev_t, ev_c, evs_nil, evs_cons, getV_some, putD_some, frame_3, of0, getK_set, Nat.reduceEqDiff, ↓reduceIte]
  refine (callP_0 (ef := f64) k.c64 rfl (f64_err (n := n) k.toCallsC hv hc hE hn)).mono ?_
  rintro r h4 ⟨rfl, gB⟩
  have d : decide (chkI n E ≠ 0) = true := by simpa using hn
  simp (disch := omega) only [f21_r2, f21_r3, f21_rs, w_reg, w_seq, w_cond, w_ret, seqK_n, seqK_r, ckB_b, cbB_b, true_and, retK_r, x_nil, x_mv, x_as, x_bin, kx, rvP_ok, okv_some, ev_t, ev_c, getV_some, putD_some, bin_neq, oGet_s, readRs_nil, readRs_t, retV_2, of0, Option.some.injEq, exists_eq_left', getK_set, Nat.reduceEqDiff, ↓reduceIte, d, true_and]
  exact gB
theorem f21_no (k : CallsIg fs) (hv : Srp h v E) (hw : Sr iE h w L) (hc : HC h) (hL : L.length ≤ 1000000) (hn : chkI (m : Int) E = 0) (hg : grB (m : Int) E L = false) : Ret fs f21 [.i .i64 (m : Int), v, w] h fun r h' => r = .tup [.sn, .i .i64 1] ∧ Grow h.nx.nat h h' := by
  apply ret_of rfl
  show W fs none f21_c _ _ _
  unfold f21_c
  simp (disch := omega) only [f21_r0, f21_r1, w_reg, w_seq, seqK_n, x_nil, x_mv, x_as, x_call, ev_t, ev_c, evs_nil, evs_cons, getV_some, putD_some, frame_3, of0, getK_set, Nat.reduceEqDiff, ↓reduceIte]
  refine (callP_0 (ef := f64) k.c64 rfl (f64_ok k hv hw hc hL hn)).mono ?_
  rintro r h4 ⟨rfl, gB⟩
  have d : decide ((1 : Int) ≠ 0) = true := rfl
  simp (disch := omega) only [f21_r2, f21_r3, f21_rs, w_reg, w_seq, w_cond, w_ret, seqK_n, seqK_r, ckB_b, cbB_b, true_and, retK_r, x_nil, x_mv, x_as, x_bin, kx, rvP_ok, okv_some, ev_t, ev_c, getV_some, putD_some, bin_neq, oGet_s, readRs_nil, readRs_t, retV_2, of0, Option.some.injEq, exists_eq_left', getK_set, Nat.reduceEqDiff, ↓reduceIte, Bool.false_eq_true, hg, Bool.false_eq_true, d, true_and]
  exact gB
theorem f21_ok (k : CallsCp fs) (hv : Srp h v E) (hw : Sr iE h w L) (hc : HC h) (hL : L.length ≤ 1000000) (hn : chkI (m : Int) E = 0) (hg : grB (m : Int) E L = true) : Ret fs f21 [.i .i64 (m : Int), v, w] h fun r h' => ∃ u us, r = .tup [u, .i .i64 0] ∧ Sll h' u us (cpAll E L) ∧ Grow h.nx.nat h h' := by
  obtain ⟨m', hm, _, hE⟩ := chkI_ok hn
  obtain rfl : m = m' := by omega
  obtain ⟨hXm, hlin⟩ := gr_labs hg
  have hE10 := hE.1
  apply ret_of rfl
  show W fs none f21_c _ _ _
  unfold f21_c
  simp (disch := omega) only [f21_r0, f21_r1, w_reg, w_seq, seqK_n, x_nil, x_mv, x_as, x_call, ev_t, ev_c, evs_nil, evs_cons, getV_some, putD_some, frame_3, of0, getK_set, Nat.reduceEqDiff, ↓reduceIte]
  refine (callP_0 (ef := f64) k.c64 rfl (f64_ok k.toCallsIg hv hw hc hL hn)).mono ?_
  rintro r h1 ⟨rfl, g1⟩
  have d : decide ((0 : Int) ≠ 0) = false := rfl
  have hv1 := hv.grow hc g1
  have hw1 := hw.grow hc g1
  have hc1 := g1.hc hc
  simp (disch := omega) only [f21_r2, f21_r4, w_skip, w_reg, w_seq, w_cond, seqK_n, ckB_b, cbB_b, true_and, x_nil, x_mv, x_as, x_bin, x_call, kx, rvP_ok, okv_some, ev_t, ev_c, evs_nil, evs_cons, getV_some, putD_some, bin_neq, of0, getK_set, Nat.reduceEqDiff, ↓reduceIte, Bool.false_eq_true, hg, d]
  refine (callP_0 (ef := f66) k.c66 rfl (f66_ret (v := w) (w := v) hw1.one hv1.one)).mono ?_
  rintro r h2 ⟨rfl, h2e⟩
  have n1 := nx_new h1 (.cells 1 [v])
  have n2 := nx_new (h1.new (.cells 1 [v])) (.cells 1 [w])
  have g2 : Grow h1.nx.nat h1 h2 := by rw [h2e]; exact (Grow.new (Nat.le_refl _) _).trans (Grow.new (by omega) _)
  have hc2 := g2.hc hc1
  have N2 : NC h1.nx (h1.new (.cells 1 [v])).nx v w E L h2 := ⟨by rw [h2e, get_new_old (by omega), get_new_same], by rw [h2e, get_new_same], hv1.grow hc1 g2, hw1.grow hc1 g2⟩
  clear h2e
  generalize (h1.new (.cells 1 [v])).nx = idl at *
  simp (disch := omega) only [x_call, kx, ev_t, ev_c, evs_nil, evs_cons, getV_some, putD_some, getK_set, ↓reduceIte]
  refine (callP_0 (ef := f65) k.c65 rfl (f65_ret k.c103 (copies_yield k.c104 k.c102 hE hlin hXm) hc2 (fun h3 g => N2.grow hc2 g) (by simp [cpAll]; omega))).mono ?_
  rintro r h3 ⟨⟨us, hs⟩, g3⟩
  simp (disch := omega) only [f21_rs, w_ret, seqK_n, retK_r, x_nil, x_as, kx, ev_t, ev_c, getV_some, putD_some, oGet_s, readRs_nil, readRs_t, retV_2, Option.some.injEq, exists_eq_left', getK_set, Nat.reduceEqDiff, ↓reduceIte]
  exact ⟨r, us, rfl, hs, g1.trans ((g2.trans (g3.low g2.nx)).low g1.nx)⟩
end
end
end Go.Ev
namespace Go.Ev
open Go Go.RowKit
/-- The number of edges of a node. -/
def dg1 (v : Nat) (e : Int × Int) : Int := (if v = e.1.toNat then 1 else 0) + (if v = e.2.toNat then 1 else 0)
def dgE (E : List (Int × Int)) (v : Nat) : Int := E.foldr (fun e s => dg1 v e + s) 0
theorem dgE_cons {e : Int × Int} {E : List (Int × Int)} {v : Nat} : dgE (e :: E) v = dg1 v e + dgE E v := rfl
theorem dgE_snoc {e : Int × Int} {v : Nat} : ∀ {E : List (Int × Int)}, dgE (E ++ [e]) v = dgE E v + dg1 v e
  | [] => by show dg1 v e + 0 = 0 + dg1 v e; omega
  | x :: E => by show dg1 v x + dgE (E ++ [e]) v = dg1 v x + dgE E v + dg1 v e; rw [dgE_snoc]; omega
end Go.Ev
namespace Go.Ev
end Go.Ev
namespace Go.Ev
open Go Go.RowKit
/-- The numbers of edges, node by node. -/
def dgL (m : Nat) (E : List (Int × Int)) : List Int := (List.range m).map (dgE E)
theorem dgL_len {m : Nat} {E : List (Int × Int)} : (dgL m E).length = m := by simp [dgL]
theorem dgL_at {m v : Nat} {E : List (Int × Int)} (h : v < (dgL m E).length) : (dgL m E)[v] = dgE E v := by simp [dgL]
theorem dgE_nn : ∀ {E : List (Int × Int)} {v : Nat}, 0 ≤ dgE E v ∧ dgE E v ≤ 2 * E.length
  | [], v => by show 0 ≤ (0 : Int) ∧ (0 : Int) ≤ _; simp
  | e :: E, v => by
    have h1 := dgE_nn (E := E) (v := v)
    rw [dgE_cons, List.length_cons]
    unfold dg1
    constructor
    · split <;> split <;> omega
    · split <;> split <;> omega
theorem dgL_step {m a b : Nat} {E : List (Int × Int)} (_ : a < m) (_ : b < m) (hab : a ≠ b) : dgL m (E ++ [((a : Int), (b : Int))]) = ((dgL m E).set a (dgE E a + 1)).set b (dgE E b + 1) := by
  apply List.ext_getElem
  · simp [dgL]
  · intro v h1 h2
    rw [dgL_at, dgE_snoc, List.getElem_set, List.getElem_set]
    have h3 : v < (dgL m E).length := by simpa [dgL] using h1
    unfold dg1
    simp only [Int.toNat_natCast]
    by_cases e1 : b = v
    · subst e1
      rw [if_pos rfl, if_neg (Ne.symm hab), if_pos rfl]; omega
    · rw [if_neg e1]
      by_cases e2 : a = v
      · subst e2
        rw [if_pos rfl, if_pos rfl, if_neg (Ne.symm e1)]; omega
      · rw [if_neg e2, dgL_at h3, if_neg (Ne.symm e2), if_neg (Ne.symm e1)]; omega
section
variable {fs : T EF} {ro : Option K}
end
end Go.Ev
namespace Go.Ev
open Go Go.RowKit
noncomputable def f148_r0 : List EOper := [⟨(some (K.ofNat 4)), none, .as (.c (.i .i64 (.ofNat 0)))⟩]
noncomputable def f148_r1 : List EOper := [⟨(some (K.ofNat 6)), none, .mv (.t (K.ofNat 0))⟩, ⟨(some (K.ofNat 7)), none, .len (.t (K.ofNat 6))⟩, ⟨(some (K.ofNat 8)), none, .mv (.c (.i .i64 (.ofNat 0)))⟩]
noncomputable def f148_r2 : List EOper := [⟨(some (K.ofNat 9)), none, .bin .lss (.t (K.ofNat 8)) (.t (K.ofNat 7))⟩]
noncomputable def f148_r3 : List EOper := [⟨(some (K.ofNat 10)), none, .mv (.t (K.ofNat 8))⟩, ⟨(some (K.ofNat 5)), none, .as (.t (K.ofNat 10))⟩]
noncomputable def f148_r4 : List EOper := [⟨(some (K.ofNat 11)), none, .mv (.t (K.ofNat 1))⟩, ⟨(some (K.ofNat 12)), none, .mv (.t (K.ofNat 0))⟩, ⟨(some (K.ofNat 13)), none, .mv (.t (K.ofNat 5))⟩, ⟨(some (K.ofNat 14)), none, .iads 1 (.t (K.ofNat 12)) (.t (K.ofNat 13))⟩, ⟨(some (K.ofNat 15)), none, .ld (.t (K.ofNat 14))⟩, ⟨(some (K.ofNat 16)), none, .eqk (.one none) false (.t (K.ofNat 11)) (.t (K.ofNat 15))⟩]
noncomputable def f148_r5 : List EOper := [⟨(some (K.ofNat 17)), none, .mv (.t (K.ofNat 5))⟩, ⟨(some (K.ofNat 4)), none, .as (.t (K.ofNat 17))⟩]
noncomputable def f148_r6 : List EOper := [⟨(some (K.ofNat 18)), none, .bin .add (.t (K.ofNat 8)) (.c (.i .i64 (.ofNat 1)))⟩, ⟨(some (K.ofNat 8)), none, .mv (.t (K.ofNat 18))⟩]
noncomputable def f148_l0 : EC := (.seq (.reg f148_r2) (.seq (.cond (.t (K.ofNat 9)) .skip (.exit 0)) (.seq (.block 1 (.seq (.reg f148_r3) (.seq (.reg f148_r4) (.cond (.t (K.ofNat 16)) (.seq (.reg f148_r5) .ret) .skip)))) (.reg f148_r6))))
noncomputable def f148_r7 : List EOper := [⟨(some (K.ofNat 4)), none, .as (.c (.i .i64 (.negSucc 0)))⟩]
noncomputable def f148_c : EC := (.seq (.reg f148_r0) (.seq (.seq (.reg f148_r1) (.block 0 (.loop f148_l0))) (.seq (.reg f148_r7) .ret)))
noncomputable def f148 : EF := ⟨19, [.tmp (K.ofNat 4)], f148_c, none⟩
theorem f148_rs : f148.rs = [.tmp (K.ofNat 4)] := of_eq_true (eq_self _)
noncomputable def f131_r0 : List EOper := [⟨(some (K.ofNat 4)), none, .as (.c (.b false))⟩]
noncomputable def f131_r1 : List EOper := [⟨(some (K.ofNat 5)), none, .mv (.t (K.ofNat 0))⟩, ⟨(some (K.ofNat 6)), none, .mv (.t (K.ofNat 1))⟩, ⟨(some (K.ofNat 7)), none, .call (.c (.fn (K.ofNat 148) [])) [(.t (K.ofNat 5)), (.t (K.ofNat 6))]⟩, ⟨(some (K.ofNat 8)), none, .bin .geq (.t (K.ofNat 7)) (.c (.i .i64 (.ofNat 0)))⟩, ⟨(some (K.ofNat 4)), none, .as (.t (K.ofNat 8))⟩]
noncomputable def f131_c : EC := (.seq (.reg f131_r0) (.seq (.reg f131_r1) .ret))
noncomputable def f131 : EF := ⟨9, [.tmp (K.ofNat 4)], f131_c, none⟩
theorem f131_rs : f131.rs = [.tmp (K.ofNat 4)] := of_eq_true (eq_self _)
noncomputable def f106_r0 : List EOper := [⟨(some (K.ofNat 2)), none, .alloc 7 [(.i .i64 (.ofNat 0)), (.i .i64 (.ofNat 0)), (.i .i64 (.ofNat 0)), (.i .i64 (.ofNat 0)), (.i .i64 (.ofNat 0)), (.i .i64 (.ofNat 0)), (.i .i64 (.ofNat 0))]⟩]
noncomputable def f106_r1 : List EOper := [⟨(some (K.ofNat 3)), none, .alloc 7 [(.i .i64 (.ofNat 0)), (.i .i64 (.ofNat 0)), (.i .i64 (.ofNat 0)), (.i .i64 (.ofNat 0)), (.i .i64 (.ofNat 0)), (.i .i64 (.ofNat 0)), (.i .i64 (.ofNat 0))]⟩]
noncomputable def f106_r2 : List EOper := [⟨(some (K.ofNat 6)), none, .mv (.t (K.ofNat 0))⟩, ⟨(some (K.ofNat 7)), none, .len (.t (K.ofNat 6))⟩, ⟨(some (K.ofNat 8)), none, .mv (.c (.i .i64 (.ofNat 0)))⟩]
noncomputable def f106_r3 : List EOper := [⟨(some (K.ofNat 9)), none, .bin .lss (.t (K.ofNat 8)) (.t (K.ofNat 7))⟩]
noncomputable def f106_r4 : List EOper := [⟨(some (K.ofNat 10)), none, .iads 2 (.t (K.ofNat 6)) (.t (K.ofNat 8))⟩, ⟨(some (K.ofNat 11)), none, .ldn 2 (.t (K.ofNat 10))⟩, ⟨(some (K.ofNat 5)), none, .alloc 2 [(.i .i64 (.ofNat 0)), (.i .i64 (.ofNat 0))]⟩, ⟨none, none, .st 2 (.t (K.ofNat 5)) (.t (K.ofNat 11))⟩]
noncomputable def f106_r5 : List EOper := [⟨(some (K.ofNat 12)), none, .iadr 2 1 (.t (K.ofNat 5)) (.c (.i .i64 (.ofNat 0)))⟩, ⟨(some (K.ofNat 13)), none, .ld (.t (K.ofNat 12))⟩, ⟨(some (K.ofNat 14)), none, .iadr 7 1 (.t (K.ofNat 3)) (.t (K.ofNat 13))⟩, ⟨(some (K.ofNat 15)), none, .ld (.t (K.ofNat 14))⟩, ⟨(some (K.ofNat 16)), none, .bin .add (.t (K.ofNat 15)) (.c (.i .i64 (.ofNat 1)))⟩, ⟨(some (K.ofNat 17)), none, .iadr 7 1 (.t (K.ofNat 3)) (.t (K.ofNat 13))⟩, ⟨none, none, .st 1 (.t (K.ofNat 17)) (.t (K.ofNat 16))⟩]
noncomputable def f106_r6 : List EOper := [⟨(some (K.ofNat 18)), none, .iadr 2 1 (.t (K.ofNat 5)) (.c (.i .i64 (.ofNat 1)))⟩, ⟨(some (K.ofNat 19)), none, .ld (.t (K.ofNat 18))⟩, ⟨(some (K.ofNat 20)), none, .iadr 7 1 (.t (K.ofNat 3)) (.t (K.ofNat 19))⟩, ⟨(some (K.ofNat 21)), none, .ld (.t (K.ofNat 20))⟩, ⟨(some (K.ofNat 22)), none, .bin .add (.t (K.ofNat 21)) (.c (.i .i64 (.ofNat 1)))⟩, ⟨(some (K.ofNat 23)), none, .iadr 7 1 (.t (K.ofNat 3)) (.t (K.ofNat 19))⟩, ⟨none, none, .st 1 (.t (K.ofNat 23)) (.t (K.ofNat 22))⟩]
noncomputable def f106_r7 : List EOper := [⟨(some (K.ofNat 24)), none, .bin .add (.t (K.ofNat 8)) (.c (.i .i64 (.ofNat 1)))⟩, ⟨(some (K.ofNat 8)), none, .mv (.t (K.ofNat 24))⟩]
noncomputable def f106_l0 : EC := (.seq (.reg f106_r3) (.seq (.cond (.t (K.ofNat 9)) .skip (.exit 0)) (.seq (.block 1 (.seq (.reg f106_r4) (.seq (.reg f106_r5) (.reg f106_r6)))) (.reg f106_r7))))
noncomputable def f106_r8 : List EOper := [⟨(some (K.ofNat 25)), none, .ldn 7 (.t (K.ofNat 3))⟩, ⟨none, none, .st 7 (.t (K.ofNat 2)) (.t (K.ofNat 25))⟩]
noncomputable def f106_c : EC := (.seq (.reg f106_r0) (.seq (.reg f106_r1) (.seq (.seq (.reg f106_r2) (.block 0 (.loop f106_l0))) (.seq (.reg f106_r8) .ret))))
noncomputable def f106 : EF := ⟨26, [.celln (K.ofNat 2) 7], f106_c, none⟩
theorem f106_rs : f106.rs = [.celln (K.ofNat 2) 7] := of_eq_true (eq_self _)
noncomputable def f105_r0 : List EOper := [⟨(some (K.ofNat 4)), none, .as (.c (.b false))⟩]
noncomputable def f105_r1 : List EOper := [⟨(some (K.ofNat 8)), none, .build [(.b false), (.b false), (.b false), (.b false), (.b false), (.b false), (.b false)] [(0, 1, (.c (.b true)))]⟩, ⟨(some (K.ofNat 5)), none, .alloc 7 [(.b false), (.b false), (.b false), (.b false), (.b false), (.b false), (.b false)]⟩, ⟨none, none, .st 7 (.t (K.ofNat 5)) (.t (K.ofNat 8))⟩]
noncomputable def f105_r2 : List EOper := [⟨(some (K.ofNat 9)), none, .mv (.t (K.ofNat 0))⟩, ⟨(some (K.ofNat 10)), none, .mv (.c (.i .i64 (.ofNat 0)))⟩]
noncomputable def f105_r3 : List EOper := [⟨(some (K.ofNat 11)), none, .bin .lss (.t (K.ofNat 10)) (.t (K.ofNat 9))⟩]
noncomputable def f105_r4 : List EOper := [⟨(some (K.ofNat 12)), none, .mv (.t (K.ofNat 1))⟩, ⟨(some (K.ofNat 13)), none, .len (.t (K.ofNat 12))⟩, ⟨(some (K.ofNat 14)), none, .mv (.c (.i .i64 (.ofNat 0)))⟩]
noncomputable def f105_r5 : List EOper := [⟨(some (K.ofNat 15)), none, .bin .lss (.t (K.ofNat 14)) (.t (K.ofNat 13))⟩]
noncomputable def f105_r6 : List EOper := [⟨(some (K.ofNat 16)), none, .iads 2 (.t (K.ofNat 12)) (.t (K.ofNat 14))⟩, ⟨(some (K.ofNat 17)), none, .ldn 2 (.t (K.ofNat 16))⟩, ⟨(some (K.ofNat 7)), none, .alloc 2 [(.i .i64 (.ofNat 0)), (.i .i64 (.ofNat 0))]⟩, ⟨none, none, .st 2 (.t (K.ofNat 7)) (.t (K.ofNat 17))⟩]
noncomputable def f105_r7 : List EOper := [⟨(some (K.ofNat 18)), none, .iadr 2 1 (.t (K.ofNat 7)) (.c (.i .i64 (.ofNat 0)))⟩, ⟨(some (K.ofNat 19)), none, .ld (.t (K.ofNat 18))⟩, ⟨(some (K.ofNat 20)), none, .iadr 7 1 (.t (K.ofNat 5)) (.t (K.ofNat 19))⟩, ⟨(some (K.ofNat 21)), none, .ld (.t (K.ofNat 20))⟩, ⟨(some (K.ofNat 22)), none, .mv (.t (K.ofNat 21))⟩, ⟨(some (K.ofNat 23)), (some ((K.ofNat 22), false)), .iadr 2 1 (.t (K.ofNat 7)) (.c (.i .i64 (.ofNat 1)))⟩, ⟨(some (K.ofNat 24)), (some ((K.ofNat 22), false)), .ld (.t (K.ofNat 23))⟩, ⟨(some (K.ofNat 25)), (some ((K.ofNat 22), false)), .iadr 7 1 (.t (K.ofNat 5)) (.t (K.ofNat 24))⟩, ⟨(some (K.ofNat 26)), (some ((K.ofNat 22), false)), .ld (.t (K.ofNat 25))⟩, ⟨(some (K.ofNat 27)), none, .pick (.t (K.ofNat 22)) (.c (.b true)) (.t (K.ofNat 26))⟩]
noncomputable def f105_r8 : List Stage := [⟨[⟨(some (K.ofNat 28)), none, .iadr 2 1 (.t (K.ofNat 7)) (.c (.i .i64 (.ofNat 0)))⟩, ⟨(some (K.ofNat 29)), none, .ld (.t (K.ofNat 28))⟩, ⟨(some (K.ofNat 30)), none, .iadr 2 1 (.t (K.ofNat 7)) (.c (.i .i64 (.ofNat 1)))⟩, ⟨(some (K.ofNat 31)), none, .ld (.t (K.ofNat 30))⟩, ⟨(some (K.ofNat 32)), none, .iadr 7 1 (.t (K.ofNat 5)) (.t (K.ofNat 29))⟩], [], (some ⟨none, none, .st 1 (.t (K.ofNat 32)) (.c (.b true))⟩), []⟩, ⟨[⟨(some (K.ofNat 33)), none, .iadr 7 1 (.t (K.ofNat 5)) (.t (K.ofNat 31))⟩], [⟨(some (K.ofNat 30)), none, .iadr 2 1 (.t (K.ofNat 7)) (.c (.i .i64 (.ofNat 1)))⟩, ⟨(some (K.ofNat 31)), none, .ld (.t (K.ofNat 30))⟩], (some ⟨none, none, .st 1 (.t (K.ofNat 33)) (.c (.b true))⟩), []⟩, ⟨[], [], none, []⟩]
noncomputable def f105_r9 : List EOper := [⟨(some (K.ofNat 34)), none, .bin .add (.t (K.ofNat 14)) (.c (.i .i64 (.ofNat 1)))⟩, ⟨(some (K.ofNat 14)), none, .mv (.t (K.ofNat 34))⟩]
noncomputable def f105_l0 : EC := (.seq (.reg f105_r5) (.seq (.cond (.t (K.ofNat 15)) .skip (.exit 2)) (.seq (.block 3 (.seq (.reg f105_r6) (.seq (.reg f105_r7) (.cond (.t (K.ofNat 27)) (.draw f105_r8) .skip)))) (.reg f105_r9))))
noncomputable def f105_r10 : List EOper := [⟨(some (K.ofNat 35)), none, .bin .add (.t (K.ofNat 10)) (.c (.i .i64 (.ofNat 1)))⟩, ⟨(some (K.ofNat 10)), none, .mv (.t (K.ofNat 35))⟩]
noncomputable def f105_l1 : EC := (.seq (.reg f105_r3) (.seq (.cond (.t (K.ofNat 11)) .skip (.exit 0)) (.seq (.block 1 (.seq (.reg f105_r4) (.block 2 (.loop f105_l0)))) (.reg f105_r10))))
noncomputable def f105_r11 : List EOper := [⟨(some (K.ofNat 36)), none, .mv (.t (K.ofNat 0))⟩, ⟨(some (K.ofNat 37)), none, .slcA 7 1 (.t (K.ofNat 5)) none (some (.t (K.ofNat 36)))⟩, ⟨(some (K.ofNat 38)), none, .call (.c (.fn (K.ofNat 131) [])) [(.t (K.ofNat 37)), (.c (.b false))]⟩, ⟨(some (K.ofNat 39)), none, .not (.t (K.ofNat 38))⟩, ⟨(some (K.ofNat 4)), none, .as (.t (K.ofNat 39))⟩]
noncomputable def f105_c : EC := (.seq (.reg f105_r0) (.seq (.reg f105_r1) (.seq (.seq (.reg f105_r2) (.block 0 (.loop f105_l1))) (.seq (.reg f105_r11) .ret))))
noncomputable def f105 : EF := ⟨40, [.tmp (K.ofNat 4)], f105_c, none⟩
theorem f105_rs : f105.rs = [.tmp (K.ofNat 4)] := of_eq_true (eq_self _)
noncomputable def f67_r0 : List EOper := [⟨(some (K.ofNat 4)), none, .as (.c (.b false))⟩]
noncomputable def f67_r1 : List EOper := [⟨(some (K.ofNat 12)), none, .mv (.t (K.ofNat 1))⟩, ⟨(some (K.ofNat 13)), none, .len (.t (K.ofNat 12))⟩, ⟨(some (K.ofNat 14)), none, .mv (.t (K.ofNat 0))⟩, ⟨(some (K.ofNat 15)), none, .bin .sub (.t (K.ofNat 14)) (.c (.i .i64 (.ofNat 1)))⟩, ⟨(some (K.ofNat 16)), none, .bin .neq (.t (K.ofNat 13)) (.t (K.ofNat 15))⟩, ⟨(some (K.ofNat 17)), none, .mv (.t (K.ofNat 16))⟩, ⟨(some (K.ofNat 18)), (some ((K.ofNat 17), false)), .mv (.t (K.ofNat 0))⟩, ⟨(some (K.ofNat 19)), (some ((K.ofNat 17), false)), .mv (.t (K.ofNat 1))⟩, ⟨(some (K.ofNat 20)), (some ((K.ofNat 17), false)), .call (.c (.fn (K.ofNat 105) [])) [(.t (K.ofNat 18)), (.t (K.ofNat 19))]⟩, ⟨(some (K.ofNat 21)), (some ((K.ofNat 17), false)), .not (.t (K.ofNat 20))⟩, ⟨(some (K.ofNat 22)), none, .pick (.t (K.ofNat 17)) (.c (.b true)) (.t (K.ofNat 21))⟩]
noncomputable def f67_r2 : List EOper := [⟨(some (K.ofNat 4)), none, .as (.c (.b false))⟩]
noncomputable def f67_r3 : List EOper := [⟨(some (K.ofNat 23)), none, .mv (.t (K.ofNat 1))⟩, ⟨(some (K.ofNat 24)), none, .call (.c (.fn (K.ofNat 106) [])) [(.t (K.ofNat 23))]⟩, ⟨(some (K.ofNat 5)), none, .alloc 7 [(.i .i64 (.ofNat 0)), (.i .i64 (.ofNat 0)), (.i .i64 (.ofNat 0)), (.i .i64 (.ofNat 0)), (.i .i64 (.ofNat 0)), (.i .i64 (.ofNat 0)), (.i .i64 (.ofNat 0))]⟩, ⟨none, none, .st 7 (.t (K.ofNat 5)) (.t (K.ofNat 24))⟩]
noncomputable def f67_r4 : List EOper := [⟨(some (K.ofNat 6)), none, .as (.c .sn)⟩]
noncomputable def f67_r5 : List EOper := [⟨(some (K.ofNat 25)), none, .mv (.t (K.ofNat 1))⟩, ⟨(some (K.ofNat 26)), none, .len (.t (K.ofNat 25))⟩, ⟨(some (K.ofNat 27)), none, .mv (.c (.i .i64 (.ofNat 0)))⟩]
noncomputable def f67_r6 : List EOper := [⟨(some (K.ofNat 28)), none, .bin .lss (.t (K.ofNat 27)) (.t (K.ofNat 26))⟩]
noncomputable def f67_r7 : List EOper := [⟨(some (K.ofNat 29)), none, .iads 2 (.t (K.ofNat 25)) (.t (K.ofNat 27))⟩, ⟨(some (K.ofNat 30)), none, .ldn 2 (.t (K.ofNat 29))⟩, ⟨(some (K.ofNat 8)), none, .alloc 2 [(.i .i64 (.ofNat 0)), (.i .i64 (.ofNat 0))]⟩, ⟨none, none, .st 2 (.t (K.ofNat 8)) (.t (K.ofNat 30))⟩]
noncomputable def f67_r8 : List EOper := [⟨(some (K.ofNat 31)), none, .iadr 2 1 (.t (K.ofNat 8)) (.c (.i .i64 (.ofNat 0)))⟩, ⟨(some (K.ofNat 32)), none, .ld (.t (K.ofNat 31))⟩, ⟨(some (K.ofNat 33)), none, .iadr 7 1 (.t (K.ofNat 5)) (.t (K.ofNat 32))⟩, ⟨(some (K.ofNat 34)), none, .ld (.t (K.ofNat 33))⟩, ⟨(some (K.ofNat 35)), none, .bin .gtr (.t (K.ofNat 34)) (.c (.i .i64 (.ofNat 1)))⟩, ⟨(some (K.ofNat 36)), none, .mv (.t (K.ofNat 35))⟩, ⟨(some (K.ofNat 37)), (some ((K.ofNat 36), true)), .iadr 2 1 (.t (K.ofNat 8)) (.c (.i .i64 (.ofNat 1)))⟩, ⟨(some (K.ofNat 38)), (some ((K.ofNat 36), true)), .ld (.t (K.ofNat 37))⟩, ⟨(some (K.ofNat 39)), (some ((K.ofNat 36), true)), .iadr 7 1 (.t (K.ofNat 5)) (.t (K.ofNat 38))⟩, ⟨(some (K.ofNat 40)), (some ((K.ofNat 36), true)), .ld (.t (K.ofNat 39))⟩, ⟨(some (K.ofNat 41)), (some ((K.ofNat 36), true)), .bin .gtr (.t (K.ofNat 40)) (.c (.i .i64 (.ofNat 1)))⟩, ⟨(some (K.ofNat 42)), none, .pick (.t (K.ofNat 36)) (.t (K.ofNat 41)) (.c (.b false))⟩]
noncomputable def f67_r9 : List EOper := [⟨(some (K.ofNat 43)), none, .mv (.t (K.ofNat 6))⟩, ⟨(some (K.ofNat 44)), none, .ldn 2 (.t (K.ofNat 8))⟩, ⟨(some (K.ofNat 45)), none, .bslice 1 2 [(.i .i64 (.ofNat 0)), (.i .i64 (.ofNat 0))] [(0, 2, (.t (K.ofNat 44)))]⟩, ⟨(some (K.ofNat 46)), none, .app 2 (.t (K.ofNat 43)) (.t (K.ofNat 45))⟩, ⟨(some (K.ofNat 6)), none, .as (.t (K.ofNat 46))⟩]
noncomputable def f67_r10 : List EOper := [⟨(some (K.ofNat 47)), none, .bin .add (.t (K.ofNat 27)) (.c (.i .i64 (.ofNat 1)))⟩, ⟨(some (K.ofNat 27)), none, .mv (.t (K.ofNat 47))⟩]
noncomputable def f67_l0 : EC := (.seq (.reg f67_r6) (.seq (.cond (.t (K.ofNat 28)) .skip (.exit 0)) (.seq (.block 1 (.seq (.reg f67_r7) (.seq (.reg f67_r8) (.cond (.t (K.ofNat 42)) (.reg f67_r9) .skip)))) (.reg f67_r10))))
noncomputable def f67_r11 : List EOper := [⟨(some (K.ofNat 48)), none, .mv (.t (K.ofNat 6))⟩, ⟨(some (K.ofNat 49)), none, .call (.c (.fn (K.ofNat 106) [])) [(.t (K.ofNat 48))]⟩, ⟨(some (K.ofNat 9)), none, .alloc 7 [(.i .i64 (.ofNat 0)), (.i .i64 (.ofNat 0)), (.i .i64 (.ofNat 0)), (.i .i64 (.ofNat 0)), (.i .i64 (.ofNat 0)), (.i .i64 (.ofNat 0)), (.i .i64 (.ofNat 0))]⟩, ⟨none, none, .st 7 (.t (K.ofNat 9)) (.t (K.ofNat 49))⟩]
noncomputable def f67_r12 : List EOper := [⟨(some (K.ofNat 51)), none, .slcA 7 1 (.t (K.ofNat 9)) none none⟩, ⟨(some (K.ofNat 52)), none, .call (.c (.fn (K.ofNat 102) [])) [(.c (.i .i64 (.ofNat 0))), (.t (K.ofNat 51))]⟩, ⟨(some (K.ofNat 50)), none, .mv (.t (K.ofNat 52))⟩, ⟨(some (K.ofNat 53)), none, .ext (.t (K.ofNat 50)) 0⟩, ⟨(some (K.ofNat 54)), none, .ext (.t (K.ofNat 50)) 1⟩, ⟨(some (K.ofNat 10)), none, .as (.t (K.ofNat 53))⟩, ⟨(some (K.ofNat 11)), none, .as (.t (K.ofNat 54))⟩]
noncomputable def f67_r13 : List EOper := [⟨(some (K.ofNat 55)), none, .mv (.t (K.ofNat 11))⟩, ⟨(some (K.ofNat 56)), none, .bin .leq (.t (K.ofNat 55)) (.c (.i .i64 (.ofNat 2)))⟩, ⟨(some (K.ofNat 4)), none, .as (.t (K.ofNat 56))⟩]
noncomputable def f67_c : EC := (.seq (.reg f67_r0) (.seq (.seq (.reg f67_r1) (.cond (.t (K.ofNat 22)) (.seq (.reg f67_r2) .ret) .skip)) (.seq (.reg f67_r3) (.seq (.reg f67_r4) (.seq (.seq (.reg f67_r5) (.block 0 (.loop f67_l0))) (.seq (.reg f67_r11) (.seq (.reg f67_r12) (.seq (.reg f67_r13) .ret))))))))
noncomputable def f67 : EF := ⟨57, [.tmp (K.ofNat 4)], f67_c, none⟩
theorem f67_rs : f67.rs = [.tmp (K.ofNat 4)] := of_eq_true (eq_self _)
section
variable {fs : T EF} {h : H}
def f148_I (h : H) (v : V) (L : List Bool) (x : Bool) (i : Nat) (fr : Fr) (h1 : H) : Prop := h1 = h ∧ i ≤ L.length ∧ (∀ j (hj : j < L.length), j < i → L[j] ≠ x) ∧ fr.get (K.ofNat 0) = some (v) ∧ fr.get (K.ofNat 1) = some (.b x) ∧ fr.get (K.ofNat 6) = some (v) ∧ fr.get (K.ofNat 7) = some (.i .i64 (L.length : Int)) ∧ fr.get (K.ofNat 8) = some (.i .i64 (i : Int))
theorem f148_ret {v : V} {L : List Bool} {x : Bool} (hv : Sr V.b h v L) (hL : L.length ≤ 1000000) : Ret fs f148 [v, .b x] h fun r h' => h' = h ∧ ∃ k : Int, r = .i .i64 k ∧ (0 ≤ k ↔ x ∈ L) := by
  have kb : ∀ a b, keyEq (.one none) (.b a) (.b b) = some (a == b) := fun _ _ => rfl
  apply ret_of rfl
  show W fs none f148_c _ _ _
  unfold f148_c
  simp (disch := omega) only [f148_r0, f148_r1, w_reg, w_seq, w_block, seqK_n, x_nil, x_mv, x_as, x_len, kx, rvP_ok, ev_t, ev_c, getV_some, putD_some, frame_2, of0, getK_set, Nat.reduceEqDiff, ↓reduceIte, hv.len]
  refine W_loop (f148_I h v L x) (fun i => L.length - i) ?_ 0 ⟨rfl, by omega, fun j _ h => by omega, by simp (disch := omega) only [getK_set, Nat.reduceEqDiff, ↓reduceIte, and_self, Int.natCast_zero]⟩
  rintro i fr h1 ⟨rfl, hi, hh, g0, g1, g6, g7, g8⟩
  unfold f148_l0
  by_cases hlt : i < L.length
  · have d0 : decide ((i : Int) < (L.length : Int)) = true := by simpa using hlt
    obtain ⟨p, hp1, hp2⟩ := hv.at i hlt
    by_cases e1 : x = L[i]
    · have d1 : (x == L[i]) = true := by simpa using e1
      simp (disch := omega) only [f148_r2, f148_r3, f148_r4, f148_r5, f148_rs, w_skip, w_reg, w_seq, w_cond, w_block, w_ret, seqK_n, seqK_r, atK_r, loopK_r, ckB_b, cbB_b, true_and, retK_r, x_nil, x_mv, x_as, x_ld, x_bin, x_eqk, x_iads, kx, rvP_ok, okv_some, ev_t, getV_some, putD_some, bin_lss, oGet_s, readRs_nil, readRs_t, retV_1, Option.some.injEq, exists_eq_left', getK_set, Nat.reduceEqDiff, ↓reduceIte, g0, g1, g7, g8, d0, hp1, hp2, kb, d1, cond_false, true_and]
      exact ⟨_, rfl, by rw [e1]; simp⟩
    · have d1 : (x == L[i]) = false := by simpa using e1
      simp (disch := omega) only [f148_r2, f148_r3, f148_r4, f148_r6, w_skip, w_reg, w_seq, w_cond, w_block, seqK_n, atK_n, loopK_n, ckB_b, cbB_b, true_and, x_nil, x_mv, x_as, x_ld, x_bin, x_eqk, x_iads, kx, rvP_ok, okv_some, ev_t, ev_c, getV_some, putD_some, bin_add, bin_lss, oGet_s, of1, getK_set, Nat.reduceEqDiff, ↓reduceIte, Bool.false_eq_true, g0, g1, g7, g8, d0, hp1, hp2, kb, d1, cond_false, fw64]
      refine ⟨i + 1, by omega, rfl, by omega, fun j hj hji => ?_, by simp (disch := omega) only [getK_set, Nat.reduceEqDiff, ↓reduceIte, g0, g1, g6, g7, and_self, Int.natCast_add, Int.natCast_one]⟩
      by_cases e : j = i
      · subst e; exact fun e => e1 e.symm
      · exact hh j hj (by omega)
  · have d0 : decide ((i : Int) < (L.length : Int)) = false := by simpa using hlt
    simp (disch := omega) only [f148_r2, f148_r7, f148_rs, w_reg, w_seq, w_cond, w_exit, w_ret, seqK_n, seqK_e, atK_e, loopK_e, ckB_b, cbB_b, true_and, retK_r, x_nil, x_as, x_bin, kx, rvP_ok, okv_some, ev_t, ev_c, getV_some, putD_some, bin_lss, oGet_s, readRs_nil, readRs_t, retV_1, Option.some.injEq, exists_eq_left', getK_set, ↓reduceIte, Bool.false_eq_true, g7, g8, d0, true_and]
    refine ⟨_, rfl, ?_⟩
    constructor
    · intro h; exact absurd h (by decide)
    · intro h
      obtain ⟨j, hj, e⟩ := List.getElem_of_mem h
      exact absurd e (hh j hj (by omega))
theorem f131_ret {v : V} {L : List Bool} {x : Bool} (h148 : fs.get (K.ofNat 148) = some f148) (hv : Sr V.b h v L) (hL : L.length ≤ 1000000) : Ret fs f131 [v, .b x] h fun r h' => r = .b (decide (x ∈ L)) ∧ h' = h := by
  apply ret_of rfl
  show W fs none f131_c _ _ _
  unfold f131_c
  simp (disch := omega) only [f131_r0, f131_r1, w_reg, w_seq, seqK_n, x_nil, x_mv, x_as, x_call, ev_t, ev_c, evs_nil, evs_cons, getV_some, putD_some, frame_2, of0, getK_set, Nat.reduceEqDiff, ↓reduceIte]
  refine (callP_0 (ef := f148) h148 rfl (f148_ret (x := x) hv hL)).mono ?_
  rintro r h1 ⟨rfl, k, rfl, hk⟩
  have d : decide (k ≥ 0) = decide (x ∈ L) := by rw [decide_eq_decide]; exact hk
  simp (disch := omega) only [f131_rs, w_ret, seqK_n, retK_r, x_nil, x_as, x_bin, kx, rvP_ok, okv_some, ev_t, ev_c, getV_some, putD_some, bin_geq, oGet_s, readRs_nil, readRs_t, retV_1, Option.some.injEq, exists_eq_left', getK_set, ↓reduceIte, d, and_self]
/-! ### Seven cells -/
theorem st7 {id : K} {cs0 cs : List V} (hb : h.get id = .cells 7 cs0) (h0 : cs0.length = 7) (h1 : cs.length = 7) : storeV h 7 (.p id 0) (.agg cs) = .ok undefV (h.put id (.cells 7 cs)) := by
  have hc : cellsN 7 (.agg cs) = some cs := by
    show (bif Nat.beq (lenL cs) 7 then some cs else none) = _
    rw [lenL_eq, h1]; rfl
  rw [store_p hb hc (by omega), setMany_eq _ _ _ (by omega)]
  congr 3
  simp [h0, h1]
theorem readP7 {id : K} {cs : List V} (hb : h.get id = .cells 7 cs) (h1 : cs.length = 7) : readP h (.p id 0) (many? 7) = some (.agg cs) := by
  show (h.get id).onC none _ = _
  rw [hb]
  show some (V.agg (takeN 7 (dropN 0 cs))) = _
  rw [takeN_eq, dropN_eq, List.drop_zero, List.take_of_length_le (by omega)]
theorem slcA_7 {fr : Fr} {id : K} {cs : List V} (hb : h.get id = .cells 7 cs) : slcAV fr 7 1 (.p id 0) none none h = .ok (.sl id 0 7 1) h := by
  show (h.get id).onC RV.no _ = _
  rw [hb]; rfl
theorem Ar.sr {α : Type} {e : α → V} {id : K} {L : List α} (ha : Ar e h id L) {n : Nat} (hn : n ≤ L.length) : Sr e h (.sl id 0 n 1) (L.take n) :=
  .inr ⟨id, 0, L.length, L.map e, by simp; omega, .inl ha, by simp, by simp; omega, fun i hi => by
    have hi' : i < L.length := by simp at hi; omega
    rw [Nat.zero_add, List.getElem?_map, List.getElem?_eq_getElem hi', List.getElem_take]; rfl⟩
def In7 (F : List (Int × Int)) : Prop := F.length ≤ 100 ∧ ∀ e ∈ F, 0 ≤ e.1 ∧ e.1 < e.2 ∧ e.2 < 7
/-! ### Degrees -/
def f106_I (h : H) (v : V) (F : List (Int × Int)) (id3 : K) (j : Nat) (fr : Fr) (h1 : H) : Prop := j ≤ F.length ∧ Grow h.nx.nat h h1 ∧ h1.get h.nx = .cells 7 ((List.replicate 7 (0 : Int)).map iE) ∧ Ar iE h1 id3 (dgL 7 (F.take j)) ∧ fr.get (K.ofNat 2) = some (.p h.nx 0) ∧ fr.get (K.ofNat 3) = some (.p id3 0) ∧ fr.get (K.ofNat 6) = some (v) ∧ fr.get (K.ofNat 7) = some (.i .i64 (F.length : Int)) ∧ fr.get (K.ofNat 8) = some (.i .i64 (j : Int))
theorem f106_ret {v : V} {F : List (Int × Int)} (hv : Srp h v F) (hc : HC h) (hF : In7 F) : Ret fs f106 [v] h fun r h' => r = .agg ((dgL 7 F).map iE) ∧ Grow h.nx.nat h h' := by
  apply ret_of rfl
  show W fs none f106_c _ _ _
  unfold f106_c
  have h0 : ([.i .i64 0, .i .i64 0, .i .i64 0, .i .i64 0, .i .i64 0, .i .i64 0, .i .i64 0] : List V) = (List.replicate 7 (0 : Int)).map iE := rfl
  have n1 := nx_new h (.cells 7 ((List.replicate 7 (0 : Int)).map iE))
  have n2 := nx_new (h.new (.cells 7 ((List.replicate 7 (0 : Int)).map iE))) (.cells 7 ((List.replicate 7 (0 : Int)).map iE))
  have e1 : ((h.new (.cells 7 ((List.replicate 7 (0 : Int)).map iE))).new (.cells 7 ((List.replicate 7 (0 : Int)).map iE))).get h.nx = .cells 7 ((List.replicate 7 (0 : Int)).map iE) := by rw [get_new_old (by omega), get_new_same]
  have e2 : Ar iE ((h.new (.cells 7 ((List.replicate 7 (0 : Int)).map iE))).new (.cells 7 ((List.replicate 7 (0 : Int)).map iE))) (h.new (.cells 7 ((List.replicate 7 (0 : Int)).map iE))).nx (dgL 7 (F.take 0)) := get_new_same
  have gA : Grow h.nx.nat h ((h.new (.cells 7 ((List.replicate 7 (0 : Int)).map iE))).new (.cells 7 ((List.replicate 7 (0 : Int)).map iE))) := (Grow.new (Nat.le_refl _) _).trans (Grow.new (by omega) _)
  simp (disch := omega) only [f106_r0, f106_r1, f106_r2, w_reg, w_seq, w_block, seqK_n, x_nil, x_mv, x_alloc, x_len, kx, rvP_ok, ev_t, ev_c, getV_some, putD_some, frame_1, of0, getK_set, Nat.reduceEqDiff, ↓reduceIte, h0, hv.len]
  have hid3 : h.nx.nat < (h.new (.cells 7 ((List.replicate 7 (0 : Int)).map iE))).nx.nat := by omega
  generalize (h.new (.cells 7 ((List.replicate 7 (0 : Int)).map iE))).nx = id3 at *
  generalize (h.new _).new _ = h2 at *
  refine W_loop (f106_I h v F id3) (fun j => F.length - j) ?_ 0 ⟨by omega, gA, e1, e2, by simp (disch := omega) only [getK_set, Nat.reduceEqDiff, ↓reduceIte, and_self, Int.natCast_zero]⟩
  clear e1 e2 gA n1 n2 h2
  rintro j fr h1 ⟨hj, hG, hr, hA, g2, g3, g6, g7, g8⟩
  have hc1 := hG.hc hc
  have hv1 := hv.grow hc hG
  have hl3 : id3.nat < h1.nx.nat := hc1.cells hA
  unfold f106_l0
  by_cases hlt : j < F.length
  · have d0 : decide ((j : Int) < (F.length : Int)) = true := by simpa using hlt
    obtain ⟨ida, q, hp1, hp2, _, _⟩ := hv1.at2 hlt
    obtain ⟨b0, b1, b2⟩ := hF.2 F[j] (List.getElem_mem hlt)
    obtain ⟨a, ea⟩ : ∃ a : Nat, F[j].1 = (a : Int) := ⟨F[j].1.toNat, by omega⟩
    obtain ⟨b, eb⟩ : ∃ b : Nat, F[j].2 = (b : Int) := ⟨F[j].2.toNat, by omega⟩
    have ha : a < 7 := by omega
    have hb : b < 7 := by omega
    have hstep := dgL_step (m := 7) (a := a) (b := b) (E := F.take j) ha hb (by omega)
    have heq : ((a : Int), (b : Int)) = F[j] := by rw [← ea, ← eb]
    rw [heq, ← List.take_succ_eq_append_getElem hlt] at hstep
    have hst2 : storeV (h1.new (.cells 2 zz)) 2 (.p h1.nx 0) (.agg [.i .i64 F[j].1, .i .i64 F[j].2]) = .ok undefV ((h1.new (.cells 2 zz)).put h1.nx (.cells 2 [.i .i64 F[j].1, .i .i64 F[j].2])) := st2 (a := .i .i64 (.ofNat 0)) (b := .i .i64 (.ofNat 0)) get_new_same
    have nx1 := nx_new h1 (.cells 2 zz)
    have gB : Grow h1.nx.nat h1 ((h1.new (.cells 2 zz)).put h1.nx (.cells 2 [.i .i64 F[j].1, .i .i64 F[j].2])) := (Grow.new (Nat.le_refl _) _).trans (Grow.put (Nat.le_refl _) (by omega) _)
    have c5 : ((h1.new (.cells 2 zz)).put h1.nx (.cells 2 [.i .i64 F[j].1, .i .i64 F[j].2])).get h1.nx = .cells 2 [.i .i64 F[j].1, .i .i64 F[j].2] := get_put_same
    have hzz : ([.i .i64 0, .i .i64 0] : List V) = zz := rfl
    generalize (h1.new (.cells 2 zz)).put h1.nx (.cells 2 [.i .i64 F[j].1, .i .i64 F[j].2]) = h3 at *
    have hA3 := hA.same (gB.old _ hl3)
    have hr3 : h3.get h.nx = _ := (gB.old _ (by omega)).trans hr
    have l0 : loadV h3 (.p h1.nx (0 + 0 * 1)) one? = .ok (.i .i64 F[j].1) h3 := load_p c5 rfl
    have ix7 : ∀ (k : Nat) (f : Nat → RV), k < 7 → idxV (.i .i64 (k : Int)) 7 f = f k := fun k f hk => idx_n hk
    have ixa : ∀ f : Nat → RV, idxV (.i .i64 (a : Int)) 7 f = f a := fun f => ix7 a f ha
    have ixb : ∀ f : Nat → RV, idxV (.i .i64 (b : Int)) 7 f = f b := fun f => ix7 b f hb
    have hla : a < (dgL 7 (F.take j)).length := by rw [dgL_len]; exact ha
    have ld1 := hA3.ld hla
    rw [dgL_at] at ld1
    have hna := dgE_nn (E := F.take j) (v := a)
    have hnb := dgE_nn (E := F.take j) (v := b)
    have hF1 := hF.1
    have hlt100 : (F.take j).length ≤ 100 := by simp; omega
    obtain ⟨sa1, sa2⟩ := hA3.st hla (x := dgE (F.take j) a + 1) (c := .i .i64 (dgE (F.take j) a + 1)) rfl rfl
    rw [dgL_len] at sa1 sa2
    have gC : Grow h.nx.nat h3 (h3.put id3 (.cells 7 (((dgL 7 (F.take j)).set a (dgE (F.take j) a + 1)).map iE))) := Grow.put (by omega) (by have := gB.nx; omega) _
    have hr4 : (h3.put id3 (.cells 7 (((dgL 7 (F.take j)).set a (dgE (F.take j) a + 1)).map iE))).get h.nx = _ := (get_put_other (kNe hid3)).trans hr3
    have c54 : (h3.put id3 (.cells 7 (((dgL 7 (F.take j)).set a (dgE (F.take j) a + 1)).map iE))).get h1.nx = .cells 2 [.i .i64 F[j].1, .i .i64 F[j].2] := by rw [get_put_other (kNe hl3).symm]; exact c5
    have hl34 : id3.nat < (h3.put id3 (.cells 7 (((dgL 7 (F.take j)).set a (dgE (F.take j) a + 1)).map iE))).nx.nat := by show id3.nat < h3.nx.nat; have := gB.nx; omega
    generalize h3.put id3 (.cells 7 (((dgL 7 (F.take j)).set a (dgE (F.take j) a + 1)).map iE)) = h4 at *
    have l1 : loadV h4 (.p h1.nx (0 + 1 * 1)) one? = .ok (.i .i64 F[j].2) h4 := load_p c54 rfl
    have hlb : b < ((dgL 7 (F.take j)).set a (dgE (F.take j) a + 1)).length := by rw [List.length_set, dgL_len]; exact hb
    have hgb : ((dgL 7 (F.take j)).set a (dgE (F.take j) a + 1))[b] = dgE (F.take j) b := by
      rw [List.getElem_set, if_neg (by omega), dgL_at]
    have ld2 := sa2.ld hlb
    rw [hgb] at ld2
    obtain ⟨sb1, sb2⟩ := sa2.st hlb (x := dgE (F.take j) b + 1) (c := .i .i64 (dgE (F.take j) b + 1)) rfl rfl
    rw [List.length_set, dgL_len, ← hstep] at sb1 sb2
    rw [ea] at l0
    rw [eb] at l1
    rw [ea, eb] at hst2 hp2
    simp (disch := omega) only [f106_r3, f106_r4, f106_r5, w_skip, w_reg, w_seq, w_cond, w_block, seqK_n, ckB_b, cbB_b, true_and, x_nil, x_alloc, x_ld, x_ldn, x_st, x_bin, x_iadr, x_iads, kx, rvP_ok, okv_some, ev_t, ev_c, getV_some, putD_some, putD_none, bin_add, bin_lss, onP_p, of0, of1, getK_set, Nat.reduceEqDiff, ↓reduceIte, ix2_0, g3, g6, g7, g8, d0, hp1, hp2, hzz, hst2, l0, ixa, ld1, iE, sa1, fw64]
    simp (disch := omega) only [f106_r6, f106_r7, w_reg, seqK_n, atK_n, loopK_n, x_nil, x_mv, x_ld, x_st, x_bin, x_iadr, kx, rvP_ok, okv_some, ev_t, ev_c, getV_some, putD_some, putD_none, bin_add, onP_p, of1, getK_set, Nat.reduceEqDiff, ↓reduceIte, ix2_1, g3, g8, l1, ixb, ld2, iE, sb1, fw64]
    refine ⟨j + 1, by omega, by omega, (hG.trans (gB.low hG.nx)).trans (gC.trans (Grow.put (by omega) hl34 _)), ?_, sb2, by simp (disch := omega) only [getK_set, Nat.reduceEqDiff, ↓reduceIte, g2, g3, g6, g7, and_self, Int.natCast_add, Int.natCast_one]⟩
    rw [get_put_other (kNe hid3)]; exact hr4
  · have d0 : decide ((j : Int) < (F.length : Int)) = false := by simpa using hlt
    have ej : j = F.length := by omega
    rw [ej, List.take_length] at hA
    have ldn := hA.ldn (n := 7) (by rw [dgL_len])
    have hs := st7 (cs := (dgL 7 F).map iE) hr (by simp) (by rw [List.length_map, dgL_len])
    have hrd : readP (h1.put h.nx (.cells 7 ((dgL 7 F).map iE))) (.p h.nx 0) (many? 7) = some (.agg ((dgL 7 F).map iE)) := readP7 get_put_same (by rw [List.length_map, dgL_len])
    simp (disch := omega) only [f106_r3, f106_r8, f106_rs, w_reg, w_seq, w_cond, w_exit, w_ret, seqK_n, seqK_e, atK_e, loopK_e, ckB_b, cbB_b, true_and, retK_r, x_nil, x_ldn, x_st, x_bin, kx, rvP_ok, okv_some, ev_t, getV_some, putD_some, putD_none, bin_lss, oGet_s, readRs_nil, readRs_n, retV_1, Option.some.injEq, exists_eq_left', getK_set, Nat.reduceEqDiff, ↓reduceIte, Bool.false_eq_true, g2, g3, g7, g8, d0, ldn, hs, hrd, true_and]
    exact hG.trans (Grow.put (Nat.le_refl _) (by omega) _)
end
end Go.Ev
namespace Go.Ev
open Go Go.RowKit
/-- A node that is connected to what is marked is marked. -/
def mk1 (A : List Bool) (e : Int × Int) : List Bool := if (A.getD e.1.toNat false || A.getD e.2.toNat false) = true then (A.set e.1.toNat true).set e.2.toNat true else A
def mkR (E : List (Int × Int)) (A : List Bool) : List Bool := E.foldl mk1 A
def mkN (E : List (Int × Int)) (A : List Bool) : Nat → List Bool
  | 0 => A
  | t + 1 => mkR E (mkN E A t)
def one7 : List Bool := true :: List.replicate 6 false
def conB (n : Nat) (E : List (Int × Int)) : Bool := !decide (false ∈ (mkN E one7 n).take n)
theorem mk1_len {A : List Bool} {e : Int × Int} : (mk1 A e).length = A.length := by unfold mk1; split <;> simp
theorem mkR_len : ∀ {E : List (Int × Int)} {A : List Bool}, (mkR E A).length = A.length
  | [], A => rfl
  | e :: E, A => by show (mkR E (mk1 A e)).length = _; rw [mkR_len, mk1_len]
theorem mkN_len {E : List (Int × Int)} {A : List Bool} : ∀ {t : Nat}, (mkN E A t).length = A.length
  | 0 => rfl
  | t + 1 => by show (mkR E _).length = _; rw [mkR_len, mkN_len]
/-- The edges between nodes with more than one edge. -/
def inP (E : List (Int × Int)) (e : Int × Int) : Bool := decide (dgE E e.1.toNat > 1) && decide (dgE E e.2.toNat > 1)
def inE' (E F : List (Int × Int)) : List (Int × Int) := F.filter (inP E)
theorem inE'_snoc {E : List (Int × Int)} {j : Nat} (hj : j < E.length) : inE' E (E.take (j + 1)) = if inP E E[j] = true then inE' E (E.take j) ++ [E[j]] else inE' E (E.take j) := by
  unfold inE'
  rw [List.take_succ_eq_append_getElem hj, List.filter_append]
  cases h : inP E E[j] <;> simp [h]
def inE (E : List (Int × Int)) : List (Int × Int) := inE' E E
def catB (n : Nat) (E : List (Int × Int)) : Bool := decide (E.length + 1 = n) && (conB n E && decide (maxL 0 (dgL 7 (inE E)) ≤ 2))
section
variable {fs : T EF} {h : H} {v : V} {n : Nat} {E : List (Int × Int)}
theorem build7 {fr : Fr} : fillE fr [.b false, .b false, .b false, .b false, .b false, .b false, .b false] [(0, 1, .c (.b true))] = some (one7.map V.b) := of_eq_true (eq_self _)
def f105_I (h : H) (n : Nat) (v : V) (E : List (Int × Int)) (t : Nat) (fr : Fr) (h1 : H) : Prop := t ≤ n ∧ Grow h.nx.nat h h1 ∧ h.nx.nat < h1.nx.nat ∧ Ar V.b h1 h.nx (mkN E one7 t) ∧ fr.get (K.ofNat 0) = some (.i .i64 (n : Int)) ∧ fr.get (K.ofNat 1) = some (v) ∧ fr.get (K.ofNat 5) = some (.p h.nx 0) ∧ fr.get (K.ofNat 9) = some (.i .i64 (n : Int)) ∧ fr.get (K.ofNat 10) = some (.i .i64 (t : Int))
def f105_J (h : H) (n : Nat) (v : V) (E : List (Int × Int)) (t : Nat) (j : Nat) (fr : Fr) (h1 : H) : Prop := j ≤ E.length ∧ Grow h.nx.nat h h1 ∧ h.nx.nat < h1.nx.nat ∧ Ar V.b h1 h.nx (mkR (E.take j) (mkN E one7 t)) ∧ fr.get (K.ofNat 0) = some (.i .i64 (n : Int)) ∧ fr.get (K.ofNat 1) = some (v) ∧ fr.get (K.ofNat 5) = some (.p h.nx 0) ∧ fr.get (K.ofNat 9) = some (.i .i64 (n : Int)) ∧ fr.get (K.ofNat 10) = some (.i .i64 (t : Int)) ∧ fr.get (K.ofNat 12) = some (v) ∧ fr.get (K.ofNat 13) = some (.i .i64 (E.length : Int)) ∧ fr.get (K.ofNat 14) = some (.i .i64 (j : Int))
theorem f105_ret (h131 : fs.get (K.ofNat 131) = some f131) (h148 : fs.get (K.ofNat 148) = some f148) (hv : Srp h v E) (hc : HC h) (hE : EdgesOk n E) : Ret fs f105 [.i .i64 (n : Int), v] h fun r h' => r = .b (conB n E) ∧ Grow h.nx.nat h h' := by
  have hE10 := hE.1
  have hn7 := hE.2.1
  apply ret_of rfl
  show W fs none f105_c _ _ _
  unfold f105_c
  have n1 := nx_new h (.cells 7 [.b false, .b false, .b false, .b false, .b false, .b false, .b false])
  have s1 := st7 (h := h.new (.cells 7 [.b false, .b false, .b false, .b false, .b false, .b false, .b false])) (id := h.nx) (cs := one7.map V.b) get_new_same rfl rfl
  have e1 : Ar V.b ((h.new (.cells 7 [.b false, .b false, .b false, .b false, .b false, .b false, .b false])).put h.nx (.cells 7 (one7.map V.b))) h.nx (mkN E one7 0) := get_put_same
  have gA : Grow h.nx.nat h ((h.new (.cells 7 [.b false, .b false, .b false, .b false, .b false, .b false, .b false])).put h.nx (.cells 7 (one7.map V.b))) := (Grow.new (Nat.le_refl _) _).trans (Grow.put (Nat.le_refl _) (by omega) _)
  simp (disch := omega) only [f105_r0, f105_r1, f105_r2, w_reg, w_seq, w_block, seqK_n, x_nil, x_mv, x_as, x_alloc, x_build, x_st, kx, rvP_ok, ev_t, ev_c, getV_some, putD_some, putD_none, oGet_s, frame_2, of0, getK_set, Nat.reduceEqDiff, ↓reduceIte, build7, s1]
  have n2 : h.nx.nat < ((h.new (.cells 7 [.b false, .b false, .b false, .b false, .b false, .b false, .b false])).put h.nx (.cells 7 (one7.map V.b))).nx.nat := by show _ < (h.new (.cells 7 [.b false, .b false, .b false, .b false, .b false, .b false, .b false])).nx.nat; omega
  generalize (h.new (.cells 7 [.b false, .b false, .b false, .b false, .b false, .b false, .b false])).put h.nx (.cells 7 (one7.map V.b)) = h2 at *
  refine W_loop (f105_I h n v E) (fun t => n - t) ?_ 0 ⟨by omega, gA, n2, e1, by simp (disch := omega) only [getK_set, Nat.reduceEqDiff, ↓reduceIte, and_self, Int.natCast_zero]⟩
  clear e1 gA n1 n2 s1 h2
  rintro t fr h1 ⟨ht, hG, hnx, hA, g0, g1, g5, g9, g10⟩
  have hv1 := hv.grow hc hG
  unfold f105_l1
  by_cases hlt : t < n
  · have d0 : decide ((t : Int) < (n : Int)) = true := by simpa using hlt
    simp (disch := omega) only [f105_r3, f105_r4, w_skip, w_reg, w_seq, w_cond, w_block, seqK_n, ckB_b, cbB_b, true_and, x_nil, x_mv, x_bin, x_len, kx, rvP_ok, okv_some, ev_t, ev_c, getV_some, putD_some, bin_lss, of0, getK_set, Nat.reduceEqDiff, ↓reduceIte, g1, g9, g10, d0, hv1.len]
    refine W_loop (f105_J h n v E t) (fun j => E.length - j) ?_ 0 ⟨by omega, hG, hnx, hA, by simp (disch := omega) only [getK_set, Nat.reduceEqDiff, ↓reduceIte, g0, g1, g5, g9, g10, and_self, Int.natCast_zero]⟩
    clear hG hnx hA g0 g1 g5 g9 g10 fr hv1
    rintro j fr h1 ⟨hj, hG, hnx, hA, g0, g1, g5, g9, g10, g12, g13, g14⟩
    have hc1 := hG.hc hc
    have hv1 := hv.grow hc hG
    unfold f105_l0
    by_cases hlt2 : j < E.length
    · have d1 : decide ((j : Int) < (E.length : Int)) = true := by simpa using hlt2
      obtain ⟨ida, q, hp1, hp2, _, _⟩ := hv1.at2 hlt2
      obtain ⟨b0, b1, b2⟩ := hE.2.2 E[j] (List.getElem_mem hlt2)
      have hsn : mkR (E.take (j + 1)) (mkN E one7 t) = mk1 (mkR (E.take j) (mkN E one7 t)) E[j] := by
        unfold mkR; rw [List.take_succ_eq_append_getElem hlt2, List.foldl_append]; rfl
      have hlA : (mkR (E.take j) (mkN E one7 t)).length = 7 := by rw [mkR_len, mkN_len]; rfl
      generalize mkR (E.take j) (mkN E one7 t) = A at *
      obtain ⟨a, ea⟩ : ∃ a : Nat, E[j].1 = (a : Int) := ⟨E[j].1.toNat, by omega⟩
      obtain ⟨b, eb⟩ : ∃ b : Nat, E[j].2 = (b : Int) := ⟨E[j].2.toNat, by omega⟩
      have ha : a < 7 := by omega
      have hb : b < 7 := by omega
      have hmk : mk1 A E[j] = if (A[a] || A[b]) = true then (A.set a true).set b true else A := by
        unfold mk1
        rw [ea, eb]
        simp only [Int.toNat_natCast, List.getD_eq_getElem?_getD, List.getElem?_eq_getElem (show a < A.length by omega), List.getElem?_eq_getElem (show b < A.length by omega), Option.getD_some]
      have hst2 : storeV (h1.new (.cells 2 zz)) 2 (.p h1.nx 0) (.agg [.i .i64 E[j].1, .i .i64 E[j].2]) = .ok undefV ((h1.new (.cells 2 zz)).put h1.nx (.cells 2 [.i .i64 E[j].1, .i .i64 E[j].2])) := st2 (a := .i .i64 (.ofNat 0)) (b := .i .i64 (.ofNat 0)) get_new_same
      have nx1 := nx_new h1 (.cells 2 zz)
      have gB : Grow h1.nx.nat h1 ((h1.new (.cells 2 zz)).put h1.nx (.cells 2 [.i .i64 E[j].1, .i .i64 E[j].2])) := (Grow.new (Nat.le_refl _) _).trans (Grow.put (Nat.le_refl _) (by omega) _)
      have c7 : ((h1.new (.cells 2 zz)).put h1.nx (.cells 2 [.i .i64 E[j].1, .i .i64 E[j].2])).get h1.nx = .cells 2 [.i .i64 E[j].1, .i .i64 E[j].2] := get_put_same
      have hzz : ([.i .i64 0, .i .i64 0] : List V) = zz := rfl
      generalize (h1.new (.cells 2 zz)).put h1.nx (.cells 2 [.i .i64 E[j].1, .i .i64 E[j].2]) = h3 at *
      have hG3 := hG.trans (gB.low hG.nx)
      have hA3 := hA.same (gB.old _ hnx)
      have hnx3 : h.nx.nat < h3.nx.nat := by have := gB.nx; omega
      have l0 : loadV h3 (.p h1.nx (0 + 0 * 1)) one? = .ok (.i .i64 E[j].1) h3 := load_p c7 rfl
      have l1 : loadV h3 (.p h1.nx (0 + 1 * 1)) one? = .ok (.i .i64 E[j].2) h3 := load_p c7 rfl
      rw [ea] at l0
      rw [eb] at l1
      rw [ea, eb] at hst2 hp2
      have ixa : ∀ f : Nat → RV, idxV (.i .i64 (a : Int)) 7 f = f a := fun f => idx_n ha
      have ixb : ∀ f : Nat → RV, idxV (.i .i64 (b : Int)) 7 f = f b := fun f => idx_n hb
      have ld1 := hA3.ld (i := a) (by omega)
      have ld2 := hA3.ld (i := b) (by omega)
      obtain ⟨sa1, sa2⟩ := hA3.st (i := a) (by omega) (x := true) (c := .b true) rfl rfl
      rw [hlA] at sa1 sa2
      have c74 : (h3.put h.nx (.cells 7 ((A.set a true).map V.b))).get h1.nx = .cells 2 [.i .i64 E[j].1, .i .i64 E[j].2] := by rw [get_put_other (kNe hnx).symm]; exact c7
      rw [ea, eb] at c74
      have gC : Grow h.nx.nat h3 (h3.put h.nx (.cells 7 ((A.set a true).map V.b))) := Grow.put (Nat.le_refl _) hnx3 _
      have hnx4 : h.nx.nat < (h3.put h.nx (.cells 7 ((A.set a true).map V.b))).nx.nat := hnx3
      generalize h3.put h.nx (.cells 7 ((A.set a true).map V.b)) = h4 at *
      have l14 : loadV h4 (.p h1.nx (0 + 1 * 1)) one? = .ok (.i .i64 (b : Int)) h4 := load_p c74 rfl
      obtain ⟨sb1, sb2⟩ := sa2.st (i := b) (by simp; omega) (x := true) (c := .b true) rfl rfl
      rw [List.length_set, hlA] at sb1 sb2
      cases hAa : A[a]'(by omega) with
      | true =>
        rw [hAa] at ld1 hmk
        rw [Bool.true_or, if_pos rfl, ← hsn] at hmk
        rw [← hmk] at sb1 sb2
        simp (disch := omega) only [f105_r5, f105_r6, f105_r7, w_skip, w_reg, w_draw, w_seq, w_cond, w_block, seqK_n, ckB_b, cbB_b, okG_b, asG_f, true_and, x_nil, x_g, x_mv, x_pick, x_alloc, x_ld, x_ldn, x_st, x_bin, x_iadr, x_iads, kx, rvP_ok, okv_some, ev_t, ev_c, getV_some, putD_some, putD_none, bin_lss, pick_b, onP_p, of0, of1, getK_set, Nat.reduceEqDiff, ↓reduceIte, Bool.false_eq_true, Bool.not_true, ix2_0, g5, g12, g13, g14, d1, hp1, hp2, hzz, hst2, l0, ixa, ld1, Bool.not_true]
        simp (disch := omega) only [f105_r8, f105_r9, w_reg, seqK_n, atK_n, loopK_n, true_and, x_nil, x_mv, x_st, x_bin, kx, kg, xg_nil, xg_ld, xg_iadr, xd_cons, fresh_nil, stK_n, stK_s, stay_nil, stay_cons, again_ok, beq_i, stay_ld, beq_p, rvP_ok, okv_some, ev_t, ev_c, getV_some, putD_some, putD_none, bin_add, onP_p, of0, of1, getK_set, Nat.reduceEqDiff, ↓reduceIte, stay_iadr, ix2_0, ix2_1, g5, g14, l0, l1, ixa, ixb, sa1, l14, stay_iadr, again_ok, beq_p, beq_i, sb1, fw64]
        exact ⟨j + 1, by omega, by omega, hG3.trans (gC.trans (Grow.put (by omega) hnx4 _)), hnx4, sb2, by simp (disch := omega) only [getK_set, Nat.reduceEqDiff, ↓reduceIte, g0, g1, g5, g9, g10, g12, g13, and_self, Int.natCast_add, Int.natCast_one]⟩
      | false =>
      cases hAb : A[b]'(by omega) with
      | true =>
        rw [hAa] at ld1 hmk
        rw [hAb] at ld2 hmk
        rw [Bool.false_or, if_pos rfl, ← hsn] at hmk
        rw [← hmk] at sb1 sb2
        simp (disch := omega) only [f105_r5, f105_r6, f105_r7, w_skip, w_reg, w_draw, w_seq, w_cond, w_block, seqK_n, ckB_b, cbB_b, okG_b, asG_f, true_and, x_nil, x_g, x_mv, x_pick, x_alloc, x_ld, x_ldn, x_st, x_bin, x_iadr, x_iads, kx, rvP_ok, okv_some, ev_t, ev_c, getV_some, putD_some, putD_none, bin_lss, pick_b, onP_p, of0, of1, getK_set, Nat.reduceEqDiff, ↓reduceIte, Bool.false_eq_true, Bool.not_false, ix2_0, ix2_1, g5, g12, g13, g14, d1, hp1, hp2, hzz, hst2, l0, l1, ixa, ixb, ld1, ld2, Bool.not_false]
        simp (disch := omega) only [f105_r8, f105_r9, w_reg, seqK_n, atK_n, loopK_n, true_and, x_nil, x_mv, x_st, x_bin, kx, kg, xg_nil, xg_ld, xg_iadr, xd_cons, fresh_nil, stK_n, stK_s, stay_nil, stay_cons, again_ok, beq_i, stay_ld, beq_p, rvP_ok, okv_some, ev_t, ev_c, getV_some, putD_some, putD_none, bin_add, onP_p, of0, of1, getK_set, Nat.reduceEqDiff, ↓reduceIte, stay_iadr, ix2_0, ix2_1, g5, g14, l0, l1, ixa, ixb, sa1, l14, stay_iadr, again_ok, beq_p, beq_i, sb1, fw64]
        exact ⟨j + 1, by omega, by omega, hG3.trans (gC.trans (Grow.put (by omega) hnx4 _)), hnx4, sb2, by simp (disch := omega) only [getK_set, Nat.reduceEqDiff, ↓reduceIte, g0, g1, g5, g9, g10, g12, g13, and_self, Int.natCast_add, Int.natCast_one]⟩
      | false =>
        rw [hAa] at ld1 hmk
        rw [hAb] at ld2 hmk
        rw [Bool.false_or, if_neg (by simp), ← hsn] at hmk
        rw [← hmk] at hA3
        simp (disch := omega) only [f105_r5, f105_r6, f105_r7, w_skip, w_reg, w_seq, w_cond, w_block, seqK_n, atK_n, ckB_b, cbB_b, okG_b, asG_f, true_and, x_nil, x_g, x_mv, x_pick, x_alloc, x_ld, x_ldn, x_st, x_bin, x_iadr, x_iads, kx, rvP_ok, okv_some, ev_t, ev_c, getV_some, putD_some, putD_none, bin_lss, pick_b, onP_p, of0, of1, getK_set, Nat.reduceEqDiff, ↓reduceIte, Bool.false_eq_true, Bool.not_false, ix2_0, ix2_1, g5, g12, g13, g14, d1, hp1, hp2, hzz, hst2, l0, l1, ixa, ixb, ld1, ld2, Bool.not_false]
        simp (disch := omega) only [f105_r9, loopK_n, x_nil, x_mv, x_bin, kx, rvP_ok, okv_some, ev_t, ev_c, getV_some, putD_some, bin_add, of1, getK_set, Nat.reduceEqDiff, ↓reduceIte, g14, fw64]
        exact ⟨j + 1, by omega, by omega, hG3, hnx3, hA3, by simp (disch := omega) only [getK_set, Nat.reduceEqDiff, ↓reduceIte, g0, g1, g5, g9, g10, g12, g13, and_self, Int.natCast_add, Int.natCast_one]⟩
    · have d1 : decide ((j : Int) < (E.length : Int)) = false := by simpa using hlt2
      have ej : j = E.length := by omega
      rw [ej, List.take_length] at hA
      simp (disch := omega) only [f105_r5, f105_r10, w_reg, w_seq, w_cond, w_exit, seqK_n, seqK_e, atK_n, atK_e, loopK_n, loopK_e, ckB_b, cbB_b, true_and, x_nil, x_mv, x_bin, kx, rvP_ok, okv_some, ev_t, ev_c, getV_some, putD_some, bin_add, bin_lss, of1, getK_set, Nat.reduceEqDiff, ↓reduceIte, Bool.false_eq_true, g10, g13, g14, d1, fw64]
      exact ⟨t + 1, by omega, by omega, hG, hnx, hA, by simp (disch := omega) only [getK_set, Nat.reduceEqDiff, ↓reduceIte, g0, g1, g5, g9, and_self, Int.natCast_add, Int.natCast_one]⟩
  · have d0 : decide ((t : Int) < (n : Int)) = false := by simpa using hlt
    have et : t = n := by omega
    rw [et] at hA
    have hlA : (mkN E one7 n).length = 7 := by rw [mkN_len]; rfl
    have hsl := hA.sr (n := n) (by omega)
    unfold Ar at hA
    rw [hlA] at hA
    have hcut : ∀ (fr : Fr) (x : EO), slcAV fr 7 1 (.p h.nx 0) none (some x) h1 = (ev fr x).onI .no fun _ u => oGet (nonneg u) .no fun u => bif Nat.ble u 7 then RV.ok (.sl h.nx 0 u 1) h1 else .no := fun fr x => by
      show (h1.get h.nx).onC RV.no _ = _
      rw [hA]
      show (oGet (bound fr none 0) .no fun l => oGet (bound fr (some x) 7) .no fun u => bif Nat.ble l u && Nat.ble u 7 then RV.ok (.sl h.nx (0 + l * 1) (u - l) 1) h1 else .no) = _
      rw [bound_eq, bound_eq, Option.map_some]
      show (oGet ((ev fr x).onI none fun _ n => nonneg n) RV.no fun u => bif Nat.ble 0 u && Nat.ble u 7 then RV.ok (.sl h.nx (0 + 0 * 1) (u - 0) 1) h1 else .no) = _
      cases ev fr x <;> try rfl
    have hnn : nonneg (n : Int) = some n := rfl
    have hble : Nat.ble n 7 = true := Nat.ble_eq_true_of_le hn7
    simp (disch := omega) only [f105_r3, f105_r11, w_reg, w_seq, w_cond, w_exit, seqK_n, seqK_e, atK_e, loopK_e, ckB_b, cbB_b, true_and, x_nil, x_mv, x_bin, x_call, x_slcA, kx, rvP_ok, okv_some, ev_t, ev_c, evs_nil, evs_cons, getV_some, putD_some, bin_lss, onI_i, oGet_s, getK_set, Nat.reduceEqDiff, ↓reduceIte, Bool.false_eq_true, g0, g5, g9, g10, d0, hcut, hnn, hble, cond_true]
    refine (callP_0 (ef := f131) h131 rfl (f131_ret h148 hsl (by simp; omega))).mono ?_
    rintro r h2 ⟨rfl, rfl⟩
    simp (disch := omega) only [f105_rs, w_ret, seqK_n, true_and, retK_r, x_nil, x_as, x_not, kx, rvP_ok, ev_t, getV_some, putD_some, onB_b, oGet_s, readRs_nil, readRs_t, retV_1, Option.some.injEq, exists_eq_left', getK_set, ↓reduceIte, conB, true_and]
    exact hG
def f67_I (h h2 : H) (n : Nat) (v : V) (E : List (Int × Int)) (id5 : K) (j : Nat) (fr : Fr) (h1 : H) : Prop := j ≤ E.length ∧ Grow h2.nx.nat h2 h1 ∧ ∃ c, Sk 2 qE h1 c (inE' E (E.take j)) ∧ Own h2.nx.nat c ∧ fr.get (K.ofNat 0) = some (.i .i64 (n : Int)) ∧ fr.get (K.ofNat 1) = some (v) ∧ fr.get (K.ofNat 5) = some (.p id5 0) ∧ fr.get (K.ofNat 6) = some (c) ∧ fr.get (K.ofNat 25) = some (v) ∧ fr.get (K.ofNat 26) = some (.i .i64 (E.length : Int)) ∧ fr.get (K.ofNat 27) = some (.i .i64 (j : Int))
theorem inE_in7 (hE : EdgesOk n E) : In7 (inE E) := ⟨Nat.le_trans (List.length_filter_le _ _) (by have := hE.1; omega), fun e he => by
  have := hE.2.2 e (List.mem_filter.1 he).1
  have := hE.2.1
  omega⟩
structure CallsCt (fs : T EF) : Prop where
  c102 : fs.get (K.ofNat 102) = some f102
  c105 : fs.get (K.ofNat 105) = some f105
  c106 : fs.get (K.ofNat 106) = some f106
  c131 : fs.get (K.ofNat 131) = some f131
  c148 : fs.get (K.ofNat 148) = some f148
theorem f67_ret (k : CallsCt fs) (hv : Srp h v E) (hc : HC h) (hE : EdgesOk n E) : Ret fs f67 [.i .i64 (n : Int), v] h fun r h' => r = .b (catB n E) ∧ Grow h.nx.nat h h' := by
  have hE10 := hE.1
  have hn7 := hE.2.1
  apply ret_of rfl
  show W fs none f67_c _ _ _
  unfold f67_c
  by_cases hne : E.length + 1 = n
  · have d0 : decide ((E.length : Int) ≠ (n : Int) - 1) = false := by simp; omega
    have hcat : catB n E = (conB n E && decide (maxL 0 (dgL 7 (inE E)) ≤ 2)) := by unfold catB; rw [decide_eq_true hne, Bool.true_and]
    simp (disch := omega) only [f67_r0, f67_r1, w_reg, w_seq, seqK_n, okG_b, asG_f, true_and, x_nil, x_g, x_mv, x_as, x_bin, x_call, x_len, kx, rvP_ok, okv_some, ev_t, ev_c, evs_nil, evs_cons, getV_some, putD_some, bin_sub, bin_neq, frame_2, of1, getK_set, Nat.reduceEqDiff, ↓reduceIte, Bool.not_false, hv.len, fw64, d0, Bool.not_false]
    refine (callP_0 (ef := f105) k.c105 rfl (f105_ret k.c131 k.c148 hv hc hE)).mono ?_
    rintro r h1 ⟨rfl, hG1⟩
    have hc1 := hG1.hc hc
    have hv1 := hv.grow hc hG1
    cases hcn : conB n E with
    | false =>
      rw [hcn, Bool.false_and] at hcat
      simp (disch := omega) only [f67_r2, f67_rs, w_reg, w_seq, w_cond, w_ret, seqK_n, seqK_r, ckB_b, cbB_b, okG_b, asG_f, true_and, retK_r, x_nil, x_g, x_as, x_pick, x_not, kx, rvP_ok, ev_t, ev_c, getV_some, putD_some, pick_b, onB_b, oGet_s, readRs_nil, readRs_t, retV_1, Option.some.injEq, exists_eq_left', getK_set, Nat.reduceEqDiff, ↓reduceIte, Bool.false_eq_true, Bool.not_false, hcat, Bool.not_false, true_and]
      exact hG1
    | true =>
      rw [hcn, Bool.true_and] at hcat
      have hIn : In7 E := ⟨by omega, fun e he => by have := hE.2.2 e he; omega⟩
      simp (disch := omega) only [f67_r3, w_skip, w_reg, w_seq, w_cond, seqK_n, ckB_b, cbB_b, okG_b, asG_f, true_and, x_nil, x_g, x_mv, x_pick, x_not, x_call, kx, rvP_ok, ev_t, ev_c, evs_nil, evs_cons, getV_some, putD_some, pick_b, onB_b, of0, getK_set, Nat.reduceEqDiff, ↓reduceIte, Bool.false_eq_true, Bool.not_true, Bool.not_false, Bool.not_true]
      refine (callP_0 (ef := f106) k.c106 rfl (f106_ret hv1 hc1 hIn)).mono ?_
      rintro r h2 ⟨rfl, hG2⟩
      have h0 : ([.i .i64 0, .i .i64 0, .i .i64 0, .i .i64 0, .i .i64 0, .i .i64 0, .i .i64 0] : List V) = (List.replicate 7 (0 : Int)).map iE := rfl
      have hG12 := hG1.trans (hG2.low hG1.nx)
      have n3 := nx_new h2 (.cells 7 ((List.replicate 7 (0 : Int)).map iE))
      have s3 := st7 (h := h2.new (.cells 7 ((List.replicate 7 (0 : Int)).map iE))) (id := h2.nx) (cs := (dgL 7 E).map iE) get_new_same rfl (by rw [List.length_map, dgL_len])
      have e3 : ((h2.new (.cells 7 ((List.replicate 7 (0 : Int)).map iE))).put h2.nx (.cells 7 ((dgL 7 E).map iE))).get h2.nx = .cells 7 ((dgL 7 E).map iE) := get_put_same
      have g3 : Grow h2.nx.nat h2 ((h2.new (.cells 7 ((List.replicate 7 (0 : Int)).map iE))).put h2.nx (.cells 7 ((dgL 7 E).map iE))) := (Grow.new (Nat.le_refl _) _).trans (Grow.put (Nat.le_refl _) (by omega) _)
      have x3 : h2.nx.nat < ((h2.new (.cells 7 ((List.replicate 7 (0 : Int)).map iE))).put h2.nx (.cells 7 ((dgL 7 E).map iE))).nx.nat := by show _ < (h2.new (.cells 7 ((List.replicate 7 (0 : Int)).map iE))).nx.nat; omega
      simp (disch := omega) only [f67_r4, f67_r5, w_reg, w_seq, seqK_n, x_nil, x_mv, x_as, x_alloc, x_st, x_len, kx, rvP_ok, ev_t, ev_c, getV_some, putD_some, putD_none, of0, getK_set, Nat.reduceEqDiff, ↓reduceIte, h0, s3]
      generalize (h2.new (.cells 7 ((List.replicate 7 (0 : Int)).map iE))).put h2.nx (.cells 7 ((dgL 7 E).map iE)) = h3 at *
      have hG3 := hG12.trans (g3.low hG12.nx)
      have hc3 := hG3.hc hc
      have hv3 := hv.grow hc hG3
      have eA : Ar iE h3 h2.nx (dgL 7 E) := by unfold Ar; rw [dgL_len]; exact e3
      generalize h2.nx = id5 at *
      simp (disch := omega) only [w_block, seqK_n, x_nil, x_mv, kx, rvP_ok, ev_c, putD_some, hv3.len]
      refine W_loop (f67_I h h3 n v E id5) (fun j => E.length - j) ?_ 0 ⟨by omega, Grow.refl _ _, .sn, Sk.nil, Own.sn, by simp (disch := omega) only [getK_set, Nat.reduceEqDiff, ↓reduceIte, and_self, Int.natCast_zero]⟩
      rintro j fr hx ⟨hj, hGx, c, hsk, hown, g0, g1, g5, g6, g25, g26, g27⟩
      have hcx := hGx.hc hc3
      have hvx := hv3.grow hc3 hGx
      have eAx := eA.same (hGx.old id5 x3)
      unfold f67_l0
      by_cases hlt2 : j < E.length
      · have d1 : decide ((j : Int) < (E.length : Int)) = true := by simpa using hlt2
        obtain ⟨ida, q, hp1, hp2, _, _⟩ := hvx.at2 hlt2
        obtain ⟨b0, b1, b2⟩ := hE.2.2 E[j] (List.getElem_mem hlt2)
        have hsn := inE'_snoc hlt2
        obtain ⟨a, ea⟩ : ∃ a : Nat, E[j].1 = (a : Int) := ⟨E[j].1.toNat, by omega⟩
        obtain ⟨b, eb⟩ : ∃ b : Nat, E[j].2 = (b : Int) := ⟨E[j].2.toNat, by omega⟩
        have ha : a < 7 := by omega
        have hb : b < 7 := by omega
        have hst2 : storeV (hx.new (.cells 2 zz)) 2 (.p hx.nx 0) (.agg [.i .i64 E[j].1, .i .i64 E[j].2]) = .ok undefV ((hx.new (.cells 2 zz)).put hx.nx (.cells 2 [.i .i64 E[j].1, .i .i64 E[j].2])) := st2 (a := .i .i64 (.ofNat 0)) (b := .i .i64 (.ofNat 0)) get_new_same
        have nx1 := nx_new hx (.cells 2 zz)
        have gB : Grow hx.nx.nat hx ((hx.new (.cells 2 zz)).put hx.nx (.cells 2 [.i .i64 E[j].1, .i .i64 E[j].2])) := (Grow.new (Nat.le_refl _) _).trans (Grow.put (Nat.le_refl _) (by omega) _)
        have c8 : ((hx.new (.cells 2 zz)).put hx.nx (.cells 2 [.i .i64 E[j].1, .i .i64 E[j].2])).get hx.nx = .cells 2 [.i .i64 E[j].1, .i .i64 E[j].2] := get_put_same
        have hzz : ([.i .i64 0, .i .i64 0] : List V) = zz := rfl
        generalize (hx.new (.cells 2 zz)).put hx.nx (.cells 2 [.i .i64 E[j].1, .i .i64 E[j].2]) = h4 at *
        have l0 : loadV h4 (.p hx.nx (0 + 0 * 1)) one? = .ok (.i .i64 E[j].1) h4 := load_p c8 rfl
        have l1 : loadV h4 (.p hx.nx (0 + 1 * 1)) one? = .ok (.i .i64 E[j].2) h4 := load_p c8 rfl
        have l2 : loadV h4 (.p hx.nx 0) (many? 2) = .ok (.agg [.i .i64 E[j].1, .i .i64 E[j].2]) h4 := ldn2 c8
        have hx5 : id5.nat < hx.nx.nat := by have := hGx.nx; omega
        have eA4 := eAx.same (gB.old id5 hx5)
        have ld1 := eA4.ld (i := a) (by rw [dgL_len]; exact ha)
        have ld2 := eA4.ld (i := b) (by rw [dgL_len]; exact hb)
        rw [dgL_at] at ld1 ld2
        have ixa : ∀ f : Nat → RV, idxV (.i .i64 (a : Int)) 7 f = f a := fun f => idx_n ha
        have ixb : ∀ f : Nat → RV, idxV (.i .i64 (b : Int)) 7 f = f b := fun f => idx_n hb
        rw [ea] at l0
        rw [eb] at l1
        rw [ea, eb] at hst2 hp2 l2
        have hGx4 := hGx.trans (gB.low hGx.nx)
        have hsk4 := hsk.grow hcx gB
        have hc4 := gB.hc hcx
        have hpr : inP E E[j] = (decide (dgE E a > 1) && decide (dgE E b > 1)) := by unfold inP; rw [ea, eb]; rfl
        cases hda : decide (dgE E a > 1) with
        | false =>
          rw [hda, Bool.false_and] at hpr
          rw [hpr, if_neg (by simp)] at hsn
          simp (disch := omega) only [f67_r6, f67_r7, f67_r8, f67_r10, w_skip, w_reg, w_seq, w_cond, w_block, seqK_n, atK_n, loopK_n, ckB_b, cbB_b, okG_b, asG_t, true_and, x_nil, x_g, x_mv, x_pick, x_alloc, x_ld, x_ldn, x_st, x_bin, x_iadr, x_iads, kx, rvP_ok, okv_some, ev_t, ev_c, getV_some, putD_some, putD_none, bin_add, bin_lss, bin_gtr, pick_b, onP_p, of0, of1, getK_set, Nat.reduceEqDiff, ↓reduceIte, Bool.false_eq_true, ix2_0, g5, g25, g26, g27, d1, hp1, hp2, hzz, hst2, l0, ixa, ld1, iE, hda, fw64]
          exact ⟨j + 1, by omega, by omega, hGx4, c, by rw [hsn]; exact hsk4, hown, by simp (disch := omega) only [getK_set, Nat.reduceEqDiff, ↓reduceIte, g0, g1, g5, g6, g25, g26, and_self, Int.natCast_add, Int.natCast_one]⟩
        | true =>
        cases hdb : decide (dgE E b > 1) with
        | false =>
          rw [hda, hdb, Bool.true_and] at hpr
          rw [hpr, if_neg (by simp)] at hsn
          simp (disch := omega) only [f67_r6, f67_r7, f67_r8, f67_r10, w_skip, w_reg, w_seq, w_cond, w_block, seqK_n, atK_n, loopK_n, ckB_b, cbB_b, okG_b, asG_t, true_and, x_nil, x_g, x_mv, x_pick, x_alloc, x_ld, x_ldn, x_st, x_bin, x_iadr, x_iads, kx, rvP_ok, okv_some, ev_t, ev_c, getV_some, putD_some, putD_none, bin_add, bin_lss, bin_gtr, pick_b, onP_p, of0, of1, getK_set, Nat.reduceEqDiff, ↓reduceIte, Bool.false_eq_true, ix2_0, ix2_1, g5, g25, g26, g27, d1, hp1, hp2, hzz, hst2, l0, l1, ixa, ixb, ld1, ld2, iE, hda, hdb, fw64]
          exact ⟨j + 1, by omega, by omega, hGx4, c, by rw [hsn]; exact hsk4, hown, by simp (disch := omega) only [getK_set, Nat.reduceEqDiff, ↓reduceIte, g0, g1, g5, g6, g25, g26, and_self, Int.natCast_add, Int.natCast_one]⟩
        | true =>
          rw [hda, hdb, Bool.true_and] at hpr
          rw [hpr, if_pos rfl] at hsn
          obtain ⟨c', h5, a1, s5, o5, gr5, _⟩ := Sk.push qE_len (by omega) (x := E[j]) hsk4 hown hGx4.nx hc4 (by have := List.length_filter_le (inP E) (E.take j); unfold inE'; simp at this; omega)
          have a1' : appV 2 (h4.new (.cells (1 * 2) [.i .i64 (a : Int), .i .i64 (b : Int)])) c (.sl h4.nx 0 1 2) = .ok c' h5 := by rw [← ea, ← eb]; exact a1
          simp (disch := omega) only [f67_r6, f67_r7, f67_r8, w_skip, w_reg, w_seq, w_cond, w_block, seqK_n, ckB_b, cbB_b, okG_b, asG_t, true_and, x_nil, x_g, x_mv, x_pick, x_alloc, x_ld, x_ldn, x_st, x_bin, x_iadr, x_iads, kx, rvP_ok, okv_some, ev_t, ev_c, getV_some, putD_some, putD_none, bin_lss, bin_gtr, pick_b, onP_p, of0, of1, getK_set, Nat.reduceEqDiff, ↓reduceIte, ix2_0, ix2_1, g5, g25, g26, g27, d1, hp1, hp2, hzz, hst2, l0, l1, ixa, ixb, ld1, ld2, iE, hda, hdb]
          simp (disch := omega) only [f67_r9, f67_r10, w_reg, seqK_n, atK_n, loopK_n, x_nil, x_mv, x_as, x_bslice, x_ldn, x_bin, x_app, kx, rvP_ok, okv_some, ev_t, ev_c, getV_some, putD_some, bin_add, oGet_s, of0, of1, getK_set, Nat.reduceEqDiff, ↓reduceIte, cells2, g6, g27, l2, fw64, cells2, fill_p2, set_p2, a1']
          exact ⟨j + 1, by omega, by omega, hGx4.trans gr5, c', by rw [hsn]; exact s5, o5, by simp (disch := omega) only [getK_set, Nat.reduceEqDiff, ↓reduceIte, g0, g1, g5, g25, g26, and_self, Int.natCast_add, Int.natCast_one]⟩
      · have d1 : decide ((j : Int) < (E.length : Int)) = false := by simpa using hlt2
        have ej : j = E.length := by omega
        rw [ej, List.take_length] at hsk
        have hsk : Sk 2 qE hx c (inE E) := hsk
        simp (disch := omega) only [f67_r6, f67_r11, w_reg, w_seq, w_cond, w_exit, seqK_n, seqK_e, atK_e, loopK_e, ckB_b, cbB_b, true_and, x_nil, x_mv, x_bin, x_call, kx, rvP_ok, okv_some, ev_t, ev_c, evs_nil, evs_cons, getV_some, putD_some, bin_lss, of0, getK_set, Nat.reduceEqDiff, ↓reduceIte, Bool.false_eq_true, g6, g26, g27, d1]
        refine (callP_0 (ef := f106) k.c106 rfl (f106_ret hsk.srp hcx (inE_in7 hE))).mono ?_
        rintro r h4 ⟨rfl, hG4⟩
        have n5 := nx_new h4 (.cells 7 ((List.replicate 7 (0 : Int)).map iE))
        have s5 := st7 (h := h4.new (.cells 7 ((List.replicate 7 (0 : Int)).map iE))) (id := h4.nx) (cs := (dgL 7 (inE E)).map iE) get_new_same rfl (by rw [List.length_map, dgL_len])
        have e5 : ((h4.new (.cells 7 ((List.replicate 7 (0 : Int)).map iE))).put h4.nx (.cells 7 ((dgL 7 (inE E)).map iE))).get h4.nx = .cells 7 ((dgL 7 (inE E)).map iE) := get_put_same
        have g5 : Grow h4.nx.nat h4 ((h4.new (.cells 7 ((List.replicate 7 (0 : Int)).map iE))).put h4.nx (.cells 7 ((dgL 7 (inE E)).map iE))) := (Grow.new (Nat.le_refl _) _).trans (Grow.put (Nat.le_refl _) (by omega) _)
        have eB : Ar iE ((h4.new (.cells 7 ((List.replicate 7 (0 : Int)).map iE))).put h4.nx (.cells 7 ((dgL 7 (inE E)).map iE))) h4.nx (dgL 7 (inE E)) := by unfold Ar; rw [dgL_len]; exact e5
        have hcut := fun fr => slcA_7 (fr := fr) e5
        have hsl := eB.sr (n := 7) (by rw [dgL_len]; exact Nat.le_refl _)
        rw [List.take_of_length_le (by rw [dgL_len]; exact Nat.le_refl _)] at hsl
        have hGz : Grow h.nx.nat h ((h4.new (.cells 7 ((List.replicate 7 (0 : Int)).map iE))).put h4.nx (.cells 7 ((dgL 7 (inE E)).map iE))) := hG3.trans ((hGx.trans ((hG4.trans (g5.low hG4.nx)).low hGx.nx)).low hG3.nx)
        simp (disch := omega) only [f67_r12, w_reg, w_seq, seqK_n, x_nil, x_alloc, x_st, x_call, x_slcA, kx, rvP_ok, ev_t, ev_c, evs_nil, evs_cons, getV_some, putD_some, putD_none, of0, getK_set, Nat.reduceEqDiff, ↓reduceIte, h0, s5, hcut]
        refine (callP_0 (ef := f102) k.c102 rfl (f102_ret (a := 0) hsl (by rw [dgL_len]; omega))).mono ?_
        rintro r h5 ⟨rfl, rfl⟩
        simp (disch := omega) only [f67_r13, f67_rs, w_reg, w_seq, w_ret, seqK_n, true_and, retK_r, x_nil, x_mv, x_as, x_bin, x_ext, kx, rvP_ok, okv_some, ev_t, ev_c, getV_some, putD_some, bin_leq, onTup_t, oGet_s, nth0, nth1, readRs_nil, readRs_t, retV_1, of2, Option.some.injEq, exists_eq_left', getK_set, Nat.reduceEqDiff, ↓reduceIte, hcat, true_and]
        exact hGz
  · have d0 : decide ((E.length : Int) ≠ (n : Int) - 1) = true := by simp; omega
    have hcat : catB n E = false := by unfold catB; rw [decide_eq_false hne]; rfl
    simp (disch := omega) only [f67_r0, f67_r1, f67_r2, f67_rs, w_reg, w_seq, w_cond, w_ret, seqK_n, seqK_r, ckB_b, cbB_b, okG_b, asG_f, true_and, retK_r, x_nil, x_g, x_mv, x_as, x_pick, x_bin, x_len, kx, rvP_ok, okv_some, ev_t, ev_c, getV_some, putD_some, bin_sub, bin_neq, pick_b, oGet_s, readRs_nil, readRs_t, retV_1, frame_2, of1, Option.some.injEq, exists_eq_left', getK_set, Nat.reduceEqDiff, ↓reduceIte, Bool.false_eq_true, Bool.not_true, hv.len, fw64, d0, hcat, Bool.not_true, true_and]
    exact Grow.refl _ _
end
end Go.Ev
