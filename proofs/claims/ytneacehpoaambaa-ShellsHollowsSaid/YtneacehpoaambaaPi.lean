/-
  Functions of the seat: rank.
  Functions of the seat: cornersOf, border.
  Functions of the seat: borderRank, hollows, Hollows.
  Functions of the seat: hollows, Hollows.
  Functions of the seat: the reference's borders, rank.
  Functions of the seat: joined, link; the reference's Hollows.
  Functions of the seat: Link, dual, Dual; the reference's Link, Dual.
  The law ShellsHollows.
  What is true of complexes: links, duals, and the numbers of holes.
-/
import Derived.Test.YtneacehpoaambaaPg
import Derived.Test.YtneacehpoaambaaPe
import Derived.Test.YtneacehpoaambaaPh
namespace Go.Ev
open Go Go.RowKit
noncomputable def f94_r0 : List EOper := [⟨(some (K.ofNat 2)), none, .as (.c (.i .i64 (.ofNat 0)))⟩]
noncomputable def f94_r1 : List EOper := [⟨(some (K.ofNat 3)), none, .as (.c (.i .i64 (.ofNat 0)))⟩]
noncomputable def f94_r2 : List EOper := [⟨(some (K.ofNat 8)), none, .mv (.t (K.ofNat 0))⟩, ⟨(some (K.ofNat 9)), none, .len (.t (K.ofNat 8))⟩, ⟨(some (K.ofNat 10)), none, .mv (.c (.i .i64 (.ofNat 0)))⟩]
noncomputable def f94_r3 : List EOper := [⟨(some (K.ofNat 11)), none, .bin .lss (.t (K.ofNat 10)) (.t (K.ofNat 9))⟩]
noncomputable def f94_r4 : List EOper := [⟨(some (K.ofNat 12)), none, .mv (.t (K.ofNat 10))⟩, ⟨(some (K.ofNat 4)), none, .as (.t (K.ofNat 12))⟩]
noncomputable def f94_r5 : List EOper := [⟨(some (K.ofNat 13)), none, .mv (.t (K.ofNat 0))⟩, ⟨(some (K.ofNat 14)), none, .mv (.t (K.ofNat 4))⟩, ⟨(some (K.ofNat 15)), none, .iads 1 (.t (K.ofNat 13)) (.t (K.ofNat 14))⟩, ⟨(some (K.ofNat 16)), none, .ld (.t (K.ofNat 15))⟩, ⟨(some (K.ofNat 5)), none, .as (.t (K.ofNat 16))⟩]
noncomputable def f94_r6 : List EOper := [⟨(some (K.ofNat 17)), none, .mv (.t (K.ofNat 5))⟩, ⟨(some (K.ofNat 18)), none, .bin .eql (.t (K.ofNat 17)) (.c (.i .u64 (.ofNat 0)))⟩]
noncomputable def f94_r7 : List EOper := [⟨(some (K.ofNat 19)), none, .mv (.t (K.ofNat 3))⟩, ⟨(some (K.ofNat 20)), none, .bin .add (.t (K.ofNat 19)) (.c (.i .i64 (.ofNat 1)))⟩, ⟨(some (K.ofNat 3)), none, .as (.t (K.ofNat 20))⟩]
noncomputable def f94_r8 : List EOper := [⟨(some (K.ofNat 21)), none, .mv (.t (K.ofNat 5))⟩, ⟨(some (K.ofNat 22)), none, .mv (.t (K.ofNat 5))⟩, ⟨(some (K.ofNat 23)), none, .neg (.t (K.ofNat 22))⟩, ⟨(some (K.ofNat 24)), none, .bin .and (.t (K.ofNat 21)) (.t (K.ofNat 23))⟩, ⟨(some (K.ofNat 6)), none, .as (.t (K.ofNat 24))⟩]
noncomputable def f94_r9 : List EOper := [⟨(some (K.ofNat 25)), none, .mv (.t (K.ofNat 4))⟩, ⟨(some (K.ofNat 26)), none, .bin .add (.t (K.ofNat 25)) (.c (.i .i64 (.ofNat 1)))⟩, ⟨(some (K.ofNat 7)), none, .as (.t (K.ofNat 26))⟩]
noncomputable def f94_r10 : List EOper := [⟨(some (K.ofNat 27)), none, .mv (.t (K.ofNat 7))⟩, ⟨(some (K.ofNat 28)), none, .mv (.t (K.ofNat 0))⟩, ⟨(some (K.ofNat 29)), none, .len (.t (K.ofNat 28))⟩, ⟨(some (K.ofNat 30)), none, .bin .lss (.t (K.ofNat 27)) (.t (K.ofNat 29))⟩]
noncomputable def f94_r11 : List EOper := [⟨(some (K.ofNat 33)), none, .mv (.t (K.ofNat 0))⟩, ⟨(some (K.ofNat 34)), none, .mv (.t (K.ofNat 7))⟩, ⟨(some (K.ofNat 35)), none, .iads 1 (.t (K.ofNat 33)) (.t (K.ofNat 34))⟩, ⟨(some (K.ofNat 36)), none, .ld (.t (K.ofNat 35))⟩, ⟨(some (K.ofNat 37)), none, .mv (.t (K.ofNat 6))⟩, ⟨(some (K.ofNat 38)), none, .bin .and (.t (K.ofNat 36)) (.t (K.ofNat 37))⟩, ⟨(some (K.ofNat 39)), none, .bin .neq (.t (K.ofNat 38)) (.c (.i .u64 (.ofNat 0)))⟩]
noncomputable def f94_r12 : List EOper := [⟨(some (K.ofNat 40)), none, .mv (.t (K.ofNat 0))⟩, ⟨(some (K.ofNat 41)), none, .mv (.t (K.ofNat 7))⟩, ⟨(some (K.ofNat 42)), none, .iads 1 (.t (K.ofNat 40)) (.t (K.ofNat 41))⟩, ⟨(some (K.ofNat 43)), none, .ld (.t (K.ofNat 42))⟩, ⟨(some (K.ofNat 44)), none, .mv (.t (K.ofNat 5))⟩, ⟨(some (K.ofNat 45)), none, .bin .xor (.t (K.ofNat 43)) (.t (K.ofNat 44))⟩, ⟨(some (K.ofNat 46)), none, .iads 1 (.t (K.ofNat 40)) (.t (K.ofNat 41))⟩, ⟨none, none, .st 1 (.t (K.ofNat 46)) (.t (K.ofNat 45))⟩]
noncomputable def f94_r13 : List EOper := [⟨(some (K.ofNat 31)), none, .mv (.t (K.ofNat 7))⟩, ⟨(some (K.ofNat 32)), none, .bin .add (.t (K.ofNat 31)) (.c (.i .i64 (.ofNat 1)))⟩, ⟨(some (K.ofNat 7)), none, .as (.t (K.ofNat 32))⟩]
noncomputable def f94_l0 : EC := (.seq (.seq (.reg f94_r10) (.cond (.t (K.ofNat 30)) .skip (.exit 2))) (.seq (.block 3 (.seq (.reg f94_r11) (.cond (.t (K.ofNat 39)) (.reg f94_r12) .skip))) (.reg f94_r13)))
noncomputable def f94_r14 : List EOper := [⟨(some (K.ofNat 47)), none, .bin .add (.t (K.ofNat 10)) (.c (.i .i64 (.ofNat 1)))⟩, ⟨(some (K.ofNat 10)), none, .mv (.t (K.ofNat 47))⟩]
noncomputable def f94_l1 : EC := (.seq (.reg f94_r3) (.seq (.cond (.t (K.ofNat 11)) .skip (.exit 0)) (.seq (.block 1 (.seq (.reg f94_r4) (.seq (.reg f94_r5) (.seq (.seq (.reg f94_r6) (.cond (.t (K.ofNat 18)) (.exit 1) .skip)) (.seq (.reg f94_r7) (.seq (.reg f94_r8) (.seq (.reg f94_r9) (.block 2 (.loop f94_l0))))))))) (.reg f94_r14))))
noncomputable def f94_r15 : List EOper := [⟨(some (K.ofNat 48)), none, .mv (.t (K.ofNat 3))⟩, ⟨(some (K.ofNat 2)), none, .as (.t (K.ofNat 48))⟩]
noncomputable def f94_c : EC := (.seq (.reg f94_r0) (.seq (.reg f94_r1) (.seq (.seq (.reg f94_r2) (.block 0 (.loop f94_l1))) (.seq (.reg f94_r15) .ret))))
noncomputable def f94 : EF := ⟨49, [.tmp (K.ofNat 2)], f94_c, none⟩
theorem f94_rs : f94.rs = [.tmp (K.ofNat 2)] := of_eq_true (eq_self _)
def low (p : Nat) : Nat := p &&& (18446744073709551616 - p)
theorem low_lt {p : Nat} : low p ≤ p := Nat.and_le_left
theorem neg_u {p : Nat} (h0 : 0 < p) (h1 : p < 9223372036854775808) : fw .u64 (isub 0 (p : Int)) = ((18446744073709551616 - p : Nat) : Int) := by
  rw [isub_eq, fw_eq]
  show (0 - (p : Int)) % 18446744073709551616 = _
  omega
theorem neg_i {p : Nat} (h0 : 0 < p) (h1 : p < 9223372036854775808) : fw .i64 (isub 0 (p : Int)) = Int.negSucc (p - 1) := by
  rw [isub_eq, fw64 (by omega) (by omega)]; omega
theorem and_n {k : IntKind} {m n : Nat} (hk : 9223372036854775807 ≤ kmax k) (hm : m < 9223372036854775808) (hn : n < 9223372036854775808) : binV .and (.i k (m : Int)) (.i k (n : Int)) = some (.i k ((m &&& n : Nat) : Int)) := bin_and (by omega) (by omega)
theorem xor_n {k : IntKind} {m n : Nat} (hk : 9223372036854775807 ≤ kmax k) (hm : m < 9223372036854775808) (hn : n < 9223372036854775808) : binV .xor (.i k (m : Int)) (.i k (n : Int)) = some (.i k ((m ^^^ n : Nat) : Int)) := bin_xor (by omega) (by omega)
theorem low_u {p : Nat} (h0 : 0 < p) (h1 : p < 9223372036854775808) : binV .and (.i .u64 (p : Int)) (.i .u64 (fw .u64 (isub 0 (p : Int)))) = some (.i .u64 (low p : Int)) := by
  rw [neg_u h0 h1, bin_and (by show _ ≤ 18446744073709551615; omega) (by show _ ≤ 18446744073709551615; omega)]; rfl
theorem low_i {p : Nat} (h0 : 0 < p) (h1 : p < 9223372036854775808) : binV .and (.i .i64 (p : Int)) (.i .i64 (fw .i64 (isub 0 (p : Int)))) = some (.i .i64 (low p : Int)) := by
  rw [neg_i h0 h1]
  show some (V.i .i64 (IntKind.wrap .i64 (((BitVec.ofInt 64 (p : Int)) &&& (BitVec.ofInt 64 (Int.negSucc (p - 1)))).toNat : Int))) = _
  have e1 : (BitVec.ofInt 64 (p : Int)).toNat = p := by rw [BitVec.toNat_ofInt]; omega
  have e2 : (BitVec.ofInt 64 (Int.negSucc (p - 1))).toNat = 18446744073709551616 - p := by rw [BitVec.toNat_ofInt]; omega
  rw [BitVec.toNat_and, e1, e2, ← fw_eq, fw64 (by omega) (by have := @low_lt p; unfold low at this; omega)]; rfl
def stepR (p r : Nat) : Nat := if r &&& low p ≠ 0 then r ^^^ p else r
theorem stepR_lt {p r : Nat} (hp : p < 9223372036854775808) (hr : r < 9223372036854775808) : stepR p r < 9223372036854775808 := by
  unfold stepR; split
  · exact Nat.xor_lt_two_pow (n := 63) hr hp
  · exact hr
def elR (p : Nat) : Nat → Nat → List Nat → List Nat
  | 0, _, L => L
  | m + 1, j, L => elR p m (j + 1) (L.set j (stepR p (L.getD j 0)))
def elK : Nat → Nat → List Nat → Nat → Nat
  | 0, _, _, c => c
  | m + 1, i, L, c => if L.getD i 0 = 0 then elK m (i + 1) L c else elK m (i + 1) (elR (L.getD i 0) m (i + 1) L) (c + 1)
/-- The rank, by elimination. -/
def rankS (L : List Nat) : Nat := elK L.length 0 L 0
def Small (L : List Nat) : Prop := ∀ x ∈ L, x < 9223372036854775808
theorem Small.at {L : List Nat} (h : Small L) {i : Nat} (hi : i < L.length) : L[i] < 9223372036854775808 := h _ (List.getElem_mem hi)
theorem Small.set {L : List Nat} (h : Small L) {i x : Nat} (hx : x < 9223372036854775808) : Small (L.set i x) := fun y hy => by
  rcases List.mem_or_eq_of_mem_set hy with h1 | rfl
  · exact h _ h1
  · exact hx
def uE (x : Nat) : V := .i .u64 (x : Int)
def nE (x : Nat) : V := .i .i64 (x : Int)
theorem kmu : 9223372036854775807 ≤ kmax .u64 := by decide
theorem kmi : 9223372036854775807 ≤ kmax .i64 := by decide
theorem set_same {L : List Nat} {j : Nat} (hj : j < L.length) : L.set j L[j] = L := by simp
section
variable {fs : T EF} {ro : Option K}
def f94_I0 (b : Nat) (h : H) (v : V) (p c i n : Nat) (R : List Nat) (j : Nat) (fr : Fr) (h1 : H) : Prop := ∃ L, j ≤ n ∧ L.length = n ∧ Small L ∧ elR p (n - j) j L = R ∧ Sl uE h1 v L ∧ Grow b h h1 ∧ fr.get (K.ofNat 0) = some (v) ∧ fr.get (K.ofNat 3) = some (.i .i64 (c : Int)) ∧ fr.get (K.ofNat 5) = some (.i .u64 (p : Int)) ∧ fr.get (K.ofNat 6) = some (.i .u64 (low p : Int)) ∧ fr.get (K.ofNat 7) = some (.i .i64 (j : Int)) ∧ fr.get (K.ofNat 9) = some (.i .i64 (n : Int)) ∧ fr.get (K.ofNat 10) = some (.i .i64 (i : Int))
theorem f94_inner {Q : Ex → Fr → H → Prop} {b : Nat} {h h0 : H} {v : V} {p c i n : Nat} {R : List Nat} {j : Nat} {fr : Fr} (hc : HC h) (ho : Own b v) (hp : p < 9223372036854775808) (hn : n ≤ 1000)
    (hi : f94_I0 b h v p c i n R j fr h0)
    (hq : ∀ fr h1, Small R → R.length = n → Sl uE h1 v R → Grow b h h1 → fr.get (K.ofNat 0) = some (v) ∧ fr.get (K.ofNat 3) = some (.i .i64 (c : Int)) ∧ fr.get (K.ofNat 9) = some (.i .i64 (n : Int)) ∧ fr.get (K.ofNat 10) = some (.i .i64 (i : Int)) → Q (.exit 2) fr h1) :
    W fs ro (.loop f94_l0) Q fr h0 := by
  refine W_loop (f94_I0 b h v p c i n R) (fun j => n - j) ?_ j hi
  clear hi fr h0 j
  rintro j fr h1 ⟨L, hj, hl, hsm, hR, hs, hgr, g0, g3, g5, g6, g7, g9, g10⟩
  have hc1 := hgr.hc hc
  have hlw := @low_lt p
  unfold f94_l0
  by_cases hlt : j < n
  · have hlt' : (j : Int) < (L.length : Int) := by omega
    have hjl : j < L.length := by omega
    obtain ⟨q, hp1, hp2⟩ := hs.at j hjl
    have hx := hsm.at hjl
    have hRn : elR p (n - (j + 1)) (j + 1) (L.set j (stepR p L[j])) = R := by
      rw [← hR, show n - j = (n - (j + 1)) + 1 by omega, elR]
      simp [List.getD, hjl]
    by_cases e : (L[j] &&& low p) = 0
    · have e' : ((L[j] &&& low p : Nat) : Int) = 0 := by omega
      have hst : stepR p L[j] = L[j] := by unfold stepR; rw [if_neg (by simpa using e)]
      rw [hst, set_same] at hRn
      simp (disch := omega) only [f94_r10, f94_r11, f94_r13, w_skip, w_reg, w_seq, w_cond, w_block, seqK_n, atK_n, loopK_n, ckB_b, cbB_b, true_and, x_nil, x_mv, x_as, x_ld, x_bin, x_iads, x_len, kx, rvP_ok, okv_some, ev_t, ev_c, getV_some, putD_some, bin_add, bin_neq, bin_lss, of0, of1, getK_set, Nat.reduceEqDiff, ↓reduceIte, Bool.false_eq_true, g0, g6, g7, hs.len, hlt', decide_true, hp1, hp2, uE, and_n kmu hx (show low p < 9223372036854775808 by omega), e', ne_eq, not_true_eq_false, decide_false, fw64]
      exact ⟨j + 1, by omega, L, hlt, hl, hsm, hRn, hs, hgr, by simp (disch := omega) only [getK_set, Nat.reduceEqDiff, ↓reduceIte, g0, g3, g5, g6, g9, g10, and_self, Int.natCast_add, Int.natCast_one]⟩
    · have e' : ¬ ((L[j] &&& low p : Nat) : Int) = 0 := by omega
      have hst : stepR p L[j] = L[j] ^^^ p := by unfold stepR; rw [if_pos e]
      rw [hst] at hRn
      have hxr := stepR_lt hp hx
      rw [hst] at hxr
      obtain ⟨p2, id, m2, cs2, q1, q2, q3, ⟨off, nn, sz, q4⟩, q5⟩ := hs.st hjl (x := L[j] ^^^ p) (c := .i .u64 ((L[j] ^^^ p : Nat) : Int)) rfl rfl hc1
      have hpp : p2 = q := by
        have h1' := hp1 .i64 h1
        have h2' := q1 .i64 h1
        rw [h1'] at h2'
        cases h2'; rfl
      subst hpp
      have hid := ho id off nn sz q4
      simp (disch := omega) only [f94_r10, f94_r11, f94_r12, f94_r13, w_skip, w_reg, w_seq, w_cond, w_block, seqK_n, atK_n, loopK_n, ckB_b, cbB_b, true_and, x_nil, x_mv, x_as, x_ld, x_st, x_bin, x_iads, x_len, kx, rvP_ok, okv_some, ev_t, ev_c, getV_some, putD_some, putD_none, bin_add, bin_neq, bin_lss, of0, of1, getK_set, Nat.reduceEqDiff, ↓reduceIte, g0, g5, g6, g7, hs.len, hlt', decide_true, hp1, hp2, uE, and_n kmu hx (show low p < 9223372036854775808 by omega), xor_n kmu hx hp, e', ne_eq, not_false_eq_true, q2, fw64]
      exact ⟨j + 1, by omega, L.set j (L[j] ^^^ p), hlt, by rw [List.length_set]; exact hl, hsm.set hxr, hRn, q3, hgr.trans (Grow.put hid q5 _), by simp (disch := omega) only [getK_set, Nat.reduceEqDiff, ↓reduceIte, g0, g3, g5, g6, g9, g10, and_self, Int.natCast_add, Int.natCast_one]⟩
  · have hjn : j = n := by omega
    subst hjn
    have hlt' : ¬ (j : Int) < (L.length : Int) := by omega
    rw [Nat.sub_self, elR] at hR
    subst hR
    simp (disch := omega) only [f94_r10, w_reg, w_seq, w_cond, w_exit, seqK_n, seqK_e, loopK_e, ckB_b, cbB_b, true_and, x_nil, x_mv, x_bin, x_len, kx, rvP_ok, okv_some, ev_t, getV_some, putD_some, bin_lss, getK_set, Nat.reduceEqDiff, ↓reduceIte, Bool.false_eq_true, g0, g7, hs.len, hlt', decide_false]
    exact hq _ _ hsm hl hs hgr (by simp (disch := omega) only [getK_set, Nat.reduceEqDiff, ↓reduceIte, g0, g3, g9, g10, and_self])
def f94_I1 (b : Nat) (h : H) (v : V) (n R : Nat) (i : Nat) (fr : Fr) (h1 : H) : Prop := ∃ L c, i ≤ n ∧ L.length = n ∧ c ≤ i ∧ Small L ∧ elK (n - i) i L c = R ∧ Sl uE h1 v L ∧ Grow b h h1 ∧ fr.get (K.ofNat 0) = some (v) ∧ fr.get (K.ofNat 3) = some (.i .i64 (c : Int)) ∧ fr.get (K.ofNat 9) = some (.i .i64 (n : Int)) ∧ fr.get (K.ofNat 10) = some (.i .i64 (i : Int))
theorem f94_ret {b : Nat} {h : H} {v : V} {L : List Nat} (hs : Sl uE h v L) (hsm : Small L) (ho : Own b v) (hb : b ≤ h.nx.nat) (hc : HC h) (hn : L.length ≤ 1000) :
    Ret fs f94 [v] h fun u h' => u = .i .i64 (rankS L : Int) ∧ Grow b h h' := by
  apply ret_of rfl
  show W fs none f94_c _ _ _
  unfold f94_c
  simp (disch := omega) only [f94_r0, f94_r1, f94_r2, w_reg, w_seq, w_block, seqK_n, x_nil, x_mv, x_as, x_len, kx, rvP_ok, ev_t, ev_c, getV_some, putD_some, frame_1, of0, getK_set, Nat.reduceEqDiff, ↓reduceIte, hs.len]
  refine W_loop (f94_I1 b h v L.length (rankS L)) (fun i => L.length - i) ?_ 0 ⟨L, 0, Nat.zero_le _, rfl, Nat.le_refl _, hsm, rfl, hs, Grow.refl _ _, by simp (disch := omega) only [getK_set, Nat.reduceEqDiff, ↓reduceIte, and_self, Int.natCast_zero]⟩
  generalize rankS L = R
  generalize L.length = n at *
  rintro i fr h1 ⟨L, c, hi, hl, hci, hsm, hR, hs, hgr, g0, g3, g9, g10⟩
  have hc1 := hgr.hc hc
  unfold f94_l1
  by_cases hlt : i < n
  · have hlt' : (i : Int) < (n : Int) := by omega
    have hil : i < L.length := by omega
    obtain ⟨q, hp1, hp2⟩ := hs.at i hil
    have hx := hsm.at hil
    have hg : L.getD i 0 = L[i] := by simp [List.getD, hil]
    rw [show n - i = (n - (i + 1)) + 1 by omega, elK, hg] at hR
    by_cases e : L[i] = 0
    · have e' : ((L[i] : Nat) : Int) = 0 := by omega
      rw [if_pos e] at hR
      simp (disch := omega) only [f94_r3, f94_r4, f94_r5, f94_r6, f94_r14, w_skip, w_reg, w_seq, w_cond, w_block, w_exit, seqK_n, seqK_e, atK_e, loopK_n, ckB_b, cbB_b, true_and, x_nil, x_mv, x_as, x_ld, x_bin, x_iads, kx, rvP_ok, okv_some, ev_t, ev_c, getV_some, putD_some, bin_add, bin_eql, bin_lss, of0, of1, getK_set, Nat.reduceEqDiff, ↓reduceIte, g0, g9, g10, hlt', decide_true, hp1, hp2, uE, e', fw64]
      exact ⟨i + 1, by omega, L, c, hlt, hl, by omega, hsm, hR, hs, hgr, by simp (disch := omega) only [getK_set, Nat.reduceEqDiff, ↓reduceIte, g0, g3, g9, and_self, Int.natCast_add, Int.natCast_one]⟩
    · have e' : ¬ ((L[i] : Nat) : Int) = 0 := by omega
      rw [if_neg e] at hR
      simp (disch := omega) only [f94_r3, f94_r4, f94_r5, f94_r6, f94_r7, f94_r8, f94_r9, w_skip, w_reg, w_seq, w_cond, w_block, seqK_n, ckB_b, cbB_b, true_and, x_nil, x_mv, x_as, x_ld, x_bin, x_neg, x_iads, kx, rvP_ok, okv_some, ev_t, ev_c, getV_some, putD_some, bin_add, bin_eql, bin_lss, onI_i, of0, of1, getK_set, Nat.reduceEqDiff, ↓reduceIte, Bool.false_eq_true, g0, g3, g9, g10, hlt', decide_true, decide_false, hp1, hp2, uE, e', fw64, low_u (show 0 < L[i] by omega) hx]
      refine f94_inner (b := b) (h := h) (v := v) (p := L[i]) (c := c + 1) (i := i) (n := n) (R := elR L[i] (n - (i + 1)) (i + 1) L) (j := i + 1) hc ho hx hn ⟨L, by omega, hl, hsm, rfl, hs, hgr, by simp (disch := omega) only [getK_set, Nat.reduceEqDiff, ↓reduceIte, g0, g9, g10, and_self, Int.natCast_add, Int.natCast_one]⟩ ?_
      rintro fr h2 hsm2 hl2 hs2 hgr2 ⟨g0, g3, g9, g10⟩
      simp (disch := omega) only [f94_r14, w_reg, seqK_n, atK_n, atK_e, loopK_n, x_nil, x_mv, x_bin, kx, rvP_ok, okv_some, ev_t, ev_c, getV_some, putD_some, bin_add, of1, getK_set, ↓reduceIte, g10, fw64]
      exact ⟨i + 1, by omega, _, c + 1, hlt, hl2, by omega, hsm2, hR, hs2, hgr2, by simp (disch := omega) only [getK_set, Nat.reduceEqDiff, ↓reduceIte, g0, g3, g9, and_self, Int.natCast_add, Int.natCast_one]⟩
  · obtain rfl : i = n := by omega
    have hlt' : ¬ (i : Int) < (i : Int) := by omega
    rw [Nat.sub_self, elK] at hR
    subst hR
    simp (disch := omega) only [f94_r3, f94_r15, f94_rs, w_reg, w_seq, w_cond, w_exit, w_ret, seqK_n, seqK_e, atK_e, loopK_e, ckB_b, cbB_b, true_and, retK_r, x_nil, x_mv, x_as, x_bin, kx, rvP_ok, okv_some, ev_t, getV_some, putD_some, bin_lss, oGet_s, readRs_nil, readRs_t, retV_1, Option.some.injEq, exists_eq_left', getK_set, Nat.reduceEqDiff, ↓reduceIte, Bool.false_eq_true, g3, g9, g10, hlt', decide_false, true_and]
    exact hgr
end
end Go.Ev
namespace Go.Ev
open Go Go.RowKit
noncomputable def f82_r0 : List EOper := [⟨(some (K.ofNat 1)), none, .box 1 (.t (K.ofNat 0))⟩, ⟨(some (K.ofNat 2)), none, .as (.c .fnil)⟩]
noncomputable def f82_r1 : List EOper := [⟨(some (K.ofNat 3)), none, .mkfn (K.ofNat 92) [(.t (K.ofNat 1))]⟩, ⟨(some (K.ofNat 2)), none, .as (.t (K.ofNat 3))⟩]
noncomputable def f82_c : EC := (.seq (.reg f82_r0) (.seq (.reg f82_r1) .ret))
noncomputable def f82 : EF := ⟨4, [.tmp (K.ofNat 2)], f82_c, none⟩
theorem f82_rs : f82.rs = [.tmp (K.ofNat 2)] := of_eq_true (eq_self _)
noncomputable def f93_r0 : List EOper := [⟨(some (K.ofNat 1)), none, .box 1 (.t (K.ofNat 0))⟩, ⟨(some (K.ofNat 2)), none, .as (.c (.i .u64 (.ofNat 0)))⟩]
noncomputable def f93_r1 : List EOper := [⟨(some (K.ofNat 3)), none, .alloc 1 [(.i .u64 (.ofNat 0))]⟩]
noncomputable def f93_r2 : List EOper := [⟨(some (K.ofNat 5)), none, .ld (.t (K.ofNat 1))⟩, ⟨(some (K.ofNat 6)), none, .call (.c (.fn (K.ofNat 82) [])) [(.t (K.ofNat 5))]⟩]
noncomputable def f93_r3 : List EOper := [⟨(some (K.ofNat 4)), none, .as (.t (K.ofNat 7))⟩]
noncomputable def f93_a0 : EC := (.reg f93_r3)
noncomputable def f93_r4 : List Stage := [⟨[⟨(some (K.ofNat 8)), none, .ld (.t (K.ofNat 3))⟩, ⟨(some (K.ofNat 9)), none, .ld (.t (K.ofNat 1))⟩, ⟨(some (K.ofNat 10)), none, .mv (.t (K.ofNat 4))⟩, ⟨(some (K.ofNat 11)), none, .bin .andNot (.t (K.ofNat 9)) (.t (K.ofNat 10))⟩, ⟨(some (K.ofNat 12)), none, .bin .shl (.c (.i .u64 (.ofNat 1))) (.t (K.ofNat 11))⟩, ⟨(some (K.ofNat 13)), none, .bin .xor (.t (K.ofNat 8)) (.t (K.ofNat 12))⟩], [], (some ⟨none, none, .st 1 (.t (K.ofNat 3)) (.t (K.ofNat 13))⟩), []⟩, ⟨[], [], none, []⟩]
noncomputable def f93_b0 : EC := (.block 1 (.draw f93_r4))
noncomputable def f93_r5 : List EOper := [⟨(some (K.ofNat 14)), none, .ld (.t (K.ofNat 3))⟩, ⟨(some (K.ofNat 2)), none, .as (.t (K.ofNat 14))⟩]
noncomputable def f93_c : EC := (.seq (.reg f93_r0) (.seq (.reg f93_r1) (.seq (.seq (.reg f93_r2) (.block 0 (.rangeF (.t (K.ofNat 6)) [(K.ofNat 7)] f93_a0 f93_b0))) (.seq (.reg f93_r5) .ret))))
noncomputable def f93 : EF := ⟨15, [.tmp (K.ofNat 2)], f93_c, none⟩
theorem f93_rs : f93.rs = [.tmp (K.ofNat 2)] := of_eq_true (eq_self _)
section
variable {fs : T EF} {ro : Option K}
/-- The corners of a set, one after another. -/
theorem corner_yields {k idp : K} {S : Int} {ef : EF} (hf : fs.get k = some coF) (hp : fs.get (.z (.z (.z (.o (.z .e))))) = some ef) (hn : ef.nv = some (flatG partG)) :
    Yields fs k [.p idp 0] (fun h => h.get idp = .cells 1 [.i .i64 S]) (((List.range 6).filter fun i => partB (cornI i) S).map fun (i : Nat) => V.i .i64 (cornI i)) := by
  intro id I D h hN h0 round
  have hlen : (((List.range 6).filter fun i => partB (cornI i) S).map fun (i : Nat) => V.i .i64 (cornI i)).length = cntB (fun i => partB (cornI i) S) 6 := by simp [cntB]
  rw [hlen]
  refine co_call (I := fun j h => I (cntB (fun i => partB (cornI i) S) j) h) (Q := D) hf hp hn (fun i h hi => hN _ _ hi) (fun j h hj hB hI => ?_) (fun j h hj hB hI => ?_) (by simpa [cntB] using h0)
  · have h1 := filter_at (B := fun i => partB (cornI i) S) hj hB
    have h2 : cntB (fun i => partB (cornI i) S) j < (((List.range 6).filter fun i => partB (cornI i) S).map fun (i : Nat) => V.i .i64 (cornI i)).length := by
      rw [List.length_map]; exact (List.getElem?_eq_some_iff.1 h1).1
    obtain ⟨b, h', r1, r2, r3⟩ := round (cntB (fun i => partB (cornI i) S) j) h h2 hI
    refine ⟨b, h', ?_, fun e => by rw [cntB_succ, if_pos hB]; exact r2 e, r3⟩
    have h3 : (((List.range 6).filter fun i => partB (cornI i) S).map fun (i : Nat) => V.i .i64 (cornI i))[cntB (fun i => partB (cornI i) S) j] = .i .i64 (cornI j) := by
      rw [List.getElem_map, (List.getElem?_eq_some_iff.1 h1).2]
    rw [← h3]; exact r1
  · rw [cntB_succ, hB]; simpa using hI
theorem f82_ret {h : H} {x : Int} : Ret fs f82 [.i .i64 x] h fun u h' => u = .fn (K.ofNat 92) [.p h.nx 0] ∧ h' = h.new (.cells 1 [.i .i64 x]) := by
  apply ret_of rfl
  show W fs none f82_c _ _ _
  unfold f82_c
  have : cellsN 1 (.i .i64 x) = some [.i .i64 x] := rfl
  simp (disch := omega) only [f82_r0, f82_r1, f82_rs, w_reg, w_seq, w_ret, seqK_n, retK_r, x_nil, x_as, x_box, x_mkfn, kx, rvP_ok, ev_t, ev_c, evs_nil, evs_cons, getV_some, putD_some, oGet_s, readRs_nil, readRs_t, retV_1, frame_1, Option.some.injEq, exists_eq_left', getK_set, Nat.reduceEqDiff, ↓reduceIte, this, and_self]
noncomputable def cornN (x : Nat) : List Nat := ((List.range 6).filter fun i => partB (cornI i) (x : Int)).map fun i => 2 ^ i
theorem cornI_eq : ∀ i, i < 6 → cornI i = ((2 ^ i : Nat) : Int) := by decide
theorem cornN_ys {x : Nat} : (((List.range 6).filter fun i => partB (cornI i) (x : Int)).map fun (i : Nat) => V.i .i64 (cornI i)) = (cornN x).map nE := by
  unfold cornN
  rw [List.map_map]
  apply List.map_congr_left
  intro i hi
  rw [List.mem_filter, List.mem_range] at hi
  show V.i .i64 (cornI i) = V.i .i64 ((2 ^ i : Nat) : Int)
  rw [cornI_eq i hi.1]
def lessC (x c : Nat) : Nat := Nat.xor x (Nat.land x c)
noncomputable def bordTo (x j : Nat) : Nat := ((cornN x).take j).foldl (fun s c => s ^^^ 2 ^ lessC x c) 0
noncomputable def bordX (x : Nat) : Nat := (cornN x).foldl (fun s c => s ^^^ 2 ^ lessC x c) 0
theorem bordTo_succ {x j : Nat} (hj : j < (cornN x).length) : bordTo x (j + 1) = bordTo x j ^^^ 2 ^ lessC x (cornN x)[j] := by
  unfold bordTo; rw [List.take_succ_eq_append_getElem hj, List.foldl_append]; rfl
theorem less_lt : ∀ x, x < 64 → ∀ c ∈ cornN x, c ≤ 32 ∧ lessC x c ≤ 62 := by decide +kernel
theorem bordTo_lt {x : Nat} (hx : x < 64) : ∀ j, j ≤ (cornN x).length → bordTo x j < 9223372036854775808
  | 0, _ => by unfold bordTo; simp
  | j + 1, hj => by
    rw [bordTo_succ hj]
    have h1 := (less_lt x hx _ (List.getElem_mem hj)).2
    have h2 : 2 ^ lessC x (cornN x)[j] < 2 ^ 63 := Nat.pow_lt_pow_right (by omega) (by omega)
    exact Nat.xor_lt_two_pow (n := 63) (bordTo_lt hx j (by omega)) h2
theorem andNot_n {m n : Nat} (hm : m < 9223372036854775808) (hn : n < 9223372036854775808) : binV .andNot (.i .i64 (m : Int)) (.i .i64 (n : Int)) = some (.i .i64 (lessC m n : Int)) := by
  have : binV .andNot (.i .i64 (m : Int)) (.i .i64 (n : Int)) = some (.i .i64 (ibits (fun m n => Nat.xor m (Nat.land m n)) (fun _ x y => x &&& ~~~y) .i64 m n)) := rfl
  rw [this, ibits_nat (by show _ ≤ 9223372036854775807; omega) (by show _ ≤ 9223372036854775807; omega)]; rfl
theorem shl_u {n : Nat} (hn : n ≤ 62) : binV .shl (.i .u64 1) (.i .i64 (n : Int)) = some (.i .u64 ((2 ^ n : Nat) : Int)) := by
  have h2 : 2 ^ n ≤ 4611686018427387904 := Nat.pow_le_pow_right (by omega) hn
  have h3 : ((2 ^ n : Nat) : Int) ≤ 4611686018427387904 := Int.ofNat_le.2 h2
  rw [bin_shl (by omega), show min (n : Int).toNat (IntKind.bits .u64) = n by show min (n : Int).toNat 64 = n; omega, Int.one_mul, show (2 : Int) ^ n = ((2 ^ n : Nat) : Int) by simp]
  rw [fwu64 (Int.natCast_nonneg _) (by omega)]
structure BorI (b : Nat) (h : H) (id1 id3 idf idl : K) (x s : Nat) (lb : Blk) (h1 : H) : Prop where
  gr : Grow b h h1
  e1 : h1.get id1 = .cells 1 [nE x]
  e3 : h1.get id3 = .cells 1 [uE s]
  ef : h1.get idf = .cells 1 [nE x]
  el : h1.get idl = lb
  nx : idl.nat + 1 ≤ h1.nx.nat
  o1 : id1.nat < id3.nat
  o3 : id3.nat < idf.nat
  of : idf.nat < idl.nat
  ob : b ≤ id1.nat
section
variable {b : Nat} {h h1 : H} {id1 id3 idf idl : K} {x s s' : Nat} {lb : Blk}
theorem BorI.loop (t : BorI b h id1 id3 idf idl x s lb h1) (lb' : Blk) : BorI b h id1 id3 idf idl x s lb' (h1.put idl lb') := by
  have := t.nx; have := t.o1; have := t.o3; have := t.of; have := t.ob
  exact ⟨t.gr.trans (Grow.put (by omega) (by omega) _), by rw [get_put_other (kNe (by omega))]; exact t.e1, by rw [get_put_other (kNe (by omega))]; exact t.e3, by rw [get_put_other (kNe (by omega))]; exact t.ef, get_put_same, t.nx, t.o1, t.o3, t.of, t.ob⟩
theorem BorI.put (t : BorI b h id1 id3 idf idl x s lb h1) : BorI b h id1 id3 idf idl x s' lb (h1.put id3 (.cells 1 [uE s'])) := by
  have := t.nx; have := t.o1; have := t.o3; have := t.of; have := t.ob
  exact ⟨t.gr.trans (Grow.put (by omega) (by omega) _), by rw [get_put_other (kNe (by omega))]; exact t.e1, get_put_same, by rw [get_put_other (kNe (by omega)).symm]; exact t.ef, by rw [get_put_other (kNe (by omega)).symm]; exact t.el, t.nx, t.o1, t.o3, t.of, t.ob⟩
end
theorem f93_ret {h : H} {x : Nat} {ef : EF} (h82 : fs.get (K.ofNat 82) = some f82) (h92 : fs.get (K.ofNat 92) = some coF) (h54 : fs.get (K.ofNat 54) = some ef) (hn : ef.nv = some (flatG partG)) (hx : x < 64) :
    Ret fs f93 [nE x] h fun u h' => u = uE (bordX x) ∧ Grow h.nx.nat h h' := by
  apply ret_of rfl
  show W fs none f93_c _ _ _
  unfold f93_c
  have hcn : cellsN 1 (nE x) = some [nE x] := rfl
  have n1 := nx_new h (.cells 1 [nE x])
  have n2 := nx_new (h.new (.cells 1 [nE x])) (.cells 1 [uE 0])
  have hu0 : V.i .u64 0 = uE 0 := rfl
  have e1 : ((h.new (.cells 1 [nE x])).new (.cells 1 [uE 0])).get h.nx = .cells 1 [nE x] := by rw [get_new_old (by omega), get_new_same]
  have e3 : ((h.new (.cells 1 [nE x])).new (.cells 1 [uE 0])).get (h.new (.cells 1 [nE x])).nx = .cells 1 [uE 0] := get_new_same
  have g0 : Grow h.nx.nat h ((h.new (.cells 1 [nE x])).new (.cells 1 [uE 0])) := (Grow.new (Nat.le_refl _) _).trans (Grow.new (by omega) _)
  have ld1 : loadV ((h.new (.cells 1 [nE x])).new (.cells 1 [uE 0])) (.p h.nx 0) one? = .ok (nE x) _ := load_p e1 rfl
  simp (disch := omega) only [f93_r0, f93_r1, f93_r2, w_reg, w_seq, seqK_n, x_nil, x_as, x_alloc, x_box, x_ld, x_call, kx, rvP_ok, ev_t, ev_c, evs_nil, evs_cons, getV_some, putD_some, oGet_s, frame_1, of0, getK_set, Nat.reduceEqDiff, ↓reduceIte, hcn, hu0, ld1]
  refine (callP_0 (ef := f82) h82 rfl (f82_ret (x := (x : Int)))).mono ?_
  rintro u h3 ⟨rfl, rfl⟩
  simp (disch := omega) only [w_block, seqK_n, x_nil, kx, putD_some]
  generalize hid3 : (h.new (.cells 1 [nE x])).nx = id3 at *
  generalize hh2 : (h.new (.cells 1 [nE x])).new (.cells 1 [uE 0]) = h2 at *
  have n3 := nx_new h2 (.cells 1 [nE x])
  have ga : Grow h2.nx.nat h2 (h2.new (.cells 1 [nE x])) := Grow.new (Nat.le_refl _) _
  have ef : (h2.new (.cells 1 [nE x])).get h2.nx = .cells 1 [nE x] := get_new_same
  rw [← ga.old _ (by omega)] at e3 e1
  have g1 := g0.trans (ga.low (b := h.nx.nat) (by omega))
  rw [show V.i .i64 (x : Int) = nE x from rfl]
  generalize hh3 : h2.new (.cells 1 [nE x]) = h3 at *
  generalize hfr1 : T.set (K.ofNat 6) (V.fn (K.ofNat 92) [V.p h2.nx 0]) _ = fr1
  have f6 : fr1.get (K.ofNat 6) = some (.fn (K.ofNat 92) [.p h2.nx 0]) := by rw [← hfr1]; simp (disch := omega) only [getK_set, ↓reduceIte]
  have f1 : fr1.get (K.ofNat 1) = some (.p h.nx 0) := by rw [← hfr1]; simp (disch := omega) only [getK_set, Nat.reduceEqDiff, ↓reduceIte]
  have f3 : fr1.get (K.ofNat 3) = some (.p id3 0) := by rw [← hfr1]; simp (disch := omega) only [getK_set, Nat.reduceEqDiff, ↓reduceIte]
  clear hfr1
  have n4 := nx_new h3 (rdyB fr1 [(K.ofNat 7)] f93_a0 f93_b0)
  have hnew : Grow h3.nx.nat h3 (h3.new (rdyB fr1 [(K.ofNat 7)] f93_a0 f93_b0)) := Grow.new (Nat.le_refl _) _
  have hy := corner_yields (fs := fs) (idp := h2.nx) (S := (x : Int)) h92 h54 hn
  rw [cornN_ys] at hy
  refine W_range (k := (K.ofNat 92)) (caps := [.p h2.nx 0]) (N := fun h => h.get h2.nx = .cells 1 [nE x]) (ys := (cornN x).map nE) rfl (by simp (disch := omega) only [ev_t, getV_some, f6]) hy
    (fun j h5 => ∃ lb, BorI h.nx.nat h h.nx id3 h2.nx h3.nx x (bordTo x j) lb h5) (fun _ _ => False) (fun i h5 ⟨lb, ht⟩ => ht.ef)
    ⟨_, g1.trans (hnew.low (by omega)), by rw [hnew.old _ (by omega)]; exact e1, by rw [hnew.old _ (by omega)]; exact e3, by rw [hnew.old _ (by omega)]; exact ef, get_new_same, by omega, by omega, by omega, by omega, Nat.le_refl _⟩ ?_ ?_ (fun _ _ _ hf => hf.elim)
  · rintro j h5 hj ⟨lb, ht⟩ hrd
    have hj' : j < (cornN x).length := by simpa using hj
    obtain rfl : lb = rdyB fr1 [(K.ofNat 7)] f93_a0 f93_b0 := ht.el.symm.trans hrd
    rw [List.getElem_map]
    rw [show ∀ Q fr h, W fs (some h3.nx) f93_a0 Q fr h = X fs f93_r3 (Q .normal) fr h from fun _ _ _ => rfl]
    simp (disch := omega) only [f93_r3, rndA_n, x_nil, x_as, ev_t, getV_some, putD_some, getK_set, ↓reduceIte]
    refine ⟨ht.el, ?_⟩
    have ht7 := ht.loop (bsyB fr1 [(K.ofNat 7)] f93_a0 f93_b0)
    generalize h5.put h3.nx (bsyB fr1 [(K.ofNat 7)] f93_a0 f93_b0) = h7 at *
    obtain ⟨c1, c2⟩ := less_lt x hx _ (List.getElem_mem hj')
    have hs := bordTo_succ hj'
    have hb := bordTo_lt hx j (by omega)
    have hb2 := bordTo_lt hx (j + 1) hj'
    have h2p : 2 ^ lessC x (cornN x)[j] < 9223372036854775808 := Nat.lt_of_lt_of_le (Nat.pow_lt_pow_right (a := 2) (by omega) (show lessC x (cornN x)[j] < 63 by omega)) (by decide)
    rw [show ∀ Q fr h, W fs (some h3.nx) f93_b0 Q fr h = XD fs f93_r4 (atK 1 Q .normal) fr h from fun _ _ _ => rfl]
    have hst : storeV h7 1 (.p id3 0) (.i .u64 ((bordTo x j ^^^ 2 ^ lessC x (cornN x)[j] : Nat) : Int)) = .ok undefV (h7.put id3 (.cells 1 [uE (bordTo x (j + 1))])) := by
      rw [store_p ht7.e3 rfl (by omega), hs]; rfl
    have ld1 : loadV h7 (.p h.nx 0) one? = .ok (nE x) h7 := load_p ht7.e1 rfl
    have ld3 : loadV h7 (.p id3 0) one? = .ok (uE (bordTo x j)) h7 := load_p ht7.e3 rfl
    unfold nE at ld1 ⊢
    unfold uE at ld3
    simp (disch := omega) only [f93_r4, atK_n, true_and, rndK_n, x_nil, x_st, kx, kg, xg_nil, xg_mv, xg_ld, xg_bin, xd_cons, fresh_nil, stK_n, stK_s, stay_nil, rvP_ok, okv_some, ev_t, ev_c, getV_some, putD_some, putD_none, of1, getK_set, Nat.reduceEqDiff, ↓reduceIte, f1, f3, ld1, ld3, andNot_n (show x < 9223372036854775808 by omega) (show (cornN x)[j] < 9223372036854775808 by omega), shl_u c2, xor_n kmu hb h2p, hst]
    refine ⟨ht7.put.el, rdyB fr1 [(K.ofNat 7)] f93_a0 f93_b0, ?_⟩
    exact ht7.put.loop _
  · rintro h5 ⟨lb, ht⟩
    have ht2 := ht.loop .dead
    rw [List.length_map] at ht2
    rw [show bordTo x (cornN x).length = bordX x by unfold bordTo bordX; rw [List.take_length]] at ht2
    have ld3 : loadV (h5.put h3.nx .dead) (.p id3 0) one? = .ok (uE (bordX x)) (h5.put h3.nx .dead) := load_p ht2.e3 rfl
    simp (disch := omega) only [f93_r5, f93_rs, w_reg, w_seq, w_ret, seqK_n, atK_n, true_and, retK_r, x_nil, x_as, x_ld, kx, rvP_ok, ev_t, getV_some, putD_some, oGet_s, readRs_nil, readRs_t, retV_1, Option.some.injEq, exists_eq_left', getK_set, ↓reduceIte, f3, ld3, true_and]
    exact ht2.gr
end
end Go.Ev
namespace Go.Ev
open Go Go.RowKit
noncomputable def f89_r0 : List EOper := [⟨(some (K.ofNat 2)), none, .box 64 (.t (K.ofNat 0))⟩, ⟨(some (K.ofNat 3)), none, .box 1 (.t (K.ofNat 1))⟩, ⟨(some (K.ofNat 4)), none, .as (.c (.i .i64 (.ofNat 0)))⟩]
noncomputable def f89_r1 : List EOper := [⟨(some (K.ofNat 5)), none, .alloc 1 [.sn]⟩]
noncomputable def f89_r2 : List EOper := [⟨(some (K.ofNat 7)), none, .ldn 64 (.t (K.ofNat 2))⟩, ⟨(some (K.ofNat 8)), none, .call (.c (.fn (K.ofNat 78) [])) [(.t (K.ofNat 7))]⟩]
noncomputable def f89_r3 : List EOper := [⟨(some (K.ofNat 6)), none, .as (.t (K.ofNat 9))⟩]
noncomputable def f89_a0 : EC := (.reg f89_r3)
noncomputable def f89_r4 : List Stage := [⟨[⟨(some (K.ofNat 10)), none, .mv (.t (K.ofNat 6))⟩, ⟨(some (K.ofNat 12)), none, .ld (.t (K.ofNat 3))⟩], [], (some ⟨(some (K.ofNat 11)), none, .call (.c (.fn (K.ofNat 75) [])) [(.t (K.ofNat 10))]⟩), []⟩, ⟨[⟨(some (K.ofNat 13)), none, .bin .eql (.t (K.ofNat 11)) (.t (K.ofNat 12))⟩], [⟨(some (K.ofNat 12)), none, .ld (.t (K.ofNat 3))⟩], none, []⟩]
noncomputable def f89_r5 : List Stage := [⟨[⟨(some (K.ofNat 14)), none, .ld (.t (K.ofNat 5))⟩, ⟨(some (K.ofNat 15)), none, .mv (.t (K.ofNat 6))⟩], [], (some ⟨(some (K.ofNat 16)), none, .call (.c (.fn (K.ofNat 93) [])) [(.t (K.ofNat 15))]⟩), []⟩, ⟨[⟨(some (K.ofNat 17)), none, .bslice 1 1 [(.i .u64 (.ofNat 0))] [(0, 1, (.t (K.ofNat 16)))]⟩], [⟨(some (K.ofNat 14)), none, .ld (.t (K.ofNat 5))⟩], (some ⟨(some (K.ofNat 18)), none, .app 1 (.t (K.ofNat 14)) (.t (K.ofNat 17))⟩), [(K.ofNat 17)]⟩, ⟨[], [], (some ⟨none, none, .st 1 (.t (K.ofNat 5)) (.t (K.ofNat 18))⟩), []⟩, ⟨[], [], none, []⟩]
noncomputable def f89_b0 : EC := (.block 1 (.seq (.draw f89_r4) (.cond (.t (K.ofNat 13)) (.draw f89_r5) .skip)))
noncomputable def f89_r6 : List EOper := [⟨(some (K.ofNat 19)), none, .ld (.t (K.ofNat 5))⟩, ⟨(some (K.ofNat 20)), none, .call (.c (.fn (K.ofNat 94) [])) [(.t (K.ofNat 19))]⟩, ⟨(some (K.ofNat 4)), none, .as (.t (K.ofNat 20))⟩]
noncomputable def f89_c : EC := (.seq (.reg f89_r0) (.seq (.reg f89_r1) (.seq (.seq (.reg f89_r2) (.block 0 (.rangeF (.t (K.ofNat 8)) [(K.ofNat 9)] f89_a0 f89_b0))) (.seq (.reg f89_r6) .ret))))
noncomputable def f89 : EF := ⟨21, [.tmp (K.ofNat 4)], f89_c, none⟩
theorem f89_rs : f89.rs = [.tmp (K.ofNat 4)] := of_eq_true (eq_self _)
section
variable {fs : T EF} {ro : Option K}
noncomputable def rowsOf (l : List Nat) (k : Nat) : List Nat := (l.filter fun x => decide (pop6 x = k)).map bordX
theorem rowsOf_snoc {l : List Nat} {x k : Nat} : rowsOf (l ++ [x]) k = if pop6 x = k then rowsOf l k ++ [bordX x] else rowsOf l k := by
  unfold rowsOf
  rw [List.filter_append, List.map_append]
  by_cases e : pop6 x = k <;> simp [e]
theorem rowsOf_len {l : List Nat} {k : Nat} : (rowsOf l k).length ≤ l.length := by unfold rowsOf; rw [List.length_map]; exact List.length_filter_le _ _
theorem bordX_lt {x : Nat} (hx : x < 64) : bordX x < 9223372036854775808 := by
  have := bordTo_lt hx (cornN x).length (Nat.le_refl _)
  rwa [show bordTo x (cornN x).length = bordX x by unfold bordTo bordX; rw [List.take_length]] at this
theorem rows_small {l : List Nat} {k : Nat} (h : ∀ x ∈ l, x < 64) : Small (rowsOf l k) := by
  intro y hy
  unfold rowsOf at hy
  obtain ⟨x, hx, rfl⟩ := List.mem_map.1 hy
  exact bordX_lt (h x (List.mem_filter.1 hx).1)
theorem mem64_lt {B : Nat → Bool} : ∀ x ∈ mem64 B, x < 64 := fun x hx => by
  unfold mem64 at hx
  rw [List.mem_filter, List.mem_range] at hx
  exact hx.1
/-- The rank of the borders of the faces of this size. -/
noncomputable def brS (B : Nat → Bool) (k : Nat) : Nat := rankS (rowsOf (mem64 B) k)
theorem f89_ret {h : H} {B : Nat → Bool} {k : Nat} {ef : EF} (hp75 : ∀ m : Nat, m < 64 → ∀ h P, CallP fs (.fn (K.ofNat 75) []) [.i .i64 (m : Int)] h P = P (.i .i64 (pop6 m : Int)) h)
    (h78 : fs.get (K.ofNat 78) = some f78) (h91 : fs.get (K.ofNat 91) = some alF) (h82 : fs.get (K.ofNat 82) = some f82) (h92 : fs.get (K.ofNat 92) = some coF) (h54 : fs.get (K.ofNat 54) = some ef) (hn : ef.nv = some (flatG partG)) (h93 : fs.get (K.ofNat 93) = some f93) (h94 : fs.get (K.ofNat 94) = some f94) (hc : HC h) :
    Ret fs f89 [.agg (boolV B), .i .i64 (k : Int)] h fun u h' => u = .i .i64 (brS B k : Int) ∧ Grow h.nx.nat h h' := by
  apply ret_of rfl
  show W fs none f89_c _ _ _
  unfold f89_c
  have n1 := nx_new h (.cells 64 (boolV B))
  have n2 := nx_new (h.new (.cells 64 (boolV B))) (.cells 1 [nE k])
  have n3 := nx_new ((h.new (.cells 64 (boolV B))).new (.cells 1 [nE k])) (.cells 1 [.sn])
  have hcn : cellsN 1 (.i .i64 (k : Int)) = some [nE k] := rfl
  have hA : Ar V.b (((h.new (.cells 64 (boolV B))).new (.cells 1 [nE k])).new (.cells 1 [.sn])) h.nx (arr B 64) := by
    unfold Ar; rw [arr_len, get_new_old (by omega), get_new_old (by omega), get_new_same]; rfl
  simp (disch := omega) only [f89_r0, f89_r1, f89_r2, w_reg, w_seq, seqK_n, x_nil, x_as, x_alloc, x_box, x_ldn, x_call, kx, rvP_ok, ev_t, ev_c, evs_nil, evs_cons, getV_some, putD_some, oGet_s, frame_2, of0, getK_set, Nat.reduceEqDiff, ↓reduceIte, cells64 (boolV_len (B := B)), hcn, hA.ldn (n := 64) (by rw [arr_len])]
  refine (callP_0 (ef := f78) h78 rfl (f78_ret (boolV_len (B := B)))).mono ?_
  rintro u h1 ⟨rfl, rfl⟩
  simp (disch := omega) only [w_block, seqK_n, x_nil, kx, putD_some]
  have g0 : Grow h.nx.nat h (((h.new (.cells 64 (boolV B))).new (.cells 1 [nE k])).new (.cells 1 [.sn])) := ((Grow.new (Nat.le_refl _) _).trans (Grow.new (by omega) _)).trans (Grow.new (by omega) _)
  have e5 : (((h.new (.cells 64 (boolV B))).new (.cells 1 [nE k])).new (.cells 1 [.sn])).get ((h.new (.cells 64 (boolV B))).new (.cells 1 [nE k])).nx = .cells 1 [.sn] := get_new_same
  have e3 : (((h.new (.cells 64 (boolV B))).new (.cells 1 [nE k])).new (.cells 1 [.sn])).get (h.new (.cells 64 (boolV B))).nx = .cells 1 [nE k] := by rw [get_new_old (by omega), get_new_same]
  generalize hid5 : ((h.new (.cells 64 (boolV B))).new (.cells 1 [nE k])).nx = id5 at *
  generalize hid3 : (h.new (.cells 64 (boolV B))).nx = id3 at *
  generalize hh2 : ((h.new (.cells 64 (boolV B))).new (.cells 1 [nE k])).new (.cells 1 [.sn]) = h2 at *
  have n4 := nx_new h2 (.cells 64 (boolV B))
  have hc2 := g0.hc hc
  have ga : Grow h2.nx.nat h2 (h2.new (.cells 64 (boolV B))) := Grow.new (Nat.le_refl _) _
  have ef : (h2.new (.cells 64 (boolV B))).get h2.nx = .cells 64 (boolV B) := get_new_same
  rw [← ga.old _ (by omega)] at e3 e5
  have g1 := g0.trans (ga.low (b := h.nx.nat) (by omega))
  generalize hh3 : h2.new (.cells 64 (boolV B)) = h3 at *
  have hc3 := g1.hc hc
  generalize hfr1 : T.set (K.ofNat 8) (V.fn (K.ofNat 91) [V.p h2.nx 0]) _ = fr1
  have f8 : fr1.get (K.ofNat 8) = some (.fn (K.ofNat 91) [.p h2.nx 0]) := by rw [← hfr1]; simp (disch := omega) only [getK_set, ↓reduceIte]
  have f3 : fr1.get (K.ofNat 3) = some (.p id3 0) := by rw [← hfr1]; simp (disch := omega) only [getK_set, Nat.reduceEqDiff, ↓reduceIte]
  have f5 : fr1.get (K.ofNat 5) = some (.p id5 0) := by rw [← hfr1]; simp (disch := omega) only [getK_set, Nat.reduceEqDiff, ↓reduceIte]
  clear hfr1
  have hlen := ysOf_len (B := B)
  have n5 := nx_new h3 (rdyB fr1 [(K.ofNat 9)] f89_a0 f89_b0)
  have hnew : Grow h3.nx.nat h3 (h3.new (rdyB fr1 [(K.ofNat 9)] f89_a0 f89_b0)) := Grow.new (Nat.le_refl _) _
  refine W_range (k := (K.ofNat 91)) (caps := [.p h2.nx 0]) (N := fun h => h.get h2.nx = .cells 64 (boolV B)) (ys := ysOf B) rfl (by simp (disch := omega) only [ev_t, getV_some, f8]) (all_yields h91 boolV_at)
    (fun j h5 => ∃ o lb, AccI uE h.nx.nat h id5 h3.nx [(id3, .cells 1 [nE k]), (h2.nx, .cells 64 (boolV B))] o (rowsOf ((mem64 B).take j) k) lb h5) (fun _ _ => False) (fun i h5 ⟨o, lb, ht⟩ => ht.kp (h2.nx, _) (by simp))
    ⟨.sn, _, Sl.nil, Own.sn, g1.trans (hnew.low (by omega)), by rw [hnew.old _ (by omega)]; exact e5, ?_, get_new_same, by omega, by omega, by omega, ?_⟩ ?_ ?_ (fun _ _ _ hf => hf.elim)
  · intro p hp
    rcases List.mem_cons.1 hp with rfl | hp
    · show H.get _ id3 = _
      rw [hnew.old _ (by omega)]; exact e3
    · obtain rfl := List.mem_singleton.1 hp
      show H.get _ h2.nx = _
      rw [hnew.old _ (by omega)]; exact ef
  · intro p hp
    rcases List.mem_cons.1 hp with rfl | hp
    · exact ⟨by show id3.nat < _; omega, kNe (show id3.nat < id5.nat by omega)⟩
    · obtain rfl := List.mem_singleton.1 hp
      exact ⟨by show h2.nx.nat < _; omega, (kNe (show id5.nat < h2.nx.nat by omega)).symm⟩
  · rintro j h5 hj ⟨o, lb, ht⟩ hrd
    have hj' : j < (mem64 B).length := by omega
    rw [ysOf_at hj]
    obtain rfl : lb = rdyB fr1 [(K.ofNat 9)] f89_a0 f89_b0 := ht.el.symm.trans hrd
    rw [show ∀ Q fr h, W fs (some h3.nx) f89_a0 Q fr h = X fs f89_r3 (Q .normal) fr h from fun _ _ _ => rfl]
    simp (disch := omega) only [f89_r3, rndA_n, x_nil, x_as, ev_t, getV_some, putD_some, getK_set, ↓reduceIte]
    refine ⟨ht.el, ?_⟩
    have ht7 := ht.loop (bsyB fr1 [(K.ofNat 9)] f89_a0 f89_b0)
    generalize h5.put h3.nx (bsyB fr1 [(K.ofNat 9)] f89_a0 f89_b0) = h7 at *
    have hc7 := ht7.gr.hc hc
    have hx64 := mem64_lt _ (List.getElem_mem hj')
    have hll := mem64_len (B := B)
    have hrl := rowsOf_len (l := (mem64 B).take j) (k := k)
    rw [List.length_take] at hrl
    have ld3 : loadV h7 (.p id3 0) one? = .ok (.i .i64 (k : Int)) h7 := load_p (ht7.kp (id3, .cells 1 [nE k]) (by simp)) rfl
    have hsn := rowsOf_snoc (l := (mem64 B).take j) (x := (mem64 B)[j]) (k := k)
    rw [← List.take_succ_eq_append_getElem hj'] at hsn
    rw [show ∀ Q fr h, W fs (some h3.nx) f89_b0 Q fr h = W fs (some h3.nx) (.block 1 (.seq (.draw f89_r4) (.cond (.t (K.ofNat 13)) (.draw f89_r5) .skip))) Q fr h from fun _ _ _ => rfl]
    by_cases e : pop6 (mem64 B)[j] = k
    · have e' : ((pop6 (mem64 B)[j] : Nat) : Int) = (k : Int) := by omega
      rw [if_pos e] at hsn
      simp (disch := omega) only [f89_r4, f89_r5, w_draw, w_seq, w_cond, w_block, seqK_n, ckB_b, cbB_b, true_and, x_nil, x_call, kx, kg, xg_nil, xg_mv, xg_ld, xg_bin, xd_cons, fresh_nil, stK_n, stK_s, stay_nil, stay_cons, again_ok, beq_i, stay_ld, rvP_ok, okv_some, ev_t, ev_c, evs_nil, evs_cons, getV_some, putD_some, bin_eql, of0, getK_set, Nat.reduceEqDiff, ↓reduceIte, f3, f5, ld3, hp75 _ hx64, e', decide_true, ht7.ld]
      refine (callP_0 (ef := f93) h93 rfl (f93_ret h82 h92 h54 hn hx64)).mono ?_
      rintro u h8 ⟨rfl, g8⟩
      have ht8 := ht7.grow hc7 g8
      have hc8 := ht8.gr.hc hc
      obtain ⟨v', h', p1, p2, p3⟩ := ht8.push (x := bordX (mem64 B)[j]) (c := .i .u64 (bordX (mem64 B)[j] : Int)) rfl hc8 (by omega)
      have ld5 : loadV (h8.new (.cells (1 * 1) [.i .u64 (bordX (mem64 B)[j] : Int)])) (.p id5 0) one? = .ok o _ := load_p (by rw [get_new_old (by have := ht8.nx; have := ht8.o1; omega)]; exact ht8.eb) rfl
      simp (disch := omega) only [atK_n, true_and, rndK_n, x_nil, x_st, x_app, kx, xg_nil, xg_bslice, xd_cons, fresh_nil, stK_n, stK_s, stay_nil, stay_cons, again_ok, stay_ld, rvP_ok, ev_t, getV_some, putD_some, putD_none, oGet_s, cells1_i, fill_1, set_1, Option.some.injEq, exists_eq_left', getK_set, Nat.reduceEqDiff, ↓reduceIte, f5, uE, hc8.dead, ld5, ht8.sl.beq, p1, p2]
      refine ⟨fresh_one (n := 1) (sz := 1) (by simp (disch := omega) only [getK_set, ↓reduceIte]), ?_⟩
      refine ⟨p3.el, v', rdyB fr1 [(K.ofNat 9)] f89_a0 f89_b0, ?_⟩
      rw [hsn]
      exact p3.loop _
    · have e' : ¬ ((pop6 (mem64 B)[j] : Nat) : Int) = (k : Int) := by omega
      rw [if_neg e] at hsn
      simp (disch := omega) only [f89_r4, f89_r5, w_skip, w_draw, w_seq, w_cond, w_block, seqK_n, atK_n, ckB_b, cbB_b, true_and, rndK_n, x_nil, x_call, kx, kg, xg_nil, xg_mv, xg_ld, xg_bin, xd_cons, fresh_nil, stK_n, stK_s, stay_nil, stay_cons, again_ok, beq_i, stay_ld, rvP_ok, okv_some, ev_t, ev_c, evs_nil, evs_cons, getV_some, putD_some, bin_eql, of0, getK_set, Nat.reduceEqDiff, ↓reduceIte, Bool.false_eq_true, f3, ld3, hp75 _ hx64, e', decide_false]
      refine ⟨ht7.el, o, rdyB fr1 [(K.ofNat 9)] f89_a0 f89_b0, ?_⟩
      rw [hsn]
      exact ht7.loop _
  · rintro h5 ⟨o, lb, ht⟩
    have ht2 := ht.loop .dead
    rw [hlen, List.take_length] at ht2
    have hll := mem64_len (B := B)
    have hrl := rowsOf_len (l := mem64 B) (k := k)
    simp (disch := omega) only [f89_r6, w_reg, w_seq, seqK_n, atK_n, x_ld, x_call, kx, rvP_ok, ev_t, ev_c, evs_nil, evs_cons, getV_some, putD_some, getK_set, ↓reduceIte, f5, ht2.ld]
    refine (callP_0 (ef := f94) h94 rfl (f94_ret (b := h3.nx.nat + 1) ht2.sl (rows_small mem64_lt) ht2.own ht2.nx (ht2.gr.hc hc) (by omega))).mono ?_
    rintro u h6 ⟨rfl, g6⟩
    simp (disch := omega) only [f89_rs, w_ret, seqK_n, retK_r, x_nil, x_as, kx, ev_t, getV_some, putD_some, oGet_s, readRs_nil, readRs_t, retV_1, Option.some.injEq, exists_eq_left', getK_set, ↓reduceIte]
    exact ⟨rfl, ht2.gr.trans (g6.low (by omega))⟩
end
end Go.Ev
namespace Go.Ev
open Go Go.RowKit
noncomputable def f64_r0 : List EOper := [⟨(some (K.ofNat 1)), none, .box 64 (.t (K.ofNat 0))⟩, ⟨(some (K.ofNat 2)), none, .as (.c .sn)⟩]
noncomputable def f64_r1 : List EOper := [⟨(some (K.ofNat 6)), none, .ldn 64 (.t (K.ofNat 1))⟩, ⟨(some (K.ofNat 7)), none, .call (.c (.fn (K.ofNat 57) [])) [(.t (K.ofNat 6))]⟩, ⟨(some (K.ofNat 3)), none, .as (.t (K.ofNat 7))⟩]
noncomputable def f64_r2 : List EOper := [⟨(some (K.ofNat 8)), none, .mv (.t (K.ofNat 3))⟩, ⟨(some (K.ofNat 9)), none, .len (.t (K.ofNat 8))⟩, ⟨(some (K.ofNat 10)), none, .bin .sub (.t (K.ofNat 9)) (.c (.i .i64 (.ofNat 1)))⟩, ⟨(some (K.ofNat 11)), none, .mkslice 1 [(.i .i64 (.ofNat 0))] (.t (K.ofNat 10))⟩, ⟨(some (K.ofNat 4)), none, .as (.t (K.ofNat 11))⟩]
noncomputable def f64_r3 : List EOper := [⟨(some (K.ofNat 12)), none, .mv (.t (K.ofNat 4))⟩, ⟨(some (K.ofNat 13)), none, .len (.t (K.ofNat 12))⟩, ⟨(some (K.ofNat 14)), none, .mv (.c (.i .i64 (.ofNat 0)))⟩]
noncomputable def f64_r4 : List EOper := [⟨(some (K.ofNat 15)), none, .bin .lss (.t (K.ofNat 14)) (.t (K.ofNat 13))⟩]
noncomputable def f64_r5 : List EOper := [⟨(some (K.ofNat 16)), none, .mv (.t (K.ofNat 14))⟩, ⟨(some (K.ofNat 5)), none, .as (.t (K.ofNat 16))⟩]
noncomputable def f64_r6 : List Stage := [⟨[⟨(some (K.ofNat 17)), none, .mv (.t (K.ofNat 4))⟩, ⟨(some (K.ofNat 18)), none, .mv (.t (K.ofNat 5))⟩, ⟨(some (K.ofNat 19)), none, .mv (.t (K.ofNat 3))⟩, ⟨(some (K.ofNat 20)), none, .mv (.t (K.ofNat 5))⟩, ⟨(some (K.ofNat 21)), none, .bin .add (.t (K.ofNat 20)) (.c (.i .i64 (.ofNat 1)))⟩, ⟨(some (K.ofNat 22)), none, .iads 1 (.t (K.ofNat 19)) (.t (K.ofNat 21))⟩, ⟨(some (K.ofNat 23)), none, .ld (.t (K.ofNat 22))⟩, ⟨(some (K.ofNat 24)), none, .ldn 64 (.t (K.ofNat 1))⟩, ⟨(some (K.ofNat 25)), none, .mv (.t (K.ofNat 5))⟩, ⟨(some (K.ofNat 26)), none, .bin .add (.t (K.ofNat 25)) (.c (.i .i64 (.ofNat 1)))⟩, ⟨(some (K.ofNat 29)), none, .ldn 64 (.t (K.ofNat 1))⟩, ⟨(some (K.ofNat 30)), none, .mv (.t (K.ofNat 5))⟩, ⟨(some (K.ofNat 31)), none, .bin .add (.t (K.ofNat 30)) (.c (.i .i64 (.ofNat 2)))⟩], [], (some ⟨(some (K.ofNat 27)), none, .call (.c (.fn (K.ofNat 89) [])) [(.t (K.ofNat 24)), (.t (K.ofNat 26))]⟩), []⟩, ⟨[⟨(some (K.ofNat 28)), none, .bin .sub (.t (K.ofNat 23)) (.t (K.ofNat 27))⟩], [⟨(some (K.ofNat 17)), none, .mv (.t (K.ofNat 4))⟩, ⟨(some (K.ofNat 18)), none, .mv (.t (K.ofNat 5))⟩, ⟨(some (K.ofNat 19)), none, .mv (.t (K.ofNat 3))⟩, ⟨(some (K.ofNat 20)), none, .mv (.t (K.ofNat 5))⟩, ⟨(some (K.ofNat 21)), none, .bin .add (.t (K.ofNat 20)) (.c (.i .i64 (.ofNat 1)))⟩, ⟨(some (K.ofNat 22)), none, .iads 1 (.t (K.ofNat 19)) (.t (K.ofNat 21))⟩, ⟨(some (K.ofNat 23)), none, .ld (.t (K.ofNat 22))⟩, ⟨(some (K.ofNat 29)), none, .ldn 64 (.t (K.ofNat 1))⟩, ⟨(some (K.ofNat 30)), none, .mv (.t (K.ofNat 5))⟩, ⟨(some (K.ofNat 31)), none, .bin .add (.t (K.ofNat 30)) (.c (.i .i64 (.ofNat 2)))⟩], (some ⟨(some (K.ofNat 32)), none, .call (.c (.fn (K.ofNat 89) [])) [(.t (K.ofNat 29)), (.t (K.ofNat 31))]⟩), []⟩, ⟨[⟨(some (K.ofNat 33)), none, .bin .sub (.t (K.ofNat 28)) (.t (K.ofNat 32))⟩, ⟨(some (K.ofNat 34)), none, .iads 1 (.t (K.ofNat 17)) (.t (K.ofNat 18))⟩], [⟨(some (K.ofNat 17)), none, .mv (.t (K.ofNat 4))⟩, ⟨(some (K.ofNat 18)), none, .mv (.t (K.ofNat 5))⟩, ⟨(some (K.ofNat 19)), none, .mv (.t (K.ofNat 3))⟩, ⟨(some (K.ofNat 20)), none, .mv (.t (K.ofNat 5))⟩, ⟨(some (K.ofNat 21)), none, .bin .add (.t (K.ofNat 20)) (.c (.i .i64 (.ofNat 1)))⟩, ⟨(some (K.ofNat 22)), none, .iads 1 (.t (K.ofNat 19)) (.t (K.ofNat 21))⟩, ⟨(some (K.ofNat 23)), none, .ld (.t (K.ofNat 22))⟩, ⟨(some (K.ofNat 28)), none, .bin .sub (.t (K.ofNat 23)) (.t (K.ofNat 27))⟩], (some ⟨none, none, .st 1 (.t (K.ofNat 34)) (.t (K.ofNat 33))⟩), []⟩, ⟨[], [], none, []⟩]
noncomputable def f64_r7 : List EOper := [⟨(some (K.ofNat 35)), none, .bin .add (.t (K.ofNat 14)) (.c (.i .i64 (.ofNat 1)))⟩, ⟨(some (K.ofNat 14)), none, .mv (.t (K.ofNat 35))⟩]
noncomputable def f64_l0 : EC := (.seq (.reg f64_r4) (.seq (.cond (.t (K.ofNat 15)) .skip (.exit 0)) (.seq (.block 1 (.seq (.reg f64_r5) (.draw f64_r6))) (.reg f64_r7))))
noncomputable def f64_r8 : List EOper := [⟨(some (K.ofNat 36)), none, .mv (.t (K.ofNat 4))⟩, ⟨(some (K.ofNat 2)), none, .as (.t (K.ofNat 36))⟩]
noncomputable def f64_c : EC := (.seq (.reg f64_r0) (.seq (.reg f64_r1) (.seq (.reg f64_r2) (.seq (.seq (.reg f64_r3) (.block 0 (.loop f64_l0))) (.seq (.reg f64_r8) .ret)))))
noncomputable def f64 : EF := ⟨37, [.tmp (K.ofNat 2)], f64_c, none⟩
theorem f64_rs : f64.rs = [.tmp (K.ofNat 2)] := of_eq_true (eq_self _)
noncomputable def f26_r0 : List EOper := [⟨(some (K.ofNat 4)), none, .as (.c .sn)⟩, ⟨(some (K.ofNat 5)), none, .as (.c (.i .i64 (.ofNat 0)))⟩]
noncomputable def f26_r1 : List EOper := [⟨(some (K.ofNat 7)), none, .mv (.t (K.ofNat 0))⟩, ⟨(some (K.ofNat 8)), none, .mv (.t (K.ofNat 1))⟩, ⟨(some (K.ofNat 9)), none, .call (.c (.fn (K.ofNat 16) [])) [(.t (K.ofNat 7)), (.t (K.ofNat 8))]⟩, ⟨(some (K.ofNat 6)), none, .as (.t (K.ofNat 9))⟩]
noncomputable def f26_r2 : List EOper := [⟨(some (K.ofNat 10)), none, .mv (.t (K.ofNat 6))⟩, ⟨(some (K.ofNat 11)), none, .bin .neq (.t (K.ofNat 10)) (.c (.i .i64 (.ofNat 0)))⟩]
noncomputable def f26_r3 : List EOper := [⟨(some (K.ofNat 12)), none, .mv (.t (K.ofNat 6))⟩, ⟨(some (K.ofNat 4)), none, .as (.c .sn)⟩, ⟨(some (K.ofNat 5)), none, .as (.t (K.ofNat 12))⟩]
noncomputable def f26_r4 : List EOper := [⟨(some (K.ofNat 13)), none, .mv (.t (K.ofNat 1))⟩, ⟨(some (K.ofNat 14)), none, .call (.c (.fn (K.ofNat 55) [])) [(.t (K.ofNat 13))]⟩, ⟨(some (K.ofNat 15)), none, .call (.c (.fn (K.ofNat 64) [])) [(.t (K.ofNat 14))]⟩, ⟨(some (K.ofNat 4)), none, .as (.t (K.ofNat 15))⟩, ⟨(some (K.ofNat 5)), none, .as (.c (.i .i64 (.ofNat 0)))⟩]
noncomputable def f26_c : EC := (.seq (.reg f26_r0) (.seq (.seq (.reg f26_r1) (.seq (.reg f26_r2) (.cond (.t (K.ofNat 11)) (.seq (.reg f26_r3) .ret) .skip))) (.seq (.reg f26_r4) .ret)))
noncomputable def f26 : EF := ⟨16, [.tmp (K.ofNat 4), .tmp (K.ofNat 5)], f26_c, none⟩
theorem f26_rs : f26.rs = [.tmp (K.ofNat 4), .tmp (K.ofNat 5)] := of_eq_true (eq_self _)
section
variable {fs : T EF} {ro : Option K}
theorem stay_ldn {n : Nat} {k : K} {x : EO} {fr : Fr} {h : H} : (stays fs goNo fr h ⟨some k, none, .ldn n x⟩ = true) = again (loadV h (ev fr x) (many? n)) (getV (fr.get k)) := chk_again
theorem beqL_b : ∀ l : List Bool, beqL (l.map V.b) (l.map V.b) = true
  | [] => rfl
  | a :: l => by
    show (a == a && beqL (l.map V.b) (l.map V.b)) = true
    rw [beqL_b l]; cases a <;> rfl
theorem beq_boolV {B : Nat → Bool} : beqV (.agg (boolV B)) (.agg (boolV B)) = true := beqL_b (arr B 64)
noncomputable def hvS (C : List Int) (B : Nat → Bool) (t : Nat) : Int := fw .i64 (fw .i64 (C.getD (t + 1) 0 - (brS B (t + 1) : Int)) - (brS B (t + 2) : Int))
noncomputable def hollS (C : List Int) (B : Nat → Bool) : List Int := (List.range (C.length - 1)).map (hvS C B)
def f64_I (h : H) (B : Nat → Bool) (id1 : K) (C : List Int) (v3 v4 : V) (n i : Nat) (fr : Fr) (h1 : H) : Prop := ∃ L, i ≤ n ∧ L.length = n ∧ (∀ t, t < i → L.getD t 0 = hvS C B t) ∧ Sl iE h1 v3 C ∧ Sl iE h1 v4 L ∧ (∀ id off n sz, v4 = .sl id off n sz → NotIn id v3 ∧ id ≠ id1) ∧ Own h.nx.nat v4 ∧ h1.get id1 = .cells 64 (boolV B) ∧ Grow h.nx.nat h h1 ∧ fr.get (K.ofNat 1) = some (.p id1 0) ∧ fr.get (K.ofNat 3) = some (v3) ∧ fr.get (K.ofNat 4) = some (v4) ∧ fr.get (K.ofNat 13) = some (.i .i64 (n : Int)) ∧ fr.get (K.ofNat 14) = some (.i .i64 (i : Int))
theorem f64_ret {h : H} {B : Nat → Bool} {ef : EF} (hp75 : ∀ m : Nat, m < 64 → ∀ h P, CallP fs (.fn (K.ofNat 75) []) [.i .i64 (m : Int)] h P = P (.i .i64 (pop6 m : Int)) h)
    (h57 : fs.get (K.ofNat 57) = some f57) (h78 : fs.get (K.ofNat 78) = some f78) (h91 : fs.get (K.ofNat 91) = some alF) (h82 : fs.get (K.ofNat 82) = some f82) (h92 : fs.get (K.ofNat 92) = some coF) (h54 : fs.get (K.ofNat 54) = some ef) (hn : ef.nv = some (flatG partG)) (h93 : fs.get (K.ofNat 93) = some f93) (h94 : fs.get (K.ofNat 94) = some f94) (h89 : fs.get (K.ofNat 89) = some f89) (hc : HC h) (hne : 1 ≤ (cntS (mem64 B)).length) :
    Ret fs f64 [.agg (boolV B)] h fun u h' => Sl iE h' u (hollS (cntS (mem64 B)) B) ∧ Own h.nx.nat u ∧ Grow h.nx.nat h h' := by
  apply ret_of rfl
  show W fs none f64_c _ _ _
  unfold f64_c
  have n1 := nx_new h (.cells 64 (boolV B))
  have g1 : Grow h.nx.nat h (h.new (.cells 64 (boolV B))) := Grow.new (Nat.le_refl _) _
  have e1 : (h.new (.cells 64 (boolV B))).get h.nx = .cells 64 (boolV B) := get_new_same
  have hA : Ar V.b (h.new (.cells 64 (boolV B))) h.nx (arr B 64) := by
    unfold Ar; rw [arr_len, get_new_same]; rfl
  have ldA : loadV (h.new (.cells 64 (boolV B))) (.p h.nx 0) (many? 64) = .ok (.agg (boolV B)) _ := hA.ldn (n := 64) (by rw [arr_len])
  simp (disch := omega) only [f64_r0, f64_r1, w_reg, w_seq, seqK_n, x_nil, x_as, x_box, x_ldn, x_call, kx, rvP_ok, ev_t, ev_c, evs_nil, evs_cons, getV_some, putD_some, oGet_s, frame_1, getK_set, Nat.reduceEqDiff, ↓reduceIte, cells64 (boolV_len (B := B)), ldA]
  generalize hh1 : h.new (.cells 64 (boolV B)) = h1 at *
  have hc1 := g1.hc hc
  refine (callP_0 (ef := f57) h57 rfl (f57_ret (B := B) hp75 h78 h91 hc1)).mono ?_
  rintro v3 h2 ⟨hs3, ho3, g2⟩
  have hl7 := cntS_len (mem64 B)
  generalize hC : cntS (mem64 B) = C at *
  have hc2 := g2.hc hc1
  have e2 : h2.get h.nx = .cells 64 (boolV B) := by rw [g2.old _ (by omega)]; exact e1
  have hsub : fw .i64 ((C.length : Int) - 1) = ((C.length - 1 : Nat) : Int) := by rw [fw64 (by omega) (by omega)]; omega
  have gg2 := g1.trans (g2.low (b := h.nx.nat) (by omega))
  have n2 := nx_new h2 (.cells ((C.length - 1) * 1) (rep [.i .i64 0] (C.length - 1)))
  have g3 : Grow h2.nx.nat h2 (h2.new (.cells ((C.length - 1) * 1) (rep [.i .i64 0] (C.length - 1)))) := Grow.new (Nat.le_refl _) _
  have hs4 := mks_sl (h := h2) (n := C.length - 1)
  simp (disch := omega) only [f64_r2, f64_r3, w_reg, w_seq, w_block, seqK_n, x_nil, x_mv, x_as, x_bin, x_mks, x_len, kx, rvP_ok, okv_some, ev_t, ev_c, getV_some, putD_some, bin_sub, len_sl, of0, of1, getK_set, ↓reduceIte, hs3.len, hsub, mks_ints (h := h2) (k := .i64) (n := C.length - 1) (by omega)]
  have hgr0 := gg2.nx
  have hgr1 := g2.nx
  have hdis0 : ∀ id off n sz, V.sl h2.nx 0 (C.length - 1) 1 = .sl id off n sz → NotIn id v3 ∧ id ≠ h.nx := by
    rintro id off n sz e; cases e
    refine ⟨fun off n sz e => ?_, (kNe (by omega)).symm⟩
    have := hs3.lt hc2 _ off n sz e
    omega
  have hown0 : Own h.nx.nat (.sl h2.nx 0 (C.length - 1) 1) := by
    rintro id off n sz e; cases e; omega
  refine W_loop (f64_I h B h.nx C v3 (.sl h2.nx 0 (C.length - 1) 1) (C.length - 1)) (fun i => C.length - 1 - i) ?_ 0 ⟨List.replicate (C.length - 1) 0, Nat.zero_le _, by simp, fun t ht => by omega, hs3.grow hc2 g3, hs4, hdis0, hown0, by rw [g3.old _ (by omega)]; exact e2, gg2.trans (g3.low (by omega)), by simp (disch := omega) only [getK_set, Nat.reduceEqDiff, ↓reduceIte, and_self, Int.natCast_zero]⟩
  generalize hv4 : V.sl h2.nx 0 (C.length - 1) 1 = v4
  generalize hid : h.nx = id1 at *
  rintro i fr h5 ⟨L, hi, hl, hL, hs3, hs4, hdis, hown, e1, hgr, gg1, gg3, gg4, gg13, gg14⟩
  have hc5 := hgr.hc hc
  unfold f64_l0
  by_cases hlt : i < C.length - 1
  · have hlt' : (i : Int) < ((C.length - 1 : Nat) : Int) := by omega
    have hiC : i + 1 < C.length := by omega
    have hg : C.getD (i + 1) 0 = C[i + 1] := by simp [List.getD, hiC]
    have hil : i < L.length := by omega
    have a1 : fw .i64 ((i : Int) + 1) = ((i + 1 : Nat) : Int) := by rw [fw64 (by omega) (by omega)]; omega
    have a2 : fw .i64 ((i : Int) + 2) = ((i + 2 : Nat) : Int) := by rw [fw64 (by omega) (by omega)]; omega
    obtain ⟨p, hp1, hp2, hp3⟩ := hs3.atb (i + 1) hiC
    have ldB : ∀ h' : H, h'.get id1 = .cells 64 (boolV B) → loadV h' (.p id1 0) (many? 64) = .ok (.agg (boolV B)) h' := fun h' e => by
      have hA : Ar V.b h' id1 (arr B 64) := by unfold Ar; rw [arr_len, e]; rfl
      exact hA.ldn (n := 64) (by rw [arr_len])
    have ldC : ∀ h' : H, Grow h5.nx.nat h5 h' → loadV h' p one? = .ok (.i .i64 C[i + 1]) h' := fun h' g => by
      obtain ⟨q, hq1, hq2, _⟩ := (hs3.grow hc5 g).atb (i + 1) hiC
      have := hp1 .i64 h'
      rw [hq1 .i64 h'] at this
      cases this; exact hq2
    have l1 := hc5.cells e1
    simp (disch := omega) only [f64_r4, f64_r5, f64_r6, w_skip, w_reg, w_draw, w_seq, w_cond, w_block, seqK_n, ckB_b, cbB_b, true_and, x_nil, x_mv, x_as, x_bin, x_call, kx, kg, xg_nil, xg_mv, xg_ld, xg_ldn, xg_bin, xg_iads, xd_cons, fresh_nil, stK_s, stay_nil, rvP_ok, okv_some, ev_t, ev_c, evs_nil, evs_cons, getV_some, putD_some, bin_add, bin_lss, of1, of2, getK_set, Nat.reduceEqDiff, ↓reduceIte, gg1, gg3, gg4, gg13, gg14, hlt', decide_true, a1, a2, hp1, ldC h5 (Grow.refl _ _), ldB h5 e1]
    refine (callP_0 (ef := f89) h89 rfl (f89_ret (B := B) (k := i + 1) hp75 h78 h91 h82 h92 h54 hn h93 h94 hc5)).mono ?_
    rintro u h6 ⟨rfl, g6⟩
    have hc6 := g6.hc hc5
    have e6 : h6.get id1 = .cells 64 (boolV B) := by rw [g6.old _ l1]; exact e1
    simp (disch := omega) only [true_and, x_nil, x_call, kx, kg, xg_nil, xg_bin, xd_cons, fresh_nil, stK_s, stay_nil, stay_cons, again_ok, stay_mv, beq_i, stay_iads, stay_ld, stay_bin, rvP_ok, okv_some, ev_t, ev_c, evs_nil, evs_cons, getV_some, putD_some, bin_add, bin_sub, getK_set, Nat.reduceEqDiff, ↓reduceIte, gg1, gg3, gg4, stay_ldn, a1, a2, hp1, hp3, ldC h6 g6, ldB h6 e6, beq_boolV, hs3.beq, hs4.beq, and_self]
    refine (callP_0 (ef := f89) h89 rfl (f89_ret (B := B) (k := i + 2) hp75 h78 h91 h82 h92 h54 hn h93 h94 hc6)).mono ?_
    rintro u h7 ⟨rfl, g7⟩
    have g67 := g6.trans (g7.low g6.nx)
    have hc7 := g67.hc hc5
    have e7 : h7.get id1 = .cells 64 (boolV B) := by rw [g67.old _ l1]; exact e1
    obtain ⟨p2, id, m2, cs2, q1, q2, q3, ⟨off, nn, sz, q4⟩, q5⟩ := (hs4.grow hc5 g67).st hil (x := hvS C B i) (c := .i .i64 (hvS C B i)) rfl rfl hc7
    have hhv : fw .i64 (fw .i64 (C[i + 1] - (brS B (i + 1) : Int)) - (brS B (i + 2) : Int)) = hvS C B i := by unfold hvS; rw [hg]
    have hid := hown id off nn sz q4
    obtain ⟨d1, d2⟩ := hdis id off nn sz q4
    simp (disch := omega) only [f64_r7, w_reg, seqK_n, atK_n, loopK_n, true_and, x_nil, x_mv, x_st, x_bin, kx, kg, xg_nil, xg_bin, xg_iads, xd_cons, fresh_nil, stK_n, stK_s, stay_nil, stay_cons, again_ok, stay_mv, beq_i, stay_iads, stay_ld, stay_bin, rvP_ok, okv_some, ev_t, ev_c, getV_some, putD_some, putD_none, bin_add, bin_sub, of1, getK_set, Nat.reduceEqDiff, ↓reduceIte, gg3, gg4, gg14, a1, hp1, hp3, q1, hhv, ldC h7 g67, hs3.beq, hs4.beq, and_self, q2]
    refine ⟨i + 1, by omega, L.set i (hvS C B i), hlt, by rw [List.length_set]; exact hl, fun t ht => ?_, (hs3.grow hc5 g67).put d1 _, q3, hdis, hown, by rw [get_put_other d2.symm]; exact e7, (hgr.trans (g67.low hgr.nx)).trans (Grow.put hid q5 _), by simp (disch := omega) only [getK_set, Nat.reduceEqDiff, ↓reduceIte, gg1, gg3, gg4, gg13, and_self, Int.natCast_add, Int.natCast_one]⟩
    by_cases e : t = i
    · subst e; simp [List.getD, hil]
    · have h1 := hL t (by omega)
      simp only [List.getD] at h1 ⊢
      rw [List.getElem?_set, if_neg (by omega)]; exact h1
  · obtain rfl : i = C.length - 1 := by omega
    have hlt' : ¬ ((C.length - 1 : Nat) : Int) < ((C.length - 1 : Nat) : Int) := by omega
    simp (disch := omega) only [f64_r4, f64_r8, f64_rs, w_reg, w_seq, w_cond, w_exit, w_ret, seqK_n, seqK_e, atK_e, loopK_e, ckB_b, cbB_b, true_and, retK_r, x_nil, x_mv, x_as, x_bin, kx, rvP_ok, okv_some, ev_t, getV_some, putD_some, bin_lss, oGet_s, readRs_nil, readRs_t, retV_1, Option.some.injEq, exists_eq_left', getK_set, Nat.reduceEqDiff, ↓reduceIte, Bool.false_eq_true, gg4, gg13, gg14, hlt', decide_false]
    have : L = hollS C B := by
      apply List.ext_getElem
      · unfold hollS; rw [List.length_map, List.length_range]; exact hl
      · intro t t1 t2
        have h1 := hL t (by omega)
        rw [show L.getD t 0 = L[t] by simp [List.getD, t1]] at h1
        rw [h1]; simp [hollS]
    rw [← this]
    exact ⟨hs4, by rw [← hid]; exact hown, by rw [← hid]; exact hgr⟩
theorem f26_ret {h : H} {v : V} {S : List Int} {n : Int} {ef : EF} (hp : ∀ a b h P, CallP fs (.fn (K.ofNat 54) []) [.i .i64 a, .i .i64 b] h P = P (.b (ptI a b)) h)
    (hp75 : ∀ m : Nat, m < 64 → ∀ h P, CallP fs (.fn (K.ofNat 75) []) [.i .i64 (m : Int)] h P = P (.i .i64 (pop6 m : Int)) h)
    (h16 : fs.get (K.ofNat 16) = some f16) (h55 : fs.get (K.ofNat 55) = some f55) (h57 : fs.get (K.ofNat 57) = some f57) (h78 : fs.get (K.ofNat 78) = some f78) (h91 : fs.get (K.ofNat 91) = some alF) (h82 : fs.get (K.ofNat 82) = some f82) (h92 : fs.get (K.ofNat 92) = some coF) (h54 : fs.get (K.ofNat 54) = some ef) (hn : ef.nv = some (flatG partG)) (h93 : fs.get (K.ofNat 93) = some f93) (h94 : fs.get (K.ofNat 94) = some f94) (h89 : fs.get (K.ofNat 89) = some f89) (h64 : fs.get (K.ofNat 64) = some f64)
    (hv : Sl iE h v S) (hc : HC h) (hS : S.length ≤ 1000000) (hne : chkS n S = 0 → 1 ≤ (cntS (mem64 (famB S))).length) :
    Ret fs f26 [.i .i64 n, v] h fun r h' => ∃ u, r = .tup [u, .i .i64 (chkS n S)] ∧ Sl iE h' u (if chkS n S = 0 then hollS (cntS (mem64 (famB S))) (famB S) else []) ∧ Own h.nx.nat u ∧ Grow h.nx.nat h h' := by
  apply ret_of rfl
  show W fs none f26_c _ _ _
  unfold f26_c
  simp (disch := omega) only [f26_r0, f26_r1, w_reg, w_seq, seqK_n, x_nil, x_mv, x_as, x_call, ev_t, ev_c, evs_nil, evs_cons, getV_some, putD_some, frame_2, of0, getK_set, Nat.reduceEqDiff, ↓reduceIte]
  refine (callP_0 (ef := f16) h16 rfl (f16_ret hp hv)).mono ?_
  rintro u h1 ⟨rfl, rfl⟩
  by_cases e : chkS n S = 0
  · simp (disch := omega) only [f26_r2, f26_r4, w_skip, w_reg, w_seq, w_cond, seqK_n, ckB_b, cbB_b, true_and, x_nil, x_mv, x_as, x_bin, x_call, kx, rvP_ok, okv_some, ev_t, ev_c, evs_nil, evs_cons, getV_some, putD_some, bin_neq, of0, getK_set, Nat.reduceEqDiff, ↓reduceIte, Bool.false_eq_true, e, ne_eq, not_true_eq_false, decide_false]
    refine (callP_0 (ef := f55) h55 rfl (f55_ret (S := S) hp hv hc hS)).mono ?_
    rintro u h2 ⟨rfl, g2⟩
    rw [famB_list]
    simp (disch := omega) only [x_call, kx, ev_t, ev_c, evs_nil, evs_cons, getV_some, putD_some, getK_set, ↓reduceIte]
    refine (callP_0 (ef := f64) h64 rfl (f64_ret (B := famB S) hp75 h57 h78 h91 h82 h92 h54 hn h93 h94 h89 (g2.hc hc) (hne e))).mono ?_
    rintro u h3 ⟨hs, ho, g3⟩
    simp (disch := omega) only [f26_rs, w_ret, seqK_n, retK_r, x_nil, x_as, kx, ev_t, ev_c, getV_some, putD_some, oGet_s, readRs_nil, readRs_t, retV_2, Option.some.injEq, exists_eq_left', getK_set, Nat.reduceEqDiff, ↓reduceIte]
    exact ⟨u, rfl, hs, ho.low g2.nx, g2.trans (g3.low g2.nx)⟩
  · simp (disch := omega) only [f26_r2, f26_r3, f26_rs, w_reg, w_seq, w_cond, w_ret, seqK_n, seqK_r, ckB_b, cbB_b, true_and, retK_r, x_nil, x_mv, x_as, x_bin, kx, rvP_ok, okv_some, ev_t, ev_c, getV_some, putD_some, bin_neq, oGet_s, readRs_nil, readRs_t, retV_2, of0, Option.some.injEq, exists_eq_left', getK_set, Nat.reduceEqDiff, ↓reduceIte, e, ne_eq, not_false_eq_true, decide_true]
    exact ⟨.sn, rfl, Sl.nil, Own.sn, Grow.refl _ _⟩
end
end Go.Ev
namespace Go.Ev
open Go Go.RowKit
noncomputable def f74_r0 : List EOper := [⟨(some (K.ofNat 2)), none, .as (.c (.i .i64 (.ofNat 0)))⟩]
noncomputable def f74_r1 : List EOper := [⟨(some (K.ofNat 3)), none, .as (.c .sn)⟩]
noncomputable def f74_r2 : List EOper := [⟨(some (K.ofNat 8)), none, .mv (.t (K.ofNat 3))⟩, ⟨(some (K.ofNat 9)), none, .mv (.t (K.ofNat 0))⟩, ⟨(some (K.ofNat 10)), none, .app 1 (.t (K.ofNat 8)) (.t (K.ofNat 9))⟩, ⟨(some (K.ofNat 3)), none, .as (.t (K.ofNat 10))⟩]
noncomputable def f74_r3 : List EOper := [⟨(some (K.ofNat 4)), none, .as (.c (.i .i64 (.ofNat 0)))⟩]
noncomputable def f74_r4 : List EOper := [⟨(some (K.ofNat 5)), none, .as (.c (.i .i64 (.ofNat 0)))⟩]
noncomputable def f74_r5 : List EOper := [⟨(some (K.ofNat 11)), none, .mv (.t (K.ofNat 5))⟩, ⟨(some (K.ofNat 12)), none, .mv (.t (K.ofNat 3))⟩, ⟨(some (K.ofNat 13)), none, .len (.t (K.ofNat 12))⟩, ⟨(some (K.ofNat 14)), none, .bin .lss (.t (K.ofNat 11)) (.t (K.ofNat 13))⟩]
noncomputable def f74_r6 : List EOper := [⟨(some (K.ofNat 17)), none, .mv (.t (K.ofNat 3))⟩, ⟨(some (K.ofNat 18)), none, .mv (.t (K.ofNat 5))⟩, ⟨(some (K.ofNat 19)), none, .iads 1 (.t (K.ofNat 17)) (.t (K.ofNat 18))⟩, ⟨(some (K.ofNat 20)), none, .ld (.t (K.ofNat 19))⟩, ⟨(some (K.ofNat 21)), none, .bin .eql (.t (K.ofNat 20)) (.c (.i .i64 (.ofNat 0)))⟩]
noncomputable def f74_r7 : List EOper := [⟨(some (K.ofNat 22)), none, .mv (.t (K.ofNat 4))⟩, ⟨(some (K.ofNat 23)), none, .bin .add (.t (K.ofNat 22)) (.c (.i .i64 (.ofNat 1)))⟩, ⟨(some (K.ofNat 4)), none, .as (.t (K.ofNat 23))⟩]
noncomputable def f74_r8 : List Stage := [⟨[⟨(some (K.ofNat 24)), none, .mv (.t (K.ofNat 3))⟩, ⟨(some (K.ofNat 25)), none, .mv (.t (K.ofNat 5))⟩, ⟨(some (K.ofNat 26)), none, .iads 1 (.t (K.ofNat 24)) (.t (K.ofNat 25))⟩, ⟨(some (K.ofNat 27)), none, .ld (.t (K.ofNat 26))⟩, ⟨(some (K.ofNat 28)), none, .mv (.t (K.ofNat 3))⟩, ⟨(some (K.ofNat 29)), none, .mv (.t (K.ofNat 5))⟩, ⟨(some (K.ofNat 30)), none, .iads 1 (.t (K.ofNat 28)) (.t (K.ofNat 29))⟩, ⟨(some (K.ofNat 31)), none, .ld (.t (K.ofNat 30))⟩, ⟨(some (K.ofNat 32)), none, .neg (.t (K.ofNat 31))⟩, ⟨(some (K.ofNat 33)), none, .bin .and (.t (K.ofNat 27)) (.t (K.ofNat 32))⟩], [], (some ⟨(some (K.ofNat 6)), none, .as (.t (K.ofNat 33))⟩), []⟩, ⟨[], [], none, []⟩]
noncomputable def f74_r9 : List EOper := [⟨(some (K.ofNat 34)), none, .mv (.t (K.ofNat 5))⟩, ⟨(some (K.ofNat 35)), none, .bin .add (.t (K.ofNat 34)) (.c (.i .i64 (.ofNat 1)))⟩, ⟨(some (K.ofNat 7)), none, .as (.t (K.ofNat 35))⟩]
noncomputable def f74_r10 : List EOper := [⟨(some (K.ofNat 36)), none, .mv (.t (K.ofNat 7))⟩, ⟨(some (K.ofNat 37)), none, .mv (.t (K.ofNat 3))⟩, ⟨(some (K.ofNat 38)), none, .len (.t (K.ofNat 37))⟩, ⟨(some (K.ofNat 39)), none, .bin .lss (.t (K.ofNat 36)) (.t (K.ofNat 38))⟩]
noncomputable def f74_r11 : List EOper := [⟨(some (K.ofNat 42)), none, .mv (.t (K.ofNat 3))⟩, ⟨(some (K.ofNat 43)), none, .mv (.t (K.ofNat 7))⟩, ⟨(some (K.ofNat 44)), none, .iads 1 (.t (K.ofNat 42)) (.t (K.ofNat 43))⟩, ⟨(some (K.ofNat 45)), none, .ld (.t (K.ofNat 44))⟩, ⟨(some (K.ofNat 46)), none, .mv (.t (K.ofNat 6))⟩, ⟨(some (K.ofNat 47)), none, .bin .and (.t (K.ofNat 45)) (.t (K.ofNat 46))⟩, ⟨(some (K.ofNat 48)), none, .bin .neq (.t (K.ofNat 47)) (.c (.i .i64 (.ofNat 0)))⟩]
noncomputable def f74_r12 : List Stage := [⟨[⟨(some (K.ofNat 49)), none, .mv (.t (K.ofNat 3))⟩, ⟨(some (K.ofNat 50)), none, .mv (.t (K.ofNat 7))⟩, ⟨(some (K.ofNat 51)), none, .mv (.t (K.ofNat 3))⟩, ⟨(some (K.ofNat 52)), none, .mv (.t (K.ofNat 7))⟩, ⟨(some (K.ofNat 53)), none, .iads 1 (.t (K.ofNat 51)) (.t (K.ofNat 52))⟩, ⟨(some (K.ofNat 54)), none, .ld (.t (K.ofNat 53))⟩, ⟨(some (K.ofNat 55)), none, .mv (.t (K.ofNat 3))⟩, ⟨(some (K.ofNat 56)), none, .mv (.t (K.ofNat 5))⟩, ⟨(some (K.ofNat 57)), none, .iads 1 (.t (K.ofNat 55)) (.t (K.ofNat 56))⟩, ⟨(some (K.ofNat 58)), none, .ld (.t (K.ofNat 57))⟩, ⟨(some (K.ofNat 59)), none, .bin .xor (.t (K.ofNat 54)) (.t (K.ofNat 58))⟩, ⟨(some (K.ofNat 60)), none, .iads 1 (.t (K.ofNat 49)) (.t (K.ofNat 50))⟩], [], (some ⟨none, none, .st 1 (.t (K.ofNat 60)) (.t (K.ofNat 59))⟩), []⟩, ⟨[], [], none, []⟩]
noncomputable def f74_r13 : List EOper := [⟨(some (K.ofNat 40)), none, .mv (.t (K.ofNat 7))⟩, ⟨(some (K.ofNat 41)), none, .bin .add (.t (K.ofNat 40)) (.c (.i .i64 (.ofNat 1)))⟩, ⟨(some (K.ofNat 7)), none, .as (.t (K.ofNat 41))⟩]
noncomputable def f74_l0 : EC := (.seq (.seq (.reg f74_r10) (.cond (.t (K.ofNat 39)) .skip (.exit 2))) (.seq (.block 3 (.seq (.reg f74_r11) (.cond (.t (K.ofNat 48)) (.draw f74_r12) .skip))) (.reg f74_r13)))
noncomputable def f74_r14 : List EOper := [⟨(some (K.ofNat 15)), none, .mv (.t (K.ofNat 5))⟩, ⟨(some (K.ofNat 16)), none, .bin .add (.t (K.ofNat 15)) (.c (.i .i64 (.ofNat 1)))⟩, ⟨(some (K.ofNat 5)), none, .as (.t (K.ofNat 16))⟩]
noncomputable def f74_l1 : EC := (.seq (.seq (.reg f74_r5) (.cond (.t (K.ofNat 14)) .skip (.exit 0))) (.seq (.block 1 (.seq (.seq (.reg f74_r6) (.cond (.t (K.ofNat 21)) (.exit 1) .skip)) (.seq (.reg f74_r7) (.seq (.draw f74_r8) (.seq (.reg f74_r9) (.block 2 (.loop f74_l0))))))) (.reg f74_r14)))
noncomputable def f74_r15 : List EOper := [⟨(some (K.ofNat 61)), none, .mv (.t (K.ofNat 4))⟩, ⟨(some (K.ofNat 2)), none, .as (.t (K.ofNat 61))⟩]
noncomputable def f74_c : EC := (.seq (.reg f74_r0) (.seq (.reg f74_r1) (.seq (.reg f74_r2) (.seq (.reg f74_r3) (.seq (.seq (.reg f74_r4) (.block 0 (.loop f74_l1))) (.seq (.reg f74_r15) .ret))))))
noncomputable def f74 : EF := ⟨62, [.tmp (K.ofNat 2)], f74_c, none⟩
theorem f74_rs : f74.rs = [.tmp (K.ofNat 2)] := of_eq_true (eq_self _)
noncomputable def f73_r0 : List EOper := [⟨(some (K.ofNat 4)), none, .as (.c .sn)⟩]
noncomputable def f73_r1 : List EOper := [⟨(some (K.ofNat 5)), none, .as (.c .sn)⟩]
noncomputable def f73_r2 : List EOper := [⟨(some (K.ofNat 6)), none, .as (.c (.i .i64 (.ofNat 0)))⟩]
noncomputable def f73_r3 : List EOper := [⟨(some (K.ofNat 9)), none, .mv (.t (K.ofNat 6))⟩, ⟨(some (K.ofNat 10)), none, .mv (.t (K.ofNat 0))⟩, ⟨(some (K.ofNat 11)), none, .len (.t (K.ofNat 10))⟩, ⟨(some (K.ofNat 12)), none, .bin .lss (.t (K.ofNat 9)) (.t (K.ofNat 11))⟩]
noncomputable def f73_r4 : List EOper := [⟨(some (K.ofNat 15)), none, .mv (.t (K.ofNat 0))⟩, ⟨(some (K.ofNat 16)), none, .mv (.t (K.ofNat 6))⟩, ⟨(some (K.ofNat 17)), none, .iads 1 (.t (K.ofNat 15)) (.t (K.ofNat 16))⟩, ⟨(some (K.ofNat 18)), none, .ld (.t (K.ofNat 17))⟩, ⟨(some (K.ofNat 19)), none, .call (.c (.fn (K.ofNat 52) [])) [(.t (K.ofNat 18))]⟩, ⟨(some (K.ofNat 20)), none, .mv (.t (K.ofNat 1))⟩, ⟨(some (K.ofNat 21)), none, .bin .neq (.t (K.ofNat 19)) (.t (K.ofNat 20))⟩]
noncomputable def f73_r5 : List EOper := [⟨(some (K.ofNat 7)), none, .as (.c (.i .i64 (.ofNat 0)))⟩]
noncomputable def f73_r6 : List EOper := [⟨(some (K.ofNat 8)), none, .as (.c (.i .i64 (.ofNat 0)))⟩]
noncomputable def f73_r7 : List EOper := [⟨(some (K.ofNat 22)), none, .mv (.t (K.ofNat 8))⟩, ⟨(some (K.ofNat 23)), none, .bin .lss (.t (K.ofNat 22)) (.c (.i .i64 (.ofNat 6)))⟩]
noncomputable def f73_r8 : List EOper := [⟨(some (K.ofNat 26)), none, .mv (.t (K.ofNat 0))⟩, ⟨(some (K.ofNat 27)), none, .mv (.t (K.ofNat 6))⟩, ⟨(some (K.ofNat 28)), none, .iads 1 (.t (K.ofNat 26)) (.t (K.ofNat 27))⟩, ⟨(some (K.ofNat 29)), none, .ld (.t (K.ofNat 28))⟩, ⟨(some (K.ofNat 30)), none, .mv (.t (K.ofNat 8))⟩, ⟨(some (K.ofNat 31)), none, .bin .shr (.t (K.ofNat 29)) (.t (K.ofNat 30))⟩, ⟨(some (K.ofNat 32)), none, .bin .rem (.t (K.ofNat 31)) (.c (.i .i64 (.ofNat 2)))⟩, ⟨(some (K.ofNat 33)), none, .bin .eql (.t (K.ofNat 32)) (.c (.i .i64 (.ofNat 1)))⟩]
noncomputable def f73_r9 : List Stage := [⟨[⟨(some (K.ofNat 34)), none, .mv (.t (K.ofNat 7))⟩, ⟨(some (K.ofNat 35)), none, .mv (.t (K.ofNat 0))⟩, ⟨(some (K.ofNat 36)), none, .mv (.t (K.ofNat 6))⟩, ⟨(some (K.ofNat 37)), none, .iads 1 (.t (K.ofNat 35)) (.t (K.ofNat 36))⟩, ⟨(some (K.ofNat 38)), none, .ld (.t (K.ofNat 37))⟩, ⟨(some (K.ofNat 39)), none, .mv (.t (K.ofNat 8))⟩, ⟨(some (K.ofNat 40)), none, .bin .shl (.c (.i .i64 (.ofNat 1))) (.t (K.ofNat 39))⟩, ⟨(some (K.ofNat 41)), none, .bin .andNot (.t (K.ofNat 38)) (.t (K.ofNat 40))⟩, ⟨(some (K.ofNat 42)), none, .bin .shl (.c (.i .i64 (.ofNat 1))) (.t (K.ofNat 41))⟩, ⟨(some (K.ofNat 43)), none, .bin .or (.t (K.ofNat 34)) (.t (K.ofNat 42))⟩], [], (some ⟨(some (K.ofNat 7)), none, .as (.t (K.ofNat 43))⟩), []⟩, ⟨[], [], none, []⟩]
noncomputable def f73_r10 : List EOper := [⟨(some (K.ofNat 24)), none, .mv (.t (K.ofNat 8))⟩, ⟨(some (K.ofNat 25)), none, .bin .add (.t (K.ofNat 24)) (.c (.i .i64 (.ofNat 1)))⟩, ⟨(some (K.ofNat 8)), none, .as (.t (K.ofNat 25))⟩]
noncomputable def f73_l0 : EC := (.seq (.seq (.reg f73_r7) (.cond (.t (K.ofNat 23)) .skip (.exit 2))) (.seq (.block 3 (.seq (.reg f73_r8) (.cond (.t (K.ofNat 33)) (.draw f73_r9) .skip))) (.reg f73_r10)))
noncomputable def f73_r11 : List EOper := [⟨(some (K.ofNat 44)), none, .mv (.t (K.ofNat 5))⟩, ⟨(some (K.ofNat 45)), none, .mv (.t (K.ofNat 7))⟩, ⟨(some (K.ofNat 46)), none, .bslice 1 1 [(.i .i64 (.ofNat 0))] [(0, 1, (.t (K.ofNat 45)))]⟩, ⟨(some (K.ofNat 47)), none, .app 1 (.t (K.ofNat 44)) (.t (K.ofNat 46))⟩, ⟨(some (K.ofNat 5)), none, .as (.t (K.ofNat 47))⟩]
noncomputable def f73_r12 : List EOper := [⟨(some (K.ofNat 13)), none, .mv (.t (K.ofNat 6))⟩, ⟨(some (K.ofNat 14)), none, .bin .add (.t (K.ofNat 13)) (.c (.i .i64 (.ofNat 1)))⟩, ⟨(some (K.ofNat 6)), none, .as (.t (K.ofNat 14))⟩]
noncomputable def f73_l1 : EC := (.seq (.seq (.reg f73_r3) (.cond (.t (K.ofNat 12)) .skip (.exit 0))) (.seq (.block 1 (.seq (.seq (.reg f73_r4) (.cond (.t (K.ofNat 21)) (.exit 1) .skip)) (.seq (.reg f73_r5) (.seq (.seq (.reg f73_r6) (.block 2 (.loop f73_l0))) (.reg f73_r11))))) (.reg f73_r12)))
noncomputable def f73_r13 : List EOper := [⟨(some (K.ofNat 48)), none, .mv (.t (K.ofNat 5))⟩, ⟨(some (K.ofNat 4)), none, .as (.t (K.ofNat 48))⟩]
noncomputable def f73_c : EC := (.seq (.reg f73_r0) (.seq (.reg f73_r1) (.seq (.seq (.reg f73_r2) (.block 0 (.loop f73_l1))) (.seq (.reg f73_r13) .ret))))
noncomputable def f73 : EF := ⟨49, [.tmp (K.ofNat 4)], f73_c, none⟩
theorem f73_rs : f73.rs = [.tmp (K.ofNat 4)] := of_eq_true (eq_self _)
section
variable {fs : T EF} {ro : Option K}
theorem Sl.unmap {α β : Type} {e : β → V} {f : α → β} {h : H} {v : V} {L : List α} (hs : Sl e h v (L.map f)) : Sl (fun x => e (f x)) h v L := by
  rcases hs with ⟨rfl, hl⟩ | ⟨id, off, m, cs, rfl, hb, hl, hm, hx⟩
  · have : L = [] := by simpa using hl
    exact .inl ⟨rfl, this⟩
  · exact .inr ⟨id, off, m, cs, by rw [List.length_map], hb, by simpa using hl, by simpa using hm, fun i hi => by have := hx i (by simpa using hi); simpa using this⟩
def f74_I0 (b : Nat) (h : H) (v : V) (p c i n : Nat) (R : List Nat) (j : Nat) (fr : Fr) (h1 : H) : Prop := ∃ L, j ≤ n ∧ L.length = n ∧ i < j ∧ L.getD i 0 = p ∧ Small L ∧ elR p (n - j) j L = R ∧ Sl nE h1 v L ∧ Grow b h h1 ∧ fr.get (K.ofNat 3) = some (v) ∧ fr.get (K.ofNat 4) = some (.i .i64 (c : Int)) ∧ fr.get (K.ofNat 5) = some (.i .i64 (i : Int)) ∧ fr.get (K.ofNat 6) = some (.i .i64 (low p : Int)) ∧ fr.get (K.ofNat 7) = some (.i .i64 (j : Int))
theorem f74_inner {Q : Ex → Fr → H → Prop} {b : Nat} {h h0 : H} {v : V} {p c i n : Nat} {R : List Nat} {j : Nat} {fr : Fr} (hc : HC h) (ho : Own b v) (hp : p < 9223372036854775808) (hn : n ≤ 1000)
    (hi : f74_I0 b h v p c i n R j fr h0)
    (hq : ∀ fr h1, Small R → R.length = n → Sl nE h1 v R → Grow b h h1 → fr.get (K.ofNat 3) = some (v) ∧ fr.get (K.ofNat 4) = some (.i .i64 (c : Int)) ∧ fr.get (K.ofNat 5) = some (.i .i64 (i : Int)) → Q (.exit 2) fr h1) :
    W fs ro (.loop f74_l0) Q fr h0 := by
  refine W_loop (f74_I0 b h v p c i n R) (fun j => n - j) ?_ j hi
  clear hi fr h0 j
  rintro j fr h1 ⟨L, hj, hl, hij, hpi, hsm, hR, hs, hgr, g3, g4, g5, g6, g7⟩
  have hc1 := hgr.hc hc
  have hlw := @low_lt p
  unfold f74_l0
  by_cases hlt : j < n
  · have hlt' : (j : Int) < (L.length : Int) := by omega
    have hjl : j < L.length := by omega
    have hil : i < L.length := by omega
    have hpi' : L[i] = p := by rw [← hpi]; simp [List.getD, hil]
    obtain ⟨q, hp1, hp2⟩ := hs.at j hjl
    obtain ⟨r, hr1, hr2⟩ := hs.at i hil
    have hx := hsm.at hjl
    have hRn : elR p (n - (j + 1)) (j + 1) (L.set j (stepR p L[j])) = R := by
      rw [← hR, show n - j = (n - (j + 1)) + 1 by omega, elR]
      simp [List.getD, hjl]
    by_cases e : (L[j] &&& low p) = 0
    · have e' : ((L[j] &&& low p : Nat) : Int) = 0 := by omega
      have hst : stepR p L[j] = L[j] := by unfold stepR; rw [if_neg (by simpa using e)]
      rw [hst, set_same] at hRn
      simp (disch := omega) only [f74_r10, f74_r11, f74_r13, w_skip, w_reg, w_seq, w_cond, w_block, seqK_n, atK_n, loopK_n, ckB_b, cbB_b, true_and, x_nil, x_mv, x_as, x_ld, x_bin, x_iads, x_len, kx, rvP_ok, okv_some, ev_t, ev_c, getV_some, putD_some, bin_add, bin_neq, bin_lss, of0, of1, getK_set, Nat.reduceEqDiff, ↓reduceIte, Bool.false_eq_true, g3, g6, g7, hs.len, hlt', decide_true, hp1, hp2, nE, and_n kmi hx (show low p < 9223372036854775808 by omega), e', ne_eq, not_true_eq_false, decide_false, fw64]
      exact ⟨j + 1, by omega, L, hlt, hl, by omega, hpi, hsm, hRn, hs, hgr, by simp (disch := omega) only [getK_set, Nat.reduceEqDiff, ↓reduceIte, g3, g4, g5, g6, and_self, Int.natCast_add, Int.natCast_one]⟩
    · have e' : ¬ ((L[j] &&& low p : Nat) : Int) = 0 := by omega
      have hst : stepR p L[j] = L[j] ^^^ p := by unfold stepR; rw [if_pos e]
      rw [hst] at hRn
      have hxr := stepR_lt hp hx
      rw [hst] at hxr
      obtain ⟨p2, id, m2, cs2, q1, q2, q3, ⟨off, nn, sz, q4⟩, q5⟩ := hs.st hjl (x := L[j] ^^^ p) (c := .i .i64 ((L[j] ^^^ p : Nat) : Int)) rfl rfl hc1
      have hpp : p2 = q := by
        have h1' := hp1 .i64 h1
        have h2' := q1 .i64 h1
        rw [h1'] at h2'
        cases h2'; rfl
      subst hpp
      have hid := ho id off nn sz q4
      simp (disch := omega) only [f74_r10, f74_r11, f74_r12, f74_r13, w_skip, w_reg, w_draw, w_seq, w_cond, w_block, seqK_n, atK_n, loopK_n, ckB_b, cbB_b, true_and, x_nil, x_mv, x_as, x_ld, x_st, x_bin, x_iads, x_len, kx, kg, xg_nil, xg_mv, xg_ld, xg_bin, xg_iads, xd_cons, fresh_nil, stK_n, stK_s, stay_nil, rvP_ok, okv_some, ev_t, ev_c, getV_some, putD_some, putD_none, bin_add, bin_neq, bin_lss, of0, of1, getK_set, Nat.reduceEqDiff, ↓reduceIte, g3, g5, g6, g7, hs.len, hlt', decide_true, hp1, hp2, hr1, hr2, hpi', nE, and_n kmi hx (show low p < 9223372036854775808 by omega), xor_n kmi hx hp, e', ne_eq, not_false_eq_true, q2, fw64]
      exact ⟨j + 1, by omega, L.set j (L[j] ^^^ p), hlt, by rw [List.length_set]; exact hl, by omega, by simp only [List.getD] at hpi ⊢; rw [List.getElem?_set, if_neg (by omega)]; exact hpi, hsm.set hxr, hRn, q3, hgr.trans (Grow.put hid q5 _), by simp (disch := omega) only [getK_set, Nat.reduceEqDiff, ↓reduceIte, g3, g4, g5, g6, and_self, Int.natCast_add, Int.natCast_one]⟩
  · have hjn : j = n := by omega
    subst hjn
    have hlt' : ¬ (j : Int) < (L.length : Int) := by omega
    rw [Nat.sub_self, elR] at hR
    subst hR
    simp (disch := omega) only [f74_r10, w_reg, w_seq, w_cond, w_exit, seqK_n, seqK_e, loopK_e, ckB_b, cbB_b, true_and, x_nil, x_mv, x_bin, x_len, kx, rvP_ok, okv_some, ev_t, getV_some, putD_some, bin_lss, getK_set, Nat.reduceEqDiff, ↓reduceIte, Bool.false_eq_true, g3, g7, hs.len, hlt', decide_false]
    exact hq _ _ hsm hl hs hgr (by simp (disch := omega) only [getK_set, Nat.reduceEqDiff, ↓reduceIte, g3, g4, g5, and_self])
def f74_I1 (b : Nat) (h : H) (v : V) (n R : Nat) (i : Nat) (fr : Fr) (h1 : H) : Prop := ∃ L c, i ≤ n ∧ L.length = n ∧ c ≤ i ∧ Small L ∧ elK (n - i) i L c = R ∧ Sl nE h1 v L ∧ Grow b h h1 ∧ fr.get (K.ofNat 3) = some (v) ∧ fr.get (K.ofNat 4) = some (.i .i64 (c : Int)) ∧ fr.get (K.ofNat 5) = some (.i .i64 (i : Int))
theorem f74_ret {h : H} {v : V} {L : List Nat} (hs : Sl nE h v L) (hsm : Small L) (hc : HC h) (hn : L.length ≤ 1000) :
    Ret fs f74 [v] h fun u h' => u = .i .i64 (rankS L : Int) ∧ Grow h.nx.nat h h' := by
  apply ret_of rfl
  show W fs none f74_c _ _ _
  unfold f74_c
  obtain ⟨w, h1, p1, p2, p3, p4, _⟩ := Sl.app (e := nE) (h := h) Sl.nil (Own.sn (b := h.nx.nat)) (Nat.le_refl _) hs hc (by simp; omega)
  rw [List.nil_append] at p2
  simp (disch := omega) only [f74_r0, f74_r1, f74_r2, f74_r3, f74_r4, w_reg, w_seq, w_block, seqK_n, x_nil, x_mv, x_as, x_app, kx, rvP_ok, ev_t, ev_c, getV_some, putD_some, frame_1, of0, getK_set, Nat.reduceEqDiff, ↓reduceIte, p1]
  refine W_loop (f74_I1 h.nx.nat h w L.length (rankS L)) (fun i => L.length - i) ?_ 0 ⟨L, 0, Nat.zero_le _, rfl, Nat.le_refl _, hsm, rfl, p2, p4, by simp (disch := omega) only [getK_set, Nat.reduceEqDiff, ↓reduceIte, and_self, Int.natCast_zero]⟩
  clear p1 p2 p4 hs hsm
  generalize rankS L = R
  generalize L.length = n at *
  clear L
  rintro i fr h2 ⟨L, c, hi, hl, hci, hsm, hR, hs, hgr, g3, g4, g5⟩
  have hc1 := hgr.hc hc
  unfold f74_l1
  by_cases hlt : i < n
  · have hlt' : (i : Int) < (L.length : Int) := by omega
    have hil : i < L.length := by omega
    obtain ⟨q, hp1, hp2⟩ := hs.at i hil
    have hx := hsm.at hil
    have hg : L.getD i 0 = L[i] := by simp [List.getD, hil]
    rw [show n - i = (n - (i + 1)) + 1 by omega, elK, hg] at hR
    by_cases e : L[i] = 0
    · have e' : ((L[i] : Nat) : Int) = 0 := by omega
      rw [if_pos e] at hR
      simp (disch := omega) only [f74_r5, f74_r6, f74_r14, w_skip, w_reg, w_seq, w_cond, w_block, w_exit, seqK_n, seqK_e, atK_e, loopK_n, ckB_b, cbB_b, true_and, x_nil, x_mv, x_as, x_ld, x_bin, x_iads, x_len, kx, rvP_ok, okv_some, ev_t, ev_c, getV_some, putD_some, bin_add, bin_eql, bin_lss, of0, of1, getK_set, Nat.reduceEqDiff, ↓reduceIte, g3, g5, hs.len, hlt', decide_true, hp1, hp2, nE, e', fw64]
      exact ⟨i + 1, by omega, L, c, hlt, hl, by omega, hsm, hR, hs, hgr, by simp (disch := omega) only [getK_set, Nat.reduceEqDiff, ↓reduceIte, g3, g4, and_self, Int.natCast_add, Int.natCast_one]⟩
    · have e' : ¬ ((L[i] : Nat) : Int) = 0 := by omega
      rw [if_neg e] at hR
      simp (disch := omega) only [f74_r5, f74_r6, f74_r7, f74_r8, f74_r9, w_skip, w_reg, w_draw, w_seq, w_cond, w_block, seqK_n, ckB_b, cbB_b, true_and, x_nil, x_mv, x_as, x_ld, x_bin, x_iads, x_len, kx, kg, xg_nil, xg_mv, xg_ld, xg_bin, xg_neg, xg_iads, xd_cons, fresh_nil, stK_n, stK_s, stay_nil, rvP_ok, okv_some, ev_t, ev_c, getV_some, putD_some, bin_add, bin_eql, bin_lss, onI_i, of0, of1, getK_set, Nat.reduceEqDiff, ↓reduceIte, Bool.false_eq_true, g3, g4, g5, hs.len, hlt', decide_true, decide_false, hp1, hp2, nE, e', fw64, low_i (show 0 < L[i] by omega) hx]
      refine f74_inner (b := h.nx.nat) (h := h) (v := w) (p := L[i]) (c := c + 1) (i := i) (n := n) (R := elR L[i] (n - (i + 1)) (i + 1) L) (j := i + 1) hc p3 hx hn ⟨L, by omega, hl, by omega, hg, hsm, rfl, hs, hgr, by simp (disch := omega) only [getK_set, Nat.reduceEqDiff, ↓reduceIte, g3, g5, and_self, Int.natCast_add, Int.natCast_one]⟩ ?_
      rintro fr h2 hsm2 hl2 hs2 hgr2 ⟨g3, g4, g5⟩
      simp (disch := omega) only [f74_r14, w_reg, seqK_n, atK_n, atK_e, loopK_n, x_nil, x_mv, x_as, x_bin, kx, rvP_ok, okv_some, ev_t, ev_c, getV_some, putD_some, bin_add, of1, getK_set, ↓reduceIte, g5, fw64]
      exact ⟨i + 1, by omega, _, c + 1, hlt, hl2, by omega, hsm2, hR, hs2, hgr2, by simp (disch := omega) only [getK_set, Nat.reduceEqDiff, ↓reduceIte, g3, g4, and_self, Int.natCast_add, Int.natCast_one]⟩
  · obtain rfl : i = n := by omega
    have hlt' : ¬ (i : Int) < (L.length : Int) := by omega
    rw [Nat.sub_self, elK] at hR
    subst hR
    simp (disch := omega) only [f74_r5, f74_r15, f74_rs, w_reg, w_seq, w_cond, w_exit, w_ret, seqK_n, seqK_e, atK_e, loopK_e, ckB_b, cbB_b, true_and, retK_r, x_nil, x_mv, x_as, x_bin, x_len, kx, rvP_ok, okv_some, ev_t, getV_some, putD_some, bin_lss, oGet_s, readRs_nil, readRs_t, retV_1, Option.some.injEq, exists_eq_left', getK_set, Nat.reduceEqDiff, ↓reduceIte, Bool.false_eq_true, g3, g4, g5, hs.len, hlt', decide_false, true_and]
    exact hgr
/-- A face's border, as the reference makes it. -/
def rbTo (x : Nat) : Nat → Nat
  | 0 => 0
  | i + 1 => if x / 2 ^ i % 2 = 1 then rbTo x i ||| 2 ^ lessC x (2 ^ i) else rbTo x i
theorem rb_eq : ∀ x, x < 64 → rbTo x 6 = bordX x := by decide +kernel
theorem rb_less : ∀ x, x < 64 → ∀ i, i < 6 → x / 2 ^ i % 2 = 1 → lessC x (2 ^ i) ≤ 62 := by decide +kernel
theorem rb_lt {x : Nat} (hx : x < 64) : ∀ i, i ≤ 6 → rbTo x i < 9223372036854775808
  | 0, _ => by unfold rbTo; omega
  | i + 1, hi => by
    unfold rbTo
    have ih := rb_lt hx i (by omega)
    split
    · rename_i e
      have h1 := rb_less x hx i (by omega) e
      have h2 : 2 ^ lessC x (2 ^ i) < 2 ^ 63 := Nat.pow_lt_pow_right (by omega) (by omega)
      exact Nat.or_lt_two_pow (n := 63) ih h2
    · exact ih
theorem or_n {m n : Nat} (hm : m < 9223372036854775808) (hn : n < 9223372036854775808) : binV .or (.i .i64 (m : Int)) (.i .i64 (n : Int)) = some (.i .i64 ((m ||| n : Nat) : Int)) := bin_or (by show _ ≤ 9223372036854775807; omega) (by show _ ≤ 9223372036854775807; omega)
theorem shl_i {n : Nat} (hn : n ≤ 62) : binV .shl (.i .i64 1) (.i .i64 (n : Int)) = some (.i .i64 ((2 ^ n : Nat) : Int)) := by
  have h2 : 2 ^ n ≤ 4611686018427387904 := Nat.pow_le_pow_right (by omega) hn
  have h3 : ((2 ^ n : Nat) : Int) ≤ 4611686018427387904 := Int.ofNat_le.2 h2
  have h4 : (0 : Int) ≤ ((2 ^ n : Nat) : Int) := Int.natCast_nonneg _
  rw [bin_shl (by omega), show min (n : Int).toNat (IntKind.bits .i64) = n by show min (n : Int).toNat 64 = n; omega, Int.one_mul, show (2 : Int) ^ n = ((2 ^ n : Nat) : Int) by simp]
  rw [fw64 (by omega) (by omega)]
theorem shr_i {m n : Nat} (hn : n ≤ 62) : binV .shr (.i .i64 (m : Int)) (.i .i64 (n : Int)) = some (.i .i64 ((m / 2 ^ n : Nat) : Int)) := by
  rw [bin_shr, show min n (IntKind.bits .i64) = n by show min n 64 = n; omega]
def f73_I0 (h : H) (v o : V) (k x i : Nat) (j : Nat) (fr : Fr) (h1 : H) : Prop := h1 = h ∧ j ≤ 6 ∧ fr.get (K.ofNat 0) = some (v) ∧ fr.get (K.ofNat 1) = some (.i .i64 (k : Int)) ∧ fr.get (K.ofNat 5) = some (o) ∧ fr.get (K.ofNat 6) = some (.i .i64 (i : Int)) ∧ fr.get (K.ofNat 7) = some (.i .i64 (rbTo x j : Int)) ∧ fr.get (K.ofNat 8) = some (.i .i64 (j : Int))
theorem f73_inner {Q : Ex → Fr → H → Prop} {h : H} {v o : V} {k x i : Nat} {fr : Fr} {L : List Nat} (hs : Sl nE h v L) (hi : i < L.length) (hxi : L[i] = x) (hx : x < 64)
    (h0 : f73_I0 h v o k x i 0 fr h)
    (hq : ∀ fr, fr.get (K.ofNat 0) = some (v) ∧ fr.get (K.ofNat 1) = some (.i .i64 (k : Int)) ∧ fr.get (K.ofNat 5) = some (o) ∧ fr.get (K.ofNat 6) = some (.i .i64 (i : Int)) ∧ fr.get (K.ofNat 7) = some (.i .i64 (bordX x : Int)) → Q (.exit 2) fr h) :
    W fs ro (.loop f73_l0) Q fr h := by
  refine W_loop (f73_I0 h v o k x i) (fun j => 6 - j) ?_ 0 h0
  clear h0 fr
  rintro j fr h1 ⟨rfl, hj, g0, g1, g5, g6, g7, g8⟩
  obtain ⟨q, hp1, hp2⟩ := hs.at i hi
  unfold f73_l0
  by_cases hlt : j < 6
  · have hlt' : (j : Int) < 6 := by omega
    have hrem : ((x / 2 ^ j : Nat) : Int).tmod 2 = ((x / 2 ^ j % 2 : Nat) : Int) := rfl
    by_cases e : x / 2 ^ j % 2 = 1
    · have e' : ((x / 2 ^ j % 2 : Nat) : Int) = 1 := by omega
      have h1 := rb_less x hx j hlt e
      have hb := rb_lt hx j hj
      have h2p : 2 ^ lessC x (2 ^ j) < 9223372036854775808 := Nat.lt_of_lt_of_le (Nat.pow_lt_pow_right (a := 2) (by omega) (show lessC x (2 ^ j) < 63 by omega)) (by decide)
      have h2j : 2 ^ j < 9223372036854775808 := Nat.lt_of_lt_of_le (Nat.pow_lt_pow_right (a := 2) (by omega) (show j < 63 by omega)) (by decide)
      have hn : rbTo x (j + 1) = rbTo x j ||| 2 ^ lessC x (2 ^ j) := by rw [rbTo, if_pos e]
      simp (disch := omega) only [f73_r7, f73_r8, f73_r9, f73_r10, w_skip, w_reg, w_draw, w_seq, w_cond, w_block, seqK_n, atK_n, loopK_n, ckB_b, cbB_b, true_and, x_nil, x_mv, x_as, x_ld, x_bin, x_iads, kx, kg, xg_nil, xg_mv, xg_ld, xg_bin, xg_iads, xd_cons, fresh_nil, stK_n, stK_s, stay_nil, rvP_ok, okv_some, ev_t, ev_c, getV_some, putD_some, bin_add, bin_eql, bin_lss, bin_rem, of1, of2, of6, getK_set, Nat.reduceEqDiff, ↓reduceIte, g0, g6, g7, g8, hlt', decide_true, hp1, hp2, nE, hxi, shr_i (show j ≤ 62 by omega), hrem, e', shl_i (show j ≤ 62 by omega), andNot_n (show x < 9223372036854775808 by omega) h2j, shl_i h1, or_n hb h2p, fw64]
      exact ⟨j + 1, by omega, rfl, hlt, by rw [hn]; simp (disch := omega) only [getK_set, Nat.reduceEqDiff, ↓reduceIte, g0, g1, g5, g6, and_self, Int.natCast_add, Int.natCast_one]⟩
    · have e' : ¬ ((x / 2 ^ j % 2 : Nat) : Int) = 1 := by omega
      have hn : rbTo x (j + 1) = rbTo x j := by rw [rbTo, if_neg e]
      simp (disch := omega) only [f73_r7, f73_r8, f73_r10, w_skip, w_reg, w_seq, w_cond, w_block, seqK_n, atK_n, loopK_n, ckB_b, cbB_b, true_and, x_nil, x_mv, x_as, x_ld, x_bin, x_iads, kx, rvP_ok, okv_some, ev_t, ev_c, getV_some, putD_some, bin_add, bin_eql, bin_lss, bin_rem, of1, of2, of6, getK_set, Nat.reduceEqDiff, ↓reduceIte, Bool.false_eq_true, g0, g6, g8, hlt', decide_true, hp1, hp2, nE, hxi, shr_i (show j ≤ 62 by omega), hrem, e', decide_false, fw64]
      exact ⟨j + 1, by omega, rfl, hlt, by rw [hn]; simp (disch := omega) only [getK_set, Nat.reduceEqDiff, ↓reduceIte, g0, g1, g5, g6, g7, and_self, Int.natCast_add, Int.natCast_one]⟩
  · obtain rfl : j = 6 := by omega
    rw [rb_eq x hx] at g7
    simp (disch := omega) only [f73_r7, w_skip, w_reg, w_seq, w_cond, w_block, w_exit, seqK_n, seqK_e, loopK_e, ckB_b, cbB_b, true_and, x_nil, x_mv, x_bin, kx, rvP_ok, okv_some, ev_t, ev_c, getV_some, putD_some, bin_lss, of6, getK_set, ↓reduceIte, decide_eq_true_eq, g8]
    exact hq _ (by simp (disch := omega) only [getK_set, Nat.reduceEqDiff, ↓reduceIte, g0, g1, g5, g6, g7, and_self])
def f73_I1 (h : H) (v : V) (L : List Nat) (k : Nat) (i : Nat) (fr : Fr) (h1 : H) : Prop := ∃ o, i ≤ L.length ∧ Sl nE h1 o (rowsOf (L.take i) k) ∧ Own h.nx.nat o ∧ Grow h.nx.nat h h1 ∧ fr.get (K.ofNat 0) = some (v) ∧ fr.get (K.ofNat 1) = some (.i .i64 (k : Int)) ∧ fr.get (K.ofNat 5) = some (o) ∧ fr.get (K.ofNat 6) = some (.i .i64 (i : Int))
theorem f73_ret {h : H} {v : V} {L : List Nat} {k : Nat} (hp52 : ∀ m : Nat, m < 64 → ∀ h P, CallP fs (.fn (K.ofNat 52) []) [.i .i64 (m : Int)] h P = P (.i .i64 (pop6 m : Int)) h)
    (hs : Sl nE h v L) (hL : ∀ x ∈ L, x < 64) (hc : HC h) (hn : L.length ≤ 1000) :
    Ret fs f73 [v, .i .i64 (k : Int)] h fun u h' => Sl nE h' u (rowsOf L k) ∧ Own h.nx.nat u ∧ Grow h.nx.nat h h' := by
  apply ret_of rfl
  show W fs none f73_c _ _ _
  unfold f73_c
  simp (disch := omega) only [f73_r0, f73_r1, f73_r2, w_reg, w_seq, w_block, seqK_n, x_nil, x_as, ev_c, putD_some, frame_2, of0]
  refine W_loop (f73_I1 h v L k) (fun i => L.length - i) ?_ 0 ⟨.sn, Nat.zero_le _, Sl.nil, Own.sn, Grow.refl _ _, by simp (disch := omega) only [getK_set, Nat.reduceEqDiff, ↓reduceIte, and_self, Int.natCast_zero]⟩
  rintro i fr h1 ⟨o, hi, hso, hoo, hgr, g0, g1, g5, g6⟩
  have hc1 := hgr.hc hc
  have hs1 := hs.grow hc hgr
  unfold f73_l1
  by_cases hlt : i < L.length
  · have hlt' : (i : Int) < (L.length : Int) := by omega
    obtain ⟨q, hp1, hp2⟩ := hs1.at i hlt
    have hx := hL _ (List.getElem_mem hlt)
    have hsn := rowsOf_snoc (l := L.take i) (x := L[i]) (k := k)
    rw [← List.take_succ_eq_append_getElem hlt] at hsn
    by_cases e : pop6 L[i] = k
    · have e' : ((pop6 L[i] : Nat) : Int) = (k : Int) := by omega
      rw [if_pos e] at hsn
      simp (disch := omega) only [f73_r3, f73_r4, f73_r5, f73_r6, w_skip, w_reg, w_seq, w_cond, w_block, seqK_n, ckB_b, cbB_b, true_and, x_nil, x_mv, x_as, x_ld, x_bin, x_iads, x_call, x_len, kx, rvP_ok, okv_some, ev_t, ev_c, evs_nil, evs_cons, getV_some, putD_some, bin_neq, bin_lss, of0, getK_set, Nat.reduceEqDiff, ↓reduceIte, Bool.false_eq_true, g0, g1, g6, hs1.len, hlt', decide_true, hp1, hp2, nE, hp52 _ hx, e', ne_eq, not_true_eq_false, decide_false]
      refine f73_inner (h := h1) (v := v) (o := o) (k := k) (x := L[i]) (i := i) hs1 hlt rfl hx ⟨rfl, by omega, by simp (disch := omega) only [getK_set, Nat.reduceEqDiff, ↓reduceIte, g0, g1, g5, g6, and_self, Int.natCast_zero, rbTo]⟩ ?_
      rintro fr ⟨g0, g1, g5, g6, g7⟩
      have hrl := rowsOf_len (l := L.take i) (k := k)
      rw [List.length_take] at hrl
      obtain ⟨v', h', p1, p2, p3, p4, p5⟩ := Sl.push (e := nE) (L := rowsOf (L.take i) k) (x := bordX L[i]) (c := .i .i64 (bordX L[i] : Int)) rfl hso hoo hgr.nx hc1 (by omega)
      simp (disch := omega) only [f73_r11, f73_r12, w_reg, seqK_n, atK_n, atK_e, loopK_n, x_nil, x_mv, x_as, x_bslice, x_bin, x_app, kx, rvP_ok, okv_some, ev_t, ev_c, getV_some, putD_some, bin_add, oGet_s, cells1_i, fill_1, set_1, of0, of1, getK_set, Nat.reduceEqDiff, ↓reduceIte, g5, g6, g7, p1, fw64]
      exact ⟨i + 1, by omega, v', hlt, by rw [hsn]; exact p2, p3, hgr.trans p4, by simp (disch := omega) only [getK_set, Nat.reduceEqDiff, ↓reduceIte, g0, g1, and_self, Int.natCast_add, Int.natCast_one]⟩
    · have e' : ¬ ((pop6 L[i] : Nat) : Int) = (k : Int) := by omega
      rw [if_neg e] at hsn
      simp (disch := omega) only [f73_r3, f73_r4, f73_r12, w_skip, w_reg, w_seq, w_cond, w_block, w_exit, seqK_n, seqK_e, atK_e, loopK_n, ckB_b, cbB_b, true_and, x_nil, x_mv, x_as, x_ld, x_bin, x_iads, x_call, x_len, kx, rvP_ok, okv_some, ev_t, ev_c, evs_nil, evs_cons, getV_some, putD_some, bin_add, bin_neq, bin_lss, of1, getK_set, Nat.reduceEqDiff, ↓reduceIte, g0, g1, g6, hs1.len, hlt', decide_true, hp1, hp2, nE, hp52 _ hx, e', ne_eq, not_false_eq_true, fw64]
      exact ⟨i + 1, by omega, o, hlt, by rw [hsn]; exact hso, hoo, hgr, by simp (disch := omega) only [getK_set, Nat.reduceEqDiff, ↓reduceIte, g0, g1, g5, and_self, Int.natCast_add, Int.natCast_one]⟩
  · obtain rfl : i = L.length := by omega
    have hlt' : ¬ (L.length : Int) < (L.length : Int) := by omega
    rw [List.take_length] at hso
    simp (disch := omega) only [f73_r3, f73_r13, f73_rs, w_reg, w_seq, w_cond, w_exit, w_ret, seqK_n, seqK_e, atK_e, loopK_e, ckB_b, cbB_b, true_and, retK_r, x_nil, x_mv, x_as, x_bin, x_len, kx, rvP_ok, okv_some, ev_t, getV_some, putD_some, bin_lss, oGet_s, readRs_nil, readRs_t, retV_1, Option.some.injEq, exists_eq_left', getK_set, Nat.reduceEqDiff, ↓reduceIte, Bool.false_eq_true, g0, g5, g6, hs1.len, hlt', decide_false]
    exact ⟨hso, hoo, hgr⟩
end
end Go.Ev
namespace Go.Ev
open Go Go.RowKit
noncomputable def f44_r0 : List EOper := [⟨(some (K.ofNat 4)), none, .as (.c .sn)⟩]
noncomputable def f44_r1 : List EOper := [⟨(some (K.ofNat 11)), none, .mv (.t (K.ofNat 0))⟩, ⟨(some (K.ofNat 12)), none, .mv (.t (K.ofNat 1))⟩, ⟨(some (K.ofNat 13)), none, .call (.c (.fn (K.ofNat 33) [])) [(.t (K.ofNat 11)), (.t (K.ofNat 12))]⟩, ⟨(some (K.ofNat 5)), none, .as (.t (K.ofNat 13))⟩]
noncomputable def f44_r2 : List EOper := [⟨(some (K.ofNat 14)), none, .mv (.t (K.ofNat 0))⟩, ⟨(some (K.ofNat 15)), none, .mv (.t (K.ofNat 1))⟩, ⟨(some (K.ofNat 16)), none, .call (.c (.fn (K.ofNat 31) [])) [(.t (K.ofNat 14)), (.t (K.ofNat 15))]⟩, ⟨(some (K.ofNat 17)), none, .len (.t (K.ofNat 16))⟩, ⟨(some (K.ofNat 18)), none, .bin .sub (.t (K.ofNat 17)) (.c (.i .i64 (.ofNat 1)))⟩, ⟨(some (K.ofNat 6)), none, .as (.t (K.ofNat 18))⟩]
noncomputable def f44_r3 : List EOper := [⟨(some (K.ofNat 7)), none, .as (.c .sn)⟩]
noncomputable def f44_r4 : List EOper := [⟨(some (K.ofNat 8)), none, .as (.c (.i .i64 (.ofNat 0)))⟩]
noncomputable def f44_r5 : List EOper := [⟨(some (K.ofNat 19)), none, .mv (.t (K.ofNat 8))⟩, ⟨(some (K.ofNat 20)), none, .mv (.t (K.ofNat 6))⟩, ⟨(some (K.ofNat 21)), none, .bin .lss (.t (K.ofNat 19)) (.t (K.ofNat 20))⟩]
noncomputable def f44_r6 : List EOper := [⟨(some (K.ofNat 24)), none, .mv (.t (K.ofNat 5))⟩, ⟨(some (K.ofNat 25)), none, .mv (.t (K.ofNat 8))⟩, ⟨(some (K.ofNat 26)), none, .bin .add (.t (K.ofNat 25)) (.c (.i .i64 (.ofNat 1)))⟩, ⟨(some (K.ofNat 27)), none, .call (.c (.fn (K.ofNat 73) [])) [(.t (K.ofNat 24)), (.t (K.ofNat 26))]⟩, ⟨(some (K.ofNat 28)), none, .mv (.t (K.ofNat 5))⟩, ⟨(some (K.ofNat 29)), none, .mv (.t (K.ofNat 8))⟩, ⟨(some (K.ofNat 30)), none, .bin .add (.t (K.ofNat 29)) (.c (.i .i64 (.ofNat 2)))⟩, ⟨(some (K.ofNat 31)), none, .call (.c (.fn (K.ofNat 73) [])) [(.t (K.ofNat 28)), (.t (K.ofNat 30))]⟩, ⟨(some (K.ofNat 9)), none, .as (.t (K.ofNat 27))⟩, ⟨(some (K.ofNat 10)), none, .as (.t (K.ofNat 31))⟩]
noncomputable def f44_r7 : List EOper := [⟨(some (K.ofNat 32)), none, .mv (.t (K.ofNat 7))⟩, ⟨(some (K.ofNat 33)), none, .mv (.t (K.ofNat 9))⟩, ⟨(some (K.ofNat 34)), none, .len (.t (K.ofNat 33))⟩, ⟨(some (K.ofNat 35)), none, .mv (.t (K.ofNat 9))⟩, ⟨(some (K.ofNat 36)), none, .call (.c (.fn (K.ofNat 74) [])) [(.t (K.ofNat 35))]⟩, ⟨(some (K.ofNat 37)), none, .bin .sub (.t (K.ofNat 34)) (.t (K.ofNat 36))⟩, ⟨(some (K.ofNat 38)), none, .mv (.t (K.ofNat 10))⟩, ⟨(some (K.ofNat 39)), none, .call (.c (.fn (K.ofNat 74) [])) [(.t (K.ofNat 38))]⟩, ⟨(some (K.ofNat 40)), none, .bin .sub (.t (K.ofNat 37)) (.t (K.ofNat 39))⟩, ⟨(some (K.ofNat 41)), none, .bslice 1 1 [(.i .i64 (.ofNat 0))] [(0, 1, (.t (K.ofNat 40)))]⟩, ⟨(some (K.ofNat 42)), none, .app 1 (.t (K.ofNat 32)) (.t (K.ofNat 41))⟩, ⟨(some (K.ofNat 7)), none, .as (.t (K.ofNat 42))⟩]
noncomputable def f44_r8 : List EOper := [⟨(some (K.ofNat 22)), none, .mv (.t (K.ofNat 8))⟩, ⟨(some (K.ofNat 23)), none, .bin .add (.t (K.ofNat 22)) (.c (.i .i64 (.ofNat 1)))⟩, ⟨(some (K.ofNat 8)), none, .as (.t (K.ofNat 23))⟩]
noncomputable def f44_l0 : EC := (.seq (.seq (.reg f44_r5) (.cond (.t (K.ofNat 21)) .skip (.exit 0))) (.seq (.block 1 (.seq (.reg f44_r6) (.reg f44_r7))) (.reg f44_r8)))
noncomputable def f44_r9 : List EOper := [⟨(some (K.ofNat 43)), none, .mv (.t (K.ofNat 7))⟩, ⟨(some (K.ofNat 4)), none, .as (.t (K.ofNat 43))⟩]
noncomputable def f44_c : EC := (.seq (.reg f44_r0) (.seq (.reg f44_r1) (.seq (.reg f44_r2) (.seq (.reg f44_r3) (.seq (.seq (.reg f44_r4) (.block 0 (.loop f44_l0))) (.seq (.reg f44_r9) .ret))))))
noncomputable def f44 : EF := ⟨44, [.tmp (K.ofNat 4)], f44_c, none⟩
theorem f44_rs : f44.rs = [.tmp (K.ofNat 4)] := of_eq_true (eq_self _)
noncomputable def f83_r0 : List EOper := [⟨(some (K.ofNat 2)), none, .as (.c (.i .i64 (.ofNat 0)))⟩]
noncomputable def f83_r1 : List EOper := [⟨(some (K.ofNat 3)), none, .as (.c (.i .i64 (.ofNat 0)))⟩]
noncomputable def f83_r2 : List EOper := [⟨(some (K.ofNat 6)), none, .mv (.t (K.ofNat 0))⟩, ⟨(some (K.ofNat 7)), none, .len (.t (K.ofNat 6))⟩, ⟨(some (K.ofNat 8)), none, .mv (.c (.i .i64 (.ofNat 0)))⟩]
noncomputable def f83_r3 : List EOper := [⟨(some (K.ofNat 9)), none, .bin .lss (.t (K.ofNat 8)) (.t (K.ofNat 7))⟩]
noncomputable def f83_r4 : List EOper := [⟨(some (K.ofNat 10)), none, .iads 1 (.t (K.ofNat 6)) (.t (K.ofNat 8))⟩, ⟨(some (K.ofNat 11)), none, .ld (.t (K.ofNat 10))⟩, ⟨(some (K.ofNat 5)), none, .as (.t (K.ofNat 11))⟩]
noncomputable def f83_r5 : List EOper := [⟨(some (K.ofNat 12)), none, .mv (.t (K.ofNat 3))⟩, ⟨(some (K.ofNat 13)), none, .mv (.t (K.ofNat 5))⟩, ⟨(some (K.ofNat 14)), none, .bin .or (.t (K.ofNat 12)) (.t (K.ofNat 13))⟩, ⟨(some (K.ofNat 3)), none, .as (.t (K.ofNat 14))⟩]
noncomputable def f83_r6 : List EOper := [⟨(some (K.ofNat 15)), none, .bin .add (.t (K.ofNat 8)) (.c (.i .i64 (.ofNat 1)))⟩, ⟨(some (K.ofNat 8)), none, .mv (.t (K.ofNat 15))⟩]
noncomputable def f83_l0 : EC := (.seq (.reg f83_r3) (.seq (.cond (.t (K.ofNat 9)) .skip (.exit 0)) (.seq (.block 1 (.seq (.reg f83_r4) (.reg f83_r5))) (.reg f83_r6))))
noncomputable def f83_r7 : List EOper := [⟨(some (K.ofNat 16)), none, .mv (.t (K.ofNat 3))⟩, ⟨(some (K.ofNat 2)), none, .as (.t (K.ofNat 16))⟩]
noncomputable def f83_c : EC := (.seq (.reg f83_r0) (.seq (.reg f83_r1) (.seq (.seq (.reg f83_r2) (.block 0 (.loop f83_l0))) (.seq (.reg f83_r7) .ret))))
noncomputable def f83 : EF := ⟨17, [.tmp (K.ofNat 2)], f83_c, none⟩
theorem f83_rs : f83.rs = [.tmp (K.ofNat 2)] := of_eq_true (eq_self _)
noncomputable def f65_r0 : List EOper := [⟨(some (K.ofNat 2)), none, .box 64 (.t (K.ofNat 0))⟩, ⟨(some (K.ofNat 3)), none, .box 1 (.t (K.ofNat 1))⟩, ⟨(some (K.ofNat 4)), none, .alloc 64 (List.replicate 64 (.b false))⟩]
noncomputable def f65_r1 : List EOper := [⟨(some (K.ofNat 5)), none, .alloc 64 (List.replicate 64 (.b false))⟩]
noncomputable def f65_r2 : List EOper := [⟨(some (K.ofNat 7)), none, .ldn 64 (.t (K.ofNat 2))⟩, ⟨(some (K.ofNat 8)), none, .call (.c (.fn (K.ofNat 78) [])) [(.t (K.ofNat 7))]⟩]
noncomputable def f65_r3 : List EOper := [⟨(some (K.ofNat 6)), none, .as (.t (K.ofNat 9))⟩]
noncomputable def f65_a0 : EC := (.reg f65_r3)
noncomputable def f65_r4 : List EOper := [⟨(some (K.ofNat 10)), none, .mv (.t (K.ofNat 6))⟩, ⟨(some (K.ofNat 11)), none, .mv (.t (K.ofNat 6))⟩, ⟨(some (K.ofNat 12)), none, .ld (.t (K.ofNat 3))⟩, ⟨(some (K.ofNat 13)), none, .bin .and (.t (K.ofNat 11)) (.t (K.ofNat 12))⟩, ⟨(some (K.ofNat 14)), none, .bin .eql (.t (K.ofNat 13)) (.c (.i .i64 (.ofNat 0)))⟩, ⟨(some (K.ofNat 15)), none, .mv (.t (K.ofNat 14))⟩, ⟨(some (K.ofNat 16)), (some ((K.ofNat 15), true)), .mv (.t (K.ofNat 6))⟩, ⟨(some (K.ofNat 17)), (some ((K.ofNat 15), true)), .ld (.t (K.ofNat 3))⟩, ⟨(some (K.ofNat 18)), (some ((K.ofNat 15), true)), .bslice 2 1 [(.i .i64 (.ofNat 0)), (.i .i64 (.ofNat 0))] [(0, 1, (.t (K.ofNat 16))), (1, 1, (.t (K.ofNat 17)))]⟩, ⟨(some (K.ofNat 19)), (some ((K.ofNat 15), true)), .call (.c (.fn (K.ofNat 83) [])) [(.t (K.ofNat 18))]⟩, ⟨(some (K.ofNat 20)), (some ((K.ofNat 15), true)), .iadr 64 1 (.t (K.ofNat 2)) (.t (K.ofNat 19))⟩, ⟨(some (K.ofNat 21)), (some ((K.ofNat 15), true)), .ld (.t (K.ofNat 20))⟩, ⟨(some (K.ofNat 22)), none, .pick (.t (K.ofNat 15)) (.t (K.ofNat 21)) (.c (.b false))⟩, ⟨(some (K.ofNat 23)), none, .iadr 64 1 (.t (K.ofNat 5)) (.t (K.ofNat 10))⟩, ⟨none, none, .st 1 (.t (K.ofNat 23)) (.t (K.ofNat 22))⟩]
noncomputable def f65_b0 : EC := (.block 1 (.reg f65_r4))
noncomputable def f65_r5 : List EOper := [⟨(some (K.ofNat 24)), none, .ldn 64 (.t (K.ofNat 5))⟩, ⟨none, none, .st 64 (.t (K.ofNat 4)) (.t (K.ofNat 24))⟩]
noncomputable def f65_c : EC := (.seq (.reg f65_r0) (.seq (.reg f65_r1) (.seq (.seq (.reg f65_r2) (.block 0 (.rangeF (.t (K.ofNat 8)) [(K.ofNat 9)] f65_a0 f65_b0))) (.seq (.reg f65_r5) .ret))))
noncomputable def f65 : EF := ⟨25, [.celln (K.ofNat 4) 64], f65_c, none⟩
theorem f65_rs : f65.rs = [.celln (K.ofNat 4) 64] := of_eq_true (eq_self _)
section
variable {fs : T EF} {ro : Option K}
noncomputable def rhv (l : List Nat) (k : Nat) : Int := fw .i64 (fw .i64 (((rowsOf l (k + 1)).length : Int) - (rankS (rowsOf l (k + 1)) : Int)) - (rankS (rowsOf l (k + 2)) : Int))
noncomputable def rhTo (l : List Nat) (i : Nat) : List Int := (List.range i).map (rhv l)
theorem rhTo_succ {l : List Nat} {i : Nat} : rhTo l (i + 1) = rhTo l i ++ [rhv l i] := by unfold rhTo; rw [List.range_succ, List.map_append]; rfl
def f44_I (hb : H) (u : V) (l : List Nat) (d : Nat) (i : Nat) (fr : Fr) (h1 : H) : Prop := ∃ o, i ≤ d ∧ Sl iE h1 o (rhTo l i) ∧ Own hb.nx.nat o ∧ Grow hb.nx.nat hb h1 ∧ fr.get (K.ofNat 5) = some (u) ∧ fr.get (K.ofNat 6) = some (.i .i64 (d : Int)) ∧ fr.get (K.ofNat 7) = some (o) ∧ fr.get (K.ofNat 8) = some (.i .i64 (i : Int))
theorem facTo_N {S : List Int} {m : Nat} : facTo S m = (facN S m).map fun (k : Nat) => (k : Int) := rfl
theorem f44_ret {h : H} {v : V} {S : List Int} {n : Int} (hp : ∀ a b h P, CallP fs (.fn (K.ofNat 53) []) [.i .i64 a, .i .i64 b] h P = P (.b (ptI a b)) h)
    (hp52 : ∀ m : Nat, m < 64 → ∀ h P, CallP fs (.fn (K.ofNat 52) []) [.i .i64 (m : Int)] h P = P (.i .i64 (pop6 m : Int)) h)
    (h45 : fs.get (K.ofNat 45) = some f45) (h33 : fs.get (K.ofNat 33) = some f33) (h31 : fs.get (K.ofNat 31) = some f31) (h73 : fs.get (K.ofNat 73) = some f73) (h74 : fs.get (K.ofNat 74) = some f74) (hv : Sl iE h v S) (hc : HC h) (hS : S.length ≤ 1000) (hsets : Sets S) (hn1 : 1 ≤ n) (hn6 : n ≤ 6)
    (hsz : ∀ k ∈ facN S (2 ^ n.toNat), pop6 k ≤ maxS S) :
    Ret fs f44 [.i .i64 n, v] h fun u h' => Sl iE h' u (rhTo (facN S (2 ^ n.toNat)) (maxS S)) ∧ Own h.nx.nat u ∧ Grow h.nx.nat h h' := by
  apply ret_of rfl
  show W fs none f44_c _ _ _
  unfold f44_c
  obtain ⟨hpw, hpe⟩ := pow_n hn1 hn6
  have hms := maxS_le S
  simp (disch := omega) only [f44_r0, f44_r1, w_reg, w_seq, seqK_n, x_nil, x_mv, x_as, x_call, ev_t, ev_c, evs_nil, evs_cons, getV_some, putD_some, frame_2, getK_set, Nat.reduceEqDiff, ↓reduceIte]
  refine (callP_0 (ef := f33) h33 rfl (f33_ret (n := n) hp h45 hv hc (by omega) hn1 hn6)).mono ?_
  rintro u h1 ⟨hsu, hou, gr1⟩
  have hc1 := gr1.hc hc
  simp (disch := omega) only [f44_r2, w_reg, w_seq, seqK_n, x_nil, x_mv, x_as, x_call, kx, ev_t, ev_c, evs_nil, evs_cons, getV_some, putD_some, of1, getK_set, Nat.reduceEqDiff, ↓reduceIte]
  refine (callP_0 (ef := f31) h31 rfl (f31_ret (n := n) hp hp52 h45 h33 (hv.grow hc gr1) hc1 hS hsets hn1 hn6 hsz)).mono ?_
  rintro w h2 ⟨hsw, how, gr2⟩
  have hc2 := gr2.hc hc1
  have hd1 : fw .i64 (((maxS S + 1 : Nat) : Int) - 1) = (maxS S : Int) := by rw [fw64 (by omega) (by omega)]; omega
  have hlw := hsw.len h2
  rw [rcnt_len] at hlw
  have hsu2 := hsu.grow hc1 gr2
  rw [facTo_N] at hsu2
  have hsn : Sl nE h2 u (facN S (2 ^ n.toNat)) := hsu2.unmap
  have hlt64 : ∀ x ∈ facN S (2 ^ n.toNat), x < 64 := fun x hx => by
    unfold facN at hx
    rw [List.mem_filter, List.mem_range] at hx
    omega
  have hl64 : (facN S (2 ^ n.toNat)).length ≤ 64 := by
    unfold facN
    exact Nat.le_trans (List.length_filter_le _ _) (by simp; omega)
  generalize facN S (2 ^ n.toNat) = l at *
  generalize maxS S = d at *
  simp (disch := omega) only [f44_r3, f44_r4, w_reg, w_seq, w_block, seqK_n, x_nil, x_as, x_bin, x_len, kx, rvP_ok, okv_some, ev_t, ev_c, getV_some, putD_some, bin_sub, of0, getK_set, ↓reduceIte, hlw, hd1]
  refine W_loop (f44_I h2 u l d) (fun i => d - i) ?_ 0 ⟨.sn, Nat.zero_le _, Sl.nil, Own.sn, Grow.refl _ _, by simp (disch := omega) only [getK_set, Nat.reduceEqDiff, ↓reduceIte, and_self, Int.natCast_zero]⟩
  rintro i fr h3 ⟨o, hi, hso, hoo, hgr, g5, g6, g7, g8⟩
  have hc3 := hgr.hc hc2
  have hsu3 := hsn.grow hc2 hgr
  unfold f44_l0
  by_cases hlt : i < d
  · have hlt' : (i : Int) < (d : Int) := by omega
    have a1 : fw .i64 ((i : Int) + 1) = ((i + 1 : Nat) : Int) := by rw [fw64 (by omega) (by omega)]; omega
    have a2 : fw .i64 ((i : Int) + 2) = ((i + 2 : Nat) : Int) := by rw [fw64 (by omega) (by omega)]; omega
    simp (disch := omega) only [f44_r5, f44_r6, w_skip, w_reg, w_seq, w_cond, w_block, seqK_n, ckB_b, cbB_b, true_and, x_nil, x_mv, x_bin, x_call, kx, rvP_ok, okv_some, ev_t, ev_c, evs_nil, evs_cons, getV_some, putD_some, bin_add, bin_lss, of1, of2, getK_set, Nat.reduceEqDiff, ↓reduceIte, g5, g6, g8, hlt', decide_true, a1]
    refine (callP_0 (ef := f73) h73 rfl (f73_ret (k := i + 1) hp52 hsu3 hlt64 hc3 (by omega))).mono ?_
    rintro w1 h4 ⟨s1, o1, gr4⟩
    have hc4 := gr4.hc hc3
    simp (disch := omega) only [x_mv, x_bin, x_call, kx, rvP_ok, okv_some, ev_t, ev_c, evs_nil, evs_cons, getV_some, putD_some, bin_add, getK_set, Nat.reduceEqDiff, ↓reduceIte, g5, g8, a2]
    refine (callP_0 (ef := f73) h73 rfl (f73_ret (k := i + 2) hp52 (hsu3.grow hc3 gr4) hlt64 hc4 (by omega))).mono ?_
    rintro w2 h5 ⟨s2, o2, gr5⟩
    have hc5 := gr5.hc hc4
    have s1' := s1.grow hc4 gr5
    have hr1 := rowsOf_len (l := l) (k := i + 1)
    have hr2 := rowsOf_len (l := l) (k := i + 2)
    simp (disch := omega) only [f44_r7, w_reg, seqK_n, x_nil, x_mv, x_as, x_call, x_len, kx, rvP_ok, ev_t, ev_c, evs_nil, evs_cons, getV_some, putD_some, of0, getK_set, Nat.reduceEqDiff, ↓reduceIte, g7, s1'.len]
    refine (callP_0 (ef := f74) h74 rfl (f74_ret s1' (rows_small hlt64) hc5 (by omega))).mono ?_
    rintro u1 h6 ⟨rfl, gr6⟩
    have hc6 := gr6.hc hc5
    simp (disch := omega) only [x_mv, x_bin, x_call, kx, rvP_ok, okv_some, ev_t, ev_c, evs_nil, evs_cons, getV_some, putD_some, bin_sub, getK_set, Nat.reduceEqDiff, ↓reduceIte]
    refine (callP_0 (ef := f74) h74 rfl (f74_ret (s2.grow hc5 gr6) (rows_small hlt64) hc6 (by omega))).mono ?_
    rintro u2 h7 ⟨rfl, gr7⟩
    have hc7 := gr7.hc hc6
    have ga := gr4.nx; have gb := gr5.nx; have gc := gr6.nx
    have gg : Grow h3.nx.nat h3 h7 := ((gr4.trans (gr5.low (by omega))).trans (gr6.low (by omega))).trans (gr7.low (by omega))
    have hlen : (rhTo l i).length = i := by simp [rhTo]
    have hval : fw .i64 (fw .i64 (((rowsOf l (i + 1)).length : Int) - (rankS (rowsOf l (i + 1)) : Int)) - (rankS (rowsOf l (i + 2)) : Int)) = rhv l i := rfl
    obtain ⟨v', h', p1, p2, p3, p4, p5⟩ := Sl.push (e := iE) (L := rhTo l i) (x := rhv l i) (c := .i .i64 (rhv l i)) rfl (hso.grow hc3 gg) hoo (Nat.le_trans hgr.nx gg.nx) hc7 (by omega)
    simp (disch := omega) only [f44_r8, w_reg, seqK_n, atK_n, loopK_n, x_nil, x_mv, x_as, x_bslice, x_bin, x_app, kx, rvP_ok, okv_some, ev_t, ev_c, getV_some, putD_some, bin_add, bin_sub, oGet_s, cells1_i, fill_1, set_1, of1, getK_set, Nat.reduceEqDiff, ↓reduceIte, g8, hval, p1, a1]
    exact ⟨i + 1, by omega, v', hlt, by rw [rhTo_succ]; exact p2, p3, (hgr.trans (gg.low hgr.nx)).trans p4, by simp (disch := omega) only [getK_set, Nat.reduceEqDiff, ↓reduceIte, g5, g6, and_self, Int.natCast_add, Int.natCast_one]⟩
  · obtain rfl : i = d := by omega
    have hlt' : ¬ (i : Int) < (i : Int) := by omega
    simp (disch := omega) only [f44_r5, f44_r9, f44_rs, w_reg, w_seq, w_cond, w_exit, w_ret, seqK_n, seqK_e, atK_e, loopK_e, ckB_b, cbB_b, true_and, retK_r, x_nil, x_mv, x_as, x_bin, kx, rvP_ok, okv_some, ev_t, getV_some, putD_some, bin_lss, oGet_s, readRs_nil, readRs_t, retV_1, Option.some.injEq, exists_eq_left', getK_set, Nat.reduceEqDiff, ↓reduceIte, Bool.false_eq_true, g6, g7, g8, hlt', decide_false]
    have := gr1.nx; have := gr2.nx
    exact ⟨hso, hoo.low (by omega), (gr1.trans (gr2.low (by omega))).trans (hgr.low (by omega))⟩
/-- All of them together. -/
def joinS (L : List Nat) : Nat := L.foldl (fun s x => s ||| x) 0
theorem joinS_snoc {L : List Nat} {x : Nat} : joinS (L ++ [x]) = joinS L ||| x := by unfold joinS; rw [List.foldl_append]; rfl
theorem joinS_lt : ∀ {L : List Nat}, Small L → joinS L < 9223372036854775808 := by
  intro L
  refine snoc_ind (P := fun L => Small L → joinS L < 9223372036854775808) (fun _ => by unfold joinS; simp) (fun l x ih h => ?_) L
  rw [joinS_snoc]
  exact Nat.or_lt_two_pow (n := 63) (ih fun y hy => h y (List.mem_append_left _ hy)) (h x (by simp))
def f83_I (h : H) (v : V) (L : List Nat) (i : Nat) (fr : Fr) (h1 : H) : Prop := h1 = h ∧ i ≤ L.length ∧ fr.get (K.ofNat 3) = some (.i .i64 (joinS (L.take i) : Int)) ∧ fr.get (K.ofNat 6) = some (v) ∧ fr.get (K.ofNat 7) = some (.i .i64 (L.length : Int)) ∧ fr.get (K.ofNat 8) = some (.i .i64 (i : Int))
theorem f83_ret {h : H} {v : V} {L : List Nat} (hs : Sl nE h v L) (hsm : Small L) (hn : L.length ≤ 1000) :
    Ret fs f83 [v] h fun u h' => u = .i .i64 (joinS L : Int) ∧ h' = h := by
  apply ret_of rfl
  show W fs none f83_c _ _ _
  unfold f83_c
  simp (disch := omega) only [f83_r0, f83_r1, f83_r2, w_reg, w_seq, w_block, seqK_n, x_nil, x_mv, x_as, x_len, kx, rvP_ok, ev_t, ev_c, getV_some, putD_some, frame_1, of0, getK_set, Nat.reduceEqDiff, ↓reduceIte, hs.len]
  refine W_loop (f83_I h v L) (fun i => L.length - i) ?_ 0 ⟨rfl, Nat.zero_le _, by simp (disch := omega) only [Option.some.injEq, getK_set, Nat.reduceEqDiff, ↓reduceIte, and_self, Int.natCast_zero, List.take_zero]; simp [joinS]⟩
  rintro i fr h1 ⟨rfl, hi, g3, g6, g7, g8⟩
  unfold f83_l0
  by_cases hlt : i < L.length
  · have hlt' : (i : Int) < (L.length : Int) := by omega
    obtain ⟨q, hp1, hp2⟩ := hs.at i hlt
    have hx := hsm.at hlt
    have hj : joinS (L.take i) < 9223372036854775808 := joinS_lt fun y hy => hsm y (List.mem_of_mem_take hy)
    have hn : joinS (L.take (i + 1)) = joinS (L.take i) ||| L[i] := by rw [List.take_succ_eq_append_getElem hlt, joinS_snoc]
    simp (disch := omega) only [f83_r3, f83_r4, f83_r5, f83_r6, w_skip, w_reg, w_seq, w_cond, w_block, seqK_n, atK_n, loopK_n, ckB_b, cbB_b, true_and, x_nil, x_mv, x_as, x_ld, x_bin, x_iads, kx, rvP_ok, okv_some, ev_t, ev_c, getV_some, putD_some, bin_add, bin_lss, of1, getK_set, Nat.reduceEqDiff, ↓reduceIte, g3, g6, g7, g8, hlt', decide_true, hp1, hp2, nE, or_n hj hx, fw64]
    exact ⟨i + 1, by omega, rfl, hlt, by rw [hn]; simp (disch := omega) only [getK_set, Nat.reduceEqDiff, ↓reduceIte, g6, g7, and_self, Int.natCast_add, Int.natCast_one]⟩
  · obtain rfl : i = L.length := by omega
    have hlt' : ¬ (L.length : Int) < (L.length : Int) := by omega
    rw [List.take_length] at g3
    simp (disch := omega) only [f83_r3, f83_r7, f83_rs, w_reg, w_seq, w_cond, w_exit, w_ret, seqK_n, seqK_e, atK_e, loopK_e, ckB_b, cbB_b, retK_r, x_nil, x_mv, x_as, x_bin, kx, rvP_ok, okv_some, ev_t, getV_some, putD_some, bin_lss, oGet_s, readRs_nil, readRs_t, retV_1, Option.some.injEq, exists_eq_left', getK_set, Nat.reduceEqDiff, ↓reduceIte, Bool.false_eq_true, g3, g7, g8, hlt', decide_false, and_self]
theorem out_st {h1 : H} {id4 : K} {F : Nat → Bool} {cs : List V} (hl : cs.length = 64) (e4 : h1.get id4 = .cells 64 cs) : storeV h1 64 (.p id4 0) (.agg (boolV F)) = .ok undefV (h1.put id4 (.cells 64 (boolV F))) := by
  rw [store_p e4 (cells64 boolV_len) (by omega)]
  congr 3
  rw [setMany_eq _ _ _ (by rw [boolV_len]; omega)]
  simp [boolV_len, hl]
theorem out_rd {h1 : H} {id4 : K} {F : Nat → Bool} : readP (h1.put id4 (.cells 64 (boolV F))) (.p id4 0) (many? 64) = some (.agg (boolV F)) := by
  show ((h1.put id4 (.cells 64 (boolV F))).get id4).onC none (fun n cs => many? 64 cs n 0) = _
  rw [get_put_same]
  show (bif Nat.ble (0 + 64) 64 then some (V.agg (takeN 64 (dropN 0 (boolV F)))) else none) = _
  rw [takeN_eq, dropN_eq, List.drop_zero, List.take_of_length_le (by rw [boolV_len]; exact Nat.le_refl _)]; rfl
theorem fill_2 {fr : Fr} {x y : EO} {z1 z2 : V} : fillE fr [z1, z2] [(0, 1, x), (1, 1, y)] = oGet (cellsN 1 (ev fr x)) none fun cs => oGet (cellsN 1 (ev fr y)) none fun ds => some (setMany (setMany [z1, z2] 0 cs) 1 ds) := of_eq_true (eq_self _)
theorem set_2 {z1 z2 a b : V} : setMany (setMany [z1, z2] 0 [a]) 1 [b] = [a, b] := of_eq_true (eq_self _)
theorem Sl.lit2 {α : Type} {e : α → V} {h : H} {x y : α} : Sl e (h.new (.cells (2 * 1) [e x, e y])) (.sl h.nx 0 2 1) [x, y] := by
  refine .inr ⟨h.nx, 0, 2 * 1, [e x, e y], rfl, get_new_same, rfl, by simp, fun i hi => ?_⟩
  have : i = 0 ∨ i = 1 := by simp at hi; omega
  rcases this with rfl | rfl <;> rfl
noncomputable def lk (B : Nat → Bool) (f x : Nat) : Bool := decide (x &&& f = 0) && B (x ||| f)
noncomputable def lkTo (B : Nat → Bool) (f j : Nat) (x : Nat) : Bool := decide (x ∈ (mem64 B).take j) && lk B f x
noncomputable def linkB (B : Nat → Bool) (f x : Nat) : Bool := decide (x ∈ mem64 B) && lk B f x
theorem lkTo_succ {B : Nat → Bool} {f j : Nat} (hj : j < (mem64 B).length) : arr (lkTo B f (j + 1)) 64 = (arr (lkTo B f j) 64).set (mem64 B)[j] (lk B f (mem64 B)[j]) := by
  rw [arr_set]
  apply arr_congr
  intro x hx
  unfold lkTo
  have hm : x ∈ (mem64 B).take (j + 1) ↔ x ∈ (mem64 B).take j ∨ x = (mem64 B)[j] := by rw [List.take_succ_eq_append_getElem hj, List.mem_append, List.mem_singleton]
  by_cases e : x = (mem64 B)[j]
  · rw [decide_eq_true (hm.2 (.inr e)), if_pos e, ← e, Bool.true_and]
  · have : (x ∈ (mem64 B).take (j + 1)) = (x ∈ (mem64 B).take j) := propext ⟨fun h => (hm.1 h).resolve_right e, fun h => hm.2 (.inl h)⟩
    simp only [this, if_neg e]
structure LnkI (b : Nat) (h : H) (B : Nat → Bool) (f : Nat) (id2 id3 id4 id5 idf idl : K) (A : Nat → Bool) (lb : Blk) (h1 : H) : Prop where
  gr : Grow b h h1
  e2 : h1.get id2 = .cells 64 (boolV B)
  e3 : h1.get id3 = .cells 1 [nE f]
  e4 : h1.get id4 = .cells 64 (List.replicate 64 (.b false))
  e5 : Ar V.b h1 id5 (arr A 64)
  ef : h1.get idf = .cells 64 (boolV B)
  el : h1.get idl = lb
  nx : idl.nat + 1 ≤ h1.nx.nat
  o2 : id2.nat < id3.nat
  o3 : id3.nat < id4.nat
  o4 : id4.nat < id5.nat
  o5 : id5.nat < idf.nat
  of : idf.nat < idl.nat
  ob : b ≤ id2.nat
section
variable {b : Nat} {h h1 h2 : H} {B A A' : Nat → Bool} {f : Nat} {id2 id3 id4 id5 idf idl : K} {lb : Blk}
theorem LnkI.loop (t : LnkI b h B f id2 id3 id4 id5 idf idl A lb h1) (lb' : Blk) : LnkI b h B f id2 id3 id4 id5 idf idl A lb' (h1.put idl lb') := by
  have := t.nx; have := t.o2; have := t.o3; have := t.o4; have := t.o5; have := t.of; have := t.ob
  exact ⟨t.gr.trans (Grow.put (by omega) (by omega) _), by rw [get_put_other (kNe (by omega))]; exact t.e2, by rw [get_put_other (kNe (by omega))]; exact t.e3, by rw [get_put_other (kNe (by omega))]; exact t.e4, t.e5.same (by rw [get_put_other (kNe (by omega))]), by rw [get_put_other (kNe (by omega))]; exact t.ef, get_put_same, t.nx, t.o2, t.o3, t.o4, t.o5, t.of, t.ob⟩
theorem LnkI.grow (t : LnkI b h B f id2 id3 id4 id5 idf idl A lb h1) (g : Grow h1.nx.nat h1 h2) : LnkI b h B f id2 id3 id4 id5 idf idl A lb h2 := by
  have := t.nx; have := t.o2; have := t.o3; have := t.o4; have := t.o5; have := t.of; have := t.ob; have := g.nx
  exact ⟨t.gr.trans (g.low (by omega)), by rw [g.old _ (by omega)]; exact t.e2, by rw [g.old _ (by omega)]; exact t.e3, by rw [g.old _ (by omega)]; exact t.e4, t.e5.same (by rw [g.old _ (by omega)]), by rw [g.old _ (by omega)]; exact t.ef, by rw [g.old _ (by omega)]; exact t.el, by omega, t.o2, t.o3, t.o4, t.o5, t.of, t.ob⟩
theorem LnkI.put (t : LnkI b h B f id2 id3 id4 id5 idf idl A lb h1) {cs : List V} (ha : Ar V.b (h1.put id5 (.cells 64 cs)) id5 (arr A' 64)) : LnkI b h B f id2 id3 id4 id5 idf idl A' lb (h1.put id5 (.cells 64 cs)) := by
  have := t.nx; have := t.o2; have := t.o3; have := t.o4; have := t.o5; have := t.of; have := t.ob
  exact ⟨t.gr.trans (Grow.put (by omega) (by omega) _), by rw [get_put_other (kNe (by omega))]; exact t.e2, by rw [get_put_other (kNe (by omega))]; exact t.e3, by rw [get_put_other (kNe (by omega))]; exact t.e4, ha, by rw [get_put_other (kNe (by omega)).symm]; exact t.ef, by rw [get_put_other (kNe (by omega)).symm]; exact t.el, t.nx, t.o2, t.o3, t.o4, t.o5, t.of, t.ob⟩
end
theorem f65_ret {h : H} {B : Nat → Bool} {f : Nat} (h78 : fs.get (K.ofNat 78) = some f78) (h91 : fs.get (K.ofNat 91) = some alF) (h83 : fs.get (K.ofNat 83) = some f83) (hf : f < 64) (hc : HC h) :
    Ret fs f65 [.agg (boolV B), .i .i64 (f : Int)] h fun u h' => u = .agg (boolV (linkB B f)) ∧ Grow h.nx.nat h h' := by
  apply ret_of rfl
  show W fs none f65_c _ _ _
  unfold f65_c
  have hcn : cellsN 1 (.i .i64 (f : Int)) = some [nE f] := rfl
  have g1 : Grow h.nx.nat h (h.new (.cells 64 (boolV B))) := Grow.new (Nat.le_refl _) _
  have n1 := nx_new h (.cells 64 (boolV B))
  have e2 : (h.new (.cells 64 (boolV B))).get h.nx = .cells 64 (boolV B) := get_new_same
  have ldA : ∀ h' : H, h'.get h.nx = .cells 64 (boolV B) → loadV h' (.p h.nx 0) (many? 64) = .ok (.agg (boolV B)) h' := fun h' e => by
    have hA : Ar V.b h' h.nx (arr B 64) := by unfold Ar; rw [arr_len, e]; rfl
    exact hA.ldn (n := 64) (by rw [arr_len])
  simp (disch := omega) only [f65_r0, f65_r1, w_reg, w_seq, seqK_n, x_nil, x_alloc, x_box, kx, rvP_ok, ev_t, getV_some, putD_some, oGet_s, frame_2, getK_set, Nat.reduceEqDiff, ↓reduceIte, cells64 (boolV_len (B := B)), hcn]
  generalize h.new (.cells 64 (boolV B)) = h1 at *
  have g2 : Grow h1.nx.nat h1 (h1.new (.cells 1 [nE f])) := Grow.new (Nat.le_refl _) _
  have n2 := nx_new h1 (.cells 1 [nE f])
  have e3 : (h1.new (.cells 1 [nE f])).get h1.nx = .cells 1 [nE f] := get_new_same
  rw [← g2.old _ (by omega)] at e2
  replace g1 := g1.trans (g2.low (by omega))
  generalize h1.new (.cells 1 [nE f]) = h2 at *
  have g3 : Grow h2.nx.nat h2 (h2.new (.cells 64 (List.replicate 64 (.b false)))) := Grow.new (Nat.le_refl _) _
  have n3 := nx_new h2 (.cells 64 (List.replicate 64 (.b false)))
  have e4 : (h2.new (.cells 64 (List.replicate 64 (.b false)))).get h2.nx = .cells 64 (List.replicate 64 (.b false)) := get_new_same
  rw [← g3.old _ (by omega)] at e2 e3
  replace g1 := g1.trans (g3.low (by omega))
  generalize h2.new (.cells 64 (List.replicate 64 (.b false))) = h3 at *
  have g4 : Grow h3.nx.nat h3 (h3.new (.cells 64 (List.replicate 64 (.b false)))) := Grow.new (Nat.le_refl _) _
  have n4 := nx_new h3 (.cells 64 (List.replicate 64 (.b false)))
  have e5 : (h3.new (.cells 64 (List.replicate 64 (.b false)))).get h3.nx = .cells 64 (List.replicate 64 (.b false)) := get_new_same
  rw [← g4.old _ (by omega)] at e2 e3 e4
  replace g1 := g1.trans (g4.low (by omega))
  generalize h3.new (.cells 64 (List.replicate 64 (.b false))) = h4 at *
  simp (disch := omega) only [f65_r2, x_ldn, x_call, kx, rvP_ok, ev_t, ev_c, evs_nil, evs_cons, getV_some, putD_some, getK_set, Nat.reduceEqDiff, ↓reduceIte, ldA h4 e2]
  refine (callP_0 (ef := f78) h78 rfl (f78_ret (boolV_len (B := B)))).mono ?_
  rintro u h5 ⟨rfl, rfl⟩
  simp (disch := omega) only [w_block, seqK_n, x_nil, kx, putD_some]
  have g5 : Grow h4.nx.nat h4 (h4.new (.cells 64 (boolV B))) := Grow.new (Nat.le_refl _) _
  have n5 := nx_new h4 (.cells 64 (boolV B))
  have ef : (h4.new (.cells 64 (boolV B))).get h4.nx = .cells 64 (boolV B) := get_new_same
  rw [← g5.old _ (by omega)] at e2 e3 e4 e5
  replace g1 := g1.trans (g5.low (by omega))
  generalize h4.new (.cells 64 (boolV B)) = h5 at *
  generalize hfr1 : T.set (K.ofNat 8) (V.fn (K.ofNat 91) [V.p h4.nx 0]) _ = fr1
  have f8 : fr1.get (K.ofNat 8) = some (.fn (K.ofNat 91) [.p h4.nx 0]) := by rw [← hfr1]; simp (disch := omega) only [getK_set, ↓reduceIte]
  have f2 : fr1.get (K.ofNat 2) = some (.p h.nx 0) := by rw [← hfr1]; simp (disch := omega) only [getK_set, Nat.reduceEqDiff, ↓reduceIte]
  have f3 : fr1.get (K.ofNat 3) = some (.p h1.nx 0) := by rw [← hfr1]; simp (disch := omega) only [getK_set, Nat.reduceEqDiff, ↓reduceIte]
  have f4 : fr1.get (K.ofNat 4) = some (.p h2.nx 0) := by rw [← hfr1]; simp (disch := omega) only [getK_set, Nat.reduceEqDiff, ↓reduceIte]
  have f5 : fr1.get (K.ofNat 5) = some (.p h3.nx 0) := by rw [← hfr1]; simp (disch := omega) only [getK_set, Nat.reduceEqDiff, ↓reduceIte]
  clear hfr1
  have hlen := ysOf_len (B := B)
  have n6 := nx_new h5 (rdyB fr1 [(K.ofNat 9)] f65_a0 f65_b0)
  have hnew : Grow h5.nx.nat h5 (h5.new (rdyB fr1 [(K.ofNat 9)] f65_a0 f65_b0)) := Grow.new (Nat.le_refl _) _
  have hz : (List.replicate 64 (V.b false)) = (arr (lkTo B f 0) 64).map V.b := by
    rw [show arr (lkTo B f 0) 64 = arr (fun _ => false) 64 from arr_congr fun k _ => by simp [lkTo]]
    rfl
  refine W_range (k := (K.ofNat 91)) (caps := [.p h4.nx 0]) (N := fun h => h.get h4.nx = .cells 64 (boolV B)) (ys := ysOf B) rfl (by simp (disch := omega) only [ev_t, getV_some, f8]) (all_yields h91 boolV_at)
    (fun j h6 => ∃ lb, LnkI h.nx.nat h B f h.nx h1.nx h2.nx h3.nx h4.nx h5.nx (lkTo B f j) lb h6) (fun _ _ => False) (fun i h6 ⟨lb, ht⟩ => ht.ef)
    ⟨_, g1.trans (hnew.low (by omega)), by rw [hnew.old _ (by omega)]; exact e2, by rw [hnew.old _ (by omega)]; exact e3, by rw [hnew.old _ (by omega)]; exact e4, by unfold Ar; rw [hnew.old _ (by omega), e5, arr_len, hz], by rw [hnew.old _ (by omega)]; exact ef, get_new_same, by omega, by omega, by omega, by omega, by omega, by omega, Nat.le_refl _⟩ ?_ ?_ (fun _ _ _ hf => hf.elim)
  · rintro j h6 hj ⟨lb, ht⟩ hrd
    have hj' : j < (mem64 B).length := by omega
    rw [ysOf_at hj]
    obtain rfl : lb = rdyB fr1 [(K.ofNat 9)] f65_a0 f65_b0 := ht.el.symm.trans hrd
    rw [show ∀ Q fr h, W fs (some h5.nx) f65_a0 Q fr h = X fs f65_r3 (Q .normal) fr h from fun _ _ _ => rfl]
    simp (disch := omega) only [f65_r3, rndA_n, x_nil, x_as, ev_t, getV_some, putD_some, getK_set, ↓reduceIte]
    refine ⟨ht.el, ?_⟩
    have ht7 := ht.loop (bsyB fr1 [(K.ofNat 9)] f65_a0 f65_b0)
    generalize h6.put h5.nx (bsyB fr1 [(K.ofNat 9)] f65_a0 f65_b0) = h7 at *
    have hc7 := ht7.gr.hc hc
    have hx64 := mem64_lt _ (List.getElem_mem hj')
    have hsn := lkTo_succ (f := f) hj'
    generalize (mem64 B)[j] = x at *
    have ld3 : ∀ h', LnkI h.nx.nat h B f h.nx h1.nx h2.nx h3.nx h4.nx h5.nx (lkTo B f j) (bsyB fr1 [(K.ofNat 9)] f65_a0 f65_b0) h' → loadV h' (.p h1.nx 0) one? = .ok (.i .i64 (f : Int)) h' := fun h' t => load_p t.e3 rfl
    rw [show ∀ Q fr h, W fs (some h5.nx) f65_b0 Q fr h = X fs f65_r4 (atK 1 Q .normal) fr h from fun _ _ _ => rfl]
    by_cases e : x &&& f = 0
    · have e' : ((x &&& f : Nat) : Int) = 0 := by omega
      have hjn : joinS [x, f] = x ||| f := by simp [joinS]
      have hxf : x ||| f < 64 := Nat.or_lt_two_pow (n := 6) hx64 hf
      have g8 : Grow h7.nx.nat h7 (h7.new (.cells (2 * 1) [nE x, nE f])) := Grow.new (Nat.le_refl _) _
      have ht8 := ht7.grow g8
      have hlv : lk B f x = B (x ||| f) := by simp [lk, e]
      simp (disch := omega) only [f65_r4, okG_b, asG_t, true_and, x_g, x_mv, x_bslice, x_ld, x_bin, x_call, kx, rvP_ok, okv_some, ev_t, ev_c, evs_nil, evs_cons, getV_some, putD_some, bin_eql, oGet_s, cells1_i, of0, getK_set, Nat.reduceEqDiff, ↓reduceIte, f3, ld3 _ ht7, and_n kmi (show x < 9223372036854775808 by omega) (show f < 9223372036854775808 by omega), e', decide_true, fill_2, set_2]
      refine (callP_0 (ef := f83) h83 rfl (f83_ret (L := [x, f]) (Sl.lit2 (e := nE)) (fun y hy => by simp at hy; omega) (by simp))).mono ?_
      rintro u h8 ⟨rfl, rfl⟩
      rw [show [nE x, nE f] = [V.i .i64 (x : Int), V.i .i64 (f : Int)] from rfl] at *
      generalize h7.new (.cells (2 * 1) [V.i .i64 (x : Int), V.i .i64 (f : Int)]) = h8 at *
      have hA2 : Ar V.b h8 h.nx (arr B 64) := by unfold Ar; rw [arr_len, ht8.e2]; rfl
      have hld := hA2.ld (i := x ||| f) (by rw [arr_len]; exact hxf)
      rw [arr_at] at hld
      obtain ⟨st1, st2⟩ := ht8.e5.st (i := x) (x := B (x ||| f)) (c := .b (B (x ||| f))) (by rw [arr_len]; exact hx64) rfl rfl
      rw [hlv] at hsn
      rw [← hsn, arr_len] at st1 st2
      simp (disch := omega) only [atK_n, okG_b, asG_t, true_and, rndK_n, x_nil, x_g, x_pick, x_ld, x_st, x_iadr, kx, rvP_ok, ev_t, ev_c, getV_some, putD_some, putD_none, pick_b, onP_p, idx_n, getK_set, Nat.reduceEqDiff, ↓reduceIte, f2, f5, hjn, hld, st1]
      exact ⟨(ht8.put st2).el, _, (ht8.put st2).loop _⟩
    · have e' : ¬ ((x &&& f : Nat) : Int) = 0 := by omega
      have hlv : lk B f x = false := by simp [lk, e]
      obtain ⟨st1, st2⟩ := ht7.e5.st (i := x) (x := false) (c := .b false) (by rw [arr_len]; exact hx64) rfl rfl
      rw [hlv] at hsn
      rw [← hsn, arr_len] at st1 st2
      simp (disch := omega) only [f65_r4, atK_n, okG_b, asG_t, true_and, rndK_n, x_nil, x_g, x_mv, x_pick, x_ld, x_st, x_bin, x_iadr, kx, rvP_ok, okv_some, ev_t, ev_c, getV_some, putD_some, putD_none, bin_eql, pick_b, onP_p, idx_n, of0, getK_set, Nat.reduceEqDiff, ↓reduceIte, Bool.false_eq_true, f3, f5, ld3 _ ht7, and_n kmi (show x < 9223372036854775808 by omega) (show f < 9223372036854775808 by omega), e', decide_false, st1]
      exact ⟨(ht7.put st2).el, _, (ht7.put st2).loop _⟩
  · rintro h6 ⟨lb, ht⟩
    have ht2 := ht.loop .dead
    rw [hlen, show lkTo B f (mem64 B).length = linkB B f by funext x; unfold lkTo linkB; rw [List.take_length]] at ht2
    generalize h6.put h5.nx .dead = h7 at *
    have l4 : h2.nx.nat < h7.nx.nat := by have := ht2.nx; omega
    have ldn5 : loadV h7 (.p h3.nx 0) (many? 64) = .ok (.agg (boolV (linkB B f))) h7 := ht2.e5.ldn (n := 64) (by rw [arr_len])
    simp (disch := omega) only [f65_r5, f65_rs, w_reg, w_seq, w_ret, seqK_n, atK_n, true_and, retK_r, x_nil, x_ldn, x_st, kx, rvP_ok, ev_t, getV_some, putD_some, putD_none, oGet_s, readRs_nil, readRs_n, retV_1, Option.some.injEq, exists_eq_left', getK_set, Nat.reduceEqDiff, ↓reduceIte, f4, f5, ldn5, out_st (List.length_replicate ..) ht2.e4, out_rd, true_and]
    exact ht2.gr.trans (Grow.put (by omega) l4 _)
end
end Go.Ev
namespace Go.Ev
open Go Go.RowKit
noncomputable def f27_r0 : List EOper := [⟨(some (K.ofNat 6)), none, .as (.c .sn)⟩, ⟨(some (K.ofNat 7)), none, .as (.c (.i .i64 (.ofNat 0)))⟩]
noncomputable def f27_r1 : List EOper := [⟨(some (K.ofNat 10)), none, .mv (.t (K.ofNat 0))⟩, ⟨(some (K.ofNat 11)), none, .mv (.t (K.ofNat 1))⟩, ⟨(some (K.ofNat 12)), none, .call (.c (.fn (K.ofNat 16) [])) [(.t (K.ofNat 10)), (.t (K.ofNat 11))]⟩, ⟨(some (K.ofNat 8)), none, .as (.t (K.ofNat 12))⟩]
noncomputable def f27_r2 : List EOper := [⟨(some (K.ofNat 13)), none, .mv (.t (K.ofNat 8))⟩, ⟨(some (K.ofNat 14)), none, .bin .neq (.t (K.ofNat 13)) (.c (.i .i64 (.ofNat 0)))⟩]
noncomputable def f27_r3 : List EOper := [⟨(some (K.ofNat 15)), none, .mv (.t (K.ofNat 8))⟩, ⟨(some (K.ofNat 6)), none, .as (.c .sn)⟩, ⟨(some (K.ofNat 7)), none, .as (.t (K.ofNat 15))⟩]
noncomputable def f27_r4 : List EOper := [⟨(some (K.ofNat 16)), none, .mv (.t (K.ofNat 1))⟩, ⟨(some (K.ofNat 17)), none, .call (.c (.fn (K.ofNat 55) [])) [(.t (K.ofNat 16))]⟩, ⟨(some (K.ofNat 9)), none, .alloc 64 (List.replicate 64 (.b false))⟩, ⟨none, none, .st 64 (.t (K.ofNat 9)) (.t (K.ofNat 17))⟩]
noncomputable def f27_r5 : List EOper := [⟨(some (K.ofNat 18)), none, .mv (.t (K.ofNat 2))⟩, ⟨(some (K.ofNat 19)), none, .bin .lss (.t (K.ofNat 18)) (.c (.i .i64 (.ofNat 0)))⟩, ⟨(some (K.ofNat 20)), none, .mv (.t (K.ofNat 19))⟩, ⟨(some (K.ofNat 21)), (some ((K.ofNat 20), false)), .mv (.t (K.ofNat 2))⟩, ⟨(some (K.ofNat 22)), (some ((K.ofNat 20), false)), .bin .geq (.t (K.ofNat 21)) (.c (.i .i64 (.ofNat 64)))⟩, ⟨(some (K.ofNat 23)), none, .pick (.t (K.ofNat 20)) (.c (.b true)) (.t (K.ofNat 22))⟩, ⟨(some (K.ofNat 24)), none, .mv (.t (K.ofNat 23))⟩, ⟨(some (K.ofNat 25)), (some ((K.ofNat 24), false)), .mv (.t (K.ofNat 2))⟩, ⟨(some (K.ofNat 26)), (some ((K.ofNat 24), false)), .iadr 64 1 (.t (K.ofNat 9)) (.t (K.ofNat 25))⟩, ⟨(some (K.ofNat 27)), (some ((K.ofNat 24), false)), .ld (.t (K.ofNat 26))⟩, ⟨(some (K.ofNat 28)), (some ((K.ofNat 24), false)), .not (.t (K.ofNat 27))⟩, ⟨(some (K.ofNat 29)), none, .pick (.t (K.ofNat 24)) (.c (.b true)) (.t (K.ofNat 28))⟩]
noncomputable def f27_r6 : List EOper := [⟨(some (K.ofNat 6)), none, .as (.c .sn)⟩, ⟨(some (K.ofNat 7)), none, .as (.c (.i .i64 (.ofNat 1)))⟩]
noncomputable def f27_r7 : List EOper := [⟨(some (K.ofNat 30)), none, .ldn 64 (.t (K.ofNat 9))⟩, ⟨(some (K.ofNat 31)), none, .mv (.t (K.ofNat 2))⟩, ⟨(some (K.ofNat 32)), none, .call (.c (.fn (K.ofNat 65) [])) [(.t (K.ofNat 30)), (.t (K.ofNat 31))]⟩, ⟨(some (K.ofNat 33)), none, .call (.c (.fn (K.ofNat 66) [])) [(.t (K.ofNat 32))]⟩, ⟨(some (K.ofNat 6)), none, .as (.t (K.ofNat 33))⟩, ⟨(some (K.ofNat 7)), none, .as (.c (.i .i64 (.ofNat 0)))⟩]
noncomputable def f27_c : EC := (.seq (.reg f27_r0) (.seq (.seq (.reg f27_r1) (.seq (.reg f27_r2) (.cond (.t (K.ofNat 14)) (.seq (.reg f27_r3) .ret) .skip))) (.seq (.reg f27_r4) (.seq (.seq (.reg f27_r5) (.cond (.t (K.ofNat 29)) (.seq (.reg f27_r6) .ret) .skip)) (.seq (.reg f27_r7) .ret)))))
noncomputable def f27 : EF := ⟨34, [.tmp (K.ofNat 6), .tmp (K.ofNat 7)], f27_c, none⟩
theorem f27_rs : f27.rs = [.tmp (K.ofNat 6), .tmp (K.ofNat 7)] := of_eq_true (eq_self _)
noncomputable def f46_r0 : List EOper := [⟨(some (K.ofNat 6)), none, .as (.c .sn)⟩]
noncomputable def f46_r1 : List EOper := [⟨(some (K.ofNat 7)), none, .as (.c .sn)⟩]
noncomputable def f46_r2 : List EOper := [⟨(some (K.ofNat 8)), none, .as (.c (.i .i64 (.ofNat 0)))⟩]
noncomputable def f46_r3 : List EOper := [⟨(some (K.ofNat 9)), none, .mv (.t (K.ofNat 8))⟩, ⟨(some (K.ofNat 10)), none, .mv (.t (K.ofNat 0))⟩, ⟨(some (K.ofNat 11)), none, .bin .shl (.c (.i .i64 (.ofNat 1))) (.t (K.ofNat 10))⟩, ⟨(some (K.ofNat 12)), none, .bin .lss (.t (K.ofNat 9)) (.t (K.ofNat 11))⟩]
noncomputable def f46_r4 : List EOper := [⟨(some (K.ofNat 15)), none, .mv (.t (K.ofNat 8))⟩, ⟨(some (K.ofNat 16)), none, .mv (.t (K.ofNat 2))⟩, ⟨(some (K.ofNat 17)), none, .bin .and (.t (K.ofNat 15)) (.t (K.ofNat 16))⟩, ⟨(some (K.ofNat 18)), none, .bin .eql (.t (K.ofNat 17)) (.c (.i .i64 (.ofNat 0)))⟩, ⟨(some (K.ofNat 19)), none, .mv (.t (K.ofNat 18))⟩, ⟨(some (K.ofNat 20)), (some ((K.ofNat 19), true)), .mv (.t (K.ofNat 1))⟩, ⟨(some (K.ofNat 21)), (some ((K.ofNat 19), true)), .mv (.t (K.ofNat 8))⟩, ⟨(some (K.ofNat 22)), (some ((K.ofNat 19), true)), .mv (.t (K.ofNat 2))⟩, ⟨(some (K.ofNat 23)), (some ((K.ofNat 19), true)), .bin .or (.t (K.ofNat 21)) (.t (K.ofNat 22))⟩, ⟨(some (K.ofNat 24)), (some ((K.ofNat 19), true)), .call (.c (.fn (K.ofNat 45) [])) [(.t (K.ofNat 20)), (.t (K.ofNat 23))]⟩, ⟨(some (K.ofNat 25)), none, .pick (.t (K.ofNat 19)) (.t (K.ofNat 24)) (.c (.b false))⟩]
noncomputable def f46_r5 : List EOper := [⟨(some (K.ofNat 26)), none, .mv (.t (K.ofNat 7))⟩, ⟨(some (K.ofNat 27)), none, .mv (.t (K.ofNat 8))⟩, ⟨(some (K.ofNat 28)), none, .bslice 1 1 [(.i .i64 (.ofNat 0))] [(0, 1, (.t (K.ofNat 27)))]⟩, ⟨(some (K.ofNat 29)), none, .app 1 (.t (K.ofNat 26)) (.t (K.ofNat 28))⟩, ⟨(some (K.ofNat 7)), none, .as (.t (K.ofNat 29))⟩]
noncomputable def f46_r6 : List EOper := [⟨(some (K.ofNat 13)), none, .mv (.t (K.ofNat 8))⟩, ⟨(some (K.ofNat 14)), none, .bin .add (.t (K.ofNat 13)) (.c (.i .i64 (.ofNat 1)))⟩, ⟨(some (K.ofNat 8)), none, .as (.t (K.ofNat 14))⟩]
noncomputable def f46_l0 : EC := (.seq (.seq (.reg f46_r3) (.cond (.t (K.ofNat 12)) .skip (.exit 0))) (.seq (.block 1 (.seq (.reg f46_r4) (.cond (.t (K.ofNat 25)) (.reg f46_r5) .skip))) (.reg f46_r6)))
noncomputable def f46_r7 : List EOper := [⟨(some (K.ofNat 30)), none, .mv (.t (K.ofNat 7))⟩, ⟨(some (K.ofNat 31)), none, .call (.c (.fn (K.ofNat 49) [])) [(.t (K.ofNat 30))]⟩, ⟨(some (K.ofNat 6)), none, .as (.t (K.ofNat 31))⟩]
noncomputable def f46_c : EC := (.seq (.reg f46_r0) (.seq (.reg f46_r1) (.seq (.seq (.reg f46_r2) (.block 0 (.loop f46_l0))) (.seq (.reg f46_r7) .ret))))
noncomputable def f46 : EF := ⟨32, [.tmp (K.ofNat 6)], f46_c, none⟩
theorem f46_rs : f46.rs = [.tmp (K.ofNat 6)] := of_eq_true (eq_self _)
noncomputable def f68_r0 : List EOper := [⟨(some (K.ofNat 2)), none, .box 64 (.t (K.ofNat 0))⟩, ⟨(some (K.ofNat 4)), none, .alloc 64 (List.replicate 64 (.b false))⟩]
noncomputable def f68_r1 : List EOper := [⟨(some (K.ofNat 5)), none, .alloc 64 (List.replicate 64 (.b false))⟩]
noncomputable def f68_r2 : List EOper := [⟨(some (K.ofNat 8)), none, .mv (.t (K.ofNat 1))⟩, ⟨(some (K.ofNat 9)), none, .bin .shl (.c (.i .i64 (.ofNat 1))) (.t (K.ofNat 8))⟩, ⟨(some (K.ofNat 10)), none, .bin .sub (.t (K.ofNat 9)) (.c (.i .i64 (.ofNat 1)))⟩, ⟨(some (K.ofNat 6)), none, .as (.t (K.ofNat 10))⟩]
noncomputable def f68_r3 : List EOper := [⟨(some (K.ofNat 11)), none, .mv (.t (K.ofNat 6))⟩, ⟨(some (K.ofNat 12)), none, .bin .add (.t (K.ofNat 11)) (.c (.i .i64 (.ofNat 1)))⟩, ⟨(some (K.ofNat 13)), none, .mv (.c (.i .i64 (.ofNat 0)))⟩]
noncomputable def f68_r4 : List EOper := [⟨(some (K.ofNat 14)), none, .bin .lss (.t (K.ofNat 13)) (.t (K.ofNat 12))⟩]
noncomputable def f68_r5 : List EOper := [⟨(some (K.ofNat 15)), none, .mv (.t (K.ofNat 13))⟩, ⟨(some (K.ofNat 7)), none, .as (.t (K.ofNat 15))⟩]
noncomputable def f68_r6 : List EOper := [⟨(some (K.ofNat 16)), none, .mv (.t (K.ofNat 7))⟩, ⟨(some (K.ofNat 17)), none, .mv (.t (K.ofNat 6))⟩, ⟨(some (K.ofNat 18)), none, .mv (.t (K.ofNat 7))⟩, ⟨(some (K.ofNat 19)), none, .bin .andNot (.t (K.ofNat 17)) (.t (K.ofNat 18))⟩, ⟨(some (K.ofNat 20)), none, .iadr 64 1 (.t (K.ofNat 2)) (.t (K.ofNat 19))⟩, ⟨(some (K.ofNat 21)), none, .ld (.t (K.ofNat 20))⟩, ⟨(some (K.ofNat 22)), none, .not (.t (K.ofNat 21))⟩, ⟨(some (K.ofNat 23)), none, .iadr 64 1 (.t (K.ofNat 5)) (.t (K.ofNat 16))⟩, ⟨none, none, .st 1 (.t (K.ofNat 23)) (.t (K.ofNat 22))⟩]
noncomputable def f68_r7 : List EOper := [⟨(some (K.ofNat 24)), none, .bin .add (.t (K.ofNat 13)) (.c (.i .i64 (.ofNat 1)))⟩, ⟨(some (K.ofNat 13)), none, .mv (.t (K.ofNat 24))⟩]
noncomputable def f68_l0 : EC := (.seq (.reg f68_r4) (.seq (.cond (.t (K.ofNat 14)) .skip (.exit 0)) (.seq (.block 1 (.seq (.reg f68_r5) (.reg f68_r6))) (.reg f68_r7))))
noncomputable def f68_r8 : List EOper := [⟨(some (K.ofNat 25)), none, .ldn 64 (.t (K.ofNat 5))⟩, ⟨none, none, .st 64 (.t (K.ofNat 4)) (.t (K.ofNat 25))⟩]
noncomputable def f68_c : EC := (.seq (.reg f68_r0) (.seq (.reg f68_r1) (.seq (.reg f68_r2) (.seq (.seq (.reg f68_r3) (.block 0 (.loop f68_l0))) (.seq (.reg f68_r8) .ret)))))
noncomputable def f68 : EF := ⟨26, [.celln (K.ofNat 4) 64], f68_c, none⟩
theorem f68_rs : f68.rs = [.celln (K.ofNat 4) 64] := of_eq_true (eq_self _)
noncomputable def f28_r0 : List EOper := [⟨(some (K.ofNat 4)), none, .as (.c .sn)⟩, ⟨(some (K.ofNat 5)), none, .as (.c (.i .i64 (.ofNat 0)))⟩]
noncomputable def f28_r1 : List EOper := [⟨(some (K.ofNat 7)), none, .mv (.t (K.ofNat 0))⟩, ⟨(some (K.ofNat 8)), none, .mv (.t (K.ofNat 1))⟩, ⟨(some (K.ofNat 9)), none, .call (.c (.fn (K.ofNat 16) [])) [(.t (K.ofNat 7)), (.t (K.ofNat 8))]⟩, ⟨(some (K.ofNat 6)), none, .as (.t (K.ofNat 9))⟩]
noncomputable def f28_r2 : List EOper := [⟨(some (K.ofNat 10)), none, .mv (.t (K.ofNat 6))⟩, ⟨(some (K.ofNat 11)), none, .bin .neq (.t (K.ofNat 10)) (.c (.i .i64 (.ofNat 0)))⟩]
noncomputable def f28_r3 : List EOper := [⟨(some (K.ofNat 12)), none, .mv (.t (K.ofNat 6))⟩, ⟨(some (K.ofNat 4)), none, .as (.c .sn)⟩, ⟨(some (K.ofNat 5)), none, .as (.t (K.ofNat 12))⟩]
noncomputable def f28_r4 : List EOper := [⟨(some (K.ofNat 13)), none, .mv (.t (K.ofNat 1))⟩, ⟨(some (K.ofNat 14)), none, .call (.c (.fn (K.ofNat 55) [])) [(.t (K.ofNat 13))]⟩, ⟨(some (K.ofNat 15)), none, .mv (.t (K.ofNat 0))⟩, ⟨(some (K.ofNat 16)), none, .call (.c (.fn (K.ofNat 68) [])) [(.t (K.ofNat 14)), (.t (K.ofNat 15))]⟩, ⟨(some (K.ofNat 17)), none, .call (.c (.fn (K.ofNat 67) [])) [(.t (K.ofNat 16))]⟩, ⟨(some (K.ofNat 18)), none, .ext (.t (K.ofNat 17)) 0⟩, ⟨(some (K.ofNat 19)), none, .ext (.t (K.ofNat 17)) 1⟩, ⟨(some (K.ofNat 4)), none, .as (.t (K.ofNat 18))⟩, ⟨(some (K.ofNat 5)), none, .as (.t (K.ofNat 19))⟩]
noncomputable def f28_c : EC := (.seq (.reg f28_r0) (.seq (.seq (.reg f28_r1) (.seq (.reg f28_r2) (.cond (.t (K.ofNat 11)) (.seq (.reg f28_r3) .ret) .skip))) (.seq (.reg f28_r4) .ret)))
noncomputable def f28 : EF := ⟨20, [.tmp (K.ofNat 4), .tmp (K.ofNat 5)], f28_c, none⟩
theorem f28_rs : f28.rs = [.tmp (K.ofNat 4), .tmp (K.ofNat 5)] := of_eq_true (eq_self _)
noncomputable def f47_r0 : List EOper := [⟨(some (K.ofNat 4)), none, .as (.c .sn)⟩]
noncomputable def f47_r1 : List EOper := [⟨(some (K.ofNat 5)), none, .as (.c .sn)⟩]
noncomputable def f47_r2 : List EOper := [⟨(some (K.ofNat 8)), none, .mv (.t (K.ofNat 0))⟩, ⟨(some (K.ofNat 9)), none, .bin .shl (.c (.i .i64 (.ofNat 1))) (.t (K.ofNat 8))⟩, ⟨(some (K.ofNat 10)), none, .bin .sub (.t (K.ofNat 9)) (.c (.i .i64 (.ofNat 1)))⟩, ⟨(some (K.ofNat 6)), none, .as (.t (K.ofNat 10))⟩]
noncomputable def f47_r3 : List EOper := [⟨(some (K.ofNat 7)), none, .as (.c (.i .i64 (.ofNat 0)))⟩]
noncomputable def f47_r4 : List EOper := [⟨(some (K.ofNat 11)), none, .mv (.t (K.ofNat 7))⟩, ⟨(some (K.ofNat 12)), none, .mv (.t (K.ofNat 6))⟩, ⟨(some (K.ofNat 13)), none, .bin .leq (.t (K.ofNat 11)) (.t (K.ofNat 12))⟩]
noncomputable def f47_r5 : List EOper := [⟨(some (K.ofNat 16)), none, .mv (.t (K.ofNat 1))⟩, ⟨(some (K.ofNat 17)), none, .mv (.t (K.ofNat 6))⟩, ⟨(some (K.ofNat 18)), none, .mv (.t (K.ofNat 7))⟩, ⟨(some (K.ofNat 19)), none, .bin .andNot (.t (K.ofNat 17)) (.t (K.ofNat 18))⟩, ⟨(some (K.ofNat 20)), none, .call (.c (.fn (K.ofNat 45) [])) [(.t (K.ofNat 16)), (.t (K.ofNat 19))]⟩, ⟨(some (K.ofNat 21)), none, .not (.t (K.ofNat 20))⟩]
noncomputable def f47_r6 : List EOper := [⟨(some (K.ofNat 22)), none, .mv (.t (K.ofNat 5))⟩, ⟨(some (K.ofNat 23)), none, .mv (.t (K.ofNat 7))⟩, ⟨(some (K.ofNat 24)), none, .bslice 1 1 [(.i .i64 (.ofNat 0))] [(0, 1, (.t (K.ofNat 23)))]⟩, ⟨(some (K.ofNat 25)), none, .app 1 (.t (K.ofNat 22)) (.t (K.ofNat 24))⟩, ⟨(some (K.ofNat 5)), none, .as (.t (K.ofNat 25))⟩]
noncomputable def f47_r7 : List EOper := [⟨(some (K.ofNat 14)), none, .mv (.t (K.ofNat 7))⟩, ⟨(some (K.ofNat 15)), none, .bin .add (.t (K.ofNat 14)) (.c (.i .i64 (.ofNat 1)))⟩, ⟨(some (K.ofNat 7)), none, .as (.t (K.ofNat 15))⟩]
noncomputable def f47_l0 : EC := (.seq (.seq (.reg f47_r4) (.cond (.t (K.ofNat 13)) .skip (.exit 0))) (.seq (.block 1 (.seq (.reg f47_r5) (.cond (.t (K.ofNat 21)) (.reg f47_r6) .skip))) (.reg f47_r7)))
noncomputable def f47_r8 : List EOper := [⟨(some (K.ofNat 26)), none, .mv (.t (K.ofNat 5))⟩, ⟨(some (K.ofNat 27)), none, .call (.c (.fn (K.ofNat 49) [])) [(.t (K.ofNat 26))]⟩, ⟨(some (K.ofNat 4)), none, .as (.t (K.ofNat 27))⟩]
noncomputable def f47_c : EC := (.seq (.reg f47_r0) (.seq (.reg f47_r1) (.seq (.reg f47_r2) (.seq (.seq (.reg f47_r3) (.block 0 (.loop f47_l0))) (.seq (.reg f47_r8) .ret)))))
noncomputable def f47 : EF := ⟨28, [.tmp (K.ofNat 4)], f47_c, none⟩
theorem f47_rs : f47.rs = [.tmp (K.ofNat 4)] := of_eq_true (eq_self _)
section
variable {fs : T EF} {ro : Option K}
/-- Is it no face? -/
noncomputable def badF (B : Nat → Bool) (f : Int) : Bool := decide (f < 0) || (decide (64 ≤ f) || !B f.toNat)
theorem f27_ret {h : H} {v : V} {S : List Int} {n f : Int} (hp : ∀ a b h P, CallP fs (.fn (K.ofNat 54) []) [.i .i64 a, .i .i64 b] h P = P (.b (ptI a b)) h)
    (h16 : fs.get (K.ofNat 16) = some f16) (h55 : fs.get (K.ofNat 55) = some f55) (h78 : fs.get (K.ofNat 78) = some f78) (h91 : fs.get (K.ofNat 91) = some alF) (h83 : fs.get (K.ofNat 83) = some f83) (h65 : fs.get (K.ofNat 65) = some f65) (h66 : fs.get (K.ofNat 66) = some f66)
    (hv : Sl iE h v S) (hc : HC h) (hS : S.length ≤ 1000000) (e : chkS n S = 0) :
    Ret fs f27 [.i .i64 n, v, .i .i64 f] h fun r h' => ∃ u, r = .tup [u, .i .i64 (if badF (famB S) f = true then 1 else 0)] ∧ Sl iE h' u (if badF (famB S) f = true then [] else topsTo (linkB (famB S) f.toNat) 64) ∧ Own h.nx.nat u ∧ Grow h.nx.nat h h' := by
  apply ret_of rfl
  show W fs none f27_c _ _ _
  unfold f27_c
  simp (disch := omega) only [f27_r0, f27_r1, w_reg, w_seq, seqK_n, x_nil, x_mv, x_as, x_call, ev_t, ev_c, evs_nil, evs_cons, getV_some, putD_some, frame_3, of0, getK_set, Nat.reduceEqDiff, ↓reduceIte]
  refine (callP_0 (ef := f16) h16 rfl (f16_ret hp hv)).mono ?_
  rintro u h1 ⟨rfl, rfl⟩
  simp (disch := omega) only [f27_r2, f27_r4, w_skip, w_reg, w_seq, w_cond, seqK_n, ckB_b, cbB_b, true_and, x_nil, x_mv, x_as, x_bin, x_call, kx, rvP_ok, okv_some, ev_t, ev_c, evs_nil, evs_cons, getV_some, putD_some, bin_neq, of0, getK_set, Nat.reduceEqDiff, ↓reduceIte, Bool.false_eq_true, e, ne_eq, not_true_eq_false, decide_false]
  refine (callP_0 (ef := f55) h55 rfl (f55_ret (S := S) hp hv hc hS)).mono ?_
  rintro u h2 ⟨rfl, g2⟩
  rw [famB_list]
  have n2 := nx_new h2 (.cells 64 (List.replicate 64 (.b false)))
  have g3 : Grow h2.nx.nat h2 (h2.new (.cells 64 (List.replicate 64 (.b false)))) := Grow.new (Nat.le_refl _) _
  have e4 : (h2.new (.cells 64 (List.replicate 64 (.b false)))).get h2.nx = .cells 64 (List.replicate 64 (.b false)) := get_new_same
  have hst := out_st (F := famB S) (List.length_replicate ..) e4
  have gp : Grow h2.nx.nat (h2.new (.cells 64 (List.replicate 64 (.b false)))) ((h2.new (.cells 64 (List.replicate 64 (.b false)))).put h2.nx (.cells 64 (boolV (famB S)))) := Grow.put (Nat.le_refl _) (by omega) _
  have hA : Ar V.b ((h2.new (.cells 64 (List.replicate 64 (.b false)))).put h2.nx (.cells 64 (boolV (famB S)))) h2.nx (arr (famB S) 64) := by
    unfold Ar; rw [get_put_same, arr_len]; rfl
  simp (disch := omega) only [w_reg, w_seq, seqK_n, x_nil, x_alloc, x_st, kx, rvP_ok, ev_t, getV_some, putD_some, putD_none, getK_set, Nat.reduceEqDiff, ↓reduceIte, hst]
  have gg := g3.trans gp
  generalize (h2.new (.cells 64 (List.replicate 64 (.b false)))).put h2.nx (.cells 64 (boolV (famB S))) = h3 at *
  have ggr := g2.trans (gg.low g2.nx)
  by_cases b1 : f < 0
  · have hb : badF (famB S) f = true := by unfold badF; rw [decide_eq_true b1]; rfl
    simp (disch := omega) only [f27_r5, f27_r6, f27_rs, w_reg, w_seq, w_cond, w_ret, seqK_n, seqK_r, ckB_b, cbB_b, okG_b, asG_f, true_and, retK_r, x_nil, x_g, x_mv, x_as, x_pick, x_bin, kx, rvP_ok, okv_some, ev_t, ev_c, getV_some, putD_some, bin_lss, pick_b, oGet_s, readRs_nil, readRs_t, retV_2, of0, of1, of64, Option.some.injEq, exists_eq_left', getK_set, Nat.reduceEqDiff, ↓reduceIte, Bool.false_eq_true, Bool.not_true, b1, decide_true]
    rw [if_pos hb, if_pos hb]
    exact ⟨.sn, rfl, Sl.nil, Own.sn, ggr⟩
  · by_cases b2 : 64 ≤ f
    · have hb : badF (famB S) f = true := by unfold badF; rw [decide_eq_true b2]; simp
      simp (disch := omega) only [f27_r5, f27_r6, f27_rs, w_reg, w_seq, w_cond, w_ret, seqK_n, seqK_r, ckB_b, cbB_b, okG_b, asG_f, true_and, retK_r, x_nil, x_g, x_mv, x_as, x_pick, x_bin, kx, rvP_ok, okv_some, ev_t, ev_c, getV_some, putD_some, bin_lss, bin_geq, pick_b, oGet_s, readRs_nil, readRs_t, retV_2, of0, of1, of64, Option.some.injEq, exists_eq_left', getK_set, Nat.reduceEqDiff, ↓reduceIte, Bool.false_eq_true, Bool.not_true, Bool.not_false, b1, b2, decide_true, decide_false]
      rw [if_pos hb, if_pos hb]
      exact ⟨.sn, rfl, Sl.nil, Own.sn, ggr⟩
    · obtain ⟨k, rfl⟩ := Int.eq_ofNat_of_zero_le (show 0 ≤ f by omega)
      have hk : k < 64 := by omega
      have hld := hA.ld (i := k) (by rw [arr_len]; exact hk)
      rw [arr_at] at hld
      have hbf : badF (famB S) (k : Int) = !famB S k := by unfold badF; rw [decide_eq_false b1, decide_eq_false b2]; simp
      rw [hbf]
      cases b3 : famB S k
      · rw [b3] at hld
        simp (disch := omega) only [f27_r5, f27_r6, f27_rs, w_reg, w_seq, w_cond, w_ret, seqK_n, seqK_r, ckB_b, cbB_b, okG_b, asG_f, true_and, retK_r, x_nil, x_g, x_mv, x_as, x_pick, x_ld, x_bin, x_not, x_iadr, kx, rvP_ok, okv_some, ev_t, ev_c, getV_some, putD_some, bin_lss, bin_geq, pick_b, onB_b, onP_p, oGet_s, idx_n, readRs_nil, readRs_t, retV_2, of0, of1, of64, Option.some.injEq, exists_eq_left', getK_set, Nat.reduceEqDiff, ↓reduceIte, Bool.false_eq_true, Bool.not_false, b1, b2, decide_false, hld]
        exact ⟨.sn, rfl, Sl.nil, Own.sn, ggr⟩
      · rw [b3] at hld
        have ldn : loadV h3 (.p h2.nx 0) (many? 64) = .ok (.agg (boolV (famB S))) h3 := hA.ldn (n := 64) (by rw [arr_len])
        have hc3 := ggr.hc hc
        simp (disch := omega) only [f27_r5, f27_r7, w_skip, w_reg, w_seq, w_cond, seqK_n, ckB_b, cbB_b, okG_b, asG_f, true_and, x_nil, x_g, x_mv, x_pick, x_ld, x_ldn, x_bin, x_not, x_iadr, x_call, kx, rvP_ok, okv_some, ev_t, ev_c, evs_nil, evs_cons, getV_some, putD_some, bin_lss, bin_geq, pick_b, onB_b, onP_p, idx_n, of0, of64, getK_set, Nat.reduceEqDiff, ↓reduceIte, Bool.false_eq_true, Bool.not_true, Bool.not_false, b1, b2, decide_false, hld, ldn]
        refine (callP_0 (ef := f65) h65 rfl (f65_ret (B := famB S) (f := k) h78 h91 h83 hk hc3)).mono ?_
        rintro u h4 ⟨rfl, g4⟩
        simp (disch := omega) only [x_call, kx, ev_t, ev_c, evs_nil, evs_cons, getV_some, putD_some, getK_set, ↓reduceIte]
        refine (callP_0 (ef := f66) h66 rfl (f66_ret (B := linkB (famB S) k) hp h78 h91 (g4.hc hc3))).mono ?_
        rintro u h5 ⟨hs, ho, g5⟩
        simp (disch := omega) only [f27_rs, w_ret, seqK_n, retK_r, x_nil, x_as, kx, ev_t, ev_c, getV_some, putD_some, oGet_s, readRs_nil, readRs_t, retV_2, Option.some.injEq, exists_eq_left', getK_set, Nat.reduceEqDiff, ↓reduceIte]
        have := ggr.nx; have := g4.nx
        exact ⟨u, rfl, hs, ho.low (by omega), (ggr.trans (g4.low (by omega))).trans (g5.low (by omega))⟩
noncomputable def lkR (S : List Int) (f i : Nat) : List Int := ((List.range i).filter fun (x : Nat) => decide (x &&& f = 0) && isF S ((x ||| f : Nat) : Int)).map fun (k : Nat) => (k : Int)
theorem lkR_succ {S : List Int} {f i : Nat} : lkR S f (i + 1) = if (decide (i &&& f = 0) && isF S ((i ||| f : Nat) : Int)) = true then lkR S f i ++ [(i : Int)] else lkR S f i := by
  unfold lkR
  rw [List.range_succ, List.filter_append, List.map_append]
  cases h : (decide (i &&& f = 0) && isF S ((i ||| f : Nat) : Int)) <;> simp [h]
theorem lkR_len {S : List Int} {f i : Nat} : (lkR S f i).length ≤ i := by
  unfold lkR; rw [List.length_map]
  exact Nat.le_trans (List.length_filter_le _ _) (by simp)
def f46_I (h : H) (v : V) (S : List Int) (n : Int) (f : Nat) (i : Nat) (fr : Fr) (h1 : H) : Prop := ∃ o, i ≤ 2 ^ n.toNat ∧ Sl iE h1 o (lkR S f i) ∧ Own h.nx.nat o ∧ Grow h.nx.nat h h1 ∧ fr.get (K.ofNat 0) = some (.i .i64 n) ∧ fr.get (K.ofNat 1) = some (v) ∧ fr.get (K.ofNat 2) = some (.i .i64 (f : Int)) ∧ fr.get (K.ofNat 7) = some (o) ∧ fr.get (K.ofNat 8) = some (.i .i64 (i : Int))
theorem f46_ret {h : H} {v : V} {S : List Int} {n : Int} {f : Nat} (hp : ∀ a b h P, CallP fs (.fn (K.ofNat 53) []) [.i .i64 a, .i .i64 b] h P = P (.b (ptI a b)) h) (h45 : fs.get (K.ofNat 45) = some f45) (h49 : fs.get (K.ofNat 49) = some f49) (hv : Sl iE h v S) (hc : HC h) (hS : S.length ≤ 1000000) (hn1 : 1 ≤ n) (hn6 : n ≤ 6) (hf : f < 64) :
    Ret fs f46 [.i .i64 n, v, .i .i64 (f : Int)] h fun u h' => Sl iE h' u (piecesTo (lkR S f (2 ^ n.toNat)) 64) ∧ Own h.nx.nat u ∧ Grow h.nx.nat h h' := by
  apply ret_of rfl
  show W fs none f46_c _ _ _
  unfold f46_c
  obtain ⟨hpw, hpe⟩ := pow_n hn1 hn6
  simp (disch := omega) only [f46_r0, f46_r1, f46_r2, w_reg, w_seq, w_block, seqK_n, x_nil, x_as, ev_c, putD_some, frame_3, of0]
  refine W_loop (f46_I h v S n f) (fun i => 2 ^ n.toNat - i) ?_ 0 ⟨.sn, Nat.zero_le _, Sl.nil, Own.sn, Grow.refl _ _, by simp (disch := omega) only [getK_set, Nat.reduceEqDiff, ↓reduceIte, and_self, Int.natCast_zero]⟩
  rintro i fr h1 ⟨o, hi, hso, hoo, hgr, g0, g1, g2, g7, g8⟩
  have hc1 := hgr.hc hc
  have hv1 := hv.grow hc hgr
  have hll := lkR_len (S := S) (f := f) (i := i)
  unfold f46_l0
  by_cases hlt : i < 2 ^ n.toNat
  · have hlt' : (i : Int) < (2 : Int) ^ n.toNat := by omega
    have hi64 : i < 9223372036854775808 := by omega
    have hf64 : f < 9223372036854775808 := by omega
    by_cases e : i &&& f = 0
    · have e' : ((i &&& f : Nat) : Int) = 0 := by omega
      simp (disch := omega) only [f46_r3, f46_r4, w_skip, w_reg, w_seq, w_cond, w_block, seqK_n, ckB_b, cbB_b, okG_b, asG_t, true_and, x_nil, x_g, x_mv, x_bin, x_call, kx, rvP_ok, okv_some, ev_t, ev_c, evs_nil, evs_cons, getV_some, putD_some, bin_eql, bin_lss, of0, of1, getK_set, Nat.reduceEqDiff, ↓reduceIte, g0, g1, g2, g8, bin_shl, shl_n, hlt', decide_true, and_n kmi hi64 hf64, or_n hi64 hf64, e']
      refine (callP_0 (ef := f45) h45 rfl (f45_ret (x := ((i ||| f : Nat) : Int)) hp hv1 hS)).mono ?_
      rintro u h2 ⟨rfl, rfl⟩
      cases e2 : isF S ((i ||| f : Nat) : Int)
      · have hn : lkR S f (i + 1) = lkR S f i := by rw [lkR_succ, e2, Bool.and_false]; simp
        simp (disch := omega) only [f46_r6, w_skip, w_reg, w_cond, seqK_n, atK_n, loopK_n, ckB_b, cbB_b, true_and, x_nil, x_mv, x_as, x_pick, x_bin, kx, rvP_ok, okv_some, ev_t, ev_c, getV_some, putD_some, bin_add, pick_b, of1, getK_set, Nat.reduceEqDiff, ↓reduceIte, Bool.false_eq_true, g8, fw64]
        exact ⟨i + 1, by omega, o, hlt, by rw [hn]; exact hso, hoo, hgr, by simp (disch := omega) only [getK_set, Nat.reduceEqDiff, ↓reduceIte, g0, g1, g2, g7, and_self, Int.natCast_add, Int.natCast_one]⟩
      · have hn : lkR S f (i + 1) = lkR S f i ++ [(i : Int)] := by rw [lkR_succ, e2, decide_eq_true e]; rfl
        obtain ⟨v', h', p1, p2, p3, p4, p5⟩ := Sl.push (e := iE) (L := lkR S f i) (x := (i : Int)) (c := .i .i64 i) rfl hso hoo hgr.nx hc1 (by omega)
        simp (disch := omega) only [f46_r5, f46_r6, w_reg, w_cond, seqK_n, atK_n, loopK_n, ckB_b, cbB_b, true_and, x_nil, x_mv, x_as, x_pick, x_bslice, x_bin, x_app, kx, rvP_ok, okv_some, ev_t, ev_c, getV_some, putD_some, bin_add, pick_b, oGet_s, cells1_i, fill_1, set_1, of0, of1, getK_set, Nat.reduceEqDiff, ↓reduceIte, g7, g8, p1, fw64]
        exact ⟨i + 1, by omega, v', hlt, by rw [hn]; exact p2, p3, hgr.trans p4, by simp (disch := omega) only [getK_set, Nat.reduceEqDiff, ↓reduceIte, g0, g1, g2, and_self, Int.natCast_add, Int.natCast_one]⟩
    · have e' : ¬ ((i &&& f : Nat) : Int) = 0 := by omega
      have hn : lkR S f (i + 1) = lkR S f i := by rw [lkR_succ, decide_eq_false e]; simp
      simp (disch := omega) only [f46_r3, f46_r4, f46_r6, w_skip, w_reg, w_seq, w_cond, w_block, seqK_n, atK_n, loopK_n, ckB_b, cbB_b, okG_b, asG_t, true_and, x_nil, x_g, x_mv, x_as, x_pick, x_bin, kx, rvP_ok, okv_some, ev_t, ev_c, getV_some, putD_some, bin_add, bin_eql, bin_lss, pick_b, of0, of1, getK_set, Nat.reduceEqDiff, ↓reduceIte, Bool.false_eq_true, g0, g2, g8, bin_shl, shl_n, hlt', decide_true, decide_false, and_n kmi hi64 hf64, e', fw64]
      exact ⟨i + 1, by omega, o, hlt, by rw [hn]; exact hso, hoo, hgr, by simp (disch := omega) only [getK_set, Nat.reduceEqDiff, ↓reduceIte, g0, g1, g2, g7, and_self, Int.natCast_add, Int.natCast_one]⟩
  · obtain rfl : i = 2 ^ n.toNat := by omega
    have hlt' : ¬ ((2 ^ n.toNat : Nat) : Int) < (2 : Int) ^ n.toNat := by omega
    simp (disch := omega) only [f46_r3, f46_r7, w_reg, w_seq, w_cond, w_exit, seqK_n, seqK_e, atK_e, loopK_e, ckB_b, cbB_b, true_and, x_nil, x_mv, x_bin, x_call, kx, rvP_ok, okv_some, ev_t, ev_c, evs_nil, evs_cons, getV_some, putD_some, bin_lss, of1, getK_set, Nat.reduceEqDiff, ↓reduceIte, Bool.false_eq_true, g0, g7, g8, bin_shl, shl_n, hlt', decide_false]
    refine (callP_0 (ef := f49) h49 rfl (f49_ret hp hso (by omega) hc1)).mono ?_
    rintro w h2 ⟨hs, ho, g2⟩
    simp (disch := omega) only [f46_rs, w_ret, seqK_n, retK_r, x_nil, x_as, kx, ev_t, getV_some, putD_some, oGet_s, readRs_nil, readRs_t, retV_1, Option.some.injEq, exists_eq_left', getK_set, ↓reduceIte]
    exact ⟨hs, ho.low hgr.nx, hgr.trans (g2.low hgr.nx)⟩
noncomputable def dualTo (B : Nat → Bool) (a i : Nat) (x : Nat) : Bool := decide (x < i) && !B (lessC a x)
theorem dualTo_succ {B : Nat → Bool} {a i : Nat} : arr (dualTo B a (i + 1)) 64 = (arr (dualTo B a i) 64).set i (!B (lessC a i)) := by
  rw [arr_set]
  apply arr_congr
  intro x hx
  unfold dualTo
  by_cases e : x = i
  · subst e; simp
  · have : decide (x < i + 1) = decide (x < i) := by rw [decide_eq_decide]; omega
    rw [this, if_neg e]
theorem less_le {a x : Nat} : lessC a x ≤ a := by
  show a ^^^ (a &&& x) ≤ a
  have : a ^^^ (a &&& x) = a &&& (a ^^^ (a &&& x)) := by
    apply Nat.eq_of_testBit_eq
    intro i
    simp only [Nat.testBit_xor, Nat.testBit_and]
    cases a.testBit i <;> cases x.testBit i <;> rfl
  rw [this]; exact Nat.and_le_left
def f68_I (h : H) (B : Nat → Bool) (id2 id4 id5 : K) (a : Nat) (i : Nat) (fr : Fr) (h1 : H) : Prop := i ≤ a + 1 ∧ Grow h.nx.nat h h1 ∧ h1.get id2 = .cells 64 (boolV B) ∧ h1.get id4 = .cells 64 (List.replicate 64 (.b false)) ∧ Ar V.b h1 id5 (arr (dualTo B a i) 64) ∧ fr.get (K.ofNat 2) = some (.p id2 0) ∧ fr.get (K.ofNat 4) = some (.p id4 0) ∧ fr.get (K.ofNat 5) = some (.p id5 0) ∧ fr.get (K.ofNat 6) = some (.i .i64 (a : Int)) ∧ fr.get (K.ofNat 12) = some (.i .i64 ((a + 1 : Nat) : Int)) ∧ fr.get (K.ofNat 13) = some (.i .i64 (i : Int))
noncomputable def dualB (B : Nat → Bool) (a : Nat) : Nat → Bool := dualTo B a (a + 1)
theorem sub_n {n : Int} (h1 : 1 ≤ n) (h6 : n ≤ 6) : fw .i64 ((2 : Int) ^ n.toNat - 1) = ((2 ^ n.toNat - 1 : Nat) : Int) ∧ 2 ^ n.toNat - 1 < 64 := by
  have : n = 1 ∨ n = 2 ∨ n = 3 ∨ n = 4 ∨ n = 5 ∨ n = 6 := by omega
  rcases this with rfl | rfl | rfl | rfl | rfl | rfl <;> exact ⟨rfl, by decide⟩
theorem f68_ret {h : H} {B : Nat → Bool} {n : Int} (hc : HC h) (hn1 : 1 ≤ n) (hn6 : n ≤ 6) :
    Ret fs f68 [.agg (boolV B), .i .i64 n] h fun u h' => u = .agg (boolV (dualB B (2 ^ n.toNat - 1))) ∧ Grow h.nx.nat h h' := by
  apply ret_of rfl
  show W fs none f68_c _ _ _
  unfold f68_c
  obtain ⟨hsub, ha⟩ := sub_n hn1 hn6
  generalize 2 ^ n.toNat - 1 = a at *
  have g1 : Grow h.nx.nat h (h.new (.cells 64 (boolV B))) := Grow.new (Nat.le_refl _) _
  have n1 := nx_new h (.cells 64 (boolV B))
  have e2 : (h.new (.cells 64 (boolV B))).get h.nx = .cells 64 (boolV B) := get_new_same
  have a1 : fw .i64 ((a : Int) + 1) = ((a + 1 : Nat) : Int) := by rw [fw64 (by omega) (by omega)]; omega
  simp (disch := omega) only [f68_r0, f68_r1, f68_r2, f68_r3, w_reg, w_seq, w_block, seqK_n, x_nil, x_mv, x_as, x_alloc, x_box, x_bin, kx, rvP_ok, okv_some, ev_t, ev_c, getV_some, putD_some, bin_add, bin_sub, oGet_s, frame_2, of0, of1, getK_set, Nat.reduceEqDiff, ↓reduceIte, cells64 (boolV_len (B := B)), bin_shl, shl_n, hsub, a1]
  generalize h.new (.cells 64 (boolV B)) = h1 at *
  have g3 : Grow h1.nx.nat h1 (h1.new (.cells 64 (List.replicate 64 (.b false)))) := Grow.new (Nat.le_refl _) _
  have n3 := nx_new h1 (.cells 64 (List.replicate 64 (.b false)))
  have e4 : (h1.new (.cells 64 (List.replicate 64 (.b false)))).get h1.nx = .cells 64 (List.replicate 64 (.b false)) := get_new_same
  rw [← g3.old _ (by omega)] at e2
  replace g1 := g1.trans (g3.low (by omega))
  generalize h1.new (.cells 64 (List.replicate 64 (.b false))) = h3 at *
  have g4 : Grow h3.nx.nat h3 (h3.new (.cells 64 (List.replicate 64 (.b false)))) := Grow.new (Nat.le_refl _) _
  have n4 := nx_new h3 (.cells 64 (List.replicate 64 (.b false)))
  have e5 : (h3.new (.cells 64 (List.replicate 64 (.b false)))).get h3.nx = .cells 64 (List.replicate 64 (.b false)) := get_new_same
  rw [← g4.old _ (by omega)] at e2 e4
  replace g1 := g1.trans (g4.low (by omega))
  generalize h3.new (.cells 64 (List.replicate 64 (.b false))) = h4 at *
  have hz : (List.replicate 64 (V.b false)) = (arr (dualTo B a 0) 64).map V.b := by
    rw [show arr (dualTo B a 0) 64 = arr (fun _ => false) 64 from arr_congr fun k _ => by simp [dualTo]]
    rfl
  refine W_loop (f68_I h B h.nx h1.nx h3.nx a) (fun i => a + 1 - i) ?_ 0 ⟨Nat.zero_le _, g1, e2, e4, by unfold Ar; rw [e5, arr_len, hz], by simp (disch := omega) only [getK_set, Nat.reduceEqDiff, ↓reduceIte, and_self, Int.natCast_zero]⟩
  have l5 : h3.nx.nat < h4.nx.nat := by omega
  have l4 : h1.nx.nat < h4.nx.nat := by omega
  have d1 : h1.nx ≠ h3.nx := kNe (by omega)
  have d2 : h.nx ≠ h3.nx := kNe (by omega)
  have b5 : h.nx.nat ≤ h3.nx.nat := by omega
  have b4 : h.nx.nat ≤ h1.nx.nat := by omega
  clear e2 e4 e5 hz g1 g3 g4 n1 n3
  generalize h1.nx = id4 at *
  generalize h3.nx = id5 at *
  rintro i fr h6 ⟨hi, hgr, e2, e4, e5, g2, g4, g5, g6, g12, g13⟩
  have hc6 := hgr.hc hc
  unfold f68_l0
  by_cases hlt : i < a + 1
  · have hlt' : (i : Int) < ((a + 1 : Nat) : Int) := by omega
    have hl := @less_le a i
    have hA : Ar V.b h6 h.nx (arr B 64) := by unfold Ar; rw [arr_len, e2]; rfl
    have hld := hA.ld (i := lessC a i) (by rw [arr_len]; omega)
    rw [arr_at] at hld
    obtain ⟨st1, st2⟩ := e5.st (i := i) (x := !B (lessC a i)) (c := .b (!B (lessC a i))) (by rw [arr_len]; omega) rfl rfl
    rw [← dualTo_succ, arr_len] at st1 st2
    simp (disch := omega) only [f68_r4, f68_r5, f68_r6, f68_r7, w_skip, w_reg, w_seq, w_cond, w_block, seqK_n, atK_n, loopK_n, ckB_b, cbB_b, true_and, x_nil, x_mv, x_as, x_ld, x_st, x_bin, x_not, x_iadr, kx, rvP_ok, okv_some, ev_t, ev_c, getV_some, putD_some, putD_none, bin_add, bin_lss, onB_b, onP_p, idx_n, of1, getK_set, Nat.reduceEqDiff, ↓reduceIte, g2, g5, g6, g12, g13, hlt', decide_true, andNot_n (show a < 9223372036854775808 by omega) (show i < 9223372036854775808 by omega), hld, st1, fw64]
    exact ⟨i + 1, by omega, hlt, hgr.trans (Grow.put b5 (hc6.cells e5) _), by rw [get_put_other d2]; exact e2, by rw [get_put_other d1]; exact e4, st2, by simp (disch := omega) only [getK_set, Nat.reduceEqDiff, ↓reduceIte, g2, g4, g5, g6, g12, and_self, Int.natCast_add, Int.natCast_one]⟩
  · obtain rfl : i = a + 1 := by omega
    have hlt' : ¬ ((a + 1 : Nat) : Int) < ((a + 1 : Nat) : Int) := by omega
    have ldn5 : loadV h6 (.p id5 0) (many? 64) = .ok (.agg (boolV (dualB B a))) h6 := e5.ldn (n := 64) (by rw [arr_len])
    simp (disch := omega) only [f68_r4, f68_r8, f68_rs, w_reg, w_seq, w_cond, w_exit, w_ret, seqK_n, seqK_e, atK_e, loopK_e, ckB_b, cbB_b, true_and, retK_r, x_nil, x_ldn, x_st, x_bin, kx, rvP_ok, okv_some, ev_t, getV_some, putD_some, putD_none, bin_lss, oGet_s, readRs_nil, readRs_n, retV_1, Option.some.injEq, exists_eq_left', getK_set, Nat.reduceEqDiff, ↓reduceIte, Bool.false_eq_true, g4, g5, g12, g13, hlt', decide_false, ldn5, out_st (List.length_replicate ..) e4, out_rd, true_and]
    exact hgr.trans (Grow.put b4 (hc6.cells e4) _)
theorem f28_ret {h : H} {v : V} {S : List Int} {n : Int} (hp : ∀ a b h P, CallP fs (.fn (K.ofNat 54) []) [.i .i64 a, .i .i64 b] h P = P (.b (ptI a b)) h)
    (h16 : fs.get (K.ofNat 16) = some f16) (h55 : fs.get (K.ofNat 55) = some f55) (h78 : fs.get (K.ofNat 78) = some f78) (h91 : fs.get (K.ofNat 91) = some alF) (h68 : fs.get (K.ofNat 68) = some f68) (h67 : fs.get (K.ofNat 67) = some f67) (h66 : fs.get (K.ofNat 66) = some f66)
    (hv : Sl iE h v S) (hc : HC h) (hS : S.length ≤ 1000000) (e : chkS n S = 0) (hn1 : 1 ≤ n) (hn6 : n ≤ 6) :
    Ret fs f28 [.i .i64 n, v] h fun r h' => ∃ u, r = .tup [u, .i .i64 (madeOf (topsTo (dualB (famB S) (2 ^ n.toNat - 1)) 64)).2] ∧ Sl iE h' u (madeOf (topsTo (dualB (famB S) (2 ^ n.toNat - 1)) 64)).1 ∧ Grow h.nx.nat h h' := by
  apply ret_of rfl
  show W fs none f28_c _ _ _
  unfold f28_c
  simp (disch := omega) only [f28_r0, f28_r1, w_reg, w_seq, seqK_n, x_nil, x_mv, x_as, x_call, ev_t, ev_c, evs_nil, evs_cons, getV_some, putD_some, frame_2, of0, getK_set, Nat.reduceEqDiff, ↓reduceIte]
  refine (callP_0 (ef := f16) h16 rfl (f16_ret hp hv)).mono ?_
  rintro u h1 ⟨rfl, rfl⟩
  simp (disch := omega) only [f28_r2, f28_r4, w_skip, w_reg, w_seq, w_cond, seqK_n, ckB_b, cbB_b, true_and, x_nil, x_mv, x_as, x_bin, x_call, kx, rvP_ok, okv_some, ev_t, ev_c, evs_nil, evs_cons, getV_some, putD_some, bin_neq, of0, getK_set, Nat.reduceEqDiff, ↓reduceIte, Bool.false_eq_true, e, ne_eq, not_true_eq_false, decide_false]
  refine (callP_0 (ef := f55) h55 rfl (f55_ret (S := S) hp hv hc hS)).mono ?_
  rintro u h2 ⟨rfl, g2⟩
  rw [famB_list]
  have hc2 := g2.hc hc
  simp (disch := omega) only [x_mv, x_call, kx, ev_t, ev_c, evs_nil, evs_cons, getV_some, putD_some, getK_set, Nat.reduceEqDiff, ↓reduceIte]
  refine (callP_0 (ef := f68) h68 rfl (f68_ret (B := famB S) (n := n) hc2 hn1 hn6)).mono ?_
  rintro u h3 ⟨rfl, g3⟩
  simp (disch := omega) only [x_call, kx, ev_t, ev_c, evs_nil, evs_cons, getV_some, putD_some, getK_set, ↓reduceIte]
  refine (callP_0 (ef := f67) h67 rfl (f67_ret (B := dualB (famB S) (2 ^ n.toNat - 1)) hp h66 h78 h91 (g3.hc hc2))).mono ?_
  rintro r h4 ⟨u, rfl, hs, g4⟩
  simp (disch := omega) only [f28_rs, w_ret, seqK_n, retK_r, x_nil, x_as, x_ext, kx, rvP_ok, okv_some, ev_t, getV_some, putD_some, onTup_t, oGet_s, nth0, nth1, readRs_nil, readRs_t, retV_2, Option.some.injEq, exists_eq_left', getK_set, Nat.reduceEqDiff, ↓reduceIte]
  have := g2.nx; have := g3.nx
  exact ⟨u, rfl, hs, (g2.trans (g3.low (by omega))).trans (g4.low (by omega))⟩
noncomputable def duR (S : List Int) (a i : Nat) : List Int := ((List.range i).filter fun (x : Nat) => !isF S (lessC a x : Int)).map fun (k : Nat) => (k : Int)
theorem duR_succ {S : List Int} {a i : Nat} : duR S a (i + 1) = if (!isF S (lessC a i : Int)) = true then duR S a i ++ [(i : Int)] else duR S a i := by
  unfold duR
  rw [List.range_succ, List.filter_append, List.map_append]
  cases h : isF S (lessC a i : Int) <;> simp [h]
theorem duR_len {S : List Int} {a i : Nat} : (duR S a i).length ≤ i := by
  unfold duR; rw [List.length_map]
  exact Nat.le_trans (List.length_filter_le _ _) (by simp)
def f47_I (h : H) (v : V) (S : List Int) (a : Nat) (i : Nat) (fr : Fr) (h1 : H) : Prop := ∃ o, i ≤ a + 1 ∧ Sl iE h1 o (duR S a i) ∧ Own h.nx.nat o ∧ Grow h.nx.nat h h1 ∧ fr.get (K.ofNat 1) = some (v) ∧ fr.get (K.ofNat 5) = some (o) ∧ fr.get (K.ofNat 6) = some (.i .i64 (a : Int)) ∧ fr.get (K.ofNat 7) = some (.i .i64 (i : Int))
theorem f47_ret {h : H} {v : V} {S : List Int} {n : Int} (hp : ∀ a b h P, CallP fs (.fn (K.ofNat 53) []) [.i .i64 a, .i .i64 b] h P = P (.b (ptI a b)) h) (h45 : fs.get (K.ofNat 45) = some f45) (h49 : fs.get (K.ofNat 49) = some f49) (hv : Sl iE h v S) (hc : HC h) (hS : S.length ≤ 1000000) (hn1 : 1 ≤ n) (hn6 : n ≤ 6) :
    Ret fs f47 [.i .i64 n, v] h fun u h' => Sl iE h' u (piecesTo (duR S (2 ^ n.toNat - 1) (2 ^ n.toNat - 1 + 1)) 64) ∧ Own h.nx.nat u ∧ Grow h.nx.nat h h' := by
  apply ret_of rfl
  show W fs none f47_c _ _ _
  unfold f47_c
  obtain ⟨hsub, ha⟩ := sub_n hn1 hn6
  generalize 2 ^ n.toNat - 1 = a at *
  simp (disch := omega) only [f47_r0, f47_r1, f47_r2, f47_r3, w_reg, w_seq, w_block, seqK_n, x_nil, x_mv, x_as, x_bin, kx, rvP_ok, okv_some, ev_t, ev_c, getV_some, putD_some, bin_sub, frame_2, of0, of1, getK_set, Nat.reduceEqDiff, ↓reduceIte, bin_shl, shl_n, hsub]
  refine W_loop (f47_I h v S a) (fun i => a + 1 - i) ?_ 0 ⟨.sn, Nat.zero_le _, Sl.nil, Own.sn, Grow.refl _ _, by simp (disch := omega) only [getK_set, Nat.reduceEqDiff, ↓reduceIte, and_self, Int.natCast_zero]⟩
  rintro i fr h1 ⟨o, hi, hso, hoo, hgr, g1, g5, g6, g7⟩
  have hc1 := hgr.hc hc
  have hv1 := hv.grow hc hgr
  have hll := duR_len (S := S) (a := a) (i := i)
  unfold f47_l0
  by_cases hlt : i < a + 1
  · have hlt' : (i : Int) ≤ (a : Int) := by omega
    simp (disch := omega) only [f47_r4, f47_r5, w_skip, w_reg, w_seq, w_cond, w_block, seqK_n, ckB_b, cbB_b, true_and, x_nil, x_mv, x_bin, x_call, kx, rvP_ok, okv_some, ev_t, ev_c, evs_nil, evs_cons, getV_some, putD_some, bin_leq, getK_set, Nat.reduceEqDiff, ↓reduceIte, g1, g6, g7, hlt', decide_true, andNot_n (show a < 9223372036854775808 by omega) (show i < 9223372036854775808 by omega)]
    refine (callP_0 (ef := f45) h45 rfl (f45_ret (x := (lessC a i : Int)) hp hv1 hS)).mono ?_
    rintro u h2 ⟨rfl, rfl⟩
    cases e2 : isF S (lessC a i : Int)
    · have hn : duR S a (i + 1) = duR S a i ++ [(i : Int)] := by rw [duR_succ, e2]; rfl
      obtain ⟨v', h', p1, p2, p3, p4, p5⟩ := Sl.push (e := iE) (L := duR S a i) (x := (i : Int)) (c := .i .i64 i) rfl hso hoo hgr.nx hc1 (by omega)
      simp (disch := omega) only [f47_r6, f47_r7, w_reg, w_cond, seqK_n, atK_n, loopK_n, ckB_b, cbB_b, true_and, x_nil, x_mv, x_as, x_bslice, x_bin, x_not, x_app, kx, rvP_ok, okv_some, ev_t, ev_c, getV_some, putD_some, bin_add, onB_b, oGet_s, cells1_i, fill_1, set_1, of0, of1, getK_set, Nat.reduceEqDiff, ↓reduceIte, Bool.not_false, g5, g7, p1, fw64]
      exact ⟨i + 1, by omega, v', hlt, by rw [hn]; exact p2, p3, hgr.trans p4, by simp (disch := omega) only [getK_set, Nat.reduceEqDiff, ↓reduceIte, g1, g6, and_self, Int.natCast_add, Int.natCast_one]⟩
    · have hn : duR S a (i + 1) = duR S a i := by rw [duR_succ, e2]; rfl
      simp (disch := omega) only [f47_r7, w_skip, w_reg, w_cond, seqK_n, atK_n, loopK_n, ckB_b, cbB_b, true_and, x_nil, x_mv, x_as, x_bin, x_not, kx, rvP_ok, okv_some, ev_t, ev_c, getV_some, putD_some, bin_add, onB_b, of1, getK_set, Nat.reduceEqDiff, ↓reduceIte, Bool.false_eq_true, Bool.not_true, g7, fw64]
      exact ⟨i + 1, by omega, o, hlt, by rw [hn]; exact hso, hoo, hgr, by simp (disch := omega) only [getK_set, Nat.reduceEqDiff, ↓reduceIte, g1, g5, g6, and_self, Int.natCast_add, Int.natCast_one]⟩
  · obtain rfl : i = a + 1 := by omega
    have hlt' : ¬ ((a + 1 : Nat) : Int) ≤ (a : Int) := by omega
    simp (disch := omega) only [f47_r4, f47_r8, w_reg, w_seq, w_cond, w_exit, seqK_n, seqK_e, atK_e, loopK_e, ckB_b, cbB_b, true_and, x_nil, x_mv, x_bin, x_call, kx, rvP_ok, okv_some, ev_t, ev_c, evs_nil, evs_cons, getV_some, putD_some, bin_leq, getK_set, Nat.reduceEqDiff, ↓reduceIte, Bool.false_eq_true, g5, g6, g7, hlt', decide_false]
    refine (callP_0 (ef := f49) h49 rfl (f49_ret hp hso (by omega) hc1)).mono ?_
    rintro w h2 ⟨hs, ho, g2⟩
    simp (disch := omega) only [f47_rs, w_ret, seqK_n, retK_r, x_nil, x_as, kx, ev_t, getV_some, putD_some, oGet_s, readRs_nil, readRs_t, retV_1, Option.some.injEq, exists_eq_left', getK_set, ↓reduceIte]
    exact ⟨hs, ho.low hgr.nx, hgr.trans (g2.low hgr.nx)⟩
end
end Go.Ev
namespace Go.Ev
open Go Go.RowKit
noncomputable def f8_r0 : List EOper := [⟨(some (K.ofNat 6)), none, .as (.c (.b false))⟩]
noncomputable def f8_r1 : List EOper := [⟨(some (K.ofNat 19)), none, .mv (.t (K.ofNat 0))⟩, ⟨(some (K.ofNat 20)), none, .mv (.t (K.ofNat 1))⟩, ⟨(some (K.ofNat 21)), none, .call (.c (.fn (K.ofNat 30) [])) [(.t (K.ofNat 19)), (.t (K.ofNat 20))]⟩, ⟨(some (K.ofNat 18)), none, .mv (.t (K.ofNat 21))⟩, ⟨(some (K.ofNat 22)), none, .ext (.t (K.ofNat 18)) 0⟩, ⟨(some (K.ofNat 23)), none, .ext (.t (K.ofNat 18)) 1⟩, ⟨(some (K.ofNat 7)), none, .as (.t (K.ofNat 22))⟩, ⟨(some (K.ofNat 8)), none, .as (.t (K.ofNat 23))⟩]
noncomputable def f8_r2 : List EOper := [⟨(some (K.ofNat 25)), none, .mv (.t (K.ofNat 7))⟩, ⟨(some (K.ofNat 26)), none, .mv (.t (K.ofNat 8))⟩, ⟨(some (K.ofNat 27)), none, .call (.c (.fn (K.ofNat 26) [])) [(.t (K.ofNat 25)), (.t (K.ofNat 26))]⟩, ⟨(some (K.ofNat 24)), none, .mv (.t (K.ofNat 27))⟩, ⟨(some (K.ofNat 28)), none, .ext (.t (K.ofNat 24)) 0⟩, ⟨(some (K.ofNat 29)), none, .ext (.t (K.ofNat 24)) 1⟩, ⟨(some (K.ofNat 9)), none, .as (.t (K.ofNat 28))⟩, ⟨(some (K.ofNat 10)), none, .as (.t (K.ofNat 29))⟩]
noncomputable def f8_r3 : List EOper := [⟨(some (K.ofNat 30)), none, .mv (.t (K.ofNat 10))⟩, ⟨(some (K.ofNat 31)), none, .bin .neq (.t (K.ofNat 30)) (.c (.i .i64 (.ofNat 0)))⟩, ⟨(some (K.ofNat 32)), none, .mv (.t (K.ofNat 31))⟩, ⟨(some (K.ofNat 33)), (some ((K.ofNat 32), false)), .mv (.t (K.ofNat 9))⟩, ⟨(some (K.ofNat 34)), (some ((K.ofNat 32), false)), .mv (.t (K.ofNat 7))⟩, ⟨(some (K.ofNat 35)), (some ((K.ofNat 32), false)), .mv (.t (K.ofNat 8))⟩, ⟨(some (K.ofNat 36)), (some ((K.ofNat 32), false)), .call (.c (.fn (K.ofNat 44) [])) [(.t (K.ofNat 34)), (.t (K.ofNat 35))]⟩, ⟨(some (K.ofNat 37)), (some ((K.ofNat 32), false)), .call (.c (.fn (K.ofNat 32) [])) [(.t (K.ofNat 33)), (.t (K.ofNat 36))]⟩, ⟨(some (K.ofNat 38)), (some ((K.ofNat 32), false)), .not (.t (K.ofNat 37))⟩, ⟨(some (K.ofNat 39)), none, .pick (.t (K.ofNat 32)) (.c (.b true)) (.t (K.ofNat 38))⟩]
noncomputable def f8_r4 : List EOper := [⟨(some (K.ofNat 6)), none, .as (.c (.b false))⟩]
noncomputable def f8_r5 : List EOper := [⟨(some (K.ofNat 11)), none, .as (.c (.i .i64 (.ofNat 0)))⟩]
noncomputable def f8_r6 : List EOper := [⟨(some (K.ofNat 40)), none, .mv (.t (K.ofNat 11))⟩, ⟨(some (K.ofNat 41)), none, .bin .lss (.t (K.ofNat 40)) (.c (.i .i64 (.ofNat 2)))⟩]
noncomputable def f8_r7 : List EOper := [⟨(some (K.ofNat 45)), none, .mv (.t (K.ofNat 7))⟩, ⟨(some (K.ofNat 46)), none, .mv (.t (K.ofNat 8))⟩, ⟨(some (K.ofNat 47)), none, .mv (.t (K.ofNat 2))⟩, ⟨(some (K.ofNat 48)), none, .call (.c (.fn (K.ofNat 27) [])) [(.t (K.ofNat 45)), (.t (K.ofNat 46)), (.t (K.ofNat 47))]⟩, ⟨(some (K.ofNat 44)), none, .mv (.t (K.ofNat 48))⟩, ⟨(some (K.ofNat 49)), none, .ext (.t (K.ofNat 44)) 0⟩, ⟨(some (K.ofNat 50)), none, .ext (.t (K.ofNat 44)) 1⟩, ⟨(some (K.ofNat 12)), none, .as (.t (K.ofNat 49))⟩, ⟨(some (K.ofNat 13)), none, .as (.t (K.ofNat 50))⟩]
noncomputable def f8_r8 : List EOper := [⟨(some (K.ofNat 51)), none, .mv (.t (K.ofNat 2))⟩, ⟨(some (K.ofNat 52)), none, .bin .lss (.t (K.ofNat 51)) (.c (.i .i64 (.ofNat 0)))⟩, ⟨(some (K.ofNat 53)), none, .mv (.t (K.ofNat 52))⟩, ⟨(some (K.ofNat 54)), (some ((K.ofNat 53), false)), .mv (.t (K.ofNat 2))⟩, ⟨(some (K.ofNat 55)), (some ((K.ofNat 53), false)), .mv (.t (K.ofNat 7))⟩, ⟨(some (K.ofNat 56)), (some ((K.ofNat 53), false)), .bin .shl (.c (.i .i64 (.ofNat 1))) (.t (K.ofNat 55))⟩, ⟨(some (K.ofNat 57)), (some ((K.ofNat 53), false)), .bin .geq (.t (K.ofNat 54)) (.t (K.ofNat 56))⟩, ⟨(some (K.ofNat 58)), none, .pick (.t (K.ofNat 53)) (.c (.b true)) (.t (K.ofNat 57))⟩, ⟨(some (K.ofNat 59)), none, .mv (.t (K.ofNat 58))⟩, ⟨(some (K.ofNat 60)), (some ((K.ofNat 59), false)), .mv (.t (K.ofNat 8))⟩, ⟨(some (K.ofNat 61)), (some ((K.ofNat 59), false)), .mv (.t (K.ofNat 2))⟩, ⟨(some (K.ofNat 62)), (some ((K.ofNat 59), false)), .call (.c (.fn (K.ofNat 45) [])) [(.t (K.ofNat 60)), (.t (K.ofNat 61))]⟩, ⟨(some (K.ofNat 63)), (some ((K.ofNat 59), false)), .not (.t (K.ofNat 62))⟩, ⟨(some (K.ofNat 64)), none, .pick (.t (K.ofNat 59)) (.c (.b true)) (.t (K.ofNat 63))⟩]
noncomputable def f8_r9 : List EOper := [⟨(some (K.ofNat 65)), none, .mv (.t (K.ofNat 13))⟩, ⟨(some (K.ofNat 66)), none, .bin .neq (.t (K.ofNat 65)) (.c (.i .i64 (.ofNat 1)))⟩, ⟨(some (K.ofNat 67)), none, .mv (.t (K.ofNat 66))⟩, ⟨(some (K.ofNat 68)), (some ((K.ofNat 67), false)), .mv (.t (K.ofNat 12))⟩, ⟨(some (K.ofNat 69)), (some ((K.ofNat 67), false)), .len (.t (K.ofNat 68))⟩, ⟨(some (K.ofNat 70)), (some ((K.ofNat 67), false)), .bin .neq (.t (K.ofNat 69)) (.c (.i .i64 (.ofNat 0)))⟩, ⟨(some (K.ofNat 71)), none, .pick (.t (K.ofNat 67)) (.c (.b true)) (.t (K.ofNat 70))⟩]
noncomputable def f8_r10 : List EOper := [⟨(some (K.ofNat 6)), none, .as (.c (.b false))⟩]
noncomputable def f8_r11 : List EOper := [⟨(some (K.ofNat 72)), none, .mv (.t (K.ofNat 13))⟩, ⟨(some (K.ofNat 73)), none, .bin .neq (.t (K.ofNat 72)) (.c (.i .i64 (.ofNat 0)))⟩, ⟨(some (K.ofNat 74)), none, .mv (.t (K.ofNat 73))⟩, ⟨(some (K.ofNat 75)), (some ((K.ofNat 74), false)), .mv (.t (K.ofNat 12))⟩, ⟨(some (K.ofNat 76)), (some ((K.ofNat 74), false)), .mv (.t (K.ofNat 7))⟩, ⟨(some (K.ofNat 77)), (some ((K.ofNat 74), false)), .mv (.t (K.ofNat 8))⟩, ⟨(some (K.ofNat 78)), (some ((K.ofNat 74), false)), .mv (.t (K.ofNat 2))⟩, ⟨(some (K.ofNat 79)), (some ((K.ofNat 74), false)), .call (.c (.fn (K.ofNat 46) [])) [(.t (K.ofNat 76)), (.t (K.ofNat 77)), (.t (K.ofNat 78))]⟩, ⟨(some (K.ofNat 80)), (some ((K.ofNat 74), false)), .call (.c (.fn (K.ofNat 32) [])) [(.t (K.ofNat 75)), (.t (K.ofNat 79))]⟩, ⟨(some (K.ofNat 81)), (some ((K.ofNat 74), false)), .not (.t (K.ofNat 80))⟩, ⟨(some (K.ofNat 82)), none, .pick (.t (K.ofNat 74)) (.c (.b true)) (.t (K.ofNat 81))⟩]
noncomputable def f8_r12 : List EOper := [⟨(some (K.ofNat 6)), none, .as (.c (.b false))⟩]
noncomputable def f8_r13 : List EOper := [⟨(some (K.ofNat 83)), none, .mv (.t (K.ofNat 7))⟩, ⟨(some (K.ofNat 84)), none, .mv (.t (K.ofNat 8))⟩, ⟨(some (K.ofNat 85)), none, .call (.c (.fn (K.ofNat 33) [])) [(.t (K.ofNat 83)), (.t (K.ofNat 84))]⟩, ⟨(some (K.ofNat 14)), none, .as (.t (K.ofNat 85))⟩]
noncomputable def f8_r14 : List EOper := [⟨(some (K.ofNat 86)), none, .mv (.t (K.ofNat 14))⟩, ⟨(some (K.ofNat 87)), none, .mv (.t (K.ofNat 2))⟩, ⟨(some (K.ofNat 88)), none, .conv .u64 (.t (K.ofNat 87))⟩, ⟨(some (K.ofNat 89)), none, .mv (.t (K.ofNat 14))⟩, ⟨(some (K.ofNat 90)), none, .len (.t (K.ofNat 89))⟩, ⟨(some (K.ofNat 91)), none, .conv .u64 (.t (K.ofNat 90))⟩, ⟨(some (K.ofNat 92)), none, .bin .rem (.t (K.ofNat 88)) (.t (K.ofNat 91))⟩, ⟨(some (K.ofNat 93)), none, .conv .i64 (.t (K.ofNat 92))⟩, ⟨(some (K.ofNat 94)), none, .iads 1 (.t (K.ofNat 86)) (.t (K.ofNat 93))⟩, ⟨(some (K.ofNat 95)), none, .ld (.t (K.ofNat 94))⟩, ⟨(some (K.ofNat 2)), none, .as (.t (K.ofNat 95))⟩]
noncomputable def f8_r15 : List EOper := [⟨(some (K.ofNat 42)), none, .mv (.t (K.ofNat 11))⟩, ⟨(some (K.ofNat 43)), none, .bin .add (.t (K.ofNat 42)) (.c (.i .i64 (.ofNat 1)))⟩, ⟨(some (K.ofNat 11)), none, .as (.t (K.ofNat 43))⟩]
noncomputable def f8_l0 : EC := (.seq (.seq (.reg f8_r6) (.cond (.t (K.ofNat 41)) .skip (.exit 0))) (.seq (.block 1 (.seq (.reg f8_r7) (.seq (.seq (.reg f8_r8) (.cond (.t (K.ofNat 64)) (.seq (.reg f8_r9) (.cond (.t (K.ofNat 71)) (.seq (.reg f8_r10) .ret) .skip)) (.seq (.reg f8_r11) (.cond (.t (K.ofNat 82)) (.seq (.reg f8_r12) .ret) .skip)))) (.seq (.reg f8_r13) (.reg f8_r14))))) (.reg f8_r15)))
noncomputable def f8_r16 : List EOper := [⟨(some (K.ofNat 97)), none, .mv (.t (K.ofNat 7))⟩, ⟨(some (K.ofNat 98)), none, .mv (.t (K.ofNat 8))⟩, ⟨(some (K.ofNat 99)), none, .call (.c (.fn (K.ofNat 28) [])) [(.t (K.ofNat 97)), (.t (K.ofNat 98))]⟩, ⟨(some (K.ofNat 96)), none, .mv (.t (K.ofNat 99))⟩, ⟨(some (K.ofNat 100)), none, .ext (.t (K.ofNat 96)) 0⟩, ⟨(some (K.ofNat 101)), none, .ext (.t (K.ofNat 96)) 1⟩, ⟨(some (K.ofNat 15)), none, .as (.t (K.ofNat 100))⟩, ⟨(some (K.ofNat 16)), none, .as (.t (K.ofNat 101))⟩]
noncomputable def f8_r17 : List EOper := [⟨(some (K.ofNat 102)), none, .mv (.t (K.ofNat 7))⟩, ⟨(some (K.ofNat 103)), none, .mv (.t (K.ofNat 8))⟩, ⟨(some (K.ofNat 104)), none, .call (.c (.fn (K.ofNat 47) [])) [(.t (K.ofNat 102)), (.t (K.ofNat 103))]⟩, ⟨(some (K.ofNat 17)), none, .as (.t (K.ofNat 104))⟩]
noncomputable def f8_r18 : List EOper := [⟨(some (K.ofNat 106)), none, .mv (.t (K.ofNat 17))⟩, ⟨(some (K.ofNat 107)), none, .len (.t (K.ofNat 106))⟩, ⟨(some (K.ofNat 108)), none, .bin .eql (.t (K.ofNat 107)) (.c (.i .i64 (.ofNat 0)))⟩, ⟨(some (K.ofNat 109)), none, .mv (.t (K.ofNat 108))⟩, ⟨(some (K.ofNat 110)), (some ((K.ofNat 109), false)), .mv (.t (K.ofNat 17))⟩, ⟨(some (K.ofNat 111)), (some ((K.ofNat 109), false)), .mv (.t (K.ofNat 17))⟩, ⟨(some (K.ofNat 112)), (some ((K.ofNat 109), false)), .len (.t (K.ofNat 111))⟩, ⟨(some (K.ofNat 113)), (some ((K.ofNat 109), false)), .bin .sub (.t (K.ofNat 112)) (.c (.i .i64 (.ofNat 1)))⟩, ⟨(some (K.ofNat 114)), (some ((K.ofNat 109), false)), .iads 1 (.t (K.ofNat 110)) (.t (K.ofNat 113))⟩, ⟨(some (K.ofNat 115)), (some ((K.ofNat 109), false)), .ld (.t (K.ofNat 114))⟩, ⟨(some (K.ofNat 116)), (some ((K.ofNat 109), false)), .bin .eql (.t (K.ofNat 115)) (.c (.i .i64 (.ofNat 0)))⟩, ⟨(some (K.ofNat 117)), none, .pick (.t (K.ofNat 109)) (.c (.b true)) (.t (K.ofNat 116))⟩, ⟨(some (K.ofNat 105)), none, .as (.t (K.ofNat 117))⟩]
noncomputable def f8_r19 : List EOper := [⟨(some (K.ofNat 118)), none, .mv (.t (K.ofNat 16))⟩, ⟨(some (K.ofNat 119)), none, .bin .eql (.t (K.ofNat 118)) (.c (.i .i64 (.ofNat 4)))⟩, ⟨(some (K.ofNat 120)), none, .mv (.t (K.ofNat 119))⟩, ⟨(some (K.ofNat 121)), (some ((K.ofNat 120), true)), .mv (.t (K.ofNat 15))⟩, ⟨(some (K.ofNat 122)), (some ((K.ofNat 120), true)), .len (.t (K.ofNat 121))⟩, ⟨(some (K.ofNat 123)), (some ((K.ofNat 120), true)), .bin .eql (.t (K.ofNat 122)) (.c (.i .i64 (.ofNat 0)))⟩, ⟨(some (K.ofNat 124)), none, .pick (.t (K.ofNat 120)) (.t (K.ofNat 123)) (.c (.b false))⟩, ⟨(some (K.ofNat 125)), none, .mv (.t (K.ofNat 124))⟩, ⟨(some (K.ofNat 126)), (some ((K.ofNat 125), true)), .call (.c (.fn (K.ofNat 29) [])) []⟩, ⟨(some (K.ofNat 127)), none, .pick (.t (K.ofNat 125)) (.t (K.ofNat 126)) (.c (.b false))⟩, ⟨(some (K.ofNat 6)), none, .as (.t (K.ofNat 127))⟩]
noncomputable def f8_r20 : List EOper := [⟨(some (K.ofNat 129)), none, .mv (.t (K.ofNat 17))⟩, ⟨(some (K.ofNat 130)), none, .len (.t (K.ofNat 129))⟩, ⟨(some (K.ofNat 131)), none, .bin .gtr (.t (K.ofNat 130)) (.c (.i .i64 (.ofNat 10)))⟩, ⟨(some (K.ofNat 128)), none, .as (.t (K.ofNat 131))⟩]
noncomputable def f8_r21 : List EOper := [⟨(some (K.ofNat 132)), none, .mv (.t (K.ofNat 16))⟩, ⟨(some (K.ofNat 133)), none, .bin .eql (.t (K.ofNat 132)) (.c (.i .i64 (.ofNat 8)))⟩, ⟨(some (K.ofNat 134)), none, .mv (.t (K.ofNat 133))⟩, ⟨(some (K.ofNat 135)), (some ((K.ofNat 134), true)), .mv (.t (K.ofNat 15))⟩, ⟨(some (K.ofNat 136)), (some ((K.ofNat 134), true)), .len (.t (K.ofNat 135))⟩, ⟨(some (K.ofNat 137)), (some ((K.ofNat 134), true)), .bin .eql (.t (K.ofNat 136)) (.c (.i .i64 (.ofNat 0)))⟩, ⟨(some (K.ofNat 138)), none, .pick (.t (K.ofNat 134)) (.t (K.ofNat 137)) (.c (.b false))⟩, ⟨(some (K.ofNat 139)), none, .mv (.t (K.ofNat 138))⟩, ⟨(some (K.ofNat 140)), (some ((K.ofNat 139), true)), .call (.c (.fn (K.ofNat 29) [])) []⟩, ⟨(some (K.ofNat 141)), none, .pick (.t (K.ofNat 139)) (.t (K.ofNat 140)) (.c (.b false))⟩, ⟨(some (K.ofNat 6)), none, .as (.t (K.ofNat 141))⟩]
noncomputable def f8_r22 : List EOper := [⟨(some (K.ofNat 142)), none, .mv (.t (K.ofNat 16))⟩, ⟨(some (K.ofNat 143)), none, .bin .eql (.t (K.ofNat 142)) (.c (.i .i64 (.ofNat 0)))⟩, ⟨(some (K.ofNat 144)), none, .mv (.t (K.ofNat 143))⟩, ⟨(some (K.ofNat 145)), (some ((K.ofNat 144), true)), .mv (.t (K.ofNat 15))⟩, ⟨(some (K.ofNat 146)), (some ((K.ofNat 144), true)), .mv (.t (K.ofNat 17))⟩, ⟨(some (K.ofNat 147)), (some ((K.ofNat 144), true)), .call (.c (.fn (K.ofNat 32) [])) [(.t (K.ofNat 145)), (.t (K.ofNat 146))]⟩, ⟨(some (K.ofNat 148)), none, .pick (.t (K.ofNat 144)) (.t (K.ofNat 147)) (.c (.b false))⟩, ⟨(some (K.ofNat 149)), none, .mv (.t (K.ofNat 148))⟩, ⟨(some (K.ofNat 150)), (some ((K.ofNat 149), true)), .call (.c (.fn (K.ofNat 29) [])) []⟩, ⟨(some (K.ofNat 151)), none, .pick (.t (K.ofNat 149)) (.t (K.ofNat 150)) (.c (.b false))⟩, ⟨(some (K.ofNat 6)), none, .as (.t (K.ofNat 151))⟩]
noncomputable def f8_c : EC := (.seq (.reg f8_r0) (.seq (.reg f8_r1) (.seq (.reg f8_r2) (.seq (.seq (.reg f8_r3) (.cond (.t (K.ofNat 39)) (.seq (.reg f8_r4) .ret) .skip)) (.seq (.seq (.reg f8_r5) (.block 0 (.loop f8_l0))) (.seq (.reg f8_r16) (.seq (.reg f8_r17) (.seq (.block 2 (.seq (.reg f8_r18) (.cond (.t (K.ofNat 105)) (.seq (.reg f8_r19) .ret) (.seq (.reg f8_r20) (.cond (.t (K.ofNat 128)) (.seq (.reg f8_r21) .ret) .skip))))) (.seq (.reg f8_r22) .ret)))))))))
noncomputable def f8 : EF := ⟨152, [.tmp (K.ofNat 6)], f8_c, none⟩
theorem f8_rs : f8.rs = [.tmp (K.ofNat 6)] := of_eq_true (eq_self _)
section
variable {fs : T EF} {ro : Option K}
structure Calls8 (fs : T EF) : Prop where
  p53 : ∀ a b h P, CallP fs (.fn (K.ofNat 53) []) [.i .i64 a, .i .i64 b] h P = P (.b (ptI a b)) h
  p54 : ∀ a b h P, CallP fs (.fn (K.ofNat 54) []) [.i .i64 a, .i .i64 b] h P = P (.b (ptI a b)) h
  p52 : ∀ m : Nat, m < 64 → ∀ h P, CallP fs (.fn (K.ofNat 52) []) [.i .i64 (m : Int)] h P = P (.i .i64 (pop6 m : Int)) h
  p75 : ∀ m : Nat, m < 64 → ∀ h P, CallP fs (.fn (K.ofNat 75) []) [.i .i64 (m : Int)] h P = P (.i .i64 (pop6 m : Int)) h
  aw : ∀ h P, CallP fs (.fn (K.ofNat 29) []) [] h P = P (.b true) h
  c32 : ∀ h v u L M P, Sl iE h v L → Sl iE h u M → L.length ≤ 1000000 → P (.b (decide (L = M))) h → CallP fs (.fn (K.ofNat 32) []) [v, u] h P
  pt : ∃ ef, fs.get (K.ofNat 54) = some ef ∧ ef.nv = some (flatG partG)
  c16 : fs.get (K.ofNat 16) = some f16
  c26 : fs.get (K.ofNat 26) = some f26
  c27 : fs.get (K.ofNat 27) = some f27
  c28 : fs.get (K.ofNat 28) = some f28
  c30 : fs.get (K.ofNat 30) = some f30
  c31 : fs.get (K.ofNat 31) = some f31
  c33 : fs.get (K.ofNat 33) = some f33
  c44 : fs.get (K.ofNat 44) = some f44
  c45 : fs.get (K.ofNat 45) = some f45
  c46 : fs.get (K.ofNat 46) = some f46
  c47 : fs.get (K.ofNat 47) = some f47
  c49 : fs.get (K.ofNat 49) = some f49
  c55 : fs.get (K.ofNat 55) = some f55
  c57 : fs.get (K.ofNat 57) = some f57
  c64 : fs.get (K.ofNat 64) = some f64
  c65 : fs.get (K.ofNat 65) = some f65
  c66 : fs.get (K.ofNat 66) = some f66
  c67 : fs.get (K.ofNat 67) = some f67
  c68 : fs.get (K.ofNat 68) = some f68
  c73 : fs.get (K.ofNat 73) = some f73
  c74 : fs.get (K.ofNat 74) = some f74
  c78 : fs.get (K.ofNat 78) = some f78
  c82 : fs.get (K.ofNat 82) = some f82
  c83 : fs.get (K.ofNat 83) = some f83
  c89 : fs.get (K.ofNat 89) = some f89
  c91 : fs.get (K.ofNat 91) = some alF
  c92 : fs.get (K.ofNat 92) = some coF
  c93 : fs.get (K.ofNat 93) = some f93
  c94 : fs.get (K.ofNat 94) = some f94
structure Facts8 (N : Int) (P : List Int) : Prop where
  chk : chkS N P = 0
  len : P.length ≤ 10
  sets : Sets P
  sz : ∀ k ∈ facN P (2 ^ N.toNat), pop6 k ≤ maxS P
  ne : 1 ≤ (cntS (mem64 (famB P))).length
  hol : hollS (cntS (mem64 (famB P))) (famB P) = rhTo (facN P (2 ^ N.toNat)) (maxS P)
  bad : ∀ f : Int, badF (famB P) f = (decide (f < 0) || (decide ((2 : Int) ^ N.toNat ≤ f) || !isF P f))
  lnk : ∀ f : Nat, f < 64 → famB P f = true → topsTo (linkB (famB P) f) 64 = piecesTo (lkR P f (2 ^ N.toNat)) 64
  du : topsTo (dualB (famB P) (2 ^ N.toNat - 1)) 64 = piecesTo (duR P (2 ^ N.toNat - 1) (2 ^ N.toNat - 1 + 1)) 64
  du0 : ∀ D, D = piecesTo (duR P (2 ^ N.toNat - 1) (2 ^ N.toNat - 1 + 1)) 64 → ∀ h : 0 < D.length, (D[0]? = some 0 ↔ D[D.length - 1]'(by omega) = 0)
  fne : 1 ≤ (facTo P (2 ^ N.toNat)).length
def f8_I (h : H) (N : Int) (u : V) (i : Nat) (fr : Fr) (h1 : H) : Prop := ∃ f : Int, i ≤ 2 ∧ Grow h.nx.nat h h1 ∧ fr.get (K.ofNat 2) = some (.i .i64 f) ∧ fr.get (K.ofNat 7) = some (.i .i64 N) ∧ fr.get (K.ofNat 8) = some (u) ∧ fr.get (K.ofNat 11) = some (.i .i64 (i : Int))
theorem f8_loop {Q : Ex → Fr → H → Prop} {h : H} {u : V} {P : List Int} {N : Int} {fr : Fr} (k : Calls8 fs) (m : Facts8 N P) (n1 : 1 ≤ N) (n6 : N ≤ 6) (hs : Sl iE h u P) (hc : HC h) (h0 : f8_I h N u 0 fr h)
    (hq : ∀ fr h1, Grow h.nx.nat h h1 → fr.get (K.ofNat 7) = some (.i .i64 N) ∧ fr.get (K.ofNat 8) = some (u) → Q (.exit 0) fr h1) : W fs ro (.loop f8_l0) Q fr h := by
  refine W_loop (f8_I h N u) (fun i => 2 - i) ?_ 0 h0
  clear h0 fr
  rintro i fr h1 ⟨f, hi, hgr, g2, g7, g8, g11⟩
  have hc1 := hgr.hc hc
  have hs1 := hs.grow hc hgr
  have ml := m.len
  unfold f8_l0
  by_cases hlt : i < 2
  · have hlt' : (i : Int) < 2 := by omega
    simp (disch := omega) only [f8_r6, f8_r7, w_skip, w_reg, w_seq, w_cond, w_block, seqK_n, ckB_b, cbB_b, true_and, x_nil, x_mv, x_bin, x_call, kx, rvP_ok, okv_some, ev_t, ev_c, evs_nil, evs_cons, getV_some, putD_some, bin_lss, of2, getK_set, Nat.reduceEqDiff, ↓reduceIte, g2, g7, g8, g11, hlt', decide_true]
    refine (callP_0 (ef := f27) k.c27 rfl (f27_ret (n := N) (f := f) k.p54 k.c16 k.c55 k.c78 k.c91 k.c83 k.c65 k.c66 hs1 hc1 (by omega) m.chk)).mono ?_
    rintro r h2 ⟨w, rfl, hsw, _, gr2⟩
    have hc2 := gr2.hc hc1
    have hs2 := hs1.grow hc1 gr2
    have gg := hgr.trans (gr2.low hgr.nx)
    -- the rest of the round
    have rest : ∀ fr h3, Grow h.nx.nat h h3 → fr.get (K.ofNat 2) = some (.i .i64 f) ∧ fr.get (K.ofNat 7) = some (.i .i64 N) ∧ fr.get (K.ofNat 8) = some (u) ∧ fr.get (K.ofNat 11) = some (.i .i64 (i : Int)) →
        W fs ro (.seq (.reg f8_r13) (.reg f8_r14)) (atK 1 (seqK (W fs ro (.reg f8_r15)) (loopK (f8_I h N u) (fun i => 2 - i) i Q))) fr h3 := by
      clear g2 g7 g8 g11 fr
      rintro fr h3 hgr3 ⟨g2, g7, g8, g11⟩
      have hc3 := hgr3.hc hc
      have hs3 := hs.grow hc hgr3
      simp (disch := omega) only [f8_r13, w_reg, w_seq, x_mv, x_call, ev_t, ev_c, evs_nil, evs_cons, getV_some, putD_some, getK_set, Nat.reduceEqDiff, ↓reduceIte, g7, g8]
      refine (callP_0 (ef := f33) k.c33 rfl (f33_ret (n := N) k.p53 k.c45 hs3 hc3 (by omega) n1 n6)).mono ?_
      rintro z h4 ⟨hsz, _, gr4⟩
      have fl := facTo_len (S := P) (i := 2 ^ N.toNat)
      have fn := m.fne
      obtain ⟨hpw, _⟩ := pow_n n1 n6
      have hu0 : 0 ≤ fw .u64 f := by rw [fw_eq]; exact Int.emod_nonneg _ (by decide)
      obtain ⟨mm, hm⟩ := Int.eq_ofNat_of_zero_le hu0
      have hlu : fw .u64 ((facTo P (2 ^ N.toNat)).length : Int) = ((facTo P (2 ^ N.toNat)).length : Int) := fwu64 (by omega) (by omega)
      have hlt2 : mm % (facTo P (2 ^ N.toNat)).length < (facTo P (2 ^ N.toNat)).length := Nat.mod_lt _ (by omega)
      have htm : ((mm : Nat) : Int).tmod ((facTo P (2 ^ N.toNat)).length : Int) = ((mm % (facTo P (2 ^ N.toNat)).length : Nat) : Int) := rfl
      have hfi : fw .i64 ((mm % (facTo P (2 ^ N.toNat)).length : Nat) : Int) = ((mm % (facTo P (2 ^ N.toNat)).length : Nat) : Int) := fw64 (by omega) (by omega)
      obtain ⟨p, hp1, hp2⟩ := hsz.at (mm % (facTo P (2 ^ N.toNat)).length) hlt2
      have hrem : binV .rem (.i .u64 (mm : Int)) (.i .u64 ((facTo P (2 ^ N.toNat)).length : Int)) = some (.i .u64 ((mm % (facTo P (2 ^ N.toNat)).length : Nat) : Int)) := by
        rw [bin_rem (by omega)]; rfl
      simp (disch := omega) only [f8_r14, f8_r15, w_reg, seqK_n, atK_n, loopK_n, x_nil, x_mv, x_as, x_ld, x_bin, x_conv, x_iads, x_len, kx, rvP_ok, okv_some, ev_t, ev_c, getV_some, putD_some, bin_add, onI_i, of1, getK_set, Nat.reduceEqDiff, ↓reduceIte, g2, g11, hsz.len, hm, hlu, hrem, hfi, hp1, hp2, iE, fw64]
      exact ⟨i + 1, by omega, (facTo P (2 ^ N.toNat))[mm % (facTo P (2 ^ N.toNat)).length], hlt, hgr3.trans (gr4.low hgr3.nx), by simp (disch := omega) only [getK_set, Nat.reduceEqDiff, ↓reduceIte, g7, g8, and_self, Int.natCast_add, Int.natCast_one]⟩
    have mb := m.bad f
    by_cases b1 : f < 0
    · rw [decide_eq_true b1, Bool.true_or] at mb
      rw [if_pos mb] at hsw
      have ne1 : decide ((1 : Int) ≠ 1) = false := rfl
      have ne0 : decide ((([] : List Int).length : Int) ≠ 0) = false := rfl
      simp (disch := omega) only [f8_r8, f8_r9, w_skip, w_reg, w_seq, w_cond, seqK_n, ckB_b, cbB_b, okG_b, asG_f, true_and, x_nil, x_g, x_mv, x_as, x_pick, x_bin, x_ext, x_len, kx, rvP_ok, okv_some, ev_t, ev_c, getV_some, putD_some, bin_neq, bin_lss, pick_b, onTup_t, nth0, nth1, of0, of1, getK_set, Nat.reduceEqDiff, ↓reduceIte, Bool.false_eq_true, Bool.not_true, Bool.not_false, g2, mb, b1, decide_true, hsw.len, ne1, ne0]
      exact rest _ _ gg (by simp (disch := omega) only [getK_set, Nat.reduceEqDiff, ↓reduceIte, g2, g7, g8, g11, and_self])
    · rw [decide_eq_false b1, Bool.false_or] at mb
      by_cases b2 : (2 : Int) ^ N.toNat ≤ f
      · rw [decide_eq_true b2, Bool.true_or] at mb
        rw [if_pos mb] at hsw
        have ne1 : decide ((1 : Int) ≠ 1) = false := rfl
        have ne0 : decide ((([] : List Int).length : Int) ≠ 0) = false := rfl
        simp (disch := omega) only [f8_r8, f8_r9, w_skip, w_reg, w_seq, w_cond, seqK_n, ckB_b, cbB_b, okG_b, asG_f, true_and, x_nil, x_g, x_mv, x_as, x_pick, x_bin, x_ext, x_len, kx, rvP_ok, okv_some, ev_t, ev_c, getV_some, putD_some, bin_neq, bin_lss, bin_geq, pick_b, onTup_t, nth0, nth1, of0, of1, getK_set, Nat.reduceEqDiff, ↓reduceIte, Bool.false_eq_true, Bool.not_true, Bool.not_false, g2, g7, mb, b1, b2, bin_shl, shl_n, decide_true, decide_false, hsw.len, ne1, ne0]
        exact rest _ _ gg (by simp (disch := omega) only [getK_set, Nat.reduceEqDiff, ↓reduceIte, g2, g7, g8, g11, and_self])
      · rw [decide_eq_false b2, Bool.false_or] at mb
        simp (disch := omega) only [f8_r8, w_reg, w_seq, seqK_n, okG_b, asG_f, true_and, x_nil, x_g, x_mv, x_as, x_pick, x_bin, x_ext, x_call, kx, rvP_ok, okv_some, ev_t, ev_c, evs_nil, evs_cons, getV_some, putD_some, bin_lss, bin_geq, pick_b, onTup_t, nth0, nth1, of0, of1, getK_set, Nat.reduceEqDiff, ↓reduceIte, Bool.false_eq_true, Bool.not_false, g2, g7, g8, mb, b1, b2, bin_shl, shl_n, decide_false]
        refine (callP_0 (ef := f45) k.c45 rfl (f45_ret (x := f) k.p53 hs2 (by omega))).mono ?_
        rintro y h3 ⟨rfl, rfl⟩
        cases b3 : isF P f
        · rw [b3, Bool.not_false] at mb
          rw [if_pos mb] at hsw
          have ne1 : decide ((1 : Int) ≠ 1) = false := rfl
          have ne0 : decide ((([] : List Int).length : Int) ≠ 0) = false := rfl
          simp (disch := omega) only [f8_r9, w_skip, w_reg, w_seq, w_cond, seqK_n, ckB_b, cbB_b, okG_b, asG_f, true_and, x_nil, x_g, x_mv, x_pick, x_bin, x_not, x_len, kx, rvP_ok, okv_some, ev_t, ev_c, getV_some, putD_some, bin_neq, pick_b, onB_b, of0, of1, getK_set, Nat.reduceEqDiff, ↓reduceIte, Bool.false_eq_true, Bool.not_false, hsw.len, ne1, ne0]
          exact rest _ _ gg (by simp (disch := omega) only [getK_set, Nat.reduceEqDiff, ↓reduceIte, g2, g7, g8, g11, and_self])
        · rw [b3, Bool.not_true] at mb
          rw [if_neg (by rw [mb]; simp)] at hsw
          obtain ⟨hpw, hpe⟩ := pow_n n1 n6
          obtain ⟨kk, rfl⟩ := Int.eq_ofNat_of_zero_le (show 0 ≤ f by omega)
          have hk64 : kk < 64 := by omega
          have hfB : famB P kk = true := b3
          rw [show ((kk : Nat) : Int).toNat = kk from rfl, m.lnk kk hk64 hfB] at hsw
          have ne0 : decide ((0 : Int) ≠ 0) = false := rfl
          simp (disch := omega) only [f8_r11, w_reg, w_seq, w_cond, seqK_n, ckB_b, cbB_b, okG_b, asG_f, true_and, x_nil, x_g, x_mv, x_pick, x_bin, x_not, x_call, kx, rvP_ok, okv_some, ev_t, ev_c, evs_nil, evs_cons, getV_some, putD_some, bin_neq, pick_b, onB_b, of0, getK_set, Nat.reduceEqDiff, ↓reduceIte, Bool.false_eq_true, Bool.not_true, Bool.not_false, g2, g7, g8, ne0]
          refine (callP_0 (ef := f46) k.c46 rfl (f46_ret (n := N) (f := kk) k.p53 k.c45 k.c49 hs2 hc2 (by omega) n1 n6 hk64)).mono ?_
          rintro z h4 ⟨hsz, _, gr4⟩
          have hsw4 := hsw.grow hc2 gr4
          simp (disch := omega) only [okG_b, asG_f, true_and, x_g, x_call, kx, ev_t, ev_c, evs_nil, evs_cons, getV_some, putD_some, getK_set, Nat.reduceEqDiff, ↓reduceIte, Bool.not_false]
          refine k.c32 _ _ _ _ _ _ hsw4 hsz (by have := piecesTo_len (S := lkR P kk (2 ^ N.toNat)) (i := 64); omega) ?_
          simp (disch := omega) only [w_skip, w_reg, w_seq, w_cond, seqK_n, ckB_b, cbB_b, okG_b, asG_f, true_and, x_nil, x_g, x_pick, x_not, kx, rvP_ok, ev_t, ev_c, getV_some, putD_some, pick_b, onB_b, getK_set, Nat.reduceEqDiff, ↓reduceIte, Bool.false_eq_true, Bool.not_true, Bool.not_false, decide_true]
          exact rest _ _ (gg.trans (gr4.low gg.nx)) (by simp (disch := omega) only [getK_set, Nat.reduceEqDiff, ↓reduceIte, g2, g7, g8, g11, and_self])
  · obtain rfl : i = 2 := by omega
    simp (disch := omega) only [f8_r6, w_skip, w_reg, w_seq, w_cond, w_block, w_exit, seqK_n, seqK_e, loopK_e, ckB_b, cbB_b, true_and, x_nil, x_mv, x_bin, kx, rvP_ok, okv_some, ev_t, ev_c, getV_some, putD_some, bin_lss, of2, getK_set, ↓reduceIte, decide_eq_true_eq, g11]
    exact hq _ _ hgr (by simp (disch := omega) only [getK_set, Nat.reduceEqDiff, ↓reduceIte, g7, g8, and_self])
theorem f8_ret {h : H} {v : V} {L : List Int} {n f : Int} (k : Calls8 fs) (m : ∀ n L, Facts8 (tameN n) ((tameP (tameN n) L).take 10)) (hv : Sl iE h v L) (hc : HC h) : Ret fs f8 [.i .i64 n, v, .i .i64 f] h fun u h' => u = .b true ∧ Grow h.nx.nat h h' := by
  apply ret_of rfl
  show W fs none f8_c _ _ _
  unfold f8_c
  obtain ⟨n1, n6⟩ := tameN_in n
  have m := m n L
  simp (disch := omega) only [f8_r0, f8_r1, w_reg, w_seq, seqK_n, x_nil, x_mv, x_as, x_call, ev_t, ev_c, evs_nil, evs_cons, getV_some, putD_some, frame_3, getK_set, Nat.reduceEqDiff, ↓reduceIte]
  refine (callP_0 (ef := f30) k.c30 rfl (f30_ret (n := n) k.p53 k.c49 hv hc)).mono ?_
  rintro r h1 ⟨u, rfl, hsu, _, gr1⟩
  generalize tameN n = N at *
  generalize (tameP N L).take 10 = P at *
  have ml := m.len
  have hc1 := gr1.hc hc
  obtain ⟨e54, hp54, hn54⟩ := k.pt
  simp (disch := omega) only [f8_r2, w_reg, w_seq, seqK_n, x_nil, x_mv, x_as, x_ext, x_call, kx, rvP_ok, okv_some, ev_t, ev_c, evs_nil, evs_cons, getV_some, putD_some, onTup_t, nth0, nth1, getK_set, Nat.reduceEqDiff, ↓reduceIte]
  refine (callP_0 (ef := f26) k.c26 rfl (f26_ret (n := N) k.p54 k.p75 k.c16 k.c55 k.c57 k.c78 k.c91 k.c82 k.c92 hp54 hn54 k.c93 k.c94 k.c89 k.c64 hsu hc1 (by omega) (fun _ => m.ne))).mono ?_
  rintro r h2 ⟨a, rfl, hsa, _, gr2⟩
  rw [if_pos m.chk, m.hol] at hsa
  have hc2 := gr2.hc hc1
  have hsu2 := hsu.grow hc1 gr2
  have ne0 : decide ((0 : Int) ≠ 0) = false := rfl
  simp (disch := omega) only [f8_r3, w_reg, w_seq, seqK_n, okG_b, asG_f, true_and, x_nil, x_g, x_mv, x_as, x_bin, x_ext, x_call, kx, rvP_ok, okv_some, ev_t, ev_c, evs_nil, evs_cons, getV_some, putD_some, bin_neq, onTup_t, nth0, nth1, of0, getK_set, Nat.reduceEqDiff, ↓reduceIte, Bool.not_false, m.chk, ne0]
  refine (callP_0 (ef := f44) k.c44 rfl (f44_ret (n := N) k.p53 k.p52 k.c45 k.c33 k.c31 k.c73 k.c74 hsu2 hc2 (by omega) m.sets n1 n6 m.sz)).mono ?_
  rintro b h3 ⟨hsb, _, gr3⟩
  have hc3 := gr3.hc hc2
  have hsa3 := hsa.grow hc2 gr3
  have hsu3 := hsu2.grow hc2 gr3
  have hms := maxS_le P
  have ga := gr1.nx; have gb := gr2.nx; have gc := gr3.nx
  simp (disch := omega) only [okG_b, asG_f, true_and, x_g, x_call, kx, ev_t, ev_c, evs_nil, evs_cons, getV_some, putD_some, getK_set, Nat.reduceEqDiff, ↓reduceIte, Bool.not_false]
  refine k.c32 _ _ _ _ _ _ hsa3 hsb (by simp [rhTo]; omega) ?_
  simp (disch := omega) only [f8_r5, w_skip, w_reg, w_seq, w_cond, w_block, seqK_n, ckB_b, cbB_b, okG_b, asG_f, true_and, x_nil, x_g, x_as, x_pick, x_not, kx, rvP_ok, ev_t, ev_c, getV_some, putD_some, pick_b, onB_b, of0, getK_set, Nat.reduceEqDiff, ↓reduceIte, Bool.false_eq_true, Bool.not_true, Bool.not_false, decide_true]
  refine f8_loop (h := h3) (u := u) (P := P) (N := N) k m n1 n6 hsu3 hc3 ⟨f, by omega, Grow.refl _ _, by simp (disch := omega) only [getK_set, Nat.reduceEqDiff, ↓reduceIte, and_self, Int.natCast_zero]⟩ ?_
  rintro fr h4 gr4 ⟨g7, g8⟩
  have hc4 := gr4.hc hc3
  have hsu4 := hsu3.grow hc3 gr4
  simp (disch := omega) only [f8_r16, w_reg, w_seq, seqK_n, atK_e, x_mv, x_call, ev_t, ev_c, evs_nil, evs_cons, getV_some, putD_some, getK_set, Nat.reduceEqDiff, ↓reduceIte, g7, g8]
  refine (callP_0 (ef := f28) k.c28 rfl (f28_ret (n := N) k.p54 k.c16 k.c55 k.c78 k.c91 k.c68 k.c67 k.c66 hsu4 hc4 (by omega) m.chk n1 n6)).mono ?_
  rintro r h5 ⟨c, rfl, hsc, gr5⟩
  have hc5 := gr5.hc hc4
  have hsu5 := hsu4.grow hc4 gr5
  simp (disch := omega) only [f8_r17, w_reg, w_seq, seqK_n, x_nil, x_mv, x_as, x_ext, x_call, kx, rvP_ok, okv_some, ev_t, ev_c, evs_nil, evs_cons, getV_some, putD_some, onTup_t, nth0, nth1, getK_set, Nat.reduceEqDiff, ↓reduceIte, g7, g8]
  refine (callP_0 (ef := f47) k.c47 rfl (f47_ret (n := N) k.p53 k.c45 k.c49 hsu5 hc5 (by omega) n1 n6)).mono ?_
  rintro d h6 ⟨hsd, _, gr6⟩
  have hsc6 := hsc.grow hc5 gr6
  have gd := gr4.nx; have ge := gr5.nx; have gf := gr6.nx
  have gall : Grow h.nx.nat h h6 := gr1.trans ((gr2.low (by omega)).trans ((gr3.low (by omega)).trans ((gr4.low (by omega)).trans ((gr5.low (by omega)).trans (gr6.low (by omega))))))
  rw [m.du] at hsc6
  rw [m.du]
  have hdl := piecesTo_len (S := duR P (2 ^ N.toNat - 1) (2 ^ N.toNat - 1 + 1)) (i := 64)
  have h00 := m.du0 _ rfl
  generalize piecesTo (duR P (2 ^ N.toNat - 1) (2 ^ N.toNat - 1 + 1)) 64 = D at *
  have eq4 : decide ((4 : Int) = 4) = true := rfl
  have eq8 : decide ((8 : Int) = 8) = true := rfl
  have eq0 : decide ((0 : Int) = 0) = true := rfl
  have len0 : (([] : List Int).length : Int) = 0 := rfl
  by_cases h0 : D.length = 0
  · have hd0 : (D.length : Int) = 0 := by omega
    have hm : madeOf D = ([], 4) := by unfold madeOf; rw [if_pos h0]
    rw [hm] at hsc6
    simp (disch := omega) only [f8_r18, f8_r19, f8_rs, w_reg, w_seq, w_cond, w_block, w_ret, seqK_n, seqK_r, atK_r, ckB_b, cbB_b, okG_b, asG_t, asG_f, true_and, retK_r, x_nil, x_g, x_mv, x_as, x_pick, x_bin, x_call, x_len, kx, rvP_ok, okv_some, ev_t, ev_c, evs_nil, getV_some, putD_some, bin_eql, pick_b, oGet_s, readRs_nil, readRs_t, retV_1, of0, of1, of4, Option.some.injEq, exists_eq_left', getK_set, Nat.reduceEqDiff, ↓reduceIte, Bool.false_eq_true, Bool.not_true, hm, hsd.len, hd0, decide_true, hsc6.len, len0, k.aw]
    exact gall
  · have hd0 : ¬ (D.length : Int) = 0 := by omega
    have hsub : fw .i64 ((D.length : Int) - 1) = ((D.length - 1 : Nat) : Int) := by rw [fw64 (by omega) (by omega)]; omega
    obtain ⟨p, hp1, hp2⟩ := hsd.at (D.length - 1) (by omega)
    have h00 := h00 (by omega)
    by_cases hz : D[D.length - 1]'(by omega) = 0
    · have hm : madeOf D = ([], 4) := by unfold madeOf; rw [if_neg h0, if_pos (h00.2 hz)]
      rw [hm] at hsc6
      simp (disch := omega) only [f8_r18, f8_r19, f8_rs, w_reg, w_seq, w_cond, w_block, w_ret, seqK_n, seqK_r, atK_r, ckB_b, cbB_b, okG_b, asG_t, asG_f, true_and, retK_r, x_nil, x_g, x_mv, x_as, x_pick, x_ld, x_bin, x_iads, x_call, x_len, kx, rvP_ok, okv_some, ev_t, ev_c, evs_nil, getV_some, putD_some, bin_sub, bin_eql, pick_b, oGet_s, readRs_nil, readRs_t, retV_1, of0, of1, of4, Option.some.injEq, exists_eq_left', getK_set, Nat.reduceEqDiff, ↓reduceIte, Bool.false_eq_true, Bool.not_false, hm, hsd.len, hd0, decide_false, decide_true, hsub, hp1, hp2, iE, hz, hsc6.len, len0, k.aw]
      exact gall
    · have hz0 : ¬ D[0]? = some 0 := fun e => hz (h00.1 e)
      by_cases h10 : 10 < D.length
      · have h10' : (10 : Int) < (D.length : Int) := by omega
        have hm : madeOf D = ([], 8) := by unfold madeOf; rw [if_neg h0, if_neg hz0, if_pos h10]
        rw [hm] at hsc6
        simp (disch := omega) only [f8_r18, f8_r20, f8_r21, f8_rs, w_reg, w_seq, w_cond, w_block, w_ret, seqK_n, seqK_r, atK_r, ckB_b, cbB_b, okG_b, asG_t, asG_f, true_and, retK_r, x_nil, x_g, x_mv, x_as, x_pick, x_ld, x_bin, x_iads, x_call, x_len, kx, rvP_ok, okv_some, ev_t, ev_c, evs_nil, getV_some, putD_some, bin_sub, bin_eql, bin_gtr, pick_b, oGet_s, readRs_nil, readRs_t, retV_1, of0, of1, of8, of10, Option.some.injEq, exists_eq_left', getK_set, Nat.reduceEqDiff, ↓reduceIte, Bool.false_eq_true, Bool.not_false, hm, hsd.len, hd0, decide_false, decide_true, hsub, hp1, hp2, iE, hz, h10', hsc6.len, len0, k.aw]
        exact gall
      · have h10' : ¬ (10 : Int) < (D.length : Int) := by omega
        have hm : madeOf D = (D, 0) := by unfold madeOf; rw [if_neg h0, if_neg hz0, if_neg h10]
        rw [hm] at hsc6
        simp (disch := omega) only [f8_r18, f8_r20, f8_r22, w_skip, w_reg, w_seq, w_cond, w_block, seqK_n, atK_n, ckB_b, cbB_b, okG_b, asG_t, asG_f, true_and, x_nil, x_g, x_mv, x_as, x_pick, x_ld, x_bin, x_iads, x_call, x_len, kx, rvP_ok, okv_some, ev_t, ev_c, evs_nil, evs_cons, getV_some, putD_some, bin_sub, bin_eql, bin_gtr, pick_b, of0, of1, of10, getK_set, Nat.reduceEqDiff, ↓reduceIte, Bool.false_eq_true, decide_eq_true_eq, Bool.not_false, hm, hsd.len, hd0, decide_false, hsub, hp1, hp2, iE, hz, h10']
        refine k.c32 _ _ _ _ _ _ hsc6 hsd (by show D.length ≤ _; omega) ?_
        simp (disch := omega) only [f8_rs, w_ret, seqK_n, okG_b, asG_t, true_and, retK_r, x_nil, x_g, x_mv, x_as, x_pick, x_call, kx, rvP_ok, ev_t, ev_c, evs_nil, getV_some, putD_some, pick_b, oGet_s, readRs_nil, readRs_t, retV_1, Option.some.injEq, exists_eq_left', getK_set, Nat.reduceEqDiff, ↓reduceIte, decide_true, k.aw]
        exact gall
end
end Go.Ev
namespace Go.Ev
open Go Go.RowKit
theorem tops_congr {B B' : Nat → Bool} (h : ∀ k, k < 64 → B k = B' k) : topsTo B 64 = topsTo B' 64 := by
  have hm : mem64 B = mem64 B' := by
    unfold mem64
    apply List.filter_congr
    intro k hk
    exact h k (by simpa using hk)
  have ht : isTop B = isTop B' := by funext x; unfold isTop; rw [hm]
  unfold topsTo
  rw [hm, ht]
theorem fam_iff {S : List Int} (hS : Sets S) {y : Nat} (hy : y < 64) : famB S y = true ↔ ∃ t : Nat, t < 64 ∧ (t : Int) ∈ S ∧ y &&& t = y := by
  unfold famB
  rw [List.any_eq_true]
  constructor
  · rintro ⟨s, hs, h⟩
    obtain ⟨t, ht, rfl⟩ := hS s hs
    rw [ptI_nat hy ht, decide_eq_true_eq] at h
    exact ⟨t, ht, hs, h⟩
  · rintro ⟨t, ht, hs, h⟩
    exact ⟨_, hs, by rw [ptI_nat hy ht, decide_eq_true_eq]; exact h⟩
theorem fam_down {S : List Int} (hS : Sets S) {x y : Nat} (hx : x < 64) (hy : y < 64) (h : x &&& y = x) (hf : famB S y = true) : famB S x = true := by
  obtain ⟨t, ht, hs, e⟩ := (fam_iff hS hy).1 hf
  exact (fam_iff hS hx).2 ⟨t, ht, hs, sub_trans h e⟩
theorem bit_sub {x y : Nat} (h : x &&& y = x) (i : Nat) : x.testBit i = true → y.testBit i = true := by
  intro hx
  have := congrArg (fun n => Nat.testBit n i) h
  simp only [Nat.testBit_and] at this
  rw [hx] at this
  simpa using this
theorem or_sub {x y f : Nat} (h : x &&& y = x) : (x ||| f) &&& (y ||| f) = x ||| f := by
  apply Nat.eq_of_testBit_eq
  intro i
  have := bit_sub h i
  simp only [Nat.testBit_and, Nat.testBit_or]
  cases h1 : x.testBit i <;> cases h2 : y.testBit i <;> cases f.testBit i <;> simp_all
theorem self_or {x f : Nat} : x &&& (x ||| f) = x := by
  apply Nat.eq_of_testBit_eq
  intro i
  simp only [Nat.testBit_and, Nat.testBit_or]
  cases x.testBit i <;> cases f.testBit i <;> rfl
theorem less_sub {a x y : Nat} (h : x &&& y = x) : lessC a y &&& lessC a x = lessC a y := by
  show (a ^^^ (a &&& y)) &&& (a ^^^ (a &&& x)) = a ^^^ (a &&& y)
  apply Nat.eq_of_testBit_eq
  intro i
  have := bit_sub h i
  simp only [Nat.testBit_and, Nat.testBit_xor]
  cases h1 : x.testBit i <;> cases h2 : y.testBit i <;> cases a.testBit i <;> simp_all
theorem sets_map {l : List Nat} (h : ∀ k ∈ l, k < 64) : Sets (l.map fun (k : Nat) => (k : Int)) := by
  intro s hs
  obtain ⟨k, hk, rfl⟩ := List.mem_map.1 hs
  exact ⟨k, h k hk, rfl⟩
theorem cast_mem {l : List Nat} {t : Nat} (h : (t : Int) ∈ l.map fun (k : Nat) => (k : Int)) : t ∈ l := by
  obtain ⟨k, hk, e⟩ := List.mem_map.1 h
  have : k = t := by omega
  rw [← this]; exact hk
theorem zero_piece {S : List Int} (h0 : (0 : Int) ∈ piecesTo S 64) : ∀ d ∈ piecesTo S 64, d = 0 := by
  intro d hd
  obtain ⟨k, hk0, hk, hks, hkm⟩ := mem_pieces h0
  obtain ⟨j, rfl, hj, hjs, hjm⟩ := mem_pieces hd
  rcases hkm _ hjs with e | e
  · omega
  · have : k = 0 := by omega
    subst this
    rw [ptI_nat hk hj] at e
    simp at e
theorem rcnt_at {d : Nat} : ∀ (l : List Nat), (∀ k ∈ l, pop6 k ≤ d) → ∀ j, j ≤ d → (rcnt d l).getD j 0 = ((rowsOf l j).length : Int) := by
  intro l
  refine snoc_ind (P := fun l => (∀ k ∈ l, pop6 k ≤ d) → ∀ j, j ≤ d → (rcnt d l).getD j 0 = ((rowsOf l j).length : Int)) (fun _ j hj => ?_) (fun l k ih h j hj => ?_) l
  · simp only [rcnt, List.foldl_nil, List.getD]
    rw [List.getElem?_replicate, if_pos (by omega)]; rfl
  · have ih := ih (fun y hy => h y (List.mem_append_left _ hy))
    have hk := h k (by simp)
    have hl := rcnt_len (d := d) l
    rw [rcnt_snoc, rowsOf_snoc]
    unfold bump
    by_cases e : pop6 k = j
    · subst e
      rw [if_pos rfl, List.length_append]
      have := ih (pop6 k) hk
      simp only [List.getD] at this ⊢
      rw [List.getElem?_set, if_pos rfl, if_pos (by omega)]
      simp only [Option.getD_some, List.length_singleton]
      omega
    · rw [if_neg e]
      have := ih j hj
      simp only [List.getD] at this ⊢
      rw [List.getElem?_set, if_neg e]; exact this
theorem facts8 (n : Int) (L : List Int) : Facts8 (tameN n) ((tameP (tameN n) L).take 10) := by
  obtain ⟨n1, n6⟩ := tameN_in n
  obtain ⟨f1, f2, f3, f4, f5⟩ := facts_P (N := tameN n) (L := L) n1 n6
  obtain ⟨c1, c2, hsets, hsz, _, hcnt, _, _, hne⟩ := facts4 n L
  generalize (tameP (tameN n) L).take 10 = P at *
  generalize tameN n = N at *
  have hfe := faces_eq n1 n6 f4
  obtain ⟨hpw, hpe⟩ := pow_n n1 n6
  have hpos : 0 < 2 ^ N.toNat := Nat.two_pow_pos _
  have hmem : ∀ k, k < 64 → famB P k = true → k < 2 ^ N.toNat := fun k hk h => by
    have h2 : k ∈ mem64 (famB P) := by unfold mem64; rw [List.mem_filter, List.mem_range]; exact ⟨hk, h⟩
    rw [hfe] at h2
    unfold facN at h2
    rw [List.mem_filter, List.mem_range] at h2
    exact h2.1
  generalize hM : 2 ^ N.toNat = M at *
  have hM1 : M - 1 + 1 = M := by omega
  refine ⟨c1, c2, hsets, by rw [hM]; exact hsz, hne, ?_, ?_, ?_, ?_, ?_, ?_⟩
  · rw [hM, hcnt]
    unfold hollS rhTo
    rw [rcnt_len, Nat.add_sub_cancel]
    apply List.map_congr_left
    intro t ht
    have ht : t < maxS P := by simpa using ht
    unfold hvS rhv brS
    rw [rcnt_at _ hsz (t + 1) (by omega), hfe]
  · intro f
    unfold badF
    by_cases b1 : f < 0
    · rw [decide_eq_true b1]; rfl
    · rw [decide_eq_false b1, Bool.false_or, Bool.false_or]
      by_cases b2 : 64 ≤ f
      · rw [decide_eq_true b2, decide_eq_true (by omega)]; rfl
      · obtain ⟨k, rfl⟩ := Int.eq_ofNat_of_zero_le (show 0 ≤ f by omega)
        rw [decide_eq_false b2, Bool.false_or]
        show (!famB P k) = (_ || !famB P k)
        cases hb : famB P k
        · simp
        · have := hmem k (by omega) hb
          rw [decide_eq_false (by omega)]; rfl
  · intro f hf hff
    rw [hM]
    have hs2 : Sets (lkR P f M) := sets_map fun k hk => by
      rw [List.mem_filter, List.mem_range] at hk; omega
    rw [← tops_pieces hs2]
    apply tops_congr
    intro x hx
    rw [Bool.eq_iff_iff, fam_iff hs2 hx]
    unfold linkB lk
    simp only [Bool.and_eq_true, decide_eq_true_eq]
    constructor
    · rintro ⟨h1, h2, h3⟩
      rw [hfe] at h1
      unfold facN at h1
      rw [List.mem_filter, List.mem_range] at h1
      refine ⟨x, hx, ?_, Nat.and_self x⟩
      unfold lkR
      rw [List.mem_map]
      refine ⟨x, ?_, rfl⟩
      rw [List.mem_filter, List.mem_range, decide_eq_true h2, Bool.true_and]
      exact ⟨h1.1, h3⟩
    · rintro ⟨t, ht, hts, hxt⟩
      have hts := cast_mem hts
      rw [List.mem_filter, List.mem_range, Bool.and_eq_true, decide_eq_true_eq] at hts
      obtain ⟨h1, h2, h3⟩ := hts
      have h3 : famB P (t ||| f) = true := h3
      have hxf : x ||| f < 64 := Nat.or_lt_two_pow (n := 6) hx hf
      have htf : t ||| f < 64 := Nat.or_lt_two_pow (n := 6) ht hf
      have h4 := fam_down hsets hxf htf (or_sub hxt) h3
      have h5 := fam_down hsets hx hxf self_or h4
      refine ⟨?_, ?_, h4⟩
      · unfold mem64; rw [List.mem_filter, List.mem_range]; exact ⟨hx, h5⟩
      · rw [← hxt, Nat.and_assoc, h2, Nat.and_zero]
  · rw [hM]
    have hs2 : Sets (duR P (M - 1) (M - 1 + 1)) := sets_map fun k hk => by
      rw [List.mem_filter, List.mem_range] at hk; omega
    rw [← tops_pieces hs2]
    apply tops_congr
    intro x hx
    rw [Bool.eq_iff_iff, fam_iff hs2 hx]
    unfold dualB dualTo
    simp only [Bool.and_eq_true, decide_eq_true_eq, Bool.not_eq_true']
    constructor
    · rintro ⟨h1, h2⟩
      refine ⟨x, hx, ?_, Nat.and_self x⟩
      unfold duR
      rw [List.mem_map]
      refine ⟨x, ?_, rfl⟩
      rw [List.mem_filter, List.mem_range]
      exact ⟨h1, by show (!famB P (lessC (M - 1) x)) = true; rw [h2]; rfl⟩
    · rintro ⟨t, ht, hts, hxt⟩
      have hts := cast_mem hts
      rw [List.mem_filter, List.mem_range] at hts
      obtain ⟨h1, h2⟩ := hts
      have h2 : (!famB P (lessC (M - 1) t)) = true := h2
      have hle := sub_le hxt
      have ha := @less_le (M - 1) x
      have hb := @less_le (M - 1) t
      refine ⟨by omega, ?_⟩
      cases hc : famB P (lessC (M - 1) x)
      · rfl
      · have := fam_down hsets (by omega) (by omega) (less_sub hxt) hc
        rw [this] at h2; cases h2
  · rw [hM]
    rintro D rfl h
    constructor
    · intro e
      obtain ⟨a, b⟩ := List.getElem?_eq_some_iff.1 e
      have h0 := List.getElem_mem a
      rw [b] at h0
      exact zero_piece h0 _ (List.getElem_mem _)
    · intro e
      have h0 := List.getElem_mem (l := piecesTo (duR P (M - 1) (M - 1 + 1)) 64) (n := (piecesTo (duR P (M - 1) (M - 1 + 1)) 64).length - 1) (by omega)
      rw [e] at h0
      rw [List.getElem?_eq_getElem h]
      exact congrArg some (zero_piece h0 _ (List.getElem_mem _))
  · rw [hM]
    obtain ⟨s, hs, _⟩ := maxS_ex f1
    have := face_piece n1 n6 f4 hs
    rw [hM] at this
    unfold facTo
    rw [List.length_map]
    exact List.length_pos_of_mem this
end Go.Ev
