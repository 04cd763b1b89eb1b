/-
  Orders: Others; the reference's Others, Same.
  Orders: what comes before what in a line (before).
  Orders: the reference's search of a class (Class).
  Orders (plain): the number of orders.
  Orders: the number of orders of a graph, counted (countOrders, Count).
  Orders: what two lines agree about; Common, Drawn.
  Orders: two lists of all nodes, made of any numbers (lines).
  Orders (plain): what two lines draw together with what they have in common.
  Orders: findClash, Clash.
  Orders: checkArrows of one pair, Class.
  Orders: the law OrdersGallai.
  Orders (plain): each pair of nodes just once.
  Orders (plain): insertion from the right, by any test.
-/
import Derived.Test.YtdmnejhjlmeodaaPg
namespace Go.Ev
open Go Go.RowKit
section
variable {fs : T EF} {h h' : H} {b : Nat}
theorem otR_g {n : Nat} {g : Nat → Nat → Bool} (hg : Gph n g) : (arI fun a b => rat (otR n (gR (arI g))) a b && decide (a ≤ b)) = arI (oth n g) := by
  have h7 := hg.n7
  refine arI_congr fun a b ha hb => ?_
  have hgr : rat (gR (arI g)) a b = true ↔ g a b = true ∨ g b a = true := by rw [gR_arI hg]; unfold sy; rw [Bool.or_eq_true]
  unfold oth otR
  rw [Bool.eq_iff_iff, Bool.and_eq_true, woR_iff, rat_rl, hgr]
  simp only [Bool.and_eq_true, decide_eq_true_eq, Bool.not_eq_true']
  constructor
  · rintro ⟨⟨⟨_, ⟨h1, h2⟩, h3⟩, h4⟩, h5⟩
    exact ⟨⟨by omega, h2⟩, by
      cases e : g a b with
      | false => rfl
      | true => exact absurd (.inl e) h4⟩
  · rintro ⟨⟨h1, h2⟩, h3⟩
    refine ⟨⟨⟨⟨ha, hb⟩, ⟨by omega, h2⟩, by omega⟩, ?_⟩, by omega⟩
    rintro (h | h)
    · rw [h3] at h; cases h
    · have := hg.up _ _ h; omega
theorem f12_ret {n : Nat} {v : V} {g : Nat → Nat → Bool} (k : CallsEd fs) (hg : Gph n g) (hv : Srp h v (arI g)) (hc : HC h) : Ret fs f12 [.i .i64 (n : Int), v] h fun r h' => ∃ u, r = .tup [u, .i .i64 0] ∧ Sk 2 qE h' u (arI (oth n g)) ∧ Own h.nx.nat u ∧ Grow h.nx.nat h h' := by
  have hlb := arI_len (g := g)
  apply ret_of rfl
  show W fs none f12_c _ _ _
  unfold f12_c
  simp (disch := omega) only [f12_r0, f12_r1, w_reg, w_seq, seqK_n, x_nil, x_mv, x_as, x_call, ev_t, ev_c, evs_nil, evs_cons, getV_some, putD_some, frame_2, of0, getK_set, Nat.reduceEqDiff, ↓reduceIte]
  refine (callP_0 (ef := f47) k.c47 rfl (f47_ret k.toCallsCk hv (by omega) hc)).mono ?_
  rintro r h1 ⟨rfl, gr1⟩
  rw [chkG_g hg]
  have ne0 : decide ((0 : Int) ≠ 0) = false := rfl
  have hc1 := gr1.hc hc
  simp (disch := omega) only [f12_r2, f12_r4, w_skip, w_reg, w_seq, w_cond, seqK_n, ckB_b, cbB_b, true_and, x_nil, x_mv, x_as, x_bin, x_call, kx, rvP_ok, okv_some, ev_t, ev_c, evs_nil, evs_cons, getV_some, putD_some, bin_neq, of0, getK_set, Nat.reduceEqDiff, ↓reduceIte, Bool.false_eq_true, ne0]
  refine (callP_0 (ef := f48) k.c48 rfl (f48_ret k.toNat2 (hv.grow hc gr1) nd_arI (by omega) hc1)).mono ?_
  rintro r h2 ⟨rfl, gr2⟩
  have hc2 := gr2.hc hc1
  have gA := gr1.trans (gr2.low gr1.nx)
  have hL : (gR (arI g)).length = 49 := gR_len
  have hO : (otR n (gR (arI g))).length = 49 := otR_len
  have k49 := k.n49 (gR (arI g)) n
  simp (disch := omega) only [x_mv, x_call, kx, ev_t, ev_c, evs_nil, evs_cons, getV_some, putD_some, getK_set, Nat.reduceEqDiff, ↓reduceIte, k49 _ _ hL hg.n7]
  refine (callP_0 (ef := f50) k.c50 rfl (f50_ret k hO hc2)).mono ?_
  rintro u h3 ⟨hs, ho, gr3⟩
  rw [otR_g hg] at hs
  simp (disch := omega) only [f12_rs, w_ret, seqK_n, retK_r, x_nil, x_as, kx, ev_t, ev_c, getV_some, putD_some, oGet_s, readRs_nil, readRs_t, retV_2, Option.some.injEq, exists_eq_left', getK_set, Nat.reduceEqDiff, ↓reduceIte]
  exact ⟨u, rfl, hs, ho.low gA.nx, gA.trans (gr3.low gA.nx)⟩
end
end Go.Ev
namespace Go.Ev
open Go Go.RowKit
noncomputable def f94_r0 : List EOper := [⟨some (.ofNat 4), none, .alloc 49 (List.replicate 49 (.b false))⟩, ⟨some (.ofNat 5), none, .as (.c (.b false))⟩]
noncomputable def f94_r1 : List EOper := [⟨some (.ofNat 6), none, .alloc 49 (List.replicate 49 (.b false))⟩]
noncomputable def f94_r2 : List EOper := [⟨some (.ofNat 7), none, .alloc 7 [(.b false), (.b false), (.b false), (.b false), (.b false), (.b false), (.b false)]⟩]
noncomputable def f94_r3 : List EOper := [⟨some (.ofNat 12), none, .mv (.t (.ofNat 1))⟩, ⟨some (.ofNat 13), none, .len (.t (.ofNat 12))⟩, ⟨some (.ofNat 14), none, .mv (.t (.ofNat 0))⟩, ⟨some (.ofNat 15), none, .bin .neq (.t (.ofNat 13)) (.t (.ofNat 14))⟩]
noncomputable def f94_r4 : List EOper := [⟨some (.ofNat 16), none, .build (List.replicate 49 (.b false)) []⟩, ⟨none, none, .st 49 (.t (.ofNat 4)) (.t (.ofNat 16))⟩, ⟨some (.ofNat 5), none, .as (.c (.b false))⟩]
noncomputable def f94_r5 : List EOper := [⟨some (.ofNat 17), none, .mv (.t (.ofNat 1))⟩, ⟨some (.ofNat 18), none, .len (.t (.ofNat 17))⟩, ⟨some (.ofNat 19), none, .mv (.c (.i .i64 (.ofNat 0)))⟩]
noncomputable def f94_r6 : List EOper := [⟨some (.ofNat 20), none, .bin .lss (.t (.ofNat 19)) (.t (.ofNat 18))⟩]
noncomputable def f94_r7 : List EOper := [⟨some (.ofNat 21), none, .mv (.t (.ofNat 19))⟩, ⟨some (.ofNat 22), none, .iads 1 (.t (.ofNat 17)) (.t (.ofNat 19))⟩, ⟨some (.ofNat 23), none, .ld (.t (.ofNat 22))⟩, ⟨some (.ofNat 8), none, .as (.t (.ofNat 21))⟩, ⟨some (.ofNat 9), none, .as (.t (.ofNat 23))⟩]
noncomputable def f94_r8 : List EOper := [⟨some (.ofNat 24), none, .mv (.t (.ofNat 0))⟩, ⟨some (.ofNat 25), none, .mv (.t (.ofNat 9))⟩, ⟨some (.ofNat 26), none, .call (.c (.fn (.ofNat 96) [])) [(.t (.ofNat 24)), (.t (.ofNat 25))]⟩, ⟨some (.ofNat 27), none, .not (.t (.ofNat 26))⟩, ⟨some (.ofNat 28), none, .mv (.t (.ofNat 27))⟩, ⟨some (.ofNat 29), (some ((.ofNat 28), false)), .mv (.t (.ofNat 9))⟩, ⟨some (.ofNat 30), (some ((.ofNat 28), false)), .iadr 7 1 (.t (.ofNat 7)) (.t (.ofNat 29))⟩, ⟨some (.ofNat 31), (some ((.ofNat 28), false)), .ld (.t (.ofNat 30))⟩, ⟨some (.ofNat 32), none, .pick (.t (.ofNat 28)) (.c (.b true)) (.t (.ofNat 31))⟩]
noncomputable def f94_r9 : List EOper := [⟨some (.ofNat 33), none, .build (List.replicate 49 (.b false)) []⟩, ⟨none, none, .st 49 (.t (.ofNat 4)) (.t (.ofNat 33))⟩, ⟨some (.ofNat 5), none, .as (.c (.b false))⟩]
noncomputable def f94_r10 : List EOper := [⟨some (.ofNat 34), none, .mv (.t (.ofNat 9))⟩, ⟨some (.ofNat 35), none, .iadr 7 1 (.t (.ofNat 7)) (.t (.ofNat 34))⟩, ⟨none, none, .st 1 (.t (.ofNat 35)) (.c (.b true))⟩]
noncomputable def f94_r11 : List EOper := [⟨some (.ofNat 36), none, .mv (.t (.ofNat 1))⟩, ⟨some (.ofNat 37), none, .mv (.t (.ofNat 8))⟩, ⟨some (.ofNat 38), none, .slice 1 (.t (.ofNat 36)) none (some (.t (.ofNat 37))) none⟩, ⟨some (.ofNat 39), none, .len (.t (.ofNat 38))⟩, ⟨some (.ofNat 40), none, .mv (.c (.i .i64 (.ofNat 0)))⟩]
noncomputable def f94_r12 : List EOper := [⟨some (.ofNat 41), none, .bin .lss (.t (.ofNat 40)) (.t (.ofNat 39))⟩]
noncomputable def f94_r13 : List EOper := [⟨some (.ofNat 42), none, .iads 1 (.t (.ofNat 38)) (.t (.ofNat 40))⟩, ⟨some (.ofNat 43), none, .ld (.t (.ofNat 42))⟩, ⟨some (.ofNat 11), none, .as (.t (.ofNat 43))⟩]
noncomputable def f94_r14 : List EOper := [⟨some (.ofNat 44), none, .mv (.t (.ofNat 11))⟩, ⟨some (.ofNat 45), none, .mv (.t (.ofNat 9))⟩, ⟨some (.ofNat 46), none, .iadr 7 7 (.t (.ofNat 6)) (.t (.ofNat 44))⟩, ⟨some (.ofNat 47), none, .iadr 7 1 (.t (.ofNat 46)) (.t (.ofNat 45))⟩, ⟨none, none, .st 1 (.t (.ofNat 47)) (.c (.b true))⟩]
noncomputable def f94_r15 : List EOper := [⟨some (.ofNat 48), none, .bin .add (.t (.ofNat 40)) (.c (.i .i64 (.ofNat 1)))⟩, ⟨some (.ofNat 40), none, .mv (.t (.ofNat 48))⟩]
noncomputable def f94_l0 : EC := (.seq (.reg f94_r12) (.seq (.cond (.t (.ofNat 41)) .skip (.exit 2)) (.seq (.block 3 (.seq (.reg f94_r13) (.reg f94_r14))) (.reg f94_r15))))
noncomputable def f94_r16 : List EOper := [⟨some (.ofNat 49), none, .bin .add (.t (.ofNat 19)) (.c (.i .i64 (.ofNat 1)))⟩, ⟨some (.ofNat 19), none, .mv (.t (.ofNat 49))⟩]
noncomputable def f94_l1 : EC := (.seq (.reg f94_r6) (.seq (.cond (.t (.ofNat 20)) .skip (.exit 0)) (.seq (.block 1 (.seq (.reg f94_r7) (.seq (.seq (.reg f94_r8) (.cond (.t (.ofNat 32)) (.seq (.reg f94_r9) .ret) .skip)) (.seq (.reg f94_r10) (.seq (.reg f94_r11) (.block 2 (.loop f94_l0))))))) (.reg f94_r16))))
noncomputable def f94_r17 : List EOper := [⟨some (.ofNat 50), none, .ldn 49 (.t (.ofNat 6))⟩, ⟨none, none, .st 49 (.t (.ofNat 4)) (.t (.ofNat 50))⟩, ⟨some (.ofNat 5), none, .as (.c (.b true))⟩]
noncomputable def f94_c : EC := (.seq (.reg f94_r0) (.seq (.reg f94_r1) (.seq (.reg f94_r2) (.seq (.seq (.reg f94_r3) (.cond (.t (.ofNat 15)) (.seq (.reg f94_r4) .ret) .skip)) (.seq (.seq (.reg f94_r5) (.block 0 (.loop f94_l1))) (.seq (.reg f94_r17) .ret))))))
noncomputable def f94 : EF := ⟨51, [.celln (.ofNat 4) 49, .tmp (.ofNat 5)], f94_c, none⟩
theorem f94_rs : f94.rs = [.celln (.ofNat 4) 49, .tmp (.ofNat 5)] := of_eq_true (eq_self _)
section
variable {fs : T EF} {h h' : H}
def bfT (X : List Int) (i : Nat) (a b : Nat) : Bool := (List.range i).any fun j => decide (X[j]? = some (b : Int)) && (List.range j).any fun t => decide (X[t]? = some (a : Int))
def bfS (X : List Int) (i t : Nat) (a b : Nat) : Bool := bfT X i a b || (decide (X[i]? = some (b : Int)) && (List.range t).any fun s => decide (X[s]? = some (a : Int)))
theorem bfS_0 {X : List Int} {i : Nat} : rl (bfS X i 0) = rl (bfT X i) := rl_congr fun a b _ _ => by unfold bfS; simp
theorem bfS_end {X : List Int} {i : Nat} : rl (bfS X i i) = rl (bfT X (i + 1)) := rl_congr fun a b _ _ => by
  unfold bfS bfT
  rw [List.range_succ, List.any_append]; simp
theorem bfS_succ {X : List Int} {i t x y : Nat} (ht : X[t]? = some (x : Int)) (hi : X[i]? = some (y : Int)) : rl (fun a b => if a = x ∧ b = y then true else bfS X i t a b) = rl (bfS X i (t + 1)) := rl_congr fun a b _ _ => by
  unfold bfS
  rw [List.range_succ, List.any_append]
  simp only [List.any_cons, List.any_nil, Bool.or_false, ht, hi, Option.some.injEq]
  by_cases e1 : a = x
  · by_cases e2 : b = y
    · subst e1; subst e2; simp
    · rw [if_neg (fun h => e2 h.2)]
      have : ¬ ((y : Int) = (b : Int)) := fun h => e2 (by omega)
      simp [this]
  · rw [if_neg (fun h => e1 h.1)]
    have : ¬ ((x : Int) = (a : Int)) := fun h => e1 (by omega)
    simp [this]
/-- The first i are nodes, each once. -/
structure OkT (n : Nat) (X : List Int) (i : Nat) : Prop where
  lt : ∀ j, j < i → ∃ a : Nat, a < n ∧ X[j]? = some (a : Int)
  nd : ∀ j t, t < j → j < i → X[j]? ≠ X[t]?
def seT (X : List Int) (i : Nat) : List Bool := (List.range 7).map fun a : Nat => (List.range i).any fun s => decide (X[s]? = some (a : Int))
theorem seT_len {X : List Int} {i : Nat} : (seT X i).length = 7 := by simp [seT]
theorem seT_at {X : List Int} {i a : Nat} (ha : a < (seT X i).length) : (seT X i)[a] = (List.range i).any fun s => decide (X[s]? = some (a : Int)) := by simp [seT]
theorem seT_succ {X : List Int} {i x : Nat} (hi : X[i]? = some (x : Int)) : (seT X i).set x true = seT X (i + 1) := by
  apply List.ext_getElem
  · rw [List.length_set, seT_len, seT_len]
  · intro a h1 h2
    rw [List.getElem_set, seT_at, seT_at, List.range_succ, List.any_append]
    simp only [List.any_cons, List.any_nil, Bool.or_false, hi, Option.some.injEq]
    by_cases e : x = a
    · subst e; simp
    · rw [if_neg e]
      have : ¬ ((x : Int) = (a : Int)) := fun h => e (by omega)
      simp [this]
def f94_I (h0 : H) (n : Nat) (w : V) (X : List Int) (id4 id6 id7 : K) (i : Nat) (fr : Fr) (h1 : H) : Prop := i ≤ X.length ∧ OkT n X i ∧ Grow h0.nx.nat h0 h1 ∧ HC h1 ∧ h1.get id4 = rC (rl fun _ _ => false) ∧ h1.get id6 = rC (rl (bfT X i)) ∧ Ar V.b h1 id7 (seT X i) ∧
  fr.get (K.ofNat 0) = some (.i .i64 (n : Int)) ∧ fr.get (K.ofNat 1) = some (w) ∧ fr.get (K.ofNat 4) = some (.p id4 0) ∧ fr.get (K.ofNat 6) = some (.p id6 0) ∧ fr.get (K.ofNat 7) = some (.p id7 0) ∧ fr.get (K.ofNat 17) = some (w) ∧ fr.get (K.ofNat 18) = some (.i .i64 (X.length : Int)) ∧ fr.get (K.ofNat 19) = some (.i .i64 (i : Int))
def f94_J (h0 : H) (n : Nat) (w u : V) (X : List Int) (id4 id6 id7 : K) (i b : Nat) (t : Nat) (fr : Fr) (h1 : H) : Prop := t ≤ i ∧ Grow h0.nx.nat h0 h1 ∧ HC h1 ∧ h1.get id4 = rC (rl fun _ _ => false) ∧ h1.get id6 = rC (rl (bfS X i t)) ∧ Ar V.b h1 id7 (seT X (i + 1)) ∧
  fr.get (K.ofNat 0) = some (.i .i64 (n : Int)) ∧ fr.get (K.ofNat 1) = some (w) ∧ fr.get (K.ofNat 4) = some (.p id4 0) ∧ fr.get (K.ofNat 6) = some (.p id6 0) ∧ fr.get (K.ofNat 7) = some (.p id7 0) ∧ fr.get (K.ofNat 9) = some (.i .i64 (b : Int)) ∧ fr.get (K.ofNat 17) = some (w) ∧ fr.get (K.ofNat 18) = some (.i .i64 (X.length : Int)) ∧ fr.get (K.ofNat 19) = some (.i .i64 (i : Int)) ∧ fr.get (K.ofNat 38) = some (u) ∧ fr.get (K.ofNat 39) = some (.i .i64 (i : Int)) ∧ fr.get (K.ofNat 40) = some (.i .i64 (t : Int))
theorem f94_ret {n : Nat} {w : V} {X : List Int} (k : Nat1 fs) (hn : n ≤ 7) (hw : Sr iE h w X) (_hX : X.length ≤ 9223372036854775807) (hc : HC h) : Ret fs f94 [.i .i64 (n : Int), w] h fun r h' => Grow h.nx.nat h h' ∧ ((X.length = n ∧ OkT n X X.length ∧ r = .tup [rV (rl (bfT X X.length)), .b true]) ∨ (¬ (X.length = n ∧ OkT n X X.length) ∧ r = .tup [rV (rl fun _ _ => false), .b false])) := by
  apply ret_of rfl
  show W fs none f94_c _ _ _
  unfold f94_c
  have n1 := nx_new h (.cells 49 (List.replicate 49 (.b false)))
  have g1_ : Grow h.nx.nat h (h.new (.cells 49 (List.replicate 49 (.b false)))) := Grow.new (Nat.le_refl _) _
  have e1 : (h.new (.cells 49 (List.replicate 49 (.b false)))).get h.nx = rC (rl fun _ _ => false) := by rw [rl_false]; exact get_new_same
  simp (disch := omega) only [f94_r0, w_reg, w_seq, seqK_n, x_nil, x_as, x_alloc, ev_c, putD_some, frame_2]
  generalize h.new (.cells 49 (List.replicate 49 (.b false))) = h1 at *
  have n2 := nx_new h1 (.cells 49 (List.replicate 49 (.b false)))
  have g2_ : Grow h1.nx.nat h1 (h1.new (.cells 49 (List.replicate 49 (.b false)))) := Grow.new (Nat.le_refl _) _
  have e2 : (h1.new (.cells 49 (List.replicate 49 (.b false)))).get h1.nx = rC (rl fun _ _ => false) := by rw [rl_false]; exact get_new_same
  simp (disch := omega) only [f94_r1, w_reg, w_seq, seqK_n, x_nil, x_alloc, putD_some]
  generalize h1.new (.cells 49 (List.replicate 49 (.b false))) = h2 at *
  have n3 := nx_new h2 (.cells 7 [.b false, .b false, .b false, .b false, .b false, .b false, .b false])
  have g3_ : Grow h2.nx.nat h2 (h2.new (.cells 7 [.b false, .b false, .b false, .b false, .b false, .b false, .b false])) := Grow.new (Nat.le_refl _) _
  have e3 : Ar V.b (h2.new (.cells 7 [.b false, .b false, .b false, .b false, .b false, .b false, .b false])) h2.nx (seT X 0) := get_new_same
  have hlen := hw.len
  have gA : Grow h.nx.nat h (h2.new (.cells 7 [.b false, .b false, .b false, .b false, .b false, .b false, .b false])) := g1_.trans ((g2_.low (by omega)).trans (g3_.low (by omega)))
  have a4 := (g3_.old h.nx (by omega)).trans ((g2_.old h.nx (by omega)).trans e1)
  have a6 := (g3_.old h1.nx (by omega)).trans e2
  simp (disch := omega) only [f94_r2, w_reg, w_seq, seqK_n, x_nil, x_alloc, putD_some]
  generalize h2.new (.cells 7 [.b false, .b false, .b false, .b false, .b false, .b false, .b false]) = h3 at *
  have hc3 := gA.hc hc
  have hF : (rl fun _ _ => false).length = 49 := rl_len
  -- the way out without an answer
  have zb : ∀ {hh : H}, hh.get h.nx = rC (rl fun _ _ => false) → storeV hh 49 (.p h.nx 0) (rV (rl fun _ _ => false)) = .ok undefV (hh.put h.nx (rC (rl fun _ _ => false))) := fun {hh} e => rC_stn hF hF e
  have gO : ∀ {hh : H} {B : Blk}, Grow h.nx.nat h hh → h.nx.nat < hh.nx.nat → Grow h.nx.nat h (hh.put h.nx B) := fun {hh B} g hl => g.trans (Grow.put (Nat.le_refl _) hl _)
  by_cases hXn : X.length = n
  · have d0 : decide ((X.length : Int) ≠ (n : Int)) = false := decide_eq_false (by omega)
    simp (disch := omega) only [f94_r3, f94_r5, w_skip, w_reg, w_seq, w_cond, w_block, seqK_n, ckB_b, cbB_b, true_and, x_nil, x_mv, x_bin, x_len, kx, rvP_ok, okv_some, ev_t, ev_c, getV_some, putD_some, bin_neq, of0, getK_set, Nat.reduceEqDiff, ↓reduceIte, Bool.false_eq_true, hlen, d0]
    have b0 : rl (bfT X 0) = rl fun _ _ => false := rl_congr fun a b _ _ => rfl
    refine W_loop (f94_I h n w X h.nx h1.nx h2.nx) (fun i => X.length - i) ?_ 0 ⟨by omega, ⟨fun j hj => by omega, fun j t _ hj => by omega⟩, gA, hc3, a4, by rw [b0]; exact a6, e3, by simp (disch := omega) only [getK_set, Nat.reduceEqDiff, ↓reduceIte, and_self, Int.natCast_zero]⟩
    clear a4 a6 e3 e2 e1 d0 b0 gA hc3 g3_ 
    rintro i fr h4 ⟨hi, hok, hG, hc4, c4, c6, c7, g0, g1, g4, g6, g7, g17, g18, g19⟩
    have hw4 := hw.grow hc hG
    have lt4 : h.nx.nat < h4.nx.nat := hc4.cells c4
    unfold f94_l1
    by_cases hlt : i < X.length
    · have d1 : decide ((i : Int) < (X.length : Int)) = true := decide_eq_true (by omega)
      obtain ⟨p, p1, p2⟩ := hw4.at i hlt
      obtain ⟨x, hx⟩ : ∃ x, X[i] = x := ⟨_, rfl⟩
      rw [hx] at p2
      have p2 : loadV h4 p one? = .ok (.i .i64 x) h4 := p2
      have hXi : X[i]? = some x := by rw [List.getElem?_eq_getElem hlt, hx]
      cases hnb : nodeB (n : Int) x with
      | false =>
        simp (disch := omega) only [f94_r6, f94_r7, f94_r8, f94_r9, f94_rs, w_skip, w_reg, w_seq, w_cond, w_block, w_ret, seqK_n, seqK_r, atK_r, loopK_r, ckB_b, cbB_b, okG_b, asG_f, true_and, retK_r, x_nil, x_g, x_mv, x_as, x_pick, x_build, x_ld, x_st, x_bin, x_not, x_iads, x_call, kx, rvP_ok, okv_some, ev_t, ev_c, evs_nil, evs_cons, getV_some, putD_some, putD_none, bin_lss, pick_b, onB_b, oGet_s, readRs_nil, readRs_t, readRs_n, retV_2, Option.some.injEq, exists_eq_left', getK_set, Nat.reduceEqDiff, ↓reduceIte, Bool.false_eq_true, Bool.not_true, Bool.not_false, fill_0, g0, g4, g17, g18, g19, d1, p1, p2, k.n96, hnb, zero49, zb c4, rC_read hF get_put_same]
        refine ⟨gO hG lt4, .inr ⟨fun h => ?_, trivial⟩⟩
        obtain ⟨a, ha, e⟩ := h.2.lt i hlt
        rw [hXi] at e
        have e := Option.some.inj e
        unfold nodeB at hnb
        have := of_decide_eq_false hnb
        omega
      | true =>
        have hxr : 0 ≤ x ∧ x < n := of_decide_eq_true hnb
        obtain ⟨b, rfl⟩ : ∃ b : Nat, x = (b : Int) := ⟨x.toNat, by omega⟩
        have hb7 : b < 7 := by omega
        have hbl : b < (seT X i).length := by rw [seT_len]; exact hb7
        have l7 := c7.ld hbl
        rw [seT_at] at l7
        cases hs : (List.range i).any fun s => decide (X[s]? = some (b : Int)) with
        | true =>
          rw [hs] at l7
          simp (disch := omega) only [f94_r6, f94_r7, f94_r8, f94_r9, f94_rs, w_skip, w_reg, w_seq, w_cond, w_block, w_ret, seqK_n, seqK_r, atK_r, loopK_r, ckB_b, cbB_b, okG_b, asG_f, true_and, retK_r, x_nil, x_g, x_mv, x_as, x_pick, x_build, x_ld, x_st, x_bin, x_not, x_iadr, x_iads, x_call, kx, rvP_ok, okv_some, ev_t, ev_c, evs_nil, evs_cons, getV_some, putD_some, putD_none, bin_lss, pick_b, onB_b, onP_p, oGet_s, idx_n, readRs_nil, readRs_t, readRs_n, retV_2, Option.some.injEq, exists_eq_left', getK_set, Nat.reduceEqDiff, ↓reduceIte, Bool.false_eq_true, Bool.not_true, Bool.not_false, fill_0, g0, g4, g7, g17, g18, g19, d1, p1, p2, k.n96, hnb, l7, zero49, zb c4, rC_read hF get_put_same]
          refine ⟨gO hG lt4, .inr ⟨fun h => ?_, trivial⟩⟩
          rw [List.any_eq_true] at hs
          obtain ⟨t, ht, ht2⟩ := hs
          exact h.2.nd i t (List.mem_range.1 ht) hlt (by rw [hXi, of_decide_eq_true ht2])
        | false =>
          rw [hs] at l7
          have hok' : OkT n X (i + 1) := by
            refine ⟨fun j hj => ?_, fun j t htj hj => ?_⟩
            · by_cases e : j = i
              · subst e; exact ⟨b, by omega, hXi⟩
              · exact hok.lt j (by omega)
            · by_cases e : j = i
              · subst e
                rw [List.any_eq_false] at hs
                intro h
                exact hs t (List.mem_range.2 htj) (decide_eq_true (by rw [← h, hXi]))
              · exact hok.nd j t htj (by omega)
          obtain ⟨s7, a7⟩ := c7.st hbl (x := true) (c := .b true) rfl rfl
          rw [seT_succ hXi] at a7 s7
          have lt7 : h2.nx.nat < h4.nx.nat := hc4.cells c7
          have g47 : Grow h.nx.nat h4 (h4.put h2.nx (.cells (seT X i).length ((seT X (i + 1)).map V.b))) := Grow.put (by omega) lt7 _
          have hne : ∀ {id : K}, id.nat < h2.nx.nat → (h4.put h2.nx (.cells (seT X i).length ((seT X (i + 1)).map V.b))).get id = h4.get id := fun h => get_put_other (fun e => by have := congrArg K.nat e; omega)
          have c4' := (hne (id := h.nx) (by omega)).trans c4
          have c6' := (hne (id := h1.nx) (by omega)).trans c6
          have hc5 := g47.hc hc4
          have hwn : NotIn h2.nx w := fun off n sz e => by have := hw.lt hc _ _ _ _ e; omega
          obtain ⟨u, hu, hus, _, hni⟩ := (hw4.put hwn (.cells (seT X i).length ((seT X (i + 1)).map V.b))).cut (lo := none) (hi := some (.i .i64 (i : Int))) (l := 0) (u := i) rfl rfl (by omega) (by omega)
          rw [List.drop_zero] at hus
          have ulen : ∀ h1, lenV u h1 = .ok (.i .i64 (i : Int)) h1 := fun h1 => by rw [hus.len, List.length_take, Nat.min_eq_left (by omega)]
          have ult : ∀ id off n sz, u = .sl id off n sz → id.nat < h.nx.nat := fun id off n sz e => Classical.byContradiction fun hge => hni id (fun off' n' sz' e' => hge (hw.lt hc _ _ _ _ e')) off n sz e
          have hG5 := hG.trans g47
          simp (disch := omega) only [f94_r6, f94_r7, f94_r8, f94_r10, f94_r11, w_skip, w_reg, w_seq, w_cond, w_block, seqK_n, ckB_b, cbB_b, okG_b, asG_f, true_and, x_nil, x_g, x_mv, x_as, x_pick, x_ld, x_st, x_bin, x_not, x_slice, sliceV_eq, Option.map_none, Option.map_some, x_iadr, x_iads, x_call, x_len, kx, rvP_ok, okv_some, ev_t, ev_c, evs_nil, evs_cons, getV_some, putD_some, putD_none, bin_lss, pick_b, onB_b, onP_p, idx_n, of0, getK_set, Nat.reduceEqDiff, ↓reduceIte, Bool.false_eq_true, Bool.not_true, Bool.not_false, g0, g1, g7, g17, g18, g19, d1, p1, p2, k.n96, hnb, l7, s7, hu, ulen]
          generalize h4.put h2.nx (.cells (seT X i).length ((seT X (i + 1)).map V.b)) = h5 at *
          refine W_loop (f94_J h n w u X h.nx h1.nx h2.nx i b) (fun t => i - t) ?_ 0 ⟨by omega, hG5, hc5, c4', by rw [bfS_0]; exact c6', a7, by simp (disch := omega) only [getK_set, Nat.reduceEqDiff, ↓reduceIte, g0, g1, g4, g6, g7, g17, g18, g19, and_self, Int.natCast_zero]⟩
          clear g0 g1 g4 g6 g7 g17 g18 g19 fr l7 s7 p1 p2
          rintro t fr h6 ⟨ht, hG6, hc6, d4, d6, d7, g0, g1, g4, g6, g7, g9, g17, g18, g19, g38, g39, g40⟩
          unfold f94_l0
          by_cases htl : t < i
          · have d2 : decide ((t : Int) < (i : Int)) = true := decide_eq_true (by omega)
            obtain ⟨a, ha, hXt⟩ := hok'.lt t (by omega)
            have hus6 : Sr iE h6 u (X.take i) := hus.same fun id off n sz e => (hG6.old id (ult _ _ _ _ e)).trans (hG5.old id (ult _ _ _ _ e)).symm
            obtain ⟨q, q1, q2⟩ := hus6.at t (by rw [List.length_take]; omega)
            have hta : (X.take i)[t]'(by rw [List.length_take]; omega) = (a : Int) := by
              rw [List.getElem_take]
              rw [List.getElem?_eq_getElem (by omega)] at hXt
              exact Option.some.inj hXt
            rw [hta] at q2
            have q2 : loadV h6 q one? = .ok (.i .i64 (a : Int)) h6 := q2
            have ha7 : a < 7 := by omega
            have s6 := rC_st (v := true) ha7 hb7 d6
            rw [bfS_succ hXt hXi] at s6
            have lt6 : h1.nx.nat < h6.nx.nat := hc6.cells d6
            have g66 : Grow h.nx.nat h6 (h6.put h1.nx (rC (rl (bfS X i (t + 1))))) := Grow.put (by omega) lt6 _
            simp (disch := omega) only [f94_r12, f94_r13, f94_r14, f94_r15, w_skip, w_reg, w_seq, w_cond, w_block, seqK_n, atK_n, loopK_n, ckB_b, cbB_b, true_and, x_nil, x_mv, x_as, x_ld, x_st, x_bin, x_iadr, x_iads, kx, rvP_ok, okv_some, ev_t, ev_c, getV_some, putD_some, putD_none, bin_add, bin_lss, onP_p, idx_n, of1, getK_set, Nat.reduceEqDiff, ↓reduceIte, g6, g9, g38, g39, g40, d2, q1, q2, s6, fw64]
            exact ⟨t + 1, by omega, by omega, hG6.trans g66, g66.hc hc6, (get_put_other (fun e => by have := congrArg K.nat e; omega)).trans d4, get_put_same, d7.same (get_put_other (fun e => by have := congrArg K.nat e; omega)), by simp (disch := omega) only [getK_set, Nat.reduceEqDiff, ↓reduceIte, g0, g1, g4, g6, g7, g9, g17, g18, g19, g38, g39, and_self, Int.natCast_add, Int.natCast_one]⟩
          · have d2 : decide ((t : Int) < (i : Int)) = false := decide_eq_false (by omega)
            have et : t = i := by omega
            subst et
            rw [bfS_end] at d6
            simp (disch := omega) only [f94_r12, f94_r16, w_reg, w_seq, w_cond, w_exit, seqK_n, seqK_e, atK_n, atK_e, loopK_n, loopK_e, ckB_b, cbB_b, true_and, x_nil, x_mv, x_bin, kx, rvP_ok, okv_some, ev_t, ev_c, getV_some, putD_some, bin_add, bin_lss, of1, getK_set, Nat.reduceEqDiff, ↓reduceIte, Bool.false_eq_true, g19, g39, g40, d2, fw64]
            exact ⟨t + 1, by omega, by omega, hok', hG6, hc6, d4, d6, d7, by simp (disch := omega) only [getK_set, Nat.reduceEqDiff, ↓reduceIte, g0, g1, g4, g6, g7, g17, g18, and_self, Int.natCast_add, Int.natCast_one]⟩
    · have d1 : decide ((i : Int) < (X.length : Int)) = false := decide_eq_false (by omega)
      have ei : i = X.length := by omega
      subst ei
      have hR : (rl (bfT X X.length)).length = 49 := rl_len
      have lR := rC_ldn hR c6
      have s4 := rC_stn hR hF c4
      simp (disch := omega) only [f94_r6, f94_r17, f94_rs, w_reg, w_seq, w_cond, w_exit, w_ret, seqK_n, seqK_e, atK_e, loopK_e, ckB_b, cbB_b, true_and, retK_r, x_nil, x_as, x_ldn, x_st, x_bin, kx, rvP_ok, okv_some, ev_t, ev_c, getV_some, putD_some, putD_none, bin_lss, oGet_s, readRs_nil, readRs_t, readRs_n, retV_2, Option.some.injEq, exists_eq_left', getK_set, Nat.reduceEqDiff, ↓reduceIte, Bool.false_eq_true, g4, g6, g18, g19, d1, lR, s4, rC_read hR get_put_same]
      exact ⟨gO hG lt4, .inl ⟨hXn, hok, trivial⟩⟩
  · have d0 : decide ((X.length : Int) ≠ (n : Int)) = true := decide_eq_true (by omega)
    simp (disch := omega) only [f94_r3, f94_r4, f94_rs, w_reg, w_seq, w_cond, w_ret, seqK_n, seqK_r, ckB_b, cbB_b, true_and, retK_r, x_nil, x_mv, x_as, x_build, x_st, x_bin, x_len, kx, rvP_ok, okv_some, ev_t, ev_c, getV_some, putD_some, putD_none, bin_neq, oGet_s, readRs_nil, readRs_t, readRs_n, retV_2, Option.some.injEq, exists_eq_left', getK_set, Nat.reduceEqDiff, ↓reduceIte, fill_0, hlen, d0, zero49, zb a4, rC_read hF get_put_same]
    exact ⟨gO gA (hc3.cells a4), .inr ⟨fun h => hXn h.1, trivial⟩⟩
end
end Go.Ev
namespace Go.Ev
open Go Go.RowKit
theorem get_lt {α : Type} {M : List α} {x : α} {j : Nat} (h : M[j]? = some x) : j < M.length := by
  by_cases e : j < M.length
  · exact e
  · rw [List.getElem?_eq_none (by omega)] at h; cases h
section
variable {fs : T EF} {h h' : H}
end
end Go.Ev
namespace Go.Ev
open Go Go.RowKit
theorem filter_two {α : Type} {p q r : α → Bool} : ∀ {l : List α}, (∀ x ∈ l, (p x = true ↔ q x = true ∨ r x = true) ∧ ¬ (q x = true ∧ r x = true)) → (l.filter p).length = (l.filter q).length + (l.filter r).length
  | [], _ => rfl
  | x :: l, h => by
    have ih := filter_two (p := p) (q := q) (r := r) (l := l) fun y hy => h y (List.mem_cons_of_mem _ hy)
    obtain ⟨h1, h2⟩ := h x (by simp)
    cases hq : q x <;> cases hr : r x <;> cases hp : p x <;> simp_all <;> omega


section
variable {G : List Bool} {C C' : Nat → Nat → Prop}
end
end Go.Ev
namespace Go.Ev
open Go Go.RowKit
noncomputable def f90_r0 : List EOper := [⟨some (.ofNat 4), none, .box 49 (.t (.ofNat 0))⟩, ⟨some (.ofNat 5), none, .box 49 (.t (.ofNat 1))⟩, ⟨some (.ofNat 6), none, .as (.c (.i .i64 (.ofNat 0)))⟩]
noncomputable def f90_r1 : List Stage := [⟨[⟨some (.ofNat 11), none, .ldn 49 (.t (.ofNat 2))⟩, ⟨some (.ofNat 12), none, .ldn 49 (.t (.ofNat 4))⟩, ⟨some (.ofNat 15), none, .ldn 49 (.t (.ofNat 4))⟩], [], (some ⟨some (.ofNat 13), none, .call (.c (.fn (.ofNat 70) [])) [(.t (.ofNat 12))]⟩), []⟩, ⟨[], [⟨some (.ofNat 11), none, .ldn 49 (.t (.ofNat 2))⟩, ⟨some (.ofNat 15), none, .ldn 49 (.t (.ofNat 4))⟩], (some ⟨some (.ofNat 14), none, .call (.c (.fn (.ofNat 81) [])) [(.t (.ofNat 11)), (.t (.ofNat 13))]⟩), []⟩, ⟨[], [⟨some (.ofNat 15), none, .ldn 49 (.t (.ofNat 4))⟩], (some ⟨some (.ofNat 16), none, .call (.c (.fn (.ofNat 92) [])) [(.t (.ofNat 15))]⟩), []⟩, ⟨[], [], (some ⟨some (.ofNat 17), none, .call (.c (.fn (.ofNat 91) [])) [(.t (.ofNat 14)), (.t (.ofNat 16))]⟩), []⟩, ⟨[⟨some (.ofNat 18), none, .not (.t (.ofNat 17))⟩], [], none, []⟩]
noncomputable def f90_r2 : List EOper := [⟨some (.ofNat 6), none, .as (.c (.i .i64 (.ofNat 0)))⟩]
noncomputable def f90_r3 : List EOper := [⟨some (.ofNat 20), none, .ldn 49 (.t (.ofNat 5))⟩, ⟨some (.ofNat 21), none, .call (.c (.fn (.ofNat 87) [])) [(.t (.ofNat 20))]⟩, ⟨some (.ofNat 19), none, .mv (.t (.ofNat 21))⟩, ⟨some (.ofNat 22), none, .ext (.t (.ofNat 19)) 0⟩, ⟨some (.ofNat 23), none, .ext (.t (.ofNat 19)) 1⟩, ⟨some (.ofNat 7), none, .alloc 2 [(.i .i64 (.ofNat 0)), (.i .i64 (.ofNat 0))]⟩, ⟨none, none, .st 2 (.t (.ofNat 7)) (.t (.ofNat 22))⟩, ⟨some (.ofNat 8), none, .as (.t (.ofNat 23))⟩]
noncomputable def f90_r4 : List EOper := [⟨some (.ofNat 24), none, .mv (.t (.ofNat 8))⟩, ⟨some (.ofNat 25), none, .not (.t (.ofNat 24))⟩]
noncomputable def f90_r5 : List EOper := [⟨some (.ofNat 6), none, .as (.c (.i .i64 (.ofNat 1)))⟩]
noncomputable def f90_r6 : List EOper := [⟨some (.ofNat 26), none, .ldn 49 (.t (.ofNat 2))⟩, ⟨some (.ofNat 27), none, .ldn 2 (.t (.ofNat 7))⟩, ⟨some (.ofNat 28), none, .call (.c (.fn (.ofNat 57) [])) [(.t (.ofNat 26)), (.t (.ofNat 27))]⟩, ⟨some (.ofNat 9), none, .alloc 49 (List.replicate 49 (.b false))⟩, ⟨none, none, .st 49 (.t (.ofNat 9)) (.t (.ofNat 28))⟩]
noncomputable def f90_r7 : List EOper := [⟨some (.ofNat 29), none, .ldn 49 (.t (.ofNat 9))⟩, ⟨some (.ofNat 30), none, .call (.c (.fn (.ofNat 70) [])) [(.t (.ofNat 29))]⟩, ⟨some (.ofNat 10), none, .alloc 49 (List.replicate 49 (.b false))⟩, ⟨none, none, .st 49 (.t (.ofNat 10)) (.t (.ofNat 30))⟩]
noncomputable def f90_r8 : List Stage := [⟨[⟨some (.ofNat 31), none, .ldn 49 (.t (.ofNat 5))⟩, ⟨some (.ofNat 32), none, .ldn 49 (.t (.ofNat 9))⟩, ⟨some (.ofNat 33), none, .ldn 49 (.t (.ofNat 10))⟩, ⟨some (.ofNat 34), none, .bslice 2 49 (List.replicate 98 (.b false)) [(0, 49, (.t (.ofNat 32))), (49, 49, (.t (.ofNat 33)))]⟩], [], (some ⟨some (.ofNat 35), none, .call (.c (.fn (.ofNat 69) [])) [(.t (.ofNat 34))]⟩), [(.ofNat 34)]⟩, ⟨[], [⟨some (.ofNat 31), none, .ldn 49 (.t (.ofNat 5))⟩], (some ⟨some (.ofNat 36), none, .call (.c (.fn (.ofNat 81) [])) [(.t (.ofNat 31)), (.t (.ofNat 35))]⟩), []⟩, ⟨[], [], (some ⟨none, none, .st 49 (.t (.ofNat 5)) (.t (.ofNat 36))⟩), []⟩, ⟨[], [], none, []⟩]
noncomputable def f90_r9 : List Stage := [⟨[⟨some (.ofNat 37), none, .ld (.t (.ofNat 3))⟩, ⟨some (.ofNat 38), none, .ldn 49 (.t (.ofNat 4))⟩, ⟨some (.ofNat 39), none, .ldn 49 (.t (.ofNat 9))⟩, ⟨some (.ofNat 40), none, .bslice 2 49 (List.replicate 98 (.b false)) [(0, 49, (.t (.ofNat 38))), (49, 49, (.t (.ofNat 39)))]⟩, ⟨some (.ofNat 42), none, .ldn 49 (.t (.ofNat 5))⟩, ⟨some (.ofNat 44), none, .ld (.t (.ofNat 3))⟩, ⟨some (.ofNat 45), none, .ldn 49 (.t (.ofNat 4))⟩, ⟨some (.ofNat 46), none, .ldn 49 (.t (.ofNat 10))⟩, ⟨some (.ofNat 47), none, .bslice 2 49 (List.replicate 98 (.b false)) [(0, 49, (.t (.ofNat 45))), (49, 49, (.t (.ofNat 46)))]⟩, ⟨some (.ofNat 49), none, .ldn 49 (.t (.ofNat 5))⟩], [], (some ⟨some (.ofNat 41), none, .call (.c (.fn (.ofNat 69) [])) [(.t (.ofNat 40))]⟩), [(.ofNat 40), (.ofNat 47)]⟩, ⟨[], [⟨some (.ofNat 37), none, .ld (.t (.ofNat 3))⟩, ⟨some (.ofNat 42), none, .ldn 49 (.t (.ofNat 5))⟩, ⟨some (.ofNat 44), none, .ld (.t (.ofNat 3))⟩, ⟨some (.ofNat 45), none, .ldn 49 (.t (.ofNat 4))⟩, ⟨some (.ofNat 46), none, .ldn 49 (.t (.ofNat 10))⟩, ⟨some (.ofNat 47), none, .bslice 2 49 (List.replicate 98 (.b false)) [(0, 49, (.t (.ofNat 45))), (49, 49, (.t (.ofNat 46)))]⟩, ⟨some (.ofNat 49), none, .ldn 49 (.t (.ofNat 5))⟩], (some ⟨some (.ofNat 43), none, .call (.t (.ofNat 37)) [(.t (.ofNat 41)), (.t (.ofNat 42))]⟩), []⟩, ⟨[], [⟨some (.ofNat 44), none, .ld (.t (.ofNat 3))⟩, ⟨some (.ofNat 45), none, .ldn 49 (.t (.ofNat 4))⟩, ⟨some (.ofNat 46), none, .ldn 49 (.t (.ofNat 10))⟩, ⟨some (.ofNat 47), none, .bslice 2 49 (List.replicate 98 (.b false)) [(0, 49, (.t (.ofNat 45))), (49, 49, (.t (.ofNat 46)))]⟩, ⟨some (.ofNat 49), none, .ldn 49 (.t (.ofNat 5))⟩], (some ⟨some (.ofNat 48), none, .call (.c (.fn (.ofNat 69) [])) [(.t (.ofNat 47))]⟩), []⟩, ⟨[], [⟨some (.ofNat 44), none, .ld (.t (.ofNat 3))⟩, ⟨some (.ofNat 49), none, .ldn 49 (.t (.ofNat 5))⟩], (some ⟨some (.ofNat 50), none, .call (.t (.ofNat 44)) [(.t (.ofNat 48)), (.t (.ofNat 49))]⟩), []⟩, ⟨[⟨some (.ofNat 51), none, .bin .add (.t (.ofNat 43)) (.t (.ofNat 50))⟩], [], (some ⟨some (.ofNat 6), none, .as (.t (.ofNat 51))⟩), []⟩, ⟨[], [], none, []⟩]
noncomputable def f90_c : EC := (.seq (.reg f90_r0) (.seq (.seq (.draw f90_r1) (.cond (.t (.ofNat 18)) (.seq (.reg f90_r2) .ret) .skip)) (.seq (.reg f90_r3) (.seq (.seq (.reg f90_r4) (.cond (.t (.ofNat 25)) (.seq (.reg f90_r5) .ret) .skip)) (.seq (.reg f90_r6) (.seq (.reg f90_r7) (.seq (.draw f90_r8) (.seq (.draw f90_r9) .ret))))))))
noncomputable def f90 : EF := ⟨52, [.tmp (.ofNat 6)], f90_c, none⟩
noncomputable def f64_r0 : List EOper := [⟨some (.ofNat 1), none, .box 49 (.t (.ofNat 0))⟩, ⟨some (.ofNat 2), none, .as (.c (.i .i64 (.ofNat 0)))⟩]
noncomputable def f64_r1 : List EOper := [⟨some (.ofNat 3), none, .alloc 1 [.fnil]⟩]
noncomputable def f64_r2 : List EOper := [⟨some (.ofNat 4), none, .mkfn (.ofNat 90) [(.t (.ofNat 1)), (.t (.ofNat 3))]⟩, ⟨none, none, .st 1 (.t (.ofNat 3)) (.t (.ofNat 4))⟩]
noncomputable def f64_r3 : List EOper := [⟨some (.ofNat 5), none, .ld (.t (.ofNat 3))⟩, ⟨some (.ofNat 6), none, .build (List.replicate 49 (.b false)) []⟩, ⟨some (.ofNat 7), none, .ldn 49 (.t (.ofNat 1))⟩, ⟨some (.ofNat 8), none, .call (.t (.ofNat 5)) [(.t (.ofNat 6)), (.t (.ofNat 7))]⟩, ⟨some (.ofNat 2), none, .as (.t (.ofNat 8))⟩]
noncomputable def f64_c : EC := (.seq (.reg f64_r0) (.seq (.reg f64_r1) (.seq (.reg f64_r2) (.seq (.reg f64_r3) .ret))))
noncomputable def f64 : EF := ⟨9, [.tmp (.ofNat 2)], f64_c, none⟩
section
variable {fs : T EF} {h h' : H} {fr : Fr}
structure CallsNo (fs : T EF) : Prop extends CallsOr fs where
  c64 : fs.get (K.ofNat 64) = some f64
  c90 : fs.get (K.ofNat 90) = some f90
end
end Go.Ev
namespace Go.Ev
open Go Go.RowKit
noncomputable def f68_r0 : List EOper := [⟨some (.ofNat 3), none, .box 2 (.t (.ofNat 1))⟩, ⟨some (.ofNat 4), none, .alloc 49 (List.replicate 49 (.b false))⟩, ⟨some (.ofNat 5), none, .as (.c (.b false))⟩]
noncomputable def f68_r1 : List EOper := [⟨some (.ofNat 10), none, .mv (.t (.ofNat 0))⟩, ⟨some (.ofNat 11), none, .bin .lss (.t (.ofNat 10)) (.c (.i .i64 (.ofNat 1)))⟩, ⟨some (.ofNat 12), none, .mv (.t (.ofNat 11))⟩, ⟨some (.ofNat 13), (some ((.ofNat 12), false)), .mv (.t (.ofNat 0))⟩, ⟨some (.ofNat 14), (some ((.ofNat 12), false)), .bin .gtr (.t (.ofNat 13)) (.c (.i .i64 (.ofNat 7)))⟩, ⟨some (.ofNat 15), none, .pick (.t (.ofNat 12)) (.c (.b true)) (.t (.ofNat 14))⟩]
noncomputable def f68_r2 : List EOper := [⟨some (.ofNat 16), none, .build (List.replicate 49 (.b false)) []⟩, ⟨none, none, .st 49 (.t (.ofNat 4)) (.t (.ofNat 16))⟩, ⟨some (.ofNat 5), none, .as (.c (.b false))⟩]
noncomputable def f68_r3 : List EOper := [⟨some (.ofNat 18), none, .mv (.t (.ofNat 0))⟩, ⟨some (.ofNat 19), none, .iadr 2 1 (.t (.ofNat 3)) (.c (.i .i64 (.ofNat 0)))⟩, ⟨some (.ofNat 20), none, .ld (.t (.ofNat 19))⟩, ⟨some (.ofNat 21), none, .call (.c (.fn (.ofNat 94) [])) [(.t (.ofNat 18)), (.t (.ofNat 20))]⟩, ⟨some (.ofNat 17), none, .mv (.t (.ofNat 21))⟩, ⟨some (.ofNat 22), none, .ext (.t (.ofNat 17)) 0⟩, ⟨some (.ofNat 23), none, .ext (.t (.ofNat 17)) 1⟩, ⟨some (.ofNat 6), none, .alloc 49 (List.replicate 49 (.b false))⟩, ⟨none, none, .st 49 (.t (.ofNat 6)) (.t (.ofNat 22))⟩, ⟨some (.ofNat 7), none, .as (.t (.ofNat 23))⟩]
noncomputable def f68_r4 : List EOper := [⟨some (.ofNat 25), none, .mv (.t (.ofNat 0))⟩, ⟨some (.ofNat 26), none, .iadr 2 1 (.t (.ofNat 3)) (.c (.i .i64 (.ofNat 1)))⟩, ⟨some (.ofNat 27), none, .ld (.t (.ofNat 26))⟩, ⟨some (.ofNat 28), none, .call (.c (.fn (.ofNat 94) [])) [(.t (.ofNat 25)), (.t (.ofNat 27))]⟩, ⟨some (.ofNat 24), none, .mv (.t (.ofNat 28))⟩, ⟨some (.ofNat 29), none, .ext (.t (.ofNat 24)) 0⟩, ⟨some (.ofNat 30), none, .ext (.t (.ofNat 24)) 1⟩, ⟨some (.ofNat 8), none, .alloc 49 (List.replicate 49 (.b false))⟩, ⟨none, none, .st 49 (.t (.ofNat 8)) (.t (.ofNat 29))⟩, ⟨some (.ofNat 9), none, .as (.t (.ofNat 30))⟩]
noncomputable def f68_r5 : List EOper := [⟨some (.ofNat 31), none, .mv (.t (.ofNat 7))⟩, ⟨some (.ofNat 32), none, .not (.t (.ofNat 31))⟩, ⟨some (.ofNat 33), none, .mv (.t (.ofNat 32))⟩, ⟨some (.ofNat 34), (some ((.ofNat 33), false)), .mv (.t (.ofNat 9))⟩, ⟨some (.ofNat 35), (some ((.ofNat 33), false)), .not (.t (.ofNat 34))⟩, ⟨some (.ofNat 36), none, .pick (.t (.ofNat 33)) (.c (.b true)) (.t (.ofNat 35))⟩]
noncomputable def f68_r6 : List EOper := [⟨some (.ofNat 37), none, .build (List.replicate 49 (.b false)) []⟩, ⟨none, none, .st 49 (.t (.ofNat 4)) (.t (.ofNat 37))⟩, ⟨some (.ofNat 5), none, .as (.c (.b false))⟩]
noncomputable def f68_r7 : List Stage := [⟨[⟨some (.ofNat 38), none, .ldn 49 (.t (.ofNat 6))⟩, ⟨some (.ofNat 39), none, .ldn 49 (.t (.ofNat 8))⟩], [], (some ⟨some (.ofNat 40), none, .call (.c (.fn (.ofNat 70) [])) [(.t (.ofNat 39))]⟩), []⟩, ⟨[], [⟨some (.ofNat 38), none, .ldn 49 (.t (.ofNat 6))⟩], (some ⟨some (.ofNat 41), none, .call (.c (.fn (.ofNat 81) [])) [(.t (.ofNat 38)), (.t (.ofNat 40))]⟩), []⟩, ⟨[], [], (some ⟨none, none, .st 49 (.t (.ofNat 4)) (.t (.ofNat 41))⟩), []⟩, ⟨[], [], (some ⟨some (.ofNat 5), none, .as (.c (.b true))⟩), []⟩, ⟨[], [], none, []⟩]
noncomputable def f68_c : EC := (.seq (.reg f68_r0) (.seq (.seq (.reg f68_r1) (.cond (.t (.ofNat 15)) (.seq (.reg f68_r2) .ret) .skip)) (.seq (.reg f68_r3) (.seq (.reg f68_r4) (.seq (.seq (.reg f68_r5) (.cond (.t (.ofNat 36)) (.seq (.reg f68_r6) .ret) .skip)) (.seq (.draw f68_r7) .ret))))))
noncomputable def f68 : EF := ⟨42, [.celln (.ofNat 4) 49, .tmp (.ofNat 5)], f68_c, none⟩
theorem f68_rs : f68.rs = [.celln (.ofNat 4) 49, .tmp (.ofNat 5)] := of_eq_true (eq_self _)
noncomputable def f37_r0 : List EOper := [⟨some (.ofNat 3), none, .box 2 (.t (.ofNat 1))⟩, ⟨some (.ofNat 4), none, .as (.c .sn)⟩, ⟨some (.ofNat 5), none, .as (.c (.i .i64 (.ofNat 0)))⟩]
noncomputable def f37_r1 : List EOper := [⟨some (.ofNat 9), none, .mv (.t (.ofNat 0))⟩, ⟨some (.ofNat 10), none, .ldn 2 (.t (.ofNat 3))⟩, ⟨some (.ofNat 11), none, .call (.c (.fn (.ofNat 68) [])) [(.t (.ofNat 9)), (.t (.ofNat 10))]⟩, ⟨some (.ofNat 8), none, .mv (.t (.ofNat 11))⟩, ⟨some (.ofNat 12), none, .ext (.t (.ofNat 8)) 0⟩, ⟨some (.ofNat 13), none, .ext (.t (.ofNat 8)) 1⟩, ⟨some (.ofNat 6), none, .alloc 49 (List.replicate 49 (.b false))⟩, ⟨none, none, .st 49 (.t (.ofNat 6)) (.t (.ofNat 12))⟩, ⟨some (.ofNat 7), none, .as (.t (.ofNat 13))⟩]
noncomputable def f37_r2 : List EOper := [⟨some (.ofNat 14), none, .mv (.t (.ofNat 7))⟩, ⟨some (.ofNat 15), none, .not (.t (.ofNat 14))⟩]
noncomputable def f37_r3 : List EOper := [⟨some (.ofNat 4), none, .as (.c .sn)⟩, ⟨some (.ofNat 5), none, .as (.c (.i .i64 (.ofNat 1)))⟩]
noncomputable def f37_r4 : List EOper := [⟨some (.ofNat 16), none, .ldn 49 (.t (.ofNat 6))⟩, ⟨some (.ofNat 17), none, .call (.c (.fn (.ofNat 58) [])) [(.t (.ofNat 16))]⟩, ⟨some (.ofNat 4), none, .as (.t (.ofNat 17))⟩, ⟨some (.ofNat 5), none, .as (.c (.i .i64 (.ofNat 0)))⟩]
noncomputable def f37_c : EC := (.seq (.reg f37_r0) (.seq (.reg f37_r1) (.seq (.seq (.reg f37_r2) (.cond (.t (.ofNat 15)) (.seq (.reg f37_r3) .ret) .skip)) (.seq (.reg f37_r4) .ret))))
noncomputable def f37 : EF := ⟨18, [.tmp (.ofNat 4), .tmp (.ofNat 5)], f37_c, none⟩
theorem f37_rs : f37.rs = [.tmp (.ofNat 4), .tmp (.ofNat 5)] := of_eq_true (eq_self _)
noncomputable def f36_r0 : List EOper := [⟨some (.ofNat 3), none, .box 2 (.t (.ofNat 1))⟩, ⟨some (.ofNat 4), none, .as (.c .sn)⟩, ⟨some (.ofNat 5), none, .as (.c (.i .i64 (.ofNat 0)))⟩]
noncomputable def f36_r1 : List EOper := [⟨some (.ofNat 9), none, .mv (.t (.ofNat 0))⟩, ⟨some (.ofNat 10), none, .ldn 2 (.t (.ofNat 3))⟩, ⟨some (.ofNat 11), none, .call (.c (.fn (.ofNat 68) [])) [(.t (.ofNat 9)), (.t (.ofNat 10))]⟩, ⟨some (.ofNat 8), none, .mv (.t (.ofNat 11))⟩, ⟨some (.ofNat 12), none, .ext (.t (.ofNat 8)) 0⟩, ⟨some (.ofNat 13), none, .ext (.t (.ofNat 8)) 1⟩, ⟨some (.ofNat 6), none, .alloc 49 (List.replicate 49 (.b false))⟩, ⟨none, none, .st 49 (.t (.ofNat 6)) (.t (.ofNat 12))⟩, ⟨some (.ofNat 7), none, .as (.t (.ofNat 13))⟩]
noncomputable def f36_r2 : List EOper := [⟨some (.ofNat 14), none, .mv (.t (.ofNat 7))⟩, ⟨some (.ofNat 15), none, .not (.t (.ofNat 14))⟩]
noncomputable def f36_r3 : List EOper := [⟨some (.ofNat 4), none, .as (.c .sn)⟩, ⟨some (.ofNat 5), none, .as (.c (.i .i64 (.ofNat 1)))⟩]
noncomputable def f36_r4 : List Stage := [⟨[⟨some (.ofNat 16), none, .ldn 49 (.t (.ofNat 6))⟩, ⟨some (.ofNat 17), none, .ldn 49 (.t (.ofNat 6))⟩, ⟨some (.ofNat 21), none, .mv (.t (.ofNat 0))⟩], [], (some ⟨some (.ofNat 18), none, .call (.c (.fn (.ofNat 70) [])) [(.t (.ofNat 17))]⟩), []⟩, ⟨[⟨some (.ofNat 19), none, .bslice 2 49 (List.replicate 98 (.b false)) [(0, 49, (.t (.ofNat 16))), (49, 49, (.t (.ofNat 18)))]⟩], [⟨some (.ofNat 16), none, .ldn 49 (.t (.ofNat 6))⟩, ⟨some (.ofNat 21), none, .mv (.t (.ofNat 0))⟩], (some ⟨some (.ofNat 20), none, .call (.c (.fn (.ofNat 69) [])) [(.t (.ofNat 19))]⟩), [(.ofNat 19)]⟩, ⟨[], [⟨some (.ofNat 21), none, .mv (.t (.ofNat 0))⟩], (some ⟨some (.ofNat 22), none, .call (.c (.fn (.ofNat 49) [])) [(.t (.ofNat 20)), (.t (.ofNat 21))]⟩), []⟩, ⟨[], [], (some ⟨some (.ofNat 23), none, .call (.c (.fn (.ofNat 50) [])) [(.t (.ofNat 22))]⟩), []⟩, ⟨[], [], (some ⟨some (.ofNat 4), none, .as (.t (.ofNat 23))⟩), []⟩, ⟨[], [], (some ⟨some (.ofNat 5), none, .as (.c (.i .i64 (.ofNat 0)))⟩), []⟩, ⟨[], [], none, []⟩]
noncomputable def f36_c : EC := (.seq (.reg f36_r0) (.seq (.reg f36_r1) (.seq (.seq (.reg f36_r2) (.cond (.t (.ofNat 15)) (.seq (.reg f36_r3) .ret) .skip)) (.seq (.draw f36_r4) .ret))))
noncomputable def f36 : EF := ⟨24, [.tmp (.ofNat 4), .tmp (.ofNat 5)], f36_c, none⟩
theorem f36_rs : f36.rs = [.tmp (.ofNat 4), .tmp (.ofNat 5)] := of_eq_true (eq_self _)
section
variable {fs : T EF} {h h' : H}
def lnOk (n : Nat) (X : List Int) : Prop := X.length = n ∧ OkT n X X.length
def bfR (X : List Int) : List Bool := rl (bfT X X.length)
def agR (X Y : List Int) : List Bool := woR (bfR X) (turnR (bfR Y))
theorem agR_len {X Y : List Int} : (agR X Y).length = 49 := by unfold agR woR; exact rl_len
def agOk (n : Int) (X Y : List Int) : Prop := 1 ≤ n ∧ n ≤ 7 ∧ lnOk n.toNat X ∧ lnOk n.toNat Y
structure CallsAg (fs : T EF) : Prop extends CallsNo fs where
  c94 : fs.get (K.ofNat 94) = some f94
theorem f68_ret {n : Int} {v w : V} {X Y : List Int} (k : CallsAg fs) (hv : Sr iE h v X) (hw : Sr iE h w Y) (hX : X.length ≤ 9223372036854775807) (hY : Y.length ≤ 9223372036854775807) (hc : HC h) : Ret fs f68 [.i .i64 n, .agg [v, w]] h fun r h' => Grow h.nx.nat h h' ∧ ((agOk n X Y ∧ r = .tup [rV (agR X Y), .b true]) ∨ (¬ agOk n X Y ∧ r = .tup [rV (rl fun _ _ => false), .b false])) := by
  apply ret_of rfl
  show W fs none f68_c _ _ _
  unfold f68_c
  have hF : (rl fun _ _ => false).length = 49 := rl_len
  have cvw : cellsN 2 (.agg [v, w]) = some [v, w] := rfl
  have n1 := nx_new h (.cells 2 [v, w])
  have g1_ : Grow h.nx.nat h (h.new (.cells 2 [v, w])) := Grow.new (Nat.le_refl _) _
  have e1 : (h.new (.cells 2 [v, w])).get h.nx = .cells 2 [v, w] := get_new_same
  have n2 := nx_new (h.new (.cells 2 [v, w])) (.cells 49 (List.replicate 49 (.b false)))
  simp (disch := omega) only [f68_r0, w_reg, w_seq, seqK_n, x_nil, x_as, x_alloc, x_box, kx, rvP_ok, ev_t, ev_c, getV_some, putD_some, oGet_s, frame_2, getK_set, ↓reduceIte, cvw]
  generalize h.new (.cells 2 [v, w]) = h1 at *
  have g2_ : Grow h1.nx.nat h1 (h1.new (.cells 49 (List.replicate 49 (.b false)))) := Grow.new (Nat.le_refl _) _
  have e2 : (h1.new (.cells 49 (List.replicate 49 (.b false)))).get h1.nx = rC (rl fun _ _ => false) := by rw [rl_false]; exact get_new_same
  generalize h1.new (.cells 49 (List.replicate 49 (.b false))) = h2 at *
  have gA : Grow h.nx.nat h h2 := g1_.trans (g2_.low (by omega))
  have hc2 := gA.hc hc
  have e1' := (g2_.old h.nx (by omega)).trans e1
  have zb : ∀ {hh : H}, hh.get h1.nx = rC (rl fun _ _ => false) → storeV hh 49 (.p h1.nx 0) (rV (rl fun _ _ => false)) = .ok undefV (hh.put h1.nx (rC (rl fun _ _ => false))) := fun {hh} e => rC_stn hF hF e
  have gO : ∀ {hh : H} {B : Blk}, Grow h.nx.nat h hh → h1.nx.nat < hh.nx.nat → Grow h.nx.nat h (hh.put h1.nx B) := fun {hh B} g hl => g.trans (Grow.put (by omega) hl _)
  by_cases hn : n < 1 ∨ 7 < n
  · have hno : ¬ agOk n X Y := fun h => by have h1 := h.1; have h2 := h.2.1; omega
    by_cases h1_ : n < 1
    · have d1 : decide (n < 1) = true := decide_eq_true h1_
      simp (disch := omega) only [f68_r1, f68_r2, f68_rs, w_reg, w_seq, w_cond, w_ret, seqK_n, seqK_r, ckB_b, cbB_b, okG_b, asG_f, true_and, retK_r, x_nil, x_g, x_mv, x_as, x_pick, x_build, x_st, x_bin, kx, rvP_ok, okv_some, ev_t, ev_c, getV_some, putD_some, putD_none, bin_lss, pick_b, oGet_s, readRs_nil, readRs_t, readRs_n, retV_2, of1, Option.some.injEq, exists_eq_left', getK_set, Nat.reduceEqDiff, ↓reduceIte, Bool.false_eq_true, Bool.not_true, fill_0, of7, d1, zero49, zb e2, rC_read hF get_put_same]
      exact ⟨gO gA (by omega), .inr ⟨hno, trivial⟩⟩
    · have d1 : decide (n < 1) = false := decide_eq_false h1_
      have d2 : decide (n > 7) = true := decide_eq_true (by omega)
      simp (disch := omega) only [f68_r1, f68_r2, f68_rs, w_reg, w_seq, w_cond, w_ret, seqK_n, seqK_r, ckB_b, cbB_b, okG_b, asG_f, true_and, retK_r, x_nil, x_g, x_mv, x_as, x_pick, x_build, x_st, x_bin, kx, rvP_ok, okv_some, ev_t, ev_c, getV_some, putD_some, putD_none, bin_lss, bin_gtr, pick_b, oGet_s, readRs_nil, readRs_t, readRs_n, retV_2, of1, Option.some.injEq, exists_eq_left', getK_set, Nat.reduceEqDiff, ↓reduceIte, Bool.false_eq_true, Bool.not_false, fill_0, of7, d1, d2, zero49, zb e2, rC_read hF get_put_same]
      exact ⟨gO gA (by omega), .inr ⟨hno, trivial⟩⟩
  · have d1 : decide (n < 1) = false := decide_eq_false (by omega)
    have d2 : decide (n > 7) = false := decide_eq_false (by omega)
    obtain ⟨N, rfl⟩ : ∃ N : Nat, n = (N : Int) := ⟨n.toNat, by omega⟩
    have hN7 : N ≤ 7 := by omega
    have hag : agOk (N : Int) X Y ↔ lnOk N X ∧ lnOk N Y := ⟨fun h => ⟨h.2.2.1, h.2.2.2⟩, fun h => ⟨by omega, by omega, h.1, h.2⟩⟩
    have l0 := ld20 e1'
    simp (disch := omega) only [f68_r1, f68_r3, w_skip, w_reg, w_seq, w_cond, seqK_n, ckB_b, cbB_b, okG_b, asG_f, true_and, x_nil, x_g, x_mv, x_pick, x_ld, x_bin, x_iadr, x_call, kx, rvP_ok, okv_some, ev_t, ev_c, evs_nil, evs_cons, getV_some, putD_some, bin_lss, bin_gtr, pick_b, onP_p, of0, of1, getK_set, Nat.reduceEqDiff, ↓reduceIte, Bool.false_eq_true, Bool.not_false, ix2_0, of7, d1, d2, l0]
    refine (callP_0 (ef := f94) k.c94 rfl (f94_ret k.toNat1 hN7 (hv.grow hc gA) hX hc2)).mono ?_
    rintro r h3 ⟨g3_, hr3⟩
    obtain ⟨A, ba, rfl, hAl, hA⟩ : ∃ A ba, r = .tup [rV A, .b ba] ∧ A.length = 49 ∧ ((ba = true ∧ lnOk N X ∧ A = bfR X) ∨ (ba = false ∧ ¬ lnOk N X)) := by
      rcases hr3 with ⟨q1, q2, q3⟩ | ⟨q1, q3⟩
      · exact ⟨_, _, q3, rl_len, .inl ⟨rfl, ⟨q1, q2⟩, rfl⟩⟩
      · exact ⟨_, _, q3, rl_len, .inr ⟨rfl, q1⟩⟩
    have hc3 := g3_.hc hc2
    have gA3 := gA.trans (g3_.low gA.nx)
    have g3n := g3_.nx
    have n4 := nx_new h3 (.cells 49 (List.replicate 49 (.b false)))
    have s4 := rC_stn hAl rl_len (M := rl fun _ _ => false) (h := h3.new (.cells 49 (List.replicate 49 (.b false)))) (id := h3.nx) (by rw [rl_false]; exact get_new_same)
    have g4_ : Grow h3.nx.nat h3 ((h3.new (.cells 49 (List.replicate 49 (.b false)))).put h3.nx (rC A)) := (Grow.new (Nat.le_refl _) _).trans (Grow.put (Nat.le_refl _) (by omega) _)
    have e4 : ((h3.new (.cells 49 (List.replicate 49 (.b false)))).put h3.nx (rC A)).get h3.nx = rC A := get_put_same
    have n4' : ((h3.new (.cells 49 (List.replicate 49 (.b false)))).put h3.nx (rC A)).nx.nat = h3.nx.nat + 1 := n4
    have l1 := ld21 ((g4_.old h.nx (by omega)).trans ((g3_.old h.nx (by omega)).trans e1'))
    simp (disch := omega) only [f68_r4, w_reg, w_seq, seqK_n, x_nil, x_mv, x_as, x_alloc, x_ld, x_st, x_iadr, x_ext, x_call, kx, rvP_ok, okv_some, ev_t, ev_c, evs_nil, evs_cons, getV_some, putD_some, putD_none, onTup_t, onP_p, nth0, nth1, of1, getK_set, Nat.reduceEqDiff, ↓reduceIte, ix2_1, s4, l1]
    generalize (h3.new (.cells 49 (List.replicate 49 (.b false)))).put h3.nx (rC A) = h4 at *
    have hc4 := g4_.hc hc3
    have gA4 := gA3.trans (g4_.low gA3.nx)
    refine (callP_0 (ef := f94) k.c94 rfl (f94_ret k.toNat1 hN7 (hw.grow hc gA4) hY hc4)).mono ?_
    rintro r h5 ⟨g5_, hr5⟩
    obtain ⟨B, bb, rfl, hBl, hB⟩ : ∃ A ba, r = .tup [rV A, .b ba] ∧ A.length = 49 ∧ ((ba = true ∧ lnOk N Y ∧ A = bfR Y) ∨ (ba = false ∧ ¬ lnOk N Y)) := by
      rcases hr5 with ⟨q1, q2, q3⟩ | ⟨q1, q3⟩
      · exact ⟨_, _, q3, rl_len, .inl ⟨rfl, ⟨q1, q2⟩, rfl⟩⟩
      · exact ⟨_, _, q3, rl_len, .inr ⟨rfl, q1⟩⟩
    have hc5 := g5_.hc hc4
    have gA5 := gA4.trans (g5_.low gA4.nx)
    have g5n := g5_.nx
    have n6 := nx_new h5 (.cells 49 (List.replicate 49 (.b false)))
    have s6 := rC_stn hBl rl_len (M := rl fun _ _ => false) (h := h5.new (.cells 49 (List.replicate 49 (.b false)))) (id := h5.nx) (by rw [rl_false]; exact get_new_same)
    have g6_ : Grow h5.nx.nat h5 ((h5.new (.cells 49 (List.replicate 49 (.b false)))).put h5.nx (rC B)) := (Grow.new (Nat.le_refl _) _).trans (Grow.put (Nat.le_refl _) (by omega) _)
    have e6 : ((h5.new (.cells 49 (List.replicate 49 (.b false)))).put h5.nx (rC B)).get h5.nx = rC B := get_put_same
    have n6' : ((h5.new (.cells 49 (List.replicate 49 (.b false)))).put h5.nx (rC B)).nx.nat = h5.nx.nat + 1 := n6
    have e4' := (g6_.old h3.nx (by omega)).trans ((g5_.old h3.nx (by omega)).trans e4)
    have e2' := (g6_.old h1.nx (by omega)).trans ((g5_.old h1.nx (by omega)).trans ((g4_.old h1.nx (by omega)).trans ((g3_.old h1.nx (by omega)).trans e2)))
    have gA6 := gA5.trans (g6_.low gA5.nx)
    simp (disch := omega) only [w_reg, w_seq, seqK_n, x_nil, x_mv, x_as, x_alloc, x_st, x_ext, kx, rvP_ok, okv_some, ev_t, getV_some, putD_some, putD_none, onTup_t, nth0, nth1, getK_set, Nat.reduceEqDiff, ↓reduceIte, s6]
    generalize (h5.new (.cells 49 (List.replicate 49 (.b false)))).put h5.nx (rC B) = h6 at *
    have lt6 : h1.nx.nat < h6.nx.nat := by omega
    cases ba with
    | false =>
      have hno : ¬ agOk (N : Int) X Y := fun h => by
        rcases hA with ⟨q, _⟩ | ⟨_, q⟩
        · cases q
        · exact q (hag.1 h).1
      simp (disch := omega) only [f68_r5, f68_r6, f68_rs, w_reg, w_seq, w_cond, w_ret, seqK_n, seqK_r, ckB_b, cbB_b, okG_b, asG_f, true_and, retK_r, x_nil, x_g, x_mv, x_as, x_pick, x_build, x_st, x_not, kx, rvP_ok, ev_t, ev_c, getV_some, putD_some, putD_none, pick_b, onB_b, oGet_s, readRs_nil, readRs_t, readRs_n, retV_2, Option.some.injEq, exists_eq_left', getK_set, Nat.reduceEqDiff, ↓reduceIte, Bool.false_eq_true, Bool.not_true, Bool.not_false, fill_0, zero49, zb e2', rC_read hF get_put_same]
      exact ⟨gO gA6 lt6, .inr ⟨hno, trivial⟩⟩
    | true =>
      cases bb with
      | false =>
        have hno : ¬ agOk (N : Int) X Y := fun h => by
          rcases hB with ⟨q, _⟩ | ⟨_, q⟩
          · cases q
          · exact q (hag.1 h).2
        simp (disch := omega) only [f68_r5, f68_r6, f68_rs, w_reg, w_seq, w_cond, w_ret, seqK_n, seqK_r, ckB_b, cbB_b, okG_b, asG_f, true_and, retK_r, x_nil, x_g, x_mv, x_as, x_pick, x_build, x_st, x_not, kx, rvP_ok, ev_t, ev_c, getV_some, putD_some, putD_none, pick_b, onB_b, oGet_s, readRs_nil, readRs_t, readRs_n, retV_2, Option.some.injEq, exists_eq_left', getK_set, Nat.reduceEqDiff, ↓reduceIte, Bool.false_eq_true, Bool.not_true, Bool.not_false, fill_0, zero49, zb e2', rC_read hF get_put_same]
        exact ⟨gO gA6 lt6, .inr ⟨hno, trivial⟩⟩
      | true =>
        obtain ⟨okX, rfl⟩ : lnOk N X ∧ A = bfR X := by
          rcases hA with ⟨_, q⟩ | ⟨q, _⟩
          · exact q
          · cases q
        obtain ⟨okY, rfl⟩ : lnOk N Y ∧ B = bfR Y := by
          rcases hB with ⟨_, q⟩ | ⟨q, _⟩
          · exact q
          · cases q
        have hTl : (turnR (bfR Y)).length = 49 := rl_len
        have lA := rC_ldn hAl e4'
        have lB := rC_ldn hBl e6
        have k70 := k.n70 (bfR Y)
        have k81 := k.n81 (bfR X) (turnR (bfR Y))
        have s7 := rC_stn agR_len hF e2' (L := agR X Y)
        have eag : rV (woR (bfR X) (turnR (bfR Y))) = rV (agR X Y) := rfl
        simp (disch := omega) only [f68_r5, f68_r7, f68_rs, w_skip, w_draw, w_seq, w_cond, w_ret, seqK_n, ckB_b, cbB_b, okG_b, asG_f, true_and, retK_r, x_nil, x_g, x_mv, x_as, x_pick, x_st, x_not, x_call, kx, kg, xg_nil, xg_ldn, xd_cons, fresh_nil, stK_n, stK_s, stay_nil, stay_cons, again_ok, rvP_ok, ev_t, ev_c, evs_nil, evs_cons, getV_some, putD_some, putD_none, pick_b, onB_b, oGet_s, readRs_nil, readRs_t, readRs_n, retV_2, Option.some.injEq, exists_eq_left', getK_set, Nat.reduceEqDiff, ↓reduceIte, Bool.false_eq_true, Bool.not_true, Bool.not_false, stay_ldn, lA, lB, beq_rV, k70 _ _ hBl, k81 _ _ hAl hTl, eag, s7, rC_read agR_len get_put_same]
        exact ⟨gO gA6 lt6, .inl ⟨hag.2 ⟨okX, okY⟩, trivial⟩⟩
structure CallsDn (fs : T EF) : Prop extends CallsAg fs, CallsEd fs where
  c68 : fs.get (K.ofNat 68) = some f68
theorem f37_ret {n : Int} {v w : V} {X Y : List Int} (k : CallsDn fs) (hv : Sr iE h v X) (hw : Sr iE h w Y) (hX : X.length ≤ 9223372036854775807) (hY : Y.length ≤ 9223372036854775807) (hc : HC h) : Ret fs f37 [.i .i64 n, .agg [v, w]] h fun r h' => Grow h.nx.nat h h' ∧ ((agOk n X Y ∧ ∃ u, r = .tup [u, .i .i64 0] ∧ Sk 2 qE h' u (arI (rat (agR X Y))) ∧ Own h.nx.nat u) ∨ (¬ agOk n X Y ∧ r = .tup [.sn, .i .i64 1])) := by
  apply ret_of rfl
  show W fs none f37_c _ _ _
  unfold f37_c
  have cvw : cellsN 2 (.agg [v, w]) = some [v, w] := rfl
  have n1 := nx_new h (.cells 2 [v, w])
  have g1_ : Grow h.nx.nat h (h.new (.cells 2 [v, w])) := Grow.new (Nat.le_refl _) _
  have e1 : (h.new (.cells 2 [v, w])).get h.nx = .cells 2 [v, w] := get_new_same
  have l1 := ldn2 e1
  simp (disch := omega) only [f37_r0, f37_r1, w_reg, w_seq, seqK_n, x_nil, x_mv, x_as, x_box, x_ldn, x_call, kx, rvP_ok, ev_t, ev_c, evs_nil, evs_cons, getV_some, putD_some, oGet_s, frame_2, of0, getK_set, Nat.reduceEqDiff, ↓reduceIte, cvw, l1]
  generalize h.new (.cells 2 [v, w]) = h1 at *
  have hc1 := g1_.hc hc
  refine (callP_0 (ef := f68) k.c68 rfl (f68_ret k.toCallsAg (hv.grow hc g1_) (hw.grow hc g1_) hX hY hc1)).mono ?_
  rintro r h2 ⟨g2_, hr⟩
  have hc2 := g2_.hc hc1
  have gA := g1_.trans (g2_.low (by omega))
  have n3 := nx_new h2 (.cells 49 (List.replicate 49 (.b false)))
  have hF : (rl fun _ _ => false).length = 49 := rl_len
  have st : ∀ {A : List Bool}, A.length = 49 → storeV (h2.new (.cells 49 (List.replicate 49 (.b false)))) 49 (.p h2.nx 0) (rV A) = .ok undefV ((h2.new (.cells 49 (List.replicate 49 (.b false)))).put h2.nx (rC A)) := fun {A} hA => rC_stn hA hF (by rw [rl_false]; exact get_new_same)
  have g3_ : ∀ A, Grow h2.nx.nat h2 ((h2.new (.cells 49 (List.replicate 49 (.b false)))).put h2.nx (rC A)) := fun A => (Grow.new (Nat.le_refl _) _).trans (Grow.put (Nat.le_refl _) (by omega) _)
  rcases hr with ⟨ok, rfl⟩ | ⟨no, rfl⟩
  · have e3 : ((h2.new (.cells 49 (List.replicate 49 (.b false)))).put h2.nx (rC (agR X Y))).get h2.nx = rC (agR X Y) := get_put_same
    have lA := rC_ldn agR_len e3
    have g3 := g3_ (agR X Y)
    have s3 := st (A := agR X Y) agR_len
    simp (disch := omega) only [f37_r2, f37_r4, w_skip, w_reg, w_seq, w_cond, seqK_n, ckB_b, cbB_b, true_and, x_nil, x_mv, x_as, x_alloc, x_ldn, x_st, x_not, x_ext, x_call, kx, rvP_ok, okv_some, ev_t, ev_c, evs_nil, evs_cons, getV_some, putD_some, putD_none, onB_b, onTup_t, nth0, nth1, of0, getK_set, Nat.reduceEqDiff, ↓reduceIte, Bool.false_eq_true, Bool.not_true, s3, lA]
    generalize (h2.new (.cells 49 (List.replicate 49 (.b false)))).put h2.nx (rC (agR X Y)) = h3 at *
    have hc3 := g3.hc hc2
    have gB := gA.trans (g3.low gA.nx)
    refine (callP_0 (ef := f58) k.c58 rfl (f58_ret k.toNat4 agR_len hc3)).mono ?_
    rintro u h4 ⟨hs, ho, g4⟩
    simp (disch := omega) only [f37_rs, w_ret, seqK_n, retK_r, x_nil, x_as, kx, ev_t, ev_c, getV_some, putD_some, oGet_s, readRs_nil, readRs_t, retV_2, Option.some.injEq, exists_eq_left', getK_set, Nat.reduceEqDiff, ↓reduceIte]
    exact ⟨gB.trans (g4.low gB.nx), .inl ⟨ok, u, rfl, hs, ho.low gB.nx⟩⟩
  · have s3 := st hF
    simp (disch := omega) only [f37_r2, f37_r3, f37_rs, w_reg, w_seq, w_cond, w_ret, seqK_n, seqK_r, ckB_b, cbB_b, true_and, retK_r, x_nil, x_mv, x_as, x_alloc, x_st, x_not, x_ext, kx, rvP_ok, okv_some, ev_t, ev_c, getV_some, putD_some, putD_none, onB_b, onTup_t, oGet_s, nth0, nth1, readRs_nil, readRs_t, retV_2, of1, Option.some.injEq, exists_eq_left', getK_set, Nat.reduceEqDiff, ↓reduceIte, Bool.not_false, s3]
    exact ⟨gA.trans ((g3_ _).low gA.nx), .inr ⟨no, trivial⟩⟩
def drR (n : Nat) (X Y : List Int) (a b : Nat) : Bool := rat (otR n (jnR [agR X Y, turnR (agR X Y)])) a b && decide (a ≤ b)
theorem f36_ret {n : Int} {v w : V} {X Y : List Int} (k : CallsDn fs) (hv : Sr iE h v X) (hw : Sr iE h w Y) (hX : X.length ≤ 9223372036854775807) (hY : Y.length ≤ 9223372036854775807) (hc : HC h) : Ret fs f36 [.i .i64 n, .agg [v, w]] h fun r h' => Grow h.nx.nat h h' ∧ ((agOk n X Y ∧ ∃ u, r = .tup [u, .i .i64 0] ∧ Sk 2 qE h' u (arI (drR n.toNat X Y)) ∧ Own h.nx.nat u) ∨ (¬ agOk n X Y ∧ r = .tup [.sn, .i .i64 1])) := by
  apply ret_of rfl
  show W fs none f36_c _ _ _
  unfold f36_c
  have cvw : cellsN 2 (.agg [v, w]) = some [v, w] := rfl
  have n1 := nx_new h (.cells 2 [v, w])
  have g1_ : Grow h.nx.nat h (h.new (.cells 2 [v, w])) := Grow.new (Nat.le_refl _) _
  have e1 : (h.new (.cells 2 [v, w])).get h.nx = .cells 2 [v, w] := get_new_same
  have l1 := ldn2 e1
  simp (disch := omega) only [f36_r0, f36_r1, w_reg, w_seq, seqK_n, x_nil, x_mv, x_as, x_box, x_ldn, x_call, kx, rvP_ok, ev_t, ev_c, evs_nil, evs_cons, getV_some, putD_some, oGet_s, frame_2, of0, getK_set, Nat.reduceEqDiff, ↓reduceIte, cvw, l1]
  generalize h.new (.cells 2 [v, w]) = h1 at *
  have hc1 := g1_.hc hc
  refine (callP_0 (ef := f68) k.c68 rfl (f68_ret k.toCallsAg (hv.grow hc g1_) (hw.grow hc g1_) hX hY hc1)).mono ?_
  rintro r h2 ⟨g2_, hr⟩
  have hc2 := g2_.hc hc1
  have gA := g1_.trans (g2_.low (by omega))
  have n3 := nx_new h2 (.cells 49 (List.replicate 49 (.b false)))
  have hF : (rl fun _ _ => false).length = 49 := rl_len
  have st : ∀ {A : List Bool}, A.length = 49 → storeV (h2.new (.cells 49 (List.replicate 49 (.b false)))) 49 (.p h2.nx 0) (rV A) = .ok undefV ((h2.new (.cells 49 (List.replicate 49 (.b false)))).put h2.nx (rC A)) := fun {A} hA => rC_stn hA hF (by rw [rl_false]; exact get_new_same)
  have g3_ : ∀ A, Grow h2.nx.nat h2 ((h2.new (.cells 49 (List.replicate 49 (.b false)))).put h2.nx (rC A)) := fun A => (Grow.new (Nat.le_refl _) _).trans (Grow.put (Nat.le_refl _) (by omega) _)
  rcases hr with ⟨ok, rfl⟩ | ⟨no, rfl⟩
  · obtain ⟨N, rfl⟩ : ∃ N : Nat, n = (N : Int) := ⟨n.toNat, by have := ok.1; omega⟩
    have hN7 : N ≤ 7 := by have := ok.2.1; omega
    have e3 : ((h2.new (.cells 49 (List.replicate 49 (.b false)))).put h2.nx (rC (agR X Y))).get h2.nx = rC (agR X Y) := get_put_same
    have lA := rC_ldn agR_len e3
    have g3 := g3_ (agR X Y)
    have s3 := st (A := agR X Y) agR_len
    have hT : (turnR (agR X Y)).length = 49 := rl_len
    have k70 := k.n70 (agR X Y)
    have n3' : ((h2.new (.cells 49 (List.replicate 49 (.b false)))).put h2.nx (rC (agR X Y))).nx.nat = h2.nx.nat + 1 := n3
    have cA := rC_cells (L := agR X Y) agR_len
    have cT := rC_cells hT
    have hc3 := g3.hc hc2
    have dd := hc3.dead
    simp (disch := omega) only [f36_r2, f36_r4, w_skip, w_reg, w_draw, w_seq, w_cond, seqK_n, ckB_b, cbB_b, true_and, x_nil, x_mv, x_as, x_alloc, x_st, x_not, x_ext, x_call, kx, kg, xg_nil, xg_mv, xg_ldn, xg_bslice, xd_cons, fresh_nil, stK_s, stay_nil, stay_cons, stay_mv, beq_i, rvP_ok, okv_some, ev_t, ev_c, evs_nil, evs_cons, getV_some, putD_some, putD_none, onB_b, onTup_t, oGet_s, nth0, nth1, of0, Option.some.injEq, exists_eq_left', getK_set, Nat.reduceEqDiff, ↓reduceIte, Bool.false_eq_true, Bool.not_true, stay_ldn, fill_0, s3, lA, k70 _ _ agR_len, fill_c, cA, cT, set98a agR_len, set98b agR_len hT, dd]
    generalize (h2.new (.cells 49 (List.replicate 49 (.b false)))).put h2.nx (rC (agR X Y)) = h3 at *
    have gB := gA.trans (g3.low gA.nx)
    refine ⟨fresh_one (n := 2) (sz := 49) (by simp (disch := omega) only [getK_set, ↓reduceIte]), ?_⟩
    have gL : Grow h3.nx.nat h3 (h3.new (.cells (2 * 49) ((agR X Y).map V.b ++ (turnR (agR X Y)).map V.b))) := Grow.new (Nat.le_refl _) _
    have hr8 := Rs.two (h := h3) (L := agR X Y) agR_len hT
    have n8 := nx_new h3 (.cells (2 * 49) ((agR X Y).map V.b ++ (turnR (agR X Y)).map V.b))
    have hc8 := gL.hc hc3
    have lA8 := rC_ldn agR_len ((gL.old h2.nx (by omega)).trans e3)
    simp (disch := omega) only [true_and, again_ok, lA8, beq_rV]
    generalize h3.new (.cells (2 * 49) ((agR X Y).map V.b ++ (turnR (agR X Y)).map V.b)) = h4 at *
    have hall : ∀ z ∈ [agR X Y, turnR (agR X Y)], z.length = 49 := fun z hz => by
      simp only [List.mem_cons, List.not_mem_nil, or_false] at hz
      rcases hz with rfl | rfl
      · exact agR_len
      · exact hT
    refine (callP_0 (ef := f69) k.c69 rfl (f69_ret k.c84 k.c101 hr8 hall (by simp) hc8)).mono ?_
    rintro r h5 ⟨rfl, g5⟩
    have hc5 := g5.hc hc8
    have gC := gB.trans ((gL.low gB.nx).trans (g5.low (by have := gB.nx; omega)))
    have hJ : (jnR [agR X Y, turnR (agR X Y)]).length = 49 := rl_len
    have hO : (otR N (jnR [agR X Y, turnR (agR X Y)])).length = 49 := otR_len
    have k49 := k.n49 (jnR [agR X Y, turnR (agR X Y)]) N
    simp (disch := omega) only [true_and, x_nil, x_call, kx, xg_nil, xd_cons, fresh_nil, stK_s, stay_nil, stay_cons, stay_mv, beq_i, ev_t, ev_c, evs_nil, evs_cons, getV_some, putD_some, getK_set, Nat.reduceEqDiff, ↓reduceIte, k49 _ _ hJ hN7]
    refine (callP_0 (ef := f50) k.c50 rfl (f50_ret k.toCallsEd hO hc5)).mono ?_
    rintro u h6 ⟨hs, ho, g6⟩
    simp (disch := omega) only [f36_rs, w_ret, seqK_n, true_and, retK_r, x_nil, x_as, kx, xg_nil, xd_cons, fresh_nil, stK_n, stK_s, stay_nil, ev_t, ev_c, getV_some, putD_some, oGet_s, readRs_nil, readRs_t, retV_2, Option.some.injEq, exists_eq_left', getK_set, Nat.reduceEqDiff, ↓reduceIte]
    exact ⟨gC.trans (g6.low gC.nx), .inl ⟨ok, u, rfl, hs, ho.low gC.nx⟩⟩
  · have s3 := st hF
    simp (disch := omega) only [f36_r2, f36_r3, f36_rs, w_reg, w_seq, w_cond, w_ret, seqK_n, seqK_r, ckB_b, cbB_b, true_and, retK_r, x_nil, x_mv, x_as, x_alloc, x_st, x_not, x_ext, kx, rvP_ok, okv_some, ev_t, ev_c, getV_some, putD_some, putD_none, onB_b, onTup_t, oGet_s, nth0, nth1, readRs_nil, readRs_t, retV_2, of1, Option.some.injEq, exists_eq_left', getK_set, Nat.reduceEqDiff, ↓reduceIte, Bool.not_false, s3]
    exact ⟨gA.trans ((g3_ _).low gA.nx), .inr ⟨no, trivial⟩⟩
end
end Go.Ev
namespace Go.Ev
open Go Go.RowKit
noncomputable def f39_r0 : List EOper := [⟨some (.ofNat 3), none, .box 2 (.t (.ofNat 1))⟩, ⟨some (.ofNat 4), none, .as (.c (.i .i64 (.ofNat 0)))⟩, ⟨some (.ofNat 5), none, .alloc 2 [.sn, .sn]⟩]
noncomputable def f39_r1 : List EOper := [⟨some (.ofNat 12), none, .mv (.t (.ofNat 0))⟩, ⟨some (.ofNat 13), none, .conv .u64 (.t (.ofNat 12))⟩, ⟨some (.ofNat 14), none, .bin .rem (.t (.ofNat 13)) (.c (.i .u64 (.ofNat 7)))⟩, ⟨some (.ofNat 15), none, .conv .i64 (.t (.ofNat 14))⟩, ⟨some (.ofNat 16), none, .bin .add (.c (.i .i64 (.ofNat 1))) (.t (.ofNat 15))⟩, ⟨some (.ofNat 0), none, .as (.t (.ofNat 16))⟩]
noncomputable def f39_r2 : List EOper := [⟨some (.ofNat 6), none, .alloc 2 [.sn, .sn]⟩]
noncomputable def f39_r3 : List EOper := [⟨some (.ofNat 7), none, .as (.c (.i .i64 (.ofNat 0)))⟩]
noncomputable def f39_r4 : List EOper := [⟨some (.ofNat 17), none, .mv (.t (.ofNat 7))⟩, ⟨some (.ofNat 18), none, .bin .lss (.t (.ofNat 17)) (.c (.i .i64 (.ofNat 2)))⟩]
noncomputable def f39_r5 : List EOper := [⟨some (.ofNat 8), none, .as (.c .sn)⟩]
noncomputable def f39_r6 : List EOper := [⟨some (.ofNat 9), none, .as (.c (.i .i64 (.ofNat 0)))⟩]
noncomputable def f39_r7 : List EOper := [⟨some (.ofNat 21), none, .mv (.t (.ofNat 9))⟩, ⟨some (.ofNat 22), none, .mv (.t (.ofNat 0))⟩, ⟨some (.ofNat 23), none, .bin .lss (.t (.ofNat 21)) (.t (.ofNat 22))⟩]
noncomputable def f39_r8 : List EOper := [⟨some (.ofNat 10), none, .as (.c (.i .i64 (.ofNat 0)))⟩]
noncomputable def f39_r9 : List EOper := [⟨some (.ofNat 26), none, .mv (.t (.ofNat 9))⟩, ⟨some (.ofNat 27), none, .mv (.t (.ofNat 7))⟩, ⟨some (.ofNat 28), none, .iadr 2 1 (.t (.ofNat 3)) (.t (.ofNat 27))⟩, ⟨some (.ofNat 29), none, .ld (.t (.ofNat 28))⟩, ⟨some (.ofNat 30), none, .len (.t (.ofNat 29))⟩, ⟨some (.ofNat 31), none, .bin .lss (.t (.ofNat 26)) (.t (.ofNat 30))⟩]
noncomputable def f39_r10 : List EOper := [⟨some (.ofNat 32), none, .mv (.t (.ofNat 7))⟩, ⟨some (.ofNat 33), none, .iadr 2 1 (.t (.ofNat 3)) (.t (.ofNat 32))⟩, ⟨some (.ofNat 34), none, .ld (.t (.ofNat 33))⟩, ⟨some (.ofNat 35), none, .mv (.t (.ofNat 9))⟩, ⟨some (.ofNat 36), none, .iads 1 (.t (.ofNat 34)) (.t (.ofNat 35))⟩, ⟨some (.ofNat 37), none, .ld (.t (.ofNat 36))⟩, ⟨some (.ofNat 38), none, .conv .u64 (.t (.ofNat 37))⟩, ⟨some (.ofNat 39), none, .mv (.t (.ofNat 9))⟩, ⟨some (.ofNat 40), none, .bin .add (.t (.ofNat 39)) (.c (.i .i64 (.ofNat 1)))⟩, ⟨some (.ofNat 41), none, .conv .u64 (.t (.ofNat 40))⟩, ⟨some (.ofNat 42), none, .bin .rem (.t (.ofNat 38)) (.t (.ofNat 41))⟩, ⟨some (.ofNat 43), none, .conv .i64 (.t (.ofNat 42))⟩, ⟨some (.ofNat 10), none, .as (.t (.ofNat 43))⟩]
noncomputable def f39_r11 : List EOper := [⟨some (.ofNat 11), none, .as (.c .sn)⟩]
noncomputable def f39_r12 : List EOper := [⟨some (.ofNat 44), none, .mv (.t (.ofNat 11))⟩, ⟨some (.ofNat 45), none, .mv (.t (.ofNat 8))⟩, ⟨some (.ofNat 46), none, .mv (.t (.ofNat 10))⟩, ⟨some (.ofNat 47), none, .slice 1 (.t (.ofNat 45)) none (some (.t (.ofNat 46))) none⟩, ⟨some (.ofNat 48), none, .app 1 (.t (.ofNat 44)) (.t (.ofNat 47))⟩, ⟨some (.ofNat 11), none, .as (.t (.ofNat 48))⟩]
noncomputable def f39_r13 : List EOper := [⟨some (.ofNat 49), none, .mv (.t (.ofNat 11))⟩, ⟨some (.ofNat 50), none, .mv (.t (.ofNat 9))⟩, ⟨some (.ofNat 51), none, .bslice 1 1 [(.i .i64 (.ofNat 0))] [(0, 1, (.t (.ofNat 50)))]⟩, ⟨some (.ofNat 52), none, .app 1 (.t (.ofNat 49)) (.t (.ofNat 51))⟩, ⟨some (.ofNat 11), none, .as (.t (.ofNat 52))⟩]
noncomputable def f39_r14 : List EOper := [⟨some (.ofNat 53), none, .mv (.t (.ofNat 11))⟩, ⟨some (.ofNat 54), none, .mv (.t (.ofNat 8))⟩, ⟨some (.ofNat 55), none, .mv (.t (.ofNat 10))⟩, ⟨some (.ofNat 56), none, .slice 1 (.t (.ofNat 54)) (some (.t (.ofNat 55))) none none⟩, ⟨some (.ofNat 57), none, .app 1 (.t (.ofNat 53)) (.t (.ofNat 56))⟩, ⟨some (.ofNat 8), none, .as (.t (.ofNat 57))⟩]
noncomputable def f39_r15 : List EOper := [⟨some (.ofNat 24), none, .mv (.t (.ofNat 9))⟩, ⟨some (.ofNat 25), none, .bin .add (.t (.ofNat 24)) (.c (.i .i64 (.ofNat 1)))⟩, ⟨some (.ofNat 9), none, .as (.t (.ofNat 25))⟩]
noncomputable def f39_l0 : EC := (.seq (.seq (.reg f39_r7) (.cond (.t (.ofNat 23)) .skip (.exit 2))) (.seq (.block 3 (.seq (.reg f39_r8) (.seq (.seq (.reg f39_r9) (.cond (.t (.ofNat 31)) (.reg f39_r10) .skip)) (.seq (.reg f39_r11) (.seq (.reg f39_r12) (.seq (.reg f39_r13) (.reg f39_r14))))))) (.reg f39_r15)))
noncomputable def f39_r16 : List EOper := [⟨some (.ofNat 58), none, .mv (.t (.ofNat 7))⟩, ⟨some (.ofNat 59), none, .mv (.t (.ofNat 8))⟩, ⟨some (.ofNat 60), none, .iadr 2 1 (.t (.ofNat 6)) (.t (.ofNat 58))⟩, ⟨none, none, .st 1 (.t (.ofNat 60)) (.t (.ofNat 59))⟩]
noncomputable def f39_r17 : List EOper := [⟨some (.ofNat 19), none, .mv (.t (.ofNat 7))⟩, ⟨some (.ofNat 20), none, .bin .add (.t (.ofNat 19)) (.c (.i .i64 (.ofNat 1)))⟩, ⟨some (.ofNat 7), none, .as (.t (.ofNat 20))⟩]
noncomputable def f39_l1 : EC := (.seq (.seq (.reg f39_r4) (.cond (.t (.ofNat 18)) .skip (.exit 0))) (.seq (.block 1 (.seq (.reg f39_r5) (.seq (.seq (.reg f39_r6) (.block 2 (.loop f39_l0))) (.reg f39_r16)))) (.reg f39_r17)))
noncomputable def f39_r18 : List Stage := [⟨[⟨some (.ofNat 61), none, .mv (.t (.ofNat 0))⟩, ⟨some (.ofNat 62), none, .ldn 2 (.t (.ofNat 6))⟩], [], (some ⟨some (.ofNat 4), none, .as (.t (.ofNat 61))⟩), []⟩, ⟨[], [⟨some (.ofNat 62), none, .ldn 2 (.t (.ofNat 6))⟩], (some ⟨none, none, .st 2 (.t (.ofNat 5)) (.t (.ofNat 62))⟩), []⟩, ⟨[], [], none, []⟩]
noncomputable def f39_c : EC := (.seq (.reg f39_r0) (.seq (.reg f39_r1) (.seq (.reg f39_r2) (.seq (.seq (.reg f39_r3) (.block 0 (.loop f39_l1))) (.seq (.draw f39_r18) .ret)))))
noncomputable def f39 : EF := ⟨63, [.tmp (.ofNat 4), .celln (.ofNat 5) 2], f39_c, none⟩
theorem f39_rs : f39.rs = [.tmp (.ofNat 4), .celln (.ofNat 5) 2] := of_eq_true (eq_self _)
section
variable {fs : T EF} {h h' : H}
structure RowP (v : Nat) (R : List Int) : Prop where
  len : R.length = v
  nd : R.Nodup
  lt : ∀ x ∈ R, ∃ a : Nat, a < v ∧ x = (a : Int)
theorem RowP.nil : RowP 0 [] := ⟨rfl, by simp, fun x hx => absurd hx (by simp)⟩
theorem RowP.ins {v : Nat} {R : List Int} (r : RowP v R) {a : Nat} (_ : a ≤ v) : RowP (v + 1) (R.take a ++ [(v : Int)] ++ R.drop a) := by
  have hv : (v : Int) ∉ R := fun h => by obtain ⟨b, h1, h2⟩ := r.lt _ h; omega
  refine ⟨?_, ?_, fun x hx => ?_⟩
  · simp only [List.length_append, List.length_take, List.length_drop, List.length_singleton, r.len]; omega
  · have hp : (R.take a ++ [(v : Int)] ++ R.drop a).Perm ((v : Int) :: R) := by
      have h1 : (R.take a ++ [(v : Int)] ++ R.drop a).Perm ((v : Int) :: (R.take a ++ R.drop a)) := by
        rw [List.append_assoc]
        exact List.perm_middle
      rwa [List.take_append_drop] at h1
    rw [hp.nodup_iff, List.nodup_cons]
    exact ⟨hv, r.nd⟩
  · rw [List.append_assoc, List.mem_append, List.mem_append, List.mem_singleton] at hx
    rcases hx with hx | rfl | hx
    · obtain ⟨b, h1, h2⟩ := r.lt x (List.mem_of_mem_take hx); exact ⟨b, by omega, h2⟩
    · exact ⟨v, by omega, rfl⟩
    · obtain ⟨b, h1, h2⟩ := r.lt x (List.mem_of_mem_drop hx); exact ⟨b, by omega, h2⟩
theorem RowP.ok {v : Nat} {R : List Int} (r : RowP v R) : lnOk v R := by
  refine ⟨r.len, ⟨fun j hj => ?_, fun j t htj hj e => ?_⟩⟩
  · obtain ⟨a, h1, h2⟩ := r.lt _ (List.getElem_mem hj)
    exact ⟨a, h1, by rw [List.getElem?_eq_getElem hj, h2]⟩
  · rw [List.getElem?_eq_getElem hj, List.getElem?_eq_getElem (by omega)] at e
    exact (List.pairwise_iff_getElem.1 r.nd) t j (by omega) hj htj (Option.some.inj e).symm
def f39_A (h0 : H) (b : Nat) (N : Nat) (id3 id5 id6 : K) (v w : V) (kk : Nat) (fr : Fr) (h1 : H) : Prop := kk ≤ 2 ∧ Grow h0.nx.nat h0 h1 ∧ b ≤ h1.nx.nat ∧ HC h1 ∧ h1.get id3 = .cells 2 [v, w] ∧ h1.get id5 = .cells 2 [.sn, .sn] ∧
  (∃ a0 a1, h1.get id6 = .cells 2 [a0, a1] ∧ cellsN 1 a0 = some [a0] ∧ cellsN 1 a1 = some [a1] ∧ (∃ R, Sl iE h1 a0 R ∧ Own b a0 ∧ (1 ≤ kk → RowP N R)) ∧ ∃ R, Sl iE h1 a1 R ∧ Own b a1 ∧ (2 ≤ kk → RowP N R)) ∧
  fr.get (K.ofNat 0) = some (.i .i64 (N : Int)) ∧ fr.get (K.ofNat 3) = some (.p id3 0) ∧ fr.get (K.ofNat 5) = some (.p id5 0) ∧ fr.get (K.ofNat 6) = some (.p id6 0) ∧ fr.get (K.ofNat 7) = some (.i .i64 (kk : Int))
def f39_B (h0 : H) (N : Nat) (id3 id5 id6 : K) (kk : Nat) (x : Nat) (fr : Fr) (h1 : H) : Prop := x ≤ N ∧ Grow h0.nx.nat h0 h1 ∧ HC h1 ∧ (∃ row R, Sl iE h1 row R ∧ RowP x R ∧ Own h0.nx.nat row ∧ fr.get (K.ofNat 8) = some row) ∧
  fr.get (K.ofNat 0) = some (.i .i64 (N : Int)) ∧ fr.get (K.ofNat 3) = some (.p id3 0) ∧ fr.get (K.ofNat 5) = some (.p id5 0) ∧ fr.get (K.ofNat 6) = some (.p id6 0) ∧ fr.get (K.ofNat 7) = some (.i .i64 (kk : Int)) ∧ fr.get (K.ofNat 9) = some (.i .i64 (x : Int))
theorem f39_ret {n : Int} {v w : V} {X Y : List Int} (hv : Sr iE h v X) (hw : Sr iE h w Y) (hX : X.length ≤ 9223372036854775807) (hY : Y.length ≤ 9223372036854775807) (hc : HC h) : Ret fs f39 [.i .i64 n, .agg [v, w]] h fun r h' => Grow h.nx.nat h h' ∧ ∃ (N : Nat) (a0 a1 : V) (R0 R1 : List Int), r = .tup [.i .i64 (N : Int), .agg [a0, a1]] ∧ 1 ≤ N ∧ N ≤ 7 ∧ Sl iE h' a0 R0 ∧ RowP N R0 ∧ Sl iE h' a1 R1 ∧ RowP N R1 ∧ Own h.nx.nat a0 ∧ Own h.nx.nat a1 := by
  apply ret_of rfl
  show W fs none f39_c _ _ _
  unfold f39_c
  have cvw : cellsN 2 (.agg [v, w]) = some [v, w] := rfl
  have n1 := nx_new h (.cells 2 [v, w])
  have g1_ : Grow h.nx.nat h (h.new (.cells 2 [v, w])) := Grow.new (Nat.le_refl _) _
  have e1 : (h.new (.cells 2 [v, w])).get h.nx = .cells 2 [v, w] := get_new_same
  simp (disch := omega) only [f39_r0, w_reg, w_seq, seqK_n, x_nil, x_as, x_alloc, x_box, kx, rvP_ok, ev_t, ev_c, getV_some, putD_some, oGet_s, frame_2, of0, getK_set, ↓reduceIte, cvw]
  generalize h.new (.cells 2 [v, w]) = h1 at *
  have n2 := nx_new h1 (.cells 2 [.sn, .sn])
  have g2_ : Grow h1.nx.nat h1 (h1.new (.cells 2 [.sn, .sn])) := Grow.new (Nat.le_refl _) _
  have e2 : (h1.new (.cells 2 [.sn, .sn])).get h1.nx = .cells 2 [.sn, .sn] := get_new_same
  generalize h1.new (.cells 2 [.sn, .sn]) = h2 at *
  obtain ⟨q, hq7, hqe⟩ := rem_kO n (k := 7) (by omega) (by omega)
  have hqe : fw .i64 ((fw .u64 n).tmod 7) = (q : Int) := hqe
  have hr7 : ∀ a, binV .rem (.i .u64 a) (.i .u64 7) = some (.i .u64 (a.tmod 7)) := fun a => bin_rem (by omega)
  obtain ⟨N, hN⟩ : ∃ N : Nat, N = 1 + q := ⟨_, rfl⟩
  have eN : 1 + (q : Int) = (N : Int) := by omega
  have n3 := nx_new h2 (.cells 2 [.sn, .sn])
  have g3_ : Grow h2.nx.nat h2 (h2.new (.cells 2 [.sn, .sn])) := Grow.new (Nat.le_refl _) _
  have e3 : (h2.new (.cells 2 [.sn, .sn])).get h2.nx = .cells 2 [.sn, .sn] := get_new_same
  simp (disch := omega) only [f39_r1, f39_r2, f39_r3, w_reg, w_seq, w_block, seqK_n, x_nil, x_mv, x_as, x_alloc, x_bin, x_conv, kx, rvP_ok, okv_some, ev_t, ev_c, getV_some, putD_some, bin_add, onI_i, of0, of1, getK_set, Nat.reduceEqDiff, ↓reduceIte, of7, hr7, hqe, fw64, eN]
  generalize h2.new (.cells 2 [.sn, .sn]) = h3 at *
  have gA : Grow h.nx.nat h h3 := g1_.trans ((g2_.low (by omega)).trans (g3_.low (by omega)))
  have hc3 := gA.hc hc
  have a3 := (g3_.old h.nx (by omega)).trans ((g2_.old h.nx (by omega)).trans e1)
  have a5 := (g3_.old h1.nx (by omega)).trans e2
  have lvlt : ∀ {hh : H}, Grow h.nx.nat h hh → Sr iE hh v X := fun {hh} g => hv.grow hc g
  have lwlt : ∀ {hh : H}, Grow h.nx.nat h hh → Sr iE hh w Y := fun {hh} g => hw.grow hc g
  refine W_loop (f39_A h h3.nx.nat N h.nx h1.nx h2.nx v w) (fun kk => 2 - kk) ?_ 0 ⟨by omega, gA, Nat.le_refl _, hc3, a3, a5, ⟨.sn, .sn, e3, rfl, rfl, ⟨[], Sl.nil, Own.sn, fun h => by omega⟩, ⟨[], Sl.nil, Own.sn, fun h => by omega⟩⟩, by simp (disch := omega) only [getK_set, Nat.reduceEqDiff, ↓reduceIte, and_self, Int.natCast_zero]⟩
  rintro kk fr h4 ⟨hkk, hG, hGn, hc4, c3, c5, ⟨a0, a1, c6, o0, o1, ⟨R0, s0, w0, r0⟩, ⟨R1, s1, w1, r1⟩⟩, g0, g3, g5, g6, g7⟩
  unfold f39_l1
  by_cases hk : kk < 2
  · have d0 : decide ((kk : Int) < 2) = true := decide_eq_true (by omega)
    simp (disch := omega) only [f39_r4, f39_r5, f39_r6, w_skip, w_reg, w_seq, w_cond, w_block, seqK_n, ckB_b, cbB_b, true_and, x_nil, x_mv, x_as, x_bin, kx, rvP_ok, okv_some, ev_t, ev_c, getV_some, putD_some, bin_lss, of0, of2, getK_set, ↓reduceIte, g7, d0]
    refine W_loop (f39_B h4 N h.nx h1.nx h2.nx kk) (fun x => N - x) ?_ 0 ⟨by omega, Grow.refl _ _, hc4, ⟨.sn, [], Sl.nil, RowP.nil, Own.sn, by simp (disch := omega) only [getK_set, Nat.reduceEqDiff, ↓reduceIte]⟩, by simp (disch := omega) only [getK_set, Nat.reduceEqDiff, ↓reduceIte, g0, g3, g5, g6, g7, and_self, Int.natCast_zero]⟩
    clear g0 g3 g5 g6 g7 fr
    rintro x fr h5 ⟨hxN, hG5, hc5, ⟨row, R, sR, rp, oR, g8⟩, g0, g3, g5, g6, g7, g9⟩
    have hG5n := hG5.nx
    have gAn := gA.nx
    have gh5 : Grow h.nx.nat h h5 := hG.trans (hG5.low hG.nx)
    unfold f39_l0
    by_cases hxl : x < N
    · have d1 : decide ((x : Int) < (N : Int)) = true := decide_eq_true (by omega)
      have c3' := (hG5.old h.nx (by omega)).trans c3
      obtain ⟨z, Z, hz, hZl, lz⟩ : ∃ z Z, Sr iE h5 z Z ∧ Z.length ≤ 9223372036854775807 ∧ loadV h5 (.p h.nx (0 + kk * 1)) one? = .ok z h5 := by
        by_cases e : kk = 0
        · subst e; exact ⟨v, X, lvlt gh5, hX, load_p c3' rfl⟩
        · have : kk = 1 := by omega
          subst this; exact ⟨w, Y, lwlt gh5, hY, load_p c3' rfl⟩
      have zlen := hz.len
      by_cases hxZ : x < Z.length
      · have d2 : decide ((x : Int) < (Z.length : Int)) = true := decide_eq_true (by omega)
        obtain ⟨pz, pz1, pz2⟩ := hz.at x hxZ
        have pz2 : loadV h5 pz one? = .ok (.i .i64 Z[x]) h5 := pz2
        obtain ⟨at_, hat, hae⟩ := rem_kO Z[x] (k := x + 1) (by omega) (by omega)
        have ex1 : (x : Int) + 1 = ((x + 1 : Nat) : Int) := by omega
        have hwx : fw .u64 ((x + 1 : Nat) : Int) = ((x + 1 : Nat) : Int) := fwu64 (by omega) (by omega)
        have hrw : ∀ a, binV .rem (.i .u64 a) (.i .u64 ((x + 1 : Nat) : Int)) = some (.i .u64 (a.tmod ((x + 1 : Nat) : Int))) := fun a => bin_rem (by omega)
        obtain ⟨u1, q1, sc1, _⟩ := sR.cut (lo := none) (hi := some (.i .i64 (at_ : Int))) (l := 0) (u := at_) rfl rfl (by omega) (by rw [rp.len]; omega)
        rw [List.drop_zero] at sc1
        obtain ⟨nx1, h6, p1, s6, o6, g6_, _⟩ := Sl.app (b := h5.nx.nat) (e := iE) (Sl.nil (h := h5)) Own.sn (Nat.le_refl _) sc1 hc5 (by simp only [List.length_nil, List.length_take, rp.len]; omega)
        rw [List.nil_append] at s6
        have hc6 := g6_.hc hc5
        obtain ⟨nx2, h7, p2, s7, o7, g7_, _⟩ := Sl.push (b := h5.nx.nat) (e := iE) (x := (x : Int)) (c := .i .i64 (x : Int)) rfl s6 o6 g6_.nx hc6 (by simp only [List.length_take, rp.len]; omega)
        have hc7 := g7_.hc hc6
        have g57 := g6_.trans g7_
        obtain ⟨u2, q2, sc2, _⟩ := (sR.grow hc5 g57).cut (lo := some (.i .i64 (at_ : Int))) (hi := none) (l := at_) (u := R.length) rfl rfl (by rw [rp.len]; omega) (Nat.le_refl _)
        rw [List.take_length] at sc2
        obtain ⟨row2, h8, p3, s8, o8, g8_, _⟩ := Sl.app (b := h5.nx.nat) (e := iE) s7 o7 g57.nx sc2 hc7 (by simp only [List.length_append, List.length_take, List.length_drop, List.length_singleton, rp.len]; omega)
        have g58 := g57.trans g8_
        simp (disch := omega) only [f39_r7, f39_r8, f39_r9, f39_r10, f39_r11, f39_r12, f39_r13, f39_r14, f39_r15, w_skip, w_reg, w_seq, w_cond, w_block, seqK_n, atK_n, loopK_n, ckB_b, cbB_b, true_and, x_nil, x_mv, x_as, x_bslice, x_ld, x_bin, x_conv, x_slice, sliceV_eq, Option.map_none, Option.map_some, x_iadr, x_iads, x_len, x_app, kx, rvP_ok, okv_some, ev_t, ev_c, getV_some, putD_some, bin_add, bin_lss, onI_i, onP_p, oGet_s, idx_n, cells1_i, fill_1, set_1, of0, of1, getK_set, Nat.reduceEqDiff, ↓reduceIte, g0, g3, g7, g8, g9, d1, lz, zlen, d2, pz1, pz2, fw64, ex1, hwx, hrw, hae, q1, p1, fill_1, set_1, p2, q2, p3]
        exact ⟨x + 1, by omega, by omega, hG5.trans (g58.low hG5n), g58.hc hc5, ⟨row2, _, s8, rp.ins (by omega), o8.low hG5n, by simp (disch := omega) only [getK_set, Nat.reduceEqDiff, ↓reduceIte]⟩, by simp (disch := omega) only [getK_set, Nat.reduceEqDiff, ↓reduceIte, g0, g3, g5, g6, g7, and_self]⟩
      · have d2 : decide ((x : Int) < (Z.length : Int)) = false := decide_eq_false (by omega)
        obtain ⟨at_, hat⟩ : ∃ a : Nat, a = 0 := ⟨0, rfl⟩
        have haz : (0 : Int) = (at_ : Int) := by omega
        obtain ⟨u1, q1, sc1, _⟩ := sR.cut (lo := none) (hi := some (.i .i64 (at_ : Int))) (l := 0) (u := at_) rfl rfl (by omega) (by rw [rp.len]; omega)
        rw [List.drop_zero] at sc1
        obtain ⟨nx1, h6, p1, s6, o6, g6_, _⟩ := Sl.app (b := h5.nx.nat) (e := iE) (Sl.nil (h := h5)) Own.sn (Nat.le_refl _) sc1 hc5 (by simp only [List.length_nil, List.length_take, rp.len]; omega)
        rw [List.nil_append] at s6
        have hc6 := g6_.hc hc5
        obtain ⟨nx2, h7, p2, s7, o7, g7_, _⟩ := Sl.push (b := h5.nx.nat) (e := iE) (x := (x : Int)) (c := .i .i64 (x : Int)) rfl s6 o6 g6_.nx hc6 (by simp only [List.length_take, rp.len]; omega)
        have hc7 := g7_.hc hc6
        have g57 := g6_.trans g7_
        obtain ⟨u2, q2, sc2, _⟩ := (sR.grow hc5 g57).cut (lo := some (.i .i64 (at_ : Int))) (hi := none) (l := at_) (u := R.length) rfl rfl (by rw [rp.len]; omega) (Nat.le_refl _)
        rw [List.take_length] at sc2
        obtain ⟨row2, h8, p3, s8, o8, g8_, _⟩ := Sl.app (b := h5.nx.nat) (e := iE) s7 o7 g57.nx sc2 hc7 (by simp only [List.length_append, List.length_take, List.length_drop, List.length_singleton, rp.len]; omega)
        have g58 := g57.trans g8_
        rw [← haz] at q1 q2
        simp (disch := omega) only [f39_r7, f39_r8, f39_r9, f39_r11, f39_r12, f39_r13, f39_r14, f39_r15, w_skip, w_reg, w_seq, w_cond, w_block, seqK_n, atK_n, loopK_n, ckB_b, cbB_b, true_and, x_nil, x_mv, x_as, x_bslice, x_ld, x_bin, x_slice, sliceV_eq, Option.map_none, Option.map_some, x_iadr, x_len, x_app, kx, rvP_ok, okv_some, ev_t, ev_c, getV_some, putD_some, bin_add, bin_lss, onP_p, oGet_s, idx_n, cells1_i, fill_1, set_1, of0, of1, getK_set, Nat.reduceEqDiff, ↓reduceIte, Bool.false_eq_true, g0, g3, g7, g8, g9, d1, lz, zlen, d2, fw64, q1, p1, fill_1, set_1, p2, q2, p3]
        exact ⟨x + 1, by omega, by omega, hG5.trans (g58.low hG5n), g58.hc hc5, ⟨row2, _, s8, rp.ins (by omega), o8.low hG5n, by simp (disch := omega) only [getK_set, Nat.reduceEqDiff, ↓reduceIte]⟩, by simp (disch := omega) only [getK_set, Nat.reduceEqDiff, ↓reduceIte, g0, g3, g5, g6, g7, and_self, Int.natCast_add, Int.natCast_one]⟩
    · have d1 : decide ((x : Int) < (N : Int)) = false := decide_eq_false (by omega)
      have ex : x = N := by omega
      subst ex
      have c6' := (hG5.old h2.nx (by omega)).trans c6
      have lt6 := hc5.cells c6'
      have c3' := (hG5.old h.nx (by omega)).trans c3
      have c5' := (hG5.old h1.nx (by omega)).trans c5
      have ne3 : h.nx ≠ h2.nx := kNe (by omega)
      have ne5 : h1.nx ≠ h2.nx := kNe (by omega)
      have s0' := s0.grow hc4 hG5
      have s1' := s1.grow hc4 hG5
      have oRl : Own h3.nx.nat row := oR.low hGn
      have nI : ∀ {id : K} {a : V}, id.nat < h3.nx.nat → Own h3.nx.nat a → NotIn id a := fun h o => o.notIn h
      have pu : ∀ B, Grow h.nx.nat h (h5.put h2.nx B) ∧ HC (h5.put h2.nx B) ∧ (h5.put h2.nx B).get h.nx = .cells 2 [v, w] ∧ (h5.put h2.nx B).get h1.nx = .cells 2 [.sn, .sn] := fun B => by
        have gp : Grow h.nx.nat h5 (h5.put h2.nx B) := Grow.put (by omega) lt6 _
        exact ⟨gh5.trans gp, gp.hc hc5, (get_put_other ne3).trans c3', (get_put_other ne5).trans c5'⟩
      have nput : ∀ {a : V} {R : List Int} {B : Blk}, Sl iE h5 a R → Own h3.nx.nat a → Sl iE (h5.put h2.nx B) a R := fun s o => s.put (o.notIn (by omega)) _
      by_cases e : kk = 0
      · subst e
        have sr : storeV h5 1 (.p h2.nx (0 + 0 * 1)) row = .ok undefV (h5.put h2.nx (.cells 2 [row, a1])) := store_p c6' sR.one (by simp)
        obtain ⟨q1, q2, q3, q4⟩ := pu (.cells 2 [row, a1])
        simp (disch := omega) only [f39_r7, f39_r16, f39_r17, w_reg, w_seq, w_cond, w_exit, seqK_n, seqK_e, atK_n, atK_e, loopK_n, loopK_e, ckB_b, cbB_b, true_and, x_nil, x_mv, x_as, x_st, x_bin, x_iadr, kx, rvP_ok, okv_some, ev_t, ev_c, getV_some, putD_some, putD_none, bin_add, bin_lss, onP_p, idx_n, of1, getK_set, Nat.reduceEqDiff, ↓reduceIte, Bool.false_eq_true, g0, g6, g7, g8, g9, d1, sr, fw64]
        exact ⟨1, by omega, by omega, q1, by rw [nx_put]; omega, q2, q3, q4, ⟨row, a1, get_put_same, sR.one, o1, ⟨R, nput sR oRl, oRl, fun _ => rp⟩, ⟨R1, nput s1' w1, w1, fun h => by omega⟩⟩, by simp (disch := omega) only [getK_set, Nat.reduceEqDiff, ↓reduceIte, g0, g3, g5, g6, and_self, Int.natCast_zero, Int.natCast_one, Int.zero_add]⟩
      · have : kk = 1 := by omega
        subst this
        have sr : storeV h5 1 (.p h2.nx (0 + 1 * 1)) row = .ok undefV (h5.put h2.nx (.cells 2 [a0, row])) := store_p c6' sR.one (by simp)
        obtain ⟨q1, q2, q3, q4⟩ := pu (.cells 2 [a0, row])
        simp (disch := omega) only [f39_r7, f39_r16, f39_r17, w_reg, w_seq, w_cond, w_exit, seqK_n, seqK_e, atK_n, atK_e, loopK_n, loopK_e, ckB_b, cbB_b, true_and, x_nil, x_mv, x_as, x_st, x_bin, x_iadr, kx, rvP_ok, okv_some, ev_t, ev_c, getV_some, putD_some, putD_none, bin_add, bin_lss, onP_p, idx_n, of1, getK_set, Nat.reduceEqDiff, ↓reduceIte, Bool.false_eq_true, g0, g6, g7, g8, g9, d1, sr, fw64]
        exact ⟨2, by omega, by omega, q1, by rw [nx_put]; omega, q2, q3, q4, ⟨a0, row, get_put_same, o0, sR.one, ⟨R0, nput s0' w0, w0, fun _ => r0 (by omega)⟩, ⟨R, nput sR oRl, oRl, fun _ => rp⟩⟩, by simp (disch := omega) only [true_and, Option.some.injEq, getK_set, Nat.reduceEqDiff, ↓reduceIte, g0, g3, g5, g6, Int.natCast_one]; rfl⟩
  · have d0 : decide ((kk : Int) < 2) = false := decide_eq_false (by omega)
    have ek : kk = 2 := by omega
    subst ek
    have l6 := ldn2 c6
    have bb : beqV (.agg [a0, a1]) (.agg [a0, a1]) = true := by
      have b1 : ∀ {a : V} {R : List Int}, Sl iE h4 a R → beq1 a a = true := fun {a R} s => by
        have hb := s.beq
        rcases s with ⟨rfl, _⟩ | ⟨_, _, _, _, rfl, _⟩ <;> exact hb
      show (beq1 a0 a0 && (beq1 a1 a1 && true)) = true
      rw [b1 s0, b1 s1]; rfl
    have s5 : storeV h4 2 (.p h1.nx 0) (.agg [a0, a1]) = .ok undefV (h4.put h1.nx (.cells 2 [a0, a1])) := store_p c5 (show cellsN 2 (.agg [a0, a1]) = some [a0, a1] from rfl) (by omega)
    have lt5 := hc4.cells c5
    have rd : readP (h4.put h1.nx (.cells 2 [a0, a1])) (.p h1.nx 0) (many? 2) = some (.agg [a0, a1]) := rd2 get_put_same
    have gp : Grow h.nx.nat h4 (h4.put h1.nx (.cells 2 [a0, a1])) := Grow.put (by omega) lt5 _
    have gAn := gA.nx
    simp (disch := omega) only [f39_r4, f39_r18, f39_rs, w_reg, w_draw, w_seq, w_cond, w_exit, w_ret, seqK_n, seqK_e, atK_e, loopK_e, ckB_b, cbB_b, true_and, retK_r, x_nil, x_mv, x_as, x_st, x_bin, kx, kg, xg_nil, xg_mv, xg_ldn, xd_cons, fresh_nil, stK_n, stK_s, stay_nil, stay_cons, again_ok, rvP_ok, okv_some, ev_t, ev_c, getV_some, putD_some, putD_none, bin_lss, oGet_s, readRs_nil, readRs_t, readRs_n, retV_2, of2, Option.some.injEq, exists_eq_left', getK_set, Nat.reduceEqDiff, ↓reduceIte, Bool.false_eq_true, stay_ldn, g0, g5, g6, g7, d0, l6, bb, s5, rd]
    exact ⟨hG.trans gp, N, a0, a1, R0, R1, rfl, by omega, by omega, s0.put (w0.notIn (by omega)) _, r0 (by omega), s1.put (w1.notIn (by omega)) _, r1 (by omega), w0.low gAn, w1.low gAn⟩
end
end Go.Ev
namespace Go.Ev
open Go Go.RowKit
theorem bfT_iff {X : List Int} {i a b : Nat} : bfT X i a b = true ↔ ∃ j t, j < i ∧ t < j ∧ X[j]? = some (b : Int) ∧ X[t]? = some (a : Int) := by
  unfold bfT
  simp only [List.any_eq_true, List.mem_range, Bool.and_eq_true, decide_eq_true_eq]
  constructor
  · rintro ⟨j, h1, h2, t, h3, h4⟩; exact ⟨j, t, h1, h3, h2, h4⟩
  · rintro ⟨j, t, h1, h3, h2, h4⟩; exact ⟨j, h1, h2, t, h3, h4⟩
theorem lnOk.uniq {n : Nat} {X : List Int} (k : lnOk n X) {i j : Nat} {x : Int} (h1 : X[i]? = some x) (h2 : X[j]? = some x) : i = j := by
  have l1 := get_lt h1
  have l2 := get_lt h2
  rcases Nat.lt_trichotomy i j with h | h | h
  · exact absurd (h2.trans h1.symm) (k.2.nd j i h l2)
  · exact h
  · exact absurd (h1.trans h2.symm) (k.2.nd i j h l1)
theorem nodup_fill {n : Nat} {X : List Int} (k : lnOk n X) {a : Nat} (ha : a < n) : ∃ i : Nat, X[i]? = some (a : Int) := by
  have nd : X.Nodup := by
    rw [List.Nodup, List.pairwise_iff_getElem]
    intro i j hi hj hij e
    exact k.2.nd j i hij hj (by rw [List.getElem?_eq_getElem hj, List.getElem?_eq_getElem hi, e])
  have hm : (a : Int) ∈ X := by
    refine Classical.byContradiction fun hn => ?_
    have h1 := nodup_leO (l := (a : Int) :: X) (m := (List.range n).map fun b : Nat => (b : Int)) (by rw [List.nodup_cons]; exact ⟨hn, nd⟩) fun x hx => by
      rcases List.mem_cons.1 hx with rfl | hx
      · exact List.mem_map.2 ⟨a, List.mem_range.2 ha, rfl⟩
      · obtain ⟨j, hj, rfl⟩ := List.getElem_of_mem hx
        obtain ⟨c, h1, h2⟩ := k.2.lt j hj
        rw [List.getElem?_eq_getElem hj] at h2
        exact List.mem_map.2 ⟨c, List.mem_range.2 h1, (Option.some.inj h2).symm⟩
    simp only [List.length_cons, List.length_map, List.length_range] at h1
    have := k.1
    omega
  obtain ⟨i, hi, e⟩ := List.getElem_of_mem hm
  exact ⟨i, by rw [List.getElem?_eq_getElem hi, e]⟩
/-- In a line of all nodes one of two comes first. -/
theorem bf_tot {n : Nat} {X : List Int} (k : lnOk n X) {a b : Nat} (ha : a < n) (hb : b < n) (hab : a ≠ b) : bfT X X.length a b = true ∨ bfT X X.length b a = true := by
  obtain ⟨i, hi⟩ := nodup_fill k ha
  obtain ⟨j, hj⟩ := nodup_fill k hb
  have l1 := get_lt hi
  have l2 := get_lt hj
  rcases Nat.lt_trichotomy i j with h | h | h
  · exact .inl (bfT_iff.2 ⟨j, i, l2, h, hj, hi⟩)
  · subst h
    rw [hi] at hj
    have := Option.some.inj hj
    omega
  · exact .inr (bfT_iff.2 ⟨i, j, l1, h, hi, hj⟩)
theorem bf_one {n : Nat} {X : List Int} (k : lnOk n X) {a b : Nat} (h1 : bfT X X.length a b = true) : bfT X X.length b a = false := by
  cases h2 : bfT X X.length b a with
  | false => rfl
  | true =>
    obtain ⟨j, t, _, h3, h4, h5⟩ := bfT_iff.1 h1
    obtain ⟨j', t', _, h6, h7, h8⟩ := bfT_iff.1 h2
    have e1 := k.uniq h4 h8
    have e2 := k.uniq h5 h7
    omega
theorem bf_lt {n : Nat} {X : List Int} (k : lnOk n X) {a b : Nat} (h1 : bfT X X.length a b = true) : a < n ∧ b < n ∧ a ≠ b := by
  obtain ⟨j, t, h2, h3, h4, h5⟩ := bfT_iff.1 h1
  obtain ⟨c, hc, e⟩ := k.2.lt j h2
  obtain ⟨d, hd, e'⟩ := k.2.lt t (by omega)
  rw [h4] at e
  rw [h5] at e'
  have e := Option.some.inj e
  have e' := Option.some.inj e'
  refine ⟨by omega, by omega, fun e2 => ?_⟩
  subst e2
  have := k.uniq h4 h5
  omega
theorem bf_tr {n : Nat} {X : List Int} (k : lnOk n X) {a b c : Nat} (h1 : bfT X X.length a b = true) (h2 : bfT X X.length b c = true) : bfT X X.length a c = true := by
  obtain ⟨j, t, q1, h3, h4, h5⟩ := bfT_iff.1 h1
  obtain ⟨j', t', q2, h6, h7, h8⟩ := bfT_iff.1 h2
  have e1 := k.uniq h4 h8
  exact bfT_iff.2 ⟨j', t, q2, by omega, h7, h5⟩
theorem agR_iff {n : Nat} {X Y : List Int} (hn : n ≤ 7) (kX : lnOk n X) (kY : lnOk n Y) {a b : Nat} : rat (agR X Y) a b = true ↔ bfT X X.length a b = true ∧ bfT Y Y.length a b = true := by
  unfold agR bfR
  rw [woR_iff, turnR_iff, rat_rl, rat_rl]
  simp only [Bool.and_eq_true, decide_eq_true_eq]
  constructor
  · rintro ⟨⟨⟨ha, hb⟩, h1⟩, h2⟩
    have l := bf_lt kX h1
    exact ⟨h1, (bf_tot kY l.1 l.2.1 l.2.2).elim id fun h => absurd ⟨⟨hb, ha⟩, h⟩ h2⟩
  · rintro ⟨h1, h2⟩
    have l := bf_lt kX h1
    exact ⟨⟨⟨by omega, by omega⟩, h1⟩, fun h => by rw [bf_one kY h2] at h; exact absurd h.2 (by simp)⟩
/-- What two lines have in common is an order. -/
theorem agR_ord {n : Nat} {X Y : List Int} (hn : n ≤ 7) (kX : lnOk n X) (kY : lnOk n Y) : OrdN n (agR X Y) where
  len := agR_len
  lt := fun a b h => by have := bf_lt kX ((agR_iff hn kX kY).1 h).1; exact ⟨this.1, this.2.1⟩
  irr := fun a h => (bf_lt kX ((agR_iff hn kX kY).1 h).1).2.2 rfl
  tr := fun a b c h1 h2 => by
    have q1 := (agR_iff hn kX kY).1 h1
    have q2 := (agR_iff hn kX kY).1 h2
    exact (agR_iff hn kX kY).2 ⟨bf_tr kX q1.1 q2.1, bf_tr kY q1.2 q2.2⟩
end Go.Ev
namespace Go.Ev
open Go Go.RowKit
section
variable {fs : T EF} {h h' : H}
end
end Go.Ev
namespace Go.Ev
open Go Go.RowKit
section
variable {fs : T EF} {h h' : H}
end
end Go.Ev
namespace Go.Ev
open Go Go.RowKit
section
variable {fs : T EF} {h h' : H}
theorem arw_nd {f : Nat → Nat → Bool} : (arw f).Nodup := by
  unfold arw
  refine List.Pairwise.map _ (fun a b hab e => hab ?_) (List.Pairwise.filter _ List.nodup_range)
  have e1 : a / 7 = b / 7 := congrArg Prod.fst e
  have e2 : a % 7 = b % 7 := congrArg Prod.snd e
  omega
theorem arw_swl {f f' : Nat → Nat → Bool} (hs : ∀ a b, f a b = true → f' b a = true) : (arI f).length ≤ (arI f').length := by
  unfold arI
  rw [List.length_map, List.length_map, ← List.length_map (f := swN)]
  have nd : ((arw f).map swN).Nodup := by
    refine List.Pairwise.map _ (fun a b hab e => hab ?_) arw_nd
    have e1 : a.2 = b.2 := congrArg Prod.fst e
    have e2 : a.1 = b.1 := congrArg Prod.snd e
    exact Prod.ext e2 e1
  refine nodup_leO nd fun x hx => ?_
  obtain ⟨⟨a, b⟩, hy, rfl⟩ := List.mem_map.1 hx
  obtain ⟨h1, h2, h3⟩ := mem_arw.1 hy
  exact mem_arw.2 ⟨h2, h1, hs _ _ h3⟩
end
end Go.Ev
namespace Go.Ev
open Go Go.RowKit
theorem arI_cnt {f : Nat → Nat → Bool} : (arI f).length = ((List.range 49).filter fun i => f (i / 7) (i % 7)).length := by unfold arI arw; rw [List.length_map, List.length_map]
theorem arI_two {p q r : Nat → Nat → Bool} (h : ∀ a b, a < 7 → b < 7 → (p a b = true ↔ q a b = true ∨ r a b = true) ∧ ¬ (q a b = true ∧ r a b = true)) : (arI p).length = (arI q).length + (arI r).length := by
  rw [arI_cnt, arI_cnt, arI_cnt]
  exact filter_two fun i hi => by
    rw [List.mem_range] at hi
    exact h _ _ (by omega) (by omega)
theorem arI_pairs : ∀ n, n ≤ 7 → (arI fun a b => decide (a < b ∧ b < n)).length = n * (n - 1) / 2
  | 0, _ => by decide
  | 1, _ => by decide
  | 2, _ => by decide
  | 3, _ => by decide
  | 4, _ => by decide
  | 5, _ => by decide
  | 6, _ => by decide
  | 7, _ => by decide
  | n + 8, h => by omega
theorem drR_iff {n : Nat} {X Y : List Int} (hn : n ≤ 7) (kX : lnOk n X) (kY : lnOk n Y) {a b : Nat} (ha : a < 7) (hb : b < 7) : drR n X Y a b = true ↔ a < b ∧ b < n ∧ ¬ rat (agR X Y) a b = true ∧ ¬ rat (agR X Y) b a = true := by
  have o := agR_ord hn kX kY
  unfold drR otR
  have e : rat (jnR [agR X Y, turnR (agR X Y)]) a b = true ↔ rat (agR X Y) a b = true ∨ rat (agR X Y) b a = true := by
    show rat (jn2 (agR X Y) (turnR (agR X Y))) a b = true ↔ _
    rw [jn2_iff, turnR_iff]
  rw [Bool.and_eq_true, woR_iff, rat_rl, e]
  simp only [Bool.and_eq_true, decide_eq_true_eq]
  constructor
  · rintro ⟨⟨⟨_, ⟨h1, h2⟩, h3⟩, h4⟩, h5⟩
    exact ⟨by omega, h2, fun h => h4 (.inl h), fun h => h4 (.inr h)⟩
  · rintro ⟨h1, h2, h3, h4⟩
    exact ⟨⟨⟨⟨ha, hb⟩, ⟨by omega, h2⟩, by omega⟩, fun h => h.elim h3 h4⟩, by omega⟩
theorem pair_once {n : Nat} {X Y : List Int} (hn : n ≤ 7) (kX : lnOk n X) (kY : lnOk n Y) : (arI (drR n X Y)).length + (arI (rat (agR X Y))).length = n * (n - 1) / 2 := by
  have o := agR_ord hn kX kY
  have anti : ∀ a b, rat (agR X Y) a b = true → ¬ rat (agR X Y) b a = true := fun a b h1 h2 => o.irr a (o.tr _ _ _ h1 h2)
  have h1 : (arI (rat (agR X Y))).length = (arI fun a b => rat (agR X Y) a b && decide (a < b)).length + (arI fun a b => rat (agR X Y) a b && decide (b < a)).length := arI_two fun a b _ _ => by
    simp only [Bool.and_eq_true, decide_eq_true_eq]
    refine ⟨⟨fun h => ?_, fun h => h.elim (·.1) (·.1)⟩, fun h => by omega⟩
    have hne : a ≠ b := fun e => o.irr a (by rw [← e] at h; exact h)
    rcases Nat.lt_or_gt_of_ne hne with h2 | h2
    · exact .inl ⟨h, h2⟩
    · exact .inr ⟨h, h2⟩
  have h2 : (arI fun a b => rat (agR X Y) a b && decide (b < a)).length = (arI fun a b => rat (agR X Y) b a && decide (a < b)).length := by
    refine Nat.le_antisymm (arw_swl fun a b h => ?_) (arw_swl fun a b h => ?_) <;> exact h
  have h3 : (arI fun a b => decide (a < b ∧ b < n)).length = (arI (drR n X Y)).length + (arI fun a b => (rat (agR X Y) a b && decide (a < b)) || (rat (agR X Y) b a && decide (a < b))).length := arI_two fun a b ha hb => by
    rw [drR_iff hn kX kY ha hb]
    simp only [Bool.and_eq_true, Bool.or_eq_true, decide_eq_true_eq]
    constructor
    · constructor
      · rintro ⟨q1, q2⟩
        by_cases c1 : rat (agR X Y) a b = true
        · exact .inr (.inl ⟨c1, q1⟩)
        · by_cases c2 : rat (agR X Y) b a = true
          · exact .inr (.inr ⟨c2, q1⟩)
          · exact .inl ⟨q1, q2, c1, c2⟩
      · rintro (⟨q1, q2, _⟩ | ⟨c, q⟩ | ⟨c, q⟩)
        · exact ⟨q1, q2⟩
        · exact ⟨q, (o.lt _ _ c).2⟩
        · exact ⟨q, (o.lt _ _ c).1⟩
    · rintro ⟨⟨_, _, c1, c2⟩, ⟨c, _⟩ | ⟨c, _⟩⟩
      · exact c1 c
      · exact c2 c
  have h4 : (arI fun a b => (rat (agR X Y) a b && decide (a < b)) || (rat (agR X Y) b a && decide (a < b))).length = (arI fun a b => rat (agR X Y) a b && decide (a < b)).length + (arI fun a b => rat (agR X Y) b a && decide (a < b)).length := arI_two fun a b _ _ => by
    simp only [Bool.and_eq_true, Bool.or_eq_true, decide_eq_true_eq]
    exact ⟨trivial, fun h => anti _ _ h.1.1 h.2.1⟩
  have h5 := arI_pairs n hn
  omega
end Go.Ev
namespace Go.Ev
open Go Go.RowKit
def stopI (lt : Int → Int → Bool) (x : Int) (P : List Int) : Nat → Nat
  | 0 => 0
  | j + 1 => bif lt x (P.getD j 0) then stopI lt x P j else j + 1
def insR (lt : Int → Int → Bool) (x : Int) (P : List Int) : List Int := P.take (stopI lt x P P.length) ++ x :: P.drop (stopI lt x P P.length)
def srtR (lt : Int → Int → Bool) (S : List Int) : List Int := S.foldl (fun P x => insR lt x P) []
theorem insR_perm {lt : Int → Int → Bool} {x : Int} {P : List Int} : (insR lt x P).Perm (x :: P) := by
  unfold insR
  refine List.perm_middle.trans ?_
  rw [List.take_append_drop]
theorem srtR_aux {lt : Int → Int → Bool} : ∀ (S P : List Int), (S.foldl (fun P x => insR lt x P) P).Perm (P ++ S)
  | [], P => by simp
  | x :: S, P => by
    refine (srtR_aux S (insR lt x P)).trans ?_
    have h1 : (insR lt x P ++ S).Perm ((x :: P) ++ S) := insR_perm.append_right S
    refine h1.trans ?_
    exact List.perm_middle.symm
theorem srtR_perm {lt : Int → Int → Bool} {S : List Int} : (srtR lt S).Perm S := srtR_aux S []
theorem srtR_snoc {lt : Int → Int → Bool} {S : List Int} {x : Int} : srtR lt (S ++ [x]) = insR lt x (srtR lt S) := by unfold srtR; rw [List.foldl_append]; rfl
theorem srtR_len {lt : Int → Int → Bool} {S : List Int} : (srtR lt S).length = S.length := srtR_perm.length_eq
end Go.Ev
