/-
  Orders (plain): relations of seven nodes, as lists of 49 bools., and what follows.
-/
import Derived.Test.YtdmnejhjlmeodaaPd
namespace Go.Ev
open Go Go.RowKit

def rl (f : Nat → Nat → Bool) : List Bool := (List.range 49).map fun i => f (i / 7) (i % 7)
def rat (L : List Bool) (a b : Nat) : Bool := decide (a < 7) && decide (b < 7) && L.getD (7 * a + b) false
theorem rl_len {f : Nat → Nat → Bool} : (rl f).length = 49 := by simp [rl]
theorem rl_getD {f : Nat → Nat → Bool} {i : Nat} (hi : i < 49) : (rl f).getD i false = f (i / 7) (i % 7) := by
  rw [List.getD_eq_getElem?_getD, List.getElem?_eq_getElem (by rw [rl_len]; exact hi)]
  simp [rl]
theorem rat_rl {f : Nat → Nat → Bool} {a b : Nat} : rat (rl f) a b = (decide (a < 7) && decide (b < 7) && f a b) := by
  unfold rat
  by_cases ha : a < 7
  · by_cases hb : b < 7
    · rw [rl_getD (by omega), show (7 * a + b) / 7 = a by omega, show (7 * a + b) % 7 = b by omega]
    · rw [decide_eq_false hb]; simp
  · rw [decide_eq_false ha]; simp
theorem rat_lt {L : List Bool} {a b : Nat} (h : rat L a b = true) : a < 7 ∧ b < 7 := by
  unfold rat at h; simp only [Bool.and_eq_true, decide_eq_true_eq] at h; exact h.1
theorem rl_congr {f g : Nat → Nat → Bool} (h : ∀ a b, a < 7 → b < 7 → f a b = g a b) : rl f = rl g := by
  unfold rl
  apply List.map_congr_left
  intro i hi
  rw [List.mem_range] at hi
  exact h _ _ (by omega) (by omega)
theorem rl_rat {L : List Bool} (hL : L.length = 49) : rl (rat L) = L := by
  apply List.ext_getElem
  · rw [rl_len, hL]
  · intro i h1 h2
    rw [rl_len] at h1
    have := rl_getD (f := rat L) h1
    rw [List.getD_eq_getElem?_getD, List.getElem?_eq_getElem (by rw [rl_len]; exact h1)] at this
    rw [show (rl (rat L))[i] = rat L (i / 7) (i % 7) from this]
    unfold rat
    rw [decide_eq_true (show i / 7 < 7 by omega), decide_eq_true (show i % 7 < 7 by omega), show 7 * (i / 7) + i % 7 = i by omega, List.getD_eq_getElem?_getD, List.getElem?_eq_getElem h2]
    rfl
theorem rel_ext {L M : List Bool} (hL : L.length = 49) (hM : M.length = 49) (h : ∀ a b, a < 7 → b < 7 → rat L a b = rat M a b) : L = M := by
  rw [← rl_rat hL, ← rl_rat hM]; exact rl_congr h
theorem rl_set {f : Nat → Nat → Bool} {a b : Nat} {v : Bool} (hb : b < 7) : (rl f).set (7 * a + b) v = rl fun x y => if x = a ∧ y = b then v else f x y := by
  apply List.ext_getElem
  · rw [List.length_set, rl_len, rl_len]
  · intro i h1 h2
    rw [rl_len] at h2
    rw [List.getElem_set]
    have e1 : ∀ g : Nat → Nat → Bool, (rl g)[i]'(by rw [rl_len]; exact h2) = g (i / 7) (i % 7) := fun g => by simp [rl]
    rw [e1, e1]
    by_cases e : 7 * a + b = i
    · rw [if_pos e, if_pos ⟨by omega, by omega⟩]
    · rw [if_neg e, if_neg (fun h => e (by omega))]
def arw (f : Nat → Nat → Bool) : List (Nat × Nat) := ((List.range 49).filter fun i => f (i / 7) (i % 7)).map fun i => (i / 7, i % 7)
theorem mem_arw {f : Nat → Nat → Bool} {a b : Nat} : (a, b) ∈ arw f ↔ a < 7 ∧ b < 7 ∧ f a b = true := by
  unfold arw
  simp only [List.mem_map, List.mem_filter, List.mem_range, Prod.mk.injEq]
  constructor
  · rintro ⟨i, ⟨h1, h2⟩, rfl, rfl⟩; exact ⟨by omega, by omega, h2⟩
  · rintro ⟨h1, h2, h3⟩
    refine ⟨7 * a + b, ⟨by omega, ?_⟩, by omega, by omega⟩
    rw [show (7 * a + b) / 7 = a by omega, show (7 * a + b) % 7 = b by omega]; exact h3
theorem arw_len {f : Nat → Nat → Bool} : (arw f).length = cntB (fun i => f (i / 7) (i % 7)) 49 := by simp [arw, cntB]
theorem arw_at {f : Nat → Nat → Bool} {i : Nat} (hi : i < 49) (hf : f (i / 7) (i % 7) = true) : (arw f)[cntB (fun i => f (i / 7) (i % 7)) i]? = some (i / 7, i % 7) := by
  have h1 := filter_at (B := fun i => f (i / 7) (i % 7)) hi hf
  unfold arw
  rw [List.getElem?_map, h1]; rfl
theorem arw_lt {f : Nat → Nat → Bool} {x : Nat × Nat} (h : x ∈ arw f) : x.1 < 7 ∧ x.2 < 7 ∧ f x.1 x.2 = true := mem_arw.1 h

noncomputable def rV (L : List Bool) : V := .agg (L.map V.b)
noncomputable def aV (x : Nat × Nat) : V := .agg [.i .i64 (x.1 : Int), .i .i64 (x.2 : Int)]
noncomputable def rC (L : List Bool) : Blk := .cells 49 (L.map V.b)
theorem rV_inj {L M : List Bool} (h : rV L = rV M) : L = M := by
  unfold rV at h
  injection h with h
  exact (List.map_inj_right (fun a b e => by injection e)).1 h
theorem rV_plain {L : List Bool} : (rV L).plain = true := by
  show (L.map V.b).all V.flat = true
  rw [List.all_map]; exact List.all_eq_true.2 fun _ _ => rfl
section
variable {h : H} {id : K} {L : List Bool}
theorem rC_cells (hL : L.length = 49) : cellsN 49 (rV L) = some (L.map V.b) := by
  show (bif Nat.beq (lenL (L.map V.b)) 49 then some (L.map V.b) else none) = _
  rw [lenL_eq, List.length_map, hL]; rfl
theorem rC_ldn (hL : L.length = 49) (hb : h.get id = rC L) : loadV h (.p id 0) (many? 49) = .ok (rV L) h := by
  rw [loadn_p (n := 49) hb (by omega), takeN_eq, dropN_eq, List.drop_zero, List.take_of_length_le (by simp [hL])]; rfl
theorem rC_read (hL : L.length = 49) (hb : h.get id = rC L) : readP h (.p id 0) (many? 49) = some (rV L) := by
  have h1 := rC_ldn hL hb
  unfold loadV okv at h1
  cases e : readP h (.p id 0) (many? 49) with
  | none => rw [e] at h1; cases h1
  | some v =>
    rw [e] at h1
    have h1 : RV.ok v h = RV.ok (rV L) h := h1
    injection h1 with h1
    rw [h1]
theorem rC_stn {M : List Bool} (hL : L.length = 49) (hM : M.length = 49) (hb : h.get id = rC M) : storeV h 49 (.p id 0) (rV L) = .ok undefV (h.put id (rC L)) := by
  rw [store_p hb (rC_cells hL) (by omega), setMany_eq _ _ _ (by simp [hL, hM])]
  simp only [List.take_zero, List.nil_append, Nat.zero_add]
  rw [List.drop_of_length_le (by simp [hL, hM]), List.append_nil]; rfl
theorem ix_row {a : Nat} (ha : a < 7) (hL : L.length = 49) : ixV 7 7 true (rV L) (.i .i64 (a : Int)) h = .ok (.agg ((List.range 7).map fun b => .b (rat L a b))) h := by
  show idxV (.i .i64 (a : Int)) 7 (fun n => bif true then .ok (.agg (takeN 7 (dropN (n * 7) (L.map V.b)))) h else okv (nth (L.map V.b) (n * 7)) h) = _
  rw [idx_n ha]
  show RV.ok (.agg (takeN 7 (dropN (a * 7) (L.map V.b)))) h = _
  congr 2
  rw [takeN_eq, dropN_eq]
  apply List.ext_getElem
  · simp; omega
  · intro i h1 h2
    have hi : i < 7 := by simpa using h2
    simp only [List.getElem_take, List.getElem_drop, List.getElem_map, List.getElem_range]
    unfold rat
    rw [decide_eq_true ha, decide_eq_true hi, List.getD_eq_getElem?_getD, List.getElem?_eq_getElem (show 7 * a + i < L.length by omega)]
    simp [Nat.mul_comm]
theorem ix_cell {f : Nat → Bool} {b : Nat} (hb : b < 7) : ixV 7 1 false (.agg ((List.range 7).map fun b => .b (f b))) (.i .i64 (b : Int)) h = .ok (.b (f b)) h := by
  show idxV (.i .i64 (b : Int)) 7 (fun n => bif false then .ok (.agg (takeN 1 (dropN (n * 1) ((List.range 7).map fun b => V.b (f b))))) h else okv (nth ((List.range 7).map fun b => V.b (f b)) (n * 1)) h) = _
  rw [idx_n hb]
  show okv (nth ((List.range 7).map fun b => V.b (f b)) (b * 1)) h = _
  rw [nth_eq, Nat.mul_one, List.getElem?_map, List.getElem?_range hb]; rfl
theorem rC_ld {a b : Nat} (ha : a < 7) (hb : b < 7) (hL : L.length = 49) (hg : h.get id = rC L) : loadV h (.p id (0 + a * 7 + b * 1)) one? = .ok (.b (rat L a b)) h := by
  refine load_p hg ?_
  rw [nth_eq, List.getElem?_map, List.getElem?_eq_getElem (show 0 + a * 7 + b * 1 < L.length by omega)]
  unfold rat
  rw [decide_eq_true ha, decide_eq_true hb, List.getD_eq_getElem?_getD, List.getElem?_eq_getElem (show 7 * a + b < L.length by omega)]
  simp [Nat.mul_comm]
theorem rC_st {f : Nat → Nat → Bool} {a b : Nat} {v : Bool} (ha : a < 7) (hb : b < 7) (hg : h.get id = rC (rl f)) : storeV h 1 (.p id (0 + a * 7 + b * 1)) (.b v) = .ok undefV (h.put id (rC (rl fun x y => if x = a ∧ y = b then v else f x y))) := by
  have hA : Ar V.b h id (rl f) := by unfold Ar; rw [rl_len]; exact hg
  have := hA.st (i := 7 * a + b) (by rw [rl_len]; omega) (x := v) (c := .b v) rfl rfl
  rw [show 0 + (7 * a + b) * 1 = 0 + a * 7 + b * 1 by omega] at this
  rw [this.1, rl_set hb]
  show RV.ok undefV (h.put id (.cells _ _)) = _
  rw [rl_len]; rfl
end
end Go.Ev
namespace Go.Ev
open Go Go.RowKit
noncomputable def f84_r0 : List EOper := [oG 1 (.box 49 (tG 0)), oG 2 (.as (.c .fnil))]
noncomputable def f84_r1 : List EOper := [oG 3 (.mkfn (.ofNat 101) [(tG 1)]), oG 2 (.as (tG 3))]
noncomputable def f84_c : EC := (.seq (.reg f84_r0) (.seq (.reg f84_r1) .ret))
noncomputable def f84 : EF := ⟨4, [.tmp (.ofNat 2)], f84_c, none⟩
theorem f84_rs : f84.rs = [.tmp (.ofNat 2)] := of_eq_true (eq_self _)
noncomputable def f101_r0 : List EOper := [oG 7 (.ldn 49 (tG 1)), oG 8 (.mv (cG 0))]
noncomputable def f101_r1 : List EOper := [oG 9 (.bin .lss (tG 8) (cG 7))]
noncomputable def f101_r2 : List EOper := [oG 10 (.mv (tG 8)), oG 11 (.ix 7 7 true (tG 7) (tG 8)), oG 4 (.alloc 7 [(.b false), (.b false), (.b false), (.b false), (.b false), (.b false), (.b false)]), oG 3 (.as (tG 10)), ⟨none, none, .st 7 (tG 4) (tG 11)⟩]
noncomputable def f101_r3 : List EOper := [oG 12 (.ldn 7 (tG 4)), oG 13 (.mv (cG 0))]
noncomputable def f101_r4 : List EOper := [oG 14 (.bin .lss (tG 13) (cG 7))]
noncomputable def f101_r5 : List EOper := [oG 15 (.mv (tG 13)), oG 16 (.ix 7 1 false (tG 12) (tG 13)), oG 5 (.as (tG 15)), oG 6 (.as (tG 16))]
noncomputable def f101_r6 : List EOper := [oG 17 (.mv (tG 6)), oG 18 (.mv (tG 17)), gG 19 18 true (.mv (tG 0)), gG 20 18 true (.mv (tG 3)), gG 21 18 true (.mv (tG 5)), gG 22 18 true (.build [(.i .i64 (.ofNat 0)), (.i .i64 (.ofNat 0))] [(0, 1, (tG 20)), (1, 1, (tG 21))]), gG 23 18 true (.call (tG 19) [(tG 22)]), gG 24 18 true (.not (tG 23)), oG 25 (.pick (tG 18) (tG 24) (.c (.b false)))]
noncomputable def f101_r7 : List EOper := [oG 26 (.bin .add (tG 13) (cG 1)), oG 13 (.mv (tG 26))]
noncomputable def f101_l0 : EC := (.seq (.reg f101_r4) (.seq (.cond (tG 14) .skip (.exit 2)) (.seq (.block 3 (.seq (.reg f101_r5) (.seq (.reg f101_r6) (.cond (tG 25) .ret .skip)))) (.reg f101_r7))))
noncomputable def f101_r8 : List EOper := [oG 27 (.bin .add (tG 8) (cG 1)), oG 8 (.mv (tG 27))]
noncomputable def f101_l1 : EC := (.seq (.reg f101_r1) (.seq (.cond (tG 9) .skip (.exit 0)) (.seq (.block 1 (.seq (.reg f101_r2) (.seq (.reg f101_r3) (.block 2 (.loop f101_l0))))) (.reg f101_r8))))
noncomputable def f101_c : EC := (.seq (.reg f101_r0) (.block 0 (.loop f101_l1)))
noncomputable def f101 : EF := ⟨28, [], f101_c, none⟩
theorem f101_rs : f101.rs = [] := of_eq_true (eq_self _)
section
variable {fs : T EF} {h : H}
def cnt (L : List Bool) (i : Nat) : Nat := cntB (fun i => rat L (i / 7) (i % 7)) i
theorem cnt_succ {L : List Bool} {a b : Nat} (hb : b < 7) : cnt L (7 * a + (b + 1)) = cnt L (7 * a + b) + (if rat L a b = true then 1 else 0) := by
  unfold cnt
  rw [show 7 * a + (b + 1) = 7 * a + b + 1 by omega, cntB_succ, show (7 * a + b) / 7 = a by omega, show (7 * a + b) % 7 = b by omega]
def BA (_ : H) (v : V) (x : Nat × Nat) : Prop := v = aV x
def f101_I (id idp : K) (L : List Bool) (I : Nat → H → Prop) (a : Nat) (fr : Fr) (h1 : H) : Prop := a ≤ 7 ∧ (∃ h0, I (cnt L (7 * a)) h0 ∧ Grow h0.nx.nat h0 h1) ∧ fr.get (K.ofNat 0) = some (.yl id) ∧ fr.get (K.ofNat 1) = some (.p idp 0) ∧ fr.get (K.ofNat 7) = some (rV L) ∧ fr.get (K.ofNat 8) = some (.i .i64 (a : Int))
def f101_J (id idp : K) (L : List Bool) (I : Nat → H → Prop) (a : Nat) (b : Nat) (fr : Fr) (h1 : H) : Prop := b ≤ 7 ∧ (∃ h0, I (cnt L (7 * a + b)) h0 ∧ Grow h0.nx.nat h0 h1) ∧ fr.get (K.ofNat 0) = some (.yl id) ∧ fr.get (K.ofNat 1) = some (.p idp 0) ∧ fr.get (K.ofNat 3) = some (.i .i64 (a : Int)) ∧ fr.get (K.ofNat 7) = some (rV L) ∧ fr.get (K.ofNat 8) = some (.i .i64 (a : Int)) ∧ fr.get (K.ofNat 12) = some (.agg ((List.range 7).map fun b => .b (rat L a b))) ∧ fr.get (K.ofNat 13) = some (.i .i64 (b : Int))
theorem all_yieldsR {idp : K} {L : List Bool} (hL : L.length = 49) (h101 : fs.get (K.ofNat 101) = some f101) : YieldsM fs (K.ofNat 101) [.p idp 0] (fun h => h.get idp = rC L) BA (arw (rat L)) := by
  intro id I D h hN h0 round
  refine callP_of (ef := f101) h101 rfl ?_
  show Ret fs f101 [.yl id, .p idp 0] h _
  apply ret_of rfl
  show W fs none f101_c _ _ _
  unfold f101_c
  have ld := rC_ldn hL (hN _ _ h0).1
  simp (disch := omega) only [f101_r0, ↓reduceIte, ld, bz]
  refine W_loop (f101_I id idp L I) (fun a => 7 - a) ?_ 0 ⟨by omega, ⟨h, h0, Grow.refl _ _⟩, by simp (disch := omega) only [getK_set, Nat.reduceEqDiff, ↓reduceIte, and_self, Int.natCast_zero]⟩
  clear ld
  rintro a fr h1 ⟨ha, ⟨h2, hI, hG⟩, g0, g1, g7, g8⟩
  unfold f101_l1
  by_cases hlt : a < 7
  · have d0 : decide ((a : Int) < 7) = true := decide_eq_true (by omega)
    have hx := fun h => ix_row (h := h) hlt hL
    have c7 : ∀ b : Nat → Bool, cellsN 7 (.agg ((List.range 7).map fun i => V.b (b i))) = some ((List.range 7).map fun i => V.b (b i)) := fun b => rfl
    have hs : ∀ cs, storeV (h1.new (.cells 7 cs)) 7 (.p h1.nx 0) (.agg ((List.range 7).map fun b => .b (rat L a b))) = .ok undefV ((h1.new (.cells 7 cs)).put h1.nx (.cells 7 (setMany cs 0 ((List.range 7).map fun b => .b (rat L a b))))) := fun cs => store_p get_new_same (c7 _) (by omega)
    have nx1 := nx_new h1 (.cells 7 [.b false, .b false, .b false, .b false, .b false, .b false, .b false])
    have gB : ∀ x, Grow h1.nx.nat h1 ((h1.new (.cells 7 [.b false, .b false, .b false, .b false, .b false, .b false, .b false])).put h1.nx x) := fun x => (Grow.new (Nat.le_refl _) _).trans (Grow.put (Nat.le_refl _) (by omega) _)
    have hsm : setMany [.b false, .b false, .b false, .b false, .b false, .b false, .b false] 0 ((List.range 7).map fun b => V.b (rat L a b)) = (List.range 7).map fun b => V.b (rat L a b) := rfl
    have ld : loadV ((h1.new (.cells 7 [.b false, .b false, .b false, .b false, .b false, .b false, .b false])).put h1.nx (.cells 7 ((List.range 7).map fun b => V.b (rat L a b)))) (.p h1.nx 0) (many? 7) = .ok (.agg ((List.range 7).map fun b => .b (rat L a b))) _ := loadn_p get_put_same (by omega)
    have gC := gB (.cells 7 ((List.range 7).map fun b => V.b (rat L a b)))
    simp (disch := omega) only [f101_r1, f101_r2, f101_r3, x_ix, Nat.reduceEqDiff, ↓reduceIte, g7, g8, d0, hx, hs, hsm, ld, bz]
    generalize (h1.new (.cells 7 [.b false, .b false, .b false, .b false, .b false, .b false, .b false])).put h1.nx (.cells 7 ((List.range 7).map fun b => V.b (rat L a b))) = h3 at *
    have hG3 := hG.trans (gC.low hG.nx)
    refine W_loop (f101_J id idp L I a) (fun b => 7 - b) ?_ 0 ⟨by omega, ⟨h2, hI, hG3⟩, by simp (disch := omega) only [getK_set, Nat.reduceEqDiff, ↓reduceIte, g0, g1, g7, g8, and_self, Int.natCast_zero]⟩
    clear hI hG3 hG gB gC ld hs hx g0 g1 g7 g8 fr nx1
    rintro b fr h1 ⟨hb, ⟨h2, hI, hG⟩, g0, g1, g3, g7, g8, g12, g13⟩
    unfold f101_l0
    by_cases hlb : b < 7
    · have d1 : decide ((b : Int) < 7) = true := decide_eq_true (by omega)
      have hx := fun h => ix_cell (h := h) (f := rat L a) hlb
      have hsu := cnt_succ (L := L) (a := a) hlb
      simp (disch := omega) only [f101_r4, f101_r5, x_ix, Nat.reduceEqDiff, ↓reduceIte, g12, g13, d1, hx, bz]
      cases hr : rat L a b with
      | true =>
        have h3 := arw_at (f := rat L) (i := 7 * a + b) (by omega) (by rw [show (7 * a + b) / 7 = a by omega, show (7 * a + b) % 7 = b by omega]; exact hr)
        rw [show (7 * a + b) / 7 = a by omega, show (7 * a + b) % 7 = b by omega] at h3
        obtain ⟨hi, he⟩ := List.getElem?_eq_some_iff.1 h3
        obtain ⟨r, h', ⟨n, hn⟩, hT, hF⟩ := round (cnt L (7 * a + b)) h2 h1 (aV (a, b)) hi hI hG (by show aV (a, b) = aV _; exact congrArg aV he.symm) (fun _ _ _ _ e => by cases e)
        rw [hr, if_pos rfl] at hsu
        have hav : V.agg [.i .i64 (a : Int), .i .i64 (b : Int)] = aV (a, b) := rfl
        simp (disch := omega) only [f101_r6, Nat.reduceEqDiff, ↓reduceIte, g0, g3, hav, bz]
        refine ⟨n, _, _, hn, ?_⟩
        cases r with
        | true =>
          simp (disch := omega) only [f101_r7, Nat.reduceEqDiff, ↓reduceIte, Bool.false_eq_true, Bool.not_true, g13, bz]
          exact ⟨b + 1, by omega, by omega, ⟨h', by rw [hsu]; exact hT rfl, Grow.refl _ _⟩, by simp (disch := omega) only [getK_set, Nat.reduceEqDiff, ↓reduceIte, g0, g1, g3, g7, g8, g12, and_self, Int.natCast_add, Int.natCast_one]⟩
        | false =>
          simp (disch := omega) only [f101_rs, Option.some.injEq, exists_eq_left', Nat.reduceEqDiff, ↓reduceIte, Bool.not_false, bz]
          exact .inr (hF rfl)
      | false =>
        rw [hr, if_neg (by simp)] at hsu
        simp (disch := omega) only [f101_r6, f101_r7, Nat.reduceEqDiff, ↓reduceIte, Bool.false_eq_true, g13, bz]
        exact ⟨b + 1, by omega, by omega, ⟨h2, by rw [hsu]; exact hI, hG⟩, by simp (disch := omega) only [getK_set, Nat.reduceEqDiff, ↓reduceIte, g0, g1, g3, g7, g8, g12, and_self, Int.natCast_add, Int.natCast_one]⟩
    · have d1 : decide ((b : Int) < 7) = false := decide_eq_false (by omega)
      have e7 : b = 7 := by omega
      subst e7
      simp (disch := omega) only [f101_r4, f101_r8, Nat.reduceEqDiff, ↓reduceIte, Bool.false_eq_true, g8, g13, d1, bz]
      exact ⟨a + 1, by omega, by omega, ⟨h2, hI, hG⟩, by simp (disch := omega) only [getK_set, Nat.reduceEqDiff, ↓reduceIte, g0, g1, g7, and_self, Int.natCast_add, Int.natCast_one]⟩
  · have d0 : decide ((a : Int) < 7) = false := decide_eq_false (by omega)
    have e7 : a = 7 := by omega
    subst e7
    have hl : (arw (rat L)).length = cnt L (7 * 7) := arw_len
    rw [hl]
    simp (disch := omega) only [f101_r1, f101_rs, Option.some.injEq, exists_eq_left', ↓reduceIte, Bool.false_eq_true, g8, d0, bz]
    exact .inl ⟨h2, hI, hG⟩
theorem f84_ret {L : List Bool} (hL : L.length = 49) : Ret fs f84 [rV L] h fun r h' => r = .fn (.ofNat 101) [.p h.nx 0] ∧ h' = h.new (rC L) := by
  apply ret_of rfl
  show W fs none f84_c _ _ _
  unfold f84_c
  have := rC_cells hL
  simp (disch := omega) only [f84_r0, f84_r1, f84_rs, x_mkfn, Option.some.injEq, exists_eq_left', Nat.reduceEqDiff, ↓reduceIte, this, bz]
  rfl
end
end Go.Ev
namespace Go.Ev
open Go Go.RowKit
structure Kp (idB : K) (h h1 : H) : Prop where
  nx : h.nx.nat ≤ h1.nx.nat
  old : ∀ id : K, id.nat < h.nx.nat → id ≠ idB → h1.get id = h.get id
  hc : HC h1
section
variable {fs : T EF} {h h1 h2 h3 : H} {idB : K}
theorem Kp.refl (hc : HC h) : Kp idB h h := ⟨Nat.le_refl _, fun _ _ _ => rfl, hc⟩
theorem Kp.trans (k : Kp idB h h1) (l : Kp idB h1 h2) : Kp idB h h2 := ⟨Nat.le_trans k.nx l.nx, fun id hi hn => (l.old id (Nat.lt_of_lt_of_le hi k.nx) hn).trans (k.old id hi hn), l.hc⟩
theorem Kp.grow (k : Kp idB h h1) {b : Nat} (g : Grow b h1 h2) (hb : h.nx.nat ≤ b) : Kp idB h h2 := ⟨Nat.le_trans k.nx g.nx, fun id hi hn => (g.old id (by omega)).trans (k.old id hi hn), g.hc k.hc⟩
theorem Kp.of (hc : HC h) {b : Nat} (g : Grow b h h2) (hb : h.nx.nat ≤ b) : Kp idB h h2 := (Kp.refl hc).grow g hb
theorem Kp.put (k : Kp idB h h1) (hi : idB.nat < h1.nx.nat) (x : Blk) : Kp idB h (h1.put idB x) := ⟨k.nx, fun id h2 hn => by rw [get_put_other hn]; exact k.old id h2 hn, (Grow.put (b := 0) (Nat.zero_le _) hi x).hc k.hc⟩
theorem Kp.putN (k : Kp idB h h1) {id' : K} (hi : id'.nat < h1.nx.nat) (hl : h.nx.nat ≤ id'.nat) (x : Blk) : Kp idB h (h1.put id' x) := ⟨k.nx, fun id h2 hn => by rw [get_put_other (fun e => by rw [e] at h2; omega)]; exact k.old id h2 hn, (Grow.put (b := 0) (Nat.zero_le _) hi x).hc k.hc⟩
theorem Kp.toGrow (k : Kp idB h h1) {b : Nat} (hb : b ≤ idB.nat) (hb2 : b ≤ h.nx.nat) : Grow b h h1 := ⟨k.nx, fun id hi => k.old id (by omega) (fun e => by rw [e] at hi; omega), fun _ => k.hc⟩
def arrC (idB : K) (Bn : Blk) (h3 : H) : Ex → Fr → H → Prop := fun e _ h4 => e = .normal ∧ h4.get idB = Bn ∧ Kp idB h3 h4
def arrA (fs : T EF) (lp : K) (c : EC) (idB : K) (Bn : Blk) (h1 : H) : Ex → Fr → H → Prop := fun e fr1 h2 => e = .normal ∧ Grow h1.nx.nat h1 h2 ∧ ∀ h3, h3.nx = h2.nx → HC h3 → (∀ id, id ≠ lp → h3.get id = h2.get id) → W fs (some lp) c (arrC idB Bn h3) fr1 h3
theorem arrC_n {Bn : Blk} {fr : Fr} {h4 : H} : arrC idB Bn h3 .normal fr h4 = (h4.get idB = Bn ∧ Kp idB h3 h4) := by unfold arrC; rw [eq_self, true_and]
theorem arrA_n {lp : K} {c : EC} {Bn : Blk} {fr1 : Fr} : arrA fs lp c idB Bn h1 .normal fr1 h2 = (Grow h1.nx.nat h1 h2 ∧ ∀ h3, h3.nx = h2.nx → HC h3 → (∀ id, id ≠ lp → h3.get id = h2.get id) → W fs (some lp) c (arrC idB Bn h3) fr1 h3) := by unfold arrA; rw [eq_self, true_and]
theorem G1_mono {d : Option K} {op : EOp} {fr : Fr} {h : H} {P P' : Fr → H → Prop} (hq : ∀ fr h, P fr h → P' fr h) (hx : G1 fs d op fr h P) : G1 fs d op fr h P' := by
  cases op <;> first
    | exact ⟨hx.1, rvP_mono (fun v h h1 => hq _ _ h1) hx.2⟩
    | (obtain ⟨k, cs, h1, h2, h3, h4⟩ := hx; exact ⟨k, cs, h1, h2, h3, hq _ _ h4⟩)
    | (obtain ⟨k, h1, h2, h3⟩ := hx; exact ⟨k, h1, h2, hq _ _ h3⟩)
theorem XG_mono : ∀ (l : List EOper) {Q Q' : Fr → H → Prop} (fr : Fr) (h : H), (∀ fr h, Q fr h → Q' fr h) → XG fs l Q fr h → XG fs l Q' fr h
  | [], _Q, _Q', fr, h, hq, hx => hq fr h hx
  | _o :: l, _Q, _Q', _fr, _h, hq, hx => GP_mono (fun hx => G1_mono (fun fr h hx => XG_mono l fr h hq hx) hx) (fun hx => XG_mono l _ _ hq hx) (show GP _ _ _ from hx)
theorem XD_mono : ∀ (l : List Stage) {Q Q' : Fr → H → Prop} (fr : Fr) (h : H), (∀ fr h, Q fr h → Q' fr h) → XD fs l Q fr h → XD fs l Q' fr h
  | [], Q, Q', fr, h, hq, hx => hq fr h hx
  | s :: l, Q, Q', fr, h, hq, hx => by
    refine XG_mono _ fr h (fun fr1 h1 hx => ⟨hx.1, hx.2.1, ?_⟩) (show XG fs s.g _ fr h from hx)
    have := hx.2.2
    cases hl : s.l with
    | none => rw [hl] at this; exact hq _ _ this
    | some o => rw [hl] at this; exact X_mono this (fun fr h hx => XD_mono l fr h hq hx)
theorem W_mono {ro : Option K} : ∀ {c : EC} {Q Q' : Ex → Fr → H → Prop} {fr : Fr} {h : H}, (∀ e fr h, Q e fr h → Q' e fr h) → W fs ro c Q fr h → W fs ro c Q' fr h := by
  intro c
  induction c with
  | skip => exact fun hq hx => hq _ _ _ hx
  | reg ops => exact fun hq hx => X_mono hx (fun fr h hx => hq _ _ _ hx)
  | draw st => exact fun hq hx => XD_mono _ _ _ (fun fr h hx => hq _ _ _ hx) hx
  | seq a b iha ihb =>
    intro Q Q' fr h hq hx
    refine iha (fun e fr h hx => ?_) (show W fs ro a _ fr h from hx)
    cases e with
    | normal => exact ihb hq hx
    | exit i => exact hq _ _ _ hx
    | ret => exact hq _ _ _ hx
  | cond x a b iha ihb =>
    intro Q Q' fr h hq hx
    have hx : condP (ev fr x) (W fs ro a Q fr h) (W fs ro b Q fr h) := hx
    show condP (ev fr x) (W fs ro a Q' fr h) (W fs ro b Q' fr h)
    cases hv : ev fr x <;> rw [hv] at hx <;> first
      | exact ⟨fun e => iha hq (hx.1 e), fun e => ihb hq (hx.2 e)⟩
      | exact hx.elim
  | block id a iha =>
    intro Q Q' fr h hq hx
    refine iha (fun e fr h hx => ?_) (show W fs ro a _ fr h from hx)
    cases e with
    | normal => exact hq _ _ _ hx
    | exit i => exact ⟨fun e => hq _ _ _ (hx.1 e), fun e => hq _ _ _ (hx.2 e)⟩
    | ret => exact hq _ _ _ hx
  | scope a iha => exact fun hq hx => iha hq hx
  | loop a _ => rintro Q Q' fr h hq ⟨e, fr', h', h1, h2⟩; exact ⟨e, fr', h', h1, hq _ _ _ h2⟩
  | rangeF f ps a c _ _ => rintro Q Q' fr h hq ⟨e, fr', h', h1, h2⟩; exact ⟨e, fr', h', h1, hq _ _ _ h2⟩
  | exit i => exact fun hq hx => hq _ _ _ hx
  | ret => exact fun hq hx => hq _ _ _ hx
  | no => exact fun _ hx => hx
theorem W_arr {ro : Option K} {f : EO} {p : K} {a c : EC} {fr : Fr} {Q : Ex → Fr → H → Prop} {idp : K} {L : List Bool} (hf : ev fr f = .fn (K.ofNat 101) [.p idp 0]) (hL : L.length = 49) (h101 : fs.get (K.ofNat 101) = some f101)
    (hc : HC h) (hp : h.get idp = rC L) (hne : idp ≠ idB) (B : Nat → Blk) (hB : h.get idB = B 0) (hlB : idB.nat < h.nx.nat) (hro : roOk ro h = true)
    (step : ∀ i x h1, (arw (rat L))[i]? = some x → x.1 < 7 → x.2 < 7 → Kp idB h h1 → h.nx.nat < h1.nx.nat → h1.get idB = B i → W fs (some h.nx) a (arrA fs h.nx c idB (B (i + 1)) h1) (fr.set p (aV x)) h1)
    (fin : ∀ h1, h1.get idB = B (arw (rat L)).length → Kp idB h h1 → Q .normal fr h1) : W fs ro (.rangeF f [p] a c) Q fr h := by
  have n1 := nx_new h (rdyB fr [p] a c)
  have g1 : Grow h.nx.nat h (h.new (rdyB fr [p] a c)) := Grow.new (Nat.le_refl _) _
  have lp := hc.cells hp
  have nB : h.nx ≠ idB := fun e => by rw [← e] at hlB; omega
  refine W_rangeM hro hf (all_yieldsR hL h101) (fun i h1 => h1.get idB = B i ∧ Kp idB h h1 ∧ h.nx.nat < h1.nx.nat) (fun _ _ => False) (fun i h1 hi => ⟨(hi.2.1.old _ lp hne).trans hp, hi.2.1.hc, hi.2.2⟩) ⟨(g1.old _ hlB).trans hB, Kp.of hc g1 (Nat.le_refl _), by omega⟩ ?_ ?_ (fun _ _ _ h => h.elim)
  · rintro i h1 h2 v hi ⟨hI, hk, hn⟩ hG hb hv _
    rw [show v = aV _ from hv]
    have hx := List.getElem?_eq_getElem hi
    obtain ⟨x1, x2, _⟩ := arw_lt (List.getElem_mem hi)
    have hn2 : h.nx.nat < h2.nx.nat := by have := hG.nx; omega
    have k2 := hk.grow hG hk.nx
    refine W_mono ?_ (step i _ h2 hx x1 x2 k2 hn2 ((hG.old _ (by omega)).trans hI))
    rintro e fr1 h3 ⟨rfl, g3, hw⟩
    have k3 := k2.grow g3 k2.nx
    have hn3 : h.nx.nat < h3.nx.nat := by have := g3.nx; omega
    rw [rndA_n]
    refine ⟨(g3.old _ hn2).trans hb, ?_⟩
    refine W_mono ?_ (hw (h3.put h.nx (bsyB fr [p] a c)) rfl (k3.putN hn3 (Nat.le_refl _) _).hc (fun id hid => get_put_other hid))
    rintro e fr2 h4 ⟨rfl, b4, k4⟩
    rw [rndK_n]
    refine ⟨(k4.old _ hn3 nB).trans get_put_same, ?_, ?_, ?_⟩
    · rw [get_put_other nB.symm]; exact b4
    · exact ((k3.putN hn3 (Nat.le_refl _) _).trans k4).putN (Nat.lt_of_lt_of_le hn3 k4.nx) (Nat.le_refl _) _
    · exact Nat.lt_of_lt_of_le hn3 k4.nx
  · rintro h1 h2 ⟨hI, hk, hn⟩ hG
    have hk2 := hk.grow hG hk.nx
    have hn2 : h.nx.nat < h2.nx.nat := by have := hG.nx; omega
    exact fin _ (by rw [get_put_other nB.symm]; exact (hG.old _ (by omega)).trans hI) (hk2.putN hn2 (Nat.le_refl _) _)
end
end Go.Ev
namespace Go.Ev
open Go Go.RowKit
noncomputable def f70_r0 : List EOper := [oG 1 (.box 49 (tG 0)), oG 2 (.alloc 49 (List.replicate 49 (.b false)))]
noncomputable def f70_r1 : List EOper := [oG 3 (.alloc 49 (List.replicate 49 (.b false)))]
noncomputable def f70_r2 : List EOper := [oG 5 (.ldn 49 (tG 1)), oG 6 (.call (fG 84) [(tG 5)])]
noncomputable def f70_r3 : List EOper := [oG 4 (.alloc 2 [(.i .i64 (.ofNat 0)), (.i .i64 (.ofNat 0))]), ⟨none, none, .st 2 (tG 4) (tG 7)⟩]
noncomputable def f70_a0 : EC := (.reg f70_r3)
noncomputable def f70_r4 : List Stage := [⟨[oG 8 (.fadr 1 (tG 4)), oG 9 (.ld (tG 8)), oG 10 (.fadr 0 (tG 4)), oG 11 (.ld (tG 10)), oG 12 (.iadr 7 7 (tG 3) (tG 9)), oG 13 (.iadr 7 1 (tG 12) (tG 11))], [], (some ⟨none, none, .st 1 (tG 13) (.c (.b true))⟩), []⟩, ⟨[], [], none, []⟩]
noncomputable def f70_b0 : EC := (.block 1 (.draw f70_r4))
noncomputable def f70_r5 : List EOper := [oG 14 (.ldn 49 (tG 3)), ⟨none, none, .st 49 (tG 2) (tG 14)⟩]
noncomputable def f70_c : EC := (.seq (.reg f70_r0) (.seq (.reg f70_r1) (.seq (.seq (.reg f70_r2) (.block 0 (.rangeF (tG 6) [(.ofNat 7)] f70_a0 f70_b0))) (.seq (.reg f70_r5) .ret))))
noncomputable def f70 : EF := ⟨15, [.celln (.ofNat 2) 49], f70_c, none⟩
theorem f70_rs : f70.rs = [.celln (.ofNat 2) 49] := of_eq_true (eq_self _)
section
variable {fs : T EF} {h : H}
def onF (l : List (Nat × Nat)) (v : Bool) (f : Nat → Nat → Bool) (a b : Nat) : Bool := if (a, b) ∈ l then v else f a b
theorem onF_nil {v : Bool} {f : Nat → Nat → Bool} : onF [] v f = f := by funext a b; simp [onF]
theorem onF_snoc {l : List (Nat × Nat)} {x : Nat × Nat} {v : Bool} {f : Nat → Nat → Bool} : onF (l ++ [x]) v f = fun a b => if a = x.1 ∧ b = x.2 then v else onF l v f a b := by
  funext a b
  unfold onF
  by_cases e : a = x.1 ∧ b = x.2
  · rw [if_pos e, if_pos (by rw [e.1, e.2]; simp)]
  · rw [if_neg e]
    have : (a, b) ∈ l ++ [x] ↔ (a, b) ∈ l := by
      rw [List.mem_append, List.mem_singleton]
      exact ⟨fun h => h.resolve_right (fun h => e (by rw [← h]; exact ⟨rfl, rfl⟩)), .inl⟩
    simp [this]
def swp (x : Nat × Nat) : Nat × Nat := (x.2, x.1)
theorem arr_var {h : H} {x y : Nat} : storeV (h.new (.cells 2 [.i .i64 0, .i .i64 0])) 2 (.p h.nx 0) (aV (x, y)) = .ok undefV ((h.new (.cells 2 [.i .i64 0, .i .i64 0])).put h.nx (.cells 2 [.i .i64 (x : Int), .i .i64 (y : Int)])) ∧
    Grow h.nx.nat h ((h.new (.cells 2 [.i .i64 0, .i .i64 0])).put h.nx (.cells 2 [.i .i64 (x : Int), .i .i64 (y : Int)])) ∧ ((h.new (.cells 2 [.i .i64 0, .i .i64 0])).put h.nx (.cells 2 [.i .i64 (x : Int), .i .i64 (y : Int)])).get h.nx = .cells 2 [.i .i64 (x : Int), .i .i64 (y : Int)] ∧
    ((h.new (.cells 2 [.i .i64 0, .i .i64 0])).put h.nx (.cells 2 [.i .i64 (x : Int), .i .i64 (y : Int)])).nx.nat = h.nx.nat + 1 := by
  have n2 := nx_new h (.cells 2 [.i .i64 0, .i .i64 0])
  exact ⟨st2 (a := .i .i64 0) (b := .i .i64 0) get_new_same, (Grow.new (Nat.le_refl _) _).trans (Grow.put (Nat.le_refl _) (by omega) _), get_put_same, n2⟩
theorem rl_false : rC (rl fun _ _ => false) = .cells 49 (List.replicate 49 (.b false)) := rfl
def turnR (L : List Bool) : List Bool := rl fun a b => rat L b a
theorem f70_ret {L : List Bool} (hL : L.length = 49) (h84 : fs.get (.ofNat 84) = some f84) (h101 : fs.get (.ofNat 101) = some f101) (hc : HC h) : Ret fs f70 [rV L] h fun r h' => r = rV (turnR L) ∧ Grow h.nx.nat h h' := by
  apply ret_of rfl
  show W fs none f70_c _ _ _
  unfold f70_c
  have c1 := rC_cells hL
  have n1 := nx_new h (.cells 49 (L.map V.b))
  have g1 : Grow h.nx.nat h (h.new (.cells 49 (L.map V.b))) := Grow.new (Nat.le_refl _) _
  have e1 : (h.new (.cells 49 (L.map V.b))).get h.nx = rC L := get_new_same
  simp (disch := omega) only [f70_r0, ↓reduceIte, c1, bz]
  generalize h.new (.cells 49 (L.map V.b)) = h1 at *
  have n2 := nx_new h1 (.cells 49 (List.replicate 49 (.b false)))
  have g2 : Grow h1.nx.nat h1 (h1.new (.cells 49 (List.replicate 49 (.b false)))) := Grow.new (Nat.le_refl _) _
  have e2 : (h1.new (.cells 49 (List.replicate 49 (.b false)))).get h1.nx = rC (rl fun _ _ => false) := by rw [rl_false]; exact get_new_same
  generalize h1.new (.cells 49 (List.replicate 49 (.b false))) = h2 at *
  have n3 := nx_new h2 (.cells 49 (List.replicate 49 (.b false)))
  have g3 : Grow h2.nx.nat h2 (h2.new (.cells 49 (List.replicate 49 (.b false)))) := Grow.new (Nat.le_refl _) _
  have e3 : (h2.new (.cells 49 (List.replicate 49 (.b false)))).get h2.nx = rC (rl fun _ _ => false) := by rw [rl_false]; exact get_new_same
  simp (disch := omega) only [f70_r1, bz]
  generalize h2.new (.cells 49 (List.replicate 49 (.b false))) = h3 at *
  have hc3 := g3.hc (g2.hc (g1.hc hc))
  have hl := rC_ldn hL (h := h3) (id := h.nx) ((g3.old _ (by omega)).trans ((g2.old _ (by omega)).trans e1))
  simp (disch := omega) only [f70_r2, Nat.reduceEqDiff, ↓reduceIte, hl, bz]
  refine (callP_0 (ef := f84) h84 rfl (f84_ret hL)).mono ?_
  rintro r h4 ⟨rfl, rfl⟩
  have n4 := nx_new h3 (rC L)
  have g4 : Grow h3.nx.nat h3 (h3.new (rC L)) := Grow.new (Nat.le_refl _) _
  have e4 : (h3.new (rC L)).get h3.nx = rC L := get_new_same
  have hc4 := g4.hc hc3
  have gA : Grow h.nx.nat h (h3.new (rC L)) := g1.trans ((g2.low (by omega)).trans ((g3.low (by omega)).trans (g4.low (by omega))))
  have e2' := (g4.old _ (by omega)).trans ((g3.old h1.nx (by omega)).trans e2)
  have e3' := (g4.old h2.nx (by omega)).trans e3
  simp (disch := omega) only [bz]
  generalize h3.new (rC L) = h4 at *
  generalize hfr : T.set (K.ofNat 6) _ _ = fr
  have g2 : fr.get (K.ofNat 2) = some (.p h1.nx 0) := by rw [← hfr]; simp only [getK_set, Nat.reduceEqDiff, ↓reduceIte]
  have g3 : fr.get (K.ofNat 3) = some (.p h2.nx 0) := by rw [← hfr]; simp only [getK_set, Nat.reduceEqDiff, ↓reduceIte]
  have g6 : fr.get (K.ofNat 6) = some (.fn (K.ofNat 101) [.p h3.nx 0]) := by rw [← hfr]; simp only [getK_set, ↓reduceIte]
  clear hfr
  refine W_arr (idB := h2.nx) (by simp (disch := omega) only [ev_t, getV_some, g6]) hL h101 hc4 e4 (kNe (by omega)).symm (fun i => rC (rl (onF (((arw (rat L)).take i).map swp) true fun _ _ => false))) (by rw [e3', List.take_zero, List.map_nil, onF_nil]) (by omega) rfl ?_ ?_
  · rintro i ⟨x, y⟩ h5 hx hx1 hx2 hk hn hB
    obtain ⟨hst, gB, c7, n5⟩ := arr_var (h := h5) (x := x) (y := y)
    have b6 := (gB.old _ (by omega)).trans hB
    unfold f70_a0
    simp (disch := omega) only [f70_r3, Nat.reduceEqDiff, ↓reduceIte, hst, arrA_n, bz]
    generalize (h5.new (.cells 2 [.i .i64 0, .i .i64 0])).put h5.nx (.cells 2 [.i .i64 (x : Int), .i .i64 (y : Int)]) = h6 at *
    refine ⟨gB, fun h7 n7 hc7 o7 => ?_⟩
    have l0 := ld20 ((o7 _ (kNe hn).symm).trans c7)
    have l1 := ld21 ((o7 _ (kNe hn).symm).trans c7)
    have b7 := (o7 _ (kNe (show h2.nx.nat < h4.nx.nat by omega))).trans b6
    have hs := rC_st (v := true) hx2 hx1 b7
    unfold f70_b0
    simp (disch := omega) only [f70_r4, Nat.reduceEqDiff, ↓reduceIte, g3, l0, l1, hs, arrC_n, bz]
    refine ⟨?_, (Kp.refl hc7).put (by rw [n7]; omega) _⟩
    rw [get_put_same, List.take_add_one, hx]
    simp only [Option.toList_some, List.map_append, List.map_cons, List.map_nil, onF_snoc]
    rfl
  · intro h5 hB hk
    rw [List.take_length] at hB
    have hF : rl (onF ((arw (rat L)).map swp) true fun _ _ => false) = turnR L := by
      refine rl_congr fun a b ha hb => ?_
      unfold onF
      have : (a, b) ∈ (arw (rat L)).map swp ↔ rat L b a = true := by
        rw [List.mem_map]
        constructor
        · rintro ⟨⟨p, q⟩, h1, h2⟩
          cases h2
          exact (mem_arw.1 h1).2.2
        · intro h1
          exact ⟨(b, a), mem_arw.2 ⟨hb, ha, h1⟩, rfl⟩
      by_cases e : rat L b a = true
      · rw [if_pos (this.2 e), e]
      · rw [if_neg (fun h => e (this.1 h))]; simpa using e
    rw [hF] at hB
    have l5 := rC_ldn (L := turnR L) rl_len hB
    have e25 := (hk.old _ (by omega) (kNe (by omega))).trans e2'
    have hs5 : storeV h5 49 (.p h1.nx 0) (rV (turnR L)) = .ok undefV (h5.put h1.nx (rC (turnR L))) := rC_stn rl_len rl_len e25
    have hr5 : readP (h5.put h1.nx (rC (turnR L))) (.p h1.nx 0) (many? 49) = some (rV (turnR L)) := rC_read rl_len get_put_same
    simp (disch := omega) only [f70_r5, f70_rs, Option.some.injEq, exists_eq_left', Nat.reduceEqDiff, ↓reduceIte, g2, g3, l5, hs5, hr5, bz]
    exact gA.trans (((hk.toGrow (b := h.nx.nat) (by omega) (by omega))).trans (Grow.put (k := h1.nx) (by omega) (by have := hk.nx; omega) _))
end
end Go.Ev
namespace Go.Ev
open Go Go.RowKit
structure Ks (S : K → Prop) (h h1 : H) : Prop where
  nx : h.nx.nat ≤ h1.nx.nat
  old : ∀ id : K, id.nat < h.nx.nat → ¬ S id → h1.get id = h.get id
  hc : HC h1
structure Kr (S : K → Prop) (lp : K) (h3 h4 : H) : Prop where
  nx : h3.nx.nat ≤ h4.nx.nat
  old : ∀ id : K, id.nat ≤ lp.nat → ¬ S id → h4.get id = h3.get id
  hc : HC h4
section
variable {fs : T EF} {h h1 h2 h3 h4 : H} {S : K → Prop} {lp : K}
theorem Ks.refl (hc : HC h) : Ks S h h := ⟨Nat.le_refl _, fun _ _ _ => rfl, hc⟩
theorem Ks.grow (k : Ks S h h1) {b : Nat} (g : Grow b h1 h2) (hb : h.nx.nat ≤ b) : Ks S h h2 := ⟨Nat.le_trans k.nx g.nx, fun id hi hn => (g.old id (by omega)).trans (k.old id hi hn), g.hc k.hc⟩
theorem Ks.of (hc : HC h) {b : Nat} (g : Grow b h h2) (hb : h.nx.nat ≤ b) : Ks S h h2 := (Ks.refl hc).grow g hb
theorem Ks.putN (k : Ks S h h1) {id' : K} (hi : id'.nat < h1.nx.nat) (hl : h.nx.nat ≤ id'.nat) (x : Blk) : Ks S h (h1.put id' x) := ⟨k.nx, fun id h2 hn => by rw [get_put_other (fun e => by rw [e] at h2; omega)]; exact k.old id h2 hn, (Grow.put (b := 0) (Nat.zero_le _) hi x).hc k.hc⟩
theorem Ks.toGrow (k : Ks S h h1) {b : Nat} (hb : ∀ id, S id → b ≤ id.nat) (hb2 : b ≤ h.nx.nat) : Grow b h h1 := ⟨k.nx, fun id hi => k.old id (by omega) (fun e => by have := hb _ e; omega), fun _ => k.hc⟩
theorem Kr.refl (hc : HC h) : Kr S lp h h := ⟨Nat.le_refl _, fun _ _ _ => rfl, hc⟩
theorem Kr.grow (k : Kr S lp h h1) {b : Nat} (g : Grow b h1 h2) (hb : lp.nat < b) : Kr S lp h h2 := ⟨Nat.le_trans k.nx g.nx, fun id hi hn => (g.old id (by omega)).trans (k.old id hi hn), g.hc k.hc⟩
theorem Kr.of (hc : HC h) {b : Nat} (g : Grow b h h2) (hb : lp.nat < b) : Kr S lp h h2 := (Kr.refl hc).grow g hb
theorem Kr.put (k : Kr S lp h h1) {id' : K} (hi : id'.nat < h1.nx.nat) (hl : S id' ∨ lp.nat < id'.nat) (x : Blk) : Kr S lp h (h1.put id' x) :=
  ⟨k.nx, fun id h2 hn => by rw [get_put_other (fun e => by rcases hl with hl | hl; exact hn (e ▸ hl); rw [e] at h2; omega)]; exact k.old id h2 hn, (Grow.put (b := 0) (Nat.zero_le _) hi x).hc k.hc⟩
theorem Kr.trans (k : Kr S lp h h1) (l : Kr S lp h1 h2) : Kr S lp h h2 := ⟨Nat.le_trans k.nx l.nx, fun id hi hn => (l.old id hi hn).trans (k.old id hi hn), l.hc⟩
theorem Ks.kr (k : Ks S h h1) (hl : lp.nat < h.nx.nat) : Kr S lp h h1 := ⟨k.nx, fun id hi hn => k.old id (by omega) hn, k.hc⟩
def itC (S : K → Prop) (lp : K) (P : H → Prop) (D : Ex → H → Prop) (h3 : H) : Ex → Fr → H → Prop := fun e _ h4 => (e = .normal → P h4) ∧ (e ≠ .normal → D e h4) ∧ Kr S lp h3 h4
def itA (fs : T EF) (S : K → Prop) (lp : K) (c : EC) (P : H → Prop) (D : Ex → H → Prop) (h1 : H) : Ex → Fr → H → Prop := fun e fr1 h2 => e = .normal ∧ Grow h1.nx.nat h1 h2 ∧ ∀ h3, h3.nx = h2.nx → HC h3 → (∀ id, id ≠ lp → h3.get id = h2.get id) → (h3.get lp).isL = true → W fs (some lp) c (itC S lp P D h3) fr1 h3
section
variable {P : H → Prop} {D : Ex → H → Prop} {fr : Fr} {c : EC} {i : Nat}
theorem itC_n : itC S lp P D h3 .normal fr h4 = (P h4 ∧ Kr S lp h3 h4) := by
  apply propext; unfold itC
  exact ⟨fun h => ⟨h.1 rfl, h.2.2⟩, fun h => ⟨fun _ => h.1, fun e => absurd rfl e, h.2⟩⟩
theorem itC_r : itC S lp P D h3 .ret fr h4 = (D .ret h4 ∧ Kr S lp h3 h4) := by
  apply propext; unfold itC
  exact ⟨fun h => ⟨h.2.1 (by simp), h.2.2⟩, fun h => ⟨(fun e => by cases e), fun _ => h.1, h.2⟩⟩
theorem itA_n : itA fs S lp c P D h1 .normal fr h2 = (Grow h1.nx.nat h1 h2 ∧ ∀ h3, h3.nx = h2.nx → HC h3 → (∀ id, id ≠ lp → h3.get id = h2.get id) → (h3.get lp).isL = true → W fs (some lp) c (itC S lp P D h3) fr h3) := by unfold itA; rw [eq_self, true_and]
end
theorem W_itr {ro : Option K} {f : EO} {k : K} {caps : List V} {p : K} {a c : EC} {fr : Fr} {Q : Ex → Fr → H → Prop} {N : H → Prop} {Y : List (Nat × Nat)} (hf : ev fr f = .fn k caps) (hy : YieldsM fs k caps N BA Y)
    (S : K → Prop) (P : Nat → H → Prop) (D : Ex → H → Prop) (hc : HC h) (hro : roOk ro h = true) (hS : ∀ id, S id → id.nat < h.nx.nat) (hN : ∀ h1, Ks S h h1 → N h1)
    (hP : ∀ i h1 h2, P i h1 → HC h1 → h.nx.nat < h1.nx.nat → (∀ id : K, id.nat < h1.nx.nat → id ≠ h.nx → h2.get id = h1.get id) → P i h2)
    (hD : ∀ e h1 h2, D e h1 → HC h1 → h.nx.nat < h1.nx.nat → (∀ id : K, id.nat < h1.nx.nat → id ≠ h.nx → h2.get id = h1.get id) → D e h2)
    (hP0 : ∀ h1, Grow h.nx.nat h h1 → P 0 h1)
    (step : ∀ i x h1, Y[i]? = some x → Ks S h h1 → h.nx.nat < h1.nx.nat → P i h1 → W fs (some h.nx) a (itA fs S h.nx c (P (i + 1)) D h1) (fr.set p (aV x)) h1)
    (fin : ∀ h1, P Y.length h1 → Ks S h h1 → h.nx.nat < h1.nx.nat → Q .normal fr h1) (brk : ∀ e h1, e ≠ .normal → D e h1 → Ks S h h1 → h.nx.nat < h1.nx.nat → Q e fr h1) : W fs ro (.rangeF f [p] a c) Q fr h := by
  have n1 := nx_new h (rdyB fr [p] a c)
  have g1 : Grow h.nx.nat h (h.new (rdyB fr [p] a c)) := Grow.new (Nat.le_refl _) _
  have nS : ¬ S h.nx := fun e => by have := hS _ e; omega
  refine W_rangeM hro hf hy (fun i h1 => P i h1 ∧ Ks S h h1 ∧ h.nx.nat < h1.nx.nat) (fun e h1 => D e h1 ∧ Ks S h h1 ∧ h.nx.nat < h1.nx.nat) (fun i h1 hi => ⟨hN _ hi.2.1, hi.2.1.hc, hi.2.2⟩) ⟨hP0 _ g1, Ks.of hc g1 (Nat.le_refl _), by omega⟩ ?_ ?_ ?_
  · rintro i h1 h2 v hi ⟨hI, hk, hn⟩ hG hb hv _
    rw [show v = aV _ from hv]
    have hn2 : h.nx.nat < h2.nx.nat := by have := hG.nx; omega
    have k2 := hk.grow hG hk.nx
    refine W_mono ?_ (step i _ h2 (List.getElem?_eq_getElem hi) k2 hn2 (hP _ _ _ hI hk.hc hn fun id h1 _ => hG.old _ h1))
    rintro e fr1 h3 ⟨rfl, g3, hw⟩
    have k3 := k2.grow g3 k2.nx
    have hn3 : h.nx.nat < h3.nx.nat := by have := g3.nx; omega
    rw [rndA_n]
    refine ⟨(g3.old _ hn2).trans hb, ?_⟩
    have k3b := k3.putN hn3 (Nat.le_refl _) (bsyB fr [p] a c)
    refine W_mono ?_ (hw (h3.put h.nx (bsyB fr [p] a c)) rfl k3b.hc (fun id hid => get_put_other hid) (by rw [get_put_same]; rfl))
    rintro e fr2 h4 ⟨q1, q2, k4⟩
    have hn4 : h.nx.nat < h4.nx.nat := Nat.lt_of_lt_of_le hn3 k4.nx
    have k5 : Ks S h h4 := ⟨Nat.le_of_lt hn4, fun id hid hs => (k4.old id (by omega) hs).trans (k3b.old id hid hs), k4.hc⟩
    have e4 : h4.get h.nx = bsyB fr [p] a c := (k4.old _ (Nat.le_refl _) nS).trans get_put_same
    have pp : ∀ x, ∀ id : K, id.nat < h4.nx.nat → id ≠ h.nx → (h4.put h.nx x).get id = h4.get id := fun x id _ hid => get_put_other hid
    have k6 := fun x => k5.putN hn4 (Nat.le_refl _) x
    cases e with
    | normal =>
      rw [rndK_n]
      exact ⟨e4, hP _ _ _ (q1 rfl) k4.hc hn4 (pp _), k6 _, hn4⟩
    | exit j =>
      rw [rndK_e]
      exact ⟨e4, hD _ _ _ (q2 (by simp)) k4.hc hn4 (pp _), k6 _, hn4⟩
    | ret =>
      rw [rndK_r]
      exact ⟨e4, hD _ _ _ (q2 (by simp)) k4.hc hn4 (pp _), k6 _, hn4⟩
  · rintro h1 h2 ⟨hI, hk, hn⟩ hG
    have hn2 : h.nx.nat < h2.nx.nat := by have := hG.nx; omega
    exact fin _ (hP _ _ _ hI hk.hc hn fun id h1 h3 => by rw [get_put_other h3]; exact hG.old _ h1) ((hk.grow hG hk.nx).putN hn2 (Nat.le_refl _) _) hn2
  · rintro e h1 hne ⟨hd, hk, hn⟩
    exact brk e h1 hne hd hk hn
end
end Go.Ev
namespace Go.Ev
open Go Go.RowKit
noncomputable def f96_r0 : List EOper := [oG 4 (.as (.c (.b false)))]
noncomputable def f96_r1 : List EOper := [oG 5 (.mv (tG 1)), oG 6 (.bin .geq (tG 5) (cG 0)), oG 7 (.mv (tG 6)), gG 8 7 true (.mv (tG 1)), gG 9 7 true (.mv (tG 0)), gG 10 7 true (.bin .lss (tG 8) (tG 9)), oG 11 (.pick (tG 7) (tG 10) (.c (.b false))), oG 4 (.as (tG 11))]
noncomputable def f96_c : EC := (.seq (.reg f96_r0) (.seq (.reg f96_r1) .ret))
noncomputable def f96 : EF := ⟨12, [.tmp (.ofNat 4)], f96_c, none⟩
theorem f96_rs : f96.rs = [.tmp (.ofNat 4)] := of_eq_true (eq_self _)
noncomputable def f77_r0 : List EOper := [oG 1 (.box 2 (tG 0)), oG 2 (.alloc 2 [(.i .i64 (.ofNat 0)), (.i .i64 (.ofNat 0))])]
noncomputable def f77_r1 : List EOper := [oG 3 (.fadr 1 (tG 1)), oG 4 (.ld (tG 3)), oG 5 (.fadr 0 (tG 1)), oG 6 (.ld (tG 5)), oG 7 (.build [(.i .i64 (.ofNat 0)), (.i .i64 (.ofNat 0))] [(0, 1, (tG 4)), (1, 1, (tG 6))]), ⟨none, none, .st 2 (tG 2) (tG 7)⟩]
noncomputable def f77_c : EC := (.seq (.reg f77_r0) (.seq (.reg f77_r1) .ret))
noncomputable def f77 : EF := ⟨8, [.celln (.ofNat 2) 2], f77_c, none⟩
theorem f77_rs : f77.rs = [.celln (.ofNat 2) 2] := of_eq_true (eq_self _)
noncomputable def f78_r0 : List EOper := [oG 1 (.box 2 (tG 0)), oG 2 (.alloc 2 [(.i .i64 (.ofNat 0)), (.i .i64 (.ofNat 0))])]
noncomputable def f78_r1 : List EOper := [oG 3 (.fadr 0 (tG 1)), oG 4 (.ld (tG 3)), oG 5 (.fadr 1 (tG 1)), oG 6 (.ld (tG 5)), oG 7 (.build [(.i .i64 (.ofNat 0)), (.i .i64 (.ofNat 0))] [(0, 1, (tG 4)), (1, 1, (tG 6))]), ⟨none, none, .st 2 (tG 2) (tG 7)⟩]
noncomputable def f78_c : EC := (.seq (.reg f78_r0) (.seq (.reg f78_r1) .ret))
noncomputable def f78 : EF := ⟨8, [.celln (.ofNat 2) 2], f78_c, none⟩
theorem f78_rs : f78.rs = [.celln (.ofNat 2) 2] := of_eq_true (eq_self _)
noncomputable def f56_r0 : List EOper := [oG 1 (.box 2 (tG 0)), oG 2 (.alloc 2 [(.i .i64 (.ofNat 0)), (.i .i64 (.ofNat 0))])]
noncomputable def f56_r1 : List EOper := [oG 3 (.iadr 2 1 (tG 1) (cG 0)), oG 4 (.ld (tG 3)), oG 5 (.iadr 2 1 (tG 1) (cG 1)), oG 6 (.ld (tG 5)), oG 7 (.build [(.i .i64 (.ofNat 0)), (.i .i64 (.ofNat 0))] [(0, 1, (tG 4)), (1, 1, (tG 6))]), ⟨none, none, .st 2 (tG 2) (tG 7)⟩]
noncomputable def f56_c : EC := (.seq (.reg f56_r0) (.seq (.reg f56_r1) .ret))
noncomputable def f56 : EF := ⟨8, [.celln (.ofNat 2) 2], f56_c, none⟩
theorem f56_rs : f56.rs = [.celln (.ofNat 2) 2] := of_eq_true (eq_self _)
noncomputable def f85_r0 : List EOper := [oG 2 (.box 49 (tG 0)), oG 3 (.box 2 (tG 1)), oG 4 (.as (.c (.b false)))]
noncomputable def f85_r1 : List Stage := [⟨[oG 5 (.fadr 0 (tG 3)), oG 6 (.ld (tG 5))], [], (some (oG 7 (.call (fG 96) [(cG 7), (tG 6)]))), []⟩, ⟨[oG 8 (.mv (tG 7)), gG 9 8 true (.fadr 1 (tG 3)), gG 10 8 true (.ld (tG 9))], [], (some (gG 11 8 true (.call (fG 96) [(cG 7), (tG 10)]))), []⟩, ⟨[oG 12 (.pick (tG 8) (tG 11) (.c (.b false))), oG 13 (.mv (tG 12)), gG 14 13 true (.fadr 0 (tG 3)), gG 15 13 true (.ld (tG 14)), gG 16 13 true (.fadr 1 (tG 3)), gG 17 13 true (.ld (tG 16)), gG 18 13 true (.iadr 7 7 (tG 2) (tG 15)), gG 19 13 true (.iadr 7 1 (tG 18) (tG 17)), gG 20 13 true (.ld (tG 19)), oG 21 (.pick (tG 13) (tG 20) (.c (.b false)))], [], (some (oG 4 (.as (tG 21)))), []⟩, ⟨[], [], none, []⟩]
noncomputable def f85_c : EC := (.seq (.reg f85_r0) (.seq (.draw f85_r1) .ret))
noncomputable def f85 : EF := ⟨22, [.tmp (.ofNat 4)], f85_c, none⟩
theorem f85_rs : f85.rs = [.tmp (.ofNat 4)] := of_eq_true (eq_self _)
noncomputable def pV (x : Int × Int) : V := .agg [.i .i64 x.1, .i .i64 x.2]
theorem aV_pV {x : Nat × Nat} : aV x = pV ((x.1 : Int), (x.2 : Int)) := rfl
def nodeB (n x : Int) : Bool := decide (0 ≤ x ∧ x < n)
def hasR (L : List Bool) (x : Int × Int) : Bool := nodeB 7 x.1 && (nodeB 7 x.2 && rat L x.1.toNat x.2.toNat)
section
variable {fs : T EF} {h : H}
theorem rd2 {id : K} {a b : V} (hb : h.get id = .cells 2 [a, b]) : readP h (.p id 0) (many? 2) = some (.agg [a, b]) := by
  have h1 := ldn2 hb
  unfold loadV okv at h1
  cases e : readP h (.p id 0) (many? 2) with
  | none => rw [e] at h1; cases h1
  | some v => rw [e] at h1; have h1 : RV.ok v h = RV.ok _ h := h1; injection h1 with h1; rw [h1]
theorem f96_ret {n x : Int} : Ret fs f96 [.i .i64 n, .i .i64 x] h fun r _ => r = .b (nodeB n x) := by
  unfold nodeB
  apply ret_of rfl
  show W fs none f96_c _ _ _
  unfold f96_c
  by_cases h1 : 0 ≤ x
  · have d1 : decide (x ≥ 0) = true := by simpa using h1
    by_cases h2 : x < n
    · have d2 : decide (x < n) = true := by simpa using h2
      have d3 : decide (0 ≤ x ∧ x < n) = true := by simp; omega
      simp (disch := omega) only [f96_r0, f96_r1, f96_rs, Option.some.injEq, exists_eq_left', Nat.reduceEqDiff, ↓reduceIte, d1, d2, d3, bz]
    · have d2 : decide (x < n) = false := by simpa using h2
      have d3 : decide (0 ≤ x ∧ x < n) = false := by simp; omega
      simp (disch := omega) only [f96_r0, f96_r1, f96_rs, Option.some.injEq, exists_eq_left', Nat.reduceEqDiff, ↓reduceIte, d1, d2, d3, bz]
  · have d1 : decide (x ≥ 0) = false := by simpa using h1
    have d3 : decide (0 ≤ x ∧ x < n) = false := by simp; omega
    simp (disch := omega) only [f96_r0, f96_r1, f96_rs, Option.some.injEq, exists_eq_left', Nat.reduceEqDiff, ↓reduceIte, Bool.false_eq_true, d1, d3, bz]
theorem f77_ret {x : Int × Int} : Ret fs f77 [pV x] h fun r _ => r = pV (x.2, x.1) := by
  apply ret_of rfl
  show W fs none f77_c _ _ _
  unfold f77_c
  have c1 : cellsN 2 (pV x) = some [.i .i64 x.1, .i .i64 x.2] := rfl
  have n1 := nx_new h (.cells 2 [.i .i64 x.1, .i .i64 x.2])
  have e1 : ((h.new (.cells 2 [.i .i64 x.1, .i .i64 x.2])).new (.cells 2 [.i .i64 0, .i .i64 0])).get h.nx = .cells 2 [.i .i64 x.1, .i .i64 x.2] := by rw [get_new_old (by omega)]; exact get_new_same
  have s1 := st2 (c := .i .i64 x.2) (d := .i .i64 x.1) (get_new_same (h := h.new (.cells 2 [.i .i64 x.1, .i .i64 x.2])) (x := .cells 2 [.i .i64 0, .i .i64 0]))
  have r1 : readP (((h.new (.cells 2 [.i .i64 x.1, .i .i64 x.2])).new (.cells 2 [.i .i64 0, .i .i64 0])).put (h.new (.cells 2 [.i .i64 x.1, .i .i64 x.2])).nx (.cells 2 [.i .i64 x.2, .i .i64 x.1])) (.p (h.new (.cells 2 [.i .i64 x.1, .i .i64 x.2])).nx 0) (many? 2) = some (pV (x.2, x.1)) := rd2 get_put_same
  simp (disch := omega) only [f77_r0, f77_r1, f77_rs, Option.some.injEq, exists_eq_left', Nat.reduceEqDiff, ↓reduceIte, c1, ld20 e1, ld21 e1, s1, r1, bz]
theorem f78_ret {x : Int × Int} : Ret fs f78 [pV x] h fun r _ => r = pV x := by
  apply ret_of rfl
  show W fs none f78_c _ _ _
  unfold f78_c
  have c1 : cellsN 2 (pV x) = some [.i .i64 x.1, .i .i64 x.2] := rfl
  have n1 := nx_new h (.cells 2 [.i .i64 x.1, .i .i64 x.2])
  have e1 : ((h.new (.cells 2 [.i .i64 x.1, .i .i64 x.2])).new (.cells 2 [.i .i64 0, .i .i64 0])).get h.nx = .cells 2 [.i .i64 x.1, .i .i64 x.2] := by rw [get_new_old (by omega)]; exact get_new_same
  have s1 := st2 (c := .i .i64 x.1) (d := .i .i64 x.2) (get_new_same (h := h.new (.cells 2 [.i .i64 x.1, .i .i64 x.2])) (x := .cells 2 [.i .i64 0, .i .i64 0]))
  have r1 : readP (((h.new (.cells 2 [.i .i64 x.1, .i .i64 x.2])).new (.cells 2 [.i .i64 0, .i .i64 0])).put (h.new (.cells 2 [.i .i64 x.1, .i .i64 x.2])).nx (.cells 2 [.i .i64 x.1, .i .i64 x.2])) (.p (h.new (.cells 2 [.i .i64 x.1, .i .i64 x.2])).nx 0) (many? 2) = some (pV x) := rd2 get_put_same
  simp (disch := omega) only [f78_r0, f78_r1, f78_rs, Option.some.injEq, exists_eq_left', Nat.reduceEqDiff, ↓reduceIte, c1, ld20 e1, ld21 e1, s1, r1, bz]
theorem f56_ret {x : Int × Int} : Ret fs f56 [pV x] h fun r _ => r = pV x := by
  apply ret_of rfl
  show W fs none f56_c _ _ _
  unfold f56_c
  have c1 : cellsN 2 (pV x) = some [.i .i64 x.1, .i .i64 x.2] := rfl
  have n1 := nx_new h (.cells 2 [.i .i64 x.1, .i .i64 x.2])
  have e1 : ((h.new (.cells 2 [.i .i64 x.1, .i .i64 x.2])).new (.cells 2 [.i .i64 0, .i .i64 0])).get h.nx = .cells 2 [.i .i64 x.1, .i .i64 x.2] := by rw [get_new_old (by omega)]; exact get_new_same
  have s1 := st2 (c := .i .i64 x.1) (d := .i .i64 x.2) (get_new_same (h := h.new (.cells 2 [.i .i64 x.1, .i .i64 x.2])) (x := .cells 2 [.i .i64 0, .i .i64 0]))
  have r1 : readP (((h.new (.cells 2 [.i .i64 x.1, .i .i64 x.2])).new (.cells 2 [.i .i64 0, .i .i64 0])).put (h.new (.cells 2 [.i .i64 x.1, .i .i64 x.2])).nx (.cells 2 [.i .i64 x.1, .i .i64 x.2])) (.p (h.new (.cells 2 [.i .i64 x.1, .i .i64 x.2])).nx 0) (many? 2) = some (pV x) := rd2 get_put_same
  simp (disch := omega) only [f56_r0, f56_r1, f56_rs, Option.some.injEq, exists_eq_left', Nat.reduceEqDiff, ↓reduceIte, ix2_0, ix2_1, c1, ld20 e1, ld21 e1, s1, r1, bz]
structure Nat1 (fs : T EF) : Prop where
  n96 : ∀ n x h P, CallP fs (.fn (K.ofNat 96) []) [.i .i64 n, .i .i64 x] h P = P (.b (nodeB n x)) h
  n77 : ∀ x h P, CallP fs (.fn (K.ofNat 77) []) [pV x] h P = P (pV (x.2, x.1)) h
  n78 : ∀ x h P, CallP fs (.fn (K.ofNat 78) []) [pV x] h P = P (pV x) h
  n56 : ∀ x h P, CallP fs (.fn (K.ofNat 56) []) [pV x] h P = P (pV x) h
theorem f85_ret {L : List Bool} {x : Int × Int} (k : Nat1 fs) (hL : L.length = 49) : Ret fs f85 [rV L, pV x] h fun r _ => r = .b (hasR L x) := by
  apply ret_of rfl
  show W fs none f85_c _ _ _
  unfold f85_c
  have c1 := rC_cells hL
  have c2 : cellsN 2 (pV x) = some [.i .i64 x.1, .i .i64 x.2] := rfl
  have n1 := nx_new h (.cells 49 (L.map V.b))
  have e1 : ((h.new (.cells 49 (L.map V.b))).new (.cells 2 [.i .i64 x.1, .i .i64 x.2])).get h.nx = rC L := by rw [get_new_old (by omega)]; exact get_new_same
  have e2 := get_new_same (h := h.new (.cells 49 (L.map V.b))) (x := .cells 2 [.i .i64 x.1, .i .i64 x.2])
  simp (disch := omega) only [f85_r0, Nat.reduceEqDiff, ↓reduceIte, c1, c2, bz]
  generalize (h.new (.cells 49 (L.map V.b))).nx = id2 at *
  generalize (h.new (.cells 49 (L.map V.b))).new (.cells 2 [.i .i64 x.1, .i .i64 x.2]) = h2 at *
  have l0 := ld20 e2
  have l1 := ld21 e2
  unfold hasR
  cases h1 : nodeB 7 x.1 with
  | false =>
    simp (disch := omega) only [f85_r1, f85_rs, Option.some.injEq, exists_eq_left', Nat.reduceEqDiff, ↓reduceIte, Bool.false_eq_true, l0, k.n96, h1, Bool.false_and, bz]
  | true =>
    cases h2 : nodeB 7 x.2 with
    | false =>
      simp (disch := omega) only [f85_r1, f85_rs, Option.some.injEq, exists_eq_left', Nat.reduceEqDiff, ↓reduceIte, Bool.false_eq_true, l0, l1, k.n96, h1, h2, Bool.false_and, Bool.true_and, bz]
    | true =>
      unfold nodeB at h1 h2
      have h1' := of_decide_eq_true h1
      have h2' := of_decide_eq_true h2
      obtain ⟨a, ha⟩ : ∃ a : Nat, x.1 = (a : Int) := ⟨x.1.toNat, by omega⟩
      obtain ⟨b, hb⟩ : ∃ b : Nat, x.2 = (b : Int) := ⟨x.2.toNat, by omega⟩
      have l2 := rC_ld (a := a) (b := b) (by omega) (by omega) hL e1
      rw [ha] at l0 h1
      rw [hb] at l1 h2
      have h1 : nodeB 7 (a : Int) = true := h1
      have h2 : nodeB 7 (b : Int) = true := h2
      rw [ha, hb]
      simp (disch := omega) only [f85_r1, f85_rs, Option.some.injEq, exists_eq_left', Nat.reduceEqDiff, ↓reduceIte, l0, l1, l2, k.n96, h1, h2, Bool.true_and, Int.toNat_natCast, bz]
end
end Go.Ev
namespace Go.Ev
open Go Go.RowKit
noncomputable def f69_r0 : List EOper := [oG 2 (.alloc 49 (List.replicate 49 (.b false)))]
noncomputable def f69_r1 : List EOper := [oG 3 (.alloc 49 (List.replicate 49 (.b false)))]
noncomputable def f69_r2 : List EOper := [oG 7 (.mv (tG 0)), oG 8 (.len (tG 7)), oG 9 (.mv (cG 0))]
noncomputable def f69_r3 : List EOper := [oG 10 (.bin .lss (tG 9) (tG 8))]
noncomputable def f69_r4 : List EOper := [oG 11 (.iads 49 (tG 7) (tG 9)), oG 12 (.ldn 49 (tG 11)), oG 5 (.alloc 49 (List.replicate 49 (.b false))), ⟨none, none, .st 49 (tG 5) (tG 12)⟩]
noncomputable def f69_r5 : List EOper := [oG 13 (.ldn 49 (tG 5)), oG 14 (.call (fG 84) [(tG 13)])]
noncomputable def f69_r6 : List EOper := [oG 6 (.alloc 2 [(.i .i64 (.ofNat 0)), (.i .i64 (.ofNat 0))]), ⟨none, none, .st 2 (tG 6) (tG 15)⟩]
noncomputable def f69_a0 : EC := (.reg f69_r6)
noncomputable def f69_r7 : List Stage := [⟨[oG 16 (.fadr 0 (tG 6)), oG 17 (.ld (tG 16)), oG 18 (.fadr 1 (tG 6)), oG 19 (.ld (tG 18)), oG 20 (.iadr 7 7 (tG 3) (tG 17)), oG 21 (.iadr 7 1 (tG 20) (tG 19))], [], (some ⟨none, none, .st 1 (tG 21) (.c (.b true))⟩), []⟩, ⟨[], [], none, []⟩]
noncomputable def f69_b0 : EC := (.block 3 (.draw f69_r7))
noncomputable def f69_r8 : List EOper := [oG 22 (.bin .add (tG 9) (cG 1)), oG 9 (.mv (tG 22))]
noncomputable def f69_l0 : EC := (.seq (.reg f69_r3) (.seq (.cond (tG 10) .skip (.exit 0)) (.seq (.block 1 (.seq (.reg f69_r4) (.seq (.reg f69_r5) (.block 2 (.rangeF (tG 14) [(.ofNat 15)] f69_a0 f69_b0))))) (.reg f69_r8))))
noncomputable def f69_r9 : List EOper := [oG 23 (.ldn 49 (tG 3)), ⟨none, none, .st 49 (tG 2) (tG 23)⟩]
noncomputable def f69_c : EC := (.seq (.reg f69_r0) (.seq (.reg f69_r1) (.seq (.seq (.reg f69_r2) (.block 0 (.loop f69_l0))) (.seq (.reg f69_r9) .ret))))
noncomputable def f69 : EF := ⟨24, [.celln (.ofNat 2) 49], f69_c, none⟩
theorem f69_rs : f69.rs = [.celln (.ofNat 2) 49] := of_eq_true (eq_self _)
noncomputable def f81_r0 : List EOper := [oG 2 (.box 49 (tG 0)), oG 3 (.box 49 (tG 1)), oG 4 (.alloc 49 (List.replicate 49 (.b false)))]
noncomputable def f81_r1 : List EOper := [oG 6 (.ldn 49 (tG 3)), oG 7 (.call (fG 84) [(tG 6)])]
noncomputable def f81_r2 : List EOper := [oG 5 (.alloc 2 [(.i .i64 (.ofNat 0)), (.i .i64 (.ofNat 0))]), ⟨none, none, .st 2 (tG 5) (tG 8)⟩]
noncomputable def f81_a0 : EC := (.reg f81_r2)
noncomputable def f81_r3 : List Stage := [⟨[oG 9 (.fadr 0 (tG 5)), oG 10 (.ld (tG 9)), oG 11 (.fadr 1 (tG 5)), oG 12 (.ld (tG 11)), oG 13 (.iadr 7 7 (tG 2) (tG 10)), oG 14 (.iadr 7 1 (tG 13) (tG 12))], [], (some ⟨none, none, .st 1 (tG 14) (.c (.b false))⟩), []⟩, ⟨[], [], none, []⟩]
noncomputable def f81_b0 : EC := (.block 1 (.draw f81_r3))
noncomputable def f81_r4 : List EOper := [oG 15 (.ldn 49 (tG 2)), ⟨none, none, .st 49 (tG 4) (tG 15)⟩]
noncomputable def f81_c : EC := (.seq (.reg f81_r0) (.seq (.seq (.reg f81_r1) (.block 0 (.rangeF (tG 7) [(.ofNat 8)] f81_a0 f81_b0))) (.seq (.reg f81_r4) .ret)))
noncomputable def f81 : EF := ⟨16, [.celln (.ofNat 4) 49], f81_c, none⟩
theorem f81_rs : f81.rs = [.celln (.ofNat 4) 49] := of_eq_true (eq_self _)
noncomputable def f71_r0 : List EOper := [oG 2 (.alloc 49 (List.replicate 49 (.b false)))]
noncomputable def f71_r1 : List EOper := [oG 3 (.alloc 49 (List.replicate 49 (.b false)))]
noncomputable def f71_r2 : List EOper := [oG 6 (.mv (tG 0)), oG 7 (.len (tG 6)), oG 8 (.mv (cG 0))]
noncomputable def f71_r3 : List EOper := [oG 9 (.bin .lss (tG 8) (tG 7))]
noncomputable def f71_r4 : List EOper := [oG 10 (.iads 2 (tG 6) (tG 8)), oG 11 (.ldn 2 (tG 10)), oG 5 (.alloc 2 [(.i .i64 (.ofNat 0)), (.i .i64 (.ofNat 0))]), ⟨none, none, .st 2 (tG 5) (tG 11)⟩]
noncomputable def f71_r5 : List Stage := [⟨[oG 12 (.iadr 2 1 (tG 5) (cG 0)), oG 13 (.ld (tG 12)), oG 14 (.iadr 2 1 (tG 5) (cG 1)), oG 15 (.ld (tG 14)), oG 16 (.iadr 7 7 (tG 3) (tG 13)), oG 17 (.iadr 7 1 (tG 16) (tG 15))], [], (some ⟨none, none, .st 1 (tG 17) (.c (.b true))⟩), []⟩, ⟨[], [], none, []⟩]
noncomputable def f71_r6 : List EOper := [oG 18 (.bin .add (tG 8) (cG 1)), oG 8 (.mv (tG 18))]
noncomputable def f71_l0 : EC := (.seq (.reg f71_r3) (.seq (.cond (tG 9) .skip (.exit 0)) (.seq (.block 1 (.seq (.reg f71_r4) (.draw f71_r5))) (.reg f71_r6))))
noncomputable def f71_r7 : List EOper := [oG 19 (.ldn 49 (tG 3)), ⟨none, none, .st 49 (tG 2) (tG 19)⟩]
noncomputable def f71_c : EC := (.seq (.reg f71_r0) (.seq (.reg f71_r1) (.seq (.seq (.reg f71_r2) (.block 0 (.loop f71_l0))) (.seq (.reg f71_r7) .ret))))
noncomputable def f71 : EF := ⟨20, [.celln (.ofNat 2) 49], f71_c, none⟩
theorem f71_rs : f71.rs = [.celln (.ofNat 2) 49] := of_eq_true (eq_self _)
section
variable {fs : T EF} {h h' : H}
def Rs (h : H) (v : V) (Ls : List (List Bool)) : Prop := (∀ h1, lenV v h1 = .ok (.i .i64 (Ls.length : Int)) h1) ∧ ∀ i (hi : i < Ls.length), ∃ id q m cs, (∀ h1, iadsV 49 v (.i .i64 (i : Int)) h1 = .ok (.p id q) h1) ∧ h.get id = .cells m cs ∧ q + 49 ≤ m ∧ takeN 49 (dropN q cs) = Ls[i].map V.b
theorem Rs.grow {v : V} {Ls : List (List Bool)} (r : Rs h v Ls) (hc : HC h) (g : Grow h.nx.nat h h') : Rs h' v Ls := ⟨r.1, fun i hi => by
  obtain ⟨id, q, m, cs, h1, h2, h3, h4⟩ := r.2 i hi
  exact ⟨id, q, m, cs, h1, (g.old _ (hc.cells h2)).trans h2, h3, h4⟩⟩
theorem Rs.at {v : V} {Ls : List (List Bool)} (r : Rs h v Ls) {i : Nat} (hi : i < Ls.length) : ∃ p, (∀ h1, iadsV 49 v (.i .i64 (i : Int)) h1 = .ok p h1) ∧ loadV h p (many? 49) = .ok (rV Ls[i]) h := by
  obtain ⟨id, q, m, cs, h1, h2, h3, h4⟩ := r.2 i hi
  exact ⟨_, h1, by rw [loadn_p h2 h3, h4]; rfl⟩
theorem Rs.two {L M : List Bool} (hL : L.length = 49) (hM : M.length = 49) : Rs (h.new (.cells (2 * 49) (L.map V.b ++ M.map V.b))) (.sl h.nx 0 2 49) [L, M] := by
  refine ⟨fun _ => rfl, fun i hi => ⟨h.nx, 0 + i * 49, 2 * 49, _, fun h1 => ?_, get_new_same, ?_, ?_⟩⟩
  · rw [iads_sl, idx_n (by simpa using hi)]
  · have : i < 2 := hi; omega
  · rw [takeN_eq, dropN_eq]
    obtain rfl | rfl : i = 0 ∨ i = 1 := by have : i < 2 := hi; omega
    · rw [show 0 + 0 * 49 = 0 by omega, List.drop_zero, List.take_append_of_le_length (by simp [hL]), List.take_of_length_le (by simp [hL])]; rfl
    · rw [show 0 + 1 * 49 = (L.map V.b).length by simp [hL], List.drop_left, List.take_of_length_le (by simp [hM])]; rfl
def jnF (Ls : List (List Bool)) (i : Nat) (a b : Nat) : Bool := (Ls.take i).any fun L => rat L a b
def jnR (Ls : List (List Bool)) : List Bool := rl fun a b => Ls.any fun L => rat L a b
theorem jnF_succ {Ls : List (List Bool)} {i : Nat} (hi : i < Ls.length) : rl (onF (arw (rat Ls[i])) true (jnF Ls i)) = rl (jnF Ls (i + 1)) := by
  refine rl_congr fun a b ha hb => ?_
  unfold onF jnF
  rw [List.take_succ_eq_append_getElem hi, List.any_append]
  by_cases e : rat Ls[i] a b = true
  · rw [if_pos (mem_arw.2 ⟨ha, hb, e⟩)]; simp [e]
  · rw [if_neg (fun h => e (mem_arw.1 h).2.2)]; simp [e]
def f69_I (h0 : H) (id2 id3 : K) (v : V) (Ls : List (List Bool)) (i : Nat) (fr : Fr) (h1 : H) : Prop := i ≤ Ls.length ∧ Kp id3 h0 h1 ∧ h1.get id3 = rC (rl (jnF Ls i)) ∧ fr.get (K.ofNat 2) = some (.p id2 0) ∧ fr.get (K.ofNat 3) = some (.p id3 0) ∧ fr.get (K.ofNat 7) = some (v) ∧ fr.get (K.ofNat 8) = some (.i .i64 (Ls.length : Int)) ∧ fr.get (K.ofNat 9) = some (.i .i64 (i : Int))
theorem f69_ret {v : V} {Ls : List (List Bool)} (h84 : fs.get (.ofNat 84) = some f84) (h101 : fs.get (.ofNat 101) = some f101) (hv : Rs h v Ls) (hl : ∀ L ∈ Ls, L.length = 49) (hb : Ls.length ≤ 1000000) (hc : HC h) : Ret fs f69 [v] h fun r h' => r = rV (jnR Ls) ∧ Grow h.nx.nat h h' := by
  apply ret_of rfl
  show W fs none f69_c _ _ _
  unfold f69_c
  have n1 := nx_new h (.cells 49 (List.replicate 49 (.b false)))
  have gr1 : Grow h.nx.nat h (h.new (.cells 49 (List.replicate 49 (.b false)))) := Grow.new (Nat.le_refl _) _
  have e1 : (h.new (.cells 49 (List.replicate 49 (.b false)))).get h.nx = rC (rl fun _ _ => false) := by rw [rl_false]; exact get_new_same
  simp (disch := omega) only [f69_r0, bz]
  generalize h.new (.cells 49 (List.replicate 49 (.b false))) = h1 at *
  have n2 := nx_new h1 (.cells 49 (List.replicate 49 (.b false)))
  have gr2 : Grow h1.nx.nat h1 (h1.new (.cells 49 (List.replicate 49 (.b false)))) := Grow.new (Nat.le_refl _) _
  have e2 : (h1.new (.cells 49 (List.replicate 49 (.b false)))).get h1.nx = rC (rl fun _ _ => false) := by rw [rl_false]; exact get_new_same
  have hlen := hv.1
  simp (disch := omega) only [f69_r1, f69_r2, Nat.reduceEqDiff, ↓reduceIte, hlen, bz]
  generalize h1.new (.cells 49 (List.replicate 49 (.b false))) = h2 at *
  have gA : Grow h.nx.nat h h2 := gr1.trans (gr2.low (by omega))
  have hc2 := gA.hc hc
  have e1' := (gr2.old h.nx (by omega)).trans e1
  refine W_loop (f69_I h2 h.nx h1.nx v Ls) (fun i => Ls.length - i) ?_ 0 ⟨by omega, Kp.refl hc2, e2, by simp (disch := omega) only [getK_set, Nat.reduceEqDiff, ↓reduceIte, and_self, Int.natCast_zero]⟩
  rintro i fr h3 ⟨hi, hk, hB, g2, g3, g7, g8, g9⟩
  unfold f69_l0
  by_cases hlt : i < Ls.length
  · have d0 : decide ((i : Int) < (Ls.length : Int)) = true := decide_eq_true (by omega)
    have gB : Grow h.nx.nat h h3 := gA.trans (hk.toGrow (by omega) (by omega))
    obtain ⟨p, p1, p2⟩ := (hv.grow hc gB).at hlt
    have hL := hl _ (List.getElem_mem hlt)
    have hsu := jnF_succ hlt
    generalize Ls[i] = L at *
    have c1 := rC_cells hL
    have n4 := nx_new h3 (.cells 49 (List.replicate 49 (.b false)))
    have s4 := rC_stn hL rl_len (M := rl fun _ _ => false) (h := h3.new (.cells 49 (List.replicate 49 (.b false)))) (id := h3.nx) (by rw [rl_false]; exact get_new_same)
    have gr4 : Grow h3.nx.nat h3 ((h3.new (.cells 49 (List.replicate 49 (.b false)))).put h3.nx (rC L)) := (Grow.new (Nat.le_refl _) _).trans (Grow.put (Nat.le_refl _) (by omega) _)
    have n4' : ((h3.new (.cells 49 (List.replicate 49 (.b false)))).put h3.nx (rC L)).nx.nat = h3.nx.nat + 1 := n4
    have e4 : ((h3.new (.cells 49 (List.replicate 49 (.b false)))).put h3.nx (rC L)).get h3.nx = rC L := get_put_same
    have l4 := rC_ldn hL e4
    simp (disch := omega) only [f69_r3, f69_r4, f69_r5, Nat.reduceEqDiff, ↓reduceIte, g7, g8, g9, d0, p1, p2, s4, l4, bz]
    generalize (h3.new (.cells 49 (List.replicate 49 (.b false)))).put h3.nx (rC L) = h4 at *
    refine (callP_0 (ef := f84) h84 rfl (f84_ret hL)).mono ?_
    rintro r h5 ⟨rfl, rfl⟩
    have n5 := nx_new h4 (rC L)
    have gr5 : Grow h4.nx.nat h4 (h4.new (rC L)) := Grow.new (Nat.le_refl _) _
    have e5 : (h4.new (rC L)).get h4.nx = rC L := get_new_same
    have k5 := (hk.grow gr4 hk.nx).grow gr5 (by have := hk.nx; omega)
    have b5 := (gr5.old _ (by have := hk.nx; omega)).trans ((gr4.old _ (by have := hk.nx; omega)).trans hB)
    simp (disch := omega) only [bz]
    generalize h4.new (rC L) = h5 at *
    generalize hfr : T.set (K.ofNat 14) _ _ = fr
    have g2 : fr.get (K.ofNat 2) = some (.p h.nx 0) := by rw [← hfr]; simp only [getK_set, Nat.reduceEqDiff, ↓reduceIte, g2]
    have g3 : fr.get (K.ofNat 3) = some (.p h1.nx 0) := by rw [← hfr]; simp only [getK_set, Nat.reduceEqDiff, ↓reduceIte, g3]
    have g7 : fr.get (K.ofNat 7) = some (v) := by rw [← hfr]; simp only [getK_set, Nat.reduceEqDiff, ↓reduceIte, g7]
    have g8 : fr.get (K.ofNat 8) = some (.i .i64 (Ls.length : Int)) := by rw [← hfr]; simp only [getK_set, Nat.reduceEqDiff, ↓reduceIte, g8]
    have g9 : fr.get (K.ofNat 9) = some (.i .i64 (i : Int)) := by rw [← hfr]; simp only [getK_set, Nat.reduceEqDiff, ↓reduceIte, g9]
    have g14 : fr.get (K.ofNat 14) = some (.fn (K.ofNat 101) [.p h4.nx 0]) := by rw [← hfr]; simp only [getK_set, ↓reduceIte]
    clear hfr
    have hkn := hk.nx
    refine W_arr (idB := h1.nx) (by simp (disch := omega) only [ev_t, getV_some, g14]) hL h101 k5.hc e5 (kNe (by omega)).symm (fun j => rC (rl (onF ((arw (rat L)).take j) true (jnF Ls i)))) (by rw [b5, List.take_zero, onF_nil]) (by omega) rfl ?_ ?_
    · rintro j ⟨x, y⟩ h6 hx hx1 hx2 hk6 hn hB6
      obtain ⟨hst, gB, c7, n6⟩ := arr_var (h := h6) (x := x) (y := y)
      have b6 := (gB.old _ (by omega)).trans hB6
      unfold f69_a0
      simp (disch := omega) only [f69_r6, Nat.reduceEqDiff, ↓reduceIte, hst, arrA_n, bz]
      generalize (h6.new (.cells 2 [.i .i64 0, .i .i64 0])).put h6.nx (.cells 2 [.i .i64 (x : Int), .i .i64 (y : Int)]) = h7 at *
      refine ⟨gB, fun h8 n8 hc8 o8 => ?_⟩
      have l0 := ld20 ((o8 _ (kNe hn).symm).trans c7)
      have l1 := ld21 ((o8 _ (kNe hn).symm).trans c7)
      have b8 := (o8 _ (kNe (show h1.nx.nat < h5.nx.nat by omega))).trans b6
      have hs := rC_st (v := true) hx1 hx2 b8
      unfold f69_b0
      simp (disch := omega) only [f69_r7, Nat.reduceEqDiff, ↓reduceIte, g3, l0, l1, hs, arrC_n, bz]
      refine ⟨?_, (Kp.refl hc8).put (by rw [n8]; omega) _⟩
      rw [get_put_same, List.take_add_one, hx]
      simp only [Option.toList_some, onF_snoc]
    · intro h6 hB6 hk6
      rw [List.take_length, hsu] at hB6
      simp (disch := omega) only [f69_r8, ↓reduceIte, g9, bz]
      exact ⟨i + 1, by omega, by omega, k5.trans hk6, hB6, by simp (disch := omega) only [getK_set, Nat.reduceEqDiff, ↓reduceIte, g2, g3, g7, g8, and_self, Int.natCast_add, Int.natCast_one]⟩
  · have d0 : decide ((i : Int) < (Ls.length : Int)) = false := decide_eq_false (by omega)
    have ei : i = Ls.length := by omega
    subst ei
    have hj : rl (jnF Ls Ls.length) = jnR Ls := by unfold jnR jnF; rw [List.take_length]
    rw [hj] at hB
    have l5 := rC_ldn (L := jnR Ls) rl_len hB
    have hs5 := rC_stn (L := jnR Ls) rl_len rl_len ((hk.old h.nx (by omega) (kNe (by omega))).trans e1')
    have hr5 : readP (h3.put h.nx (rC (jnR Ls))) (.p h.nx 0) (many? 49) = some (rV (jnR Ls)) := rC_read rl_len get_put_same
    simp (disch := omega) only [f69_r3, f69_r9, f69_rs, Option.some.injEq, exists_eq_left', Nat.reduceEqDiff, ↓reduceIte, Bool.false_eq_true, g2, g3, g8, g9, d0, l5, hs5, hr5, bz]
    exact gA.trans ((hk.toGrow (b := h.nx.nat) (by omega) (by omega)).trans (Grow.put (k := h.nx) (by omega) (by have := hk.nx; omega) _))
def woR (L M : List Bool) : List Bool := rl fun a b => rat L a b && !rat M a b
theorem f81_ret {L M : List Bool} (hL : L.length = 49) (hM : M.length = 49) (h84 : fs.get (.ofNat 84) = some f84) (h101 : fs.get (.ofNat 101) = some f101) (hc : HC h) : Ret fs f81 [rV L, rV M] h fun r _ => r = rV (woR L M) := by
  apply ret_of rfl
  show W fs none f81_c _ _ _
  unfold f81_c
  have c1 := rC_cells hL
  have c2 := rC_cells hM
  have n1 := nx_new h (.cells 49 (L.map V.b))
  have g1 : Grow h.nx.nat h (h.new (.cells 49 (L.map V.b))) := Grow.new (Nat.le_refl _) _
  have e1 : (h.new (.cells 49 (L.map V.b))).get h.nx = rC L := get_new_same
  have n2 := nx_new (h.new (.cells 49 (L.map V.b))) (.cells 49 (M.map V.b))
  have g2 : Grow (h.new (.cells 49 (L.map V.b))).nx.nat (h.new (.cells 49 (L.map V.b))) ((h.new (.cells 49 (L.map V.b))).new (.cells 49 (M.map V.b))) := Grow.new (Nat.le_refl _) _
  have e2 : ((h.new (.cells 49 (L.map V.b))).new (.cells 49 (M.map V.b))).get (h.new (.cells 49 (L.map V.b))).nx = rC M := get_new_same
  have n3 := nx_new ((h.new (.cells 49 (L.map V.b))).new (.cells 49 (M.map V.b))) (.cells 49 (List.replicate 49 (.b false)))
  have g3 : Grow ((h.new (.cells 49 (L.map V.b))).new (.cells 49 (M.map V.b))).nx.nat ((h.new (.cells 49 (L.map V.b))).new (.cells 49 (M.map V.b))) (((h.new (.cells 49 (L.map V.b))).new (.cells 49 (M.map V.b))).new (.cells 49 (List.replicate 49 (.b false)))) := Grow.new (Nat.le_refl _) _
  have e3 : (((h.new (.cells 49 (L.map V.b))).new (.cells 49 (M.map V.b))).new (.cells 49 (List.replicate 49 (.b false)))).get ((h.new (.cells 49 (L.map V.b))).new (.cells 49 (M.map V.b))).nx = rC (rl fun _ _ => false) := by rw [rl_false]; exact get_new_same
  simp (disch := omega) only [f81_r0, Nat.reduceEqDiff, ↓reduceIte, c1, c2, bz]
  generalize h.new (.cells 49 (L.map V.b)) = h1 at *
  generalize h1.new (.cells 49 (M.map V.b)) = h2 at *
  generalize h2.new (.cells 49 (List.replicate 49 (.b false))) = h3 at *
  have hc3 := g3.hc (g2.hc (g1.hc hc))
  have hl := rC_ldn hM (h := h3) (id := h1.nx) ((g3.old _ (by omega)).trans e2)
  simp (disch := omega) only [f81_r1, Nat.reduceEqDiff, ↓reduceIte, hl, bz]
  refine (callP_0 (ef := f84) h84 rfl (f84_ret hM)).mono ?_
  rintro r h4 ⟨rfl, rfl⟩
  have n4 := nx_new h3 (rC M)
  have g4 : Grow h3.nx.nat h3 (h3.new (rC M)) := Grow.new (Nat.le_refl _) _
  have e4 : (h3.new (rC M)).get h3.nx = rC M := get_new_same
  have hc4 := g4.hc hc3
  have e1' := (g4.old h.nx (by omega)).trans ((g3.old h.nx (by omega)).trans ((g2.old h.nx (by omega)).trans e1))
  have e3' := (g4.old h2.nx (by omega)).trans e3
  simp (disch := omega) only [bz]
  generalize h3.new (rC M) = h4 at *
  generalize hfr : T.set (K.ofNat 7) _ _ = fr
  have g2 : fr.get (K.ofNat 2) = some (.p h.nx 0) := by rw [← hfr]; simp only [getK_set, Nat.reduceEqDiff, ↓reduceIte]
  have g4 : fr.get (K.ofNat 4) = some (.p h2.nx 0) := by rw [← hfr]; simp only [getK_set, Nat.reduceEqDiff, ↓reduceIte]
  have g7 : fr.get (K.ofNat 7) = some (.fn (K.ofNat 101) [.p h3.nx 0]) := by rw [← hfr]; simp only [getK_set, ↓reduceIte]
  clear hfr
  refine W_arr (idB := h.nx) (by simp (disch := omega) only [ev_t, getV_some, g7]) hM h101 hc4 e4 (kNe (by omega)).symm (fun i => rC (rl (onF ((arw (rat M)).take i) false (rat L)))) (by rw [e1', List.take_zero, onF_nil, rl_rat hL]) (by omega) rfl ?_ ?_
  · rintro i ⟨x, y⟩ h5 hx hx1 hx2 hk hn hB
    obtain ⟨hst, gB, c7, n5⟩ := arr_var (h := h5) (x := x) (y := y)
    have b6 := (gB.old _ (by omega)).trans hB
    unfold f81_a0
    simp (disch := omega) only [f81_r2, Nat.reduceEqDiff, ↓reduceIte, hst, arrA_n, bz]
    generalize (h5.new (.cells 2 [.i .i64 0, .i .i64 0])).put h5.nx (.cells 2 [.i .i64 (x : Int), .i .i64 (y : Int)]) = h6 at *
    refine ⟨gB, fun h7 n7 hc7 o7 => ?_⟩
    have l0 := ld20 ((o7 _ (kNe hn).symm).trans c7)
    have l1 := ld21 ((o7 _ (kNe hn).symm).trans c7)
    have b7 := (o7 _ (kNe (show h.nx.nat < h4.nx.nat by omega))).trans b6
    have hs := rC_st (v := false) hx1 hx2 b7
    unfold f81_b0
    simp (disch := omega) only [f81_r3, Nat.reduceEqDiff, ↓reduceIte, g2, l0, l1, hs, arrC_n, bz]
    refine ⟨?_, (Kp.refl hc7).put (by rw [n7]; omega) _⟩
    rw [get_put_same, List.take_add_one, hx]
    simp only [Option.toList_some, onF_snoc]
  · intro h5 hB hk
    rw [List.take_length] at hB
    have hF : rl (onF (arw (rat M)) false (rat L)) = woR L M := by
      refine rl_congr fun a b ha hb => ?_
      unfold onF
      by_cases e : rat M a b = true
      · rw [if_pos (mem_arw.2 ⟨ha, hb, e⟩), e]; simp
      · rw [if_neg (fun h => e (mem_arw.1 h).2.2)]; simp [e]
    rw [hF] at hB
    have l5 := rC_ldn (L := woR L M) rl_len hB
    have hs5 := rC_stn (L := woR L M) rl_len rl_len ((hk.old h2.nx (by omega) (kNe (by omega)).symm).trans e3')
    have hr5 : readP (h5.put h2.nx (rC (woR L M))) (.p h2.nx 0) (many? 49) = some (rV (woR L M)) := rC_read rl_len get_put_same
    simp (disch := omega) only [f81_r4, f81_rs, Option.some.injEq, exists_eq_left', Nat.reduceEqDiff, ↓reduceIte, g2, g4, l5, hs5, hr5, bz]
def relR (L : List (Int × Int)) : List Bool := rl fun a b => decide (((a : Int), (b : Int)) ∈ L)
def relF (L : List (Int × Int)) (i : Nat) (a b : Nat) : Bool := decide (((a : Int), (b : Int)) ∈ L.take i)
theorem relF_succ {L : List (Int × Int)} {i : Nat} (hi : i < L.length) {x y : Nat} (hx : L[i].1 = (x : Int)) (hy : L[i].2 = (y : Int)) : (fun a b => if a = x ∧ b = y then true else relF L i a b) = relF L (i + 1) := by
  funext a b
  unfold relF
  rw [List.take_succ_eq_append_getElem hi]
  have e0 : L[i] = ((x : Int), (y : Int)) := Prod.ext hx hy
  rw [e0]
  by_cases e : a = x ∧ b = y
  · rw [if_pos e, e.1, e.2]; simp
  · rw [if_neg e]
    congr 1
    apply propext
    rw [List.mem_append, List.mem_singleton]
    exact ⟨.inl, fun h => h.resolve_right (fun h => e (by injection h with h1 h2; omega))⟩
def Nd (L : List (Int × Int)) : Prop := ∀ x ∈ L, (0 ≤ x.1 ∧ x.1 < 7) ∧ (0 ≤ x.2 ∧ x.2 < 7)
def f71_I (h0 : H) (id2 id3 : K) (v : V) (L : List (Int × Int)) (i : Nat) (fr : Fr) (h1 : H) : Prop := i ≤ L.length ∧ Kp id3 h0 h1 ∧ h1.get id3 = rC (rl (relF L i)) ∧ fr.get (K.ofNat 2) = some (.p id2 0) ∧ fr.get (K.ofNat 3) = some (.p id3 0) ∧ fr.get (K.ofNat 6) = some (v) ∧ fr.get (K.ofNat 7) = some (.i .i64 (L.length : Int)) ∧ fr.get (K.ofNat 8) = some (.i .i64 (i : Int))
theorem f71_ret {v : V} {L : List (Int × Int)} (hv : Srp h v L) (hn : Nd L) (hb : L.length ≤ 1000000) (hc : HC h) : Ret fs f71 [v] h fun r h' => r = rV (relR L) ∧ Grow h.nx.nat h h' := by
  apply ret_of rfl
  show W fs none f71_c _ _ _
  unfold f71_c
  have n1 := nx_new h (.cells 49 (List.replicate 49 (.b false)))
  have gr1 : Grow h.nx.nat h (h.new (.cells 49 (List.replicate 49 (.b false)))) := Grow.new (Nat.le_refl _) _
  have e1 : (h.new (.cells 49 (List.replicate 49 (.b false)))).get h.nx = rC (rl fun _ _ => false) := by rw [rl_false]; exact get_new_same
  simp (disch := omega) only [f71_r0, bz]
  generalize h.new (.cells 49 (List.replicate 49 (.b false))) = h1 at *
  have n2 := nx_new h1 (.cells 49 (List.replicate 49 (.b false)))
  have gr2 : Grow h1.nx.nat h1 (h1.new (.cells 49 (List.replicate 49 (.b false)))) := Grow.new (Nat.le_refl _) _
  have e2 : (h1.new (.cells 49 (List.replicate 49 (.b false)))).get h1.nx = rC (rl fun _ _ => false) := by rw [rl_false]; exact get_new_same
  have hlen := hv.len
  simp (disch := omega) only [f71_r1, f71_r2, Nat.reduceEqDiff, ↓reduceIte, hlen, bz]
  generalize h1.new (.cells 49 (List.replicate 49 (.b false))) = h2 at *
  have gA : Grow h.nx.nat h h2 := gr1.trans (gr2.low (by omega))
  have hc2 := gA.hc hc
  have e1' := (gr2.old h.nx (by omega)).trans e1
  refine W_loop (f71_I h2 h.nx h1.nx v L) (fun i => L.length - i) ?_ 0 ⟨by omega, Kp.refl hc2, e2, by simp (disch := omega) only [getK_set, Nat.reduceEqDiff, ↓reduceIte, and_self, Int.natCast_zero]⟩
  rintro i fr h3 ⟨hi, hk, hB, g2, g3, g6, g7, g8⟩
  have hkn := hk.nx
  unfold f71_l0
  by_cases hlt : i < L.length
  · have d0 : decide ((i : Int) < (L.length : Int)) = true := decide_eq_true (by omega)
    have gB : Grow h.nx.nat h h3 := gA.trans (hk.toGrow (by omega) (by omega))
    obtain ⟨id, q, p1, p2, _⟩ := (hv.grow hc gB).at2 hlt
    obtain ⟨hx, hy⟩ := hn _ (List.getElem_mem hlt)
    obtain ⟨x, hx1⟩ : ∃ x : Nat, L[i].1 = (x : Int) := ⟨L[i].1.toNat, by omega⟩
    obtain ⟨y, hy1⟩ : ∃ y : Nat, L[i].2 = (y : Int) := ⟨L[i].2.toNat, by omega⟩
    have hsu := relF_succ hlt hx1 hy1
    rw [hx1, hy1] at p2
    rw [hx1] at hx
    rw [hy1] at hy
    obtain ⟨hst, gC, c7, n5⟩ := arr_var (h := h3) (x := x) (y := y)
    have hst : storeV (h3.new (.cells 2 [.i .i64 0, .i .i64 0])) 2 (.p h3.nx 0) (.agg [.i .i64 (x : Int), .i .i64 (y : Int)]) = _ := hst
    have b4 := (gC.old _ (by omega)).trans hB
    simp (disch := omega) only [f71_r3, f71_r4, Nat.reduceEqDiff, ↓reduceIte, g6, g7, g8, d0, p1, p2, hst, bz]
    have k4 := hk.grow gC hkn
    generalize (h3.new (.cells 2 [.i .i64 0, .i .i64 0])).put h3.nx (.cells 2 [.i .i64 (x : Int), .i .i64 (y : Int)]) = h4 at *
    have l0 := ld20 c7
    have l1 := ld21 c7
    have hs := rC_st (v := true) (a := x) (b := y) (by omega) (by omega) b4
    have z0 : ∀ ff : Nat → RV, idxV (.i .i64 0) 2 ff = ff 0 := fun _ => rfl
    have z1 : ∀ ff : Nat → RV, idxV (.i .i64 1) 2 ff = ff 1 := fun _ => rfl
    simp (disch := omega) only [f71_r5, f71_r6, Nat.reduceEqDiff, ↓reduceIte, g3, g8, z0, z1, l0, l1, hs, bz]
    refine ⟨i + 1, by omega, by omega, k4.put (by omega) _, by rw [get_put_same, hsu], by simp (disch := omega) only [getK_set, Nat.reduceEqDiff, ↓reduceIte, g2, g3, g6, g7, and_self, Int.natCast_add, Int.natCast_one]⟩
  · have d0 : decide ((i : Int) < (L.length : Int)) = false := decide_eq_false (by omega)
    have ei : i = L.length := by omega
    subst ei
    have hj : rl (relF L L.length) = relR L := by unfold relR relF; rw [List.take_length]
    rw [hj] at hB
    have l5 := rC_ldn (L := relR L) rl_len hB
    have hs5 := rC_stn (L := relR L) rl_len rl_len ((hk.old h.nx (by omega) (kNe (by omega))).trans e1')
    have hr5 : readP (h3.put h.nx (rC (relR L))) (.p h.nx 0) (many? 49) = some (rV (relR L)) := rC_read rl_len get_put_same
    simp (disch := omega) only [f71_r3, f71_r7, f71_rs, Option.some.injEq, exists_eq_left', Nat.reduceEqDiff, ↓reduceIte, Bool.false_eq_true, g2, g3, g7, g8, d0, l5, hs5, hr5, bz]
    exact gA.trans ((hk.toGrow (b := h.nx.nat) (by omega) (by omega)).trans (Grow.put (k := h.nx) (by omega) (by have := hk.nx; omega) _))
end
end Go.Ev
namespace Go.Ev
open Go Go.RowKit
noncomputable def f48_r0 : List EOper := [oG 2 (.alloc 49 (List.replicate 49 (.b false)))]
noncomputable def f48_r1 : List EOper := [oG 4 (.mv (tG 0)), oG 5 (.call (fG 71) [(tG 4)]), oG 3 (.alloc 49 (List.replicate 49 (.b false))), ⟨none, none, .st 49 (tG 3) (tG 5)⟩]
noncomputable def f48_r2 : List Stage := [⟨[oG 6 (.ldn 49 (tG 3)), oG 7 (.ldn 49 (tG 3))], [], (some (oG 8 (.call (fG 70) [(tG 7)]))), []⟩, ⟨[oG 9 (.bslice 2 49 (List.replicate 98 (.b false)) [(0, 49, (tG 6)), (49, 49, (tG 8))])], [oG 6 (.ldn 49 (tG 3))], (some (oG 10 (.call (fG 69) [(tG 9)]))), [(.ofNat 9)]⟩, ⟨[], [], (some ⟨none, none, .st 49 (tG 2) (tG 10)⟩), []⟩, ⟨[], [], none, []⟩]
noncomputable def f48_c : EC := (.seq (.reg f48_r0) (.seq (.reg f48_r1) (.seq (.draw f48_r2) .ret)))
noncomputable def f48 : EF := ⟨11, [.celln (.ofNat 2) 49], f48_c, none⟩
theorem f48_rs : f48.rs = [.celln (.ofNat 2) 49] := of_eq_true (eq_self _)
noncomputable def f91_r0 : List EOper := [oG 2 (.box 49 (tG 0)), oG 3 (.box 49 (tG 1)), oG 4 (.as (.c (.b false)))]
noncomputable def f91_r1 : List Stage := [⟨[oG 5 (.ldn 49 (tG 2)), oG 6 (.ldn 49 (tG 3)), oG 7 (.bslice 2 49 (List.replicate 98 (.b false)) [(0, 49, (tG 5)), (49, 49, (tG 6))]), oG 9 (.ldn 49 (tG 2))], [], (some (oG 8 (.call (fG 69) [(tG 7)]))), [(.ofNat 7)]⟩, ⟨[oG 10 (.eqk (.many (List.replicate 49 none)) false (tG 8) (tG 9))], [oG 9 (.ldn 49 (tG 2))], (some (oG 4 (.as (tG 10)))), []⟩, ⟨[], [], none, []⟩]
noncomputable def f91_c : EC := (.seq (.reg f91_r0) (.seq (.draw f91_r1) .ret))
noncomputable def f91 : EF := ⟨11, [.tmp (.ofNat 4)], f91_c, none⟩
theorem f91_rs : f91.rs = [.tmp (.ofNat 4)] := of_eq_true (eq_self _)
noncomputable def f49_r0 : List EOper := [oG 2 (.box 49 (tG 0)), oG 4 (.alloc 49 (List.replicate 49 (.b false)))]
noncomputable def f49_r1 : List EOper := [oG 5 (.alloc 49 (List.replicate 49 (.b false)))]
noncomputable def f49_r2 : List EOper := [oG 8 (.mv (tG 1)), oG 9 (.mv (cG 0))]
noncomputable def f49_r3 : List EOper := [oG 10 (.bin .lss (tG 9) (tG 8))]
noncomputable def f49_r4 : List EOper := [oG 11 (.mv (tG 9)), oG 6 (.as (tG 11))]
noncomputable def f49_r5 : List EOper := [oG 12 (.mv (tG 1)), oG 13 (.mv (cG 0))]
noncomputable def f49_r6 : List EOper := [oG 14 (.bin .lss (tG 13) (tG 12))]
noncomputable def f49_r7 : List EOper := [oG 15 (.mv (tG 13)), oG 7 (.as (tG 15))]
noncomputable def f49_r8 : List EOper := [oG 16 (.mv (tG 6)), oG 17 (.mv (tG 7)), oG 18 (.mv (tG 6)), oG 19 (.mv (tG 7)), oG 20 (.bin .neq (tG 18) (tG 19)), oG 21 (.iadr 7 7 (tG 5) (tG 16)), oG 22 (.iadr 7 1 (tG 21) (tG 17)), ⟨none, none, .st 1 (tG 22) (tG 20)⟩]
noncomputable def f49_r9 : List EOper := [oG 23 (.bin .add (tG 13) (cG 1)), oG 13 (.mv (tG 23))]
noncomputable def f49_l0 : EC := (.seq (.reg f49_r6) (.seq (.cond (tG 14) .skip (.exit 2)) (.seq (.block 3 (.seq (.reg f49_r7) (.reg f49_r8))) (.reg f49_r9))))
noncomputable def f49_r10 : List EOper := [oG 24 (.bin .add (tG 9) (cG 1)), oG 9 (.mv (tG 24))]
noncomputable def f49_l1 : EC := (.seq (.reg f49_r3) (.seq (.cond (tG 10) .skip (.exit 0)) (.seq (.block 1 (.seq (.reg f49_r4) (.seq (.reg f49_r5) (.block 2 (.loop f49_l0))))) (.reg f49_r10))))
noncomputable def f49_r11 : List EOper := [oG 25 (.ldn 49 (tG 5)), oG 26 (.ldn 49 (tG 2)), oG 27 (.call (fG 81) [(tG 25), (tG 26)]), ⟨none, none, .st 49 (tG 4) (tG 27)⟩]
noncomputable def f49_c : EC := (.seq (.reg f49_r0) (.seq (.reg f49_r1) (.seq (.seq (.reg f49_r2) (.block 0 (.loop f49_l1))) (.seq (.reg f49_r11) .ret))))
noncomputable def f49 : EF := ⟨28, [.celln (.ofNat 4) 49], f49_c, none⟩
theorem f49_rs : f49.rs = [.celln (.ofNat 4) 49] := of_eq_true (eq_self _)
section
variable {fs : T EF} {h h' : H}
structure Nat2 (fs : T EF) : Prop extends Nat1 fs where
  n70 : ∀ L h P, L.length = 49 → CallP fs (.fn (K.ofNat 70) []) [rV L] h P = P (rV (turnR L)) h
  n81 : ∀ L M h P, L.length = 49 → M.length = 49 → CallP fs (.fn (K.ofNat 81) []) [rV L, rV M] h P = P (rV (woR L M)) h
  n85 : ∀ L x h P, L.length = 49 → CallP fs (.fn (K.ofNat 85) []) [rV L, pV x] h P = P (.b (hasR L x)) h
  c84 : fs.get (K.ofNat 84) = some f84
  c101 : fs.get (K.ofNat 101) = some f101
  c69 : fs.get (K.ofNat 69) = some f69
  c71 : fs.get (K.ofNat 71) = some f71
theorem fill_c {fr : Fr} {z : List V} {o n : Nat} {x : EO} {l : List (Nat × Nat × EO)} : fillE fr z ((o, n, x) :: l) = oGet (cellsN n (ev fr x)) none fun cs => fillE fr (setMany z o cs) l := of_eq_true (eq_self _)
theorem fill_e {fr : Fr} {z : List V} : fillE fr z [] = some z := of_eq_true (eq_self _)
theorem set98a {L : List Bool} (hL : L.length = 49) : setMany (List.replicate 98 (.b false)) 0 (L.map V.b) = L.map V.b ++ List.replicate 49 (.b false) := by
  rw [setMany_eq _ _ _ (by simp [hL])]; simp [hL]
theorem set98b {L M : List Bool} (hL : L.length = 49) (hM : M.length = 49) : setMany (L.map V.b ++ List.replicate 49 (.b false)) 49 (M.map V.b) = L.map V.b ++ M.map V.b := by
  have e49 : (L.map V.b).length = 49 := by simp [hL]
  have e1 : (L.map V.b ++ List.replicate 49 (V.b false)).take 49 = L.map V.b := by rw [← e49]; exact List.take_left
  rw [setMany_eq _ _ _ (by simp [hL, hM]), e1, List.drop_of_length_le (by simp [hL, hM]), List.append_nil]
theorem beqL_b {L : List Bool} : beqL (L.map V.b) (L.map V.b) = true := by
  induction L with
  | nil => rfl
  | cons x L ih =>
    show (beq1 (.b x) (.b x) && beqL (L.map V.b) (L.map V.b)) = true
    rw [ih, Bool.and_true]
    show (x == x) = true
    simp
theorem beq_rV {L : List Bool} : beqV (rV L) (rV L) = true := beqL_b
theorem keyEq_rel2 {L M : List Bool} (hL : L.length = 49) (hM : M.length = 49) : keyEq (.many (List.replicate 49 none)) (rV L) (rV M) = some (decide (L = M)) := by
  have key : ∀ (n : Nat) (L M : List Bool), L.length = n → M.length = n → eqK (List.replicate n none) (L.map V.b) (M.map V.b) = some (decide (L = M)) := by
    intro n
    induction n with
    | zero =>
      intro L M h1 h2
      rw [List.length_eq_zero_iff.1 h1, List.length_eq_zero_iff.1 h2]; rfl
    | succ n ih =>
      intro L M h1 h2
      cases L with
      | nil => simp at h1
      | cons x L =>
        cases M with
        | nil => simp at h2
        | cons y M =>
          show oGet (some (x == y)) none (fun r => oGet (eqK (List.replicate n none) (L.map V.b) (M.map V.b)) none fun s => some (r && s)) = _
          rw [ih L M (by simpa using h1) (by simpa using h2)]
          show some ((x == y) && decide (L = M)) = _
          congr 1
          by_cases e : x = y
          · subst e; simp
          · simp [e]
  exact key 49 L M hL hM
def gR (L : List (Int × Int)) : List Bool := jnR [relR L, turnR (relR L)]
theorem gR_len {L : List (Int × Int)} : (gR L).length = 49 := by unfold gR jnR; exact rl_len
theorem f48_ret {v : V} {L : List (Int × Int)} (k : Nat2 fs) (hv : Srp h v L) (hn : Nd L) (hb : L.length ≤ 1000000) (hc : HC h) : Ret fs f48 [v] h fun r h' => r = rV (gR L) ∧ Grow h.nx.nat h h' := by
  apply ret_of rfl
  show W fs none f48_c _ _ _
  unfold f48_c
  have n1 := nx_new h (.cells 49 (List.replicate 49 (.b false)))
  have gr1 : Grow h.nx.nat h (h.new (.cells 49 (List.replicate 49 (.b false)))) := Grow.new (Nat.le_refl _) _
  have e1 : (h.new (.cells 49 (List.replicate 49 (.b false)))).get h.nx = rC (rl fun _ _ => false) := by rw [rl_false]; exact get_new_same
  simp (disch := omega) only [f48_r0, f48_r1, Nat.reduceEqDiff, ↓reduceIte, bz]
  generalize h.new (.cells 49 (List.replicate 49 (.b false))) = h1 at *
  have hc1 := gr1.hc hc
  refine (callP_0 (ef := f71) k.c71 rfl (f71_ret (hv.grow hc gr1) hn hb hc1)).mono ?_
  rintro r h2 ⟨rfl, gr2⟩
  have hR : (relR L).length = 49 := rl_len
  have hT : (turnR (relR L)).length = 49 := rl_len
  have n3 := nx_new h2 (.cells 49 (List.replicate 49 (.b false)))
  have s3 := rC_stn hR rl_len (M := rl fun _ _ => false) (h := h2.new (.cells 49 (List.replicate 49 (.b false)))) (id := h2.nx) (by rw [rl_false]; exact get_new_same)
  have gr3 : Grow h2.nx.nat h2 ((h2.new (.cells 49 (List.replicate 49 (.b false)))).put h2.nx (rC (relR L))) := (Grow.new (Nat.le_refl _) _).trans (Grow.put (Nat.le_refl _) (by omega) _)
  have n3' : ((h2.new (.cells 49 (List.replicate 49 (.b false)))).put h2.nx (rC (relR L))).nx.nat = h2.nx.nat + 1 := n3
  have e3 : ((h2.new (.cells 49 (List.replicate 49 (.b false)))).put h2.nx (rC (relR L))).get h2.nx = rC (relR L) := get_put_same
  have l3 := rC_ldn hR e3
  simp (disch := omega) only [Nat.reduceEqDiff, ↓reduceIte, s3, bz]
  generalize (h2.new (.cells 49 (List.replicate 49 (.b false)))).put h2.nx (rC (relR L)) = h3 at *
  have gA : Grow h.nx.nat h h3 := gr1.trans ((gr2.low (by omega)).trans (gr3.low (by have := gr2.nx; omega)))
  have hc3 := gA.hc hc
  have e1' : h3.get h.nx = rC (rl fun _ _ => false) := (gr3.old _ (by have := gr2.nx; omega)).trans ((gr2.old _ (by omega)).trans e1)
  have c1 := rC_cells hR
  have c2 := rC_cells hT
  simp (disch := omega) only [f48_r2, Option.some.injEq, exists_eq_left', Nat.reduceEqDiff, ↓reduceIte, l3, k.n70 _ _ _ hR, fill_c, c1, c2, set98a hR, set98b hR hT, hc3.dead, bz]
  refine ⟨fresh_one (n := 2) (sz := 49) (by simp (disch := omega) only [getK_set, ↓reduceIte]), ?_⟩
  have gr4 : Grow h3.nx.nat h3 (h3.new (.cells (2 * 49) ((relR L).map V.b ++ (turnR (relR L)).map V.b))) := Grow.new (Nat.le_refl _) _
  have n4 := nx_new h3 (.cells (2 * 49) ((relR L).map V.b ++ (turnR (relR L)).map V.b))
  have hr4 := Rs.two (h := h3) hR hT
  have l4 := rC_ldn hR ((gr4.old h2.nx (by omega)).trans e3)
  have hc4 := gr4.hc hc3
  have e1'' := (gr4.old h.nx (by have := gr2.nx; omega)).trans e1'
  simp (disch := omega) only [true_and, again_ok, l4, beq_rV, and_self]
  generalize h3.new (.cells (2 * 49) ((relR L).map V.b ++ (turnR (relR L)).map V.b)) = h4 at *
  have hall : ∀ x ∈ [relR L, turnR (relR L)], x.length = 49 := fun x hx => by
    simp only [List.mem_cons, List.not_mem_nil, or_false] at hx
    rcases hx with rfl | rfl
    · exact hR
    · exact hT
  refine (callP_0 (ef := f69) k.c69 rfl (f69_ret k.c84 k.c101 hr4 hall (by simp) hc4)).mono ?_
  rintro r h5 ⟨rfl, gr5⟩
  have hG : (gR L).length = 49 := gR_len
  have s5 := rC_stn hG rl_len (M := rl fun _ _ => false) ((gr5.old h.nx (by have := gr2.nx; omega)).trans e1'')
  have hr5 : readP (h5.put h.nx (rC (gR L))) (.p h.nx 0) (many? 49) = some (rV (gR L)) := rC_read hG get_put_same
  rw [show jnR [relR L, turnR (relR L)] = gR L from rfl]
  simp (disch := omega) only [f48_rs, Option.some.injEq, exists_eq_left', Nat.reduceEqDiff, ↓reduceIte, s5, hr5, bz]
  have b1 := gA.nx; have b4 := gr4.nx; have b5 := gr5.nx; have b2 := gr2.nx
  exact (gA.trans ((gr4.low b1).trans (gr5.low (by omega)))).trans (Grow.put (k := h.nx) (Nat.le_refl _) (by omega) _)
def cvB (L M : List Bool) : Bool := decide (jnR [L, M] = L)
theorem cvB_iff {L M : List Bool} (hL : L.length = 49) : cvB L M = true ↔ ∀ a b, rat M a b = true → rat L a b = true := by
  unfold cvB
  rw [decide_eq_true_eq]
  have e : ∀ a b, rat (jnR [L, M]) a b = (rat L a b || rat M a b) := fun a b => by
    unfold jnR
    rw [rat_rl]
    cases h : (rat L a b || rat M a b) with
    | false => simp [h]
    | true =>
      have : a < 7 ∧ b < 7 := by
        rcases Bool.or_eq_true _ _ ▸ h with h | h
        · exact rat_lt h
        · exact rat_lt h
      simp [this.1, this.2, h]
  constructor
  · intro h a b hM
    have := e a b
    rw [h, hM] at this
    simpa using this
  · intro h
    refine rel_ext rl_len hL fun a b _ _ => ?_
    rw [e]
    cases hm : rat M a b with
    | false => simp
    | true => rw [h a b hm]; rfl
theorem f91_ret {L M : List Bool} (k : Nat2 fs) (hL : L.length = 49) (hM : M.length = 49) (hc : HC h) : Ret fs f91 [rV L, rV M] h fun r _ => r = .b (cvB L M) := by
  apply ret_of rfl
  show W fs none f91_c _ _ _
  unfold f91_c
  have c1 := rC_cells hL
  have c2 := rC_cells hM
  have n1 := nx_new h (.cells 49 (L.map V.b))
  have gr1 : Grow h.nx.nat h (h.new (.cells 49 (L.map V.b))) := Grow.new (Nat.le_refl _) _
  have e1 : (h.new (.cells 49 (L.map V.b))).get h.nx = rC L := get_new_same
  have n2 := nx_new (h.new (.cells 49 (L.map V.b))) (.cells 49 (M.map V.b))
  have gr2 : Grow (h.new (.cells 49 (L.map V.b))).nx.nat (h.new (.cells 49 (L.map V.b))) ((h.new (.cells 49 (L.map V.b))).new (.cells 49 (M.map V.b))) := Grow.new (Nat.le_refl _) _
  have e2 : ((h.new (.cells 49 (L.map V.b))).new (.cells 49 (M.map V.b))).get (h.new (.cells 49 (L.map V.b))).nx = rC M := get_new_same
  simp (disch := omega) only [f91_r0, Nat.reduceEqDiff, ↓reduceIte, c1, c2, bz]
  generalize h.new (.cells 49 (L.map V.b)) = h1 at *
  generalize h1.new (.cells 49 (M.map V.b)) = h2 at *
  have hc2 := gr2.hc (gr1.hc hc)
  have e1' := (gr2.old h.nx (by omega)).trans e1
  have l1 := rC_ldn hL e1'
  have l2 := rC_ldn hM e2
  have hr3 := Rs.two (h := h2) hL hM
  have gr3 : Grow h2.nx.nat h2 (h2.new (.cells (2 * 49) (L.map V.b ++ M.map V.b))) := Grow.new (Nat.le_refl _) _
  have l3 := rC_ldn hL ((gr3.old h.nx (by omega)).trans e1')
  have hc3 := gr3.hc hc2
  have n3 := nx_new h2 (.cells (2 * 49) (L.map V.b ++ M.map V.b))
  simp (disch := omega) only [f91_r1, Option.some.injEq, exists_eq_left', Nat.reduceEqDiff, ↓reduceIte, l1, l2, l3, fill_c, c1, c2, set98a hL, set98b hL hM, hc2.dead, bz]
  refine ⟨fresh_one (n := 2) (sz := 49) (by simp (disch := omega) only [getK_set, Nat.reduceEqDiff, ↓reduceIte]), ?_⟩
  generalize h2.new (.cells (2 * 49) (L.map V.b ++ M.map V.b)) = h3 at *
  have hall : ∀ x ∈ [L, M], x.length = 49 := fun x hx => by
    simp only [List.mem_cons, List.not_mem_nil, or_false] at hx
    rcases hx with rfl | rfl
    · exact hL
    · exact hM
  refine (callP_0 (ef := f69) k.c69 rfl (f69_ret k.c84 k.c101 hr3 hall (by simp) hc3)).mono ?_
  rintro r h5 ⟨rfl, gr5⟩
  have l5 := rC_ldn hL ((gr5.old h.nx (by omega)).trans ((gr3.old h.nx (by omega)).trans e1'))
  have hq := keyEq_rel2 (L := jnR [L, M]) (M := L) rl_len hL
  simp (disch := omega) only [f91_rs, xg_eqk, Option.some.injEq, exists_eq_left', Nat.reduceEqDiff, ↓reduceIte, l5, beq_rV, hq, cond_false, bz]
  rfl
def otF (n : Nat) (i : Nat) (a b : Nat) : Bool := decide (a < i ∧ b < n) && decide (a ≠ b)
def otG (n : Nat) (i k : Nat) (a b : Nat) : Bool := decide ((a < i ∧ b < n) ∨ (a = i ∧ b < k)) && decide (a ≠ b)
def otR (n : Nat) (L : List Bool) : List Bool := woR (rl fun a b => decide (a < n ∧ b < n) && decide (a ≠ b)) L
theorem otR_len {n : Nat} {L : List Bool} : (otR n L).length = 49 := by unfold otR woR; exact rl_len
def f49_I (h0 : H) (id2 id4 id5 : K) (n : Nat) (i : Nat) (fr : Fr) (h1 : H) : Prop := i ≤ n ∧ Kp id5 h0 h1 ∧ h1.get id5 = rC (rl (otF n i)) ∧ fr.get (K.ofNat 1) = some (.i .i64 (n : Int)) ∧ fr.get (K.ofNat 2) = some (.p id2 0) ∧ fr.get (K.ofNat 4) = some (.p id4 0) ∧ fr.get (K.ofNat 5) = some (.p id5 0) ∧ fr.get (K.ofNat 8) = some (.i .i64 (n : Int)) ∧ fr.get (K.ofNat 9) = some (.i .i64 (i : Int))
def f49_J (h0 : H) (id2 id4 id5 : K) (n : Nat) (i : Nat) (k : Nat) (fr : Fr) (h1 : H) : Prop := k ≤ n ∧ Kp id5 h0 h1 ∧ h1.get id5 = rC (rl (otG n i k)) ∧ fr.get (K.ofNat 1) = some (.i .i64 (n : Int)) ∧ fr.get (K.ofNat 2) = some (.p id2 0) ∧ fr.get (K.ofNat 4) = some (.p id4 0) ∧ fr.get (K.ofNat 5) = some (.p id5 0) ∧ fr.get (K.ofNat 6) = some (.i .i64 (i : Int)) ∧ fr.get (K.ofNat 8) = some (.i .i64 (n : Int)) ∧ fr.get (K.ofNat 9) = some (.i .i64 (i : Int)) ∧ fr.get (K.ofNat 12) = some (.i .i64 (n : Int)) ∧ fr.get (K.ofNat 13) = some (.i .i64 (k : Int))
theorem f49_ret {L : List Bool} {n : Nat} (k : Nat2 fs) (hL : L.length = 49) (hn : n ≤ 7) (hc : HC h) : Ret fs f49 [rV L, .i .i64 (n : Int)] h fun r _ => r = rV (otR n L) := by
  apply ret_of rfl
  show W fs none f49_c _ _ _
  unfold f49_c
  have c1 := rC_cells hL
  have n1 := nx_new h (.cells 49 (L.map V.b))
  have gr1 : Grow h.nx.nat h (h.new (.cells 49 (L.map V.b))) := Grow.new (Nat.le_refl _) _
  have e1 : (h.new (.cells 49 (L.map V.b))).get h.nx = rC L := get_new_same
  simp (disch := omega) only [f49_r0, Nat.reduceEqDiff, ↓reduceIte, c1, bz]
  generalize h.new (.cells 49 (L.map V.b)) = h1 at *
  have n2 := nx_new h1 (.cells 49 (List.replicate 49 (.b false)))
  have gr2 : Grow h1.nx.nat h1 (h1.new (.cells 49 (List.replicate 49 (.b false)))) := Grow.new (Nat.le_refl _) _
  have e2 : (h1.new (.cells 49 (List.replicate 49 (.b false)))).get h1.nx = rC (rl fun _ _ => false) := by rw [rl_false]; exact get_new_same
  generalize h1.new (.cells 49 (List.replicate 49 (.b false))) = h2 at *
  have n3 := nx_new h2 (.cells 49 (List.replicate 49 (.b false)))
  have gr3 : Grow h2.nx.nat h2 (h2.new (.cells 49 (List.replicate 49 (.b false)))) := Grow.new (Nat.le_refl _) _
  have e3 : (h2.new (.cells 49 (List.replicate 49 (.b false)))).get h2.nx = rC (rl fun _ _ => false) := by rw [rl_false]; exact get_new_same
  simp (disch := omega) only [f49_r1, f49_r2, Nat.reduceEqDiff, ↓reduceIte, bz]
  generalize h2.new (.cells 49 (List.replicate 49 (.b false))) = h3 at *
  have hc3 := gr3.hc (gr2.hc (gr1.hc hc))
  have e1' := (gr3.old h.nx (by omega)).trans ((gr2.old h.nx (by omega)).trans e1)
  have e2' := (gr3.old h1.nx (by omega)).trans e2
  have eF0 : rl (fun _ _ => false) = rl (otF n 0) := rl_congr fun a b _ _ => by simp [otF]
  refine W_loop (f49_I h3 h.nx h1.nx h2.nx n) (fun i => n - i) ?_ 0 ⟨by omega, Kp.refl hc3, by rw [← eF0]; exact e3, by simp (disch := omega) only [getK_set, Nat.reduceEqDiff, ↓reduceIte, and_self, Int.natCast_zero]⟩
  rintro i fr h4 ⟨hi, hk, hB, g1, g2, g4, g5, g8, g9⟩
  have hkn := hk.nx
  unfold f49_l1
  by_cases hlt : i < n
  · have d0 : decide ((i : Int) < (n : Int)) = true := decide_eq_true (by omega)
    simp (disch := omega) only [f49_r3, f49_r4, f49_r5, Nat.reduceEqDiff, ↓reduceIte, g1, g8, g9, d0, bz]
    have eG0 : rl (otF n i) = rl (otG n i 0) := rl_congr fun a b _ _ => by
      unfold otF otG
      congr 1
      exact decide_eq_decide.2 ⟨.inl, fun h => h.resolve_right (fun h => by omega)⟩
    rw [eG0] at hB
    refine W_loop (f49_J h3 h.nx h1.nx h2.nx n i) (fun k => n - k) ?_ 0 ⟨by omega, hk, hB, by simp (disch := omega) only [getK_set, Nat.reduceEqDiff, ↓reduceIte, g1, g2, g4, g5, g8, g9, and_self, Int.natCast_zero]⟩
    clear hB hk g1 g2 g4 g5 g8 g9 fr hkn
    rintro j fr h5 ⟨hj, hk, hB, g1, g2, g4, g5, g6, g8, g9, g12, g13⟩
    have hkn := hk.nx
    unfold f49_l0
    by_cases hlt2 : j < n
    · have d1 : decide ((j : Int) < (n : Int)) = true := decide_eq_true (by omega)
      have hs := rC_st (v := decide ((i : Int) ≠ (j : Int))) (a := i) (b := j) (by omega) (by omega) hB
      have eS : rl (fun x y => if x = i ∧ y = j then decide ((i : Int) ≠ (j : Int)) else otG n i j x y) = rl (otG n i (j + 1)) := rl_congr fun a b _ _ => by
        unfold otG
        by_cases e : a = i ∧ b = j
        · rw [if_pos e, e.1, e.2, decide_eq_true (show (i < i ∧ j < n) ∨ (i = i ∧ j < j + 1) from .inr ⟨rfl, by omega⟩), Bool.true_and]
          exact decide_eq_decide.2 (by omega)
        · rw [if_neg e]
          congr 1
          exact decide_eq_decide.2 ⟨fun h => h.imp id (fun h => ⟨h.1, by omega⟩), fun h => h.imp id (fun h => ⟨h.1, by have : b ≠ j := fun e2 => e ⟨h.1, e2⟩; omega⟩)⟩
      rw [eS] at hs
      simp (disch := omega) only [f49_r6, f49_r7, f49_r8, f49_r9, Nat.reduceEqDiff, ↓reduceIte, g5, g6, g12, g13, d1, hs, bz]
      exact ⟨j + 1, by omega, by omega, hk.put (by omega) _, get_put_same, by simp (disch := omega) only [getK_set, Nat.reduceEqDiff, ↓reduceIte, g1, g2, g4, g5, g6, g8, g9, g12, and_self, Int.natCast_add, Int.natCast_one]⟩
    · have d1 : decide ((j : Int) < (n : Int)) = false := decide_eq_false (by omega)
      have ej : j = n := by omega
      have eE : rl (otG n i j) = rl (otF n (i + 1)) := rl_congr fun a b _ _ => by
        unfold otF otG
        congr 1
        exact decide_eq_decide.2 (by omega)
      rw [eE] at hB
      simp (disch := omega) only [f49_r6, f49_r10, Nat.reduceEqDiff, ↓reduceIte, Bool.false_eq_true, g9, g12, g13, d1, bz]
      exact ⟨i + 1, by omega, by omega, hk, hB, by simp (disch := omega) only [getK_set, Nat.reduceEqDiff, ↓reduceIte, g1, g2, g4, g5, g8, and_self, Int.natCast_add, Int.natCast_one]⟩
  · have d0 : decide ((i : Int) < (n : Int)) = false := decide_eq_false (by omega)
    have ei : i = n := by omega
    subst ei
    have hF : (rl (otF i i)).length = 49 := rl_len
    have l3 := rC_ldn hF hB
    have l4 := rC_ldn hL ((hk.old h.nx (by omega) (kNe (by omega))).trans e1')
    have hO : (otR i L).length = 49 := otR_len
    have hs5 := rC_stn hO rl_len ((hk.old h1.nx (by omega) (kNe (by omega))).trans e2')
    have hr5 : readP (h4.put h1.nx (rC (otR i L))) (.p h1.nx 0) (many? 49) = some (rV (otR i L)) := rC_read hO get_put_same
    have hw : woR (rl (otF i i)) L = otR i L := rfl
    simp (disch := omega) only [f49_r3, f49_r11, f49_rs, Option.some.injEq, exists_eq_left', Nat.reduceEqDiff, ↓reduceIte, Bool.false_eq_true, g2, g4, g5, g8, g9, d0, l3, l4, k.n81 _ _ _ _ hF hL, hw, hs5, hr5, bz]
end
end Go.Ev
namespace Go.Ev
open Go Go.RowKit
noncomputable def f87_r0 : List EOper := [oG 1 (.box 49 (tG 0)), oG 2 (.alloc 2 [(.i .i64 (.ofNat 0)), (.i .i64 (.ofNat 0))]), oG 3 (.alloc 1 [(.b false)])]
noncomputable def f87_r1 : List EOper := [oG 5 (.ldn 49 (tG 1)), oG 6 (.call (fG 84) [(tG 5)])]
noncomputable def f87_r2 : List EOper := [oG 4 (.alloc 2 [(.i .i64 (.ofNat 0)), (.i .i64 (.ofNat 0))]), ⟨none, none, .st 2 (tG 4) (tG 7)⟩]
noncomputable def f87_a0 : EC := (.reg f87_r2)
noncomputable def f87_r3 : List EOper := [oG 8 (.ldn 2 (tG 4)), ⟨none, none, .st 2 (tG 2) (tG 8)⟩, ⟨none, none, .st 1 (tG 3) (.c (.b true))⟩]
noncomputable def f87_b0 : EC := (.block 1 (.seq (.reg f87_r3) .ret))
noncomputable def f87_r4 : List EOper := [oG 9 (.build [(.i .i64 (.ofNat 0)), (.i .i64 (.ofNat 0))] []), ⟨none, none, .st 2 (tG 2) (tG 9)⟩, ⟨none, none, .st 1 (tG 3) (.c (.b false))⟩]
noncomputable def f87_c : EC := (.seq (.reg f87_r0) (.seq (.seq (.reg f87_r1) (.block 0 (.rangeF (tG 6) [(.ofNat 7)] f87_a0 f87_b0))) (.seq (.reg f87_r4) .ret)))
noncomputable def f87 : EF := ⟨10, [.celln (.ofNat 2) 2, .cell (.ofNat 3)], f87_c, none⟩
theorem f87_rs : f87.rs = [.celln (.ofNat 2) 2, .cell (.ofNat 3)] := of_eq_true (eq_self _)
noncomputable def f92_r0 : List EOper := [oG 1 (.box 49 (tG 0)), oG 2 (.alloc 49 (List.replicate 49 (.b false)))]
noncomputable def f92_r1 : List EOper := [oG 3 (.alloc 49 (List.replicate 49 (.b false)))]
noncomputable def f92_r2 : List EOper := [oG 7 (.ldn 49 (tG 1)), oG 8 (.call (fG 84) [(tG 7)])]
noncomputable def f92_r3 : List EOper := [oG 4 (.alloc 2 [(.i .i64 (.ofNat 0)), (.i .i64 (.ofNat 0))]), ⟨none, none, .st 2 (tG 4) (tG 9)⟩]
noncomputable def f92_a0 : EC := (.reg f92_r3)
noncomputable def f92_r4 : List EOper := [oG 10 (.fadr 1 (tG 4)), oG 11 (.ld (tG 10)), oG 12 (.iadr 7 7 (tG 1) (tG 11)), oG 13 (.ldn 7 (tG 12)), oG 14 (.mv (cG 0))]
noncomputable def f92_r5 : List EOper := [oG 15 (.bin .lss (tG 14) (cG 7))]
noncomputable def f92_r6 : List EOper := [oG 16 (.mv (tG 14)), oG 17 (.ix 7 1 false (tG 13) (tG 14)), oG 5 (.as (tG 16)), oG 6 (.as (tG 17))]
noncomputable def f92_r7 : List Stage := [⟨[oG 18 (.fadr 0 (tG 4)), oG 19 (.ld (tG 18)), oG 20 (.mv (tG 5)), oG 21 (.fadr 0 (tG 4)), oG 22 (.ld (tG 21)), oG 23 (.mv (tG 5)), oG 24 (.iadr 7 7 (tG 3) (tG 22)), oG 25 (.iadr 7 1 (tG 24) (tG 23)), oG 26 (.ld (tG 25)), oG 27 (.mv (tG 26)), gG 28 27 false (.mv (tG 6)), oG 29 (.pick (tG 27) (.c (.b true)) (tG 28)), oG 30 (.iadr 7 7 (tG 3) (tG 19)), oG 31 (.iadr 7 1 (tG 30) (tG 20))], [], (some ⟨none, none, .st 1 (tG 31) (tG 29)⟩), []⟩, ⟨[], [], none, []⟩]
noncomputable def f92_r8 : List EOper := [oG 32 (.bin .add (tG 14) (cG 1)), oG 14 (.mv (tG 32))]
noncomputable def f92_l0 : EC := (.seq (.reg f92_r5) (.seq (.cond (tG 15) .skip (.exit 2)) (.seq (.block 3 (.seq (.reg f92_r6) (.draw f92_r7))) (.reg f92_r8))))
noncomputable def f92_b0 : EC := (.block 1 (.seq (.reg f92_r4) (.block 2 (.loop f92_l0))))
noncomputable def f92_r9 : List EOper := [oG 33 (.ldn 49 (tG 3)), ⟨none, none, .st 49 (tG 2) (tG 33)⟩]
noncomputable def f92_c : EC := (.seq (.reg f92_r0) (.seq (.reg f92_r1) (.seq (.seq (.reg f92_r2) (.block 0 (.rangeF (tG 8) [(.ofNat 9)] f92_a0 f92_b0))) (.seq (.reg f92_r9) .ret))))
noncomputable def f92 : EF := ⟨34, [.celln (.ofNat 2) 49], f92_c, none⟩
theorem f92_rs : f92.rs = [.celln (.ofNat 2) 49] := of_eq_true (eq_self _)
noncomputable def f76_r0 : List EOper := [oG 1 (.box 49 (tG 0)), oG 2 (.as (.c (.b false)))]
noncomputable def f76_r1 : List Stage := [⟨[oG 3 (.ldn 49 (tG 1)), oG 4 (.ldn 49 (tG 1))], [], (some (oG 5 (.call (fG 92) [(tG 4)]))), []⟩, ⟨[], [oG 3 (.ldn 49 (tG 1))], (some (oG 6 (.call (fG 91) [(tG 3), (tG 5)]))), []⟩, ⟨[], [], (some (oG 2 (.as (tG 6)))), []⟩, ⟨[], [], none, []⟩]
noncomputable def f76_c : EC := (.seq (.reg f76_r0) (.seq (.draw f76_r1) .ret))
noncomputable def f76 : EF := ⟨7, [.tmp (.ofNat 2)], f76_c, none⟩
theorem f76_rs : f76.rs = [.tmp (.ofNat 2)] := of_eq_true (eq_self _)
section
variable {fs : T EF} {h h' : H}
theorem rd1 {id : K} {a : V} (hb : h.get id = .cells 1 [a]) : readP h (.p id 0) one? = some a := by
  have h1 := load_p (v := a) (off := 0) hb rfl
  unfold loadV okv at h1
  cases e : readP h (.p id 0) one? with
  | none => rw [e] at h1; cases h1
  | some v => rw [e] at h1; have h1 : RV.ok v h = RV.ok _ h := h1; injection h1 with h1; rw [h1]
def frO (L : List Bool) : Option (Nat × Nat) := (arw (rat L)).head?
noncomputable def frV (L : List Bool) : V := match frO L with
  | some x => .tup [aV x, .b true]
  | none => .tup [aV (0, 0), .b false]
theorem f87_ret {L : List Bool} (k : Nat2 fs) (hL : L.length = 49) (hc : HC h) : Ret fs f87 [rV L] h fun r _ => r = frV L := by
  apply ret_of rfl
  show W fs none f87_c _ _ _
  unfold f87_c
  have c1 := rC_cells hL
  have n1 := nx_new h (.cells 49 (L.map V.b))
  have gr1 : Grow h.nx.nat h (h.new (.cells 49 (L.map V.b))) := Grow.new (Nat.le_refl _) _
  have e1 : (h.new (.cells 49 (L.map V.b))).get h.nx = rC L := get_new_same
  simp (disch := omega) only [f87_r0, ↓reduceIte, c1, bz]
  generalize h.new (.cells 49 (L.map V.b)) = h1 at *
  have n2 := nx_new h1 (.cells 2 [.i .i64 0, .i .i64 0])
  have gr2 : Grow h1.nx.nat h1 (h1.new (.cells 2 [.i .i64 0, .i .i64 0])) := Grow.new (Nat.le_refl _) _
  have e2 : (h1.new (.cells 2 [.i .i64 0, .i .i64 0])).get h1.nx = .cells 2 [.i .i64 0, .i .i64 0] := get_new_same
  generalize h1.new (.cells 2 [.i .i64 0, .i .i64 0]) = h2 at *
  have n3 := nx_new h2 (.cells 1 [.b false])
  have gr3 : Grow h2.nx.nat h2 (h2.new (.cells 1 [.b false])) := Grow.new (Nat.le_refl _) _
  have e3 : (h2.new (.cells 1 [.b false])).get h2.nx = .cells 1 [.b false] := get_new_same
  generalize h2.new (.cells 1 [.b false]) = h3 at *
  have hc3 := gr3.hc (gr2.hc (gr1.hc hc))
  have l3 := rC_ldn hL ((gr3.old h.nx (by omega)).trans ((gr2.old h.nx (by omega)).trans e1))
  have e2' := (gr3.old h1.nx (by omega)).trans e2
  simp (disch := omega) only [f87_r1, Nat.reduceEqDiff, ↓reduceIte, l3, bz]
  refine (callP_0 (ef := f84) k.c84 rfl (f84_ret hL)).mono ?_
  rintro r h4 ⟨rfl, rfl⟩
  have n4 := nx_new h3 (rC L)
  have gr4 : Grow h3.nx.nat h3 (h3.new (rC L)) := Grow.new (Nat.le_refl _) _
  have e4 : (h3.new (rC L)).get h3.nx = rC L := get_new_same
  have hc4 := gr4.hc hc3
  have e2'' := (gr4.old h1.nx (by omega)).trans e2'
  have e3' := (gr4.old h2.nx (by omega)).trans e3
  simp (disch := omega) only [bz]
  generalize h3.new (rC L) = h4 at *
  generalize hfr : T.set (K.ofNat 6) _ _ = fr
  have g2 : fr.get (K.ofNat 2) = some (.p h1.nx 0) := by rw [← hfr]; simp only [getK_set, Nat.reduceEqDiff, ↓reduceIte]
  have g3 : fr.get (K.ofNat 3) = some (.p h2.nx 0) := by rw [← hfr]; simp only [getK_set, Nat.reduceEqDiff, ↓reduceIte]
  have g6 : fr.get (K.ofNat 6) = some (.fn (K.ofNat 101) [.p h3.nx 0]) := by rw [← hfr]; simp only [getK_set, ↓reduceIte]
  clear hfr
  have ne12 : h1.nx ≠ h2.nx := kNe (by omega)
  refine W_itr (by simp (disch := omega) only [ev_t, getV_some, g6]) (all_yieldsR hL k.c101) (fun id => id = h1.nx ∨ id = h2.nx) (fun i h5 => i = 0 ∧ h5.get h1.nx = .cells 2 [.i .i64 0, .i .i64 0] ∧ h5.get h2.nx = .cells 1 [.b false]) (fun e h5 => e = .ret ∧ ∃ x, frO L = some x ∧ h5.get h1.nx = .cells 2 [.i .i64 (x.1 : Int), .i .i64 (x.2 : Int)] ∧ h5.get h2.nx = .cells 1 [.b true]) hc4 rfl (by rintro id (rfl | rfl) <;> omega)
    (fun h5 ks => (ks.old _ (by omega) (by rintro (e | e) <;> (have := congrArg K.nat e; omega))).trans e4) ?_ ?_ ?_ ?_ ?_ ?_
  · rintro i h5 h6 ⟨he, q2, q3⟩ _ hn ho
    exact ⟨he, by rw [ho _ (by omega) (kNe (by omega))]; exact q2, by rw [ho _ (by omega) (kNe (by omega))]; exact q3⟩
  · rintro e h5 h6 ⟨he, x, q1, q2, q3⟩ _ hn ho
    exact ⟨he, x, q1, by rw [ho _ (by omega) (kNe (by omega))]; exact q2, by rw [ho _ (by omega) (kNe (by omega))]; exact q3⟩
  · exact fun h5 hg => ⟨rfl, (hg.old _ (by omega)).trans e2'', (hg.old _ (by omega)).trans e3'⟩
  · rintro i ⟨x, y⟩ h5 hx hk hn ⟨rfl, q2, q3⟩
    obtain ⟨hst, gB, c7, n5⟩ := arr_var (h := h5) (x := x) (y := y)
    have b2 := (gB.old h1.nx (by omega)).trans q2
    have b3 := (gB.old h2.nx (by omega)).trans q3
    unfold f87_a0
    simp (disch := omega) only [f87_r2, Nat.reduceEqDiff, ↓reduceIte, hst, itA_n, bz]
    generalize (h5.new (.cells 2 [.i .i64 0, .i .i64 0])).put h5.nx (.cells 2 [.i .i64 (x : Int), .i .i64 (y : Int)]) = h6 at *
    refine ⟨gB, fun h7 n7 hc7 o7 _ => ?_⟩
    have n7' : h7.nx.nat = h6.nx.nat := congrArg K.nat n7
    have l1 := ldn2 ((o7 _ (kNe hn).symm).trans c7)
    have b2' := (o7 h1.nx (kNe (by omega))).trans b2
    have b3' := (o7 h2.nx (kNe (by omega))).trans b3
    have s1 := st2 (c := .i .i64 (x : Int)) (d := .i .i64 (y : Int)) b2'
    have s2 : storeV (h7.put h1.nx (.cells 2 [.i .i64 (x : Int), .i .i64 (y : Int)])) 1 (.p h2.nx 0) (.b true) = .ok undefV ((h7.put h1.nx (.cells 2 [.i .i64 (x : Int), .i .i64 (y : Int)])).put h2.nx (.cells 1 [.b true])) := st1 (a := .b false) (by rw [get_put_other ne12.symm]; exact b3') rfl
    have hf : frO L = some (x, y) := by
      unfold frO
      rw [List.head?_eq_getElem?]; exact hx
    unfold f87_b0
    simp (disch := omega) only [f87_r3, Nat.reduceEqDiff, ↓reduceIte, g2, g3, l1, s1, s2, itC_r, bz]
    refine ⟨⟨(x, y), hf, by rw [get_put_other ne12]; exact get_put_same, get_put_same⟩, ?_⟩
    have hk7 : Kr (fun id => id = h1.nx ∨ id = h2.nx) h4.nx h7 h7 := Kr.refl hc7
    exact (hk7.put (by omega) (.inl (.inl rfl)) _).put (by rw [nx_put]; omega) (.inl (.inr rfl)) _
  · rintro h5 ⟨h0, q2, q3⟩ hk hn
    have hf : frO L = none := by
      unfold frO
      rw [List.length_eq_zero_iff.1 h0]; rfl
    have s1 := st2 (c := .i .i64 0) (d := .i .i64 0) q2
    have s2 : storeV (h5.put h1.nx (.cells 2 [.i .i64 0, .i .i64 0])) 1 (.p h2.nx 0) (.b false) = .ok undefV ((h5.put h1.nx (.cells 2 [.i .i64 0, .i .i64 0])).put h2.nx (.cells 1 [.b false])) := st1 (a := .b false) (by rw [get_put_other ne12.symm]; exact q3) rfl
    have r1 : readP ((h5.put h1.nx (.cells 2 [.i .i64 0, .i .i64 0])).put h2.nx (.cells 1 [.b false])) (.p h1.nx 0) (many? 2) = some (aV (0, 0)) := rd2 (by rw [get_put_other ne12]; exact get_put_same)
    have r2 : readP ((h5.put h1.nx (.cells 2 [.i .i64 0, .i .i64 0])).put h2.nx (.cells 1 [.b false])) (.p h2.nx 0) one? = some (.b false) := rd1 get_put_same
    simp (disch := omega) only [f87_r4, f87_rs, readRs_c, Option.some.injEq, exists_eq_left', Nat.reduceEqDiff, ↓reduceIte, g2, g3, s1, s2, r1, r2, bz]
    unfold frV; rw [hf]
  · rintro e h5 _ ⟨rfl, ⟨x, y⟩, hf, q2, q3⟩ hk hn
    have r1 : readP h5 (.p h1.nx 0) (many? 2) = some (aV (x, y)) := rd2 q2
    have r2 : readP h5 (.p h2.nx 0) one? = some (.b true) := rd1 q3
    simp (disch := omega) only [f87_rs, readRs_c, Option.some.injEq, exists_eq_left', g2, g3, r1, r2, bz]
    unfold frV; rw [hf]
def spB (L : List Bool) (i : Nat) (a c : Nat) : Bool := ((arw (rat L)).take i).any fun x => decide (x.1 = a) && rat L x.2 c
def spG (L : List Bool) (i x y t : Nat) (a c : Nat) : Bool := spB L i a c || (decide (a = x ∧ c < t) && rat L y c)
def spR (L : List Bool) : List Bool := rl (spB L (arw (rat L)).length)
theorem spB_succ {L : List Bool} {i x y : Nat} (hx : (arw (rat L))[i]? = some (x, y)) : rl (spG L i x y 7) = rl (spB L (i + 1)) := by
  refine rl_congr fun a c _ hc => ?_
  unfold spG spB
  rw [List.take_add_one, hx]
  simp only [Option.toList_some, List.any_append, List.any_cons, List.any_nil, Bool.or_false]
  congr 2
  exact decide_eq_decide.2 ⟨fun h => h.1.symm, fun h => ⟨h.symm, hc⟩⟩
theorem spR_iff {L : List Bool} {a c : Nat} : rat (spR L) a c = true ↔ ∃ b, rat L a b = true ∧ rat L b c = true := by
  unfold spR spB
  rw [rat_rl, List.take_length]
  simp only [Bool.and_eq_true, decide_eq_true_eq, List.any_eq_true]
  constructor
  · rintro ⟨_, ⟨x, y⟩, h1, rfl, h2⟩
    exact ⟨y, (mem_arw.1 h1).2.2, h2⟩
  · rintro ⟨b, h1, h2⟩
    have l1 := rat_lt h1; have l2 := rat_lt h2
    exact ⟨⟨l1.1, l2.2⟩, (a, b), mem_arw.2 ⟨l1.1, l1.2, h1⟩, rfl, h2⟩
def f92_J (h0 : H) (idr id2 id3 id4 _lp : K) (L : List Bool) (i x y : Nat) (t : Nat) (fr : Fr) (h1 : H) : Prop := t ≤ 7 ∧ Kp id3 h0 h1 ∧ h1.get id3 = rC (rl (spG L i x y t)) ∧ fr.get (K.ofNat 1) = some (.p idr 0) ∧ fr.get (K.ofNat 2) = some (.p id2 0) ∧ fr.get (K.ofNat 3) = some (.p id3 0) ∧ fr.get (K.ofNat 4) = some (.p id4 0) ∧ fr.get (K.ofNat 13) = some (.agg ((List.range 7).map fun b => .b (rat L y b))) ∧ fr.get (K.ofNat 14) = some (.i .i64 (t : Int))
theorem ld_row {L : List Bool} {id : K} {a : Nat} (ha : a < 7) (hL : L.length = 49) (hg : h.get id = rC L) : loadV h (.p id (0 + a * 7)) (many? 7) = .ok (.agg ((List.range 7).map fun b => .b (rat L a b))) h := by
  rw [loadn_p hg (by omega)]
  have := ix_row (h := h) ha hL
  have e : ixV 7 7 true (rV L) (.i .i64 (a : Int)) h = .ok (.agg (takeN 7 (dropN (a * 7) (L.map V.b)))) h := by
    show idxV (.i .i64 (a : Int)) 7 (fun n => bif true then .ok (.agg (takeN 7 (dropN (n * 7) (L.map V.b)))) h else okv (nth (L.map V.b) (n * 7)) h) = _
    rw [idx_n ha]; rfl
  rw [e] at this
  rw [Nat.zero_add]; exact this
theorem f92_ret {L : List Bool} (k : Nat2 fs) (hL : L.length = 49) (hc : HC h) : Ret fs f92 [rV L] h fun r _ => r = rV (spR L) := by
  apply ret_of rfl
  show W fs none f92_c _ _ _
  unfold f92_c
  have c1 := rC_cells hL
  have n1 := nx_new h (.cells 49 (L.map V.b))
  have gr1 : Grow h.nx.nat h (h.new (.cells 49 (L.map V.b))) := Grow.new (Nat.le_refl _) _
  have e1 : (h.new (.cells 49 (L.map V.b))).get h.nx = rC L := get_new_same
  simp (disch := omega) only [f92_r0, ↓reduceIte, c1, bz]
  generalize h.new (.cells 49 (L.map V.b)) = h1 at *
  have n2 := nx_new h1 (.cells 49 (List.replicate 49 (.b false)))
  have gr2 : Grow h1.nx.nat h1 (h1.new (.cells 49 (List.replicate 49 (.b false)))) := Grow.new (Nat.le_refl _) _
  have e2 : (h1.new (.cells 49 (List.replicate 49 (.b false)))).get h1.nx = rC (rl fun _ _ => false) := by rw [rl_false]; exact get_new_same
  generalize h1.new (.cells 49 (List.replicate 49 (.b false))) = h2 at *
  have n3 := nx_new h2 (.cells 49 (List.replicate 49 (.b false)))
  have gr3 : Grow h2.nx.nat h2 (h2.new (.cells 49 (List.replicate 49 (.b false)))) := Grow.new (Nat.le_refl _) _
  have e3 : (h2.new (.cells 49 (List.replicate 49 (.b false)))).get h2.nx = rC (rl fun _ _ => false) := by rw [rl_false]; exact get_new_same
  simp (disch := omega) only [f92_r1, bz]
  generalize h2.new (.cells 49 (List.replicate 49 (.b false))) = h3 at *
  have hc3 := gr3.hc (gr2.hc (gr1.hc hc))
  have e1' := (gr3.old h.nx (by omega)).trans ((gr2.old h.nx (by omega)).trans e1)
  have l3 := rC_ldn hL e1'
  simp (disch := omega) only [f92_r2, Nat.reduceEqDiff, ↓reduceIte, l3, bz]
  refine (callP_0 (ef := f84) k.c84 rfl (f84_ret hL)).mono ?_
  rintro r h4 ⟨rfl, rfl⟩
  have n4 := nx_new h3 (rC L)
  have gr4 : Grow h3.nx.nat h3 (h3.new (rC L)) := Grow.new (Nat.le_refl _) _
  have e4 : (h3.new (rC L)).get h3.nx = rC L := get_new_same
  have hc4 := gr4.hc hc3
  have e1'' := (gr4.old h.nx (by omega)).trans e1'
  have e2' := (gr4.old h1.nx (by omega)).trans ((gr3.old h1.nx (by omega)).trans e2)
  have e3' := (gr4.old h2.nx (by omega)).trans e3
  simp (disch := omega) only [bz]
  generalize h3.new (rC L) = h4 at *
  generalize hfr : T.set (K.ofNat 8) _ _ = fr
  have g1 : fr.get (K.ofNat 1) = some (.p h.nx 0) := by rw [← hfr]; simp only [getK_set, Nat.reduceEqDiff, ↓reduceIte]
  have g2 : fr.get (K.ofNat 2) = some (.p h1.nx 0) := by rw [← hfr]; simp only [getK_set, Nat.reduceEqDiff, ↓reduceIte]
  have g3 : fr.get (K.ofNat 3) = some (.p h2.nx 0) := by rw [← hfr]; simp only [getK_set, Nat.reduceEqDiff, ↓reduceIte]
  have g8 : fr.get (K.ofNat 8) = some (.fn (K.ofNat 101) [.p h3.nx 0]) := by rw [← hfr]; simp only [getK_set, ↓reduceIte]
  clear hfr
  refine W_arr (idB := h2.nx) (by simp (disch := omega) only [ev_t, getV_some, g8]) hL k.c101 hc4 e4 (kNe (by omega)).symm (fun i => rC (rl (spB L i))) (by rw [e3']; rfl) (by omega) rfl ?_ ?_
  · rintro i ⟨x, y⟩ h5 hx hx1 hx2 hk hn hB
    obtain ⟨hst, gB, c7, n5⟩ := arr_var (h := h5) (x := x) (y := y)
    have b6 := (gB.old _ (by omega)).trans hB
    have r6 := (gB.old h.nx (by omega)).trans ((hk.old h.nx (by omega) (kNe (by omega))).trans e1'')
    unfold f92_a0
    simp (disch := omega) only [f92_r3, Nat.reduceEqDiff, ↓reduceIte, hst, arrA_n, bz]
    generalize (h5.new (.cells 2 [.i .i64 0, .i .i64 0])).put h5.nx (.cells 2 [.i .i64 (x : Int), .i .i64 (y : Int)]) = h6 at *
    refine ⟨gB, fun h7 n7 hc7 o7 => ?_⟩
    have n7' : h7.nx.nat = h6.nx.nat := congrArg K.nat n7
    have c8 := (o7 _ (kNe hn).symm).trans c7
    have l1 := ld21 c8
    have b7 := (o7 h2.nx (kNe (by omega))).trans b6
    have lr := ld_row hx2 hL ((o7 h.nx (kNe (by omega))).trans r6)
    have hx2' : y < 7 := hx2
    unfold f92_b0
    simp (disch := omega) only [f92_r4, Nat.reduceEqDiff, ↓reduceIte, g1, l1, lr, bz]
    have eG0 : rl (spB L i) = rl (spG L i x y 0) := rl_congr fun a c _ _ => by unfold spG; simp
    rw [eG0] at b7
    refine W_loop (f92_J h7 h.nx h1.nx h2.nx h5.nx h4.nx L i x y) (fun t => 7 - t) ?_ 0 ⟨by omega, Kp.refl hc7, b7, by simp (disch := omega) only [getK_set, Nat.reduceEqDiff, ↓reduceIte, g1, g2, g3, and_self, Int.natCast_zero]⟩
    clear g1 g2 g3 g8 fr
    rintro t fr h8 ⟨ht, hk8, b8, g1, g2, g3, g4, g13, g14⟩
    have hkn := hk8.nx
    unfold f92_l0
    by_cases hlt : t < 7
    · have d0 : decide ((t : Int) < 7) = true := decide_eq_true (by omega)
      have hxc := fun h => ix_cell (h := h) (f := rat L y) hlt
      have c9 := (hk8.old h5.nx (by omega) (kNe (by omega)).symm).trans c8
      have l0 := ld20 c9
      have lc := rC_ld hx1 hlt rl_len b8
      have eS : rl (fun p q => if p = x ∧ q = t then (rat (rl (spG L i x y t)) x t || rat L y t) else spG L i x y t p q) = rl (spG L i x y (t + 1)) := rl_congr fun a c ha hc => by
        by_cases e : a = x ∧ c = t
        · rw [if_pos e, e.1, e.2, rat_rl, decide_eq_true hx1, decide_eq_true hlt]
          unfold spG
          rw [decide_eq_false (show ¬ (x = x ∧ t < t) by omega), decide_eq_true (show x = x ∧ t < t + 1 by omega)]
          simp
        · rw [if_neg e]
          unfold spG
          rw [show decide (a = x ∧ c < t) = decide (a = x ∧ c < t + 1) from decide_eq_decide.2 ⟨fun h => ⟨h.1, by omega⟩, fun h => ⟨h.1, by have : c ≠ t := fun e2 => e ⟨h.1, e2⟩; omega⟩⟩]
      have hs := fun v => rC_st (v := v) hx1 hlt b8
      simp (disch := omega) only [f92_r5, f92_r6, x_ix, Nat.reduceEqDiff, ↓reduceIte, g13, g14, d0, hxc, bz]
      cases hq : rat (rl (spG L i x y t)) x t with
      | true =>
        rw [hq, Bool.true_or] at eS
        rw [hq] at lc
        simp (disch := omega) only [f92_r7, f92_r8, Nat.reduceEqDiff, ↓reduceIte, Bool.false_eq_true, Bool.not_true, g3, g4, g14, l0, lc, hs, bz]
        exact ⟨t + 1, by omega, by omega, hk8.put (by omega) _, by rw [get_put_same, eS], by simp (disch := omega) only [getK_set, Nat.reduceEqDiff, ↓reduceIte, g1, g2, g3, g4, g13, and_self, Int.natCast_add, Int.natCast_one]⟩
      | false =>
        rw [hq, Bool.false_or] at eS
        rw [hq] at lc
        simp (disch := omega) only [f92_r7, f92_r8, Nat.reduceEqDiff, ↓reduceIte, Bool.false_eq_true, Bool.not_false, g3, g4, g14, l0, lc, hs, bz]
        exact ⟨t + 1, by omega, by omega, hk8.put (by omega) _, by rw [get_put_same, eS], by simp (disch := omega) only [getK_set, Nat.reduceEqDiff, ↓reduceIte, g1, g2, g3, g4, g13, and_self, Int.natCast_add, Int.natCast_one]⟩
    · have d0 : decide ((t : Int) < 7) = false := decide_eq_false (by omega)
      have et : t = 7 := by omega
      subst et
      rw [spB_succ hx] at b8
      simp (disch := omega) only [f92_r5, ↓reduceIte, Bool.false_eq_true, g14, d0, arrC_n, bz]
      exact ⟨b8, hk8⟩
  · intro h5 hB hk
    have hR : (spR L).length = 49 := rl_len
    have l5 := rC_ldn (L := spR L) hR hB
    have hs5 := rC_stn (L := spR L) hR rl_len ((hk.old h1.nx (by omega) (kNe (by omega))).trans e2')
    have hr5 : readP (h5.put h1.nx (rC (spR L))) (.p h1.nx 0) (many? 49) = some (rV (spR L)) := rC_read hR get_put_same
    simp (disch := omega) only [f92_r9, f92_rs, Option.some.injEq, exists_eq_left', Nat.reduceEqDiff, ↓reduceIte, g2, g3, l5, hs5, hr5, bz]
structure Nat3 (fs : T EF) : Prop extends Nat2 fs where
  n87 : ∀ L h P, L.length = 49 → CallP fs (.fn (K.ofNat 87) []) [rV L] h P = P (frV L) h
  n92 : ∀ L h P, L.length = 49 → CallP fs (.fn (K.ofNat 92) []) [rV L] h P = P (rV (spR L)) h
  n91 : ∀ L M h P, L.length = 49 → M.length = 49 → CallP fs (.fn (K.ofNat 91) []) [rV L, rV M] h P = P (.b (cvB L M)) h
  n49 : ∀ L (n : Nat) h P, L.length = 49 → n ≤ 7 → CallP fs (.fn (K.ofNat 49) []) [rV L, .i .i64 (n : Int)] h P = P (rV (otR n L)) h
def trB (L : List Bool) : Bool := cvB L (spR L)
theorem f76_ret {L : List Bool} (k : Nat3 fs) (hL : L.length = 49) : Ret fs f76 [rV L] h fun r _ => r = .b (trB L) := by
  apply ret_of rfl
  show W fs none f76_c _ _ _
  unfold f76_c
  have c1 := rC_cells hL
  have e1 : (h.new (.cells 49 (L.map V.b))).get h.nx = rC L := get_new_same
  have l1 := rC_ldn hL e1
  have hS : (spR L).length = 49 := rl_len
  simp (disch := omega) only [f76_r0, f76_r1, f76_rs, Option.some.injEq, exists_eq_left', Nat.reduceEqDiff, ↓reduceIte, c1, l1, k.n92 _ _ _ hL, k.n91 _ _ _ _ hL hS, beq_rV, bz]
  rfl
end
end Go.Ev
namespace Go.Ev
open Go Go.RowKit
noncomputable def f86_r0 : List EOper := [oG 2 (.box 49 (tG 0)), oG 3 (.box 2 (tG 1)), oG 4 (.as (.c .fnil))]
noncomputable def f86_r1 : List EOper := [oG 5 (.mkfn (.ofNat 102) [(tG 2), (tG 3)]), oG 4 (.as (tG 5))]
noncomputable def f86_c : EC := (.seq (.reg f86_r0) (.seq (.reg f86_r1) .ret))
noncomputable def f86 : EF := ⟨6, [.tmp (.ofNat 4)], f86_c, none⟩
theorem f86_rs : f86.rs = [.tmp (.ofNat 4)] := of_eq_true (eq_self _)
noncomputable def f102_r0 : List EOper := [oG 5 (.mv (cG 0))]
noncomputable def f102_r1 : List EOper := [oG 6 (.bin .lss (tG 5) (cG 7))]
noncomputable def f102_r2 : List EOper := [oG 7 (.mv (tG 5)), oG 4 (.as (tG 7))]
noncomputable def f102_r3 : List EOper := [oG 8 (.fadr 0 (tG 2)), oG 9 (.ld (tG 8)), oG 10 (.mv (tG 4)), oG 11 (.iadr 7 7 (tG 1) (tG 9)), oG 12 (.iadr 7 1 (tG 11) (tG 10)), oG 13 (.ld (tG 12)), oG 14 (.mv (tG 13)), gG 15 14 true (.fadr 1 (tG 2)), gG 16 14 true (.ld (tG 15)), gG 17 14 true (.mv (tG 4)), gG 18 14 true (.iadr 7 7 (tG 1) (tG 16)), gG 19 14 true (.iadr 7 1 (tG 18) (tG 17)), gG 20 14 true (.ld (tG 19)), gG 21 14 true (.not (tG 20)), oG 22 (.pick (tG 14) (tG 21) (.c (.b false))), oG 23 (.mv (tG 22)), gG 24 23 true (.mv (tG 0)), gG 25 23 true (.fadr 0 (tG 2)), gG 26 23 true (.ld (tG 25)), gG 27 23 true (.mv (tG 4)), gG 28 23 true (.build [(.i .i64 (.ofNat 0)), (.i .i64 (.ofNat 0))] [(0, 1, (tG 26)), (1, 1, (tG 27))]), gG 29 23 true (.call (tG 24) [(tG 28)]), gG 30 23 true (.not (tG 29)), oG 31 (.pick (tG 23) (tG 30) (.c (.b false)))]
noncomputable def f102_r4 : List Stage := [⟨[oG 32 (.mv (tG 4)), oG 33 (.fadr 0 (tG 2)), oG 34 (.ld (tG 33)), oG 35 (.bin .neq (tG 32) (tG 34)), oG 36 (.mv (tG 35)), gG 37 36 true (.mv (tG 4)), gG 38 36 true (.fadr 1 (tG 2)), gG 39 36 true (.ld (tG 38)), gG 40 36 true (.iadr 7 7 (tG 1) (tG 37)), gG 41 36 true (.iadr 7 1 (tG 40) (tG 39)), gG 42 36 true (.ld (tG 41)), oG 43 (.pick (tG 36) (tG 42) (.c (.b false))), oG 44 (.mv (tG 43)), gG 45 44 true (.mv (tG 4)), gG 46 44 true (.fadr 0 (tG 2)), gG 47 44 true (.ld (tG 46)), gG 48 44 true (.iadr 7 7 (tG 1) (tG 45)), gG 49 44 true (.iadr 7 1 (tG 48) (tG 47)), gG 50 44 true (.ld (tG 49)), gG 51 44 true (.not (tG 50)), oG 52 (.pick (tG 44) (tG 51) (.c (.b false))), oG 53 (.mv (tG 52)), gG 54 53 true (.mv (tG 0)), gG 55 53 true (.mv (tG 4)), gG 56 53 true (.fadr 1 (tG 2)), gG 57 53 true (.ld (tG 56)), gG 58 53 true (.build [(.i .i64 (.ofNat 0)), (.i .i64 (.ofNat 0))] [(0, 1, (tG 55)), (1, 1, (tG 57))])], [], (some (gG 59 53 true (.call (tG 54) [(tG 58)]))), []⟩, ⟨[gG 60 53 true (.not (tG 59)), oG 61 (.pick (tG 53) (tG 60) (.c (.b false)))], [], none, []⟩]
noncomputable def f102_r5 : List EOper := [oG 62 (.bin .add (tG 5) (cG 1)), oG 5 (.mv (tG 62))]
noncomputable def f102_l0 : EC := (.seq (.reg f102_r1) (.seq (.cond (tG 6) .skip (.exit 0)) (.seq (.block 1 (.seq (.reg f102_r2) (.seq (.seq (.reg f102_r3) (.cond (tG 31) .ret .skip)) (.seq (.draw f102_r4) (.cond (tG 61) .ret .skip))))) (.reg f102_r5))))
noncomputable def f102_c : EC := (.seq (.reg f102_r0) (.block 0 (.loop f102_l0)))
noncomputable def f102 : EF := ⟨63, [], f102_c, none⟩
theorem f102_rs : f102.rs = [] := of_eq_true (eq_self _)
noncomputable def f55_r0 : List EOper := [oG 3 (.box 49 (tG 0)), oG 4 (.box 2 (tG 1)), oG 5 (.box 2 (tG 2)), oG 6 (.alloc 1 [(.b false)])]
noncomputable def f55_r1 : List EOper := [oG 8 (.ldn 49 (tG 3)), oG 9 (.ldn 2 (tG 4)), oG 10 (.call (fG 86) [(tG 8), (tG 9)])]
noncomputable def f55_r2 : List EOper := [oG 7 (.alloc 2 [(.i .i64 (.ofNat 0)), (.i .i64 (.ofNat 0))]), ⟨none, none, .st 2 (tG 7) (tG 11)⟩]
noncomputable def f55_a0 : EC := (.reg f55_r2)
noncomputable def f55_r3 : List EOper := [oG 12 (.ldn 2 (tG 7)), oG 13 (.ldn 2 (tG 5)), oG 14 (.eqk (.many [(some .i64), (some .i64)]) false (tG 12) (tG 13))]
noncomputable def f55_r4 : List EOper := [⟨none, none, .st 1 (tG 6) (.c (.b true))⟩]
noncomputable def f55_b0 : EC := (.block 1 (.seq (.reg f55_r3) (.cond (tG 14) (.seq (.reg f55_r4) .ret) .skip)))
noncomputable def f55_r5 : List EOper := [⟨none, none, .st 1 (tG 6) (.c (.b false))⟩]
noncomputable def f55_c : EC := (.seq (.reg f55_r0) (.seq (.seq (.reg f55_r1) (.block 0 (.rangeF (tG 10) [(.ofNat 11)] f55_a0 f55_b0))) (.seq (.reg f55_r5) .ret)))
noncomputable def f55 : EF := ⟨15, [.cell (.ofNat 6)], f55_c, none⟩
theorem f55_rs : f55.rs = [.cell (.ofNat 6)] := of_eq_true (eq_self _)
section
variable {fs : T EF} {h h' : H}
def fcA (L : List Bool) (x y d : Nat) : Bool := rat L x d && !rat L y d
def fcB (L : List Bool) (x y d : Nat) : Bool := decide (d ≠ x) && (rat L d y && !rat L d x)
def fcN (L : List Bool) (x y d : Nat) : List (Nat × Nat) := (if fcA L x y d = true then [(x, d)] else []) ++ (if fcB L x y d = true then [(d, y)] else [])
def fcT (L : List Bool) (x y i : Nat) : List (Nat × Nat) := (List.range i).flatMap (fcN L x y)
def fcY (L : List Bool) (x y : Nat) : List (Nat × Nat) := fcT L x y 7
theorem fcT_succ {L : List Bool} {x y i : Nat} : fcT L x y (i + 1) = fcT L x y i ++ fcN L x y i := by
  unfold fcT; rw [List.range_succ, List.flatMap_append]; simp
theorem fcT_split {L : List Bool} {x y i : Nat} : ∀ k, i < k → ∃ R, fcT L x y k = fcT L x y i ++ (fcN L x y i ++ R)
  | 0, h => by omega
  | k + 1, h => by
    rw [fcT_succ]
    by_cases e : i = k
    · subst e; exact ⟨[], by simp⟩
    · obtain ⟨R, hR⟩ := fcT_split (L := L) (x := x) (y := y) (i := i) k (by omega)
      exact ⟨R ++ fcN L x y k, by rw [hR]; simp⟩
theorem mem_fcY {L : List Bool} {x y : Nat} {p : Nat × Nat} : p ∈ fcY L x y ↔ (p.1 = x ∧ fcA L x y p.2 = true) ∨ (p.2 = y ∧ fcB L x y p.1 = true) := by
  unfold fcY fcT fcN
  simp only [List.mem_flatMap, List.mem_range, List.mem_append]
  constructor
  · rintro ⟨d, hd, h | h⟩
    · split at h
      · rename_i e; rw [List.mem_singleton] at h; subst h; exact .inl ⟨rfl, e⟩
      · cases h
    · split at h
      · rename_i e; rw [List.mem_singleton] at h; subst h; exact .inr ⟨rfl, e⟩
      · cases h
  · obtain ⟨p1, p2⟩ := p
    rintro (⟨rfl, h⟩ | ⟨rfl, h⟩)
    · have h : fcA L p1 y p2 = true := h
      have l : rat L p1 p2 = true := by unfold fcA at h; simp only [Bool.and_eq_true] at h; exact h.1
      exact ⟨p2, (rat_lt l).2, .inl (by rw [if_pos h]; exact List.mem_singleton.2 rfl)⟩
    · have h : fcB L x p2 p1 = true := h
      have l : rat L p1 p2 = true := by unfold fcB at h; simp only [Bool.and_eq_true] at h; exact h.2.1
      exact ⟨p1, (rat_lt l).1, .inr (by rw [if_pos h]; exact List.mem_singleton.2 rfl)⟩
theorem fcY_lt {L : List Bool} {x y : Nat} (hx : x < 7) (hy : y < 7) {p : Nat × Nat} (h : p ∈ fcY L x y) : p.1 < 7 ∧ p.2 < 7 ∧ rat L p.1 p.2 = true := by
  rcases mem_fcY.1 h with ⟨h1, h2⟩ | ⟨h1, h2⟩
  · have l : rat L x p.2 = true := by unfold fcA at h2; simp only [Bool.and_eq_true] at h2; exact h2.1
    rw [h1]; exact ⟨hx, (rat_lt l).2, l⟩
  · have l : rat L p.1 y = true := by unfold fcB at h2; simp only [Bool.and_eq_true] at h2; exact h2.2.1
    rw [h1]; exact ⟨(rat_lt l).1, hy, l⟩
def fcM (idr ida : K) (L : List Bool) (x y : Nat) (h : H) : Prop := h.get idr = rC L ∧ h.get ida = .cells 2 [.i .i64 (x : Int), .i .i64 (y : Int)]
def f102_I (id idr ida : K) (L : List Bool) (x y : Nat) (I : Nat → H → Prop) (d : Nat) (fr : Fr) (h1 : H) : Prop := d ≤ 7 ∧ I (fcT L x y d).length h1 ∧ fr.get (K.ofNat 0) = some (.yl id) ∧ fr.get (K.ofNat 1) = some (.p idr 0) ∧ fr.get (K.ofNat 2) = some (.p ida 0) ∧ fr.get (K.ofNat 5) = some (.i .i64 (d : Int))
theorem forced_yields {idr ida : K} {L : List Bool} {x y : Nat} (hL : L.length = 49) (hx : x < 7) (hy : y < 7) (h102 : fs.get (K.ofNat 102) = some f102) : YieldsM fs (K.ofNat 102) [.p idr 0, .p ida 0] (fcM idr ida L x y) BA (fcY L x y) := by
  intro id I D h hN h0 round
  refine callP_of (ef := f102) h102 rfl ?_
  show Ret fs f102 [.yl id, .p idr 0, .p ida 0] h _
  apply ret_of rfl
  show W fs none f102_c _ _ _
  unfold f102_c
  simp (disch := omega) only [f102_r0, frame_3, bz]
  refine W_loop (f102_I id idr ida L x y I) (fun d => 7 - d) ?_ 0 ⟨by omega, h0, by simp (disch := omega) only [getK_set, Nat.reduceEqDiff, ↓reduceIte, and_self, Int.natCast_zero]⟩
  rintro d fr h1 ⟨hd, hI, g0, g1, g2, g5⟩
  unfold f102_l0
  by_cases hlt : d < 7
  · have d0 : decide ((d : Int) < 7) = true := decide_eq_true (by omega)
    obtain ⟨er, ea⟩ := (hN _ _ hI).1
    have la0 := ld20 ea
    have la1 := ld21 ea
    have lxd := rC_ld hx hlt hL er
    have lyd := rC_ld hy hlt hL er
    obtain ⟨R, hR⟩ := fcT_split (L := L) (x := x) (y := y) (i := d) 7 hlt
    have hsu := fcT_succ (L := L) (x := x) (y := y) (i := d)
    -- behind the first yield
    have rest : ∀ (fr : Fr) (h1 : H) (pre : List (Nat × Nat)), pre = fcT L x y d ++ (if fcA L x y d = true then [(x, d)] else []) → I pre.length h1 → fr.get (K.ofNat 0) = some (.yl id) ∧ fr.get (K.ofNat 1) = some (.p idr 0) ∧ fr.get (K.ofNat 2) = some (.p ida 0) ∧ fr.get (K.ofNat 4) = some (.i .i64 (d : Int)) ∧ fr.get (K.ofNat 5) = some (.i .i64 (d : Int)) →
        XD fs f102_r4 (seqK (W fs none (.cond (.t (K.ofNat 61)) .ret .skip)) (atK 1 (seqK (W fs none (.reg f102_r5)) (loopK (f102_I id idr ida L x y I) (fun d => 7 - d) d (atK 0 (retK f102 fun r h' => r = .tup [] ∧ ((∃ h1, I (fcY L x y).length h1 ∧ Grow h1.nx.nat h1 h') ∨ D h')))))) .normal) fr h1 := by
      clear g0 g1 g2 g5 fr hI la0 la1 lxd lyd er ea h1
      rintro fr h1 pre hpre hI ⟨g0, g1, g2, g4, g5⟩
      obtain ⟨er, ea⟩ := (hN _ _ hI).1
      have la0 := ld20 ea
      have la1 := ld21 ea
      have ldy := rC_ld hlt hy hL er
      have ldx := rC_ld hlt hx hL er
      have fin : fcB L x y d = false → fcT L x y (d + 1) = pre := fun e => by rw [hsu, hpre]; unfold fcN; rw [if_neg (show ¬ fcB L x y d = true by rw [e]; simp)]; simp
      by_cases e1 : d = x
      · have d1 : decide ((d : Int) ≠ (x : Int)) = false := decide_eq_false (by omega)
        have hb : fcB L x y d = false := by unfold fcB; rw [decide_eq_false (by omega)]; rfl
        simp (disch := omega) only [f102_r4, f102_r5, Nat.reduceEqDiff, ↓reduceIte, Bool.false_eq_true, g2, g4, g5, la0, d1, bz]
        exact ⟨d + 1, by omega, by omega, by rw [fin hb]; exact hI, by simp (disch := omega) only [getK_set, Nat.reduceEqDiff, ↓reduceIte, g0, g1, g2, and_self, Int.natCast_add, Int.natCast_one]⟩
      · have d1 : decide ((d : Int) ≠ (x : Int)) = true := decide_eq_true (by omega)
        have hb0 : fcB L x y d = (rat L d y && !rat L d x) := by unfold fcB; rw [decide_eq_true (by omega), Bool.true_and]
        cases h2 : rat L d y with
        | false =>
          rw [h2] at ldy
          have hb : fcB L x y d = false := by rw [hb0, h2]; rfl
          simp (disch := omega) only [f102_r4, f102_r5, Nat.reduceEqDiff, ↓reduceIte, Bool.false_eq_true, g1, g2, g4, g5, la0, la1, d1, ldy, bz]
          exact ⟨d + 1, by omega, by omega, by rw [fin hb]; exact hI, by simp (disch := omega) only [getK_set, Nat.reduceEqDiff, ↓reduceIte, g0, g1, g2, and_self, Int.natCast_add, Int.natCast_one]⟩
        | true =>
          rw [h2] at ldy
          cases h3 : rat L d x with
          | true =>
            rw [h3] at ldx
            have hb : fcB L x y d = false := by rw [hb0, h2, h3]; rfl
            simp (disch := omega) only [f102_r4, f102_r5, Nat.reduceEqDiff, ↓reduceIte, Bool.false_eq_true, Bool.not_true, g1, g2, g4, g5, la0, la1, d1, ldy, ldx, bz]
            exact ⟨d + 1, by omega, by omega, by rw [fin hb]; exact hI, by simp (disch := omega) only [getK_set, Nat.reduceEqDiff, ↓reduceIte, g0, g1, g2, and_self, Int.natCast_add, Int.natCast_one]⟩
          | false =>
            rw [h3] at ldx
            have hb : fcB L x y d = true := by rw [hb0, h2, h3]; rfl
            have hsp : fcY L x y = pre ++ ((d, y) :: R) := by
              unfold fcY; rw [hR, hpre]; unfold fcN; rw [if_pos hb]; simp
            have hi : pre.length < (fcY L x y).length := by rw [hsp]; simp
            have hg : (fcY L x y)[pre.length] = (d, y) := by simp [hsp]
            obtain ⟨r, h', ⟨n, hn⟩, hT, hF⟩ := round pre.length h1 h1 (aV (d, y)) hi hI (Grow.refl _ _) (by show aV (d, y) = aV _; rw [hg]) (fun _ _ _ _ e => by cases e)
            have hnx : fcT L x y (d + 1) = pre ++ [(d, y)] := by rw [hsu, hpre]; unfold fcN; rw [if_pos hb]; simp
            have hav : V.agg [.i .i64 (d : Int), .i .i64 (y : Int)] = aV (d, y) := rfl
            simp (disch := omega) only [f102_r4, xg_build, Nat.reduceEqDiff, ↓reduceIte, Bool.not_false, g0, g1, g2, g4, la0, la1, d1, ldy, ldx, hav, bz]
            refine ⟨n, _, _, hn, ?_⟩
            cases r with
            | true =>
              simp (disch := omega) only [f102_r5, Nat.reduceEqDiff, ↓reduceIte, Bool.false_eq_true, Bool.not_true, g5, bz]
              exact ⟨d + 1, by omega, by omega, by rw [hnx, List.length_append]; exact hT rfl, by simp (disch := omega) only [getK_set, Nat.reduceEqDiff, ↓reduceIte, g0, g1, g2, and_self, Int.natCast_add, Int.natCast_one]⟩
            | false =>
              simp (disch := omega) only [f102_rs, Option.some.injEq, exists_eq_left', Nat.reduceEqDiff, ↓reduceIte, Bool.not_false, bz]
              exact .inr (hF rfl)
    cases h2 : rat L x d with
    | false =>
      rw [h2] at lxd
      have hb : ¬ fcA L x y d = true := by unfold fcA; rw [h2]; simp
      simp (disch := omega) only [f102_r1, f102_r2, f102_r3, Nat.reduceEqDiff, ↓reduceIte, Bool.false_eq_true, g1, g2, g5, d0, la0, lxd, bz]
      exact rest _ _ _ (by rw [if_neg hb, List.append_nil]) hI (by simp (disch := omega) only [getK_set, Nat.reduceEqDiff, ↓reduceIte, g0, g1, g2, g5, and_self])
    | true =>
      rw [h2] at lxd
      cases h3 : rat L y d with
      | true =>
        rw [h3] at lyd
        have hb : ¬ fcA L x y d = true := by unfold fcA; rw [h2, h3]; simp
        simp (disch := omega) only [f102_r1, f102_r2, f102_r3, Nat.reduceEqDiff, ↓reduceIte, Bool.false_eq_true, Bool.not_true, g1, g2, g5, d0, la0, la1, lxd, lyd, bz]
        exact rest _ _ _ (by rw [if_neg hb, List.append_nil]) hI (by simp (disch := omega) only [getK_set, Nat.reduceEqDiff, ↓reduceIte, g0, g1, g2, g5, and_self])
      | false =>
        rw [h3] at lyd
        have hb : fcA L x y d = true := by unfold fcA; rw [h2, h3]; rfl
        have hsp : fcY L x y = fcT L x y d ++ ((x, d) :: ((if fcB L x y d = true then [(d, y)] else []) ++ R)) := by
          unfold fcY; rw [hR]; unfold fcN; rw [if_pos hb]; simp
        have hi : (fcT L x y d).length < (fcY L x y).length := by rw [hsp]; simp
        have hg : (fcY L x y)[(fcT L x y d).length] = (x, d) := by simp [hsp]
        obtain ⟨r, h', ⟨n, hn⟩, hT, hF⟩ := round (fcT L x y d).length h1 h1 (aV (x, d)) hi hI (Grow.refl _ _) (by show aV (x, d) = aV _; rw [hg]) (fun _ _ _ _ e => by cases e)
        have hav : V.agg [.i .i64 (x : Int), .i .i64 (d : Int)] = aV (x, d) := rfl
        simp (disch := omega) only [f102_r1, f102_r2, f102_r3, Nat.reduceEqDiff, ↓reduceIte, Bool.not_false, g0, g1, g2, g5, d0, la0, la1, lxd, lyd, hav, bz]
        refine ⟨n, _, _, hn, ?_⟩
        cases r with
        | true =>
          simp (disch := omega) only [Nat.reduceEqDiff, ↓reduceIte, Bool.false_eq_true, Bool.not_true, bz]
          exact rest _ _ (fcT L x y d ++ [(x, d)]) (by rw [if_pos hb]) (by rw [List.length_append]; exact hT rfl) (by simp (disch := omega) only [getK_set, Nat.reduceEqDiff, ↓reduceIte, g0, g1, g2, g5, and_self])
        | false =>
          simp (disch := omega) only [f102_rs, Option.some.injEq, exists_eq_left', Nat.reduceEqDiff, ↓reduceIte, Bool.not_false, bz]
          exact .inr (hF rfl)
  · have d0 : decide ((d : Int) < 7) = false := decide_eq_false (by omega)
    have e7 : d = 7 := by omega
    subst e7
    simp (disch := omega) only [f102_r1, f102_rs, Option.some.injEq, exists_eq_left', ↓reduceIte, Bool.false_eq_true, g5, d0, bz]
    exact .inl ⟨h1, hI, Grow.refl _ _⟩
theorem f86_ret {L : List Bool} {x : Nat × Nat} (hL : L.length = 49) (hc : HC h) : Ret fs f86 [rV L, aV x] h fun r h' => ∃ idr ida, r = .fn (.ofNat 102) [.p idr 0, .p ida 0] ∧ h.nx.nat ≤ idr.nat ∧ h.nx.nat ≤ ida.nat ∧ idr.nat < h'.nx.nat ∧ ida.nat < h'.nx.nat ∧ Grow h.nx.nat h h' ∧ h'.get idr = rC L ∧ h'.get ida = .cells 2 [.i .i64 (x.1 : Int), .i .i64 (x.2 : Int)] := by
  have _ := hc
  apply ret_of rfl
  show W fs none f86_c _ _ _
  unfold f86_c
  have c1 := rC_cells hL
  have c2 : cellsN 2 (aV x) = some [.i .i64 (x.1 : Int), .i .i64 (x.2 : Int)] := rfl
  have n1 := nx_new h (.cells 49 (L.map V.b))
  have gr1 : Grow h.nx.nat h (h.new (.cells 49 (L.map V.b))) := Grow.new (Nat.le_refl _) _
  have e1 : (h.new (.cells 49 (L.map V.b))).get h.nx = rC L := get_new_same
  simp (disch := omega) only [f86_r0, f86_r1, f86_rs, x_mkfn, Option.some.injEq, exists_eq_left', Nat.reduceEqDiff, ↓reduceIte, c1, c2, bz]
  generalize h.new (.cells 49 (L.map V.b)) = h1 at *
  have n2 := nx_new h1 (.cells 2 [.i .i64 (x.1 : Int), .i .i64 (x.2 : Int)])
  have gr2 : Grow h1.nx.nat h1 (h1.new (.cells 2 [.i .i64 (x.1 : Int), .i .i64 (x.2 : Int)])) := Grow.new (Nat.le_refl _) _
  exact ⟨h.nx, h1.nx, rfl, Nat.le_refl _, by omega, by omega, by omega, gr1.trans (gr2.low (by omega)), (gr2.old _ (by omega)).trans e1, get_new_same⟩
theorem keyEq_aV {x y : Nat × Nat} (hx : x.1 < 7 ∧ x.2 < 7) (hy : y.1 < 7 ∧ y.2 < 7) : keyEq (.many [some .i64, some .i64]) (aV x) (aV y) = some (decide (x = y)) := by
  have r : ∀ n : Nat, n < 7 → inR .i64 (n : Int) = true := fun n hn => by
    show Nat.ble n (kmax .i64) = true
    exact Nat.ble_eq_true_of_le (by show n ≤ 9223372036854775807; omega)
  have := keyEq_2 (r _ hx.1) (r _ hx.2) (r _ hy.1) (r _ hy.2)
  rw [show keyEq (.many [some .i64, some .i64]) (aV x) (aV y) = _ from this]
  congr 1
  rw [← Bool.decide_and]
  exact decide_eq_decide.2 ⟨fun h => Prod.ext (by omega) (by omega), fun h => by rw [h]; exact ⟨rfl, rfl⟩⟩
theorem f55_ret {L : List Bool} {x y : Nat × Nat} (h86 : fs.get (.ofNat 86) = some f86) (h102 : fs.get (.ofNat 102) = some f102) (hL : L.length = 49) (hx : x.1 < 7 ∧ x.2 < 7) (hy : y.1 < 7 ∧ y.2 < 7) (hc : HC h) : Ret fs f55 [rV L, aV x, aV y] h fun r _ => r = .b (decide (y ∈ fcY L x.1 x.2)) := by
  apply ret_of rfl
  show W fs none f55_c _ _ _
  unfold f55_c
  have c1 := rC_cells hL
  have c2 : cellsN 2 (aV x) = some [.i .i64 (x.1 : Int), .i .i64 (x.2 : Int)] := rfl
  have c3 : cellsN 2 (aV y) = some [.i .i64 (y.1 : Int), .i .i64 (y.2 : Int)] := rfl
  have n1 := nx_new h (.cells 49 (L.map V.b))
  have gr1 : Grow h.nx.nat h (h.new (.cells 49 (L.map V.b))) := Grow.new (Nat.le_refl _) _
  have e1 : (h.new (.cells 49 (L.map V.b))).get h.nx = rC L := get_new_same
  simp (disch := omega) only [f55_r0, frame_3, Nat.reduceEqDiff, ↓reduceIte, c1, c2, c3, bz]
  generalize h.new (.cells 49 (L.map V.b)) = h1 at *
  have n2 := nx_new h1 (.cells 2 [.i .i64 (x.1 : Int), .i .i64 (x.2 : Int)])
  have gr2 : Grow h1.nx.nat h1 (h1.new (.cells 2 [.i .i64 (x.1 : Int), .i .i64 (x.2 : Int)])) := Grow.new (Nat.le_refl _) _
  have e2 : (h1.new (.cells 2 [.i .i64 (x.1 : Int), .i .i64 (x.2 : Int)])).get h1.nx = .cells 2 [.i .i64 (x.1 : Int), .i .i64 (x.2 : Int)] := get_new_same
  generalize h1.new (.cells 2 [.i .i64 (x.1 : Int), .i .i64 (x.2 : Int)]) = h2 at *
  have n3 := nx_new h2 (.cells 2 [.i .i64 (y.1 : Int), .i .i64 (y.2 : Int)])
  have gr3 : Grow h2.nx.nat h2 (h2.new (.cells 2 [.i .i64 (y.1 : Int), .i .i64 (y.2 : Int)])) := Grow.new (Nat.le_refl _) _
  have e3 : (h2.new (.cells 2 [.i .i64 (y.1 : Int), .i .i64 (y.2 : Int)])).get h2.nx = .cells 2 [.i .i64 (y.1 : Int), .i .i64 (y.2 : Int)] := get_new_same
  generalize h2.new (.cells 2 [.i .i64 (y.1 : Int), .i .i64 (y.2 : Int)]) = h3 at *
  have n4 := nx_new h3 (.cells 1 [.b false])
  have gr4 : Grow h3.nx.nat h3 (h3.new (.cells 1 [.b false])) := Grow.new (Nat.le_refl _) _
  have e4 : (h3.new (.cells 1 [.b false])).get h3.nx = .cells 1 [.b false] := get_new_same
  generalize h3.new (.cells 1 [.b false]) = h4 at *
  have hc4 := gr4.hc (gr3.hc (gr2.hc (gr1.hc hc)))
  have e1' := (gr4.old h.nx (by omega)).trans ((gr3.old h.nx (by omega)).trans ((gr2.old h.nx (by omega)).trans e1))
  have e2' := (gr4.old h1.nx (by omega)).trans ((gr3.old h1.nx (by omega)).trans e2)
  have e3' := (gr4.old h2.nx (by omega)).trans e3
  have hav : V.agg [.i .i64 (x.1 : Int), .i .i64 (x.2 : Int)] = aV x := rfl
  simp (disch := omega) only [f55_r1, Nat.reduceEqDiff, ↓reduceIte, rC_ldn hL e1', ldn2 e2', hav, bz]
  refine (callP_0 (ef := f86) h86 rfl (f86_ret hL hc4)).mono ?_
  rintro r h5 ⟨idr, ida, rfl, o1, o2, o3, o4, gr5, er, ea⟩
  have hc5 := gr5.hc hc4
  have e3'' := (gr5.old h2.nx (by omega)).trans e3'
  have e4' := (gr5.old h3.nx (by omega)).trans e4
  have n5 := gr5.nx
  simp (disch := omega) only [bz]
  generalize hfr : T.set (K.ofNat 10) _ _ = fr
  have g3 : fr.get (K.ofNat 3) = some (.p h.nx 0) := by rw [← hfr]; simp only [getK_set, Nat.reduceEqDiff, ↓reduceIte]
  have g4 : fr.get (K.ofNat 4) = some (.p h1.nx 0) := by rw [← hfr]; simp only [getK_set, Nat.reduceEqDiff, ↓reduceIte]
  have g5 : fr.get (K.ofNat 5) = some (.p h2.nx 0) := by rw [← hfr]; simp only [getK_set, Nat.reduceEqDiff, ↓reduceIte]
  have g6 : fr.get (K.ofNat 6) = some (.p h3.nx 0) := by rw [← hfr]; simp only [getK_set, Nat.reduceEqDiff, ↓reduceIte]
  have g10 : fr.get (K.ofNat 10) = some (.fn (K.ofNat 102) [.p idr 0, .p ida 0]) := by rw [← hfr]; simp only [getK_set, ↓reduceIte]
  clear hfr
  refine W_itr (by simp (disch := omega) only [ev_t, getV_some, g10]) (forced_yields hL hx.1 hx.2 h102) (fun id => id = h3.nx) (fun i h6 => y ∉ (fcY L x.1 x.2).take i ∧ h6.get h3.nx = .cells 1 [.b false]) (fun e h6 => e = .ret ∧ y ∈ fcY L x.1 x.2 ∧ h6.get h3.nx = .cells 1 [.b true]) hc5 rfl (by rintro id rfl; omega)
    (fun h6 ks => ⟨(ks.old _ (by omega) (fun e => by have := congrArg K.nat e; omega)).trans er, (ks.old _ (by omega) (fun e => by have := congrArg K.nat e; omega)).trans ea⟩) ?_ ?_ ?_ ?_ ?_ ?_
  · rintro i h6 h7 ⟨he, q2⟩ _ hn ho
    exact ⟨he, by rw [ho _ (by omega) (kNe (by omega))]; exact q2⟩
  · rintro e h6 h7 ⟨he, q1, q2⟩ _ hn ho
    exact ⟨he, q1, by rw [ho _ (by omega) (kNe (by omega))]; exact q2⟩
  · exact fun h6 hg => ⟨by simp, (hg.old _ (by omega)).trans e4'⟩
  · rintro i ⟨a, b⟩ h6 hxi hk hn ⟨q1, q2⟩
    obtain ⟨hst, gB, c7, n7⟩ := arr_var (h := h6) (x := a) (y := b)
    obtain ⟨ha, hb, _⟩ := fcY_lt hx.1 hx.2 (List.mem_of_getElem? hxi)
    have b2 := (gB.old h3.nx (by omega)).trans q2
    have b3 := (gB.old h2.nx (by omega)).trans ((hk.old h2.nx (by omega) (fun e => by have := congrArg K.nat e; omega)).trans e3'')
    unfold f55_a0
    simp (disch := omega) only [f55_r2, Nat.reduceEqDiff, ↓reduceIte, hst, itA_n, bz]
    generalize (h6.new (.cells 2 [.i .i64 0, .i .i64 0])).put h6.nx (.cells 2 [.i .i64 (a : Int), .i .i64 (b : Int)]) = h7 at *
    refine ⟨gB, fun h8 n8 hc8 o8 _ => ?_⟩
    have n8' : h8.nx.nat = h7.nx.nat := congrArg K.nat n8
    have l1 := ldn2 ((o8 _ (kNe hn).symm).trans c7)
    have b2' := (o8 h3.nx (kNe (by omega))).trans b2
    have l2 := ldn2 ((o8 h2.nx (kNe (by omega))).trans b3)
    have ht : (fcY L x.1 x.2).take (i + 1) = (fcY L x.1 x.2).take i ++ [(a, b)] := by rw [List.take_add_one, hxi]; rfl
    have hq := keyEq_aV (x := (a, b)) (y := y) ⟨ha, hb⟩ hy
    have hav1 : V.agg [.i .i64 (a : Int), .i .i64 (b : Int)] = aV (a, b) := rfl
    have hav2 : V.agg [.i .i64 (y.1 : Int), .i .i64 (y.2 : Int)] = aV y := rfl
    unfold f55_b0
    by_cases e : (a, b) = y
    · have d0 : decide ((a, b) = y) = true := decide_eq_true e
      rw [d0] at hq
      have s1 : storeV h8 1 (.p h3.nx 0) (.b true) = .ok undefV (h8.put h3.nx (.cells 1 [.b true])) := st1 b2' rfl
      simp (disch := omega) only [f55_r3, f55_r4, Nat.reduceEqDiff, ↓reduceIte, g5, g6, l1, l2, hav1, hav2, hq, s1, cond_false, itC_r, bz]
      refine ⟨⟨by rw [← e]; exact List.mem_of_getElem? hxi, get_put_same⟩, ?_⟩
      have hk8 : Kr (fun id => id = h3.nx) h5.nx h8 h8 := Kr.refl hc8
      exact hk8.put (by omega) (.inl rfl) _
    · have d0 : decide ((a, b) = y) = false := decide_eq_false e
      rw [d0] at hq
      simp (disch := omega) only [f55_r3, Nat.reduceEqDiff, ↓reduceIte, Bool.false_eq_true, g5, l1, l2, hav1, hav2, hq, cond_false, itC_n, bz]
      refine ⟨⟨by rw [ht, List.mem_append, List.mem_singleton]; exact fun h => h.elim q1 (fun h => e h.symm), b2'⟩, Kr.refl hc8⟩
  · rintro h6 ⟨q1, q2⟩ hk hn
    rw [List.take_length] at q1
    have s1 : storeV h6 1 (.p h3.nx 0) (.b false) = .ok undefV (h6.put h3.nx (.cells 1 [.b false])) := st1 q2 rfl
    have r1 : readP (h6.put h3.nx (.cells 1 [.b false])) (.p h3.nx 0) one? = some (.b false) := rd1 get_put_same
    simp (disch := omega) only [f55_r5, f55_rs, readRs_c, Option.some.injEq, exists_eq_left', g6, s1, r1, bz]
    rw [decide_eq_false q1]
  · rintro e h6 _ ⟨rfl, q1, q2⟩ hk hn
    have r1 : readP h6 (.p h3.nx 0) one? = some (.b true) := rd1 q2
    simp (disch := omega) only [f55_rs, readRs_c, Option.some.injEq, exists_eq_left', g6, r1, bz]
    rw [decide_eq_true q1]
end
end Go.Ev
