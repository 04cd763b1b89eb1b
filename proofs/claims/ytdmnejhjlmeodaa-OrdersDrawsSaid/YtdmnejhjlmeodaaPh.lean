/-
  Orders: the reference's search of a class (Class)., and what follows.
-/
import Derived.Test.YtdmnejhjlmeodaaPe
import Derived.Test.YtdmnejhjlmeodaaPg
namespace Go.Ev
open Go Go.RowKit
noncomputable def f21_r0 : List EOper := [oG 5 (.box 2 (tG 2)), oG 6 (.as (.c .sn)), oG 7 (.as (.c .sn))]
noncomputable def f21_r1 : List EOper := [oG 20 (.mv (tG 0)), oG 21 (.mv (tG 1)), oG 22 (.call (fG 53) [(tG 20), (tG 21)]), oG 8 (.as (tG 22))]
noncomputable def f21_r2 : List EOper := [oG 23 (.mkmap 23), oG 24 (.ldn 2 (tG 5)), ⟨none, none, .mupd 23 (.many [(some .i64), (some .i64)]) (tG 23) (tG 24) (cG 0)⟩, oG 25 (.mv (tG 23)), oG 9 (.as (tG 25))]
noncomputable def f21_r3 : List EOper := [oG 26 (.ldn 2 (tG 5)), oG 27 (.bslice 1 2 [(.i .i64 (.ofNat 0)), (.i .i64 (.ofNat 0))] [(0, 2, (tG 26))]), oG 10 (.as (tG 27))]
noncomputable def f21_r4 : List EOper := [oG 11 (.as (cG 0))]
noncomputable def f21_r5 : List EOper := [oG 28 (.mv (tG 11)), oG 29 (.mv (tG 10)), oG 30 (.len (tG 29)), oG 31 (.bin .lss (tG 28) (tG 30))]
noncomputable def f21_r6 : List EOper := [oG 12 (.as (cG 0))]
noncomputable def f21_r7 : List EOper := [oG 34 (.mv (tG 12)), oG 35 (.mv (tG 8)), oG 36 (.len (tG 35)), oG 37 (.bin .lss (tG 34) (tG 36))]
noncomputable def f21_r8 : List EOper := [oG 41 (.mv (tG 9)), oG 42 (.mv (tG 8)), oG 43 (.mv (tG 12)), oG 44 (.iads 2 (tG 42) (tG 43)), oG 45 (.ldn 2 (tG 44)), oG 46 (.look 23 (.many [(some .i64), (some .i64)]) (.i .i64 (.ofNat 0)) (tG 41) (tG 45) true), oG 40 (.mv (tG 46)), oG 47 (.ext (tG 40) 0), oG 48 (.ext (tG 40) 1), oG 13 (.as (tG 47)), oG 14 (.as (tG 48))]
noncomputable def f21_r9 : List Stage := [⟨[oG 49 (.mv (tG 14)), oG 50 (.not (tG 49)), oG 51 (.mv (tG 50)), gG 52 51 true (.mv (tG 1)), gG 53 51 true (.mv (tG 10)), gG 54 51 true (.mv (tG 11)), gG 55 51 true (.iads 2 (tG 53) (tG 54)), gG 56 51 true (.ldn 2 (tG 55)), gG 57 51 true (.mv (tG 8)), gG 58 51 true (.mv (tG 12)), gG 59 51 true (.iads 2 (tG 57) (tG 58)), gG 60 51 true (.ldn 2 (tG 59))], [], (some (gG 61 51 true (.call (fG 20) [(tG 52), (tG 56), (tG 60)]))), []⟩, ⟨[oG 62 (.pick (tG 51) (tG 61) (.c (.b false)))], [], none, []⟩]
noncomputable def f21_r10 : List Stage := [⟨[oG 63 (.mv (tG 9)), oG 64 (.mv (tG 8)), oG 65 (.mv (tG 12)), oG 66 (.iads 2 (tG 64) (tG 65)), oG 67 (.ldn 2 (tG 66)), oG 68 (.mv (tG 9)), oG 69 (.mv (tG 10)), oG 70 (.mv (tG 11)), oG 71 (.iads 2 (tG 69) (tG 70)), oG 72 (.ldn 2 (tG 71)), oG 73 (.look 23 (.many [(some .i64), (some .i64)]) (.i .i64 (.ofNat 0)) (tG 68) (tG 72) false), oG 74 (.bin .add (tG 73) (cG 1))], [], (some ⟨none, none, .mupd 23 (.many [(some .i64), (some .i64)]) (tG 63) (tG 67) (tG 74)⟩), []⟩, ⟨[], [], none, []⟩]
noncomputable def f21_r11 : List EOper := [oG 75 (.mv (tG 10)), oG 76 (.mv (tG 8)), oG 77 (.mv (tG 12)), oG 78 (.iads 2 (tG 76) (tG 77)), oG 79 (.ldn 2 (tG 78)), oG 80 (.bslice 1 2 [(.i .i64 (.ofNat 0)), (.i .i64 (.ofNat 0))] [(0, 2, (tG 79))]), oG 81 (.app 2 (tG 75) (tG 80)), oG 10 (.as (tG 81))]
noncomputable def f21_r12 : List EOper := [oG 38 (.mv (tG 12)), oG 39 (.bin .add (tG 38) (cG 1)), oG 12 (.as (tG 39))]
noncomputable def f21_l0 : EC := (.seq (.seq (.reg f21_r7) (.cond (tG 37) .skip (.exit 2))) (.seq (.block 3 (.seq (.reg f21_r8) (.seq (.draw f21_r9) (.cond (tG 62) (.seq (.draw f21_r10) (.reg f21_r11)) .skip)))) (.reg f21_r12)))
noncomputable def f21_r13 : List EOper := [oG 32 (.mv (tG 11)), oG 33 (.bin .add (tG 32) (cG 1)), oG 11 (.as (tG 33))]
noncomputable def f21_l1 : EC := (.seq (.seq (.reg f21_r5) (.cond (tG 31) .skip (.exit 0))) (.seq (.block 1 (.seq (.reg f21_r6) (.block 2 (.loop f21_l0)))) (.reg f21_r13)))
noncomputable def f21_r14 : List EOper := [oG 15 (.as (.c .sn))]
noncomputable def f21_r15 : List EOper := [oG 16 (.as (.c .sn))]
noncomputable def f21_r16 : List EOper := [oG 17 (.as (cG 0))]
noncomputable def f21_r17 : List EOper := [oG 82 (.mv (tG 17)), oG 83 (.mv (tG 8)), oG 84 (.len (tG 83)), oG 85 (.bin .lss (tG 82) (tG 84))]
noncomputable def f21_r18 : List EOper := [oG 89 (.mv (tG 9)), oG 90 (.mv (tG 8)), oG 91 (.mv (tG 17)), oG 92 (.iads 2 (tG 90) (tG 91)), oG 93 (.ldn 2 (tG 92)), oG 94 (.look 23 (.many [(some .i64), (some .i64)]) (.i .i64 (.ofNat 0)) (tG 89) (tG 93) true), oG 88 (.mv (tG 94)), oG 95 (.ext (tG 88) 0), oG 96 (.ext (tG 88) 1), oG 18 (.as (tG 95)), oG 19 (.as (tG 96))]
noncomputable def f21_r19 : List EOper := [oG 97 (.mv (tG 19))]
noncomputable def f21_r20 : List EOper := [oG 98 (.mv (tG 15)), oG 99 (.mv (tG 8)), oG 100 (.mv (tG 17)), oG 101 (.iads 2 (tG 99) (tG 100)), oG 102 (.ldn 2 (tG 101)), oG 103 (.bslice 1 2 [(.i .i64 (.ofNat 0)), (.i .i64 (.ofNat 0))] [(0, 2, (tG 102))]), oG 104 (.app 2 (tG 98) (tG 103)), oG 15 (.as (tG 104))]
noncomputable def f21_r21 : List EOper := [oG 105 (.mv (tG 16)), oG 106 (.mv (tG 18)), oG 107 (.bslice 1 1 [(.i .i64 (.ofNat 0))] [(0, 1, (tG 106))]), oG 108 (.app 1 (tG 105) (tG 107)), oG 16 (.as (tG 108))]
noncomputable def f21_r22 : List EOper := [oG 86 (.mv (tG 17)), oG 87 (.bin .add (tG 86) (cG 1)), oG 17 (.as (tG 87))]
noncomputable def f21_l2 : EC := (.seq (.seq (.reg f21_r17) (.cond (tG 85) .skip (.exit 4))) (.seq (.block 5 (.seq (.reg f21_r18) (.seq (.reg f21_r19) (.cond (tG 97) (.seq (.reg f21_r20) (.reg f21_r21)) .skip)))) (.reg f21_r22)))
noncomputable def f21_r23 : List EOper := [oG 109 (.mv (tG 15)), oG 110 (.mv (tG 16)), oG 6 (.as (tG 109)), oG 7 (.as (tG 110))]
noncomputable def f21_c : EC := (.seq (.reg f21_r0) (.seq (.reg f21_r1) (.seq (.reg f21_r2) (.seq (.reg f21_r3) (.seq (.seq (.reg f21_r4) (.block 0 (.loop f21_l1))) (.seq (.reg f21_r14) (.seq (.reg f21_r15) (.seq (.seq (.reg f21_r16) (.block 4 (.loop f21_l2))) (.seq (.reg f21_r23) .ret)))))))))
noncomputable def f21 : EF := ⟨111, [.tmp (.ofNat 6), .tmp (.ofNat 7)], f21_c, none⟩
theorem f21_rs : f21.rs = [.tmp (.ofNat 6), .tmp (.ofNat 7)] := of_eq_true (eq_self _)
/-! ### Plain -/
abbrev DM := List ((Nat × Nat) × Nat)
def kyD (M : DM) : List (Nat × Nat) := M.map Prod.fst
def lkD : DM → Nat × Nat → Option Nat
  | [], _ => none
  | e :: M, x => if x = e.1 then some e.2 else lkD M x
inductive BfsR (G : List Bool) (s : Nat × Nat) : Nat → Nat → DM → Prop where
  | start : BfsR G s 0 0 [(s, 0)]
  | skip {i k : Nat} {M : DM} {x p : Nat × Nat} {d : Nat} : BfsR G s i k M → M[i]? = some (x, d) → (arw (rat G))[k]? = some p → (p ∈ kyD M ∨ frcB G x p = false) → BfsR G s i (k + 1) M
  | add {i k : Nat} {M : DM} {x p : Nat × Nat} {d : Nat} : BfsR G s i k M → M[i]? = some (x, d) → (arw (rat G))[k]? = some p → p ∉ kyD M → frcB G x p = true → BfsR G s i (k + 1) (M ++ [(p, d + 1)])
  | next {i : Nat} {M : DM} : BfsR G s i (arw (rat G)).length M → i < M.length → BfsR G s (i + 1) 0 M
structure BfsI (G : List Bool) (s : Nat × Nat) (i k : Nat) (M : DM) : Prop where
  nd : (kyD M).Nodup
  arr : ∀ p ∈ kyD M, rat G p.1 p.2 = true ∧ Rch (Er G) s.1 s.2 p.1 p.2
  beg : M[0]? = some (s, 0)
  dl : ∀ e ∈ M, e.2 + 1 ≤ M.length
  clo : ∀ (j : Nat) (x : Nat × Nat) (d : Nat), j < i → M[j]? = some (x, d) → ∀ p, rat G p.1 p.2 = true → frcB G x p = true → p ∈ kyD M
  cur : ∀ (j : Nat) (x p : Nat × Nat) (d : Nat), j < k → M[i]? = some (x, d) → (arw (rat G))[j]? = some p → frcB G x p = true → p ∈ kyD M
theorem frcB_rch {G : List Bool} (sy : SymR G) {x p : Nat × Nat} (hp : rat G p.1 p.2 = true) (h : frcB G x p = true) {a b : Nat} (k : Rch (Er G) a b x.1 x.2) : Rch (Er G) a b p.1 p.2 := by
  unfold frcB at h
  rcases Bool.or_eq_true _ _ ▸ h with h | h
  · rw [← of_decide_eq_true h]; exact k
  · by_cases e : x.1 = p.1
    · rw [if_pos e] at h
      rw [← e] at hp ⊢
      exact k.out hp (fun h2 => by have h2 : rat G x.2 p.2 = true := h2; rw [h2] at h; cases h)
    · rw [if_neg e] at h
      simp only [Bool.and_eq_true, decide_eq_true_eq] at h
      rw [← h.1] at hp ⊢
      exact k.inn hp (fun h2 => by
        have h2 : rat G x.1 p.1 = true := sy.gr.sym _ _ h2
        rw [h2] at h; exact absurd h.2 (by simp))
theorem at_app {α : Type} {M : List α} {x y : α} {j : Nat} (h : (M ++ [y])[j]? = some x) (hj : j < M.length) : M[j]? = some x := by
  rw [List.getElem?_append_left hj] at h; exact h
theorem get_lt {α : Type} {M : List α} {x : α} {j : Nat} (h : M[j]? = some x) : j < M.length := by
  by_cases e : j < M.length
  · exact e
  · rw [List.getElem?_eq_none (by omega)] at h; cases h
theorem BfsR.inv {G : List Bool} (sy : SymR G) {s : Nat × Nat} (hs : rat G s.1 s.2 = true) {i k : Nat} {M : DM} (r : BfsR G s i k M) : BfsI G s i k M := by
  induction r with
  | start =>
    exact ⟨by simp [kyD], fun p hp => by simp [kyD] at hp; rw [hp]; exact ⟨hs, .refl⟩, rfl, fun e he => by simp at he; rw [he]; simp, fun j x d hj => by omega, fun j x p d hj => by omega⟩
  | @skip i k M x p d _ h1 h2 h3 ih =>
    refine ⟨ih.nd, ih.arr, ih.beg, ih.dl, ih.clo, fun j x' p' d' hj h1' h2' h3' => ?_⟩
    by_cases e : j = k
    · subst e
      rw [h1] at h1'; cases h1'
      rw [h2] at h2'; cases h2'
      rcases h3 with h3 | h3
      · exact h3
      · rw [h3] at h3'; cases h3'
    · exact ih.cur j x' p' d' (by omega) h1' h2' h3'
  | @add i k M x p d _ h1 h2 h3 h4 ih =>
    have hil := get_lt h1
    have hpG : rat G p.1 p.2 = true := (arw_lt (List.mem_of_getElem? h2)).2.2
    have hk : kyD (M ++ [(p, d + 1)]) = kyD M ++ [p] := by unfold kyD; simp
    have hxm : x ∈ kyD M := List.mem_map.2 ⟨(x, d), List.mem_of_getElem? h1, rfl⟩
    have up : ∀ {q}, q ∈ kyD M → q ∈ kyD (M ++ [(p, d + 1)]) := fun h => by rw [hk]; exact List.mem_append_left _ h
    refine ⟨?_, fun q hq => ?_, ?_, fun e he => ?_, fun j y e hj hy q hq hf => up (ih.clo j y e hj (at_app hy (by omega)) q hq hf), fun j y q e hj hy hq hf => ?_⟩
    · rw [hk, List.nodup_append]
      refine ⟨ih.nd, by simp, fun a ha b hb e => h3 ?_⟩
      rw [List.mem_singleton] at hb
      rw [← hb, ← e]; exact ha
    · rw [hk, List.mem_append, List.mem_singleton] at hq
      rcases hq with hq | rfl
      · exact ih.arr q hq
      · exact ⟨hpG, frcB_rch sy hpG h4 (ih.arr x hxm).2⟩
    · rw [List.getElem?_append_left (get_lt ih.beg)]; exact ih.beg
    · rw [List.length_append, List.length_singleton]
      rcases List.mem_append.1 he with he | he
      · have := ih.dl e he; omega
      · rw [List.mem_singleton.1 he]
        have := ih.dl _ (List.mem_of_getElem? h1)
        show d + 1 + 1 ≤ M.length + 1
        have : d + 1 ≤ M.length := this
        omega
    · by_cases e2 : j = k
      · subst e2
        rw [h2] at hq; cases hq
        rw [hk]; simp
      · exact up (ih.cur j y q e (by omega) (at_app hy hil) hq hf)
  | @next i M _ hi ih =>
    refine ⟨ih.nd, ih.arr, ih.beg, ih.dl, fun j x d hj hx p hp hf => ?_, fun j x p d hj => by omega⟩
    by_cases e : j = i
    · subst e
      obtain ⟨k, hk, ek⟩ := List.getElem_of_mem (mem_arw.2 ⟨(rat_lt hp).1, (rat_lt hp).2, hp⟩ : (p.1, p.2) ∈ arw (rat G))
      exact ih.cur k x p d hk hx (by rw [List.getElem?_eq_getElem hk, ek]) hf
    · exact ih.clo j x d (by omega) hx p hp hf
theorem BfsI.len {G : List Bool} {s : Nat × Nat} {i k : Nat} {M : DM} (b : BfsI G s i k M) : M.length ≤ 49 := by
  have h := nodup_leO (m := arw (rat G)) b.nd fun x hx => mem_arw.2 ⟨(rat_lt (b.arr x hx).1).1, (rat_lt (b.arr x hx).1).2, (b.arr x hx).1⟩
  have := arI_len (g := rat G)
  unfold arI at this
  unfold kyD at h
  rw [List.length_map] at h this
  omega
theorem BfsI.cls {G : List Bool} (sy : SymR G) {s : Nat × Nat} (hs : rat G s.1 s.2 = true) {M : DM} (b : BfsI G s M.length 0 M) (p : Nat × Nat) : p ∈ kyD M ↔ rat (clsR G s) p.1 p.2 = true := by
  rw [clsR_iff (rat_lt hs)]
  refine ⟨fun h => (b.arr p h).2, fun h => ?_⟩
  have cl : ∀ {x q : Nat × Nat}, x ∈ kyD M → rat G q.1 q.2 = true → frcB G x q = true → q ∈ kyD M := fun {x q} hx hq hf => by
    obtain ⟨⟨y, d⟩, he, rfl⟩ := List.mem_map.1 hx
    obtain ⟨j, hj, ej⟩ := List.getElem_of_mem he
    exact b.clo j y d hj (by rw [List.getElem?_eq_getElem hj, ej]) q hq hf
  have all : ∀ {c d : Nat}, Rch (Er G) s.1 s.2 c d → (c, d) ∈ kyD M := fun {c d} h => by
    induction h with
    | refl => exact List.mem_map.2 ⟨(s, 0), List.mem_of_getElem? b.beg, rfl⟩
    | @out c d e _ h1 h2 ih =>
      have h2 : ¬ rat G d e = true := h2
      exact cl (q := (c, e)) ih h1 (by unfold frcB; simp only [if_true, Bool.or_eq_true]; exact .inr (by simpa using h2))
    | @inn c d e _ h1 h2 ih =>
      have h2 : ¬ rat G e c = true := h2
      have h3 : ¬ rat G c e = true := fun h => h2 (sy.gr.sym _ _ h)
      by_cases ee : c = e
      · rw [← ee]; exact ih
      · exact cl (q := (e, d)) ih h1 (by unfold frcB; simp only [if_neg ee, decide_true, Bool.true_and, Bool.or_eq_true]; exact .inr (by simpa using h3))
  exact all h
theorem lkD_none {M : DM} {x : Nat × Nat} : lkD M x = none ↔ x ∉ kyD M := by
  induction M with
  | nil => simp [lkD, kyD]
  | cons e M ih =>
    show (if x = e.1 then some e.2 else lkD M x) = none ↔ x ∉ e.1 :: kyD M
    rw [List.mem_cons, not_or]
    by_cases h : x = e.1
    · rw [if_pos h]; simp [h]
    · rw [if_neg h, ih]; simp [h]
theorem lkD_app {M : DM} {x y : Nat × Nat} {v : Nat} (hx : x ∉ kyD M) : lkD (M ++ [(x, v)]) y = if y = x then some v else lkD M y := by
  induction M with
  | nil => rfl
  | cons e M ih =>
    have hx' : x ≠ e.1 ∧ x ∉ kyD M := by
      have : x ∉ e.1 :: kyD M := hx
      rw [List.mem_cons, not_or] at this
      exact this
    show (if y = e.1 then some e.2 else lkD (M ++ [(x, v)]) y) = if y = x then some v else if y = e.1 then some e.2 else lkD M y
    rw [ih hx'.2]
    by_cases h : y = e.1
    · rw [if_pos h, if_neg (fun e2 => hx'.1 (e2.symm.trans h)), if_pos h]
    · rw [if_neg h, if_neg h]
theorem lkD_at {M : DM} {i : Nat} {x : Nat × Nat} {d : Nat} (hn : (kyD M).Nodup) (h : M[i]? = some (x, d)) : lkD M x = some d := by
  induction M generalizing i with
  | nil => simp at h
  | cons e M ih =>
    have hn : (e.1 :: kyD M).Nodup := hn
    rw [List.nodup_cons] at hn
    show (if x = e.1 then some e.2 else lkD M x) = some d
    cases i with
    | zero => simp at h; subst h; rw [if_pos rfl]
    | succ i =>
      have h : M[i]? = some (x, d) := by simpa using h
      have hx : x ∈ kyD M := List.mem_map.2 ⟨(x, d), List.mem_of_getElem? h, rfl⟩
      rw [if_neg (fun e2 => hn.1 (by rw [← e2]; exact hx))]
      exact ih hn.2 h
def dF (M : DM) (z : Int × Int) : Option Int := if 0 ≤ z.1 ∧ 0 ≤ z.2 then (lkD M (z.1.toNat, z.2.toNat)).map Int.ofNat else none
theorem dF_toI {M : DM} {x : Nat × Nat} : dF M (toI x) = (lkD M x).map Int.ofNat := by
  unfold dF toI
  rw [if_pos (by simp only; omega)]
  rfl
theorem dF_app {M : DM} {x : Nat × Nat} {v : Nat} (hx : x ∉ kyD M) : dF (M ++ [(x, v)]) = fun y => if y = toI x then some (v : Int) else dF M y := by
  funext y
  by_cases h : 0 ≤ y.1 ∧ 0 ≤ y.2
  · have e : y = toI (y.1.toNat, y.2.toNat) := Prod.ext (show y.1 = (y.1.toNat : Int) by omega) (show y.2 = (y.2.toNat : Int) by omega)
    rw [e, dF_toI, dF_toI, lkD_app hx]
    by_cases h2 : (y.1.toNat, y.2.toNat) = x
    · rw [if_pos h2, if_pos (by rw [h2])]; rfl
    · rw [if_neg h2, if_neg (fun h3 => h2 ?_)]
      unfold toI at h3
      injection h3 with h3 h4
      exact Prod.ext (by simp only at h3 ⊢; omega) (by simp only at h4 ⊢; omega)
  · have h2 : ¬ y = toI x := fun e => h (by rw [e]; unfold toI; simp only; omega)
    rw [if_neg h2]
    unfold dF
    rw [if_neg h, if_neg h]
theorem dF_one {s : Nat × Nat} : dF [(s, 0)] = fun y => if y = toI s then some 0 else none := by
  rw [show [(s, 0)] = ([] : DM) ++ [(s, 0)] from rfl, dF_app (by simp [kyD])]
  funext y
  by_cases h : y = toI s
  · rw [if_pos h, if_pos h]; rfl
  · rw [if_neg h, if_neg h]; unfold dF; split <;> rfl
theorem MapF.look0 {h : H} {id : K} {kt : Nat} {f : Int × Int → Option Int} {x : Int × Int} {v : Int} {z : V} (hm : MapF h id kt f) (hx : in2 x) (hv : f x = some v) : lookV kt (.many [some .i64, some .i64]) z h (.m id) (pZ x) false = .ok (.i .i64 v) h := by
  obtain ⟨M, e1, e2, e3⟩ := hm
  show ((h.get id).onM kt fun es => oGet (findE (.many [some .i64, some .i64]) (pZ x) es) RV.no fun r => bif false then RV.ok (oGet r (.tup [z, .b false]) fun v => .tup [v, .b true]) h else RV.ok (oGet r z fun v => v) h) = _
  rw [e1]
  show (bif Nat.beq kt kt then (oGet (findE (.many [some .i64, some .i64]) (pZ x) (entZ M)) RV.no fun r => RV.ok (oGet r z fun v => v) h) else _) = _
  rw [Nat.beq_same, find_z hx M e2, e3, hv]; rfl
theorem MapF.lt_nx {h : H} {id : K} {kt : Nat} {f : Int × Int → Option Int} (hm : MapF h id kt f) (hc : HC h) : id.nat < h.nx.nat := by
  obtain ⟨M, e1, _⟩ := hm
  by_cases e : id.nat < h.nx.nat
  · exact e
  · have := hc id (by omega)
    rw [e1] at this; cases this
theorem arw_filter {f : Nat → Nat → Bool} {p : Nat × Nat → Bool} : (arw f).filter p = arw fun a b => f a b && p (a, b) := by
  unfold arw
  rw [List.filter_map, List.filter_filter]
  congr 1
  refine List.filter_congr fun i _ => ?_
  rw [Bool.and_comm]; rfl
section
variable {fs : T EF} {h h' : H}
def kyI (M : DM) : List (Int × Int) := (kyD M).map toI
theorem kyI_len {M : DM} : (kyI M).length = M.length := by unfold kyI kyD; rw [List.length_map, List.length_map]
theorem kyI_at {M : DM} {i : Nat} {x : Nat × Nat} {d : Nat} (h : M[i]? = some (x, d)) (hi : i < (kyI M).length) : (kyI M)[i] = toI x := by
  have : (kyI M)[i]? = some (toI x) := by
    unfold kyI kyD
    rw [List.getElem?_map, List.getElem?_map, h]; rfl
  rw [List.getElem?_eq_getElem hi] at this
  exact Option.some.inj this
theorem arI_at {G : Nat → Nat → Bool} {k : Nat} {p : Nat × Nat} (h : (arw G)[k]? = some p) (hk : k < (arI G).length) : (arI G)[k] = toI p := by
  have : (arI G)[k]? = some (toI p) := by
    unfold arI
    rw [List.getElem?_map, h]; rfl
  rw [List.getElem?_eq_getElem hk] at this
  exact Option.some.inj this
structure CallsCs (fs : T EF) : Prop extends CallsJn fs where
  c20 : fs.get (K.ofNat 20) = some f20
  c53 : fs.get (K.ofNat 53) = some f53
structure Mq (h3 : H) (M : DM) (q : V) (h1 : H) : Prop where
  gr : Grow h3.nx.nat h3 h1
  hc : HC h1
  mp : MapF h1 h3.nx 23 (dF M)
  sk : Sk 2 qE h1 q (kyI M)
  own : Own (h3.nx.nat + 1) q
def f21_A (h3 : H) (v al : V) (G : List Bool) (s : Nat × Nat) (z : Nat × DM) (fr : Fr) (h1 : H) : Prop := z.1 ≤ z.2.length ∧ BfsR G s z.1 0 z.2 ∧ ∃ q, Mq h3 z.2 q h1 ∧ fr.get (K.ofNat 1) = some (v) ∧ fr.get (K.ofNat 8) = some (al) ∧ fr.get (K.ofNat 9) = some (.m h3.nx) ∧ fr.get (K.ofNat 10) = some (q) ∧ fr.get (K.ofNat 11) = some (.i .i64 (z.1 : Int))
def f21_B (h3 : H) (v al : V) (G : List Bool) (s : Nat × Nat) (i : Nat) (z : Nat × DM) (fr : Fr) (h1 : H) : Prop := z.1 ≤ (arw (rat G)).length ∧ i < z.2.length ∧ BfsR G s i z.1 z.2 ∧ ∃ q, Mq h3 z.2 q h1 ∧ fr.get (K.ofNat 1) = some (v) ∧ fr.get (K.ofNat 8) = some (al) ∧ fr.get (K.ofNat 9) = some (.m h3.nx) ∧ fr.get (K.ofNat 10) = some (q) ∧ fr.get (K.ofNat 11) = some (.i .i64 (i : Int)) ∧ fr.get (K.ofNat 12) = some (.i .i64 (z.1 : Int))
def kn (M : DM) (p : Nat × Nat) : Bool := (lkD M p).isSome
def outT (G : List Bool) (M : DM) (k : Nat) : List (Nat × Nat) := ((arw (rat G)).take k).filter (kn M)
def farT (G : List Bool) (M : DM) (k : Nat) : List Int := (outT G M k).map fun p => (((lkD M p).getD 0 : Nat) : Int)
def f21_C (h4 : H) (al : V) (G : List Bool) (M : DM) (idm : K) (k : Nat) (fr : Fr) (h1 : H) : Prop := k ≤ (arw (rat G)).length ∧ ∃ u w, Grow h4.nx.nat h4 h1 ∧ HC h1 ∧ Sk 2 qE h1 u ((outT G M k).map toI) ∧ Own h4.nx.nat u ∧ Sl iE h1 w (farT G M k) ∧ Own h4.nx.nat w ∧ (∀ id off n sz, u = .sl id off n sz → NotIn id w) ∧ fr.get (K.ofNat 8) = some (al) ∧ fr.get (K.ofNat 9) = some (.m idm) ∧ fr.get (K.ofNat 15) = some (u) ∧ fr.get (K.ofNat 16) = some (w) ∧ fr.get (K.ofNat 17) = some (.i .i64 (k : Int))
theorem f21_ret {n : Nat} {v : V} {g : Nat → Nat → Bool} {s : Nat × Nat} (k : CallsCs fs) (hg : Gph n g) (hv : Srp h v (arI g)) (hs : rat (gR (arI g)) s.1 s.2 = true) (hc : HC h) : Ret fs f21 [.i .i64 (n : Int), v, aV s] h fun r h' => ∃ u w M, r = .tup [u, w] ∧ BfsR (gR (arI g)) s M.length 0 M ∧ Sk 2 qE h' u (arI (rat (clsR (gR (arI g)) s))) ∧ Own h.nx.nat u ∧ Sl iE h' w ((arw (rat (clsR (gR (arI g)) s))).map fun p => (((lkD M p).getD 0 : Nat) : Int)) ∧ Own h.nx.nat w ∧ Grow h.nx.nat h h' := by
  have hlb := arI_len (g := g)
  have sy := symR_g hg
  have hs7 := rat_lt hs
  apply ret_of rfl
  show W fs none f21_c _ _ _
  unfold f21_c
  have cs : cellsN 2 (aV s) = some [.i .i64 (s.1 : Int), .i .i64 (s.2 : Int)] := rfl
  have n1 := nx_new h (.cells 2 [.i .i64 (s.1 : Int), .i .i64 (s.2 : Int)])
  have g1 : Grow h.nx.nat h (h.new (.cells 2 [.i .i64 (s.1 : Int), .i .i64 (s.2 : Int)])) := Grow.new (Nat.le_refl _) _
  have e1 : (h.new (.cells 2 [.i .i64 (s.1 : Int), .i .i64 (s.2 : Int)])).get h.nx = .cells 2 [.i .i64 (s.1 : Int), .i .i64 (s.2 : Int)] := get_new_same
  simp (disch := omega) only [f21_r0, f21_r1, Nat.reduceEqDiff, ↓reduceIte, cs, bz]
  generalize h.new (.cells 2 [.i .i64 (s.1 : Int), .i .i64 (s.2 : Int)]) = h1 at *
  have hc1 := g1.hc hc
  refine (callP_0 (ef := f53) k.c53 rfl (f53_ret k.toCallsJn hg (hv.grow hc g1) hc1)).mono ?_
  rintro al h2 ⟨hal, hoal, g2⟩
  have hc2 := g2.hc hc1
  have gA := g1.trans (g2.low g1.nx)
  have hv2 := hv.grow hc gA
  have e2 := (g2.old h.nx (by omega)).trans e1
  have hav : V.agg [.i .i64 (s.1 : Int), .i .i64 (s.2 : Int)] = aV s := rfl
  have i2 : in2 (toI s) := inI_nat hs7.1 hs7.2
  have n3 := nx_new h2 (.map 23 [])
  have g3 : Grow h2.nx.nat h2 (h2.new (.map 23 [])) := Grow.new (Nat.le_refl _) _
  have l3 := ldn2 ((g3.old h.nx (by have := g2.nx; omega)).trans e2)
  obtain ⟨es, m1, m2⟩ := (MapF.nil (h := h2) (kt := 23)).put (v := 0) i2
  have m1 : mupdV 23 (.many [some .i64, some .i64]) (h2.new (.map 23 [])) (.m h2.nx) (aV s) (.i .i64 0) = .ok undefV ((h2.new (.map 23 [])).put h2.nx (.map 23 es)) := m1
  rw [← dF_one] at m2
  have g4 : Grow h2.nx.nat h2 ((h2.new (.map 23 [])).put h2.nx (.map 23 es)) := g3.trans (Grow.put (Nat.le_refl _) (by omega) _)
  have n4 : ((h2.new (.map 23 [])).put h2.nx (.map 23 es)).nx.nat = h2.nx.nat + 1 := n3
  simp (disch := omega) only [f21_r2, x_mkmap, x_mupd, Nat.reduceEqDiff, ↓reduceIte, l3, hav, m1, bz]
  generalize (h2.new (.map 23 [])).put h2.nx (.map 23 es) = h3 at *
  have hc3 := g4.hc hc2
  have l4 := ldn2 ((g4.old h.nx (by have := g2.nx; omega)).trans e2)
  have sp : setMany [V.i .i64 0, V.i .i64 0] 0 [V.i .i64 (s.1 : Int), V.i .i64 (s.2 : Int)] = [V.i .i64 (s.1 : Int), V.i .i64 (s.2 : Int)] := rfl
  have n5 := nx_new h3 (.cells (1 * 2) [.i .i64 (s.1 : Int), .i .i64 (s.2 : Int)])
  have g5 : Grow h3.nx.nat h3 (h3.new (.cells (1 * 2) [.i .i64 (s.1 : Int), .i .i64 (s.2 : Int)])) := Grow.new (Nat.le_refl _) _
  have k5 : Sk 2 qE (h3.new (.cells (1 * 2) [.i .i64 (s.1 : Int), .i .i64 (s.2 : Int)])) (.sl h3.nx 0 1 2) [toI s] := Sk.lit2o
  simp (disch := omega) only [f21_r3, f21_r4, Nat.reduceEqDiff, ↓reduceIte, l4, hav, fill_c, cs, sp, bz]
  generalize h3.new (.cells (1 * 2) [.i .i64 (s.1 : Int), .i .i64 (s.2 : Int)]) = h5 at *
  have hc5 := g5.hc hc3
  have mq0 : Mq h2 [(s, 0)] (.sl h3.nx 0 1 2) h5 := ⟨g4.trans (g5.low (by omega)), hc5, m2.same (g5.old _ (by omega)), k5, fun id off n sz e => by cases e; omega⟩
  have hA49 : (arw (rat (gR (arI g)))).length ≤ 49 := by
    have := arI_len (g := rat (gR (arI g)))
    unfold arI at this
    rw [List.length_map] at this; exact this
  refine loop_monoO (Q := fun e fr hh => e = .exit 0 ∧ ∃ M q, BfsR (gR (arI g)) s M.length 0 M ∧ Mq h2 M q hh ∧ fr.get (K.ofNat 8) = some (al) ∧ fr.get (K.ofNat 9) = some (.m h2.nx)) ?_ (W_loop (f21_A h2 v al (gR (arI g)) s) (fun z => 50 - z.1) ?_ (0, [(s, 0)]) ⟨by simp, .start, _, mq0, by simp (disch := omega) only [getK_set, Nat.reduceEqDiff, ↓reduceIte, and_self, Int.natCast_zero]⟩)
  · rintro e fr h6 ⟨rfl, M, q, hr, mq, g8, g9⟩
    have bi := hr.inv sy hs
    have hal6 := hal.grow hc2 mq.gr
    have hall : ∀ h1, lenV al h1 = .ok (.i .i64 ((arw (rat (gR (arI g)))).length : Int)) h1 := fun h1 => by rw [hal.len]; unfold arI; rw [List.length_map]
    simp (disch := omega) only [f21_r14, f21_r15, f21_r16, ↓reduceIte, bz]
    refine W_loop (f21_C h6 al (gR (arI g)) M h2.nx) (fun k => (arw (rat (gR (arI g)))).length - k) ?_ 0 ⟨by omega, .sn, .sn, Grow.refl _ _, mq.hc, Sk.nil, Own.sn, Sl.nil, Own.sn, (fun _ _ _ _ _ => NotIn.sn), by simp (disch := omega) only [getK_set, Nat.reduceEqDiff, ↓reduceIte, g8, g9, and_self, Int.natCast_zero]⟩
    clear g8 g9 fr
    rintro kk fr h7 ⟨hkk, u, w, hG, hc7, su, ou, sw, ow, hnw, g8, g9, g15, g16, g17⟩
    have m7 : MapF h7 h2.nx 23 (dF M) := mq.mp.same (hG.old _ (mq.mp.lt_nx mq.hc))
    unfold f21_l2
    by_cases hlt : kk < (arw (rat (gR (arI g)))).length
    · have d0 : decide ((kk : Int) < ((arw (rat (gR (arI g)))).length : Int)) = true := decide_eq_true (by omega)
      obtain ⟨p, hp⟩ : ∃ p, (arw (rat (gR (arI g))))[kk]? = some p := ⟨_, List.getElem?_eq_getElem hlt⟩
      obtain ⟨pl1, pl2, _⟩ := arw_lt (List.mem_of_getElem? hp)
      have hkl : kk < (arI (rat (gR (arI g)))).length := by unfold arI; rw [List.length_map]; exact hlt
      obtain ⟨pq, pa, pb⟩ := (hal6.grow mq.hc hG).at2 hkl
      have pb : loadV h7 pq (many? 2) = .ok (aV p) h7 := by rw [arI_at hp hkl] at pb; exact pb
      have hlook : lookV 23 (.many [some .i64, some .i64]) (.i .i64 0) h7 (.m h2.nx) (aV p) true = .ok (okZ (.i .i64 0) (dF M (toI p))) h7 := m7.look (inI_nat pl1 pl2)
      rw [dF_toI] at hlook
      have hsu : outT (gR (arI g)) M (kk + 1) = outT (gR (arI g)) M kk ++ (if kn M p = true then [p] else []) := by
        unfold outT
        rw [List.take_add_one, hp, List.filter_append]
        simp only [Option.toList_some]
        by_cases h : kn M p = true
        · rw [if_pos h]; simp [h]
        · rw [if_neg h]; simp [h]
      have hl1 : (outT (gR (arI g)) M kk).length ≤ 49 := by
        unfold outT
        have := List.length_filter_le (kn M) ((arw (rat (gR (arI g)))).take kk)
        rw [List.length_take] at this
        omega
      cases hlk : lkD M p with
      | none =>
        rw [hlk] at hlook
        have hok : okZ (.i .i64 0) none = .tup [.i .i64 0, .b false] := rfl
        rw [if_neg (show ¬ kn M p = true by unfold kn; rw [hlk]; simp), List.append_nil] at hsu
        simp (disch := omega) only [f21_r17, f21_r18, f21_r19, f21_r22, x_look, Option.map_none, Nat.reduceEqDiff, ↓reduceIte, Bool.false_eq_true, g8, g9, g17, hall, d0, pa, pb, hlook, hok, bz]
        exact ⟨kk + 1, by omega, by omega, u, w, hG, hc7, by rw [hsu]; exact su, ou, by unfold farT; rw [hsu]; exact sw, ow, hnw, by simp (disch := omega) only [getK_set, Nat.reduceEqDiff, ↓reduceIte, g8, g9, g15, g16, and_self, Int.natCast_add, Int.natCast_one]⟩
      | some d =>
        rw [hlk] at hlook
        have hok : okZ (.i .i64 0) (some (Int.ofNat d)) = .tup [.i .i64 (d : Int), .b true] := rfl
        rw [if_pos (show kn M p = true by unfold kn; rw [hlk]; rfl)] at hsu
        have cp : cellsN 2 (aV p) = some [.i .i64 (p.1 : Int), .i .i64 (p.2 : Int)] := rfl
        have sp : setMany [V.i .i64 0, V.i .i64 0] 0 [V.i .i64 (p.1 : Int), V.i .i64 (p.2 : Int)] = [V.i .i64 (p.1 : Int), V.i .i64 (p.2 : Int)] := rfl
        obtain ⟨u', h8, a1, s1, o1, gr8, k8⟩ := Sk.push (b := h6.nx.nat) qE_len (by omega) (x := toI p) su ou hG.nx hc7 (by rw [List.length_map]; omega)
        have a1' : appV 2 (h7.new (.cells (1 * 2) [.i .i64 (p.1 : Int), .i .i64 (p.2 : Int)])) u (.sl h7.nx 0 1 2) = .ok u' h8 := a1
        have hc8 := gr8.hc hc7
        have wlt := sw.lt hc7
        have gr8n := gr8.nx
        have hGn := hG.nx
        have notu : ∀ id off n sz, w = .sl id off n sz → NotIn id u := fun id off n sz e off' n' sz' e' => hnw _ _ _ _ e' _ _ _ e
        have sw8 : Sl iE h8 w (farT (gR (arI g)) M kk) := sw.same fun id off n sz e => (k8 id (wlt _ _ _ _ e) (notu _ _ _ _ e)).1
        obtain ⟨w', h9, a2, s2, o2, gr9, k9⟩ := Sl.push (b := h6.nx.nat) (e := iE) (x := (d : Int)) (c := .i .i64 (d : Int)) rfl sw8 ow (by omega) hc8 (by unfold farT; rw [List.length_map]; omega)
        have hc9 := gr9.hc hc8
        -- the block of the new list
        have uin : ∀ id off n sz, u' = .sl id off n sz → id.nat < h7.nx.nat → ∃ off n sz, u = .sl id off n sz := fun id off n sz e hid =>
          Classical.byContradiction fun hno => (k8 id hid fun off n sz e => hno ⟨off, n, sz, e⟩).2 off n sz e
        have hnw' : ∀ id off n sz, u' = .sl id off n sz → NotIn id w := fun id off n sz e off' n' sz' e' => by
          have hid := wlt _ _ _ _ e'
          obtain ⟨_, _, _, e2⟩ := uin id off n sz e hid
          exact hnw _ _ _ _ e2 _ _ _ e'
        have u8lt := s1.lt hc8
        simp (disch := omega) only [f21_r17, f21_r18, f21_r19, f21_r20, f21_r21, f21_r22, x_look, Option.map_some, Nat.reduceEqDiff, ↓reduceIte, g8, g9, g15, g16, g17, hall, d0, pa, pb, hlook, hok, fill_c, cp, sp, a1', a2, bz]
        refine ⟨kk + 1, by omega, by omega, u', w', hG.trans (gr8.trans gr9), hc9, ?_, o1, ?_, o2, ?_, by simp (disch := omega) only [getK_set, Nat.reduceEqDiff, ↓reduceIte, g8, g9, and_self, Int.natCast_add, Int.natCast_one]⟩
        · rw [hsu, List.map_append]
          exact s1.same fun id off n sz e => (k9 id (u8lt _ _ _ _ e) (hnw' _ _ _ _ e)).1
        · have : farT (gR (arI g)) M (kk + 1) = farT (gR (arI g)) M kk ++ [(d : Int)] := by
            unfold farT; rw [hsu, List.map_append]; simp [hlk]
          rw [this]; exact s2
        · exact fun id off n sz e => (k9 id (u8lt _ _ _ _ e) (hnw' _ _ _ _ e)).2
    · have d0 : decide ((kk : Int) < ((arw (rat (gR (arI g)))).length : Int)) = false := decide_eq_false (by omega)
      have ek : kk = (arw (rat (gR (arI g)))).length := by omega
      subst ek
      have hout : outT (gR (arI g)) M (arw (rat (gR (arI g)))).length = arw (rat (clsR (gR (arI g)) s)) := by
        unfold outT
        rw [List.take_length, arw_filter]
        refine arw_congr fun a b ha hb => ?_
        rw [Bool.eq_iff_iff, Bool.and_eq_true, ← bi.cls sy hs (a, b)]
        unfold kn
        constructor
        · rintro ⟨_, h2⟩
          refine Classical.byContradiction fun hno => ?_
          rw [lkD_none.2 hno] at h2; cases h2
        · intro hm
          refine ⟨(bi.arr _ hm).1, ?_⟩
          cases hl : lkD M (a, b) with
          | none => exact absurd hm (lkD_none.1 hl)
          | some d => rfl
      rw [hout] at su
      unfold farT at sw
      rw [hout] at sw
      have gE : Grow h.nx.nat h h7 := gA.trans ((mq.gr.low gA.nx).trans (hG.low (by have := gA.nx; have := mq.gr.nx; omega)))
      have hlow : h.nx.nat ≤ h6.nx.nat := by have := gA.nx; have := mq.gr.nx; omega
      simp (disch := omega) only [f21_r17, f21_r23, f21_rs, Option.some.injEq, exists_eq_left', Nat.reduceEqDiff, ↓reduceIte, Bool.false_eq_true, g8, g15, g16, g17, hall, d0, bz]
      exact ⟨u, w, M, rfl, hr, su, ou.low hlow, sw, ow.low hlow, gE⟩
  · clear mq0 k5 n5 sp l4 m2 m1 l3 e2 e1
    have hall : ∀ h1, lenV al h1 = .ok (.i .i64 ((arw (rat (gR (arI g)))).length : Int)) h1 := fun h1 => by rw [hal.len]; unfold arI; rw [List.length_map]
    rintro ⟨i, M⟩ fr h6 ⟨hi, hr, q, mq, g1, g8, g9, g10, g11⟩
    have hi : i ≤ M.length := hi
    have h49 : M.length ≤ 49 := (hr.inv sy hs).len
    have ql := mq.sk.len
    rw [kyI_len] at ql
    unfold f21_l1
    by_cases hlt : i < M.length
    · have d0 : decide ((i : Int) < (M.length : Int)) = true := decide_eq_true (by omega)
      simp (disch := omega) only [f21_r5, f21_r6, Nat.reduceEqDiff, ↓reduceIte, g10, g11, ql, d0, bz]
      refine W_loop (f21_B h2 v al (gR (arI g)) s i) (fun z => (arw (rat (gR (arI g)))).length - z.1) ?_ (0, M) ⟨by simp, hlt, hr, q, mq, by simp (disch := omega) only [getK_set, Nat.reduceEqDiff, ↓reduceIte, g1, g8, g9, g10, g11, and_self, Int.natCast_zero]⟩
      clear g1 g8 g9 g10 g11 ql hlt d0 hi hr mq h49
      rintro ⟨kk, M⟩ fr h7 ⟨hkk, hlt, hr, q, mq, g1, g8, g9, g10, g11, g12⟩
      have hlt : i < M.length := hlt
      have hkk : kk ≤ (arw (rat (gR (arI g)))).length := hkk
      have bi := hr.inv sy hs
      have h49 : M.length ≤ 49 := bi.len
      have hc7 := mq.hc
      unfold f21_l0
      by_cases hk : kk < (arw (rat (gR (arI g)))).length
      · have d1 : decide ((kk : Int) < ((arw (rat (gR (arI g)))).length : Int)) = true := decide_eq_true (by omega)
        obtain ⟨p, hp⟩ : ∃ p, (arw (rat (gR (arI g))))[kk]? = some p := ⟨_, List.getElem?_eq_getElem hk⟩
        obtain ⟨pl1, pl2, _⟩ := arw_lt (List.mem_of_getElem? hp)
        have hkl : kk < (arI (rat (gR (arI g)))).length := by unfold arI; rw [List.length_map]; exact hk
        have hal7 := hal.grow hc2 mq.gr
        obtain ⟨pq, pa, pb⟩ := hal7.at2 hkl
        have pb : loadV h7 pq (many? 2) = .ok (aV p) h7 := by rw [arI_at hp hkl] at pb; exact pb
        have hlook : lookV 23 (.many [some .i64, some .i64]) (.i .i64 0) h7 (.m h2.nx) (aV p) true = .ok (okZ (.i .i64 0) (dF M (toI p))) h7 := mq.mp.look (inI_nat pl1 pl2)
        rw [dF_toI] at hlook
        obtain ⟨⟨x, d⟩, hx⟩ : ∃ e, M[i]? = some e := ⟨M[i], List.getElem?_eq_getElem hlt⟩
        have hql : i < (kyI M).length := by rw [kyI_len]; exact hlt
        have hxm : x ∈ kyD M := List.mem_map.2 ⟨(x, d), List.mem_of_getElem? hx, rfl⟩
        have hx7 := rat_lt (bi.arr x hxm).1
        have hdl : d + 1 ≤ M.length := bi.dl _ (List.mem_of_getElem? hx)
        cases hlk : lkD M p with
        | some d' =>
          rw [hlk] at hlook
          have hok : okZ (.i .i64 0) (some (Int.ofNat d')) = .tup [.i .i64 (d' : Int), .b true] := rfl
          have hin : p ∈ kyD M := Classical.byContradiction fun hno => by rw [lkD_none.2 hno] at hlk; cases hlk
          simp (disch := omega) only [f21_r7, f21_r8, f21_r9, f21_r12, x_look, Option.map_some, Nat.reduceEqDiff, ↓reduceIte, Bool.false_eq_true, Bool.not_true, g8, g9, g12, hall, d1, pa, pb, hlook, hok, bz]
          exact ⟨(kk + 1, M), by simp only; omega, by simp only; omega, hlt, hr.skip hx hp (.inl hin), q, mq, by simp (disch := omega) only [getK_set, Nat.reduceEqDiff, ↓reduceIte, g1, g8, g9, g10, g11, and_self, Int.natCast_add, Int.natCast_one]⟩
        | none =>
          rw [hlk] at hlook
          have hok : okZ (.i .i64 0) none = .tup [.i .i64 0, .b false] := rfl
          have hnin := lkD_none.1 hlk
          obtain ⟨qq, qa, qb⟩ := mq.sk.at2 hql
          have qb : loadV h7 qq (many? 2) = .ok (aV x) h7 := by rw [kyI_at hx hql] at qb; exact qb
          have hqb := mq.sk.beq
          have hab := hal.beq
          simp (disch := omega) only [f21_r7, f21_r8, f21_r9, x_look, Option.map_none, Nat.reduceEqDiff, ↓reduceIte, Bool.not_false, g1, g8, g9, g10, g11, g12, hall, d1, pa, pb, qa, qb, hlook, hok, bz]
          refine (callP_0 (ef := f20) k.c20 rfl (f20_ret k.toCallsJn hg (hv2.grow hc2 mq.gr) hx7 ⟨pl1, pl2⟩ hc7)).mono ?_
          rintro r h8 ⟨rfl, g8_⟩
          have hc8 := g8_.hc hc7
          have mlt := mq.mp.lt_nx hc7
          have mq8 : Mq h2 M q h8 := ⟨mq.gr.trans (g8_.low mq.gr.nx), hc8, mq.mp.same (g8_.old _ mlt), mq.sk.grow hc7 g8_, mq.own⟩
          cases hf : frcB (gR (arI g)) x p with
          | false =>
            simp (disch := omega) only [f21_r12, Nat.reduceEqDiff, ↓reduceIte, Bool.false_eq_true, g12, bz]
            exact ⟨(kk + 1, M), by simp only; omega, by simp only; omega, hlt, hr.skip hx hp (.inr hf), q, mq8, by simp (disch := omega) only [getK_set, Nat.reduceEqDiff, ↓reduceIte, g1, g8, g9, g10, g11, and_self, Int.natCast_add, Int.natCast_one]⟩
          | true =>
            obtain ⟨pq2, pa2, pb2⟩ := (hal.grow hc2 mq8.gr).at2 hkl
            have pb2 : loadV h8 pq2 (many? 2) = .ok (aV p) h8 := by rw [arI_at hp hkl] at pb2; exact pb2
            obtain ⟨qq2, qa2, qb2⟩ := mq8.sk.at2 hql
            have qb2 : loadV h8 qq2 (many? 2) = .ok (aV x) h8 := by rw [kyI_at hx hql] at qb2; exact qb2
            have hlk2 : lookV 23 (.many [some .i64, some .i64]) (.i .i64 0) h8 (.m h2.nx) (aV x) false = .ok (.i .i64 (d : Int)) h8 := mq8.mp.look0 (x := toI x) (inI_nat hx7.1 hx7.2) (by rw [dF_toI, lkD_at bi.nd hx]; rfl)
            obtain ⟨es2, mp1, mp2⟩ := mq8.mp.put (x := toI p) (v := (d : Int) + 1) (inI_nat pl1 pl2)
            have mp1 : mupdV 23 (.many [some .i64, some .i64]) h8 (.m h2.nx) (aV p) (.i .i64 ((d : Int) + 1)) = .ok undefV (h8.put h2.nx (.map 23 es2)) := mp1
            have hdd : dF (M ++ [(p, d + 1)]) = fun y => if y = toI p then some ((d : Int) + 1) else dF M y := by rw [dF_app hnin]; funext y; simp
            rw [← hdd] at mp2
            have h8n : h2.nx.nat < h8.nx.nat := mq8.mp.lt_nx hc8
            have g9_ : Grow h2.nx.nat h8 (h8.put h2.nx (.map 23 es2)) := Grow.put (Nat.le_refl _) h8n _
            have n9_ : (h8.put h2.nx (.map 23 es2)).nx.nat = h8.nx.nat := rfl
            have bm : beqV (.m h2.nx) (.m h2.nx) = true := K.beq_refl _
            have s9 : Sk 2 qE (h8.put h2.nx (.map 23 es2)) q (kyI M) := mq8.sk.put (mq8.own.notIn (by omega)) _
            have hal9 : Sk 2 qE (h8.put h2.nx (.map 23 es2)) al (arI (rat (gR (arI g)))) := (hal.grow hc2 mq8.gr).put (fun off n sz e => by have := hal.lt hc2 _ _ _ _ e; omega) _
            simp (disch := omega) only [f21_r10, x_mupd, xg_look, Nat.reduceEqDiff, ↓reduceIte, g8, g9, g10, g11, g12, pa2, pb2, qa2, qb2, hlk2, mp1, bz]
            have hc9 := g9_.hc hc8
            generalize h8.put h2.nx (.map 23 es2) = h9 at *
            obtain ⟨pq3, pa3, pb3⟩ := hal9.at2 hkl
            have pb3 : loadV h9 pq3 (many? 2) = .ok (aV p) h9 := by rw [arI_at hp hkl] at pb3; exact pb3
            have cp : cellsN 2 (aV p) = some [.i .i64 (p.1 : Int), .i .i64 (p.2 : Int)] := rfl
            have sp : setMany [V.i .i64 0, V.i .i64 0] 0 [V.i .i64 (p.1 : Int), V.i .i64 (p.2 : Int)] = [V.i .i64 (p.1 : Int), V.i .i64 (p.2 : Int)] := rfl
            obtain ⟨q', h10, a1, s1, o1, gr10, _⟩ := Sk.push (b := h2.nx.nat + 1) qE_len (by omega) (x := toI p) s9 mq8.own (by omega) hc9 (by rw [kyI_len]; omega)
            have a1' : appV 2 (h9.new (.cells (1 * 2) [.i .i64 (p.1 : Int), .i .i64 (p.2 : Int)])) q (.sl h9.nx 0 1 2) = .ok q' h10 := a1
            simp (disch := omega) only [f21_r11, f21_r12, Nat.reduceEqDiff, ↓reduceIte, g8, g10, g12, pa3, pb3, fill_c, cp, sp, a1', bz]
            have hky : kyI (M ++ [(p, d + 1)]) = kyI M ++ [toI p] := by unfold kyI kyD; simp
            exact ⟨(kk + 1, M ++ [(p, d + 1)]), by simp only; omega, by simp only; omega, by simp only [List.length_append]; omega, hr.add hx hp hnin hf, q', ⟨mq8.gr.trans (g9_.trans (gr10.low (by omega))), gr10.hc hc9, mp2.same (gr10.old _ (by omega)), by rw [hky]; exact s1, o1⟩, by simp (disch := omega) only [getK_set, Nat.reduceEqDiff, ↓reduceIte, g1, g8, g9, g11, and_self, Int.natCast_add, Int.natCast_one]⟩
      · have d1 : decide ((kk : Int) < ((arw (rat (gR (arI g)))).length : Int)) = false := decide_eq_false (by omega)
        have ek : kk = (arw (rat (gR (arI g)))).length := by omega
        subst ek
        simp (disch := omega) only [f21_r7, f21_r13, Nat.reduceEqDiff, ↓reduceIte, Bool.false_eq_true, g8, g11, g12, hall, d1, bz]
        exact ⟨(i + 1, M), by simp only; omega, by simp only; omega, hr.next hlt, q, mq, by simp (disch := omega) only [getK_set, Nat.reduceEqDiff, ↓reduceIte, g1, g8, g9, g10, and_self, Int.natCast_add, Int.natCast_one]⟩
    · have d0 : decide ((i : Int) < (M.length : Int)) = false := decide_eq_false (by omega)
      have ei : i = M.length := by omega
      subst ei
      simp (disch := omega) only [f21_r5, Nat.reduceEqDiff, ↓reduceIte, Bool.false_eq_true, g8, g9, g10, g11, ql, d0, bz]
      exact ⟨M, q, hr, mq, by simp (disch := omega) only []⟩
end
end Go.Ev
namespace Go.Ev
open Go Go.RowKit


section
variable {G : List Bool} {C C' : Nat → Nat → Prop}
end
end Go.Ev
namespace Go.Ev
open Go Go.RowKit
noncomputable def f90_r0 : List EOper := [oG 4 (.box 49 (tG 0)), oG 5 (.box 49 (tG 1)), oG 6 (.as (cG 0))]
noncomputable def f90_r1 : List Stage := [⟨[oG 11 (.ldn 49 (tG 2)), oG 12 (.ldn 49 (tG 4)), oG 15 (.ldn 49 (tG 4))], [], (some (oG 13 (.call (fG 70) [(tG 12)]))), []⟩, ⟨[], [oG 11 (.ldn 49 (tG 2)), oG 15 (.ldn 49 (tG 4))], (some (oG 14 (.call (fG 81) [(tG 11), (tG 13)]))), []⟩, ⟨[], [oG 15 (.ldn 49 (tG 4))], (some (oG 16 (.call (fG 92) [(tG 15)]))), []⟩, ⟨[], [], (some (oG 17 (.call (fG 91) [(tG 14), (tG 16)]))), []⟩, ⟨[oG 18 (.not (tG 17))], [], none, []⟩]
noncomputable def f90_r2 : List EOper := [oG 6 (.as (cG 0))]
noncomputable def f90_r3 : List EOper := [oG 20 (.ldn 49 (tG 5)), oG 21 (.call (fG 87) [(tG 20)]), oG 19 (.mv (tG 21)), oG 22 (.ext (tG 19) 0), oG 23 (.ext (tG 19) 1), oG 7 (.alloc 2 [(.i .i64 (.ofNat 0)), (.i .i64 (.ofNat 0))]), ⟨none, none, .st 2 (tG 7) (tG 22)⟩, oG 8 (.as (tG 23))]
noncomputable def f90_r4 : List EOper := [oG 24 (.mv (tG 8)), oG 25 (.not (tG 24))]
noncomputable def f90_r5 : List EOper := [oG 6 (.as (cG 1))]
noncomputable def f90_r6 : List EOper := [oG 26 (.ldn 49 (tG 2)), oG 27 (.ldn 2 (tG 7)), oG 28 (.call (fG 57) [(tG 26), (tG 27)]), oG 9 (.alloc 49 (List.replicate 49 (.b false))), ⟨none, none, .st 49 (tG 9) (tG 28)⟩]
noncomputable def f90_r7 : List EOper := [oG 29 (.ldn 49 (tG 9)), oG 30 (.call (fG 70) [(tG 29)]), oG 10 (.alloc 49 (List.replicate 49 (.b false))), ⟨none, none, .st 49 (tG 10) (tG 30)⟩]
noncomputable def f90_r8 : List Stage := [⟨[oG 31 (.ldn 49 (tG 5)), oG 32 (.ldn 49 (tG 9)), oG 33 (.ldn 49 (tG 10)), oG 34 (.bslice 2 49 (List.replicate 98 (.b false)) [(0, 49, (tG 32)), (49, 49, (tG 33))])], [], (some (oG 35 (.call (fG 69) [(tG 34)]))), [(.ofNat 34)]⟩, ⟨[], [oG 31 (.ldn 49 (tG 5))], (some (oG 36 (.call (fG 81) [(tG 31), (tG 35)]))), []⟩, ⟨[], [], (some ⟨none, none, .st 49 (tG 5) (tG 36)⟩), []⟩, ⟨[], [], none, []⟩]
noncomputable def f90_r9 : List Stage := [⟨[oG 37 (.ld (tG 3)), oG 38 (.ldn 49 (tG 4)), oG 39 (.ldn 49 (tG 9)), oG 40 (.bslice 2 49 (List.replicate 98 (.b false)) [(0, 49, (tG 38)), (49, 49, (tG 39))]), oG 42 (.ldn 49 (tG 5)), oG 44 (.ld (tG 3)), oG 45 (.ldn 49 (tG 4)), oG 46 (.ldn 49 (tG 10)), oG 47 (.bslice 2 49 (List.replicate 98 (.b false)) [(0, 49, (tG 45)), (49, 49, (tG 46))]), oG 49 (.ldn 49 (tG 5))], [], (some (oG 41 (.call (fG 69) [(tG 40)]))), [(.ofNat 40), (.ofNat 47)]⟩, ⟨[], [oG 37 (.ld (tG 3)), oG 42 (.ldn 49 (tG 5)), oG 44 (.ld (tG 3)), oG 45 (.ldn 49 (tG 4)), oG 46 (.ldn 49 (tG 10)), oG 47 (.bslice 2 49 (List.replicate 98 (.b false)) [(0, 49, (tG 45)), (49, 49, (tG 46))]), oG 49 (.ldn 49 (tG 5))], (some (oG 43 (.call (tG 37) [(tG 41), (tG 42)]))), []⟩, ⟨[], [oG 44 (.ld (tG 3)), oG 45 (.ldn 49 (tG 4)), oG 46 (.ldn 49 (tG 10)), oG 47 (.bslice 2 49 (List.replicate 98 (.b false)) [(0, 49, (tG 45)), (49, 49, (tG 46))]), oG 49 (.ldn 49 (tG 5))], (some (oG 48 (.call (fG 69) [(tG 47)]))), []⟩, ⟨[], [oG 44 (.ld (tG 3)), oG 49 (.ldn 49 (tG 5))], (some (oG 50 (.call (tG 44) [(tG 48), (tG 49)]))), []⟩, ⟨[oG 51 (.bin .add (tG 43) (tG 50))], [], (some (oG 6 (.as (tG 51)))), []⟩, ⟨[], [], none, []⟩]
noncomputable def f90_c : EC := (.seq (.reg f90_r0) (.seq (.seq (.draw f90_r1) (.cond (tG 18) (.seq (.reg f90_r2) .ret) .skip)) (.seq (.reg f90_r3) (.seq (.seq (.reg f90_r4) (.cond (tG 25) (.seq (.reg f90_r5) .ret) .skip)) (.seq (.reg f90_r6) (.seq (.reg f90_r7) (.seq (.draw f90_r8) (.seq (.draw f90_r9) .ret))))))))
noncomputable def f90 : EF := ⟨52, [.tmp (.ofNat 6)], f90_c, none⟩
noncomputable def f64_r0 : List EOper := [oG 1 (.box 49 (tG 0)), oG 2 (.as (cG 0))]
noncomputable def f64_r1 : List EOper := [oG 3 (.alloc 1 [.fnil])]
noncomputable def f64_r2 : List EOper := [oG 4 (.mkfn (.ofNat 90) [(tG 1), (tG 3)]), ⟨none, none, .st 1 (tG 3) (tG 4)⟩]
noncomputable def f64_r3 : List EOper := [oG 5 (.ld (tG 3)), oG 6 (.build (List.replicate 49 (.b false)) []), oG 7 (.ldn 49 (tG 1)), oG 8 (.call (tG 5) [(tG 6), (tG 7)]), oG 2 (.as (tG 8))]
noncomputable def f64_c : EC := (.seq (.reg f64_r0) (.seq (.reg f64_r1) (.seq (.reg f64_r2) (.seq (.reg f64_r3) .ret))))
noncomputable def f64 : EF := ⟨9, [.tmp (.ofNat 2)], f64_c, none⟩
section
variable {fs : T EF} {h h' : H} {fr : Fr}
structure CallsNo (fs : T EF) : Prop extends CallsOr fs where
  c64 : fs.get (K.ofNat 64) = some f64
  c90 : fs.get (K.ofNat 90) = some f90
end
end Go.Ev
namespace Go.Ev
open Go Go.RowKit
section
variable {fs : T EF} {h h' : H}
end
end Go.Ev
namespace Go.Ev
open Go Go.RowKit
section
variable {fs : T EF} {h h' : H}
end
end Go.Ev
namespace Go.Ev
open Go Go.RowKit
section
variable {fs : T EF} {h h' : H}
end
end Go.Ev
namespace Go.Ev
open Go Go.RowKit
section
variable {fs : T EF} {h h' : H}
end
end Go.Ev
namespace Go.Ev
open Go Go.RowKit
noncomputable def f19_r0 : List EOper := [oG 5 (.box 2 (tG 2)), oG 6 (.as (.c (.b false)))]
noncomputable def f19_r1 : List EOper := [oG 7 (.iadr 2 1 (tG 5) (cG 0)), oG 8 (.ld (tG 7)), oG 9 (.bin .geq (tG 8) (cG 0)), oG 10 (.mv (tG 9)), gG 11 10 true (.iadr 2 1 (tG 5) (cG 1)), gG 12 10 true (.ld (tG 11)), gG 13 10 true (.bin .geq (tG 12) (cG 0)), oG 14 (.pick (tG 10) (tG 13) (.c (.b false))), oG 15 (.mv (tG 14)), gG 16 15 true (.iadr 2 1 (tG 5) (cG 0)), gG 17 15 true (.ld (tG 16)), gG 18 15 true (.mv (tG 0)), gG 19 15 true (.bin .lss (tG 17) (tG 18)), oG 20 (.pick (tG 15) (tG 19) (.c (.b false))), oG 21 (.mv (tG 20)), gG 22 21 true (.iadr 2 1 (tG 5) (cG 1)), gG 23 21 true (.ld (tG 22)), gG 24 21 true (.mv (tG 0)), gG 25 21 true (.bin .lss (tG 23) (tG 24)), oG 26 (.pick (tG 21) (tG 25) (.c (.b false))), oG 27 (.mv (tG 26)), gG 28 27 true (.iadr 2 1 (tG 5) (cG 0)), gG 29 27 true (.ld (tG 28)), gG 30 27 true (.iadr 2 1 (tG 5) (cG 1)), gG 31 27 true (.ld (tG 30)), gG 32 27 true (.bin .neq (tG 29) (tG 31)), oG 33 (.pick (tG 27) (tG 32) (.c (.b false))), oG 34 (.mv (tG 33)), gG 35 34 true (.mv (tG 1)), gG 36 34 true (.iadr 2 1 (tG 5) (cG 0)), gG 37 34 true (.ld (tG 36)), gG 38 34 true (.iadr 2 1 (tG 5) (cG 1)), gG 39 34 true (.ld (tG 38)), gG 40 34 true (.call (fG 52) [(tG 35), (tG 37), (tG 39)]), oG 41 (.pick (tG 34) (tG 40) (.c (.b false))), oG 6 (.as (tG 41))]
noncomputable def f19_c : EC := (.seq (.reg f19_r0) (.seq (.reg f19_r1) .ret))
noncomputable def f19 : EF := ⟨42, [.tmp (.ofNat 6)], f19_c, none⟩
section
variable {fs : T EF} {h h' : H}
theorem fcY_frcB {G : List Bool} (sy : SymR G) {x y : Nat × Nat} (hy : rat G y.1 y.2 = true) : decide (y ∈ fcY G x.1 x.2) = frcB G x y := by
  rw [Bool.eq_iff_iff, decide_eq_true_eq, mem_fcY]
  unfold frcB fcA fcB
  simp only [Bool.and_eq_true, Bool.or_eq_true, Bool.not_eq_true', decide_eq_true_eq]
  have hirr : ∀ a, rat G a a = false := fun a => by
    cases e : rat G a a with
    | false => rfl
    | true => exact absurd e (sy.gr.irr a)
  constructor
  · rintro (⟨h1, h2, h3⟩ | ⟨h1, h2, h3, h4⟩)
    · right
      rw [if_pos h1.symm]
      simpa using h3
    · right
      rw [if_neg (fun e => h2 e.symm)]
      simp only [Bool.and_eq_true, decide_eq_true_eq, Bool.not_eq_true']
      refine ⟨h1.symm, ?_⟩
      cases e : rat G x.1 y.1 with
      | false => rfl
      | true => have := sy.gr.sym _ _ e; have this : rat G y.1 x.1 = true := this; rw [h4] at this; cases this
  · rintro (rfl | h)
    · exact .inl ⟨rfl, hy, hirr _⟩
    · by_cases e : x.1 = y.1
      · rw [if_pos e] at h
        exact .inl ⟨e.symm, by rw [e]; exact hy, by simpa using h⟩
      · rw [if_neg e] at h
        simp only [Bool.and_eq_true, decide_eq_true_eq, Bool.not_eq_true'] at h
        refine .inr ⟨h.1.symm, fun e2 => e e2.symm, by rw [h.1]; exact hy, ?_⟩
        cases e2 : rat G y.1 x.1 with
        | false => rfl
        | true => have := sy.gr.sym _ _ e2; have this : rat G x.1 y.1 = true := this; rw [h.2] at this; cases this
end
end Go.Ev
namespace Go.Ev
open Go Go.RowKit
inductive RchN (G : List Bool) (s : Nat × Nat) : Nat → Nat × Nat → Prop where
  | zero : RchN G s 0 s
  | step {d : Nat} {x p : Nat × Nat} : RchN G s d x → p ∈ fcY G x.1 x.2 → RchN G s (d + 1) p
theorem fcY_arr {G : List Bool} {x p : Nat × Nat} (h : p ∈ fcY G x.1 x.2) : rat G p.1 p.2 = true := by
  rcases mem_fcY.1 h with ⟨e, h3⟩ | ⟨e, h3⟩
  · unfold fcA at h3
    simp only [Bool.and_eq_true] at h3
    rw [e]; exact h3.1
  · unfold fcB at h3
    simp only [Bool.and_eq_true] at h3
    rw [e]; exact h3.2.1
theorem RchN.rch {G : List Bool} {s : Nat × Nat} {d : Nat} {x : Nat × Nat} (h : RchN G s d x) : Rch (Er G) s.1 s.2 x.1 x.2 := by
  induction h with
  | zero => exact .refl
  | step _ hp ih => exact fcY_rch hp ih
theorem RchN.of {G : List Bool} {s : Nat × Nat} {a b : Nat} (h : Rch (Er G) s.1 s.2 a b) : ∃ d, RchN G s d (a, b) := by
  induction h with
  | refl => exact ⟨0, .zero⟩
  | @out c d e _ h1 h2 ih =>
    have h2 : ¬ rat G d e = true := h2
    have h1 : rat G c e = true := h1
    obtain ⟨m, hm⟩ := ih
    exact ⟨m + 1, .step (p := (c, e)) hm (mem_fcY.2 (.inl ⟨rfl, by unfold fcA; rw [h1]; simpa using h2⟩))⟩
  | @inn c d e _ h1 h2 ih =>
    have h2 : ¬ rat G e c = true := h2
    have h1 : rat G e d = true := h1
    obtain ⟨m, hm⟩ := ih
    by_cases ee : e = c
    · rw [ee]; exact ⟨m, hm⟩
    · exact ⟨m + 1, .step (p := (e, d)) hm (mem_fcY.2 (.inr ⟨rfl, by unfold fcB; rw [h1, decide_eq_true ee]; simpa using h2⟩))⟩
def IsD (G : List Bool) (s y : Nat × Nat) (d : Nat) : Prop := RchN G s d y ∧ ∀ m, RchN G s m y → d ≤ m
noncomputable def dN (G : List Bool) (s y : Nat × Nat) : Option Nat := Classical.epsilon fun o => match o with | some d => IsD G s y d | none => ∀ d, ¬ RchN G s d y
theorem dN_some {G : List Bool} {s y : Nat × Nat} {d : Nat} (h : IsD G s y d) : dN G s y = some d := by
  have hs := Classical.epsilon_spec (p := fun o : Option Nat => match o with | some d => IsD G s y d | none => ∀ d, ¬ RchN G s d y) ⟨some d, h⟩
  unfold dN
  generalize Classical.epsilon (fun o : Option Nat => match o with | some d => IsD G s y d | none => ∀ d, ¬ RchN G s d y) = o at hs
  cases o with
  | none => exact absurd h.1 (hs d)
  | some e =>
    have hs : IsD G s y e := hs
    have h1 := hs.2 _ h.1
    have h2 := h.2 _ hs.1
    rw [show e = d by omega]
theorem dN_none {G : List Bool} {s y : Nat × Nat} (h : ∀ d, ¬ RchN G s d y) : dN G s y = none := by
  have hs := Classical.epsilon_spec (p := fun o : Option Nat => match o with | some d => IsD G s y d | none => ∀ d, ¬ RchN G s d y) ⟨none, h⟩
  unfold dN
  generalize Classical.epsilon (fun o : Option Nat => match o with | some d => IsD G s y d | none => ∀ d, ¬ RchN G s d y) = o at hs
  cases o with
  | none => rfl
  | some e => exact absurd (show IsD G s y e from hs).1 (h e)
structure Lv (G : List Bool) (s : Nat × Nat) (N : DM) (i : Nat) : Prop where
  beg : N[0]? = some (s, 0)
  par : ∀ j x d, N[j]? = some (x, d) → 0 < j → ∃ i' v e, i' < j ∧ N[i']? = some (v, e) ∧ d = e + 1 ∧ x ∈ fcY G v.1 v.2
  mono : ∀ (j j' : Nat) a b, j ≤ j' → N[j]? = some a → N[j']? = some b → a.2 ≤ b.2
  top : ∀ (j : Nat) a e, N[i]? = some e → N[j]? = some a → a.2 ≤ e.2 + 1
  clo : ∀ j x d, j < i → N[j]? = some (x, d) → ∀ p ∈ fcY G x.1 x.2, ∃ (j' : Nat) (d' : Nat), N[j']? = some (p, d') ∧ d' ≤ d + 1
theorem get_one {α : Type} {x a : α} {j : Nat} (h : [x][j]? = some a) : j = 0 ∧ a = x := by
  cases j with
  | zero => simp at h; exact ⟨rfl, h.symm⟩
  | succ j => simp at h
theorem Lv.one {G : List Bool} {s : Nat × Nat} : Lv G s [(s, 0)] 0 where
  beg := rfl
  par := fun j x d h h0 => by have := (get_one h).1; omega
  mono := fun j j' a b _ h1 h2 => by rw [(get_one h1).2, (get_one h2).2]; exact Nat.le_refl _
  top := fun j a e h1 h2 => by rw [(get_one h1).2, (get_one h2).2]; exact Nat.le_succ _
  clo := fun j x d hj => by omega
theorem get_snoc {α : Type} {N : List α} {y a : α} {j : Nat} (h : (N ++ [y])[j]? = some a) : N[j]? = some a ∨ (j = N.length ∧ a = y) := by
  by_cases hj : j < N.length
  · rw [List.getElem?_append_left hj] at h; exact .inl h
  · rw [List.getElem?_append_right (by omega)] at h
    obtain ⟨h1, h2⟩ := get_one h
    exact .inr ⟨by omega, h2⟩
theorem get_up {α : Type} {N : List α} {y a : α} {j : Nat} (h : N[j]? = some a) : (N ++ [y])[j]? = some a := by
  rw [List.getElem?_append_left (get_lt h)]; exact h
theorem Lv.add {G : List Bool} {s : Nat × Nat} {N : DM} {i : Nat} (k : Lv G s N i) {x p : Nat × Nat} {d : Nat} (hi : N[i]? = some (x, d)) (hp : p ∈ fcY G x.1 x.2) : Lv G s (N ++ [(p, d + 1)]) i where
  beg := get_up k.beg
  par := fun j y c h h0 => by
    rcases get_snoc h with h | ⟨h1, h2⟩
    · obtain ⟨i', v, e, q1, q2, q3, q4⟩ := k.par j y c h h0
      exact ⟨i', v, e, q1, get_up q2, q3, q4⟩
    · injection h2 with h2 h3
      exact ⟨i, x, d, by have := get_lt hi; omega, get_up hi, h3, by rw [h2]; exact hp⟩
  mono := fun j j' a b hjj h1 h2 => by
    rcases get_snoc h1 with h1 | ⟨h1, e1⟩
    · rcases get_snoc h2 with h2 | ⟨h2, e2⟩
      · exact k.mono j j' a b hjj h1 h2
      · rw [e2]; exact k.top j a _ hi h1
    · rcases get_snoc h2 with h2 | ⟨h2, e2⟩
      · have := get_lt h2; omega
      · rw [e1, e2]; exact Nat.le_refl _
  top := fun j a e h1 h2 => by
    have h1 : N[i]? = some e := by rcases get_snoc h1 with h | ⟨h, _⟩
                                   · exact h
                                   · have := get_lt hi; omega
    rw [hi] at h1
    obtain rfl := Option.some.inj h1
    rcases get_snoc h2 with h2 | ⟨_, e2⟩
    · exact k.top j a _ hi h2
    · rw [e2]; exact Nat.le_refl _
  clo := fun j y c hj h q hq => by
    rcases get_snoc h with h | ⟨h1, _⟩
    · obtain ⟨j', d', q1, q2⟩ := k.clo j y c hj h q hq
      exact ⟨j', d', get_up q1, q2⟩
    · have := get_lt hi; omega
theorem Lv.next {G : List Bool} {s : Nat × Nat} {N : DM} {i : Nat} (k : Lv G s N i) (hc : ∀ x d, N[i]? = some (x, d) → ∀ p ∈ fcY G x.1 x.2, p ∈ N.map Prod.fst) : Lv G s N (i + 1) where
  beg := k.beg
  par := k.par
  mono := k.mono
  top := fun j a e h1 h2 => by
    have hl := get_lt h1
    obtain ⟨b, hb⟩ : ∃ b, N[i]? = some b := ⟨N[i], List.getElem?_eq_getElem (by omega)⟩
    have := k.top j a b hb h2
    have := k.mono i (i + 1) b e (by omega) hb h1
    omega
  clo := fun j x d hj h p hp => by
    by_cases e : j = i
    · subst e
      obtain ⟨⟨p', d'⟩, hm, rfl⟩ := List.mem_map.1 (hc x d h p hp)
      obtain ⟨j', hj', ej⟩ := List.getElem_of_mem hm
      have hj2 : N[j']? = some (p', d') := by rw [List.getElem?_eq_getElem hj', ej]
      exact ⟨j', d', hj2, k.top j' _ _ h hj2⟩
    · exact k.clo j x d (by omega) h p hp
theorem Lv.rch {G : List Bool} {s : Nat × Nat} {N : DM} {i : Nat} (k : Lv G s N i) : ∀ (j : Nat) x d, N[j]? = some (x, d) → RchN G s d x := by
  intro j
  induction j using Nat.strongRecOn with
  | ind j ih =>
    intro x d h
    by_cases h0 : 0 < j
    · obtain ⟨i', v, e, q1, q2, q3, q4⟩ := k.par j x d h h0
      rw [q3]; exact .step (ih i' q1 v e q2) q4
    · have : j = 0 := by omega
      subst this
      rw [k.beg] at h
      obtain ⟨rfl, rfl⟩ := Prod.mk.inj (Option.some.inj h)
      exact .zero
theorem Lv.fin {G : List Bool} {s : Nat × Nat} {N : DM} {i : Nat} (k : Lv G s N i) (hi : N.length ≤ i) {m : Nat} {z : Nat × Nat} (h : RchN G s m z) : ∃ (j : Nat) (d' : Nat), N[j]? = some (z, d') ∧ d' ≤ m := by
  induction h with
  | zero => exact ⟨0, 0, k.beg, Nat.le_refl _⟩
  | @step m x p _ hp ih =>
    obtain ⟨j, d', h1, h2⟩ := ih
    obtain ⟨j', d2, h3, h4⟩ := k.clo j x d' (by have := get_lt h1; omega) h1 p hp
    exact ⟨j', d2, h3, by omega⟩
theorem nd_same {N : DM} (hn : (kyD N).Nodup) {j j' : Nat} {z : Nat × Nat} {d d' : Nat} (h1 : N[j]? = some (z, d)) (h2 : N[j']? = some (z, d')) : d = d' := by
  have e1 := lkD_at hn h1
  have e2 := lkD_at hn h2
  rw [e1] at e2; exact Option.some.inj e2
theorem Lv.isD {G : List Bool} {s : Nat × Nat} {N : DM} {i : Nat} (k : Lv G s N i) (hn : (kyD N).Nodup) (hi : N.length ≤ i) {j : Nat} {z : Nat × Nat} {d : Nat} (h : N[j]? = some (z, d)) : IsD G s z d :=
  ⟨k.rch j z d h, fun m hm => by
    obtain ⟨j', d', h1, h2⟩ := k.fin hi hm
    have := nd_same hn h h1
    omega⟩
theorem BfsR.lv {G : List Bool} (sy : SymR G) {s : Nat × Nat} (hs : rat G s.1 s.2 = true) {i k : Nat} {M : DM} (r : BfsR G s i k M) : Lv G s M i := by
  induction r with
  | start => exact Lv.one
  | skip _ _ _ _ ih => exact ih
  | @add i k M x p d _ h1 h2 _ h4 ih =>
    exact ih.add h1 (of_decide_eq_true (by rw [fcY_frcB sy (arw_lt (List.mem_of_getElem? h2)).2.2]; exact h4))
  | @next i M r hi ih =>
    have bi := r.inv sy hs
    refine ih.next fun x d hx p hp => ?_
    have hpa := fcY_arr hp
    have hl := rat_lt hpa
    obtain ⟨q, hq, eq⟩ := List.getElem_of_mem (mem_arw.2 ⟨hl.1, hl.2, hpa⟩ : (p.1, p.2) ∈ arw (rat G))
    exact bi.cur q x p d hq hx (by rw [List.getElem?_eq_getElem hq, eq]) (by rw [← fcY_frcB sy hpa]; exact decide_eq_true hp)
theorem BfsR.dN {G : List Bool} (sy : SymR G) {s : Nat × Nat} (hs : rat G s.1 s.2 = true) {M : DM} (r : BfsR G s M.length 0 M) (y : Nat × Nat) : dN G s y = lkD M y := by
  have bi := r.inv sy hs
  have lv := r.lv sy hs
  cases h : lkD M y with
  | none =>
    refine dN_none fun d hd => ?_
    obtain ⟨j, d', h1, _⟩ := lv.fin (Nat.le_refl _) hd
    exact lkD_none.1 h (List.mem_map.2 ⟨_, List.mem_of_getElem? h1, rfl⟩)
  | some d =>
    have hm : y ∈ kyD M := Classical.byContradiction fun hn => by rw [lkD_none.2 hn] at h; cases h
    obtain ⟨⟨y', d'⟩, hm2, rfl⟩ := List.mem_map.1 hm
    obtain ⟨j, hj, ej⟩ := List.getElem_of_mem hm2
    have hj2 : M[j]? = some (y', d') := by rw [List.getElem?_eq_getElem hj, ej]
    have := lkD_at bi.nd hj2
    rw [this] at h
    obtain rfl := Option.some.inj h
    exact dN_some (lv.isD bi.nd (Nat.le_refl _) hj2)
def minC (best : Nat) (o : Option Nat) : Nat := match o with | none => best | some d => if best = 0 ∨ d + 1 < best then d + 1 else best
noncomputable def clT (G : List Bool) (k : Nat) : Nat := ((arw (rat G)).take k).foldl (fun b x => minC b (dN G x (swN x))) 0
noncomputable def clD (G : List Bool) : Nat := clT G (arw (rat G)).length
theorem clT_succ {G : List Bool} {k : Nat} {x : Nat × Nat} (h : (arw (rat G))[k]? = some x) : clT G (k + 1) = minC (clT G k) (dN G x (swN x)) := by
  unfold clT
  rw [List.take_add_one, h, List.foldl_append]; rfl
theorem clT_zero {G : List Bool} : ∀ k, k ≤ (arw (rat G)).length → (clT G k = 0 ↔ ∀ x ∈ (arw (rat G)).take k, dN G x (swN x) = none)
  | 0, _ => by simp [clT]
  | k + 1, hk => by
    obtain ⟨x, hx⟩ : ∃ x, (arw (rat G))[k]? = some x := ⟨(arw (rat G))[k]'(by omega), List.getElem?_eq_getElem (by omega)⟩
    rw [clT_succ hx, List.take_add_one, hx]
    have ih := clT_zero (G := G) k (by omega)
    constructor
    · intro h
      cases hd : dN G x (swN x) with
      | none =>
        rw [hd] at h
        have h := ih.1 h
        intro y hy
        rcases List.mem_append.1 hy with hy | hy
        · exact h y hy
        · simp at hy; rw [hy]; exact hd
      | some d =>
        rw [hd] at h
        unfold minC at h
        simp only at h
        split at h <;> omega
    · intro h
      rw [h x (by simp)]
      exact ih.2 fun y hy => h y (List.mem_append_left _ hy)
theorem clD_zero {G : List Bool} : clD G = 0 ↔ CF (Er G) := by
  unfold clD
  rw [clT_zero _ (Nat.le_refl _), List.take_length]
  constructor
  · intro h a b hab hr
    have hl := rat_lt hab
    have h1 := h (a, b) (mem_arw.2 ⟨hl.1, hl.2, hab⟩)
    obtain ⟨m, hm⟩ := RchN.of (s := (a, b)) hr
    obtain ⟨d, hd⟩ : ∃ d, IsD G (a, b) (b, a) d := by
      have : ∀ m, RchN G (a, b) m (b, a) → ∃ d, IsD G (a, b) (b, a) d := by
        intro m
        induction m using Nat.strongRecOn with
        | ind m ih =>
          intro hm
          by_cases e : ∃ m', m' < m ∧ RchN G (a, b) m' (b, a)
          · obtain ⟨m', h1, h2⟩ := e
            exact ih m' h1 h2
          · exact ⟨m, hm, fun m' h' => Classical.byContradiction fun hn => e ⟨m', by omega, h'⟩⟩
      exact this m hm
    have h2 := dN_some hd
    have h1 : dN G (a, b) (b, a) = none := h1
    rw [h1] at h2; cases h2
  · rintro h ⟨a, b⟩ hx
    refine dN_none fun d hd => h a b (arw_lt hx).2.2 hd.rch
end Go.Ev
namespace Go.Ev
open Go Go.RowKit
noncomputable def f25_r0 : List EOper := [oG 4 (.as (cG 0))]
noncomputable def f25_r1 : List EOper := [oG 11 (.mv (tG 0)), oG 12 (.mv (tG 1)), oG 13 (.call (fG 53) [(tG 11), (tG 12)]), oG 5 (.as (tG 13))]
noncomputable def f25_r2 : List EOper := [oG 6 (.as (cG 0))]
noncomputable def f25_r3 : List EOper := [oG 7 (.as (cG 0))]
noncomputable def f25_r4 : List EOper := [oG 14 (.mv (tG 7)), oG 15 (.mv (tG 5)), oG 16 (.len (tG 15)), oG 17 (.bin .lss (tG 14) (tG 16))]
noncomputable def f25_r5 : List EOper := [oG 21 (.mv (tG 0)), oG 22 (.mv (tG 1)), oG 23 (.mv (tG 5)), oG 24 (.mv (tG 7)), oG 25 (.iads 2 (tG 23) (tG 24)), oG 26 (.ldn 2 (tG 25)), oG 27 (.call (fG 21) [(tG 21), (tG 22), (tG 26)]), oG 20 (.mv (tG 27)), oG 28 (.ext (tG 20) 0), oG 29 (.ext (tG 20) 1), oG 8 (.as (tG 28)), oG 9 (.as (tG 29))]
noncomputable def f25_r6 : List EOper := [oG 10 (.as (cG 0))]
noncomputable def f25_r7 : List EOper := [oG 30 (.mv (tG 10)), oG 31 (.mv (tG 8)), oG 32 (.len (tG 31)), oG 33 (.bin .lss (tG 30) (tG 32))]
noncomputable def f25_r8 : List Stage := [⟨[oG 36 (.mv (tG 8)), oG 37 (.mv (tG 10)), oG 38 (.iads 2 (tG 36) (tG 37)), oG 39 (.ldn 2 (tG 38)), oG 40 (.mv (tG 5)), oG 41 (.mv (tG 7)), oG 42 (.iads 2 (tG 40) (tG 41)), oG 43 (.iadr 2 1 (tG 42) (cG 1)), oG 44 (.ld (tG 43)), oG 45 (.mv (tG 5)), oG 46 (.mv (tG 7)), oG 47 (.iads 2 (tG 45) (tG 46)), oG 48 (.iadr 2 1 (tG 47) (cG 0)), oG 49 (.ld (tG 48)), oG 50 (.build [(.i .i64 (.ofNat 0)), (.i .i64 (.ofNat 0))] [(0, 1, (tG 44)), (1, 1, (tG 49))]), oG 51 (.eqk (.many [(some .i64), (some .i64)]) false (tG 39) (tG 50)), oG 52 (.mv (tG 51)), gG 53 52 true (.mv (tG 6)), gG 54 52 true (.bin .eql (tG 53) (cG 0)), gG 55 52 true (.mv (tG 54)), gG 56 55 false (.mv (tG 9)), gG 57 55 false (.mv (tG 10)), gG 58 55 false (.iads 1 (tG 56) (tG 57)), gG 59 55 false (.ld (tG 58)), gG 60 55 false (.bin .add (tG 59) (cG 1)), gG 61 55 false (.mv (tG 6)), gG 62 55 false (.bin .lss (tG 60) (tG 61)), gG 63 52 true (.pick (tG 55) (.c (.b true)) (tG 62)), oG 64 (.pick (tG 52) (tG 63) (.c (.b false)))], [], none, []⟩]
noncomputable def f25_r9 : List EOper := [oG 65 (.mv (tG 9)), oG 66 (.mv (tG 10)), oG 67 (.iads 1 (tG 65) (tG 66)), oG 68 (.ld (tG 67)), oG 69 (.bin .add (tG 68) (cG 1)), oG 6 (.as (tG 69))]
noncomputable def f25_r10 : List EOper := [oG 34 (.mv (tG 10)), oG 35 (.bin .add (tG 34) (cG 1)), oG 10 (.as (tG 35))]
noncomputable def f25_l0 : EC := (.seq (.seq (.reg f25_r7) (.cond (tG 33) .skip (.exit 2))) (.seq (.block 3 (.seq (.draw f25_r8) (.cond (tG 64) (.reg f25_r9) .skip))) (.reg f25_r10)))
noncomputable def f25_r11 : List EOper := [oG 18 (.mv (tG 7)), oG 19 (.bin .add (tG 18) (cG 1)), oG 7 (.as (tG 19))]
noncomputable def f25_l1 : EC := (.seq (.seq (.reg f25_r4) (.cond (tG 17) .skip (.exit 0))) (.seq (.block 1 (.seq (.reg f25_r5) (.seq (.reg f25_r6) (.block 2 (.loop f25_l0))))) (.reg f25_r11)))
noncomputable def f25_r12 : List EOper := [oG 70 (.mv (tG 6)), oG 4 (.as (tG 70))]
noncomputable def f25_c : EC := (.seq (.reg f25_r0) (.seq (.reg f25_r1) (.seq (.reg f25_r2) (.seq (.seq (.reg f25_r3) (.block 0 (.loop f25_l1))) (.seq (.reg f25_r12) .ret)))))
noncomputable def f25 : EF := ⟨71, [.tmp (.ofNat 4)], f25_c, none⟩
theorem f25_rs : f25.rs = [.tmp (.ofNat 4)] := of_eq_true (eq_self _)
section
variable {fs : T EF} {h h' : H}
noncomputable def inB (G : List Bool) (x : Nat × Nat) (P : List (Nat × Nat)) (best i : Nat) : Nat := if swN x ∈ P.take i then minC best (dN G x (swN x)) else best
theorem minC_twice {b d : Nat} : minC (minC b (some d)) (some d) = minC b (some d) := by
  unfold minC
  simp only
  split
  · rw [if_neg (by omega)]
  · rfl
theorem inB_succ {G : List Bool} {x p : Nat × Nat} {P : List (Nat × Nat)} {best i : Nat} (hp : P[i]? = some p) : inB G x P best (i + 1) = if p = swN x then minC (inB G x P best i) (dN G x p) else inB G x P best i := by
  unfold inB
  rw [List.take_add_one, hp]
  by_cases e : p = swN x
  · rw [if_pos e, if_pos (by rw [e]; simp), e]
    split
    · cases dN G x (swN x) with
      | none => rfl
      | some d => exact minC_twice.symm
    · rfl
  · rw [if_neg e]
    have : (swN x ∈ P.take i ++ (some p).toList) ↔ swN x ∈ P.take i := by
      rw [List.mem_append]
      exact ⟨fun h => h.elim id fun h => absurd (by simpa using h) (fun h2 => e (Eq.symm h2)), .inl⟩
    by_cases h : swN x ∈ P.take i
    · rw [if_pos h, if_pos (this.2 h)]
    · rw [if_neg h, if_neg (fun h2 => h (this.1 h2))]
structure CallsKl (fs : T EF) : Prop extends CallsCs fs where
  c21 : fs.get (K.ofNat 21) = some f21
def f25_I (h0 : H) (n : Nat) (v al : V) (G : List Bool) (k : Nat) (fr : Fr) (h1 : H) : Prop := k ≤ (arw (rat G)).length ∧ Grow h0.nx.nat h0 h1 ∧ HC h1 ∧ fr.get (K.ofNat 0) = some (.i .i64 (n : Int)) ∧ fr.get (K.ofNat 1) = some (v) ∧ fr.get (K.ofNat 5) = some (al) ∧ fr.get (K.ofNat 6) = some (.i .i64 (clT G k : Int)) ∧ fr.get (K.ofNat 7) = some (.i .i64 (k : Int))
def f25_J (h0 : H) (n : Nat) (v al c w : V) (G : List Bool) (k : Nat) (x : Nat × Nat) (i : Nat) (fr : Fr) (h1 : H) : Prop := i ≤ (arw (rat (clsR G x))).length ∧ h1 = h0 ∧ fr.get (K.ofNat 0) = some (.i .i64 (n : Int)) ∧ fr.get (K.ofNat 1) = some (v) ∧ fr.get (K.ofNat 5) = some (al) ∧ fr.get (K.ofNat 6) = some (.i .i64 (inB G x (arw (rat (clsR G x))) (clT G k) i : Int)) ∧ fr.get (K.ofNat 7) = some (.i .i64 (k : Int)) ∧ fr.get (K.ofNat 8) = some (c) ∧ fr.get (K.ofNat 9) = some (w) ∧ fr.get (K.ofNat 10) = some (.i .i64 (i : Int))
theorem f25_ret {n : Nat} {v : V} {g : Nat → Nat → Bool} (k : CallsKl fs) (hg : Gph n g) (hv : Srp h v (arI g)) (hc : HC h) : Ret fs f25 [.i .i64 (n : Int), v] h fun r h' => r = .i .i64 (clD (gR (arI g)) : Int) ∧ Grow h.nx.nat h h' := by
  have hlb := arI_len (g := g)
  have sy := symR_g hg
  apply ret_of rfl
  show W fs none f25_c _ _ _
  unfold f25_c
  simp (disch := omega) only [f25_r0, f25_r1, Nat.reduceEqDiff, ↓reduceIte, bz]
  refine (callP_0 (ef := f53) k.c53 rfl (f53_ret k.toCallsJn hg hv hc)).mono ?_
  rintro al h1 ⟨hal, hoal, gr1⟩
  have hc1 := gr1.hc hc
  have hlw : (arI (rat (gR (arI g)))).length = (arw (rat (gR (arI g)))).length := by unfold arI; rw [List.length_map]
  have hlA : (arw (rat (gR (arI g)))).length ≤ 49 := by rw [← hlw]; exact arI_len
  have hall : ∀ h1, lenV al h1 = .ok (.i .i64 ((arw (rat (gR (arI g)))).length : Int)) h1 := fun h1 => by rw [hal.len, hlw]
  simp (disch := omega) only [f25_r2, f25_r3, ↓reduceIte, bz]
  refine W_loop (f25_I h1 n v al (gR (arI g))) (fun k => (arw (rat (gR (arI g)))).length - k) ?_ 0 ⟨by omega, Grow.refl _ _, hc1, by simp (disch := omega) only [getK_set, Nat.reduceEqDiff, ↓reduceIte, and_self, Int.natCast_zero, clT, List.take_zero, List.foldl_nil]⟩
  rintro kk fr h2 ⟨hkk, hG, hc2, g0, g1, g5, g6, g7⟩
  unfold f25_l1
  by_cases hlt : kk < (arw (rat (gR (arI g)))).length
  · have d0 : decide ((kk : Int) < ((arw (rat (gR (arI g)))).length : Int)) = true := decide_eq_true (by omega)
    obtain ⟨x, hx⟩ : ∃ x, (arw (rat (gR (arI g))))[kk]? = some x := ⟨_, List.getElem?_eq_getElem hlt⟩
    have hxm := arw_lt (List.mem_of_getElem? hx)
    have hx7 : in7 x := ⟨hxm.1, hxm.2.1⟩
    have hkl : kk < (arI (rat (gR (arI g)))).length := by rw [hlw]; exact hlt
    have hal2 := hal.grow hc1 hG
    obtain ⟨id, q, pa, pb, pc, pd⟩ := hal2.srpo.at2 hkl
    rw [arI_at hx hkl] at pb
    have pb : loadV h2 (.p id q) (many? 2) = .ok (aV x) h2 := pb
    simp (disch := omega) only [f25_r4, f25_r5, Nat.reduceEqDiff, ↓reduceIte, g0, g1, g5, g7, hall, d0, pa, pb, bz]
    refine (callP_0 (ef := f21) k.c21 rfl (f21_ret (s := x) k.toCallsCs hg ((hv.grow hc gr1).grow hc1 hG) hxm.2.2 hc2)).mono ?_
    rintro r h3 ⟨c, w, M, rfl, hr, sc, oc, sw, ow, gr3⟩
    have hc3 := gr3.hc hc2
    have hG3 := hG.trans (gr3.low hG.nx)
    have hal3 := hal2.grow hc2 gr3
    have bi := hr.inv sy hxm.2.2
    have hlc : (arI (rat (clsR (gR (arI g)) x))).length = (arw (rat (clsR (gR (arI g)) x))).length := by unfold arI; rw [List.length_map]
    have hlC : (arw (rat (clsR (gR (arI g)) x))).length ≤ 49 := by rw [← hlc]; exact arI_len
    have hcl : ∀ h1, lenV c h1 = .ok (.i .i64 ((arw (rat (clsR (gR (arI g)) x))).length : Int)) h1 := fun h1 => by rw [sc.len, hlc]
    obtain ⟨id', q', pa3, _, pc3, pd3⟩ := hal3.srpo.at2 hkl
    rw [arI_at hx hkl] at pc3 pd3
    have pc3 : loadV h3 (.p id' (q' + 0 * 1)) one? = .ok (.i .i64 (x.1 : Int)) h3 := pc3
    have pd3 : loadV h3 (.p id' (q' + 1 * 1)) one? = .ok (.i .i64 (x.2 : Int)) h3 := pd3
    have hdn := hr.dN sy hxm.2.2
    simp (disch := omega) only [f25_r6, Nat.reduceEqDiff, ↓reduceIte, bz]
    refine W_loop (f25_J h3 n v al c w (gR (arI g)) kk x) (fun i => (arw (rat (clsR (gR (arI g)) x))).length - i) ?_ 0 ⟨by omega, rfl, by simp (disch := omega) only [getK_set, Nat.reduceEqDiff, ↓reduceIte, g0, g1, g5, g6, g7, and_self, Int.natCast_zero, inB, List.take_zero, List.not_mem_nil]⟩
    clear g0 g1 g5 g6 g7 fr
    rintro i fr h4 ⟨hi, rfl, g0, g1, g5, g6, g7, g8, g9, g10⟩
    unfold f25_l0
    by_cases hil : i < (arw (rat (clsR (gR (arI g)) x))).length
    · have d1 : decide ((i : Int) < ((arw (rat (clsR (gR (arI g)) x))).length : Int)) = true := decide_eq_true (by omega)
      obtain ⟨p, hp⟩ : ∃ p, (arw (rat (clsR (gR (arI g)) x)))[i]? = some p := ⟨_, List.getElem?_eq_getElem hil⟩
      have hpm := arw_lt (List.mem_of_getElem? hp)
      have hp7 : in7 p := ⟨hpm.1, hpm.2.1⟩
      have hcli : i < (arI (rat (clsR (gR (arI g)) x))).length := by rw [hlc]; exact hil
      obtain ⟨id2, q2, ca, cb, _, _⟩ := sc.srpo.at2 hcli
      rw [arI_at hp hcli] at cb
      have cb : loadV h4 (.p id2 q2) (many? 2) = .ok (aV p) h4 := cb
      obtain ⟨wp, wa, wb⟩ := sw.at i (by rw [List.length_map]; exact hil)
      rw [List.getElem_map] at wb
      have hpe : (arw (rat (clsR (gR (arI g)) x)))[i] = p := by rw [List.getElem?_eq_getElem hil] at hp; exact Option.some.inj hp
      rw [hpe] at wb
      obtain ⟨d, hd⟩ : ∃ d, lkD M p = some d := by
        cases e : lkD M p with
        | some d => exact ⟨d, rfl⟩
        | none => exact absurd ((bi.cls sy hxm.2.2 p).2 hpm.2.2) (lkD_none.1 e)
      rw [hd] at wb
      have wb : loadV h4 wp one? = .ok (.i .i64 (d : Int)) h4 := wb
      have hdl : d + 1 ≤ 49 := by
        have hin := bi.dl (p, d) (by
          have hm : p ∈ kyD M := Classical.byContradiction fun hn => by rw [lkD_none.2 hn] at hd; cases hd
          obtain ⟨⟨p', d'⟩, hm2, rfl⟩ := List.mem_map.1 hm
          obtain ⟨j, hj, ej⟩ := List.getElem_of_mem hm2
          have := lkD_at bi.nd (show M[j]? = some (p', d') by rw [List.getElem?_eq_getElem hj, ej])
          rw [this] at hd
          rw [← Option.some.inj hd]; exact hm2)
        have := bi.len
        have hin : d + 1 ≤ M.length := hin
        omega
      have hsw : in7 (swN x) := ⟨hx7.2, hx7.1⟩
      have hq := keyEq_aV hp7 hsw
      have hav : V.agg [.i .i64 (x.2 : Int), .i .i64 (x.1 : Int)] = aV (swN x) := rfl
      have hsu := inB_succ (G := gR (arI g)) (x := x) (best := clT (gR (arI g)) kk) hp
      generalize hb : inB (gR (arI g)) x (arw (rat (clsR (gR (arI g)) x))) (clT (gR (arI g)) kk) i = B at *
      have hdn2 := hdn p
      rw [hd] at hdn2
      by_cases e : p = swN x
      · have e1 : decide (p = swN x) = true := decide_eq_true e
        rw [e1] at hq
        rw [if_pos e, hdn2] at hsu
        unfold minC at hsu
        simp only at hsu
        by_cases hB : B = 0
        · have e2 : decide ((B : Int) = 0) = true := decide_eq_true (by omega)
          rw [if_pos (.inl hB)] at hsu
          simp (disch := omega) only [f25_r7, f25_r8, f25_r9, f25_r10, Nat.reduceEqDiff, ↓reduceIte, Bool.false_eq_true, Bool.not_true, g5, g6, g7, g8, g9, g10, hcl, d1, ca, cb, pa3, pc3, pd3, hav, hq, cond_false, e2, wa, wb, bz]
          exact ⟨i + 1, by omega, by omega, rfl, by rw [hsu]; simp (disch := omega) only [getK_set, Nat.reduceEqDiff, ↓reduceIte, g0, g1, g5, g7, g8, g9, and_self, Int.natCast_add, Int.natCast_one]⟩
        · have e2 : decide ((B : Int) = 0) = false := decide_eq_false (by omega)
          by_cases hlt2 : d + 1 < B
          · have e3 : decide ((d : Int) + 1 < (B : Int)) = true := decide_eq_true (by omega)
            rw [if_pos (.inr hlt2)] at hsu
            simp (disch := omega) only [f25_r7, f25_r8, f25_r9, f25_r10, Nat.reduceEqDiff, ↓reduceIte, Bool.false_eq_true, Bool.not_false, g5, g6, g7, g8, g9, g10, hcl, d1, ca, cb, pa3, pc3, pd3, hav, hq, cond_false, e2, e3, wa, wb, bz]
            exact ⟨i + 1, by omega, by omega, rfl, by rw [hsu]; simp (disch := omega) only [getK_set, Nat.reduceEqDiff, ↓reduceIte, g0, g1, g5, g7, g8, g9, and_self, Int.natCast_add, Int.natCast_one]⟩
          · have e3 : decide ((d : Int) + 1 < (B : Int)) = false := decide_eq_false (by omega)
            rw [if_neg (by omega)] at hsu
            simp (disch := omega) only [f25_r7, f25_r8, f25_r10, Nat.reduceEqDiff, ↓reduceIte, Bool.false_eq_true, Bool.not_false, g5, g6, g7, g8, g9, g10, hcl, d1, ca, cb, pa3, pc3, pd3, hav, hq, cond_false, e2, e3, wa, wb, bz]
            exact ⟨i + 1, by omega, by omega, rfl, by rw [hsu]; simp (disch := omega) only [getK_set, Nat.reduceEqDiff, ↓reduceIte, g0, g1, g5, g6, g7, g8, g9, and_self, Int.natCast_add, Int.natCast_one]⟩
      · have e1 : decide (p = swN x) = false := decide_eq_false e
        rw [e1] at hq
        rw [if_neg e] at hsu
        simp (disch := omega) only [f25_r7, f25_r8, f25_r10, okG_u, asG_u, Nat.reduceEqDiff, ↓reduceIte, Bool.false_eq_true, g5, g7, g8, g10, hcl, d1, ca, cb, pa3, pc3, pd3, hav, hq, cond_false, bz]
        exact ⟨i + 1, by omega, by omega, rfl, by rw [hsu]; simp (disch := omega) only [getK_set, Nat.reduceEqDiff, ↓reduceIte, g0, g1, g5, g6, g7, g8, g9, and_self, Int.natCast_add, Int.natCast_one]⟩
    · have d1 : decide ((i : Int) < ((arw (rat (clsR (gR (arI g)) x))).length : Int)) = false := decide_eq_false (by omega)
      have ei : i = (arw (rat (clsR (gR (arI g)) x))).length := by omega
      have hend : inB (gR (arI g)) x (arw (rat (clsR (gR (arI g)) x))) (clT (gR (arI g)) kk) i = clT (gR (arI g)) (kk + 1) := by
        rw [clT_succ hx, ei]
        unfold inB
        rw [List.take_length]
        by_cases hm : swN x ∈ arw (rat (clsR (gR (arI g)) x))
        · rw [if_pos hm]
        · rw [if_neg hm]
          have : dN (gR (arI g)) x (swN x) = none := by
            rw [hdn, lkD_none, bi.cls sy hxm.2.2]
            exact fun h => hm (mem_arw.2 ⟨hx7.2, hx7.1, h⟩)
          rw [this]; rfl
      rw [hend] at g6
      simp (disch := omega) only [f25_r7, f25_r11, Nat.reduceEqDiff, ↓reduceIte, Bool.false_eq_true, g7, g8, g10, hcl, d1, bz]
      exact ⟨kk + 1, by omega, by omega, hG3, hc3, by simp (disch := omega) only [getK_set, Nat.reduceEqDiff, ↓reduceIte, g0, g1, g5, g6, and_self, Int.natCast_add, Int.natCast_one]⟩
  · have d0 : decide ((kk : Int) < ((arw (rat (gR (arI g)))).length : Int)) = false := decide_eq_false (by omega)
    have ek : kk = (arw (rat (gR (arI g)))).length := by omega
    subst ek
    simp (disch := omega) only [f25_r4, f25_r12, f25_rs, Option.some.injEq, exists_eq_left', Nat.reduceEqDiff, ↓reduceIte, Bool.false_eq_true, g5, g6, g7, hall, d0, bz]
    exact ⟨rfl, gr1.trans (hG.low gr1.nx)⟩
end
end Go.Ev
namespace Go.Ev
open Go Go.RowKit
noncomputable def f94_r0 : List EOper := [oG 4 (.alloc 49 (List.replicate 49 (.b false))), oG 5 (.as (.c (.b false)))]
noncomputable def f94_r1 : List EOper := [oG 6 (.alloc 49 (List.replicate 49 (.b false)))]
noncomputable def f94_r2 : List EOper := [oG 7 (.alloc 7 [(.b false), (.b false), (.b false), (.b false), (.b false), (.b false), (.b false)])]
noncomputable def f94_r3 : List EOper := [oG 12 (.mv (tG 1)), oG 13 (.len (tG 12)), oG 14 (.mv (tG 0)), oG 15 (.bin .neq (tG 13) (tG 14))]
noncomputable def f94_r4 : List EOper := [oG 16 (.build (List.replicate 49 (.b false)) []), ⟨none, none, .st 49 (tG 4) (tG 16)⟩, oG 5 (.as (.c (.b false)))]
noncomputable def f94_r5 : List EOper := [oG 17 (.mv (tG 1)), oG 18 (.len (tG 17)), oG 19 (.mv (cG 0))]
noncomputable def f94_r6 : List EOper := [oG 20 (.bin .lss (tG 19) (tG 18))]
noncomputable def f94_r7 : List EOper := [oG 21 (.mv (tG 19)), oG 22 (.iads 1 (tG 17) (tG 19)), oG 23 (.ld (tG 22)), oG 8 (.as (tG 21)), oG 9 (.as (tG 23))]
noncomputable def f94_r8 : List EOper := [oG 24 (.mv (tG 0)), oG 25 (.mv (tG 9)), oG 26 (.call (fG 96) [(tG 24), (tG 25)]), oG 27 (.not (tG 26)), oG 28 (.mv (tG 27)), gG 29 28 false (.mv (tG 9)), gG 30 28 false (.iadr 7 1 (tG 7) (tG 29)), gG 31 28 false (.ld (tG 30)), oG 32 (.pick (tG 28) (.c (.b true)) (tG 31))]
noncomputable def f94_r9 : List EOper := [oG 33 (.build (List.replicate 49 (.b false)) []), ⟨none, none, .st 49 (tG 4) (tG 33)⟩, oG 5 (.as (.c (.b false)))]
noncomputable def f94_r10 : List EOper := [oG 34 (.mv (tG 9)), oG 35 (.iadr 7 1 (tG 7) (tG 34)), ⟨none, none, .st 1 (tG 35) (.c (.b true))⟩]
noncomputable def f94_r11 : List EOper := [oG 36 (.mv (tG 1)), oG 37 (.mv (tG 8)), oG 38 (.slice 1 (tG 36) none (some (tG 37)) none), oG 39 (.len (tG 38)), oG 40 (.mv (cG 0))]
noncomputable def f94_r12 : List EOper := [oG 41 (.bin .lss (tG 40) (tG 39))]
noncomputable def f94_r13 : List EOper := [oG 42 (.iads 1 (tG 38) (tG 40)), oG 43 (.ld (tG 42)), oG 11 (.as (tG 43))]
noncomputable def f94_r14 : List EOper := [oG 44 (.mv (tG 11)), oG 45 (.mv (tG 9)), oG 46 (.iadr 7 7 (tG 6) (tG 44)), oG 47 (.iadr 7 1 (tG 46) (tG 45)), ⟨none, none, .st 1 (tG 47) (.c (.b true))⟩]
noncomputable def f94_r15 : List EOper := [oG 48 (.bin .add (tG 40) (cG 1)), oG 40 (.mv (tG 48))]
noncomputable def f94_l0 : EC := (.seq (.reg f94_r12) (.seq (.cond (tG 41) .skip (.exit 2)) (.seq (.block 3 (.seq (.reg f94_r13) (.reg f94_r14))) (.reg f94_r15))))
noncomputable def f94_r16 : List EOper := [oG 49 (.bin .add (tG 19) (cG 1)), oG 19 (.mv (tG 49))]
noncomputable def f94_l1 : EC := (.seq (.reg f94_r6) (.seq (.cond (tG 20) .skip (.exit 0)) (.seq (.block 1 (.seq (.reg f94_r7) (.seq (.seq (.reg f94_r8) (.cond (tG 32) (.seq (.reg f94_r9) .ret) .skip)) (.seq (.reg f94_r10) (.seq (.reg f94_r11) (.block 2 (.loop f94_l0))))))) (.reg f94_r16))))
noncomputable def f94_r17 : List EOper := [oG 50 (.ldn 49 (tG 6)), ⟨none, none, .st 49 (tG 4) (tG 50)⟩, oG 5 (.as (.c (.b true)))]
noncomputable def f94_c : EC := (.seq (.reg f94_r0) (.seq (.reg f94_r1) (.seq (.reg f94_r2) (.seq (.seq (.reg f94_r3) (.cond (tG 15) (.seq (.reg f94_r4) .ret) .skip)) (.seq (.seq (.reg f94_r5) (.block 0 (.loop f94_l1))) (.seq (.reg f94_r17) .ret))))))
noncomputable def f94 : EF := ⟨51, [.celln (.ofNat 4) 49, .tmp (.ofNat 5)], f94_c, none⟩
theorem f94_rs : f94.rs = [.celln (.ofNat 4) 49, .tmp (.ofNat 5)] := of_eq_true (eq_self _)
section
variable {fs : T EF} {h h' : H}
def bfT (X : List Int) (i : Nat) (a b : Nat) : Bool := (List.range i).any fun j => decide (X[j]? = some (b : Int)) && (List.range j).any fun t => decide (X[t]? = some (a : Int))
def bfS (X : List Int) (i t : Nat) (a b : Nat) : Bool := bfT X i a b || (decide (X[i]? = some (b : Int)) && (List.range t).any fun s => decide (X[s]? = some (a : Int)))
theorem bfS_0 {X : List Int} {i : Nat} : rl (bfS X i 0) = rl (bfT X i) := rl_congr fun a b _ _ => by unfold bfS; simp
theorem bfS_end {X : List Int} {i : Nat} : rl (bfS X i i) = rl (bfT X (i + 1)) := rl_congr fun a b _ _ => by
  unfold bfS bfT
  rw [List.range_succ, List.any_append]; simp
theorem bfS_succ {X : List Int} {i t x y : Nat} (ht : X[t]? = some (x : Int)) (hi : X[i]? = some (y : Int)) : rl (fun a b => if a = x ∧ b = y then true else bfS X i t a b) = rl (bfS X i (t + 1)) := rl_congr fun a b _ _ => by
  unfold bfS
  rw [List.range_succ, List.any_append]
  simp only [List.any_cons, List.any_nil, Bool.or_false, ht, hi, Option.some.injEq]
  by_cases e1 : a = x
  · by_cases e2 : b = y
    · subst e1; subst e2; simp
    · rw [if_neg (fun h => e2 h.2)]
      have : ¬ ((y : Int) = (b : Int)) := fun h => e2 (by omega)
      simp [this]
  · rw [if_neg (fun h => e1 h.1)]
    have : ¬ ((x : Int) = (a : Int)) := fun h => e1 (by omega)
    simp [this]
structure OkT (n : Nat) (X : List Int) (i : Nat) : Prop where
  lt : ∀ j, j < i → ∃ a : Nat, a < n ∧ X[j]? = some (a : Int)
  nd : ∀ j t, t < j → j < i → X[j]? ≠ X[t]?
def seT (X : List Int) (i : Nat) : List Bool := (List.range 7).map fun a : Nat => (List.range i).any fun s => decide (X[s]? = some (a : Int))
theorem seT_len {X : List Int} {i : Nat} : (seT X i).length = 7 := by simp [seT]
theorem seT_at {X : List Int} {i a : Nat} (ha : a < (seT X i).length) : (seT X i)[a] = (List.range i).any fun s => decide (X[s]? = some (a : Int)) := by simp [seT]
theorem seT_succ {X : List Int} {i x : Nat} (hi : X[i]? = some (x : Int)) : (seT X i).set x true = seT X (i + 1) := by
  apply List.ext_getElem
  · rw [List.length_set, seT_len, seT_len]
  · intro a h1 h2
    rw [List.getElem_set, seT_at, seT_at, List.range_succ, List.any_append]
    simp only [List.any_cons, List.any_nil, Bool.or_false, hi, Option.some.injEq]
    by_cases e : x = a
    · subst e; simp
    · rw [if_neg e]
      have : ¬ ((x : Int) = (a : Int)) := fun h => e (by omega)
      simp [this]
def f94_I (h0 : H) (n : Nat) (w : V) (X : List Int) (id4 id6 id7 : K) (i : Nat) (fr : Fr) (h1 : H) : Prop := i ≤ X.length ∧ OkT n X i ∧ Grow h0.nx.nat h0 h1 ∧ HC h1 ∧ h1.get id4 = rC (rl fun _ _ => false) ∧ h1.get id6 = rC (rl (bfT X i)) ∧ Ar V.b h1 id7 (seT X i) ∧
  fr.get (K.ofNat 0) = some (.i .i64 (n : Int)) ∧ fr.get (K.ofNat 1) = some (w) ∧ fr.get (K.ofNat 4) = some (.p id4 0) ∧ fr.get (K.ofNat 6) = some (.p id6 0) ∧ fr.get (K.ofNat 7) = some (.p id7 0) ∧ fr.get (K.ofNat 17) = some (w) ∧ fr.get (K.ofNat 18) = some (.i .i64 (X.length : Int)) ∧ fr.get (K.ofNat 19) = some (.i .i64 (i : Int))
def f94_J (h0 : H) (n : Nat) (w u : V) (X : List Int) (id4 id6 id7 : K) (i b : Nat) (t : Nat) (fr : Fr) (h1 : H) : Prop := t ≤ i ∧ Grow h0.nx.nat h0 h1 ∧ HC h1 ∧ h1.get id4 = rC (rl fun _ _ => false) ∧ h1.get id6 = rC (rl (bfS X i t)) ∧ Ar V.b h1 id7 (seT X (i + 1)) ∧
  fr.get (K.ofNat 0) = some (.i .i64 (n : Int)) ∧ fr.get (K.ofNat 1) = some (w) ∧ fr.get (K.ofNat 4) = some (.p id4 0) ∧ fr.get (K.ofNat 6) = some (.p id6 0) ∧ fr.get (K.ofNat 7) = some (.p id7 0) ∧ fr.get (K.ofNat 9) = some (.i .i64 (b : Int)) ∧ fr.get (K.ofNat 17) = some (w) ∧ fr.get (K.ofNat 18) = some (.i .i64 (X.length : Int)) ∧ fr.get (K.ofNat 19) = some (.i .i64 (i : Int)) ∧ fr.get (K.ofNat 38) = some (u) ∧ fr.get (K.ofNat 39) = some (.i .i64 (i : Int)) ∧ fr.get (K.ofNat 40) = some (.i .i64 (t : Int))
end
end Go.Ev
namespace Go.Ev
open Go Go.RowKit
noncomputable def f68_r0 : List EOper := [oG 3 (.box 2 (tG 1)), oG 4 (.alloc 49 (List.replicate 49 (.b false))), oG 5 (.as (.c (.b false)))]
noncomputable def f68_r1 : List EOper := [oG 10 (.mv (tG 0)), oG 11 (.bin .lss (tG 10) (cG 1)), oG 12 (.mv (tG 11)), gG 13 12 false (.mv (tG 0)), gG 14 12 false (.bin .gtr (tG 13) (cG 7)), oG 15 (.pick (tG 12) (.c (.b true)) (tG 14))]
noncomputable def f68_r2 : List EOper := [oG 16 (.build (List.replicate 49 (.b false)) []), ⟨none, none, .st 49 (tG 4) (tG 16)⟩, oG 5 (.as (.c (.b false)))]
noncomputable def f68_r3 : List EOper := [oG 18 (.mv (tG 0)), oG 19 (.iadr 2 1 (tG 3) (cG 0)), oG 20 (.ld (tG 19)), oG 21 (.call (fG 94) [(tG 18), (tG 20)]), oG 17 (.mv (tG 21)), oG 22 (.ext (tG 17) 0), oG 23 (.ext (tG 17) 1), oG 6 (.alloc 49 (List.replicate 49 (.b false))), ⟨none, none, .st 49 (tG 6) (tG 22)⟩, oG 7 (.as (tG 23))]
noncomputable def f68_r4 : List EOper := [oG 25 (.mv (tG 0)), oG 26 (.iadr 2 1 (tG 3) (cG 1)), oG 27 (.ld (tG 26)), oG 28 (.call (fG 94) [(tG 25), (tG 27)]), oG 24 (.mv (tG 28)), oG 29 (.ext (tG 24) 0), oG 30 (.ext (tG 24) 1), oG 8 (.alloc 49 (List.replicate 49 (.b false))), ⟨none, none, .st 49 (tG 8) (tG 29)⟩, oG 9 (.as (tG 30))]
noncomputable def f68_r5 : List EOper := [oG 31 (.mv (tG 7)), oG 32 (.not (tG 31)), oG 33 (.mv (tG 32)), gG 34 33 false (.mv (tG 9)), gG 35 33 false (.not (tG 34)), oG 36 (.pick (tG 33) (.c (.b true)) (tG 35))]
noncomputable def f68_r6 : List EOper := [oG 37 (.build (List.replicate 49 (.b false)) []), ⟨none, none, .st 49 (tG 4) (tG 37)⟩, oG 5 (.as (.c (.b false)))]
noncomputable def f68_r7 : List Stage := [⟨[oG 38 (.ldn 49 (tG 6)), oG 39 (.ldn 49 (tG 8))], [], (some (oG 40 (.call (fG 70) [(tG 39)]))), []⟩, ⟨[], [oG 38 (.ldn 49 (tG 6))], (some (oG 41 (.call (fG 81) [(tG 38), (tG 40)]))), []⟩, ⟨[], [], (some ⟨none, none, .st 49 (tG 4) (tG 41)⟩), []⟩, ⟨[], [], (some (oG 5 (.as (.c (.b true))))), []⟩, ⟨[], [], none, []⟩]
noncomputable def f68_c : EC := (.seq (.reg f68_r0) (.seq (.seq (.reg f68_r1) (.cond (tG 15) (.seq (.reg f68_r2) .ret) .skip)) (.seq (.reg f68_r3) (.seq (.reg f68_r4) (.seq (.seq (.reg f68_r5) (.cond (tG 36) (.seq (.reg f68_r6) .ret) .skip)) (.seq (.draw f68_r7) .ret))))))
noncomputable def f68 : EF := ⟨42, [.celln (.ofNat 4) 49, .tmp (.ofNat 5)], f68_c, none⟩
theorem f68_rs : f68.rs = [.celln (.ofNat 4) 49, .tmp (.ofNat 5)] := of_eq_true (eq_self _)
noncomputable def f37_r0 : List EOper := [oG 3 (.box 2 (tG 1)), oG 4 (.as (.c .sn)), oG 5 (.as (cG 0))]
noncomputable def f37_r1 : List EOper := [oG 9 (.mv (tG 0)), oG 10 (.ldn 2 (tG 3)), oG 11 (.call (fG 68) [(tG 9), (tG 10)]), oG 8 (.mv (tG 11)), oG 12 (.ext (tG 8) 0), oG 13 (.ext (tG 8) 1), oG 6 (.alloc 49 (List.replicate 49 (.b false))), ⟨none, none, .st 49 (tG 6) (tG 12)⟩, oG 7 (.as (tG 13))]
noncomputable def f37_r2 : List EOper := [oG 14 (.mv (tG 7)), oG 15 (.not (tG 14))]
noncomputable def f37_r3 : List EOper := [oG 4 (.as (.c .sn)), oG 5 (.as (cG 1))]
noncomputable def f37_r4 : List EOper := [oG 16 (.ldn 49 (tG 6)), oG 17 (.call (fG 58) [(tG 16)]), oG 4 (.as (tG 17)), oG 5 (.as (cG 0))]
noncomputable def f37_c : EC := (.seq (.reg f37_r0) (.seq (.reg f37_r1) (.seq (.seq (.reg f37_r2) (.cond (tG 15) (.seq (.reg f37_r3) .ret) .skip)) (.seq (.reg f37_r4) .ret))))
noncomputable def f37 : EF := ⟨18, [.tmp (.ofNat 4), .tmp (.ofNat 5)], f37_c, none⟩
theorem f37_rs : f37.rs = [.tmp (.ofNat 4), .tmp (.ofNat 5)] := of_eq_true (eq_self _)
noncomputable def f36_r0 : List EOper := [oG 3 (.box 2 (tG 1)), oG 4 (.as (.c .sn)), oG 5 (.as (cG 0))]
noncomputable def f36_r1 : List EOper := [oG 9 (.mv (tG 0)), oG 10 (.ldn 2 (tG 3)), oG 11 (.call (fG 68) [(tG 9), (tG 10)]), oG 8 (.mv (tG 11)), oG 12 (.ext (tG 8) 0), oG 13 (.ext (tG 8) 1), oG 6 (.alloc 49 (List.replicate 49 (.b false))), ⟨none, none, .st 49 (tG 6) (tG 12)⟩, oG 7 (.as (tG 13))]
noncomputable def f36_r2 : List EOper := [oG 14 (.mv (tG 7)), oG 15 (.not (tG 14))]
noncomputable def f36_r3 : List EOper := [oG 4 (.as (.c .sn)), oG 5 (.as (cG 1))]
noncomputable def f36_r4 : List Stage := [⟨[oG 16 (.ldn 49 (tG 6)), oG 17 (.ldn 49 (tG 6)), oG 21 (.mv (tG 0))], [], (some (oG 18 (.call (fG 70) [(tG 17)]))), []⟩, ⟨[oG 19 (.bslice 2 49 (List.replicate 98 (.b false)) [(0, 49, (tG 16)), (49, 49, (tG 18))])], [oG 16 (.ldn 49 (tG 6)), oG 21 (.mv (tG 0))], (some (oG 20 (.call (fG 69) [(tG 19)]))), [(.ofNat 19)]⟩, ⟨[], [oG 21 (.mv (tG 0))], (some (oG 22 (.call (fG 49) [(tG 20), (tG 21)]))), []⟩, ⟨[], [], (some (oG 23 (.call (fG 50) [(tG 22)]))), []⟩, ⟨[], [], (some (oG 4 (.as (tG 23)))), []⟩, ⟨[], [], (some (oG 5 (.as (cG 0)))), []⟩, ⟨[], [], none, []⟩]
noncomputable def f36_c : EC := (.seq (.reg f36_r0) (.seq (.reg f36_r1) (.seq (.seq (.reg f36_r2) (.cond (tG 15) (.seq (.reg f36_r3) .ret) .skip)) (.seq (.draw f36_r4) .ret))))
noncomputable def f36 : EF := ⟨24, [.tmp (.ofNat 4), .tmp (.ofNat 5)], f36_c, none⟩
theorem f36_rs : f36.rs = [.tmp (.ofNat 4), .tmp (.ofNat 5)] := of_eq_true (eq_self _)
section
variable {fs : T EF} {h h' : H}
def lnOk (n : Nat) (X : List Int) : Prop := X.length = n ∧ OkT n X X.length
def bfR (X : List Int) : List Bool := rl (bfT X X.length)
def agR (X Y : List Int) : List Bool := woR (bfR X) (turnR (bfR Y))
theorem agR_len {X Y : List Int} : (agR X Y).length = 49 := by unfold agR woR; exact rl_len
def agOk (n : Int) (X Y : List Int) : Prop := 1 ≤ n ∧ n ≤ 7 ∧ lnOk n.toNat X ∧ lnOk n.toNat Y
structure CallsAg (fs : T EF) : Prop extends CallsNo fs where
  c94 : fs.get (K.ofNat 94) = some f94
structure CallsDn (fs : T EF) : Prop extends CallsAg fs, CallsEd fs where
  c68 : fs.get (K.ofNat 68) = some f68
def drR (n : Nat) (X Y : List Int) (a b : Nat) : Bool := rat (otR n (jnR [agR X Y, turnR (agR X Y)])) a b && decide (a ≤ b)
end
end Go.Ev
namespace Go.Ev
open Go Go.RowKit
noncomputable def f39_r0 : List EOper := [oG 3 (.box 2 (tG 1)), oG 4 (.as (cG 0)), oG 5 (.alloc 2 [.sn, .sn])]
noncomputable def f39_r1 : List EOper := [oG 12 (.mv (tG 0)), oG 13 (.conv .u64 (tG 12)), oG 14 (.bin .rem (tG 13) (.c (.i .u64 (.ofNat 7)))), oG 15 (.conv .i64 (tG 14)), oG 16 (.bin .add (cG 1) (tG 15)), oG 0 (.as (tG 16))]
noncomputable def f39_r2 : List EOper := [oG 6 (.alloc 2 [.sn, .sn])]
noncomputable def f39_r3 : List EOper := [oG 7 (.as (cG 0))]
noncomputable def f39_r4 : List EOper := [oG 17 (.mv (tG 7)), oG 18 (.bin .lss (tG 17) (cG 2))]
noncomputable def f39_r5 : List EOper := [oG 8 (.as (.c .sn))]
noncomputable def f39_r6 : List EOper := [oG 9 (.as (cG 0))]
noncomputable def f39_r7 : List EOper := [oG 21 (.mv (tG 9)), oG 22 (.mv (tG 0)), oG 23 (.bin .lss (tG 21) (tG 22))]
noncomputable def f39_r8 : List EOper := [oG 10 (.as (cG 0))]
noncomputable def f39_r9 : List EOper := [oG 26 (.mv (tG 9)), oG 27 (.mv (tG 7)), oG 28 (.iadr 2 1 (tG 3) (tG 27)), oG 29 (.ld (tG 28)), oG 30 (.len (tG 29)), oG 31 (.bin .lss (tG 26) (tG 30))]
noncomputable def f39_r10 : List EOper := [oG 32 (.mv (tG 7)), oG 33 (.iadr 2 1 (tG 3) (tG 32)), oG 34 (.ld (tG 33)), oG 35 (.mv (tG 9)), oG 36 (.iads 1 (tG 34) (tG 35)), oG 37 (.ld (tG 36)), oG 38 (.conv .u64 (tG 37)), oG 39 (.mv (tG 9)), oG 40 (.bin .add (tG 39) (cG 1)), oG 41 (.conv .u64 (tG 40)), oG 42 (.bin .rem (tG 38) (tG 41)), oG 43 (.conv .i64 (tG 42)), oG 10 (.as (tG 43))]
noncomputable def f39_r11 : List EOper := [oG 11 (.as (.c .sn))]
noncomputable def f39_r12 : List EOper := [oG 44 (.mv (tG 11)), oG 45 (.mv (tG 8)), oG 46 (.mv (tG 10)), oG 47 (.slice 1 (tG 45) none (some (tG 46)) none), oG 48 (.app 1 (tG 44) (tG 47)), oG 11 (.as (tG 48))]
noncomputable def f39_r13 : List EOper := [oG 49 (.mv (tG 11)), oG 50 (.mv (tG 9)), oG 51 (.bslice 1 1 [(.i .i64 (.ofNat 0))] [(0, 1, (tG 50))]), oG 52 (.app 1 (tG 49) (tG 51)), oG 11 (.as (tG 52))]
noncomputable def f39_r14 : List EOper := [oG 53 (.mv (tG 11)), oG 54 (.mv (tG 8)), oG 55 (.mv (tG 10)), oG 56 (.slice 1 (tG 54) (some (tG 55)) none none), oG 57 (.app 1 (tG 53) (tG 56)), oG 8 (.as (tG 57))]
noncomputable def f39_r15 : List EOper := [oG 24 (.mv (tG 9)), oG 25 (.bin .add (tG 24) (cG 1)), oG 9 (.as (tG 25))]
noncomputable def f39_l0 : EC := (.seq (.seq (.reg f39_r7) (.cond (tG 23) .skip (.exit 2))) (.seq (.block 3 (.seq (.reg f39_r8) (.seq (.seq (.reg f39_r9) (.cond (tG 31) (.reg f39_r10) .skip)) (.seq (.reg f39_r11) (.seq (.reg f39_r12) (.seq (.reg f39_r13) (.reg f39_r14))))))) (.reg f39_r15)))
noncomputable def f39_r16 : List EOper := [oG 58 (.mv (tG 7)), oG 59 (.mv (tG 8)), oG 60 (.iadr 2 1 (tG 6) (tG 58)), ⟨none, none, .st 1 (tG 60) (tG 59)⟩]
noncomputable def f39_r17 : List EOper := [oG 19 (.mv (tG 7)), oG 20 (.bin .add (tG 19) (cG 1)), oG 7 (.as (tG 20))]
noncomputable def f39_l1 : EC := (.seq (.seq (.reg f39_r4) (.cond (tG 18) .skip (.exit 0))) (.seq (.block 1 (.seq (.reg f39_r5) (.seq (.seq (.reg f39_r6) (.block 2 (.loop f39_l0))) (.reg f39_r16)))) (.reg f39_r17)))
noncomputable def f39_r18 : List Stage := [⟨[oG 61 (.mv (tG 0)), oG 62 (.ldn 2 (tG 6))], [], (some (oG 4 (.as (tG 61)))), []⟩, ⟨[], [oG 62 (.ldn 2 (tG 6))], (some ⟨none, none, .st 2 (tG 5) (tG 62)⟩), []⟩, ⟨[], [], none, []⟩]
noncomputable def f39_c : EC := (.seq (.reg f39_r0) (.seq (.reg f39_r1) (.seq (.reg f39_r2) (.seq (.seq (.reg f39_r3) (.block 0 (.loop f39_l1))) (.seq (.draw f39_r18) .ret)))))
noncomputable def f39 : EF := ⟨63, [.tmp (.ofNat 4), .celln (.ofNat 5) 2], f39_c, none⟩
theorem f39_rs : f39.rs = [.tmp (.ofNat 4), .celln (.ofNat 5) 2] := of_eq_true (eq_self _)
section
variable {fs : T EF} {h h' : H}
structure RowP (v : Nat) (R : List Int) : Prop where
  len : R.length = v
  nd : R.Nodup
  lt : ∀ x ∈ R, ∃ a : Nat, a < v ∧ x = (a : Int)
theorem RowP.nil : RowP 0 [] := ⟨rfl, by simp, fun x hx => absurd hx (by simp)⟩
theorem RowP.ins {v : Nat} {R : List Int} (r : RowP v R) {a : Nat} (_ : a ≤ v) : RowP (v + 1) (R.take a ++ [(v : Int)] ++ R.drop a) := by
  have hv : (v : Int) ∉ R := fun h => by obtain ⟨b, h1, h2⟩ := r.lt _ h; omega
  refine ⟨?_, ?_, fun x hx => ?_⟩
  · simp only [List.length_append, List.length_take, List.length_drop, List.length_singleton, r.len]; omega
  · have hp : (R.take a ++ [(v : Int)] ++ R.drop a).Perm ((v : Int) :: R) := by
      have h1 : (R.take a ++ [(v : Int)] ++ R.drop a).Perm ((v : Int) :: (R.take a ++ R.drop a)) := by
        rw [List.append_assoc]
        exact List.perm_middle
      rwa [List.take_append_drop] at h1
    rw [hp.nodup_iff, List.nodup_cons]
    exact ⟨hv, r.nd⟩
  · rw [List.append_assoc, List.mem_append, List.mem_append, List.mem_singleton] at hx
    rcases hx with hx | rfl | hx
    · obtain ⟨b, h1, h2⟩ := r.lt x (List.mem_of_mem_take hx); exact ⟨b, by omega, h2⟩
    · exact ⟨v, by omega, rfl⟩
    · obtain ⟨b, h1, h2⟩ := r.lt x (List.mem_of_mem_drop hx); exact ⟨b, by omega, h2⟩
theorem RowP.ok {v : Nat} {R : List Int} (r : RowP v R) : lnOk v R := by
  refine ⟨r.len, ⟨fun j hj => ?_, fun j t htj hj e => ?_⟩⟩
  · obtain ⟨a, h1, h2⟩ := r.lt _ (List.getElem_mem hj)
    exact ⟨a, h1, by rw [List.getElem?_eq_getElem hj, h2]⟩
  · rw [List.getElem?_eq_getElem hj, List.getElem?_eq_getElem (by omega)] at e
    exact (List.pairwise_iff_getElem.1 r.nd) t j (by omega) hj htj (Option.some.inj e).symm
def f39_A (h0 : H) (b : Nat) (N : Nat) (id3 id5 id6 : K) (v w : V) (kk : Nat) (fr : Fr) (h1 : H) : Prop := kk ≤ 2 ∧ Grow h0.nx.nat h0 h1 ∧ b ≤ h1.nx.nat ∧ HC h1 ∧ h1.get id3 = .cells 2 [v, w] ∧ h1.get id5 = .cells 2 [.sn, .sn] ∧
  (∃ a0 a1, h1.get id6 = .cells 2 [a0, a1] ∧ cellsN 1 a0 = some [a0] ∧ cellsN 1 a1 = some [a1] ∧ (∃ R, Sl iE h1 a0 R ∧ Own b a0 ∧ (1 ≤ kk → RowP N R)) ∧ ∃ R, Sl iE h1 a1 R ∧ Own b a1 ∧ (2 ≤ kk → RowP N R)) ∧
  fr.get (K.ofNat 0) = some (.i .i64 (N : Int)) ∧ fr.get (K.ofNat 3) = some (.p id3 0) ∧ fr.get (K.ofNat 5) = some (.p id5 0) ∧ fr.get (K.ofNat 6) = some (.p id6 0) ∧ fr.get (K.ofNat 7) = some (.i .i64 (kk : Int))
def f39_B (h0 : H) (N : Nat) (id3 id5 id6 : K) (kk : Nat) (x : Nat) (fr : Fr) (h1 : H) : Prop := x ≤ N ∧ Grow h0.nx.nat h0 h1 ∧ HC h1 ∧ (∃ row R, Sl iE h1 row R ∧ RowP x R ∧ Own h0.nx.nat row ∧ fr.get (K.ofNat 8) = some row) ∧
  fr.get (K.ofNat 0) = some (.i .i64 (N : Int)) ∧ fr.get (K.ofNat 3) = some (.p id3 0) ∧ fr.get (K.ofNat 5) = some (.p id5 0) ∧ fr.get (K.ofNat 6) = some (.p id6 0) ∧ fr.get (K.ofNat 7) = some (.i .i64 (kk : Int)) ∧ fr.get (K.ofNat 9) = some (.i .i64 (x : Int))
theorem f39_ret {n : Int} {v w : V} {X Y : List Int} (hv : Sr iE h v X) (hw : Sr iE h w Y) (hX : X.length ≤ 9223372036854775807) (hY : Y.length ≤ 9223372036854775807) (hc : HC h) : Ret fs f39 [.i .i64 n, .agg [v, w]] h fun r h' => Grow h.nx.nat h h' ∧ ∃ (N : Nat) (a0 a1 : V) (R0 R1 : List Int), r = .tup [.i .i64 (N : Int), .agg [a0, a1]] ∧ 1 ≤ N ∧ N ≤ 7 ∧ Sl iE h' a0 R0 ∧ RowP N R0 ∧ Sl iE h' a1 R1 ∧ RowP N R1 ∧ Own h.nx.nat a0 ∧ Own h.nx.nat a1 := by
  apply ret_of rfl
  show W fs none f39_c _ _ _
  unfold f39_c
  have cvw : cellsN 2 (.agg [v, w]) = some [v, w] := rfl
  have n1 := nx_new h (.cells 2 [v, w])
  have g1_ : Grow h.nx.nat h (h.new (.cells 2 [v, w])) := Grow.new (Nat.le_refl _) _
  have e1 : (h.new (.cells 2 [v, w])).get h.nx = .cells 2 [v, w] := get_new_same
  simp (disch := omega) only [f39_r0, ↓reduceIte, cvw, bz]
  generalize h.new (.cells 2 [v, w]) = h1 at *
  have n2 := nx_new h1 (.cells 2 [.sn, .sn])
  have g2_ : Grow h1.nx.nat h1 (h1.new (.cells 2 [.sn, .sn])) := Grow.new (Nat.le_refl _) _
  have e2 : (h1.new (.cells 2 [.sn, .sn])).get h1.nx = .cells 2 [.sn, .sn] := get_new_same
  generalize h1.new (.cells 2 [.sn, .sn]) = h2 at *
  obtain ⟨q, hq7, hqe⟩ := rem_kO n (k := 7) (by omega) (by omega)
  have hqe : fw .i64 ((fw .u64 n).tmod 7) = (q : Int) := hqe
  have hr7 : ∀ a, binV .rem (.i .u64 a) (.i .u64 7) = some (.i .u64 (a.tmod 7)) := fun a => bin_rem (by omega)
  obtain ⟨N, hN⟩ : ∃ N : Nat, N = 1 + q := ⟨_, rfl⟩
  have eN : 1 + (q : Int) = (N : Int) := by omega
  have n3 := nx_new h2 (.cells 2 [.sn, .sn])
  have g3_ : Grow h2.nx.nat h2 (h2.new (.cells 2 [.sn, .sn])) := Grow.new (Nat.le_refl _) _
  have e3 : (h2.new (.cells 2 [.sn, .sn])).get h2.nx = .cells 2 [.sn, .sn] := get_new_same
  simp (disch := omega) only [f39_r1, f39_r2, f39_r3, x_conv, onI_i, Nat.reduceEqDiff, ↓reduceIte, hr7, hqe, eN, bz]
  generalize h2.new (.cells 2 [.sn, .sn]) = h3 at *
  have gA : Grow h.nx.nat h h3 := g1_.trans ((g2_.low (by omega)).trans (g3_.low (by omega)))
  have hc3 := gA.hc hc
  have a3 := (g3_.old h.nx (by omega)).trans ((g2_.old h.nx (by omega)).trans e1)
  have a5 := (g3_.old h1.nx (by omega)).trans e2
  have lvlt : ∀ {hh : H}, Grow h.nx.nat h hh → Sr iE hh v X := fun {hh} g => hv.grow hc g
  have lwlt : ∀ {hh : H}, Grow h.nx.nat h hh → Sr iE hh w Y := fun {hh} g => hw.grow hc g
  refine W_loop (f39_A h h3.nx.nat N h.nx h1.nx h2.nx v w) (fun kk => 2 - kk) ?_ 0 ⟨by omega, gA, Nat.le_refl _, hc3, a3, a5, ⟨.sn, .sn, e3, rfl, rfl, ⟨[], Sl.nil, Own.sn, fun h => by omega⟩, ⟨[], Sl.nil, Own.sn, fun h => by omega⟩⟩, by simp (disch := omega) only [getK_set, Nat.reduceEqDiff, ↓reduceIte, and_self, Int.natCast_zero]⟩
  rintro kk fr h4 ⟨hkk, hG, hGn, hc4, c3, c5, ⟨a0, a1, c6, o0, o1, ⟨R0, s0, w0, r0⟩, ⟨R1, s1, w1, r1⟩⟩, g0, g3, g5, g6, g7⟩
  unfold f39_l1
  by_cases hk : kk < 2
  · have d0 : decide ((kk : Int) < 2) = true := decide_eq_true (by omega)
    simp (disch := omega) only [f39_r4, f39_r5, f39_r6, ↓reduceIte, g7, d0, bz]
    refine W_loop (f39_B h4 N h.nx h1.nx h2.nx kk) (fun x => N - x) ?_ 0 ⟨by omega, Grow.refl _ _, hc4, ⟨.sn, [], Sl.nil, RowP.nil, Own.sn, by simp (disch := omega) only [getK_set, Nat.reduceEqDiff, ↓reduceIte]⟩, by simp (disch := omega) only [getK_set, Nat.reduceEqDiff, ↓reduceIte, g0, g3, g5, g6, g7, and_self, Int.natCast_zero]⟩
    clear g0 g3 g5 g6 g7 fr
    rintro x fr h5 ⟨hxN, hG5, hc5, ⟨row, R, sR, rp, oR, g8⟩, g0, g3, g5, g6, g7, g9⟩
    have hG5n := hG5.nx
    have gAn := gA.nx
    have gh5 : Grow h.nx.nat h h5 := hG.trans (hG5.low hG.nx)
    unfold f39_l0
    by_cases hxl : x < N
    · have d1 : decide ((x : Int) < (N : Int)) = true := decide_eq_true (by omega)
      have c3' := (hG5.old h.nx (by omega)).trans c3
      obtain ⟨z, Z, hz, hZl, lz⟩ : ∃ z Z, Sr iE h5 z Z ∧ Z.length ≤ 9223372036854775807 ∧ loadV h5 (.p h.nx (0 + kk * 1)) one? = .ok z h5 := by
        by_cases e : kk = 0
        · subst e; exact ⟨v, X, lvlt gh5, hX, load_p c3' rfl⟩
        · have : kk = 1 := by omega
          subst this; exact ⟨w, Y, lwlt gh5, hY, load_p c3' rfl⟩
      have zlen := hz.len
      by_cases hxZ : x < Z.length
      · have d2 : decide ((x : Int) < (Z.length : Int)) = true := decide_eq_true (by omega)
        obtain ⟨pz, pz1, pz2⟩ := hz.at x hxZ
        have pz2 : loadV h5 pz one? = .ok (.i .i64 Z[x]) h5 := pz2
        obtain ⟨at_, hat, hae⟩ := rem_kO Z[x] (k := x + 1) (by omega) (by omega)
        have ex1 : (x : Int) + 1 = ((x + 1 : Nat) : Int) := by omega
        have hwx : fw .u64 ((x + 1 : Nat) : Int) = ((x + 1 : Nat) : Int) := fwu64 (by omega) (by omega)
        have hrw : ∀ a, binV .rem (.i .u64 a) (.i .u64 ((x + 1 : Nat) : Int)) = some (.i .u64 (a.tmod ((x + 1 : Nat) : Int))) := fun a => bin_rem (by omega)
        obtain ⟨u1, q1, sc1, _⟩ := sR.cut (lo := none) (hi := some (.i .i64 (at_ : Int))) (l := 0) (u := at_) rfl rfl (by omega) (by rw [rp.len]; omega)
        rw [List.drop_zero] at sc1
        obtain ⟨nx1, h6, p1, s6, o6, g6_, _⟩ := Sl.app (b := h5.nx.nat) (e := iE) (Sl.nil (h := h5)) Own.sn (Nat.le_refl _) sc1 hc5 (by simp only [List.length_nil, List.length_take, rp.len]; omega)
        rw [List.nil_append] at s6
        have hc6 := g6_.hc hc5
        obtain ⟨nx2, h7, p2, s7, o7, g7_, _⟩ := Sl.push (b := h5.nx.nat) (e := iE) (x := (x : Int)) (c := .i .i64 (x : Int)) rfl s6 o6 g6_.nx hc6 (by simp only [List.length_take, rp.len]; omega)
        have hc7 := g7_.hc hc6
        have g57 := g6_.trans g7_
        obtain ⟨u2, q2, sc2, _⟩ := (sR.grow hc5 g57).cut (lo := some (.i .i64 (at_ : Int))) (hi := none) (l := at_) (u := R.length) rfl rfl (by rw [rp.len]; omega) (Nat.le_refl _)
        rw [List.take_length] at sc2
        obtain ⟨row2, h8, p3, s8, o8, g8_, _⟩ := Sl.app (b := h5.nx.nat) (e := iE) s7 o7 g57.nx sc2 hc7 (by simp only [List.length_append, List.length_take, List.length_drop, List.length_singleton, rp.len]; omega)
        have g58 := g57.trans g8_
        simp (disch := omega) only [f39_r7, f39_r8, f39_r9, f39_r10, f39_r11, f39_r12, f39_r13, f39_r14, f39_r15, x_conv, x_slice, sliceV_eq, Option.map_none, Option.map_some, onI_i, fill_1, Nat.reduceEqDiff, ↓reduceIte, g0, g3, g7, g8, g9, d1, lz, zlen, d2, pz1, pz2, ex1, hwx, hrw, hae, q1, p1, fill_1, p2, q2, p3, bz]
        exact ⟨x + 1, by omega, by omega, hG5.trans (g58.low hG5n), g58.hc hc5, ⟨row2, _, s8, rp.ins (by omega), o8.low hG5n, by simp (disch := omega) only [getK_set, Nat.reduceEqDiff, ↓reduceIte]⟩, by simp (disch := omega) only [getK_set, Nat.reduceEqDiff, ↓reduceIte, g0, g3, g5, g6, g7, and_self]⟩
      · have d2 : decide ((x : Int) < (Z.length : Int)) = false := decide_eq_false (by omega)
        obtain ⟨at_, hat⟩ : ∃ a : Nat, a = 0 := ⟨0, rfl⟩
        have haz : (0 : Int) = (at_ : Int) := by omega
        obtain ⟨u1, q1, sc1, _⟩ := sR.cut (lo := none) (hi := some (.i .i64 (at_ : Int))) (l := 0) (u := at_) rfl rfl (by omega) (by rw [rp.len]; omega)
        rw [List.drop_zero] at sc1
        obtain ⟨nx1, h6, p1, s6, o6, g6_, _⟩ := Sl.app (b := h5.nx.nat) (e := iE) (Sl.nil (h := h5)) Own.sn (Nat.le_refl _) sc1 hc5 (by simp only [List.length_nil, List.length_take, rp.len]; omega)
        rw [List.nil_append] at s6
        have hc6 := g6_.hc hc5
        obtain ⟨nx2, h7, p2, s7, o7, g7_, _⟩ := Sl.push (b := h5.nx.nat) (e := iE) (x := (x : Int)) (c := .i .i64 (x : Int)) rfl s6 o6 g6_.nx hc6 (by simp only [List.length_take, rp.len]; omega)
        have hc7 := g7_.hc hc6
        have g57 := g6_.trans g7_
        obtain ⟨u2, q2, sc2, _⟩ := (sR.grow hc5 g57).cut (lo := some (.i .i64 (at_ : Int))) (hi := none) (l := at_) (u := R.length) rfl rfl (by rw [rp.len]; omega) (Nat.le_refl _)
        rw [List.take_length] at sc2
        obtain ⟨row2, h8, p3, s8, o8, g8_, _⟩ := Sl.app (b := h5.nx.nat) (e := iE) s7 o7 g57.nx sc2 hc7 (by simp only [List.length_append, List.length_take, List.length_drop, List.length_singleton, rp.len]; omega)
        have g58 := g57.trans g8_
        rw [← haz] at q1 q2
        simp (disch := omega) only [f39_r7, f39_r8, f39_r9, f39_r11, f39_r12, f39_r13, f39_r14, f39_r15, x_slice, sliceV_eq, Option.map_none, Option.map_some, fill_1, Nat.reduceEqDiff, ↓reduceIte, Bool.false_eq_true, g0, g3, g7, g8, g9, d1, lz, zlen, d2, q1, p1, fill_1, p2, q2, p3, bz]
        exact ⟨x + 1, by omega, by omega, hG5.trans (g58.low hG5n), g58.hc hc5, ⟨row2, _, s8, rp.ins (by omega), o8.low hG5n, by simp (disch := omega) only [getK_set, Nat.reduceEqDiff, ↓reduceIte]⟩, by simp (disch := omega) only [getK_set, Nat.reduceEqDiff, ↓reduceIte, g0, g3, g5, g6, g7, and_self, Int.natCast_add, Int.natCast_one]⟩
    · have d1 : decide ((x : Int) < (N : Int)) = false := decide_eq_false (by omega)
      have ex : x = N := by omega
      subst ex
      have c6' := (hG5.old h2.nx (by omega)).trans c6
      have lt6 := hc5.cells c6'
      have c3' := (hG5.old h.nx (by omega)).trans c3
      have c5' := (hG5.old h1.nx (by omega)).trans c5
      have ne3 : h.nx ≠ h2.nx := kNe (by omega)
      have ne5 : h1.nx ≠ h2.nx := kNe (by omega)
      have s0' := s0.grow hc4 hG5
      have s1' := s1.grow hc4 hG5
      have oRl : Own h3.nx.nat row := oR.low hGn
      have nI : ∀ {id : K} {a : V}, id.nat < h3.nx.nat → Own h3.nx.nat a → NotIn id a := fun h o => o.notIn h
      have pu : ∀ B, Grow h.nx.nat h (h5.put h2.nx B) ∧ HC (h5.put h2.nx B) ∧ (h5.put h2.nx B).get h.nx = .cells 2 [v, w] ∧ (h5.put h2.nx B).get h1.nx = .cells 2 [.sn, .sn] := fun B => by
        have gp : Grow h.nx.nat h5 (h5.put h2.nx B) := Grow.put (by omega) lt6 _
        exact ⟨gh5.trans gp, gp.hc hc5, (get_put_other ne3).trans c3', (get_put_other ne5).trans c5'⟩
      have nput : ∀ {a : V} {R : List Int} {B : Blk}, Sl iE h5 a R → Own h3.nx.nat a → Sl iE (h5.put h2.nx B) a R := fun s o => s.put (o.notIn (by omega)) _
      by_cases e : kk = 0
      · subst e
        have sr : storeV h5 1 (.p h2.nx (0 + 0 * 1)) row = .ok undefV (h5.put h2.nx (.cells 2 [row, a1])) := store_p c6' sR.one (by simp)
        obtain ⟨q1, q2, q3, q4⟩ := pu (.cells 2 [row, a1])
        simp (disch := omega) only [f39_r7, f39_r16, f39_r17, Nat.reduceEqDiff, ↓reduceIte, Bool.false_eq_true, g0, g6, g7, g8, g9, d1, sr, bz]
        exact ⟨1, by omega, by omega, q1, by rw [nx_put]; omega, q2, q3, q4, ⟨row, a1, get_put_same, sR.one, o1, ⟨R, nput sR oRl, oRl, fun _ => rp⟩, ⟨R1, nput s1' w1, w1, fun h => by omega⟩⟩, by simp (disch := omega) only [getK_set, Nat.reduceEqDiff, ↓reduceIte, g0, g3, g5, g6, and_self, Int.natCast_zero, Int.natCast_one, Int.zero_add]⟩
      · have : kk = 1 := by omega
        subst this
        have sr : storeV h5 1 (.p h2.nx (0 + 1 * 1)) row = .ok undefV (h5.put h2.nx (.cells 2 [a0, row])) := store_p c6' sR.one (by simp)
        obtain ⟨q1, q2, q3, q4⟩ := pu (.cells 2 [a0, row])
        simp (disch := omega) only [f39_r7, f39_r16, f39_r17, Nat.reduceEqDiff, ↓reduceIte, Bool.false_eq_true, g0, g6, g7, g8, g9, d1, sr, bz]
        exact ⟨2, by omega, by omega, q1, by rw [nx_put]; omega, q2, q3, q4, ⟨a0, row, get_put_same, o0, sR.one, ⟨R0, nput s0' w0, w0, fun _ => r0 (by omega)⟩, ⟨R, nput sR oRl, oRl, fun _ => rp⟩⟩, by simp (disch := omega) only [true_and, Option.some.injEq, getK_set, Nat.reduceEqDiff, ↓reduceIte, g0, g3, g5, g6, Int.natCast_one]; rfl⟩
  · have d0 : decide ((kk : Int) < 2) = false := decide_eq_false (by omega)
    have ek : kk = 2 := by omega
    subst ek
    have l6 := ldn2 c6
    have bb : beqV (.agg [a0, a1]) (.agg [a0, a1]) = true := by
      have b1 : ∀ {a : V} {R : List Int}, Sl iE h4 a R → beq1 a a = true := fun {a R} s => by
        have hb := s.beq
        rcases s with ⟨rfl, _⟩ | ⟨_, _, _, _, rfl, _⟩ <;> exact hb
      show (beq1 a0 a0 && (beq1 a1 a1 && true)) = true
      rw [b1 s0, b1 s1]; rfl
    have s5 : storeV h4 2 (.p h1.nx 0) (.agg [a0, a1]) = .ok undefV (h4.put h1.nx (.cells 2 [a0, a1])) := store_p c5 (show cellsN 2 (.agg [a0, a1]) = some [a0, a1] from rfl) (by omega)
    have lt5 := hc4.cells c5
    have rd : readP (h4.put h1.nx (.cells 2 [a0, a1])) (.p h1.nx 0) (many? 2) = some (.agg [a0, a1]) := rd2 get_put_same
    have gp : Grow h.nx.nat h4 (h4.put h1.nx (.cells 2 [a0, a1])) := Grow.put (by omega) lt5 _
    have gAn := gA.nx
    simp (disch := omega) only [f39_r4, f39_r18, f39_rs, Option.some.injEq, exists_eq_left', Nat.reduceEqDiff, ↓reduceIte, Bool.false_eq_true, g0, g5, g6, g7, d0, l6, bb, s5, rd, bz]
    exact ⟨hG.trans gp, N, a0, a1, R0, R1, rfl, by omega, by omega, s0.put (w0.notIn (by omega)) _, r0 (by omega), s1.put (w1.notIn (by omega)) _, r1 (by omega), w0.low gAn, w1.low gAn⟩
end
end Go.Ev
namespace Go.Ev
open Go Go.RowKit
theorem bfT_iff {X : List Int} {i a b : Nat} : bfT X i a b = true ↔ ∃ j t, j < i ∧ t < j ∧ X[j]? = some (b : Int) ∧ X[t]? = some (a : Int) := by
  unfold bfT
  simp only [List.any_eq_true, List.mem_range, Bool.and_eq_true, decide_eq_true_eq]
  constructor
  · rintro ⟨j, h1, h2, t, h3, h4⟩; exact ⟨j, t, h1, h3, h2, h4⟩
  · rintro ⟨j, t, h1, h3, h2, h4⟩; exact ⟨j, h1, h2, t, h3, h4⟩
theorem lnOk.uniq {n : Nat} {X : List Int} (k : lnOk n X) {i j : Nat} {x : Int} (h1 : X[i]? = some x) (h2 : X[j]? = some x) : i = j := by
  have l1 := get_lt h1
  have l2 := get_lt h2
  rcases Nat.lt_trichotomy i j with h | h | h
  · exact absurd (h2.trans h1.symm) (k.2.nd j i h l2)
  · exact h
  · exact absurd (h1.trans h2.symm) (k.2.nd i j h l1)
theorem nodup_fill {n : Nat} {X : List Int} (k : lnOk n X) {a : Nat} (ha : a < n) : ∃ i : Nat, X[i]? = some (a : Int) := by
  have nd : X.Nodup := by
    rw [List.Nodup, List.pairwise_iff_getElem]
    intro i j hi hj hij e
    exact k.2.nd j i hij hj (by rw [List.getElem?_eq_getElem hj, List.getElem?_eq_getElem hi, e])
  have hm : (a : Int) ∈ X := by
    refine Classical.byContradiction fun hn => ?_
    have h1 := nodup_leO (l := (a : Int) :: X) (m := (List.range n).map fun b : Nat => (b : Int)) (by rw [List.nodup_cons]; exact ⟨hn, nd⟩) fun x hx => by
      rcases List.mem_cons.1 hx with rfl | hx
      · exact List.mem_map.2 ⟨a, List.mem_range.2 ha, rfl⟩
      · obtain ⟨j, hj, rfl⟩ := List.getElem_of_mem hx
        obtain ⟨c, h1, h2⟩ := k.2.lt j hj
        rw [List.getElem?_eq_getElem hj] at h2
        exact List.mem_map.2 ⟨c, List.mem_range.2 h1, (Option.some.inj h2).symm⟩
    simp only [List.length_cons, List.length_map, List.length_range] at h1
    have := k.1
    omega
  obtain ⟨i, hi, e⟩ := List.getElem_of_mem hm
  exact ⟨i, by rw [List.getElem?_eq_getElem hi, e]⟩
theorem bf_tot {n : Nat} {X : List Int} (k : lnOk n X) {a b : Nat} (ha : a < n) (hb : b < n) (hab : a ≠ b) : bfT X X.length a b = true ∨ bfT X X.length b a = true := by
  obtain ⟨i, hi⟩ := nodup_fill k ha
  obtain ⟨j, hj⟩ := nodup_fill k hb
  have l1 := get_lt hi
  have l2 := get_lt hj
  rcases Nat.lt_trichotomy i j with h | h | h
  · exact .inl (bfT_iff.2 ⟨j, i, l2, h, hj, hi⟩)
  · subst h
    rw [hi] at hj
    have := Option.some.inj hj
    omega
  · exact .inr (bfT_iff.2 ⟨i, j, l1, h, hi, hj⟩)
theorem bf_one {n : Nat} {X : List Int} (k : lnOk n X) {a b : Nat} (h1 : bfT X X.length a b = true) : bfT X X.length b a = false := by
  cases h2 : bfT X X.length b a with
  | false => rfl
  | true =>
    obtain ⟨j, t, _, h3, h4, h5⟩ := bfT_iff.1 h1
    obtain ⟨j', t', _, h6, h7, h8⟩ := bfT_iff.1 h2
    have e1 := k.uniq h4 h8
    have e2 := k.uniq h5 h7
    omega
theorem bf_lt {n : Nat} {X : List Int} (k : lnOk n X) {a b : Nat} (h1 : bfT X X.length a b = true) : a < n ∧ b < n ∧ a ≠ b := by
  obtain ⟨j, t, h2, h3, h4, h5⟩ := bfT_iff.1 h1
  obtain ⟨c, hc, e⟩ := k.2.lt j h2
  obtain ⟨d, hd, e'⟩ := k.2.lt t (by omega)
  rw [h4] at e
  rw [h5] at e'
  have e := Option.some.inj e
  have e' := Option.some.inj e'
  refine ⟨by omega, by omega, fun e2 => ?_⟩
  subst e2
  have := k.uniq h4 h5
  omega
theorem bf_tr {n : Nat} {X : List Int} (k : lnOk n X) {a b c : Nat} (h1 : bfT X X.length a b = true) (h2 : bfT X X.length b c = true) : bfT X X.length a c = true := by
  obtain ⟨j, t, q1, h3, h4, h5⟩ := bfT_iff.1 h1
  obtain ⟨j', t', q2, h6, h7, h8⟩ := bfT_iff.1 h2
  have e1 := k.uniq h4 h8
  exact bfT_iff.2 ⟨j', t, q2, by omega, h7, h5⟩
theorem agR_iff {n : Nat} {X Y : List Int} (hn : n ≤ 7) (kX : lnOk n X) (kY : lnOk n Y) {a b : Nat} : rat (agR X Y) a b = true ↔ bfT X X.length a b = true ∧ bfT Y Y.length a b = true := by
  unfold agR bfR
  rw [woR_iff, turnR_iff, rat_rl, rat_rl]
  simp only [Bool.and_eq_true, decide_eq_true_eq]
  constructor
  · rintro ⟨⟨⟨ha, hb⟩, h1⟩, h2⟩
    have l := bf_lt kX h1
    exact ⟨h1, (bf_tot kY l.1 l.2.1 l.2.2).elim id fun h => absurd ⟨⟨hb, ha⟩, h⟩ h2⟩
  · rintro ⟨h1, h2⟩
    have l := bf_lt kX h1
    exact ⟨⟨⟨by omega, by omega⟩, h1⟩, fun h => by rw [bf_one kY h2] at h; exact absurd h.2 (by simp)⟩
theorem agR_ord {n : Nat} {X Y : List Int} (hn : n ≤ 7) (kX : lnOk n X) (kY : lnOk n Y) : OrdN n (agR X Y) where
  len := agR_len
  lt := fun a b h => by have := bf_lt kX ((agR_iff hn kX kY).1 h).1; exact ⟨this.1, this.2.1⟩
  irr := fun a h => (bf_lt kX ((agR_iff hn kX kY).1 h).1).2.2 rfl
  tr := fun a b c h1 h2 => by
    have q1 := (agR_iff hn kX kY).1 h1
    have q2 := (agR_iff hn kX kY).1 h2
    exact (agR_iff hn kX kY).2 ⟨bf_tr kX q1.1 q2.1, bf_tr kY q1.2 q2.2⟩
end Go.Ev
namespace Go.Ev
open Go Go.RowKit
section
variable {fs : T EF} {h h' : H}
end
end Go.Ev
namespace Go.Ev
open Go Go.RowKit
theorem drR_iff {n : Nat} {X Y : List Int} (hn : n ≤ 7) (kX : lnOk n X) (kY : lnOk n Y) {a b : Nat} (ha : a < 7) (hb : b < 7) : drR n X Y a b = true ↔ a < b ∧ b < n ∧ ¬ rat (agR X Y) a b = true ∧ ¬ rat (agR X Y) b a = true := by
  have o := agR_ord hn kX kY
  unfold drR otR
  have e : rat (jnR [agR X Y, turnR (agR X Y)]) a b = true ↔ rat (agR X Y) a b = true ∨ rat (agR X Y) b a = true := by
    show rat (jn2 (agR X Y) (turnR (agR X Y))) a b = true ↔ _
    rw [jn2_iff, turnR_iff]
  rw [Bool.and_eq_true, woR_iff, rat_rl, e]
  simp only [Bool.and_eq_true, decide_eq_true_eq]
  constructor
  · rintro ⟨⟨⟨_, ⟨h1, h2⟩, h3⟩, h4⟩, h5⟩
    exact ⟨by omega, h2, fun h => h4 (.inl h), fun h => h4 (.inr h)⟩
  · rintro ⟨h1, h2, h3, h4⟩
    exact ⟨⟨⟨⟨ha, hb⟩, ⟨by omega, h2⟩, by omega⟩, fun h => h.elim h3 h4⟩, by omega⟩
end Go.Ev
