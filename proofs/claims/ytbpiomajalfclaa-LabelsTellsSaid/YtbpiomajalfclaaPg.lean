/-
  Labels: Parts.
  Labels: tame makes a graph.
  Labels: the law LabelsTells.
-/
import Derived.Test.YtbpiomajalfclaaPf
namespace Go.Ev
open Go Go.RowKit
noncomputable def f63_r0 : List EOper := [⟨(some (K.ofNat 4)), none, .as (.c (.i .i64 (.ofNat 0)))⟩, ⟨(some (K.ofNat 5)), none, .as (.c (.b false))⟩]
noncomputable def f63_r1 : List EOper := [⟨(some (K.ofNat 6)), none, .as (.c .sn)⟩, ⟨(some (K.ofNat 7)), none, .as (.c .sn)⟩]
noncomputable def f63_r2 : List EOper := [⟨(some (K.ofNat 16)), none, .mv (.t (K.ofNat 0))⟩, ⟨(some (K.ofNat 17)), none, .len (.t (K.ofNat 16))⟩, ⟨(some (K.ofNat 18)), none, .mv (.c (.i .i64 (.ofNat 0)))⟩]
noncomputable def f63_r3 : List EOper := [⟨(some (K.ofNat 19)), none, .bin .lss (.t (K.ofNat 18)) (.t (K.ofNat 17))⟩]
noncomputable def f63_r4 : List EOper := [⟨(some (K.ofNat 20)), none, .iads 2 (.t (K.ofNat 16)) (.t (K.ofNat 18))⟩, ⟨(some (K.ofNat 21)), none, .ldn 2 (.t (K.ofNat 20))⟩, ⟨(some (K.ofNat 9)), none, .alloc 2 [(.i .i64 (.ofNat 0)), (.i .i64 (.ofNat 0))]⟩, ⟨none, none, .st 2 (.t (K.ofNat 9)) (.t (K.ofNat 21))⟩]
noncomputable def f63_r5 : List Stage := [⟨[⟨(some (K.ofNat 23)), none, .mv (.t (K.ofNat 1))⟩, ⟨(some (K.ofNat 24)), none, .iadr 2 1 (.t (K.ofNat 9)) (.c (.i .i64 (.ofNat 0)))⟩, ⟨(some (K.ofNat 25)), none, .ld (.t (K.ofNat 24))⟩, ⟨(some (K.ofNat 26)), none, .iads 1 (.t (K.ofNat 23)) (.t (K.ofNat 25))⟩, ⟨(some (K.ofNat 27)), none, .ld (.t (K.ofNat 26))⟩, ⟨(some (K.ofNat 28)), none, .mv (.t (K.ofNat 1))⟩, ⟨(some (K.ofNat 29)), none, .iadr 2 1 (.t (K.ofNat 9)) (.c (.i .i64 (.ofNat 1)))⟩, ⟨(some (K.ofNat 30)), none, .ld (.t (K.ofNat 29))⟩, ⟨(some (K.ofNat 31)), none, .iads 1 (.t (K.ofNat 28)) (.t (K.ofNat 30))⟩, ⟨(some (K.ofNat 32)), none, .ld (.t (K.ofNat 31))⟩, ⟨(some (K.ofNat 33)), none, .bslice 1 1 [(.i .i64 (.ofNat 0))] [(0, 1, (.t (K.ofNat 32)))]⟩], [], (some ⟨(some (K.ofNat 34)), none, .call (.c (.fn (K.ofNat 102) [])) [(.t (K.ofNat 27)), (.t (K.ofNat 33))]⟩), [(K.ofNat 33)]⟩, ⟨[⟨(some (K.ofNat 22)), none, .mv (.t (K.ofNat 34))⟩, ⟨(some (K.ofNat 35)), none, .ext (.t (K.ofNat 22)) 0⟩, ⟨(some (K.ofNat 36)), none, .ext (.t (K.ofNat 22)) 1⟩], [], (some ⟨(some (K.ofNat 10)), none, .as (.t (K.ofNat 35))⟩), []⟩, ⟨[], [⟨(some (K.ofNat 36)), none, .ext (.t (K.ofNat 22)) 1⟩], (some ⟨(some (K.ofNat 11)), none, .as (.t (K.ofNat 36))⟩), []⟩, ⟨[], [], none, []⟩]
noncomputable def f63_r6 : List EOper := [⟨(some (K.ofNat 37)), none, .mv (.t (K.ofNat 6))⟩, ⟨(some (K.ofNat 38)), none, .mv (.t (K.ofNat 10))⟩, ⟨(some (K.ofNat 39)), none, .bslice 1 1 [(.i .i64 (.ofNat 0))] [(0, 1, (.t (K.ofNat 38)))]⟩, ⟨(some (K.ofNat 40)), none, .app 1 (.t (K.ofNat 37)) (.t (K.ofNat 39))⟩, ⟨(some (K.ofNat 6)), none, .as (.t (K.ofNat 40))⟩]
noncomputable def f63_r7 : List EOper := [⟨(some (K.ofNat 41)), none, .mv (.t (K.ofNat 7))⟩, ⟨(some (K.ofNat 42)), none, .mv (.t (K.ofNat 11))⟩, ⟨(some (K.ofNat 43)), none, .bslice 1 1 [(.i .i64 (.ofNat 0))] [(0, 1, (.t (K.ofNat 42)))]⟩, ⟨(some (K.ofNat 44)), none, .app 1 (.t (K.ofNat 41)) (.t (K.ofNat 43))⟩, ⟨(some (K.ofNat 7)), none, .as (.t (K.ofNat 44))⟩]
noncomputable def f63_r8 : List EOper := [⟨(some (K.ofNat 45)), none, .bin .add (.t (K.ofNat 18)) (.c (.i .i64 (.ofNat 1)))⟩, ⟨(some (K.ofNat 18)), none, .mv (.t (K.ofNat 45))⟩]
noncomputable def f63_l0 : EC := (.seq (.reg f63_r3) (.seq (.cond (.t (K.ofNat 19)) .skip (.exit 0)) (.seq (.block 1 (.seq (.reg f63_r4) (.seq (.draw f63_r5) (.seq (.reg f63_r6) (.reg f63_r7))))) (.reg f63_r8))))
noncomputable def f63_r9 : List Stage := [⟨[⟨(some (K.ofNat 47)), none, .mv (.t (K.ofNat 6))⟩, ⟨(some (K.ofNat 48)), none, .iads 1 (.t (K.ofNat 47)) (.c (.i .i64 (.ofNat 0)))⟩, ⟨(some (K.ofNat 49)), none, .ld (.t (K.ofNat 48))⟩, ⟨(some (K.ofNat 50)), none, .mv (.t (K.ofNat 6))⟩, ⟨(some (K.ofNat 51)), none, .slice 1 (.t (K.ofNat 50)) (some (.c (.i .i64 (.ofNat 1)))) none none⟩], [], (some ⟨(some (K.ofNat 52)), none, .call (.c (.fn (K.ofNat 102) [])) [(.t (K.ofNat 49)), (.t (K.ofNat 51))]⟩), []⟩, ⟨[⟨(some (K.ofNat 46)), none, .mv (.t (K.ofNat 52))⟩, ⟨(some (K.ofNat 53)), none, .ext (.t (K.ofNat 46)) 0⟩, ⟨(some (K.ofNat 54)), none, .ext (.t (K.ofNat 46)) 1⟩], [], (some ⟨(some (K.ofNat 12)), none, .as (.t (K.ofNat 53))⟩), []⟩, ⟨[], [⟨(some (K.ofNat 54)), none, .ext (.t (K.ofNat 46)) 1⟩], (some ⟨(some (K.ofNat 13)), none, .as (.t (K.ofNat 54))⟩), []⟩, ⟨[], [], none, []⟩]
noncomputable def f63_r10 : List Stage := [⟨[⟨(some (K.ofNat 56)), none, .mv (.t (K.ofNat 7))⟩, ⟨(some (K.ofNat 57)), none, .iads 1 (.t (K.ofNat 56)) (.c (.i .i64 (.ofNat 0)))⟩, ⟨(some (K.ofNat 58)), none, .ld (.t (K.ofNat 57))⟩, ⟨(some (K.ofNat 59)), none, .mv (.t (K.ofNat 7))⟩, ⟨(some (K.ofNat 60)), none, .slice 1 (.t (K.ofNat 59)) (some (.c (.i .i64 (.ofNat 1)))) none none⟩], [], (some ⟨(some (K.ofNat 61)), none, .call (.c (.fn (K.ofNat 102) [])) [(.t (K.ofNat 58)), (.t (K.ofNat 60))]⟩), []⟩, ⟨[⟨(some (K.ofNat 55)), none, .mv (.t (K.ofNat 61))⟩, ⟨(some (K.ofNat 62)), none, .ext (.t (K.ofNat 55)) 0⟩, ⟨(some (K.ofNat 63)), none, .ext (.t (K.ofNat 55)) 1⟩], [], (some ⟨(some (K.ofNat 14)), none, .as (.t (K.ofNat 62))⟩), []⟩, ⟨[], [⟨(some (K.ofNat 63)), none, .ext (.t (K.ofNat 55)) 1⟩], (some ⟨(some (K.ofNat 15)), none, .as (.t (K.ofNat 63))⟩), []⟩, ⟨[], [], none, []⟩]
noncomputable def f63_r11 : List EOper := [⟨(some (K.ofNat 64)), none, .mv (.t (K.ofNat 14))⟩, ⟨(some (K.ofNat 65)), none, .mv (.t (K.ofNat 13))⟩, ⟨(some (K.ofNat 66)), none, .bin .leq (.t (K.ofNat 64)) (.t (K.ofNat 65))⟩]
noncomputable def f63_r12 : List EOper := [⟨(some (K.ofNat 4)), none, .as (.c (.i .i64 (.ofNat 0)))⟩, ⟨(some (K.ofNat 5)), none, .as (.c (.b false))⟩]
noncomputable def f63_r13 : List EOper := [⟨(some (K.ofNat 67)), none, .mv (.t (K.ofNat 13))⟩, ⟨(some (K.ofNat 4)), none, .as (.t (K.ofNat 67))⟩, ⟨(some (K.ofNat 5)), none, .as (.c (.b true))⟩]
noncomputable def f63_c : EC := (.seq (.reg f63_r0) (.seq (.reg f63_r1) (.seq (.seq (.reg f63_r2) (.block 0 (.loop f63_l0))) (.seq (.draw f63_r9) (.seq (.draw f63_r10) (.seq (.seq (.reg f63_r11) (.cond (.t (K.ofNat 66)) (.seq (.reg f63_r12) .ret) .skip)) (.seq (.reg f63_r13) .ret)))))))
noncomputable def f63 : EF := ⟨68, [.tmp (K.ofNat 4), .tmp (K.ofNat 5)], f63_c, none⟩
theorem f63_rs : f63.rs = [.tmp (K.ofNat 4), .tmp (K.ofNat 5)] := of_eq_true (eq_self _)
noncomputable def f19_r0 : List EOper := [⟨(some (K.ofNat 6)), none, .as (.c (.i .i64 (.ofNat 0)))⟩, ⟨(some (K.ofNat 7)), none, .as (.c (.b false))⟩, ⟨(some (K.ofNat 8)), none, .as (.c (.i .i64 (.ofNat 0)))⟩]
noncomputable def f19_r1 : List EOper := [⟨(some (K.ofNat 12)), none, .mv (.t (K.ofNat 0))⟩, ⟨(some (K.ofNat 13)), none, .mv (.t (K.ofNat 1))⟩, ⟨(some (K.ofNat 14)), none, .call (.c (.fn (K.ofNat 17) [])) [(.t (K.ofNat 12)), (.t (K.ofNat 13))]⟩, ⟨(some (K.ofNat 9)), none, .as (.t (K.ofNat 14))⟩]
noncomputable def f19_r2 : List EOper := [⟨(some (K.ofNat 15)), none, .mv (.t (K.ofNat 9))⟩, ⟨(some (K.ofNat 16)), none, .bin .neq (.t (K.ofNat 15)) (.c (.i .i64 (.ofNat 0)))⟩]
noncomputable def f19_r3 : List EOper := [⟨(some (K.ofNat 17)), none, .mv (.t (K.ofNat 9))⟩, ⟨(some (K.ofNat 6)), none, .as (.c (.i .i64 (.ofNat 0)))⟩, ⟨(some (K.ofNat 7)), none, .as (.c (.b false))⟩, ⟨(some (K.ofNat 8)), none, .as (.t (K.ofNat 17))⟩]
noncomputable def f19_r4 : List EOper := [⟨(some (K.ofNat 18)), none, .mv (.t (K.ofNat 0))⟩, ⟨(some (K.ofNat 19)), none, .mv (.t (K.ofNat 1))⟩, ⟨(some (K.ofNat 20)), none, .mv (.t (K.ofNat 2))⟩, ⟨(some (K.ofNat 21)), none, .call (.c (.fn (K.ofNat 62) [])) [(.t (K.ofNat 18)), (.t (K.ofNat 19)), (.t (K.ofNat 20))]⟩, ⟨(some (K.ofNat 22)), none, .not (.t (K.ofNat 21))⟩]
noncomputable def f19_r5 : List EOper := [⟨(some (K.ofNat 6)), none, .as (.c (.i .i64 (.ofNat 0)))⟩, ⟨(some (K.ofNat 7)), none, .as (.c (.b false))⟩, ⟨(some (K.ofNat 8)), none, .as (.c (.i .i64 (.ofNat 0)))⟩]
noncomputable def f19_r6 : List EOper := [⟨(some (K.ofNat 24)), none, .mv (.t (K.ofNat 1))⟩, ⟨(some (K.ofNat 25)), none, .mv (.t (K.ofNat 2))⟩, ⟨(some (K.ofNat 26)), none, .call (.c (.fn (K.ofNat 63) [])) [(.t (K.ofNat 24)), (.t (K.ofNat 25))]⟩, ⟨(some (K.ofNat 23)), none, .mv (.t (K.ofNat 26))⟩, ⟨(some (K.ofNat 27)), none, .ext (.t (K.ofNat 23)) 0⟩, ⟨(some (K.ofNat 28)), none, .ext (.t (K.ofNat 23)) 1⟩, ⟨(some (K.ofNat 10)), none, .as (.t (K.ofNat 27))⟩, ⟨(some (K.ofNat 11)), none, .as (.t (K.ofNat 28))⟩]
noncomputable def f19_r7 : List EOper := [⟨(some (K.ofNat 29)), none, .mv (.t (K.ofNat 10))⟩, ⟨(some (K.ofNat 30)), none, .mv (.t (K.ofNat 11))⟩, ⟨(some (K.ofNat 6)), none, .as (.t (K.ofNat 29))⟩, ⟨(some (K.ofNat 7)), none, .as (.t (K.ofNat 30))⟩, ⟨(some (K.ofNat 8)), none, .as (.c (.i .i64 (.ofNat 0)))⟩]
noncomputable def f19_c : EC := (.seq (.reg f19_r0) (.seq (.seq (.reg f19_r1) (.seq (.reg f19_r2) (.cond (.t (K.ofNat 16)) (.seq (.reg f19_r3) .ret) .skip))) (.seq (.seq (.reg f19_r4) (.cond (.t (K.ofNat 22)) (.seq (.reg f19_r5) .ret) .skip)) (.seq (.reg f19_r6) (.seq (.reg f19_r7) .ret)))))
noncomputable def f19 : EF := ⟨31, [.tmp (K.ofNat 6), .tmp (K.ofNat 7), .tmp (K.ofNat 8)], f19_c, none⟩
theorem f19_rs : f19.rs = [.tmp (K.ofNat 6), .tmp (K.ofNat 7), .tmp (K.ofNat 8)] := of_eq_true (eq_self _)
def loE (L : List Int) (e : Int × Int) : Int := min (L.getD e.1.toNat 0) (L.getD e.2.toNat 0)
def hiE (L : List Int) (e : Int × Int) : Int := max (L.getD e.1.toNat 0) (L.getD e.2.toNat 0)
theorem maxL_le {x : Int} : ∀ {L : List Int} {a : Int}, maxL a L ≤ x ↔ a ≤ x ∧ ∀ y ∈ L, y ≤ x
  | [], a => by simp [maxL]
  | b :: L, a => by
    show maxL (max a b) L ≤ x ↔ _
    rw [maxL_le]
    simp only [List.mem_cons, forall_eq_or_imp]
    constructor
    · rintro ⟨h1, h2⟩; exact ⟨by omega, by omega, h2⟩
    · rintro ⟨h1, h2, h3⟩; exact ⟨by omega, h3⟩
theorem lt_minL {x : Int} : ∀ {L : List Int} {a : Int}, x < minL a L ↔ x < a ∧ ∀ y ∈ L, x < y
  | [], a => by simp [minL]
  | b :: L, a => by
    show x < minL (min a b) L ↔ _
    rw [lt_minL]
    simp only [List.mem_cons, forall_eq_or_imp]
    constructor
    · rintro ⟨h1, h2⟩; exact ⟨by omega, by omega, h2⟩
    · rintro ⟨h1, h2, h3⟩; exact ⟨by omega, h3⟩
theorem firstF_first {α : Type} {g : Int → Option α} {c : Int} {r : α} (hg : g c = some r) : ∀ {n : Nat} {a : Int}, a ≤ c → c < a + n → (∀ x, a ≤ x → x < c → g x = none) → firstF g a n = some r
  | 0, a, h1, h2, _ => by omega
  | n + 1, a, h1, h2, h3 => by
    rw [firstF_succ]
    by_cases e : a = c
    · rw [e, hg]
    · rw [h3 a (by omega) (by omega)]
      exact firstF_first hg (by omega) (by omega) fun x h4 h5 => h3 x (by omega) h5
theorem firstF_no {α : Type} {g : Int → Option α} : ∀ {n : Nat} {a : Int}, (∀ x, g x = none) → firstF g a n = none
  | 0, _, _ => rfl
  | n + 1, a, h => by rw [firstF_succ, h]; exact firstF_no h
def cE (E : List (Int × Int)) (L : List Int) : Int := maxL ((E.map (loE L)).headD 0) (E.map (loE L)).tail
def aE (E : List (Int × Int)) (L : List Int) : Int := minL ((E.map (hiE L)).headD 0) (E.map (hiE L)).tail
theorem prtC_iff {E : List (Int × Int)} {L : List Int} {x : Int} (hE : E ≠ []) : prtC E L x = true ↔ cE E L ≤ x ∧ x < aE E L := by
  have h1 : ∀ e, prt1 L x e = true ↔ loE L e ≤ x ∧ x < hiE L e := fun e => by
    unfold prt1 loE hiE
    generalize L.getD e.1.toNat 0 = p
    generalize L.getD e.2.toNat 0 = q
    by_cases hp : p ≤ x <;> by_cases hq : q ≤ x <;> simp [hp, hq] <;> omega
  unfold prtC cE aE
  rw [List.all_eq_true, maxL_le, lt_minL]
  cases E with
  | nil => exact absurd rfl hE
  | cons e E =>
    simp only [List.map_cons, List.headD_cons, List.tail_cons, List.mem_map, List.mem_cons, forall_eq_or_imp, forall_exists_index, and_imp, forall_apply_eq_imp_iff₂, h1]
    constructor
    · rintro ⟨⟨a1, a2⟩, a3⟩; exact ⟨⟨a1, fun y hy => (a3 y hy).1⟩, a2, fun y hy => (a3 y hy).2⟩
    · rintro ⟨⟨a1, a2⟩, a3, a4⟩; exact ⟨⟨a1, a3⟩, fun y hy => ⟨a2 y hy, a4 y hy⟩⟩
theorem prt_eq {E : List (Int × Int)} {L : List Int} (hE : E ≠ []) (h0 : 0 ≤ cE E L) (hm : aE E L ≤ E.length) : prtO E L = if aE E L ≤ cE E L then none else some (cE E L) := by
  unfold prtO
  split
  · rename_i h
    refine firstF_no fun x => ?_
    rw [if_neg]
    rw [prtC_iff hE]
    omega
  · rename_i h
    refine firstF_first (c := cE E L) (by rw [if_pos ((prtC_iff hE).2 ⟨Int.le_refl _, by omega⟩)]) h0 (by omega) fun x h1 h2 => ?_
    rw [if_neg]
    rw [prtC_iff hE]
    omega
theorem stay_ext {fs : T EF} {fr : Fr} {h : H} {x : EO} {k : K} {i : Nat} : (stays fs goNo fr h ⟨some k, none, .ext x i⟩ = true) = again ((ev fr x).onTup fun l => okv (nth l i) h) (getV (fr.get k)) := chk_again
structure CallsPt (fs : T EF) : Prop where
  c63 : fs.get (K.ofNat 63) = some f63
  c102 : fs.get (K.ofNat 102) = some f102
section
variable {fs : T EF} {ro : Option K} {h : H} {v w : V} {n : Nat} {E : List (Int × Int)} {L : List Int}
def f63_I (h : H) (v w : V) (E : List (Int × Int)) (L : List Int) (j : Nat) (fr : Fr) (h1 : H) : Prop := j ≤ E.length ∧ Grow h.nx.nat h h1 ∧ ∃ u1 u2, Sl iE h1 u1 ((E.take j).map (loE L)) ∧ Own h.nx.nat u1 ∧ Sl iE h1 u2 ((E.take j).map (hiE L)) ∧ Own h.nx.nat u2 ∧ (∀ id off n sz, u2 = .sl id off n sz → NotIn id u1) ∧ fr.get (K.ofNat 1) = some (w) ∧ fr.get (K.ofNat 6) = some (u1) ∧ fr.get (K.ofNat 7) = some (u2) ∧ fr.get (K.ofNat 16) = some (v) ∧ fr.get (K.ofNat 17) = some (.i .i64 (E.length : Int)) ∧ fr.get (K.ofNat 18) = some (.i .i64 (j : Int))
theorem f63_ret (k : CallsPt fs) (hv : Srp h v E) (hw : Sr iE h w L) (hc : HC h) (hE : EdgesOk n E) (hne : E ≠ []) (hlin : LabOk E L) (hn : L.length = n) : Ret fs f63 [v, w] h fun r h' => r = .tup [.i .i64 ((prtO E L).getD 0), .b (prtO E L).isSome] ∧ Grow h.nx.nat h h' := by
  have hE0 := hE
  obtain ⟨hE10, _, hE3⟩ := hE
  apply ret_of rfl
  show W fs none f63_c _ _ _
  unfold f63_c
  simp (disch := omega) only [f63_r0, f63_r1, f63_r2, w_reg, w_seq, w_block, seqK_n, x_nil, x_mv, x_as, x_len, kx, rvP_ok, ev_t, ev_c, getV_some, putD_some, frame_2, of0, getK_set, Nat.reduceEqDiff, ↓reduceIte, hv.len]
  refine W_loop (f63_I h v w E L) (fun j => E.length - j) ?_ 0 ⟨by omega, Grow.refl _ _, .sn, .sn, Sl.nil, Own.sn, Sl.nil, Own.sn, (fun _ _ _ _ e => by cases e), by simp (disch := omega) only [getK_set, Nat.reduceEqDiff, ↓reduceIte, and_self, Int.natCast_zero]⟩
  rintro j fr h1 ⟨hj, hG, u1, u2, hs1, ho1, hs2, ho2, hap, g1, g6, g7, g16, g17, g18⟩
  have hc1 := hG.hc hc
  have hv1 := hv.grow hc hG
  unfold f63_l0
  by_cases hlt : j < E.length
  · have d0 : decide ((j : Int) < (E.length : Int)) = true := by simpa using hlt
    obtain ⟨ide, q, hp1, hp2, _, _⟩ := hv1.at2 hlt
    obtain ⟨a, b, d, ha, hb, ea, eb, hab, ed, ead, hdE, la, lb⟩ := dfE_in hE0 hlin hn hlt
    have elo : loE L E[j] = min L[a] L[b] := by unfold loE; rw [ea, eb]; simp [List.getD_eq_getElem?_getD, ha, hb]
    have ehi : hiE L E[j] = max L[a] L[b] := by unfold hiE; rw [ea, eb]; simp [List.getD_eq_getElem?_getD, ha, hb]
    have hst2 : storeV (h1.new (.cells 2 zz)) 2 (.p h1.nx 0) (.agg [.i .i64 E[j].1, .i .i64 E[j].2]) = .ok undefV ((h1.new (.cells 2 zz)).put h1.nx (.cells 2 [.i .i64 E[j].1, .i .i64 E[j].2])) := st2 (a := .i .i64 (.ofNat 0)) (b := .i .i64 (.ofNat 0)) get_new_same
    have nx1 := nx_new h1 (.cells 2 zz)
    have gA : Grow h1.nx.nat h1 ((h1.new (.cells 2 zz)).put h1.nx (.cells 2 [.i .i64 E[j].1, .i .i64 E[j].2])) := (Grow.new (Nat.le_refl _) _).trans (Grow.put (Nat.le_refl _) (by omega) _)
    have c12 : ((h1.new (.cells 2 zz)).put h1.nx (.cells 2 [.i .i64 E[j].1, .i .i64 E[j].2])).get h1.nx = .cells 2 [.i .i64 E[j].1, .i .i64 E[j].2] := get_put_same
    have hzz : ([.i .i64 0, .i .i64 0] : List V) = zz := rfl
    generalize hh2 : (h1.new (.cells 2 zz)).put h1.nx (.cells 2 [.i .i64 E[j].1, .i .i64 E[j].2]) = h3 at *
    have hG3 := hG.trans (gA.low hG.nx)
    have hc3 := hG3.hc hc
    have hw3 := hw.grow hc hG3
    have l0 : loadV h3 (.p h1.nx (0 + 0 * 1)) one? = .ok (.i .i64 E[j].1) h3 := load_p c12 rfl
    have l1 : loadV h3 (.p h1.nx (0 + 1 * 1)) one? = .ok (.i .i64 E[j].2) h3 := load_p c12 rfl
    obtain ⟨s, hx1, hx2, hx3⟩ := hw3.atb a ha
    obtain ⟨t, ht1, ht2, ht3⟩ := hw3.atb b hb
    have hwb := hw.beq
    rw [ea] at l0
    rw [eb] at l1
    rw [ea, eb] at hst2 hp2
    have hlit := Sl.lit (e := iE) (x := L[b]) (h := h3)
    have gl := Grow.new (Nat.le_refl h3.nx.nat) (.cells (1 * 1) [iE L[b]])
    simp (disch := omega) only [f63_r3, f63_r4, f63_r5, w_skip, w_reg, w_draw, w_seq, w_cond, w_block, seqK_n, ckB_b, cbB_b, true_and, x_nil, x_alloc, x_ldn, x_st, x_bin, x_iads, x_call, kx, kg, xg_nil, xg_mv, xg_ld, xg_iadr, xg_iads, xg_bslice, xd_cons, stK_s, stay_nil, rvP_ok, okv_some, ev_t, ev_c, evs_nil, evs_cons, getV_some, putD_some, putD_none, bin_lss, onP_p, oGet_s, cells1_i, fill_1, set_1, of0, of1, Option.some.injEq, exists_eq_left', getK_set, Nat.reduceEqDiff, ↓reduceIte, ix2_0, ix2_1, g1, g16, g17, g18, d0, hp1, hp2, hzz, hst2, l0, l1, hx1, hx2, ht1, ht2, iE, hc3.dead, fill_1, set_1]
    refine ⟨fresh_one (n := 1) (sz := 1) (by simp (disch := omega) only [getK_set, ↓reduceIte]), ?_⟩
    refine (callP_0 (ef := f102) k.c102 rfl (f102_ret (a := L[a]) hlit.sr (by simp))).mono ?_
    rintro r h4 ⟨rfl, rfl⟩
    have gAl := gA.trans (gl.low gA.nx)
    have hGl := hG.trans (gAl.low hG.nx)
    have hcl := hGl.hc hc
    have hs1' := hs1.grow hc1 gAl
    have hs2' := hs2.grow hc1 gAl
    have em : minL L[a] [L[b]] = loE L E[j] := by rw [elo]; rfl
    have eM : maxL L[a] [L[b]] = hiE L E[j] := by rw [ehi]; rfl
    rw [em, eM]
    generalize h3.new (.cells (1 * 1) [iE L[b]]) = h5 at *
    obtain ⟨w1, h6, a1, p1, o1, gr1, kp1⟩ := Sl.push (e := iE) (x := loE L E[j]) (c := .i .i64 (loE L E[j])) rfl hs1' ho1 hGl.nx hcl (by simp; omega)
    have hG6 := hGl.trans gr1
    have hc6 := gr1.hc hcl
    have hs2'' : Sl iE h6 u2 ((E.take j).map (hiE L)) := hs2'.same fun id off n sz e => (kp1 id (hs2'.lt hcl _ _ _ _ e) (hap _ _ _ _ e)).1
    obtain ⟨w2, h7, a2, p2, o2, gr2, kp2⟩ := Sl.push (e := iE) (x := hiE L E[j]) (c := .i .i64 (hiE L E[j])) rfl hs2'' ho2 hG6.nx hc6 (by simp; omega)
    have hG7 := hG6.trans gr2
    -- the two slices stay apart
    have hap1 : ∀ id off n sz, w1 = .sl id off n sz → NotIn id u2 := fun id off n sz e off' n' sz' e' => (kp1 id (hs2'.lt hcl _ _ _ _ e') (hap _ _ _ _ e')).2 _ _ _ e
    have p1' : Sl iE h7 w1 ((E.take j).map (loE L) ++ [loE L E[j]]) := p1.same fun id off n sz e => (kp2 id (p1.lt hc6 _ _ _ _ e) (hap1 _ _ _ _ e)).1
    have hap2 : ∀ id off n sz, w2 = .sl id off n sz → NotIn id w1 := fun id off n sz e off' n' sz' e' => (kp2 id (p1.lt hc6 _ _ _ _ e') (hap1 _ _ _ _ e')).2 _ _ _ e
    simp (disch := omega) only [f63_r6, f63_r7, f63_r8, w_reg, w_seq, seqK_n, atK_n, loopK_n, true_and, x_nil, x_mv, x_as, x_bslice, x_bin, x_app, kx, kg, xg_nil, xg_mv, xg_ext, xd_cons, fresh_nil, stK_n, stK_s, stay_nil, stay_cons, again_ok, beq_i, rvP_ok, okv_some, ev_t, ev_c, getV_some, putD_some, bin_add, onTup_t, oGet_s, nth0, nth1, cells1_i, fill_1, set_1, of0, of1, getK_set, Nat.reduceEqDiff, ↓reduceIte, g6, g7, g18, fill_1, set_1, a1, a2, fw64, stay_ext, again_ok, beq_i]
    have e1 : (E.take j).map (loE L) ++ [loE L E[j]] = (E.take (j + 1)).map (loE L) := by rw [List.take_succ_eq_append_getElem hlt, List.map_append]; rfl
    have e2 : (E.take j).map (hiE L) ++ [hiE L E[j]] = (E.take (j + 1)).map (hiE L) := by rw [List.take_succ_eq_append_getElem hlt, List.map_append]; rfl
    rw [e1] at p1'
    rw [e2] at p2
    exact ⟨j + 1, by omega, by omega, hG7, w1, w2, p1', o1, p2, o2, hap2, by simp (disch := omega) only [getK_set, Nat.reduceEqDiff, ↓reduceIte, g1, g16, g17, and_self, Int.natCast_add, Int.natCast_one]⟩
  · have d0 : decide ((j : Int) < (E.length : Int)) = false := by simpa using hlt
    have ej : j = E.length := by omega
    rw [ej, List.take_length] at hs1 hs2
    have hpos := List.length_pos_iff.2 hne
    have hl1 : 0 < (E.map (loE L)).length := by simpa using hpos
    have hl2 : 0 < (E.map (hiE L)).length := by simpa using hpos
    have lim : ∀ {M : List Int} (hp : 0 < M.length), M[0] = M.headD 0 := fun {M} hp => by cases M with
      | nil => simp at hp
      | cons x l => rfl
    obtain ⟨p, hp1, hp2, hp3⟩ := hs1.atb 0 hl1
    obtain ⟨q, hq1, hq2, hq3⟩ := hs2.atb 0 hl2
    rw [lim hl1] at hp2
    rw [lim hl2] at hq2
    simp only [Int.natCast_zero] at hp1 hq1
    obtain ⟨v1, c1, d1, _⟩ := hs1.sr.cut (lo := some (.i .i64 1)) (hi := none) (l := 1) (u := (E.map (loE L)).length) rfl rfl (by omega) (by omega)
    obtain ⟨v2, c2, d2, _⟩ := hs2.sr.cut (lo := some (.i .i64 1)) (hi := none) (l := 1) (u := (E.map (hiE L)).length) rfl rfl (by omega) (by omega)
    rw [List.take_length, List.drop_one] at d1 d2
    have hb1 := hs1.beq
    have hb2 := hs2.beq
    have hv1b := d1.beq
    have hv2b := d2.beq
    simp (disch := omega) only [f63_r3, f63_r9, w_reg, w_draw, w_seq, w_cond, w_exit, seqK_n, seqK_e, atK_e, loopK_e, ckB_b, cbB_b, true_and, x_nil, x_bin, sliceV_eq, Option.map_none, Option.map_some, x_call, kx, kg, xg_nil, xg_mv, xg_ld, xg_slice, xg_iads, xd_cons, fresh_nil, stK_s, stay_nil, rvP_ok, okv_some, ev_t, ev_c, evs_nil, evs_cons, getV_some, putD_some, bin_lss, of0, of1, getK_set, Nat.reduceEqDiff, ↓reduceIte, Bool.false_eq_true, g6, g17, g18, d0, hp1, hp2, sliceV_eq, Option.map_none, Option.map_some, c1, iE]
    refine (callP_0 (ef := f102) k.c102 rfl (f102_ret d1 (by rw [List.length_tail, List.length_map]; omega))).mono ?_
    rintro r h4 ⟨rfl, rfl⟩
    simp (disch := omega) only [f63_r10, w_draw, w_seq, seqK_n, true_and, x_nil, x_as, sliceV_eq, Option.map_none, Option.map_some, x_call, kx, kg, xg_nil, xg_mv, xg_ld, xg_slice, xg_iads, xg_ext, xd_cons, fresh_nil, stK_n, stK_s, stay_nil, stay_cons, again_ok, beq_i, rvP_ok, okv_some, ev_t, ev_c, evs_nil, evs_cons, getV_some, putD_some, onTup_t, nth0, nth1, of0, of1, getK_set, Nat.reduceEqDiff, ↓reduceIte, g7, stay_ext, again_ok, beq_i, hq1, hq2, sliceV_eq, Option.map_none, Option.map_some, c2, iE]
    refine (callP_0 (ef := f102) k.c102 rfl (f102_ret d2 (by rw [List.length_tail, List.length_map]; omega))).mono ?_
    rintro r h5 ⟨rfl, rfl⟩
    obtain ⟨a, b, d, ha, hb, ea, eb, hab, _, _, _, la, lb⟩ := dfE_in hE0 hlin hn hpos
    have e1 : (E.map (loE L)).headD 0 = min L[a] L[b] := by
      rw [← lim hl1, List.getElem_map]; unfold loE; rw [ea, eb]; simp [List.getD_eq_getElem?_getD, ha, hb]
    have e2 : (E.map (hiE L)).headD 0 = max L[a] L[b] := by
      rw [← lim hl2, List.getElem_map]; unfold hiE; rw [ea, eb]; simp [List.getD_eq_getElem?_getD, ha, hb]
    have hla := hlin _ (List.getElem_mem ha)
    have hlb := hlin _ (List.getElem_mem hb)
    have hc0 : 0 ≤ cE E L := by
      have h9 := (maxL_le.1 (Int.le_refl (cE E L))).1
      omega
    have ham : aE E L ≤ (E.length : Int) := by
      have h9 : ¬ (E.map (hiE L)).headD 0 < aE E L := fun h9 => by have := (lt_minL.1 h9).1; omega
      omega
    have hpe := prt_eq hne hc0 ham
    show Go.Ev.kX fs [] _ _ _ _ _
    have eC : maxL ((E.map (loE L)).headD 0) (E.map (loE L)).tail = cE E L := rfl
    have eA : minL ((E.map (hiE L)).headD 0) (E.map (hiE L)).tail = aE E L := rfl
    rw [hpe]
    cases dd : decide (aE E L ≤ cE E L) with
    | true =>
      rw [if_pos (of_decide_eq_true dd)]
      simp (disch := omega) only [f63_r11, f63_r12, f63_rs, w_reg, w_seq, w_cond, w_ret, seqK_n, seqK_r, ckB_b, cbB_b, true_and, retK_r, x_nil, x_mv, x_as, x_bin, kx, kg, xg_nil, xg_mv, xg_ext, xd_cons, fresh_nil, stK_n, stK_s, stay_nil, stay_cons, again_ok, beq_i, rvP_ok, okv_some, ev_t, ev_c, getV_some, putD_some, bin_leq, onTup_t, oGet_s, nth0, nth1, readRs_nil, readRs_t, retV_2, of0, Option.some.injEq, exists_eq_left', getK_set, Nat.reduceEqDiff, ↓reduceIte, stay_ext, again_ok, beq_i, eC, eA, dd, Option.getD_none, Option.isSome_none, true_and]
      exact hG
    | false =>
      rw [if_neg (of_decide_eq_false dd)]
      simp (disch := omega) only [f63_r11, f63_r13, f63_rs, w_skip, w_reg, w_seq, w_cond, w_ret, seqK_n, ckB_b, cbB_b, true_and, retK_r, x_nil, x_mv, x_as, x_bin, kx, kg, xg_nil, xg_mv, xg_ext, xd_cons, fresh_nil, stK_n, stK_s, stay_nil, stay_cons, again_ok, beq_i, rvP_ok, okv_some, ev_t, ev_c, getV_some, putD_some, bin_leq, onTup_t, oGet_s, nth0, nth1, readRs_nil, readRs_t, retV_2, Option.some.injEq, exists_eq_left', getK_set, Nat.reduceEqDiff, ↓reduceIte, Bool.false_eq_true, stay_ext, again_ok, beq_i, eC, eA, dd, Option.getD_some, Option.isSome_some, true_and]
      exact hG
theorem chkI_ne {x : Int} (hn : chkI x E = 0) : E ≠ [] := by
  rintro rfl
  unfold chkI at hn
  split at hn
  · cases hn
  · simp at hn
structure CallsPs (fs : T EF) : Prop extends CallsIg fs where
  c63 : fs.get (K.ofNat 63) = some f63
theorem f19_ok {m : Nat} (k : CallsPs fs) (hv : Srp h v E) (hw : Sr iE h w L) (hc : HC h) (hL : L.length ≤ 1000000) (hn : chkI (m : Int) E = 0) : Ret fs f19 [.i .i64 (m : Int), v, w] h fun r h' => r = .tup [.i .i64 (if grB (m : Int) E L = true then (prtO E L).getD 0 else 0), .b (grB (m : Int) E L && (prtO E L).isSome), .i .i64 0] ∧ Grow h.nx.nat h h' := by
  obtain ⟨m', hm, _, hE⟩ := chkI_ok hn
  obtain rfl : m = m' := by omega
  apply ret_of rfl
  show W fs none f19_c _ _ _
  unfold f19_c
  have hE6 : E.length ≤ 1000000 := by have := hE.1; omega
  simp (disch := omega) only [f19_r0, f19_r1, w_reg, w_seq, seqK_n, x_nil, x_mv, x_as, x_call, ev_t, ev_c, evs_nil, evs_cons, getV_some, putD_some, frame_3, of0, getK_set, Nat.reduceEqDiff, ↓reduceIte]
  refine (callP_0 (ef := f17) k.c17 rfl (f17_ret (n := (m : Int)) k.toCallsC hv hc hE6)).mono ?_
  rintro r h1 ⟨rfl, hG⟩
  rw [hn]
  have d : decide ((0 : Int) ≠ 0) = false := rfl
  have hc1 := hG.hc hc
  have hv1 := hv.grow hc hG
  have hw1 := hw.grow hc hG
  simp (disch := omega) only [f19_r2, f19_r4, w_skip, w_reg, w_seq, w_cond, seqK_n, ckB_b, cbB_b, true_and, x_nil, x_mv, x_as, x_bin, x_call, kx, rvP_ok, okv_some, ev_t, ev_c, evs_nil, evs_cons, getV_some, putD_some, bin_neq, of0, getK_set, Nat.reduceEqDiff, ↓reduceIte, Bool.false_eq_true, d]
  refine (callP_0 (ef := f62) k.c62 rfl (f62_ret k.toCallsGr hv1 hw1 hc1 hE hL)).mono ?_
  rintro r h2 ⟨rfl, hG2⟩
  have hGG := hG.trans (hG2.low hG.nx)
  cases hg : grB (m : Int) E L with
  | false =>
    simp (disch := omega) only [f19_r5, f19_rs, w_reg, w_seq, w_cond, w_ret, seqK_n, seqK_r, ckB_b, cbB_b, true_and, retK_r, x_nil, x_as, x_not, kx, rvP_ok, ev_t, ev_c, getV_some, putD_some, onB_b, oGet_s, readRs_nil, readRs_t, retV_2, of0, Option.some.injEq, exists_eq_left', getK_set, Nat.reduceEqDiff, ↓reduceIte, Bool.false_eq_true, Bool.not_false, Bool.not_false, Bool.false_eq_true, Bool.false_and, true_and]
    exact hGG
  | true =>
    obtain ⟨hLm, hlin⟩ := gr_labs hg
    simp (disch := omega) only [f19_r6, w_skip, w_reg, w_seq, w_cond, seqK_n, ckB_b, cbB_b, true_and, x_nil, x_mv, x_not, x_call, kx, rvP_ok, ev_t, ev_c, evs_nil, evs_cons, getV_some, putD_some, onB_b, getK_set, Nat.reduceEqDiff, ↓reduceIte, Bool.false_eq_true, Bool.not_true, Bool.not_true]
    refine (callP_0 (ef := f63) k.c63 rfl (f63_ret ⟨k.c63, k.c102⟩ (hv1.grow hc1 hG2) (hw1.grow hc1 hG2) (hG2.hc hc1) hE (chkI_ne hn) hlin hLm)).mono ?_
    rintro r h3 ⟨rfl, hG3⟩
    simp (disch := omega) only [f19_r7, f19_rs, w_reg, w_seq, w_ret, seqK_n, true_and, retK_r, x_nil, x_mv, x_as, x_ext, kx, rvP_ok, okv_some, ev_t, ev_c, getV_some, putD_some, onTup_t, oGet_s, nth0, nth1, readRs_nil, readRs_t, retV_2, of0, Option.some.injEq, exists_eq_left', getK_set, Nat.reduceEqDiff, ↓reduceIte, Bool.true_and, true_and]
    exact hGG.trans (hG3.low hGG.nx)
end
end Go.Ev
namespace Go.Ev
open Go Go.RowKit
noncomputable def f28_r0 : List EOper := [⟨(some (K.ofNat 6)), none, .as (.c (.i .i64 (.ofNat 0)))⟩, ⟨(some (K.ofNat 7)), none, .as (.c .sn)⟩]
noncomputable def f28_r1 : List EOper := [⟨(some (K.ofNat 14)), none, .mv (.t (K.ofNat 0))⟩, ⟨(some (K.ofNat 15)), none, .conv .u64 (.t (K.ofNat 14))⟩, ⟨(some (K.ofNat 16)), none, .bin .rem (.t (K.ofNat 15)) (.c (.i .u64 (.ofNat 6)))⟩, ⟨(some (K.ofNat 17)), none, .conv .i64 (.t (K.ofNat 16))⟩, ⟨(some (K.ofNat 18)), none, .bin .add (.c (.i .i64 (.ofNat 2))) (.t (K.ofNat 17))⟩, ⟨(some (K.ofNat 0)), none, .as (.t (K.ofNat 18))⟩]
noncomputable def f28_r2 : List EOper := [⟨(some (K.ofNat 8)), none, .as (.c .sn)⟩]
noncomputable def f28_r3 : List EOper := [⟨(some (K.ofNat 9)), none, .as (.c (.i .i64 (.ofNat 0)))⟩]
noncomputable def f28_r4 : List EOper := [⟨(some (K.ofNat 19)), none, .mv (.t (K.ofNat 9))⟩, ⟨(some (K.ofNat 20)), none, .mv (.t (K.ofNat 0))⟩, ⟨(some (K.ofNat 21)), none, .bin .lss (.t (K.ofNat 19)) (.t (K.ofNat 20))⟩]
noncomputable def f28_r5 : List EOper := [⟨(some (K.ofNat 24)), none, .mv (.t (K.ofNat 9))⟩, ⟨(some (K.ofNat 25)), none, .bin .add (.t (K.ofNat 24)) (.c (.i .i64 (.ofNat 1)))⟩, ⟨(some (K.ofNat 10)), none, .as (.t (K.ofNat 25))⟩]
noncomputable def f28_r6 : List EOper := [⟨(some (K.ofNat 26)), none, .mv (.t (K.ofNat 10))⟩, ⟨(some (K.ofNat 27)), none, .mv (.t (K.ofNat 0))⟩, ⟨(some (K.ofNat 28)), none, .bin .lss (.t (K.ofNat 26)) (.t (K.ofNat 27))⟩]
noncomputable def f28_r7 : List EOper := [⟨(some (K.ofNat 11)), none, .as (.c (.i .i64 (.ofNat 0)))⟩]
noncomputable def f28_r8 : List EOper := [⟨(some (K.ofNat 31)), none, .mv (.t (K.ofNat 11))⟩, ⟨(some (K.ofNat 32)), none, .mv (.t (K.ofNat 1))⟩, ⟨(some (K.ofNat 33)), none, .len (.t (K.ofNat 32))⟩, ⟨(some (K.ofNat 34)), none, .bin .lss (.t (K.ofNat 31)) (.t (K.ofNat 33))⟩, ⟨(some (K.ofNat 35)), none, .mv (.t (K.ofNat 34))⟩, ⟨(some (K.ofNat 36)), (some ((K.ofNat 35), true)), .mv (.t (K.ofNat 8))⟩, ⟨(some (K.ofNat 37)), (some ((K.ofNat 35), true)), .len (.t (K.ofNat 36))⟩, ⟨(some (K.ofNat 38)), (some ((K.ofNat 35), true)), .mv (.t (K.ofNat 2))⟩, ⟨(some (K.ofNat 39)), (some ((K.ofNat 35), true)), .bin .lss (.t (K.ofNat 37)) (.t (K.ofNat 38))⟩, ⟨(some (K.ofNat 40)), none, .pick (.t (K.ofNat 35)) (.t (K.ofNat 39)) (.c (.b false))⟩]
noncomputable def f28_r9 : List Stage := [⟨[⟨(some (K.ofNat 43)), none, .mv (.t (K.ofNat 1))⟩, ⟨(some (K.ofNat 44)), none, .mv (.t (K.ofNat 11))⟩, ⟨(some (K.ofNat 45)), none, .iads 2 (.t (K.ofNat 43)) (.t (K.ofNat 44))⟩, ⟨(some (K.ofNat 46)), none, .iadr 2 1 (.t (K.ofNat 45)) (.c (.i .i64 (.ofNat 0)))⟩, ⟨(some (K.ofNat 47)), none, .ld (.t (K.ofNat 46))⟩, ⟨(some (K.ofNat 48)), none, .conv .u64 (.t (K.ofNat 47))⟩, ⟨(some (K.ofNat 49)), none, .mv (.t (K.ofNat 0))⟩, ⟨(some (K.ofNat 50)), none, .conv .u64 (.t (K.ofNat 49))⟩, ⟨(some (K.ofNat 51)), none, .bin .rem (.t (K.ofNat 48)) (.t (K.ofNat 50))⟩, ⟨(some (K.ofNat 52)), none, .conv .i64 (.t (K.ofNat 51))⟩, ⟨(some (K.ofNat 53)), none, .mv (.t (K.ofNat 1))⟩, ⟨(some (K.ofNat 54)), none, .mv (.t (K.ofNat 11))⟩, ⟨(some (K.ofNat 55)), none, .iads 2 (.t (K.ofNat 53)) (.t (K.ofNat 54))⟩, ⟨(some (K.ofNat 56)), none, .iadr 2 1 (.t (K.ofNat 55)) (.c (.i .i64 (.ofNat 1)))⟩, ⟨(some (K.ofNat 57)), none, .ld (.t (K.ofNat 56))⟩, ⟨(some (K.ofNat 58)), none, .conv .u64 (.t (K.ofNat 57))⟩, ⟨(some (K.ofNat 59)), none, .mv (.t (K.ofNat 0))⟩, ⟨(some (K.ofNat 60)), none, .conv .u64 (.t (K.ofNat 59))⟩, ⟨(some (K.ofNat 61)), none, .bin .rem (.t (K.ofNat 58)) (.t (K.ofNat 60))⟩, ⟨(some (K.ofNat 62)), none, .conv .i64 (.t (K.ofNat 61))⟩], [], (some ⟨(some (K.ofNat 12)), none, .as (.t (K.ofNat 52))⟩), []⟩, ⟨[], [⟨(some (K.ofNat 53)), none, .mv (.t (K.ofNat 1))⟩, ⟨(some (K.ofNat 54)), none, .mv (.t (K.ofNat 11))⟩, ⟨(some (K.ofNat 55)), none, .iads 2 (.t (K.ofNat 53)) (.t (K.ofNat 54))⟩, ⟨(some (K.ofNat 56)), none, .iadr 2 1 (.t (K.ofNat 55)) (.c (.i .i64 (.ofNat 1)))⟩, ⟨(some (K.ofNat 57)), none, .ld (.t (K.ofNat 56))⟩, ⟨(some (K.ofNat 58)), none, .conv .u64 (.t (K.ofNat 57))⟩, ⟨(some (K.ofNat 59)), none, .mv (.t (K.ofNat 0))⟩, ⟨(some (K.ofNat 60)), none, .conv .u64 (.t (K.ofNat 59))⟩, ⟨(some (K.ofNat 61)), none, .bin .rem (.t (K.ofNat 58)) (.t (K.ofNat 60))⟩, ⟨(some (K.ofNat 62)), none, .conv .i64 (.t (K.ofNat 61))⟩], (some ⟨(some (K.ofNat 13)), none, .as (.t (K.ofNat 62))⟩), []⟩, ⟨[], [], none, []⟩]
noncomputable def f28_r10 : List EOper := [⟨(some (K.ofNat 63)), none, .mv (.t (K.ofNat 12))⟩, ⟨(some (K.ofNat 64)), none, .mv (.t (K.ofNat 13))⟩, ⟨(some (K.ofNat 65)), none, .min (.t (K.ofNat 63)) (.t (K.ofNat 64))⟩, ⟨(some (K.ofNat 66)), none, .mv (.t (K.ofNat 9))⟩, ⟨(some (K.ofNat 67)), none, .bin .eql (.t (K.ofNat 65)) (.t (K.ofNat 66))⟩, ⟨(some (K.ofNat 68)), none, .mv (.t (K.ofNat 67))⟩, ⟨(some (K.ofNat 69)), (some ((K.ofNat 68), true)), .mv (.t (K.ofNat 12))⟩, ⟨(some (K.ofNat 70)), (some ((K.ofNat 68), true)), .mv (.t (K.ofNat 13))⟩, ⟨(some (K.ofNat 71)), (some ((K.ofNat 68), true)), .max (.t (K.ofNat 69)) (.t (K.ofNat 70))⟩, ⟨(some (K.ofNat 72)), (some ((K.ofNat 68), true)), .mv (.t (K.ofNat 10))⟩, ⟨(some (K.ofNat 73)), (some ((K.ofNat 68), true)), .bin .eql (.t (K.ofNat 71)) (.t (K.ofNat 72))⟩, ⟨(some (K.ofNat 74)), none, .pick (.t (K.ofNat 68)) (.t (K.ofNat 73)) (.c (.b false))⟩]
noncomputable def f28_r11 : List EOper := [⟨(some (K.ofNat 75)), none, .mv (.t (K.ofNat 8))⟩, ⟨(some (K.ofNat 76)), none, .mv (.t (K.ofNat 9))⟩, ⟨(some (K.ofNat 77)), none, .mv (.t (K.ofNat 10))⟩, ⟨(some (K.ofNat 78)), none, .build [(.i .i64 (.ofNat 0)), (.i .i64 (.ofNat 0))] [(0, 1, (.t (K.ofNat 76))), (1, 1, (.t (K.ofNat 77)))]⟩, ⟨(some (K.ofNat 79)), none, .bslice 1 2 [(.i .i64 (.ofNat 0)), (.i .i64 (.ofNat 0))] [(0, 2, (.t (K.ofNat 78)))]⟩, ⟨(some (K.ofNat 80)), none, .app 2 (.t (K.ofNat 75)) (.t (K.ofNat 79))⟩, ⟨(some (K.ofNat 8)), none, .as (.t (K.ofNat 80))⟩]
noncomputable def f28_r12 : List EOper := [⟨(some (K.ofNat 41)), none, .mv (.t (K.ofNat 11))⟩, ⟨(some (K.ofNat 42)), none, .bin .add (.t (K.ofNat 41)) (.c (.i .i64 (.ofNat 1)))⟩, ⟨(some (K.ofNat 11)), none, .as (.t (K.ofNat 42))⟩]
noncomputable def f28_l0 : EC := (.seq (.seq (.reg f28_r8) (.cond (.t (K.ofNat 40)) .skip (.exit 4))) (.seq (.block 5 (.seq (.draw f28_r9) (.seq (.reg f28_r10) (.cond (.t (K.ofNat 74)) (.seq (.reg f28_r11) (.exit 4)) .skip)))) (.reg f28_r12)))
noncomputable def f28_r13 : List EOper := [⟨(some (K.ofNat 29)), none, .mv (.t (K.ofNat 10))⟩, ⟨(some (K.ofNat 30)), none, .bin .add (.t (K.ofNat 29)) (.c (.i .i64 (.ofNat 1)))⟩, ⟨(some (K.ofNat 10)), none, .as (.t (K.ofNat 30))⟩]
noncomputable def f28_l1 : EC := (.seq (.seq (.reg f28_r6) (.cond (.t (K.ofNat 28)) .skip (.exit 2))) (.seq (.block 3 (.seq (.reg f28_r7) (.block 4 (.loop f28_l0)))) (.reg f28_r13)))
noncomputable def f28_r14 : List EOper := [⟨(some (K.ofNat 22)), none, .mv (.t (K.ofNat 9))⟩, ⟨(some (K.ofNat 23)), none, .bin .add (.t (K.ofNat 22)) (.c (.i .i64 (.ofNat 1)))⟩, ⟨(some (K.ofNat 9)), none, .as (.t (K.ofNat 23))⟩]
noncomputable def f28_l2 : EC := (.seq (.seq (.reg f28_r4) (.cond (.t (K.ofNat 21)) .skip (.exit 0))) (.seq (.block 1 (.seq (.reg f28_r5) (.block 2 (.loop f28_l1)))) (.reg f28_r14)))
noncomputable def f28_r15 : List EOper := [⟨(some (K.ofNat 81)), none, .mv (.t (K.ofNat 8))⟩, ⟨(some (K.ofNat 82)), none, .len (.t (K.ofNat 81))⟩, ⟨(some (K.ofNat 83)), none, .bin .eql (.t (K.ofNat 82)) (.c (.i .i64 (.ofNat 0)))⟩]
noncomputable def f28_r16 : List EOper := [⟨(some (K.ofNat 84)), none, .mv (.t (K.ofNat 8))⟩, ⟨(some (K.ofNat 85)), none, .build [(.i .i64 (.ofNat 0)), (.i .i64 (.ofNat 0))] [(0, 1, (.c (.i .i64 (.ofNat 0)))), (1, 1, (.c (.i .i64 (.ofNat 1))))]⟩, ⟨(some (K.ofNat 86)), none, .bslice 1 2 [(.i .i64 (.ofNat 0)), (.i .i64 (.ofNat 0))] [(0, 2, (.t (K.ofNat 85)))]⟩, ⟨(some (K.ofNat 87)), none, .app 2 (.t (K.ofNat 84)) (.t (K.ofNat 86))⟩, ⟨(some (K.ofNat 8)), none, .as (.t (K.ofNat 87))⟩]
noncomputable def f28_r17 : List EOper := [⟨(some (K.ofNat 88)), none, .mv (.t (K.ofNat 0))⟩, ⟨(some (K.ofNat 89)), none, .mv (.t (K.ofNat 8))⟩, ⟨(some (K.ofNat 6)), none, .as (.t (K.ofNat 88))⟩, ⟨(some (K.ofNat 7)), none, .as (.t (K.ofNat 89))⟩]
noncomputable def f28_c : EC := (.seq (.reg f28_r0) (.seq (.reg f28_r1) (.seq (.reg f28_r2) (.seq (.seq (.reg f28_r3) (.block 0 (.loop f28_l2))) (.seq (.seq (.reg f28_r15) (.cond (.t (K.ofNat 83)) (.reg f28_r16) .skip)) (.seq (.reg f28_r17) .ret))))))
noncomputable def f28 : EF := ⟨90, [.tmp (K.ofNat 6), .tmp (K.ofNat 7)], f28_c, none⟩
theorem f28_rs : f28.rs = [.tmp (K.ofNat 6), .tmp (K.ofNat 7)] := of_eq_true (eq_self _)
structure TmOk (N : Int) (E : List (Int × Int)) (a b : Int) : Prop where
  ris : risB N E = true
  len : E.length ≤ 10
  bf : ∀ e ∈ E, bfB e (a, b) = true
theorem bfB_iff {a b : Int × Int} : bfB a b = true ↔ a.1 < b.1 ∨ (a.1 = b.1 ∧ a.2 < b.2) := by
  unfold bfB; simp
theorem TmOk.next {N a b : Int} {E : List (Int × Int)} (h : TmOk N E a b) {a' b' : Int} (hx : a < a' ∨ (a = a' ∧ b ≤ b')) : TmOk N E a' b' := ⟨h.ris, h.len, fun e he => by
  have := bfB_iff.1 (h.bf e he)
  refine bfB_iff.2 ?_
  simp only at this ⊢
  omega⟩
theorem risB_snoc {N : Int} {E : List (Int × Int)} {e : Int × Int} (h1 : risB N E = true) (h2 : edB N e = true) (h3 : ∀ x ∈ E, bfB x e = true) : risB N (E ++ [e]) = true := by
  refine risB_yes fun j hj => ?_
  have hj : j < E.length + 1 := by simpa using hj
  by_cases e1 : j < E.length
  · have h4 := List.all_eq_true.1 h1 j (by simpa using e1)
    unfold okAt at h4 ⊢
    have g1 : (E ++ [e]).getD j (0, 0) = E.getD j (0, 0) := by simp [List.getD_eq_getElem?_getD, List.getElem?_append_left e1]
    have g2 : (E ++ [e]).getD (j - 1) (0, 0) = E.getD (j - 1) (0, 0) := by simp [List.getD_eq_getElem?_getD, List.getElem?_append_left (show j - 1 < E.length by omega)]
    rw [g1, g2]; exact h4
  · have ej : j = E.length := by omega
    subst ej
    unfold okAt
    have g1 : (E ++ [e]).getD E.length (0, 0) = e := by simp [List.getD_eq_getElem?_getD]
    rw [g1, h2, Bool.true_and]
    by_cases hz : E.length = 0
    · rw [decide_eq_true hz]; rfl
    · have hl : E.length - 1 < E.length := by omega
      have g2 : (E ++ [e]).getD (E.length - 1) (0, 0) = E[E.length - 1] := by simp [List.getD_eq_getElem?_getD, List.getElem?_append_left hl, hl]
      rw [g2, h3 _ (List.getElem_mem hl)]; simp
theorem TmOk.snoc {N a b : Int} {E : List (Int × Int)} (h : TmOk N E a b) (hl : E.length < 10) (ha : 0 ≤ a) (hab : a < b) (hb : b < N) : TmOk N (E ++ [(a, b)]) a (b + 1) :=
  ⟨risB_snoc h.ris (by unfold edB; simp; omega) h.bf, by simp; omega, fun e he => by
    rcases List.mem_append.1 he with he | he
    · exact (h.next (a' := a) (b' := b + 1) (.inr ⟨rfl, by omega⟩)).bf e he
    · have : e = (a, b) := by simpa using he
      subst this
      exact bfB_iff.2 (.inr ⟨rfl, by simp only; omega⟩)⟩
theorem TmOk.chk {m : Nat} {E : List (Int × Int)} {a b : Int} (h : TmOk (m : Int) E a b) (h2 : 2 ≤ m) (h7 : m ≤ 7) (hn : E ≠ []) : chkI (m : Int) E = 0 := by
  have := List.length_pos_iff.2 hn
  have hl := h.len
  unfold chkI
  rw [if_neg (by omega), if_neg (by omega), if_pos h.ris]
theorem Sk.srp {h : H} {v : V} {L : List (Int × Int)} (hs : Sk 2 qE h v L) : Srp h v L := by
  rcases hs with ⟨rfl, rfl⟩ | ⟨id, off, m, cs, rfl, hb, h1, h2, h3⟩
  · exact .inl ⟨rfl, rfl, rfl⟩
  · exact .inr ⟨id, off, m, cs, rfl, .inl hb, h1, h2, h3⟩
theorem fill_p2 {fr : Fr} {x : EO} {z1 z2 : V} : fillE fr [z1, z2] [(0, 2, x)] = oGet (cellsN 2 (ev fr x)) none fun cs => some (setMany [z1, z2] 0 cs) := of_eq_true (eq_self _)
theorem set_p2 {z1 z2 a b : V} : setMany [z1, z2] 0 [a, b] = [a, b] := of_eq_true (eq_self _)
section
variable {fs : T EF} {ro : Option K} {h : H} {v : V} {l : List (Int × Int)}
def f28_A (h : H) (v : V) (m : Nat) (l : List (Int × Int)) (a b : Nat) (i : Nat) (fr : Fr) (h1 : H) : Prop := i ≤ l.length ∧ ∃ u E, Sk 2 qE h1 u E ∧ Own h.nx.nat u ∧ Grow h.nx.nat h h1 ∧ TmOk (m : Int) E (a : Int) (b : Int) ∧ fr.get (K.ofNat 0) = some (.i .i64 (m : Int)) ∧ fr.get (K.ofNat 1) = some (v) ∧ fr.get (K.ofNat 2) = some (.i .i64 10) ∧ fr.get (K.ofNat 8) = some (u) ∧ fr.get (K.ofNat 9) = some (.i .i64 (a : Int)) ∧ fr.get (K.ofNat 10) = some (.i .i64 (b : Int)) ∧ fr.get (K.ofNat 11) = some (.i .i64 (i : Int))
def f28_B (h : H) (v : V) (m : Nat) (a : Nat) (b : Nat) (fr : Fr) (h1 : H) : Prop := a < b ∧ b ≤ m + 1 ∧ ∃ u E, Sk 2 qE h1 u E ∧ Own h.nx.nat u ∧ Grow h.nx.nat h h1 ∧ TmOk (m : Int) E (a : Int) (b : Int) ∧ fr.get (K.ofNat 0) = some (.i .i64 (m : Int)) ∧ fr.get (K.ofNat 1) = some (v) ∧ fr.get (K.ofNat 2) = some (.i .i64 10) ∧ fr.get (K.ofNat 8) = some (u) ∧ fr.get (K.ofNat 9) = some (.i .i64 (a : Int)) ∧ fr.get (K.ofNat 10) = some (.i .i64 (b : Int))
def f28_C (h : H) (v : V) (m : Nat) (a : Nat) (fr : Fr) (h1 : H) : Prop := a ≤ m ∧ ∃ u E, Sk 2 qE h1 u E ∧ Own h.nx.nat u ∧ Grow h.nx.nat h h1 ∧ TmOk (m : Int) E (a : Int) 0 ∧ fr.get (K.ofNat 0) = some (.i .i64 (m : Int)) ∧ fr.get (K.ofNat 1) = some (v) ∧ fr.get (K.ofNat 2) = some (.i .i64 10) ∧ fr.get (K.ofNat 8) = some (u) ∧ fr.get (K.ofNat 9) = some (.i .i64 (a : Int))
theorem f28_ret {n : Int} (hv : Srp h v l) (hc : HC h) (hL : l.length ≤ 9223372036854775807) : Ret fs f28 [.i .i64 n, v, .i .i64 10] h fun r h' => ∃ (m : Nat) (u : V) (E : List (Int × Int)), r = .tup [.i .i64 (m : Int), u] ∧ Srp h' u E ∧ chkI (m : Int) E = 0 ∧ Grow h.nx.nat h h' := by
  apply ret_of rfl
  show W fs none f28_c _ _ _
  unfold f28_c
  obtain ⟨q, hq6, hqe⟩ := rem_k n (k := 6) (by omega) (by omega)
  have hqe : fw .i64 ((fw .u64 n).tmod 6) = (q : Int) := hqe
  obtain ⟨m, hm⟩ : ∃ m : Nat, m = 2 + q := ⟨_, rfl⟩
  have em : 2 + (q : Int) = (m : Int) := by omega
  simp (disch := omega) only [f28_r0, f28_r1, f28_r2, f28_r3, w_reg, w_seq, w_block, seqK_n, x_nil, x_mv, x_as, x_bin, x_conv, kx, rvP_ok, okv_some, ev_t, ev_c, getV_some, putD_some, bin_add, bin_rem, onI_i, frame_3, of0, of2, of6, getK_set, Nat.reduceEqDiff, ↓reduceIte, hqe, fw64, em]
  refine W_loop (f28_C h v m) (fun a => m - a) ?_ 0 ⟨by omega, .sn, [], Sk.nil, Own.sn, Grow.refl _ _, ⟨rfl, by simp, fun e he => by cases he⟩, by simp (disch := omega) only [getK_set, Nat.reduceEqDiff, ↓reduceIte, and_self, Int.natCast_zero]⟩
  rintro a fr h1 ⟨ha, u, E, hs, ho, hG, hT, g0, g1, g2, g8, g9⟩
  unfold f28_l2
  by_cases hlt : a < m
  · have d0 : decide ((a : Int) < (m : Int)) = true := by simp; omega
    simp (disch := omega) only [f28_r4, f28_r5, w_skip, w_reg, w_seq, w_cond, w_block, seqK_n, ckB_b, cbB_b, true_and, x_nil, x_mv, x_as, x_bin, kx, rvP_ok, okv_some, ev_t, ev_c, getV_some, putD_some, bin_add, bin_lss, of1, getK_set, Nat.reduceEqDiff, ↓reduceIte, g0, g9, d0, fw64]
    refine W_loop (f28_B h v m a) (fun b => m + 1 - b) ?_ (a + 1) ⟨by omega, by omega, u, E, hs, ho, hG, hT.next (.inr ⟨rfl, by omega⟩), by simp (disch := omega) only [getK_set, Nat.reduceEqDiff, ↓reduceIte, g0, g1, g2, g8, g9, and_self, Int.natCast_add, Int.natCast_one]⟩
    clear hs ho hG hT g0 g1 g2 g8 g9
    rintro b fr h2 ⟨hab, hb, u, E, hs, ho, hG, hT, g0, g1, g2, g8, g9, g10⟩
    unfold f28_l1
    by_cases hlt2 : b < m
    · have d1 : decide ((b : Int) < (m : Int)) = true := by simp; omega
      simp (disch := omega) only [f28_r6, f28_r7, w_skip, w_reg, w_seq, w_cond, w_block, seqK_n, ckB_b, cbB_b, true_and, x_nil, x_mv, x_as, x_bin, kx, rvP_ok, okv_some, ev_t, ev_c, getV_some, putD_some, bin_lss, of0, getK_set, Nat.reduceEqDiff, ↓reduceIte, g0, g10, d1]
      refine W_loop (f28_A h v m l a b) (fun i => l.length - i) ?_ 0 ⟨by omega, u, E, hs, ho, hG, hT, by simp (disch := omega) only [getK_set, Nat.reduceEqDiff, ↓reduceIte, g0, g1, g2, g8, g9, g10, and_self, Int.natCast_zero]⟩
      clear hs ho hG hT g0 g1 g2 g8 g9 g10
      rintro i fr h3 ⟨hi, u, E, hs, ho, hG, hT, g0, g1, g2, g8, g9, g10, g11⟩
      have hc3 := hG.hc hc
      have hv3 := hv.grow hc hG
      have hsl := hs.len
      have hTl := hT.len
      -- after the search
      have fin : ∀ (fr : Fr) (h4 : H) (u : V) (E : List (Int × Int)), Sk 2 qE h4 u E → Own h.nx.nat u → Grow h.nx.nat h h4 → TmOk (m : Int) E (a : Int) ((b : Int) + 1) → fr.get (K.ofNat 0) = some (.i .i64 (m : Int)) ∧ fr.get (K.ofNat 1) = some (v) ∧ fr.get (K.ofNat 2) = some (.i .i64 10) ∧ fr.get (K.ofNat 8) = some (u) ∧ fr.get (K.ofNat 9) = some (.i .i64 (a : Int)) ∧ fr.get (K.ofNat 10) = some (.i .i64 (b : Int)) → Go.Ev.X fs f28_r13 (loopK (f28_B h v m a) (fun b => m + 1 - b) b (atK 2 (atK 1 (seqK (W fs none (.reg f28_r14)) (loopK (f28_C h v m) (fun a => m - a) a (atK 0 (seqK (W fs none (.seq (.seq (.reg f28_r15) (.cond (.t (K.ofNat 83)) (.reg f28_r16) .skip)) (.seq (.reg f28_r17) .ret))) (retK f28 fun r h' => ∃ (m : Nat) (u : V) (E : List (Int × Int)), r = .tup [.i .i64 (m : Int), u] ∧ Srp h' u E ∧ chkI (m : Int) E = 0 ∧ Grow h.nx.nat h h'))))))) .normal) fr h4 := by
        clear g0 g1 g2 g8 g9 g10 g11 fr
        rintro fr h4 u E hs ho hG hT ⟨g0, g1, g2, g8, g9, g10⟩
        simp (disch := omega) only [f28_r13, loopK_n, x_nil, x_mv, x_as, x_bin, kx, rvP_ok, okv_some, ev_t, ev_c, getV_some, putD_some, bin_add, of1, getK_set, ↓reduceIte, g10, fw64]
        exact ⟨b + 1, by omega, by omega, by omega, u, E, hs, ho, hG, hT, by simp (disch := omega) only [getK_set, Nat.reduceEqDiff, ↓reduceIte, g0, g1, g2, g8, g9, and_self, Int.natCast_add, Int.natCast_one]⟩
      unfold f28_l0
      by_cases hlt3 : i < l.length
      · have d2 : decide ((i : Int) < (l.length : Int)) = true := by simpa using hlt3
        by_cases hE : E.length < 10
        · have d3 : decide ((E.length : Int) < 10) = true := by simp; omega
          obtain ⟨ide, qq, hp1, _, hp2, hp3⟩ := hv3.at2 hlt3
          have hvb := hv.beq
          have hmw : fw .u64 (m : Int) = (m : Int) := fwu64 (by omega) (by omega)
          have hrem : ∀ a, binV .rem (.i .u64 a) (.i .u64 (m : Int)) = some (.i .u64 (a.tmod (m : Int))) := fun a => bin_rem (by omega)
          obtain ⟨c, hcm, hce⟩ := rem_k l[i].1 (k := m) (by omega) (by omega)
          obtain ⟨d, hdm, hde⟩ := rem_k l[i].2 (k := m) (by omega) (by omega)
          simp (disch := omega) only [f28_r8, f28_r9, w_skip, w_reg, w_draw, w_seq, w_cond, w_block, seqK_n, ckB_b, cbB_b, okG_b, asG_t, true_and, x_nil, x_g, x_mv, x_as, x_pick, x_bin, x_len, kx, kg, xg_nil, xg_mv, xg_ld, xg_bin, xg_conv, xg_iadr, xg_iads, xd_cons, fresh_nil, stK_n, stK_s, stay_nil, stay_cons, again_ok, stay_mv, beq_i, stay_iads, stay_ld, stay_bin, beq_p, rvP_ok, okv_some, ev_t, ev_c, getV_some, putD_some, bin_lss, pick_b, onI_i, onP_p, of0, of1, getK_set, Nat.reduceEqDiff, ↓reduceIte, stay_iadr, stay_conv, ix2_0, ix2_1, g0, g1, g2, g8, g11, hv3.len, hsl, d2, d3, hp1, hp2, hp3, hvb, hmw, hrem, hce, hde]
          have next : ∀ (fr : Fr), fr.get (K.ofNat 0) = some (.i .i64 (m : Int)) ∧ fr.get (K.ofNat 1) = some (v) ∧ fr.get (K.ofNat 2) = some (.i .i64 10) ∧ fr.get (K.ofNat 8) = some (u) ∧ fr.get (K.ofNat 9) = some (.i .i64 (a : Int)) ∧ fr.get (K.ofNat 10) = some (.i .i64 (b : Int)) ∧ fr.get (K.ofNat 11) = some (.i .i64 (i : Int)) → Go.Ev.X fs f28_r12 (loopK (f28_A h v m l a b) (fun i => l.length - i) i (atK 4 (atK 3 (seqK (W fs none (.reg f28_r13)) (loopK (f28_B h v m a) (fun b => m + 1 - b) b (atK 2 (atK 1 (seqK (W fs none (.reg f28_r14)) (loopK (f28_C h v m) (fun a => m - a) a (atK 0 (seqK (W fs none (.seq (.seq (.reg f28_r15) (.cond (.t (K.ofNat 83)) (.reg f28_r16) .skip)) (.seq (.reg f28_r17) .ret))) (retK f28 fun r h' => ∃ (m : Nat) (u : V) (E : List (Int × Int)), r = .tup [.i .i64 (m : Int), u] ∧ Srp h' u E ∧ chkI (m : Int) E = 0 ∧ Grow h.nx.nat h h'))))))))))) .normal) fr h3 := by
            clear g0 g1 g2 g8 g9 g10 g11 fr
            rintro fr ⟨g0, g1, g2, g8, g9, g10, g11⟩
            simp (disch := omega) only [f28_r12, loopK_n, x_nil, x_mv, x_as, x_bin, kx, rvP_ok, okv_some, ev_t, ev_c, getV_some, putD_some, bin_add, of1, getK_set, ↓reduceIte, g11, fw64]
            exact ⟨i + 1, by omega, hlt3, u, E, hs, ho, hG, hT, by simp (disch := omega) only [getK_set, Nat.reduceEqDiff, ↓reduceIte, g0, g1, g2, g8, g9, g10, and_self, Int.natCast_add, Int.natCast_one]⟩
          cases d4 : decide (min (c : Int) (d : Int) = (a : Int)) with
          | false =>
            simp (disch := omega) only [f28_r10, w_skip, w_reg, w_cond, seqK_n, atK_n, ckB_b, cbB_b, okG_b, asG_t, true_and, x_nil, x_g, x_mv, x_pick, x_bin, x_min, kx, rvP_ok, okv_some, ev_t, ev_c, getV_some, putD_some, bin_eql, pick_b, min_ii, getK_set, Nat.reduceEqDiff, ↓reduceIte, Bool.false_eq_true, g9, d4]
            exact next _ (by simp (disch := omega) only [getK_set, Nat.reduceEqDiff, ↓reduceIte, g0, g1, g2, g8, g9, g10, g11, and_self])
          | true =>
          cases d5 : decide (max (c : Int) (d : Int) = (b : Int)) with
          | false =>
            simp (disch := omega) only [f28_r10, w_skip, w_reg, w_cond, seqK_n, atK_n, ckB_b, cbB_b, okG_b, asG_t, true_and, x_nil, x_g, x_mv, x_pick, x_bin, x_min, x_max, kx, rvP_ok, okv_some, ev_t, ev_c, getV_some, putD_some, bin_eql, pick_b, min_ii, max_ii, getK_set, Nat.reduceEqDiff, ↓reduceIte, Bool.false_eq_true, g9, g10, d4, d5]
            exact next _ (by simp (disch := omega) only [getK_set, Nat.reduceEqDiff, ↓reduceIte, g0, g1, g2, g8, g9, g10, g11, and_self])
          | true =>
            obtain ⟨u', h4, a1, s1, o1, gr1, _⟩ := Sk.push qE_len (by omega) (x := ((a : Int), (b : Int))) hs ho hG.nx hc3 (by omega)
            have a1' : appV 2 (h3.new (.cells (1 * 2) [.i .i64 (a : Int), .i .i64 (b : Int)])) u (.sl h3.nx 0 1 2) = .ok u' h4 := a1
            simp (disch := omega) only [f28_r10, f28_r11, w_reg, w_seq, w_cond, w_exit, seqK_n, seqK_e, atK_n, atK_e, loopK_e, ckB_b, cbB_b, okG_b, asG_t, true_and, x_nil, x_g, x_mv, x_as, x_pick, x_build, x_bslice, x_bin, x_app, x_min, x_max, kx, rvP_ok, okv_some, ev_t, ev_c, getV_some, putD_some, bin_eql, pick_b, oGet_s, min_ii, max_ii, cells1_i, of0, getK_set, Nat.reduceEqDiff, ↓reduceIte, fill_2, set_2, cells2, g8, g9, g10, d4, d5, fill_2, set_2, cells2, fill_p2, set_p2, a1']
            exact fin _ h4 u' _ s1 o1 (hG.trans gr1) (hT.snoc hE (by omega) (by omega) (by omega)) (by simp (disch := omega) only [getK_set, Nat.reduceEqDiff, ↓reduceIte, g0, g1, g2, g9, g10, and_self])
        · have d3 : decide ((E.length : Int) < 10) = false := by simp; omega
          simp (disch := omega) only [f28_r8, w_reg, w_seq, w_cond, w_exit, seqK_n, seqK_e, atK_n, atK_e, loopK_e, ckB_b, cbB_b, okG_b, asG_t, true_and, x_nil, x_g, x_mv, x_pick, x_bin, x_len, kx, rvP_ok, okv_some, ev_t, ev_c, getV_some, putD_some, bin_lss, pick_b, getK_set, Nat.reduceEqDiff, ↓reduceIte, Bool.false_eq_true, g1, g2, g8, g11, hv3.len, hsl, d2, d3]
          exact fin _ _ u E hs ho hG (hT.next (.inr ⟨rfl, by omega⟩)) (by simp (disch := omega) only [getK_set, Nat.reduceEqDiff, ↓reduceIte, g0, g1, g2, g8, g9, g10, and_self])
      · have d2 : decide ((i : Int) < (l.length : Int)) = false := by simpa using hlt3
        simp (disch := omega) only [f28_r8, w_reg, w_seq, w_cond, w_exit, seqK_n, seqK_e, atK_n, atK_e, loopK_e, ckB_b, cbB_b, okG_b, asG_t, true_and, x_nil, x_g, x_mv, x_pick, x_bin, x_len, kx, rvP_ok, okv_some, ev_t, ev_c, getV_some, putD_some, bin_lss, pick_b, getK_set, Nat.reduceEqDiff, ↓reduceIte, Bool.false_eq_true, g1, g11, hv3.len, d2]
        exact fin _ _ u E hs ho hG (hT.next (.inr ⟨rfl, by omega⟩)) (by simp (disch := omega) only [getK_set, Nat.reduceEqDiff, ↓reduceIte, g0, g1, g2, g8, g9, g10, and_self])
    · have d1 : decide ((b : Int) < (m : Int)) = false := by simp; omega
      simp (disch := omega) only [f28_r6, f28_r14, w_reg, w_seq, w_cond, w_exit, seqK_n, seqK_e, atK_n, atK_e, loopK_n, loopK_e, ckB_b, cbB_b, true_and, x_nil, x_mv, x_as, x_bin, kx, rvP_ok, okv_some, ev_t, ev_c, getV_some, putD_some, bin_add, bin_lss, of1, getK_set, Nat.reduceEqDiff, ↓reduceIte, Bool.false_eq_true, g0, g9, g10, d1, fw64]
      exact ⟨a + 1, by omega, by omega, u, E, hs, ho, hG, hT.next (.inl (by omega)), by simp (disch := omega) only [getK_set, Nat.reduceEqDiff, ↓reduceIte, g0, g1, g2, g8, and_self, Int.natCast_add, Int.natCast_one]⟩
  · have d0 : decide ((a : Int) < (m : Int)) = false := by simp; omega
    have hc1 := hG.hc hc
    by_cases hE : E = []
    · subst hE
      have d1 : decide ((([] : List (Int × Int)).length : Int) = 0) = true := rfl
      obtain ⟨u', h4, a1, s1, o1, gr1, _⟩ := Sk.push qE_len (by omega) (x := ((0 : Int), (1 : Int))) hs ho hG.nx hc1 (by simp)
      have a1' : appV 2 (h1.new (.cells (1 * 2) [.i .i64 0, .i .i64 1])) u (.sl h1.nx 0 1 2) = .ok u' h4 := a1
      simp (disch := omega) only [f28_r4, f28_r15, f28_r16, f28_r17, f28_rs, w_reg, w_seq, w_cond, w_exit, w_ret, seqK_n, seqK_e, atK_e, loopK_e, ckB_b, cbB_b, true_and, retK_r, x_nil, x_mv, x_as, x_build, x_bslice, x_bin, x_len, x_app, kx, rvP_ok, okv_some, ev_t, ev_c, getV_some, putD_some, bin_eql, bin_lss, oGet_s, readRs_nil, readRs_t, retV_2, cells1_i, of0, of1, Option.some.injEq, exists_eq_left', getK_set, Nat.reduceEqDiff, ↓reduceIte, Bool.false_eq_true, fill_2, set_2, cells2, g0, g8, g9, d0, hs.len, d1, fill_2, set_2, cells2, fill_p2, set_p2, a1']
      have hT0 : TmOk (m : Int) [] 0 1 := ⟨hT.ris, by simp, fun e he => by cases he⟩
      have hT1 := hT0.snoc (by simp) (by omega) (by omega) (by omega)
      exact ⟨m, u', _, rfl, s1.srp, hT1.chk (by omega) (by omega) (by simp), hG.trans gr1⟩
    · have hpos := List.length_pos_iff.2 hE
      have d1 : decide ((E.length : Int) = 0) = false := by simp; omega
      simp (disch := omega) only [f28_r4, f28_r15, f28_r17, f28_rs, w_skip, w_reg, w_seq, w_cond, w_exit, w_ret, seqK_n, seqK_e, atK_e, loopK_e, ckB_b, cbB_b, true_and, retK_r, x_nil, x_mv, x_as, x_bin, x_len, kx, rvP_ok, okv_some, ev_t, ev_c, getV_some, putD_some, bin_eql, bin_lss, oGet_s, readRs_nil, readRs_t, retV_2, of0, Option.some.injEq, exists_eq_left', getK_set, Nat.reduceEqDiff, ↓reduceIte, Bool.false_eq_true, g0, g8, g9, d0, hs.len, d1]
      exact ⟨m, u, E, rfl, hs.srp, hT.chk (by omega) (by omega) hE, hG⟩
end
end Go.Ev
namespace Go.Ev
open Go Go.RowKit
noncomputable def f5_r0 : List EOper := [⟨(some (K.ofNat 6)), none, .as (.c (.b false))⟩]
noncomputable def f5_r1 : List EOper := [⟨(some (K.ofNat 22)), none, .mv (.t (K.ofNat 0))⟩, ⟨(some (K.ofNat 23)), none, .mv (.t (K.ofNat 1))⟩, ⟨(some (K.ofNat 24)), none, .call (.c (.fn (K.ofNat 28) [])) [(.t (K.ofNat 22)), (.t (K.ofNat 23)), (.c (.i .i64 (.ofNat 10)))]⟩, ⟨(some (K.ofNat 21)), none, .mv (.t (K.ofNat 24))⟩, ⟨(some (K.ofNat 25)), none, .ext (.t (K.ofNat 21)) 0⟩, ⟨(some (K.ofNat 26)), none, .ext (.t (K.ofNat 21)) 1⟩, ⟨(some (K.ofNat 7)), none, .as (.t (K.ofNat 25))⟩, ⟨(some (K.ofNat 8)), none, .as (.t (K.ofNat 26))⟩]
noncomputable def f5_r2 : List EOper := [⟨(some (K.ofNat 27)), none, .mv (.t (K.ofNat 2))⟩, ⟨(some (K.ofNat 28)), none, .call (.c (.fn (K.ofNat 15) [])) [(.t (K.ofNat 27)), (.c (.i .i64 (.ofNat 10)))]⟩, ⟨(some (K.ofNat 9)), none, .as (.t (K.ofNat 28))⟩]
noncomputable def f5_r3 : List EOper := [⟨(some (K.ofNat 10)), none, .as (.c (.i .i64 (.ofNat 0)))⟩]
noncomputable def f5_r4 : List EOper := [⟨(some (K.ofNat 29)), none, .mv (.t (K.ofNat 10))⟩, ⟨(some (K.ofNat 30)), none, .bin .lss (.t (K.ofNat 29)) (.c (.i .i64 (.ofNat 2)))⟩]
noncomputable def f5_r5 : List EOper := [⟨(some (K.ofNat 33)), none, .mv (.t (K.ofNat 7))⟩, ⟨(some (K.ofNat 34)), none, .mv (.t (K.ofNat 8))⟩, ⟨(some (K.ofNat 35)), none, .mv (.t (K.ofNat 9))⟩, ⟨(some (K.ofNat 36)), none, .call (.c (.fn (K.ofNat 32) [])) [(.t (K.ofNat 33)), (.t (K.ofNat 34)), (.t (K.ofNat 35))]⟩, ⟨(some (K.ofNat 11)), none, .as (.t (K.ofNat 36))⟩]
noncomputable def f5_r6 : List EOper := [⟨(some (K.ofNat 38)), none, .mv (.t (K.ofNat 7))⟩, ⟨(some (K.ofNat 39)), none, .mv (.t (K.ofNat 8))⟩, ⟨(some (K.ofNat 40)), none, .mv (.t (K.ofNat 9))⟩, ⟨(some (K.ofNat 41)), none, .call (.c (.fn (K.ofNat 18) [])) [(.t (K.ofNat 38)), (.t (K.ofNat 39)), (.t (K.ofNat 40))]⟩, ⟨(some (K.ofNat 37)), none, .mv (.t (K.ofNat 41))⟩, ⟨(some (K.ofNat 42)), none, .ext (.t (K.ofNat 37)) 0⟩, ⟨(some (K.ofNat 43)), none, .ext (.t (K.ofNat 37)) 1⟩, ⟨(some (K.ofNat 12)), none, .as (.t (K.ofNat 42))⟩, ⟨(some (K.ofNat 13)), none, .as (.t (K.ofNat 43))⟩]
noncomputable def f5_r7 : List EOper := [⟨(some (K.ofNat 45)), none, .mv (.t (K.ofNat 7))⟩, ⟨(some (K.ofNat 46)), none, .mv (.t (K.ofNat 8))⟩, ⟨(some (K.ofNat 47)), none, .mv (.t (K.ofNat 9))⟩, ⟨(some (K.ofNat 48)), none, .call (.c (.fn (K.ofNat 19) [])) [(.t (K.ofNat 45)), (.t (K.ofNat 46)), (.t (K.ofNat 47))]⟩, ⟨(some (K.ofNat 44)), none, .mv (.t (K.ofNat 48))⟩, ⟨(some (K.ofNat 49)), none, .ext (.t (K.ofNat 44)) 0⟩, ⟨(some (K.ofNat 50)), none, .ext (.t (K.ofNat 44)) 1⟩, ⟨(some (K.ofNat 51)), none, .ext (.t (K.ofNat 44)) 2⟩, ⟨(some (K.ofNat 14)), none, .as (.t (K.ofNat 49))⟩, ⟨(some (K.ofNat 15)), none, .as (.t (K.ofNat 50))⟩, ⟨(some (K.ofNat 16)), none, .as (.t (K.ofNat 51))⟩]
noncomputable def f5_r8 : List EOper := [⟨(some (K.ofNat 53)), none, .mv (.t (K.ofNat 7))⟩, ⟨(some (K.ofNat 54)), none, .mv (.t (K.ofNat 8))⟩, ⟨(some (K.ofNat 55)), none, .mv (.t (K.ofNat 9))⟩, ⟨(some (K.ofNat 56)), none, .call (.c (.fn (K.ofNat 20) [])) [(.t (K.ofNat 53)), (.t (K.ofNat 54)), (.t (K.ofNat 55))]⟩, ⟨(some (K.ofNat 52)), none, .mv (.t (K.ofNat 56))⟩, ⟨(some (K.ofNat 57)), none, .ext (.t (K.ofNat 52)) 0⟩, ⟨(some (K.ofNat 58)), none, .ext (.t (K.ofNat 52)) 1⟩, ⟨(some (K.ofNat 17)), none, .as (.t (K.ofNat 57))⟩, ⟨(some (K.ofNat 18)), none, .as (.t (K.ofNat 58))⟩]
noncomputable def f5_r9 : List EOper := [⟨(some (K.ofNat 59)), none, .mv (.t (K.ofNat 13))⟩, ⟨(some (K.ofNat 60)), none, .bin .neq (.t (K.ofNat 59)) (.c (.i .i64 (.ofNat 0)))⟩, ⟨(some (K.ofNat 61)), none, .mv (.t (K.ofNat 60))⟩, ⟨(some (K.ofNat 62)), (some ((K.ofNat 61), false)), .mv (.t (K.ofNat 12))⟩, ⟨(some (K.ofNat 63)), (some ((K.ofNat 61), false)), .mv (.t (K.ofNat 11))⟩, ⟨(some (K.ofNat 64)), (some ((K.ofNat 61), false)), .eqk (.one none) true (.t (K.ofNat 62)) (.t (K.ofNat 63))⟩, ⟨(some (K.ofNat 65)), none, .pick (.t (K.ofNat 61)) (.c (.b true)) (.t (K.ofNat 64))⟩, ⟨(some (K.ofNat 66)), none, .mv (.t (K.ofNat 65))⟩, ⟨(some (K.ofNat 67)), (some ((K.ofNat 66), false)), .mv (.t (K.ofNat 16))⟩, ⟨(some (K.ofNat 68)), (some ((K.ofNat 66), false)), .bin .neq (.t (K.ofNat 67)) (.c (.i .i64 (.ofNat 0)))⟩, ⟨(some (K.ofNat 69)), none, .pick (.t (K.ofNat 66)) (.c (.b true)) (.t (K.ofNat 68))⟩]
noncomputable def f5_r10 : List EOper := [⟨(some (K.ofNat 6)), none, .as (.c (.b false))⟩]
noncomputable def f5_r11 : List EOper := [⟨(some (K.ofNat 70)), none, .mv (.t (K.ofNat 11))⟩, ⟨(some (K.ofNat 71)), none, .not (.t (K.ofNat 70))⟩]
noncomputable def f5_r12 : List EOper := [⟨(some (K.ofNat 72)), none, .mv (.t (K.ofNat 15))⟩, ⟨(some (K.ofNat 73)), none, .mv (.t (K.ofNat 72))⟩, ⟨(some (K.ofNat 74)), (some ((K.ofNat 73), false)), .mv (.t (K.ofNat 14))⟩, ⟨(some (K.ofNat 75)), (some ((K.ofNat 73), false)), .bin .neq (.t (K.ofNat 74)) (.c (.i .i64 (.ofNat 0)))⟩, ⟨(some (K.ofNat 76)), none, .pick (.t (K.ofNat 73)) (.c (.b true)) (.t (K.ofNat 75))⟩, ⟨(some (K.ofNat 77)), none, .mv (.t (K.ofNat 76))⟩, ⟨(some (K.ofNat 78)), (some ((K.ofNat 77), false)), .mv (.t (K.ofNat 18))⟩, ⟨(some (K.ofNat 79)), (some ((K.ofNat 77), false)), .bin .neq (.t (K.ofNat 78)) (.c (.i .i64 (.ofNat 1)))⟩, ⟨(some (K.ofNat 80)), none, .pick (.t (K.ofNat 77)) (.c (.b true)) (.t (K.ofNat 79))⟩, ⟨(some (K.ofNat 81)), none, .mv (.t (K.ofNat 80))⟩, ⟨(some (K.ofNat 82)), (some ((K.ofNat 81), false)), .mv (.t (K.ofNat 17))⟩, ⟨(some (K.ofNat 83)), (some ((K.ofNat 81), false)), .len (.t (K.ofNat 82))⟩, ⟨(some (K.ofNat 84)), (some ((K.ofNat 81), false)), .bin .neq (.t (K.ofNat 83)) (.c (.i .i64 (.ofNat 0)))⟩, ⟨(some (K.ofNat 85)), none, .pick (.t (K.ofNat 81)) (.c (.b true)) (.t (K.ofNat 84))⟩]
noncomputable def f5_r13 : List EOper := [⟨(some (K.ofNat 6)), none, .as (.c (.b false))⟩]
noncomputable def f5_r14 : List EOper := [⟨(some (K.ofNat 87)), none, .mv (.t (K.ofNat 8))⟩, ⟨(some (K.ofNat 88)), none, .mv (.t (K.ofNat 9))⟩, ⟨(some (K.ofNat 89)), none, .call (.c (.fn (K.ofNat 33) [])) [(.t (K.ofNat 87)), (.t (K.ofNat 88))]⟩, ⟨(some (K.ofNat 86)), none, .mv (.t (K.ofNat 89))⟩, ⟨(some (K.ofNat 90)), none, .ext (.t (K.ofNat 86)) 0⟩, ⟨(some (K.ofNat 91)), none, .ext (.t (K.ofNat 86)) 1⟩, ⟨(some (K.ofNat 19)), none, .as (.t (K.ofNat 90))⟩, ⟨(some (K.ofNat 20)), none, .as (.t (K.ofNat 91))⟩]
noncomputable def f5_r15 : List EOper := [⟨(some (K.ofNat 92)), none, .mv (.t (K.ofNat 15))⟩, ⟨(some (K.ofNat 93)), none, .mv (.t (K.ofNat 20))⟩, ⟨(some (K.ofNat 94)), none, .eqk (.one none) true (.t (K.ofNat 92)) (.t (K.ofNat 93))⟩, ⟨(some (K.ofNat 95)), none, .mv (.t (K.ofNat 94))⟩, ⟨(some (K.ofNat 96)), (some ((K.ofNat 95), false)), .mv (.t (K.ofNat 14))⟩, ⟨(some (K.ofNat 97)), (some ((K.ofNat 95), false)), .mv (.t (K.ofNat 19))⟩, ⟨(some (K.ofNat 98)), (some ((K.ofNat 95), false)), .bin .neq (.t (K.ofNat 96)) (.t (K.ofNat 97))⟩, ⟨(some (K.ofNat 99)), none, .pick (.t (K.ofNat 95)) (.c (.b true)) (.t (K.ofNat 98))⟩, ⟨(some (K.ofNat 100)), none, .mv (.t (K.ofNat 99))⟩, ⟨(some (K.ofNat 101)), (some ((K.ofNat 100), false)), .mv (.t (K.ofNat 18))⟩, ⟨(some (K.ofNat 102)), (some ((K.ofNat 100), false)), .bin .neq (.t (K.ofNat 101)) (.c (.i .i64 (.ofNat 0)))⟩, ⟨(some (K.ofNat 103)), none, .pick (.t (K.ofNat 100)) (.c (.b true)) (.t (K.ofNat 102))⟩, ⟨(some (K.ofNat 104)), none, .mv (.t (K.ofNat 103))⟩, ⟨(some (K.ofNat 105)), (some ((K.ofNat 104), false)), .mv (.t (K.ofNat 17))⟩, ⟨(some (K.ofNat 106)), (some ((K.ofNat 104), false)), .mv (.t (K.ofNat 8))⟩, ⟨(some (K.ofNat 107)), (some ((K.ofNat 104), false)), .mv (.t (K.ofNat 9))⟩, ⟨(some (K.ofNat 108)), (some ((K.ofNat 104), false)), .call (.c (.fn (K.ofNat 34) [])) [(.t (K.ofNat 106)), (.t (K.ofNat 107))]⟩, ⟨(some (K.ofNat 109)), (some ((K.ofNat 104), false)), .call (.c (.fn (K.ofNat 30) [])) [(.t (K.ofNat 105)), (.t (K.ofNat 108))]⟩, ⟨(some (K.ofNat 110)), (some ((K.ofNat 104), false)), .not (.t (K.ofNat 109))⟩, ⟨(some (K.ofNat 111)), none, .pick (.t (K.ofNat 104)) (.c (.b true)) (.t (K.ofNat 110))⟩]
noncomputable def f5_r16 : List EOper := [⟨(some (K.ofNat 6)), none, .as (.c (.b false))⟩]
noncomputable def f5_r17 : List EOper := [⟨(some (K.ofNat 112)), none, .mv (.t (K.ofNat 7))⟩, ⟨(some (K.ofNat 113)), none, .mv (.t (K.ofNat 8))⟩, ⟨(some (K.ofNat 114)), none, .mv (.t (K.ofNat 2))⟩, ⟨(some (K.ofNat 115)), none, .len (.t (K.ofNat 114))⟩, ⟨(some (K.ofNat 116)), none, .bin .rem (.t (K.ofNat 115)) (.c (.i .i64 (.ofNat 2)))⟩, ⟨(some (K.ofNat 117)), none, .bin .eql (.t (K.ofNat 116)) (.c (.i .i64 (.ofNat 0)))⟩, ⟨(some (K.ofNat 118)), none, .call (.c (.fn (K.ofNat 29) [])) [(.t (K.ofNat 112)), (.t (K.ofNat 113)), (.t (K.ofNat 117))]⟩, ⟨(some (K.ofNat 9)), none, .as (.t (K.ofNat 118))⟩]
noncomputable def f5_r18 : List EOper := [⟨(some (K.ofNat 31)), none, .mv (.t (K.ofNat 10))⟩, ⟨(some (K.ofNat 32)), none, .bin .add (.t (K.ofNat 31)) (.c (.i .i64 (.ofNat 1)))⟩, ⟨(some (K.ofNat 10)), none, .as (.t (K.ofNat 32))⟩]
noncomputable def f5_l0 : EC := (.seq (.seq (.reg f5_r4) (.cond (.t (K.ofNat 30)) .skip (.exit 0))) (.seq (.block 1 (.seq (.reg f5_r5) (.seq (.reg f5_r6) (.seq (.reg f5_r7) (.seq (.reg f5_r8) (.seq (.seq (.reg f5_r9) (.cond (.t (K.ofNat 69)) (.seq (.reg f5_r10) .ret) .skip)) (.seq (.seq (.reg f5_r11) (.cond (.t (K.ofNat 71)) (.seq (.reg f5_r12) (.cond (.t (K.ofNat 85)) (.seq (.reg f5_r13) .ret) .skip)) (.seq (.reg f5_r14) (.seq (.reg f5_r15) (.cond (.t (K.ofNat 111)) (.seq (.reg f5_r16) .ret) .skip))))) (.reg f5_r17)))))))) (.reg f5_r18)))
noncomputable def f5_r19 : List EOper := [⟨(some (K.ofNat 119)), none, .call (.c (.fn (K.ofNat 23) [])) []⟩, ⟨(some (K.ofNat 6)), none, .as (.t (K.ofNat 119))⟩]
noncomputable def f5_c : EC := (.seq (.reg f5_r0) (.seq (.reg f5_r1) (.seq (.reg f5_r2) (.seq (.seq (.reg f5_r3) (.block 0 (.loop f5_l0))) (.seq (.reg f5_r19) .ret)))))
noncomputable def f5 : EF := ⟨120, [.tmp (K.ofNat 6)], f5_c, none⟩
theorem f5_rs : f5.rs = [.tmp (K.ofNat 6)] := of_eq_true (eq_self _)
theorem slArgK_len {P : Program} {W : World} {base : Nat} {t e : TypeId} (ht : P.underlying t = some (.slice e)) {v : Value} {len : Nat} {zs : List Int} (hval : Value.okWide P W .any base t v) (hs : SlArgK 2 W v len zs) : len ≤ 9223372036854775807 := by
  rcases hs with ⟨_, rfl, _⟩ | ⟨b, off, cap, rfl, h1, _⟩
  · exact Nat.zero_le _
  · simp only [Value.okWide, ht, Cell.okWide, Cell.ok] at hval
    have h2 := hval.2.1
    have h3 : IntKind.i64.max = 9223372036854775807 := rfl
    omega
theorem pairsOf_le {len c : Nat} {zs : List Int} (h : len ≤ c) : (pairsOf len zs).length ≤ c := by
  unfold pairsOf; simpa using h
structure CallsTl (fs : T EF) : Prop extends CallsPs fs, CallsSe fs where
  c15 : fs.get (K.ofNat 15) = some f15
  c18 : fs.get (K.ofNat 18) = some f18
  c19 : fs.get (K.ofNat 19) = some f19
  c20 : fs.get (K.ofNat 20) = some f20
  c28 : fs.get (K.ofNat 28) = some f28
  c29 : fs.get (K.ofNat 29) = some f29
  c30 : fs.get (K.ofNat 30) = some f30
  c34 : fs.get (K.ofNat 34) = some f34
  aw : ∀ h P, CallP fs (.fn (K.ofNat 23) []) [] h P = P (.b true) h
section
variable {fs : T EF} {ro : Option K}
def f5_I (h : H) (v2 u : V) (m : Nat) (E : List (Int × Int)) (i : Nat) (fr : Fr) (h1 : H) : Prop := i ≤ 2 ∧ ∃ w X, Sr iE h1 w X ∧ X.length ≤ 10 ∧ Srp h1 u E ∧ Grow h.nx.nat h h1 ∧ fr.get (K.ofNat 2) = some (v2) ∧ fr.get (K.ofNat 7) = some (.i .i64 (m : Int)) ∧ fr.get (K.ofNat 8) = some (u) ∧ fr.get (K.ofNat 9) = some (w) ∧ fr.get (K.ofNat 10) = some (.i .i64 (i : Int))
theorem f5_ret {h : H} {v v2 : V} {l : List (Int × Int)} {L : List Int} {n : Int} (k : CallsTl fs) (hv : Srp h v l) (hv2 : Sr iE h v2 L) (hL : l.length ≤ 9223372036854775807) (hc : HC h) : Ret fs f5 [.i .i64 n, v, v2] h fun r h' => r = .b true ∧ Grow h.nx.nat h h' := by
  have aw := k.aw
  apply ret_of rfl
  show W fs none f5_c _ _ _
  unfold f5_c
  simp (disch := omega) only [f5_r0, f5_r1, w_reg, w_seq, seqK_n, x_nil, x_mv, x_as, x_call, ev_t, ev_c, evs_nil, evs_cons, getV_some, putD_some, frame_3, of10, getK_set, Nat.reduceEqDiff, ↓reduceIte]
  refine (callP_0 (ef := f28) k.c28 rfl (f28_ret (n := n) hv hc hL)).mono ?_
  rintro r h1 ⟨m, u, E, rfl, hu, hchk, hG1⟩
  obtain ⟨m', hm', hm2, hE⟩ := chkI_ok hchk
  obtain rfl : m = m' := by omega
  have hE10 : E.length ≤ 10 := hE.1
  have hm7 : m ≤ 7 := hE.2.1
  have hc1 := hG1.hc hc
  simp (disch := omega) only [f5_r2, w_reg, w_seq, seqK_n, x_nil, x_mv, x_as, x_ext, x_call, kx, rvP_ok, okv_some, ev_t, ev_c, evs_nil, evs_cons, getV_some, putD_some, onTup_t, nth0, nth1, of10, getK_set, Nat.reduceEqDiff, ↓reduceIte]
  refine (callP_0 (ef := f15) k.c15 rfl (f15_sr (m := 10) (hv2.grow hc hG1) hc1 (by omega))).mono ?_
  rintro w h2 ⟨hsw, _, hG2⟩
  have hG12 := hG1.trans (hG2.low hG1.nx)
  simp (disch := omega) only [f5_r3, w_reg, w_seq, w_block, seqK_n, x_nil, x_as, kx, ev_t, ev_c, getV_some, putD_some, of0, getK_set, ↓reduceIte]
  refine W_loop (f5_I h v2 u m E) (fun i => 2 - i) ?_ 0 ⟨by omega, w, _, hsw.sr, by simp; omega, hu.grow hc1 hG2, hG12, by simp (disch := omega) only [getK_set, Nat.reduceEqDiff, ↓reduceIte, and_self, Int.natCast_zero]⟩
  clear hsw hG12 hG2 hu hG1 hc1
  rintro i fr h1 ⟨hi, w, X, hw, hX, hu, hG, g2, g7, g8, g9, g10⟩
  have hc1 := hG.hc hc
  unfold f5_l0
  by_cases hlt : i < 2
  · have d0 : decide ((i : Int) < 2) = true := by simp; omega
    have ne0 : decide ((0 : Int) ≠ 0) = false := rfl
    have ne1 : decide ((1 : Int) ≠ 1) = false := rfl
    have kb : ∀ a b, keyEq (.one none) (.b a) (.b b) = some (a == b) := fun _ _ => rfl
    have bb : ∀ a : Bool, (a == a) = true := fun a => by cases a <;> rfl
    have hl2 := hv2.len
    have rest : ∀ fr h3, Grow h.nx.nat h h3 → Srp h3 u E → fr.get (K.ofNat 2) = some (v2) ∧ fr.get (K.ofNat 7) = some (.i .i64 (m : Int)) ∧ fr.get (K.ofNat 8) = some (u) ∧ fr.get (K.ofNat 10) = some (.i .i64 (i : Int)) →
        Go.Ev.X fs f5_r17 (atK 1 (seqK (W fs none (.reg f5_r18)) (loopK (f5_I h v2 u m E) (fun i => 2 - i) i (atK 0 (seqK (W fs none (.seq (.reg f5_r19) .ret)) (retK f5 fun r h' => r = .b true ∧ Grow h.nx.nat h h'))))) .normal) fr h3 := by
      clear g2 g7 g8 g9 g10 fr
      rintro fr h3 hG3 hu3 ⟨g2, g7, g8, g10⟩
      simp (disch := omega) only [f5_r17, x_mv, x_bin, x_call, x_len, kx, rvP_ok, okv_some, ev_t, ev_c, evs_nil, evs_cons, getV_some, putD_some, bin_eql, bin_rem, of0, of2, getK_set, Nat.reduceEqDiff, ↓reduceIte, g2, g7, g8, hl2]
      refine (callP_0 (ef := f29) k.c29 rfl (f29_any k.toCallsSe hE (hG3.hc hc) hu3)).mono ?_
      rintro r h4 ⟨⟨M, hM, hMl⟩, hG4⟩
      simp (disch := omega) only [f5_r18, w_reg, seqK_n, atK_n, loopK_n, x_nil, x_mv, x_as, x_bin, kx, rvP_ok, okv_some, ev_t, ev_c, getV_some, putD_some, bin_add, of1, getK_set, Nat.reduceEqDiff, ↓reduceIte, g10, fw64]
      exact ⟨i + 1, by omega, by omega, r, M, hM, by omega, hu3.grow (hG3.hc hc) hG4, hG3.trans (hG4.low hG3.nx), by simp (disch := omega) only [getK_set, Nat.reduceEqDiff, ↓reduceIte, g2, g7, g8, and_self, Int.natCast_add, Int.natCast_one]⟩
    simp (disch := omega) only [f5_r4, f5_r5, w_skip, w_reg, w_seq, w_cond, w_block, seqK_n, ckB_b, cbB_b, true_and, x_nil, x_mv, x_bin, x_call, kx, rvP_ok, okv_some, ev_t, ev_c, evs_nil, evs_cons, getV_some, putD_some, bin_lss, of2, getK_set, Nat.reduceEqDiff, ↓reduceIte, g7, g8, g9, g10, d0]
    refine (callP_0 (ef := f32) k.c32 rfl (f32_ret hu hw hc1 hE (by omega))).mono ?_
    rintro r h2 ⟨rfl, hg2⟩
    have hGa := hG.trans (hg2.low hG.nx)
    have hc2 := hg2.hc hc1
    have hu2 := hu.grow hc1 hg2
    have hw2 := hw.grow hc1 hg2
    simp (disch := omega) only [f5_r6, w_reg, w_seq, seqK_n, x_nil, x_mv, x_as, x_call, kx, ev_t, ev_c, evs_nil, evs_cons, getV_some, putD_some, getK_set, Nat.reduceEqDiff, ↓reduceIte, g7, g8, g9]
    refine (callP_0 (ef := f18) k.c18 rfl (f18_ok k.toCallsIg hu2 hw2 hc2 (by omega) hchk)).mono ?_
    rintro r h3 ⟨rfl, hg3⟩
    have hGb := hGa.trans (hg3.low hGa.nx)
    have hc3 := hg3.hc hc2
    have hu3 := hu2.grow hc2 hg3
    have hw3 := hw2.grow hc2 hg3
    simp (disch := omega) only [f5_r7, w_reg, w_seq, seqK_n, x_nil, x_mv, x_as, x_ext, x_call, kx, rvP_ok, okv_some, ev_t, ev_c, evs_nil, evs_cons, getV_some, putD_some, onTup_t, nth0, nth1, getK_set, Nat.reduceEqDiff, ↓reduceIte, g7, g8, g9]
    refine (callP_0 (ef := f19) k.c19 rfl (f19_ok k.toCallsPs hu3 hw3 hc3 (by omega) hchk)).mono ?_
    rintro r h4 ⟨rfl, hg4⟩
    have hGc := hGb.trans (hg4.low hGb.nx)
    have hc4 := hg4.hc hc3
    have hu4 := hu3.grow hc3 hg4
    have hw4 := hw3.grow hc3 hg4
    simp (disch := omega) only [f5_r8, w_reg, w_seq, seqK_n, x_nil, x_mv, x_as, x_ext, x_call, kx, rvP_ok, okv_some, ev_t, ev_c, evs_nil, evs_cons, getV_some, putD_some, onTup_t, nth0, nth1, nth2, getK_set, Nat.reduceEqDiff, ↓reduceIte, g7, g8, g9]
    cases hg : grB (m : Int) E X with
    | false =>
      refine (callP_0 (ef := f20) k.c20 rfl (f20_no k.toCallsIg hu4 hw4 hc4 (by omega) hchk hg)).mono ?_
      rintro r h5 ⟨rfl, hg5⟩
      have hGd := hGc.trans (hg5.low hGc.nx)
      have hu5 := hu4.grow hc4 hg5
      have l0 : ∀ h1, lenV .sn h1 = .ok (.i .i64 0) h1 := fun _ => rfl
      simp (disch := omega) only [f5_r9, f5_r11, f5_r12, w_skip, w_reg, w_seq, w_cond, seqK_n, ckB_b, cbB_b, okG_b, asG_f, true_and, x_nil, x_g, x_mv, x_as, x_pick, x_bin, x_eqk, x_not, x_ext, x_len, kx, rvP_ok, okv_some, ev_t, ev_c, getV_some, putD_some, bin_neq, pick_b, onB_b, onTup_t, oGet_s, nth0, nth1, of0, of1, getK_set, Nat.reduceEqDiff, ↓reduceIte, Bool.false_eq_true, Bool.not_true, Bool.not_false, Bool.false_and, Bool.false_eq_true, ne0, ne1, kb, bb, cond_true, Bool.not_false, l0]
      exact rest _ _ hGd hu5 (by simp (disch := omega) only [getK_set, Nat.reduceEqDiff, ↓reduceIte, g2, g7, g8, g10, and_self])
    | true =>
      obtain ⟨hXm, hlin⟩ := gr_labs hg
      refine (callP_0 (ef := f20) k.c20 rfl (f20_ok k.toCallsIg hu4 hw4 hc4 (by omega) hchk hg)).mono ?_
      rintro r h5 ⟨t, rfl, hst, _, hg5⟩
      have hGd := hGc.trans (hg5.low hGc.nx)
      have hc5 := hg5.hc hc4
      have hu5 := hu4.grow hc4 hg5
      have hw5 := hw4.grow hc4 hg5
      simp (disch := omega) only [f5_r9, f5_r11, f5_r14, w_skip, w_reg, w_seq, w_cond, seqK_n, ckB_b, cbB_b, okG_b, asG_f, true_and, x_nil, x_g, x_mv, x_as, x_pick, x_bin, x_eqk, x_not, x_ext, x_call, kx, rvP_ok, okv_some, ev_t, ev_c, evs_nil, evs_cons, getV_some, putD_some, bin_neq, pick_b, onB_b, onTup_t, oGet_s, nth0, nth1, of0, getK_set, Nat.reduceEqDiff, ↓reduceIte, Bool.false_eq_true, Bool.not_true, Bool.not_false, g8, g9, Bool.true_and, ne0, kb, bb, cond_true, Bool.not_true]
      refine (callP_0 (ef := f33) k.c33 rfl (f33_ret hu5 hw5 hE hXm)).mono ?_
      rintro r h6 ⟨rfl, rfl⟩
      have nek : decide ((prtO E X).getD 0 ≠ (prtO E X).getD 0) = false := by simp
      simp (disch := omega) only [f5_r15, w_reg, w_seq, seqK_n, okG_b, asG_f, true_and, x_nil, x_g, x_mv, x_as, x_pick, x_bin, x_eqk, x_ext, x_call, kx, rvP_ok, okv_some, ev_t, ev_c, evs_nil, evs_cons, getV_some, putD_some, bin_neq, pick_b, onTup_t, oGet_s, nth0, nth1, of0, getK_set, Nat.reduceEqDiff, ↓reduceIte, Bool.false_eq_true, Bool.not_true, Bool.not_false, g8, g9, ne0, kb, bb, cond_true, Bool.not_true, nek]
      refine (callP_0 (ef := f34) k.c34 rfl (f34_ret hu5 hw5 hc5 hE10 hlin (by omega))).mono ?_
      rintro t2 h7 ⟨hst2, _, hg7⟩
      have hGe := hGd.trans (hg7.low hGd.nx)
      simp (disch := omega) only [okG_b, asG_f, true_and, x_g, x_call, kx, ev_t, ev_c, evs_nil, evs_cons, getV_some, putD_some, getK_set, Nat.reduceEqDiff, ↓reduceIte, Bool.not_false]
      refine (callP_0 (ef := f30) k.c30 rfl (f30_same (hst.grow hc5 hg7).sr hst2.sr (by simp [turnL]; omega))).mono ?_
      rintro r h8 ⟨rfl, rfl⟩
      simp (disch := omega) only [w_skip, w_reg, w_cond, seqK_n, ckB_b, cbB_b, okG_b, asG_f, true_and, x_nil, x_g, x_pick, x_not, kx, rvP_ok, ev_t, ev_c, getV_some, putD_some, pick_b, onB_b, getK_set, Nat.reduceEqDiff, ↓reduceIte, Bool.false_eq_true, Bool.not_true, Bool.not_false, Bool.not_true]
      exact rest _ _ hGe (hu5.grow hc5 hg7) (by simp (disch := omega) only [getK_set, Nat.reduceEqDiff, ↓reduceIte, g2, g7, g8, g10, and_self])
  · have d0 : decide ((i : Int) < 2) = false := by simp; omega
    simp (disch := omega) only [f5_r4, f5_r19, f5_rs, w_reg, w_seq, w_cond, w_exit, w_ret, seqK_n, seqK_e, atK_e, loopK_e, ckB_b, cbB_b, true_and, retK_r, x_nil, x_mv, x_as, x_bin, x_call, kx, rvP_ok, okv_some, ev_t, ev_c, evs_nil, getV_some, putD_some, bin_lss, oGet_s, readRs_nil, readRs_t, retV_1, of2, Option.some.injEq, exists_eq_left', getK_set, ↓reduceIte, Bool.false_eq_true, g10, d0, aw, true_and]
    exact hG
end
end Go.Ev
