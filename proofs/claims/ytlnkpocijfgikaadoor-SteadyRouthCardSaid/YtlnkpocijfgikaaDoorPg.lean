/-
  Steady: determinants and minors, of the program and of the reference., and what follows.
-/
import Derived.Test.YtlnkpocijfgikaaDoorPd
import Derived.Test.YtlnkpocijfgikaaDoorPf
namespace Go.Ev
open Go Go.RowKit
noncomputable def f87_r0 : List EOper := [oG 6 (.as (cG 0))]
noncomputable def f87_r1 : List EOper := [oG 8 (.ld (tG 2)), oG 9 (.mv (tG 1)), oG 10 (.bin .mul (cG 2) (tG 9)), oG 11 (.bin .sub (tG 8) (tG 10)), oG 12 (.mv (tG 0)), oG 13 (.bin .add (tG 11) (tG 12)), oG 14 (.bin .sub (tG 13) (cG 1)), oG 7 (.as (tG 14))]
noncomputable def f87_r2 : List EOper := [oG 15 (.mv (tG 7)), oG 16 (.bin .lss (tG 15) (cG 0)), oG 17 (.mv (tG 16)), gG 18 17 false (.mv (tG 7)), gG 19 17 false (.ld (tG 2)), gG 20 17 false (.bin .gtr (tG 18) (tG 19)), oG 21 (.pick (tG 17) (.c (.b true)) (tG 20))]
noncomputable def f87_r3 : List EOper := [oG 6 (.as (cG 0))]
noncomputable def f87_r4 : List EOper := [oG 22 (.ld (tG 3)), oG 23 (.mv (tG 7)), oG 24 (.iads 1 (tG 22) (tG 23)), oG 25 (.ld (tG 24)), oG 6 (.as (tG 25))]
noncomputable def f87_c : EC := (.seq (.reg f87_r0) (.seq (.reg f87_r1) (.seq (.seq (.reg f87_r2) (.cond (tG 21) (.seq (.reg f87_r3) .ret) .skip)) (.seq (.reg f87_r4) .ret))))
noncomputable def f87 : EF := ⟨26, [.tmp (.ofNat 6)], f87_c, none⟩
theorem f87_rs : f87.rs = [.tmp (.ofNat 6)] := of_eq_true (eq_self _)
noncomputable def f99_r0 : List EOper := [oG 7 (.as (cG 0))]
noncomputable def f99_r1 : List EOper := [oG 11 (.mv (tG 0)), oG 12 (.ld (tG 2)), oG 13 (.bin .eql (tG 11) (tG 12))]
noncomputable def f99_r2 : List EOper := [oG 7 (.as (cG 1))]
noncomputable def f99_r3 : List EOper := [oG 8 (.as (cG 0))]
noncomputable def f99_r4 : List EOper := [oG 14 (.mv (cG 1)), oG 9 (.as (tG 14))]
noncomputable def f99_r5 : List EOper := [oG 15 (.ld (tG 2)), oG 16 (.mv (cG 0))]
noncomputable def f99_r6 : List EOper := [oG 17 (.bin .lss (tG 16) (tG 15))]
noncomputable def f99_r7 : List EOper := [oG 18 (.mv (tG 16)), oG 10 (.as (tG 18))]
noncomputable def f99_r8 : List EOper := [oG 19 (.mv (tG 1)), oG 20 (.mv (tG 10)), oG 21 (.bin .shr (tG 19) (tG 20)), oG 22 (.bin .and (tG 21) (.c (.i .u64 (.ofNat 1)))), oG 23 (.bin .eql (tG 22) (.c (.i .u64 (.ofNat 0))))]
noncomputable def f99_r9 : List Stage := [⟨[oG 24 (.mv (tG 8)), oG 25 (.mv (tG 9)), oG 26 (.ld (tG 3)), oG 27 (.mv (tG 0)), oG 28 (.mv (tG 10)), oG 31 (.ld (tG 4)), oG 32 (.mv (tG 0)), oG 33 (.bin .add (tG 32) (cG 1)), oG 34 (.mv (tG 1)), oG 35 (.mv (tG 10)), oG 36 (.bin .shl (.c (.i .u64 (.ofNat 1))) (tG 35)), oG 37 (.bin .or (tG 34) (tG 36))], [], (some (oG 29 (.call (tG 26) [(tG 27), (tG 28)]))), []⟩, ⟨[oG 30 (.bin .mul (tG 25) (tG 29))], [oG 24 (.mv (tG 8)), oG 25 (.mv (tG 9)), oG 31 (.ld (tG 4)), oG 32 (.mv (tG 0)), oG 33 (.bin .add (tG 32) (cG 1)), oG 34 (.mv (tG 1)), oG 35 (.mv (tG 10)), oG 36 (.bin .shl (.c (.i .u64 (.ofNat 1))) (tG 35)), oG 37 (.bin .or (tG 34) (tG 36))], (some (oG 38 (.call (tG 31) [(tG 33), (tG 37)]))), []⟩, ⟨[oG 39 (.bin .mul (tG 30) (tG 38)), oG 40 (.bin .add (tG 24) (tG 39))], [oG 24 (.mv (tG 8)), oG 25 (.mv (tG 9)), oG 30 (.bin .mul (tG 25) (tG 29))], (some (oG 8 (.as (tG 40)))), []⟩, ⟨[], [], none, []⟩]
noncomputable def f99_r10 : List EOper := [oG 41 (.mv (tG 9)), oG 42 (.neg (tG 41)), oG 9 (.as (tG 42))]
noncomputable def f99_r11 : List EOper := [oG 43 (.bin .add (tG 16) (cG 1)), oG 16 (.mv (tG 43))]
noncomputable def f99_l0 : EC := (.seq (.reg f99_r6) (.seq (.cond (tG 17) .skip (.exit 0)) (.seq (.block 1 (.seq (.reg f99_r7) (.seq (.reg f99_r8) (.cond (tG 23) (.seq (.draw f99_r9) (.reg f99_r10)) .skip)))) (.reg f99_r11))))
noncomputable def f99_r12 : List EOper := [oG 44 (.mv (tG 8)), oG 7 (.as (tG 44))]
noncomputable def f99_c : EC := (.seq (.reg f99_r0) (.seq (.seq (.reg f99_r1) (.cond (tG 13) (.seq (.reg f99_r2) .ret) .skip)) (.seq (.reg f99_r3) (.seq (.reg f99_r4) (.seq (.seq (.reg f99_r5) (.block 0 (.loop f99_l0))) (.seq (.reg f99_r12) .ret))))))
noncomputable def f99 : EF := ⟨45, [.tmp (.ofNat 7)], f99_c, none⟩
theorem f99_rs : f99.rs = [.tmp (.ofNat 7)] := of_eq_true (eq_self _)
noncomputable def f88_r0 : List EOper := [oG 2 (.box 1 (tG 0)), oG 3 (.box 1 (tG 1)), oG 4 (.as (cG 0))]
noncomputable def f88_r1 : List EOper := [oG 5 (.alloc 1 [.fnil])]
noncomputable def f88_r2 : List EOper := [oG 6 (.mkfn (.ofNat 99) [(tG 2), (tG 3), (tG 5)]), ⟨none, none, .st 1 (tG 5) (tG 6)⟩]
noncomputable def f88_r3 : List EOper := [oG 7 (.ld (tG 5)), oG 8 (.call (tG 7) [(cG 0), (.c (.i .u64 (.ofNat 0)))]), oG 4 (.as (tG 8))]
noncomputable def f88_c : EC := (.seq (.reg f88_r0) (.seq (.reg f88_r1) (.seq (.reg f88_r2) (.seq (.reg f88_r3) .ret))))
noncomputable def f88 : EF := ⟨9, [.tmp (.ofNat 4)], f88_c, none⟩
theorem f88_rs : f88.rs = [.tmp (.ofNat 4)] := of_eq_true (eq_self _)
noncomputable def f57_r0 : List EOper := [oG 1 (.box 1 (tG 0)), oG 2 (.as (.c .sn))]
noncomputable def f57_r1 : List EOper := [oG 7 (.ld (tG 1)), oG 8 (.len (tG 7)), oG 9 (.bin .sub (tG 8) (cG 1)), oG 3 (.alloc 1 [(.i .i64 (.ofNat 0))]), ⟨none, none, .st 1 (tG 3) (tG 9)⟩]
noncomputable def f57_r2 : List EOper := [oG 10 (.mkfn (.ofNat 87) [(tG 3), (tG 1)]), oG 4 (.as (tG 10))]
noncomputable def f57_r3 : List EOper := [oG 11 (.ld (tG 3)), oG 12 (.mkslice 1 [(.i .i64 (.ofNat 0))] (tG 11)), oG 5 (.as (tG 12))]
noncomputable def f57_r4 : List EOper := [oG 13 (.mv (tG 5)), oG 14 (.len (tG 13)), oG 15 (.mv (cG 0))]
noncomputable def f57_r5 : List EOper := [oG 16 (.bin .lss (tG 15) (tG 14))]
noncomputable def f57_r6 : List EOper := [oG 17 (.mv (tG 15)), oG 6 (.as (tG 17))]
noncomputable def f57_r7 : List EOper := [oG 18 (.mv (tG 5)), oG 19 (.mv (tG 6)), oG 20 (.mv (tG 6)), oG 21 (.bin .add (tG 20) (cG 1)), oG 22 (.mv (tG 4)), oG 23 (.call (fG 88) [(tG 21), (tG 22)]), oG 24 (.iads 1 (tG 18) (tG 19)), ⟨none, none, .st 1 (tG 24) (tG 23)⟩]
noncomputable def f57_r8 : List EOper := [oG 25 (.bin .add (tG 15) (cG 1)), oG 15 (.mv (tG 25))]
noncomputable def f57_l0 : EC := (.seq (.reg f57_r5) (.seq (.cond (tG 16) .skip (.exit 0)) (.seq (.block 1 (.seq (.reg f57_r6) (.reg f57_r7))) (.reg f57_r8))))
noncomputable def f57_r9 : List EOper := [oG 26 (.mv (tG 5)), oG 2 (.as (tG 26))]
noncomputable def f57_c : EC := (.seq (.reg f57_r0) (.seq (.reg f57_r1) (.seq (.reg f57_r2) (.seq (.reg f57_r3) (.seq (.seq (.reg f57_r4) (.block 0 (.loop f57_l0))) (.seq (.reg f57_r9) .ret))))))
noncomputable def f57 : EF := ⟨27, [.tmp (.ofNat 2)], f57_c, none⟩
theorem f57_rs : f57.rs = [.tmp (.ofNat 2)] := of_eq_true (eq_self _)
theorem shl_u8 {n : Nat} (hn : n ≤ 8) : binV .shl (.i .u64 1) (.i .i64 (n : Int)) = some (.i .u64 ((2 ^ n : Nat) : Int)) := by
  have h2 : 2 ^ n ≤ 256 := Nat.pow_le_pow_right (by omega) hn
  have h3 : ((2 ^ n : Nat) : Int) ≤ 256 := Int.ofNat_le.2 h2
  rw [bin_shl (by omega), show min (n : Int).toNat (IntKind.bits .u64) = n by show min (n : Int).toNat 64 = n; omega, Int.one_mul, show (2 : Int) ^ n = ((2 ^ n : Nat) : Int) by simp]
  rw [fwu64 (Int.natCast_nonneg _) (by omega)]
theorem shr_8 {k : IntKind} {t n : Nat} (hk : 64 ≤ k.bits) (hn : n ≤ 8) : binV .shr (.i k (t : Int)) (.i .i64 (n : Int)) = some (.i k ((t / 2 ^ n : Nat) : Int)) := by
  rw [bin_shr, Nat.min_eq_left (by omega)]
theorem and_u1 {m : Nat} (hm : m ≤ 1000) : binV .and (.i .u64 (m : Int)) (.i .u64 1) = some (.i .u64 ((m % 2 : Nat) : Int)) := by
  have := bin_and (k := .u64) (m := m) (n := 1) (by show _ ≤ 18446744073709551615; omega) (by show _ ≤ 18446744073709551615; omega)
  rw [Nat.and_one_is_mod] at this
  exact this
theorem or_u {m n : Nat} (hm : m ≤ 1000) (hn : n ≤ 1000) : binV .or (.i .u64 (m : Int)) (.i .u64 (n : Int)) = some (.i .u64 ((m ||| n : Nat) : Int)) := bin_or (by show _ ≤ 18446744073709551615; omega) (by show _ ≤ 18446744073709551615; omega)
theorem beq_f3 {f a b q : K} {c d g : Nat} : beqV (.fn f [.p a c, .p b d, .p q g]) (.fn f [.p a c, .p b d, .p q g]) = true := by
  show (f.beq f && ((a.beq a && Nat.beq c c) && ((b.beq b && Nat.beq d d) && ((q.beq q && Nat.beq g g) && true)))) = true
  simp [K.beq_refl]
section
variable {fs : T EF} {h : H} {v w : V} {A B L : List Int}
structure ElM (h : H) (idn ida : K) (va : V) (A : List Int) : Prop where
  n : h.get idn = .cells 1 [.i .i64 ((A.length : Int) - 1)]
  a : h.get ida = .cells 1 [va]
  s : Sr iE h va A
theorem ElM.grow {h' : H} {idn ida : K} {va : V} (m : ElM h idn ida va A) (hc : HC h) (g : Grow h.nx.nat h h') : ElM h' idn ida va A := by
  obtain ⟨n, a, s⟩ := m
  exact ⟨(g.old _ (hc.cells n)).trans n, (g.old _ (hc.cells a)).trans a, s.grow hc g⟩
theorem f87_ret {idn ida : K} {va : V} {r c : Nat} (m : ElM h idn ida va A) (hA : A.length ≤ 1000) (hr : r ≤ 1000) (hcc : c ≤ 1000) : Ret fs f87 [.i .i64 (r : Int), .i .i64 (c : Int), .p idn 0, .p ida 0] h fun x h' => x = .i .i64 (elN A r c) ∧ h' = h := by
  obtain ⟨en, ea, sa⟩ := m
  have ln : loadV h (.p idn 0) one? = .ok (.i .i64 ((A.length : Int) - 1)) h := load_p en rfl
  have la : loadV h (.p ida 0) one? = .ok va h := load_p ea rfl
  apply ret_of rfl
  show W fs none f87_c _ _ _
  unfold f87_c elN
  generalize hx : (A.length : Int) - 1 - 2 * (c : Int) + (r : Int) - 1 = x
  have b1 : fw .i64 (2 * (c : Int)) = 2 * (c : Int) := fw64 (by omega) (by omega)
  have b2 : fw .i64 ((A.length : Int) - 1 - 2 * (c : Int)) = (A.length : Int) - 1 - 2 * (c : Int) := fw64 (by omega) (by omega)
  have b3 : fw .i64 ((A.length : Int) - 1 - 2 * (c : Int) + (r : Int)) = (A.length : Int) - 1 - 2 * (c : Int) + (r : Int) := fw64 (by omega) (by omega)
  have b4 : fw .i64 ((A.length : Int) - 1 - 2 * (c : Int) + (r : Int) - 1) = x := by rw [fw64 (by omega) (by omega), hx]
  by_cases h1 : x < 0
  · have d1 : decide (x < 0) = true := decide_eq_true h1
    rw [if_pos (.inl h1)]
    simp (disch := omega) only [f87_r0, f87_r1, f87_r2, f87_r3, f87_rs, frame_4, Option.some.injEq, exists_eq_left', Nat.reduceEqDiff, ↓reduceIte, Bool.false_eq_true, Bool.not_true, ln, b1, b2, b3, b4, d1, and_self, bz]
  · have d1 : decide (x < 0) = false := decide_eq_false h1
    by_cases h2 : x > (A.length : Int) - 1
    · have d2 : decide (x > (A.length : Int) - 1) = true := decide_eq_true h2
      rw [if_pos (.inr h2)]
      simp (disch := omega) only [f87_r0, f87_r1, f87_r2, f87_r3, f87_rs, frame_4, Option.some.injEq, exists_eq_left', Nat.reduceEqDiff, ↓reduceIte, Bool.false_eq_true, Bool.not_false, ln, b1, b2, b3, b4, d1, d2, and_self, bz]
    · have d2 : decide (x > (A.length : Int) - 1) = false := decide_eq_false h2
      rw [if_neg (by omega)]
      obtain ⟨y, rfl⟩ : ∃ y : Nat, x = y := ⟨x.toNat, by omega⟩
      have hy : y < A.length := by omega
      obtain ⟨p, p1, p2⟩ := sa.at y hy
      have p2 : loadV h p one? = .ok (.i .i64 A[y]) h := p2
      have e2 : A.getD (y : Int).toNat 0 = A[y] := by rw [Int.toNat_natCast, getD_lt hy]
      rw [e2]
      simp (disch := omega) only [f87_r0, f87_r1, f87_r2, f87_r4, f87_rs, frame_4, Option.some.injEq, exists_eq_left', Nat.reduceEqDiff, ↓reduceIte, Bool.false_eq_true, Bool.not_false, ln, la, b1, b2, b3, b4, d1, d2, p1, p2, and_self, bz]
structure BlM (h : H) (ids ide idb : K) (s : Nat) (g : V) : Prop where
  s : h.get ids = .cells 1 [.i .i64 (s : Int)]
  el : h.get ide = .cells 1 [g]
  b : h.get idb = .cells 1 [.fn (K.ofNat 99) [.p ids 0, .p ide 0, .p idb 0]]
def f99_I (h0 : H) (ids ide idb : K) (s row t : Nat) (B E : Nat → Int) (c : Nat) (fr : Fr) (h1 : H) : Prop := c ≤ s ∧ h1 = h0 ∧ fr.get (K.ofNat 0) = some (.i .i64 (row : Int)) ∧ fr.get (K.ofNat 1) = some (.i .u64 (t : Int)) ∧ fr.get (K.ofNat 2) = some (.p ids 0) ∧ fr.get (K.ofNat 3) = some (.p ide 0) ∧ fr.get (K.ofNat 4) = some (.p idb 0) ∧ fr.get (K.ofNat 8) = some (.i .i64 ((((List.range c).filter fun c => !t.testBit c).foldl (dstep B E) (0, 1)).1)) ∧ fr.get (K.ofNat 9) = some (.i .i64 ((((List.range c).filter fun c => !t.testBit c).foldl (dstep B E) (0, 1)).2)) ∧ fr.get (K.ofNat 15) = some (.i .i64 (s : Int)) ∧ fr.get (K.ofNat 16) = some (.i .i64 (c : Int))
theorem f99_ret {ids ide idb : K} {s : Nat} {g : V} {el : Nat → Nat → Int} (h99 : fs.get (.ofNat 99) = some f99) (m : BlM h ids ide idb s g) (hs : s ≤ 8) (hg : ∀ r c : Nat, r ≤ 8 → c ≤ 8 → ∀ P, CallP fs g [.i .i64 (r : Int), .i .i64 (c : Int)] h P = P (.i .i64 (el r c)) h) :
    ∀ d row t : Nat, row + d = s → t < 2 ^ s → Ret fs f99 [.i .i64 (row : Int), .i .u64 (t : Int), .p ids 0, .p ide 0, .p idb 0] h fun x h' => x = .i .i64 (detL el d row (remT s t)) ∧ h' = h := by
  have ls : loadV h (.p ids 0) one? = .ok (.i .i64 (s : Int)) h := load_p m.s rfl
  have le : loadV h (.p ide 0) one? = .ok g h := load_p m.el rfl
  have lb : loadV h (.p idb 0) one? = .ok (.fn (K.ofNat 99) [.p ids 0, .p ide 0, .p idb 0]) h := load_p m.b rfl
  have hp : (2 : Nat) ^ s ≤ 256 := Nat.pow_le_pow_right (n := 2) (by omega) hs
  intro d
  induction d with
  | zero =>
    intro row t hd _
    have d1 : decide ((row : Int) = (s : Int)) = true := decide_eq_true (by omega)
    apply ret_of rfl
    show W fs none f99_c _ _ _
    unfold f99_c detL
    simp (disch := omega) only [f99_r0, f99_r1, f99_r2, f99_rs, Option.some.injEq, exists_eq_left', Nat.reduceEqDiff, ↓reduceIte, frame_5, ls, d1, and_self, bz]
  | succ d ih =>
    intro row t hd ht
    have d1 : decide ((row : Int) = (s : Int)) = false := decide_eq_false (by omega)
    have hcall : ∀ c, c < s → ∀ P, CallP fs (.fn (K.ofNat 99) [.p ids 0, .p ide 0, .p idb 0]) [.i .i64 ((row + 1 : Nat) : Int), .i .u64 ((t ||| 2 ^ c : Nat) : Int)] h P = P (.i .i64 (detL el d (row + 1) ((remT s t).filter fun x => decide (x ≠ c)))) h := fun c hcs P => by
      refine callP_eq2 (callP_of h99 rfl ?_)
      rw [cat_eq, ← remT_or]
      exact ih (row + 1) (t ||| 2 ^ c) (by omega) (Nat.or_lt_two_pow ht (Nat.pow_lt_pow_right (by omega) hcs))
    apply ret_of rfl
    show W fs none f99_c _ _ _
    unfold f99_c
    simp (disch := omega) only [f99_r0, f99_r1, f99_r3, f99_r4, f99_r5, Nat.reduceEqDiff, ↓reduceIte, Bool.false_eq_true, frame_5, ls, d1, bz]
    refine W_loop (f99_I h ids ide idb s row t (fun c => detL el d (row + 1) ((remT s t).filter fun x => decide (x ≠ c))) (el row)) (fun c => s - c) ?_ 0 ⟨Nat.zero_le _, rfl, by simp (disch := omega) only [getK_set, Nat.reduceEqDiff, ↓reduceIte, and_self, Int.natCast_zero, List.range_zero, List.filter_nil, List.foldl_nil]⟩
    rintro c fr h1 ⟨hcs, rfl, g0, g1, g2, g3, g4, g8, g9, g15, g16⟩
    unfold f99_l0
    by_cases hlt : c < s
    · have d2 : decide ((c : Int) < (s : Int)) = true := decide_eq_true (by omega)
      have hsh := shr_8 (k := .u64) (t := t) (n := c) (Nat.le_refl _) (by omega)
      have hq : t / 2 ^ c ≤ 1000 := Nat.le_trans (Nat.div_le_self _ _) (by omega)
      have hand := and_u1 hq
      rw [testBit_mod] at hand
      have hf := rng_filter (p := fun c => !t.testBit c) (c := c)
      generalize hst : ((List.range c).filter fun c => !t.testBit c).foldl (dstep (fun c => detL el d (row + 1) ((remT s t).filter fun x => decide (x ≠ c))) (el row)) (0, 1) = st at *
      cases hb : t.testBit c with
      | true =>
        rw [hb] at hand hf
        have hf : (List.range (c + 1)).filter (fun c => !t.testBit c) = (List.range c).filter fun c => !t.testBit c := by simpa using hf
        have hand : binV .and (.i .u64 ((t / 2 ^ c : Nat) : Int)) (.i .u64 1) = some (.i .u64 1) := by rw [hand]; rfl
        have d3 : decide ((1 : Int) = 0) = false := rfl
        simp (disch := omega) only [f99_r6, f99_r7, f99_r8, f99_r11, Nat.reduceEqDiff, ↓reduceIte, Bool.false_eq_true, g1, g15, g16, d2, hsh, hand, d3, fw64, bz]
        exact ⟨c + 1, by omega, by omega, rfl, by rw [hf, hst]; simp (disch := omega) only [getK_set, Nat.reduceEqDiff, ↓reduceIte, g0, g1, g2, g3, g4, g8, g9, g15, and_self, Int.natCast_add, Int.natCast_one]⟩
      | false =>
        rw [hb] at hand hf
        have hf : (List.range (c + 1)).filter (fun c => !t.testBit c) = ((List.range c).filter fun c => !t.testBit c) ++ [c] := by simpa using hf
        have hand : binV .and (.i .u64 ((t / 2 ^ c : Nat) : Int)) (.i .u64 1) = some (.i .u64 0) := by rw [hand]; rfl
        have d3 : decide ((0 : Int) = 0) = true := rfl
        have hshl := shl_u8 (n := c) (by omega)
        have h2c : (2 : Nat) ^ c ≤ 256 := Nat.pow_le_pow_right (n := 2) (by omega) (show c ≤ 8 by omega)
        have hor := or_u (m := t) (n := 2 ^ c) (by omega) (by omega)
        have hgc := hg row c (by omega) (by omega)
        have hcc := hcall c hlt
        have er : (row : Int) + 1 = ((row + 1 : Nat) : Int) := by omega
        have hnew : ((List.range (c + 1)).filter fun c => !t.testBit c).foldl (dstep (fun c => detL el d (row + 1) ((remT s t).filter fun x => decide (x ≠ c))) (el row)) (0, 1) = (fw .i64 (st.1 + fw .i64 (fw .i64 (st.2 * el row c) * detL el d (row + 1) ((remT s t).filter fun x => decide (x ≠ c)))), fw .i64 (0 - st.2)) := by
          rw [hf, List.foldl_append, hst]; rfl
        generalize detL el d (row + 1) ((remT s t).filter fun x => decide (x ≠ c)) = D at *
        simp (disch := omega) only [f99_r6, f99_r7, f99_r8, f99_r9, f99_r10, f99_r11, xg_ld, stay_ld, stay_bin, Nat.reduceEqDiff, ↓reduceIte, decide_eq_true_eq, g0, g1, g3, g4, g8, g9, g15, g16, d2, hsh, hand, le, lb, hshl, hor, er, fw64, hgc, hcc, beq_f3, isub_eq, bz]
        exact ⟨c + 1, by omega, by omega, rfl, by rw [hnew]; simp (disch := omega) only [getK_set, Nat.reduceEqDiff, ↓reduceIte, g0, g1, g2, g3, g4, g15, and_self, Int.natCast_add, Int.natCast_one]⟩
    · have d2 : decide ((c : Int) < (s : Int)) = false := decide_eq_false (by omega)
      obtain rfl : c = s := by omega
      simp (disch := omega) only [f99_r6, f99_r12, f99_rs, Option.some.injEq, exists_eq_left', Nat.reduceEqDiff, ↓reduceIte, Bool.false_eq_true, g8, g15, g16, d2, and_true, bz]
      rfl
theorem f88_ret {s : Nat} {g : V} {el : Nat → Nat → Int} (h99 : fs.get (.ofNat 99) = some f99) (h1g : cellsN 1 g = some [g]) (hs : s ≤ 8) (hg : ∀ h', Grow h.nx.nat h h' → ∀ r c : Nat, r ≤ 8 → c ≤ 8 → ∀ P, CallP fs g [.i .i64 (r : Int), .i .i64 (c : Int)] h' P = P (.i .i64 (el r c)) h') :
    Ret fs f88 [.i .i64 (s : Int), g] h fun x h' => x = .i .i64 (detL el s 0 (List.range s)) ∧ Grow h.nx.nat h h' := by
  apply ret_of rfl
  show W fs none f88_c _ _ _
  unfold f88_c
  have n1 := nx_new h (.cells 1 [.i .i64 (s : Int)])
  have gA := Grow.new (Nat.le_refl h.nx.nat) (.cells 1 [.i .i64 (s : Int)])
  have e1 : (h.new (.cells 1 [.i .i64 (s : Int)])).get h.nx = .cells 1 [.i .i64 (s : Int)] := get_new_same
  simp (disch := omega) only [f88_r0, f88_r1, Nat.reduceEqDiff, ↓reduceIte, h1g, bz]
  generalize h.new (.cells 1 [.i .i64 (s : Int)]) = hA at *
  have n2 := nx_new hA (.cells 1 [g])
  have gB := Grow.new (Nat.le_refl hA.nx.nat) (.cells 1 [g])
  have e2 : (hA.new (.cells 1 [g])).get hA.nx = .cells 1 [g] := get_new_same
  have e1' : (hA.new (.cells 1 [g])).get h.nx = .cells 1 [.i .i64 (s : Int)] := (get_new_old (by omega)).trans e1
  generalize hA.new (.cells 1 [g]) = hB at *
  have n3 := nx_new hB (.cells 1 [.fnil])
  have gC := Grow.new (Nat.le_refl hB.nx.nat) (.cells 1 [.fnil])
  have e3 : (hB.new (.cells 1 [.fnil])).get hB.nx = .cells 1 [.fnil] := get_new_same
  have e2' : (hB.new (.cells 1 [.fnil])).get hA.nx = .cells 1 [g] := (get_new_old (by omega)).trans e2
  have e1'' : (hB.new (.cells 1 [.fnil])).get h.nx = .cells 1 [.i .i64 (s : Int)] := (get_new_old (by omega)).trans e1'
  generalize hB.new (.cells 1 [.fnil]) = hC at *
  have hst : storeV hC 1 (.p hB.nx 0) (.fn (K.ofNat 99) [.p h.nx 0, .p hA.nx 0, .p hB.nx 0]) = .ok undefV (hC.put hB.nx (.cells 1 [.fn (K.ofNat 99) [.p h.nx 0, .p hA.nx 0, .p hB.nx 0]])) := by
    rw [store_p (m := 1) (cs := [.fnil]) (xs := [.fn (K.ofNat 99) [.p h.nx 0, .p hA.nx 0, .p hB.nx 0]]) e3 rfl (by omega)]; rfl
  have gD := Grow.put (b := h.nx.nat) (h := hC) (k := hB.nx) (by omega) (by omega) (.cells 1 [.fn (K.ofNat 99) [.p h.nx 0, .p hA.nx 0, .p hB.nx 0]])
  have k1 : (hC.put hB.nx (.cells 1 [.fn (K.ofNat 99) [.p h.nx 0, .p hA.nx 0, .p hB.nx 0]])).get h.nx = .cells 1 [.i .i64 (s : Int)] := (get_put_other (kNe (by omega))).trans e1''
  have k2 : (hC.put hB.nx (.cells 1 [.fn (K.ofNat 99) [.p h.nx 0, .p hA.nx 0, .p hB.nx 0]])).get hA.nx = .cells 1 [g] := (get_put_other (kNe (by omega))).trans e2'
  have k3 : (hC.put hB.nx (.cells 1 [.fn (K.ofNat 99) [.p h.nx 0, .p hA.nx 0, .p hB.nx 0]])).get hB.nx = .cells 1 [.fn (K.ofNat 99) [.p h.nx 0, .p hA.nx 0, .p hB.nx 0]] := get_put_same
  have gAll : Grow h.nx.nat h (hC.put hB.nx (.cells 1 [.fn (K.ofNat 99) [.p h.nx 0, .p hA.nx 0, .p hB.nx 0]])) := ((gA.trans (gB.low (by omega))).trans (gC.low (by omega))).trans gD
  have lb : loadV (hC.put hB.nx (.cells 1 [.fn (K.ofNat 99) [.p h.nx 0, .p hA.nx 0, .p hB.nx 0]])) (.p hB.nx 0) one? = .ok (.fn (K.ofNat 99) [.p h.nx 0, .p hA.nx 0, .p hB.nx 0]) (hC.put hB.nx (.cells 1 [.fn (K.ofNat 99) [.p h.nx 0, .p hA.nx 0, .p hB.nx 0]])) := load_p k3 rfl
  simp (disch := omega) only [f88_r2, f88_r3, x_mkfn, Nat.reduceEqDiff, ↓reduceIte, hst, lb, bz]
  refine (callP_of h99 rfl (by
    rw [cat_eq]
    exact f99_ret (s := s) (g := g) (el := el) h99 ⟨k1, k2, k3⟩ hs (hg _ gAll) s 0 0 (by omega) (Nat.two_pow_pos s))).mono ?_
  rintro r h' ⟨rfl, rfl⟩
  rw [remT_0]
  simp (disch := omega) only [f88_rs, Option.some.injEq, exists_eq_left', ↓reduceIte, bz]
  exact gAll
def f57_I (h : H) (v o : V) (idn ida : K) (A : List Int) (i : Nat) (fr : Fr) (h1 : H) : Prop := i ≤ A.length - 1 ∧ Grow h.nx.nat h h1 ∧ Sl iE h1 o (fil (minL A) i) ∧ ElM h1 idn ida v A ∧ fr.get (K.ofNat 4) = some (.fn (K.ofNat 87) [.p idn 0, .p ida 0]) ∧ fr.get (K.ofNat 5) = some (o) ∧ fr.get (K.ofNat 13) = some (o) ∧ fr.get (K.ofNat 14) = some (.i .i64 ((A.length - 1 : Nat) : Int)) ∧ fr.get (K.ofNat 15) = some (.i .i64 (i : Int))
structure CallsM (fs : T EF) : Prop where
  c87 : fs.get (K.ofNat 87) = some f87
  c99 : fs.get (K.ofNat 99) = some f99
  c88 : fs.get (K.ofNat 88) = some f88
theorem f57_ret (k : CallsM fs) (hA1 : 1 ≤ A.length) (hA : A.length ≤ 8) (hv : Sr iE h v A) (hc : HC h) : Ret fs f57 [v] h fun r h' => Sl iE h' r (minL A) ∧ Own h.nx.nat r ∧ Grow h.nx.nat h h' := by
  apply ret_of rfl
  show W fs none f57_c _ _ _
  unfold f57_c
  have hml := minL_len (A := A)
  have h1v : cellsN 1 v = some [v] := hv.one
  have n1 := nx_new h (.cells 1 [v])
  have gA := Grow.new (Nat.le_refl h.nx.nat) (.cells 1 [v])
  have e1 : (h.new (.cells 1 [v])).get h.nx = .cells 1 [v] := get_new_same
  have l1 : loadV (h.new (.cells 1 [v])) (.p h.nx 0) one? = .ok v (h.new (.cells 1 [v])) := load_p e1 rfl
  have en : (A.length : Int) - 1 = ((A.length - 1 : Nat) : Int) := by omega
  have hlv := hv.len
  have en' : fw .i64 ((A.length : Int) - 1) = ((A.length - 1 : Nat) : Int) := by rw [fw64 (by omega) (by omega), en]
  have st1 : storeV ((h.new (.cells 1 [v])).new (.cells 1 [.i .i64 0])) 1 (.p (h.new (.cells 1 [v])).nx 0) (.i .i64 ((A.length - 1 : Nat) : Int)) = .ok undefV (((h.new (.cells 1 [v])).new (.cells 1 [.i .i64 0])).put (h.new (.cells 1 [v])).nx (.cells 1 [.i .i64 ((A.length - 1 : Nat) : Int)])) := by
    rw [store_p (m := 1) (cs := [.i .i64 0]) (xs := [.i .i64 ((A.length - 1 : Nat) : Int)]) get_new_same rfl (by omega)]; rfl
  have hvA := hv.grow hc gA
  have hcA := gA.hc hc
  simp (disch := omega) only [f57_r0, f57_r1, Nat.reduceEqDiff, ↓reduceIte, h1v, l1, hlv, en', st1, bz]
  generalize h.new (.cells 1 [v]) = hA0 at *
  have n2 := nx_new hA0 (.cells 1 [.i .i64 0])
  have gB : Grow hA0.nx.nat hA0 ((hA0.new (.cells 1 [.i .i64 0])).put hA0.nx (.cells 1 [.i .i64 ((A.length - 1 : Nat) : Int)])) := (Grow.new (Nat.le_refl _) _).trans (Grow.put (Nat.le_refl _) (by omega) _)
  have e2 : ((hA0.new (.cells 1 [.i .i64 0])).put hA0.nx (.cells 1 [.i .i64 ((A.length - 1 : Nat) : Int)])).get hA0.nx = .cells 1 [.i .i64 ((A.length - 1 : Nat) : Int)] := get_put_same
  have n2' : ((hA0.new (.cells 1 [.i .i64 0])).put hA0.nx (.cells 1 [.i .i64 ((A.length - 1 : Nat) : Int)])).nx.nat = hA0.nx.nat + 1 := by rw [nx_put]; exact n2
  generalize (hA0.new (.cells 1 [.i .i64 0])).put hA0.nx (.cells 1 [.i .i64 ((A.length - 1 : Nat) : Int)]) = hB at *
  have mB : ElM hB hA0.nx h.nx v A := ⟨by rw [e2, en], (gB.old _ (by omega)).trans e1, hvA.grow hcA gB⟩
  have hcB := gB.hc hcA
  have l2 : loadV hB (.p hA0.nx 0) one? = .ok (.i .i64 ((A.length - 1 : Nat) : Int)) hB := load_p e2 rfl
  have hmk := mks_ints (h := hB) (k := .i64) (n := A.length - 1) (by omega)
  have hsl := mks_sl (h := hB) (n := A.length - 1)
  have hle := hsl.len
  rw [List.length_replicate] at hle
  have gC := Grow.new (Nat.le_refl hB.nx.nat) (.cells ((A.length - 1) * 1) (rep [.i .i64 0] (A.length - 1)))
  have gAll := (gA.trans (gB.low (by omega))).trans (gC.low (b := h.nx.nat) (by omega))
  have mC := mB.grow hcB gC
  simp (disch := omega) only [f57_r2, f57_r3, f57_r4, x_mkfn, x_mks, Nat.reduceEqDiff, ↓reduceIte, l2, hmk, hle, bz]
  generalize hB.new (.cells ((A.length - 1) * 1) (rep [.i .i64 0] (A.length - 1))) = h0 at *
  have ho0 : Own h.nx.nat (.sl hB.nx 0 (A.length - 1) 1) := fun id off n sz e => by cases e; omega
  have hno : ∀ id off n sz, V.sl hB.nx 0 (A.length - 1) 1 = .sl id off n sz → hB.nx.nat ≤ id.nat := fun id off n sz e => by cases e; exact Nat.le_refl _
  generalize V.sl hB.nx 0 (A.length - 1) 1 = o at *
  rw [show List.replicate (A.length - 1) (0 : Int) = fil (minL A) 0 by rw [fil_0, hml]] at hsl
  refine W_loop (f57_I h v o hA0.nx h.nx A) (fun k => A.length - 1 - k) ?_ 0 ⟨by omega, gAll, hsl, mC, by simp (disch := omega) only [getK_set, Nat.reduceEqDiff, ↓reduceIte, and_self, Int.natCast_zero]⟩
  rintro i fr h1 ⟨hi, hG, hs, m1, g4, g5, g13, g14, g15⟩
  have hc1 := hG.hc hc
  unfold f57_l0
  by_cases hlt : i < A.length - 1
  · have d1 : decide ((i : Int) < ((A.length - 1 : Nat) : Int)) = true := decide_eq_true (by omega)
    have ei : (i : Int) + 1 = ((i + 1 : Nat) : Int) := by omega
    simp (disch := omega) only [f57_r5, f57_r6, f57_r7, Nat.reduceEqDiff, ↓reduceIte, g4, g5, g14, g15, d1, fw64, ei, bz]
    refine (callP_0 (ef := f88) k.c88 rfl (f88_ret (h := h1) (s := i + 1) (g := .fn (K.ofNat 87) [.p hA0.nx 0, .p h.nx 0]) (el := elN A) k.c99 rfl (by omega) (fun h' g' r c hr hcc P => ?_))).mono ?_
    · refine callP_eq2 (callP_of k.c87 rfl ?_)
      rw [cat_eq]
      exact f87_ret (m1.grow hc1 g') (by omega) (by omega) (by omega)
    rintro x h2 ⟨rfl, g2⟩
    have hc2 := g2.hc hc1
    have hs2 := hs.grow hc1 g2
    have m2 := m1.grow hc1 g2
    have hil : i < (minL A).length := by omega
    obtain ⟨p, id, m, cs', a1, a2, a3, ⟨off, n', sz, a4⟩, a5⟩ := hs2.st (i := i) (by rw [fil_len (by omega)]; exact hil) (x := (minL A)[i]) (c := .i .i64 ((minL A)[i])) rfl rfl hc2
    rw [fil_set hil] at a3
    rw [minL_at hil] at a2
    have hidn := hno _ _ _ _ a4
    have m3 : ElM (h2.put id (.cells m cs')) hA0.nx h.nx v A := by
      obtain ⟨q1, q2, q3⟩ := m2
      exact ⟨(get_put_other (kNe (by omega))).trans q1, (get_put_other (kNe (by omega))).trans q2, q3.put (fun off n sz e => by have := hv.lt hc _ _ _ _ e; omega) _⟩
    simp (disch := omega) only [f57_r8, Nat.reduceEqDiff, ↓reduceIte, g15, a1, a2, fw64, bz]
    exact ⟨i + 1, by omega, by omega, (hG.trans (g2.low hG.nx)).trans (Grow.put (ho0 _ _ _ _ a4) a5 _), a3, m3, by simp (disch := omega) only [getK_set, Nat.reduceEqDiff, ↓reduceIte, g4, g5, g13, g14, and_self, Int.natCast_add, Int.natCast_one]⟩
  · have d1 : decide ((i : Int) < ((A.length - 1 : Nat) : Int)) = false := decide_eq_false (by omega)
    have ei : i = (minL A).length := by omega
    rw [ei, fil_all] at hs
    simp (disch := omega) only [f57_r5, f57_r9, f57_rs, Option.some.injEq, exists_eq_left', Nat.reduceEqDiff, ↓reduceIte, Bool.false_eq_true, g5, g14, g15, d1, bz]
    exact ⟨hs, ho0, hG⟩
end
end Go.Ev
namespace Go.Ev
open Go Go.RowKit
noncomputable def f70_r0 : List EOper := [oG 4 (.as (cG 0))]
noncomputable def f70_r1 : List EOper := [oG 5 (.mv (tG 1)), oG 6 (.bin .lss (tG 5) (cG 0)), oG 7 (.mv (tG 6)), gG 8 7 false (.mv (tG 1)), gG 9 7 false (.mv (tG 0)), gG 10 7 false (.len (tG 9)), gG 11 7 false (.bin .geq (tG 8) (tG 10)), oG 12 (.pick (tG 7) (.c (.b true)) (tG 11))]
noncomputable def f70_r2 : List EOper := [oG 4 (.as (cG 0))]
noncomputable def f70_r3 : List EOper := [oG 13 (.mv (tG 0)), oG 14 (.mv (tG 1)), oG 15 (.iads 1 (tG 13) (tG 14)), oG 16 (.ld (tG 15)), oG 4 (.as (tG 16))]
noncomputable def f70_c : EC := (.seq (.reg f70_r0) (.seq (.seq (.reg f70_r1) (.cond (tG 12) (.seq (.reg f70_r2) .ret) .skip)) (.seq (.reg f70_r3) .ret)))
noncomputable def f70 : EF := ⟨17, [.tmp (.ofNat 4)], f70_c, none⟩
noncomputable def f71_r0 : List EOper := [oG 6 (.as (cG 0))]
noncomputable def f71_r1 : List EOper := [oG 7 (.as (cG 0)), oG 8 (.as (cG 1))]
noncomputable def f71_r2 : List EOper := [oG 10 (.mv (tG 2)), oG 11 (.bin .eql (tG 10) (cG 0))]
noncomputable def f71_r3 : List EOper := [oG 6 (.as (cG 1))]
noncomputable def f71_r4 : List EOper := [oG 9 (.as (cG 0))]
noncomputable def f71_r5 : List EOper := [oG 12 (.mv (tG 2)), oG 13 (.mv (tG 9)), oG 14 (.bin .shr (tG 12) (tG 13)), oG 15 (.bin .gtr (tG 14) (cG 0))]
noncomputable def f71_r6 : List EOper := [oG 18 (.mv (tG 2)), oG 19 (.mv (tG 9)), oG 20 (.bin .shr (tG 18) (tG 19)), oG 21 (.bin .rem (tG 20) (cG 2)), oG 22 (.bin .eql (tG 21) (cG 1))]
noncomputable def f71_r7 : List Stage := [⟨[oG 23 (.mv (tG 7)), oG 24 (.mv (tG 8)), oG 25 (.mv (tG 0)), oG 26 (.mv (tG 1)), oG 27 (.iads 1 (tG 25) (tG 26)), oG 28 (.ld (tG 27)), oG 29 (.mv (tG 9)), oG 30 (.iads 1 (tG 28) (tG 29)), oG 31 (.ld (tG 30)), oG 32 (.bin .mul (tG 24) (tG 31)), oG 33 (.mv (tG 0)), oG 34 (.mv (tG 1)), oG 35 (.bin .add (tG 34) (cG 1)), oG 36 (.mv (tG 2)), oG 37 (.mv (tG 9)), oG 38 (.bin .shl (cG 1) (tG 37)), oG 39 (.bin .andNot (tG 36) (tG 38))], [], (some (oG 40 (.call (fG 71) [(tG 33), (tG 35), (tG 39)]))), []⟩, ⟨[oG 41 (.bin .mul (tG 32) (tG 40)), oG 42 (.bin .add (tG 23) (tG 41))], [oG 23 (.mv (tG 7)), oG 24 (.mv (tG 8)), oG 25 (.mv (tG 0)), oG 26 (.mv (tG 1)), oG 27 (.iads 1 (tG 25) (tG 26)), oG 28 (.ld (tG 27)), oG 29 (.mv (tG 9)), oG 30 (.iads 1 (tG 28) (tG 29)), oG 31 (.ld (tG 30)), oG 32 (.bin .mul (tG 24) (tG 31))], (some (oG 7 (.as (tG 42)))), []⟩, ⟨[], [], none, []⟩]
noncomputable def f71_r8 : List EOper := [oG 43 (.mv (tG 8)), oG 44 (.neg (tG 43)), oG 8 (.as (tG 44))]
noncomputable def f71_r9 : List EOper := [oG 16 (.mv (tG 9)), oG 17 (.bin .add (tG 16) (cG 1)), oG 9 (.as (tG 17))]
noncomputable def f71_l0 : EC := (.seq (.seq (.reg f71_r5) (.cond (tG 15) .skip (.exit 0))) (.seq (.block 1 (.seq (.reg f71_r6) (.cond (tG 22) (.seq (.draw f71_r7) (.reg f71_r8)) .skip))) (.reg f71_r9)))
noncomputable def f71_r10 : List EOper := [oG 45 (.mv (tG 7)), oG 6 (.as (tG 45))]
noncomputable def f71_c : EC := (.seq (.reg f71_r0) (.seq (.reg f71_r1) (.seq (.seq (.reg f71_r2) (.cond (tG 11) (.seq (.reg f71_r3) .ret) .skip)) (.seq (.seq (.reg f71_r4) (.block 0 (.loop f71_l0))) (.seq (.reg f71_r10) .ret)))))
noncomputable def f71 : EF := ⟨46, [.tmp (.ofNat 6)], f71_c, none⟩
noncomputable def f30_r0 : List EOper := [oG 2 (.as (.c .sn))]
noncomputable def f30_r1 : List EOper := [oG 10 (.mv (tG 0)), oG 11 (.len (tG 10)), oG 12 (.bin .sub (tG 11) (cG 1)), oG 3 (.as (tG 12))]
noncomputable def f30_r2 : List EOper := [oG 4 (.as (.c .sn))]
noncomputable def f30_r3 : List EOper := [oG 5 (.as (cG 1))]
noncomputable def f30_r4 : List EOper := [oG 13 (.mv (tG 5)), oG 14 (.mv (tG 3)), oG 15 (.bin .leq (tG 13) (tG 14))]
noncomputable def f30_r5 : List EOper := [oG 6 (.as (.c .sn))]
noncomputable def f30_r6 : List EOper := [oG 7 (.as (cG 1))]
noncomputable def f30_r7 : List EOper := [oG 18 (.mv (tG 7)), oG 19 (.mv (tG 3)), oG 20 (.bin .leq (tG 18) (tG 19))]
noncomputable def f30_r8 : List EOper := [oG 23 (.mv (tG 6)), oG 24 (.mv (tG 0)), oG 25 (.mv (tG 3)), oG 26 (.mv (tG 7)), oG 27 (.bin .mul (cG 2) (tG 26)), oG 28 (.bin .sub (tG 25) (tG 27)), oG 29 (.mv (tG 5)), oG 30 (.bin .add (tG 28) (tG 29)), oG 31 (.call (fG 70) [(tG 24), (tG 30)]), oG 32 (.bslice 1 1 [(.i .i64 (.ofNat 0))] [(0, 1, (tG 31))]), oG 33 (.app 1 (tG 23) (tG 32)), oG 6 (.as (tG 33))]
noncomputable def f30_r9 : List EOper := [oG 21 (.mv (tG 7)), oG 22 (.bin .add (tG 21) (cG 1)), oG 7 (.as (tG 22))]
noncomputable def f30_l0 : EC := (.seq (.seq (.reg f30_r7) (.cond (tG 20) .skip (.exit 2))) (.seq (.block 3 (.reg f30_r8)) (.reg f30_r9)))
noncomputable def f30_r10 : List EOper := [oG 34 (.mv (tG 4)), oG 35 (.mv (tG 6)), oG 36 (.bslice 1 1 [.sn] [(0, 1, (tG 35))]), oG 37 (.app 1 (tG 34) (tG 36)), oG 4 (.as (tG 37))]
noncomputable def f30_r11 : List EOper := [oG 16 (.mv (tG 5)), oG 17 (.bin .add (tG 16) (cG 1)), oG 5 (.as (tG 17))]
noncomputable def f30_l1 : EC := (.seq (.seq (.reg f30_r4) (.cond (tG 15) .skip (.exit 0))) (.seq (.block 1 (.seq (.reg f30_r5) (.seq (.seq (.reg f30_r6) (.block 2 (.loop f30_l0))) (.reg f30_r10)))) (.reg f30_r11)))
noncomputable def f30_r12 : List EOper := [oG 8 (.as (.c .sn))]
noncomputable def f30_r13 : List EOper := [oG 9 (.as (cG 1))]
noncomputable def f30_r14 : List EOper := [oG 38 (.mv (tG 9)), oG 39 (.mv (tG 3)), oG 40 (.bin .leq (tG 38) (tG 39))]
noncomputable def f30_r15 : List EOper := [oG 43 (.mv (tG 8)), oG 44 (.mv (tG 4)), oG 45 (.mv (tG 9)), oG 46 (.bin .shl (cG 1) (tG 45)), oG 47 (.bin .sub (tG 46) (cG 1)), oG 48 (.call (fG 71) [(tG 44), (cG 0), (tG 47)]), oG 49 (.bslice 1 1 [(.i .i64 (.ofNat 0))] [(0, 1, (tG 48))]), oG 50 (.app 1 (tG 43) (tG 49)), oG 8 (.as (tG 50))]
noncomputable def f30_r16 : List EOper := [oG 41 (.mv (tG 9)), oG 42 (.bin .add (tG 41) (cG 1)), oG 9 (.as (tG 42))]
noncomputable def f30_l2 : EC := (.seq (.seq (.reg f30_r14) (.cond (tG 40) .skip (.exit 4))) (.seq (.block 5 (.reg f30_r15)) (.reg f30_r16)))
noncomputable def f30_r17 : List EOper := [oG 51 (.mv (tG 8)), oG 2 (.as (tG 51))]
noncomputable def f30_c : EC := (.seq (.reg f30_r0) (.seq (.reg f30_r1) (.seq (.reg f30_r2) (.seq (.seq (.reg f30_r3) (.block 0 (.loop f30_l1))) (.seq (.reg f30_r12) (.seq (.seq (.reg f30_r13) (.block 4 (.loop f30_l2))) (.seq (.reg f30_r17) .ret)))))))
noncomputable def f30 : EF := ⟨52, [.tmp (.ofNat 2)], f30_c, none⟩
noncomputable def f86_r0 : List EOper := [oG 2 (.as (.c (.b false)))]
noncomputable def f86_r1 : List EOper := [oG 3 (.mv (tG 0)), oG 4 (.bin .leq (tG 3) (cG 0)), oG 2 (.as (tG 4))]
noncomputable def f86_c : EC := (.seq (.reg f86_r0) (.seq (.reg f86_r1) .ret))
noncomputable def f86 : EF := ⟨5, [.tmp (.ofNat 2)], f86_c, none⟩
theorem f86_rs : f86.rs = [.tmp (.ofNat 2)] := of_eq_true (eq_self _)
noncomputable def f98_r0 : List EOper := [oG 4 (.as (cG 0))]
noncomputable def f98_r1 : List EOper := [oG 6 (.mv (tG 0)), oG 7 (.len (tG 6)), oG 8 (.mv (cG 0))]
noncomputable def f98_r2 : List EOper := [oG 9 (.bin .lss (tG 8) (tG 7))]
noncomputable def f98_r3 : List EOper := [oG 10 (.mv (tG 8)), oG 5 (.as (tG 10))]
noncomputable def f98_r4 : List EOper := [oG 11 (.mv (tG 1)), oG 12 (.mv (tG 0)), oG 13 (.mv (tG 5)), oG 14 (.iads 1 (tG 12) (tG 13)), oG 15 (.ld (tG 14)), oG 16 (.call (tG 11) [(tG 15)])]
noncomputable def f98_r5 : List EOper := [oG 17 (.mv (tG 5)), oG 4 (.as (tG 17))]
noncomputable def f98_r6 : List EOper := [oG 18 (.bin .add (tG 8) (cG 1)), oG 8 (.mv (tG 18))]
noncomputable def f98_l0 : EC := (.seq (.reg f98_r2) (.seq (.cond (tG 9) .skip (.exit 0)) (.seq (.block 1 (.seq (.reg f98_r3) (.seq (.reg f98_r4) (.cond (tG 16) (.seq (.reg f98_r5) .ret) .skip)))) (.reg f98_r6))))
noncomputable def f98_r7 : List EOper := [oG 4 (.as (.c (.i .i64 (.negSucc 0))))]
noncomputable def f98_c : EC := (.seq (.reg f98_r0) (.seq (.seq (.reg f98_r1) (.block 0 (.loop f98_l0))) (.seq (.reg f98_r7) .ret)))
noncomputable def f98 : EF := ⟨19, [.tmp (.ofNat 4)], f98_c, none⟩
noncomputable def f85_r0 : List EOper := [oG 4 (.as (.c (.b false)))]
noncomputable def f85_r1 : List EOper := [oG 5 (.mv (tG 0)), oG 6 (.mv (tG 1)), oG 7 (.call (fG 98) [(tG 5), (tG 6)]), oG 8 (.bin .geq (tG 7) (cG 0)), oG 4 (.as (tG 8))]
noncomputable def f85_c : EC := (.seq (.reg f85_r0) (.seq (.reg f85_r1) .ret))
noncomputable def f85 : EF := ⟨9, [.tmp (.ofNat 4)], f85_c, none⟩
theorem f85_rs : f85.rs = [.tmp (.ofNat 4)] := of_eq_true (eq_self _)
noncomputable def f55_r0 : List EOper := [oG 2 (.as (.c (.b false)))]
noncomputable def f55_r1 : List EOper := [oG 3 (.mv (tG 0)), oG 4 (.mv (tG 0)), oG 5 (.len (tG 4)), oG 6 (.bin .sub (tG 5) (cG 1)), oG 7 (.iads 1 (tG 3) (tG 6)), oG 8 (.ld (tG 7)), oG 9 (.bin .lss (tG 8) (cG 0))]
noncomputable def f55_r2 : List EOper := [oG 10 (.mv (tG 0)), oG 11 (.bslice 1 1 [(.i .i64 (.ofNat 0))] [(0, 1, (.c (.i .i64 (.negSucc 0))))]), oG 12 (.call (fG 67) [(tG 10), (tG 11)]), oG 0 (.as (tG 12))]
noncomputable def f55_r3 : List EOper := [oG 13 (.mv (tG 0)), oG 14 (.call (fG 57) [(tG 13)]), oG 15 (.call (fG 85) [(tG 14), (fG 86)]), oG 16 (.not (tG 15)), oG 2 (.as (tG 16))]
noncomputable def f55_c : EC := (.seq (.reg f55_r0) (.seq (.seq (.reg f55_r1) (.cond (tG 9) (.reg f55_r2) .skip)) (.seq (.reg f55_r3) .ret)))
noncomputable def f55 : EF := ⟨17, [.tmp (.ofNat 2)], f55_c, none⟩
theorem f55_rs : f55.rs = [.tmp (.ofNat 2)] := of_eq_true (eq_self _)
noncomputable def f15_r0 : List EOper := [oG 2 (.as (.c (.b false))), oG 3 (.as (cG 0))]
noncomputable def f15_r1 : List EOper := [oG 5 (.mv (tG 0)), oG 6 (.call (fG 14) [(tG 5)]), oG 4 (.as (tG 6))]
noncomputable def f15_r2 : List EOper := [oG 7 (.mv (tG 4)), oG 8 (.bin .neq (tG 7) (cG 0))]
noncomputable def f15_r3 : List EOper := [oG 9 (.mv (tG 4)), oG 2 (.as (.c (.b false))), oG 3 (.as (tG 9))]
noncomputable def f15_r4 : List EOper := [oG 10 (.mv (tG 0)), oG 11 (.call (fG 55) [(tG 10)]), oG 2 (.as (tG 11)), oG 3 (.as (cG 0))]
noncomputable def f15_c : EC := (.seq (.reg f15_r0) (.seq (.seq (.reg f15_r1) (.seq (.reg f15_r2) (.cond (tG 8) (.seq (.reg f15_r3) .ret) .skip))) (.seq (.reg f15_r4) .ret)))
noncomputable def f15 : EF := ⟨12, [.tmp (.ofNat 2), .tmp (.ofNat 3)], f15_c, none⟩
theorem f15_rs : f15.rs = [.tmp (.ofNat 2), .tmp (.ofNat 3)] := of_eq_true (eq_self _)
noncomputable def f27_r0 : List EOper := [oG 2 (.as (.c (.b false)))]
noncomputable def f27_r1 : List EOper := [oG 3 (.as (.c .sn))]
noncomputable def f27_r2 : List EOper := [oG 4 (.as (cG 0))]
noncomputable def f27_r3 : List EOper := [oG 7 (.mv (tG 4)), oG 8 (.mv (tG 0)), oG 9 (.len (tG 8)), oG 10 (.bin .lss (tG 7) (tG 9))]
noncomputable def f27_r4 : List EOper := [oG 13 (.mv (tG 0)), oG 14 (.mv (tG 0)), oG 15 (.len (tG 14)), oG 16 (.bin .sub (tG 15) (cG 1)), oG 17 (.iads 1 (tG 13) (tG 16)), oG 18 (.ld (tG 17)), oG 19 (.bin .lss (tG 18) (cG 0))]
noncomputable def f27_r5 : List EOper := [oG 20 (.mv (tG 3)), oG 21 (.mv (tG 0)), oG 22 (.mv (tG 4)), oG 23 (.iads 1 (tG 21) (tG 22)), oG 24 (.ld (tG 23)), oG 25 (.neg (tG 24)), oG 26 (.bslice 1 1 [(.i .i64 (.ofNat 0))] [(0, 1, (tG 25))]), oG 27 (.app 1 (tG 20) (tG 26)), oG 3 (.as (tG 27))]
noncomputable def f27_r6 : List EOper := [oG 28 (.mv (tG 3)), oG 29 (.mv (tG 0)), oG 30 (.mv (tG 4)), oG 31 (.iads 1 (tG 29) (tG 30)), oG 32 (.ld (tG 31)), oG 33 (.bslice 1 1 [(.i .i64 (.ofNat 0))] [(0, 1, (tG 32))]), oG 34 (.app 1 (tG 28) (tG 33)), oG 3 (.as (tG 34))]
noncomputable def f27_r7 : List EOper := [oG 11 (.mv (tG 4)), oG 12 (.bin .add (tG 11) (cG 1)), oG 4 (.as (tG 12))]
noncomputable def f27_l0 : EC := (.seq (.seq (.reg f27_r3) (.cond (tG 10) .skip (.exit 0))) (.seq (.block 1 (.seq (.reg f27_r4) (.cond (tG 19) (.reg f27_r5) (.reg f27_r6)))) (.reg f27_r7)))
noncomputable def f27_r8 : List EOper := [oG 35 (.mv (tG 3)), oG 36 (.call (fG 30) [(tG 35)]), oG 5 (.as (tG 36))]
noncomputable def f27_r9 : List EOper := [oG 6 (.as (cG 0))]
noncomputable def f27_r10 : List EOper := [oG 37 (.mv (tG 6)), oG 38 (.mv (tG 5)), oG 39 (.len (tG 38)), oG 40 (.bin .lss (tG 37) (tG 39))]
noncomputable def f27_r11 : List EOper := [oG 43 (.mv (tG 5)), oG 44 (.mv (tG 6)), oG 45 (.iads 1 (tG 43) (tG 44)), oG 46 (.ld (tG 45)), oG 47 (.bin .leq (tG 46) (cG 0))]
noncomputable def f27_r12 : List EOper := [oG 2 (.as (.c (.b false)))]
noncomputable def f27_r13 : List EOper := [oG 41 (.mv (tG 6)), oG 42 (.bin .add (tG 41) (cG 1)), oG 6 (.as (tG 42))]
noncomputable def f27_l1 : EC := (.seq (.seq (.reg f27_r10) (.cond (tG 40) .skip (.exit 2))) (.seq (.block 3 (.seq (.reg f27_r11) (.cond (tG 47) (.seq (.reg f27_r12) .ret) .skip))) (.reg f27_r13)))
noncomputable def f27_r14 : List EOper := [oG 2 (.as (.c (.b true)))]
noncomputable def f27_c : EC := (.seq (.reg f27_r0) (.seq (.reg f27_r1) (.seq (.seq (.reg f27_r2) (.block 0 (.loop f27_l0))) (.seq (.reg f27_r8) (.seq (.seq (.reg f27_r9) (.block 2 (.loop f27_l1))) (.seq (.reg f27_r14) .ret))))))
noncomputable def f27 : EF := ⟨48, [.tmp (.ofNat 2)], f27_c, none⟩
noncomputable def f17_r0 : List EOper := [oG 2 (.as (.c .sn)), oG 3 (.as (cG 0))]
noncomputable def f17_r1 : List EOper := [oG 5 (.mv (tG 0)), oG 6 (.call (fG 14) [(tG 5)]), oG 4 (.as (tG 6))]
noncomputable def f17_r2 : List EOper := [oG 7 (.mv (tG 4)), oG 8 (.bin .neq (tG 7) (cG 0))]
noncomputable def f17_r3 : List EOper := [oG 9 (.mv (tG 4)), oG 2 (.as (.c .sn)), oG 3 (.as (tG 9))]
noncomputable def f17_r4 : List EOper := [oG 10 (.mv (tG 0)), oG 11 (.call (fG 57) [(tG 10)]), oG 2 (.as (tG 11)), oG 3 (.as (cG 0))]
noncomputable def f17_c : EC := (.seq (.reg f17_r0) (.seq (.seq (.reg f17_r1) (.seq (.reg f17_r2) (.cond (tG 8) (.seq (.reg f17_r3) .ret) .skip))) (.seq (.reg f17_r4) .ret)))
noncomputable def f17 : EF := ⟨12, [.tmp (.ofNat 2), .tmp (.ofNat 3)], f17_c, none⟩
theorem f17_rs : f17.rs = [.tmp (.ofNat 2), .tmp (.ofNat 3)] := of_eq_true (eq_self _)
section
variable {fs : T EF} {h : H} {v w : V} {A B L : List Int}
structure CallsR (fs : T EF) : Prop where
  c70 : fs.get (K.ofNat 70) = some f70
  c71 : fs.get (K.ofNat 71) = some f71
theorem f86_ret {x : Int} : Ret fs f86 [.i .i64 x] h fun r h' => r = .b (decide (x ≤ 0)) ∧ h' = h := by
  apply ret_of rfl
  show W fs none f86_c _ _ _
  unfold f86_c
  simp (disch := omega) only [f86_r0, f86_r1, f86_rs, Option.some.injEq, exists_eq_left', Nat.reduceEqDiff, ↓reduceIte, and_self, bz]
theorem f98_same : f98 = f106 := rfl
structure CallsS (fs : T EF) : Prop extends CallsD fs, CallsM fs, CallsR fs where
  c98 : fs.get (K.ofNat 98) = some f98
  c85 : fs.get (K.ofNat 85) = some f85
  c86 : fs.get (K.ofNat 86) = some f86
  c57 : fs.get (K.ofNat 57) = some f57
  c30 : fs.get (K.ofNat 30) = some f30
  c55 : fs.get (K.ofNat 55) = some f55
  c27 : fs.get (K.ofNat 27) = some f27
theorem f85_ret (k : CallsS fs) (hv : Sr iE h v L) (hL : L.length ≤ 1000000) : Ret fs f85 [v, .fn (.ofNat 86) []] h fun r h' => r = .b (L.any fun m => decide (m ≤ 0)) ∧ h' = h := by
  apply ret_of rfl
  show W fs none f85_c _ _ _
  unfold f85_c
  have h98 : fs.get (K.ofNat 98) = some f106 := by rw [k.c98, f98_same]
  simp (disch := omega) only [f85_r0, f85_r1, Nat.reduceEqDiff, ↓reduceIte, bz]
  refine (callP_0 (ef := f106) h98 rfl (f106_ret (p := fun m => decide (m ≤ 0)) hv hL fun x _ P => callP_eq2 (callP_0 (ef := f86) k.c86 rfl f86_ret))).mono ?_
  rintro r h' ⟨⟨n, rfl, hn⟩, rfl⟩
  simp (disch := omega) only [f85_rs, Option.some.injEq, exists_eq_left', ↓reduceIte, hn, and_self, bz]
theorem f55_ret (k : CallsS fs) (hA1 : 1 ≤ A.length) (hA : A.length ≤ 8) (hv : Sr iE h v A) (hc : HC h) : Ret fs f55 [v] h fun r h' => r = .b (stB A) ∧ Grow h.nx.nat h h' := by
  apply ret_of rfl
  show W fs none f55_c _ _ _
  unfold f55_c stB
  have ei : (A.length : Int) - 1 = ((A.length - 1 : Nat) : Int) := by omega
  obtain ⟨p, p1, p2⟩ := hv.at (A.length - 1) (by omega)
  have p2 : loadV h p one? = .ok (.i .i64 (A.getD (A.length - 1) 0)) h := by rw [getD_lt (by omega)]; exact p2
  have rest : ∀ (fr : Fr) (u : V) (h1 : H), fr.get (K.ofNat 0) = some u → Sr iE h1 u (upL A) → Grow h.nx.nat h h1 → W fs none (.seq (.reg f55_r3) .ret) (retK f55 fun r h' => r = .b (!(minL (upL A)).any fun m => decide (m ≤ 0)) ∧ Grow h.nx.nat h h') fr h1 := by
    intro fr u h1 g0 hu hG
    simp (disch := omega) only [f55_r3, ↓reduceIte, g0, bz]
    refine (callP_0 (ef := f57) k.c57 rfl (f57_ret k.toCallsM (by rw [upL_len]; exact hA1) (by rw [upL_len]; exact hA) hu (hG.hc hc))).mono ?_
    rintro w h2 ⟨sw, ow, g2⟩
    have e85 := fun P => callP_eq2 (P := P) (callP_0 (args := [w, .fn (K.ofNat 86) []]) k.c85 rfl (f85_ret k sw.sr (by rw [minL_len, upL_len]; omega)))
    simp (disch := omega) only [f55_rs, Option.some.injEq, exists_eq_left', ↓reduceIte, e85, bz]
    exact hG.trans (g2.low hG.nx)
  by_cases h0 : A.getD (A.length - 1) 0 < 0
  · have d1 : decide (A.getD (A.length - 1) 0 < 0) = true := decide_eq_true h0
    have eu : upL A = prd A [-1] := by unfold upL; rw [if_pos h0, prd_neg]
    have g2 := Grow.new (Nat.le_refl h.nx.nat) (.cells (1 * 1) [.i .i64 (-1)])
    have hl := lit1 (h := h) (x := -1)
    simp (disch := omega) only [f55_r0, f55_r1, f55_r2, Nat.reduceEqDiff, ↓reduceIte, hv.len, ei, fw64, p1, p2, d1, ng0, bz]
    refine (callP_0 (ef := f67) k.c67 rfl (f67_ret k.c94 (by omega) (by simp) (hv.grow hc g2) hl.sr (g2.hc hc))).mono ?_
    rintro u h1 ⟨su, _, g1⟩
    rw [← eu] at su
    simp (disch := omega) only [↓reduceIte, bz]
    exact rest _ u h1 (by simp (disch := omega) only [getK_set, ↓reduceIte]) su.sr (g2.trans (g1.low g2.nx))
  · have d1 : decide (A.getD (A.length - 1) 0 < 0) = false := decide_eq_false h0
    have eu : upL A = A := by unfold upL; rw [if_neg h0]
    simp (disch := omega) only [f55_r0, f55_r1, Nat.reduceEqDiff, ↓reduceIte, Bool.false_eq_true, hv.len, ei, fw64, p1, p2, d1, bz]
    exact rest _ v h (by simp (disch := omega) only [getK_set, Nat.reduceEqDiff, ↓reduceIte]) (by rw [eu]; exact hv) (Grow.refl _ _)
theorem f15_ret (k : CallsS fs) (hA : plB A = true) (hv : Sr iE h v A) (hc : HC h) : Ret fs f15 [v] h fun r h' => r = .tup [.b (stB A), .i .i64 0] ∧ Grow h.nx.nat h h' := by
  obtain ⟨l1, l2, _, _⟩ := plB_len hA
  apply ret_of rfl
  show W fs none f15_c _ _ _
  unfold f15_c
  have ca : ckI A = 0 := by unfold ckI; rw [if_pos hA]
  have eA := fun P => f14_eq k.toCSm k.c54 k.c14 hv (by omega) (P := P)
  have d0 : decide ((0 : Int) ≠ 0) = false := rfl
  simp (disch := omega) only [f15_r0, f15_r1, f15_r2, f15_r4, Nat.reduceEqDiff, ↓reduceIte, Bool.false_eq_true, eA, ca, d0, bz]
  refine (callP_0 (ef := f55) k.c55 rfl (f55_ret k l1 (by omega) hv hc)).mono ?_
  rintro r h' ⟨rfl, hG⟩
  simp (disch := omega) only [f15_rs, Option.some.injEq, exists_eq_left', Nat.reduceEqDiff, ↓reduceIte, bz]
  exact hG
theorem f17_ret (k : CallsS fs) (hA : plB A = true) (hv : Sr iE h v A) (hc : HC h) : Ret fs f17 [v] h fun r h' => ∃ u, r = .tup [u, .i .i64 0] ∧ Sl iE h' u (minL A) ∧ Grow h.nx.nat h h' := by
  obtain ⟨l1, l2, _, _⟩ := plB_len hA
  apply ret_of rfl
  show W fs none f17_c _ _ _
  unfold f17_c
  have ca : ckI A = 0 := by unfold ckI; rw [if_pos hA]
  have eA := fun P => f14_eq k.toCSm k.c54 k.c14 hv (by omega) (P := P)
  have d0 : decide ((0 : Int) ≠ 0) = false := rfl
  simp (disch := omega) only [f17_r0, f17_r1, f17_r2, f17_r4, Nat.reduceEqDiff, ↓reduceIte, Bool.false_eq_true, eA, ca, d0, bz]
  refine (callP_0 (ef := f57) k.c57 rfl (f57_ret k.toCallsM l1 (by omega) hv hc)).mono ?_
  rintro r h' ⟨hs, _, hG⟩
  simp (disch := omega) only [f17_rs, Option.some.injEq, exists_eq_left', Nat.reduceEqDiff, ↓reduceIte, bz]
  exact ⟨_, rfl, hs, hG⟩
end
end Go.Ev
namespace Go.Ev
open Go Go.RowKit
section
variable {fs : T EF} {h : H} {v w : V} {A B L : List Int}
end
end Go.Ev
namespace Go.Ev
open Go Go.RowKit
section
variable {fs : T EF} {h : H} {v w : V} {A B L : List Int}
theorem keq_b {x : Bool} : keyEq (.one none) (.b x) (.b x) = some true := by cases x <;> rfl
end
end Go.Ev
namespace Go.Ev
open Go Go.RowKit
theorem getD_mem {L : List Int} {i : Nat} : L.getD i 0 ∈ L ∨ L.getD i 0 = 0 := by
  by_cases h : i < L.length
  · rw [getD_lt h]; exact .inl (List.getElem_mem h)
  · rw [getD_ge (by omega)]; exact .inr rfl
end Go.Ev
namespace Go.Ev
open Go Go.RowKit
noncomputable def f39_r0 : List EOper := [oG 2 (.as (.c .sn))]
noncomputable def f39_r1 : List EOper := [oG 8 (.bslice 1 1 [(.i .i64 (.ofNat 0))] [(0, 1, (cG 1))]), oG 3 (.as (tG 8))]
noncomputable def f39_r2 : List EOper := [oG 4 (.as (cG 0))]
noncomputable def f39_r3 : List EOper := [oG 9 (.mv (tG 4)), oG 10 (.mv (tG 0)), oG 11 (.len (tG 10)), oG 12 (.bin .lss (tG 9) (tG 11)), oG 13 (.mv (tG 12)), gG 14 13 true (.mv (tG 4)), gG 15 13 true (.bin .lss (tG 14) (cG 5)), oG 16 (.pick (tG 13) (tG 15) (.c (.b false)))]
noncomputable def f39_r4 : List EOper := [oG 19 (.mv (tG 0)), oG 20 (.mv (tG 4)), oG 21 (.iads 1 (tG 19) (tG 20)), oG 22 (.ld (tG 21)), oG 23 (.conv .u64 (tG 22)), oG 24 (.bin .rem (tG 23) (.c (.i .u64 (.ofNat 3)))), oG 25 (.conv .i64 (tG 24)), oG 26 (.bin .add (cG 1) (tG 25)), oG 27 (.bslice 2 1 [(.i .i64 (.ofNat 0)), (.i .i64 (.ofNat 0))] [(0, 1, (tG 26)), (1, 1, (cG 1))]), oG 5 (.as (tG 27))]
noncomputable def f39_r5 : List EOper := [oG 28 (.mv (tG 0)), oG 29 (.mv (tG 4)), oG 30 (.iads 1 (tG 28) (tG 29)), oG 31 (.ld (tG 30)), oG 32 (.bin .rem (tG 31) (cG 2)), oG 33 (.bin .eql (tG 32) (cG 0))]
noncomputable def f39_r6 : List EOper := [oG 34 (.mv (tG 0)), oG 35 (.mv (tG 4)), oG 36 (.iads 1 (tG 34) (tG 35)), oG 37 (.ld (tG 36)), oG 38 (.conv .u64 (tG 37)), oG 39 (.bin .rem (tG 38) (.c (.i .u64 (.ofNat 2)))), oG 40 (.conv .i64 (tG 39)), oG 41 (.bin .add (cG 1) (tG 40)), oG 42 (.bslice 3 1 [(.i .i64 (.ofNat 0)), (.i .i64 (.ofNat 0)), (.i .i64 (.ofNat 0))] [(0, 1, (tG 41)), (1, 1, (cG 1)), (2, 1, (cG 1))]), oG 5 (.as (tG 42))]
noncomputable def f39_r7 : List EOper := [oG 44 (.mv (tG 3)), oG 45 (.mv (tG 5)), oG 46 (.call (fG 40) [(tG 44), (tG 45)]), oG 43 (.mv (tG 46)), oG 47 (.ext (tG 43) 0), oG 48 (.ext (tG 43) 1), oG 6 (.as (tG 47)), oG 7 (.as (tG 48))]
noncomputable def f39_r8 : List EOper := [oG 49 (.mv (tG 7))]
noncomputable def f39_r9 : List EOper := [oG 50 (.mv (tG 6)), oG 3 (.as (tG 50))]
noncomputable def f39_r10 : List EOper := [oG 17 (.mv (tG 4)), oG 18 (.bin .add (tG 17) (cG 1)), oG 4 (.as (tG 18))]
noncomputable def f39_l0 : EC := (.seq (.seq (.reg f39_r3) (.cond (tG 16) .skip (.exit 0))) (.seq (.block 1 (.seq (.reg f39_r4) (.seq (.seq (.reg f39_r5) (.cond (tG 33) (.reg f39_r6) .skip)) (.seq (.reg f39_r7) (.seq (.reg f39_r8) (.cond (tG 49) (.reg f39_r9) .skip)))))) (.reg f39_r10)))
noncomputable def f39_r11 : List EOper := [oG 51 (.mv (tG 3)), oG 2 (.as (tG 51))]
noncomputable def f39_c : EC := (.seq (.reg f39_r0) (.seq (.reg f39_r1) (.seq (.seq (.reg f39_r2) (.block 0 (.loop f39_l0))) (.seq (.reg f39_r11) .ret))))
noncomputable def f39 : EF := ⟨52, [.tmp (.ofNat 2)], f39_c, none⟩
theorem f39_rs : f39.rs = [.tmp (.ofNat 2)] := of_eq_true (eq_self _)
section
variable {fs : T EF} {h : H} {v w : V} {A B L E O : List Int}
theorem big0 : bigB 0 = false := rfl
theorem sm_get {L : List Int} (h : smB L = true) (i : Nat) : bigB (L.getD i 0) = false := by
  unfold smB at h
  rw [Bool.not_eq_true', List.any_eq_false] at h
  rcases getD_mem (L := L) (i := i) with hm | hm
  · have := h _ hm
    simpa using this
  · rw [hm]; exact big0
end
end Go.Ev
namespace Go.Ev
open Go Go.RowKit

noncomputable def f6_r0 : List EOper := [oG 6 (.as (.c (.b false)))]
noncomputable def f6_r1 : List EOper := [oG 13 (.mv (tG 0)), oG 14 (.call (fG 12) [(tG 13), (cG 5)]), oG 15 (.mv (tG 1)), oG 16 (.call (fG 12) [(tG 15), (cG 5)]), oG 7 (.as (tG 14)), oG 8 (.as (tG 16))]
noncomputable def f6_r2 : List EOper := [oG 9 (.as (cG 0))]
noncomputable def f6_r3 : List EOper := [oG 17 (.mv (tG 9)), oG 18 (.bin .lss (tG 17) (cG 3))]
noncomputable def f6_r4 : List EOper := [oG 22 (.mv (tG 7)), oG 23 (.mv (tG 8)), oG 24 (.call (fG 36) [(tG 22), (tG 23)]), oG 21 (.mv (tG 24)), oG 25 (.ext (tG 21) 0), oG 26 (.ext (tG 21) 1), oG 10 (.as (tG 25)), oG 11 (.as (tG 26))]
noncomputable def f6_r5 : List EOper := [oG 27 (.mv (tG 7)), oG 28 (.call (fG 37) [(tG 27)]), oG 29 (.not (tG 28)), oG 30 (.mv (tG 29)), gG 31 30 false (.mv (tG 8)), gG 32 30 false (.call (fG 37) [(tG 31)]), gG 33 30 false (.not (tG 32)), oG 34 (.pick (tG 30) (.c (.b true)) (tG 33))]
noncomputable def f6_r6 : List EOper := [oG 35 (.mv (tG 11)), oG 36 (.bin .neq (tG 35) (cG 1)), oG 37 (.mv (tG 36)), gG 38 37 false (.mv (tG 10)), oG 39 (.pick (tG 37) (.c (.b true)) (tG 38))]
noncomputable def f6_r7 : List EOper := [oG 6 (.as (.c (.b false)))]
noncomputable def f6_r8 : List EOper := [oG 40 (.mv (tG 11)), oG 41 (.bin .neq (tG 40) (cG 0)), oG 42 (.mv (tG 41)), gG 43 42 false (.mv (tG 10)), gG 44 42 false (.mv (tG 7)), gG 45 42 false (.mv (tG 8)), gG 46 42 false (.call (fG 38) [(tG 44), (tG 45)]), gG 47 42 false (.eqk (.one none) true (tG 43) (tG 46)), oG 48 (.pick (tG 42) (.c (.b true)) (tG 47))]
noncomputable def f6_r9 : List EOper := [oG 6 (.as (.c (.b false)))]
noncomputable def f6_r10 : List EOper := [oG 49 (.mv (tG 2)), oG 50 (.call (fG 25) [(tG 49)]), oG 51 (.call (fG 26) [(tG 50)]), oG 12 (.alloc 2 [.sn, .sn]), ⟨none, none, .st 2 (tG 12) (tG 51)⟩]
noncomputable def f6_r11 : List EOper := [oG 52 (.mv (tG 9)), oG 53 (.bin .eql (tG 52) (cG 1))]
noncomputable def f6_r12 : List EOper := [oG 54 (.mv (tG 2)), oG 55 (.call (fG 39) [(tG 54)]), oG 56 (.call (fG 26) [(tG 55)]), ⟨none, none, .st 2 (tG 12) (tG 56)⟩]
noncomputable def f6_r13 : List Stage := [⟨[oG 57 (.iadr 2 1 (tG 12) (cG 0)), oG 58 (.ld (tG 57)), oG 59 (.iadr 2 1 (tG 12) (cG 1)), oG 60 (.ld (tG 59))], [], (some (oG 7 (.as (tG 58)))), []⟩, ⟨[], [oG 59 (.iadr 2 1 (tG 12) (cG 1)), oG 60 (.ld (tG 59))], (some (oG 8 (.as (tG 60)))), []⟩, ⟨[], [], none, []⟩]
noncomputable def f6_r14 : List EOper := [oG 19 (.mv (tG 9)), oG 20 (.bin .add (tG 19) (cG 1)), oG 9 (.as (tG 20))]
noncomputable def f6_l0 : EC := (.seq (.seq (.reg f6_r3) (.cond (tG 18) .skip (.exit 0))) (.seq (.block 1 (.seq (.reg f6_r4) (.seq (.seq (.reg f6_r5) (.cond (tG 34) (.seq (.reg f6_r6) (.cond (tG 39) (.seq (.reg f6_r7) .ret) .skip)) (.seq (.reg f6_r8) (.cond (tG 48) (.seq (.reg f6_r9) .ret) .skip)))) (.seq (.reg f6_r10) (.seq (.seq (.reg f6_r11) (.cond (tG 53) (.reg f6_r12) .skip)) (.draw f6_r13)))))) (.reg f6_r14)))
noncomputable def f6_r15 : List EOper := [oG 61 (.call (fG 19) []), oG 6 (.as (tG 61))]
noncomputable def f6_c : EC := (.seq (.reg f6_r0) (.seq (.reg f6_r1) (.seq (.seq (.reg f6_r2) (.block 0 (.loop f6_l0))) (.seq (.reg f6_r15) .ret))))
noncomputable def f6 : EF := ⟨62, [.tmp (.ofNat 6)], f6_c, none⟩
section
variable {fs : T EF} {h : H} {v w : V} {A B L : List Int}
theorem fill_3 {fr : Fr} {x y z : EO} {z1 z2 z3 : V} : fillE fr [z1, z2, z3] [(0, 1, x), (1, 1, y), (2, 1, z)] = oGet (cellsN 1 (ev fr x)) none fun cs => oGet (cellsN 1 (ev fr y)) none fun ds => oGet (cellsN 1 (ev fr z)) none fun es => some (setMany (setMany (setMany [z1, z2, z3] 0 cs) 1 ds) 2 es) := of_eq_true (eq_self _)
theorem set_3 {z1 z2 z3 a b c : V} : setMany (setMany (setMany [z1, z2, z3] 0 [a]) 1 [b]) 2 [c] = [a, b, c] := of_eq_true (eq_self _)
theorem lit3 {h : H} {x y z : Int} : Sl iE (h.new (.cells (3 * 1) [.i .i64 x, .i .i64 y, .i .i64 z])) (.sl h.nx 0 3 1) [x, y, z] := by
  refine .inr ⟨h.nx, 0, 3 * 1, _, rfl, get_new_same, rfl, by simp, fun i hi => ?_⟩
  obtain rfl | rfl | rfl : i = 0 ∨ i = 1 ∨ i = 2 := by have : i < 3 := hi; omega
  · rfl
  · rfl
  · rfl
end
end Go.Ev
namespace Go.Ev
open Go Go.RowKit
section
variable {fs : T EF} {h : H} {v w : V} {A B L : List Int}
def f39_Ip (h : H) (v : V) (i : Nat) (fr : Fr) (h1 : H) : Prop := i ≤ 5 ∧ Grow h.nx.nat h h1 ∧ ∃ u G, Sl iE h1 u G ∧ Own h.nx.nat u ∧ plB G = true ∧ fr.get (K.ofNat 0) = some (v) ∧ fr.get (K.ofNat 3) = some (u) ∧ fr.get (K.ofNat 4) = some (.i .i64 (i : Int))
theorem f39p_ret (k : CallsT fs) (k40 : fs.get (K.ofNat 40) = some f40) (hv : Sr iE h v L) (hc : HC h) : Ret fs f39 [v] h fun r h' => ∃ G, Sl iE h' r G ∧ Own h.nx.nat r ∧ plB G = true ∧ Grow h.nx.nat h h' := by
  apply ret_of rfl
  show W fs none f39_c _ _ _
  unfold f39_c
  have g0 := Grow.new (Nat.le_refl h.nx.nat) (.cells (1 * 1) [.i .i64 1])
  have l0 := lit1 (h := h) (x := 1)
  simp (disch := omega) only [f39_r0, f39_r1, f39_r2, ↓reduceIte, bz]
  refine W_loop (f39_Ip h v) (fun i => 5 - i) ?_ 0 ⟨by omega, g0, _, [1], l0, fun id off n sz e => by cases e; exact Nat.le_refl _, rfl, by simp (disch := omega) only [getK_set, Nat.reduceEqDiff, ↓reduceIte, and_self, Int.natCast_zero]⟩
  clear g0 l0
  rintro i fr h1 ⟨hi, hG, u, G, su, ou, pG, g0, g3, g4⟩
  obtain ⟨l1, l6, l7, l8⟩ := plB_len pG
  have hc1 := hG.hc hc
  have hv1 := hv.grow hc hG
  have e1 := hv1.len
  unfold f39_l0
  have out : ∀ fr : Fr, fr.get (K.ofNat 3) = some u → W fs none (.seq (.reg f39_r11) .ret) (retK f39 fun r h' => ∃ G, Sl iE h' r G ∧ Own h.nx.nat r ∧ plB G = true ∧ Grow h.nx.nat h h') fr h1 := by
    clear g0 g3 g4 fr
    intro fr g3
    simp (disch := omega) only [f39_r11, f39_rs, Option.some.injEq, exists_eq_left', ↓reduceIte, g3, bz]
    exact ⟨G, su, ou, pG, hG⟩
  by_cases hlt : i < L.length
  · have d1 : decide ((i : Int) < (L.length : Int)) = true := decide_eq_true (by omega)
    by_cases h5 : i < 5
    · have d2 : decide ((i : Int) < 5) = true := decide_eq_true (by omega)
      obtain ⟨p, p1, p2⟩ := hv1.at i hlt
      have p2 : loadV h1 p one? = .ok (.i .i64 L[i]) h1 := p2
      have d3 : decide ((3 : Int) = 0) = false := rfl
      have d4 : decide ((2 : Int) = 0) = false := rfl
      have e4 : fw .i64 ((i : Int) + 1) = ((i + 1 : Nat) : Int) := by rw [fw64 (by omega) (by omega)]; rfl
      have g3l := Grow.new (Nat.le_refl h1.nx.nat) (.cells (2 * 1) [.i .i64 (fw .i64 (1 + fw .i64 ((fw .u64 L[i]).tmod 3))), .i .i64 1])
      have l2 := lit2 (h := h1) (x := fw .i64 (1 + fw .i64 ((fw .u64 L[i]).tmod 3))) (y := 1)
      have hv2 := hv1.grow hc1 g3l
      obtain ⟨q, q1, q2⟩ := hv2.at i hlt
      obtain rfl : p = q := (RV.ok.inj ((p1 .i64 h1).symm.trans (q1 .i64 h1))).1
      have q2 : loadV (h1.new (.cells (2 * 1) [.i .i64 (fw .i64 (1 + fw .i64 ((fw .u64 L[i]).tmod 3))), .i .i64 1])) p one? = .ok (.i .i64 L[i]) _ := q2
      have fin : ∀ {Q : Ex → Fr → H → Prop} {fr : Fr} {h2 : H} {b : V} {B : List Int}, Grow h1.nx.nat h1 h2 → Sl iE h2 b B → 1 ≤ B.length → B.length ≤ 3 → B.getD (B.length - 1) 0 = 1 → fr.get (K.ofNat 0) = some (v) ∧ fr.get (K.ofNat 3) = some (u) ∧ fr.get (K.ofNat 4) = some (.i .i64 (i : Int)) ∧ fr.get (K.ofNat 5) = some (b) → (∀ fr h3 u' G', Grow h.nx.nat h h3 → Sl iE h3 u' G' → Own h.nx.nat u' → plB G' = true → fr.get (K.ofNat 0) = some (v) ∧ fr.get (K.ofNat 3) = some (u') ∧ fr.get (K.ofNat 4) = some (.i .i64 (i : Int)) → Q .normal fr h3) → W fs none (.seq (.reg f39_r7) (.seq (.reg f39_r8) (.cond (.t (K.ofNat 49)) (.reg f39_r9) .skip))) Q fr h2 := by
        rintro Q fr h2 b B gB sB b1 b3 bl ⟨g0, g3, g4, g5⟩ hQ
        have su2 := su.grow hc1 gB
        simp (disch := omega) only [f39_r7, Nat.reduceEqDiff, ↓reduceIte, g3, g5, bz]
        refine (callP_0 (ef := f40) k40 rfl (f40_ret k ⟨l1, by omega⟩ ⟨b1, by omega⟩ su2.sr sB.sr (gB.hc hc1))).mono ?_
        rintro r h3 ⟨u', rfl, su', ou', g'⟩
        have G3 := hG.trans ((gB.trans (g'.low gB.nx)).low hG.nx)
        cases hp : prB (prd G B) with
        | false =>
          simp (disch := omega) only [f39_r8, Nat.reduceEqDiff, ↓reduceIte, Bool.false_eq_true, bz]
          exact hQ _ h3 u G G3 (su2.grow (gB.hc hc1) g') ou pG (by simp (disch := omega) only [getK_set, Nat.reduceEqDiff, ↓reduceIte, g0, g3, g4, and_self])
        | true =>
          simp (disch := omega) only [f39_r8, f39_r9, Nat.reduceEqDiff, ↓reduceIte, bz]
          have hl := prd_len (A := G) (B := B)
          have h6 : (prd G B).length ≤ 6 ∧ smB (prd G B) = true := by
            unfold prB at hp
            rw [Bool.and_eq_true, decide_eq_true_eq] at hp
            exact hp
          have gl := sm_get l7 (G.length - 1)
          have gl' : -30 ≤ G.getD (G.length - 1) 0 ∧ G.getD (G.length - 1) 0 ≤ 30 := by
            unfold bigB at gl
            rw [Bool.or_eq_false_iff, decide_eq_false_iff_not, decide_eq_false_iff_not] at gl
            omega
          have hlast := prd_last l1 b1 l8 (by rw [bl]; decide) gl' (by rw [bl]; decide)
          have pP : plB (prd G B) = true := by
            unfold plB
            rw [decide_eq_true (show 1 ≤ (prd G B).length by omega), decide_eq_true h6.1, h6.2, decide_eq_true hlast]; rfl
          exact hQ _ h3 u' (prd G B) G3 su' (fun id off n sz e => by have := ou' _ _ _ _ e; have := hG.nx; have := gB.nx; omega) pP (by simp (disch := omega) only [getK_set, Nat.reduceEqDiff, ↓reduceIte, g0, g4, and_self])
      simp only [w_seq, w_reg] at fin
      by_cases h2 : L[i].tmod 2 = 0
      · have d5 : decide (L[i].tmod 2 = 0) = true := decide_eq_true h2
        have gg := g3l.trans ((Grow.new (Nat.le_refl _) (.cells (3 * 1) [.i .i64 (fw .i64 (1 + fw .i64 ((fw .u64 L[i]).tmod 2))), .i .i64 1, .i .i64 1])).low g3l.nx)
        simp (disch := omega) only [f39_r3, f39_r4, f39_r5, f39_r6, x_conv, bin_rem, of3, Nat.reduceEqDiff, ↓reduceIte, of5, g0, g4, e1, d1, d2, p1, p2, q2, d5, fill_3, set_3, bz]
        refine fin gg lit3 (by simp) (by simp) rfl (by simp (disch := omega) only [getK_set, Nat.reduceEqDiff, ↓reduceIte, g0, g3, g4, and_self]) ?_
        rintro fr h3 u' G' G3 s' o' p' ⟨g0, g3, g4⟩
        simp (disch := omega) only [f39_r10, ↓reduceIte, g4, e4, bz]
        exact ⟨i + 1, by omega, by omega, G3, u', G', s', o', p', by simp (disch := omega) only [getK_set, Nat.reduceEqDiff, ↓reduceIte, g0, g3, and_self]⟩
      · have d5 : decide (L[i].tmod 2 = 0) = false := decide_eq_false h2
        simp (disch := omega) only [f39_r3, f39_r4, f39_r5, x_conv, bin_rem, of3, Nat.reduceEqDiff, ↓reduceIte, Bool.false_eq_true, of5, g0, g4, e1, d1, d2, p1, p2, q2, d5, bz]
        refine fin g3l l2 (by simp) (by simp) rfl (by simp (disch := omega) only [getK_set, Nat.reduceEqDiff, ↓reduceIte, g0, g3, g4, and_self]) ?_
        rintro fr h3 u' G' G3 s' o' p' ⟨g0, g3, g4⟩
        simp (disch := omega) only [f39_r10, ↓reduceIte, g4, e4, bz]
        exact ⟨i + 1, by omega, by omega, G3, u', G', s', o', p', by simp (disch := omega) only [getK_set, Nat.reduceEqDiff, ↓reduceIte, g0, g3, and_self]⟩
    · have d2 : decide ((i : Int) < 5) = false := decide_eq_false (by omega)
      simp (disch := omega) only [f39_r3, Nat.reduceEqDiff, ↓reduceIte, Bool.false_eq_true, of5, g0, g4, e1, d1, d2, bz]
      exact out _ (by simp (disch := omega) only [getK_set, Nat.reduceEqDiff, ↓reduceIte, g3])
  · have d1 : decide ((i : Int) < (L.length : Int)) = false := decide_eq_false (by omega)
    simp (disch := omega) only [f39_r3, Nat.reduceEqDiff, ↓reduceIte, Bool.false_eq_true, of5, g0, g4, e1, d1, bz]
    exact out _ (by simp (disch := omega) only [getK_set, Nat.reduceEqDiff, ↓reduceIte, g3])
end
end Go.Ev
namespace Go.Ev
open Go Go.RowKit
noncomputable def f51_r0 : List EOper := [oG 4 (.alloc 2 [(.i .i64 (.ofNat 0)), (.i .i64 (.ofNat 0))])]
noncomputable def f51_r1 : List EOper := [oG 5 (.mv (tG 1)), oG 6 (.bin .lss (tG 5) (cG 0))]
noncomputable def f51_r2 : List EOper := [oG 7 (.mv (tG 0)), oG 8 (.neg (tG 7)), oG 9 (.mv (tG 1)), oG 10 (.neg (tG 9)), oG 11 (.call (fG 52) [(tG 8), (tG 10)]), ⟨none, none, .st 2 (tG 4) (tG 11)⟩]
noncomputable def f51_r3 : List EOper := [oG 12 (.mv (tG 0)), oG 13 (.mv (tG 1)), oG 14 (.max (tG 13) (cG 1)), oG 15 (.call (fG 52) [(tG 12), (tG 14)]), ⟨none, none, .st 2 (tG 4) (tG 15)⟩]
noncomputable def f51_c : EC := (.seq (.reg f51_r0) (.seq (.seq (.reg f51_r1) (.cond (tG 6) (.seq (.reg f51_r2) .ret) .skip)) (.seq (.reg f51_r3) .ret)))
noncomputable def f51 : EF := ⟨16, [.celln (.ofNat 4) 2], f51_c, none⟩
theorem f51_rs : f51.rs = [.celln (.ofNat 4) 2] := of_eq_true (eq_self _)
noncomputable def f9_r0 : List EOper := [oG 2 (.as (.c (.b false)))]
noncomputable def f9_r1 : List EOper := [oG 3 (.as (cG 0))]
noncomputable def f9_r2 : List EOper := [oG 19 (.mv (tG 3)), oG 20 (.bin .lss (tG 19) (cG 2))]
noncomputable def f9_r3 : List EOper := [oG 23 (.mv (tG 0)), oG 24 (.call (fG 25) [(tG 23)]), oG 4 (.as (tG 24))]
noncomputable def f9_r4 : List EOper := [oG 25 (.mv (tG 3)), oG 26 (.bin .eql (tG 25) (cG 1))]
noncomputable def f9_r5 : List EOper := [oG 27 (.mv (tG 0)), oG 28 (.call (fG 39) [(tG 27)]), oG 4 (.as (tG 28))]
noncomputable def f9_r6 : List EOper := [oG 29 (.mv (tG 4)), oG 30 (.len (tG 29)), oG 31 (.bin .sub (tG 30) (cG 1)), oG 5 (.as (tG 31))]
noncomputable def f9_r7 : List EOper := [oG 32 (.mv (tG 4)), oG 33 (.mv (tG 5)), oG 34 (.iads 1 (tG 32) (tG 33)), oG 35 (.ld (tG 34)), oG 36 (.bin .lss (tG 35) (cG 0))]
noncomputable def f9_r8 : List EOper := [oG 6 (.as (cG 0))]
noncomputable def f9_r9 : List EOper := [oG 37 (.mv (tG 6)), oG 38 (.mv (tG 5)), oG 39 (.bin .leq (tG 37) (tG 38))]
noncomputable def f9_r10 : List EOper := [oG 42 (.mv (tG 4)), oG 43 (.mv (tG 6)), oG 44 (.mv (tG 4)), oG 45 (.mv (tG 6)), oG 46 (.iads 1 (tG 44) (tG 45)), oG 47 (.ld (tG 46)), oG 48 (.neg (tG 47)), oG 49 (.iads 1 (tG 42) (tG 43)), ⟨none, none, .st 1 (tG 49) (tG 48)⟩]
noncomputable def f9_r11 : List EOper := [oG 40 (.mv (tG 6)), oG 41 (.bin .add (tG 40) (cG 1)), oG 6 (.as (tG 41))]
noncomputable def f9_l0 : EC := (.seq (.seq (.reg f9_r9) (.cond (tG 39) .skip (.exit 2))) (.seq (.block 3 (.reg f9_r10)) (.reg f9_r11)))
noncomputable def f9_r12 : List EOper := [oG 51 (.mv (tG 4)), oG 52 (.call (fG 15) [(tG 51)]), oG 50 (.mv (tG 52)), oG 53 (.ext (tG 50) 0), oG 54 (.ext (tG 50) 1), oG 7 (.as (tG 53)), oG 8 (.as (tG 54))]
noncomputable def f9_r13 : List EOper := [oG 56 (.mv (tG 4)), oG 57 (.call (fG 20) [(tG 56)]), oG 55 (.mv (tG 57)), oG 58 (.ext (tG 55) 0), oG 59 (.ext (tG 55) 1), oG 9 (.as (tG 58)), oG 10 (.as (tG 59))]
noncomputable def f9_r14 : List EOper := [oG 61 (.mv (tG 4)), oG 62 (.call (fG 17) [(tG 61)]), oG 60 (.mv (tG 62)), oG 63 (.ext (tG 60) 0), oG 64 (.ext (tG 60) 1), oG 11 (.as (tG 63)), oG 12 (.as (tG 64))]
noncomputable def f9_r15 : List EOper := [oG 65 (.mv (tG 8)), oG 66 (.bin .neq (tG 65) (cG 0)), oG 67 (.mv (tG 66)), gG 68 67 false (.mv (tG 12)), gG 69 67 false (.bin .neq (tG 68) (cG 0)), oG 70 (.pick (tG 67) (.c (.b true)) (tG 69)), oG 71 (.mv (tG 70)), gG 72 71 false (.mv (tG 11)), gG 73 71 false (.len (tG 72)), gG 74 71 false (.mv (tG 5)), gG 75 71 false (.bin .neq (tG 73) (tG 74)), oG 76 (.pick (tG 71) (.c (.b true)) (tG 75))]
noncomputable def f9_r16 : List EOper := [oG 2 (.as (.c (.b false)))]
noncomputable def f9_r17 : List EOper := [oG 13 (.as (.c (.b true)))]
noncomputable def f9_r18 : List EOper := [oG 14 (.as (cG 0))]
noncomputable def f9_r19 : List EOper := [oG 77 (.mv (tG 14)), oG 78 (.mv (tG 5)), oG 79 (.bin .lss (tG 77) (tG 78))]
noncomputable def f9_r20 : List EOper := [oG 82 (.mv (tG 13)), oG 83 (.mv (tG 82)), gG 84 83 true (.mv (tG 11)), gG 85 83 true (.mv (tG 14)), gG 86 83 true (.iads 1 (tG 84) (tG 85)), gG 87 83 true (.ld (tG 86)), gG 88 83 true (.bin .gtr (tG 87) (cG 0)), oG 89 (.pick (tG 83) (tG 88) (.c (.b false))), oG 13 (.as (tG 89))]
noncomputable def f9_r21 : List EOper := [oG 80 (.mv (tG 14)), oG 81 (.bin .add (tG 80) (cG 1)), oG 14 (.as (tG 81))]
noncomputable def f9_l1 : EC := (.seq (.seq (.reg f9_r19) (.cond (tG 79) .skip (.exit 4))) (.seq (.block 5 (.reg f9_r20)) (.reg f9_r21)))
noncomputable def f9_r22 : List EOper := [oG 90 (.mv (tG 7)), oG 91 (.mv (tG 13)), oG 92 (.eqk (.one none) true (tG 90) (tG 91)), oG 93 (.mv (tG 92)), gG 94 93 false (.mv (tG 7)), gG 95 93 false (.mv (tG 94)), gG 96 95 true (.mv (tG 10)), gG 97 95 true (.bin .neq (tG 96) (cG 0)), gG 98 93 false (.pick (tG 95) (tG 97) (.c (.b false))), oG 99 (.pick (tG 93) (.c (.b true)) (tG 98))]
noncomputable def f9_r23 : List EOper := [oG 2 (.as (.c (.b false)))]
noncomputable def f9_r24 : List EOper := [oG 100 (.mv (tG 10)), oG 101 (.bin .eql (tG 100) (cG 0))]
noncomputable def f9_r25 : List EOper := [oG 15 (.as (.c (.b true)))]
noncomputable def f9_r26 : List EOper := [oG 16 (.as (cG 1))]
noncomputable def f9_r27 : List EOper := [oG 102 (.mv (tG 9)), oG 103 (.len (tG 102)), oG 104 (.mv (tG 5)), oG 105 (.bin .add (tG 104) (cG 1)), oG 106 (.bin .neq (tG 103) (tG 105))]
noncomputable def f9_r28 : List EOper := [oG 2 (.as (.c (.b false)))]
noncomputable def f9_r29 : List EOper := [oG 17 (.as (cG 0))]
noncomputable def f9_r30 : List EOper := [oG 107 (.mv (tG 17)), oG 108 (.mv (tG 5)), oG 109 (.bin .leq (tG 107) (tG 108))]
noncomputable def f9_r31 : List EOper := [oG 112 (.mv (tG 9)), oG 113 (.mv (tG 17)), oG 114 (.iads 1 (tG 112) (tG 113)), oG 115 (.ld (tG 114)), oG 116 (.len (tG 115)), oG 117 (.bin .lss (tG 116) (cG 1)), oG 118 (.mv (tG 117)), gG 119 118 false (.mv (tG 9)), gG 120 118 false (.mv (tG 17)), gG 121 118 false (.iads 1 (tG 119) (tG 120)), gG 122 118 false (.ld (tG 121)), gG 123 118 false (.iads 2 (tG 122) (cG 0)), gG 124 118 false (.iadr 2 1 (tG 123) (cG 1)), gG 125 118 false (.ld (tG 124)), gG 126 118 false (.bin .lss (tG 125) (cG 1)), oG 127 (.pick (tG 118) (.c (.b true)) (tG 126))]
noncomputable def f9_r32 : List EOper := [oG 2 (.as (.c (.b false)))]
noncomputable def f9_r33 : List EOper := [oG 128 (.mv (tG 15)), oG 129 (.mv (tG 128)), gG 130 129 true (.mv (tG 9)), gG 131 129 true (.mv (tG 17)), gG 132 129 true (.iads 1 (tG 130) (tG 131)), gG 133 129 true (.ld (tG 132)), gG 134 129 true (.iads 2 (tG 133) (cG 0)), gG 135 129 true (.iadr 2 1 (tG 134) (cG 0)), gG 136 129 true (.ld (tG 135)), gG 137 129 true (.bin .gtr (tG 136) (cG 0)), oG 138 (.pick (tG 129) (tG 137) (.c (.b false))), oG 15 (.as (tG 138))]
noncomputable def f9_r34 : List EOper := [oG 139 (.mv (tG 17)), oG 140 (.bin .gtr (tG 139) (cG 0))]
noncomputable def f9_r35 : List Stage := [⟨[oG 141 (.mv (tG 9)), oG 142 (.mv (tG 17)), oG 143 (.iads 1 (tG 141) (tG 142)), oG 144 (.ld (tG 143)), oG 145 (.iads 2 (tG 144) (cG 0)), oG 146 (.ldn 2 (tG 145)), oG 147 (.mv (tG 11)), oG 148 (.mv (tG 17)), oG 149 (.bin .sub (tG 148) (cG 1)), oG 150 (.iads 1 (tG 147) (tG 149)), oG 151 (.ld (tG 150)), oG 152 (.mv (tG 16))], [], (some (oG 153 (.call (fG 51) [(tG 151), (tG 152)]))), []⟩, ⟨[oG 154 (.eqk (.many [(some .i64), (some .i64)]) true (tG 146) (tG 153))], [oG 141 (.mv (tG 9)), oG 142 (.mv (tG 17)), oG 143 (.iads 1 (tG 141) (tG 142)), oG 144 (.ld (tG 143)), oG 145 (.iads 2 (tG 144) (cG 0)), oG 146 (.ldn 2 (tG 145))], none, []⟩]
noncomputable def f9_r36 : List EOper := [oG 2 (.as (.c (.b false)))]
noncomputable def f9_r37 : List EOper := [oG 155 (.mv (tG 11)), oG 156 (.mv (tG 17)), oG 157 (.bin .sub (tG 156) (cG 1)), oG 158 (.iads 1 (tG 155) (tG 157)), oG 159 (.ld (tG 158)), oG 16 (.as (tG 159))]
noncomputable def f9_r38 : List EOper := [oG 110 (.mv (tG 17)), oG 111 (.bin .add (tG 110) (cG 1)), oG 17 (.as (tG 111))]
noncomputable def f9_l2 : EC := (.seq (.seq (.reg f9_r30) (.cond (tG 109) .skip (.exit 6))) (.seq (.block 7 (.seq (.seq (.reg f9_r31) (.cond (tG 127) (.seq (.reg f9_r32) .ret) .skip)) (.seq (.reg f9_r33) (.seq (.reg f9_r34) (.cond (tG 140) (.seq (.seq (.draw f9_r35) (.cond (tG 154) (.seq (.reg f9_r36) .ret) .skip)) (.reg f9_r37)) .skip))))) (.reg f9_r38)))
noncomputable def f9_r39 : List Stage := [⟨[oG 160 (.mv (tG 15)), oG 161 (.mv (tG 7)), oG 162 (.eqk (.one none) true (tG 160) (tG 161)), oG 163 (.mv (tG 162)), gG 164 163 false (.mv (tG 9)), gG 165 163 false (.iads 1 (tG 164) (cG 0)), gG 166 163 false (.ld (tG 165)), gG 167 163 false (.iads 2 (tG 166) (cG 0)), gG 168 163 false (.ldn 2 (tG 167)), gG 169 163 false (.mv (tG 4)), gG 170 163 false (.mv (tG 5)), gG 171 163 false (.iads 1 (tG 169) (tG 170)), gG 172 163 false (.ld (tG 171))], [], (some (gG 173 163 false (.call (fG 52) [(tG 172), (cG 1)]))), []⟩, ⟨[gG 174 163 false (.eqk (.many [(some .i64), (some .i64)]) true (tG 168) (tG 173)), oG 175 (.pick (tG 163) (.c (.b true)) (tG 174))], [gG 164 163 false (.mv (tG 9)), gG 165 163 false (.iads 1 (tG 164) (cG 0)), gG 166 163 false (.ld (tG 165)), gG 167 163 false (.iads 2 (tG 166) (cG 0)), gG 168 163 false (.ldn 2 (tG 167))], none, []⟩]
noncomputable def f9_r40 : List EOper := [oG 2 (.as (.c (.b false)))]
noncomputable def f9_r41 : List EOper := [oG 18 (.as (cG 0))]
noncomputable def f9_r42 : List EOper := [oG 176 (.mv (tG 18)), oG 177 (.mv (tG 5)), oG 178 (.bin .leq (tG 176) (tG 177)), oG 179 (.mv (tG 178)), gG 180 179 true (.mv (tG 7)), oG 181 (.pick (tG 179) (tG 180) (.c (.b false)))]
noncomputable def f9_r43 : List EOper := [oG 184 (.mv (tG 4)), oG 185 (.mv (tG 18)), oG 186 (.iads 1 (tG 184) (tG 185)), oG 187 (.ld (tG 186)), oG 188 (.bin .leq (tG 187) (cG 0))]
noncomputable def f9_r44 : List EOper := [oG 2 (.as (.c (.b false)))]
noncomputable def f9_r45 : List EOper := [oG 182 (.mv (tG 18)), oG 183 (.bin .add (tG 182) (cG 1)), oG 18 (.as (tG 183))]
noncomputable def f9_l3 : EC := (.seq (.seq (.reg f9_r42) (.cond (tG 181) .skip (.exit 8))) (.seq (.block 9 (.seq (.reg f9_r43) (.cond (tG 188) (.seq (.reg f9_r44) .ret) .skip))) (.reg f9_r45)))
noncomputable def f9_r46 : List EOper := [oG 21 (.mv (tG 3)), oG 22 (.bin .add (tG 21) (cG 1)), oG 3 (.as (tG 22))]
noncomputable def f9_l4 : EC := (.seq (.seq (.reg f9_r2) (.cond (tG 20) .skip (.exit 0))) (.seq (.block 1 (.seq (.reg f9_r3) (.seq (.seq (.reg f9_r4) (.cond (tG 26) (.reg f9_r5) .skip)) (.seq (.reg f9_r6) (.seq (.seq (.reg f9_r7) (.cond (tG 36) (.seq (.reg f9_r8) (.block 2 (.loop f9_l0))) .skip)) (.seq (.reg f9_r12) (.seq (.reg f9_r13) (.seq (.reg f9_r14) (.seq (.seq (.reg f9_r15) (.cond (tG 76) (.seq (.reg f9_r16) .ret) .skip)) (.seq (.reg f9_r17) (.seq (.seq (.reg f9_r18) (.block 4 (.loop f9_l1))) (.seq (.seq (.reg f9_r22) (.cond (tG 99) (.seq (.reg f9_r23) .ret) .skip)) (.seq (.seq (.reg f9_r24) (.cond (tG 101) (.seq (.reg f9_r25) (.seq (.reg f9_r26) (.seq (.seq (.reg f9_r27) (.cond (tG 106) (.seq (.reg f9_r28) .ret) .skip)) (.seq (.seq (.reg f9_r29) (.block 6 (.loop f9_l2))) (.seq (.draw f9_r39) (.cond (tG 175) (.seq (.reg f9_r40) .ret) .skip)))))) .skip)) (.seq (.reg f9_r41) (.block 8 (.loop f9_l3)))))))))))))))) (.reg f9_r46)))
noncomputable def f9_r47 : List EOper := [oG 189 (.call (fG 19) []), oG 2 (.as (tG 189))]
noncomputable def f9_c : EC := (.seq (.reg f9_r0) (.seq (.seq (.reg f9_r1) (.block 0 (.loop f9_l4))) (.seq (.reg f9_r47) .ret)))
noncomputable def f9 : EF := ⟨190, [.tmp (.ofNat 2)], f9_c, none⟩
theorem f9_rs : f9.rs = [.tmp (.ofNat 2)] := of_eq_true (eq_self _)
section
variable {fs : T EF} {h : H} {v w u : V} {A L : List Int} {a b : Int}
theorem rat_num_pos {q : Rat} : 0 < q ↔ q.num > 0 := by
  rw [Rat.lt_iff]; simp
theorem f51_ret (k52 : fs.get (.ofNat 52) = some f52) (k83 : fs.get (.ofNat 83) = some f83) (ha : a.natAbs ≤ M63) (hb : b.natAbs ≤ M63) (h0 : b ≠ 0) : Ret fs f51 [.i .i64 a, .i .i64 b] h fun r h' => r = .agg (frL (Rat.divInt a b)) ∧ Grow h.nx.nat h h' := by
  apply ret_of rfl
  show W fs none f51_c _ _ _
  unfold f51_c
  have gA := Grow.new (Nat.le_refl h.nx.nat) (.cells 2 [.i .i64 0, .i .i64 0])
  have a1 : (h.new (.cells 2 [.i .i64 0, .i .i64 0])).get h.nx = .cells 2 [.i .i64 0, .i .i64 0] := get_new_same
  have n1 := nx_new h (.cells 2 [.i .i64 0, .i .i64 0])
  have m1 : fw .i64 (0 - a) = -a := by rw [fw_63 (by omega)]; omega
  have m2 : fw .i64 (0 - b) = -b := by rw [fw_63 (by omega)]; omega
  by_cases hn : b < 0
  · have d1 : decide (b < 0) = true := decide_eq_true hn
    simp (disch := omega) only [f51_r0, f51_r1, f51_r2, Nat.reduceEqDiff, ↓reduceIte, d1, isub_eq, m1, m2, bz]
    refine (callP_0 (ef := f52) k52 rfl (f52_ret k83 (by omega) (by omega) (by omega))).mono ?_
    rintro r h' ⟨rfl, g⟩
    have e : Rat.divInt (-a) (-b) = Rat.divInt a b := Rat.neg_divInt_neg a b
    rw [e]
    unfold frL
    have st := store2 (x := .i .i64 (Rat.divInt a b).num) (y := .i .i64 ((Rat.divInt a b).den : Int)) ((g.old h.nx (by omega)).trans a1)
    have rd := read2 (h := h'.put h.nx (.cells 2 [.i .i64 (Rat.divInt a b).num, .i .i64 ((Rat.divInt a b).den : Int)])) (id := h.nx) get_put_same
    have := g.nx
    simp (disch := omega) only [f51_rs, Option.some.injEq, exists_eq_left', Nat.reduceEqDiff, ↓reduceIte, st, rd, bz]
    exact (gA.trans (g.low gA.nx)).trans (Grow.put (Nat.le_refl _) (by omega) _)
  · have d1 : decide (b < 0) = false := decide_eq_false hn
    have m3 : max b 1 = b := by omega
    simp (disch := omega) only [f51_r0, f51_r1, f51_r3, x_max, max_ii, Nat.reduceEqDiff, ↓reduceIte, Bool.false_eq_true, d1, m3, bz]
    refine (callP_0 (ef := f52) k52 rfl (f52_ret k83 ha hb (by omega))).mono ?_
    rintro r h' ⟨rfl, g⟩
    unfold frL
    have st := store2 (x := .i .i64 (Rat.divInt a b).num) (y := .i .i64 ((Rat.divInt a b).den : Int)) ((g.old h.nx (by omega)).trans a1)
    have rd := read2 (h := h'.put h.nx (.cells 2 [.i .i64 (Rat.divInt a b).num, .i .i64 ((Rat.divInt a b).den : Int)])) (id := h.nx) get_put_same
    have := g.nx
    simp (disch := omega) only [f51_rs, Option.some.injEq, exists_eq_left', Nat.reduceEqDiff, ↓reduceIte, st, rd, bz]
    exact (gA.trans (g.low gA.nx)).trans (Grow.put (Nat.le_refl _) (by omega) _)
structure CallsRo (fs : T EF) : Prop extends CallsL20 fs, CallsT fs, CallsS fs where
  c40 : fs.get (K.ofNat 40) = some f40
  c25 : fs.get (K.ofNat 25) = some f25
  c39 : fs.get (K.ofNat 39) = some f39
  c15 : fs.get (K.ofNat 15) = some f15
  c17 : fs.get (K.ofNat 17) = some f17
  c20 : fs.get (K.ofNat 20) = some f20
  c51 : fs.get (K.ofNat 51) = some f51
  c52 : fs.get (K.ofNat 52) = some f52
  c83 : fs.get (K.ofNat 83) = some f83
  aw : ∀ (h : H) (P : V → H → Prop), CallP fs (.fn (K.ofNat 19) []) [] h P = P (.b true) h
def ngP (A : List Int) (i : Nat) : List Int := (A.take i).map (fun a => -a) ++ A.drop i
theorem ngP_len {i : Nat} : (ngP A i).length = A.length := by simp [ngP]; omega
theorem ngP_0 : ngP A 0 = A := by simp [ngP]
theorem ngP_at {i : Nat} (hi : i < A.length) : (ngP A i)[i]'(by rw [ngP_len]; exact hi) = A[i] := by
  unfold ngP
  rw [List.getElem_append_right (by simp; omega)]
  simp [Nat.min_eq_left (Nat.le_of_lt hi)]
theorem ngP_set {i : Nat} (hi : i < A.length) : (ngP A i).set i (-A[i]) = ngP A (i + 1) := by
  unfold ngP
  rw [List.set_append_right _ _ (by rw [List.length_map, List.length_take]; omega), List.take_succ_eq_append_getElem hi, List.map_append, List.append_assoc, List.drop_eq_getElem_cons hi]
  congr 1
  rw [show i - ((A.take i).map fun a => -a).length = 0 by simp; omega]
  rfl
theorem ngP_all : ngP A A.length = A.map fun a => -a := by simp [ngP]
theorem ng_pl (hA : plB A = true) (hn : A.getD (A.length - 1) 0 < 0) : plB (A.map fun a => -a) = true ∧ 0 < (A.map fun a => -a).getD ((A.map fun a => -a).length - 1) 0 := by
  obtain ⟨l1, l2, l3, l4⟩ := plB_len hA
  have hl : (A.map fun a => -a).length = A.length := by simp
  have hlast : (A.map fun a => -a).getD ((A.map fun a => -a).length - 1) 0 = -(A.getD (A.length - 1) 0) := by
    rw [hl, getD_lt (by rw [hl]; omega), getD_lt (by omega), List.getElem_map]
  refine ⟨?_, by omega⟩
  unfold plB
  rw [hl] at hlast ⊢
  have hs : smB (A.map fun a => -a) = true := by
    unfold smB at l3 ⊢
    rw [Bool.not_eq_true', List.any_eq_false] at l3 ⊢
    intro x hx
    obtain ⟨y, hy, rfl⟩ := List.mem_map.1 hx
    have := l3 y hy
    unfold bigB at this ⊢
    simp only [Bool.or_eq_true, decide_eq_true_eq] at this ⊢
    omega
  rw [hs, decide_eq_true l1, decide_eq_true l2, decide_eq_true (show (A.map fun a => -a).getD (A.length - 1) 0 ≠ 0 by omega)]; rfl
def f9_N (h0 : H) (v a : V) (A : List Int) (rd : Int) (i : Nat) (fr : Fr) (h1 : H) : Prop := i ≤ A.length ∧ Grow h0.nx.nat h0 h1 ∧ Sl iE h1 a (ngP A i) ∧ fr.get (K.ofNat 0) = some (v) ∧ fr.get (K.ofNat 3) = some (.i .i64 rd) ∧ fr.get (K.ofNat 4) = some (a) ∧ fr.get (K.ofNat 5) = some (.i .i64 ((A.length - 1 : Nat) : Int)) ∧ fr.get (K.ofNat 6) = some (.i .i64 (i : Int))
theorem f9_neg {Q : Ex → Fr → H → Prop} {C : EC} {h0 h1 : H} {a : V} {rd : Int} {fr : Fr} (hc : HC h0) (pA : plB A = true) (oa : Own h0.nx.nat a) (G : Grow h0.nx.nat h0 h1) (sa : Sl iE h1 a A) (g : fr.get (.ofNat 0) = some (v) ∧ fr.get (.ofNat 3) = some (.i .i64 rd) ∧ fr.get (.ofNat 4) = some (a))
    (hq : ∀ fr' h' B, Grow h0.nx.nat h0 h' → Sl iE h' a B → plB B = true → 0 < B.getD (B.length - 1) 0 → fr'.get (K.ofNat 0) = some v → fr'.get (K.ofNat 3) = some (.i .i64 rd) → fr'.get (K.ofNat 4) = some a → fr'.get (K.ofNat 5) = some (.i .i64 ((B.length - 1 : Nat) : Int)) → W fs none C Q fr' h') : W fs none (.seq (.reg f9_r6) (.seq (.seq (.reg f9_r7) (.cond (.t (K.ofNat 36)) (.seq (.reg f9_r8) (.block 2 (.loop f9_l0))) .skip)) C)) Q fr h1 := by
  obtain ⟨g0, g3, g4⟩ := g
  obtain ⟨l1, l2, l3, l4⟩ := plB_len pA
  have hc1 := G.hc hc
  have el := sa.sr.len
  have ei : fw .i64 ((A.length : Int) - 1) = ((A.length - 1 : Nat) : Int) := by rw [fw64 (by omega) (by omega)]; omega
  obtain ⟨p, p1, p2⟩ := sa.at (A.length - 1) (by omega)
  have p2 : loadV h1 p one? = .ok (.i .i64 A[A.length - 1]) h1 := p2
  have eg : A.getD (A.length - 1) 0 = A[A.length - 1] := getD_lt (by omega)
  by_cases hn : A[A.length - 1] < 0
  · have d1 : decide (A[A.length - 1] < 0) = true := decide_eq_true hn
    simp (disch := omega) only [f9_r6, f9_r7, f9_r8, Nat.reduceEqDiff, ↓reduceIte, g4, el, ei, p1, p2, d1, bz]
    refine W_loop (f9_N h0 v a A rd) (fun i => A.length - i) ?_ 0 ⟨by omega, G, by rw [ngP_0]; exact sa, by simp (disch := omega) only [getK_set, Nat.reduceEqDiff, ↓reduceIte, g0, g3, g4, and_self, Int.natCast_zero]⟩
    clear g0 g3 g4 fr
    rintro i fr h2 ⟨hi, G2, s2, g0, g3, g4, g5, g6⟩
    have hc2 := G2.hc hc
    unfold f9_l0
    by_cases hlt : i < A.length
    · have d1 : decide ((i : Int) ≤ ((A.length - 1 : Nat) : Int)) = true := decide_eq_true (by omega)
      have hl : i < (ngP A i).length := by rw [ngP_len]; exact hlt
      have e4 : fw .i64 ((i : Int) + 1) = ((i + 1 : Nat) : Int) := by rw [fw64 (by omega) (by omega)]; rfl
      obtain ⟨q, q1, q2⟩ := s2.at i hl
      have q2 : loadV h2 q one? = .ok (.i .i64 A[i]) h2 := by rw [← ngP_at hlt]; exact q2
      have hb := sm_nat (sm_at l3 i)
      rw [getD_lt hlt] at hb
      have m1 : fw .i64 (0 - A[i]) = -A[i] := by rw [fw64 (by omega) (by omega)]; omega
      obtain ⟨p', id, m, cs', a1, a2, a3, ⟨off, n', sz, a4⟩, a5⟩ := s2.st (i := i) hl (x := -A[i]) (c := .i .i64 (-A[i])) rfl rfl hc2
      rw [ngP_set hlt] at a3
      obtain rfl : q = p' := by have := q1 .i64 h2; rw [a1] at this; cases this; rfl
      simp (disch := omega) only [f9_r9, f9_r10, f9_r11, Nat.reduceEqDiff, ↓reduceIte, g4, g5, g6, d1, q1, q2, isub_eq, m1, a2, e4, bz]
      exact ⟨i + 1, by omega, by omega, G2.trans (Grow.put (oa _ _ _ _ a4) a5 _), a3, by simp (disch := omega) only [getK_set, Nat.reduceEqDiff, ↓reduceIte, g0, g3, g4, g5, and_self]⟩
    · have d1 : decide ((i : Int) ≤ ((A.length - 1 : Nat) : Int)) = false := decide_eq_false (by omega)
      obtain rfl : i = A.length := by omega
      rw [ngP_all] at s2
      obtain ⟨b1, b2⟩ := ng_pl pA (by rw [eg]; exact hn)
      have hl : (A.map fun a => -a).length = A.length := by simp
      simp (disch := omega) only [f9_r9, Nat.reduceEqDiff, ↓reduceIte, Bool.false_eq_true, g5, g6, d1, bz]
      exact hq _ _ _ G2 s2 b1 b2 (by simp (disch := omega) only [getK_set, Nat.reduceEqDiff, ↓reduceIte, g0]) (by simp (disch := omega) only [getK_set, Nat.reduceEqDiff, ↓reduceIte, g3]) (by simp (disch := omega) only [getK_set, Nat.reduceEqDiff, ↓reduceIte, g4]) (by rw [hl]; simp (disch := omega) only [getK_set, Nat.reduceEqDiff, ↓reduceIte, g5])
  · have d1 : decide (A[A.length - 1] < 0) = false := decide_eq_false hn
    simp (disch := omega) only [f9_r6, f9_r7, Nat.reduceEqDiff, ↓reduceIte, Bool.false_eq_true, g4, el, ei, p1, p2, d1, bz]
    exact hq _ _ _ G sa pA (by omega) (by simp (disch := omega) only [getK_set, Nat.reduceEqDiff, ↓reduceIte, g0]) (by simp (disch := omega) only [getK_set, Nat.reduceEqDiff, ↓reduceIte, g3]) (by simp (disch := omega) only [getK_set, Nat.reduceEqDiff, ↓reduceIte, g4]) (by simp (disch := omega) only [getK_set, Nat.reduceEqDiff, ↓reduceIte])
def andN (f : Nat → Bool) : Nat → Bool
  | 0 => true
  | k + 1 => andN f k && f k
theorem andN_iff {f : Nat → Bool} : ∀ {k : Nat}, andN f k = true ↔ ∀ j, j < k → f j = true
  | 0 => ⟨fun _ j hj => by omega, fun _ => rfl⟩
  | k + 1 => by
    show (andN f k && f k) = true ↔ _
    rw [Bool.and_eq_true, andN_iff]
    exact ⟨fun ⟨h1, h2⟩ j hj => by
      by_cases e : j = k
      · subst e; exact h2
      · exact h1 j (by omega), fun h => ⟨fun j hj => h j (by omega), h k (by omega)⟩⟩
def mP (A : List Int) (j : Nat) : Bool := decide (mnA A (j + 1) > 0)
noncomputable def rP (A : List Int) (j : Nat) : Bool := decide ((reA A j 0).num > 0)
theorem stB_mP (l2 : A.length ≤ 6) (hs : smB A = true) (hl : 0 < A.getD (A.length - 1) 0) : stB A = andN (mP A) (A.length - 1) := by
  have hm := minL_len (A := A)
  have e : upL A = A := by unfold upL; rw [if_neg (by omega)]
  unfold stB
  rw [e, Bool.eq_iff_iff, andN_iff, Bool.not_eq_true', List.any_eq_false]
  constructor
  · intro h1 j hj
    have := h1 _ (List.getElem_mem (l := minL A) (n := j) (by omega))
    rw [mn_of hs l2] at this
    unfold mP
    simp only [decide_eq_true_eq] at this ⊢
    omega
  · intro h1 x hx
    obtain ⟨j, hj, rfl⟩ := List.getElem_of_mem hx
    have := h1 j (by omega)
    rw [mn_of hs l2]
    unfold mP at this
    simp only [decide_eq_true_eq] at this ⊢
    omega
theorem rP_mP (l1 : 1 ≤ A.length) (l2 : A.length ≤ 6) (hl : 0 < A.getD (A.length - 1) 0) : andN (rP A) A.length = andN (mP A) (A.length - 1) := by
  rw [Bool.eq_iff_iff, andN_iff, andN_iff]
  have key : ∀ {q : Rat}, 0 < q ↔ q.num > 0 := rat_num_pos
  constructor
  · intro h1 j hj
    have := minor_pos l1 l2 (fun r hr => key.2 (of_decide_eq_true (h1 r hr))) (j + 1) (by omega)
    exact decide_eq_true this
  · intro h1 j hj
    exact decide_eq_true (key.1 (first_pos l1 l2 hl (fun k hk => of_decide_eq_true (h1 k (by omega))) j hj))
theorem mP_nz (l1 : 1 ≤ A.length) (l2 : A.length ≤ 6) (hl : 0 < A.getD (A.length - 1) 0) (h : andN (mP A) (A.length - 1) = true) (j : Nat) (hj : j < A.length) : reA A j 0 ≠ 0 := by
  rw [andN_iff] at h
  have := first_pos l1 l2 hl (fun k hk => of_decide_eq_true (h k (by omega))) j hj
  intro e; rw [e] at this; exact absurd this (by decide)
def f9_C (h2 : H) (v a : V) (A : List Int) (rd : Int) (s : Bool) (i : Nat) (fr : Fr) (h1 : H) : Prop := i ≤ A.length ∧ h1 = h2 ∧ fr.get (K.ofNat 0) = some (v) ∧ fr.get (K.ofNat 3) = some (.i .i64 rd) ∧ fr.get (K.ofNat 4) = some (a) ∧ fr.get (K.ofNat 5) = some (.i .i64 ((A.length - 1 : Nat) : Int)) ∧ fr.get (K.ofNat 7) = some (.b s) ∧ fr.get (K.ofNat 18) = some (.i .i64 (i : Int))
theorem f9_b2 {Q : Ex → Fr → H → Prop} {h1 : H} {a : V} {rd : Int} {fr : Fr} {s : Bool} (l1 : 1 ≤ A.length) (l2 : A.length ≤ 6) (hs : s = true → ∀ i, i < A.length → 0 < A.getD i 0) (sa : Sr iE h1 a A) (g : fr.get (.ofNat 0) = some (v) ∧ fr.get (.ofNat 3) = some (.i .i64 rd) ∧ fr.get (.ofNat 4) = some (a) ∧ fr.get (.ofNat 5) = some (.i .i64 ((A.length - 1 : Nat) : Int)) ∧ fr.get (.ofNat 7) = some (.b s))
    (hq : ∀ fr', fr'.get (K.ofNat 0) = some v → fr'.get (K.ofNat 3) = some (.i .i64 rd) → Q .normal fr' h1) : W fs none (.seq (.reg f9_r41) (.block 8 (.loop f9_l3))) Q fr h1 := by
  obtain ⟨g0, g3, g4, g5, g7⟩ := g
  simp (disch := omega) only [f9_r41, bz]
  refine W_loop (f9_C h1 v a A rd s) (fun i => A.length - i) ?_ 0 ⟨by omega, rfl, by simp (disch := omega) only [getK_set, Nat.reduceEqDiff, ↓reduceIte, g0, g3, g4, g5, g7, and_self, Int.natCast_zero]⟩
  clear g0 g3 g4 g5 g7 fr
  rintro i fr h2 ⟨hi, rfl, g0, g3, g4, g5, g7, g18⟩
  unfold f9_l3
  by_cases hlt : i < A.length
  · have d1 : decide ((i : Int) ≤ ((A.length - 1 : Nat) : Int)) = true := decide_eq_true (by omega)
    cases s with
    | false =>
      simp (disch := omega) only [f9_r42, Nat.reduceEqDiff, ↓reduceIte, Bool.false_eq_true, g5, g7, g18, d1, bz]
      exact hq _ (by simp (disch := omega) only [getK_set, Nat.reduceEqDiff, ↓reduceIte, g0]) (by simp (disch := omega) only [getK_set, Nat.reduceEqDiff, ↓reduceIte, g3])
    | true =>
      have := hs rfl i hlt
      rw [getD_lt hlt] at this
      obtain ⟨q, q1, q2⟩ := sa.at i hlt
      have q2 : loadV h2 q one? = .ok (.i .i64 A[i]) h2 := q2
      have d2 : decide (A[i] ≤ 0) = false := decide_eq_false (by omega)
      have e4 : fw .i64 ((i : Int) + 1) = ((i + 1 : Nat) : Int) := by rw [fw64 (by omega) (by omega)]; rfl
      simp (disch := omega) only [f9_r42, f9_r43, f9_r45, Nat.reduceEqDiff, ↓reduceIte, Bool.false_eq_true, g4, g5, g7, g18, d1, d2, q1, q2, e4, bz]
      exact ⟨i + 1, by omega, by omega, rfl, by simp (disch := omega) only [getK_set, Nat.reduceEqDiff, ↓reduceIte, g0, g3, g4, g5, g7, and_self]⟩
  · have d1 : decide ((i : Int) ≤ ((A.length - 1 : Nat) : Int)) = false := decide_eq_false (by omega)
    simp (disch := omega) only [f9_r42, Nat.reduceEqDiff, ↓reduceIte, Bool.false_eq_true, g5, g18, d1, bz]
    exact hq _ (by simp (disch := omega) only [getK_set, Nat.reduceEqDiff, ↓reduceIte, g0]) (by simp (disch := omega) only [getK_set, Nat.reduceEqDiff, ↓reduceIte, g3])
noncomputable def f9_B2 : EC := .seq (.reg f9_r41) (.block 8 (.loop f9_l3))
noncomputable def f9_B1 : EC := .seq (.seq (.reg f9_r24) (.cond (.t (.ofNat 101)) (.seq (.reg f9_r25) (.seq (.reg f9_r26) (.seq (.seq (.reg f9_r27) (.cond (.t (.ofNat 106)) (.seq (.reg f9_r28) .ret) .skip)) (.seq (.seq (.reg f9_r29) (.block 6 (.loop f9_l2))) (.seq (.draw f9_r39) (.cond (.t (.ofNat 175)) (.seq (.reg f9_r40) .ret) .skip)))))) .skip)) f9_B2
noncomputable def f9_B0 : EC := .seq (.seq (.reg f9_r18) (.block 4 (.loop f9_l1))) (.seq (.seq (.reg f9_r22) (.cond (.t (.ofNat 99)) (.seq (.reg f9_r23) .ret) .skip)) f9_B1)
def f9_F (h2 : H) (v a t m : V) (A : List Int) (rd : Int) (s : Bool) (r : Nat) (fr : Fr) (h1 : H) : Prop := r ≤ A.length ∧ Grow h2.nx.nat h2 h1 ∧ fr.get (K.ofNat 0) = some (v) ∧ fr.get (K.ofNat 3) = some (.i .i64 rd) ∧ fr.get (K.ofNat 4) = some (a) ∧ fr.get (K.ofNat 5) = some (.i .i64 ((A.length - 1 : Nat) : Int)) ∧ fr.get (K.ofNat 7) = some (.b s) ∧ fr.get (K.ofNat 9) = some (t) ∧ fr.get (K.ofNat 11) = some (m) ∧ fr.get (K.ofNat 15) = some (.b (andN (rP A) r)) ∧ fr.get (K.ofNat 16) = some (.i .i64 (mnA A (r - 1))) ∧ fr.get (K.ofNat 17) = some (.i .i64 (r : Int))
theorem mn_le (hs : smB A = true) {k : Nat} (hk : k ≤ 5) : (mnA A k).natAbs ≤ M63 := by
  have := (detZ_of (el := elN A) (fun r c => elN_le hs) hk (row := 0) (rem := List.range k) List.nodup_range (by simp)).2
  have := dbN_le hk
  unfold mnA M63
  omega
theorem tb_at0 {i : Nat} (hi : i < (tbL A).length) (h1 : 0 < ((tbL A)[i]).length) : ((tbL A)[i])[0] = ((reA A i 0).num, ((reA A i 0).den : Int)) := by
  simp [tbL, rwL, frP, reA]
theorem tb_len0 {i : Nat} (hi : i < (tbL A).length) : ((tbL A)[i]).length = rwN A i := by
  rw [tbL_at, rwL_len]
set_option maxRecDepth 100000 in
theorem f9_b1 {Q : Ex → Fr → H → Prop} {h1 : H} {a o m : V} {us : List V} {rd : Int} {fr : Fr} (k : CallsRo fs) (pA : plB A = true) (hl : 0 < A.getD (A.length - 1) 0) (hc : HC h1) (sa : Sr iE h1 a A) (sm : Sr iE h1 m (minL A)) (so : Srr h1 o us (tbL A)) (nz : ∀ j, j + 1 < A.length → reA A j 0 ≠ 0) (g : fr.get (.ofNat 0) = some (v) ∧ fr.get (.ofNat 3) = some (.i .i64 rd) ∧ fr.get (.ofNat 4) = some (a) ∧ fr.get (.ofNat 5) = some (.i .i64 ((A.length - 1 : Nat) : Int)) ∧ fr.get (.ofNat 7) = some (.b (stB A)) ∧ fr.get (.ofNat 9) = some (o) ∧ fr.get (.ofNat 10) = some (.i .i64 0) ∧ fr.get (.ofNat 11) = some (m))
    (hq : ∀ fr' h', Grow h1.nx.nat h1 h' → fr'.get (K.ofNat 0) = some v → fr'.get (K.ofNat 3) = some (.i .i64 rd) → Q .normal fr' h') : W fs none f9_B1 Q fr h1 := by
  obtain ⟨g0, g3, g4, g5, g7, g9, g10, g11⟩ := g
  obtain ⟨l1, l2, l3, l4⟩ := plB_len pA
  have hml := minL_len (A := A)
  have q0 : decide ((0 : Int) = 0) = true := rfl
  have e1 := so.out.len
  rw [so.len, tbL_len] at e1
  have ei : fw .i64 (((A.length - 1 : Nat) : Int) + 1) = (A.length : Int) := by rw [fw64 (by omega) (by omega)]; omega
  have d0 : decide ((A.length : Int) ≠ (A.length : Int)) = false := decide_eq_false fun e => e rfl
  have rin : ∀ i, i < A.length → inR .i64 (reA A i 0).num = true ∧ inR .i64 ((reA A i 0).den : Int) = true := fun i hi => (tb_b l1 l2 l3).ra i hi (fun j hj => nz j (by omega))
  unfold f9_B1
  simp (disch := omega) only [f9_r24, f9_r25, f9_r26, f9_r27, f9_r29, Nat.reduceEqDiff, ↓reduceIte, Bool.false_eq_true, decide_eq_true_eq, g5, g9, g10, e1, ei, d0, bz]
  refine W_loop (f9_F h1 v a o m A rd (stB A)) (fun i => A.length - i) ?_ 0 ⟨by omega, Grow.refl _ _, by simp (disch := omega) only [getK_set, Nat.reduceEqDiff, ↓reduceIte, g0, g3, g4, g5, g7, g9, g11, and_self, Int.natCast_zero, andN, Nat.zero_sub, mn_0]⟩
  clear g0 g3 g4 g5 g7 g9 g10 g11 fr
  rintro r fr h2 ⟨hr, G2, g0, g3, g4, g5, g7, g9, g11, g15, g16, g17⟩
  have hc2 := G2.hc hc
  have so2 := so.grow hc G2
  have sm2 := sm.grow hc G2
  have sa2 := sa.grow hc G2
  unfold f9_l2
  by_cases hlt : r < A.length
  · have d1 : decide ((r : Int) ≤ ((A.length - 1 : Nat) : Int)) = true := decide_eq_true (by omega)
    have e4 : fw .i64 ((r : Int) + 1) = ((r + 1 : Nat) : Int) := by rw [fw64 (by omega) (by omega)]; rfl
    have hiu : r < us.length := by rw [so.len, tbL_len]; exact hlt
    have hit : r < (tbL A).length := by rw [tbL_len]; exact hlt
    obtain ⟨p, p1, p2, p3⟩ := so2.out.atb r hiu
    have p2 : loadV h2 p one? = .ok us[r] h2 := p2
    have s1 := so2.inn r hiu hit
    have e2 := s1.len
    have hpos : 0 < ((tbL A)[r]).length := by rw [tb_len0]; unfold rwN; omega
    have d2 : decide (((((tbL A)[r]).length : Nat) : Int) < 1) = false := decide_eq_false (by omega)
    obtain ⟨id, q, q1, q2, q3, q4⟩ := s1.at2 hpos
    rw [tb_at0 hit hpos] at q2 q3 q4
    have q1 : ∀ k h1, iadsV 2 us[r] (.i k 0) h1 = .ok (.p id q) h1 := q1
    have q2 : loadV h2 (.p id q) (many? 2) = .ok (.agg (frL (reA A r 0))) h2 := q2
    have hden : decide (((reA A r 0).den : Int) < 1) = false := decide_eq_false (by have := (reA A r 0).den_pos; omega)
    have hst : andN (rP A) (r + 1) = (andN (rP A) r && decide ((reA A r 0).num > 0)) := rfl
    have bu := s1.beq
    have hb15 : ∀ {R : Ex → Fr → H → Prop} {fr : Fr}, fr.get (K.ofNat 0) = some (v) ∧ fr.get (K.ofNat 3) = some (.i .i64 rd) ∧ fr.get (K.ofNat 4) = some (a) ∧ fr.get (K.ofNat 5) = some (.i .i64 ((A.length - 1 : Nat) : Int)) ∧ fr.get (K.ofNat 7) = some (.b (stB A)) ∧ fr.get (K.ofNat 9) = some (o) ∧ fr.get (K.ofNat 11) = some (m) ∧ fr.get (K.ofNat 15) = some (.b (andN (rP A) r)) ∧ fr.get (K.ofNat 16) = some (.i .i64 (mnA A (r - 1))) ∧ fr.get (K.ofNat 17) = some (.i .i64 (r : Int)) → (∀ fr', fr'.get (K.ofNat 0) = some v → fr'.get (K.ofNat 3) = some (.i .i64 rd) → fr'.get (K.ofNat 4) = some a → fr'.get (K.ofNat 5) = some (.i .i64 ((A.length - 1 : Nat) : Int)) → fr'.get (K.ofNat 7) = some (.b (stB A)) → fr'.get (K.ofNat 9) = some o → fr'.get (K.ofNat 11) = some m → fr'.get (K.ofNat 15) = some (.b (andN (rP A) (r + 1))) → fr'.get (K.ofNat 16) = some (.i .i64 (mnA A (r - 1))) → fr'.get (K.ofNat 17) = some (.i .i64 (r : Int)) → R .normal fr' h2) → W fs none (.reg f9_r33) R fr h2 := by
      clear g0 g3 g4 g5 g7 g9 g11 g15 g16 g17 fr
      rintro R fr ⟨g0, g3, g4, g5, g7, g9, g11, g15, g16, g17⟩ hR
      rw [hst] at hR
      generalize andN (rP A) r = bb at g15 hR
      cases bb with
      | true =>
        simp (disch := omega) only [f9_r33, x_iadr, Nat.reduceEqDiff, ↓reduceIte, ix2_0, g9, g15, g17, p1, p2, q1, q3, bz]
        exact hR _ (by simp (disch := omega) only [getK_set, Nat.reduceEqDiff, ↓reduceIte, g0]) (by simp (disch := omega) only [getK_set, Nat.reduceEqDiff, ↓reduceIte, g3]) (by simp (disch := omega) only [getK_set, Nat.reduceEqDiff, ↓reduceIte, g4]) (by simp (disch := omega) only [getK_set, Nat.reduceEqDiff, ↓reduceIte, g5]) (by simp (disch := omega) only [getK_set, Nat.reduceEqDiff, ↓reduceIte, g7]) (by simp (disch := omega) only [getK_set, Nat.reduceEqDiff, ↓reduceIte, g9]) (by simp (disch := omega) only [getK_set, Nat.reduceEqDiff, ↓reduceIte, g11]) (by simp (disch := omega) only [getK_set, ↓reduceIte, Bool.true_and]) (by simp (disch := omega) only [getK_set, Nat.reduceEqDiff, ↓reduceIte, g16]) (by simp (disch := omega) only [getK_set, Nat.reduceEqDiff, ↓reduceIte, g17])
      | false =>
        simp (disch := omega) only [f9_r33, Nat.reduceEqDiff, ↓reduceIte, Bool.false_eq_true, g15, bz]
        exact hR _ (by simp (disch := omega) only [getK_set, Nat.reduceEqDiff, ↓reduceIte, g0]) (by simp (disch := omega) only [getK_set, Nat.reduceEqDiff, ↓reduceIte, g3]) (by simp (disch := omega) only [getK_set, Nat.reduceEqDiff, ↓reduceIte, g4]) (by simp (disch := omega) only [getK_set, Nat.reduceEqDiff, ↓reduceIte, g5]) (by simp (disch := omega) only [getK_set, Nat.reduceEqDiff, ↓reduceIte, g7]) (by simp (disch := omega) only [getK_set, Nat.reduceEqDiff, ↓reduceIte, g9]) (by simp (disch := omega) only [getK_set, Nat.reduceEqDiff, ↓reduceIte, g11]) (by simp (disch := omega) only [getK_set, ↓reduceIte, Bool.false_and]) (by simp (disch := omega) only [getK_set, Nat.reduceEqDiff, ↓reduceIte, g16]) (by simp (disch := omega) only [getK_set, Nat.reduceEqDiff, ↓reduceIte, g17])
    simp only [w_reg] at hb15
    cases r with
    | zero =>
      have d3 : decide (((0 : Nat) : Int) > 0) = false := rfl
      simp (disch := omega) only [f9_r30, f9_r31, x_iadr, Nat.reduceEqDiff, ↓reduceIte, Bool.false_eq_true, Bool.not_false, ix2_1, g5, g9, g17, d1, p1, p2, e2, d2, q1, q4, hden, bz]
      refine hb15 (by simp (disch := omega) only [getK_set, Nat.reduceEqDiff, ↓reduceIte, g0, g3, g4, g5, g7, g9, g11, g15, g16, g17, and_self]) ?_
      clear g0 g3 g4 g5 g7 g9 g11 g15 g16 g17 fr hb15
      intro fr g0 g3 g4 g5 g7 g9 g11 g15 g16 g17
      simp (disch := omega) only [f9_r34, f9_r38, Nat.reduceEqDiff, ↓reduceIte, Bool.false_eq_true, g17, d3, e4, bz]
      exact ⟨1, by omega, by omega, G2, by simp (disch := omega) only [getK_set, Nat.reduceEqDiff, ↓reduceIte, g0, g3, g4, g5, g7, g9, g11, g15, g16, and_self]⟩
    | succ r =>
      have d3 : decide (((r + 1 : Nat) : Int) > 0) = true := decide_eq_true (by omega)
      simp (disch := omega) only [f9_r30, f9_r31, x_iadr, Nat.reduceEqDiff, ↓reduceIte, Bool.false_eq_true, Bool.not_false, ix2_1, g5, g9, g17, d1, p1, p2, e2, d2, q1, q4, hden, bz]
      refine hb15 (by simp (disch := omega) only [getK_set, Nat.reduceEqDiff, ↓reduceIte, g0, g3, g4, g5, g7, g9, g11, g15, g16, g17, and_self]) ?_
      clear g0 g3 g4 g5 g7 g9 g11 g15 g16 g17 fr hb15
      intro fr g0 g3 g4 g5 g7 g9 g11 g15 g16 g17
      have em : fw .i64 (((r + 1 : Nat) : Int) - 1) = (r : Int) := by rw [fw64 (by omega) (by omega)]; omega
      obtain ⟨pm, m1, m2, m3⟩ := sm2.atb r (by omega)
      rw [mn_of l3 l2] at m2
      have m2 : loadV h2 pm one? = .ok (.i .i64 (mnA A (r + 1))) h2 := m2
      obtain ⟨hm0, hre⟩ := re_mn l1 l2 hlt (fun j hj => nz j (by omega))
      have hdv : Rat.divInt (mnA A (r + 1)) (mnA A r) = reA A (r + 1) 0 := by rw [hre, Rat.divInt_eq_div]
      have hr1 : r + 1 - 1 = r := by omega
      rw [hr1] at g16
      simp (disch := omega) only [f9_r34, f9_r35, xg_ld, xg_iads, Nat.reduceEqDiff, ↓reduceIte, g9, g11, g16, g17, d3, p1, p2, q1, q2, em, m1, m2, bz]
      refine (callP_0 (ef := f51) k.c51 rfl (f51_ret k.c52 k.c83 (mn_le l3 (by omega)) (mn_le l3 (by omega)) hm0)).mono ?_
      rintro x h3 ⟨rfl, gx⟩
      rw [hdv]
      have hc3 := gx.hc hc2
      have G3 := G2.trans (gx.low G2.nx)
      have so3 := so2.grow hc2 gx
      obtain ⟨p', r1, r2, r3⟩ := so3.out.atb (r + 1) hiu
      obtain rfl : p = p' := (RV.ok.inj ((p1 .i64 h2).symm.trans (r1 .i64 h2))).1
      have r2 : loadV h3 p one? = .ok us[r + 1] h3 := r2
      obtain ⟨id', q', t1, t2, _, _⟩ := (so3.inn (r + 1) hiu hit).at2 hpos
      rw [tb_at0 hit hpos] at t2
      have t1 : ∀ k h1, iadsV 2 us[r + 1] (.i k 0) h1 = .ok (.p id' q') h1 := t1
      have t2 : loadV h3 (.p id' q') (many? 2) = .ok (.agg (frL (reA A (r + 1) 0))) h3 := t2
      obtain ⟨rfl, rfl⟩ : id = id' ∧ q = q' := by
        have e := (RV.ok.inj ((q1 .i64 h2).symm.trans (t1 .i64 h2))).1
        cases e; exact ⟨rfl, rfl⟩
      obtain ⟨z1, z2⟩ := rin (r + 1) hlt
      have kq := keq_pp z1 z2
      obtain ⟨pm', n1, n2, _⟩ := (sm2.grow hc2 gx).atb r (by omega)
      rw [mn_of l3 l2] at n2
      have n2 : loadV h3 pm' one? = .ok (.i .i64 (mnA A (r + 1))) h3 := n2
      obtain rfl : pm = pm' := (RV.ok.inj ((m1 .i64 h2).symm.trans (n1 .i64 h2))).1
      have bf : beqV (.agg (frL (reA A (r + 1) 0))) (.agg (frL (reA A (r + 1) 0))) = true := beq_2
      unfold frL at kq bf t2 q2 ⊢
      have e4 : fw .i64 (((r + 1 : Nat) : Int) + 1) = ((r + 1 + 1 : Nat) : Int) := by rw [fw64 (by omega) (by omega)]; rfl
      simp (disch := omega) only [f9_r37, f9_r38, xg_eqk, stay_iads, stay_ld, beq_p, Nat.reduceEqDiff, ↓reduceIte, Bool.false_eq_true, Bool.not_true, g9, g11, g17, p1, q1, r2, r3, t2, em, m1, n2, bu, so.out.beq, kq, bf, cond_true, e4, bz]
      exact ⟨r + 1 + 1, by omega, by omega, G3, by simp (disch := omega) only [getK_set, Nat.reduceEqDiff, ↓reduceIte, g0, g3, g4, g5, g7, g9, g11, g15, and_self, Nat.add_sub_cancel]⟩
  · have d1 : decide ((r : Int) ≤ ((A.length - 1 : Nat) : Int)) = false := decide_eq_false (by omega)
    obtain rfl : r = A.length := by omega
    rw [rP_mP l1 l2 hl, ← stB_mP l2 l3 hl] at g15
    have hiu : 0 < us.length := by rw [so.len, tbL_len]; exact l1
    have hit : 0 < (tbL A).length := by rw [tbL_len]; exact l1
    obtain ⟨p, p1, p2, p3⟩ := so2.out.atb 0 hiu
    have p1 : ∀ k h1, iadsV 1 o (.i k 0) h1 = .ok p h1 := p1
    have p2 : loadV h2 p one? = .ok us[0] h2 := p2
    have s1 := so2.inn 0 hiu hit
    have bu := s1.beq
    have hpos : 0 < ((tbL A)[0]).length := by rw [tb_len0]; unfold rwN; omega
    obtain ⟨id, q, q1, q2, _, _⟩ := s1.at2 hpos
    rw [tb_at0 hit hpos] at q2
    have q1 : ∀ k h1, iadsV 2 us[0] (.i k 0) h1 = .ok (.p id q) h1 := q1
    have q2 : loadV h2 (.p id q) (many? 2) = .ok (.agg (frL (reA A 0 0))) h2 := q2
    obtain ⟨pa, a1, a2, a3⟩ := sa2.atb (A.length - 1) (by omega)
    have a2 : loadV h2 pa one? = .ok (.i .i64 A[A.length - 1]) h2 := a2
    have eg : A.getD (A.length - 1) 0 = A[A.length - 1] := getD_lt (by omega)
    have hr0 : Rat.divInt A[A.length - 1] 1 = reA A 0 0 := by
      have : cA0 A 0 = A.getD (A.length - 1) 0 := by unfold cA0; rw [if_pos (by omega)]; rfl
      rw [re0, this, eg, Rat.divInt_eq_div]; grind
    have ba := sm_nat (sm_at l3 (A.length - 1))
    rw [eg] at ba
    have kb : ∀ b : Bool, keyEq (.one none) (.b b) (.b b) = some true := fun b => keq_b
    simp (disch := omega) only [f9_r30, f9_r39, xg_g, xg_ld, xg_eqk, xg_iads, Nat.reduceEqDiff, ↓reduceIte, Bool.false_eq_true, Bool.not_true, Bool.not_false, g4, g5, g7, g9, g15, g17, d1, kb, p1, p2, q1, q2, a1, a2, cond_true, bz]
    refine (callP_0 (ef := f52) k.c52 rfl (f52_ret k.c83 (by unfold M63; omega) (by decide) (by decide))).mono ?_
    rintro x h3 ⟨rfl, gx⟩
    rw [hr0]
    have hc3 := gx.hc hc2
    have G3 := G2.trans (gx.low G2.nx)
    have so3 := so2.grow hc2 gx
    have sa3 := sa2.grow hc2 gx
    obtain ⟨p', r1, r2, r3⟩ := so3.out.atb 0 hiu
    have r1 : ∀ k h1, iadsV 1 o (.i k 0) h1 = .ok p' h1 := r1
    obtain rfl : p = p' := (RV.ok.inj ((p1 .i64 h2).symm.trans (r1 .i64 h2))).1
    have r2 : loadV h3 p one? = .ok us[0] h3 := r2
    obtain ⟨id', q', t1, t2, _, _⟩ := (so3.inn 0 hiu hit).at2 hpos
    rw [tb_at0 hit hpos] at t2
    have t1 : ∀ k h1, iadsV 2 us[0] (.i k 0) h1 = .ok (.p id' q') h1 := t1
    have t2 : loadV h3 (.p id' q') (many? 2) = .ok (.agg (frL (reA A 0 0))) h3 := t2
    obtain ⟨rfl, rfl⟩ : id = id' ∧ q = q' := by
      have e := (RV.ok.inj ((q1 .i64 h2).symm.trans (t1 .i64 h2))).1
      cases e; exact ⟨rfl, rfl⟩
    obtain ⟨z1, z2⟩ := rin 0 l1
    have kq := keq_pp z1 z2
    have bf : beqV (.agg (frL (reA A 0 0))) (.agg (frL (reA A 0 0))) = true := beq_2
    unfold frL at kq bf t2 q2 ⊢
    simp (disch := omega) only [xg_g, xg_pick, xg_eqk, stay_iads, stay_ld, beq_p, Nat.reduceEqDiff, ↓reduceIte, Bool.false_eq_true, Bool.not_true, Bool.not_false, stay_g, g9, p1, q1, r2, r3, t2, bu, so.out.beq, kq, bf, cond_true, bz]
    refine f9_b2 l1 l2 (s := stB A) (fun hs i hi => all_pos l1 l2 hl (fun j hj => ?_) hi) sa3 (by simp (disch := omega) only [getK_set, Nat.reduceEqDiff, ↓reduceIte, g0, g3, g4, g5, g7, and_self]) (fun fr' g0 g3 => hq fr' h3 G3 g0 g3)
    rw [stB_mP l2 l3 hl, andN_iff] at hs
    exact of_decide_eq_true (hs j (by omega))
def f9_M (h2 : H) (v a t m : V) (A : List Int) (rd f : Int) (i : Nat) (fr : Fr) (h1 : H) : Prop := i ≤ A.length - 1 ∧ h1 = h2 ∧ fr.get (K.ofNat 0) = some (v) ∧ fr.get (K.ofNat 3) = some (.i .i64 rd) ∧ fr.get (K.ofNat 4) = some (a) ∧ fr.get (K.ofNat 5) = some (.i .i64 ((A.length - 1 : Nat) : Int)) ∧ fr.get (K.ofNat 7) = some (.b (stB A)) ∧ fr.get (K.ofNat 9) = some (t) ∧ fr.get (K.ofNat 10) = some (.i .i64 f) ∧ fr.get (K.ofNat 11) = some (m) ∧ fr.get (K.ofNat 13) = some (.b (andN (mP A) i)) ∧ fr.get (K.ofNat 14) = some (.i .i64 (i : Int))
theorem f9_b0 {Q : Ex → Fr → H → Prop} {h1 : H} {a t m : V} {rd f : Int} {fr : Fr} (k : CallsRo fs) (pA : plB A = true) (hl : 0 < A.getD (A.length - 1) 0) (hc : HC h1) (sa : Sr iE h1 a A) (sm : Sr iE h1 m (minL A)) (hf : (f = 0 ∧ (∀ j, j + 1 < A.length → reA A j 0 ≠ 0) ∧ ∃ us, Srr h1 t us (tbL A)) ∨ (f = 4 ∧ ∃ j, j + 1 < A.length ∧ reA A j 0 = 0)) (g : fr.get (.ofNat 0) = some (v) ∧ fr.get (.ofNat 3) = some (.i .i64 rd) ∧ fr.get (.ofNat 4) = some (a) ∧ fr.get (.ofNat 5) = some (.i .i64 ((A.length - 1 : Nat) : Int)) ∧ fr.get (.ofNat 7) = some (.b (stB A)) ∧ fr.get (.ofNat 9) = some (t) ∧ fr.get (.ofNat 10) = some (.i .i64 f) ∧ fr.get (.ofNat 11) = some (m) ∧ fr.get (.ofNat 13) = some (.b true))
    (hq : ∀ fr' h', Grow h1.nx.nat h1 h' → fr'.get (K.ofNat 0) = some v → fr'.get (K.ofNat 3) = some (.i .i64 rd) → Q .normal fr' h') : W fs none f9_B0 Q fr h1 := by
  obtain ⟨g0, g3, g4, g5, g7, g9, g10, g11, g13⟩ := g
  obtain ⟨l1, l2, l3, l4⟩ := plB_len pA
  have hml := minL_len (A := A)
  unfold f9_B0
  simp (disch := omega) only [f9_r18, bz]
  refine W_loop (f9_M h1 v a t m A rd f) (fun i => A.length - i) ?_ 0 ⟨by omega, rfl, by simp (disch := omega) only [getK_set, Nat.reduceEqDiff, ↓reduceIte, g0, g3, g4, g5, g7, g9, g10, g11, g13, and_self, Int.natCast_zero, andN]⟩
  clear g0 g3 g4 g5 g7 g9 g10 g11 g13 fr
  rintro i fr h2 ⟨hi, rfl, g0, g3, g4, g5, g7, g9, g10, g11, g13, g14⟩
  unfold f9_l1
  by_cases hlt : i < A.length - 1
  · have d1 : decide ((i : Int) < ((A.length - 1 : Nat) : Int)) = true := decide_eq_true (by omega)
    have e4 : fw .i64 ((i : Int) + 1) = ((i + 1 : Nat) : Int) := by rw [fw64 (by omega) (by omega)]; rfl
    have u1 : A.length - (i + 1) < A.length - i := by clear hf; omega
    have u2 : i + 1 ≤ A.length - 1 := by clear hf; omega
    obtain ⟨pm, m1, m2, m3⟩ := sm.atb i (by omega)
    rw [mn_of l3 l2] at m2
    have m2 : loadV h2 pm one? = .ok (.i .i64 (mnA A (i + 1))) h2 := m2
    have hst : andN (mP A) (i + 1) = (andN (mP A) i && decide (mnA A (i + 1) > 0)) := rfl
    cases hb : andN (mP A) i with
    | true =>
      rw [hb] at g13 hst
      rw [Bool.true_and] at hst
      simp (disch := omega) only [f9_r19, f9_r20, f9_r21, Nat.reduceEqDiff, ↓reduceIte, g5, g11, g13, g14, d1, m1, m2, e4, bz]
      exact ⟨i + 1, u1, u2, rfl, by simp (disch := omega) only [getK_set, Nat.reduceEqDiff, ↓reduceIte, g0, g3, g4, g5, g7, g9, g10, g11, and_self, hst]⟩
    | false =>
      rw [hb] at g13 hst
      rw [Bool.false_and] at hst
      simp (disch := omega) only [f9_r19, f9_r20, f9_r21, Nat.reduceEqDiff, ↓reduceIte, Bool.false_eq_true, g5, g13, g14, d1, e4, bz]
      exact ⟨i + 1, u1, u2, rfl, by simp (disch := omega) only [getK_set, Nat.reduceEqDiff, ↓reduceIte, g0, g3, g4, g5, g7, g9, g10, g11, and_self, hst]⟩
  · have d1 : decide ((i : Int) < ((A.length - 1 : Nat) : Int)) = false := decide_eq_false (by omega)
    obtain rfl : i = A.length - 1 := by omega
    rw [← stB_mP l2 l3 hl] at g13
    have kb : ∀ b : Bool, keyEq (.one none) (.b b) (.b b) = some true := fun b => keq_b
    rcases hf with ⟨rfl, nz, us, so⟩ | ⟨rfl, j, hj, hz⟩
    · have q0 : decide ((0 : Int) ≠ 0) = false := rfl
      cases hb : stB A with
      | true =>
        rw [hb] at g7 g13
        simp (disch := omega) only [f9_r19, f9_r22, x_eqk, Nat.reduceEqDiff, ↓reduceIte, Bool.false_eq_true, Bool.not_true, Bool.not_false, g5, g7, g10, g13, g14, d1, kb, q0, cond_true, bz]
        exact f9_b1 k pA hl hc sa sm so nz (by simp (disch := omega) only [getK_set, Nat.reduceEqDiff, ↓reduceIte, g0, g3, g4, g5, g7, g9, g10, g11, and_self, hb]) hq
      | false =>
        rw [hb] at g7 g13
        simp (disch := omega) only [f9_r19, f9_r22, x_eqk, Nat.reduceEqDiff, ↓reduceIte, Bool.false_eq_true, Bool.not_true, Bool.not_false, g5, g7, g13, g14, d1, kb, cond_true, bz]
        exact f9_b1 k pA hl hc sa sm so nz (by simp (disch := omega) only [getK_set, Nat.reduceEqDiff, ↓reduceIte, g0, g3, g4, g5, g7, g9, g10, g11, and_self, hb]) hq
    · have hb : stB A = false := by
        rw [Bool.eq_false_iff]
        intro e
        rw [stB_mP l2 l3 hl] at e
        exact mP_nz l1 l2 hl e j (by omega) hz
      have q4 : decide ((4 : Int) = 0) = false := rfl
      have q4' : decide ((4 : Int) ≠ 0) = true := rfl
      rw [hb] at g7 g13
      unfold f9_B1
      simp (disch := omega) only [f9_r19, f9_r22, f9_r24, x_eqk, Nat.reduceEqDiff, ↓reduceIte, Bool.false_eq_true, Bool.not_true, Bool.not_false, g5, g7, g10, g13, g14, d1, kb, q4, cond_true, bz]
      refine f9_b2 l1 l2 (s := false) (fun hs => by cases hs) sa (by simp (disch := omega) only [getK_set, Nat.reduceEqDiff, ↓reduceIte, g0, g3, g4, g5, g7, and_self]) (fun fr' g0 g3 => hq fr' _ (Grow.refl _ _) g0 g3)
theorem f9_rest {Q : Ex → Fr → H → Prop} {h1 : H} {a : V} {rd : Int} {fr : Fr} (k : CallsRo fs) (pA : plB A = true) (hl : 0 < A.getD (A.length - 1) 0) (hc : HC h1) (sa : Sr iE h1 a A) (g : fr.get (.ofNat 0) = some (v) ∧ fr.get (.ofNat 3) = some (.i .i64 rd) ∧ fr.get (.ofNat 4) = some (a) ∧ fr.get (.ofNat 5) = some (.i .i64 ((A.length - 1 : Nat) : Int)))
    (hq : ∀ fr' h', Grow h1.nx.nat h1 h' → fr'.get (K.ofNat 0) = some v → fr'.get (K.ofNat 3) = some (.i .i64 rd) → Q .normal fr' h') : W fs none (.seq (.reg f9_r12) (.seq (.reg f9_r13) (.seq (.reg f9_r14) (.seq (.seq (.reg f9_r15) (.cond (.t (K.ofNat 76)) (.seq (.reg f9_r16) .ret) .skip)) (.seq (.reg f9_r17) f9_B0))))) Q fr h1 := by
  obtain ⟨g0, g3, g4, g5⟩ := g
  obtain ⟨l1, l2, l3, l4⟩ := plB_len pA
  have hml := minL_len (A := A)
  simp (disch := omega) only [f9_r12, ↓reduceIte, g4, bz]
  refine (callP_0 (ef := f15) k.c15 rfl (f15_ret k.toCallsS pA sa hc)).mono ?_
  rintro r h2 ⟨rfl, g2⟩
  have hc2 := g2.hc hc
  simp (disch := omega) only [f9_r13, Nat.reduceEqDiff, ↓reduceIte, g4, bz]
  refine (callP_0 (ef := f20) k.c20 rfl (f20_ret k.toCallsL20 pA (tb_b l1 l2 l3) (sa.grow hc g2) hc2)).mono ?_
  rintro r h3 ⟨g3', h20⟩
  have hc3 := g3'.hc hc2
  have G3 := g2.trans (g3'.low g2.nx)
  obtain ⟨t, f, rfl, hone, hf⟩ : ∃ t f, r = .tup [t, .i .i64 f] ∧ cellsN 1 t = some [t] ∧ ((f = 0 ∧ (∀ j, j + 1 < A.length → reA A j 0 ≠ 0) ∧ ∃ us, Srr h3 t us (tbL A)) ∨ (f = 4 ∧ ∃ j, j + 1 < A.length ∧ reA A j 0 = 0)) := by
    rcases h20 with ⟨nz, o, us, rfl, so⟩ | ⟨z, rfl⟩
    · exact ⟨o, 0, rfl, so.out.one, .inl ⟨rfl, nz, us, so⟩⟩
    · exact ⟨.sn, 4, rfl, rfl, .inr ⟨rfl, z⟩⟩
  clear h20
  simp (disch := omega) only [f9_r14, Nat.reduceEqDiff, ↓reduceIte, g4, bz]
  refine (callP_0 (ef := f17) k.c17 rfl (f17_ret k.toCallsS pA (sa.grow hc G3) hc3)).mono ?_
  rintro r h4 ⟨u, rfl, su, g4'⟩
  have hc4 := g4'.hc hc3
  have G4 := G3.trans (g4'.low G3.nx)
  have eu := su.sr.len
  rw [hml] at eu
  have q0 : decide ((0 : Int) ≠ 0) = false := rfl
  have dl : decide (((A.length - 1 : Nat) : Int) ≠ ((A.length - 1 : Nat) : Int)) = false := decide_eq_false fun e => e rfl
  simp (disch := omega) only [f9_r15, f9_r17, Nat.reduceEqDiff, ↓reduceIte, Bool.false_eq_true, Bool.not_false, g5, q0, eu, dl, bz]
  refine f9_b0 k pA hl hc4 (sa.grow hc G4) su.sr (f := f) (hf.imp (fun ⟨a, b, us, s⟩ => ⟨a, b, us, s.grow hc3 g4'⟩) id) (by simp (disch := omega) only [getK_set, Nat.reduceEqDiff, ↓reduceIte, g0, g3, g4, g5, and_self]) (fun fr' h' g g0 g3 => hq fr' h' (G4.trans (g.low G4.nx)) g0 g3)
def f9_I (h0 : H) (v : V) (n : Nat) (fr : Fr) (h1 : H) : Prop := n ≤ 2 ∧ Grow h0.nx.nat h0 h1 ∧ fr.get (K.ofNat 0) = some (v) ∧ fr.get (K.ofNat 3) = some (.i .i64 (n : Int))
theorem f9_ret (k : CallsRo fs) (hv : Sr iE h v L) (_ : L.length ≤ 9223372036854775807) (hc : HC h) : Ret fs f9 [v] h fun r h' => r = .b true ∧ Grow h.nx.nat h h' := by
  apply ret_of rfl
  show W fs none f9_c _ _ _
  unfold f9_c
  simp (disch := omega) only [f9_r0, f9_r1, bz]
  refine W_loop (f9_I h v) (fun n => 2 - n) ?_ 0 ⟨by omega, Grow.refl _ _, by simp (disch := omega) only [getK_set, Nat.reduceEqDiff, ↓reduceIte, and_self, Int.natCast_zero]⟩
  rintro n fr h1 ⟨hn, G, g0, g3⟩
  have hc1 := G.hc hc
  have hv1 := hv.grow hc G
  by_cases hlt : n < 2
  · have d1 : decide ((n : Int) < 2) = true := decide_eq_true (by omega)
    have e4 : fw .i64 ((n : Int) + 1) = ((n + 1 : Nat) : Int) := by rw [fw64 (by omega) (by omega)]; rfl
    have body : ∀ {Q : Ex → Fr → H → Prop} {a : V} {A : List Int} {h2 : H} {fr : Fr}, Grow h1.nx.nat h1 h2 → Sl iE h2 a A → Own h1.nx.nat a → plB A = true → fr.get (K.ofNat 0) = some (v) ∧ fr.get (K.ofNat 3) = some (.i .i64 (n : Int)) ∧ fr.get (K.ofNat 4) = some (a) → (∀ fr' h', Grow h1.nx.nat h1 h' → fr'.get (K.ofNat 0) = some v → fr'.get (K.ofNat 3) = some (.i .i64 (n : Int)) → Q .normal fr' h') → W fs none (.seq (.reg f9_r6) (.seq (.seq (.reg f9_r7) (.cond (.t (K.ofNat 36)) (.seq (.reg f9_r8) (.block 2 (.loop f9_l0))) .skip)) (.seq (.reg f9_r12) (.seq (.reg f9_r13) (.seq (.reg f9_r14) (.seq (.seq (.reg f9_r15) (.cond (.t (K.ofNat 76)) (.seq (.reg f9_r16) .ret) .skip)) (.seq (.reg f9_r17) f9_B0))))))) Q fr h2 := by
      intro Q a A h2 fr G2 sa oa pA hP hq
      refine f9_neg hc1 pA oa G2 sa hP ?_
      intro fr' h' B G' sB pB hl g0 g3 g4 g5
      exact f9_rest k pB hl (G'.hc hc1) sB.sr ⟨g0, g3, g4, g5⟩ (fun fr'' h'' g z0 z3 => hq fr'' h'' (G'.trans (g.low G'.nx)) z0 z3)
    have e25 := callP_0 (args := [v]) (h := h1) (ef := f25) k.c25 rfl (f25_ret hv1 hc1)
    have fin : ∀ {a : V} {A : List Int} {h2 : H} {fr : Fr}, Grow h1.nx.nat h1 h2 → Sl iE h2 a A → Own h1.nx.nat a → plB A = true → fr.get (K.ofNat 0) = some (v) ∧ fr.get (K.ofNat 3) = some (.i .i64 (n : Int)) ∧ fr.get (K.ofNat 4) = some (a) → W fs none (.seq (.reg f9_r6) (.seq (.seq (.reg f9_r7) (.cond (.t (K.ofNat 36)) (.seq (.reg f9_r8) (.block 2 (.loop f9_l0))) .skip)) (.seq (.reg f9_r12) (.seq (.reg f9_r13) (.seq (.reg f9_r14) (.seq (.seq (.reg f9_r15) (.cond (.t (K.ofNat 76)) (.seq (.reg f9_r16) .ret) .skip)) (.seq (.reg f9_r17) f9_B0))))))) (atK 1 (seqK (W fs none (.reg f9_r46)) (loopK (f9_I h v) (fun n => 2 - n) n (atK 0 (seqK (W fs none (.seq (.reg f9_r47) .ret)) (retK f9 fun r h' => r = .b true ∧ Grow h.nx.nat h h')))))) fr h2 := by
      intro a A h2 fr G2 sa oa pA hP
      refine body G2 sa oa pA hP ?_
      clear g0 g3 hP fr
      intro fr h3 G3 g0 g3
      simp (disch := omega) only [f9_r46, ↓reduceIte, g3, e4, bz]
      exact ⟨n + 1, by omega, by omega, G.trans (G3.low G.nx), by simp (disch := omega) only [getK_set, Nat.reduceEqDiff, ↓reduceIte, g0, and_self]⟩
    simp only [w_seq, w_reg] at fin
    unfold f9_l4
    by_cases h1' : n = 1
    · have d2 : decide ((n : Int) = 1) = true := decide_eq_true (by omega)
      simp (disch := omega) only [f9_r2, f9_r3, Nat.reduceEqDiff, ↓reduceIte, g0, g3, d1, bz]
      refine e25.mono ?_
      rintro a h2 ⟨A, sA, oA, pA, g2⟩
      simp (disch := omega) only [f9_r4, f9_r5, Nat.reduceEqDiff, ↓reduceIte, g0, g3, d2, bz]
      refine (callP_0 (ef := f39) k.c39 rfl (f39p_ret k.toCallsT k.c40 (hv1.grow hc1 g2) (g2.hc hc1))).mono ?_
      rintro b h3 ⟨B, sB, oB, pB, g3'⟩
      simp (disch := omega) only [↓reduceIte, bz]
      have := g2.nx
      exact fin (g2.trans (g3'.low g2.nx)) sB (fun id off n sz e => by have := oB _ _ _ _ e; omega) pB (by simp (disch := omega) only [getK_set, Nat.reduceEqDiff, ↓reduceIte, g0, g3, and_self])
    · have d2 : decide ((n : Int) = 1) = false := decide_eq_false (by omega)
      simp (disch := omega) only [f9_r2, f9_r3, Nat.reduceEqDiff, ↓reduceIte, g0, g3, d1, bz]
      refine e25.mono ?_
      rintro a h2 ⟨A, sA, oA, pA, g2⟩
      simp (disch := omega) only [f9_r4, Nat.reduceEqDiff, ↓reduceIte, Bool.false_eq_true, g3, d2, bz]
      exact fin g2 sA oA pA (by simp (disch := omega) only [getK_set, Nat.reduceEqDiff, ↓reduceIte, g0, g3, and_self])
  · have d1 : decide ((n : Int) < 2) = false := decide_eq_false (by omega)
    unfold f9_l4
    simp (disch := omega) only [f9_r2, f9_r47, f9_rs, Option.some.injEq, exists_eq_left', ↓reduceIte, Bool.false_eq_true, g3, d1, k.aw, bz]
    exact G
end
end Go.Ev
