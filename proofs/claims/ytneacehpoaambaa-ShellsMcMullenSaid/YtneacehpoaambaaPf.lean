/-
  Functions of the seat: joined, link; the reference's Hollows.
  Functions of the seat: Link, dual, Dual; the reference's Link, Dual.
  Functions of the seat: isPure, newPart, fits.
  Functions of the seat: the reference's Pure; the law's pure.
  Functions of the seat: the reference's next.
  Functions of the seat: the reference's Shelling.
  Functions of the seat: the reference's Shellable.
  Maps whose keys are arrays of bools, and whose values are true: sets of these.
  More rules: six arguments, two literals in one stage, literals that must stay, calls of closures.
  Functions of the seat: the reference's Hs.
  The law ShellsCounts.
  What is true of the complexes that the law makes, and of their counts.
  Horner's rule and the sum with binomial coefficients give the same; so do the two sums with signs.
  The law ShellsHollows.
  What is true of complexes: links, duals, and the numbers of holes.
  What is true of shellings: which piece may come next.
-/
import Derived.Test.YtneacehpoaambaaPe
import Derived.Test.YtneacehpoaambaaPd
namespace Go.Ev
open Go Go.RowKit
noncomputable def f44_r0 : List EOper := [⟨(some (K.ofNat 4)), none, .as (.c .sn)⟩]
noncomputable def f44_r1 : List EOper := [⟨(some (K.ofNat 11)), none, .mv (.t (K.ofNat 0))⟩, ⟨(some (K.ofNat 12)), none, .mv (.t (K.ofNat 1))⟩, ⟨(some (K.ofNat 13)), none, .call (.c (.fn (K.ofNat 33) [])) [(.t (K.ofNat 11)), (.t (K.ofNat 12))]⟩, ⟨(some (K.ofNat 5)), none, .as (.t (K.ofNat 13))⟩]
noncomputable def f44_r2 : List EOper := [⟨(some (K.ofNat 14)), none, .mv (.t (K.ofNat 0))⟩, ⟨(some (K.ofNat 15)), none, .mv (.t (K.ofNat 1))⟩, ⟨(some (K.ofNat 16)), none, .call (.c (.fn (K.ofNat 31) [])) [(.t (K.ofNat 14)), (.t (K.ofNat 15))]⟩, ⟨(some (K.ofNat 17)), none, .len (.t (K.ofNat 16))⟩, ⟨(some (K.ofNat 18)), none, .bin .sub (.t (K.ofNat 17)) (.c (.i .i64 (.ofNat 1)))⟩, ⟨(some (K.ofNat 6)), none, .as (.t (K.ofNat 18))⟩]
noncomputable def f44_r3 : List EOper := [⟨(some (K.ofNat 7)), none, .as (.c .sn)⟩]
noncomputable def f44_r4 : List EOper := [⟨(some (K.ofNat 8)), none, .as (.c (.i .i64 (.ofNat 0)))⟩]
noncomputable def f44_r5 : List EOper := [⟨(some (K.ofNat 19)), none, .mv (.t (K.ofNat 8))⟩, ⟨(some (K.ofNat 20)), none, .mv (.t (K.ofNat 6))⟩, ⟨(some (K.ofNat 21)), none, .bin .lss (.t (K.ofNat 19)) (.t (K.ofNat 20))⟩]
noncomputable def f44_r6 : List EOper := [⟨(some (K.ofNat 24)), none, .mv (.t (K.ofNat 5))⟩, ⟨(some (K.ofNat 25)), none, .mv (.t (K.ofNat 8))⟩, ⟨(some (K.ofNat 26)), none, .bin .add (.t (K.ofNat 25)) (.c (.i .i64 (.ofNat 1)))⟩, ⟨(some (K.ofNat 27)), none, .call (.c (.fn (K.ofNat 73) [])) [(.t (K.ofNat 24)), (.t (K.ofNat 26))]⟩, ⟨(some (K.ofNat 28)), none, .mv (.t (K.ofNat 5))⟩, ⟨(some (K.ofNat 29)), none, .mv (.t (K.ofNat 8))⟩, ⟨(some (K.ofNat 30)), none, .bin .add (.t (K.ofNat 29)) (.c (.i .i64 (.ofNat 2)))⟩, ⟨(some (K.ofNat 31)), none, .call (.c (.fn (K.ofNat 73) [])) [(.t (K.ofNat 28)), (.t (K.ofNat 30))]⟩, ⟨(some (K.ofNat 9)), none, .as (.t (K.ofNat 27))⟩, ⟨(some (K.ofNat 10)), none, .as (.t (K.ofNat 31))⟩]
noncomputable def f44_r7 : List EOper := [⟨(some (K.ofNat 32)), none, .mv (.t (K.ofNat 7))⟩, ⟨(some (K.ofNat 33)), none, .mv (.t (K.ofNat 9))⟩, ⟨(some (K.ofNat 34)), none, .len (.t (K.ofNat 33))⟩, ⟨(some (K.ofNat 35)), none, .mv (.t (K.ofNat 9))⟩, ⟨(some (K.ofNat 36)), none, .call (.c (.fn (K.ofNat 74) [])) [(.t (K.ofNat 35))]⟩, ⟨(some (K.ofNat 37)), none, .bin .sub (.t (K.ofNat 34)) (.t (K.ofNat 36))⟩, ⟨(some (K.ofNat 38)), none, .mv (.t (K.ofNat 10))⟩, ⟨(some (K.ofNat 39)), none, .call (.c (.fn (K.ofNat 74) [])) [(.t (K.ofNat 38))]⟩, ⟨(some (K.ofNat 40)), none, .bin .sub (.t (K.ofNat 37)) (.t (K.ofNat 39))⟩, ⟨(some (K.ofNat 41)), none, .bslice 1 1 [(.i .i64 (.ofNat 0))] [(0, 1, (.t (K.ofNat 40)))]⟩, ⟨(some (K.ofNat 42)), none, .app 1 (.t (K.ofNat 32)) (.t (K.ofNat 41))⟩, ⟨(some (K.ofNat 7)), none, .as (.t (K.ofNat 42))⟩]
noncomputable def f44_r8 : List EOper := [⟨(some (K.ofNat 22)), none, .mv (.t (K.ofNat 8))⟩, ⟨(some (K.ofNat 23)), none, .bin .add (.t (K.ofNat 22)) (.c (.i .i64 (.ofNat 1)))⟩, ⟨(some (K.ofNat 8)), none, .as (.t (K.ofNat 23))⟩]
noncomputable def f44_l0 : EC := (.seq (.seq (.reg f44_r5) (.cond (.t (K.ofNat 21)) .skip (.exit 0))) (.seq (.block 1 (.seq (.reg f44_r6) (.reg f44_r7))) (.reg f44_r8)))
noncomputable def f44_r9 : List EOper := [⟨(some (K.ofNat 43)), none, .mv (.t (K.ofNat 7))⟩, ⟨(some (K.ofNat 4)), none, .as (.t (K.ofNat 43))⟩]
noncomputable def f44_c : EC := (.seq (.reg f44_r0) (.seq (.reg f44_r1) (.seq (.reg f44_r2) (.seq (.reg f44_r3) (.seq (.seq (.reg f44_r4) (.block 0 (.loop f44_l0))) (.seq (.reg f44_r9) .ret))))))
noncomputable def f44 : EF := ⟨44, [.tmp (K.ofNat 4)], f44_c, none⟩
noncomputable def f83_r0 : List EOper := [⟨(some (K.ofNat 2)), none, .as (.c (.i .i64 (.ofNat 0)))⟩]
noncomputable def f83_r1 : List EOper := [⟨(some (K.ofNat 3)), none, .as (.c (.i .i64 (.ofNat 0)))⟩]
noncomputable def f83_r2 : List EOper := [⟨(some (K.ofNat 6)), none, .mv (.t (K.ofNat 0))⟩, ⟨(some (K.ofNat 7)), none, .len (.t (K.ofNat 6))⟩, ⟨(some (K.ofNat 8)), none, .mv (.c (.i .i64 (.ofNat 0)))⟩]
noncomputable def f83_r3 : List EOper := [⟨(some (K.ofNat 9)), none, .bin .lss (.t (K.ofNat 8)) (.t (K.ofNat 7))⟩]
noncomputable def f83_r4 : List EOper := [⟨(some (K.ofNat 10)), none, .iads 1 (.t (K.ofNat 6)) (.t (K.ofNat 8))⟩, ⟨(some (K.ofNat 11)), none, .ld (.t (K.ofNat 10))⟩, ⟨(some (K.ofNat 5)), none, .as (.t (K.ofNat 11))⟩]
noncomputable def f83_r5 : List EOper := [⟨(some (K.ofNat 12)), none, .mv (.t (K.ofNat 3))⟩, ⟨(some (K.ofNat 13)), none, .mv (.t (K.ofNat 5))⟩, ⟨(some (K.ofNat 14)), none, .bin .or (.t (K.ofNat 12)) (.t (K.ofNat 13))⟩, ⟨(some (K.ofNat 3)), none, .as (.t (K.ofNat 14))⟩]
noncomputable def f83_r6 : List EOper := [⟨(some (K.ofNat 15)), none, .bin .add (.t (K.ofNat 8)) (.c (.i .i64 (.ofNat 1)))⟩, ⟨(some (K.ofNat 8)), none, .mv (.t (K.ofNat 15))⟩]
noncomputable def f83_l0 : EC := (.seq (.reg f83_r3) (.seq (.cond (.t (K.ofNat 9)) .skip (.exit 0)) (.seq (.block 1 (.seq (.reg f83_r4) (.reg f83_r5))) (.reg f83_r6))))
noncomputable def f83_r7 : List EOper := [⟨(some (K.ofNat 16)), none, .mv (.t (K.ofNat 3))⟩, ⟨(some (K.ofNat 2)), none, .as (.t (K.ofNat 16))⟩]
noncomputable def f83_c : EC := (.seq (.reg f83_r0) (.seq (.reg f83_r1) (.seq (.seq (.reg f83_r2) (.block 0 (.loop f83_l0))) (.seq (.reg f83_r7) .ret))))
noncomputable def f83 : EF := ⟨17, [.tmp (K.ofNat 2)], f83_c, none⟩
theorem f83_rs : f83.rs = [.tmp (K.ofNat 2)] := of_eq_true (eq_self _)
noncomputable def f65_r0 : List EOper := [⟨(some (K.ofNat 2)), none, .box 64 (.t (K.ofNat 0))⟩, ⟨(some (K.ofNat 3)), none, .box 1 (.t (K.ofNat 1))⟩, ⟨(some (K.ofNat 4)), none, .alloc 64 (List.replicate 64 (.b false))⟩]
noncomputable def f65_r1 : List EOper := [⟨(some (K.ofNat 5)), none, .alloc 64 (List.replicate 64 (.b false))⟩]
noncomputable def f65_r2 : List EOper := [⟨(some (K.ofNat 7)), none, .ldn 64 (.t (K.ofNat 2))⟩, ⟨(some (K.ofNat 8)), none, .call (.c (.fn (K.ofNat 78) [])) [(.t (K.ofNat 7))]⟩]
noncomputable def f65_r3 : List EOper := [⟨(some (K.ofNat 6)), none, .as (.t (K.ofNat 9))⟩]
noncomputable def f65_a0 : EC := (.reg f65_r3)
noncomputable def f65_r4 : List EOper := [⟨(some (K.ofNat 10)), none, .mv (.t (K.ofNat 6))⟩, ⟨(some (K.ofNat 11)), none, .mv (.t (K.ofNat 6))⟩, ⟨(some (K.ofNat 12)), none, .ld (.t (K.ofNat 3))⟩, ⟨(some (K.ofNat 13)), none, .bin .and (.t (K.ofNat 11)) (.t (K.ofNat 12))⟩, ⟨(some (K.ofNat 14)), none, .bin .eql (.t (K.ofNat 13)) (.c (.i .i64 (.ofNat 0)))⟩, ⟨(some (K.ofNat 15)), none, .mv (.t (K.ofNat 14))⟩, ⟨(some (K.ofNat 16)), (some ((K.ofNat 15), true)), .mv (.t (K.ofNat 6))⟩, ⟨(some (K.ofNat 17)), (some ((K.ofNat 15), true)), .ld (.t (K.ofNat 3))⟩, ⟨(some (K.ofNat 18)), (some ((K.ofNat 15), true)), .bslice 2 1 [(.i .i64 (.ofNat 0)), (.i .i64 (.ofNat 0))] [(0, 1, (.t (K.ofNat 16))), (1, 1, (.t (K.ofNat 17)))]⟩, ⟨(some (K.ofNat 19)), (some ((K.ofNat 15), true)), .call (.c (.fn (K.ofNat 83) [])) [(.t (K.ofNat 18))]⟩, ⟨(some (K.ofNat 20)), (some ((K.ofNat 15), true)), .iadr 64 1 (.t (K.ofNat 2)) (.t (K.ofNat 19))⟩, ⟨(some (K.ofNat 21)), (some ((K.ofNat 15), true)), .ld (.t (K.ofNat 20))⟩, ⟨(some (K.ofNat 22)), none, .pick (.t (K.ofNat 15)) (.t (K.ofNat 21)) (.c (.b false))⟩, ⟨(some (K.ofNat 23)), none, .iadr 64 1 (.t (K.ofNat 5)) (.t (K.ofNat 10))⟩, ⟨none, none, .st 1 (.t (K.ofNat 23)) (.t (K.ofNat 22))⟩]
noncomputable def f65_b0 : EC := (.block 1 (.reg f65_r4))
noncomputable def f65_r5 : List EOper := [⟨(some (K.ofNat 24)), none, .ldn 64 (.t (K.ofNat 5))⟩, ⟨none, none, .st 64 (.t (K.ofNat 4)) (.t (K.ofNat 24))⟩]
noncomputable def f65_c : EC := (.seq (.reg f65_r0) (.seq (.reg f65_r1) (.seq (.seq (.reg f65_r2) (.block 0 (.rangeF (.t (K.ofNat 8)) [(K.ofNat 9)] f65_a0 f65_b0))) (.seq (.reg f65_r5) .ret))))
noncomputable def f65 : EF := ⟨25, [.celln (K.ofNat 4) 64], f65_c, none⟩
section
variable {fs : T EF} {ro : Option K}
noncomputable def rhv (l : List Nat) (k : Nat) : Int := fw .i64 (fw .i64 (((rowsOf l (k + 1)).length : Int) - (rankS (rowsOf l (k + 1)) : Int)) - (rankS (rowsOf l (k + 2)) : Int))
noncomputable def rhTo (l : List Nat) (i : Nat) : List Int := (List.range i).map (rhv l)
/-- All of them together. -/
def joinS (L : List Nat) : Nat := L.foldl (fun s x => s ||| x) 0
theorem joinS_snoc {L : List Nat} {x : Nat} : joinS (L ++ [x]) = joinS L ||| x := by unfold joinS; rw [List.foldl_append]; rfl
theorem joinS_lt : ∀ {L : List Nat}, Small L → joinS L < 9223372036854775808 := by
  intro L
  refine snoc_ind (P := fun L => Small L → joinS L < 9223372036854775808) (fun _ => by unfold joinS; simp) (fun l x ih h => ?_) L
  rw [joinS_snoc]
  exact Nat.or_lt_two_pow (n := 63) (ih fun y hy => h y (List.mem_append_left _ hy)) (h x (by simp))
def f83_I (h : H) (v : V) (L : List Nat) (i : Nat) (fr : Fr) (h1 : H) : Prop := h1 = h ∧ i ≤ L.length ∧ fr.get (K.ofNat 3) = some (.i .i64 (joinS (L.take i) : Int)) ∧ fr.get (K.ofNat 6) = some (v) ∧ fr.get (K.ofNat 7) = some (.i .i64 (L.length : Int)) ∧ fr.get (K.ofNat 8) = some (.i .i64 (i : Int))
theorem f83_ret {h : H} {v : V} {L : List Nat} (hs : Sl nE h v L) (hsm : Small L) (hn : L.length ≤ 1000) :
    Ret fs f83 [v] h fun u h' => u = .i .i64 (joinS L : Int) ∧ h' = h := by
  apply ret_of rfl
  show W fs none f83_c _ _ _
  unfold f83_c
  simp (disch := omega) only [f83_r0, f83_r1, f83_r2, w_reg, w_seq, w_block, seqK_n, x_nil, x_mv, x_as, x_len, kx, rvP_ok, ev_t, ev_c, getV_some, putD_some, frame_1, of0, getK_set, Nat.reduceEqDiff, ↓reduceIte, hs.len]
  refine W_loop (f83_I h v L) (fun i => L.length - i) ?_ 0 ⟨rfl, Nat.zero_le _, by simp (disch := omega) only [Option.some.injEq, getK_set, Nat.reduceEqDiff, ↓reduceIte, and_self, Int.natCast_zero, List.take_zero]; simp [joinS]⟩
  rintro i fr h1 ⟨rfl, hi, g3, g6, g7, g8⟩
  unfold f83_l0
  by_cases hlt : i < L.length
  · have hlt' : (i : Int) < (L.length : Int) := by omega
    obtain ⟨q, hp1, hp2⟩ := hs.at i hlt
    have hx := hsm.at hlt
    have hj : joinS (L.take i) < 9223372036854775808 := joinS_lt fun y hy => hsm y (List.mem_of_mem_take hy)
    have hn : joinS (L.take (i + 1)) = joinS (L.take i) ||| L[i] := by rw [List.take_succ_eq_append_getElem hlt, joinS_snoc]
    simp (disch := omega) only [f83_r3, f83_r4, f83_r5, f83_r6, w_skip, w_reg, w_seq, w_cond, w_block, seqK_n, atK_n, loopK_n, ckB_b, cbB_b, true_and, x_nil, x_mv, x_as, x_ld, x_bin, x_iads, kx, rvP_ok, okv_some, ev_t, ev_c, getV_some, putD_some, bin_add, bin_lss, of1, getK_set, Nat.reduceEqDiff, ↓reduceIte, g3, g6, g7, g8, hlt', decide_true, hp1, hp2, nE, or_n hj hx, fw64]
    exact ⟨i + 1, by omega, rfl, hlt, by rw [hn]; simp (disch := omega) only [getK_set, Nat.reduceEqDiff, ↓reduceIte, g6, g7, and_self, Int.natCast_add, Int.natCast_one]⟩
  · obtain rfl : i = L.length := by omega
    have hlt' : ¬ (L.length : Int) < (L.length : Int) := by omega
    rw [List.take_length] at g3
    simp (disch := omega) only [f83_r3, f83_r7, f83_rs, w_reg, w_seq, w_cond, w_exit, w_ret, seqK_n, seqK_e, atK_e, loopK_e, ckB_b, cbB_b, retK_r, x_nil, x_mv, x_as, x_bin, kx, rvP_ok, okv_some, ev_t, getV_some, putD_some, bin_lss, oGet_s, readRs_nil, readRs_t, retV_1, Option.some.injEq, exists_eq_left', getK_set, Nat.reduceEqDiff, ↓reduceIte, Bool.false_eq_true, g3, g7, g8, hlt', decide_false, and_self]
theorem fill_2 {fr : Fr} {x y : EO} {z1 z2 : V} : fillE fr [z1, z2] [(0, 1, x), (1, 1, y)] = oGet (cellsN 1 (ev fr x)) none fun cs => oGet (cellsN 1 (ev fr y)) none fun ds => some (setMany (setMany [z1, z2] 0 cs) 1 ds) := of_eq_true (eq_self _)
theorem set_2 {z1 z2 a b : V} : setMany (setMany [z1, z2] 0 [a]) 1 [b] = [a, b] := of_eq_true (eq_self _)
theorem Sl.lit2 {α : Type} {e : α → V} {h : H} {x y : α} : Sl e (h.new (.cells (2 * 1) [e x, e y])) (.sl h.nx 0 2 1) [x, y] := by
  refine .inr ⟨h.nx, 0, 2 * 1, [e x, e y], rfl, get_new_same, rfl, by simp, fun i hi => ?_⟩
  have : i = 0 ∨ i = 1 := by simp at hi; omega
  rcases this with rfl | rfl <;> rfl
noncomputable def lk (B : Nat → Bool) (f x : Nat) : Bool := decide (x &&& f = 0) && B (x ||| f)
noncomputable def linkB (B : Nat → Bool) (f x : Nat) : Bool := decide (x ∈ mem64 B) && lk B f x
structure LnkI (b : Nat) (h : H) (B : Nat → Bool) (f : Nat) (id2 id3 id4 id5 idf idl : K) (A : Nat → Bool) (lb : Blk) (h1 : H) : Prop where
  gr : Grow b h h1
  e2 : h1.get id2 = .cells 64 (boolV B)
  e3 : h1.get id3 = .cells 1 [nE f]
  e4 : h1.get id4 = .cells 64 (List.replicate 64 (.b false))
  e5 : Ar V.b h1 id5 (arr A 64)
  ef : h1.get idf = .cells 64 (boolV B)
  el : h1.get idl = lb
  nx : idl.nat + 1 ≤ h1.nx.nat
  o2 : id2.nat < id3.nat
  o3 : id3.nat < id4.nat
  o4 : id4.nat < id5.nat
  o5 : id5.nat < idf.nat
  of : idf.nat < idl.nat
  ob : b ≤ id2.nat
section
variable {b : Nat} {h h1 h2 : H} {B A A' : Nat → Bool} {f : Nat} {id2 id3 id4 id5 idf idl : K} {lb : Blk}
theorem LnkI.loop (t : LnkI b h B f id2 id3 id4 id5 idf idl A lb h1) (lb' : Blk) : LnkI b h B f id2 id3 id4 id5 idf idl A lb' (h1.put idl lb') := by
  have := t.nx; have := t.o2; have := t.o3; have := t.o4; have := t.o5; have := t.of; have := t.ob
  exact ⟨t.gr.trans (Grow.put (by omega) (by omega) _), by rw [get_put_other (kNe (by omega))]; exact t.e2, by rw [get_put_other (kNe (by omega))]; exact t.e3, by rw [get_put_other (kNe (by omega))]; exact t.e4, t.e5.same (by rw [get_put_other (kNe (by omega))]), by rw [get_put_other (kNe (by omega))]; exact t.ef, get_put_same, t.nx, t.o2, t.o3, t.o4, t.o5, t.of, t.ob⟩
theorem LnkI.grow (t : LnkI b h B f id2 id3 id4 id5 idf idl A lb h1) (g : Grow h1.nx.nat h1 h2) : LnkI b h B f id2 id3 id4 id5 idf idl A lb h2 := by
  have := t.nx; have := t.o2; have := t.o3; have := t.o4; have := t.o5; have := t.of; have := t.ob; have := g.nx
  exact ⟨t.gr.trans (g.low (by omega)), by rw [g.old _ (by omega)]; exact t.e2, by rw [g.old _ (by omega)]; exact t.e3, by rw [g.old _ (by omega)]; exact t.e4, t.e5.same (by rw [g.old _ (by omega)]), by rw [g.old _ (by omega)]; exact t.ef, by rw [g.old _ (by omega)]; exact t.el, by omega, t.o2, t.o3, t.o4, t.o5, t.of, t.ob⟩
theorem LnkI.put (t : LnkI b h B f id2 id3 id4 id5 idf idl A lb h1) {cs : List V} (ha : Ar V.b (h1.put id5 (.cells 64 cs)) id5 (arr A' 64)) : LnkI b h B f id2 id3 id4 id5 idf idl A' lb (h1.put id5 (.cells 64 cs)) := by
  have := t.nx; have := t.o2; have := t.o3; have := t.o4; have := t.o5; have := t.of; have := t.ob
  exact ⟨t.gr.trans (Grow.put (by omega) (by omega) _), by rw [get_put_other (kNe (by omega))]; exact t.e2, by rw [get_put_other (kNe (by omega))]; exact t.e3, by rw [get_put_other (kNe (by omega))]; exact t.e4, ha, by rw [get_put_other (kNe (by omega)).symm]; exact t.ef, by rw [get_put_other (kNe (by omega)).symm]; exact t.el, t.nx, t.o2, t.o3, t.o4, t.o5, t.of, t.ob⟩
end
end
end Go.Ev
namespace Go.Ev
open Go Go.RowKit
noncomputable def f27_r0 : List EOper := [⟨(some (K.ofNat 6)), none, .as (.c .sn)⟩, ⟨(some (K.ofNat 7)), none, .as (.c (.i .i64 (.ofNat 0)))⟩]
noncomputable def f27_r1 : List EOper := [⟨(some (K.ofNat 10)), none, .mv (.t (K.ofNat 0))⟩, ⟨(some (K.ofNat 11)), none, .mv (.t (K.ofNat 1))⟩, ⟨(some (K.ofNat 12)), none, .call (.c (.fn (K.ofNat 16) [])) [(.t (K.ofNat 10)), (.t (K.ofNat 11))]⟩, ⟨(some (K.ofNat 8)), none, .as (.t (K.ofNat 12))⟩]
noncomputable def f27_r2 : List EOper := [⟨(some (K.ofNat 13)), none, .mv (.t (K.ofNat 8))⟩, ⟨(some (K.ofNat 14)), none, .bin .neq (.t (K.ofNat 13)) (.c (.i .i64 (.ofNat 0)))⟩]
noncomputable def f27_r3 : List EOper := [⟨(some (K.ofNat 15)), none, .mv (.t (K.ofNat 8))⟩, ⟨(some (K.ofNat 6)), none, .as (.c .sn)⟩, ⟨(some (K.ofNat 7)), none, .as (.t (K.ofNat 15))⟩]
noncomputable def f27_r4 : List EOper := [⟨(some (K.ofNat 16)), none, .mv (.t (K.ofNat 1))⟩, ⟨(some (K.ofNat 17)), none, .call (.c (.fn (K.ofNat 55) [])) [(.t (K.ofNat 16))]⟩, ⟨(some (K.ofNat 9)), none, .alloc 64 (List.replicate 64 (.b false))⟩, ⟨none, none, .st 64 (.t (K.ofNat 9)) (.t (K.ofNat 17))⟩]
noncomputable def f27_r5 : List EOper := [⟨(some (K.ofNat 18)), none, .mv (.t (K.ofNat 2))⟩, ⟨(some (K.ofNat 19)), none, .bin .lss (.t (K.ofNat 18)) (.c (.i .i64 (.ofNat 0)))⟩, ⟨(some (K.ofNat 20)), none, .mv (.t (K.ofNat 19))⟩, ⟨(some (K.ofNat 21)), (some ((K.ofNat 20), false)), .mv (.t (K.ofNat 2))⟩, ⟨(some (K.ofNat 22)), (some ((K.ofNat 20), false)), .bin .geq (.t (K.ofNat 21)) (.c (.i .i64 (.ofNat 64)))⟩, ⟨(some (K.ofNat 23)), none, .pick (.t (K.ofNat 20)) (.c (.b true)) (.t (K.ofNat 22))⟩, ⟨(some (K.ofNat 24)), none, .mv (.t (K.ofNat 23))⟩, ⟨(some (K.ofNat 25)), (some ((K.ofNat 24), false)), .mv (.t (K.ofNat 2))⟩, ⟨(some (K.ofNat 26)), (some ((K.ofNat 24), false)), .iadr 64 1 (.t (K.ofNat 9)) (.t (K.ofNat 25))⟩, ⟨(some (K.ofNat 27)), (some ((K.ofNat 24), false)), .ld (.t (K.ofNat 26))⟩, ⟨(some (K.ofNat 28)), (some ((K.ofNat 24), false)), .not (.t (K.ofNat 27))⟩, ⟨(some (K.ofNat 29)), none, .pick (.t (K.ofNat 24)) (.c (.b true)) (.t (K.ofNat 28))⟩]
noncomputable def f27_r6 : List EOper := [⟨(some (K.ofNat 6)), none, .as (.c .sn)⟩, ⟨(some (K.ofNat 7)), none, .as (.c (.i .i64 (.ofNat 1)))⟩]
noncomputable def f27_r7 : List EOper := [⟨(some (K.ofNat 30)), none, .ldn 64 (.t (K.ofNat 9))⟩, ⟨(some (K.ofNat 31)), none, .mv (.t (K.ofNat 2))⟩, ⟨(some (K.ofNat 32)), none, .call (.c (.fn (K.ofNat 65) [])) [(.t (K.ofNat 30)), (.t (K.ofNat 31))]⟩, ⟨(some (K.ofNat 33)), none, .call (.c (.fn (K.ofNat 66) [])) [(.t (K.ofNat 32))]⟩, ⟨(some (K.ofNat 6)), none, .as (.t (K.ofNat 33))⟩, ⟨(some (K.ofNat 7)), none, .as (.c (.i .i64 (.ofNat 0)))⟩]
noncomputable def f27_c : EC := (.seq (.reg f27_r0) (.seq (.seq (.reg f27_r1) (.seq (.reg f27_r2) (.cond (.t (K.ofNat 14)) (.seq (.reg f27_r3) .ret) .skip))) (.seq (.reg f27_r4) (.seq (.seq (.reg f27_r5) (.cond (.t (K.ofNat 29)) (.seq (.reg f27_r6) .ret) .skip)) (.seq (.reg f27_r7) .ret)))))
noncomputable def f27 : EF := ⟨34, [.tmp (K.ofNat 6), .tmp (K.ofNat 7)], f27_c, none⟩
noncomputable def f46_r0 : List EOper := [⟨(some (K.ofNat 6)), none, .as (.c .sn)⟩]
noncomputable def f46_r1 : List EOper := [⟨(some (K.ofNat 7)), none, .as (.c .sn)⟩]
noncomputable def f46_r2 : List EOper := [⟨(some (K.ofNat 8)), none, .as (.c (.i .i64 (.ofNat 0)))⟩]
noncomputable def f46_r3 : List EOper := [⟨(some (K.ofNat 9)), none, .mv (.t (K.ofNat 8))⟩, ⟨(some (K.ofNat 10)), none, .mv (.t (K.ofNat 0))⟩, ⟨(some (K.ofNat 11)), none, .bin .shl (.c (.i .i64 (.ofNat 1))) (.t (K.ofNat 10))⟩, ⟨(some (K.ofNat 12)), none, .bin .lss (.t (K.ofNat 9)) (.t (K.ofNat 11))⟩]
noncomputable def f46_r4 : List EOper := [⟨(some (K.ofNat 15)), none, .mv (.t (K.ofNat 8))⟩, ⟨(some (K.ofNat 16)), none, .mv (.t (K.ofNat 2))⟩, ⟨(some (K.ofNat 17)), none, .bin .and (.t (K.ofNat 15)) (.t (K.ofNat 16))⟩, ⟨(some (K.ofNat 18)), none, .bin .eql (.t (K.ofNat 17)) (.c (.i .i64 (.ofNat 0)))⟩, ⟨(some (K.ofNat 19)), none, .mv (.t (K.ofNat 18))⟩, ⟨(some (K.ofNat 20)), (some ((K.ofNat 19), true)), .mv (.t (K.ofNat 1))⟩, ⟨(some (K.ofNat 21)), (some ((K.ofNat 19), true)), .mv (.t (K.ofNat 8))⟩, ⟨(some (K.ofNat 22)), (some ((K.ofNat 19), true)), .mv (.t (K.ofNat 2))⟩, ⟨(some (K.ofNat 23)), (some ((K.ofNat 19), true)), .bin .or (.t (K.ofNat 21)) (.t (K.ofNat 22))⟩, ⟨(some (K.ofNat 24)), (some ((K.ofNat 19), true)), .call (.c (.fn (K.ofNat 45) [])) [(.t (K.ofNat 20)), (.t (K.ofNat 23))]⟩, ⟨(some (K.ofNat 25)), none, .pick (.t (K.ofNat 19)) (.t (K.ofNat 24)) (.c (.b false))⟩]
noncomputable def f46_r5 : List EOper := [⟨(some (K.ofNat 26)), none, .mv (.t (K.ofNat 7))⟩, ⟨(some (K.ofNat 27)), none, .mv (.t (K.ofNat 8))⟩, ⟨(some (K.ofNat 28)), none, .bslice 1 1 [(.i .i64 (.ofNat 0))] [(0, 1, (.t (K.ofNat 27)))]⟩, ⟨(some (K.ofNat 29)), none, .app 1 (.t (K.ofNat 26)) (.t (K.ofNat 28))⟩, ⟨(some (K.ofNat 7)), none, .as (.t (K.ofNat 29))⟩]
noncomputable def f46_r6 : List EOper := [⟨(some (K.ofNat 13)), none, .mv (.t (K.ofNat 8))⟩, ⟨(some (K.ofNat 14)), none, .bin .add (.t (K.ofNat 13)) (.c (.i .i64 (.ofNat 1)))⟩, ⟨(some (K.ofNat 8)), none, .as (.t (K.ofNat 14))⟩]
noncomputable def f46_l0 : EC := (.seq (.seq (.reg f46_r3) (.cond (.t (K.ofNat 12)) .skip (.exit 0))) (.seq (.block 1 (.seq (.reg f46_r4) (.cond (.t (K.ofNat 25)) (.reg f46_r5) .skip))) (.reg f46_r6)))
noncomputable def f46_r7 : List EOper := [⟨(some (K.ofNat 30)), none, .mv (.t (K.ofNat 7))⟩, ⟨(some (K.ofNat 31)), none, .call (.c (.fn (K.ofNat 49) [])) [(.t (K.ofNat 30))]⟩, ⟨(some (K.ofNat 6)), none, .as (.t (K.ofNat 31))⟩]
noncomputable def f46_c : EC := (.seq (.reg f46_r0) (.seq (.reg f46_r1) (.seq (.seq (.reg f46_r2) (.block 0 (.loop f46_l0))) (.seq (.reg f46_r7) .ret))))
noncomputable def f46 : EF := ⟨32, [.tmp (K.ofNat 6)], f46_c, none⟩
noncomputable def f68_r0 : List EOper := [⟨(some (K.ofNat 2)), none, .box 64 (.t (K.ofNat 0))⟩, ⟨(some (K.ofNat 4)), none, .alloc 64 (List.replicate 64 (.b false))⟩]
noncomputable def f68_r1 : List EOper := [⟨(some (K.ofNat 5)), none, .alloc 64 (List.replicate 64 (.b false))⟩]
noncomputable def f68_r2 : List EOper := [⟨(some (K.ofNat 8)), none, .mv (.t (K.ofNat 1))⟩, ⟨(some (K.ofNat 9)), none, .bin .shl (.c (.i .i64 (.ofNat 1))) (.t (K.ofNat 8))⟩, ⟨(some (K.ofNat 10)), none, .bin .sub (.t (K.ofNat 9)) (.c (.i .i64 (.ofNat 1)))⟩, ⟨(some (K.ofNat 6)), none, .as (.t (K.ofNat 10))⟩]
noncomputable def f68_r3 : List EOper := [⟨(some (K.ofNat 11)), none, .mv (.t (K.ofNat 6))⟩, ⟨(some (K.ofNat 12)), none, .bin .add (.t (K.ofNat 11)) (.c (.i .i64 (.ofNat 1)))⟩, ⟨(some (K.ofNat 13)), none, .mv (.c (.i .i64 (.ofNat 0)))⟩]
noncomputable def f68_r4 : List EOper := [⟨(some (K.ofNat 14)), none, .bin .lss (.t (K.ofNat 13)) (.t (K.ofNat 12))⟩]
noncomputable def f68_r5 : List EOper := [⟨(some (K.ofNat 15)), none, .mv (.t (K.ofNat 13))⟩, ⟨(some (K.ofNat 7)), none, .as (.t (K.ofNat 15))⟩]
noncomputable def f68_r6 : List EOper := [⟨(some (K.ofNat 16)), none, .mv (.t (K.ofNat 7))⟩, ⟨(some (K.ofNat 17)), none, .mv (.t (K.ofNat 6))⟩, ⟨(some (K.ofNat 18)), none, .mv (.t (K.ofNat 7))⟩, ⟨(some (K.ofNat 19)), none, .bin .andNot (.t (K.ofNat 17)) (.t (K.ofNat 18))⟩, ⟨(some (K.ofNat 20)), none, .iadr 64 1 (.t (K.ofNat 2)) (.t (K.ofNat 19))⟩, ⟨(some (K.ofNat 21)), none, .ld (.t (K.ofNat 20))⟩, ⟨(some (K.ofNat 22)), none, .not (.t (K.ofNat 21))⟩, ⟨(some (K.ofNat 23)), none, .iadr 64 1 (.t (K.ofNat 5)) (.t (K.ofNat 16))⟩, ⟨none, none, .st 1 (.t (K.ofNat 23)) (.t (K.ofNat 22))⟩]
noncomputable def f68_r7 : List EOper := [⟨(some (K.ofNat 24)), none, .bin .add (.t (K.ofNat 13)) (.c (.i .i64 (.ofNat 1)))⟩, ⟨(some (K.ofNat 13)), none, .mv (.t (K.ofNat 24))⟩]
noncomputable def f68_l0 : EC := (.seq (.reg f68_r4) (.seq (.cond (.t (K.ofNat 14)) .skip (.exit 0)) (.seq (.block 1 (.seq (.reg f68_r5) (.reg f68_r6))) (.reg f68_r7))))
noncomputable def f68_r8 : List EOper := [⟨(some (K.ofNat 25)), none, .ldn 64 (.t (K.ofNat 5))⟩, ⟨none, none, .st 64 (.t (K.ofNat 4)) (.t (K.ofNat 25))⟩]
noncomputable def f68_c : EC := (.seq (.reg f68_r0) (.seq (.reg f68_r1) (.seq (.reg f68_r2) (.seq (.seq (.reg f68_r3) (.block 0 (.loop f68_l0))) (.seq (.reg f68_r8) .ret)))))
noncomputable def f68 : EF := ⟨26, [.celln (K.ofNat 4) 64], f68_c, none⟩
noncomputable def f28_r0 : List EOper := [⟨(some (K.ofNat 4)), none, .as (.c .sn)⟩, ⟨(some (K.ofNat 5)), none, .as (.c (.i .i64 (.ofNat 0)))⟩]
noncomputable def f28_r1 : List EOper := [⟨(some (K.ofNat 7)), none, .mv (.t (K.ofNat 0))⟩, ⟨(some (K.ofNat 8)), none, .mv (.t (K.ofNat 1))⟩, ⟨(some (K.ofNat 9)), none, .call (.c (.fn (K.ofNat 16) [])) [(.t (K.ofNat 7)), (.t (K.ofNat 8))]⟩, ⟨(some (K.ofNat 6)), none, .as (.t (K.ofNat 9))⟩]
noncomputable def f28_r2 : List EOper := [⟨(some (K.ofNat 10)), none, .mv (.t (K.ofNat 6))⟩, ⟨(some (K.ofNat 11)), none, .bin .neq (.t (K.ofNat 10)) (.c (.i .i64 (.ofNat 0)))⟩]
noncomputable def f28_r3 : List EOper := [⟨(some (K.ofNat 12)), none, .mv (.t (K.ofNat 6))⟩, ⟨(some (K.ofNat 4)), none, .as (.c .sn)⟩, ⟨(some (K.ofNat 5)), none, .as (.t (K.ofNat 12))⟩]
noncomputable def f28_r4 : List EOper := [⟨(some (K.ofNat 13)), none, .mv (.t (K.ofNat 1))⟩, ⟨(some (K.ofNat 14)), none, .call (.c (.fn (K.ofNat 55) [])) [(.t (K.ofNat 13))]⟩, ⟨(some (K.ofNat 15)), none, .mv (.t (K.ofNat 0))⟩, ⟨(some (K.ofNat 16)), none, .call (.c (.fn (K.ofNat 68) [])) [(.t (K.ofNat 14)), (.t (K.ofNat 15))]⟩, ⟨(some (K.ofNat 17)), none, .call (.c (.fn (K.ofNat 67) [])) [(.t (K.ofNat 16))]⟩, ⟨(some (K.ofNat 18)), none, .ext (.t (K.ofNat 17)) 0⟩, ⟨(some (K.ofNat 19)), none, .ext (.t (K.ofNat 17)) 1⟩, ⟨(some (K.ofNat 4)), none, .as (.t (K.ofNat 18))⟩, ⟨(some (K.ofNat 5)), none, .as (.t (K.ofNat 19))⟩]
noncomputable def f28_c : EC := (.seq (.reg f28_r0) (.seq (.seq (.reg f28_r1) (.seq (.reg f28_r2) (.cond (.t (K.ofNat 11)) (.seq (.reg f28_r3) .ret) .skip))) (.seq (.reg f28_r4) .ret)))
noncomputable def f28 : EF := ⟨20, [.tmp (K.ofNat 4), .tmp (K.ofNat 5)], f28_c, none⟩
noncomputable def f47_r0 : List EOper := [⟨(some (K.ofNat 4)), none, .as (.c .sn)⟩]
noncomputable def f47_r1 : List EOper := [⟨(some (K.ofNat 5)), none, .as (.c .sn)⟩]
noncomputable def f47_r2 : List EOper := [⟨(some (K.ofNat 8)), none, .mv (.t (K.ofNat 0))⟩, ⟨(some (K.ofNat 9)), none, .bin .shl (.c (.i .i64 (.ofNat 1))) (.t (K.ofNat 8))⟩, ⟨(some (K.ofNat 10)), none, .bin .sub (.t (K.ofNat 9)) (.c (.i .i64 (.ofNat 1)))⟩, ⟨(some (K.ofNat 6)), none, .as (.t (K.ofNat 10))⟩]
noncomputable def f47_r3 : List EOper := [⟨(some (K.ofNat 7)), none, .as (.c (.i .i64 (.ofNat 0)))⟩]
noncomputable def f47_r4 : List EOper := [⟨(some (K.ofNat 11)), none, .mv (.t (K.ofNat 7))⟩, ⟨(some (K.ofNat 12)), none, .mv (.t (K.ofNat 6))⟩, ⟨(some (K.ofNat 13)), none, .bin .leq (.t (K.ofNat 11)) (.t (K.ofNat 12))⟩]
noncomputable def f47_r5 : List EOper := [⟨(some (K.ofNat 16)), none, .mv (.t (K.ofNat 1))⟩, ⟨(some (K.ofNat 17)), none, .mv (.t (K.ofNat 6))⟩, ⟨(some (K.ofNat 18)), none, .mv (.t (K.ofNat 7))⟩, ⟨(some (K.ofNat 19)), none, .bin .andNot (.t (K.ofNat 17)) (.t (K.ofNat 18))⟩, ⟨(some (K.ofNat 20)), none, .call (.c (.fn (K.ofNat 45) [])) [(.t (K.ofNat 16)), (.t (K.ofNat 19))]⟩, ⟨(some (K.ofNat 21)), none, .not (.t (K.ofNat 20))⟩]
noncomputable def f47_r6 : List EOper := [⟨(some (K.ofNat 22)), none, .mv (.t (K.ofNat 5))⟩, ⟨(some (K.ofNat 23)), none, .mv (.t (K.ofNat 7))⟩, ⟨(some (K.ofNat 24)), none, .bslice 1 1 [(.i .i64 (.ofNat 0))] [(0, 1, (.t (K.ofNat 23)))]⟩, ⟨(some (K.ofNat 25)), none, .app 1 (.t (K.ofNat 22)) (.t (K.ofNat 24))⟩, ⟨(some (K.ofNat 5)), none, .as (.t (K.ofNat 25))⟩]
noncomputable def f47_r7 : List EOper := [⟨(some (K.ofNat 14)), none, .mv (.t (K.ofNat 7))⟩, ⟨(some (K.ofNat 15)), none, .bin .add (.t (K.ofNat 14)) (.c (.i .i64 (.ofNat 1)))⟩, ⟨(some (K.ofNat 7)), none, .as (.t (K.ofNat 15))⟩]
noncomputable def f47_l0 : EC := (.seq (.seq (.reg f47_r4) (.cond (.t (K.ofNat 13)) .skip (.exit 0))) (.seq (.block 1 (.seq (.reg f47_r5) (.cond (.t (K.ofNat 21)) (.reg f47_r6) .skip))) (.reg f47_r7)))
noncomputable def f47_r8 : List EOper := [⟨(some (K.ofNat 26)), none, .mv (.t (K.ofNat 5))⟩, ⟨(some (K.ofNat 27)), none, .call (.c (.fn (K.ofNat 49) [])) [(.t (K.ofNat 26))]⟩, ⟨(some (K.ofNat 4)), none, .as (.t (K.ofNat 27))⟩]
noncomputable def f47_c : EC := (.seq (.reg f47_r0) (.seq (.reg f47_r1) (.seq (.reg f47_r2) (.seq (.seq (.reg f47_r3) (.block 0 (.loop f47_l0))) (.seq (.reg f47_r8) .ret)))))
noncomputable def f47 : EF := ⟨28, [.tmp (K.ofNat 4)], f47_c, none⟩
section
variable {fs : T EF} {ro : Option K}
/-- Is it no face? -/
noncomputable def badF (B : Nat → Bool) (f : Int) : Bool := decide (f < 0) || (decide (64 ≤ f) || !B f.toNat)
noncomputable def lkR (S : List Int) (f i : Nat) : List Int := ((List.range i).filter fun (x : Nat) => decide (x &&& f = 0) && isF S ((x ||| f : Nat) : Int)).map fun (k : Nat) => (k : Int)
noncomputable def dualTo (B : Nat → Bool) (a i : Nat) (x : Nat) : Bool := decide (x < i) && !B (lessC a x)
theorem less_le {a x : Nat} : lessC a x ≤ a := by
  show a ^^^ (a &&& x) ≤ a
  have : a ^^^ (a &&& x) = a &&& (a ^^^ (a &&& x)) := by
    apply Nat.eq_of_testBit_eq
    intro i
    simp only [Nat.testBit_xor, Nat.testBit_and]
    cases a.testBit i <;> cases x.testBit i <;> rfl
  rw [this]; exact Nat.and_le_left
noncomputable def dualB (B : Nat → Bool) (a : Nat) : Nat → Bool := dualTo B a (a + 1)
noncomputable def duR (S : List Int) (a i : Nat) : List Int := ((List.range i).filter fun (x : Nat) => !isF S (lessC a x : Int)).map fun (k : Nat) => (k : Int)
end
end Go.Ev
namespace Go.Ev
open Go Go.RowKit
noncomputable def f58_r0 : List EOper := [⟨(some (K.ofNat 2)), none, .as (.c (.b false))⟩]
noncomputable def f58_r1 : List EOper := [⟨(some (K.ofNat 5)), none, .mv (.t (K.ofNat 0))⟩, ⟨(some (K.ofNat 6)), none, .len (.t (K.ofNat 5))⟩, ⟨(some (K.ofNat 7)), none, .mv (.c (.i .i64 (.ofNat 0)))⟩]
noncomputable def f58_r2 : List EOper := [⟨(some (K.ofNat 8)), none, .bin .lss (.t (K.ofNat 7)) (.t (K.ofNat 6))⟩]
noncomputable def f58_r3 : List EOper := [⟨(some (K.ofNat 9)), none, .iads 1 (.t (K.ofNat 5)) (.t (K.ofNat 7))⟩, ⟨(some (K.ofNat 10)), none, .ld (.t (K.ofNat 9))⟩, ⟨(some (K.ofNat 4)), none, .as (.t (K.ofNat 10))⟩]
noncomputable def f58_r4 : List Stage := [⟨[⟨(some (K.ofNat 11)), none, .mv (.t (K.ofNat 4))⟩, ⟨(some (K.ofNat 13)), none, .mv (.t (K.ofNat 0))⟩, ⟨(some (K.ofNat 14)), none, .iads 1 (.t (K.ofNat 13)) (.c (.i .i64 (.ofNat 0)))⟩, ⟨(some (K.ofNat 15)), none, .ld (.t (K.ofNat 14))⟩], [], (some ⟨(some (K.ofNat 12)), none, .call (.c (.fn (K.ofNat 75) [])) [(.t (K.ofNat 11))]⟩), []⟩, ⟨[], [⟨(some (K.ofNat 13)), none, .mv (.t (K.ofNat 0))⟩, ⟨(some (K.ofNat 14)), none, .iads 1 (.t (K.ofNat 13)) (.c (.i .i64 (.ofNat 0)))⟩, ⟨(some (K.ofNat 15)), none, .ld (.t (K.ofNat 14))⟩], (some ⟨(some (K.ofNat 16)), none, .call (.c (.fn (K.ofNat 75) [])) [(.t (K.ofNat 15))]⟩), []⟩, ⟨[⟨(some (K.ofNat 17)), none, .bin .neq (.t (K.ofNat 12)) (.t (K.ofNat 16))⟩], [], none, []⟩]
noncomputable def f58_r5 : List EOper := [⟨(some (K.ofNat 2)), none, .as (.c (.b false))⟩]
noncomputable def f58_r6 : List EOper := [⟨(some (K.ofNat 18)), none, .bin .add (.t (K.ofNat 7)) (.c (.i .i64 (.ofNat 1)))⟩, ⟨(some (K.ofNat 7)), none, .mv (.t (K.ofNat 18))⟩]
noncomputable def f58_l0 : EC := (.seq (.reg f58_r2) (.seq (.cond (.t (K.ofNat 8)) .skip (.exit 0)) (.seq (.block 1 (.seq (.reg f58_r3) (.seq (.draw f58_r4) (.cond (.t (K.ofNat 17)) (.seq (.reg f58_r5) .ret) .skip)))) (.reg f58_r6))))
noncomputable def f58_r7 : List EOper := [⟨(some (K.ofNat 2)), none, .as (.c (.b true))⟩]
noncomputable def f58_c : EC := (.seq (.reg f58_r0) (.seq (.seq (.reg f58_r1) (.block 0 (.loop f58_l0))) (.seq (.reg f58_r7) .ret)))
noncomputable def f58 : EF := ⟨19, [.tmp (K.ofNat 2)], f58_c, none⟩
theorem f58_rs : f58.rs = [.tmp (K.ofNat 2)] := of_eq_true (eq_self _)
noncomputable def f61_r0 : List EOper := [⟨(some (K.ofNat 2)), none, .box 1 (.t (K.ofNat 0))⟩, ⟨(some (K.ofNat 3)), none, .box 1 (.t (K.ofNat 1))⟩, ⟨(some (K.ofNat 4)), none, .as (.c (.i .i64 (.ofNat 0)))⟩]
noncomputable def f61_r1 : List EOper := [⟨(some (K.ofNat 5)), none, .alloc 1 [(.i .i64 (.ofNat 0))]⟩, ⟨none, none, .st 1 (.t (K.ofNat 5)) (.c (.i .i64 (.ofNat 0)))⟩]
noncomputable def f61_r2 : List EOper := [⟨(some (K.ofNat 9)), none, .ld (.t (K.ofNat 2))⟩, ⟨(some (K.ofNat 10)), none, .call (.c (.fn (K.ofNat 82) [])) [(.t (K.ofNat 9))]⟩]
noncomputable def f61_r3 : List EOper := [⟨(some (K.ofNat 6)), none, .as (.t (K.ofNat 11))⟩]
noncomputable def f61_a0 : EC := (.reg f61_r3)
noncomputable def f61_r4 : List EOper := [⟨(some (K.ofNat 12)), none, .ld (.t (K.ofNat 3))⟩, ⟨(some (K.ofNat 13)), none, .len (.t (K.ofNat 12))⟩, ⟨(some (K.ofNat 14)), none, .mv (.c (.i .i64 (.ofNat 0)))⟩]
noncomputable def f61_r5 : List EOper := [⟨(some (K.ofNat 15)), none, .bin .lss (.t (K.ofNat 14)) (.t (K.ofNat 13))⟩]
noncomputable def f61_r6 : List EOper := [⟨(some (K.ofNat 16)), none, .iads 1 (.t (K.ofNat 12)) (.t (K.ofNat 14))⟩, ⟨(some (K.ofNat 17)), none, .ld (.t (K.ofNat 16))⟩, ⟨(some (K.ofNat 8)), none, .as (.t (K.ofNat 17))⟩]
noncomputable def f61_r7 : List EOper := [⟨(some (K.ofNat 18)), none, .ld (.t (K.ofNat 2))⟩, ⟨(some (K.ofNat 19)), none, .mv (.t (K.ofNat 6))⟩, ⟨(some (K.ofNat 20)), none, .bin .andNot (.t (K.ofNat 18)) (.t (K.ofNat 19))⟩, ⟨(some (K.ofNat 21)), none, .mv (.t (K.ofNat 8))⟩, ⟨(some (K.ofNat 22)), none, .call (.c (.fn (K.ofNat 54) [])) [(.t (K.ofNat 20)), (.t (K.ofNat 21))]⟩]
noncomputable def f61_r8 : List EOper := [⟨(some (K.ofNat 23)), none, .ld (.t (K.ofNat 5))⟩, ⟨(some (K.ofNat 24)), none, .mv (.t (K.ofNat 6))⟩, ⟨(some (K.ofNat 25)), none, .bslice 2 1 [(.i .i64 (.ofNat 0)), (.i .i64 (.ofNat 0))] [(0, 1, (.t (K.ofNat 23))), (1, 1, (.t (K.ofNat 24)))]⟩, ⟨(some (K.ofNat 26)), none, .call (.c (.fn (K.ofNat 83) [])) [(.t (K.ofNat 25))]⟩, ⟨none, none, .st 1 (.t (K.ofNat 5)) (.t (K.ofNat 26))⟩]
noncomputable def f61_r9 : List EOper := [⟨(some (K.ofNat 27)), none, .bin .add (.t (K.ofNat 14)) (.c (.i .i64 (.ofNat 1)))⟩, ⟨(some (K.ofNat 14)), none, .mv (.t (K.ofNat 27))⟩]
noncomputable def f61_l0 : EC := (.seq (.reg f61_r5) (.seq (.cond (.t (K.ofNat 15)) .skip (.exit 2)) (.seq (.block 3 (.seq (.reg f61_r6) (.seq (.reg f61_r7) (.cond (.t (K.ofNat 22)) (.reg f61_r8) .skip)))) (.reg f61_r9))))
noncomputable def f61_b0 : EC := (.block 1 (.seq (.reg f61_r4) (.block 2 (.loop f61_l0))))
noncomputable def f61_r10 : List EOper := [⟨(some (K.ofNat 28)), none, .ld (.t (K.ofNat 5))⟩, ⟨(some (K.ofNat 4)), none, .as (.t (K.ofNat 28))⟩]
noncomputable def f61_c : EC := (.seq (.reg f61_r0) (.seq (.reg f61_r1) (.seq (.seq (.reg f61_r2) (.block 0 (.rangeF (.t (K.ofNat 10)) [(K.ofNat 11)] f61_a0 f61_b0))) (.seq (.reg f61_r10) .ret))))
noncomputable def f61 : EF := ⟨29, [.tmp (K.ofNat 4)], f61_c, none⟩
theorem f61_rs : f61.rs = [.tmp (K.ofNat 4)] := of_eq_true (eq_self _)
noncomputable def f80_r0 : List EOper := [⟨(some (K.ofNat 4)), none, .as (.c (.b false))⟩]
noncomputable def f80_r1 : List EOper := [⟨(some (K.ofNat 8)), none, .mv (.t (K.ofNat 0))⟩, ⟨(some (K.ofNat 9)), none, .mv (.t (K.ofNat 1))⟩, ⟨(some (K.ofNat 10)), none, .call (.c (.fn (K.ofNat 61) [])) [(.t (K.ofNat 8)), (.t (K.ofNat 9))]⟩, ⟨(some (K.ofNat 5)), none, .as (.t (K.ofNat 10))⟩]
noncomputable def f80_r2 : List EOper := [⟨(some (K.ofNat 11)), none, .mv (.t (K.ofNat 1))⟩, ⟨(some (K.ofNat 12)), none, .len (.t (K.ofNat 11))⟩, ⟨(some (K.ofNat 13)), none, .mv (.c (.i .i64 (.ofNat 0)))⟩]
noncomputable def f80_r3 : List EOper := [⟨(some (K.ofNat 14)), none, .bin .lss (.t (K.ofNat 13)) (.t (K.ofNat 12))⟩]
noncomputable def f80_r4 : List EOper := [⟨(some (K.ofNat 15)), none, .iads 1 (.t (K.ofNat 11)) (.t (K.ofNat 13))⟩, ⟨(some (K.ofNat 16)), none, .ld (.t (K.ofNat 15))⟩, ⟨(some (K.ofNat 7)), none, .as (.t (K.ofNat 16))⟩]
noncomputable def f80_r5 : List EOper := [⟨(some (K.ofNat 17)), none, .mv (.t (K.ofNat 5))⟩, ⟨(some (K.ofNat 18)), none, .mv (.t (K.ofNat 7))⟩, ⟨(some (K.ofNat 19)), none, .call (.c (.fn (K.ofNat 54) [])) [(.t (K.ofNat 17)), (.t (K.ofNat 18))]⟩]
noncomputable def f80_r6 : List EOper := [⟨(some (K.ofNat 4)), none, .as (.c (.b false))⟩]
noncomputable def f80_r7 : List EOper := [⟨(some (K.ofNat 20)), none, .bin .add (.t (K.ofNat 13)) (.c (.i .i64 (.ofNat 1)))⟩, ⟨(some (K.ofNat 13)), none, .mv (.t (K.ofNat 20))⟩]
noncomputable def f80_l0 : EC := (.seq (.reg f80_r3) (.seq (.cond (.t (K.ofNat 14)) .skip (.exit 0)) (.seq (.block 1 (.seq (.reg f80_r4) (.seq (.reg f80_r5) (.cond (.t (K.ofNat 19)) (.seq (.reg f80_r6) .ret) .skip)))) (.reg f80_r7))))
noncomputable def f80_r8 : List EOper := [⟨(some (K.ofNat 4)), none, .as (.c (.b true))⟩]
noncomputable def f80_c : EC := (.seq (.reg f80_r0) (.seq (.reg f80_r1) (.seq (.seq (.reg f80_r2) (.block 0 (.loop f80_l0))) (.seq (.reg f80_r8) .ret))))
noncomputable def f80 : EF := ⟨21, [.tmp (K.ofNat 4)], f80_c, none⟩
theorem f80_rs : f80.rs = [.tmp (K.ofNat 4)] := of_eq_true (eq_self _)
section
variable {fs : T EF} {ro : Option K}
noncomputable def pureS (S : List Int) : Bool := S.all fun s => decide (pop6 s.toNat = pop6 (S.headD 0).toNat)
def f58_I (h : H) (v : V) (S : List Int) (i : Nat) (fr : Fr) (h1 : H) : Prop := h1 = h ∧ i ≤ S.length ∧ (S.take i).all (fun s => decide (pop6 s.toNat = pop6 (S.headD 0).toNat)) = true ∧ fr.get (K.ofNat 0) = some (v) ∧ fr.get (K.ofNat 5) = some (v) ∧ fr.get (K.ofNat 6) = some (.i .i64 (S.length : Int)) ∧ fr.get (K.ofNat 7) = some (.i .i64 (i : Int))
theorem f58_ret {h : H} {v : V} {S : List Int} (hp75 : ∀ m : Nat, m < 64 → ∀ h P, CallP fs (.fn (K.ofNat 75) []) [.i .i64 (m : Int)] h P = P (.i .i64 (pop6 m : Int)) h)
    (hv : Sl iE h v S) (hS : S.length ≤ 1000000) (hsets : Sets S) :
    Ret fs f58 [v] h fun u h' => u = .b (pureS S) ∧ h' = h := by
  apply ret_of rfl
  show W fs none f58_c _ _ _
  unfold f58_c
  simp (disch := omega) only [f58_r0, f58_r1, w_reg, w_seq, w_block, seqK_n, x_nil, x_mv, x_as, x_len, kx, rvP_ok, ev_t, ev_c, getV_some, putD_some, frame_1, of0, getK_set, Nat.reduceEqDiff, ↓reduceIte, hv.len]
  refine W_loop (f58_I h v S) (fun i => S.length - i) ?_ 0 ⟨rfl, Nat.zero_le _, by simp, by simp (disch := omega) only [getK_set, Nat.reduceEqDiff, ↓reduceIte, and_self, Int.natCast_zero]⟩
  rintro i fr h1 ⟨rfl, hi, hal, g0, g5, g6, g7⟩
  unfold f58_l0
  by_cases hlt : i < S.length
  · have hlt' : (i : Int) < (S.length : Int) := by omega
    obtain ⟨p, hp1, hp2⟩ := hv.at i hlt
    obtain ⟨q, hq1, hq2, hq3⟩ := hv.atb 0 (by omega)
    have hq1' : ∀ k h1, iadsV 1 v (.i k 0) h1 = .ok q h1 := fun k h1 => hq1 k h1
    obtain ⟨a, ha, hae⟩ := hsets S[i] (List.getElem_mem hlt)
    obtain ⟨b, hb, hbe⟩ := hsets S[0] (List.getElem_mem (by omega))
    have hd : S.headD 0 = S[0] := by cases S with | nil => simp at hlt | cons x l => rfl
    have hs := all_snoc (p := fun s => decide (pop6 s.toNat = pop6 (S.headD 0).toNat)) hlt
    rw [hal, Bool.true_and] at hs
    simp only [hd, hae, hbe, Int.toNat_natCast] at hs
    rw [hae] at hp2
    rw [hbe] at hq2
    by_cases e : pop6 a = pop6 b
    · have e' : ¬ ((pop6 a : Nat) : Int) ≠ ((pop6 b : Nat) : Int) := by omega
      rw [decide_eq_true e] at hs
      simp (disch := omega) only [f58_r2, f58_r3, f58_r4, f58_r6, w_skip, w_reg, w_draw, w_seq, w_cond, w_block, seqK_n, atK_n, loopK_n, ckB_b, cbB_b, true_and, x_nil, x_mv, x_as, x_ld, x_bin, x_iads, x_call, kx, kg, xg_nil, xg_mv, xg_ld, xg_bin, xg_iads, xd_cons, fresh_nil, stK_n, stK_s, stay_nil, stay_cons, again_ok, stay_mv, beq_i, stay_iads, stay_ld, rvP_ok, okv_some, ev_t, ev_c, evs_nil, evs_cons, getV_some, putD_some, bin_add, bin_neq, bin_lss, of0, of1, getK_set, Nat.reduceEqDiff, ↓reduceIte, Bool.false_eq_true, g0, g5, g6, g7, hlt', decide_true, hp1, hp2, iE, hq1', hq2, hq3, hv.beq, hp75 _ ha, hp75 _ hb, e', decide_false, and_self, fw64]
      exact ⟨i + 1, by omega, rfl, hlt, by rw [← hs]; simp only [hd, hbe, Int.toNat_natCast], by simp (disch := omega) only [getK_set, Nat.reduceEqDiff, ↓reduceIte, g0, g5, g6, and_self, Int.natCast_add, Int.natCast_one]⟩
    · have e' : ¬ ((pop6 a : Nat) : Int) = ((pop6 b : Nat) : Int) := by omega
      have hf : pureS S = false := by
        unfold pureS
        rw [List.all_eq_false]
        refine ⟨S[i], List.getElem_mem hlt, ?_⟩
        rw [hd, hae, hbe]
        simpa using e
      simp (disch := omega) only [f58_r2, f58_r3, f58_r4, f58_r5, f58_rs, w_skip, w_reg, w_draw, w_seq, w_cond, w_block, w_ret, seqK_n, seqK_r, atK_r, loopK_r, ckB_b, cbB_b, retK_r, x_nil, x_as, x_ld, x_bin, x_iads, x_call, kx, kg, xg_nil, xg_mv, xg_ld, xg_bin, xg_iads, xd_cons, fresh_nil, stK_n, stK_s, stay_nil, stay_cons, again_ok, stay_mv, beq_i, stay_iads, stay_ld, rvP_ok, okv_some, ev_t, ev_c, evs_nil, evs_cons, getV_some, putD_some, bin_neq, bin_lss, oGet_s, readRs_nil, readRs_t, retV_1, of0, Option.some.injEq, exists_eq_left', getK_set, Nat.reduceEqDiff, ↓reduceIte, g0, g5, g6, g7, hlt', decide_true, hp1, hp2, iE, hq1', hq2, hq3, hv.beq, hp75 _ ha, hp75 _ hb, ne_eq, e', not_false_eq_true, decide_true, hf, and_self]
  · obtain rfl : i = S.length := by omega
    have hlt' : ¬ (S.length : Int) < (S.length : Int) := by omega
    rw [List.take_length] at hal
    have hf : pureS S = true := hal
    simp (disch := omega) only [f58_r2, f58_r7, f58_rs, w_reg, w_seq, w_cond, w_exit, w_ret, seqK_n, seqK_e, atK_e, loopK_e, ckB_b, cbB_b, retK_r, x_nil, x_as, x_bin, kx, rvP_ok, okv_some, ev_t, ev_c, getV_some, putD_some, bin_lss, oGet_s, readRs_nil, readRs_t, retV_1, Option.some.injEq, exists_eq_left', getK_set, ↓reduceIte, Bool.false_eq_true, g6, g7, hlt', decide_false, hf, and_self]
/-- The new part: the corners whose opposite side lies in a piece before. -/
noncomputable def oppS (x c : Nat) (S : List Int) : Bool := S.any fun y => ptI (lessC x c : Int) y
noncomputable def npTo (x : Nat) (S : List Int) (j : Nat) : Nat := ((cornN x).take j).foldl (fun s c => if oppS x c S = true then s ||| c else s) 0
noncomputable def newPS (x : Nat) (S : List Int) : Nat := (cornN x).foldl (fun s c => if oppS x c S = true then s ||| c else s) 0
theorem npTo_succ {x : Nat} {S : List Int} {j : Nat} (hj : j < (cornN x).length) : npTo x S (j + 1) = if oppS x (cornN x)[j] S = true then npTo x S j ||| (cornN x)[j] else npTo x S j := by
  unfold npTo; rw [List.take_succ_eq_append_getElem hj, List.foldl_append]; rfl
theorem npTo_lt {x : Nat} {S : List Int} (hx : x < 64) : ∀ j, j ≤ (cornN x).length → npTo x S j < 64
  | 0, _ => by unfold npTo; simp
  | j + 1, hj => by
    rw [npTo_succ hj]
    have ih := npTo_lt (S := S) hx j (by omega)
    have h1 := (less_lt x hx _ (List.getElem_mem hj)).1
    split
    · exact Nat.or_lt_two_pow (n := 6) ih (by omega)
    · exact ih
structure NpI (b : Nat) (h : H) (id2 id3 id5 idf idl : K) (x : Nat) (v : V) (s : Nat) (lb : Blk) (h1 : H) : Prop where
  gr : Grow b h h1
  e2 : h1.get id2 = .cells 1 [nE x]
  e3 : h1.get id3 = .cells 1 [v]
  e5 : h1.get id5 = .cells 1 [nE s]
  ef : h1.get idf = .cells 1 [nE x]
  el : h1.get idl = lb
  nx : idl.nat + 1 ≤ h1.nx.nat
  o2 : id2.nat < id3.nat
  o3 : id3.nat < id5.nat
  o5 : id5.nat < idf.nat
  of : idf.nat < idl.nat
  ob : b ≤ id2.nat
section
variable {b : Nat} {h h1 h2 : H} {id2 id3 id5 idf idl : K} {x s s' : Nat} {v : V} {lb : Blk}
theorem NpI.loop (t : NpI b h id2 id3 id5 idf idl x v s lb h1) (lb' : Blk) : NpI b h id2 id3 id5 idf idl x v s lb' (h1.put idl lb') := by
  have := t.nx; have := t.o2; have := t.o3; have := t.o5; have := t.of; have := t.ob
  exact ⟨t.gr.trans (Grow.put (by omega) (by omega) _), by rw [get_put_other (kNe (by omega))]; exact t.e2, by rw [get_put_other (kNe (by omega))]; exact t.e3, by rw [get_put_other (kNe (by omega))]; exact t.e5, by rw [get_put_other (kNe (by omega))]; exact t.ef, get_put_same, t.nx, t.o2, t.o3, t.o5, t.of, t.ob⟩
theorem NpI.grow (t : NpI b h id2 id3 id5 idf idl x v s lb h1) (g : Grow h1.nx.nat h1 h2) : NpI b h id2 id3 id5 idf idl x v s lb h2 := by
  have := t.nx; have := t.o2; have := t.o3; have := t.o5; have := t.of; have := t.ob; have := g.nx
  exact ⟨t.gr.trans (g.low (by omega)), by rw [g.old _ (by omega)]; exact t.e2, by rw [g.old _ (by omega)]; exact t.e3, by rw [g.old _ (by omega)]; exact t.e5, by rw [g.old _ (by omega)]; exact t.ef, by rw [g.old _ (by omega)]; exact t.el, by omega, t.o2, t.o3, t.o5, t.of, t.ob⟩
theorem NpI.put (t : NpI b h id2 id3 id5 idf idl x v s lb h1) : NpI b h id2 id3 id5 idf idl x v s' lb (h1.put id5 (.cells 1 [nE s'])) := by
  have := t.nx; have := t.o2; have := t.o3; have := t.o5; have := t.of; have := t.ob
  exact ⟨t.gr.trans (Grow.put (by omega) (by omega) _), by rw [get_put_other (kNe (by omega))]; exact t.e2, by rw [get_put_other (kNe (by omega))]; exact t.e3, get_put_same, by rw [get_put_other (kNe (by omega)).symm]; exact t.ef, by rw [get_put_other (kNe (by omega)).symm]; exact t.el, t.nx, t.o2, t.o3, t.o5, t.of, t.ob⟩
end
def f61_I (b : Nat) (h : H) (id2 id3 id5 idf idl : K) (x c s0 : Nat) (v : V) (S : List Int) (lb : Blk) (j : Nat) (fr : Fr) (h1 : H) : Prop := j ≤ S.length ∧ NpI b h id2 id3 id5 idf idl x v (if oppS x c (S.take j) = true then s0 ||| c else s0) lb h1 ∧ fr.get (K.ofNat 2) = some (.p id2 0) ∧ fr.get (K.ofNat 3) = some (.p id3 0) ∧ fr.get (K.ofNat 5) = some (.p id5 0) ∧ fr.get (K.ofNat 6) = some (.i .i64 (c : Int)) ∧ fr.get (K.ofNat 12) = some (v) ∧ fr.get (K.ofNat 13) = some (.i .i64 (S.length : Int)) ∧ fr.get (K.ofNat 14) = some (.i .i64 (j : Int))
theorem f61_inner {Q : Ex → Fr → H → Prop} {h h0 : H} {id2 id3 id5 idf idl : K} {x c s0 : Nat} {v : V} {S : List Int} {lb : Blk} {fr : Fr}
    (hp : ∀ a b h P, CallP fs (.fn (K.ofNat 54) []) [.i .i64 a, .i .i64 b] h P = P (.b (ptI a b)) h) (h83 : fs.get (K.ofNat 83) = some f83) (hv : Sl iE h v S) (hc : HC h) (hS : S.length ≤ 1000000) (hx : x < 64) (hcl : c ≤ 32) (hs0 : s0 < 64)
    (hi : f61_I h.nx.nat h id2 id3 id5 idf idl x c s0 v S lb 0 fr h0)
    (hq : ∀ fr h1, NpI h.nx.nat h id2 id3 id5 idf idl x v (if oppS x c S = true then s0 ||| c else s0) lb h1 → fr.get (K.ofNat 2) = some (.p id2 0) ∧ fr.get (K.ofNat 3) = some (.p id3 0) ∧ fr.get (K.ofNat 5) = some (.p id5 0) → Q (.exit 2) fr h1) :
    W fs ro (.loop f61_l0) Q fr h0 := by
  refine W_loop (f61_I h.nx.nat h id2 id3 id5 idf idl x c s0 v S lb) (fun j => S.length - j) ?_ 0 hi
  clear hi fr h0
  rintro j fr h1 ⟨hj, ht, g2, g3, g5, g6, g12, g13, g14⟩
  have hc1 := ht.gr.hc hc
  have hv1 := hv.grow hc ht.gr
  unfold f61_l0
  by_cases hlt : j < S.length
  · have hlt' : (j : Int) < (S.length : Int) := by omega
    obtain ⟨p, hp1, hp2⟩ := hv1.at j hlt
    have ld2 : loadV h1 (.p id2 0) one? = .ok (.i .i64 (x : Int)) h1 := load_p ht.e2 rfl
    have hs : oppS x c (S.take (j + 1)) = (oppS x c (S.take j) || ptI (lessC x c : Int) S[j]) := any_snoc hlt
    cases e : ptI (lessC x c : Int) S[j]
    · rw [e, Bool.or_false] at hs
      simp (disch := omega) only [f61_r5, f61_r6, f61_r7, f61_r9, w_skip, w_reg, w_seq, w_cond, w_block, seqK_n, atK_n, loopK_n, ckB_b, cbB_b, true_and, x_nil, x_mv, x_as, x_ld, x_bin, x_iads, x_call, kx, rvP_ok, okv_some, ev_t, ev_c, evs_nil, evs_cons, getV_some, putD_some, bin_add, bin_lss, of1, getK_set, Nat.reduceEqDiff, ↓reduceIte, Bool.false_eq_true, g2, g6, g12, g13, g14, hlt', decide_true, hp1, hp2, iE, ld2, andNot_n (show x < 9223372036854775808 by omega) (show c < 9223372036854775808 by omega), hp, e, fw64]
      exact ⟨j + 1, by omega, hlt, by rw [hs]; exact ht, by simp (disch := omega) only [getK_set, Nat.reduceEqDiff, ↓reduceIte, g2, g3, g5, g6, g12, g13, and_self, Int.natCast_add, Int.natCast_one]⟩
    · rw [e, Bool.or_true] at hs
      -- what is there so far
      obtain ⟨s1, hs1, hs1l, hs1c⟩ : ∃ s1, (if oppS x c (S.take j) = true then s0 ||| c else s0) = s1 ∧ s1 < 64 ∧ s1 ||| c = s0 ||| c := by
        have h1 : s0 ||| c < 64 := Nat.or_lt_two_pow (n := 6) hs0 (by omega)
        by_cases e2 : oppS x c (S.take j) = true
        · exact ⟨_, rfl, by rw [if_pos e2]; exact h1, by rw [if_pos e2, Nat.or_assoc, Nat.or_self]⟩
        · exact ⟨_, rfl, by rw [if_neg e2]; exact hs0, by rw [if_neg e2]⟩
      rw [hs1] at ht
      have ld5 : loadV h1 (.p id5 0) one? = .ok (.i .i64 (s1 : Int)) h1 := load_p ht.e5 rfl
      have g8 : Grow h1.nx.nat h1 (h1.new (.cells (2 * 1) [nE s1, nE c])) := Grow.new (Nat.le_refl _) _
      have ht8 := ht.grow g8
      have hjn : joinS [s1, c] = s0 ||| c := by rw [← hs1c]; simp [joinS]
      simp (disch := omega) only [f61_r5, f61_r6, f61_r7, f61_r8, w_skip, w_reg, w_seq, w_cond, w_block, seqK_n, ckB_b, cbB_b, true_and, x_nil, x_mv, x_as, x_bslice, x_ld, x_bin, x_iads, x_call, kx, rvP_ok, okv_some, ev_t, ev_c, evs_nil, evs_cons, getV_some, putD_some, bin_lss, oGet_s, cells1_i, of0, getK_set, Nat.reduceEqDiff, ↓reduceIte, g2, g5, g6, g12, g13, g14, hlt', decide_true, hp1, hp2, iE, ld2, ld5, andNot_n (show x < 9223372036854775808 by omega) (show c < 9223372036854775808 by omega), hp, e, fill_2, set_2]
      refine (callP_0 (ef := f83) h83 rfl (f83_ret (L := [s1, c]) (Sl.lit2 (e := nE)) (fun y hy => by simp at hy; omega) (by simp))).mono ?_
      rintro u h8 ⟨rfl, rfl⟩
      rw [show [nE s1, nE c] = [V.i .i64 (s1 : Int), V.i .i64 (c : Int)] from rfl] at *
      generalize h1.new (.cells (2 * 1) [V.i .i64 (s1 : Int), V.i .i64 (c : Int)]) = h8 at *
      have hst : storeV h8 1 (.p id5 0) (.i .i64 ((s0 ||| c : Nat) : Int)) = .ok undefV (h8.put id5 (.cells 1 [nE (s0 ||| c)])) := by
        rw [store_p ht8.e5 rfl (by omega)]; rfl
      simp (disch := omega) only [f61_r9, w_reg, seqK_n, atK_n, loopK_n, x_nil, x_mv, x_st, x_bin, kx, rvP_ok, okv_some, ev_t, ev_c, getV_some, putD_some, putD_none, bin_add, of1, getK_set, Nat.reduceEqDiff, ↓reduceIte, g5, g14, hjn, hst, fw64]
      exact ⟨j + 1, by omega, hlt, by rw [hs, if_pos rfl]; exact ht8.put, by simp (disch := omega) only [getK_set, Nat.reduceEqDiff, ↓reduceIte, g2, g3, g5, g6, g12, g13, and_self, Int.natCast_add, Int.natCast_one]⟩
  · obtain rfl : j = S.length := by omega
    have hlt' : ¬ (S.length : Int) < (S.length : Int) := by omega
    rw [List.take_length] at ht
    simp (disch := omega) only [f61_r5, w_reg, w_seq, w_cond, w_exit, seqK_n, seqK_e, loopK_e, ckB_b, cbB_b, true_and, x_nil, x_bin, kx, rvP_ok, okv_some, ev_t, getV_some, putD_some, bin_lss, getK_set, ↓reduceIte, Bool.false_eq_true, g13, g14, hlt', decide_false]
    exact hq _ _ ht (by simp (disch := omega) only [getK_set, Nat.reduceEqDiff, ↓reduceIte, g2, g3, g5, and_self])
theorem f61_ret {h : H} {x : Nat} {v : V} {S : List Int} {ef : EF} (hp : ∀ a b h P, CallP fs (.fn (K.ofNat 54) []) [.i .i64 a, .i .i64 b] h P = P (.b (ptI a b)) h)
    (h82 : fs.get (K.ofNat 82) = some f82) (h92 : fs.get (K.ofNat 92) = some coF) (h54 : fs.get (K.ofNat 54) = some ef) (hn : ef.nv = some (flatG partG)) (h83 : fs.get (K.ofNat 83) = some f83) (hv : Sl iE h v S) (hc : HC h) (hS : S.length ≤ 1000000) (hx : x < 64) :
    Ret fs f61 [nE x, v] h fun u h' => u = nE (newPS x S) ∧ Grow h.nx.nat h h' := by
  apply ret_of rfl
  show W fs none f61_c _ _ _
  unfold f61_c
  have hcn : cellsN 1 (nE x) = some [nE x] := rfl
  have g1 : Grow h.nx.nat h (h.new (.cells 1 [nE x])) := Grow.new (Nat.le_refl _) _
  have n1 := nx_new h (.cells 1 [nE x])
  have e2 : (h.new (.cells 1 [nE x])).get h.nx = .cells 1 [nE x] := get_new_same
  have n2 := nx_new (h.new (.cells 1 [nE x])) (.cells 1 [v])
  have n3 := nx_new ((h.new (.cells 1 [nE x])).new (.cells 1 [v])) (.cells 1 [nE 0])
  have hu0 : V.i .i64 0 = nE 0 := rfl
  have st5 : storeV (((h.new (.cells 1 [nE x])).new (.cells 1 [v])).new (.cells 1 [nE 0])) 1 (.p ((h.new (.cells 1 [nE x])).new (.cells 1 [v])).nx 0) (nE 0) = .ok undefV ((((h.new (.cells 1 [nE x])).new (.cells 1 [v])).new (.cells 1 [nE 0])).put ((h.new (.cells 1 [nE x])).new (.cells 1 [v])).nx (.cells 1 [nE 0])) := by
    rw [store_p get_new_same rfl (by omega)]; rfl
  have ld2 : loadV ((((h.new (.cells 1 [nE x])).new (.cells 1 [v])).new (.cells 1 [nE 0])).put ((h.new (.cells 1 [nE x])).new (.cells 1 [v])).nx (.cells 1 [nE 0])) (.p h.nx 0) one? = .ok (nE x) _ := load_p (by rw [get_put_other (kNe (by omega)), get_new_old (by omega), get_new_old (by omega)]; exact e2) rfl
  simp (disch := omega) only [f61_r0, f61_r1, f61_r2, w_reg, w_seq, seqK_n, x_nil, x_as, x_alloc, x_box, x_ld, x_st, x_call, kx, rvP_ok, ev_t, ev_c, evs_nil, evs_cons, getV_some, putD_some, putD_none, oGet_s, frame_2, of0, getK_set, Nat.reduceEqDiff, ↓reduceIte, hcn, hv.one, hu0, st5, ld2]
  have e3 : ((((h.new (.cells 1 [nE x])).new (.cells 1 [v])).new (.cells 1 [nE 0])).put ((h.new (.cells 1 [nE x])).new (.cells 1 [v])).nx (.cells 1 [nE 0])).get (h.new (.cells 1 [nE x])).nx = .cells 1 [v] := by rw [get_put_other (kNe (by omega)), get_new_old (by omega), get_new_same]
  have e5 : ((((h.new (.cells 1 [nE x])).new (.cells 1 [v])).new (.cells 1 [nE 0])).put ((h.new (.cells 1 [nE x])).new (.cells 1 [v])).nx (.cells 1 [nE 0])).get ((h.new (.cells 1 [nE x])).new (.cells 1 [v])).nx = .cells 1 [nE 0] := get_put_same
  have e2' : ((((h.new (.cells 1 [nE x])).new (.cells 1 [v])).new (.cells 1 [nE 0])).put ((h.new (.cells 1 [nE x])).new (.cells 1 [v])).nx (.cells 1 [nE 0])).get h.nx = .cells 1 [nE x] := by rw [get_put_other (kNe (by omega)), get_new_old (by omega), get_new_old (by omega)]; exact e2
  have gg : Grow h.nx.nat h ((((h.new (.cells 1 [nE x])).new (.cells 1 [v])).new (.cells 1 [nE 0])).put ((h.new (.cells 1 [nE x])).new (.cells 1 [v])).nx (.cells 1 [nE 0])) := ((g1.trans (Grow.new (by omega) _)).trans (Grow.new (by omega) _)).trans (Grow.put (by omega) (by omega) _)
  have n4 : ((((h.new (.cells 1 [nE x])).new (.cells 1 [v])).new (.cells 1 [nE 0])).put ((h.new (.cells 1 [nE x])).new (.cells 1 [v])).nx (.cells 1 [nE 0])).nx.nat = (((h.new (.cells 1 [nE x])).new (.cells 1 [v])).new (.cells 1 [nE 0])).nx.nat := rfl
  generalize (((h.new (.cells 1 [nE x])).new (.cells 1 [v])).new (.cells 1 [nE 0])).put ((h.new (.cells 1 [nE x])).new (.cells 1 [v])).nx (.cells 1 [nE 0]) = h4 at *
  generalize hid5 : ((h.new (.cells 1 [nE x])).new (.cells 1 [v])).nx = id5 at *
  generalize hid3 : (h.new (.cells 1 [nE x])).nx = id3 at *
  refine (callP_0 (ef := f82) h82 rfl (f82_ret (x := (x : Int)))).mono ?_
  rintro u h3 ⟨rfl, rfl⟩
  simp (disch := omega) only [w_block, seqK_n, x_nil, kx, putD_some]
  have n5 := nx_new h4 (.cells 1 [nE x])
  have ga : Grow h4.nx.nat h4 (h4.new (.cells 1 [nE x])) := Grow.new (Nat.le_refl _) _
  have ef : (h4.new (.cells 1 [nE x])).get h4.nx = .cells 1 [nE x] := get_new_same
  rw [← ga.old _ (by omega)] at e2' e3 e5
  replace gg := gg.trans (ga.low (b := h.nx.nat) (by omega))
  rw [show V.i .i64 (x : Int) = nE x from rfl]
  generalize hh5 : h4.new (.cells 1 [nE x]) = h5 at *
  generalize hfr1 : T.set (K.ofNat 10) (V.fn (K.ofNat 92) [V.p h4.nx 0]) _ = fr1
  have f10 : fr1.get (K.ofNat 10) = some (.fn (K.ofNat 92) [.p h4.nx 0]) := by rw [← hfr1]; simp (disch := omega) only [getK_set, ↓reduceIte]
  have f2 : fr1.get (K.ofNat 2) = some (.p h.nx 0) := by rw [← hfr1]; simp (disch := omega) only [getK_set, Nat.reduceEqDiff, ↓reduceIte]
  have f3 : fr1.get (K.ofNat 3) = some (.p id3 0) := by rw [← hfr1]; simp (disch := omega) only [getK_set, Nat.reduceEqDiff, ↓reduceIte]
  have f5 : fr1.get (K.ofNat 5) = some (.p id5 0) := by rw [← hfr1]; simp (disch := omega) only [getK_set, Nat.reduceEqDiff, ↓reduceIte]
  clear hfr1
  have n6 := nx_new h5 (rdyB fr1 [(K.ofNat 11)] f61_a0 f61_b0)
  have hnew : Grow h5.nx.nat h5 (h5.new (rdyB fr1 [(K.ofNat 11)] f61_a0 f61_b0)) := Grow.new (Nat.le_refl _) _
  have hy := corner_yields (fs := fs) (idp := h4.nx) (S := (x : Int)) h92 h54 hn
  rw [cornN_ys] at hy
  refine W_range (k := (K.ofNat 92)) (caps := [.p h4.nx 0]) (N := fun h => h.get h4.nx = .cells 1 [nE x]) (ys := (cornN x).map nE) rfl (by simp (disch := omega) only [ev_t, getV_some, f10]) hy
    (fun j h6 => ∃ lb, NpI h.nx.nat h h.nx id3 id5 h4.nx h5.nx x v (npTo x S j) lb h6) (fun _ _ => False) (fun i h5 ⟨lb, ht⟩ => ht.ef)
    ⟨_, gg.trans (hnew.low (by omega)), by rw [hnew.old _ (by omega)]; exact e2', by rw [hnew.old _ (by omega)]; exact e3, by rw [hnew.old _ (by omega)]; exact e5, by rw [hnew.old _ (by omega)]; exact ef, get_new_same, by omega, by omega, by omega, by omega, by omega, Nat.le_refl _⟩ ?_ ?_ (fun _ _ _ hf => hf.elim)
  · rintro j h6 hj ⟨lb, ht⟩ hrd
    have hj' : j < (cornN x).length := by simpa using hj
    obtain rfl : lb = rdyB fr1 [(K.ofNat 11)] f61_a0 f61_b0 := ht.el.symm.trans hrd
    rw [List.getElem_map]
    rw [show ∀ Q fr h, W fs (some h5.nx) f61_a0 Q fr h = X fs f61_r3 (Q .normal) fr h from fun _ _ _ => rfl]
    simp (disch := omega) only [f61_r3, rndA_n, x_nil, x_as, ev_t, getV_some, putD_some, getK_set, ↓reduceIte]
    refine ⟨ht.el, ?_⟩
    have ht7 := ht.loop (bsyB fr1 [(K.ofNat 11)] f61_a0 f61_b0)
    generalize h6.put h5.nx (bsyB fr1 [(K.ofNat 11)] f61_a0 f61_b0) = h7 at *
    obtain ⟨c1, c2⟩ := less_lt x hx _ (List.getElem_mem hj')
    have hs := npTo_succ (S := S) hj'
    have hb := npTo_lt (S := S) hx j (by omega)
    have ld3 : loadV h7 (.p id3 0) one? = .ok v h7 := load_p ht7.e3 rfl
    rw [show ∀ Q fr h, W fs (some h5.nx) f61_b0 Q fr h = X fs f61_r4 (seqK (W fs (some h5.nx) (.block 2 (.loop f61_l0))) (atK 1 Q) .normal) fr h from fun _ _ _ => rfl]
    simp (disch := omega) only [f61_r4, w_block, seqK_n, x_nil, x_mv, x_ld, x_len, kx, rvP_ok, ev_t, ev_c, getV_some, putD_some, of0, getK_set, Nat.reduceEqDiff, ↓reduceIte, f3, ld3, (hv.grow hc ht7.gr).len]
    refine f61_inner (h := h) (x := x) (c := (cornN x)[j]) (s0 := npTo x S j) (v := v) (S := S) hp h83 hv hc hS hx c1 hb ⟨Nat.zero_le _, by rw [List.take_zero, show oppS x (cornN x)[j] [] = false from rfl]; exact ht7, by simp (disch := omega) only [getK_set, Nat.reduceEqDiff, ↓reduceIte, f2, f3, f5, nE, and_self, Int.natCast_zero]⟩ ?_
    rintro fr h8 ht8 ⟨g2, g3, g5⟩
    rw [← hs] at ht8
    simp (disch := omega) only [atK_n, atK_e, rndK_n, ↓reduceIte]
    exact ⟨ht8.el, _, ht8.loop _⟩
  · rintro h6 ⟨lb, ht⟩
    have ht2 := ht.loop .dead
    rw [List.length_map, show npTo x S (cornN x).length = newPS x S by unfold npTo newPS; rw [List.take_length]] at ht2
    have ld5 : loadV (h6.put h5.nx .dead) (.p id5 0) one? = .ok (nE (newPS x S)) (h6.put h5.nx .dead) := load_p ht2.e5 rfl
    simp (disch := omega) only [f61_r10, f61_rs, w_reg, w_seq, w_ret, seqK_n, atK_n, true_and, retK_r, x_nil, x_as, x_ld, kx, rvP_ok, ev_t, getV_some, putD_some, oGet_s, readRs_nil, readRs_t, retV_1, Option.some.injEq, exists_eq_left', getK_set, ↓reduceIte, f5, ld5, true_and]
    exact ht2.gr
noncomputable def fitS (x : Nat) (S : List Int) : Bool := S.all fun y => !ptI (newPS x S : Int) y
def f80_I (h : H) (v : V) (S : List Int) (d : Nat) (i : Nat) (fr : Fr) (h1 : H) : Prop := h1 = h ∧ i ≤ S.length ∧ (S.take i).all (fun y => !ptI (d : Int) y) = true ∧ fr.get (K.ofNat 5) = some (.i .i64 (d : Int)) ∧ fr.get (K.ofNat 11) = some (v) ∧ fr.get (K.ofNat 12) = some (.i .i64 (S.length : Int)) ∧ fr.get (K.ofNat 13) = some (.i .i64 (i : Int))
theorem f80_ret {h : H} {x : Nat} {v : V} {S : List Int} {ef : EF} (hp : ∀ a b h P, CallP fs (.fn (K.ofNat 54) []) [.i .i64 a, .i .i64 b] h P = P (.b (ptI a b)) h)
    (h82 : fs.get (K.ofNat 82) = some f82) (h92 : fs.get (K.ofNat 92) = some coF) (h54 : fs.get (K.ofNat 54) = some ef) (hn : ef.nv = some (flatG partG)) (h83 : fs.get (K.ofNat 83) = some f83) (h61 : fs.get (K.ofNat 61) = some f61) (hv : Sl iE h v S) (hc : HC h) (hS : S.length ≤ 1000000) (hx : x < 64) :
    Ret fs f80 [.i .i64 (x : Int), v] h fun u h' => u = .b (fitS x S) ∧ Grow h.nx.nat h h' := by
  apply ret_of rfl
  show W fs none f80_c _ _ _
  unfold f80_c
  simp (disch := omega) only [f80_r0, f80_r1, w_reg, w_seq, seqK_n, x_nil, x_mv, x_as, x_call, ev_t, ev_c, evs_nil, evs_cons, getV_some, putD_some, frame_2, getK_set, Nat.reduceEqDiff, ↓reduceIte]
  refine (callP_0 (ef := f61) h61 rfl (f61_ret (x := x) hp h82 h92 h54 hn h83 hv hc hS hx)).mono ?_
  rintro u h1 ⟨rfl, g1⟩
  have hv1 := hv.grow hc g1
  rw [show nE (newPS x S) = V.i .i64 (newPS x S : Int) from rfl]
  simp (disch := omega) only [f80_r2, w_reg, w_seq, w_block, seqK_n, x_nil, x_mv, x_as, x_len, kx, rvP_ok, ev_t, ev_c, getV_some, putD_some, of0, getK_set, Nat.reduceEqDiff, ↓reduceIte, hv1.len]
  refine W_loop (f80_I h1 v S (newPS x S)) (fun i => S.length - i) ?_ 0 ⟨rfl, Nat.zero_le _, by simp, by simp (disch := omega) only [getK_set, Nat.reduceEqDiff, ↓reduceIte, and_self, Int.natCast_zero]⟩
  rintro i fr h2 ⟨rfl, hi, hal, g5, g11, g12, g13⟩
  unfold f80_l0
  by_cases hlt : i < S.length
  · have hlt' : (i : Int) < (S.length : Int) := by omega
    obtain ⟨p, hp1, hp2⟩ := hv1.at i hlt
    have hs := all_snoc (p := fun y => !ptI (newPS x S : Int) y) hlt
    rw [hal, Bool.true_and] at hs
    cases e : ptI (newPS x S : Int) S[i]
    · rw [e] at hs
      simp (disch := omega) only [f80_r3, f80_r4, f80_r5, f80_r7, w_skip, w_reg, w_seq, w_cond, w_block, seqK_n, atK_n, loopK_n, ckB_b, cbB_b, true_and, x_nil, x_mv, x_as, x_ld, x_bin, x_iads, x_call, kx, rvP_ok, okv_some, ev_t, ev_c, evs_nil, evs_cons, getV_some, putD_some, bin_add, bin_lss, of1, getK_set, Nat.reduceEqDiff, ↓reduceIte, Bool.false_eq_true, g5, g11, g12, g13, hlt', decide_true, hp1, hp2, iE, hp, e, fw64]
      exact ⟨i + 1, by omega, rfl, hlt, hs, by simp (disch := omega) only [getK_set, Nat.reduceEqDiff, ↓reduceIte, g5, g11, g12, and_self, Int.natCast_add, Int.natCast_one]⟩
    · have hf : fitS x S = false := by
        unfold fitS
        rw [List.all_eq_false]
        exact ⟨S[i], List.getElem_mem hlt, by rw [e]; simp⟩
      simp (disch := omega) only [f80_r3, f80_r4, f80_r5, f80_r6, f80_rs, w_skip, w_reg, w_seq, w_cond, w_block, w_ret, seqK_n, seqK_r, atK_r, loopK_r, ckB_b, cbB_b, true_and, retK_r, x_nil, x_mv, x_as, x_ld, x_bin, x_iads, x_call, kx, rvP_ok, okv_some, ev_t, ev_c, evs_nil, evs_cons, getV_some, putD_some, bin_lss, oGet_s, readRs_nil, readRs_t, retV_1, Option.some.injEq, exists_eq_left', getK_set, Nat.reduceEqDiff, ↓reduceIte, g5, g11, g12, g13, hlt', decide_true, hp1, hp2, iE, hp, e, hf, true_and]
      exact g1
  · obtain rfl : i = S.length := by omega
    have hlt' : ¬ (S.length : Int) < (S.length : Int) := by omega
    rw [List.take_length] at hal
    have hf : fitS x S = true := hal
    simp (disch := omega) only [f80_r3, f80_r8, f80_rs, w_reg, w_seq, w_cond, w_exit, w_ret, seqK_n, seqK_e, atK_e, loopK_e, ckB_b, cbB_b, true_and, retK_r, x_nil, x_as, x_bin, kx, rvP_ok, okv_some, ev_t, ev_c, getV_some, putD_some, bin_lss, oGet_s, readRs_nil, readRs_t, retV_1, Option.some.injEq, exists_eq_left', getK_set, ↓reduceIte, Bool.false_eq_true, g12, g13, hlt', decide_false, hf, true_and]
    exact g1
end
end Go.Ev
namespace Go.Ev
open Go Go.RowKit
noncomputable def f71_r0 : List EOper := [⟨(some (K.ofNat 2)), none, .as (.c (.b false))⟩]
noncomputable def f71_r1 : List EOper := [⟨(some (K.ofNat 3)), none, .as (.c (.i .i64 (.ofNat 0)))⟩]
noncomputable def f71_r2 : List EOper := [⟨(some (K.ofNat 4)), none, .mv (.t (K.ofNat 3))⟩, ⟨(some (K.ofNat 5)), none, .mv (.t (K.ofNat 0))⟩, ⟨(some (K.ofNat 6)), none, .len (.t (K.ofNat 5))⟩, ⟨(some (K.ofNat 7)), none, .bin .lss (.t (K.ofNat 4)) (.t (K.ofNat 6))⟩]
noncomputable def f71_r3 : List Stage := [⟨[⟨(some (K.ofNat 10)), none, .mv (.t (K.ofNat 0))⟩, ⟨(some (K.ofNat 11)), none, .mv (.t (K.ofNat 3))⟩, ⟨(some (K.ofNat 12)), none, .iads 1 (.t (K.ofNat 10)) (.t (K.ofNat 11))⟩, ⟨(some (K.ofNat 13)), none, .ld (.t (K.ofNat 12))⟩, ⟨(some (K.ofNat 15)), none, .mv (.t (K.ofNat 0))⟩, ⟨(some (K.ofNat 16)), none, .iads 1 (.t (K.ofNat 15)) (.c (.i .i64 (.ofNat 0)))⟩, ⟨(some (K.ofNat 17)), none, .ld (.t (K.ofNat 16))⟩], [], (some ⟨(some (K.ofNat 14)), none, .call (.c (.fn (K.ofNat 52) [])) [(.t (K.ofNat 13))]⟩), []⟩, ⟨[], [⟨(some (K.ofNat 15)), none, .mv (.t (K.ofNat 0))⟩, ⟨(some (K.ofNat 16)), none, .iads 1 (.t (K.ofNat 15)) (.c (.i .i64 (.ofNat 0)))⟩, ⟨(some (K.ofNat 17)), none, .ld (.t (K.ofNat 16))⟩], (some ⟨(some (K.ofNat 18)), none, .call (.c (.fn (K.ofNat 52) [])) [(.t (K.ofNat 17))]⟩), []⟩, ⟨[⟨(some (K.ofNat 19)), none, .bin .neq (.t (K.ofNat 14)) (.t (K.ofNat 18))⟩], [], none, []⟩]
noncomputable def f71_r4 : List EOper := [⟨(some (K.ofNat 2)), none, .as (.c (.b false))⟩]
noncomputable def f71_r5 : List EOper := [⟨(some (K.ofNat 8)), none, .mv (.t (K.ofNat 3))⟩, ⟨(some (K.ofNat 9)), none, .bin .add (.t (K.ofNat 8)) (.c (.i .i64 (.ofNat 1)))⟩, ⟨(some (K.ofNat 3)), none, .as (.t (K.ofNat 9))⟩]
noncomputable def f71_l0 : EC := (.seq (.seq (.reg f71_r2) (.cond (.t (K.ofNat 7)) .skip (.exit 0))) (.seq (.block 1 (.seq (.draw f71_r3) (.cond (.t (K.ofNat 19)) (.seq (.reg f71_r4) .ret) .skip))) (.reg f71_r5)))
noncomputable def f71_r6 : List EOper := [⟨(some (K.ofNat 2)), none, .as (.c (.b true))⟩]
noncomputable def f71_c : EC := (.seq (.reg f71_r0) (.seq (.seq (.reg f71_r1) (.block 0 (.loop f71_l0))) (.seq (.reg f71_r6) .ret)))
noncomputable def f71 : EF := ⟨20, [.tmp (K.ofNat 2)], f71_c, none⟩
noncomputable def f38_r0 : List EOper := [⟨(some (K.ofNat 4)), none, .as (.c (.i .i64 (.ofNat 0)))⟩, ⟨(some (K.ofNat 5)), none, .as (.c .sn)⟩]
noncomputable def f38_r1 : List EOper := [⟨(some (K.ofNat 10)), none, .mv (.t (K.ofNat 0))⟩, ⟨(some (K.ofNat 11)), none, .mv (.t (K.ofNat 1))⟩, ⟨(some (K.ofNat 12)), none, .call (.c (.fn (K.ofNat 30) [])) [(.t (K.ofNat 10)), (.t (K.ofNat 11))]⟩, ⟨(some (K.ofNat 9)), none, .mv (.t (K.ofNat 12))⟩, ⟨(some (K.ofNat 13)), none, .ext (.t (K.ofNat 9)) 0⟩, ⟨(some (K.ofNat 14)), none, .ext (.t (K.ofNat 9)) 1⟩, ⟨(some (K.ofNat 0)), none, .as (.t (K.ofNat 13))⟩, ⟨(some (K.ofNat 6)), none, .as (.t (K.ofNat 14))⟩]
noncomputable def f38_r2 : List EOper := [⟨(some (K.ofNat 7)), none, .as (.c .sn)⟩]
noncomputable def f38_r3 : List EOper := [⟨(some (K.ofNat 8)), none, .as (.c (.i .i64 (.ofNat 0)))⟩]
noncomputable def f38_r4 : List EOper := [⟨(some (K.ofNat 15)), none, .mv (.t (K.ofNat 8))⟩, ⟨(some (K.ofNat 16)), none, .mv (.t (K.ofNat 6))⟩, ⟨(some (K.ofNat 17)), none, .len (.t (K.ofNat 16))⟩, ⟨(some (K.ofNat 18)), none, .bin .lss (.t (K.ofNat 15)) (.t (K.ofNat 17))⟩]
noncomputable def f38_r5 : List Stage := [⟨[⟨(some (K.ofNat 21)), none, .mv (.t (K.ofNat 6))⟩, ⟨(some (K.ofNat 22)), none, .mv (.t (K.ofNat 8))⟩, ⟨(some (K.ofNat 23)), none, .iads 1 (.t (K.ofNat 21)) (.t (K.ofNat 22))⟩, ⟨(some (K.ofNat 24)), none, .ld (.t (K.ofNat 23))⟩, ⟨(some (K.ofNat 26)), none, .mv (.t (K.ofNat 6))⟩, ⟨(some (K.ofNat 27)), none, .mv (.t (K.ofNat 6))⟩, ⟨(some (K.ofNat 28)), none, .len (.t (K.ofNat 27))⟩, ⟨(some (K.ofNat 29)), none, .bin .sub (.t (K.ofNat 28)) (.c (.i .i64 (.ofNat 1)))⟩, ⟨(some (K.ofNat 30)), none, .iads 1 (.t (K.ofNat 26)) (.t (K.ofNat 29))⟩, ⟨(some (K.ofNat 31)), none, .ld (.t (K.ofNat 30))⟩], [], (some ⟨(some (K.ofNat 25)), none, .call (.c (.fn (K.ofNat 52) [])) [(.t (K.ofNat 24))]⟩), []⟩, ⟨[], [⟨(some (K.ofNat 26)), none, .mv (.t (K.ofNat 6))⟩, ⟨(some (K.ofNat 27)), none, .mv (.t (K.ofNat 6))⟩, ⟨(some (K.ofNat 28)), none, .len (.t (K.ofNat 27))⟩, ⟨(some (K.ofNat 29)), none, .bin .sub (.t (K.ofNat 28)) (.c (.i .i64 (.ofNat 1)))⟩, ⟨(some (K.ofNat 30)), none, .iads 1 (.t (K.ofNat 26)) (.t (K.ofNat 29))⟩, ⟨(some (K.ofNat 31)), none, .ld (.t (K.ofNat 30))⟩], (some ⟨(some (K.ofNat 32)), none, .call (.c (.fn (K.ofNat 52) [])) [(.t (K.ofNat 31))]⟩), []⟩, ⟨[⟨(some (K.ofNat 33)), none, .bin .eql (.t (K.ofNat 25)) (.t (K.ofNat 32))⟩], [], none, []⟩]
noncomputable def f38_r6 : List EOper := [⟨(some (K.ofNat 34)), none, .mv (.t (K.ofNat 7))⟩, ⟨(some (K.ofNat 35)), none, .mv (.t (K.ofNat 6))⟩, ⟨(some (K.ofNat 36)), none, .mv (.t (K.ofNat 8))⟩, ⟨(some (K.ofNat 37)), none, .iads 1 (.t (K.ofNat 35)) (.t (K.ofNat 36))⟩, ⟨(some (K.ofNat 38)), none, .ld (.t (K.ofNat 37))⟩, ⟨(some (K.ofNat 39)), none, .bslice 1 1 [(.i .i64 (.ofNat 0))] [(0, 1, (.t (K.ofNat 38)))]⟩, ⟨(some (K.ofNat 40)), none, .app 1 (.t (K.ofNat 34)) (.t (K.ofNat 39))⟩, ⟨(some (K.ofNat 7)), none, .as (.t (K.ofNat 40))⟩]
noncomputable def f38_r7 : List EOper := [⟨(some (K.ofNat 19)), none, .mv (.t (K.ofNat 8))⟩, ⟨(some (K.ofNat 20)), none, .bin .add (.t (K.ofNat 19)) (.c (.i .i64 (.ofNat 1)))⟩, ⟨(some (K.ofNat 8)), none, .as (.t (K.ofNat 20))⟩]
noncomputable def f38_l0 : EC := (.seq (.seq (.reg f38_r4) (.cond (.t (K.ofNat 18)) .skip (.exit 0))) (.seq (.block 1 (.seq (.draw f38_r5) (.cond (.t (K.ofNat 33)) (.reg f38_r6) .skip))) (.reg f38_r7)))
noncomputable def f38_r8 : List EOper := [⟨(some (K.ofNat 41)), none, .mv (.t (K.ofNat 0))⟩, ⟨(some (K.ofNat 42)), none, .mv (.t (K.ofNat 7))⟩, ⟨(some (K.ofNat 4)), none, .as (.t (K.ofNat 41))⟩, ⟨(some (K.ofNat 5)), none, .as (.t (K.ofNat 42))⟩]
noncomputable def f38_c : EC := (.seq (.reg f38_r0) (.seq (.reg f38_r1) (.seq (.reg f38_r2) (.seq (.seq (.reg f38_r3) (.block 0 (.loop f38_l0))) (.seq (.reg f38_r8) .ret)))))
noncomputable def f38 : EF := ⟨43, [.tmp (K.ofNat 4), .tmp (K.ofNat 5)], f38_c, none⟩
theorem f38_rs : f38.rs = [.tmp (K.ofNat 4), .tmp (K.ofNat 5)] := of_eq_true (eq_self _)
section
variable {fs : T EF} {ro : Option K}
noncomputable def pureL (P : List Int) (l : List Int) : List Int := l.filter fun s => decide (pop6 s.toNat = pop6 (P.getLastD 0).toNat)
theorem pureL_snoc {P l : List Int} {s : Int} : pureL P (l ++ [s]) = if pop6 s.toNat = pop6 (P.getLastD 0).toNat then pureL P l ++ [s] else pureL P l := by
  unfold pureL
  generalize (P.getLastD 0).toNat = z
  rw [List.filter_append]
  by_cases e : pop6 s.toNat = pop6 z <;> simp [e]
theorem pureL_len {P l : List Int} : (pureL P l).length ≤ l.length := List.length_filter_le _ _
def f38_I (h : H) (n : Int) (v : V) (P : List Int) (i : Nat) (fr : Fr) (h1 : H) : Prop := ∃ o, i ≤ P.length ∧ Sl iE h1 o (pureL P (P.take i)) ∧ Own h.nx.nat o ∧ Grow h.nx.nat h h1 ∧ fr.get (K.ofNat 0) = some (.i .i64 n) ∧ fr.get (K.ofNat 6) = some (v) ∧ fr.get (K.ofNat 7) = some (o) ∧ fr.get (K.ofNat 8) = some (.i .i64 (i : Int))
theorem f38_ret {h : H} {v : V} {L : List Int} {n : Int}
    (hp : ∀ a b h P, CallP fs (.fn (K.ofNat 53) []) [.i .i64 a, .i .i64 b] h P = P (.b (ptI a b)) h) (hp52 : ∀ m : Nat, m < 64 → ∀ h P, CallP fs (.fn (K.ofNat 52) []) [.i .i64 (m : Int)] h P = P (.i .i64 (pop6 m : Int)) h)
    (h49 : fs.get (K.ofNat 49) = some f49) (h30 : fs.get (K.ofNat 30) = some f30) (hv : Sl iE h v L) (hc : HC h) (hsets : Sets ((tameP (tameN n) L).take 10)) :
    Ret fs f38 [.i .i64 n, v] h fun r h' => ∃ u, r = .tup [.i .i64 (tameN n), u] ∧ Sl iE h' u (pureL ((tameP (tameN n) L).take 10) ((tameP (tameN n) L).take 10)) ∧ Own h.nx.nat u ∧ Grow h.nx.nat h h' := by
  apply ret_of rfl
  show W fs none f38_c _ _ _
  unfold f38_c
  simp (disch := omega) only [f38_r0, f38_r1, w_reg, w_seq, seqK_n, x_nil, x_mv, x_as, x_call, ev_t, ev_c, evs_nil, evs_cons, getV_some, putD_some, frame_2, of0, getK_set, Nat.reduceEqDiff, ↓reduceIte]
  refine (callP_0 (ef := f30) h30 rfl (f30_ret (n := n) hp h49 hv hc)).mono ?_
  rintro r h1 ⟨u, rfl, hsu, _, gr1⟩
  have hPl : ((tameP (tameN n) L).take 10).length ≤ 10 := by rw [List.length_take]; omega
  generalize (tameP (tameN n) L).take 10 = P at *
  generalize tameN n = N at *
  have hc1 := gr1.hc hc
  simp (disch := omega) only [f38_r2, f38_r3, w_reg, w_seq, w_block, seqK_n, x_nil, x_mv, x_as, x_ext, kx, rvP_ok, okv_some, ev_t, ev_c, getV_some, putD_some, onTup_t, nth0, nth1, of0, getK_set, Nat.reduceEqDiff, ↓reduceIte]
  refine W_loop (f38_I h1 N u P) (fun i => P.length - i) ?_ 0 ⟨.sn, Nat.zero_le _, Sl.nil, Own.sn, Grow.refl _ _, by simp (disch := omega) only [getK_set, Nat.reduceEqDiff, ↓reduceIte, and_self, Int.natCast_zero]⟩
  rintro i fr h2 ⟨o, hi, hso, hoo, hgr, g0, g6, g7, g8⟩
  have hc2 := hgr.hc hc1
  have hs2 := hsu.grow hc1 hgr
  unfold f38_l0
  by_cases hlt : i < P.length
  · have hlt' : (i : Int) < (P.length : Int) := by omega
    obtain ⟨p, hp1, hp2⟩ := hs2.at i hlt
    obtain ⟨q, hq1, hq2, hq3⟩ := hs2.atb (P.length - 1) (by omega)
    obtain ⟨a, ha, hae⟩ := hsets P[i] (List.getElem_mem hlt)
    obtain ⟨b, hb, hbe⟩ := hsets (P[P.length - 1]'(by omega)) (List.getElem_mem _)
    have hd : P.getLastD 0 = P[P.length - 1]'(by omega) := by
      rw [List.getLastD_eq_getLast?, List.getLast?_eq_getElem?, List.getElem?_eq_getElem (by omega)]; rfl
    have hsub : fw .i64 ((P.length : Int) - 1) = ((P.length - 1 : Nat) : Int) := by rw [fw64 (by omega) (by omega)]; omega
    have hs := pureL_snoc (P := P) (l := P.take i) (s := P[i])
    rw [← List.take_succ_eq_append_getElem hlt] at hs
    simp only [hd, hbe, Int.toNat_natCast] at hs
    rw [show (P[i]).toNat = a by rw [hae]; rfl] at hs
    have hq2b := hq2
    rw [hbe] at hq2
    have hp2a := hp2
    rw [hae] at hp2
    have hlen := pureL_len (P := P) (l := P.take i)
    rw [List.length_take] at hlen
    by_cases e : pop6 a = pop6 b
    · have e' : ((pop6 a : Nat) : Int) = ((pop6 b : Nat) : Int) := by omega
      rw [if_pos e] at hs
      obtain ⟨v', h', p1, p2, p3, p4, p5⟩ := Sl.push (e := iE) (L := pureL P (P.take i)) (x := P[i]) (c := .i .i64 (a : Int)) (by rw [hae]; rfl) hso hoo hgr.nx hc2 (by omega)
      simp (disch := omega) only [f38_r4, f38_r5, f38_r6, f38_r7, w_skip, w_reg, w_draw, w_seq, w_cond, w_block, seqK_n, atK_n, loopK_n, ckB_b, cbB_b, true_and, x_nil, x_mv, x_as, x_bslice, x_ld, x_bin, x_iads, x_call, x_len, x_app, kx, kg, xg_nil, xg_mv, xg_ld, xg_bin, xg_iads, xg_len, xd_cons, fresh_nil, stK_n, stK_s, stay_nil, stay_cons, again_ok, stay_mv, stay_len, beq_i, stay_iads, stay_ld, stay_bin, rvP_ok, okv_some, ev_t, ev_c, evs_nil, evs_cons, getV_some, putD_some, bin_add, bin_sub, bin_eql, bin_lss, oGet_s, cells1_i, fill_1, set_1, of0, of1, getK_set, Nat.reduceEqDiff, ↓reduceIte, g6, g7, g8, hs2.len, hlt', decide_true, hp1, hp2, iE, hsub, hq1, hq2, hq3, hs2.beq, hp52 _ ha, hp52 _ hb, e', and_self, p1, fw64]
      exact ⟨i + 1, by omega, v', hlt, by rw [hs]; exact p2, p3, hgr.trans p4, by simp (disch := omega) only [getK_set, Nat.reduceEqDiff, ↓reduceIte, g0, g6, and_self, Int.natCast_add, Int.natCast_one]⟩
    · have e' : ¬ ((pop6 a : Nat) : Int) = ((pop6 b : Nat) : Int) := by omega
      rw [if_neg e] at hs
      simp (disch := omega) only [f38_r4, f38_r5, f38_r7, w_skip, w_reg, w_draw, w_seq, w_cond, w_block, seqK_n, atK_n, loopK_n, ckB_b, cbB_b, true_and, x_nil, x_mv, x_as, x_bin, x_call, x_len, kx, kg, xg_nil, xg_mv, xg_ld, xg_bin, xg_iads, xg_len, xd_cons, fresh_nil, stK_n, stK_s, stay_nil, stay_cons, again_ok, stay_mv, stay_len, beq_i, stay_iads, stay_ld, stay_bin, rvP_ok, okv_some, ev_t, ev_c, evs_nil, evs_cons, getV_some, putD_some, bin_add, bin_sub, bin_eql, bin_lss, of1, getK_set, Nat.reduceEqDiff, ↓reduceIte, Bool.false_eq_true, g6, g8, hs2.len, hlt', decide_true, decide_false, hp1, hp2, iE, hsub, hq1, hq2, hq3, hs2.beq, hp52 _ ha, hp52 _ hb, e', and_self, fw64]
      exact ⟨i + 1, by omega, o, hlt, by rw [hs]; exact hso, hoo, hgr, by simp (disch := omega) only [getK_set, Nat.reduceEqDiff, ↓reduceIte, g0, g6, g7, and_self, Int.natCast_add, Int.natCast_one]⟩
  · obtain rfl : i = P.length := by omega
    have hlt' : ¬ (P.length : Int) < (P.length : Int) := by omega
    rw [List.take_length] at hso
    simp (disch := omega) only [f38_r4, f38_r8, f38_rs, w_reg, w_seq, w_cond, w_exit, w_ret, seqK_n, seqK_e, atK_e, loopK_e, ckB_b, cbB_b, true_and, retK_r, x_nil, x_mv, x_as, x_bin, x_len, kx, rvP_ok, okv_some, ev_t, getV_some, putD_some, bin_lss, oGet_s, readRs_nil, readRs_t, retV_2, Option.some.injEq, exists_eq_left', getK_set, Nat.reduceEqDiff, ↓reduceIte, Bool.false_eq_true, g0, g6, g7, g8, hs2.len, hlt', decide_false]
    exact ⟨o, rfl, hso, hoo.low gr1.nx, gr1.trans (hgr.low gr1.nx)⟩
end
end Go.Ev
namespace Go.Ev
open Go Go.RowKit
noncomputable def f70_r0 : List EOper := [⟨(some (K.ofNat 6)), none, .as (.c (.b false))⟩]
noncomputable def f70_r1 : List EOper := [⟨(some (K.ofNat 12)), none, .mv (.t (K.ofNat 0))⟩, ⟨(some (K.ofNat 13)), none, .mv (.t (K.ofNat 2))⟩, ⟨(some (K.ofNat 14)), none, .iads 1 (.t (K.ofNat 12)) (.t (K.ofNat 13))⟩, ⟨(some (K.ofNat 15)), none, .ld (.t (K.ofNat 14))⟩, ⟨(some (K.ofNat 7)), none, .as (.t (K.ofNat 15))⟩]
noncomputable def f70_r2 : List EOper := [⟨(some (K.ofNat 8)), none, .as (.c (.i .i64 (.ofNat 0)))⟩]
noncomputable def f70_r3 : List EOper := [⟨(some (K.ofNat 16)), none, .mv (.t (K.ofNat 8))⟩, ⟨(some (K.ofNat 17)), none, .mv (.t (K.ofNat 0))⟩, ⟨(some (K.ofNat 18)), none, .len (.t (K.ofNat 17))⟩, ⟨(some (K.ofNat 19)), none, .bin .lss (.t (K.ofNat 16)) (.t (K.ofNat 18))⟩]
noncomputable def f70_r4 : List EOper := [⟨(some (K.ofNat 22)), none, .mv (.t (K.ofNat 1))⟩, ⟨(some (K.ofNat 23)), none, .mv (.t (K.ofNat 8))⟩, ⟨(some (K.ofNat 24)), none, .bin .shr (.t (K.ofNat 22)) (.t (K.ofNat 23))⟩, ⟨(some (K.ofNat 25)), none, .bin .rem (.t (K.ofNat 24)) (.c (.i .i64 (.ofNat 2)))⟩, ⟨(some (K.ofNat 26)), none, .bin .eql (.t (K.ofNat 25)) (.c (.i .i64 (.ofNat 0)))⟩]
noncomputable def f70_r5 : List EOper := [⟨(some (K.ofNat 9)), none, .as (.c (.b false))⟩]
noncomputable def f70_r6 : List EOper := [⟨(some (K.ofNat 10)), none, .as (.c (.i .i64 (.ofNat 0)))⟩]
noncomputable def f70_r7 : List EOper := [⟨(some (K.ofNat 27)), none, .mv (.t (K.ofNat 10))⟩, ⟨(some (K.ofNat 28)), none, .mv (.t (K.ofNat 0))⟩, ⟨(some (K.ofNat 29)), none, .len (.t (K.ofNat 28))⟩, ⟨(some (K.ofNat 30)), none, .bin .lss (.t (K.ofNat 27)) (.t (K.ofNat 29))⟩]
noncomputable def f70_r8 : List EOper := [⟨(some (K.ofNat 33)), none, .mv (.t (K.ofNat 7))⟩, ⟨(some (K.ofNat 34)), none, .mv (.t (K.ofNat 0))⟩, ⟨(some (K.ofNat 35)), none, .mv (.t (K.ofNat 10))⟩, ⟨(some (K.ofNat 36)), none, .iads 1 (.t (K.ofNat 34)) (.t (K.ofNat 35))⟩, ⟨(some (K.ofNat 37)), none, .ld (.t (K.ofNat 36))⟩, ⟨(some (K.ofNat 38)), none, .bin .andNot (.t (K.ofNat 33)) (.t (K.ofNat 37))⟩, ⟨(some (K.ofNat 11)), none, .as (.t (K.ofNat 38))⟩]
noncomputable def f70_r9 : List EOper := [⟨(some (K.ofNat 39)), none, .mv (.t (K.ofNat 9))⟩, ⟨(some (K.ofNat 40)), none, .mv (.t (K.ofNat 39))⟩, ⟨(some (K.ofNat 41)), (some ((K.ofNat 40), false)), .mv (.t (K.ofNat 1))⟩, ⟨(some (K.ofNat 42)), (some ((K.ofNat 40), false)), .mv (.t (K.ofNat 10))⟩, ⟨(some (K.ofNat 43)), (some ((K.ofNat 40), false)), .bin .shr (.t (K.ofNat 41)) (.t (K.ofNat 42))⟩, ⟨(some (K.ofNat 44)), (some ((K.ofNat 40), false)), .bin .rem (.t (K.ofNat 43)) (.c (.i .i64 (.ofNat 2)))⟩, ⟨(some (K.ofNat 45)), (some ((K.ofNat 40), false)), .bin .eql (.t (K.ofNat 44)) (.c (.i .i64 (.ofNat 1)))⟩, ⟨(some (K.ofNat 46)), (some ((K.ofNat 40), false)), .mv (.t (K.ofNat 45))⟩, ⟨(some (K.ofNat 47)), (some ((K.ofNat 46), true)), .mv (.t (K.ofNat 11))⟩, ⟨(some (K.ofNat 48)), (some ((K.ofNat 46), true)), .call (.c (.fn (K.ofNat 52) [])) [(.t (K.ofNat 47))]⟩, ⟨(some (K.ofNat 49)), (some ((K.ofNat 46), true)), .bin .eql (.t (K.ofNat 48)) (.c (.i .i64 (.ofNat 1)))⟩, ⟨(some (K.ofNat 50)), (some ((K.ofNat 40), false)), .pick (.t (K.ofNat 46)) (.t (K.ofNat 49)) (.c (.b false))⟩, ⟨(some (K.ofNat 51)), (some ((K.ofNat 40), false)), .mv (.t (K.ofNat 50))⟩, ⟨(some (K.ofNat 52)), (some ((K.ofNat 51), true)), .mv (.t (K.ofNat 11))⟩, ⟨(some (K.ofNat 53)), (some ((K.ofNat 51), true)), .mv (.t (K.ofNat 0))⟩, ⟨(some (K.ofNat 54)), (some ((K.ofNat 51), true)), .mv (.t (K.ofNat 8))⟩, ⟨(some (K.ofNat 55)), (some ((K.ofNat 51), true)), .iads 1 (.t (K.ofNat 53)) (.t (K.ofNat 54))⟩, ⟨(some (K.ofNat 56)), (some ((K.ofNat 51), true)), .ld (.t (K.ofNat 55))⟩, ⟨(some (K.ofNat 57)), (some ((K.ofNat 51), true)), .bin .and (.t (K.ofNat 52)) (.t (K.ofNat 56))⟩, ⟨(some (K.ofNat 58)), (some ((K.ofNat 51), true)), .bin .eql (.t (K.ofNat 57)) (.c (.i .i64 (.ofNat 0)))⟩, ⟨(some (K.ofNat 59)), (some ((K.ofNat 40), false)), .pick (.t (K.ofNat 51)) (.t (K.ofNat 58)) (.c (.b false))⟩, ⟨(some (K.ofNat 60)), none, .pick (.t (K.ofNat 40)) (.c (.b true)) (.t (K.ofNat 59))⟩, ⟨(some (K.ofNat 9)), none, .as (.t (K.ofNat 60))⟩]
noncomputable def f70_r10 : List EOper := [⟨(some (K.ofNat 31)), none, .mv (.t (K.ofNat 10))⟩, ⟨(some (K.ofNat 32)), none, .bin .add (.t (K.ofNat 31)) (.c (.i .i64 (.ofNat 1)))⟩, ⟨(some (K.ofNat 10)), none, .as (.t (K.ofNat 32))⟩]
noncomputable def f70_l0 : EC := (.seq (.seq (.reg f70_r7) (.cond (.t (K.ofNat 30)) .skip (.exit 2))) (.seq (.block 3 (.seq (.reg f70_r8) (.reg f70_r9))) (.reg f70_r10)))
noncomputable def f70_r11 : List EOper := [⟨(some (K.ofNat 61)), none, .mv (.t (K.ofNat 9))⟩, ⟨(some (K.ofNat 62)), none, .not (.t (K.ofNat 61))⟩]
noncomputable def f70_r12 : List EOper := [⟨(some (K.ofNat 6)), none, .as (.c (.b false))⟩]
noncomputable def f70_r13 : List EOper := [⟨(some (K.ofNat 20)), none, .mv (.t (K.ofNat 8))⟩, ⟨(some (K.ofNat 21)), none, .bin .add (.t (K.ofNat 20)) (.c (.i .i64 (.ofNat 1)))⟩, ⟨(some (K.ofNat 8)), none, .as (.t (K.ofNat 21))⟩]
noncomputable def f70_l1 : EC := (.seq (.seq (.reg f70_r3) (.cond (.t (K.ofNat 19)) .skip (.exit 0))) (.seq (.block 1 (.seq (.seq (.reg f70_r4) (.cond (.t (K.ofNat 26)) (.exit 1) .skip)) (.seq (.reg f70_r5) (.seq (.seq (.reg f70_r6) (.block 2 (.loop f70_l0))) (.seq (.reg f70_r11) (.cond (.t (K.ofNat 62)) (.seq (.reg f70_r12) .ret) .skip)))))) (.reg f70_r13)))
noncomputable def f70_r14 : List EOper := [⟨(some (K.ofNat 6)), none, .as (.c (.b true))⟩]
noncomputable def f70_c : EC := (.seq (.reg f70_r0) (.seq (.reg f70_r1) (.seq (.seq (.reg f70_r2) (.block 0 (.loop f70_l1))) (.seq (.reg f70_r14) .ret))))
noncomputable def f70 : EF := ⟨63, [.tmp (K.ofNat 6)], f70_c, none⟩
section
variable {fs : T EF} {ro : Option K}
noncomputable def nxC (Q : List Nat) (m x y b : Nat) : Bool := decide (m / 2 ^ b % 2 = 1) && (decide (pop6 (lessC x (Q.getD b 0)) = 1) && decide (lessC x (Q.getD b 0) &&& y = 0))
noncomputable def nxA (Q : List Nat) (m x y j : Nat) : Bool := (List.range j).any (nxC Q m x y)
noncomputable def nxB (Q : List Nat) (m x a : Nat) : Bool := decide (m / 2 ^ a % 2 = 0) || nxA Q m x (Q.getD a 0) Q.length
/-- May the i-th piece come next, after those of m? -/
noncomputable def nextR (Q : List Nat) (m i : Nat) : Bool := (List.range Q.length).all (nxB Q m (Q.getD i 0))
end
end Go.Ev
namespace Go.Ev
open Go Go.RowKit
noncomputable def f37_r0 : List EOper := [⟨(some (K.ofNat 4)), none, .as (.c (.b false))⟩]
noncomputable def f37_r1 : List EOper := [⟨(some (K.ofNat 5)), none, .as (.c (.i .i64 (.ofNat 0)))⟩]
noncomputable def f37_r2 : List EOper := [⟨(some (K.ofNat 6)), none, .as (.c (.i .i64 (.ofNat 0)))⟩]
noncomputable def f37_r3 : List EOper := [⟨(some (K.ofNat 8)), none, .mv (.t (K.ofNat 6))⟩, ⟨(some (K.ofNat 9)), none, .mv (.t (K.ofNat 1))⟩, ⟨(some (K.ofNat 10)), none, .len (.t (K.ofNat 9))⟩, ⟨(some (K.ofNat 11)), none, .bin .lss (.t (K.ofNat 8)) (.t (K.ofNat 10))⟩]
noncomputable def f37_r4 : List EOper := [⟨(some (K.ofNat 14)), none, .mv (.t (K.ofNat 1))⟩, ⟨(some (K.ofNat 15)), none, .mv (.t (K.ofNat 6))⟩, ⟨(some (K.ofNat 16)), none, .iads 1 (.t (K.ofNat 14)) (.t (K.ofNat 15))⟩, ⟨(some (K.ofNat 17)), none, .ld (.t (K.ofNat 16))⟩, ⟨(some (K.ofNat 7)), none, .as (.t (K.ofNat 17))⟩]
noncomputable def f37_r5 : List EOper := [⟨(some (K.ofNat 18)), none, .mv (.t (K.ofNat 7))⟩, ⟨(some (K.ofNat 19)), none, .bin .lss (.t (K.ofNat 18)) (.c (.i .i64 (.ofNat 0)))⟩, ⟨(some (K.ofNat 20)), none, .mv (.t (K.ofNat 19))⟩, ⟨(some (K.ofNat 21)), (some ((K.ofNat 20), false)), .mv (.t (K.ofNat 7))⟩, ⟨(some (K.ofNat 22)), (some ((K.ofNat 20), false)), .mv (.t (K.ofNat 0))⟩, ⟨(some (K.ofNat 23)), (some ((K.ofNat 20), false)), .len (.t (K.ofNat 22))⟩, ⟨(some (K.ofNat 24)), (some ((K.ofNat 20), false)), .bin .geq (.t (K.ofNat 21)) (.t (K.ofNat 23))⟩, ⟨(some (K.ofNat 25)), none, .pick (.t (K.ofNat 20)) (.c (.b true)) (.t (K.ofNat 24))⟩, ⟨(some (K.ofNat 26)), none, .mv (.t (K.ofNat 25))⟩, ⟨(some (K.ofNat 27)), (some ((K.ofNat 26), false)), .mv (.t (K.ofNat 5))⟩, ⟨(some (K.ofNat 28)), (some ((K.ofNat 26), false)), .mv (.t (K.ofNat 7))⟩, ⟨(some (K.ofNat 29)), (some ((K.ofNat 26), false)), .bin .shr (.t (K.ofNat 27)) (.t (K.ofNat 28))⟩, ⟨(some (K.ofNat 30)), (some ((K.ofNat 26), false)), .bin .rem (.t (K.ofNat 29)) (.c (.i .i64 (.ofNat 2)))⟩, ⟨(some (K.ofNat 31)), (some ((K.ofNat 26), false)), .bin .eql (.t (K.ofNat 30)) (.c (.i .i64 (.ofNat 1)))⟩, ⟨(some (K.ofNat 32)), none, .pick (.t (K.ofNat 26)) (.c (.b true)) (.t (K.ofNat 31))⟩, ⟨(some (K.ofNat 33)), none, .mv (.t (K.ofNat 32))⟩, ⟨(some (K.ofNat 34)), (some ((K.ofNat 33), false)), .mv (.t (K.ofNat 0))⟩, ⟨(some (K.ofNat 35)), (some ((K.ofNat 33), false)), .mv (.t (K.ofNat 5))⟩, ⟨(some (K.ofNat 36)), (some ((K.ofNat 33), false)), .mv (.t (K.ofNat 7))⟩, ⟨(some (K.ofNat 37)), (some ((K.ofNat 33), false)), .call (.c (.fn (K.ofNat 70) [])) [(.t (K.ofNat 34)), (.t (K.ofNat 35)), (.t (K.ofNat 36))]⟩, ⟨(some (K.ofNat 38)), (some ((K.ofNat 33), false)), .not (.t (K.ofNat 37))⟩, ⟨(some (K.ofNat 39)), none, .pick (.t (K.ofNat 33)) (.c (.b true)) (.t (K.ofNat 38))⟩]
noncomputable def f37_r6 : List EOper := [⟨(some (K.ofNat 4)), none, .as (.c (.b false))⟩]
noncomputable def f37_r7 : List EOper := [⟨(some (K.ofNat 40)), none, .mv (.t (K.ofNat 5))⟩, ⟨(some (K.ofNat 41)), none, .mv (.t (K.ofNat 7))⟩, ⟨(some (K.ofNat 42)), none, .bin .shl (.c (.i .i64 (.ofNat 1))) (.t (K.ofNat 41))⟩, ⟨(some (K.ofNat 43)), none, .bin .or (.t (K.ofNat 40)) (.t (K.ofNat 42))⟩, ⟨(some (K.ofNat 5)), none, .as (.t (K.ofNat 43))⟩]
noncomputable def f37_r8 : List EOper := [⟨(some (K.ofNat 12)), none, .mv (.t (K.ofNat 6))⟩, ⟨(some (K.ofNat 13)), none, .bin .add (.t (K.ofNat 12)) (.c (.i .i64 (.ofNat 1)))⟩, ⟨(some (K.ofNat 6)), none, .as (.t (K.ofNat 13))⟩]
noncomputable def f37_l0 : EC := (.seq (.seq (.reg f37_r3) (.cond (.t (K.ofNat 11)) .skip (.exit 0))) (.seq (.block 1 (.seq (.reg f37_r4) (.seq (.seq (.reg f37_r5) (.cond (.t (K.ofNat 39)) (.seq (.reg f37_r6) .ret) .skip)) (.reg f37_r7)))) (.reg f37_r8)))
noncomputable def f37_r9 : List EOper := [⟨(some (K.ofNat 44)), none, .mv (.t (K.ofNat 1))⟩, ⟨(some (K.ofNat 45)), none, .len (.t (K.ofNat 44))⟩, ⟨(some (K.ofNat 46)), none, .mv (.t (K.ofNat 0))⟩, ⟨(some (K.ofNat 47)), none, .len (.t (K.ofNat 46))⟩, ⟨(some (K.ofNat 48)), none, .bin .eql (.t (K.ofNat 45)) (.t (K.ofNat 47))⟩, ⟨(some (K.ofNat 49)), none, .mv (.t (K.ofNat 48))⟩, ⟨(some (K.ofNat 50)), (some ((K.ofNat 49), true)), .mv (.t (K.ofNat 0))⟩, ⟨(some (K.ofNat 51)), (some ((K.ofNat 49), true)), .call (.c (.fn (K.ofNat 71) [])) [(.t (K.ofNat 50))]⟩, ⟨(some (K.ofNat 52)), none, .pick (.t (K.ofNat 49)) (.t (K.ofNat 51)) (.c (.b false))⟩, ⟨(some (K.ofNat 4)), none, .as (.t (K.ofNat 52))⟩]
noncomputable def f37_c : EC := (.seq (.reg f37_r0) (.seq (.reg f37_r1) (.seq (.seq (.reg f37_r2) (.block 0 (.loop f37_l0))) (.seq (.reg f37_r9) .ret))))
noncomputable def f37 : EF := ⟨53, [.tmp (K.ofNat 4)], f37_c, none⟩
section
variable {fs : T EF} {ro : Option K}
noncomputable def shT (Q : List Nat) : List Int → Nat → Bool
  | [], _ => true
  | o :: t, m => !decide (o < 0) && (!decide ((Q.length : Int) ≤ o) && (!decide (m / 2 ^ o.toNat % 2 = 1) && (nextR Q m o.toNat && shT Q t (m ||| 2 ^ o.toNat))))
def castL (Q : List Nat) : List Int := Q.map fun (k : Nat) => (k : Int)
end
end Go.Ev
namespace Go.Ev
open Go Go.RowKit
noncomputable def f36_r0 : List EOper := [⟨(some (K.ofNat 2)), none, .as (.c (.b false))⟩]
noncomputable def f36_r1 : List EOper := [⟨(some (K.ofNat 6)), none, .mv (.t (K.ofNat 0))⟩, ⟨(some (K.ofNat 7)), none, .len (.t (K.ofNat 6))⟩, ⟨(some (K.ofNat 8)), none, .bin .shl (.c (.i .i64 (.ofNat 1))) (.t (K.ofNat 7))⟩, ⟨(some (K.ofNat 9)), none, .mkslice 1 [(.b false)] (.t (K.ofNat 8))⟩, ⟨(some (K.ofNat 3)), none, .as (.t (K.ofNat 9))⟩]
noncomputable def f36_r2 : List EOper := [⟨(some (K.ofNat 10)), none, .mv (.t (K.ofNat 3))⟩, ⟨(some (K.ofNat 11)), none, .iads 1 (.t (K.ofNat 10)) (.c (.i .i64 (.ofNat 0)))⟩, ⟨none, none, .st 1 (.t (K.ofNat 11)) (.c (.b true))⟩]
noncomputable def f36_r3 : List EOper := [⟨(some (K.ofNat 4)), none, .as (.c (.i .i64 (.ofNat 0)))⟩]
noncomputable def f36_r4 : List EOper := [⟨(some (K.ofNat 12)), none, .mv (.t (K.ofNat 4))⟩, ⟨(some (K.ofNat 13)), none, .mv (.t (K.ofNat 3))⟩, ⟨(some (K.ofNat 14)), none, .len (.t (K.ofNat 13))⟩, ⟨(some (K.ofNat 15)), none, .bin .lss (.t (K.ofNat 12)) (.t (K.ofNat 14))⟩]
noncomputable def f36_r5 : List EOper := [⟨(some (K.ofNat 5)), none, .as (.c (.i .i64 (.ofNat 0)))⟩]
noncomputable def f36_r6 : List EOper := [⟨(some (K.ofNat 18)), none, .mv (.t (K.ofNat 5))⟩, ⟨(some (K.ofNat 19)), none, .mv (.t (K.ofNat 0))⟩, ⟨(some (K.ofNat 20)), none, .len (.t (K.ofNat 19))⟩, ⟨(some (K.ofNat 21)), none, .bin .lss (.t (K.ofNat 18)) (.t (K.ofNat 20))⟩, ⟨(some (K.ofNat 22)), none, .mv (.t (K.ofNat 21))⟩, ⟨(some (K.ofNat 23)), (some ((K.ofNat 22), true)), .mv (.t (K.ofNat 3))⟩, ⟨(some (K.ofNat 24)), (some ((K.ofNat 22), true)), .mv (.t (K.ofNat 4))⟩, ⟨(some (K.ofNat 25)), (some ((K.ofNat 22), true)), .iads 1 (.t (K.ofNat 23)) (.t (K.ofNat 24))⟩, ⟨(some (K.ofNat 26)), (some ((K.ofNat 22), true)), .ld (.t (K.ofNat 25))⟩, ⟨(some (K.ofNat 27)), none, .pick (.t (K.ofNat 22)) (.t (K.ofNat 26)) (.c (.b false))⟩]
noncomputable def f36_r7 : List EOper := [⟨(some (K.ofNat 30)), none, .mv (.t (K.ofNat 4))⟩, ⟨(some (K.ofNat 31)), none, .mv (.t (K.ofNat 5))⟩, ⟨(some (K.ofNat 32)), none, .bin .shr (.t (K.ofNat 30)) (.t (K.ofNat 31))⟩, ⟨(some (K.ofNat 33)), none, .bin .rem (.t (K.ofNat 32)) (.c (.i .i64 (.ofNat 2)))⟩, ⟨(some (K.ofNat 34)), none, .bin .eql (.t (K.ofNat 33)) (.c (.i .i64 (.ofNat 0)))⟩, ⟨(some (K.ofNat 35)), none, .mv (.t (K.ofNat 34))⟩, ⟨(some (K.ofNat 36)), (some ((K.ofNat 35), true)), .mv (.t (K.ofNat 0))⟩, ⟨(some (K.ofNat 37)), (some ((K.ofNat 35), true)), .mv (.t (K.ofNat 4))⟩, ⟨(some (K.ofNat 38)), (some ((K.ofNat 35), true)), .mv (.t (K.ofNat 5))⟩, ⟨(some (K.ofNat 39)), (some ((K.ofNat 35), true)), .call (.c (.fn (K.ofNat 70) [])) [(.t (K.ofNat 36)), (.t (K.ofNat 37)), (.t (K.ofNat 38))]⟩, ⟨(some (K.ofNat 40)), none, .pick (.t (K.ofNat 35)) (.t (K.ofNat 39)) (.c (.b false))⟩]
noncomputable def f36_r8 : List EOper := [⟨(some (K.ofNat 41)), none, .mv (.t (K.ofNat 3))⟩, ⟨(some (K.ofNat 42)), none, .mv (.t (K.ofNat 4))⟩, ⟨(some (K.ofNat 43)), none, .mv (.t (K.ofNat 5))⟩, ⟨(some (K.ofNat 44)), none, .bin .shl (.c (.i .i64 (.ofNat 1))) (.t (K.ofNat 43))⟩, ⟨(some (K.ofNat 45)), none, .bin .or (.t (K.ofNat 42)) (.t (K.ofNat 44))⟩, ⟨(some (K.ofNat 46)), none, .iads 1 (.t (K.ofNat 41)) (.t (K.ofNat 45))⟩, ⟨none, none, .st 1 (.t (K.ofNat 46)) (.c (.b true))⟩]
noncomputable def f36_r9 : List EOper := [⟨(some (K.ofNat 28)), none, .mv (.t (K.ofNat 5))⟩, ⟨(some (K.ofNat 29)), none, .bin .add (.t (K.ofNat 28)) (.c (.i .i64 (.ofNat 1)))⟩, ⟨(some (K.ofNat 5)), none, .as (.t (K.ofNat 29))⟩]
noncomputable def f36_l0 : EC := (.seq (.seq (.reg f36_r6) (.cond (.t (K.ofNat 27)) .skip (.exit 2))) (.seq (.block 3 (.seq (.reg f36_r7) (.cond (.t (K.ofNat 40)) (.reg f36_r8) .skip))) (.reg f36_r9)))
noncomputable def f36_r10 : List EOper := [⟨(some (K.ofNat 16)), none, .mv (.t (K.ofNat 4))⟩, ⟨(some (K.ofNat 17)), none, .bin .add (.t (K.ofNat 16)) (.c (.i .i64 (.ofNat 1)))⟩, ⟨(some (K.ofNat 4)), none, .as (.t (K.ofNat 17))⟩]
noncomputable def f36_l1 : EC := (.seq (.seq (.reg f36_r4) (.cond (.t (K.ofNat 15)) .skip (.exit 0))) (.seq (.block 1 (.seq (.reg f36_r5) (.block 2 (.loop f36_l0)))) (.reg f36_r10)))
noncomputable def f36_r11 : List EOper := [⟨(some (K.ofNat 47)), none, .mv (.t (K.ofNat 0))⟩, ⟨(some (K.ofNat 48)), none, .call (.c (.fn (K.ofNat 71) [])) [(.t (K.ofNat 47))]⟩, ⟨(some (K.ofNat 49)), none, .mv (.t (K.ofNat 48))⟩, ⟨(some (K.ofNat 50)), (some ((K.ofNat 49), true)), .mv (.t (K.ofNat 3))⟩, ⟨(some (K.ofNat 51)), (some ((K.ofNat 49), true)), .mv (.t (K.ofNat 3))⟩, ⟨(some (K.ofNat 52)), (some ((K.ofNat 49), true)), .len (.t (K.ofNat 51))⟩, ⟨(some (K.ofNat 53)), (some ((K.ofNat 49), true)), .bin .sub (.t (K.ofNat 52)) (.c (.i .i64 (.ofNat 1)))⟩, ⟨(some (K.ofNat 54)), (some ((K.ofNat 49), true)), .iads 1 (.t (K.ofNat 50)) (.t (K.ofNat 53))⟩, ⟨(some (K.ofNat 55)), (some ((K.ofNat 49), true)), .ld (.t (K.ofNat 54))⟩, ⟨(some (K.ofNat 56)), none, .pick (.t (K.ofNat 49)) (.t (K.ofNat 55)) (.c (.b false))⟩, ⟨(some (K.ofNat 2)), none, .as (.t (K.ofNat 56))⟩]
noncomputable def f36_c : EC := (.seq (.reg f36_r0) (.seq (.reg f36_r1) (.seq (.reg f36_r2) (.seq (.seq (.reg f36_r3) (.block 0 (.loop f36_l1))) (.seq (.reg f36_r11) .ret)))))
noncomputable def f36 : EF := ⟨57, [.tmp (K.ofNat 2)], f36_c, none⟩
section
variable {fs : T EF} {ro : Option K}
/-- May the i-th piece come after those of m? -/
def okN (Q : List Nat) (m i : Nat) : Prop := i < Q.length ∧ m / 2 ^ i % 2 = 0 ∧ nextR Q m i = true
inductive Reach (Q : List Nat) : Nat → Prop
  | zero : Reach Q 0
  | step {m i : Nat} : Reach Q m → okN Q m i → Reach Q (m ||| 2 ^ i)
structure TabI (Q : List Nat) (L : List Bool) (a j : Nat) : Prop where
  len : L.length = 2 ^ Q.length
  sound : ∀ m, L.getD m false = true → Reach Q m
  zero : L.getD 0 false = true
  below : ∀ m, m < a → L.getD m false = true → ∀ i, okN Q m i → L.getD (m ||| 2 ^ i) false = true
  now : L.getD a false = true → ∀ i, i < j → okN Q a i → L.getD (a ||| 2 ^ i) false = true
theorem getD_set {L : List Bool} {k m : Nat} (hk : k < L.length) : (L.set k true).getD m false = if k = m then true else L.getD m false := by
  simp only [List.getD]
  rw [List.getElem?_set]
  by_cases e : k = m
  · rw [if_pos e, if_pos hk, if_pos e]; rfl
  · rw [if_neg e, if_neg e]
theorem or_gt {a i : Nat} (h : a / 2 ^ i % 2 = 0) : a < a ||| 2 ^ i := by
  have h1 : a ≤ a ||| 2 ^ i := Nat.left_le_or
  rcases Nat.lt_or_ge a (a ||| 2 ^ i) with h2 | h2
  · exact h2
  · have e : a ||| 2 ^ i = a := by omega
    have := congrArg (fun n => Nat.testBit n i) e
    simp only [Nat.testBit_or, Nat.testBit_two_pow_self, Bool.or_true] at this
    rw [Nat.testBit_eq_decide_div_mod_eq, h] at this
    simp at this
theorem TabI.put {Q : List Nat} {L : List Bool} {a j : Nat} (t : TabI Q L a j) (ha : L.getD a false = true) (ho : okN Q a j) (hk : a ||| 2 ^ j < L.length) : TabI Q (L.set (a ||| 2 ^ j) true) a (j + 1) := by
  have hgt := or_gt ho.2.1
  refine ⟨by rw [List.length_set]; exact t.len, fun m hm => ?_, ?_, fun m hm h1 i hi => ?_, fun h1 i hij hi => ?_⟩
  · rw [getD_set hk] at hm
    by_cases e : a ||| 2 ^ j = m
    · rw [← e]; exact .step (t.sound a ha) ho
    · rw [if_neg e] at hm; exact t.sound m hm
  · rw [getD_set hk]; split
    · rfl
    · exact t.zero
  · rw [getD_set hk, if_neg (by omega)] at h1
    rw [getD_set hk]; split
    · rfl
    · exact t.below m hm h1 i hi
  · rw [getD_set hk]
    by_cases e : i = j
    · subst e; rw [if_pos rfl]
    · split
      · rfl
      · exact t.now ha i (by omega) hi
theorem TabI.skip {Q : List Nat} {L : List Bool} {a j : Nat} (t : TabI Q L a j) (h : ¬ okN Q a j) : TabI Q L a (j + 1) :=
  ⟨t.len, t.sound, t.zero, t.below, fun h1 i hij hi => by
    by_cases e : i = j
    · subst e; exact absurd hi h
    · exact t.now h1 i (by omega) hi⟩
theorem TabI.next {Q : List Nat} {L : List Bool} {a j : Nat} (t : TabI Q L a j) (h : L.getD a false = true → Q.length ≤ j) : TabI Q L (a + 1) 0 :=
  ⟨t.len, t.sound, t.zero, fun m hm h1 i hi => by
    by_cases e : m = a
    · subst e; exact t.now h1 i (Nat.lt_of_lt_of_le hi.1 (h h1)) hi
    · exact t.below m (by omega) h1 i hi, fun h1 i hij => by omega⟩
end
end Go.Ev
namespace Go.Ev
open Go Go.RowKit
def bK (L : List Bool) : V := .agg (L.map V.b)
def ents (M : List (List Bool)) : List (V × V) := M.map fun L => (bK L, .b true)
theorem eqK_b : ∀ (n : Nat) (L M : List Bool), L.length = n → M.length = n → eqK (List.replicate n none) (L.map V.b) (M.map V.b) = some (decide (L = M))
  | 0, [], [], _, _ => rfl
  | 0, _ :: _, _, h, _ => by simp at h
  | 0, [], _ :: _, _, h => by simp at h
  | n + 1, [], _, h, _ => by simp at h
  | n + 1, _ :: _, [], _, h => by simp at h
  | n + 1, a :: L, b :: M, h1, h2 => by
    have ih := eqK_b n L M (by simpa using h1) (by simpa using h2)
    show oGet (some (a == b)) none (fun r => oGet (eqK (List.replicate n none) (L.map V.b) (M.map V.b)) none fun s => some (r && s)) = _
    rw [ih]
    show some ((a == b) && decide (L = M)) = _
    by_cases e1 : a = b
    · by_cases e2 : L = M
      · simp [e1, e2]
      · simp [e1, e2]
    · simp [e1]
theorem keyEq_b {n : Nat} {L M : List Bool} (h1 : L.length = n) (h2 : M.length = n) : keyEq (.many (List.replicate n none)) (bK L) (bK M) = some (decide (L = M)) := eqK_b n L M h1 h2
theorem findE_b {n : Nat} {L : List Bool} (h1 : L.length = n) : ∀ (M : List (List Bool)), (∀ x ∈ M, x.length = n) → findE (.many (List.replicate n none)) (bK L) (ents M) = some (if L ∈ M then some (.b true) else none)
  | [], _ => by
    show (oGet (keyEq (.many (List.replicate n none)) (bK L) (bK L)) none fun _ => some none) = _
    rw [keyEq_b h1 h1]; rfl
  | x :: M, h => by
    have ih := findE_b h1 M fun y hy => h y (List.mem_cons_of_mem _ hy)
    show (oGet (keyEq (.many (List.replicate n none)) (bK L) (bK x)) none fun r => bif r then some (some (.b true)) else findE (.many (List.replicate n none)) (bK L) (ents M)) = _
    rw [keyEq_b h1 (h x (by simp)), ih]
    show (bif decide (L = x) then _ else _) = _
    by_cases e : L = x
    · rw [decide_eq_true e, if_pos (show L ∈ x :: M by rw [e]; exact List.mem_cons_self)]; rfl
    · rw [decide_eq_false e]
      by_cases e2 : L ∈ M
      · rw [if_pos e2, if_pos (show L ∈ x :: M from List.mem_cons_of_mem _ e2)]; rfl
      · rw [if_neg e2, if_neg (show ¬ L ∈ x :: M from fun h => by rcases List.mem_cons.1 h with h | h <;> contradiction)]; rfl
theorem updE_b {n : Nat} {L : List Bool} (h1 : L.length = n) : ∀ (M : List (List Bool)), (∀ x ∈ M, x.length = n) → L ∉ M → updE (.many (List.replicate n none)) (bK L) (.b true) (ents M) = some (ents (M ++ [L]))
  | [], _, _ => by
    show (oGet (keyEq (.many (List.replicate n none)) (bK L) (bK L)) none fun _ => some [(bK L, V.b true)]) = _
    rw [keyEq_b h1 h1]; rfl
  | x :: M, h, hn => by
    have e : ¬ L = x := fun e => hn (by rw [e]; simp)
    have ih := updE_b h1 M (fun y hy => h y (List.mem_cons_of_mem _ hy)) fun hm => hn (List.mem_cons_of_mem _ hm)
    show (oGet (keyEq (.many (List.replicate n none)) (bK L) (bK x)) none fun r => bif r then some ((bK L, V.b true) :: ents M) else oGet (updE (.many (List.replicate n none)) (bK L) (.b true) (ents M)) none fun l => some ((bK x, V.b true) :: l)) = _
    rw [keyEq_b h1 (h x (by simp)), ih, decide_eq_false e]; rfl
/-- A set of arrays, in memory. -/
def MapI (h : H) (id : K) (kt : Nat) (M : List (List Bool)) : Prop := h.get id = .map kt (ents M)
theorem MapI.look {n kt : Nat} {h : H} {id : K} {M : List (List Bool)} {L : List Bool} (hm : MapI h id kt M) (h1 : L.length = n) (h2 : ∀ x ∈ M, x.length = n) :
    lookV kt (.many (List.replicate n none)) (.b false) h (.m id) (bK L) false = .ok (.b (decide (L ∈ M))) h := by
  show ((h.get id).onM kt fun es => oGet (findE (.many (List.replicate n none)) (bK L) es) RV.no fun r => bif false then _ else RV.ok (oGet r (.b false) fun v => v) h) = _
  rw [hm]
  show (bif Nat.beq kt kt then (oGet (findE (.many (List.replicate n none)) (bK L) (ents M)) RV.no fun r => RV.ok (oGet r (.b false) fun v => v) h) else _) = _
  rw [Nat.beq_same, findE_b h1 M h2]
  by_cases e : L ∈ M
  · rw [if_pos e, decide_eq_true e]; rfl
  · rw [if_neg e, decide_eq_false e]; rfl
theorem MapI.put {n kt : Nat} {h : H} {id : K} {M : List (List Bool)} {L : List Bool} (hm : MapI h id kt M) (h1 : L.length = n) (h2 : ∀ x ∈ M, x.length = n) (hn : L ∉ M) :
    mupdV kt (.many (List.replicate n none)) h (.m id) (bK L) (.b true) = .ok undefV (h.put id (.map kt (ents (M ++ [L])))) ∧ MapI (h.put id (.map kt (ents (M ++ [L])))) id kt (M ++ [L]) := by
  refine ⟨?_, get_put_same⟩
  show ((h.get id).onM kt fun es => oGet (updE (.many (List.replicate n none)) (bK L) (.b true) es) RV.no fun es => RV.ok undefV (h.put id (.map kt es))) = _
  rw [hm]
  show (bif Nat.beq kt kt then (oGet (updE (.many (List.replicate n none)) (bK L) (.b true) (ents M)) RV.no fun es => RV.ok undefV (h.put id (.map kt es))) else _) = _
  rw [Nat.beq_same, updE_b h1 M h2 hn]; rfl
end Go.Ev
namespace Go.Ev
open Go Go.RowKit
section
variable {fs : T EF} {fr : Fr} {h h0 : H} {k k2 : K}
theorem frame_6 {v1 v2 v3 v4 v5 v6 : V} : frame .e [v1, v2, v3, v4, v5, v6] .nil = T.set (K.ofNat 5) v6 (T.set (K.ofNat 4) v5 (T.set (K.ofNat 3) v4 (T.set (K.ofNat 2) v3 (T.set (K.ofNat 1) v2 (T.set (K.ofNat 0) v1 .nil))))) := of_eq_true (eq_self _)
theorem callP_c {ef : EF} {args caps : List V} {P : V → H → Prop} (hf : fs.get k = some ef) (hn : ef.nv = none) (hr : Ret fs ef (args ++ caps) h P) : CallP fs (.fn k caps) args h P :=
  callP_of hf hn (by rw [cat_eq]; exact hr)
theorem fresh_two {n sz n2 sz2 : Nat} {x y : Blk} (hg : fr.get k = some (.sl h0.nx 0 n sz)) (hg2 : fr.get k2 = some (.sl (h0.new x).nx 0 n2 sz2)) : isFresh h0 ((h0.new x).new y) fr [k, k2] = true := by
  have n1 := nx_new h0 x
  have n2 := nx_new (h0.new x) y
  show freshL h0.nx.nat ((h0.new x).new y).nx.nat (oGet (slId (getV (fr.get k))) (oGet (slId (getV (fr.get k2))) [] fun id => [id]) fun id => id :: oGet (slId (getV (fr.get k2))) [] fun id => [id]) = true
  rw [hg, hg2]
  show (Nat.ble h0.nx.nat h0.nx.nat && Nat.blt h0.nx.nat ((h0.new x).new y).nx.nat && (!(h0.nx.beq (h0.new x).nx) && true) && (Nat.ble h0.nx.nat (h0.new x).nx.nat && Nat.blt (h0.new x).nx.nat ((h0.new x).new y).nx.nat && true && true)) = true
  have hb : h0.nx.beq (h0.new x).nx = false := by
    cases e : h0.nx.beq (h0.new x).nx
    · rfl
    · have := K.beq_eq e
      exact absurd this (kNe (by omega))
  rw [hb, Nat.ble_eq_true_of_le (Nat.le_refl _), Nat.ble_eq_true_of_le (show h0.nx.nat ≤ (h0.new x).nx.nat by omega), show Nat.blt h0.nx.nat ((h0.new x).new y).nx.nat = true from Nat.ble_eq_true_of_le (by omega), show Nat.blt (h0.new x).nx.nat ((h0.new x).new y).nx.nat = true from Nat.ble_eq_true_of_le (by omega)]
  rfl
theorem stay_lit {n sz off : Nat} {z : List V} {ps : List (Nat × Nat × EO)} {id : K} {cs : List V} (hg : fr.get k = some (.sl id 0 n sz)) (hb : h.get id = .cells (n * sz) cs) (hf : fillE fr z ps = some cs) (hq : beqL cs cs = true) : stays fs goNo fr h ⟨some k, none, .bslice n sz z ps⟩ = true := by
  show litOk fr h n sz z ps (getV (fr.get k)) = true
  rw [hg]
  show (Nat.beq 0 0 && Nat.beq n n && Nat.beq sz sz && (h.get id).onC false fun m cs => Nat.beq m (n * sz) && oGet (fillE fr z ps) false fun cs' => beqL cs cs') = true
  rw [hb, hf, Nat.beq_same, Nat.beq_same, Nat.beq_same]
  show (true && (Nat.beq (n * sz) (n * sz) && beqL cs cs)) = true
  rw [Nat.beq_same, hq]; rfl
end
end Go.Ev
namespace Go.Ev
open Go Go.RowKit
noncomputable def f34_r0 : List EOper := [⟨(some (K.ofNat 2)), none, .as (.c .sn)⟩]
noncomputable def f34_r1 : List EOper := [⟨(some (K.ofNat 7)), none, .mv (.t (K.ofNat 0))⟩, ⟨(some (K.ofNat 8)), none, .len (.t (K.ofNat 7))⟩, ⟨(some (K.ofNat 9)), none, .bin .sub (.t (K.ofNat 8)) (.c (.i .i64 (.ofNat 1)))⟩, ⟨(some (K.ofNat 3)), none, .as (.t (K.ofNat 9))⟩]
noncomputable def f34_r2 : List EOper := [⟨(some (K.ofNat 10)), none, .mv (.t (K.ofNat 3))⟩, ⟨(some (K.ofNat 11)), none, .bin .add (.t (K.ofNat 10)) (.c (.i .i64 (.ofNat 1)))⟩, ⟨(some (K.ofNat 12)), none, .mkslice 1 [(.i .i64 (.ofNat 0))] (.t (K.ofNat 11))⟩, ⟨(some (K.ofNat 4)), none, .as (.t (K.ofNat 12))⟩]
noncomputable def f34_r3 : List EOper := [⟨(some (K.ofNat 5)), none, .as (.c (.i .i64 (.ofNat 0)))⟩]
noncomputable def f34_r4 : List EOper := [⟨(some (K.ofNat 13)), none, .mv (.t (K.ofNat 5))⟩, ⟨(some (K.ofNat 14)), none, .mv (.t (K.ofNat 3))⟩, ⟨(some (K.ofNat 15)), none, .bin .leq (.t (K.ofNat 13)) (.t (K.ofNat 14))⟩]
noncomputable def f34_r5 : List EOper := [⟨(some (K.ofNat 6)), none, .as (.c (.i .i64 (.ofNat 0)))⟩]
noncomputable def f34_r6 : List EOper := [⟨(some (K.ofNat 18)), none, .mv (.t (K.ofNat 6))⟩, ⟨(some (K.ofNat 19)), none, .mv (.t (K.ofNat 5))⟩, ⟨(some (K.ofNat 20)), none, .bin .leq (.t (K.ofNat 18)) (.t (K.ofNat 19))⟩]
noncomputable def f34_r7 : List Stage := [⟨[⟨(some (K.ofNat 23)), none, .mv (.t (K.ofNat 4))⟩, ⟨(some (K.ofNat 24)), none, .mv (.t (K.ofNat 5))⟩, ⟨(some (K.ofNat 25)), none, .mv (.t (K.ofNat 4))⟩, ⟨(some (K.ofNat 26)), none, .mv (.t (K.ofNat 5))⟩, ⟨(some (K.ofNat 27)), none, .iads 1 (.t (K.ofNat 25)) (.t (K.ofNat 26))⟩, ⟨(some (K.ofNat 28)), none, .ld (.t (K.ofNat 27))⟩, ⟨(some (K.ofNat 29)), none, .mv (.t (K.ofNat 0))⟩, ⟨(some (K.ofNat 30)), none, .mv (.t (K.ofNat 6))⟩, ⟨(some (K.ofNat 31)), none, .iads 1 (.t (K.ofNat 29)) (.t (K.ofNat 30))⟩, ⟨(some (K.ofNat 32)), none, .ld (.t (K.ofNat 31))⟩, ⟨(some (K.ofNat 33)), none, .mv (.t (K.ofNat 3))⟩, ⟨(some (K.ofNat 34)), none, .mv (.t (K.ofNat 6))⟩, ⟨(some (K.ofNat 35)), none, .bin .sub (.t (K.ofNat 33)) (.t (K.ofNat 34))⟩, ⟨(some (K.ofNat 36)), none, .mv (.t (K.ofNat 5))⟩, ⟨(some (K.ofNat 37)), none, .mv (.t (K.ofNat 6))⟩, ⟨(some (K.ofNat 38)), none, .bin .sub (.t (K.ofNat 36)) (.t (K.ofNat 37))⟩, ⟨(some (K.ofNat 41)), none, .mv (.t (K.ofNat 5))⟩, ⟨(some (K.ofNat 42)), none, .mv (.t (K.ofNat 6))⟩, ⟨(some (K.ofNat 43)), none, .bin .sub (.t (K.ofNat 41)) (.t (K.ofNat 42))⟩, ⟨(some (K.ofNat 44)), none, .bin .rem (.t (K.ofNat 43)) (.c (.i .i64 (.ofNat 2)))⟩, ⟨(some (K.ofNat 45)), none, .bin .mul (.c (.i .i64 (.ofNat 2))) (.t (K.ofNat 44))⟩, ⟨(some (K.ofNat 46)), none, .bin .sub (.c (.i .i64 (.ofNat 1))) (.t (K.ofNat 45))⟩], [], (some ⟨(some (K.ofNat 39)), none, .call (.c (.fn (K.ofNat 69) [])) [(.t (K.ofNat 35)), (.t (K.ofNat 38))]⟩), []⟩, ⟨[⟨(some (K.ofNat 40)), none, .bin .mul (.t (K.ofNat 32)) (.t (K.ofNat 39))⟩, ⟨(some (K.ofNat 47)), none, .bin .mul (.t (K.ofNat 40)) (.t (K.ofNat 46))⟩, ⟨(some (K.ofNat 48)), none, .bin .add (.t (K.ofNat 28)) (.t (K.ofNat 47))⟩, ⟨(some (K.ofNat 49)), none, .iads 1 (.t (K.ofNat 23)) (.t (K.ofNat 24))⟩], [⟨(some (K.ofNat 23)), none, .mv (.t (K.ofNat 4))⟩, ⟨(some (K.ofNat 24)), none, .mv (.t (K.ofNat 5))⟩, ⟨(some (K.ofNat 25)), none, .mv (.t (K.ofNat 4))⟩, ⟨(some (K.ofNat 26)), none, .mv (.t (K.ofNat 5))⟩, ⟨(some (K.ofNat 27)), none, .iads 1 (.t (K.ofNat 25)) (.t (K.ofNat 26))⟩, ⟨(some (K.ofNat 28)), none, .ld (.t (K.ofNat 27))⟩, ⟨(some (K.ofNat 29)), none, .mv (.t (K.ofNat 0))⟩, ⟨(some (K.ofNat 30)), none, .mv (.t (K.ofNat 6))⟩, ⟨(some (K.ofNat 31)), none, .iads 1 (.t (K.ofNat 29)) (.t (K.ofNat 30))⟩, ⟨(some (K.ofNat 32)), none, .ld (.t (K.ofNat 31))⟩, ⟨(some (K.ofNat 41)), none, .mv (.t (K.ofNat 5))⟩, ⟨(some (K.ofNat 42)), none, .mv (.t (K.ofNat 6))⟩, ⟨(some (K.ofNat 43)), none, .bin .sub (.t (K.ofNat 41)) (.t (K.ofNat 42))⟩, ⟨(some (K.ofNat 44)), none, .bin .rem (.t (K.ofNat 43)) (.c (.i .i64 (.ofNat 2)))⟩, ⟨(some (K.ofNat 45)), none, .bin .mul (.c (.i .i64 (.ofNat 2))) (.t (K.ofNat 44))⟩, ⟨(some (K.ofNat 46)), none, .bin .sub (.c (.i .i64 (.ofNat 1))) (.t (K.ofNat 45))⟩], (some ⟨none, none, .st 1 (.t (K.ofNat 49)) (.t (K.ofNat 48))⟩), []⟩, ⟨[], [], none, []⟩]
noncomputable def f34_r8 : List EOper := [⟨(some (K.ofNat 21)), none, .mv (.t (K.ofNat 6))⟩, ⟨(some (K.ofNat 22)), none, .bin .add (.t (K.ofNat 21)) (.c (.i .i64 (.ofNat 1)))⟩, ⟨(some (K.ofNat 6)), none, .as (.t (K.ofNat 22))⟩]
noncomputable def f34_l0 : EC := (.seq (.seq (.reg f34_r6) (.cond (.t (K.ofNat 20)) .skip (.exit 2))) (.seq (.block 3 (.draw f34_r7)) (.reg f34_r8)))
noncomputable def f34_r9 : List EOper := [⟨(some (K.ofNat 16)), none, .mv (.t (K.ofNat 5))⟩, ⟨(some (K.ofNat 17)), none, .bin .add (.t (K.ofNat 16)) (.c (.i .i64 (.ofNat 1)))⟩, ⟨(some (K.ofNat 5)), none, .as (.t (K.ofNat 17))⟩]
noncomputable def f34_l1 : EC := (.seq (.seq (.reg f34_r4) (.cond (.t (K.ofNat 15)) .skip (.exit 0))) (.seq (.block 1 (.seq (.reg f34_r5) (.block 2 (.loop f34_l0)))) (.reg f34_r9)))
noncomputable def f34_r10 : List EOper := [⟨(some (K.ofNat 50)), none, .mv (.t (K.ofNat 4))⟩, ⟨(some (K.ofNat 2)), none, .as (.t (K.ofNat 50))⟩]
noncomputable def f34_c : EC := (.seq (.reg f34_r0) (.seq (.reg f34_r1) (.seq (.reg f34_r2) (.seq (.seq (.reg f34_r3) (.block 0 (.loop f34_l1))) (.seq (.reg f34_r10) .ret)))))
noncomputable def f34 : EF := ⟨51, [.tmp (K.ofNat 2)], f34_c, none⟩
section
variable {fs : T EF} {ro : Option K}
def bin6 : Nat → Nat → Nat
  | _, 0 => 1
  | 0, _ + 1 => 0
  | n + 1, k + 1 => bin6 n k + bin6 n (k + 1)
noncomputable def sgnS (j : Nat) : Int := fw .i64 (1 - fw .i64 (2 * ((j : Int).tmod 2)))
noncomputable def rkS (L : List Int) (d k : Nat) : Nat → Int
  | 0 => 0
  | i + 1 => fw .i64 (rkS L d k i + fw .i64 (fw .i64 (L.getD i 0 * (bin6 (d - i) (k - i) : Int)) * sgnS (k - i)))
noncomputable def rhsS (L : List Int) : List Int := arr (fun k => rkS L (L.length - 1) k (k + 1)) L.length
end
end Go.Ev
namespace Go.Ev
open Go Go.RowKit
noncomputable def f4_r0 : List EOper := [⟨(some (K.ofNat 4)), none, .as (.c (.b false))⟩]
noncomputable def f4_r1 : List EOper := [⟨(some (K.ofNat 17)), none, .mv (.t (K.ofNat 0))⟩, ⟨(some (K.ofNat 18)), none, .mv (.t (K.ofNat 1))⟩, ⟨(some (K.ofNat 19)), none, .call (.c (.fn (K.ofNat 30) [])) [(.t (K.ofNat 17)), (.t (K.ofNat 18))]⟩, ⟨(some (K.ofNat 16)), none, .mv (.t (K.ofNat 19))⟩, ⟨(some (K.ofNat 20)), none, .ext (.t (K.ofNat 16)) 0⟩, ⟨(some (K.ofNat 21)), none, .ext (.t (K.ofNat 16)) 1⟩, ⟨(some (K.ofNat 5)), none, .as (.t (K.ofNat 20))⟩, ⟨(some (K.ofNat 6)), none, .as (.t (K.ofNat 21))⟩]
noncomputable def f4_r2 : List EOper := [⟨(some (K.ofNat 23)), none, .mv (.t (K.ofNat 5))⟩, ⟨(some (K.ofNat 24)), none, .mv (.t (K.ofNat 6))⟩, ⟨(some (K.ofNat 25)), none, .call (.c (.fn (K.ofNat 17) [])) [(.t (K.ofNat 23)), (.t (K.ofNat 24))]⟩, ⟨(some (K.ofNat 22)), none, .mv (.t (K.ofNat 25))⟩, ⟨(some (K.ofNat 26)), none, .ext (.t (K.ofNat 22)) 0⟩, ⟨(some (K.ofNat 27)), none, .ext (.t (K.ofNat 22)) 1⟩, ⟨(some (K.ofNat 7)), none, .as (.t (K.ofNat 26))⟩, ⟨(some (K.ofNat 8)), none, .as (.t (K.ofNat 27))⟩]
noncomputable def f4_r3 : List EOper := [⟨(some (K.ofNat 29)), none, .mv (.t (K.ofNat 5))⟩, ⟨(some (K.ofNat 30)), none, .mv (.t (K.ofNat 6))⟩, ⟨(some (K.ofNat 31)), none, .call (.c (.fn (K.ofNat 18) [])) [(.t (K.ofNat 29)), (.t (K.ofNat 30))]⟩, ⟨(some (K.ofNat 28)), none, .mv (.t (K.ofNat 31))⟩, ⟨(some (K.ofNat 32)), none, .ext (.t (K.ofNat 28)) 0⟩, ⟨(some (K.ofNat 33)), none, .ext (.t (K.ofNat 28)) 1⟩, ⟨(some (K.ofNat 9)), none, .as (.t (K.ofNat 32))⟩, ⟨(some (K.ofNat 10)), none, .as (.t (K.ofNat 33))⟩]
noncomputable def f4_r4 : List EOper := [⟨(some (K.ofNat 35)), none, .mv (.t (K.ofNat 5))⟩, ⟨(some (K.ofNat 36)), none, .mv (.t (K.ofNat 6))⟩, ⟨(some (K.ofNat 37)), none, .call (.c (.fn (K.ofNat 19) [])) [(.t (K.ofNat 35)), (.t (K.ofNat 36))]⟩, ⟨(some (K.ofNat 34)), none, .mv (.t (K.ofNat 37))⟩, ⟨(some (K.ofNat 38)), none, .ext (.t (K.ofNat 34)) 0⟩, ⟨(some (K.ofNat 39)), none, .ext (.t (K.ofNat 34)) 1⟩, ⟨(some (K.ofNat 11)), none, .as (.t (K.ofNat 38))⟩, ⟨(some (K.ofNat 12)), none, .as (.t (K.ofNat 39))⟩]
noncomputable def f4_r5 : List EOper := [⟨(some (K.ofNat 41)), none, .mv (.t (K.ofNat 5))⟩, ⟨(some (K.ofNat 42)), none, .mv (.t (K.ofNat 6))⟩, ⟨(some (K.ofNat 43)), none, .call (.c (.fn (K.ofNat 20) [])) [(.t (K.ofNat 41)), (.t (K.ofNat 42))]⟩, ⟨(some (K.ofNat 40)), none, .mv (.t (K.ofNat 43))⟩, ⟨(some (K.ofNat 44)), none, .ext (.t (K.ofNat 40)) 0⟩, ⟨(some (K.ofNat 45)), none, .ext (.t (K.ofNat 40)) 1⟩, ⟨(some (K.ofNat 13)), none, .as (.t (K.ofNat 44))⟩, ⟨(some (K.ofNat 14)), none, .as (.t (K.ofNat 45))⟩]
noncomputable def f4_r6 : List EOper := [⟨(some (K.ofNat 46)), none, .mv (.t (K.ofNat 5))⟩, ⟨(some (K.ofNat 47)), none, .mv (.t (K.ofNat 6))⟩, ⟨(some (K.ofNat 48)), none, .call (.c (.fn (K.ofNat 31) [])) [(.t (K.ofNat 46)), (.t (K.ofNat 47))]⟩, ⟨(some (K.ofNat 15)), none, .as (.t (K.ofNat 48))⟩]
noncomputable def f4_r7 : List EOper := [⟨(some (K.ofNat 49)), none, .mv (.t (K.ofNat 8))⟩, ⟨(some (K.ofNat 50)), none, .bin .eql (.t (K.ofNat 49)) (.c (.i .i64 (.ofNat 0)))⟩, ⟨(some (K.ofNat 51)), none, .mv (.t (K.ofNat 50))⟩, ⟨(some (K.ofNat 52)), (some ((K.ofNat 51), true)), .mv (.t (K.ofNat 7))⟩, ⟨(some (K.ofNat 53)), (some ((K.ofNat 51), true)), .mv (.t (K.ofNat 5))⟩, ⟨(some (K.ofNat 54)), (some ((K.ofNat 51), true)), .mv (.t (K.ofNat 6))⟩, ⟨(some (K.ofNat 55)), (some ((K.ofNat 51), true)), .call (.c (.fn (K.ofNat 33) [])) [(.t (K.ofNat 53)), (.t (K.ofNat 54))]⟩, ⟨(some (K.ofNat 56)), (some ((K.ofNat 51), true)), .call (.c (.fn (K.ofNat 32) [])) [(.t (K.ofNat 52)), (.t (K.ofNat 55))]⟩, ⟨(some (K.ofNat 57)), none, .pick (.t (K.ofNat 51)) (.t (K.ofNat 56)) (.c (.b false))⟩, ⟨(some (K.ofNat 58)), none, .mv (.t (K.ofNat 57))⟩, ⟨(some (K.ofNat 59)), (some ((K.ofNat 58), true)), .mv (.t (K.ofNat 10))⟩, ⟨(some (K.ofNat 60)), (some ((K.ofNat 58), true)), .bin .eql (.t (K.ofNat 59)) (.c (.i .i64 (.ofNat 0)))⟩, ⟨(some (K.ofNat 61)), none, .pick (.t (K.ofNat 58)) (.t (K.ofNat 60)) (.c (.b false))⟩, ⟨(some (K.ofNat 62)), none, .mv (.t (K.ofNat 61))⟩, ⟨(some (K.ofNat 63)), (some ((K.ofNat 62), true)), .mv (.t (K.ofNat 9))⟩, ⟨(some (K.ofNat 64)), (some ((K.ofNat 62), true)), .mv (.t (K.ofNat 15))⟩, ⟨(some (K.ofNat 65)), (some ((K.ofNat 62), true)), .call (.c (.fn (K.ofNat 32) [])) [(.t (K.ofNat 63)), (.t (K.ofNat 64))]⟩, ⟨(some (K.ofNat 66)), none, .pick (.t (K.ofNat 62)) (.t (K.ofNat 65)) (.c (.b false))⟩, ⟨(some (K.ofNat 67)), none, .mv (.t (K.ofNat 66))⟩, ⟨(some (K.ofNat 68)), (some ((K.ofNat 67), true)), .mv (.t (K.ofNat 12))⟩, ⟨(some (K.ofNat 69)), (some ((K.ofNat 67), true)), .bin .eql (.t (K.ofNat 68)) (.c (.i .i64 (.ofNat 0)))⟩, ⟨(some (K.ofNat 70)), none, .pick (.t (K.ofNat 67)) (.t (K.ofNat 69)) (.c (.b false))⟩, ⟨(some (K.ofNat 71)), none, .mv (.t (K.ofNat 70))⟩, ⟨(some (K.ofNat 72)), (some ((K.ofNat 71), true)), .mv (.t (K.ofNat 11))⟩, ⟨(some (K.ofNat 73)), (some ((K.ofNat 71), true)), .mv (.t (K.ofNat 15))⟩, ⟨(some (K.ofNat 74)), (some ((K.ofNat 71), true)), .call (.c (.fn (K.ofNat 34) [])) [(.t (K.ofNat 73))]⟩, ⟨(some (K.ofNat 75)), (some ((K.ofNat 71), true)), .call (.c (.fn (K.ofNat 32) [])) [(.t (K.ofNat 72)), (.t (K.ofNat 74))]⟩, ⟨(some (K.ofNat 76)), none, .pick (.t (K.ofNat 71)) (.t (K.ofNat 75)) (.c (.b false))⟩, ⟨(some (K.ofNat 77)), none, .mv (.t (K.ofNat 76))⟩, ⟨(some (K.ofNat 78)), (some ((K.ofNat 77), true)), .mv (.t (K.ofNat 14))⟩, ⟨(some (K.ofNat 79)), (some ((K.ofNat 77), true)), .bin .eql (.t (K.ofNat 78)) (.c (.i .i64 (.ofNat 0)))⟩, ⟨(some (K.ofNat 80)), none, .pick (.t (K.ofNat 77)) (.t (K.ofNat 79)) (.c (.b false))⟩, ⟨(some (K.ofNat 81)), none, .mv (.t (K.ofNat 80))⟩, ⟨(some (K.ofNat 82)), (some ((K.ofNat 81), true)), .mv (.t (K.ofNat 13))⟩, ⟨(some (K.ofNat 83)), (some ((K.ofNat 81), true)), .mv (.t (K.ofNat 15))⟩, ⟨(some (K.ofNat 84)), (some ((K.ofNat 81), true)), .call (.c (.fn (K.ofNat 35) [])) [(.t (K.ofNat 83))]⟩, ⟨(some (K.ofNat 85)), (some ((K.ofNat 81), true)), .bin .eql (.t (K.ofNat 82)) (.t (K.ofNat 84))⟩, ⟨(some (K.ofNat 86)), none, .pick (.t (K.ofNat 81)) (.t (K.ofNat 85)) (.c (.b false))⟩, ⟨(some (K.ofNat 87)), none, .mv (.t (K.ofNat 86))⟩, ⟨(some (K.ofNat 88)), (some ((K.ofNat 87), true)), .call (.c (.fn (K.ofNat 29) [])) []⟩, ⟨(some (K.ofNat 89)), none, .pick (.t (K.ofNat 87)) (.t (K.ofNat 88)) (.c (.b false))⟩, ⟨(some (K.ofNat 4)), none, .as (.t (K.ofNat 89))⟩]
noncomputable def f4_c : EC := (.seq (.reg f4_r0) (.seq (.reg f4_r1) (.seq (.reg f4_r2) (.seq (.reg f4_r3) (.seq (.reg f4_r4) (.seq (.reg f4_r5) (.seq (.reg f4_r6) (.seq (.reg f4_r7) .ret))))))))
noncomputable def f4 : EF := ⟨90, [.tmp (K.ofNat 4)], f4_c, none⟩
section
variable {fs : T EF} {ro : Option K}
structure Calls4 (fs : T EF) : Prop where
  p53 : ∀ a b h P, CallP fs (.fn (K.ofNat 53) []) [.i .i64 a, .i .i64 b] h P = P (.b (ptI a b)) h
  p54 : ∀ a b h P, CallP fs (.fn (K.ofNat 54) []) [.i .i64 a, .i .i64 b] h P = P (.b (ptI a b)) h
  p52 : ∀ m : Nat, m < 64 → ∀ h P, CallP fs (.fn (K.ofNat 52) []) [.i .i64 (m : Int)] h P = P (.i .i64 (pop6 m : Int)) h
  p75 : ∀ m : Nat, m < 64 → ∀ h P, CallP fs (.fn (K.ofNat 75) []) [.i .i64 (m : Int)] h P = P (.i .i64 (pop6 m : Int)) h
  ch : ∀ n k : Nat, k ≤ n → n ≤ 6 → ∀ h P, CallP fs (.fn (K.ofNat 69) []) [.i .i64 (n : Int), .i .i64 (k : Int)] h P = P (.i .i64 (bin6 n k : Int)) h
  aw : ∀ h P, CallP fs (.fn (K.ofNat 29) []) [] h P = P (.b true) h
  c32 : ∀ h v u L M P, Sl iE h v L → Sl iE h u M → L.length ≤ 1000000 → P (.b (decide (L = M))) h → CallP fs (.fn (K.ofNat 32) []) [v, u] h P
  c16 : fs.get (K.ofNat 16) = some f16
  c17 : fs.get (K.ofNat 17) = some f17
  c18 : fs.get (K.ofNat 18) = some f18
  c19 : fs.get (K.ofNat 19) = some f19
  c20 : fs.get (K.ofNat 20) = some f20
  c30 : fs.get (K.ofNat 30) = some f30
  c31 : fs.get (K.ofNat 31) = some f31
  c33 : fs.get (K.ofNat 33) = some f33
  c34 : fs.get (K.ofNat 34) = some f34
  c35 : fs.get (K.ofNat 35) = some f35
  c45 : fs.get (K.ofNat 45) = some f45
  c49 : fs.get (K.ofNat 49) = some f49
  c55 : fs.get (K.ofNat 55) = some f55
  c56 : fs.get (K.ofNat 56) = some f56
  c57 : fs.get (K.ofNat 57) = some f57
  c77 : fs.get (K.ofNat 77) = some f77
  c78 : fs.get (K.ofNat 78) = some f78
  c90 : fs.get (K.ofNat 90) = some f90
  c91 : fs.get (K.ofNat 91) = some alF
structure Facts4 (N : Int) (P : List Int) : Prop where
  chk : chkS N P = 0
  len : P.length ≤ 10
  sets : Sets P
  sz : ∀ k ∈ facN P (2 ^ N.toNat), pop6 k ≤ maxS P
  fac : memI (famB P) = facTo P (2 ^ N.toNat)
  cnt : cntS (mem64 (famB P)) = rcnt (maxS P) (facN P (2 ^ N.toNat))
  hs : hsS (cntS (mem64 (famB P))) = rhsS (cntS (mem64 (famB P)))
  eu : euS ((cntS (mem64 (famB P))).drop 1) 0 1 = reuS (cntS (mem64 (famB P))) ((cntS (mem64 (famB P))).length - 1) 1 0
  ne : 1 ≤ (cntS (mem64 (famB P))).length
end
end Go.Ev
namespace Go.Ev
open Go Go.RowKit
/-! ### The sets -/
theorem tameX_in {N x : Int} (h1 : 1 ≤ N) (h6 : N ≤ 6) : 0 ≤ tameX N x ∧ tameX N x < 2 ^ N.toNat := by
  have h0 : 0 ≤ fw .u64 x := by rw [fw_eq]; exact Int.emod_nonneg _ (by decide)
  obtain ⟨m, hm⟩ := Int.eq_ofNat_of_zero_le h0
  unfold tameX
  rw [hm]
  have key : ∀ p : Nat, 0 < p → p ≤ 64 → 0 ≤ fw .i64 (Int.tmod (m : Int) (p : Int)) ∧ fw .i64 (Int.tmod (m : Int) (p : Int)) < (p : Int) := by
    intro p hp hp2
    have e : Int.tmod (m : Int) (p : Int) = ((m % p : Nat) : Int) := rfl
    have hlt := Nat.mod_lt m hp
    rw [e, fw64 (by omega) (by omega)]
    omega
  obtain ⟨q1, q2⟩ := pow_n h1 h6
  rw [← q2]
  exact key _ (Nat.two_pow_pos _) q1
theorem tameS_in {N : Int} {L : List Int} {i : Nat} (h1 : 1 ≤ N) (h6 : N ≤ 6) : ∀ s ∈ tameS N L i, 0 ≤ s ∧ s < 2 ^ N.toNat := by
  intro s hs
  unfold tameS at hs
  rcases List.mem_cons.1 hs with rfl | hs
  · have : N = 1 ∨ N = 2 ∨ N = 3 ∨ N = 4 ∨ N = 5 ∨ N = 6 := by omega
    rcases this with rfl | rfl | rfl | rfl | rfl | rfl <;> decide
  · obtain ⟨x, _, rfl⟩ := List.mem_map.1 hs
    exact tameX_in h1 h6
theorem sets_in {N : Int} {S : List Int} (h1 : 1 ≤ N) (h6 : N ≤ 6) (h : ∀ s ∈ S, 0 ≤ s ∧ s < 2 ^ N.toNat) : Sets S := by
  intro s hs
  obtain ⟨a, b⟩ := h s hs
  obtain ⟨q1, q2⟩ := pow_n h1 h6
  exact ⟨s.toNat, by omega, by omega⟩
theorem mem_pieces {S : List Int} {x : Int} (h : x ∈ piecesTo S 64) : ∃ k : Nat, x = (k : Int) ∧ k < 64 ∧ (k : Int) ∈ S ∧ ∀ y ∈ S, y = (k : Int) ∨ ptI (k : Int) y = false := by
  unfold piecesTo at h
  obtain ⟨k, hk, rfl⟩ := List.mem_map.1 h
  rw [List.mem_filter, List.mem_range, Bool.and_eq_true] at hk
  obtain ⟨h1, h2, h3⟩ := hk
  refine ⟨k, rfl, h1, ?_, fun y hy => ?_⟩
  · unfold inP at h2
    obtain ⟨y, hy, e⟩ := List.any_eq_true.1 h2
    have : y = (k : Int) := by simpa using e
    rw [← this]; exact hy
  · unfold grP at h3
    have := List.all_eq_true.1 h3 y hy
    simpa using this
theorem pieces_ne {S : List Int} (hS : Sets S) (hne : S ≠ []) : piecesTo S 64 ≠ [] := by
  obtain ⟨m, hm, hmax⟩ := exists_max S hne
  obtain ⟨t, ht, rfl⟩ := hS m hm
  have hmem : (t : Int) ∈ piecesTo S 64 := by
    unfold piecesTo
    rw [List.mem_map]
    refine ⟨t, ?_, rfl⟩
    rw [List.mem_filter, List.mem_range, Bool.and_eq_true]
    refine ⟨ht, ?_, ?_⟩
    · unfold inP; rw [List.any_eq_true]; exact ⟨_, hm, by simp⟩
    · unfold grP; rw [List.all_eq_true]
      intro y hy
      obtain ⟨u, hu, rfl⟩ := hS y hy
      rw [ptI_nat ht hu]
      have h1 := hmax _ hy
      by_cases e : u = t
      · simp [e]
      · have : ¬ t &&& u = t := fun h2 => by have := sub_le h2; omega
        simp [this]
  intro e
  rw [e] at hmem; cases hmem
theorem pieces_sorted {S : List Int} {i : Nat} : (piecesTo S i).Pairwise (· < ·) := by
  unfold piecesTo
  rw [List.pairwise_map]
  refine List.Pairwise.imp (R := (· < ·)) (fun h => by omega) ?_
  exact List.Pairwise.filter _ List.pairwise_lt_range
theorem facts_P {N : Int} {L : List Int} (h1 : 1 ≤ N) (h6 : N ≤ 6) :
    let P := (tameP N L).take 10
    P ≠ [] ∧ P.length ≤ 10 ∧ P.Pairwise (· < ·) ∧ (∀ x ∈ P, 1 ≤ x ∧ x < 2 ^ N.toNat) ∧ ∀ x ∈ P, ∀ y ∈ P, y = x ∨ ptI x y = false := by
  intro P
  have hin := tameS_in (N := N) (L := L) (i := 10) h1 h6
  have hS := sets_in h1 h6 hin
  have hone : (1 : Int) ∈ tameS N L 10 := by unfold tameS; exact List.mem_cons_self
  have hpos : ∀ x ∈ piecesTo (tameS N L 10) 64, 1 ≤ x ∧ x < 2 ^ N.toNat := by
    intro x hx
    obtain ⟨k, rfl, hk, hks, hkm⟩ := mem_pieces hx
    have := hin _ hks
    refine ⟨?_, this.2⟩
    rcases Nat.eq_zero_or_pos k with e | e
    · subst e
      rcases hkm 1 hone with h | h
      · cases h
      · have h2 : ptI ((0 : Nat) : Int) ((1 : Nat) : Int) = false := h
        rw [ptI_nat (by omega) (by omega)] at h2
        simp at h2
    · omega
  have hP : P = (piecesTo (tameS N L 10) 64).take 10 := by
    show (tameP N L).take 10 = _
    unfold tameP
    simp only []
    rw [if_neg]
    rintro ⟨_, e⟩
    obtain ⟨a, b⟩ := List.getElem?_eq_some_iff.1 e
    have := (hpos _ (List.getElem_mem a)).1
    omega
  rw [hP]
  have sub : ∀ x ∈ (piecesTo (tameS N L 10) 64).take 10, x ∈ piecesTo (tameS N L 10) 64 := fun x hx => List.mem_of_mem_take hx
  refine ⟨fun e => ?_, by rw [List.length_take]; omega, List.Pairwise.sublist (List.take_sublist _ _) pieces_sorted, fun x hx => hpos x (sub x hx), fun x hx y hy => ?_⟩
  · have h2 := pieces_ne hS (by unfold tameS; simp)
    have h3 := congrArg List.length e
    rw [List.length_take] at h3
    have : (piecesTo (tameS N L 10) 64).length ≠ 0 := fun e => h2 (List.length_eq_zero_iff.1 e)
    have h3 : min 10 (piecesTo (tameS N L 10) 64).length = 0 := h3
    omega
  · obtain ⟨k, rfl, hk, hks, hkm⟩ := mem_pieces (sub x hx)
    obtain ⟨j, rfl, hj, hjs, hjm⟩ := mem_pieces (sub y hy)
    exact hkm _ hjs
theorem chk_good {N : Int} {P : List Int} (h1 : 1 ≤ N) (h6 : N ≤ 6) (hne : P ≠ []) (hl : P.length ≤ 10) (hs : P.Pairwise (· < ·)) (hin : ∀ x ∈ P, 1 ≤ x ∧ x < 2 ^ N.toNat) (ha : ∀ x ∈ P, ∀ y ∈ P, y = x ∨ ptI x y = false) : chkS N P = 0 := by
  unfold chkS
  rw [if_neg (by omega), if_pos]
  unfold goodS
  have h0 : P.length ≠ 0 := fun e => hne (List.length_eq_zero_iff.1 e)
  rw [decide_eq_true (by omega), decide_eq_true hl, Bool.true_and, Bool.true_and, List.all_eq_true]
  intro i hi
  have hi : i < P.length := by simpa using hi
  have hg : P.getD i 0 = P[i] := by simp [List.getD, hi]
  unfold okAt
  rw [hg]
  have hm := List.getElem_mem hi
  have hb := hin _ hm
  rw [decide_eq_true hb.1, decide_eq_true hb.2, Bool.true_and, Bool.true_and, List.all_eq_true]
  intro y hy
  obtain ⟨j, hj, rfl⟩ := List.getElem_of_mem hy
  have hj2 : j < i := by rw [List.length_take] at hj; omega
  rw [List.getElem_take]
  have hlt : P[j] < P[i] := List.pairwise_iff_getElem.1 hs j i (by omega) hi hj2
  unfold pairOk
  rw [decide_eq_true hlt]
  rcases ha P[j] (List.getElem_mem _) P[i] hm with e | e
  · omega
  · rw [e]; rfl
theorem pop_mono : ∀ s : Nat, s < 64 → ∀ k : Nat, k < 64 → k &&& s = k → pop6 k ≤ pop6 s := by
  have h : ((List.range 64).all fun s => (List.range 64).all fun k => !(decide (k &&& s = k)) || decide (pop6 k ≤ pop6 s)) = true := by decide +kernel
  intro s hs k hk hsub
  have h1 := List.all_eq_true.1 (List.all_eq_true.1 h s (by simpa using hs)) k (by simpa using hk)
  rw [decide_eq_true hsub] at h1
  simpa using h1
/-! ### The counts -/
theorem getD_cpad {C : List Int} {m j : Nat} : (cpad C m).getD j 0 = C.getD j 0 := by
  unfold cpad
  by_cases h : j < C.length
  · simp [List.getD, List.getElem?_append_left h]
  · simp only [List.getD]
    rw [List.getElem?_append_right (by omega), List.getElem?_replicate, List.getElem?_eq_none (by omega)]
    split <;> rfl
theorem cnt_len {d : Nat} : ∀ (l : List Nat), (∀ k ∈ l, pop6 k ≤ d) → (cntS l).length ≤ d + 1 ∧ (∀ k ∈ l, pop6 k < (cntS l).length) ∧ ∀ j, (cntS l).getD j 0 = (rcnt d l).getD j 0 := by
  intro l
  refine snoc_ind (P := fun l => (∀ k ∈ l, pop6 k ≤ d) → (cntS l).length ≤ d + 1 ∧ (∀ k ∈ l, pop6 k < (cntS l).length) ∧ ∀ j, (cntS l).getD j 0 = (rcnt d l).getD j 0) (fun _ => ?_) (fun l k ih hd => ?_) l
  · refine ⟨by simp [cntS], (fun k h => by cases h), fun j => ?_⟩
    show ([] : List Int).getD j 0 = (List.replicate (d + 1) (0 : Int)).getD j 0
    simp only [List.getD, List.getElem?_nil, List.getElem?_replicate]
    split <;> rfl
  · obtain ⟨i1, i2, i3⟩ := ih (fun k hk => hd k (by simp [hk]))
    have hk := hd k (by simp)
    rw [cntS_snoc, rcnt_snoc]
    have hlen : (cstep (cntS l) (pop6 k)).length = max (cntS l).length (pop6 k + 1) := by
      unfold cstep cpad
      rw [List.length_set, List.length_append, List.length_replicate]; omega
    refine ⟨by rw [hlen]; omega, fun x hx => ?_, fun j => ?_⟩
    · rw [hlen]
      rcases List.mem_append.1 hx with h | h
      · have := i2 x h; omega
      · have : x = k := by simpa using h
        subst this; omega
    · unfold cstep bump
      have hp := cpad_len (C := cntS l) (m := pop6 k)
      have hr := rcnt_len (d := d) l
      have g1 : ∀ (A : List Int) (i : Nat) (x : Int), i < A.length → (A.set i x).getD j 0 = if i = j then x else A.getD j 0 := by
        intro A i x hi
        simp only [List.getD, List.getElem?_set]
        by_cases e : i = j
        · subst e; simp [hi]
        · simp [e]
      rw [g1 _ _ _ hp, g1 _ _ _ (by omega), getD_cpad, getD_cpad, i3, i3]
theorem counts_eq {d : Nat} {l : List Nat} (hd : ∀ k ∈ l, pop6 k ≤ d) (he : ∃ k ∈ l, pop6 k = d) : cntS l = rcnt d l := by
  obtain ⟨h1, h2, h3⟩ := cnt_len l hd
  obtain ⟨k, hk, e⟩ := he
  have h4 := h2 k hk
  have hr := rcnt_len (d := d) l
  apply List.ext_getElem (by omega)
  intro i a b
  have := h3 i
  simp only [List.getD] at this
  rw [List.getElem?_eq_getElem a, List.getElem?_eq_getElem b] at this
  simpa using this
end Go.Ev
namespace Go.Ev
open Go Go.RowKit
theorem hsA1 {a : Int} (ha : 0 ≤ a ∧ a ≤ 64) : hsS [a] = [1 * a] := by
  simp [hsS, hsTo, List.range, List.range.loop, innerS]
theorem hsA2 {a b : Int} (ha : 0 ≤ a ∧ a ≤ 64) (hb : 0 ≤ b ∧ b ≤ 64) : hsS [a, b] = [1 * a, (-1) * a + 1 * b] := by
  simp [hsS, hsTo, List.range, List.range.loop, innerS]
  simp (disch := omega) only [fw64]
  omega
theorem hsA3 {a b c : Int} (ha : 0 ≤ a ∧ a ≤ 64) (hb : 0 ≤ b ∧ b ≤ 64) (hc : 0 ≤ c ∧ c ≤ 64) : hsS [a, b, c] = [1 * a, (-2) * a + 1 * b, 1 * a + (-1) * b + 1 * c] := by
  simp [hsS, hsTo, List.range, List.range.loop, innerS]
  simp (disch := omega) only [fw64]
  omega
theorem hsA4 {a b c d : Int} (ha : 0 ≤ a ∧ a ≤ 64) (hb : 0 ≤ b ∧ b ≤ 64) (hc : 0 ≤ c ∧ c ≤ 64) (hd : 0 ≤ d ∧ d ≤ 64) : hsS [a, b, c, d] = [1 * a, (-3) * a + 1 * b, 3 * a + (-2) * b + 1 * c, (-1) * a + 1 * b + (-1) * c + 1 * d] := by
  simp [hsS, hsTo, List.range, List.range.loop, innerS]
  simp (disch := omega) only [fw64]
  omega
theorem hsA5 {a b c d e : Int} (ha : 0 ≤ a ∧ a ≤ 64) (hb : 0 ≤ b ∧ b ≤ 64) (hc : 0 ≤ c ∧ c ≤ 64) (hd : 0 ≤ d ∧ d ≤ 64) (he : 0 ≤ e ∧ e ≤ 64) : hsS [a, b, c, d, e] = [1 * a, (-4) * a + 1 * b, 6 * a + (-3) * b + 1 * c, (-4) * a + 3 * b + (-2) * c + 1 * d, 1 * a + (-1) * b + 1 * c + (-1) * d + 1 * e] := by
  simp [hsS, hsTo, List.range, List.range.loop, innerS]
  simp (disch := omega) only [fw64]
  omega
theorem hsA6 {a b c d e f : Int} (ha : 0 ≤ a ∧ a ≤ 64) (hb : 0 ≤ b ∧ b ≤ 64) (hc : 0 ≤ c ∧ c ≤ 64) (hd : 0 ≤ d ∧ d ≤ 64) (he : 0 ≤ e ∧ e ≤ 64) (hf : 0 ≤ f ∧ f ≤ 64) : hsS [a, b, c, d, e, f] = [1 * a, (-5) * a + 1 * b, 10 * a + (-4) * b + 1 * c, (-10) * a + 6 * b + (-3) * c + 1 * d, 5 * a + (-4) * b + 3 * c + (-2) * d + 1 * e, (-1) * a + 1 * b + (-1) * c + 1 * d + (-1) * e + 1 * f] := by
  simp [hsS, hsTo, List.range, List.range.loop, innerS]
  simp (disch := omega) only [fw64]
  omega
theorem hsA7 {a b c d e f g : Int} (ha : 0 ≤ a ∧ a ≤ 64) (hb : 0 ≤ b ∧ b ≤ 64) (hc : 0 ≤ c ∧ c ≤ 64) (hd : 0 ≤ d ∧ d ≤ 64) (he : 0 ≤ e ∧ e ≤ 64) (hf : 0 ≤ f ∧ f ≤ 64) (hg : 0 ≤ g ∧ g ≤ 64) : hsS [a, b, c, d, e, f, g] = [1 * a, (-6) * a + 1 * b, 15 * a + (-5) * b + 1 * c, (-20) * a + 10 * b + (-4) * c + 1 * d, 15 * a + (-10) * b + 6 * c + (-3) * d + 1 * e, (-6) * a + 5 * b + (-4) * c + 3 * d + (-2) * e + 1 * f, 1 * a + (-1) * b + 1 * c + (-1) * d + 1 * e + (-1) * f + 1 * g] := by
  simp [hsS, hsTo, List.range, List.range.loop, innerS]
  simp (disch := omega) only [fw64]
  omega
end Go.Ev
namespace Go.Ev
open Go Go.RowKit
section
variable {fs : T EF} {ro : Option K}
structure Calls8 (fs : T EF) : Prop where
  p53 : ∀ a b h P, CallP fs (.fn (K.ofNat 53) []) [.i .i64 a, .i .i64 b] h P = P (.b (ptI a b)) h
  p54 : ∀ a b h P, CallP fs (.fn (K.ofNat 54) []) [.i .i64 a, .i .i64 b] h P = P (.b (ptI a b)) h
  p52 : ∀ m : Nat, m < 64 → ∀ h P, CallP fs (.fn (K.ofNat 52) []) [.i .i64 (m : Int)] h P = P (.i .i64 (pop6 m : Int)) h
  p75 : ∀ m : Nat, m < 64 → ∀ h P, CallP fs (.fn (K.ofNat 75) []) [.i .i64 (m : Int)] h P = P (.i .i64 (pop6 m : Int)) h
  aw : ∀ h P, CallP fs (.fn (K.ofNat 29) []) [] h P = P (.b true) h
  c32 : ∀ h v u L M P, Sl iE h v L → Sl iE h u M → L.length ≤ 1000000 → P (.b (decide (L = M))) h → CallP fs (.fn (K.ofNat 32) []) [v, u] h P
  pt : ∃ ef, fs.get (K.ofNat 54) = some ef ∧ ef.nv = some (flatG partG)
  c16 : fs.get (K.ofNat 16) = some f16
  c26 : fs.get (K.ofNat 26) = some f26
  c27 : fs.get (K.ofNat 27) = some f27
  c28 : fs.get (K.ofNat 28) = some f28
  c30 : fs.get (K.ofNat 30) = some f30
  c31 : fs.get (K.ofNat 31) = some f31
  c33 : fs.get (K.ofNat 33) = some f33
  c44 : fs.get (K.ofNat 44) = some f44
  c45 : fs.get (K.ofNat 45) = some f45
  c46 : fs.get (K.ofNat 46) = some f46
  c47 : fs.get (K.ofNat 47) = some f47
  c49 : fs.get (K.ofNat 49) = some f49
  c55 : fs.get (K.ofNat 55) = some f55
  c57 : fs.get (K.ofNat 57) = some f57
  c64 : fs.get (K.ofNat 64) = some f64
  c65 : fs.get (K.ofNat 65) = some f65
  c66 : fs.get (K.ofNat 66) = some f66
  c67 : fs.get (K.ofNat 67) = some f67
  c68 : fs.get (K.ofNat 68) = some f68
  c73 : fs.get (K.ofNat 73) = some f73
  c74 : fs.get (K.ofNat 74) = some f74
  c78 : fs.get (K.ofNat 78) = some f78
  c82 : fs.get (K.ofNat 82) = some f82
  c83 : fs.get (K.ofNat 83) = some f83
  c89 : fs.get (K.ofNat 89) = some f89
  c91 : fs.get (K.ofNat 91) = some alF
  c92 : fs.get (K.ofNat 92) = some coF
  c93 : fs.get (K.ofNat 93) = some f93
  c94 : fs.get (K.ofNat 94) = some f94
structure Facts8 (N : Int) (P : List Int) : Prop where
  chk : chkS N P = 0
  len : P.length ≤ 10
  sets : Sets P
  sz : ∀ k ∈ facN P (2 ^ N.toNat), pop6 k ≤ maxS P
  ne : 1 ≤ (cntS (mem64 (famB P))).length
  hol : hollS (cntS (mem64 (famB P))) (famB P) = rhTo (facN P (2 ^ N.toNat)) (maxS P)
  bad : ∀ f : Int, badF (famB P) f = (decide (f < 0) || (decide ((2 : Int) ^ N.toNat ≤ f) || !isF P f))
  lnk : ∀ f : Nat, f < 64 → famB P f = true → topsTo (linkB (famB P) f) 64 = piecesTo (lkR P f (2 ^ N.toNat)) 64
  du : topsTo (dualB (famB P) (2 ^ N.toNat - 1)) 64 = piecesTo (duR P (2 ^ N.toNat - 1) (2 ^ N.toNat - 1 + 1)) 64
  du0 : ∀ D, D = piecesTo (duR P (2 ^ N.toNat - 1) (2 ^ N.toNat - 1 + 1)) 64 → ∀ h : 0 < D.length, (D[0]? = some 0 ↔ D[D.length - 1]'(by omega) = 0)
  fne : 1 ≤ (facTo P (2 ^ N.toNat)).length
end
end Go.Ev
namespace Go.Ev
open Go Go.RowKit
theorem fam_iff {S : List Int} (hS : Sets S) {y : Nat} (hy : y < 64) : famB S y = true ↔ ∃ t : Nat, t < 64 ∧ (t : Int) ∈ S ∧ y &&& t = y := by
  unfold famB
  rw [List.any_eq_true]
  constructor
  · rintro ⟨s, hs, h⟩
    obtain ⟨t, ht, rfl⟩ := hS s hs
    rw [ptI_nat hy ht, decide_eq_true_eq] at h
    exact ⟨t, ht, hs, h⟩
  · rintro ⟨t, ht, hs, h⟩
    exact ⟨_, hs, by rw [ptI_nat hy ht, decide_eq_true_eq]; exact h⟩
theorem self_or {x f : Nat} : x &&& (x ||| f) = x := by
  apply Nat.eq_of_testBit_eq
  intro i
  simp only [Nat.testBit_and, Nat.testBit_or]
  cases x.testBit i <;> cases f.testBit i <;> rfl
theorem sets_map {l : List Nat} (h : ∀ k ∈ l, k < 64) : Sets (l.map fun (k : Nat) => (k : Int)) := by
  intro s hs
  obtain ⟨k, hk, rfl⟩ := List.mem_map.1 hs
  exact ⟨k, h k hk, rfl⟩
theorem cast_mem {l : List Nat} {t : Nat} (h : (t : Int) ∈ l.map fun (k : Nat) => (k : Int)) : t ∈ l := by
  obtain ⟨k, hk, e⟩ := List.mem_map.1 h
  have : k = t := by omega
  rw [← this]; exact hk
theorem rcnt_at {d : Nat} : ∀ (l : List Nat), (∀ k ∈ l, pop6 k ≤ d) → ∀ j, j ≤ d → (rcnt d l).getD j 0 = ((rowsOf l j).length : Int) := by
  intro l
  refine snoc_ind (P := fun l => (∀ k ∈ l, pop6 k ≤ d) → ∀ j, j ≤ d → (rcnt d l).getD j 0 = ((rowsOf l j).length : Int)) (fun _ j hj => ?_) (fun l k ih h j hj => ?_) l
  · simp only [rcnt, List.foldl_nil, List.getD]
    rw [List.getElem?_replicate, if_pos (by omega)]; rfl
  · have ih := ih (fun y hy => h y (List.mem_append_left _ hy))
    have hk := h k (by simp)
    have hl := rcnt_len (d := d) l
    rw [rcnt_snoc, rowsOf_snoc]
    unfold bump
    by_cases e : pop6 k = j
    · subst e
      rw [if_pos rfl, List.length_append]
      have := ih (pop6 k) hk
      simp only [List.getD] at this ⊢
      rw [List.getElem?_set, if_pos rfl, if_pos (by omega)]
      simp only [Option.getD_some, List.length_singleton]
      omega
    · rw [if_neg e]
      have := ih j hj
      simp only [List.getD] at this ⊢
      rw [List.getElem?_set, if_neg e]; exact this
end Go.Ev
namespace Go.Ev
open Go Go.RowKit
theorem opp_one : ∀ x, x < 64 → ∀ z, z < 64 → x &&& z ≠ x → ∀ c ∈ cornN x, lessC x c &&& z = lessC x c → lessC x z = c := by decide +kernel
theorem one_opp : ∀ x, x < 64 → ∀ z, z < 64 → pop6 (lessC x z) = 1 → lessC x z ∈ cornN x ∧ lessC x (lessC x z) &&& z = lessC x (lessC x z) := by decide +kernel
theorem corn_pop : ∀ x, x < 64 → ∀ c ∈ cornN x, pop6 c = 1 := by decide +kernel
theorem corn_or : ∀ x, x < 64 → ∀ c ∈ cornN x, ∀ y, y < 64 → c &&& y = c ∨ c &&& y = 0 := by decide +kernel
theorem corn_ne : ∀ x, x < 64 → ∀ c ∈ cornN x, c ≠ 0 := by decide +kernel
theorem or_sub_iff {a b y : Nat} : (a ||| b) &&& y = a ||| b ↔ a &&& y = a ∧ b &&& y = b := by
  constructor
  · intro h
    constructor
    · exact sub_trans self_or h
    · exact sub_trans (by rw [Nat.or_comm]; exact self_or) h
  · rintro ⟨h1, h2⟩
    rw [Nat.and_or_distrib_right, h1, h2]
theorem fold_sub {p : Nat → Bool} {y : Nat} : ∀ (l : List Nat), ((l.foldl (fun s c => if p c = true then s ||| c else s) 0) &&& y = l.foldl (fun s c => if p c = true then s ||| c else s) 0) ↔ ∀ c ∈ l, p c = true → c &&& y = c := by
  intro l
  refine snoc_ind (P := fun l => ((l.foldl (fun s c => if p c = true then s ||| c else s) 0) &&& y = l.foldl (fun s c => if p c = true then s ||| c else s) 0) ↔ ∀ c ∈ l, p c = true → c &&& y = c) (by simp) (fun l a ih => ?_) l
  rw [List.foldl_append]
  show ((if p a = true then _ ||| a else _) &&& y = if p a = true then _ ||| a else _) ↔ _
  by_cases e : p a = true
  · rw [if_pos e, or_sub_iff, ih]
    constructor
    · rintro ⟨h1, h2⟩ c hc hp
      rcases List.mem_append.1 hc with h | h
      · exact h1 c h hp
      · rw [List.mem_singleton.1 h]; exact h2
    · intro h
      exact ⟨fun c hc hp => h c (List.mem_append_left _ hc) hp, h a (by simp) e⟩
  · rw [if_neg e, ih]
    constructor
    · intro h1 c hc hp
      rcases List.mem_append.1 hc with h | h
      · exact h1 c h hp
      · rw [List.mem_singleton.1 h] at hp; exact absurd hp e
    · intro h c hc hp
      exact h c (List.mem_append_left _ hc) hp
theorem newPS_lt {x : Nat} {S : List Int} (hx : x < 64) : newPS x S < 64 := by
  have := npTo_lt (S := S) hx (cornN x).length (Nat.le_refl _)
  rwa [show npTo x S (cornN x).length = newPS x S by unfold npTo newPS; rw [List.take_length]] at this
theorem opp_iff {x c : Nat} {B : List Nat} (hx : x < 64) (hB : ∀ z ∈ B, z < 64) : oppS x c (castL B) = true ↔ ∃ z ∈ B, lessC x c &&& z = lessC x c := by
  unfold oppS castL
  rw [List.any_eq_true]
  have hl := @less_le x c
  constructor
  · rintro ⟨s, hs, h⟩
    obtain ⟨z, hz, rfl⟩ := List.mem_map.1 hs
    have hz64 := hB z hz
    rw [ptI_nat (by omega) (by omega), decide_eq_true_eq] at h
    exact ⟨z, hz, h⟩
  · rintro ⟨z, hz, h⟩
    have hz64 := hB z hz
    exact ⟨_, List.mem_map.2 ⟨z, hz, rfl⟩, by rw [ptI_nat (by omega) (by omega), decide_eq_true_eq]; exact h⟩
/-- A piece fits if each piece before it misses a corner whose opposite side lies in some piece before. -/
theorem fits_iff {x : Nat} {B : List Nat} (hx : x < 64) (hB : ∀ z ∈ B, z < 64) (ha : ∀ z ∈ B, x &&& z ≠ x) :
    fitS x (castL B) = true ↔ ∀ y ∈ B, ∃ z ∈ B, pop6 (lessC x z) = 1 ∧ lessC x z &&& y = 0 := by
  have key : ∀ y ∈ B, (ptI (newPS x (castL B) : Int) (y : Int) = false ↔ ∃ z ∈ B, pop6 (lessC x z) = 1 ∧ lessC x z &&& y = 0) := by
    intro y hy
    have hy64 := hB y hy
    rw [ptI_nat (newPS_lt hx) hy64, decide_eq_false_iff_not]
    unfold newPS
    rw [fold_sub]
    constructor
    · intro h
      have h2 : ∃ c ∈ cornN x, oppS x c (castL B) = true ∧ ¬ c &&& y = c := by
        apply Classical.byContradiction
        intro hn
        exact h fun c hc hp => Classical.byContradiction fun hne => hn ⟨c, hc, hp, hne⟩
      obtain ⟨c, hc, ho, hne⟩ := h2
      obtain ⟨z, hz, hs⟩ := (opp_iff hx hB).1 ho
      have e := opp_one x hx z (hB z hz) (ha z hz) c hc hs
      refine ⟨z, hz, by rw [e]; exact corn_pop x hx c hc, ?_⟩
      rw [e]
      rcases corn_or x hx c hc y hy64 with h3 | h3
      · exact absurd h3 hne
      · exact h3
    · rintro ⟨z, hz, h1, h2⟩ h
      obtain ⟨hc, hs⟩ := one_opp x hx z (hB z hz) h1
      have := h _ hc ((opp_iff hx hB).2 ⟨z, hz, hs⟩)
      rw [h2] at this
      exact corn_ne x hx _ hc this.symm
  unfold fitS
  rw [List.all_eq_true]
  constructor
  · intro h y hy
    have := h _ (List.mem_map.2 ⟨y, hy, rfl⟩)
    exact (key y hy).1 (by simpa using this)
  · intro h s hs
    obtain ⟨y, hy, rfl⟩ := List.mem_map.1 hs
    have := (key y hy).2 (h y hy)
    simpa using this
theorem nextR_iff {Q : List Nat} {m i : Nat} : nextR Q m i = true ↔ ∀ a, a < Q.length → m / 2 ^ a % 2 = 1 → ∃ b, b < Q.length ∧ m / 2 ^ b % 2 = 1 ∧ pop6 (lessC (Q.getD i 0) (Q.getD b 0)) = 1 ∧ lessC (Q.getD i 0) (Q.getD b 0) &&& Q.getD a 0 = 0 := by
  unfold nextR nxB nxA nxC
  simp only [List.all_eq_true, List.mem_range, Bool.or_eq_true, decide_eq_true_eq, List.any_eq_true, Bool.and_eq_true]
  constructor
  · intro h a ha h1
    rcases h a ha with h2 | ⟨b, h3, h4, h5, h6⟩
    · omega
    · exact ⟨b, h3, h4, h5, h6⟩
  · intro h a ha
    by_cases e : m / 2 ^ a % 2 = 0
    · exact .inl e
    · obtain ⟨b, h3, h4, h5, h6⟩ := h a ha (by omega)
      exact .inr ⟨b, h3, h4, h5, h6⟩
/-- Both say the same, if m is the set of the pieces before. -/
theorem fits_next {Q B : List Nat} {m i : Nat} (hi : i < Q.length) (hQ : ∀ y ∈ Q, y < 64) (ha : ∀ j, j < Q.length → j ≠ i → Q.getD i 0 &&& Q.getD j 0 ≠ Q.getD i 0)
    (hm : m / 2 ^ i % 2 = 0) (hB : ∀ z, z ∈ B ↔ ∃ j, j < Q.length ∧ m / 2 ^ j % 2 = 1 ∧ Q.getD j 0 = z) : fitS (Q.getD i 0) (castL B) = nextR Q m i := by
  have hQ' : ∀ j, j < Q.length → Q.getD j 0 < 64 := fun j hj => by
    have := hQ _ (List.getElem_mem hj)
    simpa [List.getD, hj] using this
  have h64 : ∀ z ∈ B, z < 64 := fun z hz => by
    obtain ⟨j, hj, _, rfl⟩ := (hB z).1 hz
    exact hQ' j hj
  have hanti : ∀ z ∈ B, Q.getD i 0 &&& z ≠ Q.getD i 0 := fun z hz => by
    obtain ⟨j, hj, h1, rfl⟩ := (hB z).1 hz
    exact ha j hj fun e => by rw [e] at h1; omega
  rw [Bool.eq_iff_iff, fits_iff (hQ' i hi) h64 hanti, nextR_iff]
  constructor
  · intro h a hal h1
    obtain ⟨z, hz, h2, h3⟩ := h _ ((hB _).2 ⟨a, hal, h1, rfl⟩)
    obtain ⟨b, hb, h4, rfl⟩ := (hB z).1 hz
    exact ⟨b, hb, h4, h2, h3⟩
  · intro h y hy
    obtain ⟨a, hal, h1, rfl⟩ := (hB y).1 hy
    obtain ⟨b, hb, h2, h3, h4⟩ := h a hal h1
    exact ⟨_, (hB _).2 ⟨b, hb, h2, rfl⟩, h3, h4⟩
end Go.Ev
