/-
  Functions of the seat: rank.
  Functions of the seat: cornersOf, border.
  Functions of the seat: AppendSeq, Collect, list, Faces.
  Functions of the seat: counts, Counts.
  Functions of the seat: borderRank, hollows, Hollows.
  Functions of the seat: hollows, Hollows.
  Functions of the seat: Hs, Euler.
  The law ShellsMakes: its round.
  What is true of sets: the greatest of all parts of some sets are the greatest of these.
  Functions of the seat: the reference's Is, Faces, Counts, Euler.
-/
import Derived.Test.YtneacehpoaambaaPe
namespace Go.Ev
open Go Go.RowKit
noncomputable def f94_r0 : List EOper := [⟨(some (K.ofNat 2)), none, .as (.c (.i .i64 (.ofNat 0)))⟩]
noncomputable def f94_r1 : List EOper := [⟨(some (K.ofNat 3)), none, .as (.c (.i .i64 (.ofNat 0)))⟩]
noncomputable def f94_r2 : List EOper := [⟨(some (K.ofNat 8)), none, .mv (.t (K.ofNat 0))⟩, ⟨(some (K.ofNat 9)), none, .len (.t (K.ofNat 8))⟩, ⟨(some (K.ofNat 10)), none, .mv (.c (.i .i64 (.ofNat 0)))⟩]
noncomputable def f94_r3 : List EOper := [⟨(some (K.ofNat 11)), none, .bin .lss (.t (K.ofNat 10)) (.t (K.ofNat 9))⟩]
noncomputable def f94_r4 : List EOper := [⟨(some (K.ofNat 12)), none, .mv (.t (K.ofNat 10))⟩, ⟨(some (K.ofNat 4)), none, .as (.t (K.ofNat 12))⟩]
noncomputable def f94_r5 : List EOper := [⟨(some (K.ofNat 13)), none, .mv (.t (K.ofNat 0))⟩, ⟨(some (K.ofNat 14)), none, .mv (.t (K.ofNat 4))⟩, ⟨(some (K.ofNat 15)), none, .iads 1 (.t (K.ofNat 13)) (.t (K.ofNat 14))⟩, ⟨(some (K.ofNat 16)), none, .ld (.t (K.ofNat 15))⟩, ⟨(some (K.ofNat 5)), none, .as (.t (K.ofNat 16))⟩]
noncomputable def f94_r6 : List EOper := [⟨(some (K.ofNat 17)), none, .mv (.t (K.ofNat 5))⟩, ⟨(some (K.ofNat 18)), none, .bin .eql (.t (K.ofNat 17)) (.c (.i .u64 (.ofNat 0)))⟩]
noncomputable def f94_r7 : List EOper := [⟨(some (K.ofNat 19)), none, .mv (.t (K.ofNat 3))⟩, ⟨(some (K.ofNat 20)), none, .bin .add (.t (K.ofNat 19)) (.c (.i .i64 (.ofNat 1)))⟩, ⟨(some (K.ofNat 3)), none, .as (.t (K.ofNat 20))⟩]
noncomputable def f94_r8 : List EOper := [⟨(some (K.ofNat 21)), none, .mv (.t (K.ofNat 5))⟩, ⟨(some (K.ofNat 22)), none, .mv (.t (K.ofNat 5))⟩, ⟨(some (K.ofNat 23)), none, .neg (.t (K.ofNat 22))⟩, ⟨(some (K.ofNat 24)), none, .bin .and (.t (K.ofNat 21)) (.t (K.ofNat 23))⟩, ⟨(some (K.ofNat 6)), none, .as (.t (K.ofNat 24))⟩]
noncomputable def f94_r9 : List EOper := [⟨(some (K.ofNat 25)), none, .mv (.t (K.ofNat 4))⟩, ⟨(some (K.ofNat 26)), none, .bin .add (.t (K.ofNat 25)) (.c (.i .i64 (.ofNat 1)))⟩, ⟨(some (K.ofNat 7)), none, .as (.t (K.ofNat 26))⟩]
noncomputable def f94_r10 : List EOper := [⟨(some (K.ofNat 27)), none, .mv (.t (K.ofNat 7))⟩, ⟨(some (K.ofNat 28)), none, .mv (.t (K.ofNat 0))⟩, ⟨(some (K.ofNat 29)), none, .len (.t (K.ofNat 28))⟩, ⟨(some (K.ofNat 30)), none, .bin .lss (.t (K.ofNat 27)) (.t (K.ofNat 29))⟩]
noncomputable def f94_r11 : List EOper := [⟨(some (K.ofNat 33)), none, .mv (.t (K.ofNat 0))⟩, ⟨(some (K.ofNat 34)), none, .mv (.t (K.ofNat 7))⟩, ⟨(some (K.ofNat 35)), none, .iads 1 (.t (K.ofNat 33)) (.t (K.ofNat 34))⟩, ⟨(some (K.ofNat 36)), none, .ld (.t (K.ofNat 35))⟩, ⟨(some (K.ofNat 37)), none, .mv (.t (K.ofNat 6))⟩, ⟨(some (K.ofNat 38)), none, .bin .and (.t (K.ofNat 36)) (.t (K.ofNat 37))⟩, ⟨(some (K.ofNat 39)), none, .bin .neq (.t (K.ofNat 38)) (.c (.i .u64 (.ofNat 0)))⟩]
noncomputable def f94_r12 : List EOper := [⟨(some (K.ofNat 40)), none, .mv (.t (K.ofNat 0))⟩, ⟨(some (K.ofNat 41)), none, .mv (.t (K.ofNat 7))⟩, ⟨(some (K.ofNat 42)), none, .iads 1 (.t (K.ofNat 40)) (.t (K.ofNat 41))⟩, ⟨(some (K.ofNat 43)), none, .ld (.t (K.ofNat 42))⟩, ⟨(some (K.ofNat 44)), none, .mv (.t (K.ofNat 5))⟩, ⟨(some (K.ofNat 45)), none, .bin .xor (.t (K.ofNat 43)) (.t (K.ofNat 44))⟩, ⟨(some (K.ofNat 46)), none, .iads 1 (.t (K.ofNat 40)) (.t (K.ofNat 41))⟩, ⟨none, none, .st 1 (.t (K.ofNat 46)) (.t (K.ofNat 45))⟩]
noncomputable def f94_r13 : List EOper := [⟨(some (K.ofNat 31)), none, .mv (.t (K.ofNat 7))⟩, ⟨(some (K.ofNat 32)), none, .bin .add (.t (K.ofNat 31)) (.c (.i .i64 (.ofNat 1)))⟩, ⟨(some (K.ofNat 7)), none, .as (.t (K.ofNat 32))⟩]
noncomputable def f94_l0 : EC := (.seq (.seq (.reg f94_r10) (.cond (.t (K.ofNat 30)) .skip (.exit 2))) (.seq (.block 3 (.seq (.reg f94_r11) (.cond (.t (K.ofNat 39)) (.reg f94_r12) .skip))) (.reg f94_r13)))
noncomputable def f94_r14 : List EOper := [⟨(some (K.ofNat 47)), none, .bin .add (.t (K.ofNat 10)) (.c (.i .i64 (.ofNat 1)))⟩, ⟨(some (K.ofNat 10)), none, .mv (.t (K.ofNat 47))⟩]
noncomputable def f94_l1 : EC := (.seq (.reg f94_r3) (.seq (.cond (.t (K.ofNat 11)) .skip (.exit 0)) (.seq (.block 1 (.seq (.reg f94_r4) (.seq (.reg f94_r5) (.seq (.seq (.reg f94_r6) (.cond (.t (K.ofNat 18)) (.exit 1) .skip)) (.seq (.reg f94_r7) (.seq (.reg f94_r8) (.seq (.reg f94_r9) (.block 2 (.loop f94_l0))))))))) (.reg f94_r14))))
noncomputable def f94_r15 : List EOper := [⟨(some (K.ofNat 48)), none, .mv (.t (K.ofNat 3))⟩, ⟨(some (K.ofNat 2)), none, .as (.t (K.ofNat 48))⟩]
noncomputable def f94_c : EC := (.seq (.reg f94_r0) (.seq (.reg f94_r1) (.seq (.seq (.reg f94_r2) (.block 0 (.loop f94_l1))) (.seq (.reg f94_r15) .ret))))
noncomputable def f94 : EF := ⟨49, [.tmp (K.ofNat 2)], f94_c, none⟩
def low (p : Nat) : Nat := p &&& (18446744073709551616 - p)
theorem and_n {k : IntKind} {m n : Nat} (hk : 9223372036854775807 ≤ kmax k) (hm : m < 9223372036854775808) (hn : n < 9223372036854775808) : binV .and (.i k (m : Int)) (.i k (n : Int)) = some (.i k ((m &&& n : Nat) : Int)) := bin_and (by omega) (by omega)
def stepR (p r : Nat) : Nat := if r &&& low p ≠ 0 then r ^^^ p else r
def elR (p : Nat) : Nat → Nat → List Nat → List Nat
  | 0, _, L => L
  | m + 1, j, L => elR p m (j + 1) (L.set j (stepR p (L.getD j 0)))
def elK : Nat → Nat → List Nat → Nat → Nat
  | 0, _, _, c => c
  | m + 1, i, L, c => if L.getD i 0 = 0 then elK m (i + 1) L c else elK m (i + 1) (elR (L.getD i 0) m (i + 1) L) (c + 1)
/-- The rank, by elimination. -/
def rankS (L : List Nat) : Nat := elK L.length 0 L 0
def Small (L : List Nat) : Prop := ∀ x ∈ L, x < 9223372036854775808
theorem Small.at {L : List Nat} (h : Small L) {i : Nat} (hi : i < L.length) : L[i] < 9223372036854775808 := h _ (List.getElem_mem hi)
theorem Small.set {L : List Nat} (h : Small L) {i x : Nat} (hx : x < 9223372036854775808) : Small (L.set i x) := fun y hy => by
  rcases List.mem_or_eq_of_mem_set hy with h1 | rfl
  · exact h _ h1
  · exact hx
def uE (x : Nat) : V := .i .u64 (x : Int)
def nE (x : Nat) : V := .i .i64 (x : Int)
theorem kmi : 9223372036854775807 ≤ kmax .i64 := by decide
section
variable {fs : T EF} {ro : Option K}
end
end Go.Ev
namespace Go.Ev
open Go Go.RowKit
noncomputable def f82_r0 : List EOper := [⟨(some (K.ofNat 1)), none, .box 1 (.t (K.ofNat 0))⟩, ⟨(some (K.ofNat 2)), none, .as (.c .fnil)⟩]
noncomputable def f82_r1 : List EOper := [⟨(some (K.ofNat 3)), none, .mkfn (K.ofNat 92) [(.t (K.ofNat 1))]⟩, ⟨(some (K.ofNat 2)), none, .as (.t (K.ofNat 3))⟩]
noncomputable def f82_c : EC := (.seq (.reg f82_r0) (.seq (.reg f82_r1) .ret))
noncomputable def f82 : EF := ⟨4, [.tmp (K.ofNat 2)], f82_c, none⟩
theorem f82_rs : f82.rs = [.tmp (K.ofNat 2)] := of_eq_true (eq_self _)
noncomputable def f93_r0 : List EOper := [⟨(some (K.ofNat 1)), none, .box 1 (.t (K.ofNat 0))⟩, ⟨(some (K.ofNat 2)), none, .as (.c (.i .u64 (.ofNat 0)))⟩]
noncomputable def f93_r1 : List EOper := [⟨(some (K.ofNat 3)), none, .alloc 1 [(.i .u64 (.ofNat 0))]⟩]
noncomputable def f93_r2 : List EOper := [⟨(some (K.ofNat 5)), none, .ld (.t (K.ofNat 1))⟩, ⟨(some (K.ofNat 6)), none, .call (.c (.fn (K.ofNat 82) [])) [(.t (K.ofNat 5))]⟩]
noncomputable def f93_r3 : List EOper := [⟨(some (K.ofNat 4)), none, .as (.t (K.ofNat 7))⟩]
noncomputable def f93_a0 : EC := (.reg f93_r3)
noncomputable def f93_r4 : List Stage := [⟨[⟨(some (K.ofNat 8)), none, .ld (.t (K.ofNat 3))⟩, ⟨(some (K.ofNat 9)), none, .ld (.t (K.ofNat 1))⟩, ⟨(some (K.ofNat 10)), none, .mv (.t (K.ofNat 4))⟩, ⟨(some (K.ofNat 11)), none, .bin .andNot (.t (K.ofNat 9)) (.t (K.ofNat 10))⟩, ⟨(some (K.ofNat 12)), none, .bin .shl (.c (.i .u64 (.ofNat 1))) (.t (K.ofNat 11))⟩, ⟨(some (K.ofNat 13)), none, .bin .xor (.t (K.ofNat 8)) (.t (K.ofNat 12))⟩], [], (some ⟨none, none, .st 1 (.t (K.ofNat 3)) (.t (K.ofNat 13))⟩), []⟩, ⟨[], [], none, []⟩]
noncomputable def f93_b0 : EC := (.block 1 (.draw f93_r4))
noncomputable def f93_r5 : List EOper := [⟨(some (K.ofNat 14)), none, .ld (.t (K.ofNat 3))⟩, ⟨(some (K.ofNat 2)), none, .as (.t (K.ofNat 14))⟩]
noncomputable def f93_c : EC := (.seq (.reg f93_r0) (.seq (.reg f93_r1) (.seq (.seq (.reg f93_r2) (.block 0 (.rangeF (.t (K.ofNat 6)) [(K.ofNat 7)] f93_a0 f93_b0))) (.seq (.reg f93_r5) .ret))))
noncomputable def f93 : EF := ⟨15, [.tmp (K.ofNat 2)], f93_c, none⟩
section
variable {fs : T EF} {ro : Option K}
/-- The corners of a set, one after another. -/
theorem corner_yields {k idp : K} {S : Int} {ef : EF} (hf : fs.get k = some coF) (hp : fs.get (.z (.z (.z (.o (.z .e))))) = some ef) (hn : ef.nv = some (flatG partG)) :
    Yields fs k [.p idp 0] (fun h => h.get idp = .cells 1 [.i .i64 S]) (((List.range 6).filter fun i => partB (cornI i) S).map fun (i : Nat) => V.i .i64 (cornI i)) := by
  intro id I D h hN h0 round
  have hlen : (((List.range 6).filter fun i => partB (cornI i) S).map fun (i : Nat) => V.i .i64 (cornI i)).length = cntB (fun i => partB (cornI i) S) 6 := by simp [cntB]
  rw [hlen]
  refine co_call (I := fun j h => I (cntB (fun i => partB (cornI i) S) j) h) (Q := D) hf hp hn (fun i h hi => hN _ _ hi) (fun j h hj hB hI => ?_) (fun j h hj hB hI => ?_) (by simpa [cntB] using h0)
  · have h1 := filter_at (B := fun i => partB (cornI i) S) hj hB
    have h2 : cntB (fun i => partB (cornI i) S) j < (((List.range 6).filter fun i => partB (cornI i) S).map fun (i : Nat) => V.i .i64 (cornI i)).length := by
      rw [List.length_map]; exact (List.getElem?_eq_some_iff.1 h1).1
    obtain ⟨b, h', r1, r2, r3⟩ := round (cntB (fun i => partB (cornI i) S) j) h h2 hI
    refine ⟨b, h', ?_, fun e => by rw [cntB_succ, if_pos hB]; exact r2 e, r3⟩
    have h3 : (((List.range 6).filter fun i => partB (cornI i) S).map fun (i : Nat) => V.i .i64 (cornI i))[cntB (fun i => partB (cornI i) S) j] = .i .i64 (cornI j) := by
      rw [List.getElem_map, (List.getElem?_eq_some_iff.1 h1).2]
    rw [← h3]; exact r1
  · rw [cntB_succ, hB]; simpa using hI
theorem f82_ret {h : H} {x : Int} : Ret fs f82 [.i .i64 x] h fun u h' => u = .fn (K.ofNat 92) [.p h.nx 0] ∧ h' = h.new (.cells 1 [.i .i64 x]) := by
  apply ret_of rfl
  show W fs none f82_c _ _ _
  unfold f82_c
  have : cellsN 1 (.i .i64 x) = some [.i .i64 x] := rfl
  simp (disch := omega) only [f82_r0, f82_r1, f82_rs, w_reg, w_seq, w_ret, seqK_n, retK_r, x_nil, x_as, x_box, x_mkfn, kx, rvP_ok, ev_t, ev_c, evs_nil, evs_cons, getV_some, putD_some, oGet_s, readRs_nil, readRs_t, retV_1, frame_1, Option.some.injEq, exists_eq_left', getK_set, Nat.reduceEqDiff, ↓reduceIte, this, and_self]
noncomputable def cornN (x : Nat) : List Nat := ((List.range 6).filter fun i => partB (cornI i) (x : Int)).map fun i => 2 ^ i
theorem cornI_eq : ∀ i, i < 6 → cornI i = ((2 ^ i : Nat) : Int) := by decide
theorem cornN_ys {x : Nat} : (((List.range 6).filter fun i => partB (cornI i) (x : Int)).map fun (i : Nat) => V.i .i64 (cornI i)) = (cornN x).map nE := by
  unfold cornN
  rw [List.map_map]
  apply List.map_congr_left
  intro i hi
  rw [List.mem_filter, List.mem_range] at hi
  show V.i .i64 (cornI i) = V.i .i64 ((2 ^ i : Nat) : Int)
  rw [cornI_eq i hi.1]
def lessC (x c : Nat) : Nat := Nat.xor x (Nat.land x c)
noncomputable def bordX (x : Nat) : Nat := (cornN x).foldl (fun s c => s ^^^ 2 ^ lessC x c) 0
theorem less_lt : ∀ x, x < 64 → ∀ c ∈ cornN x, c ≤ 32 ∧ lessC x c ≤ 62 := by decide +kernel
theorem andNot_n {m n : Nat} (hm : m < 9223372036854775808) (hn : n < 9223372036854775808) : binV .andNot (.i .i64 (m : Int)) (.i .i64 (n : Int)) = some (.i .i64 (lessC m n : Int)) := by
  have : binV .andNot (.i .i64 (m : Int)) (.i .i64 (n : Int)) = some (.i .i64 (ibits (fun m n => Nat.xor m (Nat.land m n)) (fun _ x y => x &&& ~~~y) .i64 m n)) := rfl
  rw [this, ibits_nat (by show _ ≤ 9223372036854775807; omega) (by show _ ≤ 9223372036854775807; omega)]; rfl
structure BorI (b : Nat) (h : H) (id1 id3 idf idl : K) (x s : Nat) (lb : Blk) (h1 : H) : Prop where
  gr : Grow b h h1
  e1 : h1.get id1 = .cells 1 [nE x]
  e3 : h1.get id3 = .cells 1 [uE s]
  ef : h1.get idf = .cells 1 [nE x]
  el : h1.get idl = lb
  nx : idl.nat + 1 ≤ h1.nx.nat
  o1 : id1.nat < id3.nat
  o3 : id3.nat < idf.nat
  of : idf.nat < idl.nat
  ob : b ≤ id1.nat
section
variable {b : Nat} {h h1 : H} {id1 id3 idf idl : K} {x s s' : Nat} {lb : Blk}
theorem BorI.loop (t : BorI b h id1 id3 idf idl x s lb h1) (lb' : Blk) : BorI b h id1 id3 idf idl x s lb' (h1.put idl lb') := by
  have := t.nx; have := t.o1; have := t.o3; have := t.of; have := t.ob
  exact ⟨t.gr.trans (Grow.put (by omega) (by omega) _), by rw [get_put_other (kNe (by omega))]; exact t.e1, by rw [get_put_other (kNe (by omega))]; exact t.e3, by rw [get_put_other (kNe (by omega))]; exact t.ef, get_put_same, t.nx, t.o1, t.o3, t.of, t.ob⟩
theorem BorI.put (t : BorI b h id1 id3 idf idl x s lb h1) : BorI b h id1 id3 idf idl x s' lb (h1.put id3 (.cells 1 [uE s'])) := by
  have := t.nx; have := t.o1; have := t.o3; have := t.of; have := t.ob
  exact ⟨t.gr.trans (Grow.put (by omega) (by omega) _), by rw [get_put_other (kNe (by omega))]; exact t.e1, get_put_same, by rw [get_put_other (kNe (by omega)).symm]; exact t.ef, by rw [get_put_other (kNe (by omega)).symm]; exact t.el, t.nx, t.o1, t.o3, t.of, t.ob⟩
end
end
end Go.Ev
namespace Go.Ev
open Go Go.RowKit
noncomputable def f90_r0 : List EOper := [⟨(some (K.ofNat 2)), none, .box 1 (.t (K.ofNat 0))⟩, ⟨(some (K.ofNat 4)), none, .as (.c .sn)⟩]
noncomputable def f90_r1 : List EOper := [⟨(some (K.ofNat 6)), none, .mv (.t (K.ofNat 1))⟩]
noncomputable def f90_r2 : List EOper := [⟨(some (K.ofNat 5)), none, .as (.t (K.ofNat 7))⟩]
noncomputable def f90_a0 : EC := (.reg f90_r2)
noncomputable def f90_r3 : List EOper := [⟨(some (K.ofNat 8)), none, .ld (.t (K.ofNat 2))⟩, ⟨(some (K.ofNat 9)), none, .mv (.t (K.ofNat 5))⟩, ⟨(some (K.ofNat 10)), none, .bslice 1 1 [(.i .i64 (.ofNat 0))] [(0, 1, (.t (K.ofNat 9)))]⟩, ⟨(some (K.ofNat 11)), none, .app 1 (.t (K.ofNat 8)) (.t (K.ofNat 10))⟩, ⟨none, none, .st 1 (.t (K.ofNat 2)) (.t (K.ofNat 11))⟩]
noncomputable def f90_b0 : EC := (.block 1 (.reg f90_r3))
noncomputable def f90_r4 : List EOper := [⟨(some (K.ofNat 12)), none, .ld (.t (K.ofNat 2))⟩, ⟨(some (K.ofNat 4)), none, .as (.t (K.ofNat 12))⟩]
noncomputable def f90_c : EC := (.seq (.reg f90_r0) (.seq (.seq (.reg f90_r1) (.block 0 (.rangeF (.t (K.ofNat 6)) [(K.ofNat 7)] f90_a0 f90_b0))) (.seq (.reg f90_r4) .ret)))
noncomputable def f90 : EF := ⟨13, [.tmp (K.ofNat 4)], f90_c, none⟩
noncomputable def f77_r0 : List EOper := [⟨(some (K.ofNat 2)), none, .as (.c .sn)⟩]
noncomputable def f77_r1 : List EOper := [⟨(some (K.ofNat 3)), none, .mv (.t (K.ofNat 0))⟩, ⟨(some (K.ofNat 4)), none, .call (.c (.fn (K.ofNat 90) [])) [(.c .sn), (.t (K.ofNat 3))]⟩, ⟨(some (K.ofNat 2)), none, .as (.t (K.ofNat 4))⟩]
noncomputable def f77_c : EC := (.seq (.reg f77_r0) (.seq (.reg f77_r1) .ret))
noncomputable def f77 : EF := ⟨5, [.tmp (K.ofNat 2)], f77_c, none⟩
noncomputable def f56_r0 : List EOper := [⟨(some (K.ofNat 1)), none, .box 64 (.t (K.ofNat 0))⟩, ⟨(some (K.ofNat 2)), none, .as (.c .sn)⟩]
noncomputable def f56_r1 : List EOper := [⟨(some (K.ofNat 3)), none, .ldn 64 (.t (K.ofNat 1))⟩, ⟨(some (K.ofNat 4)), none, .call (.c (.fn (K.ofNat 78) [])) [(.t (K.ofNat 3))]⟩, ⟨(some (K.ofNat 5)), none, .call (.c (.fn (K.ofNat 77) [])) [(.t (K.ofNat 4))]⟩, ⟨(some (K.ofNat 2)), none, .as (.t (K.ofNat 5))⟩]
noncomputable def f56_c : EC := (.seq (.reg f56_r0) (.seq (.reg f56_r1) .ret))
noncomputable def f56 : EF := ⟨6, [.tmp (K.ofNat 2)], f56_c, none⟩
noncomputable def f17_r0 : List EOper := [⟨(some (K.ofNat 4)), none, .as (.c .sn)⟩, ⟨(some (K.ofNat 5)), none, .as (.c (.i .i64 (.ofNat 0)))⟩]
noncomputable def f17_r1 : List EOper := [⟨(some (K.ofNat 7)), none, .mv (.t (K.ofNat 0))⟩, ⟨(some (K.ofNat 8)), none, .mv (.t (K.ofNat 1))⟩, ⟨(some (K.ofNat 9)), none, .call (.c (.fn (K.ofNat 16) [])) [(.t (K.ofNat 7)), (.t (K.ofNat 8))]⟩, ⟨(some (K.ofNat 6)), none, .as (.t (K.ofNat 9))⟩]
noncomputable def f17_r2 : List EOper := [⟨(some (K.ofNat 10)), none, .mv (.t (K.ofNat 6))⟩, ⟨(some (K.ofNat 11)), none, .bin .neq (.t (K.ofNat 10)) (.c (.i .i64 (.ofNat 0)))⟩]
noncomputable def f17_r3 : List EOper := [⟨(some (K.ofNat 12)), none, .mv (.t (K.ofNat 6))⟩, ⟨(some (K.ofNat 4)), none, .as (.c .sn)⟩, ⟨(some (K.ofNat 5)), none, .as (.t (K.ofNat 12))⟩]
noncomputable def f17_r4 : List EOper := [⟨(some (K.ofNat 13)), none, .mv (.t (K.ofNat 1))⟩, ⟨(some (K.ofNat 14)), none, .call (.c (.fn (K.ofNat 55) [])) [(.t (K.ofNat 13))]⟩, ⟨(some (K.ofNat 15)), none, .call (.c (.fn (K.ofNat 56) [])) [(.t (K.ofNat 14))]⟩, ⟨(some (K.ofNat 4)), none, .as (.t (K.ofNat 15))⟩, ⟨(some (K.ofNat 5)), none, .as (.c (.i .i64 (.ofNat 0)))⟩]
noncomputable def f17_c : EC := (.seq (.reg f17_r0) (.seq (.seq (.reg f17_r1) (.seq (.reg f17_r2) (.cond (.t (K.ofNat 11)) (.seq (.reg f17_r3) .ret) .skip))) (.seq (.reg f17_r4) .ret)))
noncomputable def f17 : EF := ⟨16, [.tmp (K.ofNat 4), .tmp (K.ofNat 5)], f17_c, none⟩
section
variable {fs : T EF} {ro : Option K}
def memI (B : Nat → Bool) : List Int := (mem64 B).map fun (k : Nat) => (k : Int)
end
end Go.Ev
namespace Go.Ev
open Go Go.RowKit
noncomputable def f57_r0 : List EOper := [⟨(some (K.ofNat 1)), none, .box 64 (.t (K.ofNat 0))⟩, ⟨(some (K.ofNat 2)), none, .as (.c .sn)⟩]
noncomputable def f57_r1 : List EOper := [⟨(some (K.ofNat 3)), none, .alloc 1 [.sn]⟩]
noncomputable def f57_r2 : List EOper := [⟨(some (K.ofNat 6)), none, .ldn 64 (.t (K.ofNat 1))⟩, ⟨(some (K.ofNat 7)), none, .call (.c (.fn (K.ofNat 78) [])) [(.t (K.ofNat 6))]⟩]
noncomputable def f57_r3 : List EOper := [⟨(some (K.ofNat 4)), none, .as (.t (K.ofNat 8))⟩]
noncomputable def f57_a0 : EC := (.reg f57_r3)
noncomputable def f57_r4 : List EOper := [⟨(some (K.ofNat 9)), none, .mv (.t (K.ofNat 4))⟩, ⟨(some (K.ofNat 10)), none, .call (.c (.fn (K.ofNat 75) [])) [(.t (K.ofNat 9))]⟩, ⟨(some (K.ofNat 5)), none, .as (.t (K.ofNat 10))⟩]
noncomputable def f57_r5 : List EOper := [⟨(some (K.ofNat 11)), none, .ld (.t (K.ofNat 3))⟩, ⟨(some (K.ofNat 12)), none, .len (.t (K.ofNat 11))⟩, ⟨(some (K.ofNat 13)), none, .mv (.t (K.ofNat 5))⟩, ⟨(some (K.ofNat 14)), none, .bin .leq (.t (K.ofNat 12)) (.t (K.ofNat 13))⟩]
noncomputable def f57_r6 : List EOper := [⟨(some (K.ofNat 15)), none, .ld (.t (K.ofNat 3))⟩, ⟨(some (K.ofNat 16)), none, .bslice 1 1 [(.i .i64 (.ofNat 0))] [(0, 1, (.c (.i .i64 (.ofNat 0))))]⟩, ⟨(some (K.ofNat 17)), none, .app 1 (.t (K.ofNat 15)) (.t (K.ofNat 16))⟩, ⟨none, none, .st 1 (.t (K.ofNat 3)) (.t (K.ofNat 17))⟩]
noncomputable def f57_l0 : EC := (.seq (.seq (.reg f57_r5) (.cond (.t (K.ofNat 14)) .skip (.exit 2))) (.block 3 (.reg f57_r6)))
noncomputable def f57_r7 : List EOper := [⟨(some (K.ofNat 18)), none, .ld (.t (K.ofNat 3))⟩, ⟨(some (K.ofNat 19)), none, .mv (.t (K.ofNat 5))⟩, ⟨(some (K.ofNat 20)), none, .iads 1 (.t (K.ofNat 18)) (.t (K.ofNat 19))⟩, ⟨(some (K.ofNat 21)), none, .ld (.t (K.ofNat 20))⟩, ⟨(some (K.ofNat 22)), none, .bin .add (.t (K.ofNat 21)) (.c (.i .i64 (.ofNat 1)))⟩, ⟨(some (K.ofNat 23)), none, .iads 1 (.t (K.ofNat 18)) (.t (K.ofNat 19))⟩, ⟨none, none, .st 1 (.t (K.ofNat 23)) (.t (K.ofNat 22))⟩]
noncomputable def f57_b0 : EC := (.block 1 (.seq (.reg f57_r4) (.seq (.block 2 (.loop f57_l0)) (.reg f57_r7))))
noncomputable def f57_r8 : List EOper := [⟨(some (K.ofNat 24)), none, .ld (.t (K.ofNat 3))⟩, ⟨(some (K.ofNat 2)), none, .as (.t (K.ofNat 24))⟩]
noncomputable def f57_c : EC := (.seq (.reg f57_r0) (.seq (.reg f57_r1) (.seq (.seq (.reg f57_r2) (.block 0 (.rangeF (.t (K.ofNat 7)) [(K.ofNat 8)] f57_a0 f57_b0))) (.seq (.reg f57_r8) .ret))))
noncomputable def f57 : EF := ⟨25, [.tmp (K.ofNat 2)], f57_c, none⟩
noncomputable def f18_r0 : List EOper := [⟨(some (K.ofNat 4)), none, .as (.c .sn)⟩, ⟨(some (K.ofNat 5)), none, .as (.c (.i .i64 (.ofNat 0)))⟩]
noncomputable def f18_r1 : List EOper := [⟨(some (K.ofNat 7)), none, .mv (.t (K.ofNat 0))⟩, ⟨(some (K.ofNat 8)), none, .mv (.t (K.ofNat 1))⟩, ⟨(some (K.ofNat 9)), none, .call (.c (.fn (K.ofNat 16) [])) [(.t (K.ofNat 7)), (.t (K.ofNat 8))]⟩, ⟨(some (K.ofNat 6)), none, .as (.t (K.ofNat 9))⟩]
noncomputable def f18_r2 : List EOper := [⟨(some (K.ofNat 10)), none, .mv (.t (K.ofNat 6))⟩, ⟨(some (K.ofNat 11)), none, .bin .neq (.t (K.ofNat 10)) (.c (.i .i64 (.ofNat 0)))⟩]
noncomputable def f18_r3 : List EOper := [⟨(some (K.ofNat 12)), none, .mv (.t (K.ofNat 6))⟩, ⟨(some (K.ofNat 4)), none, .as (.c .sn)⟩, ⟨(some (K.ofNat 5)), none, .as (.t (K.ofNat 12))⟩]
noncomputable def f18_r4 : List EOper := [⟨(some (K.ofNat 13)), none, .mv (.t (K.ofNat 1))⟩, ⟨(some (K.ofNat 14)), none, .call (.c (.fn (K.ofNat 55) [])) [(.t (K.ofNat 13))]⟩, ⟨(some (K.ofNat 15)), none, .call (.c (.fn (K.ofNat 57) [])) [(.t (K.ofNat 14))]⟩, ⟨(some (K.ofNat 4)), none, .as (.t (K.ofNat 15))⟩, ⟨(some (K.ofNat 5)), none, .as (.c (.i .i64 (.ofNat 0)))⟩]
noncomputable def f18_c : EC := (.seq (.reg f18_r0) (.seq (.seq (.reg f18_r1) (.seq (.reg f18_r2) (.cond (.t (K.ofNat 11)) (.seq (.reg f18_r3) .ret) .skip))) (.seq (.reg f18_r4) .ret)))
noncomputable def f18 : EF := ⟨16, [.tmp (K.ofNat 4), .tmp (K.ofNat 5)], f18_c, none⟩
section
variable {fs : T EF} {ro : Option K}
theorem snoc_ind {α : Type} {P : List α → Prop} (h0 : P []) (h1 : ∀ l a, P l → P (l ++ [a])) (l : List α) : P l := by
  have : ∀ m : List α, P m.reverse := by
    intro m
    induction m with
    | nil => exact h0
    | cons a m ih => rw [List.reverse_cons]; exact h1 _ _ ih
  have h := this l.reverse
  rwa [List.reverse_reverse] at h
noncomputable def cpad (C : List Int) (m : Nat) : List Int := C ++ List.replicate (m + 1 - C.length) 0
noncomputable def cstep (C : List Int) (m : Nat) : List Int := (cpad C m).set m ((cpad C m).getD m 0 + 1)
noncomputable def cntS (l : List Nat) : List Int := l.foldl (fun C k => cstep C (pop6 k)) []
end
end Go.Ev
namespace Go.Ev
open Go Go.RowKit
noncomputable def f89_r0 : List EOper := [⟨(some (K.ofNat 2)), none, .box 64 (.t (K.ofNat 0))⟩, ⟨(some (K.ofNat 3)), none, .box 1 (.t (K.ofNat 1))⟩, ⟨(some (K.ofNat 4)), none, .as (.c (.i .i64 (.ofNat 0)))⟩]
noncomputable def f89_r1 : List EOper := [⟨(some (K.ofNat 5)), none, .alloc 1 [.sn]⟩]
noncomputable def f89_r2 : List EOper := [⟨(some (K.ofNat 7)), none, .ldn 64 (.t (K.ofNat 2))⟩, ⟨(some (K.ofNat 8)), none, .call (.c (.fn (K.ofNat 78) [])) [(.t (K.ofNat 7))]⟩]
noncomputable def f89_r3 : List EOper := [⟨(some (K.ofNat 6)), none, .as (.t (K.ofNat 9))⟩]
noncomputable def f89_a0 : EC := (.reg f89_r3)
noncomputable def f89_r4 : List Stage := [⟨[⟨(some (K.ofNat 10)), none, .mv (.t (K.ofNat 6))⟩, ⟨(some (K.ofNat 12)), none, .ld (.t (K.ofNat 3))⟩], [], (some ⟨(some (K.ofNat 11)), none, .call (.c (.fn (K.ofNat 75) [])) [(.t (K.ofNat 10))]⟩), []⟩, ⟨[⟨(some (K.ofNat 13)), none, .bin .eql (.t (K.ofNat 11)) (.t (K.ofNat 12))⟩], [⟨(some (K.ofNat 12)), none, .ld (.t (K.ofNat 3))⟩], none, []⟩]
noncomputable def f89_r5 : List Stage := [⟨[⟨(some (K.ofNat 14)), none, .ld (.t (K.ofNat 5))⟩, ⟨(some (K.ofNat 15)), none, .mv (.t (K.ofNat 6))⟩], [], (some ⟨(some (K.ofNat 16)), none, .call (.c (.fn (K.ofNat 93) [])) [(.t (K.ofNat 15))]⟩), []⟩, ⟨[⟨(some (K.ofNat 17)), none, .bslice 1 1 [(.i .u64 (.ofNat 0))] [(0, 1, (.t (K.ofNat 16)))]⟩], [⟨(some (K.ofNat 14)), none, .ld (.t (K.ofNat 5))⟩], (some ⟨(some (K.ofNat 18)), none, .app 1 (.t (K.ofNat 14)) (.t (K.ofNat 17))⟩), [(K.ofNat 17)]⟩, ⟨[], [], (some ⟨none, none, .st 1 (.t (K.ofNat 5)) (.t (K.ofNat 18))⟩), []⟩, ⟨[], [], none, []⟩]
noncomputable def f89_b0 : EC := (.block 1 (.seq (.draw f89_r4) (.cond (.t (K.ofNat 13)) (.draw f89_r5) .skip)))
noncomputable def f89_r6 : List EOper := [⟨(some (K.ofNat 19)), none, .ld (.t (K.ofNat 5))⟩, ⟨(some (K.ofNat 20)), none, .call (.c (.fn (K.ofNat 94) [])) [(.t (K.ofNat 19))]⟩, ⟨(some (K.ofNat 4)), none, .as (.t (K.ofNat 20))⟩]
noncomputable def f89_c : EC := (.seq (.reg f89_r0) (.seq (.reg f89_r1) (.seq (.seq (.reg f89_r2) (.block 0 (.rangeF (.t (K.ofNat 8)) [(K.ofNat 9)] f89_a0 f89_b0))) (.seq (.reg f89_r6) .ret))))
noncomputable def f89 : EF := ⟨21, [.tmp (K.ofNat 4)], f89_c, none⟩
section
variable {fs : T EF} {ro : Option K}
noncomputable def rowsOf (l : List Nat) (k : Nat) : List Nat := (l.filter fun x => decide (pop6 x = k)).map bordX
/-- The rank of the borders of the faces of this size. -/
noncomputable def brS (B : Nat → Bool) (k : Nat) : Nat := rankS (rowsOf (mem64 B) k)
end
end Go.Ev
namespace Go.Ev
open Go Go.RowKit
noncomputable def f64_r0 : List EOper := [⟨(some (K.ofNat 1)), none, .box 64 (.t (K.ofNat 0))⟩, ⟨(some (K.ofNat 2)), none, .as (.c .sn)⟩]
noncomputable def f64_r1 : List EOper := [⟨(some (K.ofNat 6)), none, .ldn 64 (.t (K.ofNat 1))⟩, ⟨(some (K.ofNat 7)), none, .call (.c (.fn (K.ofNat 57) [])) [(.t (K.ofNat 6))]⟩, ⟨(some (K.ofNat 3)), none, .as (.t (K.ofNat 7))⟩]
noncomputable def f64_r2 : List EOper := [⟨(some (K.ofNat 8)), none, .mv (.t (K.ofNat 3))⟩, ⟨(some (K.ofNat 9)), none, .len (.t (K.ofNat 8))⟩, ⟨(some (K.ofNat 10)), none, .bin .sub (.t (K.ofNat 9)) (.c (.i .i64 (.ofNat 1)))⟩, ⟨(some (K.ofNat 11)), none, .mkslice 1 [(.i .i64 (.ofNat 0))] (.t (K.ofNat 10))⟩, ⟨(some (K.ofNat 4)), none, .as (.t (K.ofNat 11))⟩]
noncomputable def f64_r3 : List EOper := [⟨(some (K.ofNat 12)), none, .mv (.t (K.ofNat 4))⟩, ⟨(some (K.ofNat 13)), none, .len (.t (K.ofNat 12))⟩, ⟨(some (K.ofNat 14)), none, .mv (.c (.i .i64 (.ofNat 0)))⟩]
noncomputable def f64_r4 : List EOper := [⟨(some (K.ofNat 15)), none, .bin .lss (.t (K.ofNat 14)) (.t (K.ofNat 13))⟩]
noncomputable def f64_r5 : List EOper := [⟨(some (K.ofNat 16)), none, .mv (.t (K.ofNat 14))⟩, ⟨(some (K.ofNat 5)), none, .as (.t (K.ofNat 16))⟩]
noncomputable def f64_r6 : List Stage := [⟨[⟨(some (K.ofNat 17)), none, .mv (.t (K.ofNat 4))⟩, ⟨(some (K.ofNat 18)), none, .mv (.t (K.ofNat 5))⟩, ⟨(some (K.ofNat 19)), none, .mv (.t (K.ofNat 3))⟩, ⟨(some (K.ofNat 20)), none, .mv (.t (K.ofNat 5))⟩, ⟨(some (K.ofNat 21)), none, .bin .add (.t (K.ofNat 20)) (.c (.i .i64 (.ofNat 1)))⟩, ⟨(some (K.ofNat 22)), none, .iads 1 (.t (K.ofNat 19)) (.t (K.ofNat 21))⟩, ⟨(some (K.ofNat 23)), none, .ld (.t (K.ofNat 22))⟩, ⟨(some (K.ofNat 24)), none, .ldn 64 (.t (K.ofNat 1))⟩, ⟨(some (K.ofNat 25)), none, .mv (.t (K.ofNat 5))⟩, ⟨(some (K.ofNat 26)), none, .bin .add (.t (K.ofNat 25)) (.c (.i .i64 (.ofNat 1)))⟩, ⟨(some (K.ofNat 29)), none, .ldn 64 (.t (K.ofNat 1))⟩, ⟨(some (K.ofNat 30)), none, .mv (.t (K.ofNat 5))⟩, ⟨(some (K.ofNat 31)), none, .bin .add (.t (K.ofNat 30)) (.c (.i .i64 (.ofNat 2)))⟩], [], (some ⟨(some (K.ofNat 27)), none, .call (.c (.fn (K.ofNat 89) [])) [(.t (K.ofNat 24)), (.t (K.ofNat 26))]⟩), []⟩, ⟨[⟨(some (K.ofNat 28)), none, .bin .sub (.t (K.ofNat 23)) (.t (K.ofNat 27))⟩], [⟨(some (K.ofNat 17)), none, .mv (.t (K.ofNat 4))⟩, ⟨(some (K.ofNat 18)), none, .mv (.t (K.ofNat 5))⟩, ⟨(some (K.ofNat 19)), none, .mv (.t (K.ofNat 3))⟩, ⟨(some (K.ofNat 20)), none, .mv (.t (K.ofNat 5))⟩, ⟨(some (K.ofNat 21)), none, .bin .add (.t (K.ofNat 20)) (.c (.i .i64 (.ofNat 1)))⟩, ⟨(some (K.ofNat 22)), none, .iads 1 (.t (K.ofNat 19)) (.t (K.ofNat 21))⟩, ⟨(some (K.ofNat 23)), none, .ld (.t (K.ofNat 22))⟩, ⟨(some (K.ofNat 29)), none, .ldn 64 (.t (K.ofNat 1))⟩, ⟨(some (K.ofNat 30)), none, .mv (.t (K.ofNat 5))⟩, ⟨(some (K.ofNat 31)), none, .bin .add (.t (K.ofNat 30)) (.c (.i .i64 (.ofNat 2)))⟩], (some ⟨(some (K.ofNat 32)), none, .call (.c (.fn (K.ofNat 89) [])) [(.t (K.ofNat 29)), (.t (K.ofNat 31))]⟩), []⟩, ⟨[⟨(some (K.ofNat 33)), none, .bin .sub (.t (K.ofNat 28)) (.t (K.ofNat 32))⟩, ⟨(some (K.ofNat 34)), none, .iads 1 (.t (K.ofNat 17)) (.t (K.ofNat 18))⟩], [⟨(some (K.ofNat 17)), none, .mv (.t (K.ofNat 4))⟩, ⟨(some (K.ofNat 18)), none, .mv (.t (K.ofNat 5))⟩, ⟨(some (K.ofNat 19)), none, .mv (.t (K.ofNat 3))⟩, ⟨(some (K.ofNat 20)), none, .mv (.t (K.ofNat 5))⟩, ⟨(some (K.ofNat 21)), none, .bin .add (.t (K.ofNat 20)) (.c (.i .i64 (.ofNat 1)))⟩, ⟨(some (K.ofNat 22)), none, .iads 1 (.t (K.ofNat 19)) (.t (K.ofNat 21))⟩, ⟨(some (K.ofNat 23)), none, .ld (.t (K.ofNat 22))⟩, ⟨(some (K.ofNat 28)), none, .bin .sub (.t (K.ofNat 23)) (.t (K.ofNat 27))⟩], (some ⟨none, none, .st 1 (.t (K.ofNat 34)) (.t (K.ofNat 33))⟩), []⟩, ⟨[], [], none, []⟩]
noncomputable def f64_r7 : List EOper := [⟨(some (K.ofNat 35)), none, .bin .add (.t (K.ofNat 14)) (.c (.i .i64 (.ofNat 1)))⟩, ⟨(some (K.ofNat 14)), none, .mv (.t (K.ofNat 35))⟩]
noncomputable def f64_l0 : EC := (.seq (.reg f64_r4) (.seq (.cond (.t (K.ofNat 15)) .skip (.exit 0)) (.seq (.block 1 (.seq (.reg f64_r5) (.draw f64_r6))) (.reg f64_r7))))
noncomputable def f64_r8 : List EOper := [⟨(some (K.ofNat 36)), none, .mv (.t (K.ofNat 4))⟩, ⟨(some (K.ofNat 2)), none, .as (.t (K.ofNat 36))⟩]
noncomputable def f64_c : EC := (.seq (.reg f64_r0) (.seq (.reg f64_r1) (.seq (.reg f64_r2) (.seq (.seq (.reg f64_r3) (.block 0 (.loop f64_l0))) (.seq (.reg f64_r8) .ret)))))
noncomputable def f64 : EF := ⟨37, [.tmp (K.ofNat 2)], f64_c, none⟩
noncomputable def f26_r0 : List EOper := [⟨(some (K.ofNat 4)), none, .as (.c .sn)⟩, ⟨(some (K.ofNat 5)), none, .as (.c (.i .i64 (.ofNat 0)))⟩]
noncomputable def f26_r1 : List EOper := [⟨(some (K.ofNat 7)), none, .mv (.t (K.ofNat 0))⟩, ⟨(some (K.ofNat 8)), none, .mv (.t (K.ofNat 1))⟩, ⟨(some (K.ofNat 9)), none, .call (.c (.fn (K.ofNat 16) [])) [(.t (K.ofNat 7)), (.t (K.ofNat 8))]⟩, ⟨(some (K.ofNat 6)), none, .as (.t (K.ofNat 9))⟩]
noncomputable def f26_r2 : List EOper := [⟨(some (K.ofNat 10)), none, .mv (.t (K.ofNat 6))⟩, ⟨(some (K.ofNat 11)), none, .bin .neq (.t (K.ofNat 10)) (.c (.i .i64 (.ofNat 0)))⟩]
noncomputable def f26_r3 : List EOper := [⟨(some (K.ofNat 12)), none, .mv (.t (K.ofNat 6))⟩, ⟨(some (K.ofNat 4)), none, .as (.c .sn)⟩, ⟨(some (K.ofNat 5)), none, .as (.t (K.ofNat 12))⟩]
noncomputable def f26_r4 : List EOper := [⟨(some (K.ofNat 13)), none, .mv (.t (K.ofNat 1))⟩, ⟨(some (K.ofNat 14)), none, .call (.c (.fn (K.ofNat 55) [])) [(.t (K.ofNat 13))]⟩, ⟨(some (K.ofNat 15)), none, .call (.c (.fn (K.ofNat 64) [])) [(.t (K.ofNat 14))]⟩, ⟨(some (K.ofNat 4)), none, .as (.t (K.ofNat 15))⟩, ⟨(some (K.ofNat 5)), none, .as (.c (.i .i64 (.ofNat 0)))⟩]
noncomputable def f26_c : EC := (.seq (.reg f26_r0) (.seq (.seq (.reg f26_r1) (.seq (.reg f26_r2) (.cond (.t (K.ofNat 11)) (.seq (.reg f26_r3) .ret) .skip))) (.seq (.reg f26_r4) .ret)))
noncomputable def f26 : EF := ⟨16, [.tmp (K.ofNat 4), .tmp (K.ofNat 5)], f26_c, none⟩
section
variable {fs : T EF} {ro : Option K}
noncomputable def hvS (C : List Int) (B : Nat → Bool) (t : Nat) : Int := fw .i64 (fw .i64 (C.getD (t + 1) 0 - (brS B (t + 1) : Int)) - (brS B (t + 2) : Int))
noncomputable def hollS (C : List Int) (B : Nat → Bool) : List Int := (List.range (C.length - 1)).map (hvS C B)
end
end Go.Ev
namespace Go.Ev
open Go Go.RowKit
noncomputable def f19_r0 : List EOper := [⟨(some (K.ofNat 4)), none, .as (.c .sn)⟩, ⟨(some (K.ofNat 5)), none, .as (.c (.i .i64 (.ofNat 0)))⟩]
noncomputable def f19_r1 : List EOper := [⟨(some (K.ofNat 10)), none, .mv (.t (K.ofNat 0))⟩, ⟨(some (K.ofNat 11)), none, .mv (.t (K.ofNat 1))⟩, ⟨(some (K.ofNat 12)), none, .call (.c (.fn (K.ofNat 16) [])) [(.t (K.ofNat 10)), (.t (K.ofNat 11))]⟩, ⟨(some (K.ofNat 6)), none, .as (.t (K.ofNat 12))⟩]
noncomputable def f19_r2 : List EOper := [⟨(some (K.ofNat 13)), none, .mv (.t (K.ofNat 6))⟩, ⟨(some (K.ofNat 14)), none, .bin .neq (.t (K.ofNat 13)) (.c (.i .i64 (.ofNat 0)))⟩]
noncomputable def f19_r3 : List EOper := [⟨(some (K.ofNat 15)), none, .mv (.t (K.ofNat 6))⟩, ⟨(some (K.ofNat 4)), none, .as (.c .sn)⟩, ⟨(some (K.ofNat 5)), none, .as (.t (K.ofNat 15))⟩]
noncomputable def f19_r4 : List EOper := [⟨(some (K.ofNat 16)), none, .mv (.t (K.ofNat 1))⟩, ⟨(some (K.ofNat 17)), none, .call (.c (.fn (K.ofNat 55) [])) [(.t (K.ofNat 16))]⟩, ⟨(some (K.ofNat 18)), none, .call (.c (.fn (K.ofNat 57) [])) [(.t (K.ofNat 17))]⟩, ⟨(some (K.ofNat 7)), none, .as (.t (K.ofNat 18))⟩]
noncomputable def f19_r5 : List EOper := [⟨(some (K.ofNat 19)), none, .mv (.t (K.ofNat 7))⟩, ⟨(some (K.ofNat 20)), none, .len (.t (K.ofNat 19))⟩, ⟨(some (K.ofNat 21)), none, .mv (.c (.i .i64 (.ofNat 0)))⟩]
noncomputable def f19_r6 : List EOper := [⟨(some (K.ofNat 22)), none, .bin .lss (.t (K.ofNat 21)) (.t (K.ofNat 20))⟩]
noncomputable def f19_r7 : List EOper := [⟨(some (K.ofNat 23)), none, .mv (.t (K.ofNat 21))⟩, ⟨(some (K.ofNat 8)), none, .as (.t (K.ofNat 23))⟩]
noncomputable def f19_r8 : List EOper := [⟨(some (K.ofNat 24)), none, .mv (.t (K.ofNat 8))⟩, ⟨(some (K.ofNat 9)), none, .as (.t (K.ofNat 24))⟩]
noncomputable def f19_r9 : List EOper := [⟨(some (K.ofNat 25)), none, .mv (.t (K.ofNat 9))⟩, ⟨(some (K.ofNat 26)), none, .bin .gtr (.t (K.ofNat 25)) (.c (.i .i64 (.ofNat 0)))⟩]
noncomputable def f19_r10 : List Stage := [⟨[⟨(some (K.ofNat 29)), none, .mv (.t (K.ofNat 7))⟩, ⟨(some (K.ofNat 30)), none, .mv (.t (K.ofNat 9))⟩, ⟨(some (K.ofNat 31)), none, .iads 1 (.t (K.ofNat 29)) (.t (K.ofNat 30))⟩, ⟨(some (K.ofNat 32)), none, .ld (.t (K.ofNat 31))⟩, ⟨(some (K.ofNat 33)), none, .mv (.t (K.ofNat 7))⟩, ⟨(some (K.ofNat 34)), none, .mv (.t (K.ofNat 9))⟩, ⟨(some (K.ofNat 35)), none, .bin .sub (.t (K.ofNat 34)) (.c (.i .i64 (.ofNat 1)))⟩, ⟨(some (K.ofNat 36)), none, .iads 1 (.t (K.ofNat 33)) (.t (K.ofNat 35))⟩, ⟨(some (K.ofNat 37)), none, .ld (.t (K.ofNat 36))⟩, ⟨(some (K.ofNat 38)), none, .bin .sub (.t (K.ofNat 32)) (.t (K.ofNat 37))⟩, ⟨(some (K.ofNat 39)), none, .iads 1 (.t (K.ofNat 29)) (.t (K.ofNat 30))⟩], [], (some ⟨none, none, .st 1 (.t (K.ofNat 39)) (.t (K.ofNat 38))⟩), []⟩, ⟨[], [], none, []⟩]
noncomputable def f19_r11 : List EOper := [⟨(some (K.ofNat 27)), none, .mv (.t (K.ofNat 9))⟩, ⟨(some (K.ofNat 28)), none, .bin .sub (.t (K.ofNat 27)) (.c (.i .i64 (.ofNat 1)))⟩, ⟨(some (K.ofNat 9)), none, .as (.t (K.ofNat 28))⟩]
noncomputable def f19_l0 : EC := (.seq (.seq (.reg f19_r9) (.cond (.t (K.ofNat 26)) .skip (.exit 2))) (.seq (.block 3 (.draw f19_r10)) (.reg f19_r11)))
noncomputable def f19_r12 : List EOper := [⟨(some (K.ofNat 40)), none, .bin .add (.t (K.ofNat 21)) (.c (.i .i64 (.ofNat 1)))⟩, ⟨(some (K.ofNat 21)), none, .mv (.t (K.ofNat 40))⟩]
noncomputable def f19_l1 : EC := (.seq (.reg f19_r6) (.seq (.cond (.t (K.ofNat 22)) .skip (.exit 0)) (.seq (.block 1 (.seq (.reg f19_r7) (.seq (.reg f19_r8) (.block 2 (.loop f19_l0))))) (.reg f19_r12))))
noncomputable def f19_r13 : List EOper := [⟨(some (K.ofNat 41)), none, .mv (.t (K.ofNat 7))⟩, ⟨(some (K.ofNat 4)), none, .as (.t (K.ofNat 41))⟩, ⟨(some (K.ofNat 5)), none, .as (.c (.i .i64 (.ofNat 0)))⟩]
noncomputable def f19_c : EC := (.seq (.reg f19_r0) (.seq (.seq (.reg f19_r1) (.seq (.reg f19_r2) (.cond (.t (K.ofNat 14)) (.seq (.reg f19_r3) .ret) .skip))) (.seq (.reg f19_r4) (.seq (.seq (.reg f19_r5) (.block 0 (.loop f19_l1))) (.seq (.reg f19_r13) .ret)))))
noncomputable def f19 : EF := ⟨42, [.tmp (K.ofNat 4), .tmp (K.ofNat 5)], f19_c, none⟩
noncomputable def f20_r0 : List EOper := [⟨(some (K.ofNat 4)), none, .as (.c (.i .i64 (.ofNat 0)))⟩, ⟨(some (K.ofNat 5)), none, .as (.c (.i .i64 (.ofNat 0)))⟩]
noncomputable def f20_r1 : List EOper := [⟨(some (K.ofNat 11)), none, .mv (.t (K.ofNat 0))⟩, ⟨(some (K.ofNat 12)), none, .mv (.t (K.ofNat 1))⟩, ⟨(some (K.ofNat 13)), none, .call (.c (.fn (K.ofNat 16) [])) [(.t (K.ofNat 11)), (.t (K.ofNat 12))]⟩, ⟨(some (K.ofNat 6)), none, .as (.t (K.ofNat 13))⟩]
noncomputable def f20_r2 : List EOper := [⟨(some (K.ofNat 14)), none, .mv (.t (K.ofNat 6))⟩, ⟨(some (K.ofNat 15)), none, .bin .neq (.t (K.ofNat 14)) (.c (.i .i64 (.ofNat 0)))⟩]
noncomputable def f20_r3 : List EOper := [⟨(some (K.ofNat 16)), none, .mv (.t (K.ofNat 6))⟩, ⟨(some (K.ofNat 4)), none, .as (.c (.i .i64 (.ofNat 0)))⟩, ⟨(some (K.ofNat 5)), none, .as (.t (K.ofNat 16))⟩]
noncomputable def f20_r4 : List EOper := [⟨(some (K.ofNat 7)), none, .as (.c (.i .i64 (.ofNat 0)))⟩, ⟨(some (K.ofNat 8)), none, .as (.c (.i .i64 (.ofNat 1)))⟩]
noncomputable def f20_r5 : List EOper := [⟨(some (K.ofNat 17)), none, .mv (.t (K.ofNat 1))⟩, ⟨(some (K.ofNat 18)), none, .call (.c (.fn (K.ofNat 55) [])) [(.t (K.ofNat 17))]⟩, ⟨(some (K.ofNat 19)), none, .call (.c (.fn (K.ofNat 57) [])) [(.t (K.ofNat 18))]⟩, ⟨(some (K.ofNat 20)), none, .slice 1 (.t (K.ofNat 19)) (some (.c (.i .i64 (.ofNat 1)))) none none⟩, ⟨(some (K.ofNat 21)), none, .len (.t (K.ofNat 20))⟩, ⟨(some (K.ofNat 22)), none, .mv (.c (.i .i64 (.ofNat 0)))⟩]
noncomputable def f20_r6 : List EOper := [⟨(some (K.ofNat 23)), none, .bin .lss (.t (K.ofNat 22)) (.t (K.ofNat 21))⟩]
noncomputable def f20_r7 : List EOper := [⟨(some (K.ofNat 24)), none, .iads 1 (.t (K.ofNat 20)) (.t (K.ofNat 22))⟩, ⟨(some (K.ofNat 25)), none, .ld (.t (K.ofNat 24))⟩, ⟨(some (K.ofNat 10)), none, .as (.t (K.ofNat 25))⟩]
noncomputable def f20_r8 : List EOper := [⟨(some (K.ofNat 26)), none, .mv (.t (K.ofNat 7))⟩, ⟨(some (K.ofNat 27)), none, .mv (.t (K.ofNat 8))⟩, ⟨(some (K.ofNat 28)), none, .mv (.t (K.ofNat 10))⟩, ⟨(some (K.ofNat 29)), none, .bin .mul (.t (K.ofNat 27)) (.t (K.ofNat 28))⟩, ⟨(some (K.ofNat 30)), none, .bin .add (.t (K.ofNat 26)) (.t (K.ofNat 29))⟩, ⟨(some (K.ofNat 7)), none, .as (.t (K.ofNat 30))⟩]
noncomputable def f20_r9 : List EOper := [⟨(some (K.ofNat 31)), none, .mv (.t (K.ofNat 8))⟩, ⟨(some (K.ofNat 32)), none, .neg (.t (K.ofNat 31))⟩, ⟨(some (K.ofNat 8)), none, .as (.t (K.ofNat 32))⟩]
noncomputable def f20_r10 : List EOper := [⟨(some (K.ofNat 33)), none, .bin .add (.t (K.ofNat 22)) (.c (.i .i64 (.ofNat 1)))⟩, ⟨(some (K.ofNat 22)), none, .mv (.t (K.ofNat 33))⟩]
noncomputable def f20_l0 : EC := (.seq (.reg f20_r6) (.seq (.cond (.t (K.ofNat 23)) .skip (.exit 0)) (.seq (.block 1 (.seq (.reg f20_r7) (.seq (.reg f20_r8) (.reg f20_r9)))) (.reg f20_r10))))
noncomputable def f20_r11 : List EOper := [⟨(some (K.ofNat 34)), none, .mv (.t (K.ofNat 7))⟩, ⟨(some (K.ofNat 4)), none, .as (.t (K.ofNat 34))⟩, ⟨(some (K.ofNat 5)), none, .as (.c (.i .i64 (.ofNat 0)))⟩]
noncomputable def f20_c : EC := (.seq (.reg f20_r0) (.seq (.seq (.reg f20_r1) (.seq (.reg f20_r2) (.cond (.t (K.ofNat 15)) (.seq (.reg f20_r3) .ret) .skip))) (.seq (.reg f20_r4) (.seq (.seq (.reg f20_r5) (.block 0 (.loop f20_l0))) (.seq (.reg f20_r11) .ret)))))
noncomputable def f20 : EF := ⟨35, [.tmp (K.ofNat 4), .tmp (K.ofNat 5)], f20_c, none⟩
section
variable {fs : T EF} {ro : Option K}
noncomputable def innerS : List Int → Nat → List Int
  | L, 0 => L
  | L, i + 1 => innerS (L.set (i + 1) (fw .i64 (L.getD (i + 1) 0 - L.getD i 0))) i
noncomputable def hsTo (L : List Int) (i : Nat) : List Int := (List.range i).foldl innerS L
noncomputable def hsS (L : List Int) : List Int := hsTo L L.length
/-- The sum with signs. -/
noncomputable def euS : List Int → Int → Int → Int
  | [], sum, _ => sum
  | x :: l, sum, sign => euS l (fw .i64 (sum + fw .i64 (sign * x))) (fw .i64 (isub 0 sign))
end
end Go.Ev
namespace Go.Ev
open Go Go.RowKit
section
variable {fs : T EF} {ro : Option K} {momL : Int → Int → List Int}
structure Made9 : Prop where
  m4 : ∀ n S, badMade n S = false → anyPos S = false → madeS n S = ([], 4)
  m8 : ∀ n S, badMade n S = false → anyPos S = true → madeS n S = if 10 < (piecesTo S 64).length then ([], 8) else (piecesTo S 64, 0)
end
end Go.Ev
namespace Go.Ev
open Go Go.RowKit
theorem xor_zero {a b : Nat} : a ^^^ b = 0 ↔ a = b := by
  constructor
  · intro h
    apply Nat.eq_of_testBit_eq
    intro i
    have := congrArg (fun n => Nat.testBit n i) h
    simp only [Nat.testBit_xor, Nat.zero_testBit] at this
    cases h1 : a.testBit i <;> cases h2 : b.testBit i <;> simp_all
  · rintro rfl; exact Nat.xor_self a
theorem ptI_nat {a b : Nat} (ha : a < 64) (hb : b < 64) : ptI (a : Int) (b : Int) = decide (a &&& b = a) := by
  unfold ptI
  rw [ibits_nat (by show a ≤ 9223372036854775807; omega) (by show b ≤ 9223372036854775807; omega), ieq_eq]
  have : (((Nat.xor a (Nat.land a b) : Nat) : Int) == Int.ofNat 0) = decide (a ^^^ (a &&& b) = 0) := by
    show ((((a ^^^ (a &&& b)) : Nat) : Int) == ((0 : Nat) : Int)) = _
    by_cases h : a ^^^ (a &&& b) = 0 <;> simp [h]
  rw [this]
  by_cases h : a &&& b = a
  · rw [decide_eq_true h, decide_eq_true (xor_zero.2 h.symm)]
  · rw [decide_eq_false h, decide_eq_false (fun e => h (xor_zero.1 e).symm)]
theorem sub_le {a b : Nat} (h : a &&& b = a) : a ≤ b := by rw [← h]; exact Nat.and_le_right
theorem sub_trans {a b c : Nat} (h1 : a &&& b = a) (h2 : b &&& c = b) : a &&& c = a := by
  rw [← h1, Nat.and_assoc, h2]
/-- All are sets of six corners. -/
def Sets (S : List Int) : Prop := ∀ s ∈ S, ∃ t : Nat, t < 64 ∧ s = (t : Int)
/-- A greatest number. -/
theorem exists_max : ∀ (S : List Int), S ≠ [] → ∃ m ∈ S, ∀ s ∈ S, s ≤ m
  | [], h => absurd rfl h
  | [x], _ => ⟨x, by simp, by simp⟩
  | x :: y :: l, _ => by
    obtain ⟨m, hm, h⟩ := exists_max (y :: l) (by simp)
    by_cases e : m ≤ x
    · exact ⟨x, by simp, fun s hs => by
        rcases List.mem_cons.1 hs with rfl | h1
        · exact Int.le_refl _
        · exact Int.le_trans (h s h1) e⟩
    · exact ⟨m, List.mem_cons_of_mem _ hm, fun s hs => by
        rcases List.mem_cons.1 hs with rfl | h1
        · omega
        · exact h s h1⟩
end Go.Ev
namespace Go.Ev
open Go Go.RowKit
noncomputable def f45_r0 : List EOper := [⟨(some (K.ofNat 4)), none, .as (.c (.b false))⟩]
noncomputable def f45_r1 : List EOper := [⟨(some (K.ofNat 5)), none, .as (.c (.i .i64 (.ofNat 0)))⟩]
noncomputable def f45_r2 : List EOper := [⟨(some (K.ofNat 6)), none, .mv (.t (K.ofNat 5))⟩, ⟨(some (K.ofNat 7)), none, .mv (.t (K.ofNat 0))⟩, ⟨(some (K.ofNat 8)), none, .len (.t (K.ofNat 7))⟩, ⟨(some (K.ofNat 9)), none, .bin .lss (.t (K.ofNat 6)) (.t (K.ofNat 8))⟩]
noncomputable def f45_r3 : List EOper := [⟨(some (K.ofNat 12)), none, .mv (.t (K.ofNat 1))⟩, ⟨(some (K.ofNat 13)), none, .mv (.t (K.ofNat 0))⟩, ⟨(some (K.ofNat 14)), none, .mv (.t (K.ofNat 5))⟩, ⟨(some (K.ofNat 15)), none, .iads 1 (.t (K.ofNat 13)) (.t (K.ofNat 14))⟩, ⟨(some (K.ofNat 16)), none, .ld (.t (K.ofNat 15))⟩, ⟨(some (K.ofNat 17)), none, .call (.c (.fn (K.ofNat 53) [])) [(.t (K.ofNat 12)), (.t (K.ofNat 16))]⟩]
noncomputable def f45_r4 : List EOper := [⟨(some (K.ofNat 4)), none, .as (.c (.b true))⟩]
noncomputable def f45_r5 : List EOper := [⟨(some (K.ofNat 10)), none, .mv (.t (K.ofNat 5))⟩, ⟨(some (K.ofNat 11)), none, .bin .add (.t (K.ofNat 10)) (.c (.i .i64 (.ofNat 1)))⟩, ⟨(some (K.ofNat 5)), none, .as (.t (K.ofNat 11))⟩]
noncomputable def f45_l0 : EC := (.seq (.seq (.reg f45_r2) (.cond (.t (K.ofNat 9)) .skip (.exit 0))) (.seq (.block 1 (.seq (.reg f45_r3) (.cond (.t (K.ofNat 17)) (.seq (.reg f45_r4) .ret) .skip))) (.reg f45_r5)))
noncomputable def f45_r6 : List EOper := [⟨(some (K.ofNat 4)), none, .as (.c (.b false))⟩]
noncomputable def f45_c : EC := (.seq (.reg f45_r0) (.seq (.seq (.reg f45_r1) (.block 0 (.loop f45_l0))) (.seq (.reg f45_r6) .ret)))
noncomputable def f45 : EF := ⟨18, [.tmp (K.ofNat 4)], f45_c, none⟩
noncomputable def f33_r0 : List EOper := [⟨(some (K.ofNat 4)), none, .as (.c .sn)⟩]
noncomputable def f33_r1 : List EOper := [⟨(some (K.ofNat 5)), none, .as (.c .sn)⟩]
noncomputable def f33_r2 : List EOper := [⟨(some (K.ofNat 6)), none, .as (.c (.i .i64 (.ofNat 0)))⟩]
noncomputable def f33_r3 : List EOper := [⟨(some (K.ofNat 7)), none, .mv (.t (K.ofNat 6))⟩, ⟨(some (K.ofNat 8)), none, .mv (.t (K.ofNat 0))⟩, ⟨(some (K.ofNat 9)), none, .bin .shl (.c (.i .i64 (.ofNat 1))) (.t (K.ofNat 8))⟩, ⟨(some (K.ofNat 10)), none, .bin .lss (.t (K.ofNat 7)) (.t (K.ofNat 9))⟩]
noncomputable def f33_r4 : List EOper := [⟨(some (K.ofNat 13)), none, .mv (.t (K.ofNat 1))⟩, ⟨(some (K.ofNat 14)), none, .mv (.t (K.ofNat 6))⟩, ⟨(some (K.ofNat 15)), none, .call (.c (.fn (K.ofNat 45) [])) [(.t (K.ofNat 13)), (.t (K.ofNat 14))]⟩]
noncomputable def f33_r5 : List EOper := [⟨(some (K.ofNat 16)), none, .mv (.t (K.ofNat 5))⟩, ⟨(some (K.ofNat 17)), none, .mv (.t (K.ofNat 6))⟩, ⟨(some (K.ofNat 18)), none, .bslice 1 1 [(.i .i64 (.ofNat 0))] [(0, 1, (.t (K.ofNat 17)))]⟩, ⟨(some (K.ofNat 19)), none, .app 1 (.t (K.ofNat 16)) (.t (K.ofNat 18))⟩, ⟨(some (K.ofNat 5)), none, .as (.t (K.ofNat 19))⟩]
noncomputable def f33_r6 : List EOper := [⟨(some (K.ofNat 11)), none, .mv (.t (K.ofNat 6))⟩, ⟨(some (K.ofNat 12)), none, .bin .add (.t (K.ofNat 11)) (.c (.i .i64 (.ofNat 1)))⟩, ⟨(some (K.ofNat 6)), none, .as (.t (K.ofNat 12))⟩]
noncomputable def f33_l0 : EC := (.seq (.seq (.reg f33_r3) (.cond (.t (K.ofNat 10)) .skip (.exit 0))) (.seq (.block 1 (.seq (.reg f33_r4) (.cond (.t (K.ofNat 15)) (.reg f33_r5) .skip))) (.reg f33_r6)))
noncomputable def f33_r7 : List EOper := [⟨(some (K.ofNat 20)), none, .mv (.t (K.ofNat 5))⟩, ⟨(some (K.ofNat 4)), none, .as (.t (K.ofNat 20))⟩]
noncomputable def f33_c : EC := (.seq (.reg f33_r0) (.seq (.reg f33_r1) (.seq (.seq (.reg f33_r2) (.block 0 (.loop f33_l0))) (.seq (.reg f33_r7) .ret))))
noncomputable def f33 : EF := ⟨21, [.tmp (K.ofNat 4)], f33_c, none⟩
noncomputable def f31_r0 : List EOper := [⟨(some (K.ofNat 4)), none, .as (.c .sn)⟩]
noncomputable def f31_r1 : List EOper := [⟨(some (K.ofNat 5)), none, .as (.c (.i .i64 (.ofNat 0)))⟩]
noncomputable def f31_r2 : List EOper := [⟨(some (K.ofNat 6)), none, .as (.c (.i .i64 (.ofNat 0)))⟩]
noncomputable def f31_r3 : List EOper := [⟨(some (K.ofNat 10)), none, .mv (.t (K.ofNat 6))⟩, ⟨(some (K.ofNat 11)), none, .mv (.t (K.ofNat 1))⟩, ⟨(some (K.ofNat 12)), none, .len (.t (K.ofNat 11))⟩, ⟨(some (K.ofNat 13)), none, .bin .lss (.t (K.ofNat 10)) (.t (K.ofNat 12))⟩]
noncomputable def f31_r4 : List EOper := [⟨(some (K.ofNat 16)), none, .mv (.t (K.ofNat 5))⟩, ⟨(some (K.ofNat 17)), none, .mv (.t (K.ofNat 1))⟩, ⟨(some (K.ofNat 18)), none, .mv (.t (K.ofNat 6))⟩, ⟨(some (K.ofNat 19)), none, .iads 1 (.t (K.ofNat 17)) (.t (K.ofNat 18))⟩, ⟨(some (K.ofNat 20)), none, .ld (.t (K.ofNat 19))⟩, ⟨(some (K.ofNat 21)), none, .call (.c (.fn (K.ofNat 52) [])) [(.t (K.ofNat 20))]⟩, ⟨(some (K.ofNat 22)), none, .max (.t (K.ofNat 16)) (.t (K.ofNat 21))⟩, ⟨(some (K.ofNat 5)), none, .as (.t (K.ofNat 22))⟩]
noncomputable def f31_r5 : List EOper := [⟨(some (K.ofNat 14)), none, .mv (.t (K.ofNat 6))⟩, ⟨(some (K.ofNat 15)), none, .bin .add (.t (K.ofNat 14)) (.c (.i .i64 (.ofNat 1)))⟩, ⟨(some (K.ofNat 6)), none, .as (.t (K.ofNat 15))⟩]
noncomputable def f31_l0 : EC := (.seq (.seq (.reg f31_r3) (.cond (.t (K.ofNat 13)) .skip (.exit 0))) (.seq (.block 1 (.reg f31_r4)) (.reg f31_r5)))
noncomputable def f31_r6 : List EOper := [⟨(some (K.ofNat 23)), none, .mv (.t (K.ofNat 5))⟩, ⟨(some (K.ofNat 24)), none, .bin .add (.t (K.ofNat 23)) (.c (.i .i64 (.ofNat 1)))⟩, ⟨(some (K.ofNat 25)), none, .mkslice 1 [(.i .i64 (.ofNat 0))] (.t (K.ofNat 24))⟩, ⟨(some (K.ofNat 7)), none, .as (.t (K.ofNat 25))⟩]
noncomputable def f31_r7 : List EOper := [⟨(some (K.ofNat 26)), none, .mv (.t (K.ofNat 0))⟩, ⟨(some (K.ofNat 27)), none, .mv (.t (K.ofNat 1))⟩, ⟨(some (K.ofNat 28)), none, .call (.c (.fn (K.ofNat 33) [])) [(.t (K.ofNat 26)), (.t (K.ofNat 27))]⟩, ⟨(some (K.ofNat 8)), none, .as (.t (K.ofNat 28))⟩]
noncomputable def f31_r8 : List EOper := [⟨(some (K.ofNat 9)), none, .as (.c (.i .i64 (.ofNat 0)))⟩]
noncomputable def f31_r9 : List EOper := [⟨(some (K.ofNat 29)), none, .mv (.t (K.ofNat 9))⟩, ⟨(some (K.ofNat 30)), none, .mv (.t (K.ofNat 8))⟩, ⟨(some (K.ofNat 31)), none, .len (.t (K.ofNat 30))⟩, ⟨(some (K.ofNat 32)), none, .bin .lss (.t (K.ofNat 29)) (.t (K.ofNat 31))⟩]
noncomputable def f31_r10 : List EOper := [⟨(some (K.ofNat 35)), none, .mv (.t (K.ofNat 7))⟩, ⟨(some (K.ofNat 36)), none, .mv (.t (K.ofNat 8))⟩, ⟨(some (K.ofNat 37)), none, .mv (.t (K.ofNat 9))⟩, ⟨(some (K.ofNat 38)), none, .iads 1 (.t (K.ofNat 36)) (.t (K.ofNat 37))⟩, ⟨(some (K.ofNat 39)), none, .ld (.t (K.ofNat 38))⟩, ⟨(some (K.ofNat 40)), none, .call (.c (.fn (K.ofNat 52) [])) [(.t (K.ofNat 39))]⟩, ⟨(some (K.ofNat 41)), none, .iads 1 (.t (K.ofNat 35)) (.t (K.ofNat 40))⟩, ⟨(some (K.ofNat 42)), none, .ld (.t (K.ofNat 41))⟩, ⟨(some (K.ofNat 43)), none, .bin .add (.t (K.ofNat 42)) (.c (.i .i64 (.ofNat 1)))⟩, ⟨(some (K.ofNat 44)), none, .iads 1 (.t (K.ofNat 35)) (.t (K.ofNat 40))⟩, ⟨none, none, .st 1 (.t (K.ofNat 44)) (.t (K.ofNat 43))⟩]
noncomputable def f31_r11 : List EOper := [⟨(some (K.ofNat 33)), none, .mv (.t (K.ofNat 9))⟩, ⟨(some (K.ofNat 34)), none, .bin .add (.t (K.ofNat 33)) (.c (.i .i64 (.ofNat 1)))⟩, ⟨(some (K.ofNat 9)), none, .as (.t (K.ofNat 34))⟩]
noncomputable def f31_l1 : EC := (.seq (.seq (.reg f31_r9) (.cond (.t (K.ofNat 32)) .skip (.exit 2))) (.seq (.block 3 (.reg f31_r10)) (.reg f31_r11)))
noncomputable def f31_r12 : List EOper := [⟨(some (K.ofNat 45)), none, .mv (.t (K.ofNat 7))⟩, ⟨(some (K.ofNat 4)), none, .as (.t (K.ofNat 45))⟩]
noncomputable def f31_c : EC := (.seq (.reg f31_r0) (.seq (.reg f31_r1) (.seq (.seq (.reg f31_r2) (.block 0 (.loop f31_l0))) (.seq (.reg f31_r6) (.seq (.reg f31_r7) (.seq (.seq (.reg f31_r8) (.block 2 (.loop f31_l1))) (.seq (.reg f31_r12) .ret)))))))
noncomputable def f31 : EF := ⟨46, [.tmp (K.ofNat 4)], f31_c, none⟩
noncomputable def f35_r0 : List EOper := [⟨(some (K.ofNat 2)), none, .as (.c (.i .i64 (.ofNat 0)))⟩]
noncomputable def f35_r1 : List EOper := [⟨(some (K.ofNat 3)), none, .as (.c (.i .i64 (.ofNat 0)))⟩]
noncomputable def f35_r2 : List EOper := [⟨(some (K.ofNat 4)), none, .as (.c (.i .i64 (.ofNat 1)))⟩]
noncomputable def f35_r3 : List EOper := [⟨(some (K.ofNat 5)), none, .mv (.t (K.ofNat 4))⟩, ⟨(some (K.ofNat 6)), none, .mv (.t (K.ofNat 0))⟩, ⟨(some (K.ofNat 7)), none, .len (.t (K.ofNat 6))⟩, ⟨(some (K.ofNat 8)), none, .bin .lss (.t (K.ofNat 5)) (.t (K.ofNat 7))⟩]
noncomputable def f35_r4 : List EOper := [⟨(some (K.ofNat 11)), none, .mv (.t (K.ofNat 3))⟩, ⟨(some (K.ofNat 12)), none, .mv (.t (K.ofNat 0))⟩, ⟨(some (K.ofNat 13)), none, .mv (.t (K.ofNat 4))⟩, ⟨(some (K.ofNat 14)), none, .iads 1 (.t (K.ofNat 12)) (.t (K.ofNat 13))⟩, ⟨(some (K.ofNat 15)), none, .ld (.t (K.ofNat 14))⟩, ⟨(some (K.ofNat 16)), none, .mv (.t (K.ofNat 4))⟩, ⟨(some (K.ofNat 17)), none, .bin .rem (.t (K.ofNat 16)) (.c (.i .i64 (.ofNat 2)))⟩, ⟨(some (K.ofNat 18)), none, .bin .mul (.c (.i .i64 (.ofNat 2))) (.t (K.ofNat 17))⟩, ⟨(some (K.ofNat 19)), none, .bin .sub (.t (K.ofNat 18)) (.c (.i .i64 (.ofNat 1)))⟩, ⟨(some (K.ofNat 20)), none, .bin .mul (.t (K.ofNat 15)) (.t (K.ofNat 19))⟩, ⟨(some (K.ofNat 21)), none, .bin .add (.t (K.ofNat 11)) (.t (K.ofNat 20))⟩, ⟨(some (K.ofNat 3)), none, .as (.t (K.ofNat 21))⟩]
noncomputable def f35_r5 : List EOper := [⟨(some (K.ofNat 9)), none, .mv (.t (K.ofNat 4))⟩, ⟨(some (K.ofNat 10)), none, .bin .add (.t (K.ofNat 9)) (.c (.i .i64 (.ofNat 1)))⟩, ⟨(some (K.ofNat 4)), none, .as (.t (K.ofNat 10))⟩]
noncomputable def f35_l0 : EC := (.seq (.seq (.reg f35_r3) (.cond (.t (K.ofNat 8)) .skip (.exit 0))) (.seq (.block 1 (.reg f35_r4)) (.reg f35_r5)))
noncomputable def f35_r6 : List EOper := [⟨(some (K.ofNat 22)), none, .mv (.t (K.ofNat 3))⟩, ⟨(some (K.ofNat 2)), none, .as (.t (K.ofNat 22))⟩]
noncomputable def f35_c : EC := (.seq (.reg f35_r0) (.seq (.reg f35_r1) (.seq (.seq (.reg f35_r2) (.block 0 (.loop f35_l0))) (.seq (.reg f35_r6) .ret))))
noncomputable def f35 : EF := ⟨23, [.tmp (K.ofNat 2)], f35_c, none⟩
section
variable {fs : T EF} {ro : Option K}
noncomputable def isF (S : List Int) (x : Int) : Bool := S.any fun s => ptI x s
noncomputable def facTo (S : List Int) (i : Nat) : List Int := ((List.range i).filter fun (k : Nat) => isF S (k : Int)).map fun (k : Nat) => (k : Int)
theorem pow_n {n : Int} (h1 : 1 ≤ n) (h6 : n ≤ 6) : 2 ^ n.toNat ≤ 64 ∧ ((2 ^ n.toNat : Nat) : Int) = (2 : Int) ^ n.toNat := by
  have : n = 1 ∨ n = 2 ∨ n = 3 ∨ n = 4 ∨ n = 5 ∨ n = 6 := by omega
  rcases this with rfl | rfl | rfl | rfl | rfl | rfl <;> decide
/-- The greatest number of elements. -/
noncomputable def maxS (S : List Int) : Nat := S.foldl (fun d s => max d (pop6 s.toNat)) 0
noncomputable def bump (C : List Int) (k : Nat) : List Int := C.set (pop6 k) (C.getD (pop6 k) 0 + 1)
noncomputable def rcnt (d : Nat) (l : List Nat) : List Int := l.foldl bump (List.replicate (d + 1) 0)
noncomputable def facN (S : List Int) (m : Nat) : List Nat := (List.range m).filter fun (k : Nat) => isF S (k : Int)
/-- The sum of the counts with signs, as the reference has it: from the i-th on. -/
noncomputable def reuS (L : List Int) : Nat → Nat → Int → Int
  | 0, _, sum => sum
  | t + 1, i, sum => reuS L t (i + 1) (fw .i64 (sum + fw .i64 (L.getD i 0 * fw .i64 (fw .i64 (2 * ((i : Int).tmod 2)) - 1))))
end
end Go.Ev
