/-
  Labels: are labels graceful?
  Labels: the reference's Graceful; IsGraceful.
  Labels: IsGraceful, Turned, of the program and of the reference.
  Labels: the reference's search: it gives some labels, whichever.
  Labels: the reference's Parts; its search gives some labels.
  Labels: Parts.
  Labels: tame makes a graph.
  Labels: the law LabelsTells.
  Labels: what the reference's search goes through is what the program goes through.
  Labels: the reference's search, whole.
  Labels: the first labels that part; the law LabelsFirst.
  The evaluator, weakest preconditions: what follows may be weakened.
  The evaluator, weakest preconditions: a store into a slice of pairs; slices of slices of pairs.
-/
import Derived.Test.YtmnojcnimncbpaaPe
import Derived.Test.YtmnojcnimncbpaaPd
namespace Go.Ev
open Go Go.RowKit
noncomputable def f62_r0 : List EOper := [⟨(some (K.ofNat 6)), none, .as (.c (.b false))⟩]
noncomputable def f62_r1 : List EOper := [⟨(some (K.ofNat 12)), none, .mv (.t (K.ofNat 2))⟩, ⟨(some (K.ofNat 13)), none, .len (.t (K.ofNat 12))⟩, ⟨(some (K.ofNat 14)), none, .mv (.t (K.ofNat 0))⟩, ⟨(some (K.ofNat 15)), none, .bin .neq (.t (K.ofNat 13)) (.t (K.ofNat 14))⟩]
noncomputable def f62_r2 : List EOper := [⟨(some (K.ofNat 6)), none, .as (.c (.b false))⟩]
noncomputable def f62_r3 : List EOper := [⟨(some (K.ofNat 16)), none, .mv (.t (K.ofNat 2))⟩, ⟨(some (K.ofNat 17)), none, .len (.t (K.ofNat 16))⟩, ⟨(some (K.ofNat 18)), none, .mv (.c (.i .i64 (.ofNat 0)))⟩]
noncomputable def f62_r4 : List EOper := [⟨(some (K.ofNat 19)), none, .bin .lss (.t (K.ofNat 18)) (.t (K.ofNat 17))⟩]
noncomputable def f62_r5 : List EOper := [⟨(some (K.ofNat 20)), none, .mv (.t (K.ofNat 18))⟩, ⟨(some (K.ofNat 21)), none, .iads 1 (.t (K.ofNat 16)) (.t (K.ofNat 18))⟩, ⟨(some (K.ofNat 22)), none, .ld (.t (K.ofNat 21))⟩, ⟨(some (K.ofNat 7)), none, .as (.t (K.ofNat 20))⟩, ⟨(some (K.ofNat 8)), none, .as (.t (K.ofNat 22))⟩]
noncomputable def f62_r6 : List EOper := [⟨(some (K.ofNat 23)), none, .mv (.t (K.ofNat 8))⟩, ⟨(some (K.ofNat 24)), none, .bin .lss (.t (K.ofNat 23)) (.c (.i .i64 (.ofNat 0)))⟩, ⟨(some (K.ofNat 25)), none, .mv (.t (K.ofNat 24))⟩, ⟨(some (K.ofNat 26)), (some ((K.ofNat 25), false)), .mv (.t (K.ofNat 8))⟩, ⟨(some (K.ofNat 27)), (some ((K.ofNat 25), false)), .mv (.t (K.ofNat 1))⟩, ⟨(some (K.ofNat 28)), (some ((K.ofNat 25), false)), .len (.t (K.ofNat 27))⟩, ⟨(some (K.ofNat 29)), (some ((K.ofNat 25), false)), .bin .gtr (.t (K.ofNat 26)) (.t (K.ofNat 28))⟩, ⟨(some (K.ofNat 30)), none, .pick (.t (K.ofNat 25)) (.c (.b true)) (.t (K.ofNat 29))⟩, ⟨(some (K.ofNat 31)), none, .mv (.t (K.ofNat 30))⟩, ⟨(some (K.ofNat 32)), (some ((K.ofNat 31), false)), .mv (.t (K.ofNat 2))⟩, ⟨(some (K.ofNat 33)), (some ((K.ofNat 31), false)), .mv (.t (K.ofNat 7))⟩, ⟨(some (K.ofNat 34)), (some ((K.ofNat 31), false)), .slice 1 (.t (K.ofNat 32)) none (some (.t (K.ofNat 33))) none⟩, ⟨(some (K.ofNat 35)), (some ((K.ofNat 31), false)), .mv (.t (K.ofNat 8))⟩, ⟨(some (K.ofNat 36)), (some ((K.ofNat 31), false)), .call (.c (.fn (K.ofNat 99) [])) [(.t (K.ofNat 34)), (.t (K.ofNat 35))]⟩, ⟨(some (K.ofNat 37)), none, .pick (.t (K.ofNat 31)) (.c (.b true)) (.t (K.ofNat 36))⟩]
noncomputable def f62_r7 : List EOper := [⟨(some (K.ofNat 6)), none, .as (.c (.b false))⟩]
noncomputable def f62_r8 : List EOper := [⟨(some (K.ofNat 38)), none, .bin .add (.t (K.ofNat 18)) (.c (.i .i64 (.ofNat 1)))⟩, ⟨(some (K.ofNat 18)), none, .mv (.t (K.ofNat 38))⟩]
noncomputable def f62_l0 : EC := (.seq (.reg f62_r4) (.seq (.cond (.t (K.ofNat 19)) .skip (.exit 0)) (.seq (.block 1 (.seq (.reg f62_r5) (.seq (.reg f62_r6) (.cond (.t (K.ofNat 37)) (.seq (.reg f62_r7) .ret) .skip)))) (.reg f62_r8))))
noncomputable def f62_r9 : List EOper := [⟨(some (K.ofNat 9)), none, .alloc 26 (List.replicate 26 (.b false))⟩]
noncomputable def f62_r10 : List EOper := [⟨(some (K.ofNat 39)), none, .mv (.t (K.ofNat 1))⟩, ⟨(some (K.ofNat 40)), none, .len (.t (K.ofNat 39))⟩, ⟨(some (K.ofNat 41)), none, .mv (.c (.i .i64 (.ofNat 0)))⟩]
noncomputable def f62_r11 : List EOper := [⟨(some (K.ofNat 42)), none, .bin .lss (.t (K.ofNat 41)) (.t (K.ofNat 40))⟩]
noncomputable def f62_r12 : List EOper := [⟨(some (K.ofNat 43)), none, .iads 2 (.t (K.ofNat 39)) (.t (K.ofNat 41))⟩, ⟨(some (K.ofNat 44)), none, .ldn 2 (.t (K.ofNat 43))⟩, ⟨(some (K.ofNat 11)), none, .alloc 2 [(.i .i64 (.ofNat 0)), (.i .i64 (.ofNat 0))]⟩, ⟨none, none, .st 2 (.t (K.ofNat 11)) (.t (K.ofNat 44))⟩]
noncomputable def f62_r13 : List Stage := [⟨[⟨(some (K.ofNat 45)), none, .mv (.t (K.ofNat 2))⟩, ⟨(some (K.ofNat 46)), none, .iadr 2 1 (.t (K.ofNat 11)) (.c (.i .i64 (.ofNat 0)))⟩, ⟨(some (K.ofNat 47)), none, .ld (.t (K.ofNat 46))⟩, ⟨(some (K.ofNat 48)), none, .iads 1 (.t (K.ofNat 45)) (.t (K.ofNat 47))⟩, ⟨(some (K.ofNat 49)), none, .ld (.t (K.ofNat 48))⟩, ⟨(some (K.ofNat 50)), none, .mv (.t (K.ofNat 2))⟩, ⟨(some (K.ofNat 51)), none, .iadr 2 1 (.t (K.ofNat 11)) (.c (.i .i64 (.ofNat 1)))⟩, ⟨(some (K.ofNat 52)), none, .ld (.t (K.ofNat 51))⟩, ⟨(some (K.ofNat 53)), none, .iads 1 (.t (K.ofNat 50)) (.t (K.ofNat 52))⟩, ⟨(some (K.ofNat 54)), none, .ld (.t (K.ofNat 53))⟩], [], (some ⟨(some (K.ofNat 55)), none, .call (.c (.fn (K.ofNat 101) [])) [(.t (K.ofNat 49)), (.t (K.ofNat 54))]⟩), []⟩, ⟨[], [], (some ⟨(some (K.ofNat 56)), none, .call (.c (.fn (K.ofNat 100) [])) [(.t (K.ofNat 9)), (.t (K.ofNat 55))]⟩), []⟩, ⟨[⟨(some (K.ofNat 57)), none, .not (.t (K.ofNat 56))⟩], [], none, []⟩]
noncomputable def f62_r14 : List EOper := [⟨(some (K.ofNat 6)), none, .as (.c (.b false))⟩]
noncomputable def f62_r15 : List EOper := [⟨(some (K.ofNat 58)), none, .bin .add (.t (K.ofNat 41)) (.c (.i .i64 (.ofNat 1)))⟩, ⟨(some (K.ofNat 41)), none, .mv (.t (K.ofNat 58))⟩]
noncomputable def f62_l1 : EC := (.seq (.reg f62_r11) (.seq (.cond (.t (K.ofNat 42)) .skip (.exit 2)) (.seq (.block 3 (.seq (.reg f62_r12) (.seq (.draw f62_r13) (.cond (.t (K.ofNat 57)) (.seq (.reg f62_r14) .ret) .skip)))) (.reg f62_r15))))
noncomputable def f62_r16 : List EOper := [⟨(some (K.ofNat 6)), none, .as (.c (.b true))⟩]
noncomputable def f62_c : EC := (.seq (.reg f62_r0) (.seq (.seq (.reg f62_r1) (.cond (.t (K.ofNat 15)) (.seq (.reg f62_r2) .ret) .skip)) (.seq (.seq (.reg f62_r3) (.block 0 (.loop f62_l0))) (.seq (.reg f62_r9) (.seq (.seq (.reg f62_r10) (.block 2 (.loop f62_l1))) (.seq (.reg f62_r16) .ret))))))
noncomputable def f62 : EF := ⟨59, [.tmp (K.ofNat 6)], f62_c, none⟩
theorem f62_rs : f62.rs = [.tmp (K.ofNat 6)] := of_eq_true (eq_self _)
/-- The difference at an edge. -/
def dfE (L : List Int) (e : Int × Int) : Int := absD (L.getD e.1.toNat 0) (L.getD e.2.toNat 0)
def labOk1 (m : Int) (L : List Int) (j : Nat) : Bool := decide (0 ≤ L.getD j 0) && (decide (L.getD j 0 ≤ m) && !decide (L.getD j 0 ∈ L.take j))
def labsOk (m : Int) (L : List Int) : Bool := (List.range L.length).all (labOk1 m L)
def difOk1 (E : List (Int × Int)) (L : List Int) (j : Nat) : Bool := !decide (dfE L (E.getD j (0, 0)) ∈ (E.take j).map (dfE L))
def difsOk (E : List (Int × Int)) (L : List Int) : Bool := (List.range E.length).all (difOk1 E L)
/-- Are these graceful labels? -/
def grB (n : Int) (E : List (Int × Int)) (L : List Int) : Bool := decide ((L.length : Int) = n) && (labsOk (E.length : Int) L && difsOk E L)
theorem all_no {n j : Nat} {f : Nat → Bool} (hj : j < n) (h : f j = false) : (List.range n).all f = false := by
  rw [Bool.eq_false_iff]
  intro hr
  have := List.all_eq_true.1 hr j (by simpa using hj)
  rw [h] at this; cases this
theorem all_yes {n : Nat} {f : Nat → Bool} (h : ∀ j, j < n → f j = true) : (List.range n).all f = true := List.all_eq_true.2 fun j hj => h j (by simpa using hj)
/-- Which differences were met. -/
def Met (E : List (Int × Int)) (L : List Int) (j : Nat) (B : List Bool) : Prop := ∀ d (h : d < B.length), B[d] = true ↔ (d : Int) ∈ (E.take j).map (dfE L)
theorem Met.zero {E : List (Int × Int)} {L : List Int} {k : Nat} : Met E L 0 (List.replicate k false) := fun d h => by simp
theorem Met.succ {E : List (Int × Int)} {L : List Int} {j d : Nat} {B : List Bool} (hm : Met E L j B) (hj : j < E.length) (hd : dfE L E[j] = (d : Int)) (_ : d < B.length) : Met E L (j + 1) (B.set d true) := fun k hk => by
  rw [List.take_succ_eq_append_getElem hj, List.map_append, List.mem_append, List.map_cons, List.map_nil, List.mem_singleton, hd]
  have hk' : k < B.length := by simpa using hk
  rw [List.getElem_set]
  by_cases e : d = k
  · subst e; simp
  · rw [if_neg e, hm k hk']
    constructor
    · exact fun h => .inl h
    · rintro (h | h)
      · exact h
      · exact absurd (by omega) e
theorem Met.dif {E : List (Int × Int)} {L : List Int} {j d : Nat} {B : List Bool} (hm : Met E L j B) (hj : j < E.length) (hd : dfE L E[j] = (d : Int)) (hdB : d < B.length) : difOk1 E L j = !B[d] := by
  have hg : E.getD j (0, 0) = E[j] := by simp [List.getD_eq_getElem?_getD, hj]
  unfold difOk1
  rw [hg, hd]
  have := hm d hdB
  cases hb : B[d] with
  | true => rw [decide_eq_true (this.1 hb)]
  | false => rw [decide_eq_false (fun h => by rw [this.2 h] at hb; cases hb)]
theorem labs_in {E : List (Int × Int)} {L : List Int} (h : labsOk (E.length : Int) L = true) : LabOk E L := fun x hx => by
  obtain ⟨j, hj, rfl⟩ := List.getElem_of_mem hx
  have := List.all_eq_true.1 h j (by simpa using hj)
  unfold labOk1 at this
  have hg : L.getD j 0 = L[j] := by simp [List.getD_eq_getElem?_getD, hj]
  rw [hg] at this
  simp only [Bool.and_eq_true, decide_eq_true_eq] at this
  exact ⟨this.1, this.2.1⟩
theorem dfE_in {E : List (Int × Int)} {L : List Int} {n : Nat} (hE : EdgesOk n E) (hL : LabOk E L) (hn : L.length = n) {j : Nat} (hj : j < E.length) :
    ∃ a b d : Nat, ∃ (ha : a < L.length) (hb : b < L.length), E[j].1 = (a : Int) ∧ E[j].2 = (b : Int) ∧ a < b ∧ dfE L E[j] = (d : Int) ∧ absD L[a] L[b] = (d : Int) ∧ d ≤ E.length ∧ (0 ≤ L[a] ∧ L[a] ≤ 10) ∧ (0 ≤ L[b] ∧ L[b] ≤ 10) := by
  obtain ⟨h1, h2, h3⟩ := hE
  obtain ⟨e0, e1, e2⟩ := h3 E[j] (List.getElem_mem hj)
  have ha : E[j].1.toNat < L.length := by omega
  have hb : E[j].2.toNat < L.length := by omega
  obtain ⟨p1, p2⟩ := hL _ (List.getElem_mem ha)
  obtain ⟨q1, q2⟩ := hL _ (List.getElem_mem hb)
  have hd : dfE L E[j] = absD L[E[j].1.toNat] L[E[j].2.toNat] := by
    unfold dfE
    rw [List.getD_eq_getElem?_getD, List.getD_eq_getElem?_getD, List.getElem?_eq_getElem ha, List.getElem?_eq_getElem hb]; rfl
  have hr : 0 ≤ absD L[E[j].1.toNat] L[E[j].2.toNat] ∧ absD L[E[j].1.toNat] L[E[j].2.toNat] ≤ (E.length : Int) := by unfold absD; split <;> omega
  refine ⟨_, _, (absD L[E[j].1.toNat] L[E[j].2.toNat]).toNat, ha, hb, by omega, by omega, by omega, by rw [hd]; omega, by omega, by omega, ⟨p1, by omega⟩, q1, by omega⟩
structure CallsGr (fs : T EF) : Prop where
  c62 : fs.get (K.ofNat 62) = some f62
  c99 : fs.get (K.ofNat 99) = some f99
  c100 : fs.get (K.ofNat 100) = some f100
  c101 : fs.get (K.ofNat 101) = some f101
  c102 : fs.get (K.ofNat 102) = some f102
  c130 : fs.get (K.ofNat 130) = some f130
section
variable {fs : T EF} {ro : Option K} {h : H} {v w : V} {n : Nat} {E : List (Int × Int)} {L : List Int}
def f62_I (h : H) (n : Nat) (v w : V) (E : List (Int × Int)) (L : List Int) (j : Nat) (fr : Fr) (h1 : H) : Prop := j ≤ L.length ∧ h1 = h ∧ (∀ i, i < j → labOk1 (E.length : Int) L i = true) ∧ fr.get (K.ofNat 0) = some (.i .i64 (n : Int)) ∧ fr.get (K.ofNat 1) = some (v) ∧ fr.get (K.ofNat 2) = some (w) ∧ fr.get (K.ofNat 16) = some (w) ∧ fr.get (K.ofNat 17) = some (.i .i64 (L.length : Int)) ∧ fr.get (K.ofNat 18) = some (.i .i64 (j : Int))
def f62_J (h : H) (v w : V) (E : List (Int × Int)) (L : List Int) (j : Nat) (fr : Fr) (h1 : H) : Prop := j ≤ E.length ∧ Grow h.nx.nat h h1 ∧ h.nx.nat < h1.nx.nat ∧ (∃ B : List Bool, B.length = 26 ∧ Met E L j B ∧ Ar V.b h1 h.nx B) ∧ (∀ i, i < j → difOk1 E L i = true) ∧ fr.get (K.ofNat 2) = some (w) ∧ fr.get (K.ofNat 9) = some (.p h.nx 0) ∧ fr.get (K.ofNat 39) = some (v) ∧ fr.get (K.ofNat 40) = some (.i .i64 (E.length : Int)) ∧ fr.get (K.ofNat 41) = some (.i .i64 (j : Int))
theorem f62_ret (k : CallsGr fs) (hv : Srp h v E) (hw : Sr iE h w L) (hc : HC h) (hE : EdgesOk n E) (hL : L.length ≤ 1000000) : Ret fs f62 [.i .i64 (n : Int), v, w] h fun r h' => r = .b (grB (n : Int) E L) ∧ Grow h.nx.nat h h' := by
  apply ret_of rfl
  show W fs none f62_c _ _ _
  unfold f62_c
  have hl := hw.len
  by_cases hn : L.length = n
  · have d0 : decide ((L.length : Int) ≠ (n : Int)) = false := by simp; omega
    have e0 : decide ((L.length : Int) = (n : Int)) = true := by simp; omega
    simp (disch := omega) only [f62_r0, f62_r1, f62_r3, w_skip, w_reg, w_seq, w_cond, w_block, seqK_n, ckB_b, cbB_b, true_and, x_nil, x_mv, x_as, x_bin, x_len, kx, rvP_ok, okv_some, ev_t, ev_c, getV_some, putD_some, bin_neq, frame_3, of0, getK_set, Nat.reduceEqDiff, ↓reduceIte, Bool.false_eq_true, hl, d0]
    refine W_loop (f62_I h n v w E L) (fun j => L.length - j) ?_ 0 ⟨by omega, rfl, fun i hi => by omega, by simp (disch := omega) only [getK_set, Nat.reduceEqDiff, ↓reduceIte, and_self, Int.natCast_zero]⟩
    rintro j fr h1 ⟨hj, rfl, hok, g0, g1, g2, g16, g17, g18⟩
    unfold f62_l0
    by_cases hlt : j < L.length
    · have d1 : decide ((j : Int) < (L.length : Int)) = true := by simpa using hlt
      obtain ⟨p, hp1, hp2⟩ := hw.at j hlt
      have hg : L.getD j 0 = L[j] := by simp [List.getD_eq_getElem?_getD, hlt]
      have bad : labOk1 (E.length : Int) L j = false → grB (n : Int) E L = false := fun hb => by
        unfold grB labsOk
        rw [all_no hlt hb]; simp
      cases d2 : decide (L[j] < 0) with
      | true =>
        have hb : labOk1 (E.length : Int) L j = false := by
          unfold labOk1; rw [hg, decide_eq_false (by have := of_decide_eq_true d2; omega)]; rfl
        simp (disch := omega) only [f62_r4, f62_r5, f62_r6, f62_r7, f62_rs, w_skip, w_reg, w_seq, w_cond, w_block, w_ret, seqK_n, seqK_r, atK_r, loopK_r, ckB_b, cbB_b, okG_b, asG_f, true_and, retK_r, x_nil, x_g, x_mv, x_as, x_pick, x_ld, x_bin, x_iads, kx, rvP_ok, okv_some, ev_t, ev_c, getV_some, putD_some, bin_lss, pick_b, oGet_s, readRs_nil, readRs_t, retV_1, of0, Option.some.injEq, exists_eq_left', getK_set, Nat.reduceEqDiff, ↓reduceIte, Bool.false_eq_true, Bool.not_true, g16, g17, g18, d1, hp1, hp2, iE, d2, bad hb, true_and]
        exact Grow.refl _ _
      | false =>
      have n2 := of_decide_eq_false d2
      cases d3 : decide (L[j] > (E.length : Int)) with
      | true =>
        have hb : labOk1 (E.length : Int) L j = false := by
          unfold labOk1; rw [hg, decide_eq_false (by have := of_decide_eq_true d3; omega : ¬ L[j] ≤ (E.length : Int))]; simp
        simp (disch := omega) only [f62_r4, f62_r5, f62_r6, f62_r7, f62_rs, w_skip, w_reg, w_seq, w_cond, w_block, w_ret, seqK_n, seqK_r, atK_r, loopK_r, ckB_b, cbB_b, okG_b, asG_f, true_and, retK_r, x_nil, x_g, x_mv, x_as, x_pick, x_ld, x_bin, x_iads, x_len, kx, rvP_ok, okv_some, ev_t, ev_c, getV_some, putD_some, bin_lss, bin_gtr, pick_b, oGet_s, readRs_nil, readRs_t, retV_1, of0, Option.some.injEq, exists_eq_left', getK_set, Nat.reduceEqDiff, ↓reduceIte, Bool.false_eq_true, Bool.not_true, Bool.not_false, g1, g16, g17, g18, hv.len, d1, hp1, hp2, iE, d2, d3, bad hb, true_and]
        exact Grow.refl _ _
      | false =>
      have n3 := of_decide_eq_false d3
      obtain ⟨v', p1, p2, _⟩ := hw.cut (lo := none) (hi := some (.i .i64 (j : Int))) (l := 0) (u := j) bnd_none bnd_i (by omega) (by omega)
      rw [List.drop_zero] at p2
      simp (disch := omega) only [f62_r4, f62_r5, f62_r6, w_skip, w_reg, w_seq, w_cond, w_block, seqK_n, ckB_b, cbB_b, okG_b, asG_f, true_and, x_nil, x_g, x_mv, x_as, x_pick, x_ld, x_bin, x_slice, sliceV_eq, Option.map_none, Option.map_some, x_iads, x_call, x_len, kx, rvP_ok, okv_some, ev_t, ev_c, evs_nil, evs_cons, getV_some, putD_some, bin_lss, bin_gtr, pick_b, of0, getK_set, Nat.reduceEqDiff, ↓reduceIte, Bool.false_eq_true, Bool.not_false, g1, g2, g16, g17, g18, hv.len, d1, hp1, hp2, iE, d2, d3, p1]
      refine (callP_0 (ef := f99) k.c99 rfl (f99_ret k.c130 p2 (by simp; omega))).mono ?_
      rintro r h2 ⟨rfl, rfl⟩
      have hlo : labOk1 (E.length : Int) L j = !decide (L[j] ∈ L.take j) := by
        unfold labOk1
        rw [hg, decide_eq_true (by omega : 0 ≤ L[j]), decide_eq_true (by omega : L[j] ≤ (E.length : Int))]; rfl
      cases hm : decide (L[j] ∈ L.take j) with
      | true =>
        rw [hm] at hlo
        simp (disch := omega) only [f62_r7, f62_rs, w_reg, w_seq, w_cond, w_ret, seqK_n, seqK_r, atK_r, loopK_r, ckB_b, cbB_b, true_and, retK_r, x_nil, x_as, x_pick, kx, rvP_ok, ev_t, ev_c, getV_some, putD_some, pick_b, oGet_s, readRs_nil, readRs_t, retV_1, Option.some.injEq, exists_eq_left', getK_set, Nat.reduceEqDiff, ↓reduceIte, Bool.false_eq_true, bad hlo, true_and]
        exact Grow.refl _ _
      | false =>
        rw [hm] at hlo
        simp (disch := omega) only [f62_r8, w_skip, w_reg, w_cond, seqK_n, atK_n, loopK_n, ckB_b, cbB_b, true_and, x_nil, x_mv, x_pick, x_bin, kx, rvP_ok, okv_some, ev_t, ev_c, getV_some, putD_some, bin_add, pick_b, of1, getK_set, Nat.reduceEqDiff, ↓reduceIte, Bool.false_eq_true, g18, fw64]
        refine ⟨j + 1, by omega, by omega, rfl, fun i hi => ?_, by simp (disch := omega) only [getK_set, Nat.reduceEqDiff, ↓reduceIte, g0, g1, g2, g16, g17, and_self, Int.natCast_add, Int.natCast_one]⟩
        by_cases e : i = j
        · rw [e]; exact hlo
        · exact hok i (by omega)
    · have d1 : decide ((j : Int) < (L.length : Int)) = false := by simpa using hlt
      have ej : j = L.length := by omega
      have hlabs : labsOk (E.length : Int) L = true := all_yes fun i hi => hok i (by omega)
      have hlin := labs_in hlabs
      have heq : grB (n : Int) E L = difsOk E L := by unfold grB; rw [e0, hlabs]; rfl
      have n1 := nx_new h1 (.cells 26 (fls.map V.b))
      have g1' := Grow.new (Nat.le_refl h1.nx.nat) (.cells 26 (fls.map V.b))
      have hfl : (List.replicate 26 (V.b false)) = fls.map V.b := rfl
      have eA : Ar V.b (h1.new (.cells 26 (fls.map V.b))) h1.nx fls := get_new_same
      simp (disch := omega) only [f62_r4, f62_r9, f62_r10, w_reg, w_seq, w_cond, w_block, w_exit, seqK_n, seqK_e, atK_e, loopK_e, ckB_b, cbB_b, true_and, x_nil, x_mv, x_alloc, x_bin, x_len, kx, rvP_ok, okv_some, ev_t, ev_c, getV_some, putD_some, bin_lss, of0, getK_set, Nat.reduceEqDiff, ↓reduceIte, Bool.false_eq_true, g1, g17, g18, d1, hv.len, hfl]
      refine W_loop (f62_J h1 v w E L) (fun j => E.length - j) ?_ 0 ⟨by omega, g1', by omega, ⟨fls, rfl, Met.zero, eA⟩, fun i hi => by omega, by simp (disch := omega) only [getK_set, Nat.reduceEqDiff, ↓reduceIte, g2, and_self, Int.natCast_zero]⟩
      clear g0 g1 g2 g16 g17 g18 eA d1
      rintro j fr h2 ⟨hj, hG, hnx, ⟨B, hB, hM, hA⟩, hok2, g2, g9, g39, g40, g41⟩
      have hc2 := hG.hc hc
      have hv2 := hv.grow hc hG
      unfold f62_l1
      by_cases hlt2 : j < E.length
      · have d1 : decide ((j : Int) < (E.length : Int)) = true := by simpa using hlt2
        obtain ⟨ide, q, hp1, hp2, _, _⟩ := hv2.at2 hlt2
        obtain ⟨a, b, d, ha, hb, ea, eb, hab, ed, ead, hdE, la, lb⟩ := dfE_in hE hlin hn hlt2
        have hd26 : d < 26 := by have := hE.1; omega
        have hdm := hM.dif hlt2 ed (by omega)
        have hst2 : storeV (h2.new (.cells 2 zz)) 2 (.p h2.nx 0) (.agg [.i .i64 E[j].1, .i .i64 E[j].2]) = .ok undefV ((h2.new (.cells 2 zz)).put h2.nx (.cells 2 [.i .i64 E[j].1, .i .i64 E[j].2])) := st2 (a := .i .i64 (.ofNat 0)) (b := .i .i64 (.ofNat 0)) get_new_same
        have nx1 := nx_new h2 (.cells 2 zz)
        have gA : Grow h2.nx.nat h2 ((h2.new (.cells 2 zz)).put h2.nx (.cells 2 [.i .i64 E[j].1, .i .i64 E[j].2])) := (Grow.new (Nat.le_refl _) _).trans (Grow.put (Nat.le_refl _) (by omega) _)
        have c12 : ((h2.new (.cells 2 zz)).put h2.nx (.cells 2 [.i .i64 E[j].1, .i .i64 E[j].2])).get h2.nx = .cells 2 [.i .i64 E[j].1, .i .i64 E[j].2] := get_put_same
        have hzz : ([.i .i64 0, .i .i64 0] : List V) = zz := rfl
        generalize hh2 : (h2.new (.cells 2 zz)).put h2.nx (.cells 2 [.i .i64 E[j].1, .i .i64 E[j].2]) = h3 at *
        have hG3 := hG.trans (gA.low hG.nx)
        have hc3 := hG3.hc hc
        have hw3 := hw.grow hc hG3
        have l0 : loadV h3 (.p h2.nx (0 + 0 * 1)) one? = .ok (.i .i64 E[j].1) h3 := load_p c12 rfl
        have l1 : loadV h3 (.p h2.nx (0 + 1 * 1)) one? = .ok (.i .i64 E[j].2) h3 := load_p c12 rfl
        obtain ⟨s, hs1, hs2, hs3⟩ := hw3.atb a ha
        obtain ⟨t, ht1, ht2, ht3⟩ := hw3.atb b hb
        have hwb := hw.beq
        rw [ea] at l0
        rw [eb] at l1
        rw [ea, eb] at hst2 hp2
        simp (disch := omega) only [f62_r11, f62_r12, f62_r13, w_skip, w_reg, w_draw, w_seq, w_cond, w_block, seqK_n, ckB_b, cbB_b, true_and, x_nil, x_alloc, x_ldn, x_st, x_bin, x_iads, x_call, kx, kg, xg_nil, xg_mv, xg_ld, xg_iadr, xg_iads, xd_cons, fresh_nil, stK_s, stay_nil, rvP_ok, okv_some, ev_t, ev_c, evs_nil, evs_cons, getV_some, putD_some, putD_none, bin_lss, onP_p, of0, of1, getK_set, Nat.reduceEqDiff, ↓reduceIte, ix2_0, ix2_1, g2, g39, g40, g41, d1, hp1, hp2, hzz, hst2, l0, l1, hs1, hs2, ht1, ht2, iE]
        refine (callP_0 (ef := f101) k.c101 rfl (f101_ret (a := L[a]) (b := L[b]) k.c102 hc3 (by omega) (by omega))).mono ?_
        rintro r h4 ⟨rfl, gB⟩
        have hG4 := hG3.trans (gB.low hG3.nx)
        have hn3 := gA.nx
        have hA4 : Ar V.b h4 h1.nx B := by
          unfold Ar
          rw [gB.old _ (by omega), gA.old _ (by omega)]; exact hA
        rw [ead]
        simp (disch := omega) only [true_and, x_nil, x_call, kx, xg_nil, xd_cons, fresh_nil, stK_s, stay_nil, ev_t, ev_c, evs_nil, evs_cons, getV_some, putD_some, getK_set, Nat.reduceEqDiff, ↓reduceIte, g9]
        refine (callP_0 (ef := f100) k.c100 rfl (f100_ret hA4 hB hd26)).mono ?_
        rintro r h5 ⟨rfl, rfl⟩
        cases hbd : B[d]'(by omega) with
        | true =>
          rw [hbd] at hdm
          have hno : grB (n : Int) E L = false := by rw [heq]; unfold difsOk; exact all_no hlt2 hdm
          simp (disch := omega) only [f62_r14, f62_rs, w_reg, w_seq, w_cond, w_ret, seqK_n, seqK_r, atK_r, loopK_r, ckB_b, cbB_b, true_and, retK_r, x_nil, x_as, kx, kg, xg_nil, xg_not, xd_cons, fresh_nil, stK_n, stay_nil, rvP_ok, ev_t, ev_c, getV_some, putD_some, onB_b, oGet_s, readRs_nil, readRs_t, retV_1, Option.some.injEq, exists_eq_left', getK_set, ↓reduceIte, Bool.not_true, Bool.not_false, hno, Bool.not_true, Bool.not_false, true_and]
          exact hG4
        | false =>
          rw [hbd] at hdm
          have hn4 := gB.nx
          have hE10 : E.length ≤ 10 := hE.1
          simp (disch := omega) only [f62_r15, w_skip, w_reg, w_cond, seqK_n, atK_n, loopK_n, ckB_b, cbB_b, true_and, x_nil, x_mv, x_bin, kx, kg, xg_nil, xg_not, xd_cons, fresh_nil, stK_n, stay_nil, rvP_ok, okv_some, ev_t, ev_c, getV_some, putD_some, bin_add, onB_b, of1, getK_set, Nat.reduceEqDiff, ↓reduceIte, Bool.false_eq_true, Bool.not_true, Bool.not_false, g41, Bool.not_true, Bool.not_false, fw64]
          refine ⟨j + 1, by omega, by omega, hG4.trans (Grow.put (Nat.le_refl _) (by omega) _), by show h1.nx.nat < h4.nx.nat; omega, ⟨B.set d true, by simpa using hB, hM.succ hlt2 ed (by omega), ?_⟩, fun i hi => ?_, by simp (disch := omega) only [getK_set, Nat.reduceEqDiff, ↓reduceIte, g2, g9, g39, g40, and_self, Int.natCast_add, Int.natCast_one]⟩
          · show (h4.put _ _).get _ = .cells (B.set d true).length _
            rw [get_put_same, List.length_set, hB]
          · by_cases e : i = j
            · rw [e]; exact hdm
            · exact hok2 i (by omega)
      · have d1 : decide ((j : Int) < (E.length : Int)) = false := by simpa using hlt2
        have hdf : difsOk E L = true := all_yes fun i hi => hok2 i (by omega)
        simp (disch := omega) only [f62_r11, f62_r16, f62_rs, w_reg, w_seq, w_cond, w_exit, w_ret, seqK_n, seqK_e, atK_e, loopK_e, ckB_b, cbB_b, true_and, retK_r, x_nil, x_as, x_bin, kx, rvP_ok, okv_some, ev_t, ev_c, getV_some, putD_some, bin_lss, oGet_s, readRs_nil, readRs_t, retV_1, Option.some.injEq, exists_eq_left', getK_set, ↓reduceIte, Bool.false_eq_true, g40, g41, d1, heq, hdf, true_and]
        exact hG
  · have d0 : decide ((L.length : Int) ≠ (n : Int)) = true := by simp; omega
    have e0 : grB (n : Int) E L = false := by unfold grB; rw [decide_eq_false (by omega)]; rfl
    simp (disch := omega) only [f62_r0, f62_r1, f62_r2, f62_rs, w_reg, w_seq, w_cond, w_ret, seqK_n, seqK_r, ckB_b, cbB_b, true_and, retK_r, x_nil, x_mv, x_as, x_bin, x_len, kx, rvP_ok, okv_some, ev_t, ev_c, getV_some, putD_some, bin_neq, oGet_s, readRs_nil, readRs_t, retV_1, frame_3, Option.some.injEq, exists_eq_left', getK_set, Nat.reduceEqDiff, ↓reduceIte, hl, d0, e0, true_and]
    exact Grow.refl _ _
end
end Go.Ev
namespace Go.Ev
open Go Go.RowKit
section
variable {fs : T EF} {ro : Option K} {h : H} {v w : V} {n : Nat} {E : List (Int × Int)} {L : List Int}
end
end Go.Ev
namespace Go.Ev
open Go Go.RowKit
noncomputable def f18_r0 : List EOper := [⟨(some (K.ofNat 6)), none, .as (.c (.b false))⟩, ⟨(some (K.ofNat 7)), none, .as (.c (.i .i64 (.ofNat 0)))⟩]
noncomputable def f18_r1 : List EOper := [⟨(some (K.ofNat 9)), none, .mv (.t (K.ofNat 0))⟩, ⟨(some (K.ofNat 10)), none, .mv (.t (K.ofNat 1))⟩, ⟨(some (K.ofNat 11)), none, .call (.c (.fn (K.ofNat 17) [])) [(.t (K.ofNat 9)), (.t (K.ofNat 10))]⟩, ⟨(some (K.ofNat 8)), none, .as (.t (K.ofNat 11))⟩]
noncomputable def f18_r2 : List EOper := [⟨(some (K.ofNat 12)), none, .mv (.t (K.ofNat 8))⟩, ⟨(some (K.ofNat 13)), none, .bin .neq (.t (K.ofNat 12)) (.c (.i .i64 (.ofNat 0)))⟩]
noncomputable def f18_r3 : List EOper := [⟨(some (K.ofNat 14)), none, .mv (.t (K.ofNat 8))⟩, ⟨(some (K.ofNat 6)), none, .as (.c (.b false))⟩, ⟨(some (K.ofNat 7)), none, .as (.t (K.ofNat 14))⟩]
noncomputable def f18_r4 : List EOper := [⟨(some (K.ofNat 15)), none, .mv (.t (K.ofNat 0))⟩, ⟨(some (K.ofNat 16)), none, .mv (.t (K.ofNat 1))⟩, ⟨(some (K.ofNat 17)), none, .mv (.t (K.ofNat 2))⟩, ⟨(some (K.ofNat 18)), none, .call (.c (.fn (K.ofNat 62) [])) [(.t (K.ofNat 15)), (.t (K.ofNat 16)), (.t (K.ofNat 17))]⟩, ⟨(some (K.ofNat 6)), none, .as (.t (K.ofNat 18))⟩, ⟨(some (K.ofNat 7)), none, .as (.c (.i .i64 (.ofNat 0)))⟩]
noncomputable def f18_c : EC := (.seq (.reg f18_r0) (.seq (.seq (.reg f18_r1) (.seq (.reg f18_r2) (.cond (.t (K.ofNat 13)) (.seq (.reg f18_r3) .ret) .skip))) (.seq (.reg f18_r4) .ret)))
noncomputable def f18 : EF := ⟨19, [.tmp (K.ofNat 6), .tmp (K.ofNat 7)], f18_c, none⟩
theorem f18_rs : f18.rs = [.tmp (K.ofNat 6), .tmp (K.ofNat 7)] := of_eq_true (eq_self _)
noncomputable def f64_r0 : List EOper := [⟨(some (K.ofNat 6)), none, .as (.c (.i .i64 (.ofNat 0)))⟩]
noncomputable def f64_r1 : List EOper := [⟨(some (K.ofNat 8)), none, .mv (.t (K.ofNat 0))⟩, ⟨(some (K.ofNat 9)), none, .mv (.t (K.ofNat 1))⟩, ⟨(some (K.ofNat 10)), none, .call (.c (.fn (K.ofNat 17) [])) [(.t (K.ofNat 8)), (.t (K.ofNat 9))]⟩, ⟨(some (K.ofNat 7)), none, .as (.t (K.ofNat 10))⟩]
noncomputable def f64_r2 : List EOper := [⟨(some (K.ofNat 11)), none, .mv (.t (K.ofNat 7))⟩, ⟨(some (K.ofNat 12)), none, .bin .neq (.t (K.ofNat 11)) (.c (.i .i64 (.ofNat 0)))⟩]
noncomputable def f64_r3 : List EOper := [⟨(some (K.ofNat 13)), none, .mv (.t (K.ofNat 7))⟩, ⟨(some (K.ofNat 6)), none, .as (.t (K.ofNat 13))⟩]
noncomputable def f64_r4 : List EOper := [⟨(some (K.ofNat 14)), none, .mv (.t (K.ofNat 0))⟩, ⟨(some (K.ofNat 15)), none, .mv (.t (K.ofNat 1))⟩, ⟨(some (K.ofNat 16)), none, .mv (.t (K.ofNat 2))⟩, ⟨(some (K.ofNat 17)), none, .call (.c (.fn (K.ofNat 62) [])) [(.t (K.ofNat 14)), (.t (K.ofNat 15)), (.t (K.ofNat 16))]⟩, ⟨(some (K.ofNat 18)), none, .not (.t (K.ofNat 17))⟩]
noncomputable def f64_r5 : List EOper := [⟨(some (K.ofNat 6)), none, .as (.c (.i .i64 (.ofNat 1)))⟩]
noncomputable def f64_r6 : List EOper := [⟨(some (K.ofNat 6)), none, .as (.c (.i .i64 (.ofNat 0)))⟩]
noncomputable def f64_c : EC := (.seq (.reg f64_r0) (.seq (.seq (.reg f64_r1) (.seq (.reg f64_r2) (.cond (.t (K.ofNat 12)) (.seq (.reg f64_r3) .ret) .skip))) (.seq (.seq (.reg f64_r4) (.cond (.t (K.ofNat 18)) (.seq (.reg f64_r5) .ret) .skip)) (.seq (.reg f64_r6) .ret))))
noncomputable def f64 : EF := ⟨19, [.tmp (K.ofNat 6)], f64_c, none⟩
theorem f64_rs : f64.rs = [.tmp (K.ofNat 6)] := of_eq_true (eq_self _)
noncomputable def f20_r0 : List EOper := [⟨(some (K.ofNat 6)), none, .as (.c .sn)⟩, ⟨(some (K.ofNat 7)), none, .as (.c (.i .i64 (.ofNat 0)))⟩]
noncomputable def f20_r1 : List EOper := [⟨(some (K.ofNat 12)), none, .mv (.t (K.ofNat 0))⟩, ⟨(some (K.ofNat 13)), none, .mv (.t (K.ofNat 1))⟩, ⟨(some (K.ofNat 14)), none, .mv (.t (K.ofNat 2))⟩, ⟨(some (K.ofNat 15)), none, .call (.c (.fn (K.ofNat 64) [])) [(.t (K.ofNat 12)), (.t (K.ofNat 13)), (.t (K.ofNat 14))]⟩, ⟨(some (K.ofNat 8)), none, .as (.t (K.ofNat 15))⟩]
noncomputable def f20_r2 : List EOper := [⟨(some (K.ofNat 16)), none, .mv (.t (K.ofNat 8))⟩, ⟨(some (K.ofNat 17)), none, .bin .neq (.t (K.ofNat 16)) (.c (.i .i64 (.ofNat 0)))⟩]
noncomputable def f20_r3 : List EOper := [⟨(some (K.ofNat 18)), none, .mv (.t (K.ofNat 8))⟩, ⟨(some (K.ofNat 6)), none, .as (.c .sn)⟩, ⟨(some (K.ofNat 7)), none, .as (.t (K.ofNat 18))⟩]
noncomputable def f20_r4 : List EOper := [⟨(some (K.ofNat 19)), none, .mv (.t (K.ofNat 0))⟩, ⟨(some (K.ofNat 20)), none, .mkslice 1 [(.i .i64 (.ofNat 0))] (.t (K.ofNat 19))⟩, ⟨(some (K.ofNat 9)), none, .as (.t (K.ofNat 20))⟩]
noncomputable def f20_r5 : List EOper := [⟨(some (K.ofNat 21)), none, .mv (.t (K.ofNat 2))⟩, ⟨(some (K.ofNat 22)), none, .len (.t (K.ofNat 21))⟩, ⟨(some (K.ofNat 23)), none, .mv (.c (.i .i64 (.ofNat 0)))⟩]
noncomputable def f20_r6 : List EOper := [⟨(some (K.ofNat 24)), none, .bin .lss (.t (K.ofNat 23)) (.t (K.ofNat 22))⟩]
noncomputable def f20_r7 : List EOper := [⟨(some (K.ofNat 25)), none, .mv (.t (K.ofNat 23))⟩, ⟨(some (K.ofNat 26)), none, .iads 1 (.t (K.ofNat 21)) (.t (K.ofNat 23))⟩, ⟨(some (K.ofNat 27)), none, .ld (.t (K.ofNat 26))⟩, ⟨(some (K.ofNat 10)), none, .as (.t (K.ofNat 25))⟩, ⟨(some (K.ofNat 11)), none, .as (.t (K.ofNat 27))⟩]
noncomputable def f20_r8 : List EOper := [⟨(some (K.ofNat 28)), none, .mv (.t (K.ofNat 9))⟩, ⟨(some (K.ofNat 29)), none, .mv (.t (K.ofNat 10))⟩, ⟨(some (K.ofNat 30)), none, .mv (.t (K.ofNat 1))⟩, ⟨(some (K.ofNat 31)), none, .len (.t (K.ofNat 30))⟩, ⟨(some (K.ofNat 32)), none, .mv (.t (K.ofNat 11))⟩, ⟨(some (K.ofNat 33)), none, .bin .sub (.t (K.ofNat 31)) (.t (K.ofNat 32))⟩, ⟨(some (K.ofNat 34)), none, .iads 1 (.t (K.ofNat 28)) (.t (K.ofNat 29))⟩, ⟨none, none, .st 1 (.t (K.ofNat 34)) (.t (K.ofNat 33))⟩]
noncomputable def f20_r9 : List EOper := [⟨(some (K.ofNat 35)), none, .bin .add (.t (K.ofNat 23)) (.c (.i .i64 (.ofNat 1)))⟩, ⟨(some (K.ofNat 23)), none, .mv (.t (K.ofNat 35))⟩]
noncomputable def f20_l0 : EC := (.seq (.reg f20_r6) (.seq (.cond (.t (K.ofNat 24)) .skip (.exit 0)) (.seq (.block 1 (.seq (.reg f20_r7) (.reg f20_r8))) (.reg f20_r9))))
noncomputable def f20_r10 : List EOper := [⟨(some (K.ofNat 36)), none, .mv (.t (K.ofNat 9))⟩, ⟨(some (K.ofNat 6)), none, .as (.t (K.ofNat 36))⟩, ⟨(some (K.ofNat 7)), none, .as (.c (.i .i64 (.ofNat 0)))⟩]
noncomputable def f20_c : EC := (.seq (.reg f20_r0) (.seq (.seq (.reg f20_r1) (.seq (.reg f20_r2) (.cond (.t (K.ofNat 17)) (.seq (.reg f20_r3) .ret) .skip))) (.seq (.reg f20_r4) (.seq (.seq (.reg f20_r5) (.block 0 (.loop f20_l0))) (.seq (.reg f20_r10) .ret)))))
noncomputable def f20 : EF := ⟨37, [.tmp (K.ofNat 6), .tmp (K.ofNat 7)], f20_c, none⟩
theorem f20_rs : f20.rs = [.tmp (K.ofNat 6), .tmp (K.ofNat 7)] := of_eq_true (eq_self _)
structure CallsIg (fs : T EF) : Prop extends CallsC fs, CallsGr fs where
  c64 : fs.get (K.ofNat 64) = some f64
section
variable {fs : T EF} {ro : Option K} {h : H} {v w : V} {n : Int} {m : Nat} {E : List (Int × Int)} {L : List Int}
theorem f18_ok (k : CallsIg fs) (hv : Srp h v E) (hw : Sr iE h w L) (hc : HC h) (hL : L.length ≤ 1000000) (hn : chkI (m : Int) E = 0) : Ret fs f18 [.i .i64 (m : Int), v, w] h fun r h' => r = .tup [.b (grB (m : Int) E L), .i .i64 0] ∧ Grow h.nx.nat h h' := by
  obtain ⟨m', hm, _, hE⟩ := chkI_ok hn
  obtain rfl : m = m' := by omega
  apply ret_of rfl
  show W fs none f18_c _ _ _
  unfold f18_c
  have hE6 : E.length ≤ 1000000 := by have := hE.1; omega
  simp (disch := omega) only [f18_r0, f18_r1, w_reg, w_seq, seqK_n, x_nil, x_mv, x_as, x_call, ev_t, ev_c, evs_nil, evs_cons, getV_some, putD_some, frame_3, of0, getK_set, Nat.reduceEqDiff, ↓reduceIte]
  refine (callP_0 (ef := f17) k.c17 rfl (f17_ret (n := (m : Int)) k.toCallsC hv hc hE6)).mono ?_
  rintro r h1 ⟨rfl, hG⟩
  rw [hn]
  have d : decide ((0 : Int) ≠ 0) = false := rfl
  simp (disch := omega) only [f18_r2, f18_r4, w_skip, w_reg, w_seq, w_cond, seqK_n, ckB_b, cbB_b, true_and, x_nil, x_mv, x_as, x_bin, x_call, kx, rvP_ok, okv_some, ev_t, ev_c, evs_nil, evs_cons, getV_some, putD_some, bin_neq, of0, getK_set, Nat.reduceEqDiff, ↓reduceIte, Bool.false_eq_true, d]
  refine (callP_0 (ef := f62) k.c62 rfl (f62_ret k.toCallsGr (hv.grow hc hG) (hw.grow hc hG) (hG.hc hc) hE hL)).mono ?_
  rintro r h2 ⟨rfl, hG2⟩
  simp (disch := omega) only [f18_rs, w_ret, seqK_n, true_and, retK_r, x_nil, x_as, kx, ev_t, ev_c, getV_some, putD_some, oGet_s, readRs_nil, readRs_t, retV_2, Option.some.injEq, exists_eq_left', getK_set, Nat.reduceEqDiff, ↓reduceIte, true_and]
  exact hG.trans (hG2.low hG.nx)
theorem f64_ok (k : CallsIg fs) (hv : Srp h v E) (hw : Sr iE h w L) (hc : HC h) (hL : L.length ≤ 1000000) (hn : chkI (m : Int) E = 0) : Ret fs f64 [.i .i64 (m : Int), v, w] h fun r h' => r = .i .i64 (if grB (m : Int) E L = true then 0 else 1) ∧ Grow h.nx.nat h h' := by
  obtain ⟨m', hm, _, hE⟩ := chkI_ok hn
  obtain rfl : m = m' := by omega
  apply ret_of rfl
  show W fs none f64_c _ _ _
  unfold f64_c
  have hE6 : E.length ≤ 1000000 := by have := hE.1; omega
  simp (disch := omega) only [f64_r0, f64_r1, w_reg, w_seq, seqK_n, x_nil, x_mv, x_as, x_call, ev_t, ev_c, evs_nil, evs_cons, getV_some, putD_some, frame_3, of0, getK_set, Nat.reduceEqDiff, ↓reduceIte]
  refine (callP_0 (ef := f17) k.c17 rfl (f17_ret (n := (m : Int)) k.toCallsC hv hc hE6)).mono ?_
  rintro r h1 ⟨rfl, hG⟩
  rw [hn]
  have d : decide ((0 : Int) ≠ 0) = false := rfl
  simp (disch := omega) only [f64_r2, f64_r4, w_skip, w_reg, w_seq, w_cond, seqK_n, ckB_b, cbB_b, true_and, x_nil, x_mv, x_as, x_bin, x_call, kx, rvP_ok, okv_some, ev_t, ev_c, evs_nil, evs_cons, getV_some, putD_some, bin_neq, of0, getK_set, Nat.reduceEqDiff, ↓reduceIte, Bool.false_eq_true, d]
  refine (callP_0 (ef := f62) k.c62 rfl (f62_ret k.toCallsGr (hv.grow hc hG) (hw.grow hc hG) (hG.hc hc) hE hL)).mono ?_
  rintro r h2 ⟨rfl, hG2⟩
  have hGG := hG.trans (hG2.low hG.nx)
  cases grB (m : Int) E L with
  | true =>
    simp (disch := omega) only [f64_r6, f64_rs, w_skip, w_reg, w_seq, w_cond, w_ret, seqK_n, ckB_b, cbB_b, true_and, retK_r, x_nil, x_as, x_not, kx, rvP_ok, ev_t, ev_c, getV_some, putD_some, onB_b, oGet_s, readRs_nil, readRs_t, retV_1, of0, Option.some.injEq, exists_eq_left', getK_set, ↓reduceIte, Bool.false_eq_true, Bool.not_true, Bool.not_true, true_and]
    exact hGG
  | false =>
    simp (disch := omega) only [f64_r5, f64_rs, w_reg, w_seq, w_cond, w_ret, seqK_n, seqK_r, ckB_b, cbB_b, true_and, retK_r, x_nil, x_as, x_not, kx, rvP_ok, ev_t, ev_c, getV_some, putD_some, onB_b, oGet_s, readRs_nil, readRs_t, retV_1, of1, Option.some.injEq, exists_eq_left', getK_set, ↓reduceIte, Bool.false_eq_true, Bool.not_false, Bool.not_false, true_and]
    exact hGG
theorem gr_labs (hg : grB (m : Int) E L = true) : L.length = m ∧ LabOk E L := by
  unfold grB at hg
  simp only [Bool.and_eq_true, decide_eq_true_eq] at hg
  exact ⟨by omega, labs_in hg.2.1⟩
/-- The turned labels. -/
def turnL (E : List (Int × Int)) (L : List Int) : List Int := L.map fun x => (E.length : Int) - x
def f20_I (h : H) (v w u : V) (E : List (Int × Int)) (L : List Int) (j : Nat) (fr : Fr) (h1 : H) : Prop := j ≤ L.length ∧ Grow h.nx.nat h h1 ∧ (∃ M : List Int, M.length = L.length ∧ (∀ i (hi : i < L.length) (hm : i < M.length), i < j → M[i] = (E.length : Int) - L[i]) ∧ Sl iE h1 u M) ∧ fr.get (K.ofNat 1) = some (v) ∧ fr.get (K.ofNat 2) = some (w) ∧ fr.get (K.ofNat 9) = some (u) ∧ fr.get (K.ofNat 21) = some (w) ∧ fr.get (K.ofNat 22) = some (.i .i64 (L.length : Int)) ∧ fr.get (K.ofNat 23) = some (.i .i64 (j : Int))
theorem f20_ok (k : CallsIg fs) (hv : Srp h v E) (hw : Sr iE h w L) (hc : HC h) (hL : L.length ≤ 1000000) (hn : chkI (m : Int) E = 0) (hg : grB (m : Int) E L = true) : Ret fs f20 [.i .i64 (m : Int), v, w] h fun r h' => ∃ u, r = .tup [u, .i .i64 0] ∧ Sl iE h' u (turnL E L) ∧ Own h.nx.nat u ∧ Grow h.nx.nat h h' := by
  obtain ⟨hLm, hlin⟩ := gr_labs hg
  obtain ⟨m', hm, _, hE⟩ := chkI_ok hn
  have hE10 : E.length ≤ 10 := hE.1
  apply ret_of rfl
  show W fs none f20_c _ _ _
  unfold f20_c
  simp (disch := omega) only [f20_r0, f20_r1, w_reg, w_seq, seqK_n, x_nil, x_mv, x_as, x_call, ev_t, ev_c, evs_nil, evs_cons, getV_some, putD_some, frame_3, of0, getK_set, Nat.reduceEqDiff, ↓reduceIte]
  refine (callP_0 (ef := f64) k.c64 rfl (f64_ok k hv hw hc hL hn)).mono ?_
  rintro r h1 ⟨rfl, hG⟩
  rw [hg]
  have d : decide ((0 : Int) ≠ 0) = false := rfl
  have hmk : ∀ {k : IntKind}, mksV 1 [.i .i64 0] h1 (.i k (m : Int)) = .ok (.sl h1.nx 0 m 1) (h1.new (.cells (m * 1) (rep [.i .i64 0] m))) := mks_ints (by omega)
  have hs0 := mks_sl (h := h1) (n := m)
  have gl := Grow.new hG.nx (.cells (m * 1) (rep [.i .i64 0] m))
  have hG0 := hG.trans gl
  simp (disch := omega) only [f20_r2, f20_r4, f20_r5, w_skip, w_reg, w_seq, w_cond, w_block, seqK_n, ckB_b, cbB_b, true_and, x_nil, x_mv, x_as, x_bin, x_mks, x_len, kx, rvP_ok, okv_some, ev_t, ev_c, getV_some, putD_some, bin_neq, of0, getK_set, Nat.reduceEqDiff, ↓reduceIte, Bool.false_eq_true, d, hmk, hw.len]
  refine W_loop (f20_I h v w (.sl h1.nx 0 m 1) E L) (fun j => L.length - j) ?_ 0 ⟨by omega, hG0, ⟨_, by simp; omega, fun i _ _ h => by omega, hs0⟩, by simp (disch := omega) only [getK_set, Nat.reduceEqDiff, ↓reduceIte, and_self, Int.natCast_zero]⟩
  rintro j fr h2 ⟨hj, hG2, ⟨M, hM, hMe, hS⟩, g1, g2, g9, g21, g22, g23⟩
  have hc2 := hG2.hc hc
  have hv2 := hv.grow hc hG2
  have hw2 := hw.grow hc hG2
  unfold f20_l0
  by_cases hlt : j < L.length
  · have d1 : decide ((j : Int) < (L.length : Int)) = true := by simpa using hlt
    obtain ⟨p, hp1, hp2⟩ := hw2.at j hlt
    obtain ⟨q1, q2⟩ := hlin _ (List.getElem_mem hlt)
    obtain ⟨r', id', m', cs', hst1, hst2, hst3, ⟨off', n', sz', hid⟩, hst5⟩ := hS.st (i := j) (by omega) (x := (E.length : Int) - L[j]) (c := .i .i64 ((E.length : Int) - L[j])) rfl rfl hc2
    injection hid with hid _ _ _
    simp (disch := omega) only [f20_r6, f20_r7, f20_r8, f20_r9, w_skip, w_reg, w_seq, w_cond, w_block, seqK_n, atK_n, loopK_n, ckB_b, cbB_b, true_and, x_nil, x_mv, x_as, x_ld, x_st, x_bin, x_iads, x_len, kx, rvP_ok, okv_some, ev_t, ev_c, getV_some, putD_some, putD_none, bin_add, bin_sub, bin_lss, of1, getK_set, Nat.reduceEqDiff, ↓reduceIte, g1, g9, g21, g22, g23, d1, hp1, hp2, iE, hv2.len, fw64, hst1, hst2]
    refine ⟨j + 1, by omega, by omega, hG2.trans (Grow.put (by rw [← hid]; exact hG.nx) hst5 _), ⟨_, by simpa using hM, fun i hi hi2 hij => ?_, hst3⟩, by simp (disch := omega) only [getK_set, Nat.reduceEqDiff, ↓reduceIte, g1, g2, g9, g21, g22, and_self, Int.natCast_add, Int.natCast_one]⟩
    rw [List.getElem_set]
    by_cases e : j = i
    · subst e; simp
    · rw [if_neg e]; exact hMe i hi (by omega) (by omega)
  · have d1 : decide ((j : Int) < (L.length : Int)) = false := by simpa using hlt
    have hML : M = turnL E L := by
      unfold turnL
      apply List.ext_getElem (by simp; omega)
      intro i h1 h2
      rw [List.getElem_map]
      exact hMe i (by simpa using h2) h1 (by omega)
    rw [hML] at hS
    simp (disch := omega) only [f20_r6, f20_r10, f20_rs, w_reg, w_seq, w_cond, w_exit, w_ret, seqK_n, seqK_e, atK_e, loopK_e, ckB_b, cbB_b, true_and, retK_r, x_nil, x_mv, x_as, x_bin, kx, rvP_ok, okv_some, ev_t, ev_c, getV_some, putD_some, bin_lss, oGet_s, readRs_nil, readRs_t, retV_2, of0, Option.some.injEq, exists_eq_left', getK_set, Nat.reduceEqDiff, ↓reduceIte, Bool.false_eq_true, g9, g22, g23, d1]
    exact ⟨_, rfl, hS, fun _ _ _ _ e => by injection e with e1 _ _ _; rw [← e1]; exact hG.nx, hG2⟩
end
end Go.Ev
namespace Go.Ev
open Go Go.RowKit
section
variable {fs : T EF} {ro : Option K} {h : H} {v w : V} {n : Nat} {E : List (Int × Int)} {L : List Int} {x : Int}
end
end Go.Ev
namespace Go.Ev
open Go Go.RowKit
def prt1 (L : List Int) (c : Int) (e : Int × Int) : Bool := decide (L.getD e.1.toNat 0 ≤ c) != decide (L.getD e.2.toNat 0 ≤ c)
/-- Do the labels part by c? -/
def prtC (E : List (Int × Int)) (L : List Int) (c : Int) : Bool := E.all (prt1 L c)
/-- The least number by which they part. -/
def prtO (E : List (Int × Int)) (L : List Int) : Option Int := firstF (fun c => if prtC E L c = true then some c else none) 0 E.length
section
variable {fs : T EF} {ro : Option K} {h : H} {v w : V} {n : Nat} {E : List (Int × Int)} {L : List Int}
theorem all_snoc {p : Int × Int → Bool} {j : Nat} (hj : j < E.length) : (E.take (j + 1)).all p = ((E.take j).all p && p E[j]) := by
  rw [List.take_succ_eq_append_getElem hj, List.all_append]; simp
end
end Go.Ev
namespace Go.Ev
open Go Go.RowKit
noncomputable def f63_r0 : List EOper := [⟨(some (K.ofNat 4)), none, .as (.c (.i .i64 (.ofNat 0)))⟩, ⟨(some (K.ofNat 5)), none, .as (.c (.b false))⟩]
noncomputable def f63_r1 : List EOper := [⟨(some (K.ofNat 6)), none, .as (.c .sn)⟩, ⟨(some (K.ofNat 7)), none, .as (.c .sn)⟩]
noncomputable def f63_r2 : List EOper := [⟨(some (K.ofNat 16)), none, .mv (.t (K.ofNat 0))⟩, ⟨(some (K.ofNat 17)), none, .len (.t (K.ofNat 16))⟩, ⟨(some (K.ofNat 18)), none, .mv (.c (.i .i64 (.ofNat 0)))⟩]
noncomputable def f63_r3 : List EOper := [⟨(some (K.ofNat 19)), none, .bin .lss (.t (K.ofNat 18)) (.t (K.ofNat 17))⟩]
noncomputable def f63_r4 : List EOper := [⟨(some (K.ofNat 20)), none, .iads 2 (.t (K.ofNat 16)) (.t (K.ofNat 18))⟩, ⟨(some (K.ofNat 21)), none, .ldn 2 (.t (K.ofNat 20))⟩, ⟨(some (K.ofNat 9)), none, .alloc 2 [(.i .i64 (.ofNat 0)), (.i .i64 (.ofNat 0))]⟩, ⟨none, none, .st 2 (.t (K.ofNat 9)) (.t (K.ofNat 21))⟩]
noncomputable def f63_r5 : List Stage := [⟨[⟨(some (K.ofNat 23)), none, .mv (.t (K.ofNat 1))⟩, ⟨(some (K.ofNat 24)), none, .iadr 2 1 (.t (K.ofNat 9)) (.c (.i .i64 (.ofNat 0)))⟩, ⟨(some (K.ofNat 25)), none, .ld (.t (K.ofNat 24))⟩, ⟨(some (K.ofNat 26)), none, .iads 1 (.t (K.ofNat 23)) (.t (K.ofNat 25))⟩, ⟨(some (K.ofNat 27)), none, .ld (.t (K.ofNat 26))⟩, ⟨(some (K.ofNat 28)), none, .mv (.t (K.ofNat 1))⟩, ⟨(some (K.ofNat 29)), none, .iadr 2 1 (.t (K.ofNat 9)) (.c (.i .i64 (.ofNat 1)))⟩, ⟨(some (K.ofNat 30)), none, .ld (.t (K.ofNat 29))⟩, ⟨(some (K.ofNat 31)), none, .iads 1 (.t (K.ofNat 28)) (.t (K.ofNat 30))⟩, ⟨(some (K.ofNat 32)), none, .ld (.t (K.ofNat 31))⟩, ⟨(some (K.ofNat 33)), none, .bslice 1 1 [(.i .i64 (.ofNat 0))] [(0, 1, (.t (K.ofNat 32)))]⟩], [], (some ⟨(some (K.ofNat 34)), none, .call (.c (.fn (K.ofNat 102) [])) [(.t (K.ofNat 27)), (.t (K.ofNat 33))]⟩), [(K.ofNat 33)]⟩, ⟨[⟨(some (K.ofNat 22)), none, .mv (.t (K.ofNat 34))⟩, ⟨(some (K.ofNat 35)), none, .ext (.t (K.ofNat 22)) 0⟩, ⟨(some (K.ofNat 36)), none, .ext (.t (K.ofNat 22)) 1⟩], [], (some ⟨(some (K.ofNat 10)), none, .as (.t (K.ofNat 35))⟩), []⟩, ⟨[], [⟨(some (K.ofNat 36)), none, .ext (.t (K.ofNat 22)) 1⟩], (some ⟨(some (K.ofNat 11)), none, .as (.t (K.ofNat 36))⟩), []⟩, ⟨[], [], none, []⟩]
noncomputable def f63_r6 : List EOper := [⟨(some (K.ofNat 37)), none, .mv (.t (K.ofNat 6))⟩, ⟨(some (K.ofNat 38)), none, .mv (.t (K.ofNat 10))⟩, ⟨(some (K.ofNat 39)), none, .bslice 1 1 [(.i .i64 (.ofNat 0))] [(0, 1, (.t (K.ofNat 38)))]⟩, ⟨(some (K.ofNat 40)), none, .app 1 (.t (K.ofNat 37)) (.t (K.ofNat 39))⟩, ⟨(some (K.ofNat 6)), none, .as (.t (K.ofNat 40))⟩]
noncomputable def f63_r7 : List EOper := [⟨(some (K.ofNat 41)), none, .mv (.t (K.ofNat 7))⟩, ⟨(some (K.ofNat 42)), none, .mv (.t (K.ofNat 11))⟩, ⟨(some (K.ofNat 43)), none, .bslice 1 1 [(.i .i64 (.ofNat 0))] [(0, 1, (.t (K.ofNat 42)))]⟩, ⟨(some (K.ofNat 44)), none, .app 1 (.t (K.ofNat 41)) (.t (K.ofNat 43))⟩, ⟨(some (K.ofNat 7)), none, .as (.t (K.ofNat 44))⟩]
noncomputable def f63_r8 : List EOper := [⟨(some (K.ofNat 45)), none, .bin .add (.t (K.ofNat 18)) (.c (.i .i64 (.ofNat 1)))⟩, ⟨(some (K.ofNat 18)), none, .mv (.t (K.ofNat 45))⟩]
noncomputable def f63_l0 : EC := (.seq (.reg f63_r3) (.seq (.cond (.t (K.ofNat 19)) .skip (.exit 0)) (.seq (.block 1 (.seq (.reg f63_r4) (.seq (.draw f63_r5) (.seq (.reg f63_r6) (.reg f63_r7))))) (.reg f63_r8))))
noncomputable def f63_r9 : List Stage := [⟨[⟨(some (K.ofNat 47)), none, .mv (.t (K.ofNat 6))⟩, ⟨(some (K.ofNat 48)), none, .iads 1 (.t (K.ofNat 47)) (.c (.i .i64 (.ofNat 0)))⟩, ⟨(some (K.ofNat 49)), none, .ld (.t (K.ofNat 48))⟩, ⟨(some (K.ofNat 50)), none, .mv (.t (K.ofNat 6))⟩, ⟨(some (K.ofNat 51)), none, .slice 1 (.t (K.ofNat 50)) (some (.c (.i .i64 (.ofNat 1)))) none none⟩], [], (some ⟨(some (K.ofNat 52)), none, .call (.c (.fn (K.ofNat 102) [])) [(.t (K.ofNat 49)), (.t (K.ofNat 51))]⟩), []⟩, ⟨[⟨(some (K.ofNat 46)), none, .mv (.t (K.ofNat 52))⟩, ⟨(some (K.ofNat 53)), none, .ext (.t (K.ofNat 46)) 0⟩, ⟨(some (K.ofNat 54)), none, .ext (.t (K.ofNat 46)) 1⟩], [], (some ⟨(some (K.ofNat 12)), none, .as (.t (K.ofNat 53))⟩), []⟩, ⟨[], [⟨(some (K.ofNat 54)), none, .ext (.t (K.ofNat 46)) 1⟩], (some ⟨(some (K.ofNat 13)), none, .as (.t (K.ofNat 54))⟩), []⟩, ⟨[], [], none, []⟩]
noncomputable def f63_r10 : List Stage := [⟨[⟨(some (K.ofNat 56)), none, .mv (.t (K.ofNat 7))⟩, ⟨(some (K.ofNat 57)), none, .iads 1 (.t (K.ofNat 56)) (.c (.i .i64 (.ofNat 0)))⟩, ⟨(some (K.ofNat 58)), none, .ld (.t (K.ofNat 57))⟩, ⟨(some (K.ofNat 59)), none, .mv (.t (K.ofNat 7))⟩, ⟨(some (K.ofNat 60)), none, .slice 1 (.t (K.ofNat 59)) (some (.c (.i .i64 (.ofNat 1)))) none none⟩], [], (some ⟨(some (K.ofNat 61)), none, .call (.c (.fn (K.ofNat 102) [])) [(.t (K.ofNat 58)), (.t (K.ofNat 60))]⟩), []⟩, ⟨[⟨(some (K.ofNat 55)), none, .mv (.t (K.ofNat 61))⟩, ⟨(some (K.ofNat 62)), none, .ext (.t (K.ofNat 55)) 0⟩, ⟨(some (K.ofNat 63)), none, .ext (.t (K.ofNat 55)) 1⟩], [], (some ⟨(some (K.ofNat 14)), none, .as (.t (K.ofNat 62))⟩), []⟩, ⟨[], [⟨(some (K.ofNat 63)), none, .ext (.t (K.ofNat 55)) 1⟩], (some ⟨(some (K.ofNat 15)), none, .as (.t (K.ofNat 63))⟩), []⟩, ⟨[], [], none, []⟩]
noncomputable def f63_r11 : List EOper := [⟨(some (K.ofNat 64)), none, .mv (.t (K.ofNat 14))⟩, ⟨(some (K.ofNat 65)), none, .mv (.t (K.ofNat 13))⟩, ⟨(some (K.ofNat 66)), none, .bin .leq (.t (K.ofNat 64)) (.t (K.ofNat 65))⟩]
noncomputable def f63_r12 : List EOper := [⟨(some (K.ofNat 4)), none, .as (.c (.i .i64 (.ofNat 0)))⟩, ⟨(some (K.ofNat 5)), none, .as (.c (.b false))⟩]
noncomputable def f63_r13 : List EOper := [⟨(some (K.ofNat 67)), none, .mv (.t (K.ofNat 13))⟩, ⟨(some (K.ofNat 4)), none, .as (.t (K.ofNat 67))⟩, ⟨(some (K.ofNat 5)), none, .as (.c (.b true))⟩]
noncomputable def f63_c : EC := (.seq (.reg f63_r0) (.seq (.reg f63_r1) (.seq (.seq (.reg f63_r2) (.block 0 (.loop f63_l0))) (.seq (.draw f63_r9) (.seq (.draw f63_r10) (.seq (.seq (.reg f63_r11) (.cond (.t (K.ofNat 66)) (.seq (.reg f63_r12) .ret) .skip)) (.seq (.reg f63_r13) .ret)))))))
noncomputable def f63 : EF := ⟨68, [.tmp (K.ofNat 4), .tmp (K.ofNat 5)], f63_c, none⟩
theorem f63_rs : f63.rs = [.tmp (K.ofNat 4), .tmp (K.ofNat 5)] := of_eq_true (eq_self _)
noncomputable def f19_r0 : List EOper := [⟨(some (K.ofNat 6)), none, .as (.c (.i .i64 (.ofNat 0)))⟩, ⟨(some (K.ofNat 7)), none, .as (.c (.b false))⟩, ⟨(some (K.ofNat 8)), none, .as (.c (.i .i64 (.ofNat 0)))⟩]
noncomputable def f19_r1 : List EOper := [⟨(some (K.ofNat 12)), none, .mv (.t (K.ofNat 0))⟩, ⟨(some (K.ofNat 13)), none, .mv (.t (K.ofNat 1))⟩, ⟨(some (K.ofNat 14)), none, .call (.c (.fn (K.ofNat 17) [])) [(.t (K.ofNat 12)), (.t (K.ofNat 13))]⟩, ⟨(some (K.ofNat 9)), none, .as (.t (K.ofNat 14))⟩]
noncomputable def f19_r2 : List EOper := [⟨(some (K.ofNat 15)), none, .mv (.t (K.ofNat 9))⟩, ⟨(some (K.ofNat 16)), none, .bin .neq (.t (K.ofNat 15)) (.c (.i .i64 (.ofNat 0)))⟩]
noncomputable def f19_r3 : List EOper := [⟨(some (K.ofNat 17)), none, .mv (.t (K.ofNat 9))⟩, ⟨(some (K.ofNat 6)), none, .as (.c (.i .i64 (.ofNat 0)))⟩, ⟨(some (K.ofNat 7)), none, .as (.c (.b false))⟩, ⟨(some (K.ofNat 8)), none, .as (.t (K.ofNat 17))⟩]
noncomputable def f19_r4 : List EOper := [⟨(some (K.ofNat 18)), none, .mv (.t (K.ofNat 0))⟩, ⟨(some (K.ofNat 19)), none, .mv (.t (K.ofNat 1))⟩, ⟨(some (K.ofNat 20)), none, .mv (.t (K.ofNat 2))⟩, ⟨(some (K.ofNat 21)), none, .call (.c (.fn (K.ofNat 62) [])) [(.t (K.ofNat 18)), (.t (K.ofNat 19)), (.t (K.ofNat 20))]⟩, ⟨(some (K.ofNat 22)), none, .not (.t (K.ofNat 21))⟩]
noncomputable def f19_r5 : List EOper := [⟨(some (K.ofNat 6)), none, .as (.c (.i .i64 (.ofNat 0)))⟩, ⟨(some (K.ofNat 7)), none, .as (.c (.b false))⟩, ⟨(some (K.ofNat 8)), none, .as (.c (.i .i64 (.ofNat 0)))⟩]
noncomputable def f19_r6 : List EOper := [⟨(some (K.ofNat 24)), none, .mv (.t (K.ofNat 1))⟩, ⟨(some (K.ofNat 25)), none, .mv (.t (K.ofNat 2))⟩, ⟨(some (K.ofNat 26)), none, .call (.c (.fn (K.ofNat 63) [])) [(.t (K.ofNat 24)), (.t (K.ofNat 25))]⟩, ⟨(some (K.ofNat 23)), none, .mv (.t (K.ofNat 26))⟩, ⟨(some (K.ofNat 27)), none, .ext (.t (K.ofNat 23)) 0⟩, ⟨(some (K.ofNat 28)), none, .ext (.t (K.ofNat 23)) 1⟩, ⟨(some (K.ofNat 10)), none, .as (.t (K.ofNat 27))⟩, ⟨(some (K.ofNat 11)), none, .as (.t (K.ofNat 28))⟩]
noncomputable def f19_r7 : List EOper := [⟨(some (K.ofNat 29)), none, .mv (.t (K.ofNat 10))⟩, ⟨(some (K.ofNat 30)), none, .mv (.t (K.ofNat 11))⟩, ⟨(some (K.ofNat 6)), none, .as (.t (K.ofNat 29))⟩, ⟨(some (K.ofNat 7)), none, .as (.t (K.ofNat 30))⟩, ⟨(some (K.ofNat 8)), none, .as (.c (.i .i64 (.ofNat 0)))⟩]
noncomputable def f19_c : EC := (.seq (.reg f19_r0) (.seq (.seq (.reg f19_r1) (.seq (.reg f19_r2) (.cond (.t (K.ofNat 16)) (.seq (.reg f19_r3) .ret) .skip))) (.seq (.seq (.reg f19_r4) (.cond (.t (K.ofNat 22)) (.seq (.reg f19_r5) .ret) .skip)) (.seq (.reg f19_r6) (.seq (.reg f19_r7) .ret)))))
noncomputable def f19 : EF := ⟨31, [.tmp (K.ofNat 6), .tmp (K.ofNat 7), .tmp (K.ofNat 8)], f19_c, none⟩
theorem f19_rs : f19.rs = [.tmp (K.ofNat 6), .tmp (K.ofNat 7), .tmp (K.ofNat 8)] := of_eq_true (eq_self _)
def loE (L : List Int) (e : Int × Int) : Int := min (L.getD e.1.toNat 0) (L.getD e.2.toNat 0)
def hiE (L : List Int) (e : Int × Int) : Int := max (L.getD e.1.toNat 0) (L.getD e.2.toNat 0)
theorem maxL_le {x : Int} : ∀ {L : List Int} {a : Int}, maxL a L ≤ x ↔ a ≤ x ∧ ∀ y ∈ L, y ≤ x
  | [], a => by simp [maxL]
  | b :: L, a => by
    show maxL (max a b) L ≤ x ↔ _
    rw [maxL_le]
    simp only [List.mem_cons, forall_eq_or_imp]
    constructor
    · rintro ⟨h1, h2⟩; exact ⟨by omega, by omega, h2⟩
    · rintro ⟨h1, h2, h3⟩; exact ⟨by omega, h3⟩
theorem lt_minL {x : Int} : ∀ {L : List Int} {a : Int}, x < minL a L ↔ x < a ∧ ∀ y ∈ L, x < y
  | [], a => by simp [minL]
  | b :: L, a => by
    show x < minL (min a b) L ↔ _
    rw [lt_minL]
    simp only [List.mem_cons, forall_eq_or_imp]
    constructor
    · rintro ⟨h1, h2⟩; exact ⟨by omega, by omega, h2⟩
    · rintro ⟨h1, h2, h3⟩; exact ⟨by omega, h3⟩
theorem firstF_first {α : Type} {g : Int → Option α} {c : Int} {r : α} (hg : g c = some r) : ∀ {n : Nat} {a : Int}, a ≤ c → c < a + n → (∀ x, a ≤ x → x < c → g x = none) → firstF g a n = some r
  | 0, a, h1, h2, _ => by omega
  | n + 1, a, h1, h2, h3 => by
    rw [firstF_succ]
    by_cases e : a = c
    · rw [e, hg]
    · rw [h3 a (by omega) (by omega)]
      exact firstF_first hg (by omega) (by omega) fun x h4 h5 => h3 x (by omega) h5
theorem firstF_no {α : Type} {g : Int → Option α} : ∀ {n : Nat} {a : Int}, (∀ x, g x = none) → firstF g a n = none
  | 0, _, _ => rfl
  | n + 1, a, h => by rw [firstF_succ, h]; exact firstF_no h
def cE (E : List (Int × Int)) (L : List Int) : Int := maxL ((E.map (loE L)).headD 0) (E.map (loE L)).tail
def aE (E : List (Int × Int)) (L : List Int) : Int := minL ((E.map (hiE L)).headD 0) (E.map (hiE L)).tail
theorem prtC_iff {E : List (Int × Int)} {L : List Int} {x : Int} (hE : E ≠ []) : prtC E L x = true ↔ cE E L ≤ x ∧ x < aE E L := by
  have h1 : ∀ e, prt1 L x e = true ↔ loE L e ≤ x ∧ x < hiE L e := fun e => by
    unfold prt1 loE hiE
    generalize L.getD e.1.toNat 0 = p
    generalize L.getD e.2.toNat 0 = q
    by_cases hp : p ≤ x <;> by_cases hq : q ≤ x <;> simp [hp, hq] <;> omega
  unfold prtC cE aE
  rw [List.all_eq_true, maxL_le, lt_minL]
  cases E with
  | nil => exact absurd rfl hE
  | cons e E =>
    simp only [List.map_cons, List.headD_cons, List.tail_cons, List.mem_map, List.mem_cons, forall_eq_or_imp, forall_exists_index, and_imp, forall_apply_eq_imp_iff₂, h1]
    constructor
    · rintro ⟨⟨a1, a2⟩, a3⟩; exact ⟨⟨a1, fun y hy => (a3 y hy).1⟩, a2, fun y hy => (a3 y hy).2⟩
    · rintro ⟨⟨a1, a2⟩, a3, a4⟩; exact ⟨⟨a1, a3⟩, fun y hy => ⟨a2 y hy, a4 y hy⟩⟩
theorem prt_eq {E : List (Int × Int)} {L : List Int} (hE : E ≠ []) (h0 : 0 ≤ cE E L) (hm : aE E L ≤ E.length) : prtO E L = if aE E L ≤ cE E L then none else some (cE E L) := by
  unfold prtO
  split
  · rename_i h
    refine firstF_no fun x => ?_
    rw [if_neg]
    rw [prtC_iff hE]
    omega
  · rename_i h
    refine firstF_first (c := cE E L) (by rw [if_pos ((prtC_iff hE).2 ⟨Int.le_refl _, by omega⟩)]) h0 (by omega) fun x h1 h2 => ?_
    rw [if_neg]
    rw [prtC_iff hE]
    omega
theorem stay_ext {fs : T EF} {fr : Fr} {h : H} {x : EO} {k : K} {i : Nat} : (stays fs goNo fr h ⟨some k, none, .ext x i⟩ = true) = again ((ev fr x).onTup fun l => okv (nth l i) h) (getV (fr.get k)) := chk_again
structure CallsPt (fs : T EF) : Prop where
  c63 : fs.get (K.ofNat 63) = some f63
  c102 : fs.get (K.ofNat 102) = some f102
section
variable {fs : T EF} {ro : Option K} {h : H} {v w : V} {n : Nat} {E : List (Int × Int)} {L : List Int}
def f63_I (h : H) (v w : V) (E : List (Int × Int)) (L : List Int) (j : Nat) (fr : Fr) (h1 : H) : Prop := j ≤ E.length ∧ Grow h.nx.nat h h1 ∧ ∃ u1 u2, Sl iE h1 u1 ((E.take j).map (loE L)) ∧ Own h.nx.nat u1 ∧ Sl iE h1 u2 ((E.take j).map (hiE L)) ∧ Own h.nx.nat u2 ∧ (∀ id off n sz, u2 = .sl id off n sz → NotIn id u1) ∧ fr.get (K.ofNat 1) = some (w) ∧ fr.get (K.ofNat 6) = some (u1) ∧ fr.get (K.ofNat 7) = some (u2) ∧ fr.get (K.ofNat 16) = some (v) ∧ fr.get (K.ofNat 17) = some (.i .i64 (E.length : Int)) ∧ fr.get (K.ofNat 18) = some (.i .i64 (j : Int))
theorem f63_ret (k : CallsPt fs) (hv : Srp h v E) (hw : Sr iE h w L) (hc : HC h) (hE : EdgesOk n E) (hne : E ≠ []) (hlin : LabOk E L) (hn : L.length = n) : Ret fs f63 [v, w] h fun r h' => r = .tup [.i .i64 ((prtO E L).getD 0), .b (prtO E L).isSome] ∧ Grow h.nx.nat h h' := by
  have hE0 := hE
  obtain ⟨hE10, _, hE3⟩ := hE
  apply ret_of rfl
  show W fs none f63_c _ _ _
  unfold f63_c
  simp (disch := omega) only [f63_r0, f63_r1, f63_r2, w_reg, w_seq, w_block, seqK_n, x_nil, x_mv, x_as, x_len, kx, rvP_ok, ev_t, ev_c, getV_some, putD_some, frame_2, of0, getK_set, Nat.reduceEqDiff, ↓reduceIte, hv.len]
  refine W_loop (f63_I h v w E L) (fun j => E.length - j) ?_ 0 ⟨by omega, Grow.refl _ _, .sn, .sn, Sl.nil, Own.sn, Sl.nil, Own.sn, (fun _ _ _ _ e => by cases e), by simp (disch := omega) only [getK_set, Nat.reduceEqDiff, ↓reduceIte, and_self, Int.natCast_zero]⟩
  rintro j fr h1 ⟨hj, hG, u1, u2, hs1, ho1, hs2, ho2, hap, g1, g6, g7, g16, g17, g18⟩
  have hc1 := hG.hc hc
  have hv1 := hv.grow hc hG
  unfold f63_l0
  by_cases hlt : j < E.length
  · have d0 : decide ((j : Int) < (E.length : Int)) = true := by simpa using hlt
    obtain ⟨ide, q, hp1, hp2, _, _⟩ := hv1.at2 hlt
    obtain ⟨a, b, d, ha, hb, ea, eb, hab, ed, ead, hdE, la, lb⟩ := dfE_in hE0 hlin hn hlt
    have elo : loE L E[j] = min L[a] L[b] := by unfold loE; rw [ea, eb]; simp [List.getD_eq_getElem?_getD, ha, hb]
    have ehi : hiE L E[j] = max L[a] L[b] := by unfold hiE; rw [ea, eb]; simp [List.getD_eq_getElem?_getD, ha, hb]
    have hst2 : storeV (h1.new (.cells 2 zz)) 2 (.p h1.nx 0) (.agg [.i .i64 E[j].1, .i .i64 E[j].2]) = .ok undefV ((h1.new (.cells 2 zz)).put h1.nx (.cells 2 [.i .i64 E[j].1, .i .i64 E[j].2])) := st2 (a := .i .i64 (.ofNat 0)) (b := .i .i64 (.ofNat 0)) get_new_same
    have nx1 := nx_new h1 (.cells 2 zz)
    have gA : Grow h1.nx.nat h1 ((h1.new (.cells 2 zz)).put h1.nx (.cells 2 [.i .i64 E[j].1, .i .i64 E[j].2])) := (Grow.new (Nat.le_refl _) _).trans (Grow.put (Nat.le_refl _) (by omega) _)
    have c12 : ((h1.new (.cells 2 zz)).put h1.nx (.cells 2 [.i .i64 E[j].1, .i .i64 E[j].2])).get h1.nx = .cells 2 [.i .i64 E[j].1, .i .i64 E[j].2] := get_put_same
    have hzz : ([.i .i64 0, .i .i64 0] : List V) = zz := rfl
    generalize hh2 : (h1.new (.cells 2 zz)).put h1.nx (.cells 2 [.i .i64 E[j].1, .i .i64 E[j].2]) = h3 at *
    have hG3 := hG.trans (gA.low hG.nx)
    have hc3 := hG3.hc hc
    have hw3 := hw.grow hc hG3
    have l0 : loadV h3 (.p h1.nx (0 + 0 * 1)) one? = .ok (.i .i64 E[j].1) h3 := load_p c12 rfl
    have l1 : loadV h3 (.p h1.nx (0 + 1 * 1)) one? = .ok (.i .i64 E[j].2) h3 := load_p c12 rfl
    obtain ⟨s, hx1, hx2, hx3⟩ := hw3.atb a ha
    obtain ⟨t, ht1, ht2, ht3⟩ := hw3.atb b hb
    have hwb := hw.beq
    rw [ea] at l0
    rw [eb] at l1
    rw [ea, eb] at hst2 hp2
    have hlit := Sl.lit (e := iE) (x := L[b]) (h := h3)
    have gl := Grow.new (Nat.le_refl h3.nx.nat) (.cells (1 * 1) [iE L[b]])
    simp (disch := omega) only [f63_r3, f63_r4, f63_r5, w_skip, w_reg, w_draw, w_seq, w_cond, w_block, seqK_n, ckB_b, cbB_b, true_and, x_nil, x_alloc, x_ldn, x_st, x_bin, x_iads, x_call, kx, kg, xg_nil, xg_mv, xg_ld, xg_iadr, xg_iads, xg_bslice, xd_cons, stK_s, stay_nil, rvP_ok, okv_some, ev_t, ev_c, evs_nil, evs_cons, getV_some, putD_some, putD_none, bin_lss, onP_p, oGet_s, cells1_i, fill_1, set_1, of0, of1, Option.some.injEq, exists_eq_left', getK_set, Nat.reduceEqDiff, ↓reduceIte, ix2_0, ix2_1, g1, g16, g17, g18, d0, hp1, hp2, hzz, hst2, l0, l1, hx1, hx2, ht1, ht2, iE, hc3.dead, fill_1, set_1]
    refine ⟨fresh_one (n := 1) (sz := 1) (by simp (disch := omega) only [getK_set, ↓reduceIte]), ?_⟩
    refine (callP_0 (ef := f102) k.c102 rfl (f102_ret (a := L[a]) hlit.sr (by simp))).mono ?_
    rintro r h4 ⟨rfl, rfl⟩
    have gAl := gA.trans (gl.low gA.nx)
    have hGl := hG.trans (gAl.low hG.nx)
    have hcl := hGl.hc hc
    have hs1' := hs1.grow hc1 gAl
    have hs2' := hs2.grow hc1 gAl
    have em : minL L[a] [L[b]] = loE L E[j] := by rw [elo]; rfl
    have eM : maxL L[a] [L[b]] = hiE L E[j] := by rw [ehi]; rfl
    rw [em, eM]
    generalize h3.new (.cells (1 * 1) [iE L[b]]) = h5 at *
    obtain ⟨w1, h6, a1, p1, o1, gr1, kp1⟩ := Sl.push (e := iE) (x := loE L E[j]) (c := .i .i64 (loE L E[j])) rfl hs1' ho1 hGl.nx hcl (by simp; omega)
    have hG6 := hGl.trans gr1
    have hc6 := gr1.hc hcl
    have hs2'' : Sl iE h6 u2 ((E.take j).map (hiE L)) := hs2'.same fun id off n sz e => (kp1 id (hs2'.lt hcl _ _ _ _ e) (hap _ _ _ _ e)).1
    obtain ⟨w2, h7, a2, p2, o2, gr2, kp2⟩ := Sl.push (e := iE) (x := hiE L E[j]) (c := .i .i64 (hiE L E[j])) rfl hs2'' ho2 hG6.nx hc6 (by simp; omega)
    have hG7 := hG6.trans gr2
    -- the two slices stay apart
    have hap1 : ∀ id off n sz, w1 = .sl id off n sz → NotIn id u2 := fun id off n sz e off' n' sz' e' => (kp1 id (hs2'.lt hcl _ _ _ _ e') (hap _ _ _ _ e')).2 _ _ _ e
    have p1' : Sl iE h7 w1 ((E.take j).map (loE L) ++ [loE L E[j]]) := p1.same fun id off n sz e => (kp2 id (p1.lt hc6 _ _ _ _ e) (hap1 _ _ _ _ e)).1
    have hap2 : ∀ id off n sz, w2 = .sl id off n sz → NotIn id w1 := fun id off n sz e off' n' sz' e' => (kp2 id (p1.lt hc6 _ _ _ _ e') (hap1 _ _ _ _ e')).2 _ _ _ e
    simp (disch := omega) only [f63_r6, f63_r7, f63_r8, w_reg, w_seq, seqK_n, atK_n, loopK_n, true_and, x_nil, x_mv, x_as, x_bslice, x_bin, x_app, kx, kg, xg_nil, xg_mv, xg_ext, xd_cons, fresh_nil, stK_n, stK_s, stay_nil, stay_cons, again_ok, beq_i, rvP_ok, okv_some, ev_t, ev_c, getV_some, putD_some, bin_add, onTup_t, oGet_s, nth0, nth1, cells1_i, fill_1, set_1, of0, of1, getK_set, Nat.reduceEqDiff, ↓reduceIte, g6, g7, g18, fill_1, set_1, a1, a2, fw64, stay_ext, again_ok, beq_i]
    have e1 : (E.take j).map (loE L) ++ [loE L E[j]] = (E.take (j + 1)).map (loE L) := by rw [List.take_succ_eq_append_getElem hlt, List.map_append]; rfl
    have e2 : (E.take j).map (hiE L) ++ [hiE L E[j]] = (E.take (j + 1)).map (hiE L) := by rw [List.take_succ_eq_append_getElem hlt, List.map_append]; rfl
    rw [e1] at p1'
    rw [e2] at p2
    exact ⟨j + 1, by omega, by omega, hG7, w1, w2, p1', o1, p2, o2, hap2, by simp (disch := omega) only [getK_set, Nat.reduceEqDiff, ↓reduceIte, g1, g16, g17, and_self, Int.natCast_add, Int.natCast_one]⟩
  · have d0 : decide ((j : Int) < (E.length : Int)) = false := by simpa using hlt
    have ej : j = E.length := by omega
    rw [ej, List.take_length] at hs1 hs2
    have hpos := List.length_pos_iff.2 hne
    have hl1 : 0 < (E.map (loE L)).length := by simpa using hpos
    have hl2 : 0 < (E.map (hiE L)).length := by simpa using hpos
    have lim : ∀ {M : List Int} (hp : 0 < M.length), M[0] = M.headD 0 := fun {M} hp => by cases M with
      | nil => simp at hp
      | cons x l => rfl
    obtain ⟨p, hp1, hp2, hp3⟩ := hs1.atb 0 hl1
    obtain ⟨q, hq1, hq2, hq3⟩ := hs2.atb 0 hl2
    rw [lim hl1] at hp2
    rw [lim hl2] at hq2
    simp only [Int.natCast_zero] at hp1 hq1
    obtain ⟨v1, c1, d1, _⟩ := hs1.sr.cut (lo := some (.i .i64 1)) (hi := none) (l := 1) (u := (E.map (loE L)).length) rfl rfl (by omega) (by omega)
    obtain ⟨v2, c2, d2, _⟩ := hs2.sr.cut (lo := some (.i .i64 1)) (hi := none) (l := 1) (u := (E.map (hiE L)).length) rfl rfl (by omega) (by omega)
    rw [List.take_length, List.drop_one] at d1 d2
    have hb1 := hs1.beq
    have hb2 := hs2.beq
    have hv1b := d1.beq
    have hv2b := d2.beq
    simp (disch := omega) only [f63_r3, f63_r9, w_reg, w_draw, w_seq, w_cond, w_exit, seqK_n, seqK_e, atK_e, loopK_e, ckB_b, cbB_b, true_and, x_nil, x_bin, sliceV_eq, Option.map_none, Option.map_some, x_call, kx, kg, xg_nil, xg_mv, xg_ld, xg_slice, xg_iads, xd_cons, fresh_nil, stK_s, stay_nil, rvP_ok, okv_some, ev_t, ev_c, evs_nil, evs_cons, getV_some, putD_some, bin_lss, of0, of1, getK_set, Nat.reduceEqDiff, ↓reduceIte, Bool.false_eq_true, g6, g17, g18, d0, hp1, hp2, sliceV_eq, Option.map_none, Option.map_some, c1, iE]
    refine (callP_0 (ef := f102) k.c102 rfl (f102_ret d1 (by rw [List.length_tail, List.length_map]; omega))).mono ?_
    rintro r h4 ⟨rfl, rfl⟩
    simp (disch := omega) only [f63_r10, w_draw, w_seq, seqK_n, true_and, x_nil, x_as, sliceV_eq, Option.map_none, Option.map_some, x_call, kx, kg, xg_nil, xg_mv, xg_ld, xg_slice, xg_iads, xg_ext, xd_cons, fresh_nil, stK_n, stK_s, stay_nil, stay_cons, again_ok, beq_i, rvP_ok, okv_some, ev_t, ev_c, evs_nil, evs_cons, getV_some, putD_some, onTup_t, nth0, nth1, of0, of1, getK_set, Nat.reduceEqDiff, ↓reduceIte, g7, stay_ext, again_ok, beq_i, hq1, hq2, sliceV_eq, Option.map_none, Option.map_some, c2, iE]
    refine (callP_0 (ef := f102) k.c102 rfl (f102_ret d2 (by rw [List.length_tail, List.length_map]; omega))).mono ?_
    rintro r h5 ⟨rfl, rfl⟩
    obtain ⟨a, b, d, ha, hb, ea, eb, hab, _, _, _, la, lb⟩ := dfE_in hE0 hlin hn hpos
    have e1 : (E.map (loE L)).headD 0 = min L[a] L[b] := by
      rw [← lim hl1, List.getElem_map]; unfold loE; rw [ea, eb]; simp [List.getD_eq_getElem?_getD, ha, hb]
    have e2 : (E.map (hiE L)).headD 0 = max L[a] L[b] := by
      rw [← lim hl2, List.getElem_map]; unfold hiE; rw [ea, eb]; simp [List.getD_eq_getElem?_getD, ha, hb]
    have hla := hlin _ (List.getElem_mem ha)
    have hlb := hlin _ (List.getElem_mem hb)
    have hc0 : 0 ≤ cE E L := by
      have h9 := (maxL_le.1 (Int.le_refl (cE E L))).1
      omega
    have ham : aE E L ≤ (E.length : Int) := by
      have h9 : ¬ (E.map (hiE L)).headD 0 < aE E L := fun h9 => by have := (lt_minL.1 h9).1; omega
      omega
    have hpe := prt_eq hne hc0 ham
    show Go.Ev.kX fs [] _ _ _ _ _
    have eC : maxL ((E.map (loE L)).headD 0) (E.map (loE L)).tail = cE E L := rfl
    have eA : minL ((E.map (hiE L)).headD 0) (E.map (hiE L)).tail = aE E L := rfl
    rw [hpe]
    cases dd : decide (aE E L ≤ cE E L) with
    | true =>
      rw [if_pos (of_decide_eq_true dd)]
      simp (disch := omega) only [f63_r11, f63_r12, f63_rs, w_reg, w_seq, w_cond, w_ret, seqK_n, seqK_r, ckB_b, cbB_b, true_and, retK_r, x_nil, x_mv, x_as, x_bin, kx, kg, xg_nil, xg_mv, xg_ext, xd_cons, fresh_nil, stK_n, stK_s, stay_nil, stay_cons, again_ok, beq_i, rvP_ok, okv_some, ev_t, ev_c, getV_some, putD_some, bin_leq, onTup_t, oGet_s, nth0, nth1, readRs_nil, readRs_t, retV_2, of0, Option.some.injEq, exists_eq_left', getK_set, Nat.reduceEqDiff, ↓reduceIte, stay_ext, again_ok, beq_i, eC, eA, dd, Option.getD_none, Option.isSome_none, true_and]
      exact hG
    | false =>
      rw [if_neg (of_decide_eq_false dd)]
      simp (disch := omega) only [f63_r11, f63_r13, f63_rs, w_skip, w_reg, w_seq, w_cond, w_ret, seqK_n, ckB_b, cbB_b, true_and, retK_r, x_nil, x_mv, x_as, x_bin, kx, kg, xg_nil, xg_mv, xg_ext, xd_cons, fresh_nil, stK_n, stK_s, stay_nil, stay_cons, again_ok, beq_i, rvP_ok, okv_some, ev_t, ev_c, getV_some, putD_some, bin_leq, onTup_t, oGet_s, nth0, nth1, readRs_nil, readRs_t, retV_2, Option.some.injEq, exists_eq_left', getK_set, Nat.reduceEqDiff, ↓reduceIte, Bool.false_eq_true, stay_ext, again_ok, beq_i, eC, eA, dd, Option.getD_some, Option.isSome_some, true_and]
      exact hG
theorem chkI_ne {x : Int} (hn : chkI x E = 0) : E ≠ [] := by
  rintro rfl
  unfold chkI at hn
  split at hn
  · cases hn
  · simp at hn
structure CallsPs (fs : T EF) : Prop extends CallsIg fs where
  c63 : fs.get (K.ofNat 63) = some f63
theorem f19_ok {m : Nat} (k : CallsPs fs) (hv : Srp h v E) (hw : Sr iE h w L) (hc : HC h) (hL : L.length ≤ 1000000) (hn : chkI (m : Int) E = 0) : Ret fs f19 [.i .i64 (m : Int), v, w] h fun r h' => r = .tup [.i .i64 (if grB (m : Int) E L = true then (prtO E L).getD 0 else 0), .b (grB (m : Int) E L && (prtO E L).isSome), .i .i64 0] ∧ Grow h.nx.nat h h' := by
  obtain ⟨m', hm, _, hE⟩ := chkI_ok hn
  obtain rfl : m = m' := by omega
  apply ret_of rfl
  show W fs none f19_c _ _ _
  unfold f19_c
  have hE6 : E.length ≤ 1000000 := by have := hE.1; omega
  simp (disch := omega) only [f19_r0, f19_r1, w_reg, w_seq, seqK_n, x_nil, x_mv, x_as, x_call, ev_t, ev_c, evs_nil, evs_cons, getV_some, putD_some, frame_3, of0, getK_set, Nat.reduceEqDiff, ↓reduceIte]
  refine (callP_0 (ef := f17) k.c17 rfl (f17_ret (n := (m : Int)) k.toCallsC hv hc hE6)).mono ?_
  rintro r h1 ⟨rfl, hG⟩
  rw [hn]
  have d : decide ((0 : Int) ≠ 0) = false := rfl
  have hc1 := hG.hc hc
  have hv1 := hv.grow hc hG
  have hw1 := hw.grow hc hG
  simp (disch := omega) only [f19_r2, f19_r4, w_skip, w_reg, w_seq, w_cond, seqK_n, ckB_b, cbB_b, true_and, x_nil, x_mv, x_as, x_bin, x_call, kx, rvP_ok, okv_some, ev_t, ev_c, evs_nil, evs_cons, getV_some, putD_some, bin_neq, of0, getK_set, Nat.reduceEqDiff, ↓reduceIte, Bool.false_eq_true, d]
  refine (callP_0 (ef := f62) k.c62 rfl (f62_ret k.toCallsGr hv1 hw1 hc1 hE hL)).mono ?_
  rintro r h2 ⟨rfl, hG2⟩
  have hGG := hG.trans (hG2.low hG.nx)
  cases hg : grB (m : Int) E L with
  | false =>
    simp (disch := omega) only [f19_r5, f19_rs, w_reg, w_seq, w_cond, w_ret, seqK_n, seqK_r, ckB_b, cbB_b, true_and, retK_r, x_nil, x_as, x_not, kx, rvP_ok, ev_t, ev_c, getV_some, putD_some, onB_b, oGet_s, readRs_nil, readRs_t, retV_2, of0, Option.some.injEq, exists_eq_left', getK_set, Nat.reduceEqDiff, ↓reduceIte, Bool.false_eq_true, Bool.not_false, Bool.not_false, Bool.false_eq_true, Bool.false_and, true_and]
    exact hGG
  | true =>
    obtain ⟨hLm, hlin⟩ := gr_labs hg
    simp (disch := omega) only [f19_r6, w_skip, w_reg, w_seq, w_cond, seqK_n, ckB_b, cbB_b, true_and, x_nil, x_mv, x_not, x_call, kx, rvP_ok, ev_t, ev_c, evs_nil, evs_cons, getV_some, putD_some, onB_b, getK_set, Nat.reduceEqDiff, ↓reduceIte, Bool.false_eq_true, Bool.not_true, Bool.not_true]
    refine (callP_0 (ef := f63) k.c63 rfl (f63_ret ⟨k.c63, k.c102⟩ (hv1.grow hc1 hG2) (hw1.grow hc1 hG2) (hG2.hc hc1) hE (chkI_ne hn) hlin hLm)).mono ?_
    rintro r h3 ⟨rfl, hG3⟩
    simp (disch := omega) only [f19_r7, f19_rs, w_reg, w_seq, w_ret, seqK_n, true_and, retK_r, x_nil, x_mv, x_as, x_ext, kx, rvP_ok, okv_some, ev_t, ev_c, getV_some, putD_some, onTup_t, oGet_s, nth0, nth1, readRs_nil, readRs_t, retV_2, of0, Option.some.injEq, exists_eq_left', getK_set, Nat.reduceEqDiff, ↓reduceIte, Bool.true_and, true_and]
    exact hGG.trans (hG3.low hGG.nx)
end
end Go.Ev
namespace Go.Ev
open Go Go.RowKit
noncomputable def f28_r0 : List EOper := [⟨(some (K.ofNat 6)), none, .as (.c (.i .i64 (.ofNat 0)))⟩, ⟨(some (K.ofNat 7)), none, .as (.c .sn)⟩]
noncomputable def f28_r1 : List EOper := [⟨(some (K.ofNat 14)), none, .mv (.t (K.ofNat 0))⟩, ⟨(some (K.ofNat 15)), none, .conv .u64 (.t (K.ofNat 14))⟩, ⟨(some (K.ofNat 16)), none, .bin .rem (.t (K.ofNat 15)) (.c (.i .u64 (.ofNat 6)))⟩, ⟨(some (K.ofNat 17)), none, .conv .i64 (.t (K.ofNat 16))⟩, ⟨(some (K.ofNat 18)), none, .bin .add (.c (.i .i64 (.ofNat 2))) (.t (K.ofNat 17))⟩, ⟨(some (K.ofNat 0)), none, .as (.t (K.ofNat 18))⟩]
noncomputable def f28_r2 : List EOper := [⟨(some (K.ofNat 8)), none, .as (.c .sn)⟩]
noncomputable def f28_r3 : List EOper := [⟨(some (K.ofNat 9)), none, .as (.c (.i .i64 (.ofNat 0)))⟩]
noncomputable def f28_r4 : List EOper := [⟨(some (K.ofNat 19)), none, .mv (.t (K.ofNat 9))⟩, ⟨(some (K.ofNat 20)), none, .mv (.t (K.ofNat 0))⟩, ⟨(some (K.ofNat 21)), none, .bin .lss (.t (K.ofNat 19)) (.t (K.ofNat 20))⟩]
noncomputable def f28_r5 : List EOper := [⟨(some (K.ofNat 24)), none, .mv (.t (K.ofNat 9))⟩, ⟨(some (K.ofNat 25)), none, .bin .add (.t (K.ofNat 24)) (.c (.i .i64 (.ofNat 1)))⟩, ⟨(some (K.ofNat 10)), none, .as (.t (K.ofNat 25))⟩]
noncomputable def f28_r6 : List EOper := [⟨(some (K.ofNat 26)), none, .mv (.t (K.ofNat 10))⟩, ⟨(some (K.ofNat 27)), none, .mv (.t (K.ofNat 0))⟩, ⟨(some (K.ofNat 28)), none, .bin .lss (.t (K.ofNat 26)) (.t (K.ofNat 27))⟩]
noncomputable def f28_r7 : List EOper := [⟨(some (K.ofNat 11)), none, .as (.c (.i .i64 (.ofNat 0)))⟩]
noncomputable def f28_r8 : List EOper := [⟨(some (K.ofNat 31)), none, .mv (.t (K.ofNat 11))⟩, ⟨(some (K.ofNat 32)), none, .mv (.t (K.ofNat 1))⟩, ⟨(some (K.ofNat 33)), none, .len (.t (K.ofNat 32))⟩, ⟨(some (K.ofNat 34)), none, .bin .lss (.t (K.ofNat 31)) (.t (K.ofNat 33))⟩, ⟨(some (K.ofNat 35)), none, .mv (.t (K.ofNat 34))⟩, ⟨(some (K.ofNat 36)), (some ((K.ofNat 35), true)), .mv (.t (K.ofNat 8))⟩, ⟨(some (K.ofNat 37)), (some ((K.ofNat 35), true)), .len (.t (K.ofNat 36))⟩, ⟨(some (K.ofNat 38)), (some ((K.ofNat 35), true)), .mv (.t (K.ofNat 2))⟩, ⟨(some (K.ofNat 39)), (some ((K.ofNat 35), true)), .bin .lss (.t (K.ofNat 37)) (.t (K.ofNat 38))⟩, ⟨(some (K.ofNat 40)), none, .pick (.t (K.ofNat 35)) (.t (K.ofNat 39)) (.c (.b false))⟩]
noncomputable def f28_r9 : List Stage := [⟨[⟨(some (K.ofNat 43)), none, .mv (.t (K.ofNat 1))⟩, ⟨(some (K.ofNat 44)), none, .mv (.t (K.ofNat 11))⟩, ⟨(some (K.ofNat 45)), none, .iads 2 (.t (K.ofNat 43)) (.t (K.ofNat 44))⟩, ⟨(some (K.ofNat 46)), none, .iadr 2 1 (.t (K.ofNat 45)) (.c (.i .i64 (.ofNat 0)))⟩, ⟨(some (K.ofNat 47)), none, .ld (.t (K.ofNat 46))⟩, ⟨(some (K.ofNat 48)), none, .conv .u64 (.t (K.ofNat 47))⟩, ⟨(some (K.ofNat 49)), none, .mv (.t (K.ofNat 0))⟩, ⟨(some (K.ofNat 50)), none, .conv .u64 (.t (K.ofNat 49))⟩, ⟨(some (K.ofNat 51)), none, .bin .rem (.t (K.ofNat 48)) (.t (K.ofNat 50))⟩, ⟨(some (K.ofNat 52)), none, .conv .i64 (.t (K.ofNat 51))⟩, ⟨(some (K.ofNat 53)), none, .mv (.t (K.ofNat 1))⟩, ⟨(some (K.ofNat 54)), none, .mv (.t (K.ofNat 11))⟩, ⟨(some (K.ofNat 55)), none, .iads 2 (.t (K.ofNat 53)) (.t (K.ofNat 54))⟩, ⟨(some (K.ofNat 56)), none, .iadr 2 1 (.t (K.ofNat 55)) (.c (.i .i64 (.ofNat 1)))⟩, ⟨(some (K.ofNat 57)), none, .ld (.t (K.ofNat 56))⟩, ⟨(some (K.ofNat 58)), none, .conv .u64 (.t (K.ofNat 57))⟩, ⟨(some (K.ofNat 59)), none, .mv (.t (K.ofNat 0))⟩, ⟨(some (K.ofNat 60)), none, .conv .u64 (.t (K.ofNat 59))⟩, ⟨(some (K.ofNat 61)), none, .bin .rem (.t (K.ofNat 58)) (.t (K.ofNat 60))⟩, ⟨(some (K.ofNat 62)), none, .conv .i64 (.t (K.ofNat 61))⟩], [], (some ⟨(some (K.ofNat 12)), none, .as (.t (K.ofNat 52))⟩), []⟩, ⟨[], [⟨(some (K.ofNat 53)), none, .mv (.t (K.ofNat 1))⟩, ⟨(some (K.ofNat 54)), none, .mv (.t (K.ofNat 11))⟩, ⟨(some (K.ofNat 55)), none, .iads 2 (.t (K.ofNat 53)) (.t (K.ofNat 54))⟩, ⟨(some (K.ofNat 56)), none, .iadr 2 1 (.t (K.ofNat 55)) (.c (.i .i64 (.ofNat 1)))⟩, ⟨(some (K.ofNat 57)), none, .ld (.t (K.ofNat 56))⟩, ⟨(some (K.ofNat 58)), none, .conv .u64 (.t (K.ofNat 57))⟩, ⟨(some (K.ofNat 59)), none, .mv (.t (K.ofNat 0))⟩, ⟨(some (K.ofNat 60)), none, .conv .u64 (.t (K.ofNat 59))⟩, ⟨(some (K.ofNat 61)), none, .bin .rem (.t (K.ofNat 58)) (.t (K.ofNat 60))⟩, ⟨(some (K.ofNat 62)), none, .conv .i64 (.t (K.ofNat 61))⟩], (some ⟨(some (K.ofNat 13)), none, .as (.t (K.ofNat 62))⟩), []⟩, ⟨[], [], none, []⟩]
noncomputable def f28_r10 : List EOper := [⟨(some (K.ofNat 63)), none, .mv (.t (K.ofNat 12))⟩, ⟨(some (K.ofNat 64)), none, .mv (.t (K.ofNat 13))⟩, ⟨(some (K.ofNat 65)), none, .min (.t (K.ofNat 63)) (.t (K.ofNat 64))⟩, ⟨(some (K.ofNat 66)), none, .mv (.t (K.ofNat 9))⟩, ⟨(some (K.ofNat 67)), none, .bin .eql (.t (K.ofNat 65)) (.t (K.ofNat 66))⟩, ⟨(some (K.ofNat 68)), none, .mv (.t (K.ofNat 67))⟩, ⟨(some (K.ofNat 69)), (some ((K.ofNat 68), true)), .mv (.t (K.ofNat 12))⟩, ⟨(some (K.ofNat 70)), (some ((K.ofNat 68), true)), .mv (.t (K.ofNat 13))⟩, ⟨(some (K.ofNat 71)), (some ((K.ofNat 68), true)), .max (.t (K.ofNat 69)) (.t (K.ofNat 70))⟩, ⟨(some (K.ofNat 72)), (some ((K.ofNat 68), true)), .mv (.t (K.ofNat 10))⟩, ⟨(some (K.ofNat 73)), (some ((K.ofNat 68), true)), .bin .eql (.t (K.ofNat 71)) (.t (K.ofNat 72))⟩, ⟨(some (K.ofNat 74)), none, .pick (.t (K.ofNat 68)) (.t (K.ofNat 73)) (.c (.b false))⟩]
noncomputable def f28_r11 : List EOper := [⟨(some (K.ofNat 75)), none, .mv (.t (K.ofNat 8))⟩, ⟨(some (K.ofNat 76)), none, .mv (.t (K.ofNat 9))⟩, ⟨(some (K.ofNat 77)), none, .mv (.t (K.ofNat 10))⟩, ⟨(some (K.ofNat 78)), none, .build [(.i .i64 (.ofNat 0)), (.i .i64 (.ofNat 0))] [(0, 1, (.t (K.ofNat 76))), (1, 1, (.t (K.ofNat 77)))]⟩, ⟨(some (K.ofNat 79)), none, .bslice 1 2 [(.i .i64 (.ofNat 0)), (.i .i64 (.ofNat 0))] [(0, 2, (.t (K.ofNat 78)))]⟩, ⟨(some (K.ofNat 80)), none, .app 2 (.t (K.ofNat 75)) (.t (K.ofNat 79))⟩, ⟨(some (K.ofNat 8)), none, .as (.t (K.ofNat 80))⟩]
noncomputable def f28_r12 : List EOper := [⟨(some (K.ofNat 41)), none, .mv (.t (K.ofNat 11))⟩, ⟨(some (K.ofNat 42)), none, .bin .add (.t (K.ofNat 41)) (.c (.i .i64 (.ofNat 1)))⟩, ⟨(some (K.ofNat 11)), none, .as (.t (K.ofNat 42))⟩]
noncomputable def f28_l0 : EC := (.seq (.seq (.reg f28_r8) (.cond (.t (K.ofNat 40)) .skip (.exit 4))) (.seq (.block 5 (.seq (.draw f28_r9) (.seq (.reg f28_r10) (.cond (.t (K.ofNat 74)) (.seq (.reg f28_r11) (.exit 4)) .skip)))) (.reg f28_r12)))
noncomputable def f28_r13 : List EOper := [⟨(some (K.ofNat 29)), none, .mv (.t (K.ofNat 10))⟩, ⟨(some (K.ofNat 30)), none, .bin .add (.t (K.ofNat 29)) (.c (.i .i64 (.ofNat 1)))⟩, ⟨(some (K.ofNat 10)), none, .as (.t (K.ofNat 30))⟩]
noncomputable def f28_l1 : EC := (.seq (.seq (.reg f28_r6) (.cond (.t (K.ofNat 28)) .skip (.exit 2))) (.seq (.block 3 (.seq (.reg f28_r7) (.block 4 (.loop f28_l0)))) (.reg f28_r13)))
noncomputable def f28_r14 : List EOper := [⟨(some (K.ofNat 22)), none, .mv (.t (K.ofNat 9))⟩, ⟨(some (K.ofNat 23)), none, .bin .add (.t (K.ofNat 22)) (.c (.i .i64 (.ofNat 1)))⟩, ⟨(some (K.ofNat 9)), none, .as (.t (K.ofNat 23))⟩]
noncomputable def f28_l2 : EC := (.seq (.seq (.reg f28_r4) (.cond (.t (K.ofNat 21)) .skip (.exit 0))) (.seq (.block 1 (.seq (.reg f28_r5) (.block 2 (.loop f28_l1)))) (.reg f28_r14)))
noncomputable def f28_r15 : List EOper := [⟨(some (K.ofNat 81)), none, .mv (.t (K.ofNat 8))⟩, ⟨(some (K.ofNat 82)), none, .len (.t (K.ofNat 81))⟩, ⟨(some (K.ofNat 83)), none, .bin .eql (.t (K.ofNat 82)) (.c (.i .i64 (.ofNat 0)))⟩]
noncomputable def f28_r16 : List EOper := [⟨(some (K.ofNat 84)), none, .mv (.t (K.ofNat 8))⟩, ⟨(some (K.ofNat 85)), none, .build [(.i .i64 (.ofNat 0)), (.i .i64 (.ofNat 0))] [(0, 1, (.c (.i .i64 (.ofNat 0)))), (1, 1, (.c (.i .i64 (.ofNat 1))))]⟩, ⟨(some (K.ofNat 86)), none, .bslice 1 2 [(.i .i64 (.ofNat 0)), (.i .i64 (.ofNat 0))] [(0, 2, (.t (K.ofNat 85)))]⟩, ⟨(some (K.ofNat 87)), none, .app 2 (.t (K.ofNat 84)) (.t (K.ofNat 86))⟩, ⟨(some (K.ofNat 8)), none, .as (.t (K.ofNat 87))⟩]
noncomputable def f28_r17 : List EOper := [⟨(some (K.ofNat 88)), none, .mv (.t (K.ofNat 0))⟩, ⟨(some (K.ofNat 89)), none, .mv (.t (K.ofNat 8))⟩, ⟨(some (K.ofNat 6)), none, .as (.t (K.ofNat 88))⟩, ⟨(some (K.ofNat 7)), none, .as (.t (K.ofNat 89))⟩]
noncomputable def f28_c : EC := (.seq (.reg f28_r0) (.seq (.reg f28_r1) (.seq (.reg f28_r2) (.seq (.seq (.reg f28_r3) (.block 0 (.loop f28_l2))) (.seq (.seq (.reg f28_r15) (.cond (.t (K.ofNat 83)) (.reg f28_r16) .skip)) (.seq (.reg f28_r17) .ret))))))
noncomputable def f28 : EF := ⟨90, [.tmp (K.ofNat 6), .tmp (K.ofNat 7)], f28_c, none⟩
theorem f28_rs : f28.rs = [.tmp (K.ofNat 6), .tmp (K.ofNat 7)] := of_eq_true (eq_self _)
structure TmOk (N : Int) (E : List (Int × Int)) (a b : Int) : Prop where
  ris : risB N E = true
  len : E.length ≤ 10
  bf : ∀ e ∈ E, bfB e (a, b) = true
theorem bfB_iff {a b : Int × Int} : bfB a b = true ↔ a.1 < b.1 ∨ (a.1 = b.1 ∧ a.2 < b.2) := by
  unfold bfB; simp
theorem TmOk.next {N a b : Int} {E : List (Int × Int)} (h : TmOk N E a b) {a' b' : Int} (hx : a < a' ∨ (a = a' ∧ b ≤ b')) : TmOk N E a' b' := ⟨h.ris, h.len, fun e he => by
  have := bfB_iff.1 (h.bf e he)
  refine bfB_iff.2 ?_
  simp only at this ⊢
  omega⟩
theorem risB_snoc {N : Int} {E : List (Int × Int)} {e : Int × Int} (h1 : risB N E = true) (h2 : edB N e = true) (h3 : ∀ x ∈ E, bfB x e = true) : risB N (E ++ [e]) = true := by
  refine risB_yes fun j hj => ?_
  have hj : j < E.length + 1 := by simpa using hj
  by_cases e1 : j < E.length
  · have h4 := List.all_eq_true.1 h1 j (by simpa using e1)
    unfold okAt at h4 ⊢
    have g1 : (E ++ [e]).getD j (0, 0) = E.getD j (0, 0) := by simp [List.getD_eq_getElem?_getD, List.getElem?_append_left e1]
    have g2 : (E ++ [e]).getD (j - 1) (0, 0) = E.getD (j - 1) (0, 0) := by simp [List.getD_eq_getElem?_getD, List.getElem?_append_left (show j - 1 < E.length by omega)]
    rw [g1, g2]; exact h4
  · have ej : j = E.length := by omega
    subst ej
    unfold okAt
    have g1 : (E ++ [e]).getD E.length (0, 0) = e := by simp [List.getD_eq_getElem?_getD]
    rw [g1, h2, Bool.true_and]
    by_cases hz : E.length = 0
    · rw [decide_eq_true hz]; rfl
    · have hl : E.length - 1 < E.length := by omega
      have g2 : (E ++ [e]).getD (E.length - 1) (0, 0) = E[E.length - 1] := by simp [List.getD_eq_getElem?_getD, List.getElem?_append_left hl, hl]
      rw [g2, h3 _ (List.getElem_mem hl)]; simp
theorem TmOk.snoc {N a b : Int} {E : List (Int × Int)} (h : TmOk N E a b) (hl : E.length < 10) (ha : 0 ≤ a) (hab : a < b) (hb : b < N) : TmOk N (E ++ [(a, b)]) a (b + 1) :=
  ⟨risB_snoc h.ris (by unfold edB; simp; omega) h.bf, by simp; omega, fun e he => by
    rcases List.mem_append.1 he with he | he
    · exact (h.next (a' := a) (b' := b + 1) (.inr ⟨rfl, by omega⟩)).bf e he
    · have : e = (a, b) := by simpa using he
      subst this
      exact bfB_iff.2 (.inr ⟨rfl, by simp only; omega⟩)⟩
theorem TmOk.chk {m : Nat} {E : List (Int × Int)} {a b : Int} (h : TmOk (m : Int) E a b) (h2 : 2 ≤ m) (h7 : m ≤ 7) (hn : E ≠ []) : chkI (m : Int) E = 0 := by
  have := List.length_pos_iff.2 hn
  have hl := h.len
  unfold chkI
  rw [if_neg (by omega), if_neg (by omega), if_pos h.ris]
theorem Sk.srp {h : H} {v : V} {L : List (Int × Int)} (hs : Sk 2 qE h v L) : Srp h v L := by
  rcases hs with ⟨rfl, rfl⟩ | ⟨id, off, m, cs, rfl, hb, h1, h2, h3⟩
  · exact .inl ⟨rfl, rfl, rfl⟩
  · exact .inr ⟨id, off, m, cs, rfl, .inl hb, h1, h2, h3⟩
theorem fill_p2 {fr : Fr} {x : EO} {z1 z2 : V} : fillE fr [z1, z2] [(0, 2, x)] = oGet (cellsN 2 (ev fr x)) none fun cs => some (setMany [z1, z2] 0 cs) := of_eq_true (eq_self _)
theorem set_p2 {z1 z2 a b : V} : setMany [z1, z2] 0 [a, b] = [a, b] := of_eq_true (eq_self _)
section
variable {fs : T EF} {ro : Option K} {h : H} {v : V} {l : List (Int × Int)}
def f28_A (h : H) (v : V) (m : Nat) (l : List (Int × Int)) (a b : Nat) (i : Nat) (fr : Fr) (h1 : H) : Prop := i ≤ l.length ∧ ∃ u E, Sk 2 qE h1 u E ∧ Own h.nx.nat u ∧ Grow h.nx.nat h h1 ∧ TmOk (m : Int) E (a : Int) (b : Int) ∧ fr.get (K.ofNat 0) = some (.i .i64 (m : Int)) ∧ fr.get (K.ofNat 1) = some (v) ∧ fr.get (K.ofNat 2) = some (.i .i64 10) ∧ fr.get (K.ofNat 8) = some (u) ∧ fr.get (K.ofNat 9) = some (.i .i64 (a : Int)) ∧ fr.get (K.ofNat 10) = some (.i .i64 (b : Int)) ∧ fr.get (K.ofNat 11) = some (.i .i64 (i : Int))
def f28_B (h : H) (v : V) (m : Nat) (a : Nat) (b : Nat) (fr : Fr) (h1 : H) : Prop := a < b ∧ b ≤ m + 1 ∧ ∃ u E, Sk 2 qE h1 u E ∧ Own h.nx.nat u ∧ Grow h.nx.nat h h1 ∧ TmOk (m : Int) E (a : Int) (b : Int) ∧ fr.get (K.ofNat 0) = some (.i .i64 (m : Int)) ∧ fr.get (K.ofNat 1) = some (v) ∧ fr.get (K.ofNat 2) = some (.i .i64 10) ∧ fr.get (K.ofNat 8) = some (u) ∧ fr.get (K.ofNat 9) = some (.i .i64 (a : Int)) ∧ fr.get (K.ofNat 10) = some (.i .i64 (b : Int))
def f28_C (h : H) (v : V) (m : Nat) (a : Nat) (fr : Fr) (h1 : H) : Prop := a ≤ m ∧ ∃ u E, Sk 2 qE h1 u E ∧ Own h.nx.nat u ∧ Grow h.nx.nat h h1 ∧ TmOk (m : Int) E (a : Int) 0 ∧ fr.get (K.ofNat 0) = some (.i .i64 (m : Int)) ∧ fr.get (K.ofNat 1) = some (v) ∧ fr.get (K.ofNat 2) = some (.i .i64 10) ∧ fr.get (K.ofNat 8) = some (u) ∧ fr.get (K.ofNat 9) = some (.i .i64 (a : Int))
theorem f28_ret {n : Int} (hv : Srp h v l) (hc : HC h) (hL : l.length ≤ 9223372036854775807) : Ret fs f28 [.i .i64 n, v, .i .i64 10] h fun r h' => ∃ (m : Nat) (u : V) (E : List (Int × Int)), r = .tup [.i .i64 (m : Int), u] ∧ Srp h' u E ∧ chkI (m : Int) E = 0 ∧ Grow h.nx.nat h h' := by
  apply ret_of rfl
  show W fs none f28_c _ _ _
  unfold f28_c
  obtain ⟨q, hq6, hqe⟩ := rem_k n (k := 6) (by omega) (by omega)
  have hqe : fw .i64 ((fw .u64 n).tmod 6) = (q : Int) := hqe
  obtain ⟨m, hm⟩ : ∃ m : Nat, m = 2 + q := ⟨_, rfl⟩
  have em : 2 + (q : Int) = (m : Int) := by omega
  simp (disch := omega) only [f28_r0, f28_r1, f28_r2, f28_r3, w_reg, w_seq, w_block, seqK_n, x_nil, x_mv, x_as, x_bin, x_conv, kx, rvP_ok, okv_some, ev_t, ev_c, getV_some, putD_some, bin_add, bin_rem, onI_i, frame_3, of0, of2, of6, getK_set, Nat.reduceEqDiff, ↓reduceIte, hqe, fw64, em]
  refine W_loop (f28_C h v m) (fun a => m - a) ?_ 0 ⟨by omega, .sn, [], Sk.nil, Own.sn, Grow.refl _ _, ⟨rfl, by simp, fun e he => by cases he⟩, by simp (disch := omega) only [getK_set, Nat.reduceEqDiff, ↓reduceIte, and_self, Int.natCast_zero]⟩
  rintro a fr h1 ⟨ha, u, E, hs, ho, hG, hT, g0, g1, g2, g8, g9⟩
  unfold f28_l2
  by_cases hlt : a < m
  · have d0 : decide ((a : Int) < (m : Int)) = true := by simp; omega
    simp (disch := omega) only [f28_r4, f28_r5, w_skip, w_reg, w_seq, w_cond, w_block, seqK_n, ckB_b, cbB_b, true_and, x_nil, x_mv, x_as, x_bin, kx, rvP_ok, okv_some, ev_t, ev_c, getV_some, putD_some, bin_add, bin_lss, of1, getK_set, Nat.reduceEqDiff, ↓reduceIte, g0, g9, d0, fw64]
    refine W_loop (f28_B h v m a) (fun b => m + 1 - b) ?_ (a + 1) ⟨by omega, by omega, u, E, hs, ho, hG, hT.next (.inr ⟨rfl, by omega⟩), by simp (disch := omega) only [getK_set, Nat.reduceEqDiff, ↓reduceIte, g0, g1, g2, g8, g9, and_self, Int.natCast_add, Int.natCast_one]⟩
    clear hs ho hG hT g0 g1 g2 g8 g9
    rintro b fr h2 ⟨hab, hb, u, E, hs, ho, hG, hT, g0, g1, g2, g8, g9, g10⟩
    unfold f28_l1
    by_cases hlt2 : b < m
    · have d1 : decide ((b : Int) < (m : Int)) = true := by simp; omega
      simp (disch := omega) only [f28_r6, f28_r7, w_skip, w_reg, w_seq, w_cond, w_block, seqK_n, ckB_b, cbB_b, true_and, x_nil, x_mv, x_as, x_bin, kx, rvP_ok, okv_some, ev_t, ev_c, getV_some, putD_some, bin_lss, of0, getK_set, Nat.reduceEqDiff, ↓reduceIte, g0, g10, d1]
      refine W_loop (f28_A h v m l a b) (fun i => l.length - i) ?_ 0 ⟨by omega, u, E, hs, ho, hG, hT, by simp (disch := omega) only [getK_set, Nat.reduceEqDiff, ↓reduceIte, g0, g1, g2, g8, g9, g10, and_self, Int.natCast_zero]⟩
      clear hs ho hG hT g0 g1 g2 g8 g9 g10
      rintro i fr h3 ⟨hi, u, E, hs, ho, hG, hT, g0, g1, g2, g8, g9, g10, g11⟩
      have hc3 := hG.hc hc
      have hv3 := hv.grow hc hG
      have hsl := hs.len
      have hTl := hT.len
      -- after the search
      have fin : ∀ (fr : Fr) (h4 : H) (u : V) (E : List (Int × Int)), Sk 2 qE h4 u E → Own h.nx.nat u → Grow h.nx.nat h h4 → TmOk (m : Int) E (a : Int) ((b : Int) + 1) → fr.get (K.ofNat 0) = some (.i .i64 (m : Int)) ∧ fr.get (K.ofNat 1) = some (v) ∧ fr.get (K.ofNat 2) = some (.i .i64 10) ∧ fr.get (K.ofNat 8) = some (u) ∧ fr.get (K.ofNat 9) = some (.i .i64 (a : Int)) ∧ fr.get (K.ofNat 10) = some (.i .i64 (b : Int)) → Go.Ev.X fs f28_r13 (loopK (f28_B h v m a) (fun b => m + 1 - b) b (atK 2 (atK 1 (seqK (W fs none (.reg f28_r14)) (loopK (f28_C h v m) (fun a => m - a) a (atK 0 (seqK (W fs none (.seq (.seq (.reg f28_r15) (.cond (.t (K.ofNat 83)) (.reg f28_r16) .skip)) (.seq (.reg f28_r17) .ret))) (retK f28 fun r h' => ∃ (m : Nat) (u : V) (E : List (Int × Int)), r = .tup [.i .i64 (m : Int), u] ∧ Srp h' u E ∧ chkI (m : Int) E = 0 ∧ Grow h.nx.nat h h'))))))) .normal) fr h4 := by
        clear g0 g1 g2 g8 g9 g10 g11 fr
        rintro fr h4 u E hs ho hG hT ⟨g0, g1, g2, g8, g9, g10⟩
        simp (disch := omega) only [f28_r13, loopK_n, x_nil, x_mv, x_as, x_bin, kx, rvP_ok, okv_some, ev_t, ev_c, getV_some, putD_some, bin_add, of1, getK_set, ↓reduceIte, g10, fw64]
        exact ⟨b + 1, by omega, by omega, by omega, u, E, hs, ho, hG, hT, by simp (disch := omega) only [getK_set, Nat.reduceEqDiff, ↓reduceIte, g0, g1, g2, g8, g9, and_self, Int.natCast_add, Int.natCast_one]⟩
      unfold f28_l0
      by_cases hlt3 : i < l.length
      · have d2 : decide ((i : Int) < (l.length : Int)) = true := by simpa using hlt3
        by_cases hE : E.length < 10
        · have d3 : decide ((E.length : Int) < 10) = true := by simp; omega
          obtain ⟨ide, qq, hp1, _, hp2, hp3⟩ := hv3.at2 hlt3
          have hvb := hv.beq
          have hmw : fw .u64 (m : Int) = (m : Int) := fwu64 (by omega) (by omega)
          have hrem : ∀ a, binV .rem (.i .u64 a) (.i .u64 (m : Int)) = some (.i .u64 (a.tmod (m : Int))) := fun a => bin_rem (by omega)
          obtain ⟨c, hcm, hce⟩ := rem_k l[i].1 (k := m) (by omega) (by omega)
          obtain ⟨d, hdm, hde⟩ := rem_k l[i].2 (k := m) (by omega) (by omega)
          simp (disch := omega) only [f28_r8, f28_r9, w_skip, w_reg, w_draw, w_seq, w_cond, w_block, seqK_n, ckB_b, cbB_b, okG_b, asG_t, true_and, x_nil, x_g, x_mv, x_as, x_pick, x_bin, x_len, kx, kg, xg_nil, xg_mv, xg_ld, xg_bin, xg_conv, xg_iadr, xg_iads, xd_cons, fresh_nil, stK_n, stK_s, stay_nil, stay_cons, again_ok, stay_mv, beq_i, stay_iads, stay_ld, stay_bin, beq_p, rvP_ok, okv_some, ev_t, ev_c, getV_some, putD_some, bin_lss, pick_b, onI_i, onP_p, of0, of1, getK_set, Nat.reduceEqDiff, ↓reduceIte, stay_iadr, stay_conv, ix2_0, ix2_1, g0, g1, g2, g8, g11, hv3.len, hsl, d2, d3, hp1, hp2, hp3, hvb, hmw, hrem, hce, hde]
          have next : ∀ (fr : Fr), fr.get (K.ofNat 0) = some (.i .i64 (m : Int)) ∧ fr.get (K.ofNat 1) = some (v) ∧ fr.get (K.ofNat 2) = some (.i .i64 10) ∧ fr.get (K.ofNat 8) = some (u) ∧ fr.get (K.ofNat 9) = some (.i .i64 (a : Int)) ∧ fr.get (K.ofNat 10) = some (.i .i64 (b : Int)) ∧ fr.get (K.ofNat 11) = some (.i .i64 (i : Int)) → Go.Ev.X fs f28_r12 (loopK (f28_A h v m l a b) (fun i => l.length - i) i (atK 4 (atK 3 (seqK (W fs none (.reg f28_r13)) (loopK (f28_B h v m a) (fun b => m + 1 - b) b (atK 2 (atK 1 (seqK (W fs none (.reg f28_r14)) (loopK (f28_C h v m) (fun a => m - a) a (atK 0 (seqK (W fs none (.seq (.seq (.reg f28_r15) (.cond (.t (K.ofNat 83)) (.reg f28_r16) .skip)) (.seq (.reg f28_r17) .ret))) (retK f28 fun r h' => ∃ (m : Nat) (u : V) (E : List (Int × Int)), r = .tup [.i .i64 (m : Int), u] ∧ Srp h' u E ∧ chkI (m : Int) E = 0 ∧ Grow h.nx.nat h h'))))))))))) .normal) fr h3 := by
            clear g0 g1 g2 g8 g9 g10 g11 fr
            rintro fr ⟨g0, g1, g2, g8, g9, g10, g11⟩
            simp (disch := omega) only [f28_r12, loopK_n, x_nil, x_mv, x_as, x_bin, kx, rvP_ok, okv_some, ev_t, ev_c, getV_some, putD_some, bin_add, of1, getK_set, ↓reduceIte, g11, fw64]
            exact ⟨i + 1, by omega, hlt3, u, E, hs, ho, hG, hT, by simp (disch := omega) only [getK_set, Nat.reduceEqDiff, ↓reduceIte, g0, g1, g2, g8, g9, g10, and_self, Int.natCast_add, Int.natCast_one]⟩
          cases d4 : decide (min (c : Int) (d : Int) = (a : Int)) with
          | false =>
            simp (disch := omega) only [f28_r10, w_skip, w_reg, w_cond, seqK_n, atK_n, ckB_b, cbB_b, okG_b, asG_t, true_and, x_nil, x_g, x_mv, x_pick, x_bin, x_min, kx, rvP_ok, okv_some, ev_t, ev_c, getV_some, putD_some, bin_eql, pick_b, min_ii, getK_set, Nat.reduceEqDiff, ↓reduceIte, Bool.false_eq_true, g9, d4]
            exact next _ (by simp (disch := omega) only [getK_set, Nat.reduceEqDiff, ↓reduceIte, g0, g1, g2, g8, g9, g10, g11, and_self])
          | true =>
          cases d5 : decide (max (c : Int) (d : Int) = (b : Int)) with
          | false =>
            simp (disch := omega) only [f28_r10, w_skip, w_reg, w_cond, seqK_n, atK_n, ckB_b, cbB_b, okG_b, asG_t, true_and, x_nil, x_g, x_mv, x_pick, x_bin, x_min, x_max, kx, rvP_ok, okv_some, ev_t, ev_c, getV_some, putD_some, bin_eql, pick_b, min_ii, max_ii, getK_set, Nat.reduceEqDiff, ↓reduceIte, Bool.false_eq_true, g9, g10, d4, d5]
            exact next _ (by simp (disch := omega) only [getK_set, Nat.reduceEqDiff, ↓reduceIte, g0, g1, g2, g8, g9, g10, g11, and_self])
          | true =>
            obtain ⟨u', h4, a1, s1, o1, gr1, _⟩ := Sk.push qE_len (by omega) (x := ((a : Int), (b : Int))) hs ho hG.nx hc3 (by omega)
            have a1' : appV 2 (h3.new (.cells (1 * 2) [.i .i64 (a : Int), .i .i64 (b : Int)])) u (.sl h3.nx 0 1 2) = .ok u' h4 := a1
            simp (disch := omega) only [f28_r10, f28_r11, w_reg, w_seq, w_cond, w_exit, seqK_n, seqK_e, atK_n, atK_e, loopK_e, ckB_b, cbB_b, okG_b, asG_t, true_and, x_nil, x_g, x_mv, x_as, x_pick, x_build, x_bslice, x_bin, x_app, x_min, x_max, kx, rvP_ok, okv_some, ev_t, ev_c, getV_some, putD_some, bin_eql, pick_b, oGet_s, min_ii, max_ii, cells1_i, of0, getK_set, Nat.reduceEqDiff, ↓reduceIte, fill_2, set_2, cells2, g8, g9, g10, d4, d5, fill_2, set_2, cells2, fill_p2, set_p2, a1']
            exact fin _ h4 u' _ s1 o1 (hG.trans gr1) (hT.snoc hE (by omega) (by omega) (by omega)) (by simp (disch := omega) only [getK_set, Nat.reduceEqDiff, ↓reduceIte, g0, g1, g2, g9, g10, and_self])
        · have d3 : decide ((E.length : Int) < 10) = false := by simp; omega
          simp (disch := omega) only [f28_r8, w_reg, w_seq, w_cond, w_exit, seqK_n, seqK_e, atK_n, atK_e, loopK_e, ckB_b, cbB_b, okG_b, asG_t, true_and, x_nil, x_g, x_mv, x_pick, x_bin, x_len, kx, rvP_ok, okv_some, ev_t, ev_c, getV_some, putD_some, bin_lss, pick_b, getK_set, Nat.reduceEqDiff, ↓reduceIte, Bool.false_eq_true, g1, g2, g8, g11, hv3.len, hsl, d2, d3]
          exact fin _ _ u E hs ho hG (hT.next (.inr ⟨rfl, by omega⟩)) (by simp (disch := omega) only [getK_set, Nat.reduceEqDiff, ↓reduceIte, g0, g1, g2, g8, g9, g10, and_self])
      · have d2 : decide ((i : Int) < (l.length : Int)) = false := by simpa using hlt3
        simp (disch := omega) only [f28_r8, w_reg, w_seq, w_cond, w_exit, seqK_n, seqK_e, atK_n, atK_e, loopK_e, ckB_b, cbB_b, okG_b, asG_t, true_and, x_nil, x_g, x_mv, x_pick, x_bin, x_len, kx, rvP_ok, okv_some, ev_t, ev_c, getV_some, putD_some, bin_lss, pick_b, getK_set, Nat.reduceEqDiff, ↓reduceIte, Bool.false_eq_true, g1, g11, hv3.len, d2]
        exact fin _ _ u E hs ho hG (hT.next (.inr ⟨rfl, by omega⟩)) (by simp (disch := omega) only [getK_set, Nat.reduceEqDiff, ↓reduceIte, g0, g1, g2, g8, g9, g10, and_self])
    · have d1 : decide ((b : Int) < (m : Int)) = false := by simp; omega
      simp (disch := omega) only [f28_r6, f28_r14, w_reg, w_seq, w_cond, w_exit, seqK_n, seqK_e, atK_n, atK_e, loopK_n, loopK_e, ckB_b, cbB_b, true_and, x_nil, x_mv, x_as, x_bin, kx, rvP_ok, okv_some, ev_t, ev_c, getV_some, putD_some, bin_add, bin_lss, of1, getK_set, Nat.reduceEqDiff, ↓reduceIte, Bool.false_eq_true, g0, g9, g10, d1, fw64]
      exact ⟨a + 1, by omega, by omega, u, E, hs, ho, hG, hT.next (.inl (by omega)), by simp (disch := omega) only [getK_set, Nat.reduceEqDiff, ↓reduceIte, g0, g1, g2, g8, and_self, Int.natCast_add, Int.natCast_one]⟩
  · have d0 : decide ((a : Int) < (m : Int)) = false := by simp; omega
    have hc1 := hG.hc hc
    by_cases hE : E = []
    · subst hE
      have d1 : decide ((([] : List (Int × Int)).length : Int) = 0) = true := rfl
      obtain ⟨u', h4, a1, s1, o1, gr1, _⟩ := Sk.push qE_len (by omega) (x := ((0 : Int), (1 : Int))) hs ho hG.nx hc1 (by simp)
      have a1' : appV 2 (h1.new (.cells (1 * 2) [.i .i64 0, .i .i64 1])) u (.sl h1.nx 0 1 2) = .ok u' h4 := a1
      simp (disch := omega) only [f28_r4, f28_r15, f28_r16, f28_r17, f28_rs, w_reg, w_seq, w_cond, w_exit, w_ret, seqK_n, seqK_e, atK_e, loopK_e, ckB_b, cbB_b, true_and, retK_r, x_nil, x_mv, x_as, x_build, x_bslice, x_bin, x_len, x_app, kx, rvP_ok, okv_some, ev_t, ev_c, getV_some, putD_some, bin_eql, bin_lss, oGet_s, readRs_nil, readRs_t, retV_2, cells1_i, of0, of1, Option.some.injEq, exists_eq_left', getK_set, Nat.reduceEqDiff, ↓reduceIte, Bool.false_eq_true, fill_2, set_2, cells2, g0, g8, g9, d0, hs.len, d1, fill_2, set_2, cells2, fill_p2, set_p2, a1']
      have hT0 : TmOk (m : Int) [] 0 1 := ⟨hT.ris, by simp, fun e he => by cases he⟩
      have hT1 := hT0.snoc (by simp) (by omega) (by omega) (by omega)
      exact ⟨m, u', _, rfl, s1.srp, hT1.chk (by omega) (by omega) (by simp), hG.trans gr1⟩
    · have hpos := List.length_pos_iff.2 hE
      have d1 : decide ((E.length : Int) = 0) = false := by simp; omega
      simp (disch := omega) only [f28_r4, f28_r15, f28_r17, f28_rs, w_skip, w_reg, w_seq, w_cond, w_exit, w_ret, seqK_n, seqK_e, atK_e, loopK_e, ckB_b, cbB_b, true_and, retK_r, x_nil, x_mv, x_as, x_bin, x_len, kx, rvP_ok, okv_some, ev_t, ev_c, getV_some, putD_some, bin_eql, bin_lss, oGet_s, readRs_nil, readRs_t, retV_2, of0, Option.some.injEq, exists_eq_left', getK_set, Nat.reduceEqDiff, ↓reduceIte, Bool.false_eq_true, g0, g8, g9, d0, hs.len, d1]
      exact ⟨m, u, E, rfl, hs.srp, hT.chk (by omega) (by omega) hE, hG⟩
end
end Go.Ev
namespace Go.Ev
open Go Go.RowKit
noncomputable def f5_r0 : List EOper := [⟨(some (K.ofNat 6)), none, .as (.c (.b false))⟩]
noncomputable def f5_r1 : List EOper := [⟨(some (K.ofNat 22)), none, .mv (.t (K.ofNat 0))⟩, ⟨(some (K.ofNat 23)), none, .mv (.t (K.ofNat 1))⟩, ⟨(some (K.ofNat 24)), none, .call (.c (.fn (K.ofNat 28) [])) [(.t (K.ofNat 22)), (.t (K.ofNat 23)), (.c (.i .i64 (.ofNat 10)))]⟩, ⟨(some (K.ofNat 21)), none, .mv (.t (K.ofNat 24))⟩, ⟨(some (K.ofNat 25)), none, .ext (.t (K.ofNat 21)) 0⟩, ⟨(some (K.ofNat 26)), none, .ext (.t (K.ofNat 21)) 1⟩, ⟨(some (K.ofNat 7)), none, .as (.t (K.ofNat 25))⟩, ⟨(some (K.ofNat 8)), none, .as (.t (K.ofNat 26))⟩]
noncomputable def f5_r2 : List EOper := [⟨(some (K.ofNat 27)), none, .mv (.t (K.ofNat 2))⟩, ⟨(some (K.ofNat 28)), none, .call (.c (.fn (K.ofNat 15) [])) [(.t (K.ofNat 27)), (.c (.i .i64 (.ofNat 10)))]⟩, ⟨(some (K.ofNat 9)), none, .as (.t (K.ofNat 28))⟩]
noncomputable def f5_r3 : List EOper := [⟨(some (K.ofNat 10)), none, .as (.c (.i .i64 (.ofNat 0)))⟩]
noncomputable def f5_r4 : List EOper := [⟨(some (K.ofNat 29)), none, .mv (.t (K.ofNat 10))⟩, ⟨(some (K.ofNat 30)), none, .bin .lss (.t (K.ofNat 29)) (.c (.i .i64 (.ofNat 2)))⟩]
noncomputable def f5_r5 : List EOper := [⟨(some (K.ofNat 33)), none, .mv (.t (K.ofNat 7))⟩, ⟨(some (K.ofNat 34)), none, .mv (.t (K.ofNat 8))⟩, ⟨(some (K.ofNat 35)), none, .mv (.t (K.ofNat 9))⟩, ⟨(some (K.ofNat 36)), none, .call (.c (.fn (K.ofNat 32) [])) [(.t (K.ofNat 33)), (.t (K.ofNat 34)), (.t (K.ofNat 35))]⟩, ⟨(some (K.ofNat 11)), none, .as (.t (K.ofNat 36))⟩]
noncomputable def f5_r6 : List EOper := [⟨(some (K.ofNat 38)), none, .mv (.t (K.ofNat 7))⟩, ⟨(some (K.ofNat 39)), none, .mv (.t (K.ofNat 8))⟩, ⟨(some (K.ofNat 40)), none, .mv (.t (K.ofNat 9))⟩, ⟨(some (K.ofNat 41)), none, .call (.c (.fn (K.ofNat 18) [])) [(.t (K.ofNat 38)), (.t (K.ofNat 39)), (.t (K.ofNat 40))]⟩, ⟨(some (K.ofNat 37)), none, .mv (.t (K.ofNat 41))⟩, ⟨(some (K.ofNat 42)), none, .ext (.t (K.ofNat 37)) 0⟩, ⟨(some (K.ofNat 43)), none, .ext (.t (K.ofNat 37)) 1⟩, ⟨(some (K.ofNat 12)), none, .as (.t (K.ofNat 42))⟩, ⟨(some (K.ofNat 13)), none, .as (.t (K.ofNat 43))⟩]
noncomputable def f5_r7 : List EOper := [⟨(some (K.ofNat 45)), none, .mv (.t (K.ofNat 7))⟩, ⟨(some (K.ofNat 46)), none, .mv (.t (K.ofNat 8))⟩, ⟨(some (K.ofNat 47)), none, .mv (.t (K.ofNat 9))⟩, ⟨(some (K.ofNat 48)), none, .call (.c (.fn (K.ofNat 19) [])) [(.t (K.ofNat 45)), (.t (K.ofNat 46)), (.t (K.ofNat 47))]⟩, ⟨(some (K.ofNat 44)), none, .mv (.t (K.ofNat 48))⟩, ⟨(some (K.ofNat 49)), none, .ext (.t (K.ofNat 44)) 0⟩, ⟨(some (K.ofNat 50)), none, .ext (.t (K.ofNat 44)) 1⟩, ⟨(some (K.ofNat 51)), none, .ext (.t (K.ofNat 44)) 2⟩, ⟨(some (K.ofNat 14)), none, .as (.t (K.ofNat 49))⟩, ⟨(some (K.ofNat 15)), none, .as (.t (K.ofNat 50))⟩, ⟨(some (K.ofNat 16)), none, .as (.t (K.ofNat 51))⟩]
noncomputable def f5_r8 : List EOper := [⟨(some (K.ofNat 53)), none, .mv (.t (K.ofNat 7))⟩, ⟨(some (K.ofNat 54)), none, .mv (.t (K.ofNat 8))⟩, ⟨(some (K.ofNat 55)), none, .mv (.t (K.ofNat 9))⟩, ⟨(some (K.ofNat 56)), none, .call (.c (.fn (K.ofNat 20) [])) [(.t (K.ofNat 53)), (.t (K.ofNat 54)), (.t (K.ofNat 55))]⟩, ⟨(some (K.ofNat 52)), none, .mv (.t (K.ofNat 56))⟩, ⟨(some (K.ofNat 57)), none, .ext (.t (K.ofNat 52)) 0⟩, ⟨(some (K.ofNat 58)), none, .ext (.t (K.ofNat 52)) 1⟩, ⟨(some (K.ofNat 17)), none, .as (.t (K.ofNat 57))⟩, ⟨(some (K.ofNat 18)), none, .as (.t (K.ofNat 58))⟩]
noncomputable def f5_r9 : List EOper := [⟨(some (K.ofNat 59)), none, .mv (.t (K.ofNat 13))⟩, ⟨(some (K.ofNat 60)), none, .bin .neq (.t (K.ofNat 59)) (.c (.i .i64 (.ofNat 0)))⟩, ⟨(some (K.ofNat 61)), none, .mv (.t (K.ofNat 60))⟩, ⟨(some (K.ofNat 62)), (some ((K.ofNat 61), false)), .mv (.t (K.ofNat 12))⟩, ⟨(some (K.ofNat 63)), (some ((K.ofNat 61), false)), .mv (.t (K.ofNat 11))⟩, ⟨(some (K.ofNat 64)), (some ((K.ofNat 61), false)), .eqk (.one none) true (.t (K.ofNat 62)) (.t (K.ofNat 63))⟩, ⟨(some (K.ofNat 65)), none, .pick (.t (K.ofNat 61)) (.c (.b true)) (.t (K.ofNat 64))⟩, ⟨(some (K.ofNat 66)), none, .mv (.t (K.ofNat 65))⟩, ⟨(some (K.ofNat 67)), (some ((K.ofNat 66), false)), .mv (.t (K.ofNat 16))⟩, ⟨(some (K.ofNat 68)), (some ((K.ofNat 66), false)), .bin .neq (.t (K.ofNat 67)) (.c (.i .i64 (.ofNat 0)))⟩, ⟨(some (K.ofNat 69)), none, .pick (.t (K.ofNat 66)) (.c (.b true)) (.t (K.ofNat 68))⟩]
noncomputable def f5_r10 : List EOper := [⟨(some (K.ofNat 6)), none, .as (.c (.b false))⟩]
noncomputable def f5_r11 : List EOper := [⟨(some (K.ofNat 70)), none, .mv (.t (K.ofNat 11))⟩, ⟨(some (K.ofNat 71)), none, .not (.t (K.ofNat 70))⟩]
noncomputable def f5_r12 : List EOper := [⟨(some (K.ofNat 72)), none, .mv (.t (K.ofNat 15))⟩, ⟨(some (K.ofNat 73)), none, .mv (.t (K.ofNat 72))⟩, ⟨(some (K.ofNat 74)), (some ((K.ofNat 73), false)), .mv (.t (K.ofNat 14))⟩, ⟨(some (K.ofNat 75)), (some ((K.ofNat 73), false)), .bin .neq (.t (K.ofNat 74)) (.c (.i .i64 (.ofNat 0)))⟩, ⟨(some (K.ofNat 76)), none, .pick (.t (K.ofNat 73)) (.c (.b true)) (.t (K.ofNat 75))⟩, ⟨(some (K.ofNat 77)), none, .mv (.t (K.ofNat 76))⟩, ⟨(some (K.ofNat 78)), (some ((K.ofNat 77), false)), .mv (.t (K.ofNat 18))⟩, ⟨(some (K.ofNat 79)), (some ((K.ofNat 77), false)), .bin .neq (.t (K.ofNat 78)) (.c (.i .i64 (.ofNat 1)))⟩, ⟨(some (K.ofNat 80)), none, .pick (.t (K.ofNat 77)) (.c (.b true)) (.t (K.ofNat 79))⟩, ⟨(some (K.ofNat 81)), none, .mv (.t (K.ofNat 80))⟩, ⟨(some (K.ofNat 82)), (some ((K.ofNat 81), false)), .mv (.t (K.ofNat 17))⟩, ⟨(some (K.ofNat 83)), (some ((K.ofNat 81), false)), .len (.t (K.ofNat 82))⟩, ⟨(some (K.ofNat 84)), (some ((K.ofNat 81), false)), .bin .neq (.t (K.ofNat 83)) (.c (.i .i64 (.ofNat 0)))⟩, ⟨(some (K.ofNat 85)), none, .pick (.t (K.ofNat 81)) (.c (.b true)) (.t (K.ofNat 84))⟩]
noncomputable def f5_r13 : List EOper := [⟨(some (K.ofNat 6)), none, .as (.c (.b false))⟩]
noncomputable def f5_r14 : List EOper := [⟨(some (K.ofNat 87)), none, .mv (.t (K.ofNat 8))⟩, ⟨(some (K.ofNat 88)), none, .mv (.t (K.ofNat 9))⟩, ⟨(some (K.ofNat 89)), none, .call (.c (.fn (K.ofNat 33) [])) [(.t (K.ofNat 87)), (.t (K.ofNat 88))]⟩, ⟨(some (K.ofNat 86)), none, .mv (.t (K.ofNat 89))⟩, ⟨(some (K.ofNat 90)), none, .ext (.t (K.ofNat 86)) 0⟩, ⟨(some (K.ofNat 91)), none, .ext (.t (K.ofNat 86)) 1⟩, ⟨(some (K.ofNat 19)), none, .as (.t (K.ofNat 90))⟩, ⟨(some (K.ofNat 20)), none, .as (.t (K.ofNat 91))⟩]
noncomputable def f5_r15 : List EOper := [⟨(some (K.ofNat 92)), none, .mv (.t (K.ofNat 15))⟩, ⟨(some (K.ofNat 93)), none, .mv (.t (K.ofNat 20))⟩, ⟨(some (K.ofNat 94)), none, .eqk (.one none) true (.t (K.ofNat 92)) (.t (K.ofNat 93))⟩, ⟨(some (K.ofNat 95)), none, .mv (.t (K.ofNat 94))⟩, ⟨(some (K.ofNat 96)), (some ((K.ofNat 95), false)), .mv (.t (K.ofNat 14))⟩, ⟨(some (K.ofNat 97)), (some ((K.ofNat 95), false)), .mv (.t (K.ofNat 19))⟩, ⟨(some (K.ofNat 98)), (some ((K.ofNat 95), false)), .bin .neq (.t (K.ofNat 96)) (.t (K.ofNat 97))⟩, ⟨(some (K.ofNat 99)), none, .pick (.t (K.ofNat 95)) (.c (.b true)) (.t (K.ofNat 98))⟩, ⟨(some (K.ofNat 100)), none, .mv (.t (K.ofNat 99))⟩, ⟨(some (K.ofNat 101)), (some ((K.ofNat 100), false)), .mv (.t (K.ofNat 18))⟩, ⟨(some (K.ofNat 102)), (some ((K.ofNat 100), false)), .bin .neq (.t (K.ofNat 101)) (.c (.i .i64 (.ofNat 0)))⟩, ⟨(some (K.ofNat 103)), none, .pick (.t (K.ofNat 100)) (.c (.b true)) (.t (K.ofNat 102))⟩, ⟨(some (K.ofNat 104)), none, .mv (.t (K.ofNat 103))⟩, ⟨(some (K.ofNat 105)), (some ((K.ofNat 104), false)), .mv (.t (K.ofNat 17))⟩, ⟨(some (K.ofNat 106)), (some ((K.ofNat 104), false)), .mv (.t (K.ofNat 8))⟩, ⟨(some (K.ofNat 107)), (some ((K.ofNat 104), false)), .mv (.t (K.ofNat 9))⟩, ⟨(some (K.ofNat 108)), (some ((K.ofNat 104), false)), .call (.c (.fn (K.ofNat 34) [])) [(.t (K.ofNat 106)), (.t (K.ofNat 107))]⟩, ⟨(some (K.ofNat 109)), (some ((K.ofNat 104), false)), .call (.c (.fn (K.ofNat 30) [])) [(.t (K.ofNat 105)), (.t (K.ofNat 108))]⟩, ⟨(some (K.ofNat 110)), (some ((K.ofNat 104), false)), .not (.t (K.ofNat 109))⟩, ⟨(some (K.ofNat 111)), none, .pick (.t (K.ofNat 104)) (.c (.b true)) (.t (K.ofNat 110))⟩]
noncomputable def f5_r16 : List EOper := [⟨(some (K.ofNat 6)), none, .as (.c (.b false))⟩]
noncomputable def f5_r17 : List EOper := [⟨(some (K.ofNat 112)), none, .mv (.t (K.ofNat 7))⟩, ⟨(some (K.ofNat 113)), none, .mv (.t (K.ofNat 8))⟩, ⟨(some (K.ofNat 114)), none, .mv (.t (K.ofNat 2))⟩, ⟨(some (K.ofNat 115)), none, .len (.t (K.ofNat 114))⟩, ⟨(some (K.ofNat 116)), none, .bin .rem (.t (K.ofNat 115)) (.c (.i .i64 (.ofNat 2)))⟩, ⟨(some (K.ofNat 117)), none, .bin .eql (.t (K.ofNat 116)) (.c (.i .i64 (.ofNat 0)))⟩, ⟨(some (K.ofNat 118)), none, .call (.c (.fn (K.ofNat 29) [])) [(.t (K.ofNat 112)), (.t (K.ofNat 113)), (.t (K.ofNat 117))]⟩, ⟨(some (K.ofNat 9)), none, .as (.t (K.ofNat 118))⟩]
noncomputable def f5_r18 : List EOper := [⟨(some (K.ofNat 31)), none, .mv (.t (K.ofNat 10))⟩, ⟨(some (K.ofNat 32)), none, .bin .add (.t (K.ofNat 31)) (.c (.i .i64 (.ofNat 1)))⟩, ⟨(some (K.ofNat 10)), none, .as (.t (K.ofNat 32))⟩]
noncomputable def f5_l0 : EC := (.seq (.seq (.reg f5_r4) (.cond (.t (K.ofNat 30)) .skip (.exit 0))) (.seq (.block 1 (.seq (.reg f5_r5) (.seq (.reg f5_r6) (.seq (.reg f5_r7) (.seq (.reg f5_r8) (.seq (.seq (.reg f5_r9) (.cond (.t (K.ofNat 69)) (.seq (.reg f5_r10) .ret) .skip)) (.seq (.seq (.reg f5_r11) (.cond (.t (K.ofNat 71)) (.seq (.reg f5_r12) (.cond (.t (K.ofNat 85)) (.seq (.reg f5_r13) .ret) .skip)) (.seq (.reg f5_r14) (.seq (.reg f5_r15) (.cond (.t (K.ofNat 111)) (.seq (.reg f5_r16) .ret) .skip))))) (.reg f5_r17)))))))) (.reg f5_r18)))
noncomputable def f5_r19 : List EOper := [⟨(some (K.ofNat 119)), none, .call (.c (.fn (K.ofNat 23) [])) []⟩, ⟨(some (K.ofNat 6)), none, .as (.t (K.ofNat 119))⟩]
noncomputable def f5_c : EC := (.seq (.reg f5_r0) (.seq (.reg f5_r1) (.seq (.reg f5_r2) (.seq (.seq (.reg f5_r3) (.block 0 (.loop f5_l0))) (.seq (.reg f5_r19) .ret)))))
noncomputable def f5 : EF := ⟨120, [.tmp (K.ofNat 6)], f5_c, none⟩
theorem slArgK_len {P : Program} {W : World} {base : Nat} {t e : TypeId} (ht : P.underlying t = some (.slice e)) {v : Value} {len : Nat} {zs : List Int} (hval : Value.okWide P W .any base t v) (hs : SlArgK 2 W v len zs) : len ≤ 9223372036854775807 := by
  rcases hs with ⟨_, rfl, _⟩ | ⟨b, off, cap, rfl, h1, _⟩
  · exact Nat.zero_le _
  · simp only [Value.okWide, ht, Cell.okWide, Cell.ok] at hval
    have h2 := hval.2.1
    have h3 : IntKind.i64.max = 9223372036854775807 := rfl
    omega
theorem pairsOf_le {len c : Nat} {zs : List Int} (h : len ≤ c) : (pairsOf len zs).length ≤ c := by
  unfold pairsOf; simpa using h
section
variable {fs : T EF} {ro : Option K}
end
end Go.Ev
namespace Go.Ev
open Go Go.RowKit
theorem absD_comm (a b : Int) : absD a b = absD b a := by unfold absD; split <;> split <;> omega
theorem pw_all {α : Type} {R : α → α → Prop} (hs : ∀ a b, R a b → R b a) : ∀ {l : List α}, l.Pairwise R → ∀ a ∈ l, ∀ b ∈ l, a ≠ b → R a b
  | [], _, a, ha, _, _, _ => absurd ha (by simp)
  | x :: l, h, a, ha, b, hb, hn => by
    rw [List.pairwise_cons] at h
    rcases List.mem_cons.1 ha with e1 | ha'
    · rcases List.mem_cons.1 hb with e2 | hb'
      · exact absurd (e1.trans e2.symm) hn
      · rw [e1]; exact h.1 b hb'
    · rcases List.mem_cons.1 hb with e2 | hb'
      · rw [e2]; exact hs _ _ (h.1 a ha')
      · exact pw_all hs h.2 a ha' b hb' hn
/-- The edges both of whose ends are among the first k nodes differ in their differences. -/
def PwK (E : List (Int × Int)) (L : List Int) (k : Int) : Prop := E.Pairwise fun e e' => e.2 < k → e'.2 < k → dfE L e ≠ dfE L e'
def dxE (L : List Int) (x : Int) (e : Int × Int) : Int := absD x (L.getD e.1.toNat 0)
def PwX (E : List (Int × Int)) (L : List Int) (x : Int) : Prop := E.Pairwise fun e e' => e.2 = (L.length : Int) → e'.2 = (L.length : Int) → dxE L x e ≠ dxE L x e'
theorem getD_set {L : List Bool} {d e : Nat} (hd : d < L.length) : (L.set d true).getD e false = true ↔ e = d ∨ L.getD e false = true := by
  rw [List.getD_eq_getElem?_getD, List.getD_eq_getElem?_getD, List.getElem?_set]
  by_cases h : d = e
  · subst h; simp [hd]
  · rw [if_neg h]
    constructor
    · exact fun h => .inr h
    · rintro (h1 | h1)
      · exact absurd h1.symm h
      · exact h1
theorem getD_in {L : List Bool} {d : Nat} (h : d < L.length) : L.getD d true = L.getD d false := by
  rw [List.getD_eq_getElem?_getD, List.getD_eq_getElem?_getD, List.getElem?_eq_getElem h]; rfl
/-- What taking the differences to a new label does. -/
theorem step_spec {L : List Int} {x : Int} : ∀ (F : List (Int × Int)) (A : List Bool), A.length = 26 → (∀ e ∈ F, e.2 = (L.length : Int) → 0 ≤ dxE L x e ∧ dxE L x e < 26) →
    match F.foldl (stepO L x) (some A) with
    | none => ¬ ((∀ e ∈ F, e.2 = (L.length : Int) → A.getD (dxE L x e).toNat false = false) ∧ PwX F L x)
    | some B => ((∀ e ∈ F, e.2 = (L.length : Int) → A.getD (dxE L x e).toNat false = false) ∧ PwX F L x) ∧ B.length = 26 ∧ ∀ d : Nat, B.getD d false = true ↔ A.getD d false = true ∨ ∃ e ∈ F, e.2 = (L.length : Int) ∧ dxE L x e = (d : Int)
  | [], A, hA, _ => ⟨⟨fun e he => absurd he (by simp), List.Pairwise.nil⟩, hA, fun d => by simp⟩
  | e :: F, A, hA, hb => by
    rw [List.foldl_cons]
    by_cases h2 : e.2 = (L.length : Int)
    · obtain ⟨b0, b1⟩ := hb e (by simp) h2
      by_cases h3 : A.getD (dxE L x e).toNat false = true
      · have : stepO L x (some A) e = none := by
          show (if e.2 = (L.length : Int) then (if A.getD (dxE L x e).toNat true = true then none else some (A.set (dxE L x e).toNat true)) else some A) = none
          rw [if_pos h2, getD_in (by omega), if_pos h3]
        rw [this, foldl_none]
        rintro ⟨h4, _⟩
        rw [h4 e (by simp) h2] at h3; cases h3
      · have h3' : A.getD (dxE L x e).toNat false = false := by simpa using h3
        have : stepO L x (some A) e = some (A.set (dxE L x e).toNat true) := by
          show (if e.2 = (L.length : Int) then (if A.getD (dxE L x e).toNat true = true then none else some (A.set (dxE L x e).toNat true)) else some A) = _
          rw [if_pos h2, getD_in (by omega), if_neg h3]
        rw [this]
        have ih := step_spec F (A.set (dxE L x e).toNat true) (by simp [hA]) (fun e' he' => hb e' (by simp [he']))
        have hl : (dxE L x e).toNat < A.length := by omega
        have key : ((∀ e' ∈ F, e'.2 = (L.length : Int) → (A.set (dxE L x e).toNat true).getD (dxE L x e').toNat false = false) ∧ PwX F L x) ↔ ((∀ e' ∈ e :: F, e'.2 = (L.length : Int) → A.getD (dxE L x e').toNat false = false) ∧ PwX (e :: F) L x) := by
          unfold PwX
          rw [List.pairwise_cons]
          constructor
          · rintro ⟨p1, p2⟩
            have q : ∀ e' ∈ F, e'.2 = (L.length : Int) → dxE L x e ≠ dxE L x e' ∧ A.getD (dxE L x e').toNat false = false := fun e' he' h4 => by
              have h5 := p1 e' he' h4
              rw [Bool.eq_false_iff] at h5
              rw [Ne, getD_set hl, not_or] at h5
              exact ⟨fun h => h5.1 (by rw [h]), by simpa using h5.2⟩
            refine ⟨fun e' he' h4 => ?_, fun e' he' _ h4 => (q e' he' h4).1, p2⟩
            rcases List.mem_cons.1 he' with rfl | he'
            · exact h3'
            · exact (q e' he' h4).2
          · rintro ⟨p1, p2, p3⟩
            refine ⟨fun e' he' h4 => ?_, p3⟩
            rw [Bool.eq_false_iff, Ne, getD_set hl, not_or]
            have := hb e' (by simp [he']) h4
            have := p2 e' he' h2 h4
            exact ⟨by omega, by rw [p1 e' (by simp [he']) h4]; simp⟩
        cases hf : F.foldl (stepO L x) (some (A.set (dxE L x e).toNat true)) with
        | none => rw [hf] at ih; exact fun h => ih (key.2 h)
        | some B =>
          rw [hf] at ih
          obtain ⟨i1, i2, i3⟩ := ih
          refine ⟨key.1 i1, i2, fun d => ?_⟩
          rw [i3 d, getD_set hl]
          constructor
          · rintro ((h | h) | ⟨e', h5, h6⟩)
            · exact .inr ⟨e, by simp, h2, by omega⟩
            · exact .inl h
            · exact .inr ⟨e', by simp [h5], h6⟩
          · rintro (h | ⟨e', h5, h6, h7⟩)
            · exact .inl (.inr h)
            · rcases List.mem_cons.1 h5 with rfl | h5
              · exact .inl (.inl (by omega))
              · exact .inr ⟨e', h5, h6, h7⟩
    · have : stepO L x (some A) e = some A := by
        show (if e.2 = (L.length : Int) then _ else some A) = some A
        rw [if_neg h2]
      rw [this]
      have ih := step_spec F A hA (fun e' he' => hb e' (by simp [he']))
      have key : ((∀ e' ∈ F, e'.2 = (L.length : Int) → A.getD (dxE L x e').toNat false = false) ∧ PwX F L x) ↔ ((∀ e' ∈ e :: F, e'.2 = (L.length : Int) → A.getD (dxE L x e').toNat false = false) ∧ PwX (e :: F) L x) := by
        unfold PwX
        rw [List.pairwise_cons]
        constructor
        · rintro ⟨p1, p2⟩
          refine ⟨fun e' he' h4 => ?_, fun e' _ h4 => absurd h4 h2, p2⟩
          rcases List.mem_cons.1 he' with rfl | he'
          · exact absurd h4 h2
          · exact p1 e' he' h4
        · rintro ⟨p1, _, p3⟩
          exact ⟨fun e' he' => p1 e' (by simp [he']), p3⟩
      cases hf : F.foldl (stepO L x) (some A) with
      | none => rw [hf] at ih; exact fun h => ih (key.2 h)
      | some B =>
        rw [hf] at ih
        obtain ⟨i1, i2, i3⟩ := ih
        refine ⟨key.1 i1, i2, fun d => ?_⟩
        rw [i3 d]
        constructor
        · rintro (h | ⟨e', h5, h6⟩)
          · exact .inl h
          · exact .inr ⟨e', by simp [h5], h6⟩
        · rintro (h | ⟨e', h5, h6, h7⟩)
          · exact .inl h
          · rcases List.mem_cons.1 h5 with rfl | h5
            · exact absurd h6 h2
            · exact .inr ⟨e', h5, h6, h7⟩
/-- What holds of labels and of the differences that are taken. -/
structure LInv (E : List (Int × Int)) (L : List Int) (A : List Bool) : Prop where
  len : A.length = 26
  lab : LabOk E L
  nd : L.Nodup
  pw : PwK E L L.length
  met : ∀ d : Nat, A.getD d false = true ↔ ∃ e ∈ E, e.2 < (L.length : Int) ∧ dfE L e = (d : Int)
theorem rep_getD {n d : Nat} : (List.replicate n false).getD d false = false := by
  rw [List.getD_eq_getElem?_getD, List.getElem?_replicate]; split <;> rfl
theorem LInv.start {n : Nat} {E : List (Int × Int)} (hE : EdgesOk n E) : LInv E [] (List.replicate 26 false) where
  len := by simp
  lab := fun x hx => absurd hx (by simp)
  nd := List.nodup_nil
  pw := List.Pairwise.imp_of_mem (R := fun _ _ => True) (fun {a b} ha hb _ h => by
    have := hE.2.2 a ha
    have h : a.2 < 0 := h
    omega) (List.pairwise_of_forall (fun _ _ => trivial))
  met := fun d => by
    rw [rep_getD]
    refine ⟨fun h => (by cases h), ?_⟩
    rintro ⟨e, he, h1, _⟩
    have := hE.2.2 e he
    have h1 : e.2 < 0 := h1
    omega
section
variable {n : Nat} {E : List (Int × Int)} {L : List Int} {A : List Bool} {x : Int}
theorem dfE_low (hE : EdgesOk n E) {e : Int × Int} (he : e ∈ E) (h : e.2 < (L.length : Int)) : dfE (L ++ [x]) e = dfE L e := by
  have := hE.2.2 e he
  unfold dfE
  rw [List.getD_eq_getElem?_getD, List.getD_eq_getElem?_getD, List.getD_eq_getElem?_getD, List.getD_eq_getElem?_getD, List.getElem?_append_left (by omega), List.getElem?_append_left (by omega)]
theorem dfE_top (hE : EdgesOk n E) {e : Int × Int} (he : e ∈ E) (h : e.2 = (L.length : Int)) : dfE (L ++ [x]) e = dxE L x e := by
  have := hE.2.2 e he
  unfold dfE dxE
  rw [absD_comm, List.getD_eq_getElem?_getD, List.getD_eq_getElem?_getD, List.getD_eq_getElem?_getD, List.getElem?_append_right (by omega), List.getElem?_append_left (by omega), show e.2.toNat - L.length = 0 by omega]; rfl
theorem dfE_bd (hE : EdgesOk n E) (hL : LabOk E L) {e : Int × Int} (he : e ∈ E) (h : e.2 < (L.length : Int)) : 0 ≤ dfE L e ∧ dfE L e ≤ E.length := by
  have := hE.2.2 e he
  have h1 : e.1.toNat < L.length := by omega
  have h2 : e.2.toNat < L.length := by omega
  have p := hL _ (List.getElem_mem h1)
  have q := hL _ (List.getElem_mem h2)
  unfold dfE
  rw [List.getD_eq_getElem?_getD, List.getD_eq_getElem?_getD, List.getElem?_eq_getElem h1, List.getElem?_eq_getElem h2]
  unfold absD
  show 0 ≤ (if L[e.1.toNat] < L[e.2.toNat] then _ else _) ∧ (if L[e.1.toNat] < L[e.2.toNat] then _ else _) ≤ _
  split <;> constructor <;> simp only [Option.getD_some] at * <;> omega
theorem dxE_bd (hE : EdgesOk n E) (hL : LabOk E L) (hx : 0 ≤ x ∧ x ≤ (E.length : Int)) {e : Int × Int} (he : e ∈ E) (h : e.2 = (L.length : Int)) : 0 ≤ dxE L x e ∧ dxE L x e < 26 := by
  have h0 := hE.2.2 e he
  have h10 := hE.1
  have h1 : e.1.toNat < L.length := by omega
  have p := hL _ (List.getElem_mem h1)
  unfold dxE
  rw [List.getD_eq_getElem?_getD, List.getElem?_eq_getElem h1]
  simp only [Option.getD_some]
  unfold absD
  split <;> omega
/-- The program's step and the reference's test. -/
theorem step_iff (hE : EdgesOk n E) (hI : LInv E L A) (hx : 0 ≤ x ∧ x ≤ (E.length : Int)) (hn : x ∉ L) :
    match stepE E L x A with
    | none => ¬ PwK E (L ++ [x]) ((L.length : Int) + 1)
    | some B => PwK E (L ++ [x]) ((L.length : Int) + 1) ∧ LInv E (L ++ [x]) B := by
  have sp := step_spec (L := L) (x := x) E A hI.len (fun e he h => dxE_bd hE hI.lab hx he h)
  have key : ((∀ e ∈ E, e.2 = (L.length : Int) → A.getD (dxE L x e).toNat false = false) ∧ PwX E L x) ↔ PwK E (L ++ [x]) ((L.length : Int) + 1) := by
    constructor
    · rintro ⟨p1, p2⟩
      have p3 := hI.pw
      unfold PwX at p2
      unfold PwK at p3 ⊢
      refine List.Pairwise.imp_of_mem (R := fun e e' => (e.2 < (L.length : Int) → e'.2 < (L.length : Int) → dfE L e ≠ dfE L e') ∧ (e.2 = (L.length : Int) → e'.2 = (L.length : Int) → dxE L x e ≠ dxE L x e')) (fun {a b} ha hb hab h1 h2 => ?_) ((List.pairwise_and_iff).2 ⟨p3, p2⟩)
      have mix : ∀ c ∈ E, ∀ d ∈ E, c.2 < (L.length : Int) → d.2 = (L.length : Int) → dfE L c ≠ dxE L x d := fun c hc d hd h3 h4 h5 => by
        have b0 := dfE_bd hE hI.lab hc h3
        have := p1 d hd h4
        rw [← h5, (hI.met _).2 ⟨c, hc, h3, by omega⟩] at this
        cases this
      rcases Int.lt_or_eq_of_le (show a.2 ≤ (L.length : Int) by omega) with h3 | h3 <;> rcases Int.lt_or_eq_of_le (show b.2 ≤ (L.length : Int) by omega) with h4 | h4
      · rw [dfE_low hE ha h3, dfE_low hE hb h4]; exact hab.1 h3 h4
      · rw [dfE_low hE ha h3, dfE_top hE hb h4]; exact mix a ha b hb h3 h4
      · rw [dfE_top hE ha h3, dfE_low hE hb h4]; exact (mix b hb a ha h4 h3).symm
      · rw [dfE_top hE ha h3, dfE_top hE hb h4]; exact hab.2 h3 h4
    · intro p
      refine ⟨fun e he h1 => ?_, ?_⟩
      · rw [Bool.eq_false_iff]
        intro h2
        obtain ⟨e', he', h3, h4⟩ := (hI.met _).1 h2
        have := dxE_bd hE hI.lab hx he h1
        have hne : e ≠ e' := fun h => by rw [h] at h1; omega
        have := pw_all (R := fun e e' : Int × Int => e.2 < (L.length : Int) + 1 → e'.2 < (L.length : Int) + 1 → dfE (L ++ [x]) e ≠ dfE (L ++ [x]) e') (fun a b h h1 h2 => (h h2 h1).symm) p e he e' he' hne (by omega) (by omega)
        rw [dfE_top hE he h1, dfE_low hE he' h3] at this
        omega
      · unfold PwX
        refine List.Pairwise.imp_of_mem (fun {a b} ha hb hab h1 h2 => ?_) p
        have := hab (by omega) (by omega)
        rw [dfE_top hE ha h1, dfE_top hE hb h2] at this
        exact this
  unfold stepE
  cases hs : E.foldl (stepO L x) (some A) with
  | none => rw [hs] at sp; exact fun h => sp (key.2 h)
  | some B =>
    rw [hs] at sp
    obtain ⟨s1, s2, s3⟩ := sp
    have hp := key.1 s1
    refine ⟨hp, s2, fun y hy => ?_, ?_, ?_, fun d => ?_⟩
    · rcases List.mem_append.1 hy with hy | hy
      · exact hI.lab y hy
      · rw [List.mem_singleton.1 hy]; exact hx
    · rw [List.nodup_append]
      refine ⟨hI.nd, by simp, fun a ha b hb => ?_⟩
      rw [List.mem_singleton.1 hb]
      exact fun h => hn (h ▸ ha)
    · rw [List.length_append]; exact hp
    · rw [s3 d, hI.met d]
      constructor
      · rintro (⟨e, he, h1, h2⟩ | ⟨e, he, h1, h2⟩)
        · exact ⟨e, he, by simp; omega, by rw [dfE_low hE he h1]; exact h2⟩
        · exact ⟨e, he, by simp; omega, by rw [dfE_top hE he h1]; exact h2⟩
      · rintro ⟨e, he, h1, h2⟩
        have h1 : e.2 < (L.length : Int) + 1 := by simpa using h1
        rcases Int.lt_or_eq_of_le (show e.2 ≤ (L.length : Int) by omega) with h3 | h3
        · exact .inl ⟨e, he, h3, by rw [dfE_low hE he h3] at h2; exact h2⟩
        · exact .inr ⟨e, he, h3, by rw [dfE_top hE he h3] at h2; exact h2⟩
end
theorem difsOk_iff {E : List (Int × Int)} {L : List Int} : difsOk E L = true ↔ E.Pairwise fun e e' => dfE L e ≠ dfE L e' := by
  unfold difsOk
  rw [List.all_eq_true, List.pairwise_iff_getElem]
  constructor
  · intro h i j hi hj hij heq
    have := h j (by simpa using hj)
    unfold difOk1 at this
    have hg : E.getD j (0, 0) = E[j] := by simp [hj]
    rw [hg] at this
    have : dfE L E[j] ∉ (E.take j).map (dfE L) := by simpa using this
    apply this
    rw [← heq]
    exact List.mem_map.2 ⟨E[i], List.mem_iff_getElem.2 ⟨i, by simp; omega, by simp⟩, rfl⟩
  · intro h j hj
    have hj : j < E.length := by simpa using hj
    unfold difOk1
    have hg : E.getD j (0, 0) = E[j] := by simp [hj]
    rw [hg, Bool.not_eq_true', decide_eq_false_iff_not]
    intro hm
    obtain ⟨e, he, heq⟩ := List.mem_map.1 hm
    obtain ⟨i, hi, rfl⟩ := List.getElem_of_mem he
    have hi' : i < j ∧ i < E.length := by rw [List.length_take] at hi; omega
    rw [List.getElem_take] at heq
    exact h i j hi'.2 hj hi'.1 heq
theorem LInv.gr {n : Nat} {E : List (Int × Int)} {L : List Int} {A : List Bool} (hI : LInv E L A) (hE : EdgesOk n E) (hn : L.length = n) : grB (n : Int) E L = true := by
  unfold grB
  rw [Bool.and_eq_true, Bool.and_eq_true]
  refine ⟨by simp; omega, all_yes fun j hj => ?_, difsOk_iff.2 ?_⟩
  · unfold labOk1
    have hg : L.getD j 0 = L[j] := by simp [hj]
    obtain ⟨a, b⟩ := hI.lab L[j] (List.getElem_mem hj)
    rw [hg, decide_eq_true a, decide_eq_true b, Bool.true_and, Bool.true_and, Bool.not_eq_true', decide_eq_false_iff_not]
    intro hm
    obtain ⟨i, hi, heq⟩ := List.getElem_of_mem hm
    have hi' : i < j ∧ i < L.length := by rw [List.length_take] at hi; omega
    rw [List.getElem_take] at heq
    exact (List.pairwise_iff_getElem.1 hI.nd) i j hi'.2 hj hi'.1 heq
  · refine List.Pairwise.imp_of_mem (fun {a b} ha hb hab => ?_) hI.pw
    have := hE.2.2 a ha
    have := hE.2.2 b hb
    exact hab (by omega) (by omega)
theorem enumL_gr {n : Nat} {E : List (Int × Int)} (hE : EdgesOk n E) : ∀ (f : Nat) (L : List Int) (A : List Bool), LInv E L A → L.length + f = n → ∀ M ∈ enumL E f L A, grB (n : Int) E M = true ∧ ∃ B, LInv E M B ∧ M.length = n
  | 0, L, A, hI, hn, M, hM => by
    have : M = L := by simpa [enumL] using hM
    subst this
    exact ⟨hI.gr hE (by omega), A, hI, by omega⟩
  | f + 1, L, A, hI, hn, M, hM => by
    rw [enumL_succ] at hM
    obtain ⟨x, hx, hM⟩ := List.mem_flatMap.1 hM
    have hx : x < E.length + 1 := by simpa using hx
    unfold subL subG at hM
    by_cases hin : (x : Int) ∈ L
    · rw [if_pos hin] at hM; exact absurd hM (by simp)
    · rw [if_neg hin] at hM
      have sp := step_iff (x := (x : Int)) hE hI (by omega) hin
      cases hs : stepE E L (x : Int) A with
      | none => rw [hs] at hM; exact absurd hM (by simp)
      | some B =>
        rw [hs] at sp hM
        exact enumL_gr hE f _ B sp.2 (by simp; omega) M hM
/-- All labels are graceful. -/
theorem labsL_gr {n : Nat} {E : List (Int × Int)} (hE : EdgesOk n E) {M : List Int} (hM : M ∈ labsL n E) : grB (n : Int) E M = true ∧ LabOk E M ∧ M.length = n ∧ M.Nodup ∧ E.Pairwise (fun e e' => dfE M e ≠ dfE M e') := by
  obtain ⟨h1, B, h2, h3⟩ := enumL_gr hE n [] _ (LInv.start hE) (by simp) M hM
  refine ⟨h1, h2.lab, h3, h2.nd, ?_⟩
  refine List.Pairwise.imp_of_mem (fun {a b} ha hb hab => ?_) h2.pw
  have := hE.2.2 a ha
  have := hE.2.2 b hb
  exact hab (by omega) (by omega)
end Go.Ev
namespace Go.Ev
section
variable {n : Nat} {E : List (Int × Int)} {M : List Int} {k : Int} {j : Nat}
end
end Go.Ev
namespace Go.Ev
open Go Go.RowKit
section
variable {fs : T EF} {ro : Option K} {h h' : H} {v w : V} {n : Nat} {E : List (Int × Int)} {L : List Int} {x : Int}
end
end Go.Ev
namespace Go.Ev
open Go Go.RowKit
noncomputable def f4_r0 : List EOper := [⟨(some (K.ofNat 4)), none, .as (.c (.b false))⟩]
noncomputable def f4_r1 : List EOper := [⟨(some (K.ofNat 18)), none, .mv (.t (K.ofNat 0))⟩, ⟨(some (K.ofNat 19)), none, .mv (.t (K.ofNat 1))⟩, ⟨(some (K.ofNat 20)), none, .call (.c (.fn (K.ofNat 28) [])) [(.t (K.ofNat 18)), (.t (K.ofNat 19)), (.c (.i .i64 (.ofNat 10)))]⟩, ⟨(some (K.ofNat 17)), none, .mv (.t (K.ofNat 20))⟩, ⟨(some (K.ofNat 21)), none, .ext (.t (K.ofNat 17)) 0⟩, ⟨(some (K.ofNat 22)), none, .ext (.t (K.ofNat 17)) 1⟩, ⟨(some (K.ofNat 5)), none, .as (.t (K.ofNat 21))⟩, ⟨(some (K.ofNat 6)), none, .as (.t (K.ofNat 22))⟩]
noncomputable def f4_r2 : List EOper := [⟨(some (K.ofNat 24)), none, .mv (.t (K.ofNat 5))⟩, ⟨(some (K.ofNat 25)), none, .mv (.t (K.ofNat 6))⟩, ⟨(some (K.ofNat 26)), none, .call (.c (.fn (K.ofNat 24) [])) [(.t (K.ofNat 24)), (.t (K.ofNat 25))]⟩, ⟨(some (K.ofNat 23)), none, .mv (.t (K.ofNat 26))⟩, ⟨(some (K.ofNat 27)), none, .ext (.t (K.ofNat 23)) 0⟩, ⟨(some (K.ofNat 28)), none, .ext (.t (K.ofNat 23)) 1⟩, ⟨(some (K.ofNat 29)), none, .ext (.t (K.ofNat 23)) 2⟩, ⟨(some (K.ofNat 7)), none, .as (.t (K.ofNat 27))⟩, ⟨(some (K.ofNat 8)), none, .as (.t (K.ofNat 28))⟩, ⟨(some (K.ofNat 9)), none, .as (.t (K.ofNat 29))⟩]
noncomputable def f4_r3 : List EOper := [⟨(some (K.ofNat 31)), none, .mv (.t (K.ofNat 5))⟩, ⟨(some (K.ofNat 32)), none, .mv (.t (K.ofNat 6))⟩, ⟨(some (K.ofNat 33)), none, .call (.c (.fn (K.ofNat 25) [])) [(.t (K.ofNat 31)), (.t (K.ofNat 32))]⟩, ⟨(some (K.ofNat 30)), none, .mv (.t (K.ofNat 33))⟩, ⟨(some (K.ofNat 34)), none, .ext (.t (K.ofNat 30)) 0⟩, ⟨(some (K.ofNat 35)), none, .ext (.t (K.ofNat 30)) 1⟩, ⟨(some (K.ofNat 10)), none, .as (.t (K.ofNat 34))⟩, ⟨(some (K.ofNat 11)), none, .as (.t (K.ofNat 35))⟩]
noncomputable def f4_r4 : List EOper := [⟨(some (K.ofNat 37)), none, .mv (.t (K.ofNat 5))⟩, ⟨(some (K.ofNat 38)), none, .mv (.t (K.ofNat 6))⟩, ⟨(some (K.ofNat 39)), none, .call (.c (.fn (K.ofNat 26) [])) [(.t (K.ofNat 37)), (.t (K.ofNat 38))]⟩, ⟨(some (K.ofNat 36)), none, .mv (.t (K.ofNat 39))⟩, ⟨(some (K.ofNat 40)), none, .ext (.t (K.ofNat 36)) 0⟩, ⟨(some (K.ofNat 41)), none, .ext (.t (K.ofNat 36)) 1⟩, ⟨(some (K.ofNat 42)), none, .ext (.t (K.ofNat 36)) 2⟩, ⟨(some (K.ofNat 12)), none, .as (.t (K.ofNat 40))⟩, ⟨(some (K.ofNat 13)), none, .as (.t (K.ofNat 41))⟩, ⟨(some (K.ofNat 14)), none, .as (.t (K.ofNat 42))⟩]
noncomputable def f4_r5 : List EOper := [⟨(some (K.ofNat 43)), none, .mv (.t (K.ofNat 5))⟩, ⟨(some (K.ofNat 44)), none, .mv (.t (K.ofNat 6))⟩, ⟨(some (K.ofNat 45)), none, .call (.c (.fn (K.ofNat 29) [])) [(.t (K.ofNat 43)), (.t (K.ofNat 44)), (.c (.b false))]⟩, ⟨(some (K.ofNat 46)), none, .mv (.t (K.ofNat 5))⟩, ⟨(some (K.ofNat 47)), none, .mv (.t (K.ofNat 6))⟩, ⟨(some (K.ofNat 48)), none, .call (.c (.fn (K.ofNat 29) [])) [(.t (K.ofNat 46)), (.t (K.ofNat 47)), (.c (.b true))]⟩, ⟨(some (K.ofNat 15)), none, .as (.t (K.ofNat 45))⟩, ⟨(some (K.ofNat 16)), none, .as (.t (K.ofNat 48))⟩]
noncomputable def f4_r6 : List EOper := [⟨(some (K.ofNat 49)), none, .mv (.t (K.ofNat 9))⟩, ⟨(some (K.ofNat 50)), none, .bin .eql (.t (K.ofNat 49)) (.c (.i .i64 (.ofNat 0)))⟩, ⟨(some (K.ofNat 51)), none, .mv (.t (K.ofNat 50))⟩, ⟨(some (K.ofNat 52)), (some ((K.ofNat 51), true)), .mv (.t (K.ofNat 8))⟩, ⟨(some (K.ofNat 53)), (some ((K.ofNat 51), true)), .mv (.t (K.ofNat 15))⟩, ⟨(some (K.ofNat 54)), (some ((K.ofNat 51), true)), .isnil true (.t (K.ofNat 53))⟩, ⟨(some (K.ofNat 55)), (some ((K.ofNat 51), true)), .eqk (.one none) false (.t (K.ofNat 52)) (.t (K.ofNat 54))⟩, ⟨(some (K.ofNat 56)), none, .pick (.t (K.ofNat 51)) (.t (K.ofNat 55)) (.c (.b false))⟩, ⟨(some (K.ofNat 57)), none, .mv (.t (K.ofNat 56))⟩, ⟨(some (K.ofNat 58)), (some ((K.ofNat 57), true)), .mv (.t (K.ofNat 7))⟩, ⟨(some (K.ofNat 59)), (some ((K.ofNat 57), true)), .mv (.t (K.ofNat 15))⟩, ⟨(some (K.ofNat 60)), (some ((K.ofNat 57), true)), .call (.c (.fn (K.ofNat 30) [])) [(.t (K.ofNat 58)), (.t (K.ofNat 59))]⟩, ⟨(some (K.ofNat 61)), none, .pick (.t (K.ofNat 57)) (.t (K.ofNat 60)) (.c (.b false))⟩, ⟨(some (K.ofNat 62)), none, .mv (.t (K.ofNat 61))⟩, ⟨(some (K.ofNat 63)), (some ((K.ofNat 62), true)), .mv (.t (K.ofNat 11))⟩, ⟨(some (K.ofNat 64)), (some ((K.ofNat 62), true)), .bin .eql (.t (K.ofNat 63)) (.c (.i .i64 (.ofNat 0)))⟩, ⟨(some (K.ofNat 65)), none, .pick (.t (K.ofNat 62)) (.t (K.ofNat 64)) (.c (.b false))⟩, ⟨(some (K.ofNat 66)), none, .mv (.t (K.ofNat 65))⟩, ⟨(some (K.ofNat 67)), (some ((K.ofNat 66), true)), .mv (.t (K.ofNat 10))⟩, ⟨(some (K.ofNat 68)), (some ((K.ofNat 66), true)), .mv (.t (K.ofNat 5))⟩, ⟨(some (K.ofNat 69)), (some ((K.ofNat 66), true)), .mv (.t (K.ofNat 6))⟩, ⟨(some (K.ofNat 70)), (some ((K.ofNat 66), true)), .call (.c (.fn (K.ofNat 31) [])) [(.t (K.ofNat 68)), (.t (K.ofNat 69))]⟩, ⟨(some (K.ofNat 71)), (some ((K.ofNat 66), true)), .bin .eql (.t (K.ofNat 67)) (.t (K.ofNat 70))⟩, ⟨(some (K.ofNat 72)), none, .pick (.t (K.ofNat 66)) (.t (K.ofNat 71)) (.c (.b false))⟩, ⟨(some (K.ofNat 73)), none, .mv (.t (K.ofNat 72))⟩, ⟨(some (K.ofNat 74)), (some ((K.ofNat 73), true)), .mv (.t (K.ofNat 14))⟩, ⟨(some (K.ofNat 75)), (some ((K.ofNat 73), true)), .bin .eql (.t (K.ofNat 74)) (.c (.i .i64 (.ofNat 0)))⟩, ⟨(some (K.ofNat 76)), none, .pick (.t (K.ofNat 73)) (.t (K.ofNat 75)) (.c (.b false))⟩, ⟨(some (K.ofNat 77)), none, .mv (.t (K.ofNat 76))⟩, ⟨(some (K.ofNat 78)), (some ((K.ofNat 77), true)), .mv (.t (K.ofNat 13))⟩, ⟨(some (K.ofNat 79)), (some ((K.ofNat 77), true)), .mv (.t (K.ofNat 16))⟩, ⟨(some (K.ofNat 80)), (some ((K.ofNat 77), true)), .isnil true (.t (K.ofNat 79))⟩, ⟨(some (K.ofNat 81)), (some ((K.ofNat 77), true)), .eqk (.one none) false (.t (K.ofNat 78)) (.t (K.ofNat 80))⟩, ⟨(some (K.ofNat 82)), none, .pick (.t (K.ofNat 77)) (.t (K.ofNat 81)) (.c (.b false))⟩, ⟨(some (K.ofNat 83)), none, .mv (.t (K.ofNat 82))⟩, ⟨(some (K.ofNat 84)), (some ((K.ofNat 83), true)), .mv (.t (K.ofNat 12))⟩, ⟨(some (K.ofNat 85)), (some ((K.ofNat 83), true)), .mv (.t (K.ofNat 16))⟩, ⟨(some (K.ofNat 86)), (some ((K.ofNat 83), true)), .call (.c (.fn (K.ofNat 30) [])) [(.t (K.ofNat 84)), (.t (K.ofNat 85))]⟩, ⟨(some (K.ofNat 87)), none, .pick (.t (K.ofNat 83)) (.t (K.ofNat 86)) (.c (.b false))⟩, ⟨(some (K.ofNat 88)), none, .mv (.t (K.ofNat 87))⟩, ⟨(some (K.ofNat 89)), (some ((K.ofNat 88), true)), .call (.c (.fn (K.ofNat 23) [])) []⟩, ⟨(some (K.ofNat 90)), none, .pick (.t (K.ofNat 88)) (.t (K.ofNat 89)) (.c (.b false))⟩, ⟨(some (K.ofNat 4)), none, .as (.t (K.ofNat 90))⟩]
noncomputable def f4_c : EC := (.seq (.reg f4_r0) (.seq (.reg f4_r1) (.seq (.reg f4_r2) (.seq (.reg f4_r3) (.seq (.reg f4_r4) (.seq (.reg f4_r5) (.seq (.reg f4_r6) .ret)))))))
noncomputable def f4 : EF := ⟨91, [.tmp (K.ofNat 4)], f4_c, none⟩
section
variable {fs : T EF} {ro : Option K} {h : H} {v : V} {m : Nat} {E : List (Int × Int)}
end
section
variable {fs : T EF} {ro : Option K}
end
end Go.Ev
namespace Go.Ev
open Go Go.RowKit
section
variable {fs : T EF}
end
end Go.Ev
namespace Go.Ev
open Go Go.RowKit
section
variable {h h' : H} {v u : V} {L : List (Int × Int)} {b : Nat}
theorem flat_get : ∀ {L : List (Int × Int)} {t : Nat}, (L.flatMap qE)[t]? = (L[t / 2]?).map fun p => if t % 2 = 0 then iE p.1 else iE p.2
  | [], t => by simp
  | x :: L, 0 => rfl
  | x :: L, 1 => rfl
  | x :: L, t + 2 => by
    rw [List.flatMap_cons]
    show (V.i .i64 x.1 :: V.i .i64 x.2 :: L.flatMap qE)[t + 2]? = _
    rw [List.getElem?_cons_succ, List.getElem?_cons_succ, flat_get (L := L) (t := t), show (t + 2) / 2 = t / 2 + 1 by omega, List.getElem?_cons_succ, show (t + 2) % 2 = t % 2 by omega]
theorem set_get {cs : List V} {p : Nat} {a b : V} (hp : p + 2 ≤ cs.length) {q : Nat} : (setMany cs p [a, b])[q]? = if q = p then some a else if q = p + 1 then some b else cs[q]? := by
  rw [setMany_eq _ _ _ (by simpa using hp)]
  rcases Nat.lt_trichotomy q p with h1 | h1 | h1
  · rw [List.append_assoc, List.getElem?_append_left (by simp; omega), List.getElem?_take, if_pos h1, if_neg (by omega), if_neg (by omega)]
  · subst h1
    rw [List.append_assoc, List.getElem?_append_right (by simp; omega), if_pos rfl]; simp
    have : min q cs.length = q := by omega
    rw [this]; simp
  · rw [if_neg (by omega)]
    by_cases h2 : q = p + 1
    · subst h2
      rw [if_pos rfl, List.append_assoc, List.getElem?_append_right (by simp; omega)]; simp
      have : p + 1 - min p cs.length = 1 := by omega
      rw [this]; simp
    · rw [if_neg h2, List.getElem?_append_right (by simp; omega)]
      simp
      rw [show p + 2 + (q - (min p cs.length + 2)) = q by omega]
/-- A store into a slice of pairs. -/
theorem Sk.st2 (hs : Sk 2 qE h v L) {i : Nat} (hi : i < L.length) {x : Int × Int} (hhc : HC h) :
    ∃ p id m cs', (∀ k h1, iadsV 2 v (.i k (i : Int)) h1 = .ok p h1) ∧ storeV h 2 p (.agg [.i .i64 x.1, .i .i64 x.2]) = .ok undefV (h.put id (.cells m cs')) ∧ Sk 2 qE (h.put id (.cells m cs')) v (L.set i x) ∧ (∃ off n sz, v = .sl id off n sz) ∧ id.nat < h.nx.nat := by
  rcases hs with ⟨rfl, rfl⟩ | ⟨id, off, m, cs, rfl, hb, hl, hm, hx⟩
  · simp at hi
  · have hin : i * 2 + 2 ≤ L.length * 2 := by omega
    refine ⟨.p id (off + i * 2), id, m, setMany cs (off + i * 2) [.i .i64 x.1, .i .i64 x.2], fun k h1 => ?_, ?_, ?_, ⟨off, L.length, 2, rfl⟩, hhc.cells hb⟩
    · rw [iads_sl, idx_n hi]
    · exact store_p hb cells2 (by omega)
    · refine .inr ⟨id, off, m, _, by rw [List.length_set], get_put_same, ?_, by rw [List.length_set]; exact hm, ?_⟩
      · rw [setMany_eq _ _ _ (by simp; omega)]; simp; omega
      · rw [List.length_set]
        apply List.ext_getElem?
        intro t
        rw [List.getElem?_take, flat_get]
        by_cases ht : t < L.length * 2
        · have h0 := congrArg (fun l => l[t]?) hx
          simp only [List.getElem?_take, if_pos ht, List.getElem?_drop, flat_get] at h0
          rw [if_pos ht, List.getElem?_drop, set_get (by omega), List.getElem?_set]
          by_cases e1 : t = i * 2
          · subst e1
            rw [if_pos rfl, show i * 2 / 2 = i by omega, if_pos rfl, if_pos hi]
            simp [iE]
          · by_cases e2 : t = i * 2 + 1
            · subst e2
              rw [if_neg (by omega), if_pos (by omega), show (i * 2 + 1) / 2 = i by omega, if_pos rfl, if_pos hi]
              simp [iE]
            · rw [if_neg (by omega), if_neg (by omega), if_neg (by omega), h0]
        · rw [if_neg ht, List.getElem?_eq_none (by simp; omega)]; rfl
theorem rep_flat {x : Int × Int} : ∀ n, rep (qE x) n = (List.replicate n x).flatMap qE
  | 0 => rfl
  | n + 1 => by
    show cat (qE x) (rep (qE x) n) = _
    rw [cat_eq, rep_flat n, List.replicate_succ, List.flatMap_cons]
theorem mks_p {k : IntKind} {n : Nat} (hn : n ≤ 1000000) : mksV 2 [.i .i64 0, .i .i64 0] h (.i k (n : Int)) = .ok (.sl h.nx 0 n 2) (h.new (.cells (n * 2) (rep (qE (0, 0)) n))) := by
  show (bif Nat.ble n 1000000 then RV.ok (.sl h.nx 0 n 2) (h.new (.cells (n * 2) (rep (qE (0, 0)) n))) else .no) = _
  rw [Nat.ble_eq_true_of_le hn]; rfl
theorem mksp_sl {n : Nat} : Sk 2 qE (h.new (.cells (n * 2) (rep (qE (0, 0)) n))) (.sl h.nx 0 n 2) (List.replicate n (0, 0)) :=
  .inr ⟨h.nx, 0, n * 2, _, by simp, get_new_same, by rw [rep_flat, flat_len qE_len]; simp, by simp, by rw [rep_flat, List.drop_zero, List.take_of_length_le (by rw [flat_len qE_len]; simp)]⟩
/-! ### Slices of slices of pairs -/
def vE (u : V) : V := u
structure Sll (h : H) (v : V) (us : List V) (Ls : List (List (Int × Int))) : Prop where
  len : us.length = Ls.length
  out : Sl vE h v us
  inn : ∀ i (h1 : i < us.length) (h2 : i < Ls.length), Srp h us[i] Ls[i]
  sep : ∀ u ∈ us, ∀ id off n sz, u = .sl id off n sz → NotIn id v
section
variable {us : List V} {Ls : List (List (Int × Int))}
theorem Sll.nil : Sll h .sn [] [] := ⟨rfl, Sl.nil, fun i h1 => absurd h1 (by simp), fun u hu => absurd hu (by simp)⟩
theorem Sll.grow (s : Sll h v us Ls) (hc : HC h) (hg : Grow h.nx.nat h h') : Sll h' v us Ls := ⟨s.len, s.out.grow hc hg, fun i h1 h2 => (s.inn i h1 h2).grow hc hg, s.sep⟩
theorem Srp.cell {L : List (Int × Int)} (hs : Srp h v L) : cellsN 1 v = some [v] := by rcases hs with ⟨rfl, _⟩ | ⟨_, _, _, _, rfl, _⟩ <;> rfl
theorem Srp.old {L : List (Int × Int)} (hs : Srp h v L) (hg : ∀ id off n sz, v = .sl id off n sz → h'.get id = h.get id) : Srp h' v L := by
  rcases hs with hs | ⟨id, off, m, cs, rfl, hb, hx⟩
  · exact .inl hs
  · exact .inr ⟨id, off, m, cs, rfl, by rw [hg _ _ _ _ rfl]; exact hb, hx⟩
/-- append(v, u): a slice more. -/
theorem Sll.push (s : Sll h v us Ls) (ho : Own b v) (hb : b ≤ h.nx.nat) (hc : HC h) (hn : Ls.length < 16777216) (hu : Srp h u L) (hsep : ∀ id off n sz, u = .sl id off n sz → NotIn id v) :
    ∃ v' h', appV 1 (h.new (.cells (1 * 1) [u])) v (.sl h.nx 0 1 1) = .ok v' h' ∧ Sll h' v' (us ++ [u]) (Ls ++ [L]) ∧ Own b v' ∧ Grow b h h' ∧ ∀ id : K, id.nat < h.nx.nat → NotIn id v → h'.get id = h.get id ∧ NotIn id v' := by
  obtain ⟨v', h', e1, e2, e3, e4, e5⟩ := Sl.push (e := vE) (x := u) (c := u) rfl s.out ho hb hc (by rw [s.len]; exact hn)
  have hul : ∀ id off n sz, u = .sl id off n sz → id.nat < h.nx.nat := Srk.lt hu hc
  have hil : ∀ w ∈ us, ∀ id off n sz, w = .sl id off n sz → id.nat < h.nx.nat := fun w hw => by
    obtain ⟨i, hi, rfl⟩ := List.getElem_of_mem hw
    exact Srk.lt (s.inn i hi (by rw [← s.len]; exact hi)) hc
  refine ⟨v', h', e1, ⟨by rw [List.length_append, List.length_append, s.len]; rfl, e2, fun i h1 h2 => ?_, fun w hw id off n sz ew => ?_⟩, e3, e4, e5⟩
  · by_cases hi : i < us.length
    · have hi2 : i < Ls.length := by rw [← s.len]; exact hi
      rw [List.getElem_append_left hi, List.getElem_append_left hi2]
      exact (s.inn i hi hi2).old fun id off n sz ew => (e5 id (hil _ (List.getElem_mem hi) _ _ _ _ ew) (s.sep _ (List.getElem_mem hi) _ _ _ _ ew)).1
    · have hl : i = us.length := by rw [List.length_append] at h1; simp at h1; omega
      subst hl
      rw [List.getElem_append_right (Nat.le_refl _), List.getElem_append_right (by rw [s.len]; exact Nat.le_refl _)]
      simp only [Nat.sub_self, List.getElem_cons_zero, s.len]
      exact hu.old fun id off n sz ew => (e5 id (hul _ _ _ _ ew) (hsep _ _ _ _ ew)).1
  · rcases List.mem_append.1 hw with hw | hw
    · exact (e5 id (hil w hw _ _ _ _ ew) (s.sep w hw _ _ _ _ ew)).2
    · rw [List.mem_singleton.1 hw] at ew
      exact (e5 id (hul _ _ _ _ ew) (hsep _ _ _ _ ew)).2
end
end
end Go.Ev
namespace Go.Ev
section
variable {h h' : H} {v u : V} {L M : List (Int × Int)}
end
end Go.Ev
