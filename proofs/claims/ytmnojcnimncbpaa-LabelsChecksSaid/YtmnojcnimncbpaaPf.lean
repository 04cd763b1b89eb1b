/-
  Labels: Label and Count.
  Labels: how a ruler grows.
  Labels: a ruler grows from a beginning; the shortest ruler.
  Labels: the program's rulers.
  Labels: the reference's rulers.
  Labels: the reference's Extend and Shortest.
  Labels: what is grown is what the reference grows; a ruler of seven marks.
  Labels: the law LabelsRuler.
  Labels: measured, IsRuler.
  Labels: Extend; few.
  Labels: the law LabelsRulers.
  Labels: are labels graceful?
  Labels: the reference's Graceful; IsGraceful.
  Labels: IsGraceful, Turned, of the program and of the reference.
  Labels: the reference's search: it gives some labels, whichever.
  Labels: the reference's Parts; its search gives some labels.
  Labels: Parts.
  Labels: tame makes a graph.
  Labels: the law LabelsTells.
  Labels: the reference's Check.
  Labels: what the reference's search goes through is what the program goes through.
  Labels: the reference's search, whole.
  Labels: the first labels that part; the law LabelsFirst.
  The evaluator, weakest preconditions: what follows may be weakened.
-/
import Derived.Test.YtmnojcnimncbpaaPe
import Derived.Test.YtmnojcnimncbpaaPd
namespace Go.Ev
open Go Go.RowKit
noncomputable def f24_r0 : List EOper := [⟨(some (K.ofNat 4)), none, .alloc 1 [.sn]⟩, ⟨(some (K.ofNat 5)), none, .alloc 1 [(.b false)]⟩, ⟨(some (K.ofNat 6)), none, .alloc 1 [(.i .i64 (.ofNat 0))]⟩]
noncomputable def f24_r1 : List EOper := [⟨(some (K.ofNat 9)), none, .mv (.t (K.ofNat 0))⟩, ⟨(some (K.ofNat 10)), none, .mv (.t (K.ofNat 1))⟩, ⟨(some (K.ofNat 11)), none, .call (.c (.fn (K.ofNat 17) [])) [(.t (K.ofNat 9)), (.t (K.ofNat 10))]⟩, ⟨(some (K.ofNat 7)), none, .as (.t (K.ofNat 11))⟩]
noncomputable def f24_r2 : List EOper := [⟨(some (K.ofNat 12)), none, .mv (.t (K.ofNat 7))⟩, ⟨(some (K.ofNat 13)), none, .bin .neq (.t (K.ofNat 12)) (.c (.i .i64 (.ofNat 0)))⟩]
noncomputable def f24_r3 : List EOper := [⟨(some (K.ofNat 14)), none, .mv (.t (K.ofNat 7))⟩, ⟨none, none, .st 1 (.t (K.ofNat 4)) (.c .sn)⟩, ⟨none, none, .st 1 (.t (K.ofNat 5)) (.c (.b false))⟩, ⟨none, none, .st 1 (.t (K.ofNat 6)) (.t (K.ofNat 14))⟩]
noncomputable def f24_r4 : List EOper := [⟨(some (K.ofNat 15)), none, .mv (.t (K.ofNat 0))⟩, ⟨(some (K.ofNat 16)), none, .mv (.t (K.ofNat 1))⟩, ⟨(some (K.ofNat 17)), none, .call (.c (.fn (K.ofNat 68) [])) [(.t (K.ofNat 15)), (.t (K.ofNat 16))]⟩]
noncomputable def f24_r5 : List EOper := [⟨(some (K.ofNat 8)), none, .as (.t (K.ofNat 18))⟩]
noncomputable def f24_a0 : EC := (.reg f24_r5)
noncomputable def f24_r6 : List EOper := [⟨(some (K.ofNat 19)), none, .mv (.t (K.ofNat 8))⟩, ⟨none, none, .st 1 (.t (K.ofNat 4)) (.t (K.ofNat 19))⟩, ⟨none, none, .st 1 (.t (K.ofNat 5)) (.c (.b true))⟩, ⟨none, none, .st 1 (.t (K.ofNat 6)) (.c (.i .i64 (.ofNat 0)))⟩]
noncomputable def f24_b0 : EC := (.block 1 (.seq (.reg f24_r6) .ret))
noncomputable def f24_r7 : List EOper := [⟨none, none, .st 1 (.t (K.ofNat 4)) (.c .sn)⟩, ⟨none, none, .st 1 (.t (K.ofNat 5)) (.c (.b false))⟩, ⟨none, none, .st 1 (.t (K.ofNat 6)) (.c (.i .i64 (.ofNat 0)))⟩]
noncomputable def f24_c : EC := (.seq (.reg f24_r0) (.seq (.seq (.reg f24_r1) (.seq (.reg f24_r2) (.cond (.t (K.ofNat 13)) (.seq (.reg f24_r3) .ret) .skip))) (.seq (.seq (.reg f24_r4) (.block 0 (.rangeF (.t (K.ofNat 17)) [(K.ofNat 18)] f24_a0 f24_b0))) (.seq (.reg f24_r7) .ret))))
noncomputable def f24 : EF := ⟨20, [.cell (K.ofNat 4), .cell (K.ofNat 5), .cell (K.ofNat 6)], f24_c, none⟩
theorem f24_rs : f24.rs = [.cell (K.ofNat 4), .cell (K.ofNat 5), .cell (K.ofNat 6)] := of_eq_true (eq_self _)
noncomputable def f25_r0 : List EOper := [⟨(some (K.ofNat 4)), none, .as (.c (.i .i64 (.ofNat 0)))⟩, ⟨(some (K.ofNat 5)), none, .as (.c (.i .i64 (.ofNat 0)))⟩]
noncomputable def f25_r1 : List EOper := [⟨(some (K.ofNat 8)), none, .mv (.t (K.ofNat 0))⟩, ⟨(some (K.ofNat 9)), none, .mv (.t (K.ofNat 1))⟩, ⟨(some (K.ofNat 10)), none, .call (.c (.fn (K.ofNat 17) [])) [(.t (K.ofNat 8)), (.t (K.ofNat 9))]⟩, ⟨(some (K.ofNat 6)), none, .as (.t (K.ofNat 10))⟩]
noncomputable def f25_r2 : List EOper := [⟨(some (K.ofNat 11)), none, .mv (.t (K.ofNat 6))⟩, ⟨(some (K.ofNat 12)), none, .bin .neq (.t (K.ofNat 11)) (.c (.i .i64 (.ofNat 0)))⟩]
noncomputable def f25_r3 : List EOper := [⟨(some (K.ofNat 13)), none, .mv (.t (K.ofNat 6))⟩, ⟨(some (K.ofNat 4)), none, .as (.c (.i .i64 (.ofNat 0)))⟩, ⟨(some (K.ofNat 5)), none, .as (.t (K.ofNat 13))⟩]
noncomputable def f25_r4 : List EOper := [⟨(some (K.ofNat 7)), none, .alloc 1 [(.i .i64 (.ofNat 0))]⟩, ⟨none, none, .st 1 (.t (K.ofNat 7)) (.c (.i .i64 (.ofNat 0)))⟩]
noncomputable def f25_r5 : List EOper := [⟨(some (K.ofNat 14)), none, .mv (.t (K.ofNat 0))⟩, ⟨(some (K.ofNat 15)), none, .mv (.t (K.ofNat 1))⟩, ⟨(some (K.ofNat 16)), none, .call (.c (.fn (K.ofNat 68) [])) [(.t (K.ofNat 14)), (.t (K.ofNat 15))]⟩]
noncomputable def f25_a0 : EC := .skip
noncomputable def f25_r6 : List EOper := [⟨(some (K.ofNat 18)), none, .ld (.t (K.ofNat 7))⟩, ⟨(some (K.ofNat 19)), none, .bin .add (.t (K.ofNat 18)) (.c (.i .i64 (.ofNat 1)))⟩, ⟨none, none, .st 1 (.t (K.ofNat 7)) (.t (K.ofNat 19))⟩]
noncomputable def f25_b0 : EC := (.block 1 (.reg f25_r6))
noncomputable def f25_r7 : List EOper := [⟨(some (K.ofNat 20)), none, .ld (.t (K.ofNat 7))⟩, ⟨(some (K.ofNat 4)), none, .as (.t (K.ofNat 20))⟩, ⟨(some (K.ofNat 5)), none, .as (.c (.i .i64 (.ofNat 0)))⟩]
noncomputable def f25_c : EC := (.seq (.reg f25_r0) (.seq (.seq (.reg f25_r1) (.seq (.reg f25_r2) (.cond (.t (K.ofNat 12)) (.seq (.reg f25_r3) .ret) .skip))) (.seq (.reg f25_r4) (.seq (.seq (.reg f25_r5) (.block 0 (.rangeF (.t (K.ofNat 16)) [(K.ofNat 17)] f25_a0 f25_b0))) (.seq (.reg f25_r7) .ret)))))
noncomputable def f25 : EF := ⟨21, [.tmp (K.ofNat 4), .tmp (K.ofNat 5)], f25_c, none⟩
theorem f25_rs : f25.rs = [.tmp (K.ofNat 4), .tmp (K.ofNat 5)] := of_eq_true (eq_self _)
theorem cons0 {α : Type} : ∀ {l : List α} (h : 0 < l.length), l = l[0] :: l.tail
  | [], h => by simp at h
  | x :: l, _ => rfl
/-- All graceful labels. -/
def labsL (n : Nat) (E : List (Int × Int)) : List (List Int) := enumL E n [] (List.replicate 26 false)
theorem Srp.ltb {h : H} {v : V} {L : List (Int × Int)} (hs : Srp h v L) (hc : HC h) : ∀ id off n sz, v = .sl id off n sz → id.nat < h.nx.nat := Srk.lt hs hc
theorem readP1 {h : H} {id : K} {x : V} (hb : h.get id = .cells 1 [x]) : readP h (.p id 0) one? = some x := by
  show (h.get id).onC none _ = _
  rw [hb]; rfl
/-- Three cells of results. -/
structure Tri (a b c : K) (h : H) (x y z : V) : Prop where
  ha : h.get a = .cells 1 [x]
  hb : h.get b = .cells 1 [y]
  hc : h.get c = .cells 1 [z]
  ab : a.nat < b.nat
  bc : b.nat < c.nat
section
variable {fs : T EF} {ro : Option K} {a b c : K} {h h' : H} {x y z u v w : V}
theorem Tri.same (t : Tri a b c h x y z) (hs : ∀ i : K, i.nat < c.nat + 1 → h'.get i = h.get i) : Tri a b c h' x y z :=
  ⟨(hs a (by have := t.ab; have := t.bc; omega)).trans t.ha, (hs b (by have := t.bc; omega)).trans t.hb, (hs c (by omega)).trans t.hc, t.ab, t.bc⟩
theorem Tri.s1 (t : Tri a b c h x y z) (hu : cellsN 1 u = some [u]) : storeV h 1 (.p a 0) u = .ok undefV (h.put a (.cells 1 [u])) := st1 t.ha hu
theorem Tri.s2 (t : Tri a b c h x y z) (hv : cellsN 1 v = some [v]) : storeV (h.put a (.cells 1 [u])) 1 (.p b 0) v = .ok undefV ((h.put a (.cells 1 [u])).put b (.cells 1 [v])) := st1 (by rw [get_put_other (kNe t.ab).symm]; exact t.hb) hv
theorem Tri.s3 (t : Tri a b c h x y z) (hw : cellsN 1 w = some [w]) : storeV ((h.put a (.cells 1 [u])).put b (.cells 1 [v])) 1 (.p c 0) w = .ok undefV (((h.put a (.cells 1 [u])).put b (.cells 1 [v])).put c (.cells 1 [w])) :=
  st1 (by rw [get_put_other (kNe t.bc).symm, get_put_other (kNe (Nat.lt_trans t.ab t.bc)).symm]; exact t.hc) hw
theorem Tri.set (t : Tri a b c h x y z) : Tri a b c (((h.put a (.cells 1 [u])).put b (.cells 1 [v])).put c (.cells 1 [w])) u v w :=
  ⟨by rw [get_put_other (kNe (Nat.lt_trans t.ab t.bc)), get_put_other (kNe t.ab), get_put_same], by rw [get_put_other (kNe t.bc), get_put_same], get_put_same, t.ab, t.bc⟩
theorem Tri.oth (_ : Tri a b c h x y z) {i : K} (h1 : i ≠ a) (h2 : i ≠ b) (h3 : i ≠ c) : (((h.put a (.cells 1 [u])).put b (.cells 1 [v])).put c (.cells 1 [w])).get i = h.get i := by rw [get_put_other h3, get_put_other h2, get_put_other h1]
theorem f68_ret {h : H} {v : V} {n : Int} (hone : cellsN 1 v = some [v]) : Ret fs f68 [.i .i64 n, v] h fun r h' => r = .fn (K.ofNat 107) [.p h.nx 0, .p (h.new (.cells 1 [.i .i64 n])).nx 0] ∧ h' = (h.new (.cells 1 [.i .i64 n])).new (.cells 1 [v]) := by
  apply ret_of rfl
  show W fs none f68_c _ _ _
  unfold f68_c
  simp (disch := omega) only [f68_r0, f68_r1, f68_rs, w_reg, w_seq, w_ret, seqK_n, retK_r, x_nil, x_as, x_box, x_mkfn, kx, rvP_ok, ev_t, ev_c, evs_nil, evs_cons, getV_some, putD_some, oGet_s, readRs_nil, readRs_t, retV_1, frame_2, cells1_i, Option.some.injEq, exists_eq_left', getK_set, Nat.reduceEqDiff, ↓reduceIte, hone, and_self]
structure CallsL (fs : T EF) : Prop extends CallsG fs, CallsC fs where
  c68 : fs.get (K.ofNat 68) = some f68
  c107 : fs.get (K.ofNat 107) = some f107
theorem f24_err {h : H} {v : V} {n : Int} {E : List (Int × Int)} (k : CallsC fs) (hv : Srp h v E) (hc : HC h) (hE : E.length ≤ 1000000) (hn : chkI n E ≠ 0) : Ret fs f24 [.i .i64 n, v] h fun r h' => r = .tup [.sn, .b false, .i .i64 (chkI n E)] ∧ Grow h.nx.nat h h' := by
  apply ret_of rfl
  show W fs none f24_c _ _ _
  unfold f24_c
  have n1 := nx_new h (.cells 1 [.sn])
  have n2 := nx_new (h.new (.cells 1 [.sn])) (.cells 1 [.b false])
  have n3 := nx_new ((h.new (.cells 1 [.sn])).new (.cells 1 [.b false])) (.cells 1 [.i .i64 0])
  have t0 : Tri h.nx (h.new (.cells 1 [.sn])).nx ((h.new (.cells 1 [.sn])).new (.cells 1 [.b false])).nx (((h.new (.cells 1 [.sn])).new (.cells 1 [.b false])).new (.cells 1 [.i .i64 0])) .sn (.b false) (.i .i64 0) :=
    ⟨by rw [get_new_old (by omega), get_new_old (by omega), get_new_same], by rw [get_new_old (by omega), get_new_same], get_new_same, by omega, by omega⟩
  have gA : Grow h.nx.nat h (((h.new (.cells 1 [.sn])).new (.cells 1 [.b false])).new (.cells 1 [.i .i64 0])) := (Grow.new (Nat.le_refl _) _).trans ((Grow.new (by omega) _).trans (Grow.new (by omega) _))
  simp (disch := omega) only [f24_r0, f24_r1, w_reg, w_seq, seqK_n, x_nil, x_mv, x_alloc, x_call, ev_t, ev_c, evs_nil, evs_cons, getV_some, putD_some, frame_2, of0, getK_set, Nat.reduceEqDiff, ↓reduceIte]
  generalize ((h.new (.cells 1 [.sn])).new (.cells 1 [.b false])).nx = idc at *
  generalize (h.new (.cells 1 [.sn])).nx = idb at *
  generalize ((h.new (.cells 1 [.sn])).new _).new _ = h3 at *
  refine (callP_0 (ef := f17) k.c17 rfl (f17_ret (n := n) k (hv.grow hc gA) (gA.hc hc) hE)).mono ?_
  rintro r h4 ⟨rfl, gB⟩
  have t4 := t0.same (h' := h4) fun i hi => gB.old i (by omega)
  have d : decide (chkI n E ≠ 0) = true := by simpa using hn
  have t5 := t4.set (u := .sn) (v := .b false) (w := .i .i64 (chkI n E))
  simp (disch := omega) only [f24_r2, f24_r3, f24_rs, w_reg, w_seq, w_cond, w_ret, seqK_n, seqK_r, ckB_b, cbB_b, true_and, retK_r, x_nil, x_mv, x_as, x_st, x_bin, kx, rvP_ok, okv_some, ev_t, ev_c, getV_some, putD_some, putD_none, bin_neq, oGet_s, readRs_nil, readRs_c, retV_2, of0, Option.some.injEq, exists_eq_left', getK_set, Nat.reduceEqDiff, ↓reduceIte, d, t4.s1 (u := .sn) rfl, t4.s2 (u := .sn) (v := .b false) rfl, t4.s3 (u := .sn) (v := .b false) (w := .i .i64 (chkI n E)) rfl, readP1 t5.ha, readP1 t5.hb, readP1 t5.hc, true_and]
  exact (gA.trans (gB.low (by omega))).trans ((Grow.put (by omega) (by have := gB.nx; omega) _).trans ((Grow.put (by omega) (by have := gB.nx; show _ < h4.nx.nat; omega) _).trans (Grow.put (by omega) (by have := gB.nx; show _ < h4.nx.nat; omega) _)))
theorem Srp.one {h : H} {v : V} {L : List (Int × Int)} (hs : Srp h v L) : cellsN 1 v = some [v] := by rcases hs with ⟨rfl, _⟩ | ⟨_, _, _, _, rfl, _⟩ <;> rfl
/-- Memory below b is as it was. -/
def Agr (b : Nat) (h h1 : H) : Prop := ∀ x : K, x.nat < b → h1.get x = h.get x
theorem Agr.refl {b : Nat} {h : H} : Agr b h h := fun _ _ => rfl
/-- What stands before a loop over all labels. -/
theorem loop_pre {h : H} {v : V} {m : Nat} {E : List (Int × Int)} (hv : Srp h v E) (hc : HC h) :
    ∀ h2, h2 = (h.new (.cells 1 [.i .i64 (m : Int)])).new (.cells 1 [v]) → Grow h.nx.nat h h2 ∧ HC h2 ∧ h2.nx.nat = h.nx.nat + 2 ∧ (h.new (.cells 1 [.i .i64 (m : Int)])).nx.nat = h.nx.nat + 1 ∧ Cons h2.nx.nat m E v h.nx (h.new (.cells 1 [.i .i64 (m : Int)])).nx (fun i h1 => i = 0 ∧ Agr h2.nx.nat h2 h1) ∧
      ∀ h1, Agr h2.nx.nat h2 h1 → h1.get h.nx = .cells 1 [.i .i64 (m : Int)] ∧ h1.get (h.new (.cells 1 [.i .i64 (m : Int)])).nx = .cells 1 [v] ∧ Srp h1 v E := by
  rintro h2 rfl
  have n1 := nx_new h (.cells 1 [.i .i64 (m : Int)])
  have n2 := nx_new (h.new (.cells 1 [.i .i64 (m : Int)])) (.cells 1 [v])
  have gA : Grow h.nx.nat h ((h.new (.cells 1 [.i .i64 (m : Int)])).new (.cells 1 [v])) := (Grow.new (Nat.le_refl _) _).trans (Grow.new (by omega) _)
  have mem : ∀ h1, Agr ((h.new (.cells 1 [.i .i64 (m : Int)])).new (.cells 1 [v])).nx.nat ((h.new (.cells 1 [.i .i64 (m : Int)])).new (.cells 1 [v])) h1 → h1.get h.nx = .cells 1 [.i .i64 (m : Int)] ∧ h1.get (h.new (.cells 1 [.i .i64 (m : Int)])).nx = .cells 1 [v] ∧ Srp h1 v E := by
    intro h1 ha
    refine ⟨?_, ?_, hv.same fun id off n sz e => ?_⟩
    · rw [ha _ (by omega), get_new_old (by omega), get_new_same]
    · rw [ha _ (by omega), get_new_same]
    · have := hv.ltb hc _ _ _ _ e
      rw [ha _ (by omega), gA.old _ this]
  exact ⟨gA, gA.hc hc, by omega, n1, ⟨fun i h1 hi => mem h1 hi.2, fun i h1 h' hi hk => ⟨hi.1, fun x hx => (hk x hx).trans (hi.2 x hx)⟩, by omega, by omega, fun id off n sz e => by have := hv.ltb hc _ _ _ _ e; omega⟩, mem⟩
theorem f24_ok {h : H} {v : V} {m : Nat} {E : List (Int × Int)} (k : CallsL fs) (hv : Srp h v E) (hc : HC h) (hn : chkI (m : Int) E = 0) : Ret fs f24 [.i .i64 (m : Int), v] h fun r h' => ∃ w, r = .tup [w, .b (decide (labsL m E ≠ [])), .i .i64 0] ∧ Sl iE h' w ((labsL m E).headD []) ∧ Own h.nx.nat w ∧ Grow h.nx.nat h h' ∧ (labsL m E = [] → w = .sn) := by
  obtain ⟨m', hm, _, hE⟩ := chkI_ok hn
  obtain rfl : m = m' := by omega
  apply ret_of rfl
  show W fs none f24_c _ _ _
  unfold f24_c
  have n1 := nx_new h (.cells 1 [.sn])
  have n2 := nx_new (h.new (.cells 1 [.sn])) (.cells 1 [.b false])
  have n3 := nx_new ((h.new (.cells 1 [.sn])).new (.cells 1 [.b false])) (.cells 1 [.i .i64 0])
  have t0 : Tri h.nx (h.new (.cells 1 [.sn])).nx ((h.new (.cells 1 [.sn])).new (.cells 1 [.b false])).nx (((h.new (.cells 1 [.sn])).new (.cells 1 [.b false])).new (.cells 1 [.i .i64 0])) .sn (.b false) (.i .i64 0) :=
    ⟨by rw [get_new_old (by omega), get_new_old (by omega), get_new_same], by rw [get_new_old (by omega), get_new_same], get_new_same, by omega, by omega⟩
  have gA : Grow h.nx.nat h (((h.new (.cells 1 [.sn])).new (.cells 1 [.b false])).new (.cells 1 [.i .i64 0])) := (Grow.new (Nat.le_refl _) _).trans ((Grow.new (by omega) _).trans (Grow.new (by omega) _))
  simp (disch := omega) only [f24_r0, f24_r1, w_reg, w_seq, seqK_n, x_nil, x_mv, x_alloc, x_call, ev_t, ev_c, evs_nil, evs_cons, getV_some, putD_some, frame_2, of0, getK_set, Nat.reduceEqDiff, ↓reduceIte]
  generalize ((h.new (.cells 1 [.sn])).new (.cells 1 [.b false])).nx = idc at *
  generalize (h.new (.cells 1 [.sn])).nx = idb at *
  generalize ((h.new (.cells 1 [.sn])).new _).new _ = h3 at *
  have hE6 : E.length ≤ 1000000 := by have := hE.1; omega
  refine (callP_0 (ef := f17) k.c17 rfl (f17_ret (n := (m : Int)) k.toCallsC (hv.grow hc gA) (gA.hc hc) hE6)).mono ?_
  rintro r h4 ⟨rfl, gB⟩
  rw [hn]
  have t4 := t0.same (h' := h4) fun i hi => gB.old i (by omega)
  have gAB := gA.trans (gB.low (by omega))
  have hv4 := hv.grow hc gAB
  have hc4 := gAB.hc hc
  have d : decide ((0 : Int) ≠ 0) = false := rfl
  simp (disch := omega) only [f24_r2, f24_r4, w_skip, w_reg, w_seq, w_cond, seqK_n, ckB_b, cbB_b, true_and, x_nil, x_mv, x_as, x_bin, x_call, kx, rvP_ok, okv_some, ev_t, ev_c, evs_nil, evs_cons, getV_some, putD_some, bin_neq, of0, getK_set, Nat.reduceEqDiff, ↓reduceIte, Bool.false_eq_true, d]
  refine (callP_0 (ef := f68) k.c68 rfl (f68_ret (n := (m : Int)) hv.one)).mono ?_
  rintro r h6 ⟨rfl, h6e⟩
  obtain ⟨gC, hc6, n6, n5, hC, hmem⟩ := loop_pre (m := m) hv4 hc4 h6 h6e
  have n4 := gB.nx
  have t6 := t4.same (h' := h6) fun i hi => gC.old i (by omega)
  have g6 := gAB.trans (gC.low gAB.nx)
  simp (disch := omega) only [w_block, seqK_n, x_nil, kx, putD_some]
  generalize hfr : T.set (K.ofNat 17) _ _ = fr6
  have f17' : fr6.get (K.ofNat 17) = some (.fn (K.ofNat 107) [.p h4.nx 0, .p (h4.new (.cells 1 [.i .i64 (m : Int)])).nx 0]) := by rw [← hfr]; simp (disch := omega) only [getK_set, ↓reduceIte]
  have f4 : fr6.get (K.ofNat 4) = some (.p h.nx 0) := by rw [← hfr]; simp (disch := omega) only [getK_set, Nat.reduceEqDiff, ↓reduceIte]
  have f5 : fr6.get (K.ofNat 5) = some (.p idb 0) := by rw [← hfr]; simp (disch := omega) only [getK_set, Nat.reduceEqDiff, ↓reduceIte]
  have f6 : fr6.get (K.ofNat 6) = some (.p idc 0) := by rw [← hfr]; simp (disch := omega) only [getK_set, Nat.reduceEqDiff, ↓reduceIte]
  clear hfr
  refine W_rangeL (k := (K.ofNat 107)) (Y := labsL m E) rfl (by simp (disch := omega) only [ev_t, getV_some, f17']) (all_yieldsL k.toCallsG k.c107 hE) hc6 (fun i h1 => i = 0 ∧ Agr h6.nx.nat h6 h1)
    (fun e h1 => e = .ret ∧ ∃ w L0 R, labsL m E = L0 :: R ∧ Tri h.nx idb idc h1 w (.b true) (.i .i64 0) ∧ Sl iE h1 w L0 ∧ Own h.nx.nat w ∧ Grow h.nx.nat h h1) hC ⟨rfl, Agr.refl⟩ ?_ ?_ ?_
  · rintro i h1 w hi ⟨rfl, hag⟩ hc1 hnx hb sw ow
    rw [show ∀ Q fr h, W fs (some h6.nx) f24_a0 Q fr h = X fs f24_r5 (Q .normal) fr h from fun _ _ _ => rfl]
    simp (disch := omega) only [f24_r5, rndA_n, x_nil, x_as, ev_t, getV_some, putD_some, getK_set, Nat.reduceEqDiff, ↓reduceIte]
    refine ⟨hb, ?_⟩
    have t7 : Tri h.nx idb idc (h1.put h6.nx (bsyB fr6 [(K.ofNat 18)] f24_a0 f24_b0)) .sn (.b false) (.i .i64 0) := t6.same fun i hi => by rw [get_put_other (fun e => by rw [e] at hi; omega)]; exact hag i (by omega)
    have e7 : (h1.put h6.nx (bsyB fr6 [(K.ofNat 18)] f24_a0 f24_b0)).get h6.nx = bsyB fr6 [(K.ofNat 18)] f24_a0 f24_b0 := get_put_same
    have nx7 : (h1.put h6.nx (bsyB fr6 [(K.ofNat 18)] f24_a0 f24_b0)).nx = h1.nx := rfl
    have sw7 : Sl iE (h1.put h6.nx (bsyB fr6 [(K.ofNat 18)] f24_a0 f24_b0)) w (labsL m E)[0] := sw.put (fun off n sz e => by have := ow _ _ _ _ e; omega) _
    have hc7 : HC (h1.put h6.nx (bsyB fr6 [(K.ofNat 18)] f24_a0 f24_b0)) := (Grow.put (b := 0) (Nat.zero_le _) hnx _).hc hc1
    have o7 : ∀ y : K, y ≠ h6.nx → (h1.put h6.nx (bsyB fr6 [(K.ofNat 18)] f24_a0 f24_b0)).get y = h1.get y := fun y hy => get_put_other hy
    show W fs (some h6.nx) (.block 1 (.seq (.reg f24_r6) .ret)) (rndK h6.nx fr6 [(K.ofNat 18)] f24_a0 f24_b0 _ _) _ _
    generalize hh7 : h1.put h6.nx (bsyB fr6 [(K.ofNat 18)] f24_a0 f24_b0) = h7 at *
    have hwo := sw7.sr.one
    have lc : idc.nat < h6.nx.nat := by omega
    have t8 := t7.set (u := w) (v := .b true) (w := .i .i64 0)
    have oth : ∀ {i : K}, idc.nat < i.nat → (((h7.put h.nx (.cells 1 [w])).put idb (.cells 1 [.b true])).put idc (.cells 1 [.i .i64 0])).get i = h7.get i := fun {i} hi => t7.oth (kNe (by have := t7.ab; have := t7.bc; omega)).symm (kNe (by have := t7.bc; omega)).symm (kNe hi).symm
    simp (disch := omega) only [f24_r6, w_reg, w_seq, w_block, w_ret, seqK_n, atK_r, true_and, rndK_r, x_nil, x_mv, x_st, kx, rvP_ok, ev_t, ev_c, getV_some, putD_some, putD_none, of0, getK_set, Nat.reduceEqDiff, ↓reduceIte, f4, f5, f6, t7.s1 hwo, t7.s2 (u := w) (v := .b true) rfl, t7.s3 (u := w) (v := .b true) (w := .i .i64 0) rfl]
    have nx8 : (((h7.put h.nx (.cells 1 [w])).put idb (.cells 1 [.b true])).put idc (.cells 1 [.i .i64 0])).nx = h7.nx := rfl
    have g8 : Grow h.nx.nat h7 (((h7.put h.nx (.cells 1 [w])).put idb (.cells 1 [.b true])).put idc (.cells 1 [.i .i64 0])) := (Grow.put (Nat.le_refl _) (by have := t7.ab; have := t7.bc; rw [nx7]; omega) _).trans ((Grow.put (by have := t7.ab; omega) (by have := t7.bc; show idb.nat < h7.nx.nat; rw [nx7]; omega) _).trans (Grow.put (by have := t7.ab; have := t7.bc; omega) (by show idc.nat < h7.nx.nat; rw [nx7]; omega) _))
    generalize ((h7.put h.nx (.cells 1 [w])).put idb (.cells 1 [.b true])).put idc (.cells 1 [.i .i64 0]) = h8 at *
    have e8 := oth lc
    refine ⟨by rw [e8]; exact e7, ⟨w, (labsL m E)[0], (labsL m E).tail, ?_, t8.same fun i hi => get_put_other (fun e => by rw [e] at hi; omega), ?_, fun id off n sz e => by have := ow _ _ _ _ e; omega, ?_⟩, ?_⟩
    · exact cons0 hi
    · refine sw7.same fun id off n sz e => ?_
      have h5 := ow _ _ _ _ e
      rw [get_put_other (fun e => by rw [e] at h5; omega), oth (by omega)]
    · refine ⟨by show h.nx.nat ≤ h8.nx.nat; rw [nx8, nx7]; have := g6.nx; omega, fun id hid => ?_, fun _ => (Grow.put (b := 0) (Nat.zero_le _) (by rw [nx8, nx7]; exact hnx) _).hc (g8.hc hc7)⟩
      rw [get_put_other (fun e => by rw [e] at hid; have := g6.nx; omega), g8.old id hid, o7 id (fun e => by rw [e] at hid; have := g6.nx; omega), hag id (by have := g6.nx; omega), g6.old id hid]
    · refine ⟨by show h1.nx.nat ≤ h8.nx.nat; rw [nx8, nx7]; exact Nat.le_refl _, (Grow.put (b := 0) (Nat.zero_le _) (by rw [nx8, nx7]; exact hnx) _).hc (g8.hc hc7), fun y hy hy2 => ?_⟩
      rw [get_put_other (fun e => by rw [e] at hy; omega), oth (by omega), o7 y (fun e => by rw [e] at hy; omega)]
  · rintro h1 ⟨h0, hag⟩ hc1 hnx
    have hY : labsL m E = [] := List.length_eq_zero_iff.1 h0
    have t7 : Tri h.nx idb idc (h1.put h6.nx .dead) .sn (.b false) (.i .i64 0) := t6.same fun i hi => by rw [get_put_other (fun e => by rw [e] at hi; omega)]; exact hag i (by omega)
    have hc7 : HC (h1.put h6.nx .dead) := (Grow.put (b := 0) (Nat.zero_le _) hnx _).hc hc1
    have nx7 : (h1.put h6.nx .dead).nx = h1.nx := rfl
    have o7 : ∀ y : K, y.nat < h6.nx.nat → (h1.put h6.nx .dead).get y = h6.get y := fun y hy => by rw [get_put_other (fun e => by rw [e] at hy; omega)]; exact hag y hy
    generalize h1.put h6.nx .dead = h7 at *
    have t8 := t7.set (u := .sn) (v := .b false) (w := .i .i64 0)
    have g8 : Grow h.nx.nat h7 (((h7.put h.nx (.cells 1 [.sn])).put idb (.cells 1 [.b false])).put idc (.cells 1 [.i .i64 0])) := (Grow.put (Nat.le_refl _) (by have := t7.ab; have := t7.bc; rw [nx7]; omega) _).trans ((Grow.put (by have := t7.ab; omega) (by have := t7.bc; show idb.nat < h7.nx.nat; rw [nx7]; omega) _).trans (Grow.put (by have := t7.ab; have := t7.bc; omega) (by show idc.nat < h7.nx.nat; rw [nx7]; omega) _))
    simp (disch := omega) only [f24_r7, f24_rs, w_reg, w_seq, w_ret, seqK_n, atK_n, retK_r, x_nil, x_st, kx, rvP_ok, ev_t, ev_c, getV_some, putD_none, oGet_s, readRs_nil, readRs_c, retV_2, of0, Option.some.injEq, exists_eq_left', f4, f5, f6, t7.s1 (u := .sn) rfl, t7.s2 (u := .sn) (v := .b false) rfl, t7.s3 (u := .sn) (v := .b false) (w := .i .i64 0) rfl, readP1 t8.ha, readP1 t8.hb, readP1 t8.hc]
    refine ⟨.sn, by simp [hY], by rw [hY]; exact Sl.nil, Own.sn, ?_, fun _ => rfl⟩
    refine Grow.trans ⟨by rw [nx7]; have := g6.nx; omega, fun id hid => ?_, fun _ => hc7⟩ g8
    rw [o7 id (by have := g6.nx; omega), g6.old id hid]
  · rintro e h1 _ ⟨rfl, w, L0, R, hY, t, sw, ow, g⟩
    simp (disch := omega) only [f24_rs, seqK_r, atK_r, retK_r, getV_some, oGet_s, readRs_nil, readRs_c, retV_2, Option.some.injEq, exists_eq_left', f4, f5, f6, readP1 t.ha, readP1 t.hb, readP1 t.hc, hY]
    exact ⟨w, by simp, by simpa using sw, ow, g, by simp⟩
theorem f25_err {h : H} {v : V} {n : Int} {E : List (Int × Int)} (k : CallsC fs) (hv : Srp h v E) (hc : HC h) (hE : E.length ≤ 1000000) (hn : chkI n E ≠ 0) : Ret fs f25 [.i .i64 n, v] h fun r h' => r = .tup [.i .i64 0, .i .i64 (chkI n E)] ∧ Grow h.nx.nat h h' := by
  apply ret_of rfl
  show W fs none f25_c _ _ _
  unfold f25_c
  simp (disch := omega) only [f25_r0, f25_r1, w_reg, w_seq, seqK_n, x_nil, x_mv, x_as, x_call, ev_t, ev_c, evs_nil, evs_cons, getV_some, putD_some, frame_2, of0, getK_set, Nat.reduceEqDiff, ↓reduceIte]
  refine (callP_0 (ef := f17) k.c17 rfl (f17_ret (n := n) k hv hc hE)).mono ?_
  rintro r h4 ⟨rfl, gB⟩
  have d : decide (chkI n E ≠ 0) = true := by simpa using hn
  simp (disch := omega) only [f25_r2, f25_r3, f25_rs, w_reg, w_seq, w_cond, w_ret, seqK_n, seqK_r, ckB_b, cbB_b, true_and, retK_r, x_nil, x_mv, x_as, x_bin, kx, rvP_ok, okv_some, ev_t, ev_c, getV_some, putD_some, bin_neq, oGet_s, readRs_nil, readRs_t, retV_2, of0, Option.some.injEq, exists_eq_left', getK_set, Nat.reduceEqDiff, ↓reduceIte, d, true_and]
  exact gB
end
end Go.Ev
namespace Go.Ev
open Go Go.RowKit
/-! ### What is grown -/
/-- The first that is found, from a on. -/
def firstF {α : Type} (g : Int → Option α) : Int → Nat → Option α
  | _, 0 => none
  | a, n + 1 => match g a with | some r => some r | none => firstF g (a + 1) n
theorem firstF_succ {α : Type} (g : Int → Option α) (a : Int) (n : Nat) : firstF g a (n + 1) = match g a with | some r => some r | none => firstF g (a + 1) n := rfl
section
variable {fs : T EF} {ro : Option K} {h : H} {id : K} {u : V} {A : List Bool} {m l : Int}
end
end Go.Ev
namespace Go.Ev
open Go Go.RowKit
section
variable {fs : T EF} {ro : Option K} {h : H} {v : V} {L : List Int} {A : List Bool} {m l : Int}
end
end Go.Ev
namespace Go.Ev
open Go Go.RowKit
section
variable {fs : T EF} {ro : Option K} {h : H} {v : V} {L : List Int} {A : List Bool}
end
end Go.Ev
namespace Go.Ev
open Go Go.RowKit
def fls : List Bool := List.replicate 26 false
section
variable {fs : T EF} {ro : Option K} {h : H} {v : V} {L : List Int} {A : List Bool}
end
end Go.Ev
namespace Go.Ev
open Go Go.RowKit
section
variable {fs : T EF} {ro : Option K} {h : H} {v : V} {L : List Int}
end
end Go.Ev
namespace Go.Ev
open Go Go.RowKit
end Go.Ev
namespace Go.Ev
open Go Go.RowKit
section
variable {fs : T EF} {ro : Option K} {h : H} {v u : V} {L : List Int}
end
end Go.Ev
namespace Go.Ev
open Go Go.RowKit
section
variable {fs : T EF} {ro : Option K} {h : H} {v : V} {L : List Int} {A : List Bool}
end
end Go.Ev
namespace Go.Ev
open Go Go.RowKit
noncomputable def f15_r0 : List EOper := [⟨(some (K.ofNat 4)), none, .as (.c .sn)⟩]
noncomputable def f15_r1 : List EOper := [⟨(some (K.ofNat 5)), none, .as (.c .sn)⟩]
noncomputable def f15_r2 : List EOper := [⟨(some (K.ofNat 6)), none, .mv (.t (K.ofNat 5))⟩, ⟨(some (K.ofNat 7)), none, .mv (.t (K.ofNat 0))⟩, ⟨(some (K.ofNat 8)), none, .mv (.t (K.ofNat 0))⟩, ⟨(some (K.ofNat 9)), none, .len (.t (K.ofNat 8))⟩, ⟨(some (K.ofNat 10)), none, .mv (.t (K.ofNat 1))⟩, ⟨(some (K.ofNat 11)), none, .min (.t (K.ofNat 9)) (.t (K.ofNat 10))⟩, ⟨(some (K.ofNat 12)), none, .slice 1 (.t (K.ofNat 7)) none (some (.t (K.ofNat 11))) none⟩, ⟨(some (K.ofNat 13)), none, .app 1 (.t (K.ofNat 6)) (.t (K.ofNat 12))⟩, ⟨(some (K.ofNat 4)), none, .as (.t (K.ofNat 13))⟩]
noncomputable def f15_c : EC := (.seq (.reg f15_r0) (.seq (.reg f15_r1) (.seq (.reg f15_r2) .ret)))
noncomputable def f15 : EF := ⟨14, [.tmp (K.ofNat 4)], f15_c, none⟩
theorem f15_rs : f15.rs = [.tmp (K.ofNat 4)] := of_eq_true (eq_self _)
section
variable {fs : T EF} {ro : Option K} {h : H} {v : V} {L : List Int} {A : List Bool} {m l : Int}
theorem f15_sr {m : Nat} (hv : Sr iE h v L) (hc : HC h) (hm : m ≤ 1000000) : Ret fs f15 [v, .i .i64 (m : Int)] h fun u h' => Sl iE h' u (L.take m) ∧ Own h.nx.nat u ∧ Grow h.nx.nat h h' := by
  apply ret_of rfl
  show W fs none f15_c _ _ _
  unfold f15_c
  have hmin : min (L.length : Int) (m : Int) = ((min L.length m : Nat) : Int) := by omega
  obtain ⟨v', p1, p2, _⟩ := hv.cut (lo := none) (hi := some (.i .i64 ((min L.length m : Nat) : Int))) (l := 0) (u := min L.length m) bnd_none bnd_i (by omega) (by omega)
  rw [List.drop_zero, show L.take (min L.length m) = L.take m by rw [Nat.min_comm, List.take_eq_take_iff]; omega] at p2
  obtain ⟨v2, h2, q1, q2, q3, q4, _⟩ := Sl.appR (e := iE) (b := h.nx.nat) (v := .sn) (L := []) Sl.nil Own.sn (Nat.le_refl _) p2 hc (by simp; omega)
  simp (disch := omega) only [f15_r0, f15_r1, f15_r2, f15_rs, w_reg, w_seq, w_ret, seqK_n, retK_r, x_nil, x_mv, x_as, x_slice, sliceV_eq, Option.map_none, Option.map_some, x_len, x_app, x_min, kx, rvP_ok, ev_t, ev_c, getV_some, putD_some, oGet_s, min_ii, readRs_nil, readRs_t, retV_1, frame_2, Option.some.injEq, exists_eq_left', getK_set, Nat.reduceEqDiff, ↓reduceIte, hv.len, hmin, p1, q1]
  exact ⟨by simpa using q2, q3, q4⟩
end
end Go.Ev
namespace Go.Ev
open Go Go.RowKit
section
variable {fs : T EF} {ro : Option K}
end
end Go.Ev
namespace Go.Ev
open Go Go.RowKit
noncomputable def f62_r0 : List EOper := [⟨(some (K.ofNat 6)), none, .as (.c (.b false))⟩]
noncomputable def f62_r1 : List EOper := [⟨(some (K.ofNat 12)), none, .mv (.t (K.ofNat 2))⟩, ⟨(some (K.ofNat 13)), none, .len (.t (K.ofNat 12))⟩, ⟨(some (K.ofNat 14)), none, .mv (.t (K.ofNat 0))⟩, ⟨(some (K.ofNat 15)), none, .bin .neq (.t (K.ofNat 13)) (.t (K.ofNat 14))⟩]
noncomputable def f62_r2 : List EOper := [⟨(some (K.ofNat 6)), none, .as (.c (.b false))⟩]
noncomputable def f62_r3 : List EOper := [⟨(some (K.ofNat 16)), none, .mv (.t (K.ofNat 2))⟩, ⟨(some (K.ofNat 17)), none, .len (.t (K.ofNat 16))⟩, ⟨(some (K.ofNat 18)), none, .mv (.c (.i .i64 (.ofNat 0)))⟩]
noncomputable def f62_r4 : List EOper := [⟨(some (K.ofNat 19)), none, .bin .lss (.t (K.ofNat 18)) (.t (K.ofNat 17))⟩]
noncomputable def f62_r5 : List EOper := [⟨(some (K.ofNat 20)), none, .mv (.t (K.ofNat 18))⟩, ⟨(some (K.ofNat 21)), none, .iads 1 (.t (K.ofNat 16)) (.t (K.ofNat 18))⟩, ⟨(some (K.ofNat 22)), none, .ld (.t (K.ofNat 21))⟩, ⟨(some (K.ofNat 7)), none, .as (.t (K.ofNat 20))⟩, ⟨(some (K.ofNat 8)), none, .as (.t (K.ofNat 22))⟩]
noncomputable def f62_r6 : List EOper := [⟨(some (K.ofNat 23)), none, .mv (.t (K.ofNat 8))⟩, ⟨(some (K.ofNat 24)), none, .bin .lss (.t (K.ofNat 23)) (.c (.i .i64 (.ofNat 0)))⟩, ⟨(some (K.ofNat 25)), none, .mv (.t (K.ofNat 24))⟩, ⟨(some (K.ofNat 26)), (some ((K.ofNat 25), false)), .mv (.t (K.ofNat 8))⟩, ⟨(some (K.ofNat 27)), (some ((K.ofNat 25), false)), .mv (.t (K.ofNat 1))⟩, ⟨(some (K.ofNat 28)), (some ((K.ofNat 25), false)), .len (.t (K.ofNat 27))⟩, ⟨(some (K.ofNat 29)), (some ((K.ofNat 25), false)), .bin .gtr (.t (K.ofNat 26)) (.t (K.ofNat 28))⟩, ⟨(some (K.ofNat 30)), none, .pick (.t (K.ofNat 25)) (.c (.b true)) (.t (K.ofNat 29))⟩, ⟨(some (K.ofNat 31)), none, .mv (.t (K.ofNat 30))⟩, ⟨(some (K.ofNat 32)), (some ((K.ofNat 31), false)), .mv (.t (K.ofNat 2))⟩, ⟨(some (K.ofNat 33)), (some ((K.ofNat 31), false)), .mv (.t (K.ofNat 7))⟩, ⟨(some (K.ofNat 34)), (some ((K.ofNat 31), false)), .slice 1 (.t (K.ofNat 32)) none (some (.t (K.ofNat 33))) none⟩, ⟨(some (K.ofNat 35)), (some ((K.ofNat 31), false)), .mv (.t (K.ofNat 8))⟩, ⟨(some (K.ofNat 36)), (some ((K.ofNat 31), false)), .call (.c (.fn (K.ofNat 99) [])) [(.t (K.ofNat 34)), (.t (K.ofNat 35))]⟩, ⟨(some (K.ofNat 37)), none, .pick (.t (K.ofNat 31)) (.c (.b true)) (.t (K.ofNat 36))⟩]
noncomputable def f62_r7 : List EOper := [⟨(some (K.ofNat 6)), none, .as (.c (.b false))⟩]
noncomputable def f62_r8 : List EOper := [⟨(some (K.ofNat 38)), none, .bin .add (.t (K.ofNat 18)) (.c (.i .i64 (.ofNat 1)))⟩, ⟨(some (K.ofNat 18)), none, .mv (.t (K.ofNat 38))⟩]
noncomputable def f62_l0 : EC := (.seq (.reg f62_r4) (.seq (.cond (.t (K.ofNat 19)) .skip (.exit 0)) (.seq (.block 1 (.seq (.reg f62_r5) (.seq (.reg f62_r6) (.cond (.t (K.ofNat 37)) (.seq (.reg f62_r7) .ret) .skip)))) (.reg f62_r8))))
noncomputable def f62_r9 : List EOper := [⟨(some (K.ofNat 9)), none, .alloc 26 (List.replicate 26 (.b false))⟩]
noncomputable def f62_r10 : List EOper := [⟨(some (K.ofNat 39)), none, .mv (.t (K.ofNat 1))⟩, ⟨(some (K.ofNat 40)), none, .len (.t (K.ofNat 39))⟩, ⟨(some (K.ofNat 41)), none, .mv (.c (.i .i64 (.ofNat 0)))⟩]
noncomputable def f62_r11 : List EOper := [⟨(some (K.ofNat 42)), none, .bin .lss (.t (K.ofNat 41)) (.t (K.ofNat 40))⟩]
noncomputable def f62_r12 : List EOper := [⟨(some (K.ofNat 43)), none, .iads 2 (.t (K.ofNat 39)) (.t (K.ofNat 41))⟩, ⟨(some (K.ofNat 44)), none, .ldn 2 (.t (K.ofNat 43))⟩, ⟨(some (K.ofNat 11)), none, .alloc 2 [(.i .i64 (.ofNat 0)), (.i .i64 (.ofNat 0))]⟩, ⟨none, none, .st 2 (.t (K.ofNat 11)) (.t (K.ofNat 44))⟩]
noncomputable def f62_r13 : List Stage := [⟨[⟨(some (K.ofNat 45)), none, .mv (.t (K.ofNat 2))⟩, ⟨(some (K.ofNat 46)), none, .iadr 2 1 (.t (K.ofNat 11)) (.c (.i .i64 (.ofNat 0)))⟩, ⟨(some (K.ofNat 47)), none, .ld (.t (K.ofNat 46))⟩, ⟨(some (K.ofNat 48)), none, .iads 1 (.t (K.ofNat 45)) (.t (K.ofNat 47))⟩, ⟨(some (K.ofNat 49)), none, .ld (.t (K.ofNat 48))⟩, ⟨(some (K.ofNat 50)), none, .mv (.t (K.ofNat 2))⟩, ⟨(some (K.ofNat 51)), none, .iadr 2 1 (.t (K.ofNat 11)) (.c (.i .i64 (.ofNat 1)))⟩, ⟨(some (K.ofNat 52)), none, .ld (.t (K.ofNat 51))⟩, ⟨(some (K.ofNat 53)), none, .iads 1 (.t (K.ofNat 50)) (.t (K.ofNat 52))⟩, ⟨(some (K.ofNat 54)), none, .ld (.t (K.ofNat 53))⟩], [], (some ⟨(some (K.ofNat 55)), none, .call (.c (.fn (K.ofNat 101) [])) [(.t (K.ofNat 49)), (.t (K.ofNat 54))]⟩), []⟩, ⟨[], [], (some ⟨(some (K.ofNat 56)), none, .call (.c (.fn (K.ofNat 100) [])) [(.t (K.ofNat 9)), (.t (K.ofNat 55))]⟩), []⟩, ⟨[⟨(some (K.ofNat 57)), none, .not (.t (K.ofNat 56))⟩], [], none, []⟩]
noncomputable def f62_r14 : List EOper := [⟨(some (K.ofNat 6)), none, .as (.c (.b false))⟩]
noncomputable def f62_r15 : List EOper := [⟨(some (K.ofNat 58)), none, .bin .add (.t (K.ofNat 41)) (.c (.i .i64 (.ofNat 1)))⟩, ⟨(some (K.ofNat 41)), none, .mv (.t (K.ofNat 58))⟩]
noncomputable def f62_l1 : EC := (.seq (.reg f62_r11) (.seq (.cond (.t (K.ofNat 42)) .skip (.exit 2)) (.seq (.block 3 (.seq (.reg f62_r12) (.seq (.draw f62_r13) (.cond (.t (K.ofNat 57)) (.seq (.reg f62_r14) .ret) .skip)))) (.reg f62_r15))))
noncomputable def f62_r16 : List EOper := [⟨(some (K.ofNat 6)), none, .as (.c (.b true))⟩]
noncomputable def f62_c : EC := (.seq (.reg f62_r0) (.seq (.seq (.reg f62_r1) (.cond (.t (K.ofNat 15)) (.seq (.reg f62_r2) .ret) .skip)) (.seq (.seq (.reg f62_r3) (.block 0 (.loop f62_l0))) (.seq (.reg f62_r9) (.seq (.seq (.reg f62_r10) (.block 2 (.loop f62_l1))) (.seq (.reg f62_r16) .ret))))))
noncomputable def f62 : EF := ⟨59, [.tmp (K.ofNat 6)], f62_c, none⟩
theorem f62_rs : f62.rs = [.tmp (K.ofNat 6)] := of_eq_true (eq_self _)
/-- The difference at an edge. -/
def dfE (L : List Int) (e : Int × Int) : Int := absD (L.getD e.1.toNat 0) (L.getD e.2.toNat 0)
def labOk1 (m : Int) (L : List Int) (j : Nat) : Bool := decide (0 ≤ L.getD j 0) && (decide (L.getD j 0 ≤ m) && !decide (L.getD j 0 ∈ L.take j))
def labsOk (m : Int) (L : List Int) : Bool := (List.range L.length).all (labOk1 m L)
def difOk1 (E : List (Int × Int)) (L : List Int) (j : Nat) : Bool := !decide (dfE L (E.getD j (0, 0)) ∈ (E.take j).map (dfE L))
def difsOk (E : List (Int × Int)) (L : List Int) : Bool := (List.range E.length).all (difOk1 E L)
/-- Are these graceful labels? -/
def grB (n : Int) (E : List (Int × Int)) (L : List Int) : Bool := decide ((L.length : Int) = n) && (labsOk (E.length : Int) L && difsOk E L)
theorem all_no {n j : Nat} {f : Nat → Bool} (hj : j < n) (h : f j = false) : (List.range n).all f = false := by
  rw [Bool.eq_false_iff]
  intro hr
  have := List.all_eq_true.1 hr j (by simpa using hj)
  rw [h] at this; cases this
theorem all_yes {n : Nat} {f : Nat → Bool} (h : ∀ j, j < n → f j = true) : (List.range n).all f = true := List.all_eq_true.2 fun j hj => h j (by simpa using hj)
/-- Which differences were met. -/
def Met (E : List (Int × Int)) (L : List Int) (j : Nat) (B : List Bool) : Prop := ∀ d (h : d < B.length), B[d] = true ↔ (d : Int) ∈ (E.take j).map (dfE L)
theorem Met.zero {E : List (Int × Int)} {L : List Int} {k : Nat} : Met E L 0 (List.replicate k false) := fun d h => by simp
theorem Met.succ {E : List (Int × Int)} {L : List Int} {j d : Nat} {B : List Bool} (hm : Met E L j B) (hj : j < E.length) (hd : dfE L E[j] = (d : Int)) (_ : d < B.length) : Met E L (j + 1) (B.set d true) := fun k hk => by
  rw [List.take_succ_eq_append_getElem hj, List.map_append, List.mem_append, List.map_cons, List.map_nil, List.mem_singleton, hd]
  have hk' : k < B.length := by simpa using hk
  rw [List.getElem_set]
  by_cases e : d = k
  · subst e; simp
  · rw [if_neg e, hm k hk']
    constructor
    · exact fun h => .inl h
    · rintro (h | h)
      · exact h
      · exact absurd (by omega) e
theorem Met.dif {E : List (Int × Int)} {L : List Int} {j d : Nat} {B : List Bool} (hm : Met E L j B) (hj : j < E.length) (hd : dfE L E[j] = (d : Int)) (hdB : d < B.length) : difOk1 E L j = !B[d] := by
  have hg : E.getD j (0, 0) = E[j] := by simp [List.getD_eq_getElem?_getD, hj]
  unfold difOk1
  rw [hg, hd]
  have := hm d hdB
  cases hb : B[d] with
  | true => rw [decide_eq_true (this.1 hb)]
  | false => rw [decide_eq_false (fun h => by rw [this.2 h] at hb; cases hb)]
theorem labs_in {E : List (Int × Int)} {L : List Int} (h : labsOk (E.length : Int) L = true) : LabOk E L := fun x hx => by
  obtain ⟨j, hj, rfl⟩ := List.getElem_of_mem hx
  have := List.all_eq_true.1 h j (by simpa using hj)
  unfold labOk1 at this
  have hg : L.getD j 0 = L[j] := by simp [List.getD_eq_getElem?_getD, hj]
  rw [hg] at this
  simp only [Bool.and_eq_true, decide_eq_true_eq] at this
  exact ⟨this.1, this.2.1⟩
theorem dfE_in {E : List (Int × Int)} {L : List Int} {n : Nat} (hE : EdgesOk n E) (hL : LabOk E L) (hn : L.length = n) {j : Nat} (hj : j < E.length) :
    ∃ a b d : Nat, ∃ (ha : a < L.length) (hb : b < L.length), E[j].1 = (a : Int) ∧ E[j].2 = (b : Int) ∧ a < b ∧ dfE L E[j] = (d : Int) ∧ absD L[a] L[b] = (d : Int) ∧ d ≤ E.length ∧ (0 ≤ L[a] ∧ L[a] ≤ 10) ∧ (0 ≤ L[b] ∧ L[b] ≤ 10) := by
  obtain ⟨h1, h2, h3⟩ := hE
  obtain ⟨e0, e1, e2⟩ := h3 E[j] (List.getElem_mem hj)
  have ha : E[j].1.toNat < L.length := by omega
  have hb : E[j].2.toNat < L.length := by omega
  obtain ⟨p1, p2⟩ := hL _ (List.getElem_mem ha)
  obtain ⟨q1, q2⟩ := hL _ (List.getElem_mem hb)
  have hd : dfE L E[j] = absD L[E[j].1.toNat] L[E[j].2.toNat] := by
    unfold dfE
    rw [List.getD_eq_getElem?_getD, List.getD_eq_getElem?_getD, List.getElem?_eq_getElem ha, List.getElem?_eq_getElem hb]; rfl
  have hr : 0 ≤ absD L[E[j].1.toNat] L[E[j].2.toNat] ∧ absD L[E[j].1.toNat] L[E[j].2.toNat] ≤ (E.length : Int) := by unfold absD; split <;> omega
  refine ⟨_, _, (absD L[E[j].1.toNat] L[E[j].2.toNat]).toNat, ha, hb, by omega, by omega, by omega, by rw [hd]; omega, by omega, by omega, ⟨p1, by omega⟩, q1, by omega⟩
structure CallsGr (fs : T EF) : Prop where
  c62 : fs.get (K.ofNat 62) = some f62
  c99 : fs.get (K.ofNat 99) = some f99
  c100 : fs.get (K.ofNat 100) = some f100
  c101 : fs.get (K.ofNat 101) = some f101
  c102 : fs.get (K.ofNat 102) = some f102
  c130 : fs.get (K.ofNat 130) = some f130
section
variable {fs : T EF} {ro : Option K} {h : H} {v w : V} {n : Nat} {E : List (Int × Int)} {L : List Int}
def f62_I (h : H) (n : Nat) (v w : V) (E : List (Int × Int)) (L : List Int) (j : Nat) (fr : Fr) (h1 : H) : Prop := j ≤ L.length ∧ h1 = h ∧ (∀ i, i < j → labOk1 (E.length : Int) L i = true) ∧ fr.get (K.ofNat 0) = some (.i .i64 (n : Int)) ∧ fr.get (K.ofNat 1) = some (v) ∧ fr.get (K.ofNat 2) = some (w) ∧ fr.get (K.ofNat 16) = some (w) ∧ fr.get (K.ofNat 17) = some (.i .i64 (L.length : Int)) ∧ fr.get (K.ofNat 18) = some (.i .i64 (j : Int))
def f62_J (h : H) (v w : V) (E : List (Int × Int)) (L : List Int) (j : Nat) (fr : Fr) (h1 : H) : Prop := j ≤ E.length ∧ Grow h.nx.nat h h1 ∧ h.nx.nat < h1.nx.nat ∧ (∃ B : List Bool, B.length = 26 ∧ Met E L j B ∧ Ar V.b h1 h.nx B) ∧ (∀ i, i < j → difOk1 E L i = true) ∧ fr.get (K.ofNat 2) = some (w) ∧ fr.get (K.ofNat 9) = some (.p h.nx 0) ∧ fr.get (K.ofNat 39) = some (v) ∧ fr.get (K.ofNat 40) = some (.i .i64 (E.length : Int)) ∧ fr.get (K.ofNat 41) = some (.i .i64 (j : Int))
theorem f62_ret (k : CallsGr fs) (hv : Srp h v E) (hw : Sr iE h w L) (hc : HC h) (hE : EdgesOk n E) (hL : L.length ≤ 1000000) : Ret fs f62 [.i .i64 (n : Int), v, w] h fun r h' => r = .b (grB (n : Int) E L) ∧ Grow h.nx.nat h h' := by
  apply ret_of rfl
  show W fs none f62_c _ _ _
  unfold f62_c
  have hl := hw.len
  by_cases hn : L.length = n
  · have d0 : decide ((L.length : Int) ≠ (n : Int)) = false := by simp; omega
    have e0 : decide ((L.length : Int) = (n : Int)) = true := by simp; omega
    simp (disch := omega) only [f62_r0, f62_r1, f62_r3, w_skip, w_reg, w_seq, w_cond, w_block, seqK_n, ckB_b, cbB_b, true_and, x_nil, x_mv, x_as, x_bin, x_len, kx, rvP_ok, okv_some, ev_t, ev_c, getV_some, putD_some, bin_neq, frame_3, of0, getK_set, Nat.reduceEqDiff, ↓reduceIte, Bool.false_eq_true, hl, d0]
    refine W_loop (f62_I h n v w E L) (fun j => L.length - j) ?_ 0 ⟨by omega, rfl, fun i hi => by omega, by simp (disch := omega) only [getK_set, Nat.reduceEqDiff, ↓reduceIte, and_self, Int.natCast_zero]⟩
    rintro j fr h1 ⟨hj, rfl, hok, g0, g1, g2, g16, g17, g18⟩
    unfold f62_l0
    by_cases hlt : j < L.length
    · have d1 : decide ((j : Int) < (L.length : Int)) = true := by simpa using hlt
      obtain ⟨p, hp1, hp2⟩ := hw.at j hlt
      have hg : L.getD j 0 = L[j] := by simp [List.getD_eq_getElem?_getD, hlt]
      have bad : labOk1 (E.length : Int) L j = false → grB (n : Int) E L = false := fun hb => by
        unfold grB labsOk
        rw [all_no hlt hb]; simp
      cases d2 : decide (L[j] < 0) with
      | true =>
        have hb : labOk1 (E.length : Int) L j = false := by
          unfold labOk1; rw [hg, decide_eq_false (by have := of_decide_eq_true d2; omega)]; rfl
        simp (disch := omega) only [f62_r4, f62_r5, f62_r6, f62_r7, f62_rs, w_skip, w_reg, w_seq, w_cond, w_block, w_ret, seqK_n, seqK_r, atK_r, loopK_r, ckB_b, cbB_b, okG_b, asG_f, true_and, retK_r, x_nil, x_g, x_mv, x_as, x_pick, x_ld, x_bin, x_iads, kx, rvP_ok, okv_some, ev_t, ev_c, getV_some, putD_some, bin_lss, pick_b, oGet_s, readRs_nil, readRs_t, retV_1, of0, Option.some.injEq, exists_eq_left', getK_set, Nat.reduceEqDiff, ↓reduceIte, Bool.false_eq_true, Bool.not_true, g16, g17, g18, d1, hp1, hp2, iE, d2, bad hb, true_and]
        exact Grow.refl _ _
      | false =>
      have n2 := of_decide_eq_false d2
      cases d3 : decide (L[j] > (E.length : Int)) with
      | true =>
        have hb : labOk1 (E.length : Int) L j = false := by
          unfold labOk1; rw [hg, decide_eq_false (by have := of_decide_eq_true d3; omega : ¬ L[j] ≤ (E.length : Int))]; simp
        simp (disch := omega) only [f62_r4, f62_r5, f62_r6, f62_r7, f62_rs, w_skip, w_reg, w_seq, w_cond, w_block, w_ret, seqK_n, seqK_r, atK_r, loopK_r, ckB_b, cbB_b, okG_b, asG_f, true_and, retK_r, x_nil, x_g, x_mv, x_as, x_pick, x_ld, x_bin, x_iads, x_len, kx, rvP_ok, okv_some, ev_t, ev_c, getV_some, putD_some, bin_lss, bin_gtr, pick_b, oGet_s, readRs_nil, readRs_t, retV_1, of0, Option.some.injEq, exists_eq_left', getK_set, Nat.reduceEqDiff, ↓reduceIte, Bool.false_eq_true, Bool.not_true, Bool.not_false, g1, g16, g17, g18, hv.len, d1, hp1, hp2, iE, d2, d3, bad hb, true_and]
        exact Grow.refl _ _
      | false =>
      have n3 := of_decide_eq_false d3
      obtain ⟨v', p1, p2, _⟩ := hw.cut (lo := none) (hi := some (.i .i64 (j : Int))) (l := 0) (u := j) bnd_none bnd_i (by omega) (by omega)
      rw [List.drop_zero] at p2
      simp (disch := omega) only [f62_r4, f62_r5, f62_r6, w_skip, w_reg, w_seq, w_cond, w_block, seqK_n, ckB_b, cbB_b, okG_b, asG_f, true_and, x_nil, x_g, x_mv, x_as, x_pick, x_ld, x_bin, x_slice, sliceV_eq, Option.map_none, Option.map_some, x_iads, x_call, x_len, kx, rvP_ok, okv_some, ev_t, ev_c, evs_nil, evs_cons, getV_some, putD_some, bin_lss, bin_gtr, pick_b, of0, getK_set, Nat.reduceEqDiff, ↓reduceIte, Bool.false_eq_true, Bool.not_false, g1, g2, g16, g17, g18, hv.len, d1, hp1, hp2, iE, d2, d3, p1]
      refine (callP_0 (ef := f99) k.c99 rfl (f99_ret k.c130 p2 (by simp; omega))).mono ?_
      rintro r h2 ⟨rfl, rfl⟩
      have hlo : labOk1 (E.length : Int) L j = !decide (L[j] ∈ L.take j) := by
        unfold labOk1
        rw [hg, decide_eq_true (by omega : 0 ≤ L[j]), decide_eq_true (by omega : L[j] ≤ (E.length : Int))]; rfl
      cases hm : decide (L[j] ∈ L.take j) with
      | true =>
        rw [hm] at hlo
        simp (disch := omega) only [f62_r7, f62_rs, w_reg, w_seq, w_cond, w_ret, seqK_n, seqK_r, atK_r, loopK_r, ckB_b, cbB_b, true_and, retK_r, x_nil, x_as, x_pick, kx, rvP_ok, ev_t, ev_c, getV_some, putD_some, pick_b, oGet_s, readRs_nil, readRs_t, retV_1, Option.some.injEq, exists_eq_left', getK_set, Nat.reduceEqDiff, ↓reduceIte, Bool.false_eq_true, bad hlo, true_and]
        exact Grow.refl _ _
      | false =>
        rw [hm] at hlo
        simp (disch := omega) only [f62_r8, w_skip, w_reg, w_cond, seqK_n, atK_n, loopK_n, ckB_b, cbB_b, true_and, x_nil, x_mv, x_pick, x_bin, kx, rvP_ok, okv_some, ev_t, ev_c, getV_some, putD_some, bin_add, pick_b, of1, getK_set, Nat.reduceEqDiff, ↓reduceIte, Bool.false_eq_true, g18, fw64]
        refine ⟨j + 1, by omega, by omega, rfl, fun i hi => ?_, by simp (disch := omega) only [getK_set, Nat.reduceEqDiff, ↓reduceIte, g0, g1, g2, g16, g17, and_self, Int.natCast_add, Int.natCast_one]⟩
        by_cases e : i = j
        · rw [e]; exact hlo
        · exact hok i (by omega)
    · have d1 : decide ((j : Int) < (L.length : Int)) = false := by simpa using hlt
      have ej : j = L.length := by omega
      have hlabs : labsOk (E.length : Int) L = true := all_yes fun i hi => hok i (by omega)
      have hlin := labs_in hlabs
      have heq : grB (n : Int) E L = difsOk E L := by unfold grB; rw [e0, hlabs]; rfl
      have n1 := nx_new h1 (.cells 26 (fls.map V.b))
      have g1' := Grow.new (Nat.le_refl h1.nx.nat) (.cells 26 (fls.map V.b))
      have hfl : (List.replicate 26 (V.b false)) = fls.map V.b := rfl
      have eA : Ar V.b (h1.new (.cells 26 (fls.map V.b))) h1.nx fls := get_new_same
      simp (disch := omega) only [f62_r4, f62_r9, f62_r10, w_reg, w_seq, w_cond, w_block, w_exit, seqK_n, seqK_e, atK_e, loopK_e, ckB_b, cbB_b, true_and, x_nil, x_mv, x_alloc, x_bin, x_len, kx, rvP_ok, okv_some, ev_t, ev_c, getV_some, putD_some, bin_lss, of0, getK_set, Nat.reduceEqDiff, ↓reduceIte, Bool.false_eq_true, g1, g17, g18, d1, hv.len, hfl]
      refine W_loop (f62_J h1 v w E L) (fun j => E.length - j) ?_ 0 ⟨by omega, g1', by omega, ⟨fls, rfl, Met.zero, eA⟩, fun i hi => by omega, by simp (disch := omega) only [getK_set, Nat.reduceEqDiff, ↓reduceIte, g2, and_self, Int.natCast_zero]⟩
      clear g0 g1 g2 g16 g17 g18 eA d1
      rintro j fr h2 ⟨hj, hG, hnx, ⟨B, hB, hM, hA⟩, hok2, g2, g9, g39, g40, g41⟩
      have hc2 := hG.hc hc
      have hv2 := hv.grow hc hG
      unfold f62_l1
      by_cases hlt2 : j < E.length
      · have d1 : decide ((j : Int) < (E.length : Int)) = true := by simpa using hlt2
        obtain ⟨ide, q, hp1, hp2, _, _⟩ := hv2.at2 hlt2
        obtain ⟨a, b, d, ha, hb, ea, eb, hab, ed, ead, hdE, la, lb⟩ := dfE_in hE hlin hn hlt2
        have hd26 : d < 26 := by have := hE.1; omega
        have hdm := hM.dif hlt2 ed (by omega)
        have hst2 : storeV (h2.new (.cells 2 zz)) 2 (.p h2.nx 0) (.agg [.i .i64 E[j].1, .i .i64 E[j].2]) = .ok undefV ((h2.new (.cells 2 zz)).put h2.nx (.cells 2 [.i .i64 E[j].1, .i .i64 E[j].2])) := st2 (a := .i .i64 (.ofNat 0)) (b := .i .i64 (.ofNat 0)) get_new_same
        have nx1 := nx_new h2 (.cells 2 zz)
        have gA : Grow h2.nx.nat h2 ((h2.new (.cells 2 zz)).put h2.nx (.cells 2 [.i .i64 E[j].1, .i .i64 E[j].2])) := (Grow.new (Nat.le_refl _) _).trans (Grow.put (Nat.le_refl _) (by omega) _)
        have c12 : ((h2.new (.cells 2 zz)).put h2.nx (.cells 2 [.i .i64 E[j].1, .i .i64 E[j].2])).get h2.nx = .cells 2 [.i .i64 E[j].1, .i .i64 E[j].2] := get_put_same
        have hzz : ([.i .i64 0, .i .i64 0] : List V) = zz := rfl
        generalize hh2 : (h2.new (.cells 2 zz)).put h2.nx (.cells 2 [.i .i64 E[j].1, .i .i64 E[j].2]) = h3 at *
        have hG3 := hG.trans (gA.low hG.nx)
        have hc3 := hG3.hc hc
        have hw3 := hw.grow hc hG3
        have l0 : loadV h3 (.p h2.nx (0 + 0 * 1)) one? = .ok (.i .i64 E[j].1) h3 := load_p c12 rfl
        have l1 : loadV h3 (.p h2.nx (0 + 1 * 1)) one? = .ok (.i .i64 E[j].2) h3 := load_p c12 rfl
        obtain ⟨s, hs1, hs2, hs3⟩ := hw3.atb a ha
        obtain ⟨t, ht1, ht2, ht3⟩ := hw3.atb b hb
        have hwb := hw.beq
        rw [ea] at l0
        rw [eb] at l1
        rw [ea, eb] at hst2 hp2
        simp (disch := omega) only [f62_r11, f62_r12, f62_r13, w_skip, w_reg, w_draw, w_seq, w_cond, w_block, seqK_n, ckB_b, cbB_b, true_and, x_nil, x_alloc, x_ldn, x_st, x_bin, x_iads, x_call, kx, kg, xg_nil, xg_mv, xg_ld, xg_iadr, xg_iads, xd_cons, fresh_nil, stK_s, stay_nil, rvP_ok, okv_some, ev_t, ev_c, evs_nil, evs_cons, getV_some, putD_some, putD_none, bin_lss, onP_p, of0, of1, getK_set, Nat.reduceEqDiff, ↓reduceIte, ix2_0, ix2_1, g2, g39, g40, g41, d1, hp1, hp2, hzz, hst2, l0, l1, hs1, hs2, ht1, ht2, iE]
        refine (callP_0 (ef := f101) k.c101 rfl (f101_ret (a := L[a]) (b := L[b]) k.c102 hc3 (by omega) (by omega))).mono ?_
        rintro r h4 ⟨rfl, gB⟩
        have hG4 := hG3.trans (gB.low hG3.nx)
        have hn3 := gA.nx
        have hA4 : Ar V.b h4 h1.nx B := by
          unfold Ar
          rw [gB.old _ (by omega), gA.old _ (by omega)]; exact hA
        rw [ead]
        simp (disch := omega) only [true_and, x_nil, x_call, kx, xg_nil, xd_cons, fresh_nil, stK_s, stay_nil, ev_t, ev_c, evs_nil, evs_cons, getV_some, putD_some, getK_set, Nat.reduceEqDiff, ↓reduceIte, g9]
        refine (callP_0 (ef := f100) k.c100 rfl (f100_ret hA4 hB hd26)).mono ?_
        rintro r h5 ⟨rfl, rfl⟩
        cases hbd : B[d]'(by omega) with
        | true =>
          rw [hbd] at hdm
          have hno : grB (n : Int) E L = false := by rw [heq]; unfold difsOk; exact all_no hlt2 hdm
          simp (disch := omega) only [f62_r14, f62_rs, w_reg, w_seq, w_cond, w_ret, seqK_n, seqK_r, atK_r, loopK_r, ckB_b, cbB_b, true_and, retK_r, x_nil, x_as, kx, kg, xg_nil, xg_not, xd_cons, fresh_nil, stK_n, stay_nil, rvP_ok, ev_t, ev_c, getV_some, putD_some, onB_b, oGet_s, readRs_nil, readRs_t, retV_1, Option.some.injEq, exists_eq_left', getK_set, ↓reduceIte, Bool.not_true, Bool.not_false, hno, Bool.not_true, Bool.not_false, true_and]
          exact hG4
        | false =>
          rw [hbd] at hdm
          have hn4 := gB.nx
          have hE10 : E.length ≤ 10 := hE.1
          simp (disch := omega) only [f62_r15, w_skip, w_reg, w_cond, seqK_n, atK_n, loopK_n, ckB_b, cbB_b, true_and, x_nil, x_mv, x_bin, kx, kg, xg_nil, xg_not, xd_cons, fresh_nil, stK_n, stay_nil, rvP_ok, okv_some, ev_t, ev_c, getV_some, putD_some, bin_add, onB_b, of1, getK_set, Nat.reduceEqDiff, ↓reduceIte, Bool.false_eq_true, Bool.not_true, Bool.not_false, g41, Bool.not_true, Bool.not_false, fw64]
          refine ⟨j + 1, by omega, by omega, hG4.trans (Grow.put (Nat.le_refl _) (by omega) _), by show h1.nx.nat < h4.nx.nat; omega, ⟨B.set d true, by simpa using hB, hM.succ hlt2 ed (by omega), ?_⟩, fun i hi => ?_, by simp (disch := omega) only [getK_set, Nat.reduceEqDiff, ↓reduceIte, g2, g9, g39, g40, and_self, Int.natCast_add, Int.natCast_one]⟩
          · show (h4.put _ _).get _ = .cells (B.set d true).length _
            rw [get_put_same, List.length_set, hB]
          · by_cases e : i = j
            · rw [e]; exact hdm
            · exact hok2 i (by omega)
      · have d1 : decide ((j : Int) < (E.length : Int)) = false := by simpa using hlt2
        have hdf : difsOk E L = true := all_yes fun i hi => hok2 i (by omega)
        simp (disch := omega) only [f62_r11, f62_r16, f62_rs, w_reg, w_seq, w_cond, w_exit, w_ret, seqK_n, seqK_e, atK_e, loopK_e, ckB_b, cbB_b, true_and, retK_r, x_nil, x_as, x_bin, kx, rvP_ok, okv_some, ev_t, ev_c, getV_some, putD_some, bin_lss, oGet_s, readRs_nil, readRs_t, retV_1, Option.some.injEq, exists_eq_left', getK_set, ↓reduceIte, Bool.false_eq_true, g40, g41, d1, heq, hdf, true_and]
        exact hG
  · have d0 : decide ((L.length : Int) ≠ (n : Int)) = true := by simp; omega
    have e0 : grB (n : Int) E L = false := by unfold grB; rw [decide_eq_false (by omega)]; rfl
    simp (disch := omega) only [f62_r0, f62_r1, f62_r2, f62_rs, w_reg, w_seq, w_cond, w_ret, seqK_n, seqK_r, ckB_b, cbB_b, true_and, retK_r, x_nil, x_mv, x_as, x_bin, x_len, kx, rvP_ok, okv_some, ev_t, ev_c, getV_some, putD_some, bin_neq, oGet_s, readRs_nil, readRs_t, retV_1, frame_3, Option.some.injEq, exists_eq_left', getK_set, Nat.reduceEqDiff, ↓reduceIte, hl, d0, e0, true_and]
    exact Grow.refl _ _
end
end Go.Ev
namespace Go.Ev
open Go Go.RowKit
section
variable {fs : T EF} {ro : Option K} {h : H} {v w : V} {n : Nat} {E : List (Int × Int)} {L : List Int}
end
end Go.Ev
namespace Go.Ev
open Go Go.RowKit
noncomputable def f18_r0 : List EOper := [⟨(some (K.ofNat 6)), none, .as (.c (.b false))⟩, ⟨(some (K.ofNat 7)), none, .as (.c (.i .i64 (.ofNat 0)))⟩]
noncomputable def f18_r1 : List EOper := [⟨(some (K.ofNat 9)), none, .mv (.t (K.ofNat 0))⟩, ⟨(some (K.ofNat 10)), none, .mv (.t (K.ofNat 1))⟩, ⟨(some (K.ofNat 11)), none, .call (.c (.fn (K.ofNat 17) [])) [(.t (K.ofNat 9)), (.t (K.ofNat 10))]⟩, ⟨(some (K.ofNat 8)), none, .as (.t (K.ofNat 11))⟩]
noncomputable def f18_r2 : List EOper := [⟨(some (K.ofNat 12)), none, .mv (.t (K.ofNat 8))⟩, ⟨(some (K.ofNat 13)), none, .bin .neq (.t (K.ofNat 12)) (.c (.i .i64 (.ofNat 0)))⟩]
noncomputable def f18_r3 : List EOper := [⟨(some (K.ofNat 14)), none, .mv (.t (K.ofNat 8))⟩, ⟨(some (K.ofNat 6)), none, .as (.c (.b false))⟩, ⟨(some (K.ofNat 7)), none, .as (.t (K.ofNat 14))⟩]
noncomputable def f18_r4 : List EOper := [⟨(some (K.ofNat 15)), none, .mv (.t (K.ofNat 0))⟩, ⟨(some (K.ofNat 16)), none, .mv (.t (K.ofNat 1))⟩, ⟨(some (K.ofNat 17)), none, .mv (.t (K.ofNat 2))⟩, ⟨(some (K.ofNat 18)), none, .call (.c (.fn (K.ofNat 62) [])) [(.t (K.ofNat 15)), (.t (K.ofNat 16)), (.t (K.ofNat 17))]⟩, ⟨(some (K.ofNat 6)), none, .as (.t (K.ofNat 18))⟩, ⟨(some (K.ofNat 7)), none, .as (.c (.i .i64 (.ofNat 0)))⟩]
noncomputable def f18_c : EC := (.seq (.reg f18_r0) (.seq (.seq (.reg f18_r1) (.seq (.reg f18_r2) (.cond (.t (K.ofNat 13)) (.seq (.reg f18_r3) .ret) .skip))) (.seq (.reg f18_r4) .ret)))
noncomputable def f18 : EF := ⟨19, [.tmp (K.ofNat 6), .tmp (K.ofNat 7)], f18_c, none⟩
theorem f18_rs : f18.rs = [.tmp (K.ofNat 6), .tmp (K.ofNat 7)] := of_eq_true (eq_self _)
noncomputable def f64_r0 : List EOper := [⟨(some (K.ofNat 6)), none, .as (.c (.i .i64 (.ofNat 0)))⟩]
noncomputable def f64_r1 : List EOper := [⟨(some (K.ofNat 8)), none, .mv (.t (K.ofNat 0))⟩, ⟨(some (K.ofNat 9)), none, .mv (.t (K.ofNat 1))⟩, ⟨(some (K.ofNat 10)), none, .call (.c (.fn (K.ofNat 17) [])) [(.t (K.ofNat 8)), (.t (K.ofNat 9))]⟩, ⟨(some (K.ofNat 7)), none, .as (.t (K.ofNat 10))⟩]
noncomputable def f64_r2 : List EOper := [⟨(some (K.ofNat 11)), none, .mv (.t (K.ofNat 7))⟩, ⟨(some (K.ofNat 12)), none, .bin .neq (.t (K.ofNat 11)) (.c (.i .i64 (.ofNat 0)))⟩]
noncomputable def f64_r3 : List EOper := [⟨(some (K.ofNat 13)), none, .mv (.t (K.ofNat 7))⟩, ⟨(some (K.ofNat 6)), none, .as (.t (K.ofNat 13))⟩]
noncomputable def f64_r4 : List EOper := [⟨(some (K.ofNat 14)), none, .mv (.t (K.ofNat 0))⟩, ⟨(some (K.ofNat 15)), none, .mv (.t (K.ofNat 1))⟩, ⟨(some (K.ofNat 16)), none, .mv (.t (K.ofNat 2))⟩, ⟨(some (K.ofNat 17)), none, .call (.c (.fn (K.ofNat 62) [])) [(.t (K.ofNat 14)), (.t (K.ofNat 15)), (.t (K.ofNat 16))]⟩, ⟨(some (K.ofNat 18)), none, .not (.t (K.ofNat 17))⟩]
noncomputable def f64_r5 : List EOper := [⟨(some (K.ofNat 6)), none, .as (.c (.i .i64 (.ofNat 1)))⟩]
noncomputable def f64_r6 : List EOper := [⟨(some (K.ofNat 6)), none, .as (.c (.i .i64 (.ofNat 0)))⟩]
noncomputable def f64_c : EC := (.seq (.reg f64_r0) (.seq (.seq (.reg f64_r1) (.seq (.reg f64_r2) (.cond (.t (K.ofNat 12)) (.seq (.reg f64_r3) .ret) .skip))) (.seq (.seq (.reg f64_r4) (.cond (.t (K.ofNat 18)) (.seq (.reg f64_r5) .ret) .skip)) (.seq (.reg f64_r6) .ret))))
noncomputable def f64 : EF := ⟨19, [.tmp (K.ofNat 6)], f64_c, none⟩
theorem f64_rs : f64.rs = [.tmp (K.ofNat 6)] := of_eq_true (eq_self _)
noncomputable def f20_r0 : List EOper := [⟨(some (K.ofNat 6)), none, .as (.c .sn)⟩, ⟨(some (K.ofNat 7)), none, .as (.c (.i .i64 (.ofNat 0)))⟩]
noncomputable def f20_r1 : List EOper := [⟨(some (K.ofNat 12)), none, .mv (.t (K.ofNat 0))⟩, ⟨(some (K.ofNat 13)), none, .mv (.t (K.ofNat 1))⟩, ⟨(some (K.ofNat 14)), none, .mv (.t (K.ofNat 2))⟩, ⟨(some (K.ofNat 15)), none, .call (.c (.fn (K.ofNat 64) [])) [(.t (K.ofNat 12)), (.t (K.ofNat 13)), (.t (K.ofNat 14))]⟩, ⟨(some (K.ofNat 8)), none, .as (.t (K.ofNat 15))⟩]
noncomputable def f20_r2 : List EOper := [⟨(some (K.ofNat 16)), none, .mv (.t (K.ofNat 8))⟩, ⟨(some (K.ofNat 17)), none, .bin .neq (.t (K.ofNat 16)) (.c (.i .i64 (.ofNat 0)))⟩]
noncomputable def f20_r3 : List EOper := [⟨(some (K.ofNat 18)), none, .mv (.t (K.ofNat 8))⟩, ⟨(some (K.ofNat 6)), none, .as (.c .sn)⟩, ⟨(some (K.ofNat 7)), none, .as (.t (K.ofNat 18))⟩]
noncomputable def f20_r4 : List EOper := [⟨(some (K.ofNat 19)), none, .mv (.t (K.ofNat 0))⟩, ⟨(some (K.ofNat 20)), none, .mkslice 1 [(.i .i64 (.ofNat 0))] (.t (K.ofNat 19))⟩, ⟨(some (K.ofNat 9)), none, .as (.t (K.ofNat 20))⟩]
noncomputable def f20_r5 : List EOper := [⟨(some (K.ofNat 21)), none, .mv (.t (K.ofNat 2))⟩, ⟨(some (K.ofNat 22)), none, .len (.t (K.ofNat 21))⟩, ⟨(some (K.ofNat 23)), none, .mv (.c (.i .i64 (.ofNat 0)))⟩]
noncomputable def f20_r6 : List EOper := [⟨(some (K.ofNat 24)), none, .bin .lss (.t (K.ofNat 23)) (.t (K.ofNat 22))⟩]
noncomputable def f20_r7 : List EOper := [⟨(some (K.ofNat 25)), none, .mv (.t (K.ofNat 23))⟩, ⟨(some (K.ofNat 26)), none, .iads 1 (.t (K.ofNat 21)) (.t (K.ofNat 23))⟩, ⟨(some (K.ofNat 27)), none, .ld (.t (K.ofNat 26))⟩, ⟨(some (K.ofNat 10)), none, .as (.t (K.ofNat 25))⟩, ⟨(some (K.ofNat 11)), none, .as (.t (K.ofNat 27))⟩]
noncomputable def f20_r8 : List EOper := [⟨(some (K.ofNat 28)), none, .mv (.t (K.ofNat 9))⟩, ⟨(some (K.ofNat 29)), none, .mv (.t (K.ofNat 10))⟩, ⟨(some (K.ofNat 30)), none, .mv (.t (K.ofNat 1))⟩, ⟨(some (K.ofNat 31)), none, .len (.t (K.ofNat 30))⟩, ⟨(some (K.ofNat 32)), none, .mv (.t (K.ofNat 11))⟩, ⟨(some (K.ofNat 33)), none, .bin .sub (.t (K.ofNat 31)) (.t (K.ofNat 32))⟩, ⟨(some (K.ofNat 34)), none, .iads 1 (.t (K.ofNat 28)) (.t (K.ofNat 29))⟩, ⟨none, none, .st 1 (.t (K.ofNat 34)) (.t (K.ofNat 33))⟩]
noncomputable def f20_r9 : List EOper := [⟨(some (K.ofNat 35)), none, .bin .add (.t (K.ofNat 23)) (.c (.i .i64 (.ofNat 1)))⟩, ⟨(some (K.ofNat 23)), none, .mv (.t (K.ofNat 35))⟩]
noncomputable def f20_l0 : EC := (.seq (.reg f20_r6) (.seq (.cond (.t (K.ofNat 24)) .skip (.exit 0)) (.seq (.block 1 (.seq (.reg f20_r7) (.reg f20_r8))) (.reg f20_r9))))
noncomputable def f20_r10 : List EOper := [⟨(some (K.ofNat 36)), none, .mv (.t (K.ofNat 9))⟩, ⟨(some (K.ofNat 6)), none, .as (.t (K.ofNat 36))⟩, ⟨(some (K.ofNat 7)), none, .as (.c (.i .i64 (.ofNat 0)))⟩]
noncomputable def f20_c : EC := (.seq (.reg f20_r0) (.seq (.seq (.reg f20_r1) (.seq (.reg f20_r2) (.cond (.t (K.ofNat 17)) (.seq (.reg f20_r3) .ret) .skip))) (.seq (.reg f20_r4) (.seq (.seq (.reg f20_r5) (.block 0 (.loop f20_l0))) (.seq (.reg f20_r10) .ret)))))
noncomputable def f20 : EF := ⟨37, [.tmp (K.ofNat 6), .tmp (K.ofNat 7)], f20_c, none⟩
theorem f20_rs : f20.rs = [.tmp (K.ofNat 6), .tmp (K.ofNat 7)] := of_eq_true (eq_self _)
structure CallsIg (fs : T EF) : Prop extends CallsC fs, CallsGr fs where
  c64 : fs.get (K.ofNat 64) = some f64
section
variable {fs : T EF} {ro : Option K} {h : H} {v w : V} {n : Int} {m : Nat} {E : List (Int × Int)} {L : List Int}
theorem f18_err (k : CallsC fs) (hv : Srp h v E) (hc : HC h) (hE : E.length ≤ 1000000) (hn : chkI n E ≠ 0) : Ret fs f18 [.i .i64 n, v, w] h fun r h' => r = .tup [.b false, .i .i64 (chkI n E)] ∧ Grow h.nx.nat h h' := by
  apply ret_of rfl
  show W fs none f18_c _ _ _
  unfold f18_c
  simp (disch := omega) only [f18_r0, f18_r1, w_reg, w_seq, seqK_n, x_nil, x_mv, x_as, x_call, ev_t, ev_c, evs_nil, evs_cons, getV_some, putD_some, frame_3, of0, getK_set, Nat.reduceEqDiff, ↓reduceIte]
  refine (callP_0 (ef := f17) k.c17 rfl (f17_ret (n := n) k hv hc hE)).mono ?_
  rintro r h1 ⟨rfl, hG⟩
  have d : decide (chkI n E ≠ 0) = true := by simpa using hn
  simp (disch := omega) only [f18_r2, f18_r3, f18_rs, w_reg, w_seq, w_cond, w_ret, seqK_n, seqK_r, ckB_b, cbB_b, true_and, retK_r, x_nil, x_mv, x_as, x_bin, kx, rvP_ok, okv_some, ev_t, ev_c, getV_some, putD_some, bin_neq, oGet_s, readRs_nil, readRs_t, retV_2, of0, Option.some.injEq, exists_eq_left', getK_set, Nat.reduceEqDiff, ↓reduceIte, d, true_and]
  exact hG
theorem f18_ok (k : CallsIg fs) (hv : Srp h v E) (hw : Sr iE h w L) (hc : HC h) (hL : L.length ≤ 1000000) (hn : chkI (m : Int) E = 0) : Ret fs f18 [.i .i64 (m : Int), v, w] h fun r h' => r = .tup [.b (grB (m : Int) E L), .i .i64 0] ∧ Grow h.nx.nat h h' := by
  obtain ⟨m', hm, _, hE⟩ := chkI_ok hn
  obtain rfl : m = m' := by omega
  apply ret_of rfl
  show W fs none f18_c _ _ _
  unfold f18_c
  have hE6 : E.length ≤ 1000000 := by have := hE.1; omega
  simp (disch := omega) only [f18_r0, f18_r1, w_reg, w_seq, seqK_n, x_nil, x_mv, x_as, x_call, ev_t, ev_c, evs_nil, evs_cons, getV_some, putD_some, frame_3, of0, getK_set, Nat.reduceEqDiff, ↓reduceIte]
  refine (callP_0 (ef := f17) k.c17 rfl (f17_ret (n := (m : Int)) k.toCallsC hv hc hE6)).mono ?_
  rintro r h1 ⟨rfl, hG⟩
  rw [hn]
  have d : decide ((0 : Int) ≠ 0) = false := rfl
  simp (disch := omega) only [f18_r2, f18_r4, w_skip, w_reg, w_seq, w_cond, seqK_n, ckB_b, cbB_b, true_and, x_nil, x_mv, x_as, x_bin, x_call, kx, rvP_ok, okv_some, ev_t, ev_c, evs_nil, evs_cons, getV_some, putD_some, bin_neq, of0, getK_set, Nat.reduceEqDiff, ↓reduceIte, Bool.false_eq_true, d]
  refine (callP_0 (ef := f62) k.c62 rfl (f62_ret k.toCallsGr (hv.grow hc hG) (hw.grow hc hG) (hG.hc hc) hE hL)).mono ?_
  rintro r h2 ⟨rfl, hG2⟩
  simp (disch := omega) only [f18_rs, w_ret, seqK_n, true_and, retK_r, x_nil, x_as, kx, ev_t, ev_c, getV_some, putD_some, oGet_s, readRs_nil, readRs_t, retV_2, Option.some.injEq, exists_eq_left', getK_set, Nat.reduceEqDiff, ↓reduceIte, true_and]
  exact hG.trans (hG2.low hG.nx)
theorem f64_err (k : CallsC fs) (hv : Srp h v E) (hc : HC h) (hE : E.length ≤ 1000000) (hn : chkI n E ≠ 0) : Ret fs f64 [.i .i64 n, v, w] h fun r h' => r = .i .i64 (chkI n E) ∧ Grow h.nx.nat h h' := by
  apply ret_of rfl
  show W fs none f64_c _ _ _
  unfold f64_c
  simp (disch := omega) only [f64_r0, f64_r1, w_reg, w_seq, seqK_n, x_nil, x_mv, x_as, x_call, ev_t, ev_c, evs_nil, evs_cons, getV_some, putD_some, frame_3, of0, getK_set, Nat.reduceEqDiff, ↓reduceIte]
  refine (callP_0 (ef := f17) k.c17 rfl (f17_ret (n := n) k hv hc hE)).mono ?_
  rintro r h1 ⟨rfl, hG⟩
  have d : decide (chkI n E ≠ 0) = true := by simpa using hn
  simp (disch := omega) only [f64_r2, f64_r3, f64_rs, w_reg, w_seq, w_cond, w_ret, seqK_n, seqK_r, ckB_b, cbB_b, true_and, retK_r, x_nil, x_mv, x_as, x_bin, kx, rvP_ok, okv_some, ev_t, ev_c, getV_some, putD_some, bin_neq, oGet_s, readRs_nil, readRs_t, retV_1, of0, Option.some.injEq, exists_eq_left', getK_set, Nat.reduceEqDiff, ↓reduceIte, d, true_and]
  exact hG
theorem f64_ok (k : CallsIg fs) (hv : Srp h v E) (hw : Sr iE h w L) (hc : HC h) (hL : L.length ≤ 1000000) (hn : chkI (m : Int) E = 0) : Ret fs f64 [.i .i64 (m : Int), v, w] h fun r h' => r = .i .i64 (if grB (m : Int) E L = true then 0 else 1) ∧ Grow h.nx.nat h h' := by
  obtain ⟨m', hm, _, hE⟩ := chkI_ok hn
  obtain rfl : m = m' := by omega
  apply ret_of rfl
  show W fs none f64_c _ _ _
  unfold f64_c
  have hE6 : E.length ≤ 1000000 := by have := hE.1; omega
  simp (disch := omega) only [f64_r0, f64_r1, w_reg, w_seq, seqK_n, x_nil, x_mv, x_as, x_call, ev_t, ev_c, evs_nil, evs_cons, getV_some, putD_some, frame_3, of0, getK_set, Nat.reduceEqDiff, ↓reduceIte]
  refine (callP_0 (ef := f17) k.c17 rfl (f17_ret (n := (m : Int)) k.toCallsC hv hc hE6)).mono ?_
  rintro r h1 ⟨rfl, hG⟩
  rw [hn]
  have d : decide ((0 : Int) ≠ 0) = false := rfl
  simp (disch := omega) only [f64_r2, f64_r4, w_skip, w_reg, w_seq, w_cond, seqK_n, ckB_b, cbB_b, true_and, x_nil, x_mv, x_as, x_bin, x_call, kx, rvP_ok, okv_some, ev_t, ev_c, evs_nil, evs_cons, getV_some, putD_some, bin_neq, of0, getK_set, Nat.reduceEqDiff, ↓reduceIte, Bool.false_eq_true, d]
  refine (callP_0 (ef := f62) k.c62 rfl (f62_ret k.toCallsGr (hv.grow hc hG) (hw.grow hc hG) (hG.hc hc) hE hL)).mono ?_
  rintro r h2 ⟨rfl, hG2⟩
  have hGG := hG.trans (hG2.low hG.nx)
  cases grB (m : Int) E L with
  | true =>
    simp (disch := omega) only [f64_r6, f64_rs, w_skip, w_reg, w_seq, w_cond, w_ret, seqK_n, ckB_b, cbB_b, true_and, retK_r, x_nil, x_as, x_not, kx, rvP_ok, ev_t, ev_c, getV_some, putD_some, onB_b, oGet_s, readRs_nil, readRs_t, retV_1, of0, Option.some.injEq, exists_eq_left', getK_set, ↓reduceIte, Bool.false_eq_true, Bool.not_true, Bool.not_true, true_and]
    exact hGG
  | false =>
    simp (disch := omega) only [f64_r5, f64_rs, w_reg, w_seq, w_cond, w_ret, seqK_n, seqK_r, ckB_b, cbB_b, true_and, retK_r, x_nil, x_as, x_not, kx, rvP_ok, ev_t, ev_c, getV_some, putD_some, onB_b, oGet_s, readRs_nil, readRs_t, retV_1, of1, Option.some.injEq, exists_eq_left', getK_set, ↓reduceIte, Bool.false_eq_true, Bool.not_false, Bool.not_false, true_and]
    exact hGG
theorem gr_labs (hg : grB (m : Int) E L = true) : L.length = m ∧ LabOk E L := by
  unfold grB at hg
  simp only [Bool.and_eq_true, decide_eq_true_eq] at hg
  exact ⟨by omega, labs_in hg.2.1⟩
/-- The turned labels. -/
def turnL (E : List (Int × Int)) (L : List Int) : List Int := L.map fun x => (E.length : Int) - x
theorem f20_err (k : CallsC fs) (k64 : fs.get (K.ofNat 64) = some f64) (hv : Srp h v E) (hc : HC h) (hE : E.length ≤ 1000000) (hn : chkI n E ≠ 0) : Ret fs f20 [.i .i64 n, v, w] h fun r h' => r = .tup [.sn, .i .i64 (chkI n E)] ∧ Grow h.nx.nat h h' := by
  apply ret_of rfl
  show W fs none f20_c _ _ _
  unfold f20_c
  simp (disch := omega) only [f20_r0, f20_r1, w_reg, w_seq, seqK_n, x_nil, x_mv, x_as, x_call, ev_t, ev_c, evs_nil, evs_cons, getV_some, putD_some, frame_3, of0, getK_set, Nat.reduceEqDiff, ↓reduceIte]
  refine (callP_0 (ef := f64) k64 rfl (f64_err (n := n) k hv hc hE hn)).mono ?_
  rintro r h1 ⟨rfl, hG⟩
  have d : decide (chkI n E ≠ 0) = true := by simpa using hn
  simp (disch := omega) only [f20_r2, f20_r3, f20_rs, w_reg, w_seq, w_cond, w_ret, seqK_n, seqK_r, ckB_b, cbB_b, true_and, retK_r, x_nil, x_mv, x_as, x_bin, kx, rvP_ok, okv_some, ev_t, ev_c, getV_some, putD_some, bin_neq, oGet_s, readRs_nil, readRs_t, retV_2, of0, Option.some.injEq, exists_eq_left', getK_set, Nat.reduceEqDiff, ↓reduceIte, d, true_and]
  exact hG
theorem f20_no (k : CallsIg fs) (hv : Srp h v E) (hw : Sr iE h w L) (hc : HC h) (hL : L.length ≤ 1000000) (hn : chkI (m : Int) E = 0) (hg : grB (m : Int) E L = false) : Ret fs f20 [.i .i64 (m : Int), v, w] h fun r h' => r = .tup [.sn, .i .i64 1] ∧ Grow h.nx.nat h h' := by
  apply ret_of rfl
  show W fs none f20_c _ _ _
  unfold f20_c
  simp (disch := omega) only [f20_r0, f20_r1, w_reg, w_seq, seqK_n, x_nil, x_mv, x_as, x_call, ev_t, ev_c, evs_nil, evs_cons, getV_some, putD_some, frame_3, of0, getK_set, Nat.reduceEqDiff, ↓reduceIte]
  refine (callP_0 (ef := f64) k.c64 rfl (f64_ok k hv hw hc hL hn)).mono ?_
  rintro r h1 ⟨rfl, hG⟩
  rw [hg]
  have d : decide ((1 : Int) ≠ 0) = true := rfl
  simp (disch := omega) only [f20_r2, f20_r3, f20_rs, w_reg, w_seq, w_cond, w_ret, seqK_n, seqK_r, ckB_b, cbB_b, true_and, retK_r, x_nil, x_mv, x_as, x_bin, kx, rvP_ok, okv_some, ev_t, ev_c, getV_some, putD_some, bin_neq, oGet_s, readRs_nil, readRs_t, retV_2, of0, Option.some.injEq, exists_eq_left', getK_set, Nat.reduceEqDiff, ↓reduceIte, Bool.false_eq_true, d, Bool.false_eq_true, true_and]
  exact hG
def f20_I (h : H) (v w u : V) (E : List (Int × Int)) (L : List Int) (j : Nat) (fr : Fr) (h1 : H) : Prop := j ≤ L.length ∧ Grow h.nx.nat h h1 ∧ (∃ M : List Int, M.length = L.length ∧ (∀ i (hi : i < L.length) (hm : i < M.length), i < j → M[i] = (E.length : Int) - L[i]) ∧ Sl iE h1 u M) ∧ fr.get (K.ofNat 1) = some (v) ∧ fr.get (K.ofNat 2) = some (w) ∧ fr.get (K.ofNat 9) = some (u) ∧ fr.get (K.ofNat 21) = some (w) ∧ fr.get (K.ofNat 22) = some (.i .i64 (L.length : Int)) ∧ fr.get (K.ofNat 23) = some (.i .i64 (j : Int))
theorem f20_ok (k : CallsIg fs) (hv : Srp h v E) (hw : Sr iE h w L) (hc : HC h) (hL : L.length ≤ 1000000) (hn : chkI (m : Int) E = 0) (hg : grB (m : Int) E L = true) : Ret fs f20 [.i .i64 (m : Int), v, w] h fun r h' => ∃ u, r = .tup [u, .i .i64 0] ∧ Sl iE h' u (turnL E L) ∧ Own h.nx.nat u ∧ Grow h.nx.nat h h' := by
  obtain ⟨hLm, hlin⟩ := gr_labs hg
  obtain ⟨m', hm, _, hE⟩ := chkI_ok hn
  have hE10 : E.length ≤ 10 := hE.1
  apply ret_of rfl
  show W fs none f20_c _ _ _
  unfold f20_c
  simp (disch := omega) only [f20_r0, f20_r1, w_reg, w_seq, seqK_n, x_nil, x_mv, x_as, x_call, ev_t, ev_c, evs_nil, evs_cons, getV_some, putD_some, frame_3, of0, getK_set, Nat.reduceEqDiff, ↓reduceIte]
  refine (callP_0 (ef := f64) k.c64 rfl (f64_ok k hv hw hc hL hn)).mono ?_
  rintro r h1 ⟨rfl, hG⟩
  rw [hg]
  have d : decide ((0 : Int) ≠ 0) = false := rfl
  have hmk : ∀ {k : IntKind}, mksV 1 [.i .i64 0] h1 (.i k (m : Int)) = .ok (.sl h1.nx 0 m 1) (h1.new (.cells (m * 1) (rep [.i .i64 0] m))) := mks_ints (by omega)
  have hs0 := mks_sl (h := h1) (n := m)
  have gl := Grow.new hG.nx (.cells (m * 1) (rep [.i .i64 0] m))
  have hG0 := hG.trans gl
  simp (disch := omega) only [f20_r2, f20_r4, f20_r5, w_skip, w_reg, w_seq, w_cond, w_block, seqK_n, ckB_b, cbB_b, true_and, x_nil, x_mv, x_as, x_bin, x_mks, x_len, kx, rvP_ok, okv_some, ev_t, ev_c, getV_some, putD_some, bin_neq, of0, getK_set, Nat.reduceEqDiff, ↓reduceIte, Bool.false_eq_true, d, hmk, hw.len]
  refine W_loop (f20_I h v w (.sl h1.nx 0 m 1) E L) (fun j => L.length - j) ?_ 0 ⟨by omega, hG0, ⟨_, by simp; omega, fun i _ _ h => by omega, hs0⟩, by simp (disch := omega) only [getK_set, Nat.reduceEqDiff, ↓reduceIte, and_self, Int.natCast_zero]⟩
  rintro j fr h2 ⟨hj, hG2, ⟨M, hM, hMe, hS⟩, g1, g2, g9, g21, g22, g23⟩
  have hc2 := hG2.hc hc
  have hv2 := hv.grow hc hG2
  have hw2 := hw.grow hc hG2
  unfold f20_l0
  by_cases hlt : j < L.length
  · have d1 : decide ((j : Int) < (L.length : Int)) = true := by simpa using hlt
    obtain ⟨p, hp1, hp2⟩ := hw2.at j hlt
    obtain ⟨q1, q2⟩ := hlin _ (List.getElem_mem hlt)
    obtain ⟨r', id', m', cs', hst1, hst2, hst3, ⟨off', n', sz', hid⟩, hst5⟩ := hS.st (i := j) (by omega) (x := (E.length : Int) - L[j]) (c := .i .i64 ((E.length : Int) - L[j])) rfl rfl hc2
    injection hid with hid _ _ _
    simp (disch := omega) only [f20_r6, f20_r7, f20_r8, f20_r9, w_skip, w_reg, w_seq, w_cond, w_block, seqK_n, atK_n, loopK_n, ckB_b, cbB_b, true_and, x_nil, x_mv, x_as, x_ld, x_st, x_bin, x_iads, x_len, kx, rvP_ok, okv_some, ev_t, ev_c, getV_some, putD_some, putD_none, bin_add, bin_sub, bin_lss, of1, getK_set, Nat.reduceEqDiff, ↓reduceIte, g1, g9, g21, g22, g23, d1, hp1, hp2, iE, hv2.len, fw64, hst1, hst2]
    refine ⟨j + 1, by omega, by omega, hG2.trans (Grow.put (by rw [← hid]; exact hG.nx) hst5 _), ⟨_, by simpa using hM, fun i hi hi2 hij => ?_, hst3⟩, by simp (disch := omega) only [getK_set, Nat.reduceEqDiff, ↓reduceIte, g1, g2, g9, g21, g22, and_self, Int.natCast_add, Int.natCast_one]⟩
    rw [List.getElem_set]
    by_cases e : j = i
    · subst e; simp
    · rw [if_neg e]; exact hMe i hi (by omega) (by omega)
  · have d1 : decide ((j : Int) < (L.length : Int)) = false := by simpa using hlt
    have hML : M = turnL E L := by
      unfold turnL
      apply List.ext_getElem (by simp; omega)
      intro i h1 h2
      rw [List.getElem_map]
      exact hMe i (by simpa using h2) h1 (by omega)
    rw [hML] at hS
    simp (disch := omega) only [f20_r6, f20_r10, f20_rs, w_reg, w_seq, w_cond, w_exit, w_ret, seqK_n, seqK_e, atK_e, loopK_e, ckB_b, cbB_b, true_and, retK_r, x_nil, x_mv, x_as, x_bin, kx, rvP_ok, okv_some, ev_t, ev_c, getV_some, putD_some, bin_lss, oGet_s, readRs_nil, readRs_t, retV_2, of0, Option.some.injEq, exists_eq_left', getK_set, Nat.reduceEqDiff, ↓reduceIte, Bool.false_eq_true, g9, g22, g23, d1]
    exact ⟨_, rfl, hS, fun _ _ _ _ e => by injection e with e1 _ _ _; rw [← e1]; exact hG.nx, hG2⟩
end
end Go.Ev
namespace Go.Ev
open Go Go.RowKit
section
variable {fs : T EF} {ro : Option K} {h : H} {v w : V} {n : Nat} {E : List (Int × Int)} {L : List Int} {x : Int}
end
end Go.Ev
namespace Go.Ev
open Go Go.RowKit
def prt1 (L : List Int) (c : Int) (e : Int × Int) : Bool := decide (L.getD e.1.toNat 0 ≤ c) != decide (L.getD e.2.toNat 0 ≤ c)
/-- Do the labels part by c? -/
def prtC (E : List (Int × Int)) (L : List Int) (c : Int) : Bool := E.all (prt1 L c)
/-- The least number by which they part. -/
def prtO (E : List (Int × Int)) (L : List Int) : Option Int := firstF (fun c => if prtC E L c = true then some c else none) 0 E.length
section
variable {fs : T EF} {ro : Option K} {h : H} {v w : V} {n : Nat} {E : List (Int × Int)} {L : List Int}
end
end Go.Ev
namespace Go.Ev
open Go Go.RowKit
noncomputable def f63_r0 : List EOper := [⟨(some (K.ofNat 4)), none, .as (.c (.i .i64 (.ofNat 0)))⟩, ⟨(some (K.ofNat 5)), none, .as (.c (.b false))⟩]
noncomputable def f63_r1 : List EOper := [⟨(some (K.ofNat 6)), none, .as (.c .sn)⟩, ⟨(some (K.ofNat 7)), none, .as (.c .sn)⟩]
noncomputable def f63_r2 : List EOper := [⟨(some (K.ofNat 16)), none, .mv (.t (K.ofNat 0))⟩, ⟨(some (K.ofNat 17)), none, .len (.t (K.ofNat 16))⟩, ⟨(some (K.ofNat 18)), none, .mv (.c (.i .i64 (.ofNat 0)))⟩]
noncomputable def f63_r3 : List EOper := [⟨(some (K.ofNat 19)), none, .bin .lss (.t (K.ofNat 18)) (.t (K.ofNat 17))⟩]
noncomputable def f63_r4 : List EOper := [⟨(some (K.ofNat 20)), none, .iads 2 (.t (K.ofNat 16)) (.t (K.ofNat 18))⟩, ⟨(some (K.ofNat 21)), none, .ldn 2 (.t (K.ofNat 20))⟩, ⟨(some (K.ofNat 9)), none, .alloc 2 [(.i .i64 (.ofNat 0)), (.i .i64 (.ofNat 0))]⟩, ⟨none, none, .st 2 (.t (K.ofNat 9)) (.t (K.ofNat 21))⟩]
noncomputable def f63_r5 : List Stage := [⟨[⟨(some (K.ofNat 23)), none, .mv (.t (K.ofNat 1))⟩, ⟨(some (K.ofNat 24)), none, .iadr 2 1 (.t (K.ofNat 9)) (.c (.i .i64 (.ofNat 0)))⟩, ⟨(some (K.ofNat 25)), none, .ld (.t (K.ofNat 24))⟩, ⟨(some (K.ofNat 26)), none, .iads 1 (.t (K.ofNat 23)) (.t (K.ofNat 25))⟩, ⟨(some (K.ofNat 27)), none, .ld (.t (K.ofNat 26))⟩, ⟨(some (K.ofNat 28)), none, .mv (.t (K.ofNat 1))⟩, ⟨(some (K.ofNat 29)), none, .iadr 2 1 (.t (K.ofNat 9)) (.c (.i .i64 (.ofNat 1)))⟩, ⟨(some (K.ofNat 30)), none, .ld (.t (K.ofNat 29))⟩, ⟨(some (K.ofNat 31)), none, .iads 1 (.t (K.ofNat 28)) (.t (K.ofNat 30))⟩, ⟨(some (K.ofNat 32)), none, .ld (.t (K.ofNat 31))⟩, ⟨(some (K.ofNat 33)), none, .bslice 1 1 [(.i .i64 (.ofNat 0))] [(0, 1, (.t (K.ofNat 32)))]⟩], [], (some ⟨(some (K.ofNat 34)), none, .call (.c (.fn (K.ofNat 102) [])) [(.t (K.ofNat 27)), (.t (K.ofNat 33))]⟩), [(K.ofNat 33)]⟩, ⟨[⟨(some (K.ofNat 22)), none, .mv (.t (K.ofNat 34))⟩, ⟨(some (K.ofNat 35)), none, .ext (.t (K.ofNat 22)) 0⟩, ⟨(some (K.ofNat 36)), none, .ext (.t (K.ofNat 22)) 1⟩], [], (some ⟨(some (K.ofNat 10)), none, .as (.t (K.ofNat 35))⟩), []⟩, ⟨[], [⟨(some (K.ofNat 36)), none, .ext (.t (K.ofNat 22)) 1⟩], (some ⟨(some (K.ofNat 11)), none, .as (.t (K.ofNat 36))⟩), []⟩, ⟨[], [], none, []⟩]
noncomputable def f63_r6 : List EOper := [⟨(some (K.ofNat 37)), none, .mv (.t (K.ofNat 6))⟩, ⟨(some (K.ofNat 38)), none, .mv (.t (K.ofNat 10))⟩, ⟨(some (K.ofNat 39)), none, .bslice 1 1 [(.i .i64 (.ofNat 0))] [(0, 1, (.t (K.ofNat 38)))]⟩, ⟨(some (K.ofNat 40)), none, .app 1 (.t (K.ofNat 37)) (.t (K.ofNat 39))⟩, ⟨(some (K.ofNat 6)), none, .as (.t (K.ofNat 40))⟩]
noncomputable def f63_r7 : List EOper := [⟨(some (K.ofNat 41)), none, .mv (.t (K.ofNat 7))⟩, ⟨(some (K.ofNat 42)), none, .mv (.t (K.ofNat 11))⟩, ⟨(some (K.ofNat 43)), none, .bslice 1 1 [(.i .i64 (.ofNat 0))] [(0, 1, (.t (K.ofNat 42)))]⟩, ⟨(some (K.ofNat 44)), none, .app 1 (.t (K.ofNat 41)) (.t (K.ofNat 43))⟩, ⟨(some (K.ofNat 7)), none, .as (.t (K.ofNat 44))⟩]
noncomputable def f63_r8 : List EOper := [⟨(some (K.ofNat 45)), none, .bin .add (.t (K.ofNat 18)) (.c (.i .i64 (.ofNat 1)))⟩, ⟨(some (K.ofNat 18)), none, .mv (.t (K.ofNat 45))⟩]
noncomputable def f63_l0 : EC := (.seq (.reg f63_r3) (.seq (.cond (.t (K.ofNat 19)) .skip (.exit 0)) (.seq (.block 1 (.seq (.reg f63_r4) (.seq (.draw f63_r5) (.seq (.reg f63_r6) (.reg f63_r7))))) (.reg f63_r8))))
noncomputable def f63_r9 : List Stage := [⟨[⟨(some (K.ofNat 47)), none, .mv (.t (K.ofNat 6))⟩, ⟨(some (K.ofNat 48)), none, .iads 1 (.t (K.ofNat 47)) (.c (.i .i64 (.ofNat 0)))⟩, ⟨(some (K.ofNat 49)), none, .ld (.t (K.ofNat 48))⟩, ⟨(some (K.ofNat 50)), none, .mv (.t (K.ofNat 6))⟩, ⟨(some (K.ofNat 51)), none, .slice 1 (.t (K.ofNat 50)) (some (.c (.i .i64 (.ofNat 1)))) none none⟩], [], (some ⟨(some (K.ofNat 52)), none, .call (.c (.fn (K.ofNat 102) [])) [(.t (K.ofNat 49)), (.t (K.ofNat 51))]⟩), []⟩, ⟨[⟨(some (K.ofNat 46)), none, .mv (.t (K.ofNat 52))⟩, ⟨(some (K.ofNat 53)), none, .ext (.t (K.ofNat 46)) 0⟩, ⟨(some (K.ofNat 54)), none, .ext (.t (K.ofNat 46)) 1⟩], [], (some ⟨(some (K.ofNat 12)), none, .as (.t (K.ofNat 53))⟩), []⟩, ⟨[], [⟨(some (K.ofNat 54)), none, .ext (.t (K.ofNat 46)) 1⟩], (some ⟨(some (K.ofNat 13)), none, .as (.t (K.ofNat 54))⟩), []⟩, ⟨[], [], none, []⟩]
noncomputable def f63_r10 : List Stage := [⟨[⟨(some (K.ofNat 56)), none, .mv (.t (K.ofNat 7))⟩, ⟨(some (K.ofNat 57)), none, .iads 1 (.t (K.ofNat 56)) (.c (.i .i64 (.ofNat 0)))⟩, ⟨(some (K.ofNat 58)), none, .ld (.t (K.ofNat 57))⟩, ⟨(some (K.ofNat 59)), none, .mv (.t (K.ofNat 7))⟩, ⟨(some (K.ofNat 60)), none, .slice 1 (.t (K.ofNat 59)) (some (.c (.i .i64 (.ofNat 1)))) none none⟩], [], (some ⟨(some (K.ofNat 61)), none, .call (.c (.fn (K.ofNat 102) [])) [(.t (K.ofNat 58)), (.t (K.ofNat 60))]⟩), []⟩, ⟨[⟨(some (K.ofNat 55)), none, .mv (.t (K.ofNat 61))⟩, ⟨(some (K.ofNat 62)), none, .ext (.t (K.ofNat 55)) 0⟩, ⟨(some (K.ofNat 63)), none, .ext (.t (K.ofNat 55)) 1⟩], [], (some ⟨(some (K.ofNat 14)), none, .as (.t (K.ofNat 62))⟩), []⟩, ⟨[], [⟨(some (K.ofNat 63)), none, .ext (.t (K.ofNat 55)) 1⟩], (some ⟨(some (K.ofNat 15)), none, .as (.t (K.ofNat 63))⟩), []⟩, ⟨[], [], none, []⟩]
noncomputable def f63_r11 : List EOper := [⟨(some (K.ofNat 64)), none, .mv (.t (K.ofNat 14))⟩, ⟨(some (K.ofNat 65)), none, .mv (.t (K.ofNat 13))⟩, ⟨(some (K.ofNat 66)), none, .bin .leq (.t (K.ofNat 64)) (.t (K.ofNat 65))⟩]
noncomputable def f63_r12 : List EOper := [⟨(some (K.ofNat 4)), none, .as (.c (.i .i64 (.ofNat 0)))⟩, ⟨(some (K.ofNat 5)), none, .as (.c (.b false))⟩]
noncomputable def f63_r13 : List EOper := [⟨(some (K.ofNat 67)), none, .mv (.t (K.ofNat 13))⟩, ⟨(some (K.ofNat 4)), none, .as (.t (K.ofNat 67))⟩, ⟨(some (K.ofNat 5)), none, .as (.c (.b true))⟩]
noncomputable def f63_c : EC := (.seq (.reg f63_r0) (.seq (.reg f63_r1) (.seq (.seq (.reg f63_r2) (.block 0 (.loop f63_l0))) (.seq (.draw f63_r9) (.seq (.draw f63_r10) (.seq (.seq (.reg f63_r11) (.cond (.t (K.ofNat 66)) (.seq (.reg f63_r12) .ret) .skip)) (.seq (.reg f63_r13) .ret)))))))
noncomputable def f63 : EF := ⟨68, [.tmp (K.ofNat 4), .tmp (K.ofNat 5)], f63_c, none⟩
theorem f63_rs : f63.rs = [.tmp (K.ofNat 4), .tmp (K.ofNat 5)] := of_eq_true (eq_self _)
noncomputable def f19_r0 : List EOper := [⟨(some (K.ofNat 6)), none, .as (.c (.i .i64 (.ofNat 0)))⟩, ⟨(some (K.ofNat 7)), none, .as (.c (.b false))⟩, ⟨(some (K.ofNat 8)), none, .as (.c (.i .i64 (.ofNat 0)))⟩]
noncomputable def f19_r1 : List EOper := [⟨(some (K.ofNat 12)), none, .mv (.t (K.ofNat 0))⟩, ⟨(some (K.ofNat 13)), none, .mv (.t (K.ofNat 1))⟩, ⟨(some (K.ofNat 14)), none, .call (.c (.fn (K.ofNat 17) [])) [(.t (K.ofNat 12)), (.t (K.ofNat 13))]⟩, ⟨(some (K.ofNat 9)), none, .as (.t (K.ofNat 14))⟩]
noncomputable def f19_r2 : List EOper := [⟨(some (K.ofNat 15)), none, .mv (.t (K.ofNat 9))⟩, ⟨(some (K.ofNat 16)), none, .bin .neq (.t (K.ofNat 15)) (.c (.i .i64 (.ofNat 0)))⟩]
noncomputable def f19_r3 : List EOper := [⟨(some (K.ofNat 17)), none, .mv (.t (K.ofNat 9))⟩, ⟨(some (K.ofNat 6)), none, .as (.c (.i .i64 (.ofNat 0)))⟩, ⟨(some (K.ofNat 7)), none, .as (.c (.b false))⟩, ⟨(some (K.ofNat 8)), none, .as (.t (K.ofNat 17))⟩]
noncomputable def f19_r4 : List EOper := [⟨(some (K.ofNat 18)), none, .mv (.t (K.ofNat 0))⟩, ⟨(some (K.ofNat 19)), none, .mv (.t (K.ofNat 1))⟩, ⟨(some (K.ofNat 20)), none, .mv (.t (K.ofNat 2))⟩, ⟨(some (K.ofNat 21)), none, .call (.c (.fn (K.ofNat 62) [])) [(.t (K.ofNat 18)), (.t (K.ofNat 19)), (.t (K.ofNat 20))]⟩, ⟨(some (K.ofNat 22)), none, .not (.t (K.ofNat 21))⟩]
noncomputable def f19_r5 : List EOper := [⟨(some (K.ofNat 6)), none, .as (.c (.i .i64 (.ofNat 0)))⟩, ⟨(some (K.ofNat 7)), none, .as (.c (.b false))⟩, ⟨(some (K.ofNat 8)), none, .as (.c (.i .i64 (.ofNat 0)))⟩]
noncomputable def f19_r6 : List EOper := [⟨(some (K.ofNat 24)), none, .mv (.t (K.ofNat 1))⟩, ⟨(some (K.ofNat 25)), none, .mv (.t (K.ofNat 2))⟩, ⟨(some (K.ofNat 26)), none, .call (.c (.fn (K.ofNat 63) [])) [(.t (K.ofNat 24)), (.t (K.ofNat 25))]⟩, ⟨(some (K.ofNat 23)), none, .mv (.t (K.ofNat 26))⟩, ⟨(some (K.ofNat 27)), none, .ext (.t (K.ofNat 23)) 0⟩, ⟨(some (K.ofNat 28)), none, .ext (.t (K.ofNat 23)) 1⟩, ⟨(some (K.ofNat 10)), none, .as (.t (K.ofNat 27))⟩, ⟨(some (K.ofNat 11)), none, .as (.t (K.ofNat 28))⟩]
noncomputable def f19_r7 : List EOper := [⟨(some (K.ofNat 29)), none, .mv (.t (K.ofNat 10))⟩, ⟨(some (K.ofNat 30)), none, .mv (.t (K.ofNat 11))⟩, ⟨(some (K.ofNat 6)), none, .as (.t (K.ofNat 29))⟩, ⟨(some (K.ofNat 7)), none, .as (.t (K.ofNat 30))⟩, ⟨(some (K.ofNat 8)), none, .as (.c (.i .i64 (.ofNat 0)))⟩]
noncomputable def f19_c : EC := (.seq (.reg f19_r0) (.seq (.seq (.reg f19_r1) (.seq (.reg f19_r2) (.cond (.t (K.ofNat 16)) (.seq (.reg f19_r3) .ret) .skip))) (.seq (.seq (.reg f19_r4) (.cond (.t (K.ofNat 22)) (.seq (.reg f19_r5) .ret) .skip)) (.seq (.reg f19_r6) (.seq (.reg f19_r7) .ret)))))
noncomputable def f19 : EF := ⟨31, [.tmp (K.ofNat 6), .tmp (K.ofNat 7), .tmp (K.ofNat 8)], f19_c, none⟩
theorem f19_rs : f19.rs = [.tmp (K.ofNat 6), .tmp (K.ofNat 7), .tmp (K.ofNat 8)] := of_eq_true (eq_self _)
def loE (L : List Int) (e : Int × Int) : Int := min (L.getD e.1.toNat 0) (L.getD e.2.toNat 0)
def hiE (L : List Int) (e : Int × Int) : Int := max (L.getD e.1.toNat 0) (L.getD e.2.toNat 0)
theorem maxL_le {x : Int} : ∀ {L : List Int} {a : Int}, maxL a L ≤ x ↔ a ≤ x ∧ ∀ y ∈ L, y ≤ x
  | [], a => by simp [maxL]
  | b :: L, a => by
    show maxL (max a b) L ≤ x ↔ _
    rw [maxL_le]
    simp only [List.mem_cons, forall_eq_or_imp]
    constructor
    · rintro ⟨h1, h2⟩; exact ⟨by omega, by omega, h2⟩
    · rintro ⟨h1, h2, h3⟩; exact ⟨by omega, h3⟩
theorem lt_minL {x : Int} : ∀ {L : List Int} {a : Int}, x < minL a L ↔ x < a ∧ ∀ y ∈ L, x < y
  | [], a => by simp [minL]
  | b :: L, a => by
    show x < minL (min a b) L ↔ _
    rw [lt_minL]
    simp only [List.mem_cons, forall_eq_or_imp]
    constructor
    · rintro ⟨h1, h2⟩; exact ⟨by omega, by omega, h2⟩
    · rintro ⟨h1, h2, h3⟩; exact ⟨by omega, h3⟩
theorem firstF_first {α : Type} {g : Int → Option α} {c : Int} {r : α} (hg : g c = some r) : ∀ {n : Nat} {a : Int}, a ≤ c → c < a + n → (∀ x, a ≤ x → x < c → g x = none) → firstF g a n = some r
  | 0, a, h1, h2, _ => by omega
  | n + 1, a, h1, h2, h3 => by
    rw [firstF_succ]
    by_cases e : a = c
    · rw [e, hg]
    · rw [h3 a (by omega) (by omega)]
      exact firstF_first hg (by omega) (by omega) fun x h4 h5 => h3 x (by omega) h5
theorem firstF_no {α : Type} {g : Int → Option α} : ∀ {n : Nat} {a : Int}, (∀ x, g x = none) → firstF g a n = none
  | 0, _, _ => rfl
  | n + 1, a, h => by rw [firstF_succ, h]; exact firstF_no h
def cE (E : List (Int × Int)) (L : List Int) : Int := maxL ((E.map (loE L)).headD 0) (E.map (loE L)).tail
def aE (E : List (Int × Int)) (L : List Int) : Int := minL ((E.map (hiE L)).headD 0) (E.map (hiE L)).tail
theorem prtC_iff {E : List (Int × Int)} {L : List Int} {x : Int} (hE : E ≠ []) : prtC E L x = true ↔ cE E L ≤ x ∧ x < aE E L := by
  have h1 : ∀ e, prt1 L x e = true ↔ loE L e ≤ x ∧ x < hiE L e := fun e => by
    unfold prt1 loE hiE
    generalize L.getD e.1.toNat 0 = p
    generalize L.getD e.2.toNat 0 = q
    by_cases hp : p ≤ x <;> by_cases hq : q ≤ x <;> simp [hp, hq] <;> omega
  unfold prtC cE aE
  rw [List.all_eq_true, maxL_le, lt_minL]
  cases E with
  | nil => exact absurd rfl hE
  | cons e E =>
    simp only [List.map_cons, List.headD_cons, List.tail_cons, List.mem_map, List.mem_cons, forall_eq_or_imp, forall_exists_index, and_imp, forall_apply_eq_imp_iff₂, h1]
    constructor
    · rintro ⟨⟨a1, a2⟩, a3⟩; exact ⟨⟨a1, fun y hy => (a3 y hy).1⟩, a2, fun y hy => (a3 y hy).2⟩
    · rintro ⟨⟨a1, a2⟩, a3, a4⟩; exact ⟨⟨a1, a3⟩, fun y hy => ⟨a2 y hy, a4 y hy⟩⟩
theorem prt_eq {E : List (Int × Int)} {L : List Int} (hE : E ≠ []) (h0 : 0 ≤ cE E L) (hm : aE E L ≤ E.length) : prtO E L = if aE E L ≤ cE E L then none else some (cE E L) := by
  unfold prtO
  split
  · rename_i h
    refine firstF_no fun x => ?_
    rw [if_neg]
    rw [prtC_iff hE]
    omega
  · rename_i h
    refine firstF_first (c := cE E L) (by rw [if_pos ((prtC_iff hE).2 ⟨Int.le_refl _, by omega⟩)]) h0 (by omega) fun x h1 h2 => ?_
    rw [if_neg]
    rw [prtC_iff hE]
    omega
theorem stay_ext {fs : T EF} {fr : Fr} {h : H} {x : EO} {k : K} {i : Nat} : (stays fs goNo fr h ⟨some k, none, .ext x i⟩ = true) = again ((ev fr x).onTup fun l => okv (nth l i) h) (getV (fr.get k)) := chk_again
structure CallsPt (fs : T EF) : Prop where
  c63 : fs.get (K.ofNat 63) = some f63
  c102 : fs.get (K.ofNat 102) = some f102
section
variable {fs : T EF} {ro : Option K} {h : H} {v w : V} {n : Nat} {E : List (Int × Int)} {L : List Int}
def f63_I (h : H) (v w : V) (E : List (Int × Int)) (L : List Int) (j : Nat) (fr : Fr) (h1 : H) : Prop := j ≤ E.length ∧ Grow h.nx.nat h h1 ∧ ∃ u1 u2, Sl iE h1 u1 ((E.take j).map (loE L)) ∧ Own h.nx.nat u1 ∧ Sl iE h1 u2 ((E.take j).map (hiE L)) ∧ Own h.nx.nat u2 ∧ (∀ id off n sz, u2 = .sl id off n sz → NotIn id u1) ∧ fr.get (K.ofNat 1) = some (w) ∧ fr.get (K.ofNat 6) = some (u1) ∧ fr.get (K.ofNat 7) = some (u2) ∧ fr.get (K.ofNat 16) = some (v) ∧ fr.get (K.ofNat 17) = some (.i .i64 (E.length : Int)) ∧ fr.get (K.ofNat 18) = some (.i .i64 (j : Int))
theorem f63_ret (k : CallsPt fs) (hv : Srp h v E) (hw : Sr iE h w L) (hc : HC h) (hE : EdgesOk n E) (hne : E ≠ []) (hlin : LabOk E L) (hn : L.length = n) : Ret fs f63 [v, w] h fun r h' => r = .tup [.i .i64 ((prtO E L).getD 0), .b (prtO E L).isSome] ∧ Grow h.nx.nat h h' := by
  have hE0 := hE
  obtain ⟨hE10, _, hE3⟩ := hE
  apply ret_of rfl
  show W fs none f63_c _ _ _
  unfold f63_c
  simp (disch := omega) only [f63_r0, f63_r1, f63_r2, w_reg, w_seq, w_block, seqK_n, x_nil, x_mv, x_as, x_len, kx, rvP_ok, ev_t, ev_c, getV_some, putD_some, frame_2, of0, getK_set, Nat.reduceEqDiff, ↓reduceIte, hv.len]
  refine W_loop (f63_I h v w E L) (fun j => E.length - j) ?_ 0 ⟨by omega, Grow.refl _ _, .sn, .sn, Sl.nil, Own.sn, Sl.nil, Own.sn, (fun _ _ _ _ e => by cases e), by simp (disch := omega) only [getK_set, Nat.reduceEqDiff, ↓reduceIte, and_self, Int.natCast_zero]⟩
  rintro j fr h1 ⟨hj, hG, u1, u2, hs1, ho1, hs2, ho2, hap, g1, g6, g7, g16, g17, g18⟩
  have hc1 := hG.hc hc
  have hv1 := hv.grow hc hG
  unfold f63_l0
  by_cases hlt : j < E.length
  · have d0 : decide ((j : Int) < (E.length : Int)) = true := by simpa using hlt
    obtain ⟨ide, q, hp1, hp2, _, _⟩ := hv1.at2 hlt
    obtain ⟨a, b, d, ha, hb, ea, eb, hab, ed, ead, hdE, la, lb⟩ := dfE_in hE0 hlin hn hlt
    have elo : loE L E[j] = min L[a] L[b] := by unfold loE; rw [ea, eb]; simp [List.getD_eq_getElem?_getD, ha, hb]
    have ehi : hiE L E[j] = max L[a] L[b] := by unfold hiE; rw [ea, eb]; simp [List.getD_eq_getElem?_getD, ha, hb]
    have hst2 : storeV (h1.new (.cells 2 zz)) 2 (.p h1.nx 0) (.agg [.i .i64 E[j].1, .i .i64 E[j].2]) = .ok undefV ((h1.new (.cells 2 zz)).put h1.nx (.cells 2 [.i .i64 E[j].1, .i .i64 E[j].2])) := st2 (a := .i .i64 (.ofNat 0)) (b := .i .i64 (.ofNat 0)) get_new_same
    have nx1 := nx_new h1 (.cells 2 zz)
    have gA : Grow h1.nx.nat h1 ((h1.new (.cells 2 zz)).put h1.nx (.cells 2 [.i .i64 E[j].1, .i .i64 E[j].2])) := (Grow.new (Nat.le_refl _) _).trans (Grow.put (Nat.le_refl _) (by omega) _)
    have c12 : ((h1.new (.cells 2 zz)).put h1.nx (.cells 2 [.i .i64 E[j].1, .i .i64 E[j].2])).get h1.nx = .cells 2 [.i .i64 E[j].1, .i .i64 E[j].2] := get_put_same
    have hzz : ([.i .i64 0, .i .i64 0] : List V) = zz := rfl
    generalize hh2 : (h1.new (.cells 2 zz)).put h1.nx (.cells 2 [.i .i64 E[j].1, .i .i64 E[j].2]) = h3 at *
    have hG3 := hG.trans (gA.low hG.nx)
    have hc3 := hG3.hc hc
    have hw3 := hw.grow hc hG3
    have l0 : loadV h3 (.p h1.nx (0 + 0 * 1)) one? = .ok (.i .i64 E[j].1) h3 := load_p c12 rfl
    have l1 : loadV h3 (.p h1.nx (0 + 1 * 1)) one? = .ok (.i .i64 E[j].2) h3 := load_p c12 rfl
    obtain ⟨s, hx1, hx2, hx3⟩ := hw3.atb a ha
    obtain ⟨t, ht1, ht2, ht3⟩ := hw3.atb b hb
    have hwb := hw.beq
    rw [ea] at l0
    rw [eb] at l1
    rw [ea, eb] at hst2 hp2
    have hlit := Sl.lit (e := iE) (x := L[b]) (h := h3)
    have gl := Grow.new (Nat.le_refl h3.nx.nat) (.cells (1 * 1) [iE L[b]])
    simp (disch := omega) only [f63_r3, f63_r4, f63_r5, w_skip, w_reg, w_draw, w_seq, w_cond, w_block, seqK_n, ckB_b, cbB_b, true_and, x_nil, x_alloc, x_ldn, x_st, x_bin, x_iads, x_call, kx, kg, xg_nil, xg_mv, xg_ld, xg_iadr, xg_iads, xg_bslice, xd_cons, stK_s, stay_nil, rvP_ok, okv_some, ev_t, ev_c, evs_nil, evs_cons, getV_some, putD_some, putD_none, bin_lss, onP_p, oGet_s, cells1_i, fill_1, set_1, of0, of1, Option.some.injEq, exists_eq_left', getK_set, Nat.reduceEqDiff, ↓reduceIte, ix2_0, ix2_1, g1, g16, g17, g18, d0, hp1, hp2, hzz, hst2, l0, l1, hx1, hx2, ht1, ht2, iE, hc3.dead, fill_1, set_1]
    refine ⟨fresh_one (n := 1) (sz := 1) (by simp (disch := omega) only [getK_set, ↓reduceIte]), ?_⟩
    refine (callP_0 (ef := f102) k.c102 rfl (f102_ret (a := L[a]) hlit.sr (by simp))).mono ?_
    rintro r h4 ⟨rfl, rfl⟩
    have gAl := gA.trans (gl.low gA.nx)
    have hGl := hG.trans (gAl.low hG.nx)
    have hcl := hGl.hc hc
    have hs1' := hs1.grow hc1 gAl
    have hs2' := hs2.grow hc1 gAl
    have em : minL L[a] [L[b]] = loE L E[j] := by rw [elo]; rfl
    have eM : maxL L[a] [L[b]] = hiE L E[j] := by rw [ehi]; rfl
    rw [em, eM]
    generalize h3.new (.cells (1 * 1) [iE L[b]]) = h5 at *
    obtain ⟨w1, h6, a1, p1, o1, gr1, kp1⟩ := Sl.push (e := iE) (x := loE L E[j]) (c := .i .i64 (loE L E[j])) rfl hs1' ho1 hGl.nx hcl (by simp; omega)
    have hG6 := hGl.trans gr1
    have hc6 := gr1.hc hcl
    have hs2'' : Sl iE h6 u2 ((E.take j).map (hiE L)) := hs2'.same fun id off n sz e => (kp1 id (hs2'.lt hcl _ _ _ _ e) (hap _ _ _ _ e)).1
    obtain ⟨w2, h7, a2, p2, o2, gr2, kp2⟩ := Sl.push (e := iE) (x := hiE L E[j]) (c := .i .i64 (hiE L E[j])) rfl hs2'' ho2 hG6.nx hc6 (by simp; omega)
    have hG7 := hG6.trans gr2
    -- the two slices stay apart
    have hap1 : ∀ id off n sz, w1 = .sl id off n sz → NotIn id u2 := fun id off n sz e off' n' sz' e' => (kp1 id (hs2'.lt hcl _ _ _ _ e') (hap _ _ _ _ e')).2 _ _ _ e
    have p1' : Sl iE h7 w1 ((E.take j).map (loE L) ++ [loE L E[j]]) := p1.same fun id off n sz e => (kp2 id (p1.lt hc6 _ _ _ _ e) (hap1 _ _ _ _ e)).1
    have hap2 : ∀ id off n sz, w2 = .sl id off n sz → NotIn id w1 := fun id off n sz e off' n' sz' e' => (kp2 id (p1.lt hc6 _ _ _ _ e') (hap1 _ _ _ _ e')).2 _ _ _ e
    simp (disch := omega) only [f63_r6, f63_r7, f63_r8, w_reg, w_seq, seqK_n, atK_n, loopK_n, true_and, x_nil, x_mv, x_as, x_bslice, x_bin, x_app, kx, kg, xg_nil, xg_mv, xg_ext, xd_cons, fresh_nil, stK_n, stK_s, stay_nil, stay_cons, again_ok, beq_i, rvP_ok, okv_some, ev_t, ev_c, getV_some, putD_some, bin_add, onTup_t, oGet_s, nth0, nth1, cells1_i, fill_1, set_1, of0, of1, getK_set, Nat.reduceEqDiff, ↓reduceIte, g6, g7, g18, fill_1, set_1, a1, a2, fw64, stay_ext, again_ok, beq_i]
    have e1 : (E.take j).map (loE L) ++ [loE L E[j]] = (E.take (j + 1)).map (loE L) := by rw [List.take_succ_eq_append_getElem hlt, List.map_append]; rfl
    have e2 : (E.take j).map (hiE L) ++ [hiE L E[j]] = (E.take (j + 1)).map (hiE L) := by rw [List.take_succ_eq_append_getElem hlt, List.map_append]; rfl
    rw [e1] at p1'
    rw [e2] at p2
    exact ⟨j + 1, by omega, by omega, hG7, w1, w2, p1', o1, p2, o2, hap2, by simp (disch := omega) only [getK_set, Nat.reduceEqDiff, ↓reduceIte, g1, g16, g17, and_self, Int.natCast_add, Int.natCast_one]⟩
  · have d0 : decide ((j : Int) < (E.length : Int)) = false := by simpa using hlt
    have ej : j = E.length := by omega
    rw [ej, List.take_length] at hs1 hs2
    have hpos := List.length_pos_iff.2 hne
    have hl1 : 0 < (E.map (loE L)).length := by simpa using hpos
    have hl2 : 0 < (E.map (hiE L)).length := by simpa using hpos
    have lim : ∀ {M : List Int} (hp : 0 < M.length), M[0] = M.headD 0 := fun {M} hp => by cases M with
      | nil => simp at hp
      | cons x l => rfl
    obtain ⟨p, hp1, hp2, hp3⟩ := hs1.atb 0 hl1
    obtain ⟨q, hq1, hq2, hq3⟩ := hs2.atb 0 hl2
    rw [lim hl1] at hp2
    rw [lim hl2] at hq2
    simp only [Int.natCast_zero] at hp1 hq1
    obtain ⟨v1, c1, d1, _⟩ := hs1.sr.cut (lo := some (.i .i64 1)) (hi := none) (l := 1) (u := (E.map (loE L)).length) rfl rfl (by omega) (by omega)
    obtain ⟨v2, c2, d2, _⟩ := hs2.sr.cut (lo := some (.i .i64 1)) (hi := none) (l := 1) (u := (E.map (hiE L)).length) rfl rfl (by omega) (by omega)
    rw [List.take_length, List.drop_one] at d1 d2
    have hb1 := hs1.beq
    have hb2 := hs2.beq
    have hv1b := d1.beq
    have hv2b := d2.beq
    simp (disch := omega) only [f63_r3, f63_r9, w_reg, w_draw, w_seq, w_cond, w_exit, seqK_n, seqK_e, atK_e, loopK_e, ckB_b, cbB_b, true_and, x_nil, x_bin, sliceV_eq, Option.map_none, Option.map_some, x_call, kx, kg, xg_nil, xg_mv, xg_ld, xg_slice, xg_iads, xd_cons, fresh_nil, stK_s, stay_nil, rvP_ok, okv_some, ev_t, ev_c, evs_nil, evs_cons, getV_some, putD_some, bin_lss, of0, of1, getK_set, Nat.reduceEqDiff, ↓reduceIte, Bool.false_eq_true, g6, g17, g18, d0, hp1, hp2, sliceV_eq, Option.map_none, Option.map_some, c1, iE]
    refine (callP_0 (ef := f102) k.c102 rfl (f102_ret d1 (by rw [List.length_tail, List.length_map]; omega))).mono ?_
    rintro r h4 ⟨rfl, rfl⟩
    simp (disch := omega) only [f63_r10, w_draw, w_seq, seqK_n, true_and, x_nil, x_as, sliceV_eq, Option.map_none, Option.map_some, x_call, kx, kg, xg_nil, xg_mv, xg_ld, xg_slice, xg_iads, xg_ext, xd_cons, fresh_nil, stK_n, stK_s, stay_nil, stay_cons, again_ok, beq_i, rvP_ok, okv_some, ev_t, ev_c, evs_nil, evs_cons, getV_some, putD_some, onTup_t, nth0, nth1, of0, of1, getK_set, Nat.reduceEqDiff, ↓reduceIte, g7, stay_ext, again_ok, beq_i, hq1, hq2, sliceV_eq, Option.map_none, Option.map_some, c2, iE]
    refine (callP_0 (ef := f102) k.c102 rfl (f102_ret d2 (by rw [List.length_tail, List.length_map]; omega))).mono ?_
    rintro r h5 ⟨rfl, rfl⟩
    obtain ⟨a, b, d, ha, hb, ea, eb, hab, _, _, _, la, lb⟩ := dfE_in hE0 hlin hn hpos
    have e1 : (E.map (loE L)).headD 0 = min L[a] L[b] := by
      rw [← lim hl1, List.getElem_map]; unfold loE; rw [ea, eb]; simp [List.getD_eq_getElem?_getD, ha, hb]
    have e2 : (E.map (hiE L)).headD 0 = max L[a] L[b] := by
      rw [← lim hl2, List.getElem_map]; unfold hiE; rw [ea, eb]; simp [List.getD_eq_getElem?_getD, ha, hb]
    have hla := hlin _ (List.getElem_mem ha)
    have hlb := hlin _ (List.getElem_mem hb)
    have hc0 : 0 ≤ cE E L := by
      have h9 := (maxL_le.1 (Int.le_refl (cE E L))).1
      omega
    have ham : aE E L ≤ (E.length : Int) := by
      have h9 : ¬ (E.map (hiE L)).headD 0 < aE E L := fun h9 => by have := (lt_minL.1 h9).1; omega
      omega
    have hpe := prt_eq hne hc0 ham
    show Go.Ev.kX fs [] _ _ _ _ _
    have eC : maxL ((E.map (loE L)).headD 0) (E.map (loE L)).tail = cE E L := rfl
    have eA : minL ((E.map (hiE L)).headD 0) (E.map (hiE L)).tail = aE E L := rfl
    rw [hpe]
    cases dd : decide (aE E L ≤ cE E L) with
    | true =>
      rw [if_pos (of_decide_eq_true dd)]
      simp (disch := omega) only [f63_r11, f63_r12, f63_rs, w_reg, w_seq, w_cond, w_ret, seqK_n, seqK_r, ckB_b, cbB_b, true_and, retK_r, x_nil, x_mv, x_as, x_bin, kx, kg, xg_nil, xg_mv, xg_ext, xd_cons, fresh_nil, stK_n, stK_s, stay_nil, stay_cons, again_ok, beq_i, rvP_ok, okv_some, ev_t, ev_c, getV_some, putD_some, bin_leq, onTup_t, oGet_s, nth0, nth1, readRs_nil, readRs_t, retV_2, of0, Option.some.injEq, exists_eq_left', getK_set, Nat.reduceEqDiff, ↓reduceIte, stay_ext, again_ok, beq_i, eC, eA, dd, Option.getD_none, Option.isSome_none, true_and]
      exact hG
    | false =>
      rw [if_neg (of_decide_eq_false dd)]
      simp (disch := omega) only [f63_r11, f63_r13, f63_rs, w_skip, w_reg, w_seq, w_cond, w_ret, seqK_n, ckB_b, cbB_b, true_and, retK_r, x_nil, x_mv, x_as, x_bin, kx, kg, xg_nil, xg_mv, xg_ext, xd_cons, fresh_nil, stK_n, stK_s, stay_nil, stay_cons, again_ok, beq_i, rvP_ok, okv_some, ev_t, ev_c, getV_some, putD_some, bin_leq, onTup_t, oGet_s, nth0, nth1, readRs_nil, readRs_t, retV_2, Option.some.injEq, exists_eq_left', getK_set, Nat.reduceEqDiff, ↓reduceIte, Bool.false_eq_true, stay_ext, again_ok, beq_i, eC, eA, dd, Option.getD_some, Option.isSome_some, true_and]
      exact hG
theorem chkI_ne {x : Int} (hn : chkI x E = 0) : E ≠ [] := by
  rintro rfl
  unfold chkI at hn
  split at hn
  · cases hn
  · simp at hn
structure CallsPs (fs : T EF) : Prop extends CallsIg fs where
  c63 : fs.get (K.ofNat 63) = some f63
theorem f19_err {n : Int} (k : CallsC fs) (hv : Srp h v E) (hc : HC h) (hE : E.length ≤ 1000000) (hn : chkI n E ≠ 0) : Ret fs f19 [.i .i64 n, v, w] h fun r h' => r = .tup [.i .i64 0, .b false, .i .i64 (chkI n E)] ∧ Grow h.nx.nat h h' := by
  apply ret_of rfl
  show W fs none f19_c _ _ _
  unfold f19_c
  simp (disch := omega) only [f19_r0, f19_r1, w_reg, w_seq, seqK_n, x_nil, x_mv, x_as, x_call, ev_t, ev_c, evs_nil, evs_cons, getV_some, putD_some, frame_3, of0, getK_set, Nat.reduceEqDiff, ↓reduceIte]
  refine (callP_0 (ef := f17) k.c17 rfl (f17_ret (n := n) k hv hc hE)).mono ?_
  rintro r h1 ⟨rfl, hG⟩
  have d : decide (chkI n E ≠ 0) = true := by simpa using hn
  simp (disch := omega) only [f19_r2, f19_r3, f19_rs, w_reg, w_seq, w_cond, w_ret, seqK_n, seqK_r, ckB_b, cbB_b, true_and, retK_r, x_nil, x_mv, x_as, x_bin, kx, rvP_ok, okv_some, ev_t, ev_c, getV_some, putD_some, bin_neq, oGet_s, readRs_nil, readRs_t, retV_2, of0, Option.some.injEq, exists_eq_left', getK_set, Nat.reduceEqDiff, ↓reduceIte, d, true_and]
  exact hG
theorem f19_ok {m : Nat} (k : CallsPs fs) (hv : Srp h v E) (hw : Sr iE h w L) (hc : HC h) (hL : L.length ≤ 1000000) (hn : chkI (m : Int) E = 0) : Ret fs f19 [.i .i64 (m : Int), v, w] h fun r h' => r = .tup [.i .i64 (if grB (m : Int) E L = true then (prtO E L).getD 0 else 0), .b (grB (m : Int) E L && (prtO E L).isSome), .i .i64 0] ∧ Grow h.nx.nat h h' := by
  obtain ⟨m', hm, _, hE⟩ := chkI_ok hn
  obtain rfl : m = m' := by omega
  apply ret_of rfl
  show W fs none f19_c _ _ _
  unfold f19_c
  have hE6 : E.length ≤ 1000000 := by have := hE.1; omega
  simp (disch := omega) only [f19_r0, f19_r1, w_reg, w_seq, seqK_n, x_nil, x_mv, x_as, x_call, ev_t, ev_c, evs_nil, evs_cons, getV_some, putD_some, frame_3, of0, getK_set, Nat.reduceEqDiff, ↓reduceIte]
  refine (callP_0 (ef := f17) k.c17 rfl (f17_ret (n := (m : Int)) k.toCallsC hv hc hE6)).mono ?_
  rintro r h1 ⟨rfl, hG⟩
  rw [hn]
  have d : decide ((0 : Int) ≠ 0) = false := rfl
  have hc1 := hG.hc hc
  have hv1 := hv.grow hc hG
  have hw1 := hw.grow hc hG
  simp (disch := omega) only [f19_r2, f19_r4, w_skip, w_reg, w_seq, w_cond, seqK_n, ckB_b, cbB_b, true_and, x_nil, x_mv, x_as, x_bin, x_call, kx, rvP_ok, okv_some, ev_t, ev_c, evs_nil, evs_cons, getV_some, putD_some, bin_neq, of0, getK_set, Nat.reduceEqDiff, ↓reduceIte, Bool.false_eq_true, d]
  refine (callP_0 (ef := f62) k.c62 rfl (f62_ret k.toCallsGr hv1 hw1 hc1 hE hL)).mono ?_
  rintro r h2 ⟨rfl, hG2⟩
  have hGG := hG.trans (hG2.low hG.nx)
  cases hg : grB (m : Int) E L with
  | false =>
    simp (disch := omega) only [f19_r5, f19_rs, w_reg, w_seq, w_cond, w_ret, seqK_n, seqK_r, ckB_b, cbB_b, true_and, retK_r, x_nil, x_as, x_not, kx, rvP_ok, ev_t, ev_c, getV_some, putD_some, onB_b, oGet_s, readRs_nil, readRs_t, retV_2, of0, Option.some.injEq, exists_eq_left', getK_set, Nat.reduceEqDiff, ↓reduceIte, Bool.false_eq_true, Bool.not_false, Bool.not_false, Bool.false_eq_true, Bool.false_and, true_and]
    exact hGG
  | true =>
    obtain ⟨hLm, hlin⟩ := gr_labs hg
    simp (disch := omega) only [f19_r6, w_skip, w_reg, w_seq, w_cond, seqK_n, ckB_b, cbB_b, true_and, x_nil, x_mv, x_not, x_call, kx, rvP_ok, ev_t, ev_c, evs_nil, evs_cons, getV_some, putD_some, onB_b, getK_set, Nat.reduceEqDiff, ↓reduceIte, Bool.false_eq_true, Bool.not_true, Bool.not_true]
    refine (callP_0 (ef := f63) k.c63 rfl (f63_ret ⟨k.c63, k.c102⟩ (hv1.grow hc1 hG2) (hw1.grow hc1 hG2) (hG2.hc hc1) hE (chkI_ne hn) hlin hLm)).mono ?_
    rintro r h3 ⟨rfl, hG3⟩
    simp (disch := omega) only [f19_r7, f19_rs, w_reg, w_seq, w_ret, seqK_n, true_and, retK_r, x_nil, x_mv, x_as, x_ext, kx, rvP_ok, okv_some, ev_t, ev_c, getV_some, putD_some, onTup_t, oGet_s, nth0, nth1, readRs_nil, readRs_t, retV_2, of0, Option.some.injEq, exists_eq_left', getK_set, Nat.reduceEqDiff, ↓reduceIte, Bool.true_and, true_and]
    exact hGG.trans (hG3.low hGG.nx)
end
end Go.Ev
namespace Go.Ev
open Go Go.RowKit
theorem Sk.srp {h : H} {v : V} {L : List (Int × Int)} (hs : Sk 2 qE h v L) : Srp h v L := by
  rcases hs with ⟨rfl, rfl⟩ | ⟨id, off, m, cs, rfl, hb, h1, h2, h3⟩
  · exact .inl ⟨rfl, rfl, rfl⟩
  · exact .inr ⟨id, off, m, cs, rfl, .inl hb, h1, h2, h3⟩
theorem fill_p2 {fr : Fr} {x : EO} {z1 z2 : V} : fillE fr [z1, z2] [(0, 2, x)] = oGet (cellsN 2 (ev fr x)) none fun cs => some (setMany [z1, z2] 0 cs) := of_eq_true (eq_self _)
theorem set_p2 {z1 z2 a b : V} : setMany [z1, z2] 0 [a, b] = [a, b] := of_eq_true (eq_self _)
section
variable {fs : T EF} {ro : Option K} {h : H} {v : V} {l : List (Int × Int)}
end
end Go.Ev
namespace Go.Ev
open Go Go.RowKit
noncomputable def f5_r0 : List EOper := [⟨(some (K.ofNat 6)), none, .as (.c (.b false))⟩]
noncomputable def f5_r1 : List EOper := [⟨(some (K.ofNat 22)), none, .mv (.t (K.ofNat 0))⟩, ⟨(some (K.ofNat 23)), none, .mv (.t (K.ofNat 1))⟩, ⟨(some (K.ofNat 24)), none, .call (.c (.fn (K.ofNat 28) [])) [(.t (K.ofNat 22)), (.t (K.ofNat 23)), (.c (.i .i64 (.ofNat 10)))]⟩, ⟨(some (K.ofNat 21)), none, .mv (.t (K.ofNat 24))⟩, ⟨(some (K.ofNat 25)), none, .ext (.t (K.ofNat 21)) 0⟩, ⟨(some (K.ofNat 26)), none, .ext (.t (K.ofNat 21)) 1⟩, ⟨(some (K.ofNat 7)), none, .as (.t (K.ofNat 25))⟩, ⟨(some (K.ofNat 8)), none, .as (.t (K.ofNat 26))⟩]
noncomputable def f5_r2 : List EOper := [⟨(some (K.ofNat 27)), none, .mv (.t (K.ofNat 2))⟩, ⟨(some (K.ofNat 28)), none, .call (.c (.fn (K.ofNat 15) [])) [(.t (K.ofNat 27)), (.c (.i .i64 (.ofNat 10)))]⟩, ⟨(some (K.ofNat 9)), none, .as (.t (K.ofNat 28))⟩]
noncomputable def f5_r3 : List EOper := [⟨(some (K.ofNat 10)), none, .as (.c (.i .i64 (.ofNat 0)))⟩]
noncomputable def f5_r4 : List EOper := [⟨(some (K.ofNat 29)), none, .mv (.t (K.ofNat 10))⟩, ⟨(some (K.ofNat 30)), none, .bin .lss (.t (K.ofNat 29)) (.c (.i .i64 (.ofNat 2)))⟩]
noncomputable def f5_r5 : List EOper := [⟨(some (K.ofNat 33)), none, .mv (.t (K.ofNat 7))⟩, ⟨(some (K.ofNat 34)), none, .mv (.t (K.ofNat 8))⟩, ⟨(some (K.ofNat 35)), none, .mv (.t (K.ofNat 9))⟩, ⟨(some (K.ofNat 36)), none, .call (.c (.fn (K.ofNat 32) [])) [(.t (K.ofNat 33)), (.t (K.ofNat 34)), (.t (K.ofNat 35))]⟩, ⟨(some (K.ofNat 11)), none, .as (.t (K.ofNat 36))⟩]
noncomputable def f5_r6 : List EOper := [⟨(some (K.ofNat 38)), none, .mv (.t (K.ofNat 7))⟩, ⟨(some (K.ofNat 39)), none, .mv (.t (K.ofNat 8))⟩, ⟨(some (K.ofNat 40)), none, .mv (.t (K.ofNat 9))⟩, ⟨(some (K.ofNat 41)), none, .call (.c (.fn (K.ofNat 18) [])) [(.t (K.ofNat 38)), (.t (K.ofNat 39)), (.t (K.ofNat 40))]⟩, ⟨(some (K.ofNat 37)), none, .mv (.t (K.ofNat 41))⟩, ⟨(some (K.ofNat 42)), none, .ext (.t (K.ofNat 37)) 0⟩, ⟨(some (K.ofNat 43)), none, .ext (.t (K.ofNat 37)) 1⟩, ⟨(some (K.ofNat 12)), none, .as (.t (K.ofNat 42))⟩, ⟨(some (K.ofNat 13)), none, .as (.t (K.ofNat 43))⟩]
noncomputable def f5_r7 : List EOper := [⟨(some (K.ofNat 45)), none, .mv (.t (K.ofNat 7))⟩, ⟨(some (K.ofNat 46)), none, .mv (.t (K.ofNat 8))⟩, ⟨(some (K.ofNat 47)), none, .mv (.t (K.ofNat 9))⟩, ⟨(some (K.ofNat 48)), none, .call (.c (.fn (K.ofNat 19) [])) [(.t (K.ofNat 45)), (.t (K.ofNat 46)), (.t (K.ofNat 47))]⟩, ⟨(some (K.ofNat 44)), none, .mv (.t (K.ofNat 48))⟩, ⟨(some (K.ofNat 49)), none, .ext (.t (K.ofNat 44)) 0⟩, ⟨(some (K.ofNat 50)), none, .ext (.t (K.ofNat 44)) 1⟩, ⟨(some (K.ofNat 51)), none, .ext (.t (K.ofNat 44)) 2⟩, ⟨(some (K.ofNat 14)), none, .as (.t (K.ofNat 49))⟩, ⟨(some (K.ofNat 15)), none, .as (.t (K.ofNat 50))⟩, ⟨(some (K.ofNat 16)), none, .as (.t (K.ofNat 51))⟩]
noncomputable def f5_r8 : List EOper := [⟨(some (K.ofNat 53)), none, .mv (.t (K.ofNat 7))⟩, ⟨(some (K.ofNat 54)), none, .mv (.t (K.ofNat 8))⟩, ⟨(some (K.ofNat 55)), none, .mv (.t (K.ofNat 9))⟩, ⟨(some (K.ofNat 56)), none, .call (.c (.fn (K.ofNat 20) [])) [(.t (K.ofNat 53)), (.t (K.ofNat 54)), (.t (K.ofNat 55))]⟩, ⟨(some (K.ofNat 52)), none, .mv (.t (K.ofNat 56))⟩, ⟨(some (K.ofNat 57)), none, .ext (.t (K.ofNat 52)) 0⟩, ⟨(some (K.ofNat 58)), none, .ext (.t (K.ofNat 52)) 1⟩, ⟨(some (K.ofNat 17)), none, .as (.t (K.ofNat 57))⟩, ⟨(some (K.ofNat 18)), none, .as (.t (K.ofNat 58))⟩]
noncomputable def f5_r9 : List EOper := [⟨(some (K.ofNat 59)), none, .mv (.t (K.ofNat 13))⟩, ⟨(some (K.ofNat 60)), none, .bin .neq (.t (K.ofNat 59)) (.c (.i .i64 (.ofNat 0)))⟩, ⟨(some (K.ofNat 61)), none, .mv (.t (K.ofNat 60))⟩, ⟨(some (K.ofNat 62)), (some ((K.ofNat 61), false)), .mv (.t (K.ofNat 12))⟩, ⟨(some (K.ofNat 63)), (some ((K.ofNat 61), false)), .mv (.t (K.ofNat 11))⟩, ⟨(some (K.ofNat 64)), (some ((K.ofNat 61), false)), .eqk (.one none) true (.t (K.ofNat 62)) (.t (K.ofNat 63))⟩, ⟨(some (K.ofNat 65)), none, .pick (.t (K.ofNat 61)) (.c (.b true)) (.t (K.ofNat 64))⟩, ⟨(some (K.ofNat 66)), none, .mv (.t (K.ofNat 65))⟩, ⟨(some (K.ofNat 67)), (some ((K.ofNat 66), false)), .mv (.t (K.ofNat 16))⟩, ⟨(some (K.ofNat 68)), (some ((K.ofNat 66), false)), .bin .neq (.t (K.ofNat 67)) (.c (.i .i64 (.ofNat 0)))⟩, ⟨(some (K.ofNat 69)), none, .pick (.t (K.ofNat 66)) (.c (.b true)) (.t (K.ofNat 68))⟩]
noncomputable def f5_r10 : List EOper := [⟨(some (K.ofNat 6)), none, .as (.c (.b false))⟩]
noncomputable def f5_r11 : List EOper := [⟨(some (K.ofNat 70)), none, .mv (.t (K.ofNat 11))⟩, ⟨(some (K.ofNat 71)), none, .not (.t (K.ofNat 70))⟩]
noncomputable def f5_r12 : List EOper := [⟨(some (K.ofNat 72)), none, .mv (.t (K.ofNat 15))⟩, ⟨(some (K.ofNat 73)), none, .mv (.t (K.ofNat 72))⟩, ⟨(some (K.ofNat 74)), (some ((K.ofNat 73), false)), .mv (.t (K.ofNat 14))⟩, ⟨(some (K.ofNat 75)), (some ((K.ofNat 73), false)), .bin .neq (.t (K.ofNat 74)) (.c (.i .i64 (.ofNat 0)))⟩, ⟨(some (K.ofNat 76)), none, .pick (.t (K.ofNat 73)) (.c (.b true)) (.t (K.ofNat 75))⟩, ⟨(some (K.ofNat 77)), none, .mv (.t (K.ofNat 76))⟩, ⟨(some (K.ofNat 78)), (some ((K.ofNat 77), false)), .mv (.t (K.ofNat 18))⟩, ⟨(some (K.ofNat 79)), (some ((K.ofNat 77), false)), .bin .neq (.t (K.ofNat 78)) (.c (.i .i64 (.ofNat 1)))⟩, ⟨(some (K.ofNat 80)), none, .pick (.t (K.ofNat 77)) (.c (.b true)) (.t (K.ofNat 79))⟩, ⟨(some (K.ofNat 81)), none, .mv (.t (K.ofNat 80))⟩, ⟨(some (K.ofNat 82)), (some ((K.ofNat 81), false)), .mv (.t (K.ofNat 17))⟩, ⟨(some (K.ofNat 83)), (some ((K.ofNat 81), false)), .len (.t (K.ofNat 82))⟩, ⟨(some (K.ofNat 84)), (some ((K.ofNat 81), false)), .bin .neq (.t (K.ofNat 83)) (.c (.i .i64 (.ofNat 0)))⟩, ⟨(some (K.ofNat 85)), none, .pick (.t (K.ofNat 81)) (.c (.b true)) (.t (K.ofNat 84))⟩]
noncomputable def f5_r13 : List EOper := [⟨(some (K.ofNat 6)), none, .as (.c (.b false))⟩]
noncomputable def f5_r14 : List EOper := [⟨(some (K.ofNat 87)), none, .mv (.t (K.ofNat 8))⟩, ⟨(some (K.ofNat 88)), none, .mv (.t (K.ofNat 9))⟩, ⟨(some (K.ofNat 89)), none, .call (.c (.fn (K.ofNat 33) [])) [(.t (K.ofNat 87)), (.t (K.ofNat 88))]⟩, ⟨(some (K.ofNat 86)), none, .mv (.t (K.ofNat 89))⟩, ⟨(some (K.ofNat 90)), none, .ext (.t (K.ofNat 86)) 0⟩, ⟨(some (K.ofNat 91)), none, .ext (.t (K.ofNat 86)) 1⟩, ⟨(some (K.ofNat 19)), none, .as (.t (K.ofNat 90))⟩, ⟨(some (K.ofNat 20)), none, .as (.t (K.ofNat 91))⟩]
noncomputable def f5_r15 : List EOper := [⟨(some (K.ofNat 92)), none, .mv (.t (K.ofNat 15))⟩, ⟨(some (K.ofNat 93)), none, .mv (.t (K.ofNat 20))⟩, ⟨(some (K.ofNat 94)), none, .eqk (.one none) true (.t (K.ofNat 92)) (.t (K.ofNat 93))⟩, ⟨(some (K.ofNat 95)), none, .mv (.t (K.ofNat 94))⟩, ⟨(some (K.ofNat 96)), (some ((K.ofNat 95), false)), .mv (.t (K.ofNat 14))⟩, ⟨(some (K.ofNat 97)), (some ((K.ofNat 95), false)), .mv (.t (K.ofNat 19))⟩, ⟨(some (K.ofNat 98)), (some ((K.ofNat 95), false)), .bin .neq (.t (K.ofNat 96)) (.t (K.ofNat 97))⟩, ⟨(some (K.ofNat 99)), none, .pick (.t (K.ofNat 95)) (.c (.b true)) (.t (K.ofNat 98))⟩, ⟨(some (K.ofNat 100)), none, .mv (.t (K.ofNat 99))⟩, ⟨(some (K.ofNat 101)), (some ((K.ofNat 100), false)), .mv (.t (K.ofNat 18))⟩, ⟨(some (K.ofNat 102)), (some ((K.ofNat 100), false)), .bin .neq (.t (K.ofNat 101)) (.c (.i .i64 (.ofNat 0)))⟩, ⟨(some (K.ofNat 103)), none, .pick (.t (K.ofNat 100)) (.c (.b true)) (.t (K.ofNat 102))⟩, ⟨(some (K.ofNat 104)), none, .mv (.t (K.ofNat 103))⟩, ⟨(some (K.ofNat 105)), (some ((K.ofNat 104), false)), .mv (.t (K.ofNat 17))⟩, ⟨(some (K.ofNat 106)), (some ((K.ofNat 104), false)), .mv (.t (K.ofNat 8))⟩, ⟨(some (K.ofNat 107)), (some ((K.ofNat 104), false)), .mv (.t (K.ofNat 9))⟩, ⟨(some (K.ofNat 108)), (some ((K.ofNat 104), false)), .call (.c (.fn (K.ofNat 34) [])) [(.t (K.ofNat 106)), (.t (K.ofNat 107))]⟩, ⟨(some (K.ofNat 109)), (some ((K.ofNat 104), false)), .call (.c (.fn (K.ofNat 30) [])) [(.t (K.ofNat 105)), (.t (K.ofNat 108))]⟩, ⟨(some (K.ofNat 110)), (some ((K.ofNat 104), false)), .not (.t (K.ofNat 109))⟩, ⟨(some (K.ofNat 111)), none, .pick (.t (K.ofNat 104)) (.c (.b true)) (.t (K.ofNat 110))⟩]
noncomputable def f5_r16 : List EOper := [⟨(some (K.ofNat 6)), none, .as (.c (.b false))⟩]
noncomputable def f5_r17 : List EOper := [⟨(some (K.ofNat 112)), none, .mv (.t (K.ofNat 7))⟩, ⟨(some (K.ofNat 113)), none, .mv (.t (K.ofNat 8))⟩, ⟨(some (K.ofNat 114)), none, .mv (.t (K.ofNat 2))⟩, ⟨(some (K.ofNat 115)), none, .len (.t (K.ofNat 114))⟩, ⟨(some (K.ofNat 116)), none, .bin .rem (.t (K.ofNat 115)) (.c (.i .i64 (.ofNat 2)))⟩, ⟨(some (K.ofNat 117)), none, .bin .eql (.t (K.ofNat 116)) (.c (.i .i64 (.ofNat 0)))⟩, ⟨(some (K.ofNat 118)), none, .call (.c (.fn (K.ofNat 29) [])) [(.t (K.ofNat 112)), (.t (K.ofNat 113)), (.t (K.ofNat 117))]⟩, ⟨(some (K.ofNat 9)), none, .as (.t (K.ofNat 118))⟩]
noncomputable def f5_r18 : List EOper := [⟨(some (K.ofNat 31)), none, .mv (.t (K.ofNat 10))⟩, ⟨(some (K.ofNat 32)), none, .bin .add (.t (K.ofNat 31)) (.c (.i .i64 (.ofNat 1)))⟩, ⟨(some (K.ofNat 10)), none, .as (.t (K.ofNat 32))⟩]
noncomputable def f5_l0 : EC := (.seq (.seq (.reg f5_r4) (.cond (.t (K.ofNat 30)) .skip (.exit 0))) (.seq (.block 1 (.seq (.reg f5_r5) (.seq (.reg f5_r6) (.seq (.reg f5_r7) (.seq (.reg f5_r8) (.seq (.seq (.reg f5_r9) (.cond (.t (K.ofNat 69)) (.seq (.reg f5_r10) .ret) .skip)) (.seq (.seq (.reg f5_r11) (.cond (.t (K.ofNat 71)) (.seq (.reg f5_r12) (.cond (.t (K.ofNat 85)) (.seq (.reg f5_r13) .ret) .skip)) (.seq (.reg f5_r14) (.seq (.reg f5_r15) (.cond (.t (K.ofNat 111)) (.seq (.reg f5_r16) .ret) .skip))))) (.reg f5_r17)))))))) (.reg f5_r18)))
noncomputable def f5_r19 : List EOper := [⟨(some (K.ofNat 119)), none, .call (.c (.fn (K.ofNat 23) [])) []⟩, ⟨(some (K.ofNat 6)), none, .as (.t (K.ofNat 119))⟩]
noncomputable def f5_c : EC := (.seq (.reg f5_r0) (.seq (.reg f5_r1) (.seq (.reg f5_r2) (.seq (.seq (.reg f5_r3) (.block 0 (.loop f5_l0))) (.seq (.reg f5_r19) .ret)))))
noncomputable def f5 : EF := ⟨120, [.tmp (K.ofNat 6)], f5_c, none⟩
theorem slArgK_len {P : Program} {W : World} {base : Nat} {t e : TypeId} (ht : P.underlying t = some (.slice e)) {v : Value} {len : Nat} {zs : List Int} (hval : Value.okWide P W .any base t v) (hs : SlArgK 2 W v len zs) : len ≤ 9223372036854775807 := by
  rcases hs with ⟨_, rfl, _⟩ | ⟨b, off, cap, rfl, h1, _⟩
  · exact Nat.zero_le _
  · simp only [Value.okWide, ht, Cell.okWide, Cell.ok] at hval
    have h2 := hval.2.1
    have h3 : IntKind.i64.max = 9223372036854775807 := rfl
    omega
theorem pairsOf_le {len c : Nat} {zs : List Int} (h : len ≤ c) : (pairsOf len zs).length ≤ c := by
  unfold pairsOf; simpa using h
section
variable {fs : T EF} {ro : Option K}
end
end Go.Ev
namespace Go.Ev
open Go Go.RowKit
section
variable {fs : T EF} {ro : Option K} {h : H} {v : V} {n : Int} {E : List (Int × Int)}
def f16_I (h : H) (v : V) (n : Int) (E : List (Int × Int)) (j : Nat) (fr : Fr) (h1 : H) : Prop := j ≤ E.length ∧ h1 = h ∧ (∀ i, i < j → okAt n E i = true) ∧ fr.get (K.ofNat 0) = some (.i .i64 n) ∧ fr.get (K.ofNat 1) = some (v) ∧ fr.get (K.ofNat 5) = some (.i .i64 (j : Int))
theorem f16_ret (hv : Srp h v E) (hL : E.length ≤ 9223372036854775807) : Ret fs f16 [.i .i64 n, v] h fun r h' => r = .i .i64 (chkI n E) ∧ h' = h := by
  apply ret_of rfl
  show W fs none f16_c _ _ _
  unfold f16_c chkI
  cases d1 : decide (n < 2) with
  | true =>
    have h1 : n < 2 ∨ 7 < n := .inl (by simpa using d1)
    simp (disch := omega) only [f16_r0, f16_r1, f16_r2, f16_rs, w_reg, w_seq, w_cond, w_ret, seqK_n, seqK_r, ckB_b, cbB_b, okG_b, asG_f, retK_r, x_nil, x_g, x_mv, x_as, x_pick, x_bin, kx, rvP_ok, okv_some, ev_t, ev_c, getV_some, putD_some, bin_lss, pick_b, oGet_s, readRs_nil, readRs_t, retV_1, frame_2, of0, of1, of2, Option.some.injEq, exists_eq_left', getK_set, Nat.reduceEqDiff, ↓reduceIte, Bool.false_eq_true, Bool.not_true, of7, d1, h1, and_self]
  | false =>
  cases d2 : decide (n > 7) with
  | true =>
    have h1 : n < 2 ∨ 7 < n := .inr (by simpa using d2)
    simp (disch := omega) only [f16_r0, f16_r1, f16_r2, f16_rs, w_reg, w_seq, w_cond, w_ret, seqK_n, seqK_r, ckB_b, cbB_b, okG_b, asG_f, retK_r, x_nil, x_g, x_mv, x_as, x_pick, x_bin, kx, rvP_ok, okv_some, ev_t, ev_c, getV_some, putD_some, bin_lss, bin_gtr, pick_b, oGet_s, readRs_nil, readRs_t, retV_1, frame_2, of0, of1, of2, Option.some.injEq, exists_eq_left', getK_set, Nat.reduceEqDiff, ↓reduceIte, Bool.false_eq_true, Bool.not_false, of7, d1, d2, h1, and_self]
  | false =>
  have h1 : ¬ (n < 2 ∨ 7 < n) := by simp at d1 d2; omega
  rw [if_neg h1]
  simp (disch := omega) only [f16_r0, f16_r1, f16_r3, w_skip, w_reg, w_seq, w_cond, w_block, seqK_n, ckB_b, cbB_b, okG_b, asG_f, true_and, x_nil, x_g, x_mv, x_as, x_pick, x_bin, kx, rvP_ok, okv_some, ev_t, ev_c, getV_some, putD_some, bin_lss, bin_gtr, pick_b, frame_2, of0, of2, getK_set, Nat.reduceEqDiff, ↓reduceIte, Bool.false_eq_true, Bool.not_false, of7, d1, d2]
  refine W_loop (f16_I h v n E) (fun j => E.length - j) ?_ 0 ⟨by omega, rfl, fun i hi => by omega, by simp (disch := omega) only [getK_set, Nat.reduceEqDiff, ↓reduceIte, and_self, Int.natCast_zero]⟩
  rintro j fr h2 ⟨hj, rfl, hok, g0, g1, g5⟩
  have hl := hv.len
  unfold f16_l0
  by_cases hlt : j < E.length
  · have d0 : decide ((j : Int) < (E.length : Int)) = true := by simpa using hlt
    obtain ⟨ide, q, hp1, _, hp2, hp3⟩ := hv.at2 hlt
    have hvb := hv.beq
    have hg : E.getD j (0, 0) = E[j] := by simp [List.getD_eq_getElem?_getD, hlt]
    have bad : okAt n E j = false → (if E.length < 1 ∨ 10 < E.length then (20 : Int) else if risB n E = true then 0 else 20) = 20 := fun hb => by
      rw [risB_no hlt hb]; simp
    have good : okAt n E j = true → ∃ s', E.length - s' < E.length - j ∧ s' = j + 1 ∧ ∀ i, i < s' → okAt n E i = true := fun hb => ⟨j + 1, by omega, rfl, fun i hi => by
      by_cases e : i = j
      · rw [e]; exact hb
      · exact hok i (by omega)⟩
    have hokj : okAt n E j = (edB n E[j] && (decide (j = 0) || bfB (E.getD (j - 1) (0, 0)) E[j])) := by unfold okAt; rw [hg]
    simp (disch := omega) only [f16_r4, f16_r5, w_skip, w_reg, w_draw, w_seq, w_cond, w_block, seqK_n, ckB_b, cbB_b, true_and, x_nil, x_mv, x_as, x_bin, x_len, kx, kg, xg_nil, xg_mv, xg_ld, xg_iadr, xg_iads, xd_cons, fresh_nil, stK_n, stK_s, stay_nil, stay_cons, again_ok, stay_mv, beq_i, stay_iads, stay_ld, beq_p, rvP_ok, okv_some, ev_t, ev_c, getV_some, putD_some, bin_lss, onP_p, of0, of1, getK_set, Nat.reduceEqDiff, ↓reduceIte, stay_iadr, ix2_0, ix2_1, g1, g5, hl, d0, hp1, hp2, hp3, hvb]
    generalize hA : E[j].1 = a at *
    generalize hB : E[j].2 = b at *
    have hed : edB n E[j] = (decide (0 ≤ a) && (decide (a < b) && decide (b < n))) := by unfold edB; rw [hA, hB]
    cases c1 : decide (a < 0) with
    | true =>
      have hb : okAt n E j = false := by rw [hokj, hed, decide_eq_false (by have := of_decide_eq_true c1; omega : ¬ 0 ≤ a)]; rfl
      simp (disch := omega) only [f16_r6, f16_r7, f16_rs, w_reg, w_seq, w_cond, w_ret, seqK_n, seqK_r, atK_r, loopK_r, ckB_b, cbB_b, okG_b, okG_u, asG_f, asG_u, retK_r, x_nil, x_g, x_mv, x_as, x_pick, x_bin, kx, rvP_ok, okv_some, ev_t, ev_c, getV_some, putD_some, bin_lss, pick_b, oGet_s, readRs_nil, readRs_t, retV_1, of0, of1, Option.some.injEq, exists_eq_left', getK_set, Nat.reduceEqDiff, ↓reduceIte, Bool.false_eq_true, Bool.not_true, of20, c1, bad hb, and_self]
    | false =>
    cases c2 : decide (a ≥ b) with
    | true =>
      have hb : okAt n E j = false := by rw [hokj, hed, decide_eq_false (by have := of_decide_eq_true c2; omega : ¬ a < b)]; simp
      simp (disch := omega) only [f16_r6, f16_r7, f16_rs, w_reg, w_seq, w_cond, w_ret, seqK_n, seqK_r, atK_r, loopK_r, ckB_b, cbB_b, okG_b, okG_u, asG_f, asG_u, retK_r, x_nil, x_g, x_mv, x_as, x_pick, x_bin, kx, rvP_ok, okv_some, ev_t, ev_c, getV_some, putD_some, bin_lss, bin_geq, pick_b, oGet_s, readRs_nil, readRs_t, retV_1, of0, of1, Option.some.injEq, exists_eq_left', getK_set, Nat.reduceEqDiff, ↓reduceIte, Bool.false_eq_true, Bool.not_true, Bool.not_false, of20, c1, c2, bad hb, and_self]
    | false =>
    cases c3 : decide (b ≥ n) with
    | true =>
      have hb : okAt n E j = false := by rw [hokj, hed, decide_eq_false (by have := of_decide_eq_true c3; omega : ¬ b < n)]; simp
      simp (disch := omega) only [f16_r6, f16_r7, f16_rs, w_reg, w_seq, w_cond, w_ret, seqK_n, seqK_r, atK_r, loopK_r, ckB_b, cbB_b, okG_b, okG_u, asG_f, asG_u, retK_r, x_nil, x_g, x_mv, x_as, x_pick, x_bin, kx, rvP_ok, okv_some, ev_t, ev_c, getV_some, putD_some, bin_lss, bin_geq, pick_b, oGet_s, readRs_nil, readRs_t, retV_1, of0, of1, Option.some.injEq, exists_eq_left', getK_set, Nat.reduceEqDiff, ↓reduceIte, Bool.false_eq_true, Bool.not_true, Bool.not_false, of20, g0, c1, c2, c3, bad hb, and_self]
    | false =>
    have hed2 : edB n E[j] = true := by
      have := of_decide_eq_false c1; have := of_decide_eq_false c2; have := of_decide_eq_false c3
      rw [hed, decide_eq_true (by omega : 0 ≤ a), decide_eq_true (by omega : a < b), decide_eq_true (by omega : b < n)]; rfl
    rw [hed2, Bool.true_and] at hokj
    by_cases hj0 : j = 0
    · have c4 : decide ((j : Int) > 0) = false := by simp; omega
      rw [decide_eq_true hj0, Bool.true_or] at hokj
      obtain ⟨_, e1, rfl, e3⟩ := good hokj
      simp (disch := omega) only [f16_r6, f16_r8, w_skip, w_reg, w_cond, seqK_n, atK_n, loopK_n, ckB_b, cbB_b, okG_b, okG_u, asG_t, asG_f, asG_u, true_and, x_nil, x_g, x_mv, x_as, x_pick, x_bin, kx, rvP_ok, okv_some, ev_t, ev_c, getV_some, putD_some, bin_add, bin_lss, bin_gtr, bin_geq, pick_b, of0, of1, getK_set, Nat.reduceEqDiff, ↓reduceIte, Bool.false_eq_true, Bool.not_false, g0, g5, c1, c2, c3, c4, fw64]
      exact ⟨j + 1, e1, by omega, rfl, e3, by simp (disch := omega) only [getK_set, Nat.reduceEqDiff, ↓reduceIte, g0, g1, and_self, Int.natCast_add, Int.natCast_one]⟩
    · have c4 : decide ((j : Int) > 0) = true := by simp; omega
      rw [decide_eq_false hj0, Bool.false_or] at hokj
      have hlj : j - 1 < E.length := by omega
      obtain ⟨idp, qp, hr1, _, hr2, hr3⟩ := hv.at2 hlj
      have ej : ((j - 1 : Nat) : Int) = (j : Int) - 1 := by omega
      rw [ej] at hr1
      have hg2 : E.getD (j - 1) (0, 0) = E[j - 1] := by simp [List.getD_eq_getElem?_getD, hlj]
      rw [hg2] at hokj
      have hokj : okAt n E j = (decide (E[j - 1].1 < a) || (decide (E[j - 1].1 = a) && decide (E[j - 1].2 < b))) := by rw [hokj]; unfold bfB; rw [hA, hB]
      cases c5 : decide (E[j - 1].1 > a) with
      | true =>
        have hb : okAt n E j = false := by
          have := of_decide_eq_true c5
          rw [hokj, decide_eq_false (by omega : ¬ E[j - 1].1 < a), decide_eq_false (by omega : ¬ E[j - 1].1 = a)]; rfl
        simp (disch := omega) only [f16_r6, f16_r7, f16_rs, w_reg, w_seq, w_cond, w_ret, seqK_n, seqK_r, atK_r, loopK_r, ckB_b, cbB_b, okG_b, okG_u, asG_t, asG_f, asG_u, retK_r, x_nil, x_g, x_mv, x_as, x_pick, x_ld, x_bin, x_iadr, x_iads, kx, rvP_ok, okv_some, ev_t, ev_c, getV_some, putD_some, bin_sub, bin_lss, bin_gtr, bin_geq, pick_b, onP_p, oGet_s, readRs_nil, readRs_t, retV_1, of0, of1, Option.some.injEq, exists_eq_left', getK_set, Nat.reduceEqDiff, ↓reduceIte, Bool.false_eq_true, Bool.not_true, Bool.not_false, ix2_0, of20, g0, g1, g5, c1, c2, c3, c4, c5, hr1, hr2, fw64, bad hb, and_self]
      | false =>
      cases c6 : decide (E[j - 1].1 = a) with
      | false =>
        have hb : okAt n E j = true := by
          have := of_decide_eq_false c5; have := of_decide_eq_false c6
          rw [hokj, decide_eq_true (by omega : E[j - 1].1 < a)]; rfl
        obtain ⟨_, e1, rfl, e3⟩ := good hb
        simp (disch := omega) only [f16_r6, f16_r8, w_skip, w_reg, w_cond, seqK_n, atK_n, loopK_n, ckB_b, cbB_b, okG_b, asG_t, asG_f, true_and, x_nil, x_g, x_mv, x_as, x_pick, x_ld, x_bin, x_iadr, x_iads, kx, rvP_ok, okv_some, ev_t, ev_c, getV_some, putD_some, bin_add, bin_sub, bin_eql, bin_lss, bin_gtr, bin_geq, pick_b, onP_p, of0, of1, getK_set, Nat.reduceEqDiff, ↓reduceIte, Bool.false_eq_true, Bool.not_false, ix2_0, g0, g1, g5, c1, c2, c3, c4, c5, c6, hr1, hr2, fw64]
        exact ⟨j + 1, e1, by omega, rfl, e3, by simp (disch := omega) only [getK_set, Nat.reduceEqDiff, ↓reduceIte, g0, g1, and_self, Int.natCast_add, Int.natCast_one]⟩
      | true =>
      cases c7 : decide (E[j - 1].2 ≥ b) with
      | true =>
        have hb : okAt n E j = false := by
          have := of_decide_eq_true c6; have := of_decide_eq_true c7
          rw [hokj, decide_eq_false (by omega : ¬ E[j - 1].1 < a), decide_eq_false (by omega : ¬ E[j - 1].2 < b)]; simp
        simp (disch := omega) only [f16_r6, f16_r7, f16_rs, w_reg, w_seq, w_cond, w_ret, seqK_n, seqK_r, atK_r, loopK_r, ckB_b, cbB_b, okG_b, asG_t, asG_f, retK_r, x_nil, x_g, x_mv, x_as, x_pick, x_ld, x_bin, x_iadr, x_iads, kx, rvP_ok, okv_some, ev_t, ev_c, getV_some, putD_some, bin_sub, bin_eql, bin_lss, bin_gtr, bin_geq, pick_b, onP_p, oGet_s, readRs_nil, readRs_t, retV_1, of0, of1, Option.some.injEq, exists_eq_left', getK_set, Nat.reduceEqDiff, ↓reduceIte, Bool.false_eq_true, Bool.not_false, ix2_0, ix2_1, of20, g0, g1, g5, c1, c2, c3, c4, c5, c6, c7, hr1, hr2, hr3, fw64, bad hb, and_self]
      | false =>
        have hb : okAt n E j = true := by
          have := of_decide_eq_true c6; have := of_decide_eq_false c7
          rw [hokj, decide_eq_true (by omega : E[j - 1].1 = a), decide_eq_true (by omega : E[j - 1].2 < b)]; simp
        obtain ⟨_, e1, rfl, e3⟩ := good hb
        simp (disch := omega) only [f16_r6, f16_r8, w_skip, w_reg, w_cond, seqK_n, atK_n, loopK_n, ckB_b, cbB_b, okG_b, asG_t, asG_f, true_and, x_nil, x_g, x_mv, x_as, x_pick, x_ld, x_bin, x_iadr, x_iads, kx, rvP_ok, okv_some, ev_t, ev_c, getV_some, putD_some, bin_add, bin_sub, bin_eql, bin_lss, bin_gtr, bin_geq, pick_b, onP_p, of0, of1, getK_set, Nat.reduceEqDiff, ↓reduceIte, Bool.false_eq_true, Bool.not_false, ix2_0, ix2_1, g0, g1, g5, c1, c2, c3, c4, c5, c6, c7, hr1, hr2, hr3, fw64]
        exact ⟨j + 1, e1, by omega, rfl, e3, by simp (disch := omega) only [getK_set, Nat.reduceEqDiff, ↓reduceIte, g0, g1, and_self, Int.natCast_add, Int.natCast_one]⟩
  · have d0 : decide ((j : Int) < (E.length : Int)) = false := by simpa using hlt
    have hr : risB n E = true := risB_yes fun i hi => hok i (by omega)
    rw [hr]
    cases d3 : decide ((E.length : Int) < 1) with
    | true =>
      have h2 : E.length < 1 ∨ 10 < E.length := .inl (by have := of_decide_eq_true d3; omega)
      simp (disch := omega) only [f16_r4, f16_r9, f16_r10, f16_rs, w_reg, w_seq, w_cond, w_exit, w_ret, seqK_n, seqK_e, seqK_r, atK_e, loopK_e, ckB_b, cbB_b, okG_b, asG_f, retK_r, x_nil, x_g, x_mv, x_as, x_pick, x_bin, x_len, kx, rvP_ok, okv_some, ev_t, ev_c, getV_some, putD_some, bin_lss, pick_b, oGet_s, readRs_nil, readRs_t, retV_1, of1, of10, Option.some.injEq, exists_eq_left', getK_set, Nat.reduceEqDiff, ↓reduceIte, Bool.false_eq_true, Bool.not_true, of20, g1, g5, hl, d0, d3, h2, and_self]
    | false =>
      cases d4 : decide ((E.length : Int) > 10) with
      | true =>
        have h2 : E.length < 1 ∨ 10 < E.length := .inr (by have := of_decide_eq_true d4; omega)
        simp (disch := omega) only [f16_r4, f16_r9, f16_r10, f16_rs, w_reg, w_seq, w_cond, w_exit, w_ret, seqK_n, seqK_e, seqK_r, atK_e, loopK_e, ckB_b, cbB_b, okG_b, asG_f, retK_r, x_nil, x_g, x_mv, x_as, x_pick, x_bin, x_len, kx, rvP_ok, okv_some, ev_t, ev_c, getV_some, putD_some, bin_lss, bin_gtr, pick_b, oGet_s, readRs_nil, readRs_t, retV_1, of1, of10, Option.some.injEq, exists_eq_left', getK_set, Nat.reduceEqDiff, ↓reduceIte, Bool.false_eq_true, Bool.not_false, of20, g1, g5, hl, d0, d3, d4, h2, and_self]
      | false =>
        have h2 : ¬ (E.length < 1 ∨ 10 < E.length) := by have := of_decide_eq_false d3; have := of_decide_eq_false d4; omega
        simp (disch := omega) only [f16_r4, f16_r9, f16_r11, f16_rs, w_skip, w_reg, w_seq, w_cond, w_exit, w_ret, seqK_n, seqK_e, atK_e, loopK_e, ckB_b, cbB_b, okG_b, asG_f, retK_r, x_nil, x_g, x_mv, x_as, x_pick, x_bin, x_len, kx, rvP_ok, okv_some, ev_t, ev_c, getV_some, putD_some, bin_lss, bin_gtr, pick_b, oGet_s, readRs_nil, readRs_t, retV_1, of0, of1, of10, Option.some.injEq, exists_eq_left', getK_set, Nat.reduceEqDiff, ↓reduceIte, Bool.false_eq_true, Bool.not_false, g1, g5, hl, d0, d3, d4, h2, and_self]
end
end Go.Ev
namespace Go.Ev
open Go Go.RowKit
section
variable {n : Nat} {E : List (Int × Int)} {L : List Int} {A : List Bool} {x : Int}
end
end Go.Ev
namespace Go.Ev
section
variable {n : Nat} {E : List (Int × Int)} {M : List Int} {k : Int} {j : Nat}
end
end Go.Ev
namespace Go.Ev
open Go Go.RowKit
section
variable {fs : T EF} {ro : Option K} {h h' : H} {v w : V} {n : Nat} {E : List (Int × Int)} {L : List Int} {x : Int}
end
end Go.Ev
namespace Go.Ev
open Go Go.RowKit
noncomputable def f26_r0 : List EOper := [⟨(some (K.ofNat 4)), none, .as (.c .sn)⟩, ⟨(some (K.ofNat 5)), none, .as (.c (.b false))⟩, ⟨(some (K.ofNat 6)), none, .as (.c (.i .i64 (.ofNat 0)))⟩]
noncomputable def f26_r1 : List EOper := [⟨(some (K.ofNat 10)), none, .mv (.t (K.ofNat 0))⟩, ⟨(some (K.ofNat 11)), none, .mv (.t (K.ofNat 1))⟩, ⟨(some (K.ofNat 12)), none, .call (.c (.fn (K.ofNat 17) [])) [(.t (K.ofNat 10)), (.t (K.ofNat 11))]⟩, ⟨(some (K.ofNat 7)), none, .as (.t (K.ofNat 12))⟩]
noncomputable def f26_r2 : List EOper := [⟨(some (K.ofNat 13)), none, .mv (.t (K.ofNat 7))⟩, ⟨(some (K.ofNat 14)), none, .bin .neq (.t (K.ofNat 13)) (.c (.i .i64 (.ofNat 0)))⟩]
noncomputable def f26_r3 : List EOper := [⟨(some (K.ofNat 15)), none, .mv (.t (K.ofNat 7))⟩, ⟨(some (K.ofNat 4)), none, .as (.c .sn)⟩, ⟨(some (K.ofNat 5)), none, .as (.c (.b false))⟩, ⟨(some (K.ofNat 6)), none, .as (.t (K.ofNat 15))⟩]
noncomputable def f26_r4 : List EOper := [⟨(some (K.ofNat 17)), none, .mv (.t (K.ofNat 0))⟩, ⟨(some (K.ofNat 18)), none, .mv (.t (K.ofNat 1))⟩, ⟨(some (K.ofNat 19)), none, .call (.c (.fn (K.ofNat 69) [])) [(.t (K.ofNat 17)), (.t (K.ofNat 18))]⟩, ⟨(some (K.ofNat 16)), none, .mv (.t (K.ofNat 19))⟩, ⟨(some (K.ofNat 20)), none, .ext (.t (K.ofNat 16)) 0⟩, ⟨(some (K.ofNat 21)), none, .ext (.t (K.ofNat 16)) 1⟩, ⟨(some (K.ofNat 8)), none, .as (.t (K.ofNat 20))⟩, ⟨(some (K.ofNat 9)), none, .as (.t (K.ofNat 21))⟩]
noncomputable def f26_r5 : List EOper := [⟨(some (K.ofNat 22)), none, .mv (.t (K.ofNat 8))⟩, ⟨(some (K.ofNat 23)), none, .mv (.t (K.ofNat 9))⟩, ⟨(some (K.ofNat 4)), none, .as (.t (K.ofNat 22))⟩, ⟨(some (K.ofNat 5)), none, .as (.t (K.ofNat 23))⟩, ⟨(some (K.ofNat 6)), none, .as (.c (.i .i64 (.ofNat 0)))⟩]
noncomputable def f26_c : EC := (.seq (.reg f26_r0) (.seq (.seq (.reg f26_r1) (.seq (.reg f26_r2) (.cond (.t (K.ofNat 14)) (.seq (.reg f26_r3) .ret) .skip))) (.seq (.reg f26_r4) (.seq (.reg f26_r5) .ret))))
noncomputable def f26 : EF := ⟨24, [.tmp (K.ofNat 4), .tmp (K.ofNat 5), .tmp (K.ofNat 6)], f26_c, none⟩
theorem f26_rs : f26.rs = [.tmp (K.ofNat 4), .tmp (K.ofNat 5), .tmp (K.ofNat 6)] := of_eq_true (eq_self _)
noncomputable def f4_r0 : List EOper := [⟨(some (K.ofNat 4)), none, .as (.c (.b false))⟩]
noncomputable def f4_r1 : List EOper := [⟨(some (K.ofNat 18)), none, .mv (.t (K.ofNat 0))⟩, ⟨(some (K.ofNat 19)), none, .mv (.t (K.ofNat 1))⟩, ⟨(some (K.ofNat 20)), none, .call (.c (.fn (K.ofNat 28) [])) [(.t (K.ofNat 18)), (.t (K.ofNat 19)), (.c (.i .i64 (.ofNat 10)))]⟩, ⟨(some (K.ofNat 17)), none, .mv (.t (K.ofNat 20))⟩, ⟨(some (K.ofNat 21)), none, .ext (.t (K.ofNat 17)) 0⟩, ⟨(some (K.ofNat 22)), none, .ext (.t (K.ofNat 17)) 1⟩, ⟨(some (K.ofNat 5)), none, .as (.t (K.ofNat 21))⟩, ⟨(some (K.ofNat 6)), none, .as (.t (K.ofNat 22))⟩]
noncomputable def f4_r2 : List EOper := [⟨(some (K.ofNat 24)), none, .mv (.t (K.ofNat 5))⟩, ⟨(some (K.ofNat 25)), none, .mv (.t (K.ofNat 6))⟩, ⟨(some (K.ofNat 26)), none, .call (.c (.fn (K.ofNat 24) [])) [(.t (K.ofNat 24)), (.t (K.ofNat 25))]⟩, ⟨(some (K.ofNat 23)), none, .mv (.t (K.ofNat 26))⟩, ⟨(some (K.ofNat 27)), none, .ext (.t (K.ofNat 23)) 0⟩, ⟨(some (K.ofNat 28)), none, .ext (.t (K.ofNat 23)) 1⟩, ⟨(some (K.ofNat 29)), none, .ext (.t (K.ofNat 23)) 2⟩, ⟨(some (K.ofNat 7)), none, .as (.t (K.ofNat 27))⟩, ⟨(some (K.ofNat 8)), none, .as (.t (K.ofNat 28))⟩, ⟨(some (K.ofNat 9)), none, .as (.t (K.ofNat 29))⟩]
noncomputable def f4_r3 : List EOper := [⟨(some (K.ofNat 31)), none, .mv (.t (K.ofNat 5))⟩, ⟨(some (K.ofNat 32)), none, .mv (.t (K.ofNat 6))⟩, ⟨(some (K.ofNat 33)), none, .call (.c (.fn (K.ofNat 25) [])) [(.t (K.ofNat 31)), (.t (K.ofNat 32))]⟩, ⟨(some (K.ofNat 30)), none, .mv (.t (K.ofNat 33))⟩, ⟨(some (K.ofNat 34)), none, .ext (.t (K.ofNat 30)) 0⟩, ⟨(some (K.ofNat 35)), none, .ext (.t (K.ofNat 30)) 1⟩, ⟨(some (K.ofNat 10)), none, .as (.t (K.ofNat 34))⟩, ⟨(some (K.ofNat 11)), none, .as (.t (K.ofNat 35))⟩]
noncomputable def f4_r4 : List EOper := [⟨(some (K.ofNat 37)), none, .mv (.t (K.ofNat 5))⟩, ⟨(some (K.ofNat 38)), none, .mv (.t (K.ofNat 6))⟩, ⟨(some (K.ofNat 39)), none, .call (.c (.fn (K.ofNat 26) [])) [(.t (K.ofNat 37)), (.t (K.ofNat 38))]⟩, ⟨(some (K.ofNat 36)), none, .mv (.t (K.ofNat 39))⟩, ⟨(some (K.ofNat 40)), none, .ext (.t (K.ofNat 36)) 0⟩, ⟨(some (K.ofNat 41)), none, .ext (.t (K.ofNat 36)) 1⟩, ⟨(some (K.ofNat 42)), none, .ext (.t (K.ofNat 36)) 2⟩, ⟨(some (K.ofNat 12)), none, .as (.t (K.ofNat 40))⟩, ⟨(some (K.ofNat 13)), none, .as (.t (K.ofNat 41))⟩, ⟨(some (K.ofNat 14)), none, .as (.t (K.ofNat 42))⟩]
noncomputable def f4_r5 : List EOper := [⟨(some (K.ofNat 43)), none, .mv (.t (K.ofNat 5))⟩, ⟨(some (K.ofNat 44)), none, .mv (.t (K.ofNat 6))⟩, ⟨(some (K.ofNat 45)), none, .call (.c (.fn (K.ofNat 29) [])) [(.t (K.ofNat 43)), (.t (K.ofNat 44)), (.c (.b false))]⟩, ⟨(some (K.ofNat 46)), none, .mv (.t (K.ofNat 5))⟩, ⟨(some (K.ofNat 47)), none, .mv (.t (K.ofNat 6))⟩, ⟨(some (K.ofNat 48)), none, .call (.c (.fn (K.ofNat 29) [])) [(.t (K.ofNat 46)), (.t (K.ofNat 47)), (.c (.b true))]⟩, ⟨(some (K.ofNat 15)), none, .as (.t (K.ofNat 45))⟩, ⟨(some (K.ofNat 16)), none, .as (.t (K.ofNat 48))⟩]
noncomputable def f4_r6 : List EOper := [⟨(some (K.ofNat 49)), none, .mv (.t (K.ofNat 9))⟩, ⟨(some (K.ofNat 50)), none, .bin .eql (.t (K.ofNat 49)) (.c (.i .i64 (.ofNat 0)))⟩, ⟨(some (K.ofNat 51)), none, .mv (.t (K.ofNat 50))⟩, ⟨(some (K.ofNat 52)), (some ((K.ofNat 51), true)), .mv (.t (K.ofNat 8))⟩, ⟨(some (K.ofNat 53)), (some ((K.ofNat 51), true)), .mv (.t (K.ofNat 15))⟩, ⟨(some (K.ofNat 54)), (some ((K.ofNat 51), true)), .isnil true (.t (K.ofNat 53))⟩, ⟨(some (K.ofNat 55)), (some ((K.ofNat 51), true)), .eqk (.one none) false (.t (K.ofNat 52)) (.t (K.ofNat 54))⟩, ⟨(some (K.ofNat 56)), none, .pick (.t (K.ofNat 51)) (.t (K.ofNat 55)) (.c (.b false))⟩, ⟨(some (K.ofNat 57)), none, .mv (.t (K.ofNat 56))⟩, ⟨(some (K.ofNat 58)), (some ((K.ofNat 57), true)), .mv (.t (K.ofNat 7))⟩, ⟨(some (K.ofNat 59)), (some ((K.ofNat 57), true)), .mv (.t (K.ofNat 15))⟩, ⟨(some (K.ofNat 60)), (some ((K.ofNat 57), true)), .call (.c (.fn (K.ofNat 30) [])) [(.t (K.ofNat 58)), (.t (K.ofNat 59))]⟩, ⟨(some (K.ofNat 61)), none, .pick (.t (K.ofNat 57)) (.t (K.ofNat 60)) (.c (.b false))⟩, ⟨(some (K.ofNat 62)), none, .mv (.t (K.ofNat 61))⟩, ⟨(some (K.ofNat 63)), (some ((K.ofNat 62), true)), .mv (.t (K.ofNat 11))⟩, ⟨(some (K.ofNat 64)), (some ((K.ofNat 62), true)), .bin .eql (.t (K.ofNat 63)) (.c (.i .i64 (.ofNat 0)))⟩, ⟨(some (K.ofNat 65)), none, .pick (.t (K.ofNat 62)) (.t (K.ofNat 64)) (.c (.b false))⟩, ⟨(some (K.ofNat 66)), none, .mv (.t (K.ofNat 65))⟩, ⟨(some (K.ofNat 67)), (some ((K.ofNat 66), true)), .mv (.t (K.ofNat 10))⟩, ⟨(some (K.ofNat 68)), (some ((K.ofNat 66), true)), .mv (.t (K.ofNat 5))⟩, ⟨(some (K.ofNat 69)), (some ((K.ofNat 66), true)), .mv (.t (K.ofNat 6))⟩, ⟨(some (K.ofNat 70)), (some ((K.ofNat 66), true)), .call (.c (.fn (K.ofNat 31) [])) [(.t (K.ofNat 68)), (.t (K.ofNat 69))]⟩, ⟨(some (K.ofNat 71)), (some ((K.ofNat 66), true)), .bin .eql (.t (K.ofNat 67)) (.t (K.ofNat 70))⟩, ⟨(some (K.ofNat 72)), none, .pick (.t (K.ofNat 66)) (.t (K.ofNat 71)) (.c (.b false))⟩, ⟨(some (K.ofNat 73)), none, .mv (.t (K.ofNat 72))⟩, ⟨(some (K.ofNat 74)), (some ((K.ofNat 73), true)), .mv (.t (K.ofNat 14))⟩, ⟨(some (K.ofNat 75)), (some ((K.ofNat 73), true)), .bin .eql (.t (K.ofNat 74)) (.c (.i .i64 (.ofNat 0)))⟩, ⟨(some (K.ofNat 76)), none, .pick (.t (K.ofNat 73)) (.t (K.ofNat 75)) (.c (.b false))⟩, ⟨(some (K.ofNat 77)), none, .mv (.t (K.ofNat 76))⟩, ⟨(some (K.ofNat 78)), (some ((K.ofNat 77), true)), .mv (.t (K.ofNat 13))⟩, ⟨(some (K.ofNat 79)), (some ((K.ofNat 77), true)), .mv (.t (K.ofNat 16))⟩, ⟨(some (K.ofNat 80)), (some ((K.ofNat 77), true)), .isnil true (.t (K.ofNat 79))⟩, ⟨(some (K.ofNat 81)), (some ((K.ofNat 77), true)), .eqk (.one none) false (.t (K.ofNat 78)) (.t (K.ofNat 80))⟩, ⟨(some (K.ofNat 82)), none, .pick (.t (K.ofNat 77)) (.t (K.ofNat 81)) (.c (.b false))⟩, ⟨(some (K.ofNat 83)), none, .mv (.t (K.ofNat 82))⟩, ⟨(some (K.ofNat 84)), (some ((K.ofNat 83), true)), .mv (.t (K.ofNat 12))⟩, ⟨(some (K.ofNat 85)), (some ((K.ofNat 83), true)), .mv (.t (K.ofNat 16))⟩, ⟨(some (K.ofNat 86)), (some ((K.ofNat 83), true)), .call (.c (.fn (K.ofNat 30) [])) [(.t (K.ofNat 84)), (.t (K.ofNat 85))]⟩, ⟨(some (K.ofNat 87)), none, .pick (.t (K.ofNat 83)) (.t (K.ofNat 86)) (.c (.b false))⟩, ⟨(some (K.ofNat 88)), none, .mv (.t (K.ofNat 87))⟩, ⟨(some (K.ofNat 89)), (some ((K.ofNat 88), true)), .call (.c (.fn (K.ofNat 23) [])) []⟩, ⟨(some (K.ofNat 90)), none, .pick (.t (K.ofNat 88)) (.t (K.ofNat 89)) (.c (.b false))⟩, ⟨(some (K.ofNat 4)), none, .as (.t (K.ofNat 90))⟩]
noncomputable def f4_c : EC := (.seq (.reg f4_r0) (.seq (.reg f4_r1) (.seq (.reg f4_r2) (.seq (.reg f4_r3) (.seq (.reg f4_r4) (.seq (.reg f4_r5) (.seq (.reg f4_r6) .ret)))))))
noncomputable def f4 : EF := ⟨91, [.tmp (K.ofNat 4)], f4_c, none⟩
section
variable {fs : T EF} {ro : Option K} {h : H} {v : V} {m : Nat} {E : List (Int × Int)}
theorem f26_err {n : Int} (k : CallsC fs) (hv : Srp h v E) (hc : HC h) (hE : E.length ≤ 1000000) (hn : chkI n E ≠ 0) : Ret fs f26 [.i .i64 n, v] h fun r h' => r = .tup [.sn, .b false, .i .i64 (chkI n E)] ∧ Grow h.nx.nat h h' := by
  apply ret_of rfl
  show W fs none f26_c _ _ _
  unfold f26_c
  simp (disch := omega) only [f26_r0, f26_r1, w_reg, w_seq, seqK_n, x_nil, x_mv, x_as, x_call, ev_t, ev_c, evs_nil, evs_cons, getV_some, putD_some, frame_2, of0, getK_set, Nat.reduceEqDiff, ↓reduceIte]
  refine (callP_0 (ef := f17) k.c17 rfl (f17_ret (n := n) k hv hc hE)).mono ?_
  rintro r h4 ⟨rfl, gB⟩
  have d : decide (chkI n E ≠ 0) = true := by simpa using hn
  simp (disch := omega) only [f26_r2, f26_r3, f26_rs, w_reg, w_seq, w_cond, w_ret, seqK_n, seqK_r, ckB_b, cbB_b, true_and, retK_r, x_nil, x_mv, x_as, x_bin, kx, rvP_ok, okv_some, ev_t, ev_c, getV_some, putD_some, bin_neq, oGet_s, readRs_nil, readRs_t, retV_2, of0, Option.some.injEq, exists_eq_left', getK_set, Nat.reduceEqDiff, ↓reduceIte, d, true_and]
  exact gB
end
section
variable {fs : T EF} {ro : Option K}
end
end Go.Ev
namespace Go.Ev
open Go Go.RowKit
section
variable {fs : T EF}
end
end Go.Ev
