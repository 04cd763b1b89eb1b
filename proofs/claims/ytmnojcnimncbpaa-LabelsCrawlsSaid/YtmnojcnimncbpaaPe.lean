/-
  Labels: Contains and difference, as what the evaluator takes in place of their code.
  Labels: Clone; what allLabels goes through.
  Labels: a label is tried.
  Labels: all labels, one after another.
  Labels: a loop over all labels.
  Labels: Check.
  Labels: Check, of the program and of the reference; a function that goes through all labels.
  Labels: Label and Count.
  Labels: how a ruler grows.
  Labels: a ruler grows from a beginning; the shortest ruler.
  Labels: the program's rulers.
  Labels: the reference's rulers.
  Labels: the reference's Extend and Shortest.
  Labels: what is grown is what the reference grows; a ruler of seven marks.
  Labels: the law LabelsRuler.
  Labels: measured, IsRuler.
  Labels: Extend; few.
  Labels: the law LabelsRulers.
  Labels: are labels graceful?
-/
import Derived.Test.YtmnojcnimncbpaaPd
namespace Go.Ev
open Go Go.RowKit
theorem hc_empty : HC ⟨.e, .nil⟩ := fun id _ => by show getB (T.get id .nil) = .dead; rw [T.get_nil]; rfl
noncomputable def memK (x : Int) (L : List Int) : Bool := List.rec false (fun y _ ih => bif ieq x y then true else ih) L
theorem memK_eq (x : Int) : ∀ L : List Int, memK x L = decide (x ∈ L)
  | [] => rfl
  | y :: L => by
    show (bif ieq x y then true else memK x L) = _
    rw [memK_eq x L, ieq_eq]
    by_cases h : x = y
    · rw [show (x == y) = true by simpa using h]; simp [h]
    · rw [show (x == y) = false by simpa using h]; simp [h]
/-- The numbers of a slice, and all is in its place. -/
noncomputable def listS (h : H) (v : V) : Option (List Int) := v.onSl0 none (some []) fun id off n sz => bif Nat.beq sz 1 && Nat.ble n 1000000 then ((h.get id).onW none fun m cs => bif Nat.beq (lenL cs) m && Nat.ble (off + n) m then oGet (intsOf (takeN n (dropN off cs))) none fun L => bif Nat.beq (lenL L) n then some L else none else none) else none
theorem listS_spec {h : H} {v : V} {L : List Int} (hl : listS h v = some L) : Sr iE h v L ∧ L.length ≤ 1000000 := by
  unfold listS at hl
  rcases V.onSl0_ok (by simp) hl with ⟨hv, hl⟩ | ⟨id, off, n, sz, hv, hl⟩
  · cases hl; exact ⟨.inl ⟨hv, rfl⟩, by simp⟩
  · obtain ⟨hc, hl1⟩ := cond_ok (by simp) hl
    rw [Bool.and_eq_true] at hc
    have hsz := Nat.eq_of_beq_eq_true hc.1
    subst hsz
    obtain ⟨m, cs, hb, hl2⟩ := Blk.onW_ok (by simp) hl1
    obtain ⟨hm, hl3⟩ := cond_ok (by simp) hl2
    rw [Bool.and_eq_true] at hm
    have hle := Nat.le_of_ble_eq_true hm.2
    have hm1 : cs.length = m := by rw [← lenL_eq]; exact Nat.eq_of_beq_eq_true hm.1
    obtain ⟨M, hM, hl4⟩ := oGet_some (by simp) hl3
    obtain ⟨hn, hl5⟩ := cond_ok (by simp) hl4
    cases hl5
    have hn : L.length = n := by rw [← lenL_eq]; exact Nat.eq_of_beq_eq_true hn
    subst hn
    refine ⟨.inr ⟨id, off, m, cs, hv, .inl hb, hm1, hle, fun i hi => ?_⟩, Nat.le_of_ble_eq_true hc.2⟩
    have := intsOf_spec hM
    rw [takeN_eq, dropN_eq] at this
    have h2 : ((cs.drop off).take L.length)[i]? = some (.i .i64 L[i]) := by rw [this]; simp [hi]
    rw [List.getElem?_take, if_pos hi, List.getElem?_drop] at h2
    exact h2
noncomputable def containsG (args : List V) (h : H) : Option (V × H) := match args with
  | [x, .i .i64 t] => oGet (listS h x) none fun L => some (.b (memK t L), h)
  | _ => none
theorem containsG_does {Y : Rig} {fs : T EF} (hfs : Fns Y fs) (h130 : fs.get (K.ofNat 130) = some f130) {k : K} (hf : f99.nv = none ∧ ∃ fn c, FnOk Y k f99 fn c) : ∀ args h v h', containsG args h = some (v, h') → Does Y k args h v h' := by
  intro args h v h' he
  unfold containsG at he
  split at he
  · obtain ⟨L, h1, he⟩ := oGet_some (by simp) he
    cases he
    obtain ⟨s1, s2⟩ := listS_spec h1
    obtain ⟨n, r, h2, hr, rfl, rfl⟩ := f99_ret (fs := fs) (x := ‹Int›) h130 s1 s2
    rw [memK_eq]
    exact does_of_run hfs hf hr
  · cases he
noncomputable def diffG (args : List V) : Option V := match args with
  | [.i .i64 a, .i .i64 b] => onNat a fun a => onNat b fun b => bif Nat.ble a 1000 && Nat.ble b 1000 then some (.i .i64 (.ofNat (bif Nat.blt a b then Nat.sub b a else Nat.sub a b))) else none
  | _ => none
theorem diffG_gives {Y : Rig} {fs : T EF} (hfs : Fns Y fs) (h102 : fs.get (K.ofNat 102) = some f102) {k : K} (hf : f101.nv = none ∧ ∃ fn c, FnOk Y k f101 fn c) : ∀ args v, diffG args = some v → Gives Y k args v := by
  intro args v hg
  unfold diffG at hg
  split at hg
  · rename_i a b
    cases a with
    | negSucc m => cases hg
    | ofNat a =>
      cases b with
      | negSucc m => cases hg
      | ofNat b =>
        obtain ⟨hc, hv⟩ := cond_ok (by simp) (show (bif Nat.ble a 1000 && Nat.ble b 1000 then some (V.i .i64 (.ofNat (bif Nat.blt a b then Nat.sub b a else Nat.sub a b))) else none) = some v from hg)
        cases hv
        rw [Bool.and_eq_true] at hc
        have ha := Nat.le_of_ble_eq_true hc.1
        have hb := Nat.le_of_ble_eq_true hc.2
        obtain ⟨n, r, h2, hr, rfl, _⟩ := f101_ret (fs := fs) (a := (a : Int)) (b := (b : Int)) h102 hc_empty (by omega) (by omega)
        have e : absD (a : Int) (b : Int) = .ofNat (bif Nat.blt a b then Nat.sub b a else Nat.sub a b) := by
          unfold absD
          by_cases hlt : a < b
          · rw [if_pos (by omega), show Nat.blt a b = true from Nat.ble_eq_true_of_le hlt]; show (b : Int) - a = ((b - a : Nat) : Int); omega
          · rw [if_neg (by omega), show Nat.blt a b = false by rw [← Bool.not_eq_true]; intro h; exact hlt (Nat.le_of_ble_eq_true h)]; show (a : Int) - b = ((a - b : Nat) : Int); omega
        refine gives_of_eval hfs hf rfl rfl (n := n) ?_
        unfold givesB
        rw [show callF (eval fs n) f101 [.i .i64 (Int.ofNat a), .i .i64 (Int.ofNat b)] ⟨.e, .nil⟩ = _ from hr, e]
        generalize (Int.ofNat (bif Nat.blt a b then Nat.sub b a else Nat.sub a b)) = z
        show (IntKind.i64 == IntKind.i64 && ieq z z) = true
        rw [ieq_eq]; simp
  · cases hg
end Go.Ev
namespace Go.Ev
open Go Go.RowKit
noncomputable def f76_r0 : List EOper := [⟨(some (K.ofNat 2)), none, .as (.c .sn)⟩]
noncomputable def f76_r1 : List EOper := [⟨(some (K.ofNat 3)), none, .mv (.t (K.ofNat 0))⟩, ⟨(some (K.ofNat 4)), none, .isnil false (.t (K.ofNat 3))⟩]
noncomputable def f76_r2 : List EOper := [⟨(some (K.ofNat 2)), none, .as (.c .sn)⟩]
noncomputable def f76_r3 : List EOper := [⟨(some (K.ofNat 5)), none, .bslice 0 1 [] []⟩, ⟨(some (K.ofNat 6)), none, .mv (.t (K.ofNat 0))⟩, ⟨(some (K.ofNat 7)), none, .app 1 (.t (K.ofNat 5)) (.t (K.ofNat 6))⟩, ⟨(some (K.ofNat 2)), none, .as (.t (K.ofNat 7))⟩]
noncomputable def f76_c : EC := (.seq (.reg f76_r0) (.seq (.seq (.reg f76_r1) (.cond (.t (K.ofNat 4)) (.seq (.reg f76_r2) .ret) .skip)) (.seq (.reg f76_r3) .ret)))
noncomputable def f76 : EF := ⟨8, [.tmp (K.ofNat 2)], f76_c, none⟩
theorem f76_rs : f76.rs = [.tmp (K.ofNat 2)] := of_eq_true (eq_self _)
noncomputable def f108_r0 : List EOper := [⟨(some (K.ofNat 6)), none, .box 26 (.t (K.ofNat 0))⟩, ⟨(some (K.ofNat 7)), none, .as (.c (.b false))⟩]
noncomputable def f108_r1 : List EOper := [⟨(some (K.ofNat 13)), none, .ld (.t (K.ofNat 1))⟩, ⟨(some (K.ofNat 14)), none, .len (.t (K.ofNat 13))⟩, ⟨(some (K.ofNat 8)), none, .as (.t (K.ofNat 14))⟩]
noncomputable def f108_r2 : List EOper := [⟨(some (K.ofNat 15)), none, .mv (.t (K.ofNat 8))⟩, ⟨(some (K.ofNat 16)), none, .ld (.t (K.ofNat 2))⟩, ⟨(some (K.ofNat 17)), none, .bin .eql (.t (K.ofNat 15)) (.t (K.ofNat 16))⟩]
noncomputable def f108_r3 : List Stage := [⟨[⟨(some (K.ofNat 18)), none, .ld (.t (K.ofNat 3))⟩, ⟨(some (K.ofNat 19)), none, .ld (.t (K.ofNat 1))⟩], [], (some ⟨(some (K.ofNat 20)), none, .call (.c (.fn (K.ofNat 76) [])) [(.t (K.ofNat 19))]⟩), []⟩, ⟨[], [⟨(some (K.ofNat 18)), none, .ld (.t (K.ofNat 3))⟩], (some ⟨(some (K.ofNat 21)), none, .call (.t (K.ofNat 18)) [(.t (K.ofNat 20))]⟩), []⟩, ⟨[], [], (some ⟨(some (K.ofNat 7)), none, .as (.t (K.ofNat 21))⟩), []⟩, ⟨[], [], none, []⟩]
noncomputable def f108_r4 : List EOper := [⟨(some (K.ofNat 22)), none, .ld (.t (K.ofNat 4))⟩, ⟨(some (K.ofNat 23)), none, .len (.t (K.ofNat 22))⟩, ⟨(some (K.ofNat 24)), none, .bin .add (.t (K.ofNat 23)) (.c (.i .i64 (.ofNat 1)))⟩, ⟨(some (K.ofNat 25)), none, .mv (.c (.i .i64 (.ofNat 0)))⟩]
noncomputable def f108_r5 : List EOper := [⟨(some (K.ofNat 26)), none, .bin .lss (.t (K.ofNat 25)) (.t (K.ofNat 24))⟩]
noncomputable def f108_r6 : List EOper := [⟨(some (K.ofNat 27)), none, .mv (.t (K.ofNat 25))⟩, ⟨(some (K.ofNat 9)), none, .as (.t (K.ofNat 27))⟩]
noncomputable def f108_r7 : List EOper := [⟨(some (K.ofNat 28)), none, .ld (.t (K.ofNat 1))⟩, ⟨(some (K.ofNat 29)), none, .mv (.t (K.ofNat 9))⟩, ⟨(some (K.ofNat 30)), none, .call (.c (.fn (K.ofNat 99) [])) [(.t (K.ofNat 28)), (.t (K.ofNat 29))]⟩]
noncomputable def f108_r8 : List EOper := [⟨(some (K.ofNat 31)), none, .ldn 26 (.t (K.ofNat 6))⟩, ⟨(some (K.ofNat 10)), none, .alloc 26 (List.replicate 26 (.b false))⟩, ⟨none, none, .st 26 (.t (K.ofNat 10)) (.t (K.ofNat 31))⟩]
noncomputable def f108_r9 : List EOper := [⟨(some (K.ofNat 32)), none, .ld (.t (K.ofNat 4))⟩, ⟨(some (K.ofNat 33)), none, .len (.t (K.ofNat 32))⟩, ⟨(some (K.ofNat 34)), none, .mv (.c (.i .i64 (.ofNat 0)))⟩]
noncomputable def f108_r10 : List EOper := [⟨(some (K.ofNat 35)), none, .bin .lss (.t (K.ofNat 34)) (.t (K.ofNat 33))⟩]
noncomputable def f108_r11 : List EOper := [⟨(some (K.ofNat 36)), none, .iads 2 (.t (K.ofNat 32)) (.t (K.ofNat 34))⟩, ⟨(some (K.ofNat 37)), none, .ldn 2 (.t (K.ofNat 36))⟩, ⟨(some (K.ofNat 12)), none, .alloc 2 [(.i .i64 (.ofNat 0)), (.i .i64 (.ofNat 0))]⟩, ⟨none, none, .st 2 (.t (K.ofNat 12)) (.t (K.ofNat 37))⟩]
noncomputable def f108_r12 : List EOper := [⟨(some (K.ofNat 38)), none, .iadr 2 1 (.t (K.ofNat 12)) (.c (.i .i64 (.ofNat 1)))⟩, ⟨(some (K.ofNat 39)), none, .ld (.t (K.ofNat 38))⟩, ⟨(some (K.ofNat 40)), none, .mv (.t (K.ofNat 8))⟩, ⟨(some (K.ofNat 41)), none, .bin .eql (.t (K.ofNat 39)) (.t (K.ofNat 40))⟩, ⟨(some (K.ofNat 42)), none, .mv (.t (K.ofNat 41))⟩, ⟨(some (K.ofNat 43)), (some ((K.ofNat 42), true)), .mv (.t (K.ofNat 9))⟩, ⟨(some (K.ofNat 44)), (some ((K.ofNat 42), true)), .ld (.t (K.ofNat 1))⟩, ⟨(some (K.ofNat 45)), (some ((K.ofNat 42), true)), .iadr 2 1 (.t (K.ofNat 12)) (.c (.i .i64 (.ofNat 0)))⟩, ⟨(some (K.ofNat 46)), (some ((K.ofNat 42), true)), .ld (.t (K.ofNat 45))⟩, ⟨(some (K.ofNat 47)), (some ((K.ofNat 42), true)), .iads 1 (.t (K.ofNat 44)) (.t (K.ofNat 46))⟩, ⟨(some (K.ofNat 48)), (some ((K.ofNat 42), true)), .ld (.t (K.ofNat 47))⟩, ⟨(some (K.ofNat 49)), (some ((K.ofNat 42), true)), .call (.c (.fn (K.ofNat 101) [])) [(.t (K.ofNat 43)), (.t (K.ofNat 48))]⟩, ⟨(some (K.ofNat 50)), (some ((K.ofNat 42), true)), .call (.c (.fn (K.ofNat 100) [])) [(.t (K.ofNat 10)), (.t (K.ofNat 49))]⟩, ⟨(some (K.ofNat 51)), (some ((K.ofNat 42), true)), .not (.t (K.ofNat 50))⟩, ⟨(some (K.ofNat 52)), none, .pick (.t (K.ofNat 42)) (.t (K.ofNat 51)) (.c (.b false))⟩]
noncomputable def f108_r13 : List EOper := [⟨(some (K.ofNat 53)), none, .bin .add (.t (K.ofNat 34)) (.c (.i .i64 (.ofNat 1)))⟩, ⟨(some (K.ofNat 34)), none, .mv (.t (K.ofNat 53))⟩]
noncomputable def f108_l0 : EC := (.seq (.reg f108_r10) (.seq (.cond (.t (K.ofNat 35)) .skip (.exit 2)) (.seq (.block 3 (.seq (.reg f108_r11) (.seq (.reg f108_r12) (.cond (.t (K.ofNat 52)) (.exit 1) .skip)))) (.reg f108_r13))))
noncomputable def f108_r14 : List EOper := [⟨(some (K.ofNat 54)), none, .ld (.t (K.ofNat 1))⟩, ⟨(some (K.ofNat 55)), none, .mv (.t (K.ofNat 9))⟩, ⟨(some (K.ofNat 56)), none, .bslice 1 1 [(.i .i64 (.ofNat 0))] [(0, 1, (.t (K.ofNat 55)))]⟩, ⟨(some (K.ofNat 57)), none, .app 1 (.t (K.ofNat 54)) (.t (K.ofNat 56))⟩, ⟨none, none, .st 1 (.t (K.ofNat 1)) (.t (K.ofNat 57))⟩]
noncomputable def f108_r15 : List EOper := [⟨(some (K.ofNat 58)), none, .ld (.t (K.ofNat 5))⟩, ⟨(some (K.ofNat 59)), none, .ldn 26 (.t (K.ofNat 10))⟩, ⟨(some (K.ofNat 60)), none, .call (.t (K.ofNat 58)) [(.t (K.ofNat 59))]⟩, ⟨(some (K.ofNat 61)), none, .not (.t (K.ofNat 60))⟩]
noncomputable def f108_r16 : List EOper := [⟨(some (K.ofNat 7)), none, .as (.c (.b false))⟩]
noncomputable def f108_r17 : List EOper := [⟨(some (K.ofNat 62)), none, .ld (.t (K.ofNat 1))⟩, ⟨(some (K.ofNat 63)), none, .mv (.t (K.ofNat 8))⟩, ⟨(some (K.ofNat 64)), none, .slice 1 (.t (K.ofNat 62)) none (some (.t (K.ofNat 63))) none⟩, ⟨none, none, .st 1 (.t (K.ofNat 1)) (.t (K.ofNat 64))⟩]
noncomputable def f108_r18 : List EOper := [⟨(some (K.ofNat 65)), none, .bin .add (.t (K.ofNat 25)) (.c (.i .i64 (.ofNat 1)))⟩, ⟨(some (K.ofNat 25)), none, .mv (.t (K.ofNat 65))⟩]
noncomputable def f108_l1 : EC := (.seq (.reg f108_r5) (.seq (.cond (.t (K.ofNat 26)) .skip (.exit 0)) (.seq (.block 1 (.seq (.reg f108_r6) (.seq (.seq (.reg f108_r7) (.cond (.t (K.ofNat 30)) (.exit 1) .skip)) (.seq (.reg f108_r8) (.seq (.seq (.reg f108_r9) (.block 2 (.loop f108_l0))) (.seq (.reg f108_r14) (.seq (.seq (.reg f108_r15) (.cond (.t (K.ofNat 61)) (.seq (.reg f108_r16) .ret) .skip)) (.reg f108_r17)))))))) (.reg f108_r18))))
noncomputable def f108_r19 : List EOper := [⟨(some (K.ofNat 7)), none, .as (.c (.b true))⟩]
noncomputable def f108_c : EC := (.seq (.reg f108_r0) (.scope (.seq (.reg f108_r1) (.seq (.seq (.reg f108_r2) (.cond (.t (K.ofNat 17)) (.seq (.draw f108_r3) .ret) .skip)) (.seq .skip (.seq (.seq (.reg f108_r4) (.block 0 (.loop f108_l1))) (.seq (.reg f108_r19) .ret)))))))
noncomputable def f108 : EF := ⟨66, [.tmp (K.ofNat 7)], f108_c, none⟩
theorem f108_rs : f108.rs = [.tmp (K.ofNat 7)] := of_eq_true (eq_self _)
section
variable {fs : T EF} {ro : Option K}
theorem f76_ret {h : H} {v : V} {L : List Int} (hv : Sr iE h v L) (hc : HC h) (hL : L.length ≤ 1000000) : Ret fs f76 [v] h fun r h' => Sl iE h' r L ∧ Own h.nx.nat r ∧ Grow h.nx.nat h h' := by
  apply ret_of rfl
  show W fs none f76_c _ _ _
  unfold f76_c
  by_cases hn : v = .sn
  · subst hn
    have hL0 : L = [] := by rcases hv with ⟨_, h⟩ | ⟨_, _, _, _, h, _⟩ <;> first | exact h | cases h
    subst hL0
    simp (disch := omega) only [f76_r0, f76_r1, f76_r2, f76_rs, w_reg, w_seq, w_cond, w_ret, seqK_n, seqK_r, ckB_b, cbB_b, true_and, retK_r, x_nil, x_mv, x_as, x_isnil, kx, rvP_ok, ev_t, ev_c, getV_some, putD_some, oGet_s, isnil_sn, readRs_nil, readRs_t, retV_1, frame_1, Option.some.injEq, exists_eq_left', getK_set, Nat.reduceEqDiff, ↓reduceIte, Bool.not_false, isnil_sn]
    exact ⟨Sl.nil, Own.sn, Grow.refl _ _⟩
  · have hni : isnilV false v h = .ok (.b false) h := by
      rcases hv with ⟨h, _⟩ | ⟨_, _, _, _, h, _⟩
      · exact absurd h hn
      · rw [h]; rfl
    have h0 : Sl iE (h.new (.cells (0 * 1) [])) (.sl h.nx 0 0 1) ([] : List Int) := .inr ⟨h.nx, 0, 0 * 1, [], rfl, get_new_same, rfl, by simp, fun i hi => absurd hi (by simp)⟩
    have g1 : Grow h.nx.nat h (h.new (.cells (0 * 1) [])) := Grow.new (Nat.le_refl _) _
    have n1 := nx_new h (.cells (0 * 1) [])
    have hv1 := hv.grow hc g1
    obtain ⟨v2, h2, p1, p2, p3, p4, _⟩ := Sl.appA (b := h.nx.nat) h0 (fun _ _ _ _ e => by cases e; exact Nat.le_refl _) g1.nx (u := v) (M := L) hv1.addOf (g1.hc hc) (by simp; omega)
    simp (disch := omega) only [f76_r0, f76_r1, f76_r3, f76_rs, w_skip, w_reg, w_seq, w_cond, w_ret, seqK_n, ckB_b, cbB_b, true_and, retK_r, x_nil, x_mv, x_as, x_bslice, x_app, x_isnil, kx, rvP_ok, ev_t, ev_c, getV_some, putD_some, oGet_s, readRs_nil, readRs_t, retV_1, frame_1, Option.some.injEq, exists_eq_left', getK_set, Nat.reduceEqDiff, ↓reduceIte, Bool.false_eq_true, fill_0, hni, p1]
    exact ⟨by simpa using p2, p3, g1.trans p4⟩
/-! ### The lists of labels -/
/-- One edge more, when the node that is labelled is its end. -/
def stepO (L : List Int) (x : Int) (o : Option (List Bool)) (e : Int × Int) : Option (List Bool) := match o with
  | none => none
  | some A => if e.2 = (L.length : Int) then (if A.getD (absD x (L.getD e.1.toNat 0)).toNat true = true then none else some (A.set (absD x (L.getD e.1.toNat 0)).toNat true)) else some A
def stepE (E : List (Int × Int)) (L : List Int) (x : Int) (A : List Bool) : Option (List Bool) := E.foldl (stepO L x) (some A)
def subG (E : List (Int × Int)) (rec_ : List Int → List Bool → List (List Int)) (L : List Int) (A : List Bool) (x : Nat) : List (List Int) := if (x : Int) ∈ L then [] else match stepE E L (x : Int) A with | none => [] | some A' => rec_ (L ++ [(x : Int)]) A'
/-- All labels that go on from some, in order. -/
def enumL (E : List (Int × Int)) : Nat → List Int → List Bool → List (List Int)
  | 0, L, _ => [L]
  | f + 1, L, A => (List.range (E.length + 1)).flatMap (subG E (enumL E f) L A)
def subL (E : List (Int × Int)) (f : Nat) (L : List Int) (A : List Bool) (x : Nat) : List (List Int) := subG E (enumL E f) L A x
theorem enumL_succ {E : List (Int × Int)} {f : Nat} {L : List Int} {A : List Bool} : enumL E (f + 1) L A = (List.range (E.length + 1)).flatMap (subL E f L A) := rfl
theorem subL_in {E : List (Int × Int)} {f : Nat} {L : List Int} {A : List Bool} {x : Nat} (h : (x : Int) ∈ L) : subL E f L A x = [] := by unfold subL subG; rw [if_pos h]
theorem subL_no {E : List (Int × Int)} {f : Nat} {L : List Int} {A : List Bool} {x : Nat} (h : (x : Int) ∉ L) (hs : stepE E L (x : Int) A = none) : subL E f L A x = [] := by unfold subL subG; rw [if_neg h, hs]
theorem subL_on {E : List (Int × Int)} {f : Nat} {L : List Int} {A A' : List Bool} {x : Nat} (h : (x : Int) ∉ L) (hs : stepE E L (x : Int) A = some A') : subL E f L A x = enumL E f (L ++ [(x : Int)]) A' := by unfold subL subG; rw [if_neg h, hs]
def uptoL (E : List (Int × Int)) (f : Nat) (L : List Int) (A : List Bool) (x : Nat) : List (List Int) := (List.range x).flatMap (subL E f L A)
theorem uptoL_succ {E : List (Int × Int)} {f : Nat} {L : List Int} {A : List Bool} {x : Nat} : uptoL E f L A (x + 1) = uptoL E f L A x ++ subL E f L A x := by
  unfold uptoL; rw [List.range_succ, List.flatMap_append]; simp
theorem foldl_none {L : List Int} {x : Int} : ∀ E : List (Int × Int), E.foldl (stepO L x) none = none
  | [] => rfl
  | _ :: E => foldl_none E
theorem stepE_take {E : List (Int × Int)} {L : List Int} {x : Int} {A : List Bool} {j : Nat} (hj : j < E.length) : stepE (E.take (j + 1)) L x A = stepO L x (stepE (E.take j) L x A) E[j] := by
  unfold stepE; rw [List.take_succ_eq_append_getElem hj, List.foldl_append]; rfl
theorem stepE_none {E : List (Int × Int)} {L : List Int} {x : Int} {A : List Bool} {j : Nat} (hn : stepE (E.take j) L x A = none) : stepE E L x A = none := by
  unfold stepE at hn ⊢
  rw [← List.take_append_drop j E, List.foldl_append, hn, foldl_none]
/-- The edges of a graph. -/
def EdgesOk (n : Nat) (E : List (Int × Int)) : Prop := E.length ≤ 10 ∧ n ≤ 7 ∧ ∀ e ∈ E, 0 ≤ e.1 ∧ e.1 < e.2 ∧ e.2 < (n : Int)
def LabOk (E : List (Int × Int)) (L : List Int) : Prop := ∀ x ∈ L, 0 ≤ x ∧ x ≤ (E.length : Int)
end
/-! ### What stands while the labels are given -/
/-- The cells of the labels, of the function's own value, of the loop's body. -/
structure GS (b : Nat) (idL idY idG id : K) (fv : V) (h : H) (u : V) (L : List Int) : Prop where
  hc : HC h
  eY : h.get idY = .cells 1 [.yl id]
  eG : h.get idG = .cells 1 [fv]
  eL : h.get idL = .cells 1 [u]
  sl : Sl iE h u L
  own : Own b u
  nY : NotIn idY u
  nL : NotIn idL u
  nG : NotIn idG u
  bY : b ≤ idY.nat
  bL : b ≤ idL.nat
  bG : b ≤ idG.nat
  lY : idL ≠ idY
  lG : idL ≠ idG
/-- Of the blocks from b on, what neither the labels' cell nor their slice is stays. -/
structure GK (b : Nat) (idL : K) (h : H) (u : V) (h' : H) (u' : V) : Prop where
  nx : h.nx.nat ≤ h'.nx.nat
  old : ∀ x : K, x.nat < h.nx.nat → b ≤ x.nat → x ≠ idL → NotIn x u → h'.get x = h.get x ∧ NotIn x u'
section
variable {b : Nat} {idL idY idG id : K} {fv : V} {h h' h2 : H} {u u' u2 : V} {L M : List Int}
theorem GK.trans (k : GK b idL h u h' u') (l : GK b idL h' u' h2 u2) : GK b idL h u h2 u2 := ⟨Nat.le_trans k.nx l.nx, fun x h1 h2' h3 h4 => by
  obtain ⟨p1, p2⟩ := k.old x h1 h2' h3 h4
  obtain ⟨q1, q2⟩ := l.old x (Nat.lt_of_lt_of_le h1 k.nx) h2' h3 p2
  exact ⟨q1.trans p1, q2⟩⟩
/-- Blocks that are none of these may turn. -/
theorem GS.keep (g : GS b idL idY idG id fv h u L) (hc : HC h') (hk : ∀ y : K, b ≤ y.nat → y.nat < h.nx.nat → (y = idY ∨ y = idL ∨ y = idG ∨ ¬ NotIn y u) → h'.get y = h.get y) : GS b idL idY idG id fv h' u L := by
  have lt : ∀ {y : K} {m : Nat} {cs : List V}, h.get y = .cells m cs → y.nat < h.nx.nat := fun e => g.hc.cells e
  refine ⟨hc, ?_, ?_, ?_, g.sl.same fun y off n sz e => ?_, g.own, g.nY, g.nL, g.nG, g.bY, g.bL, g.bG, g.lY, g.lG⟩
  · rw [hk _ g.bY (lt g.eY) (.inl rfl)]; exact g.eY
  · rw [hk _ g.bG (lt g.eG) (.inr (.inr (.inl rfl)))]; exact g.eG
  · rw [hk _ g.bL (lt g.eL) (.inr (.inl rfl))]; exact g.eL
  · exact hk y (g.own _ _ _ _ e) (g.sl.lt g.hc _ _ _ _ e) (.inr (.inr (.inr fun hn => hn _ _ _ e)))
theorem GS.grow (g : GS b idL idY idG id fv h u L) {c : Nat} (hg : Grow c h h') (hb : h.nx.nat ≤ c) : GS b idL idY idG id fv h' u L := g.keep (hg.hc g.hc) fun y _ hy _ => hg.old y (by omega)
theorem GK.grow {c : Nat} (hg : Grow c h h') (hb : h.nx.nat ≤ c) : GK b idL h u h' u := ⟨hg.nx, fun x h1 _ _ hn => ⟨hg.old x (by omega), hn⟩⟩
/-- The labels' cell is written. -/
theorem GS.write (g : GS b idL idY idG id fv h u L) (hs : Sl iE h u' M) (ho : Own b u') (n1 : NotIn idY u') (n2 : NotIn idL u') (n3 : NotIn idG u') : GS b idL idY idG id fv (h.put idL (.cells 1 [u'])) u' M := by
  have hl := g.hc.cells g.eL
  refine ⟨(Grow.put (b := 0) (Nat.zero_le _) hl _).hc g.hc, ?_, ?_, get_put_same, hs.put n2 _, ho, n1, n2, n3, g.bY, g.bL, g.bG, g.lY, g.lG⟩
  · rw [get_put_other g.lY.symm]; exact g.eY
  · rw [get_put_other g.lG.symm]; exact g.eG
end
end Go.Ev
namespace Go.Ev
open Go Go.RowKit
theorem Srp.same {h h' : H} {v : V} {L : List (Int × Int)} (hs : Srp h v L) (hg : ∀ id off n sz, v = .sl id off n sz → h'.get id = h.get id) : Srp h' v L := by
  rcases hs with h0 | ⟨id, off, m, cs, rfl, hb, hx⟩
  · exact .inl h0
  · exact .inr ⟨id, off, m, cs, rfl, by rw [hg _ _ _ _ rfl]; exact hb, hx⟩
section
variable {fs : T EF} {ro : Option K}
/-- Memory of which one block, and new ones, may differ. -/
structure HXc (z : K) (h h1 : H) : Prop where
  nx : h.nx.nat ≤ h1.nx.nat
  hc : HC h1
  old : ∀ y : K, y.nat < h.nx.nat → y ≠ z → h1.get y = h.get y
theorem HXc.grow {z : K} {h h1 h2 : H} {c : Nat} (t : HXc z h h1) (g : Grow c h1 h2) (hc : h.nx.nat ≤ c) : HXc z h h2 := ⟨Nat.le_trans t.nx g.nx, g.hc t.hc, fun y hy hn => (g.old y (by omega)).trans (t.old y hy hn)⟩
theorem HXc.put {z : K} {h h1 : H} (t : HXc z h h1) (hz : z.nat < h1.nx.nat) (x : Blk) : HXc z h (h1.put z x) := ⟨t.nx, (Grow.put (b := 0) (Nat.zero_le _) hz x).hc t.hc, fun y hy hn => by rw [get_put_other hn]; exact t.old y hy hn⟩
def f108_J (h : H) (idL id6 id10 : K) (_ q2 q3 q4 q5 ev : V) (E : List (Int × Int)) (L : List Int) (x : Nat) (A : List Bool) (j : Nat) (fr : Fr) (h1 : H) : Prop :=
  j ≤ E.length ∧ HXc id10 h h1 ∧ ∃ B : List Bool, B.length = 26 ∧ stepE (E.take j) L (x : Int) A = some B ∧ h1.get id10 = .cells 26 (B.map V.b) ∧ fr.get (K.ofNat 1) = some (.p idL 0) ∧ fr.get (K.ofNat 2) = some (q2) ∧ fr.get (K.ofNat 3) = some (q3) ∧ fr.get (K.ofNat 4) = some (q4) ∧ fr.get (K.ofNat 5) = some (q5) ∧ fr.get (K.ofNat 6) = some (.p id6 0) ∧ fr.get (K.ofNat 8) = some (.i .i64 (L.length : Int)) ∧ fr.get (K.ofNat 9) = some (.i .i64 (x : Int)) ∧ fr.get (K.ofNat 10) = some (.p id10 0) ∧ fr.get (K.ofNat 24) = some (.i .i64 ((E.length + 1 : Nat) : Int)) ∧ fr.get (K.ofNat 25) = some (.i .i64 (x : Int)) ∧ fr.get (K.ofNat 32) = some (ev) ∧ fr.get (K.ofNat 33) = some (.i .i64 (E.length : Int)) ∧ fr.get (K.ofNat 34) = some (.i .i64 (j : Int))
theorem f108_inner {Q : Ex → Fr → H → Prop} {h h0 : H} {idL id6 id10 : K} {q1 q2 q3 q4 q5 ev u : V} {E : List (Int × Int)} {L : List Int} {x n : Nat} {A : List Bool} {fr : Fr}
    (h101 : fs.get (K.ofNat 101) = some f101) (h102 : fs.get (K.ofNat 102) = some f102) (h100 : fs.get (K.ofNat 100) = some f100)
    (hE : EdgesOk n E) (hLab : LabOk E L) (hx : x ≤ E.length) (hev : Srp h ev E) (hnev : ∀ off n sz, ev ≠ .sl id10 off n sz) (hu : h.get idL = .cells 1 [u]) (hs : Sl iE h u L) (hnu : NotIn id10 u) (hne : idL ≠ id10) (h10 : id10.nat < h.nx.nat) (hch : HC h)
    (hI : f108_J h idL id6 id10 q1 q2 q3 q4 q5 ev E L x A 0 fr h0)
    (hno : ∀ fr h1, stepE E L (x : Int) A = none → HXc id10 h h1 → fr.get (K.ofNat 1) = some (.p idL 0) ∧ fr.get (K.ofNat 2) = some (q2) ∧ fr.get (K.ofNat 3) = some (q3) ∧ fr.get (K.ofNat 4) = some (q4) ∧ fr.get (K.ofNat 5) = some (q5) ∧ fr.get (K.ofNat 6) = some (.p id6 0) ∧ fr.get (K.ofNat 8) = some (.i .i64 (L.length : Int)) ∧ fr.get (K.ofNat 24) = some (.i .i64 ((E.length + 1 : Nat) : Int)) ∧ fr.get (K.ofNat 25) = some (.i .i64 (x : Int)) → Q (.exit 1) fr h1)
    (hon : ∀ fr h1, f108_J h idL id6 id10 q1 q2 q3 q4 q5 ev E L x A E.length fr h1 → Q (.exit 2) fr h1) : W fs ro (.loop f108_l0) Q fr h0 := by
  refine W_loop (f108_J h idL id6 id10 q1 q2 q3 q4 q5 ev E L x A) (fun j => E.length - j) ?_ 0 hI
  clear hI fr h0
  rintro j fr h1 ⟨hj, hX, B, hB, hst, hb10, g1, g2, g3, g4, g5, g6, g8, g9, g10, g24, g25, g32, g33, g34⟩
  obtain ⟨hE1, hE2, hE3⟩ := hE
  have hel : E.length ≤ 10 := hE1
  have hev1 : Srp h1 ev E := hev.same fun y off n sz e => hX.old y (by
    rcases hev with ⟨h0, _⟩ | ⟨id', off', m, cs, h0, hb, _⟩
    · rw [h0] at e; cases e
    · rw [h0] at e; cases e; exact hch.lt (by rcases hb with hb | hb <;> rw [hb] <;> simp)) (fun e2 => hnev off n sz (by rw [e, e2]))
  unfold f108_l0
  by_cases hlt : j < E.length
  · have d0 : decide ((j : Int) < (E.length : Int)) = true := by simpa using hlt
    obtain ⟨ide, q, hp1, hp2, _, _⟩ := hev1.at2 hlt
    obtain ⟨e0, e1, e2⟩ := hE3 E[j] (List.getElem_mem hlt)
    have hsnoc := stepE_take (L := L) (x := (x : Int)) (A := A) hlt
    rw [hst] at hsnoc
    obtain ⟨a, ha⟩ : ∃ a : Nat, E[j].1 = (a : Int) := ⟨E[j].1.toNat, by omega⟩
    -- the edge's own cell
    have hst2 : storeV (h1.new (.cells 2 zz)) 2 (.p h1.nx 0) (.agg [.i .i64 E[j].1, .i .i64 E[j].2]) = .ok undefV ((h1.new (.cells 2 zz)).put h1.nx (.cells 2 [.i .i64 E[j].1, .i .i64 E[j].2])) := st2 (a := .i .i64 (.ofNat 0)) (b := .i .i64 (.ofNat 0)) get_new_same
    have nx1 := nx_new h1 (.cells 2 zz)
    have gA : Grow h1.nx.nat h1 ((h1.new (.cells 2 zz)).put h1.nx (.cells 2 [.i .i64 E[j].1, .i .i64 E[j].2])) := (Grow.new (Nat.le_refl _) _).trans (Grow.put (Nat.le_refl _) (by omega) _)
    have c12 : ((h1.new (.cells 2 zz)).put h1.nx (.cells 2 [.i .i64 E[j].1, .i .i64 E[j].2])).get h1.nx = .cells 2 [.i .i64 E[j].1, .i .i64 E[j].2] := get_put_same
    have hX2 := hX.grow gA hX.nx
    have hzz : ([.i .i64 0, .i .i64 0] : List V) = zz := rfl
    generalize hh2 : (h1.new (.cells 2 zz)).put h1.nx (.cells 2 [.i .i64 E[j].1, .i .i64 E[j].2]) = h2 at *
    have l0 : loadV h2 (.p h1.nx (0 + 0 * 1)) one? = .ok (.i .i64 E[j].1) h2 := load_p c12 rfl
    have l1 : loadV h2 (.p h1.nx (0 + 1 * 1)) one? = .ok (.i .i64 E[j].2) h2 := load_p c12 rfl
    by_cases hend : E[j].2 = (L.length : Int)
    · have d1 : decide (E[j].2 = (L.length : Int)) = true := by simpa using hend
      have haL : a < L.length := by omega
      have hs2 : Sl iE h2 u L := hs.same fun y off n sz e => hX2.old y (hs.lt hch _ _ _ _ e) (fun e2 => hnu off n sz (by rw [e, e2]))
      obtain ⟨p, hp3, hp4⟩ := hs2.at a haL
      have lu : loadV h2 (.p idL 0) one? = .ok u h2 := load_p ((hX2.old idL (hch.cells hu) hne).trans hu) rfl
      obtain ⟨b0, b1⟩ := hLab L[a] (List.getElem_mem haL)
      have hgd : L.getD E[j].1.toNat 0 = L[a] := by rw [ha]; simp [haL]
      rw [ha] at l0
      simp (disch := omega) only [f108_r10, f108_r11, f108_r12, w_skip, w_reg, w_seq, w_cond, w_block, seqK_n, ckB_b, cbB_b, okG_b, asG_t, true_and, x_nil, x_g, x_mv, x_alloc, x_ld, x_ldn, x_st, x_bin, x_iadr, x_iads, x_call, kx, rvP_ok, okv_some, ev_t, ev_c, evs_nil, evs_cons, getV_some, putD_some, putD_none, bin_eql, bin_lss, onP_p, of0, of1, getK_set, Nat.reduceEqDiff, ↓reduceIte, ix2_0, ix2_1, g1, g8, g9, g32, g33, g34, d0, hp1, hp2, hzz, hst2, l0, l1, d1, lu, hp3, hp4, iE]
      refine (callP_0 (ef := f101) h101 rfl (f101_ret (a := (x : Int)) (b := L[a]) h102 hX2.hc (by omega) (by omega))).mono ?_
      rintro r h3 ⟨rfl, gB⟩
      have hX3 := hX2.grow gB hX2.nx
      have hda : 0 ≤ absD (x : Int) L[a] ∧ absD (x : Int) L[a] ≤ 10 := by unfold absD; split <;> omega
      obtain ⟨d, hd⟩ : ∃ d : Nat, absD (x : Int) L[a] = (d : Int) := ⟨(absD (x : Int) L[a]).toNat, by omega⟩
      have hd26 : d < 26 := by omega
      have hAr : Ar V.b h3 id10 B := by
        unfold Ar
        rw [hB, gB.old id10 (by have := hX2.nx; omega), ← hh2]
        rw [get_put_other (fun e => by have := hX.nx; rw [e] at h10; omega), get_new_old (by have := hX.nx; omega)]
        exact hb10
      rw [hd]
      simp (disch := omega) only [okG_b, asG_t, true_and, x_g, x_call, kx, ev_t, ev_c, evs_nil, evs_cons, getV_some, putD_some, getK_set, Nat.reduceEqDiff, ↓reduceIte, g10]
      refine (callP_0 (ef := f100) h100 rfl (f100_ret hAr hB hd26)).mono ?_
      rintro r h4 ⟨rfl, rfl⟩
      have hgB : B.getD d true = B[d]'(by omega) := by simp [hB, hd26]
      have hstep : stepO L (x : Int) (some B) E[j] = if B[d]'(by omega) = true then none else some (B.set d true) := by
        unfold stepO
        simp only [hend, if_true, hgd, hd, Int.toNat_natCast, hgB]
      cases hbd : B[d]'(by omega) with
      | true =>
        rw [hbd] at hstep
        simp (disch := omega) only [w_cond, w_exit, seqK_n, seqK_e, atK_e, loopK_e, ckB_b, cbB_b, okG_b, asG_t, true_and, x_nil, x_g, x_pick, x_not, kx, rvP_ok, ev_t, ev_c, getV_some, putD_some, pick_b, onB_b, getK_set, Nat.reduceEqDiff, ↓reduceIte, Bool.not_true, Bool.not_false]
        refine hno _ _ (stepE_none (j := j + 1) (by rw [hsnoc, hstep]; rfl)) hX3 ?_
        simp (disch := omega) only [getK_set, Nat.reduceEqDiff, ↓reduceIte, g1, g2, g3, g4, g5, g6, g8, g24, g25, and_self]
      | false =>
        rw [hbd] at hstep
        have hX4 : HXc id10 h (h3.put id10 (.cells 26 ((B.set d true).map V.b))) := hX3.put (by have := hX3.nx; omega) _
        simp (disch := omega) only [f108_r13, w_skip, w_reg, w_cond, seqK_n, atK_n, loopK_n, ckB_b, cbB_b, okG_b, asG_t, true_and, x_nil, x_g, x_mv, x_pick, x_bin, x_not, kx, rvP_ok, okv_some, ev_t, ev_c, getV_some, putD_some, bin_add, pick_b, onB_b, of1, getK_set, Nat.reduceEqDiff, ↓reduceIte, Bool.false_eq_true, Bool.not_true, Bool.not_false, g34, fw64]
        refine ⟨j + 1, by omega, by omega, hX4, B.set d true, by simpa using hB, by rw [hsnoc, hstep]; rfl, get_put_same, ?_⟩
        simp (disch := omega) only [getK_set, Nat.reduceEqDiff, ↓reduceIte, g1, g2, g3, g4, g5, g6, g8, g9, g10, g24, g25, g32, g33, and_self, Int.natCast_add, Int.natCast_one]
    · have d1 : decide (E[j].2 = (L.length : Int)) = false := by simpa using hend
      have hstep : stepO L (x : Int) (some B) E[j] = some B := by unfold stepO; simp only [hend, if_false]
      simp (disch := omega) only [f108_r10, f108_r11, f108_r12, f108_r13, w_skip, w_reg, w_seq, w_cond, w_block, seqK_n, atK_n, loopK_n, ckB_b, cbB_b, okG_b, asG_t, true_and, x_nil, x_g, x_mv, x_pick, x_alloc, x_ld, x_ldn, x_st, x_bin, x_iadr, x_iads, kx, rvP_ok, okv_some, ev_t, ev_c, getV_some, putD_some, putD_none, bin_add, bin_eql, bin_lss, pick_b, onP_p, of0, of1, getK_set, Nat.reduceEqDiff, ↓reduceIte, Bool.false_eq_true, ix2_1, g8, g32, g33, g34, d0, hp1, hp2, hzz, hst2, l1, d1, fw64]
      refine ⟨j + 1, by omega, by omega, hX2, B, hB, by rw [hsnoc, hstep], ?_, ?_⟩
      · rw [gA.old id10 (by have := hX.nx; omega)]; exact hb10
      · simp (disch := omega) only [getK_set, Nat.reduceEqDiff, ↓reduceIte, g1, g2, g3, g4, g5, g6, g8, g9, g10, g24, g25, g32, g33, and_self, Int.natCast_add, Int.natCast_one]
  · have d0 : decide ((j : Int) < (E.length : Int)) = false := by simpa using hlt
    obtain rfl : j = E.length := by omega
    simp (disch := omega) only [f108_r10, w_reg, w_seq, w_cond, w_exit, seqK_n, seqK_e, loopK_e, ckB_b, cbB_b, true_and, x_nil, x_bin, kx, rvP_ok, okv_some, ev_t, getV_some, putD_some, bin_lss, getK_set, ↓reduceIte, Bool.false_eq_true, g33, g34, d0]
    refine hon _ _ ⟨Nat.le_refl _, hX, B, hB, hst, hb10, ?_⟩
    simp (disch := omega) only [getK_set, Nat.reduceEqDiff, ↓reduceIte, g1, g2, g3, g4, g5, g6, g8, g9, g10, g24, g25, g32, g33, g34, and_self]
end
end Go.Ev
namespace Go.Ev
open Go Go.RowKit
theorem frame_6l {v1 v2 v3 v4 v5 v6 : V} : frame .e [v1, v2, v3, v4, v5, v6] .nil = T.set (K.ofNat 5) v6 (T.set (K.ofNat 4) v5 (T.set (K.ofNat 3) v4 (T.set (K.ofNat 2) v3 (T.set (K.ofNat 1) v2 (T.set (K.ofNat 0) v1 .nil))))) := of_eq_true (eq_self _)
theorem cells26 {A : List Bool} (h : A.length = 26) : cellsN 26 (.agg (A.map V.b)) = some (A.map V.b) := by
  show (bif Nat.beq (lenL (A.map V.b)) 26 then some (A.map V.b) else none) = _
  rw [lenL_eq, List.length_map, h]; rfl
theorem st26 {h : H} {id : K} {cs0 : List V} {A : List Bool} (hb : h.get id = .cells 26 cs0) (hl : cs0.length = 26) (hA : A.length = 26) : storeV h 26 (.p id 0) (.agg (A.map V.b)) = .ok undefV (h.put id (.cells 26 (A.map V.b))) := by
  rw [store_p hb (cells26 hA) (by omega), setMany_eq _ _ _ (by simp; omega)]
  congr 3
  simp [hl, hA]
/-- A round touches what is old, and makes what is new. -/
structure Mid (b : Nat) (h h' : H) : Prop where
  nx : h.nx.nat ≤ h'.nx.nat
  hc : HC h'
  old : ∀ x : K, b ≤ x.nat → x.nat < h.nx.nat → h'.get x = h.get x
/-- What the body of the loop looks at stays when all that is old does. -/
structure Cons (b : Nat) (n : Nat) (E : List (Int × Int)) (ev : V) (idn ide : K) (I : Nat → H → Prop) : Prop where
  mem : ∀ i h, I i h → h.get idn = .cells 1 [.i .i64 (n : Int)] ∧ h.get ide = .cells 1 [ev] ∧ Srp h ev E
  stab : ∀ i h h', I i h → (∀ x : K, x.nat < b → h'.get x = h.get x) → I i h'
  bn : idn.nat < b
  be : ide.nat < b
  bev : ∀ id off n sz, ev = .sl id off n sz → id.nat < b
theorem uptoL_split {E : List (Int × Int)} {f : Nat} {L : List Int} {A : List Bool} {x : Nat} : ∀ m : Nat, x < m → ∃ R, uptoL E f L A m = uptoL E f L A x ++ (subL E f L A x ++ R)
  | 0, h => by omega
  | m + 1, h => by
    rw [uptoL_succ]
    by_cases e : x = m
    · subst e; exact ⟨[], by simp⟩
    · obtain ⟨R, hR⟩ := uptoL_split (E := E) (f := f) (L := L) (A := A) (x := x) m (by omega)
      exact ⟨R ++ subL E f L A m, by rw [hR]; simp⟩
structure CallsG (fs : T EF) : Prop where
  c76 : fs.get (K.ofNat 76) = some f76
  c99 : fs.get (K.ofNat 99) = some f99
  c100 : fs.get (K.ofNat 100) = some f100
  c101 : fs.get (K.ofNat 101) = some f101
  c102 : fs.get (K.ofNat 102) = some f102
  c108 : fs.get (K.ofNat 108) = some f108
  c130 : fs.get (K.ofNat 130) = some f130
section
variable {fs : T EF}
def giveV (idL idn idY ide idG : K) : V := .fn (K.ofNat 108) [.p idL 0, .p idn 0, .p idY 0, .p ide 0, .p idG 0]
def f108_O (b _ : Nat) (E : List (Int × Int)) (f : Nat) (A : List Bool) (I : Nat → H → Prop) (idL idn idY ide idG id id6 : K) (h : H) (u : V) (L : List Int) (p0 : Nat) (x : Nat) (fr : Fr) (h1 : H) : Prop :=
  x ≤ E.length + 1 ∧ ∃ u1, GS b idL idY idG id (giveV idL idn idY ide idG) h1 u1 L ∧ I (p0 + (uptoL E f L A x).length) h1 ∧ GK b idL h u h1 u1 ∧ h1.get id6 = .cells 26 (A.map V.b) ∧ NotIn id6 u1 ∧ id6.nat < h1.nx.nat ∧
    fr.get (K.ofNat 1) = some (.p idL 0) ∧ fr.get (K.ofNat 2) = some (.p idn 0) ∧ fr.get (K.ofNat 3) = some (.p idY 0) ∧ fr.get (K.ofNat 4) = some (.p ide 0) ∧ fr.get (K.ofNat 5) = some (.p idG 0) ∧ fr.get (K.ofNat 6) = some (.p id6 0) ∧ fr.get (K.ofNat 8) = some (.i .i64 (L.length : Int)) ∧ fr.get (K.ofNat 24) = some (.i .i64 ((E.length + 1 : Nat) : Int)) ∧ fr.get (K.ofNat 25) = some (.i .i64 (x : Int))
theorem give_call {b n : Nat} {E : List (Int × Int)} {ev : V} {idn ide idL idY idG id : K} {I : Nat → H → Prop} {D : H → Prop} {Y : List (List Int)} (kk : CallsG fs) (hE : EdgesOk n E) (hC : Cons b n E ev idn ide I)
    (round : ∀ i h v (hi : i < Y.length), I i h → HC h → b ≤ h.nx.nat → Sl iE h v Y[i] → Own b v → ∃ r h', Round fs id v h r h' ∧ Mid b h h' ∧ (r = true → I (i + 1) h') ∧ (r = false → D h')) :
    ∀ (f : Nat) (L : List Int) (A : List Bool) (pre post : List (List Int)) (h : H) (u : V), L.length + f = n → Y = pre ++ (enumL E f L A ++ post) → GS b idL idY idG id (giveV idL idn idY ide idG) h u L → I pre.length h → A.length = 26 → LabOk E L →
      CallP fs (giveV idL idn idY ide idG) [.agg (A.map V.b)] h fun r h' => ∃ t, r = .b t ∧ (t = true → ∃ u', GS b idL idY idG id (giveV idL idn idY ide idG) h' u' L ∧ GK b idL h u h' u' ∧ I (pre.length + (enumL E f L A).length) h') ∧ (t = false → D h') := by
  intro f
  induction f with
  | zero =>
    intro L A pre post h u hn hY g hI hA hLab
    refine callP_of (ef := f108) kk.c108 rfl ?_
    show Ret fs f108 [.agg (A.map V.b), .p idL 0, .p idn 0, .p idY 0, .p ide 0, .p idG 0] h _
    apply ret_of rfl
    show W fs none f108_c _ _ _
    unfold f108_c
    have hb : b ≤ h.nx.nat := by have := g.bY; have := g.hc.cells g.eY; omega
    have gA : Grow h.nx.nat h (h.new (.cells 26 (A.map V.b))) := Grow.new (Nat.le_refl _) _
    have G1 := g.grow gA (Nat.le_refl _)
    have I1 := hC.stab _ _ (h.new (.cells 26 (A.map V.b))) hI fun x hx => gA.old x (by omega)
    have k1 : GK b idL h u (h.new (.cells 26 (A.map V.b))) u := GK.grow gA (Nat.le_refl _)
    have hcA := cells26 hA
    generalize hh1 : h.new (.cells 26 (A.map V.b)) = h1 at *
    obtain ⟨en, ee, es⟩ := hC.mem _ _ I1
    have lu : loadV h1 (.p idL 0) one? = .ok u h1 := load_p G1.eL rfl
    have ln : loadV h1 (.p idn 0) one? = .ok (.i .i64 (n : Int)) h1 := load_p en rfl
    have lY : loadV h1 (.p idY 0) one? = .ok (.yl id) h1 := load_p G1.eY rfl
    have d1 : decide ((L.length : Int) = (n : Int)) = true := by simp; omega
    simp (disch := omega) only [f108_r0, f108_r1, f108_r2, f108_r3, w_reg, w_draw, w_seq, w_cond, w_scope, seqK_n, ckB_b, cbB_b, true_and, x_nil, x_mv, x_as, x_box, x_ld, x_bin, x_call, x_len, kx, kg, xg_nil, xg_ld, xd_cons, fresh_nil, stK_s, stay_nil, rvP_ok, okv_some, ev_t, ev_c, evs_nil, evs_cons, getV_some, putD_some, bin_eql, oGet_s, getK_set, Nat.reduceEqDiff, ↓reduceIte, frame_6l, hcA, hh1, lu, G1.sl.len, ln, lY, d1]
    have hLl : L.length ≤ 1000000 := by have := hE.2.1; omega
    refine (callP_0 (ef := f76) kk.c76 rfl (f76_ret G1.sl.sr G1.hc hLl)).mono ?_
    rintro v h2 ⟨sv, ov, gB⟩
    have G2 := G1.grow gB (Nat.le_refl _)
    have I2 := hC.stab _ _ h2 I1 fun x hx => gB.old x (by have := k1.nx; omega)
    have k2 := k1.trans (GK.grow (u := u) gB (Nat.le_refl _))
    have lY2 : loadV h2 (.p idY 0) one? = .ok (.yl id) h2 := load_p G2.eY rfl
    have hi : pre.length < Y.length := by rw [hY]; simp [enumL]
    have hYi : Y[pre.length] = L := by simp [hY, enumL]
    obtain ⟨r, h3, hr, md, h4, h5⟩ := round pre.length h2 v hi I2 G2.hc (by have := k2.nx; omega) (by rw [hYi]; exact sv) (ov.low (by have := k1.nx; omega))
    simp (disch := omega) only [true_and, x_nil, x_call, kx, xg_nil, xd_cons, fresh_nil, stK_s, stay_nil, stay_cons, again_ok, stay_ld, ev_t, evs_nil, evs_cons, getV_some, putD_some, getK_set, Nat.reduceEqDiff, ↓reduceIte, beq_yl, lY2]
    obtain ⟨m, hm⟩ := hr
    refine ⟨m, _, _, hm, ?_⟩
    simp (disch := omega) only [f108_rs, w_ret, seqK_n, seqK_r, true_and, retK_r, x_nil, x_as, kx, xg_nil, xd_cons, fresh_nil, stK_n, stK_s, stay_nil, ev_t, getV_some, putD_some, oGet_s, readRs_nil, readRs_t, retV_1, Option.some.injEq, exists_eq_left', getK_set, ↓reduceIte]
    refine ⟨r, rfl, fun ht => ⟨u, G2.keep md.hc fun y hy hy2 _ => md.old y hy hy2, k2.trans ⟨md.nx, fun x hx hx2 _ hn => ⟨md.old x hx2 hx, hn⟩⟩, ?_⟩, h5⟩
    exact h4 ht
  | succ f ih =>
    intro L A pre post h u hn hY g hI hA hLab
    refine callP_of (ef := f108) kk.c108 rfl ?_
    show Ret fs f108 [.agg (A.map V.b), .p idL 0, .p idn 0, .p idY 0, .p ide 0, .p idG 0] h _
    apply ret_of rfl
    show W fs none f108_c _ _ _
    unfold f108_c
    have hb : b ≤ h.nx.nat := by have := g.bY; have := g.hc.cells g.eY; omega
    have gA : Grow h.nx.nat h (h.new (.cells 26 (A.map V.b))) := Grow.new (Nat.le_refl _) _
    have G1 := g.grow gA (Nat.le_refl _)
    have I1 := hC.stab _ _ (h.new (.cells 26 (A.map V.b))) hI fun x hx => gA.old x (by omega)
    have k1 : GK b idL h u (h.new (.cells 26 (A.map V.b))) u := GK.grow gA (Nat.le_refl _)
    have hcA := cells26 hA
    have n1 := nx_new h (.cells 26 (A.map V.b))
    have e6 : (h.new (.cells 26 (A.map V.b))).get h.nx = .cells 26 (A.map V.b) := get_new_same
    have hn6 : NotIn h.nx u := fun off n sz e => by have := g.sl.lt g.hc _ _ _ _ e; omega
    generalize hh1 : h.new (.cells 26 (A.map V.b)) = h1 at *
    obtain ⟨en, ee, es⟩ := hC.mem _ _ I1
    have lu : loadV h1 (.p idL 0) one? = .ok u h1 := load_p G1.eL rfl
    have ln : loadV h1 (.p idn 0) one? = .ok (.i .i64 (n : Int)) h1 := load_p en rfl
    have le : loadV h1 (.p ide 0) one? = .ok ev h1 := load_p ee rfl
    have d1 : decide ((L.length : Int) = (n : Int)) = false := by simp; omega
    have hel := hE.1
    have fwm : fw .i64 ((E.length : Int) + 1) = ((E.length + 1 : Nat) : Int) := by rw [fw64 (by omega) (by omega)]; omega
    simp (disch := omega) only [f108_r0, f108_r1, f108_r2, f108_r4, w_skip, w_reg, w_seq, w_cond, w_block, w_scope, seqK_n, ckB_b, cbB_b, true_and, x_nil, x_mv, x_as, x_box, x_ld, x_bin, x_len, kx, rvP_ok, okv_some, ev_t, ev_c, getV_some, putD_some, bin_add, bin_eql, oGet_s, of0, of1, getK_set, Nat.reduceEqDiff, ↓reduceIte, Bool.false_eq_true, frame_6l, hcA, hh1, lu, G1.sl.len, ln, le, es.len, d1, fwm]
    refine W_loop (f108_O b n E f A I idL idn idY ide idG id h.nx h u L pre.length) (fun x => E.length + 1 - x) ?_ 0 ⟨by omega, u, G1, by simpa [uptoL] using I1, k1, e6, hn6, by omega, by simp (disch := omega) only [getK_set, Nat.reduceEqDiff, ↓reduceIte, and_self, Int.natCast_zero]⟩
    clear lu ln le en ee es G1 I1 k1 e6 hn6
    have k1n := hb
    generalize hid6 : h.nx = id6 at *
    rintro x fr h2 ⟨hx, u1, G2, I2, k2, e6, hn6, l6, g1, g2, g3, g4, g5, g6, g8, g24, g25⟩
    unfold f108_l1
    by_cases hlt : x < E.length + 1
    · have d0 : decide ((x : Int) < ((E.length + 1 : Nat) : Int)) = true := by simp; omega
      have hsplit := uptoL_succ (E := E) (f := f) (L := L) (A := A) (x := x)
      have lu : loadV h2 (.p idL 0) one? = .ok u1 h2 := load_p G2.eL rfl
      obtain ⟨en, ee, es⟩ := hC.mem _ _ I2
      have le : loadV h2 (.p ide 0) one? = .ok ev h2 := load_p ee rfl
      have hLl : L.length ≤ 1000000 := by have := hE.2.1; omega
      simp (disch := omega) only [f108_r5, f108_r6, f108_r7, w_skip, w_reg, w_seq, w_cond, w_block, seqK_n, ckB_b, cbB_b, true_and, x_nil, x_mv, x_as, x_ld, x_bin, x_call, kx, rvP_ok, okv_some, ev_t, ev_c, evs_nil, evs_cons, getV_some, putD_some, bin_lss, getK_set, Nat.reduceEqDiff, ↓reduceIte, g1, g24, g25, d0, lu]
      refine (callP_0 (ef := f99) kk.c99 rfl (f99_ret (x := (x : Int)) kk.c130 G2.sl.sr hLl)).mono ?_
      rintro r h2' ⟨rfl, hq⟩
      replace hq := hq.symm
      subst hq
      have again : ∀ fr h3 u3, subL E f L A x = [] → GS b idL idY idG id (giveV idL idn idY ide idG) h3 u3 L → I (pre.length + (uptoL E f L A x).length) h3 → GK b idL h u h3 u3 → h3.get id6 = .cells 26 (A.map V.b) → NotIn id6 u3 → id6.nat < h3.nx.nat →
          fr.get (K.ofNat 1) = some (.p idL 0) ∧ fr.get (K.ofNat 2) = some (.p idn 0) ∧ fr.get (K.ofNat 3) = some (.p idY 0) ∧ fr.get (K.ofNat 4) = some (.p ide 0) ∧ fr.get (K.ofNat 5) = some (.p idG 0) ∧ fr.get (K.ofNat 6) = some (.p id6 0) ∧ fr.get (K.ofNat 8) = some (.i .i64 (L.length : Int)) ∧ fr.get (K.ofNat 24) = some (.i .i64 ((E.length + 1 : Nat) : Int)) ∧ fr.get (K.ofNat 25) = some (.i .i64 (x : Int)) →
          ∀ Q, X fs f108_r18 (loopK (f108_O b n E f A I idL idn idY ide idG id id6 h u L pre.length) (fun x => E.length + 1 - x) x Q Ex.normal) fr h3 := by
        rintro fr h3 u3 hsub G3 I3 k3 e63 n63 l63 ⟨g1, g2, g3, g4, g5, g6, g8, g24, g25⟩ Q
        simp (disch := omega) only [f108_r18, loopK_n, x_nil, x_mv, x_bin, kx, rvP_ok, okv_some, ev_t, ev_c, getV_some, putD_some, bin_add, of1, getK_set, ↓reduceIte, g25, fw64]
        refine ⟨x + 1, by omega, by omega, u3, G3, by rw [hsplit, hsub, List.append_nil]; exact I3, k3, e63, n63, l63, ?_⟩
        simp (disch := omega) only [getK_set, Nat.reduceEqDiff, ↓reduceIte, g1, g2, g3, g4, g5, g6, g8, g24, and_self, Int.natCast_add, Int.natCast_one]
      by_cases hin : (x : Int) ∈ L
      · have di : decide ((x : Int) ∈ L) = true := by simpa using hin
        simp (disch := omega) only [w_reg, w_cond, w_exit, seqK_n, seqK_e, atK_e, ckB_b, cbB_b, true_and, x_nil, kx, ev_t, getV_some, putD_some, getK_set, ↓reduceIte, di]
        exact again _ _ _ (subL_in hin) G2 I2 k2 e6 hn6 l6 (by simp (disch := omega) only [getK_set, Nat.reduceEqDiff, ↓reduceIte, g1, g2, g3, g4, g5, g6, g8, g24, g25, and_self]) _
      · have di : decide ((x : Int) ∈ L) = false := by simpa using hin
        have l26 : loadV h2 (.p id6 0) (many? 26) = .ok (.agg (A.map V.b)) h2 := Ar.ldn (e := V.b) (L := A) (by unfold Ar; rw [hA]; exact e6) hA.symm
        have s26 := st26 (h := h2.new (.cells 26 (List.replicate 26 (.b false)))) (id := h2.nx) (A := A) get_new_same (by simp) hA
        have nx2 := nx_new h2 (.cells 26 (List.replicate 26 (.b false)))
        have gC : Grow h2.nx.nat h2 ((h2.new (.cells 26 (List.replicate 26 (.b false)))).put h2.nx (.cells 26 (A.map V.b))) := (Grow.new (Nat.le_refl _) _).trans (Grow.put (Nat.le_refl _) (by omega) _)
        have e10 : ((h2.new (.cells 26 (List.replicate 26 (.b false)))).put h2.nx (.cells 26 (A.map V.b))).get h2.nx = .cells 26 (A.map V.b) := get_put_same
        have nx3 : ((h2.new (.cells 26 (List.replicate 26 (.b false)))).put h2.nx (.cells 26 (A.map V.b))).nx.nat = h2.nx.nat + 1 := nx2
        simp (disch := omega) only [f108_r8, f108_r9, w_skip, w_reg, w_seq, w_cond, seqK_n, ckB_b, cbB_b, true_and, x_nil, x_alloc, x_ld, x_ldn, x_st, kx, rvP_ok, ev_t, getV_some, putD_some, putD_none, of0, getK_set, Nat.reduceEqDiff, ↓reduceIte, Bool.false_eq_true, g4, g6, di, l26, s26]
        generalize (h2.new (.cells 26 (List.replicate 26 (.b false)))).put h2.nx (.cells 26 (A.map V.b)) = h3 at *
        have G3 := G2.grow gC (Nat.le_refl _)
        have hb2 : b ≤ h2.nx.nat := by have := k2.nx; omega
        have I3 := hC.stab _ _ h3 I2 fun y hy => gC.old y (by omega)
        have k3 := k2.trans (GK.grow (u := u1) gC (Nat.le_refl _))
        have es3 := (hC.mem _ _ I3).2.2
        have le3 : loadV h3 (.p ide 0) one? = .ok ev h3 := load_p (hC.mem _ _ I3).2.1 rfl
        have n10 : NotIn h2.nx u1 := fun off n sz e => by have := G2.sl.lt G2.hc _ _ _ _ e; omega
        have ne10 : idL ≠ h2.nx := kNe (G2.hc.cells G2.eL)
        have e63 : h3.get id6 = .cells 26 (A.map V.b) := (gC.old id6 l6).trans e6
        have nY10 : idY ≠ h2.nx := kNe (G2.hc.cells G2.eY)
        have nG10 : idG ≠ h2.nx := kNe (G2.hc.cells G2.eG)
        have n610 : id6 ≠ h2.nx := kNe l6
        generalize hid10 : h2.nx = id10 at *
        -- what the edges leave of memory
        have keepX : ∀ h4, HXc id10 h3 h4 → GS b idL idY idG id (giveV idL idn idY ide idG) h4 u1 L ∧ I (pre.length + (uptoL E f L A x).length) h4 ∧ GK b idL h u h4 u1 ∧ h4.get id6 = .cells 26 (A.map V.b) ∧ id6.nat < h4.nx.nat := by
          intro h4 hX
          refine ⟨G3.keep hX.hc fun y hy hy2 hor => hX.old y hy2 ?_, hC.stab _ _ _ I3 fun y hy => hX.old y (Nat.lt_of_lt_of_le hy (by rw [nx3]; omega)) (fun e => by rw [e] at hy; omega), ⟨Nat.le_trans k3.nx hX.nx, fun y h1 h2 h3 h4 => by
            obtain ⟨w1, w2⟩ := k3.old y h1 h2 h3 h4
            exact ⟨(hX.old y (Nat.lt_of_lt_of_le h1 k3.nx) (fun e => by rw [e] at h1; have hk := k2.nx; rw [hid10] at hk; omega)).trans w1, w2⟩⟩, (hX.old id6 (by omega) n610).trans e63, by have := hX.nx; omega⟩
          rintro rfl
          rcases hor with h | h | h | h
          · exact nY10 h.symm
          · exact ne10 h.symm
          · exact nG10 h.symm
          · exact h n10
        have ee10 : h3.get id10 = .cells 26 (A.map V.b) := e10
        simp (disch := omega) only [w_block, seqK_n, x_nil, x_mv, x_len, kx, rvP_ok, ev_t, ev_c, getV_some, putD_some, getK_set, ↓reduceIte, le3, es3.len]
        refine f108_inner (h := h3) (u := u1) (ev := ev) (q1 := .sn) (q2 := .p idn 0) (q3 := .p idY 0) (q4 := .p ide 0) (q5 := .p idG 0) (n := n) (idL := idL) (id6 := id6) (id10 := id10) (E := E) (L := L) (x := x) (A := A) kk.c101 kk.c102 kk.c100 hE hLab (by omega) es3 (fun off n sz e => by have := hC.bev _ _ _ _ e; omega) G3.eL G3.sl n10 ne10 (by omega) G3.hc ?_ ?_ ?_
        · refine ⟨by omega, ⟨Nat.le_refl _, G3.hc, fun _ _ _ => rfl⟩, A, hA, rfl, ee10, ?_⟩
          simp (disch := omega) only [getK_set, Nat.reduceEqDiff, ↓reduceIte, g1, g2, g3, g4, g5, g6, g8, g24, g25, and_self, Int.natCast_zero]
        · rintro fr h4 hnone hX ⟨g1, g2, g3, g4, g5, g6, g8, g24, g25⟩
          obtain ⟨G4, I4, k4, e64, l64⟩ := keepX h4 hX
          simp (disch := omega) only [w_reg, seqK_n, seqK_e, atK_e, Nat.reduceEqDiff, ↓reduceIte]
          exact again _ _ _ (subL_no hin hnone) G4 I4 k4 e64 hn6 l64 ⟨g1, g2, g3, g4, g5, g6, g8, g24, g25⟩ _
        · rintro fr h4 ⟨_, hX, B, hB, hst, hb10, g1, g2, g3, g4, g5, g6, g8, g9, g10, g24, g25, g32, g33, g34⟩
          rw [List.take_length] at hst
          obtain ⟨G4, I4, k4, e64, l64⟩ := keepX h4 hX
          have lu4 : loadV h4 (.p idL 0) one? = .ok u1 h4 := load_p G4.eL rfl
          have hb4 : b ≤ h4.nx.nat := by have := hX.nx; omega
          obtain ⟨u5, h5, p1, p2, p3, p4, p5⟩ := Sl.push (e := iE) (x := (x : Int)) (c := .i .i64 (x : Int)) rfl G4.sl G4.own hb4 G4.hc (by omega)
          have lL := G4.hc.cells G4.eL
          obtain ⟨qL, nL5⟩ := p5 idL lL G4.nL
          obtain ⟨qY, nY5⟩ := p5 idY (G4.hc.cells G4.eY) G4.nY
          obtain ⟨qG, nG5⟩ := p5 idG (G4.hc.cells G4.eG) G4.nG
          have l10 : id10.nat < h4.nx.nat := by have := hX.nx; omega
          obtain ⟨q10, n105⟩ := p5 id10 l10 n10
          obtain ⟨q6, n65⟩ := p5 id6 l64 hn6
          have s5 := st1 (h := h5) (id := idL) (a := u1) (c := u5) (qL.trans G4.eL) p2.sr.one
          have hc5 := p4.hc G4.hc
          have lL5 : idL.nat < h5.nx.nat := by have := p4.nx; omega
          simp (disch := omega) only [f108_r14, w_reg, w_seq, seqK_n, atK_e, x_nil, x_mv, x_bslice, x_ld, x_st, x_app, kx, rvP_ok, ev_t, getV_some, putD_some, putD_none, oGet_s, cells1_i, fill_1, set_1, of0, getK_set, Nat.reduceEqDiff, ↓reduceIte, g1, g9, lu4, p1, s5]
          have G6 : GS b idL idY idG id (giveV idL idn idY ide idG) (h5.put idL (.cells 1 [u5])) u5 (L ++ [(x : Int)]) :=
            ⟨(Grow.put (b := 0) (Nat.zero_le _) lL5 _).hc hc5, by rw [get_put_other G4.lY.symm, qY]; exact G4.eY, by rw [get_put_other G4.lG.symm, qG]; exact G4.eG, get_put_same, p2.put nL5 _, p3, nY5, nL5, nG5, G4.bY, G4.bL, G4.bG, G4.lY, G4.lG⟩
          have I6 := hC.stab _ _ (h5.put idL (.cells 1 [u5])) I4 fun y hy => by rw [get_put_other (fun e => by have := G4.bL; rw [e] at hy; omega)]; exact p4.old y hy
          have k6 : GK b idL h u (h5.put idL (.cells 1 [u5])) u5 := ⟨Nat.le_trans k4.nx p4.nx, fun y w1 w2 w3 w4 => by
            obtain ⟨t1, t2⟩ := k4.old y w1 w2 w3 w4
            obtain ⟨t3, t4⟩ := p5 y (Nat.lt_of_lt_of_le w1 k4.nx) t2
            exact ⟨by rw [get_put_other w3, t3, t1], t4⟩⟩
          have e106 : (h5.put idL (.cells 1 [u5])).get id10 = .cells 26 (B.map V.b) := by rw [get_put_other ne10.symm, q10]; exact hb10
          have ne6 : id6 ≠ idL := fun e => by rw [e] at l6; rw [e, G2.eL] at e6; simp only [Blk.cells.injEq] at e6; omega
          have e66 : (h5.put idL (.cells 1 [u5])).get id6 = .cells 26 (A.map V.b) := by rw [get_put_other ne6, q6]; exact e64
          have l66 : id6.nat < (h5.put idL (.cells 1 [u5])).nx.nat := by have := p4.nx; show id6.nat < h5.nx.nat; omega
          generalize h5.put idL (.cells 1 [u5]) = h6 at *
          have lG6 : loadV h6 (.p idG 0) one? = .ok (giveV idL idn idY ide idG) h6 := load_p G6.eG rfl
          have l266 : loadV h6 (.p id10 0) (many? 26) = .ok (.agg (B.map V.b)) h6 := Ar.ldn (e := V.b) (L := B) (by unfold Ar; rw [hB]; exact e106) hB.symm
          simp (disch := omega) only [f108_r15, x_ld, x_ldn, x_call, kx, rvP_ok, ev_t, evs_nil, evs_cons, getV_some, putD_some, getK_set, Nat.reduceEqDiff, ↓reduceIte, g5, g10, lG6, l266]
          obtain ⟨R, hR⟩ := uptoL_split (E := E) (f := f) (L := L) (A := A) (x := x) (E.length + 1) hlt
          have hson := subL_on (f := f) hin hst
          have hen : enumL E (f + 1) L A = uptoL E f L A (E.length + 1) := rfl
          refine (ih (L ++ [(x : Int)]) B (pre ++ uptoL E f L A x) (R ++ post) h6 u5 (by simp; omega) (by rw [hY, hen, hR, hson]; simp) G6 (by rw [List.length_append]; exact I6) hB (fun y hy => by
            rcases List.mem_append.1 hy with hy | hy
            · exact hLab y hy
            · have : y = (x : Int) := by simpa using hy
              omega)).mono ?_
          rintro r h7 ⟨t, rfl, ht, hf⟩
          cases t with
          | false =>
            simp (disch := omega) only [f108_r16, f108_rs, w_reg, w_seq, w_cond, w_ret, seqK_n, seqK_r, atK_r, loopK_r, ckB_b, cbB_b, true_and, retK_r, x_nil, x_as, x_not, kx, rvP_ok, ev_t, ev_c, getV_some, putD_some, onB_b, oGet_s, readRs_nil, readRs_t, retV_1, Option.some.injEq, exists_eq_left', getK_set, ↓reduceIte, Bool.not_false]
            exact ⟨false, rfl, fun h => (by cases h), fun _ => hf rfl⟩
          | true =>
            obtain ⟨u7, G7, k7, I7⟩ := ht rfl
            have lu7 : loadV h7 (.p idL 0) one? = .ok u7 h7 := load_p G7.eL rfl
            obtain ⟨v8, c1, c2, c3, c4⟩ := Sl.cut (lo := none) (hi := some (.i .i64 (L.length : Int))) (l := 0) (u := L.length) G7.sl bnd_none bnd_i (by omega) (by simp)
            have c2 : Sl iE h7 v8 L := by simpa using c2
            have s7 := st1 (h := h7) (id := idL) (a := u7) (c := v8) G7.eL c2.sr.one
            have G8 := G7.write c2 (c3 b G7.own) (c4 _ G7.nY) (c4 _ G7.nL) (c4 _ G7.nG)
            have I8 := hC.stab _ _ (h7.put idL (.cells 1 [v8])) I7 fun y hy => get_put_other (fun e => by have := G7.bL; rw [e] at hy; omega)
            obtain ⟨w1, w2⟩ := k7.old id6 l66 (by have := k1n; omega) ne6 n65
            have k8 : GK b idL h u (h7.put idL (.cells 1 [v8])) v8 := ⟨Nat.le_trans k6.nx k7.nx, fun y a1 a2 a3 a4 => by
              obtain ⟨t1, t2⟩ := k6.old y a1 a2 a3 a4
              obtain ⟨t3, t4⟩ := k7.old y (Nat.lt_of_lt_of_le a1 k6.nx) a2 a3 t2
              exact ⟨by rw [get_put_other a3, t3, t1], c4 _ t4⟩⟩
            simp (disch := omega) only [f108_r17, f108_r18, w_skip, w_reg, w_cond, seqK_n, atK_n, loopK_n, ckB_b, cbB_b, true_and, x_nil, x_mv, x_ld, x_st, x_bin, x_not, x_slice, sliceV_eq, Option.map_none, Option.map_some, kx, rvP_ok, okv_some, ev_t, ev_c, getV_some, putD_some, putD_none, bin_add, onB_b, of1, getK_set, Nat.reduceEqDiff, ↓reduceIte, Bool.false_eq_true, Bool.not_true, g1, g8, g25, lu7, c1, s7, fw64]
            refine ⟨x + 1, by omega, by omega, v8, G8, ?_, k8, by rw [get_put_other ne6, w1]; exact e66, c4 _ w2, ?_, ?_⟩
            · have : pre.length + (uptoL E f L A (x + 1)).length = (pre ++ uptoL E f L A x).length + (enumL E f (L ++ [(x : Int)]) B).length := by rw [hsplit, hson]; simp; omega
              rw [this]; exact I8
            · have := k7.nx; show id6.nat < h7.nx.nat; omega
            · simp (disch := omega) only [getK_set, Nat.reduceEqDiff, ↓reduceIte, g1, g2, g3, g4, g5, g6, g8, g24, and_self, Int.natCast_add, Int.natCast_one]
    · have d0 : decide ((x : Int) < ((E.length + 1 : Nat) : Int)) = false := by simp; omega
      obtain rfl : x = E.length + 1 := by omega
      simp (disch := omega) only [f108_r5, f108_r19, f108_rs, w_reg, w_seq, w_cond, w_exit, w_ret, seqK_n, seqK_e, atK_e, loopK_e, ckB_b, cbB_b, true_and, retK_r, x_nil, x_as, x_bin, kx, rvP_ok, okv_some, ev_t, ev_c, getV_some, putD_some, bin_lss, oGet_s, readRs_nil, readRs_t, retV_1, Option.some.injEq, exists_eq_left', getK_set, ↓reduceIte, Bool.false_eq_true, g24, g25, d0]
      exact ⟨true, rfl, fun _ => ⟨u1, G2, k2, I2⟩, fun h => by cases h⟩
end
end Go.Ev
namespace Go.Ev
open Go Go.RowKit
noncomputable def f107_r0 : List EOper := [⟨(some (K.ofNat 3)), none, .box 1 (.t (K.ofNat 0))⟩]
noncomputable def f107_r1 : List EOper := [⟨(some (K.ofNat 6)), none, .ld (.t (K.ofNat 1))⟩, ⟨(some (K.ofNat 7)), none, .mkslC 1 [(.i .i64 (.ofNat 0))] (.c (.i .i64 (.ofNat 0))) (.t (K.ofNat 6))⟩, ⟨(some (K.ofNat 4)), none, .alloc 1 [.sn]⟩, ⟨none, none, .st 1 (.t (K.ofNat 4)) (.t (K.ofNat 7))⟩]
noncomputable def f107_r2 : List EOper := [⟨(some (K.ofNat 5)), none, .alloc 1 [.fnil]⟩]
noncomputable def f107_r3 : List EOper := [⟨(some (K.ofNat 8)), none, .mkfn (K.ofNat 108) [(.t (K.ofNat 4)), (.t (K.ofNat 1)), (.t (K.ofNat 3)), (.t (K.ofNat 2)), (.t (K.ofNat 5))]⟩, ⟨none, none, .st 1 (.t (K.ofNat 5)) (.t (K.ofNat 8))⟩]
noncomputable def f107_r4 : List EOper := [⟨(some (K.ofNat 9)), none, .ld (.t (K.ofNat 5))⟩, ⟨(some (K.ofNat 10)), none, .build (List.replicate 26 (.b false)) []⟩, ⟨(some (K.ofNat 11)), none, .call (.t (K.ofNat 9)) [(.t (K.ofNat 10))]⟩]
noncomputable def f107_c : EC := (.seq (.reg f107_r0) (.seq (.reg f107_r1) (.seq (.reg f107_r2) (.seq (.reg f107_r3) (.reg f107_r4)))))
noncomputable def f107 : EF := ⟨12, [], f107_c, none⟩
theorem f107_rs : f107.rs = [] := of_eq_true (eq_self _)
noncomputable def f68_r0 : List EOper := [⟨(some (K.ofNat 2)), none, .box 1 (.t (K.ofNat 0))⟩, ⟨(some (K.ofNat 3)), none, .box 1 (.t (K.ofNat 1))⟩, ⟨(some (K.ofNat 4)), none, .as (.c .fnil)⟩]
noncomputable def f68_r1 : List EOper := [⟨(some (K.ofNat 5)), none, .mkfn (K.ofNat 107) [(.t (K.ofNat 2)), (.t (K.ofNat 3))]⟩, ⟨(some (K.ofNat 4)), none, .as (.t (K.ofNat 5))⟩]
noncomputable def f68_c : EC := (.seq (.reg f68_r0) (.seq (.reg f68_r1) .ret))
noncomputable def f68 : EF := ⟨6, [.tmp (K.ofNat 4)], f68_c, none⟩
theorem f68_rs : f68.rs = [.tmp (K.ofNat 4)] := of_eq_true (eq_self _)
section
variable {fs : T EF}
/-- The function, called with a body, goes through these lists: each is a new slice. -/
def YieldsL (fs : T EF) (k : K) (caps : List V) (n : Nat) (E : List (Int × Int)) (ev : V) (idn ide : K) (Y : List (List Int)) : Prop :=
  ∀ (id : K) (I : Nat → H → Prop) (D : H → Prop) (h : H), HC h → Cons h.nx.nat n E ev idn ide I → I 0 h →
    (∀ i h1 v (hi : i < Y.length), I i h1 → HC h1 → h.nx.nat ≤ h1.nx.nat → Sl iE h1 v Y[i] → Own h.nx.nat v → ∃ r h', Round fs id v h1 r h' ∧ Mid h.nx.nat h1 h' ∧ (r = true → I (i + 1) h') ∧ (r = false → D h')) →
    CallP fs (.fn k caps) [.yl id] h fun r h' => r = .tup [] ∧ ((I Y.length h' ∧ HC h' ∧ h.nx.nat ≤ h'.nx.nat) ∨ D h')
theorem all_yieldsL {n : Nat} {E : List (Int × Int)} {ev : V} {idn ide : K} (kk : CallsG fs) (h107 : fs.get (K.ofNat 107) = some f107) (hE : EdgesOk n E) : YieldsL fs (K.ofNat 107) [.p idn 0, .p ide 0] n E ev idn ide (enumL E n [] (List.replicate 26 false)) := by
  intro id I D h hc hC hI round
  refine callP_of (ef := f107) h107 rfl ?_
  show Ret fs f107 [.yl id, .p idn 0, .p ide 0] h _
  apply ret_of rfl
  show W fs none f107_c _ _ _
  unfold f107_c
  have c1 : cellsN 1 (.yl id) = some [.yl id] := rfl
  have n1 := nx_new h (.cells 1 [.yl id])
  have g1 : Grow h.nx.nat h (h.new (.cells 1 [.yl id])) := Grow.new (Nat.le_refl _) _
  have eY : (h.new (.cells 1 [.yl id])).get h.nx = .cells 1 [.yl id] := get_new_same
  have I1 := hC.stab _ _ (h.new (.cells 1 [.yl id])) hI fun x hx => g1.old x hx
  have ln := load_p (hC.mem _ _ I1).1 (show nth [V.i .i64 (n : Int)] 0 = some (.i .i64 (n : Int)) from rfl)
  have hn7 := hE.2.1
  generalize hh1 : h.new (.cells 1 [.yl id]) = h1 at *
  have mk : mksCV 1 [.i .i64 0] h1 (.i .i64 0) (.i .i64 (n : Int)) = .ok (.sl h1.nx 0 0 1) (h1.new (.cells (n * 1) (rep [.i .i64 0] n))) := by
    show (bif Nat.ble 0 n && Nat.ble n 1000000 then RV.ok (.sl h1.nx 0 0 1) (h1.new (.cells (n * 1) (rep [.i .i64 0] n))) else .no) = _
    rw [Nat.ble_eq_true_of_le (Nat.zero_le _), Nat.ble_eq_true_of_le (show n ≤ 1000000 by omega)]; rfl
  have n2 := nx_new h1 (.cells (n * 1) (rep [.i .i64 0] n))
  have g2 : Grow h1.nx.nat h1 (h1.new (.cells (n * 1) (rep [.i .i64 0] n))) := Grow.new (Nat.le_refl _) _
  have eS : (h1.new (.cells (n * 1) (rep [.i .i64 0] n))).get h1.nx = .cells (n * 1) (rep [.i .i64 0] n) := get_new_same
  have hlen : (rep [V.i .i64 0] n).length = n * 1 := by rw [rep_length]; rfl
  simp (disch := omega) only [f107_r0, f107_r1, w_reg, w_seq, seqK_n, x_nil, x_alloc, x_box, x_ld, x_st, x_mksC, kx, rvP_ok, ev_t, ev_c, getV_some, putD_some, oGet_s, frame_3, of0, getK_set, Nat.reduceEqDiff, ↓reduceIte, c1, hh1, ln, mk]
  generalize h1.new (.cells (n * 1) (rep [.i .i64 0] n)) = h2 at *
  have n3 := nx_new h2 (.cells 1 [.sn])
  have s3 := st1 (h := h2.new (.cells 1 [.sn])) (id := h2.nx) (a := .sn) (c := .sl h1.nx 0 0 1) get_new_same rfl
  have g3 : Grow h2.nx.nat h2 ((h2.new (.cells 1 [.sn])).put h2.nx (.cells 1 [.sl h1.nx 0 0 1])) := (Grow.new (Nat.le_refl _) _).trans (Grow.put (Nat.le_refl _) (by omega) _)
  have eL : ((h2.new (.cells 1 [.sn])).put h2.nx (.cells 1 [.sl h1.nx 0 0 1])).get h2.nx = .cells 1 [.sl h1.nx 0 0 1] := get_put_same
  have n3' : ((h2.new (.cells 1 [.sn])).put h2.nx (.cells 1 [.sl h1.nx 0 0 1])).nx.nat = h2.nx.nat + 1 := n3
  simp (disch := omega) only [w_reg, w_seq, seqK_n, x_nil, kx, rvP_ok, putD_none, s3]
  generalize (h2.new (.cells 1 [.sn])).put h2.nx (.cells 1 [.sl h1.nx 0 0 1]) = h3 at *
  have n4 := nx_new h3 (.cells 1 [.fnil])
  have s4 := st1 (h := h3.new (.cells 1 [.fnil])) (id := h3.nx) (a := .fnil) (c := giveV h2.nx idn h.nx ide h3.nx) get_new_same rfl
  have g4 : Grow h3.nx.nat h3 ((h3.new (.cells 1 [.fnil])).put h3.nx (.cells 1 [giveV h2.nx idn h.nx ide h3.nx])) := (Grow.new (Nat.le_refl _) _).trans (Grow.put (Nat.le_refl _) (by omega) _)
  have eG : ((h3.new (.cells 1 [.fnil])).put h3.nx (.cells 1 [giveV h2.nx idn h.nx ide h3.nx])).get h3.nx = .cells 1 [giveV h2.nx idn h.nx ide h3.nx] := get_put_same
  have n4' : ((h3.new (.cells 1 [.fnil])).put h3.nx (.cells 1 [giveV h2.nx idn h.nx ide h3.nx])).nx.nat = h3.nx.nat + 1 := n4
  have hfv : V.fn (K.ofNat 108) [.p h2.nx 0, .p idn 0, .p h.nx 0, .p ide 0, .p h3.nx 0] = giveV h2.nx idn h.nx ide h3.nx := rfl
  simp (disch := omega) only [f107_r2, f107_r3, w_reg, w_seq, seqK_n, x_nil, x_alloc, x_st, x_mkfn, kx, rvP_ok, ev_t, evs_nil, evs_cons, getV_some, putD_some, putD_none, getK_set, Nat.reduceEqDiff, ↓reduceIte, hfv, s4]
  generalize (h3.new (.cells 1 [.fnil])).put h3.nx (.cells 1 [giveV h2.nx idn h.nx ide h3.nx]) = h4 at *
  have lG : loadV h4 (.p h3.nx 0) one? = .ok (giveV h2.nx idn h.nx ide h3.nx) h4 := load_p eG rfl
  have gA : Grow h.nx.nat h h4 := g1.trans ((g2.low (by omega)).trans ((g3.low (by omega)).trans (g4.low (by omega))))
  have I4 := hC.stab _ _ h4 hI fun x hx => gA.old x hx
  have eY4 : h4.get h.nx = .cells 1 [.yl id] := by rw [g4.old _ (by omega), g3.old _ (by omega), g2.old _ (by omega)]; exact eY
  have eL4 : h4.get h2.nx = .cells 1 [.sl h1.nx 0 0 1] := by rw [g4.old _ (by omega)]; exact eL
  have eS4 : h4.get h1.nx = .cells (n * 1) (rep [.i .i64 0] n) := by rw [g4.old _ (by omega), g3.old _ (by omega)]; exact eS
  have G : GS h.nx.nat h2.nx h.nx h3.nx id (giveV h2.nx idn h.nx ide h3.nx) h4 (.sl h1.nx 0 0 1) [] :=
    ⟨gA.hc hc, eY4, eG, eL4, .inr ⟨h1.nx, 0, n * 1, _, rfl, eS4, hlen, by simp, fun i hi => absurd hi (by simp)⟩, fun _ _ _ _ e => by cases e; omega,
      fun _ _ _ e => by injection e with e1; have := congrArg K.nat e1; omega, fun _ _ _ e => by injection e with e1; have := congrArg K.nat e1; omega, fun _ _ _ e => by injection e with e1; have := congrArg K.nat e1; omega, Nat.le_refl _, by omega, by omega, (kNe (by omega)).symm, kNe (by omega)⟩
  have hrep : List.replicate 26 (V.b false) = (List.replicate 26 false).map V.b := rfl
  simp (disch := omega) only [f107_r4, x_build, x_ld, x_call, kx, rvP_ok, ev_t, evs_nil, evs_cons, getV_some, putD_some, oGet_s, getK_set, Nat.reduceEqDiff, ↓reduceIte, fill_0, lG, hrep]
  refine (give_call (D := D) (Y := enumL E n [] (List.replicate 26 false)) kk hE hC round n [] (List.replicate 26 false) [] [] h4 _ (by simp) (by simp) G I4 rfl (fun x hx => absurd hx (by simp))).mono ?_
  rintro r h5 ⟨t, rfl, ht, hf⟩
  simp (disch := omega) only [f107_rs, true_and, retK_n, x_nil, kx, putD_some, readRs_nil, retV_0, Option.some.injEq, exists_eq_left', true_and]
  cases t with
  | true => obtain ⟨_, w1, w2, h6⟩ := ht rfl; exact .inl ⟨by simpa using h6, w1.hc, Nat.le_trans gA.nx w2.nx⟩
  | false => exact .inr (hf rfl)
/-- A loop over all labels. -/
theorem W_rangeL {ro : Option K} {f : EO} {k : K} {caps : List V} {p : K} {a c : EC} {fr : Fr} {h : H} {Q : Ex → Fr → H → Prop} {n : Nat} {E : List (Int × Int)} {ev0 : V} {idn ide : K} {Y : List (List Int)} (hro : roOk ro h = true) (hf : ev fr f = .fn k caps) (hy : YieldsL fs k caps n E ev0 idn ide Y) (hch : HC h)
    (I : Nat → H → Prop) (D : Ex → H → Prop) (hC : Cons h.nx.nat n E ev0 idn ide I) (hI0 : I 0 h)
    (step : ∀ i h1 v (hi : i < Y.length), I i h1 → HC h1 → h.nx.nat < h1.nx.nat → h1.get h.nx = rdyB fr [p] a c → Sl iE h1 v Y[i] → Own (h.nx.nat + 1) v →
      W fs (some h.nx) a (rndA fs h.nx fr [p] a c (fun h2 => I (i + 1) h2 ∧ Mid (h.nx.nat + 1) h1 h2) (fun e h2 => D e h2 ∧ Mid (h.nx.nat + 1) h1 h2)) (fr.set p v) h1)
    (fin : ∀ h1, I Y.length h1 → HC h1 → h.nx.nat < h1.nx.nat → Q .normal fr (h1.put h.nx .dead)) (brk : ∀ e h1, e ≠ .normal → D e h1 → Q e fr h1) : W fs ro (.rangeF f [p] a c) Q fr h := by
  have n1 := nx_new h (rdyB fr [p] a c)
  have g1 : Grow h.nx.nat h (h.new (rdyB fr [p] a c)) := Grow.new (Nat.le_refl _) _
  have putI : ∀ i h1 x, I i h1 → I i (h1.put h.nx x) := fun i h1 x hi => hC.stab _ _ _ hi fun y hy => get_put_other (fun e => by rw [e] at hy; omega)
  have key := hy h.nx (fun i h1 => I i h1 ∧ h1.get h.nx = rdyB fr [p] a c) (fun h1 => ∃ e, e ≠ .normal ∧ D e (h1.put h.nx .dead) ∧ h1.get h.nx = .loop .done (some e) fr [p] a c) (h.new (rdyB fr [p] a c)) (g1.hc hch)
    ⟨fun i h1 hi => hC.mem i h1 hi.1, fun i h1 h2 hi hk => ⟨hC.stab _ _ _ hi.1 fun x hx => hk x (by omega), (hk h.nx (by omega)).trans hi.2⟩, by have := hC.bn; omega, by have := hC.be; omega, fun id off n sz e => by have := hC.bev id off n sz e; omega⟩
    ⟨hC.stab _ _ _ hI0 fun x hx => g1.old x hx, get_new_same⟩ ?_
  · obtain ⟨m, r, h1, hc, rfl, hq⟩ := key
    rcases hq with ⟨⟨hI, hb⟩, hc1, hn1⟩ | ⟨e, hne, hD, hb⟩
    · exact ⟨.normal, fr, _, Runs.range hro hf ⟨m, hc⟩ hb (.inl ⟨rfl, rfl, rfl⟩), fin h1 hI hc1 (by omega)⟩
    · exact ⟨e, fr, _, Runs.range hro hf ⟨m, hc⟩ hb (.inr ⟨rfl, rfl⟩), brk e _ hne hD⟩
  · rintro i h1 v hi ⟨hI, hb⟩ hc1 hnx sv ov
    rw [n1] at hnx ov
    obtain ⟨e1, fr1, h2, r1, rfl, hb2, hw⟩ := W_ok _ _ _ _ (step i h1 v hi hI hc1 (by omega) hb sv ov)
    obtain ⟨e2, fr2, h3, r2, hb3, hq⟩ := W_ok _ _ _ _ hw
    have l3 : ∀ x, Mid (h.nx.nat + 1) h1 (h3.put h.nx x) → Mid (h.new (rdyB fr [p] a c)).nx.nat h1 (h3.put h.nx (afterR e2 fr [p] a c)) := fun x hm => by
      rw [n1]
      have hlt : h.nx.nat < h3.nx.nat := by have : h1.nx.nat ≤ (h3.put h.nx x).nx.nat := hm.nx; have e : (h3.put h.nx x).nx = h3.nx := rfl; rw [e] at this; omega
      refine ⟨hm.nx, fun id hid => ?_, fun y hy hy2 => ?_⟩
      · have := hm.hc id hid
        have hne : id ≠ h.nx := fun e => by rw [e] at hid; have e3 : (h3.put h.nx (afterR e2 fr [p] a c)).nx = h3.nx := rfl; rw [e3] at hid; omega
        rw [get_put_other hne] at this ⊢; exact this
      · have := hm.old y hy hy2
        have hne : y ≠ h.nx := fun e => by rw [e] at hy; omega
        rw [get_put_other hne] at this ⊢; exact this
    refine ⟨isNo e2, h3.put h.nx (afterR e2 fr [p] a c), round_of hb rfl r1 hb2 r2 hb3, ?_, fun he => ?_, fun he => ?_⟩
    · cases e2 <;> exact l3 _ hq.2
    · cases e2 <;> first | exact ⟨hq.1, get_put_same⟩ | cases he
    · cases e2 with
      | normal => cases he
      | exit j => exact ⟨.exit j, by simp, by rw [H.put_put]; exact hq.1, get_put_same⟩
      | ret => exact ⟨.ret, by simp, by rw [H.put_put]; exact hq.1, get_put_same⟩
end
end Go.Ev
namespace Go.Ev
open Go Go.RowKit
noncomputable def f147_r0 : List EOper := [⟨(some (K.ofNat 2)), none, .as (.c (.b false))⟩]
noncomputable def f147_r1 : List EOper := [⟨(some (K.ofNat 3)), none, .mv (.t (K.ofNat 0))⟩, ⟨(some (K.ofNat 4)), none, .mv (.t (K.ofNat 0))⟩, ⟨(some (K.ofNat 5)), none, .bin .neq (.t (K.ofNat 3)) (.t (K.ofNat 4))⟩, ⟨(some (K.ofNat 2)), none, .as (.t (K.ofNat 5))⟩]
noncomputable def f147_c : EC := (.seq (.reg f147_r0) (.seq (.reg f147_r1) .ret))
noncomputable def f147 : EF := ⟨6, [.tmp (K.ofNat 2)], f147_c, none⟩
theorem f147_rs : f147.rs = [.tmp (K.ofNat 2)] := of_eq_true (eq_self _)
noncomputable def f129_r0 : List EOper := [⟨(some (K.ofNat 4)), none, .as (.c (.i .i64 (.ofNat 0)))⟩]
noncomputable def f129_r1 : List EOper := [⟨(some (K.ofNat 7)), none, .mv (.t (K.ofNat 0))⟩, ⟨(some (K.ofNat 8)), none, .call (.c (.fn (K.ofNat 147) [])) [(.t (K.ofNat 7))]⟩, ⟨(some (K.ofNat 5)), none, .as (.t (K.ofNat 8))⟩]
noncomputable def f129_r2 : List EOper := [⟨(some (K.ofNat 9)), none, .mv (.t (K.ofNat 1))⟩, ⟨(some (K.ofNat 10)), none, .call (.c (.fn (K.ofNat 147) [])) [(.t (K.ofNat 9))]⟩, ⟨(some (K.ofNat 6)), none, .as (.t (K.ofNat 10))⟩]
noncomputable def f129_r3 : List EOper := [⟨(some (K.ofNat 11)), none, .mv (.t (K.ofNat 5))⟩]
noncomputable def f129_r4 : List EOper := [⟨(some (K.ofNat 12)), none, .mv (.t (K.ofNat 6))⟩]
noncomputable def f129_r5 : List EOper := [⟨(some (K.ofNat 4)), none, .as (.c (.i .i64 (.ofNat 0)))⟩]
noncomputable def f129_r6 : List EOper := [⟨(some (K.ofNat 4)), none, .as (.c (.i .i64 (.negSucc 0)))⟩]
noncomputable def f129_r7 : List EOper := [⟨(some (K.ofNat 13)), none, .mv (.t (K.ofNat 6))⟩]
noncomputable def f129_r8 : List EOper := [⟨(some (K.ofNat 4)), none, .as (.c (.i .i64 (.ofNat 1)))⟩]
noncomputable def f129_r9 : List EOper := [⟨(some (K.ofNat 14)), none, .mv (.t (K.ofNat 0))⟩, ⟨(some (K.ofNat 15)), none, .mv (.t (K.ofNat 1))⟩, ⟨(some (K.ofNat 16)), none, .bin .lss (.t (K.ofNat 14)) (.t (K.ofNat 15))⟩]
noncomputable def f129_r10 : List EOper := [⟨(some (K.ofNat 4)), none, .as (.c (.i .i64 (.negSucc 0)))⟩]
noncomputable def f129_r11 : List EOper := [⟨(some (K.ofNat 17)), none, .mv (.t (K.ofNat 0))⟩, ⟨(some (K.ofNat 18)), none, .mv (.t (K.ofNat 1))⟩, ⟨(some (K.ofNat 19)), none, .bin .gtr (.t (K.ofNat 17)) (.t (K.ofNat 18))⟩]
noncomputable def f129_r12 : List EOper := [⟨(some (K.ofNat 4)), none, .as (.c (.i .i64 (.ofNat 1)))⟩]
noncomputable def f129_r13 : List EOper := [⟨(some (K.ofNat 4)), none, .as (.c (.i .i64 (.ofNat 0)))⟩]
noncomputable def f129_c : EC := (.seq (.reg f129_r0) (.seq (.reg f129_r1) (.seq (.reg f129_r2) (.seq (.seq (.reg f129_r3) (.cond (.t (K.ofNat 11)) (.seq (.seq (.reg f129_r4) (.cond (.t (K.ofNat 12)) (.seq (.reg f129_r5) .ret) .skip)) (.seq (.reg f129_r6) .ret)) .skip)) (.seq (.seq (.reg f129_r7) (.cond (.t (K.ofNat 13)) (.seq (.reg f129_r8) .ret) .skip)) (.seq (.seq (.reg f129_r9) (.cond (.t (K.ofNat 16)) (.seq (.reg f129_r10) .ret) .skip)) (.seq (.seq (.reg f129_r11) (.cond (.t (K.ofNat 19)) (.seq (.reg f129_r12) .ret) .skip)) (.seq (.reg f129_r13) .ret))))))))
noncomputable def f129 : EF := ⟨20, [.tmp (K.ofNat 4)], f129_c, none⟩
theorem f129_rs : f129.rs = [.tmp (K.ofNat 4)] := of_eq_true (eq_self _)
noncomputable def f98_r0 : List EOper := [⟨(some (K.ofNat 4)), none, .as (.c (.i .i64 (.ofNat 0)))⟩]
noncomputable def f98_r1 : List EOper := [⟨(some (K.ofNat 9)), none, .mv (.t (K.ofNat 0))⟩, ⟨(some (K.ofNat 10)), none, .len (.t (K.ofNat 9))⟩, ⟨(some (K.ofNat 11)), none, .mv (.c (.i .i64 (.ofNat 0)))⟩]
noncomputable def f98_r2 : List EOper := [⟨(some (K.ofNat 12)), none, .bin .lss (.t (K.ofNat 11)) (.t (K.ofNat 10))⟩]
noncomputable def f98_r3 : List EOper := [⟨(some (K.ofNat 13)), none, .mv (.t (K.ofNat 11))⟩, ⟨(some (K.ofNat 14)), none, .iads 1 (.t (K.ofNat 9)) (.t (K.ofNat 11))⟩, ⟨(some (K.ofNat 15)), none, .ld (.t (K.ofNat 14))⟩, ⟨(some (K.ofNat 5)), none, .as (.t (K.ofNat 13))⟩, ⟨(some (K.ofNat 6)), none, .as (.t (K.ofNat 15))⟩]
noncomputable def f98_r4 : List EOper := [⟨(some (K.ofNat 16)), none, .mv (.t (K.ofNat 5))⟩, ⟨(some (K.ofNat 17)), none, .mv (.t (K.ofNat 1))⟩, ⟨(some (K.ofNat 18)), none, .len (.t (K.ofNat 17))⟩, ⟨(some (K.ofNat 19)), none, .bin .geq (.t (K.ofNat 16)) (.t (K.ofNat 18))⟩]
noncomputable def f98_r5 : List EOper := [⟨(some (K.ofNat 4)), none, .as (.c (.i .i64 (.ofNat 1)))⟩]
noncomputable def f98_r6 : List EOper := [⟨(some (K.ofNat 20)), none, .mv (.t (K.ofNat 1))⟩, ⟨(some (K.ofNat 21)), none, .mv (.t (K.ofNat 5))⟩, ⟨(some (K.ofNat 22)), none, .iads 1 (.t (K.ofNat 20)) (.t (K.ofNat 21))⟩, ⟨(some (K.ofNat 23)), none, .ld (.t (K.ofNat 22))⟩, ⟨(some (K.ofNat 7)), none, .as (.t (K.ofNat 23))⟩]
noncomputable def f98_r7 : List EOper := [⟨(some (K.ofNat 24)), none, .mv (.t (K.ofNat 6))⟩, ⟨(some (K.ofNat 25)), none, .mv (.t (K.ofNat 7))⟩, ⟨(some (K.ofNat 26)), none, .call (.c (.fn (K.ofNat 129) [])) [(.t (K.ofNat 24)), (.t (K.ofNat 25))]⟩, ⟨(some (K.ofNat 8)), none, .as (.t (K.ofNat 26))⟩]
noncomputable def f98_r8 : List EOper := [⟨(some (K.ofNat 27)), none, .mv (.t (K.ofNat 8))⟩, ⟨(some (K.ofNat 28)), none, .bin .neq (.t (K.ofNat 27)) (.c (.i .i64 (.ofNat 0)))⟩]
noncomputable def f98_r9 : List EOper := [⟨(some (K.ofNat 29)), none, .mv (.t (K.ofNat 8))⟩, ⟨(some (K.ofNat 4)), none, .as (.t (K.ofNat 29))⟩]
noncomputable def f98_r10 : List EOper := [⟨(some (K.ofNat 30)), none, .bin .add (.t (K.ofNat 11)) (.c (.i .i64 (.ofNat 1)))⟩, ⟨(some (K.ofNat 11)), none, .mv (.t (K.ofNat 30))⟩]
noncomputable def f98_l0 : EC := (.seq (.reg f98_r2) (.seq (.cond (.t (K.ofNat 12)) .skip (.exit 0)) (.seq (.block 1 (.seq (.reg f98_r3) (.seq (.seq (.reg f98_r4) (.cond (.t (K.ofNat 19)) (.seq (.reg f98_r5) .ret) .skip)) (.seq (.reg f98_r6) (.seq (.reg f98_r7) (.seq (.reg f98_r8) (.cond (.t (K.ofNat 28)) (.seq (.reg f98_r9) .ret) .skip))))))) (.reg f98_r10))))
noncomputable def f98_r11 : List EOper := [⟨(some (K.ofNat 31)), none, .mv (.t (K.ofNat 0))⟩, ⟨(some (K.ofNat 32)), none, .len (.t (K.ofNat 31))⟩, ⟨(some (K.ofNat 33)), none, .mv (.t (K.ofNat 1))⟩, ⟨(some (K.ofNat 34)), none, .len (.t (K.ofNat 33))⟩, ⟨(some (K.ofNat 35)), none, .bin .lss (.t (K.ofNat 32)) (.t (K.ofNat 34))⟩]
noncomputable def f98_r12 : List EOper := [⟨(some (K.ofNat 4)), none, .as (.c (.i .i64 (.negSucc 0)))⟩]
noncomputable def f98_r13 : List EOper := [⟨(some (K.ofNat 4)), none, .as (.c (.i .i64 (.ofNat 0)))⟩]
noncomputable def f98_c : EC := (.seq (.reg f98_r0) (.seq (.seq (.reg f98_r1) (.block 0 (.loop f98_l0))) (.seq (.seq (.reg f98_r11) (.cond (.t (K.ofNat 35)) (.seq (.reg f98_r12) .ret) .skip)) (.seq (.reg f98_r13) .ret))))
noncomputable def f98 : EF := ⟨36, [.tmp (K.ofNat 4)], f98_c, none⟩
theorem f98_rs : f98.rs = [.tmp (K.ofNat 4)] := of_eq_true (eq_self _)
noncomputable def f61_r0 : List EOper := [⟨(some (K.ofNat 2)), none, .box 2 (.t (K.ofNat 0))⟩, ⟨(some (K.ofNat 3)), none, .box 2 (.t (K.ofNat 1))⟩, ⟨(some (K.ofNat 4)), none, .as (.c (.b false))⟩]
noncomputable def f61_r1 : List Stage := [⟨[⟨(some (K.ofNat 5)), none, .slcA 2 1 (.t (K.ofNat 2)) none none⟩, ⟨(some (K.ofNat 6)), none, .slcA 2 1 (.t (K.ofNat 3)) none none⟩], [], (some ⟨(some (K.ofNat 7)), none, .call (.c (.fn (K.ofNat 98) [])) [(.t (K.ofNat 5)), (.t (K.ofNat 6))]⟩), []⟩, ⟨[⟨(some (K.ofNat 8)), none, .bin .lss (.t (K.ofNat 7)) (.c (.i .i64 (.ofNat 0)))⟩], [], (some ⟨(some (K.ofNat 4)), none, .as (.t (K.ofNat 8))⟩), []⟩, ⟨[], [], none, []⟩]
noncomputable def f61_c : EC := (.seq (.reg f61_r0) (.seq (.draw f61_r1) .ret))
noncomputable def f61 : EF := ⟨9, [.tmp (K.ofNat 4)], f61_c, none⟩
theorem f61_rs : f61.rs = [.tmp (K.ofNat 4)] := of_eq_true (eq_self _)
noncomputable def f60_r0 : List EOper := [⟨(some (K.ofNat 3)), none, .box 2 (.t (K.ofNat 1))⟩, ⟨(some (K.ofNat 4)), none, .as (.c (.b false))⟩]
noncomputable def f60_r1 : List EOper := [⟨(some (K.ofNat 5)), none, .iadr 2 1 (.t (K.ofNat 3)) (.c (.i .i64 (.ofNat 0)))⟩, ⟨(some (K.ofNat 6)), none, .ld (.t (K.ofNat 5))⟩, ⟨(some (K.ofNat 7)), none, .bin .geq (.t (K.ofNat 6)) (.c (.i .i64 (.ofNat 0)))⟩, ⟨(some (K.ofNat 8)), none, .mv (.t (K.ofNat 7))⟩, ⟨(some (K.ofNat 9)), (some ((K.ofNat 8), true)), .iadr 2 1 (.t (K.ofNat 3)) (.c (.i .i64 (.ofNat 0)))⟩, ⟨(some (K.ofNat 10)), (some ((K.ofNat 8), true)), .ld (.t (K.ofNat 9))⟩, ⟨(some (K.ofNat 11)), (some ((K.ofNat 8), true)), .iadr 2 1 (.t (K.ofNat 3)) (.c (.i .i64 (.ofNat 1)))⟩, ⟨(some (K.ofNat 12)), (some ((K.ofNat 8), true)), .ld (.t (K.ofNat 11))⟩, ⟨(some (K.ofNat 13)), (some ((K.ofNat 8), true)), .bin .lss (.t (K.ofNat 10)) (.t (K.ofNat 12))⟩, ⟨(some (K.ofNat 14)), none, .pick (.t (K.ofNat 8)) (.t (K.ofNat 13)) (.c (.b false))⟩, ⟨(some (K.ofNat 15)), none, .mv (.t (K.ofNat 14))⟩, ⟨(some (K.ofNat 16)), (some ((K.ofNat 15), true)), .iadr 2 1 (.t (K.ofNat 3)) (.c (.i .i64 (.ofNat 1)))⟩, ⟨(some (K.ofNat 17)), (some ((K.ofNat 15), true)), .ld (.t (K.ofNat 16))⟩, ⟨(some (K.ofNat 18)), (some ((K.ofNat 15), true)), .mv (.t (K.ofNat 0))⟩, ⟨(some (K.ofNat 19)), (some ((K.ofNat 15), true)), .bin .lss (.t (K.ofNat 17)) (.t (K.ofNat 18))⟩, ⟨(some (K.ofNat 20)), none, .pick (.t (K.ofNat 15)) (.t (K.ofNat 19)) (.c (.b false))⟩, ⟨(some (K.ofNat 4)), none, .as (.t (K.ofNat 20))⟩]
noncomputable def f60_c : EC := (.seq (.reg f60_r0) (.seq (.reg f60_r1) .ret))
noncomputable def f60 : EF := ⟨21, [.tmp (K.ofNat 4)], f60_c, none⟩
theorem f60_rs : f60.rs = [.tmp (K.ofNat 4)] := of_eq_true (eq_self _)
noncomputable def f17_r0 : List EOper := [⟨(some (K.ofNat 4)), none, .as (.c (.i .i64 (.ofNat 0)))⟩]
noncomputable def f17_r1 : List EOper := [⟨(some (K.ofNat 7)), none, .mv (.t (K.ofNat 0))⟩, ⟨(some (K.ofNat 8)), none, .bin .lss (.t (K.ofNat 7)) (.c (.i .i64 (.ofNat 2)))⟩, ⟨(some (K.ofNat 9)), none, .mv (.t (K.ofNat 8))⟩, ⟨(some (K.ofNat 10)), (some ((K.ofNat 9), false)), .mv (.t (K.ofNat 0))⟩, ⟨(some (K.ofNat 11)), (some ((K.ofNat 9), false)), .bin .gtr (.t (K.ofNat 10)) (.c (.i .i64 (.ofNat 7)))⟩, ⟨(some (K.ofNat 12)), none, .pick (.t (K.ofNat 9)) (.c (.b true)) (.t (K.ofNat 11))⟩]
noncomputable def f17_r2 : List EOper := [⟨(some (K.ofNat 4)), none, .as (.c (.i .i64 (.ofNat 1)))⟩]
noncomputable def f17_r3 : List EOper := [⟨(some (K.ofNat 13)), none, .mv (.t (K.ofNat 1))⟩, ⟨(some (K.ofNat 14)), none, .len (.t (K.ofNat 13))⟩, ⟨(some (K.ofNat 15)), none, .bin .lss (.t (K.ofNat 14)) (.c (.i .i64 (.ofNat 1)))⟩, ⟨(some (K.ofNat 16)), none, .mv (.t (K.ofNat 15))⟩, ⟨(some (K.ofNat 17)), (some ((K.ofNat 16), false)), .mv (.t (K.ofNat 1))⟩, ⟨(some (K.ofNat 18)), (some ((K.ofNat 16), false)), .len (.t (K.ofNat 17))⟩, ⟨(some (K.ofNat 19)), (some ((K.ofNat 16), false)), .bin .gtr (.t (K.ofNat 18)) (.c (.i .i64 (.ofNat 10)))⟩, ⟨(some (K.ofNat 20)), none, .pick (.t (K.ofNat 16)) (.c (.b true)) (.t (K.ofNat 19))⟩]
noncomputable def f17_r4 : List EOper := [⟨(some (K.ofNat 4)), none, .as (.c (.i .i64 (.ofNat 20)))⟩]
noncomputable def f17_r5 : List EOper := [⟨(some (K.ofNat 21)), none, .mv (.t (K.ofNat 1))⟩, ⟨(some (K.ofNat 22)), none, .len (.t (K.ofNat 21))⟩, ⟨(some (K.ofNat 23)), none, .mv (.c (.i .i64 (.ofNat 0)))⟩]
noncomputable def f17_r6 : List EOper := [⟨(some (K.ofNat 24)), none, .bin .lss (.t (K.ofNat 23)) (.t (K.ofNat 22))⟩]
noncomputable def f17_r7 : List EOper := [⟨(some (K.ofNat 25)), none, .mv (.t (K.ofNat 23))⟩, ⟨(some (K.ofNat 26)), none, .iads 2 (.t (K.ofNat 21)) (.t (K.ofNat 23))⟩, ⟨(some (K.ofNat 27)), none, .ldn 2 (.t (K.ofNat 26))⟩, ⟨(some (K.ofNat 6)), none, .alloc 2 [(.i .i64 (.ofNat 0)), (.i .i64 (.ofNat 0))]⟩, ⟨(some (K.ofNat 5)), none, .as (.t (K.ofNat 25))⟩, ⟨none, none, .st 2 (.t (K.ofNat 6)) (.t (K.ofNat 27))⟩]
noncomputable def f17_r8 : List Stage := [⟨[⟨(some (K.ofNat 28)), none, .mv (.t (K.ofNat 0))⟩, ⟨(some (K.ofNat 29)), none, .ldn 2 (.t (K.ofNat 6))⟩], [], (some ⟨(some (K.ofNat 30)), none, .call (.c (.fn (K.ofNat 60) [])) [(.t (K.ofNat 28)), (.t (K.ofNat 29))]⟩), []⟩, ⟨[⟨(some (K.ofNat 31)), none, .not (.t (K.ofNat 30))⟩, ⟨(some (K.ofNat 32)), none, .mv (.t (K.ofNat 31))⟩, ⟨(some (K.ofNat 33)), (some ((K.ofNat 32), false)), .mv (.t (K.ofNat 5))⟩, ⟨(some (K.ofNat 34)), (some ((K.ofNat 32), false)), .bin .gtr (.t (K.ofNat 33)) (.c (.i .i64 (.ofNat 0)))⟩, ⟨(some (K.ofNat 35)), (some ((K.ofNat 32), false)), .mv (.t (K.ofNat 34))⟩, ⟨(some (K.ofNat 36)), (some ((K.ofNat 35), true)), .mv (.t (K.ofNat 1))⟩, ⟨(some (K.ofNat 37)), (some ((K.ofNat 35), true)), .mv (.t (K.ofNat 5))⟩, ⟨(some (K.ofNat 38)), (some ((K.ofNat 35), true)), .bin .sub (.t (K.ofNat 37)) (.c (.i .i64 (.ofNat 1)))⟩, ⟨(some (K.ofNat 39)), (some ((K.ofNat 35), true)), .iads 2 (.t (K.ofNat 36)) (.t (K.ofNat 38))⟩, ⟨(some (K.ofNat 40)), (some ((K.ofNat 35), true)), .ldn 2 (.t (K.ofNat 39))⟩, ⟨(some (K.ofNat 41)), (some ((K.ofNat 35), true)), .ldn 2 (.t (K.ofNat 6))⟩], [], (some ⟨(some (K.ofNat 42)), (some ((K.ofNat 35), true)), .call (.c (.fn (K.ofNat 61) [])) [(.t (K.ofNat 40)), (.t (K.ofNat 41))]⟩), []⟩, ⟨[⟨(some (K.ofNat 43)), (some ((K.ofNat 35), true)), .not (.t (K.ofNat 42))⟩, ⟨(some (K.ofNat 44)), (some ((K.ofNat 32), false)), .pick (.t (K.ofNat 35)) (.t (K.ofNat 43)) (.c (.b false))⟩, ⟨(some (K.ofNat 45)), none, .pick (.t (K.ofNat 32)) (.c (.b true)) (.t (K.ofNat 44))⟩], [], none, []⟩]
noncomputable def f17_r9 : List EOper := [⟨(some (K.ofNat 4)), none, .as (.c (.i .i64 (.ofNat 20)))⟩]
noncomputable def f17_r10 : List EOper := [⟨(some (K.ofNat 46)), none, .bin .add (.t (K.ofNat 23)) (.c (.i .i64 (.ofNat 1)))⟩, ⟨(some (K.ofNat 23)), none, .mv (.t (K.ofNat 46))⟩]
noncomputable def f17_l0 : EC := (.seq (.reg f17_r6) (.seq (.cond (.t (K.ofNat 24)) .skip (.exit 0)) (.seq (.block 1 (.seq (.reg f17_r7) (.seq (.draw f17_r8) (.cond (.t (K.ofNat 45)) (.seq (.reg f17_r9) .ret) .skip)))) (.reg f17_r10))))
noncomputable def f17_r11 : List EOper := [⟨(some (K.ofNat 4)), none, .as (.c (.i .i64 (.ofNat 0)))⟩]
noncomputable def f17_c : EC := (.seq (.reg f17_r0) (.seq (.seq (.reg f17_r1) (.cond (.t (K.ofNat 12)) (.seq (.reg f17_r2) .ret) .skip)) (.seq (.seq (.reg f17_r3) (.cond (.t (K.ofNat 20)) (.seq (.reg f17_r4) .ret) .skip)) (.seq (.seq (.reg f17_r5) (.block 0 (.loop f17_l0))) (.seq (.reg f17_r11) .ret)))))
noncomputable def f17 : EF := ⟨47, [.tmp (K.ofNat 4)], f17_c, none⟩
theorem f17_rs : f17.rs = [.tmp (K.ofNat 4)] := of_eq_true (eq_self _)
section
variable {fs : T EF} {ro : Option K}
theorem f147_ret {h : H} {a : Int} : Ret fs f147 [.i .i64 a] h fun r h' => r = .b false ∧ h' = h := by
  apply ret_of rfl
  show W fs none f147_c _ _ _
  unfold f147_c
  have d : decide (a ≠ a) = false := by simp
  simp (disch := omega) only [f147_r0, f147_r1, f147_rs, w_reg, w_seq, w_ret, seqK_n, retK_r, x_nil, x_mv, x_as, x_bin, kx, rvP_ok, okv_some, ev_t, ev_c, getV_some, putD_some, bin_neq, oGet_s, readRs_nil, readRs_t, retV_1, frame_1, Option.some.injEq, exists_eq_left', getK_set, Nat.reduceEqDiff, ↓reduceIte, d, and_self]
def cmpI (a b : Int) : Int := if a < b then -1 else if b < a then 1 else 0
theorem f129_ret {h : H} {a b : Int} (h147 : fs.get (K.ofNat 147) = some f147) : Ret fs f129 [.i .i64 a, .i .i64 b] h fun r h' => r = .i .i64 (cmpI a b) ∧ h' = h := by
  apply ret_of rfl
  show W fs none f129_c _ _ _
  unfold f129_c
  simp (disch := omega) only [f129_r0, f129_r1, w_reg, w_seq, seqK_n, x_nil, x_mv, x_as, x_call, ev_t, ev_c, evs_nil, evs_cons, getV_some, putD_some, frame_2, of0, getK_set, Nat.reduceEqDiff, ↓reduceIte]
  refine (callP_0 (ef := f147) h147 rfl f147_ret).mono ?_
  rintro r h1 ⟨rfl, hq⟩
  subst hq
  simp (disch := omega) only [f129_r2, w_reg, w_seq, seqK_n, x_nil, x_mv, x_as, x_call, kx, ev_t, ev_c, evs_nil, evs_cons, getV_some, putD_some, getK_set, Nat.reduceEqDiff, ↓reduceIte]
  refine (callP_0 (ef := f147) h147 rfl f147_ret).mono ?_
  rintro r h2 ⟨rfl, hq⟩
  subst hq
  unfold cmpI
  have hm : Int.negSucc 0 = -1 := rfl
  by_cases h1 : a < b
  · have d1 : decide (a < b) = true := by simpa using h1
    simp (disch := omega) only [f129_r3, f129_r7, f129_r9, f129_r10, f129_rs, w_skip, w_reg, w_seq, w_cond, w_ret, seqK_n, seqK_r, ckB_b, cbB_b, retK_r, x_nil, x_mv, x_as, x_bin, kx, rvP_ok, okv_some, ev_t, ev_c, getV_some, putD_some, bin_lss, oGet_s, readRs_nil, readRs_t, retV_1, Option.some.injEq, exists_eq_left', getK_set, Nat.reduceEqDiff, ↓reduceIte, Bool.false_eq_true, decide_eq_true_eq, h1, hm, and_self]
  · have d1 : decide (a < b) = false := by simpa using h1
    by_cases h2 : b < a
    · have d2 : decide (a > b) = true := by simpa using h2
      simp (disch := omega) only [f129_r3, f129_r7, f129_r9, f129_r11, f129_r12, f129_rs, w_skip, w_reg, w_seq, w_cond, w_ret, seqK_n, seqK_r, ckB_b, cbB_b, retK_r, x_nil, x_mv, x_as, x_bin, kx, rvP_ok, okv_some, ev_t, ev_c, getV_some, putD_some, bin_lss, bin_gtr, oGet_s, readRs_nil, readRs_t, retV_1, of1, Option.some.injEq, exists_eq_left', getK_set, Nat.reduceEqDiff, ↓reduceIte, Bool.false_eq_true, decide_eq_true_eq, h1, h2, and_self]
    · have d2 : decide (a > b) = false := by simpa using h2
      simp (disch := omega) only [f129_r3, f129_r7, f129_r9, f129_r11, f129_r13, f129_rs, w_skip, w_reg, w_seq, w_cond, w_ret, seqK_n, ckB_b, cbB_b, retK_r, x_nil, x_mv, x_as, x_bin, kx, rvP_ok, okv_some, ev_t, ev_c, getV_some, putD_some, bin_lss, bin_gtr, oGet_s, readRs_nil, readRs_t, retV_1, of0, Option.some.injEq, exists_eq_left', getK_set, Nat.reduceEqDiff, ↓reduceIte, Bool.false_eq_true, decide_eq_true_eq, h1, h2, and_self]
def cmpL : List Int → List Int → Int
  | [], [] => 0
  | [], _ :: _ => -1
  | _ :: _, [] => 1
  | a :: L, b :: M => if cmpI a b ≠ 0 then cmpI a b else cmpL L M
def f98_I (h : H) (v w : V) (L M : List Int) (i : Nat) (fr : Fr) (h1 : H) : Prop := h1 = h ∧ i ≤ L.length ∧ cmpL (L.drop i) (M.drop i) = cmpL L M ∧ i ≤ M.length ∧ fr.get (K.ofNat 0) = some (v) ∧ fr.get (K.ofNat 1) = some (w) ∧ fr.get (K.ofNat 9) = some (v) ∧ fr.get (K.ofNat 10) = some (.i .i64 (L.length : Int)) ∧ fr.get (K.ofNat 11) = some (.i .i64 (i : Int))
theorem f98_ret {h : H} {v w : V} {L M : List Int} (h129 : fs.get (K.ofNat 129) = some f129) (h147 : fs.get (K.ofNat 147) = some f147) (hv : Sr iE h v L) (hw : Sr iE h w M) (hL : L.length ≤ 1000000) : Ret fs f98 [v, w] h fun r h' => r = .i .i64 (cmpL L M) ∧ h' = h := by
  apply ret_of rfl
  show W fs none f98_c _ _ _
  unfold f98_c
  have hm : Int.negSucc 0 = -1 := rfl
  simp (disch := omega) only [f98_r0, f98_r1, w_reg, w_seq, w_block, seqK_n, x_nil, x_mv, x_as, x_len, kx, rvP_ok, ev_t, ev_c, getV_some, putD_some, frame_2, of0, getK_set, Nat.reduceEqDiff, ↓reduceIte, hv.len]
  refine W_loop (f98_I h v w L M) (fun i => L.length - i) ?_ 0 ⟨rfl, by omega, rfl, by omega, by simp (disch := omega) only [getK_set, Nat.reduceEqDiff, ↓reduceIte, and_self, Int.natCast_zero]⟩
  rintro i fr h1 ⟨rfl, hi, hc, hiM, g0, g1, g9, g10, g11⟩
  unfold f98_l0
  by_cases hlt : i < L.length
  · have d0 : decide ((i : Int) < (L.length : Int)) = true := by simpa using hlt
    obtain ⟨p, hp1, hp2⟩ := hv.at i hlt
    rw [List.drop_eq_getElem_cons hlt] at hc
    by_cases hm2 : i < M.length
    · have d1 : decide ((i : Int) ≥ (M.length : Int)) = false := by simp; omega
      obtain ⟨p', hp3, hp4⟩ := hw.at i hm2
      rw [List.drop_eq_getElem_cons hm2] at hc
      simp (disch := omega) only [f98_r2, f98_r3, f98_r4, f98_r6, f98_r7, w_skip, w_reg, w_seq, w_cond, w_block, seqK_n, ckB_b, cbB_b, true_and, x_nil, x_mv, x_as, x_ld, x_bin, x_iads, x_call, x_len, kx, rvP_ok, okv_some, ev_t, ev_c, evs_nil, evs_cons, getV_some, putD_some, bin_lss, bin_geq, getK_set, Nat.reduceEqDiff, ↓reduceIte, Bool.false_eq_true, g1, g9, g10, g11, d0, d1, hp1, hp2, hp3, hp4, hw.len, iE]
      refine (callP_0 (ef := f129) h129 rfl (f129_ret (a := L[i]) (b := M[i]) h147)).mono ?_
      rintro r h2 ⟨rfl, hq⟩
      subst hq
      have hc : (if cmpI L[i] M[i] ≠ 0 then cmpI L[i] M[i] else cmpL (L.drop (i + 1)) (M.drop (i + 1))) = cmpL L M := hc
      by_cases h0 : cmpI L[i] M[i] = 0
      · have d2 : decide (cmpI L[i] M[i] ≠ 0) = false := by simpa using h0
        rw [if_neg (by simpa using h0)] at hc
        simp (disch := omega) only [f98_r8, f98_r10, w_skip, w_reg, w_seq, w_cond, seqK_n, atK_n, loopK_n, ckB_b, cbB_b, true_and, x_nil, x_mv, x_as, x_bin, kx, rvP_ok, okv_some, ev_t, ev_c, getV_some, putD_some, bin_add, bin_neq, of0, of1, getK_set, Nat.reduceEqDiff, ↓reduceIte, Bool.false_eq_true, g11, d2, fw64]
        exact ⟨i + 1, by omega, rfl, by omega, hc, by omega, by simp (disch := omega) only [getK_set, Nat.reduceEqDiff, ↓reduceIte, g0, g1, g9, g10, and_self, Int.natCast_add, Int.natCast_one]⟩
      · have d2 : decide (cmpI L[i] M[i] ≠ 0) = true := by simpa using h0
        rw [if_pos h0] at hc
        simp (disch := omega) only [f98_r8, f98_r9, f98_rs, w_reg, w_seq, w_cond, w_ret, seqK_n, seqK_r, atK_r, loopK_r, ckB_b, cbB_b, retK_r, x_nil, x_mv, x_as, x_bin, kx, rvP_ok, okv_some, ev_t, ev_c, getV_some, putD_some, bin_neq, oGet_s, readRs_nil, readRs_t, retV_1, of0, Option.some.injEq, exists_eq_left', getK_set, Nat.reduceEqDiff, ↓reduceIte, d2, ← hc, and_self]
    · have d1 : decide ((i : Int) ≥ (M.length : Int)) = true := by simp; omega
      rw [show List.drop i M = [] from List.drop_of_length_le (by omega)] at hc
      have hc : (1 : Int) = cmpL L M := hc
      simp (disch := omega) only [f98_r2, f98_r3, f98_r4, f98_r5, f98_rs, w_skip, w_reg, w_seq, w_cond, w_block, w_ret, seqK_n, seqK_r, atK_r, loopK_r, ckB_b, cbB_b, retK_r, x_nil, x_mv, x_as, x_ld, x_bin, x_iads, x_len, kx, rvP_ok, okv_some, ev_t, ev_c, getV_some, putD_some, bin_lss, bin_geq, oGet_s, readRs_nil, readRs_t, retV_1, of1, Option.some.injEq, exists_eq_left', getK_set, Nat.reduceEqDiff, ↓reduceIte, g1, g9, g10, g11, d0, d1, hp1, hp2, hw.len, iE, ← hc, and_self]
  · have d0 : decide ((i : Int) < (L.length : Int)) = false := by simpa using hlt
    rw [show List.drop i L = [] from List.drop_of_length_le (by omega)] at hc
    by_cases hm2 : L.length < M.length
    · have d1 : decide ((L.length : Int) < (M.length : Int)) = true := by simpa using hm2
      rw [List.drop_eq_getElem_cons (show i < M.length by omega)] at hc
      have hc : (-1 : Int) = cmpL L M := hc
      simp (disch := omega) only [f98_r2, f98_r11, f98_r12, f98_rs, w_reg, w_seq, w_cond, w_exit, w_ret, seqK_n, seqK_e, seqK_r, atK_e, loopK_e, ckB_b, cbB_b, retK_r, x_nil, x_mv, x_as, x_bin, x_len, kx, rvP_ok, okv_some, ev_t, ev_c, getV_some, putD_some, bin_lss, oGet_s, readRs_nil, readRs_t, retV_1, Option.some.injEq, exists_eq_left', getK_set, Nat.reduceEqDiff, ↓reduceIte, Bool.false_eq_true, g0, g1, g10, g11, d0, d1, hv.len, hw.len, hm, hc, and_self]
    · have d1 : decide ((L.length : Int) < (M.length : Int)) = false := by simpa using hm2
      rw [show List.drop i M = [] from List.drop_of_length_le (by omega)] at hc
      have hc : (0 : Int) = cmpL L M := hc
      simp (disch := omega) only [f98_r2, f98_r11, f98_r13, f98_rs, w_skip, w_reg, w_seq, w_cond, w_exit, w_ret, seqK_n, seqK_e, atK_e, loopK_e, ckB_b, cbB_b, retK_r, x_nil, x_mv, x_as, x_bin, x_len, kx, rvP_ok, okv_some, ev_t, ev_c, getV_some, putD_some, bin_lss, oGet_s, readRs_nil, readRs_t, retV_1, of0, Option.some.injEq, exists_eq_left', getK_set, Nat.reduceEqDiff, ↓reduceIte, Bool.false_eq_true, g0, g1, g10, g11, d0, d1, hv.len, hw.len, ← hc, and_self]
/-! ### Edges -/
def edB (n : Int) (e : Int × Int) : Bool := decide (0 ≤ e.1) && (decide (e.1 < e.2) && decide (e.2 < n))
def bfB (a b : Int × Int) : Bool := decide (a.1 < b.1) || (decide (a.1 = b.1) && decide (a.2 < b.2))
theorem cmpL_2 (a b : Int × Int) : decide (cmpL [a.1, a.2] [b.1, b.2] < 0) = bfB a b := by
  unfold bfB cmpL cmpL cmpL cmpI
  by_cases h1 : a.1 < b.1
  · simp [h1]
  · by_cases h2 : b.1 < a.1
    · have : a.1 ≠ b.1 := by omega
      simp [h1, h2, this]
    · have h3 : a.1 = b.1 := by omega
      by_cases h4 : a.2 < b.2
      · simp [h3, h4]
      · by_cases h5 : b.2 < a.2 <;> simp [h3, h4, h5]
theorem slcA_2 {fr : Fr} {h : H} {id : K} {a b : V} (hb : h.get id = .cells 2 [a, b]) : slcAV fr 2 1 (.p id 0) none none h = .ok (.sl id 0 2 1) h := by
  show (h.get id).onC RV.no _ = _
  rw [hb]; rfl
theorem sl_2 {h : H} {id : K} {a b : Int} (hb : h.get id = .cells 2 [.i .i64 a, .i .i64 b]) : Sl iE h (.sl id 0 2 1) [a, b] := by
  refine .inr ⟨id, 0, 2, _, rfl, hb, rfl, by simp, fun i hi => ?_⟩
  have : i = 0 ∨ i = 1 := by simp at hi; omega
  rcases this with rfl | rfl <;> rfl
def pV (e : Int × Int) : V := .agg [.i .i64 e.1, .i .i64 e.2]
theorem f61_ret {h : H} {a b : Int × Int} (h98 : fs.get (K.ofNat 98) = some f98) (h129 : fs.get (K.ofNat 129) = some f129) (h147 : fs.get (K.ofNat 147) = some f147) : Ret fs f61 [pV a, pV b] h fun r h' => r = .b (bfB a b) ∧ Grow h.nx.nat h h' := by
  apply ret_of rfl
  show W fs none f61_c _ _ _
  unfold f61_c pV
  have n1 := nx_new h (.cells 2 [.i .i64 a.1, .i .i64 a.2])
  have n2 := nx_new (h.new (.cells 2 [.i .i64 a.1, .i .i64 a.2])) (.cells 2 [.i .i64 b.1, .i .i64 b.2])
  have e1 : ((h.new (.cells 2 [.i .i64 a.1, .i .i64 a.2])).new (.cells 2 [.i .i64 b.1, .i .i64 b.2])).get h.nx = .cells 2 [.i .i64 a.1, .i .i64 a.2] := by rw [get_new_old (by omega), get_new_same]
  have e2 : ((h.new (.cells 2 [.i .i64 a.1, .i .i64 a.2])).new (.cells 2 [.i .i64 b.1, .i .i64 b.2])).get (h.new (.cells 2 [.i .i64 a.1, .i .i64 a.2])).nx = .cells 2 [.i .i64 b.1, .i .i64 b.2] := get_new_same
  have gA : Grow h.nx.nat h ((h.new (.cells 2 [.i .i64 a.1, .i .i64 a.2])).new (.cells 2 [.i .i64 b.1, .i .i64 b.2])) := (Grow.new (Nat.le_refl _) _).trans (Grow.new (by omega) _)
  simp (disch := omega) only [f61_r0, f61_r1, w_reg, w_draw, w_seq, seqK_n, x_nil, x_as, x_box, kx, xg_slcA, xd_cons, rvP_ok, ev_t, ev_c, getV_some, putD_some, oGet_s, frame_2, of0, getK_set, Nat.reduceEqDiff, ↓reduceIte, cells2]
  generalize (h.new (.cells 2 [.i .i64 a.1, .i .i64 a.2])).nx = id2 at *
  generalize (h.new (.cells 2 [.i .i64 a.1, .i .i64 a.2])).new (.cells 2 [.i .i64 b.1, .i .i64 b.2]) = h2 at *
  simp (disch := omega) only [true_and, x_call, kg, xg_nil, xg_slcA, fresh_nil, stK_s, stay_nil, rvP_ok, ev_t, ev_c, evs_nil, evs_cons, getV_some, putD_some, getK_set, Nat.reduceEqDiff, ↓reduceIte, slcA_2 e1, slcA_2 e2]
  refine (callP_0 (ef := f98) h98 rfl (f98_ret h129 h147 (sl_2 e1).sr (sl_2 e2).sr (by simp))).mono ?_
  rintro r h3 ⟨rfl, hq⟩
  subst hq
  simp (disch := omega) only [f61_rs, w_ret, seqK_n, true_and, retK_r, x_nil, x_as, kx, kg, xg_nil, xg_bin, xd_cons, fresh_nil, stK_n, stK_s, stay_nil, rvP_ok, okv_some, ev_t, ev_c, getV_some, putD_some, bin_lss, oGet_s, readRs_nil, readRs_t, retV_1, Option.some.injEq, exists_eq_left', getK_set, ↓reduceIte, cmpL_2, true_and]
  exact gA
theorem f60_ret {h : H} {n : Int} {e : Int × Int} : Ret fs f60 [.i .i64 n, pV e] h fun r h' => r = .b (edB n e) ∧ Grow h.nx.nat h h' := by
  apply ret_of rfl
  show W fs none f60_c _ _ _
  unfold f60_c pV edB
  have l0 : loadV (h.new (.cells 2 [.i .i64 e.1, .i .i64 e.2])) (.p h.nx (0 + 0 * 1)) one? = .ok (.i .i64 e.1) _ := load_p get_new_same rfl
  have l1 : loadV (h.new (.cells 2 [.i .i64 e.1, .i .i64 e.2])) (.p h.nx (0 + 1 * 1)) one? = .ok (.i .i64 e.2) _ := load_p get_new_same rfl
  have gA : Grow h.nx.nat h (h.new (.cells 2 [.i .i64 e.1, .i .i64 e.2])) := Grow.new (Nat.le_refl _) _
  cases d1 : decide (e.1 ≥ 0) with
  | false =>
    have d1' : decide (0 ≤ e.1) = false := d1
    simp (disch := omega) only [f60_r0, f60_r1, f60_rs, w_reg, w_seq, w_ret, seqK_n, okG_b, asG_t, true_and, retK_r, x_nil, x_g, x_mv, x_as, x_pick, x_box, x_ld, x_bin, x_iadr, kx, rvP_ok, okv_some, ev_t, ev_c, getV_some, putD_some, bin_geq, pick_b, onP_p, oGet_s, readRs_nil, readRs_t, retV_1, frame_2, of0, of1, Option.some.injEq, exists_eq_left', getK_set, Nat.reduceEqDiff, ↓reduceIte, Bool.false_eq_true, ix2_0, cells2, l0, d1, Bool.false_and, true_and]
    exact gA
  | true =>
    have d1' : decide (0 ≤ e.1) = true := d1
    cases d2 : decide (e.1 < e.2) with
    | false =>
      simp (disch := omega) only [f60_r0, f60_r1, f60_rs, w_reg, w_seq, w_ret, seqK_n, okG_b, asG_t, true_and, retK_r, x_nil, x_g, x_mv, x_as, x_pick, x_box, x_ld, x_bin, x_iadr, kx, rvP_ok, okv_some, ev_t, ev_c, getV_some, putD_some, bin_lss, bin_geq, pick_b, onP_p, oGet_s, readRs_nil, readRs_t, retV_1, frame_2, of0, of1, Option.some.injEq, exists_eq_left', getK_set, Nat.reduceEqDiff, ↓reduceIte, Bool.false_eq_true, ix2_0, ix2_1, cells2, l0, l1, d1, d2, Bool.false_and, Bool.true_and, true_and]
      exact gA
    | true =>
      simp (disch := omega) only [f60_r0, f60_r1, f60_rs, w_reg, w_seq, w_ret, seqK_n, okG_b, asG_t, true_and, retK_r, x_nil, x_g, x_mv, x_as, x_pick, x_box, x_ld, x_bin, x_iadr, kx, rvP_ok, okv_some, ev_t, ev_c, getV_some, putD_some, bin_lss, bin_geq, pick_b, onP_p, oGet_s, readRs_nil, readRs_t, retV_1, frame_2, of0, of1, Option.some.injEq, exists_eq_left', getK_set, Nat.reduceEqDiff, ↓reduceIte, ix2_0, ix2_1, cells2, l0, l1, d1, d2, Bool.true_and, true_and]
      exact gA
end
end Go.Ev
namespace Go.Ev
open Go Go.RowKit
def okAt (n : Int) (E : List (Int × Int)) (j : Nat) : Bool := edB n (E.getD j (0, 0)) && (decide (j = 0) || bfB (E.getD (j - 1) (0, 0)) (E.getD j (0, 0)))
def risB (n : Int) (E : List (Int × Int)) : Bool := (List.range E.length).all (okAt n E)
/-- Is this a graph? -/
def chkI (n : Int) (E : List (Int × Int)) : Int := if n < 2 ∨ 7 < n then 1 else if E.length < 1 ∨ 10 < E.length then 20 else if risB n E = true then 0 else 20
theorem risB_no {n : Int} {E : List (Int × Int)} {j : Nat} (hj : j < E.length) (h : okAt n E j = false) : risB n E = false := by
  rw [Bool.eq_false_iff]
  intro hr
  have := List.all_eq_true.1 hr j (by simpa using hj)
  rw [h] at this; cases this
theorem risB_yes {n : Int} {E : List (Int × Int)} (h : ∀ j, j < E.length → okAt n E j = true) : risB n E = true := List.all_eq_true.2 fun j hj => h j (by simpa using hj)
theorem chkI_ok {n : Int} {E : List (Int × Int)} (h : chkI n E = 0) : ∃ m : Nat, n = (m : Int) ∧ 2 ≤ m ∧ EdgesOk m E := by
  unfold chkI at h
  split at h
  · cases h
  · split at h
    · cases h
    · split at h
      · rename_i h1 h2 h3
        refine ⟨n.toNat, by omega, by omega, by omega, by omega, fun e he => ?_⟩
        obtain ⟨j, hj, rfl⟩ := List.getElem_of_mem he
        have := List.all_eq_true.1 h3 j (by simpa using hj)
        unfold okAt edB at this
        have hg : E.getD j (0, 0) = E[j] := by simp [hj]
        rw [hg] at this
        simp only [Bool.and_eq_true, decide_eq_true_eq] at this
        obtain ⟨⟨a, b, c⟩, _⟩ := this
        exact ⟨a, b, by omega⟩
      · cases h
structure CallsC (fs : T EF) : Prop where
  c17 : fs.get (K.ofNat 17) = some f17
  c60 : fs.get (K.ofNat 60) = some f60
  c61 : fs.get (K.ofNat 61) = some f61
  c98 : fs.get (K.ofNat 98) = some f98
  c129 : fs.get (K.ofNat 129) = some f129
  c147 : fs.get (K.ofNat 147) = some f147
section
variable {fs : T EF} {ro : Option K}
def f17_I (h : H) (v : V) (n : Int) (E : List (Int × Int)) (j : Nat) (fr : Fr) (h1 : H) : Prop := j ≤ E.length ∧ Grow h.nx.nat h h1 ∧ (∀ i, i < j → okAt n E i = true) ∧ fr.get (K.ofNat 0) = some (.i .i64 n) ∧ fr.get (K.ofNat 1) = some (v) ∧ fr.get (K.ofNat 21) = some (v) ∧ fr.get (K.ofNat 22) = some (.i .i64 (E.length : Int)) ∧ fr.get (K.ofNat 23) = some (.i .i64 (j : Int))
theorem f17_ret {h : H} {v : V} {n : Int} {E : List (Int × Int)} (k : CallsC fs) (hv : Srp h v E) (hc : HC h) (hE : E.length ≤ 1000000) : Ret fs f17 [.i .i64 n, v] h fun r h' => r = .i .i64 (chkI n E) ∧ Grow h.nx.nat h h' := by
  apply ret_of rfl
  show W fs none f17_c _ _ _
  unfold f17_c chkI
  cases d1 : decide (n < 2) with
  | true =>
    have h1 : n < 2 ∨ 7 < n := .inl (by simpa using d1)
    simp (disch := omega) only [f17_r0, f17_r1, f17_r2, f17_rs, w_reg, w_seq, w_cond, w_ret, seqK_n, seqK_r, ckB_b, cbB_b, okG_b, asG_f, true_and, retK_r, x_nil, x_g, x_mv, x_as, x_pick, x_bin, kx, rvP_ok, okv_some, ev_t, ev_c, getV_some, putD_some, bin_lss, pick_b, oGet_s, readRs_nil, readRs_t, retV_1, frame_2, of0, of1, of2, Option.some.injEq, exists_eq_left', getK_set, Nat.reduceEqDiff, ↓reduceIte, Bool.false_eq_true, Bool.not_true, of7, d1, h1, true_and]
    exact Grow.refl _ _
  | false =>
  cases d2 : decide (n > 7) with
  | true =>
    have h1 : n < 2 ∨ 7 < n := .inr (by simpa using d2)
    simp (disch := omega) only [f17_r0, f17_r1, f17_r2, f17_rs, w_reg, w_seq, w_cond, w_ret, seqK_n, seqK_r, ckB_b, cbB_b, okG_b, asG_f, true_and, retK_r, x_nil, x_g, x_mv, x_as, x_pick, x_bin, kx, rvP_ok, okv_some, ev_t, ev_c, getV_some, putD_some, bin_lss, bin_gtr, pick_b, oGet_s, readRs_nil, readRs_t, retV_1, frame_2, of0, of1, of2, Option.some.injEq, exists_eq_left', getK_set, Nat.reduceEqDiff, ↓reduceIte, Bool.false_eq_true, Bool.not_false, of7, d1, d2, h1, true_and]
    exact Grow.refl _ _
  | false =>
  have h1 : ¬ (n < 2 ∨ 7 < n) := by simp at d1 d2; omega
  cases d3 : decide ((E.length : Int) < 1) with
  | true =>
    have h2 : E.length < 1 ∨ 10 < E.length := .inl (by have : (E.length : Int) < 1 := by simpa using d3
                                                       omega)
    simp (disch := omega) only [f17_r0, f17_r1, f17_r3, f17_r4, f17_rs, w_skip, w_reg, w_seq, w_cond, w_ret, seqK_n, seqK_r, ckB_b, cbB_b, okG_b, asG_f, true_and, retK_r, x_nil, x_g, x_mv, x_as, x_pick, x_bin, x_len, kx, rvP_ok, okv_some, ev_t, ev_c, getV_some, putD_some, bin_lss, bin_gtr, pick_b, oGet_s, readRs_nil, readRs_t, retV_1, frame_2, of0, of1, of2, of10, Option.some.injEq, exists_eq_left', getK_set, Nat.reduceEqDiff, ↓reduceIte, Bool.false_eq_true, Bool.not_true, Bool.not_false, of7, of20, d1, d2, d3, h1, h2, hv.len, true_and]
    exact Grow.refl _ _
  | false =>
  cases d4 : decide ((E.length : Int) > 10) with
  | true =>
    have h2 : E.length < 1 ∨ 10 < E.length := .inr (by have : (E.length : Int) > 10 := by simpa using d4
                                                       omega)
    simp (disch := omega) only [f17_r0, f17_r1, f17_r3, f17_r4, f17_rs, w_skip, w_reg, w_seq, w_cond, w_ret, seqK_n, seqK_r, ckB_b, cbB_b, okG_b, asG_f, true_and, retK_r, x_nil, x_g, x_mv, x_as, x_pick, x_bin, x_len, kx, rvP_ok, okv_some, ev_t, ev_c, getV_some, putD_some, bin_lss, bin_gtr, pick_b, oGet_s, readRs_nil, readRs_t, retV_1, frame_2, of0, of1, of2, of10, Option.some.injEq, exists_eq_left', getK_set, Nat.reduceEqDiff, ↓reduceIte, Bool.false_eq_true, Bool.not_false, of7, of20, d1, d2, d3, d4, h1, h2, hv.len, true_and]
    exact Grow.refl _ _
  | false =>
  have h2 : ¬ (E.length < 1 ∨ 10 < E.length) := by simp at d3 d4; omega
  simp (disch := omega) only [f17_r0, f17_r1, f17_r3, f17_r5, w_skip, w_reg, w_seq, w_cond, w_block, seqK_n, ckB_b, cbB_b, okG_b, asG_f, true_and, x_nil, x_g, x_mv, x_as, x_pick, x_bin, x_len, kx, rvP_ok, okv_some, ev_t, ev_c, getV_some, putD_some, bin_lss, bin_gtr, pick_b, frame_2, of0, of1, of2, of10, getK_set, Nat.reduceEqDiff, ↓reduceIte, Bool.false_eq_true, Bool.not_false, of7, d1, d2, d3, d4, h1, h2, hv.len]
  refine W_loop (f17_I h v n E) (fun j => E.length - j) ?_ 0 ⟨by omega, Grow.refl _ _, fun i hi => by omega, by simp (disch := omega) only [getK_set, Nat.reduceEqDiff, ↓reduceIte, and_self, Int.natCast_zero]⟩
  rintro j fr h1 ⟨hj, gr, hok, g0, g1, g21, g22, g23⟩
  have hv1 := hv.grow hc gr
  have hc1 := gr.hc hc
  unfold f17_l0
  by_cases hlt : j < E.length
  · have d0 : decide ((j : Int) < (E.length : Int)) = true := by simpa using hlt
    obtain ⟨ide, q, hp1, hp2, _, _⟩ := hv1.at2 hlt
    have hst2 : storeV (h1.new (.cells 2 zz)) 2 (.p h1.nx 0) (.agg [.i .i64 E[j].1, .i .i64 E[j].2]) = .ok undefV ((h1.new (.cells 2 zz)).put h1.nx (.cells 2 [.i .i64 E[j].1, .i .i64 E[j].2])) := st2 (a := .i .i64 (.ofNat 0)) (b := .i .i64 (.ofNat 0)) get_new_same
    have nx1 := nx_new h1 (.cells 2 zz)
    have gA : Grow h1.nx.nat h1 ((h1.new (.cells 2 zz)).put h1.nx (.cells 2 [.i .i64 E[j].1, .i .i64 E[j].2])) := (Grow.new (Nat.le_refl _) _).trans (Grow.put (Nat.le_refl _) (by omega) _)
    have c6 : ((h1.new (.cells 2 zz)).put h1.nx (.cells 2 [.i .i64 E[j].1, .i .i64 E[j].2])).get h1.nx = .cells 2 [.i .i64 E[j].1, .i .i64 E[j].2] := get_put_same
    have nx2 : ((h1.new (.cells 2 zz)).put h1.nx (.cells 2 [.i .i64 E[j].1, .i .i64 E[j].2])).nx.nat = h1.nx.nat + 1 := nx1
    have hzz : ([.i .i64 0, .i .i64 0] : List V) = zz := rfl
    simp (disch := omega) only [f17_r6, f17_r7, w_skip, w_reg, w_draw, w_seq, w_cond, w_block, seqK_n, ckB_b, cbB_b, true_and, x_nil, x_mv, x_as, x_alloc, x_ldn, x_st, x_bin, x_iads, kx, rvP_ok, okv_some, ev_t, getV_some, putD_some, putD_none, bin_lss, of0, getK_set, Nat.reduceEqDiff, ↓reduceIte, g21, g22, g23, d0, hp1, hp2, hzz, hst2]
    generalize (h1.new (.cells 2 zz)).put h1.nx (.cells 2 [.i .i64 E[j].1, .i .i64 E[j].2]) = h2 at *
    have l6 : loadV h2 (.p h1.nx 0) (many? 2) = .ok (pV E[j]) h2 := ldn2 c6
    simp (disch := omega) only [f17_r8, true_and, x_call, kg, xg_nil, xg_mv, xg_ldn, xd_cons, fresh_nil, stK_s, stay_nil, rvP_ok, ev_t, ev_c, evs_nil, evs_cons, getV_some, putD_some, of0, of1, getK_set, Nat.reduceEqDiff, ↓reduceIte, g0, l6]
    refine (callP_0 (ef := f60) k.c60 rfl (f60_ret (n := n) (e := E[j]))).mono ?_
    rintro r h3 ⟨rfl, gB⟩
    have gAB := gA.trans (gB.low (by omega))
    have gr3 := gr.trans (gAB.low gr.nx)
    have hg : E.getD j (0, 0) = E[j] := by simp [hlt]
    cases he : edB n E[j] with
    | false =>
      have : risB n E = false := risB_no hlt (by unfold okAt; rw [hg, he]; rfl)
      simp (disch := omega) only [f17_r9, f17_rs, w_reg, w_seq, w_cond, w_ret, seqK_n, seqK_r, atK_r, loopK_r, ckB_b, cbB_b, okG_b, okG_u, asG_f, asG_u, true_and, retK_r, x_nil, x_g, x_as, kx, kg, xg_nil, xg_g, xg_mv, xg_pick, xg_not, xd_cons, fresh_nil, stK_n, stK_s, stay_nil, rvP_ok, ev_t, ev_c, getV_some, putD_some, pick_b, onB_b, oGet_s, readRs_nil, readRs_t, retV_1, Option.some.injEq, exists_eq_left', getK_set, Nat.reduceEqDiff, ↓reduceIte, Bool.false_eq_true, Bool.not_true, Bool.not_false, of20, this, true_and]
      exact gr3
    | true =>
      by_cases h0 : j = 0
      · have d5 : decide ((j : Int) > 0) = false := by simp; omega
        have hk : okAt n E j = true := by unfold okAt; rw [hg, he]; simp [h0]
        simp (disch := omega) only [f17_r10, w_skip, w_reg, w_cond, seqK_n, atK_n, loopK_n, ckB_b, cbB_b, okG_b, asG_t, asG_f, true_and, x_nil, x_g, x_mv, x_bin, kx, kg, xg_nil, xg_g, xg_mv, xg_pick, xg_bin, xg_not, xd_cons, fresh_nil, stK_n, stK_s, stay_nil, rvP_ok, okv_some, ev_t, ev_c, getV_some, putD_some, bin_add, bin_gtr, pick_b, onB_b, of1, getK_set, Nat.reduceEqDiff, ↓reduceIte, Bool.false_eq_true, Bool.not_true, Bool.not_false, g23, d5, fw64]
        refine ⟨j + 1, by omega, by omega, gr3, fun i hi => ?_, by simp (disch := omega) only [getK_set, Nat.reduceEqDiff, ↓reduceIte, g0, g1, g21, g22, and_self, Int.natCast_add, Int.natCast_one]⟩
        by_cases e : i = j
        · subst e; exact hk
        · exact hok i (by omega)
      · have d5 : decide ((j : Int) > 0) = true := by simp; omega
        have hv3 := hv.grow hc gr3
        have hlt' : j - 1 < E.length := by omega
        obtain ⟨ide', q', hp3, hp4, _, _⟩ := hv3.at2 hlt'
        have l63 : loadV h3 (.p h1.nx 0) (many? 2) = .ok (pV E[j]) h3 := ldn2 (by rw [gB.old _ (by omega)]; exact c6)
        have hp4' : loadV h3 (.p ide' q') (many? 2) = .ok (pV E[j - 1]) h3 := hp4
        have hj1 : fw .i64 ((j : Int) - 1) = ((j - 1 : Nat) : Int) := by rw [fw64 (by omega) (by omega)]; omega
        simp (disch := omega) only [okG_b, asG_t, asG_f, true_and, x_nil, x_g, x_call, kx, kg, xg_nil, xg_g, xg_mv, xg_ldn, xg_bin, xg_not, xg_iads, xd_cons, fresh_nil, stK_s, stay_nil, rvP_ok, okv_some, ev_t, ev_c, evs_nil, evs_cons, getV_some, putD_some, bin_sub, bin_gtr, onB_b, getK_set, Nat.reduceEqDiff, ↓reduceIte, Bool.not_true, Bool.not_false, g1, d5, hj1, hp3, hp4', l63]
        refine (callP_0 (ef := f61) k.c61 rfl (f61_ret (a := E[j - 1]) (b := E[j]) k.c98 k.c129 k.c147)).mono ?_
        rintro r h4 ⟨rfl, gC⟩
        have gr4 := gr3.trans (gC.low gr3.nx)
        have hg' : E.getD (j - 1) (0, 0) = E[j - 1] := by simp [hlt']
        have hk : okAt n E j = bfB E[j - 1] E[j] := by unfold okAt; rw [hg, hg', he]; simp [h0]
        cases hb : bfB E[j - 1] E[j] with
        | false =>
          have : risB n E = false := risB_no hlt (by rw [hk, hb])
          simp (disch := omega) only [f17_r9, f17_rs, w_reg, w_seq, w_cond, w_ret, seqK_n, seqK_r, atK_r, loopK_r, ckB_b, cbB_b, okG_b, asG_t, asG_f, true_and, retK_r, x_nil, x_as, kx, kg, xg_nil, xg_g, xg_pick, xg_not, xd_cons, fresh_nil, stK_n, stay_nil, rvP_ok, ev_t, ev_c, getV_some, putD_some, pick_b, onB_b, oGet_s, readRs_nil, readRs_t, retV_1, Option.some.injEq, exists_eq_left', getK_set, Nat.reduceEqDiff, ↓reduceIte, Bool.false_eq_true, Bool.not_false, of20, this, true_and]
          exact gr4
        | true =>
          simp (disch := omega) only [f17_r10, w_skip, w_reg, w_cond, seqK_n, atK_n, loopK_n, ckB_b, cbB_b, okG_b, asG_t, asG_f, true_and, x_nil, x_mv, x_bin, kx, kg, xg_nil, xg_g, xg_pick, xg_not, xd_cons, fresh_nil, stK_n, stay_nil, rvP_ok, okv_some, ev_t, ev_c, getV_some, putD_some, bin_add, pick_b, onB_b, of1, getK_set, Nat.reduceEqDiff, ↓reduceIte, Bool.false_eq_true, Bool.not_true, Bool.not_false, g23, fw64]
          refine ⟨j + 1, by omega, by omega, gr4, fun i hi => ?_, by simp (disch := omega) only [getK_set, Nat.reduceEqDiff, ↓reduceIte, g0, g1, g21, g22, and_self, Int.natCast_add, Int.natCast_one]⟩
          by_cases e : i = j
          · subst e; rw [hk, hb]
          · exact hok i (by omega)
  · have d0 : decide ((j : Int) < (E.length : Int)) = false := by simpa using hlt
    obtain rfl : j = E.length := by omega
    have : risB n E = true := risB_yes hok
    simp (disch := omega) only [f17_r6, f17_r11, f17_rs, w_reg, w_seq, w_cond, w_exit, w_ret, seqK_n, seqK_e, atK_e, loopK_e, ckB_b, cbB_b, true_and, retK_r, x_nil, x_as, x_bin, kx, rvP_ok, okv_some, ev_t, ev_c, getV_some, putD_some, bin_lss, oGet_s, readRs_nil, readRs_t, retV_1, of0, Option.some.injEq, exists_eq_left', getK_set, ↓reduceIte, Bool.false_eq_true, g22, g23, d0, this, true_and]
    exact gr
end
end Go.Ev
namespace Go.Ev
open Go Go.RowKit
noncomputable def f24_r0 : List EOper := [⟨(some (K.ofNat 4)), none, .alloc 1 [.sn]⟩, ⟨(some (K.ofNat 5)), none, .alloc 1 [(.b false)]⟩, ⟨(some (K.ofNat 6)), none, .alloc 1 [(.i .i64 (.ofNat 0))]⟩]
noncomputable def f24_r1 : List EOper := [⟨(some (K.ofNat 9)), none, .mv (.t (K.ofNat 0))⟩, ⟨(some (K.ofNat 10)), none, .mv (.t (K.ofNat 1))⟩, ⟨(some (K.ofNat 11)), none, .call (.c (.fn (K.ofNat 17) [])) [(.t (K.ofNat 9)), (.t (K.ofNat 10))]⟩, ⟨(some (K.ofNat 7)), none, .as (.t (K.ofNat 11))⟩]
noncomputable def f24_r2 : List EOper := [⟨(some (K.ofNat 12)), none, .mv (.t (K.ofNat 7))⟩, ⟨(some (K.ofNat 13)), none, .bin .neq (.t (K.ofNat 12)) (.c (.i .i64 (.ofNat 0)))⟩]
noncomputable def f24_r3 : List EOper := [⟨(some (K.ofNat 14)), none, .mv (.t (K.ofNat 7))⟩, ⟨none, none, .st 1 (.t (K.ofNat 4)) (.c .sn)⟩, ⟨none, none, .st 1 (.t (K.ofNat 5)) (.c (.b false))⟩, ⟨none, none, .st 1 (.t (K.ofNat 6)) (.t (K.ofNat 14))⟩]
noncomputable def f24_r4 : List EOper := [⟨(some (K.ofNat 15)), none, .mv (.t (K.ofNat 0))⟩, ⟨(some (K.ofNat 16)), none, .mv (.t (K.ofNat 1))⟩, ⟨(some (K.ofNat 17)), none, .call (.c (.fn (K.ofNat 68) [])) [(.t (K.ofNat 15)), (.t (K.ofNat 16))]⟩]
noncomputable def f24_r5 : List EOper := [⟨(some (K.ofNat 8)), none, .as (.t (K.ofNat 18))⟩]
noncomputable def f24_a0 : EC := (.reg f24_r5)
noncomputable def f24_r6 : List EOper := [⟨(some (K.ofNat 19)), none, .mv (.t (K.ofNat 8))⟩, ⟨none, none, .st 1 (.t (K.ofNat 4)) (.t (K.ofNat 19))⟩, ⟨none, none, .st 1 (.t (K.ofNat 5)) (.c (.b true))⟩, ⟨none, none, .st 1 (.t (K.ofNat 6)) (.c (.i .i64 (.ofNat 0)))⟩]
noncomputable def f24_b0 : EC := (.block 1 (.seq (.reg f24_r6) .ret))
noncomputable def f24_r7 : List EOper := [⟨none, none, .st 1 (.t (K.ofNat 4)) (.c .sn)⟩, ⟨none, none, .st 1 (.t (K.ofNat 5)) (.c (.b false))⟩, ⟨none, none, .st 1 (.t (K.ofNat 6)) (.c (.i .i64 (.ofNat 0)))⟩]
noncomputable def f24_c : EC := (.seq (.reg f24_r0) (.seq (.seq (.reg f24_r1) (.seq (.reg f24_r2) (.cond (.t (K.ofNat 13)) (.seq (.reg f24_r3) .ret) .skip))) (.seq (.seq (.reg f24_r4) (.block 0 (.rangeF (.t (K.ofNat 17)) [(K.ofNat 18)] f24_a0 f24_b0))) (.seq (.reg f24_r7) .ret))))
noncomputable def f24 : EF := ⟨20, [.cell (K.ofNat 4), .cell (K.ofNat 5), .cell (K.ofNat 6)], f24_c, none⟩
theorem f24_rs : f24.rs = [.cell (K.ofNat 4), .cell (K.ofNat 5), .cell (K.ofNat 6)] := of_eq_true (eq_self _)
theorem cons0 {α : Type} : ∀ {l : List α} (h : 0 < l.length), l = l[0] :: l.tail
  | [], h => by simp at h
  | x :: l, _ => rfl
/-- All graceful labels. -/
def labsL (n : Nat) (E : List (Int × Int)) : List (List Int) := enumL E n [] (List.replicate 26 false)
theorem Srp.ltb {h : H} {v : V} {L : List (Int × Int)} (hs : Srp h v L) (hc : HC h) : ∀ id off n sz, v = .sl id off n sz → id.nat < h.nx.nat := Srk.lt hs hc
theorem readP1 {h : H} {id : K} {x : V} (hb : h.get id = .cells 1 [x]) : readP h (.p id 0) one? = some x := by
  show (h.get id).onC none _ = _
  rw [hb]; rfl
/-- Three cells of results. -/
structure Tri (a b c : K) (h : H) (x y z : V) : Prop where
  ha : h.get a = .cells 1 [x]
  hb : h.get b = .cells 1 [y]
  hc : h.get c = .cells 1 [z]
  ab : a.nat < b.nat
  bc : b.nat < c.nat
section
variable {fs : T EF} {ro : Option K} {a b c : K} {h h' : H} {x y z u v w : V}
theorem Tri.same (t : Tri a b c h x y z) (hs : ∀ i : K, i.nat < c.nat + 1 → h'.get i = h.get i) : Tri a b c h' x y z :=
  ⟨(hs a (by have := t.ab; have := t.bc; omega)).trans t.ha, (hs b (by have := t.bc; omega)).trans t.hb, (hs c (by omega)).trans t.hc, t.ab, t.bc⟩
theorem Tri.s1 (t : Tri a b c h x y z) (hu : cellsN 1 u = some [u]) : storeV h 1 (.p a 0) u = .ok undefV (h.put a (.cells 1 [u])) := st1 t.ha hu
theorem Tri.s2 (t : Tri a b c h x y z) (hv : cellsN 1 v = some [v]) : storeV (h.put a (.cells 1 [u])) 1 (.p b 0) v = .ok undefV ((h.put a (.cells 1 [u])).put b (.cells 1 [v])) := st1 (by rw [get_put_other (kNe t.ab).symm]; exact t.hb) hv
theorem Tri.s3 (t : Tri a b c h x y z) (hw : cellsN 1 w = some [w]) : storeV ((h.put a (.cells 1 [u])).put b (.cells 1 [v])) 1 (.p c 0) w = .ok undefV (((h.put a (.cells 1 [u])).put b (.cells 1 [v])).put c (.cells 1 [w])) :=
  st1 (by rw [get_put_other (kNe t.bc).symm, get_put_other (kNe (Nat.lt_trans t.ab t.bc)).symm]; exact t.hc) hw
theorem Tri.set (t : Tri a b c h x y z) : Tri a b c (((h.put a (.cells 1 [u])).put b (.cells 1 [v])).put c (.cells 1 [w])) u v w :=
  ⟨by rw [get_put_other (kNe (Nat.lt_trans t.ab t.bc)), get_put_other (kNe t.ab), get_put_same], by rw [get_put_other (kNe t.bc), get_put_same], get_put_same, t.ab, t.bc⟩
theorem Tri.oth (_ : Tri a b c h x y z) {i : K} (h1 : i ≠ a) (h2 : i ≠ b) (h3 : i ≠ c) : (((h.put a (.cells 1 [u])).put b (.cells 1 [v])).put c (.cells 1 [w])).get i = h.get i := by rw [get_put_other h3, get_put_other h2, get_put_other h1]
theorem f68_ret {h : H} {v : V} {n : Int} (hone : cellsN 1 v = some [v]) : Ret fs f68 [.i .i64 n, v] h fun r h' => r = .fn (K.ofNat 107) [.p h.nx 0, .p (h.new (.cells 1 [.i .i64 n])).nx 0] ∧ h' = (h.new (.cells 1 [.i .i64 n])).new (.cells 1 [v]) := by
  apply ret_of rfl
  show W fs none f68_c _ _ _
  unfold f68_c
  simp (disch := omega) only [f68_r0, f68_r1, f68_rs, w_reg, w_seq, w_ret, seqK_n, retK_r, x_nil, x_as, x_box, x_mkfn, kx, rvP_ok, ev_t, ev_c, evs_nil, evs_cons, getV_some, putD_some, oGet_s, readRs_nil, readRs_t, retV_1, frame_2, cells1_i, Option.some.injEq, exists_eq_left', getK_set, Nat.reduceEqDiff, ↓reduceIte, hone, and_self]
structure CallsL (fs : T EF) : Prop extends CallsG fs, CallsC fs where
  c68 : fs.get (K.ofNat 68) = some f68
  c107 : fs.get (K.ofNat 107) = some f107
theorem Srp.one {h : H} {v : V} {L : List (Int × Int)} (hs : Srp h v L) : cellsN 1 v = some [v] := by rcases hs with ⟨rfl, _⟩ | ⟨_, _, _, _, rfl, _⟩ <;> rfl
/-- Memory below b is as it was. -/
def Agr (b : Nat) (h h1 : H) : Prop := ∀ x : K, x.nat < b → h1.get x = h.get x
theorem Agr.refl {b : Nat} {h : H} : Agr b h h := fun _ _ => rfl
/-- What stands before a loop over all labels. -/
theorem loop_pre {h : H} {v : V} {m : Nat} {E : List (Int × Int)} (hv : Srp h v E) (hc : HC h) :
    ∀ h2, h2 = (h.new (.cells 1 [.i .i64 (m : Int)])).new (.cells 1 [v]) → Grow h.nx.nat h h2 ∧ HC h2 ∧ h2.nx.nat = h.nx.nat + 2 ∧ (h.new (.cells 1 [.i .i64 (m : Int)])).nx.nat = h.nx.nat + 1 ∧ Cons h2.nx.nat m E v h.nx (h.new (.cells 1 [.i .i64 (m : Int)])).nx (fun i h1 => i = 0 ∧ Agr h2.nx.nat h2 h1) ∧
      ∀ h1, Agr h2.nx.nat h2 h1 → h1.get h.nx = .cells 1 [.i .i64 (m : Int)] ∧ h1.get (h.new (.cells 1 [.i .i64 (m : Int)])).nx = .cells 1 [v] ∧ Srp h1 v E := by
  rintro h2 rfl
  have n1 := nx_new h (.cells 1 [.i .i64 (m : Int)])
  have n2 := nx_new (h.new (.cells 1 [.i .i64 (m : Int)])) (.cells 1 [v])
  have gA : Grow h.nx.nat h ((h.new (.cells 1 [.i .i64 (m : Int)])).new (.cells 1 [v])) := (Grow.new (Nat.le_refl _) _).trans (Grow.new (by omega) _)
  have mem : ∀ h1, Agr ((h.new (.cells 1 [.i .i64 (m : Int)])).new (.cells 1 [v])).nx.nat ((h.new (.cells 1 [.i .i64 (m : Int)])).new (.cells 1 [v])) h1 → h1.get h.nx = .cells 1 [.i .i64 (m : Int)] ∧ h1.get (h.new (.cells 1 [.i .i64 (m : Int)])).nx = .cells 1 [v] ∧ Srp h1 v E := by
    intro h1 ha
    refine ⟨?_, ?_, hv.same fun id off n sz e => ?_⟩
    · rw [ha _ (by omega), get_new_old (by omega), get_new_same]
    · rw [ha _ (by omega), get_new_same]
    · have := hv.ltb hc _ _ _ _ e
      rw [ha _ (by omega), gA.old _ this]
  exact ⟨gA, gA.hc hc, by omega, n1, ⟨fun i h1 hi => mem h1 hi.2, fun i h1 h' hi hk => ⟨hi.1, fun x hx => (hk x hx).trans (hi.2 x hx)⟩, by omega, by omega, fun id off n sz e => by have := hv.ltb hc _ _ _ _ e; omega⟩, mem⟩
theorem f24_ok {h : H} {v : V} {m : Nat} {E : List (Int × Int)} (k : CallsL fs) (hv : Srp h v E) (hc : HC h) (hn : chkI (m : Int) E = 0) : Ret fs f24 [.i .i64 (m : Int), v] h fun r h' => ∃ w, r = .tup [w, .b (decide (labsL m E ≠ [])), .i .i64 0] ∧ Sl iE h' w ((labsL m E).headD []) ∧ Own h.nx.nat w ∧ Grow h.nx.nat h h' ∧ (labsL m E = [] → w = .sn) := by
  obtain ⟨m', hm, _, hE⟩ := chkI_ok hn
  obtain rfl : m = m' := by omega
  apply ret_of rfl
  show W fs none f24_c _ _ _
  unfold f24_c
  have n1 := nx_new h (.cells 1 [.sn])
  have n2 := nx_new (h.new (.cells 1 [.sn])) (.cells 1 [.b false])
  have n3 := nx_new ((h.new (.cells 1 [.sn])).new (.cells 1 [.b false])) (.cells 1 [.i .i64 0])
  have t0 : Tri h.nx (h.new (.cells 1 [.sn])).nx ((h.new (.cells 1 [.sn])).new (.cells 1 [.b false])).nx (((h.new (.cells 1 [.sn])).new (.cells 1 [.b false])).new (.cells 1 [.i .i64 0])) .sn (.b false) (.i .i64 0) :=
    ⟨by rw [get_new_old (by omega), get_new_old (by omega), get_new_same], by rw [get_new_old (by omega), get_new_same], get_new_same, by omega, by omega⟩
  have gA : Grow h.nx.nat h (((h.new (.cells 1 [.sn])).new (.cells 1 [.b false])).new (.cells 1 [.i .i64 0])) := (Grow.new (Nat.le_refl _) _).trans ((Grow.new (by omega) _).trans (Grow.new (by omega) _))
  simp (disch := omega) only [f24_r0, f24_r1, w_reg, w_seq, seqK_n, x_nil, x_mv, x_alloc, x_call, ev_t, ev_c, evs_nil, evs_cons, getV_some, putD_some, frame_2, of0, getK_set, Nat.reduceEqDiff, ↓reduceIte]
  generalize ((h.new (.cells 1 [.sn])).new (.cells 1 [.b false])).nx = idc at *
  generalize (h.new (.cells 1 [.sn])).nx = idb at *
  generalize ((h.new (.cells 1 [.sn])).new _).new _ = h3 at *
  have hE6 : E.length ≤ 1000000 := by have := hE.1; omega
  refine (callP_0 (ef := f17) k.c17 rfl (f17_ret (n := (m : Int)) k.toCallsC (hv.grow hc gA) (gA.hc hc) hE6)).mono ?_
  rintro r h4 ⟨rfl, gB⟩
  rw [hn]
  have t4 := t0.same (h' := h4) fun i hi => gB.old i (by omega)
  have gAB := gA.trans (gB.low (by omega))
  have hv4 := hv.grow hc gAB
  have hc4 := gAB.hc hc
  have d : decide ((0 : Int) ≠ 0) = false := rfl
  simp (disch := omega) only [f24_r2, f24_r4, w_skip, w_reg, w_seq, w_cond, seqK_n, ckB_b, cbB_b, true_and, x_nil, x_mv, x_as, x_bin, x_call, kx, rvP_ok, okv_some, ev_t, ev_c, evs_nil, evs_cons, getV_some, putD_some, bin_neq, of0, getK_set, Nat.reduceEqDiff, ↓reduceIte, Bool.false_eq_true, d]
  refine (callP_0 (ef := f68) k.c68 rfl (f68_ret (n := (m : Int)) hv.one)).mono ?_
  rintro r h6 ⟨rfl, h6e⟩
  obtain ⟨gC, hc6, n6, n5, hC, hmem⟩ := loop_pre (m := m) hv4 hc4 h6 h6e
  have n4 := gB.nx
  have t6 := t4.same (h' := h6) fun i hi => gC.old i (by omega)
  have g6 := gAB.trans (gC.low gAB.nx)
  simp (disch := omega) only [w_block, seqK_n, x_nil, kx, putD_some]
  generalize hfr : T.set (K.ofNat 17) _ _ = fr6
  have f17' : fr6.get (K.ofNat 17) = some (.fn (K.ofNat 107) [.p h4.nx 0, .p (h4.new (.cells 1 [.i .i64 (m : Int)])).nx 0]) := by rw [← hfr]; simp (disch := omega) only [getK_set, ↓reduceIte]
  have f4 : fr6.get (K.ofNat 4) = some (.p h.nx 0) := by rw [← hfr]; simp (disch := omega) only [getK_set, Nat.reduceEqDiff, ↓reduceIte]
  have f5 : fr6.get (K.ofNat 5) = some (.p idb 0) := by rw [← hfr]; simp (disch := omega) only [getK_set, Nat.reduceEqDiff, ↓reduceIte]
  have f6 : fr6.get (K.ofNat 6) = some (.p idc 0) := by rw [← hfr]; simp (disch := omega) only [getK_set, Nat.reduceEqDiff, ↓reduceIte]
  clear hfr
  refine W_rangeL (k := (K.ofNat 107)) (Y := labsL m E) rfl (by simp (disch := omega) only [ev_t, getV_some, f17']) (all_yieldsL k.toCallsG k.c107 hE) hc6 (fun i h1 => i = 0 ∧ Agr h6.nx.nat h6 h1)
    (fun e h1 => e = .ret ∧ ∃ w L0 R, labsL m E = L0 :: R ∧ Tri h.nx idb idc h1 w (.b true) (.i .i64 0) ∧ Sl iE h1 w L0 ∧ Own h.nx.nat w ∧ Grow h.nx.nat h h1) hC ⟨rfl, Agr.refl⟩ ?_ ?_ ?_
  · rintro i h1 w hi ⟨rfl, hag⟩ hc1 hnx hb sw ow
    rw [show ∀ Q fr h, W fs (some h6.nx) f24_a0 Q fr h = X fs f24_r5 (Q .normal) fr h from fun _ _ _ => rfl]
    simp (disch := omega) only [f24_r5, rndA_n, x_nil, x_as, ev_t, getV_some, putD_some, getK_set, Nat.reduceEqDiff, ↓reduceIte]
    refine ⟨hb, ?_⟩
    have t7 : Tri h.nx idb idc (h1.put h6.nx (bsyB fr6 [(K.ofNat 18)] f24_a0 f24_b0)) .sn (.b false) (.i .i64 0) := t6.same fun i hi => by rw [get_put_other (fun e => by rw [e] at hi; omega)]; exact hag i (by omega)
    have e7 : (h1.put h6.nx (bsyB fr6 [(K.ofNat 18)] f24_a0 f24_b0)).get h6.nx = bsyB fr6 [(K.ofNat 18)] f24_a0 f24_b0 := get_put_same
    have nx7 : (h1.put h6.nx (bsyB fr6 [(K.ofNat 18)] f24_a0 f24_b0)).nx = h1.nx := rfl
    have sw7 : Sl iE (h1.put h6.nx (bsyB fr6 [(K.ofNat 18)] f24_a0 f24_b0)) w (labsL m E)[0] := sw.put (fun off n sz e => by have := ow _ _ _ _ e; omega) _
    have hc7 : HC (h1.put h6.nx (bsyB fr6 [(K.ofNat 18)] f24_a0 f24_b0)) := (Grow.put (b := 0) (Nat.zero_le _) hnx _).hc hc1
    have o7 : ∀ y : K, y ≠ h6.nx → (h1.put h6.nx (bsyB fr6 [(K.ofNat 18)] f24_a0 f24_b0)).get y = h1.get y := fun y hy => get_put_other hy
    show W fs (some h6.nx) (.block 1 (.seq (.reg f24_r6) .ret)) (rndK h6.nx fr6 [(K.ofNat 18)] f24_a0 f24_b0 _ _) _ _
    generalize hh7 : h1.put h6.nx (bsyB fr6 [(K.ofNat 18)] f24_a0 f24_b0) = h7 at *
    have hwo := sw7.sr.one
    have lc : idc.nat < h6.nx.nat := by omega
    have t8 := t7.set (u := w) (v := .b true) (w := .i .i64 0)
    have oth : ∀ {i : K}, idc.nat < i.nat → (((h7.put h.nx (.cells 1 [w])).put idb (.cells 1 [.b true])).put idc (.cells 1 [.i .i64 0])).get i = h7.get i := fun {i} hi => t7.oth (kNe (by have := t7.ab; have := t7.bc; omega)).symm (kNe (by have := t7.bc; omega)).symm (kNe hi).symm
    simp (disch := omega) only [f24_r6, w_reg, w_seq, w_block, w_ret, seqK_n, atK_r, true_and, rndK_r, x_nil, x_mv, x_st, kx, rvP_ok, ev_t, ev_c, getV_some, putD_some, putD_none, of0, getK_set, Nat.reduceEqDiff, ↓reduceIte, f4, f5, f6, t7.s1 hwo, t7.s2 (u := w) (v := .b true) rfl, t7.s3 (u := w) (v := .b true) (w := .i .i64 0) rfl]
    have nx8 : (((h7.put h.nx (.cells 1 [w])).put idb (.cells 1 [.b true])).put idc (.cells 1 [.i .i64 0])).nx = h7.nx := rfl
    have g8 : Grow h.nx.nat h7 (((h7.put h.nx (.cells 1 [w])).put idb (.cells 1 [.b true])).put idc (.cells 1 [.i .i64 0])) := (Grow.put (Nat.le_refl _) (by have := t7.ab; have := t7.bc; rw [nx7]; omega) _).trans ((Grow.put (by have := t7.ab; omega) (by have := t7.bc; show idb.nat < h7.nx.nat; rw [nx7]; omega) _).trans (Grow.put (by have := t7.ab; have := t7.bc; omega) (by show idc.nat < h7.nx.nat; rw [nx7]; omega) _))
    generalize ((h7.put h.nx (.cells 1 [w])).put idb (.cells 1 [.b true])).put idc (.cells 1 [.i .i64 0]) = h8 at *
    have e8 := oth lc
    refine ⟨by rw [e8]; exact e7, ⟨w, (labsL m E)[0], (labsL m E).tail, ?_, t8.same fun i hi => get_put_other (fun e => by rw [e] at hi; omega), ?_, fun id off n sz e => by have := ow _ _ _ _ e; omega, ?_⟩, ?_⟩
    · exact cons0 hi
    · refine sw7.same fun id off n sz e => ?_
      have h5 := ow _ _ _ _ e
      rw [get_put_other (fun e => by rw [e] at h5; omega), oth (by omega)]
    · refine ⟨by show h.nx.nat ≤ h8.nx.nat; rw [nx8, nx7]; have := g6.nx; omega, fun id hid => ?_, fun _ => (Grow.put (b := 0) (Nat.zero_le _) (by rw [nx8, nx7]; exact hnx) _).hc (g8.hc hc7)⟩
      rw [get_put_other (fun e => by rw [e] at hid; have := g6.nx; omega), g8.old id hid, o7 id (fun e => by rw [e] at hid; have := g6.nx; omega), hag id (by have := g6.nx; omega), g6.old id hid]
    · refine ⟨by show h1.nx.nat ≤ h8.nx.nat; rw [nx8, nx7]; exact Nat.le_refl _, (Grow.put (b := 0) (Nat.zero_le _) (by rw [nx8, nx7]; exact hnx) _).hc (g8.hc hc7), fun y hy hy2 => ?_⟩
      rw [get_put_other (fun e => by rw [e] at hy; omega), oth (by omega), o7 y (fun e => by rw [e] at hy; omega)]
  · rintro h1 ⟨h0, hag⟩ hc1 hnx
    have hY : labsL m E = [] := List.length_eq_zero_iff.1 h0
    have t7 : Tri h.nx idb idc (h1.put h6.nx .dead) .sn (.b false) (.i .i64 0) := t6.same fun i hi => by rw [get_put_other (fun e => by rw [e] at hi; omega)]; exact hag i (by omega)
    have hc7 : HC (h1.put h6.nx .dead) := (Grow.put (b := 0) (Nat.zero_le _) hnx _).hc hc1
    have nx7 : (h1.put h6.nx .dead).nx = h1.nx := rfl
    have o7 : ∀ y : K, y.nat < h6.nx.nat → (h1.put h6.nx .dead).get y = h6.get y := fun y hy => by rw [get_put_other (fun e => by rw [e] at hy; omega)]; exact hag y hy
    generalize h1.put h6.nx .dead = h7 at *
    have t8 := t7.set (u := .sn) (v := .b false) (w := .i .i64 0)
    have g8 : Grow h.nx.nat h7 (((h7.put h.nx (.cells 1 [.sn])).put idb (.cells 1 [.b false])).put idc (.cells 1 [.i .i64 0])) := (Grow.put (Nat.le_refl _) (by have := t7.ab; have := t7.bc; rw [nx7]; omega) _).trans ((Grow.put (by have := t7.ab; omega) (by have := t7.bc; show idb.nat < h7.nx.nat; rw [nx7]; omega) _).trans (Grow.put (by have := t7.ab; have := t7.bc; omega) (by show idc.nat < h7.nx.nat; rw [nx7]; omega) _))
    simp (disch := omega) only [f24_r7, f24_rs, w_reg, w_seq, w_ret, seqK_n, atK_n, retK_r, x_nil, x_st, kx, rvP_ok, ev_t, ev_c, getV_some, putD_none, oGet_s, readRs_nil, readRs_c, retV_2, of0, Option.some.injEq, exists_eq_left', f4, f5, f6, t7.s1 (u := .sn) rfl, t7.s2 (u := .sn) (v := .b false) rfl, t7.s3 (u := .sn) (v := .b false) (w := .i .i64 0) rfl, readP1 t8.ha, readP1 t8.hb, readP1 t8.hc]
    refine ⟨.sn, by simp [hY], by rw [hY]; exact Sl.nil, Own.sn, ?_, fun _ => rfl⟩
    refine Grow.trans ⟨by rw [nx7]; have := g6.nx; omega, fun id hid => ?_, fun _ => hc7⟩ g8
    rw [o7 id (by have := g6.nx; omega), g6.old id hid]
  · rintro e h1 _ ⟨rfl, w, L0, R, hY, t, sw, ow, g⟩
    simp (disch := omega) only [f24_rs, seqK_r, atK_r, retK_r, getV_some, oGet_s, readRs_nil, readRs_c, retV_2, Option.some.injEq, exists_eq_left', f4, f5, f6, readP1 t.ha, readP1 t.hb, readP1 t.hc, hY]
    exact ⟨w, by simp, by simpa using sw, ow, g, by simp⟩
end
end Go.Ev
namespace Go.Ev
open Go Go.RowKit
/-! ### What is grown -/
/-- The first that is found, from a on. -/
def firstF {α : Type} (g : Int → Option α) : Int → Nat → Option α
  | _, 0 => none
  | a, n + 1 => match g a with | some r => some r | none => firstF g (a + 1) n
theorem firstF_succ {α : Type} (g : Int → Option α) (a : Int) (n : Nat) : firstF g a (n + 1) = match g a with | some r => some r | none => firstF g (a + 1) n := rfl
section
variable {fs : T EF} {ro : Option K} {h : H} {id : K} {u : V} {A : List Bool} {m l : Int}
/-! ### What a growth gives -/
def OSr (h : H) (w : V) : Option (List Int) → Prop
  | none => w = .sn
  | some R => Sr iE h w R ∧ R ≠ []
def Out (h : H) (r : V) (o : Option (List Int)) : Prop := ∃ w, r = .tup [w, .b o.isSome] ∧ OSr h w o
end
end Go.Ev
namespace Go.Ev
open Go Go.RowKit
section
variable {fs : T EF} {ro : Option K} {h : H} {v : V} {L : List Int} {A : List Bool} {m l : Int}
end
end Go.Ev
namespace Go.Ev
open Go Go.RowKit
section
variable {fs : T EF} {ro : Option K} {h : H} {v : V} {L : List Int} {A : List Bool}
end
end Go.Ev
namespace Go.Ev
open Go Go.RowKit
section
variable {fs : T EF} {ro : Option K} {h : H} {v : V} {L : List Int} {A : List Bool}
end
end Go.Ev
namespace Go.Ev
open Go Go.RowKit
section
variable {fs : T EF} {ro : Option K} {h : H} {v : V} {L : List Int}
end
end Go.Ev
namespace Go.Ev
open Go Go.RowKit
theorem firstF_none {α : Type} {g : Int → Option α} : ∀ {n : Nat} {a : Int}, firstF g a n = none → ∀ x, a ≤ x → x < a + n → g x = none
  | 0, _, _, x, h1, h2 => by omega
  | n + 1, a, hh, x, h1, h2 => by
    rw [firstF_succ] at hh
    cases hg : g a with
    | some r => rw [hg] at hh; cases hh
    | none =>
      rw [hg] at hh
      by_cases e : x = a
      · rw [e]; exact hg
      · exact firstF_none hh x (by omega) (by omega)
end Go.Ev
namespace Go.Ev
open Go Go.RowKit
section
variable {fs : T EF} {ro : Option K} {h : H} {v u : V} {L : List Int}
end
end Go.Ev
namespace Go.Ev
open Go Go.RowKit
section
variable {fs : T EF} {ro : Option K} {h : H} {v : V} {L : List Int} {A : List Bool}
end
end Go.Ev
namespace Go.Ev
open Go Go.RowKit
section
variable {fs : T EF} {ro : Option K} {h : H} {v : V} {L : List Int} {A : List Bool} {m l : Int}
end
end Go.Ev
namespace Go.Ev
open Go Go.RowKit
theorem rem_k (x : Int) {k : Nat} (hk : 0 < k) (hk2 : k ≤ 1000) : ∃ q : Nat, q < k ∧ fw .i64 ((fw .u64 x).tmod (k : Int)) = (q : Int) := by
  have h0 : 0 ≤ fw .u64 x := by rw [fw_eq]; exact Int.emod_nonneg _ (by decide)
  obtain ⟨m, hm⟩ := Int.eq_ofNat_of_zero_le h0
  have h1 : (fw .u64 x).tmod (k : Int) = ((m % k : Nat) : Int) := by rw [hm]; rfl
  have h2 : m % k < k := Nat.mod_lt _ hk
  exact ⟨m % k, by omega, by rw [h1, fw64 (by omega) (by omega)]⟩
section
variable {fs : T EF} {ro : Option K}
end
end Go.Ev
namespace Go.Ev
open Go Go.RowKit
/-- The difference at an edge. -/
def dfE (L : List Int) (e : Int × Int) : Int := absD (L.getD e.1.toNat 0) (L.getD e.2.toNat 0)
def labOk1 (m : Int) (L : List Int) (j : Nat) : Bool := decide (0 ≤ L.getD j 0) && (decide (L.getD j 0 ≤ m) && !decide (L.getD j 0 ∈ L.take j))
def labsOk (m : Int) (L : List Int) : Bool := (List.range L.length).all (labOk1 m L)
def difOk1 (E : List (Int × Int)) (L : List Int) (j : Nat) : Bool := !decide (dfE L (E.getD j (0, 0)) ∈ (E.take j).map (dfE L))
def difsOk (E : List (Int × Int)) (L : List Int) : Bool := (List.range E.length).all (difOk1 E L)
/-- Are these graceful labels? -/
def grB (n : Int) (E : List (Int × Int)) (L : List Int) : Bool := decide ((L.length : Int) = n) && (labsOk (E.length : Int) L && difsOk E L)
theorem all_no {n j : Nat} {f : Nat → Bool} (hj : j < n) (h : f j = false) : (List.range n).all f = false := by
  rw [Bool.eq_false_iff]
  intro hr
  have := List.all_eq_true.1 hr j (by simpa using hj)
  rw [h] at this; cases this
theorem all_yes {n : Nat} {f : Nat → Bool} (h : ∀ j, j < n → f j = true) : (List.range n).all f = true := List.all_eq_true.2 fun j hj => h j (by simpa using hj)
/-- Which differences were met. -/
def Met (E : List (Int × Int)) (L : List Int) (j : Nat) (B : List Bool) : Prop := ∀ d (h : d < B.length), B[d] = true ↔ (d : Int) ∈ (E.take j).map (dfE L)
theorem Met.zero {E : List (Int × Int)} {L : List Int} {k : Nat} : Met E L 0 (List.replicate k false) := fun d h => by simp
theorem Met.succ {E : List (Int × Int)} {L : List Int} {j d : Nat} {B : List Bool} (hm : Met E L j B) (hj : j < E.length) (hd : dfE L E[j] = (d : Int)) (_ : d < B.length) : Met E L (j + 1) (B.set d true) := fun k hk => by
  rw [List.take_succ_eq_append_getElem hj, List.map_append, List.mem_append, List.map_cons, List.map_nil, List.mem_singleton, hd]
  have hk' : k < B.length := by simpa using hk
  rw [List.getElem_set]
  by_cases e : d = k
  · subst e; simp
  · rw [if_neg e, hm k hk']
    constructor
    · exact fun h => .inl h
    · rintro (h | h)
      · exact h
      · exact absurd (by omega) e
theorem Met.dif {E : List (Int × Int)} {L : List Int} {j d : Nat} {B : List Bool} (hm : Met E L j B) (hj : j < E.length) (hd : dfE L E[j] = (d : Int)) (hdB : d < B.length) : difOk1 E L j = !B[d] := by
  have hg : E.getD j (0, 0) = E[j] := by simp [List.getD_eq_getElem?_getD, hj]
  unfold difOk1
  rw [hg, hd]
  have := hm d hdB
  cases hb : B[d] with
  | true => rw [decide_eq_true (this.1 hb)]
  | false => rw [decide_eq_false (fun h => by rw [this.2 h] at hb; cases hb)]
theorem labs_in {E : List (Int × Int)} {L : List Int} (h : labsOk (E.length : Int) L = true) : LabOk E L := fun x hx => by
  obtain ⟨j, hj, rfl⟩ := List.getElem_of_mem hx
  have := List.all_eq_true.1 h j (by simpa using hj)
  unfold labOk1 at this
  have hg : L.getD j 0 = L[j] := by simp [List.getD_eq_getElem?_getD, hj]
  rw [hg] at this
  simp only [Bool.and_eq_true, decide_eq_true_eq] at this
  exact ⟨this.1, this.2.1⟩
theorem dfE_in {E : List (Int × Int)} {L : List Int} {n : Nat} (hE : EdgesOk n E) (hL : LabOk E L) (hn : L.length = n) {j : Nat} (hj : j < E.length) :
    ∃ a b d : Nat, ∃ (ha : a < L.length) (hb : b < L.length), E[j].1 = (a : Int) ∧ E[j].2 = (b : Int) ∧ a < b ∧ dfE L E[j] = (d : Int) ∧ absD L[a] L[b] = (d : Int) ∧ d ≤ E.length ∧ (0 ≤ L[a] ∧ L[a] ≤ 10) ∧ (0 ≤ L[b] ∧ L[b] ≤ 10) := by
  obtain ⟨h1, h2, h3⟩ := hE
  obtain ⟨e0, e1, e2⟩ := h3 E[j] (List.getElem_mem hj)
  have ha : E[j].1.toNat < L.length := by omega
  have hb : E[j].2.toNat < L.length := by omega
  obtain ⟨p1, p2⟩ := hL _ (List.getElem_mem ha)
  obtain ⟨q1, q2⟩ := hL _ (List.getElem_mem hb)
  have hd : dfE L E[j] = absD L[E[j].1.toNat] L[E[j].2.toNat] := by
    unfold dfE
    rw [List.getD_eq_getElem?_getD, List.getD_eq_getElem?_getD, List.getElem?_eq_getElem ha, List.getElem?_eq_getElem hb]; rfl
  have hr : 0 ≤ absD L[E[j].1.toNat] L[E[j].2.toNat] ∧ absD L[E[j].1.toNat] L[E[j].2.toNat] ≤ (E.length : Int) := by unfold absD; split <;> omega
  refine ⟨_, _, (absD L[E[j].1.toNat] L[E[j].2.toNat]).toNat, ha, hb, by omega, by omega, by omega, by rw [hd]; omega, by omega, by omega, ⟨p1, by omega⟩, q1, by omega⟩
section
variable {fs : T EF} {ro : Option K} {h : H} {v w : V} {n : Nat} {E : List (Int × Int)} {L : List Int}
end
end Go.Ev
