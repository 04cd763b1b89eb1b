/-
  Labels: the copies.
  Labels: the copies, gathered.
  Labels: the law LabelsCopies.
  Labels: copies of graceful labels cover all pairs just once; turned labels.
  Labels: Covers.
  Labels: the law LabelsRosa.
-/
import Derived.Test.YtmnojcnimncbpaaPf
namespace Go.Ev
open Go Go.RowKit
noncomputable def f104_r0 : List EOper := [⟨(some (K.ofNat 11)), none, .ld (.t (K.ofNat 1))⟩, ⟨(some (K.ofNat 12)), none, .len (.t (K.ofNat 11))⟩, ⟨(some (K.ofNat 13)), none, .bin .mul (.c (.i .i64 (.ofNat 2))) (.t (K.ofNat 12))⟩, ⟨(some (K.ofNat 14)), none, .bin .add (.t (K.ofNat 13)) (.c (.i .i64 (.ofNat 1)))⟩, ⟨(some (K.ofNat 4)), none, .as (.t (K.ofNat 14))⟩]
noncomputable def f104_r1 : List EOper := [⟨(some (K.ofNat 15)), none, .mv (.t (K.ofNat 4))⟩, ⟨(some (K.ofNat 16)), none, .mv (.c (.i .i64 (.ofNat 0)))⟩]
noncomputable def f104_r2 : List EOper := [⟨(some (K.ofNat 17)), none, .bin .lss (.t (K.ofNat 16)) (.t (K.ofNat 15))⟩]
noncomputable def f104_r3 : List EOper := [⟨(some (K.ofNat 18)), none, .mv (.t (K.ofNat 16))⟩, ⟨(some (K.ofNat 5)), none, .as (.t (K.ofNat 18))⟩]
noncomputable def f104_r4 : List EOper := [⟨(some (K.ofNat 19)), none, .ld (.t (K.ofNat 1))⟩, ⟨(some (K.ofNat 20)), none, .len (.t (K.ofNat 19))⟩, ⟨(some (K.ofNat 21)), none, .mkslice 2 [(.i .i64 (.ofNat 0)), (.i .i64 (.ofNat 0))] (.t (K.ofNat 20))⟩, ⟨(some (K.ofNat 6)), none, .as (.t (K.ofNat 21))⟩]
noncomputable def f104_r5 : List EOper := [⟨(some (K.ofNat 22)), none, .ld (.t (K.ofNat 1))⟩, ⟨(some (K.ofNat 23)), none, .len (.t (K.ofNat 22))⟩, ⟨(some (K.ofNat 24)), none, .mv (.c (.i .i64 (.ofNat 0)))⟩]
noncomputable def f104_r6 : List EOper := [⟨(some (K.ofNat 25)), none, .bin .lss (.t (K.ofNat 24)) (.t (K.ofNat 23))⟩]
noncomputable def f104_r7 : List EOper := [⟨(some (K.ofNat 26)), none, .mv (.t (K.ofNat 24))⟩, ⟨(some (K.ofNat 27)), none, .iads 2 (.t (K.ofNat 22)) (.t (K.ofNat 24))⟩, ⟨(some (K.ofNat 28)), none, .ldn 2 (.t (K.ofNat 27))⟩, ⟨(some (K.ofNat 8)), none, .alloc 2 [(.i .i64 (.ofNat 0)), (.i .i64 (.ofNat 0))]⟩, ⟨(some (K.ofNat 7)), none, .as (.t (K.ofNat 26))⟩, ⟨none, none, .st 2 (.t (K.ofNat 8)) (.t (K.ofNat 28))⟩]
noncomputable def f104_r8 : List Stage := [⟨[⟨(some (K.ofNat 30)), none, .ld (.t (K.ofNat 2))⟩, ⟨(some (K.ofNat 31)), none, .iadr 2 1 (.t (K.ofNat 8)) (.c (.i .i64 (.ofNat 0)))⟩, ⟨(some (K.ofNat 32)), none, .ld (.t (K.ofNat 31))⟩, ⟨(some (K.ofNat 33)), none, .iads 1 (.t (K.ofNat 30)) (.t (K.ofNat 32))⟩, ⟨(some (K.ofNat 34)), none, .ld (.t (K.ofNat 33))⟩, ⟨(some (K.ofNat 35)), none, .mv (.t (K.ofNat 5))⟩, ⟨(some (K.ofNat 36)), none, .bin .add (.t (K.ofNat 34)) (.t (K.ofNat 35))⟩, ⟨(some (K.ofNat 37)), none, .mv (.t (K.ofNat 4))⟩, ⟨(some (K.ofNat 38)), none, .bin .rem (.t (K.ofNat 36)) (.t (K.ofNat 37))⟩, ⟨(some (K.ofNat 39)), none, .ld (.t (K.ofNat 2))⟩, ⟨(some (K.ofNat 40)), none, .iadr 2 1 (.t (K.ofNat 8)) (.c (.i .i64 (.ofNat 1)))⟩, ⟨(some (K.ofNat 41)), none, .ld (.t (K.ofNat 40))⟩, ⟨(some (K.ofNat 42)), none, .iads 1 (.t (K.ofNat 39)) (.t (K.ofNat 41))⟩, ⟨(some (K.ofNat 43)), none, .ld (.t (K.ofNat 42))⟩, ⟨(some (K.ofNat 44)), none, .mv (.t (K.ofNat 5))⟩, ⟨(some (K.ofNat 45)), none, .bin .add (.t (K.ofNat 43)) (.t (K.ofNat 44))⟩, ⟨(some (K.ofNat 46)), none, .mv (.t (K.ofNat 4))⟩, ⟨(some (K.ofNat 47)), none, .bin .rem (.t (K.ofNat 45)) (.t (K.ofNat 46))⟩, ⟨(some (K.ofNat 48)), none, .bslice 1 1 [(.i .i64 (.ofNat 0))] [(0, 1, (.t (K.ofNat 47)))]⟩], [], (some ⟨(some (K.ofNat 49)), none, .call (.c (.fn (K.ofNat 102) [])) [(.t (K.ofNat 38)), (.t (K.ofNat 48))]⟩), [(K.ofNat 48)]⟩, ⟨[⟨(some (K.ofNat 29)), none, .mv (.t (K.ofNat 49))⟩, ⟨(some (K.ofNat 50)), none, .ext (.t (K.ofNat 29)) 0⟩, ⟨(some (K.ofNat 51)), none, .ext (.t (K.ofNat 29)) 1⟩], [], (some ⟨(some (K.ofNat 9)), none, .as (.t (K.ofNat 50))⟩), []⟩, ⟨[], [⟨(some (K.ofNat 51)), none, .ext (.t (K.ofNat 29)) 1⟩], (some ⟨(some (K.ofNat 10)), none, .as (.t (K.ofNat 51))⟩), []⟩, ⟨[], [], none, []⟩]
noncomputable def f104_r9 : List EOper := [⟨(some (K.ofNat 52)), none, .mv (.t (K.ofNat 6))⟩, ⟨(some (K.ofNat 53)), none, .mv (.t (K.ofNat 7))⟩, ⟨(some (K.ofNat 54)), none, .mv (.t (K.ofNat 9))⟩, ⟨(some (K.ofNat 55)), none, .mv (.t (K.ofNat 10))⟩, ⟨(some (K.ofNat 56)), none, .build [(.i .i64 (.ofNat 0)), (.i .i64 (.ofNat 0))] [(0, 1, (.t (K.ofNat 54))), (1, 1, (.t (K.ofNat 55)))]⟩, ⟨(some (K.ofNat 57)), none, .iads 2 (.t (K.ofNat 52)) (.t (K.ofNat 53))⟩, ⟨none, none, .st 2 (.t (K.ofNat 57)) (.t (K.ofNat 56))⟩]
noncomputable def f104_r10 : List EOper := [⟨(some (K.ofNat 58)), none, .bin .add (.t (K.ofNat 24)) (.c (.i .i64 (.ofNat 1)))⟩, ⟨(some (K.ofNat 24)), none, .mv (.t (K.ofNat 58))⟩]
noncomputable def f104_l0 : EC := (.seq (.reg f104_r6) (.seq (.cond (.t (K.ofNat 25)) .skip (.exit 2)) (.seq (.block 3 (.seq (.reg f104_r7) (.seq (.draw f104_r8) (.reg f104_r9)))) (.reg f104_r10))))
noncomputable def f104_r11 : List EOper := [⟨(some (K.ofNat 59)), none, .mv (.t (K.ofNat 0))⟩, ⟨(some (K.ofNat 60)), none, .mv (.t (K.ofNat 6))⟩, ⟨(some (K.ofNat 61)), none, .call (.t (K.ofNat 59)) [(.t (K.ofNat 60))]⟩, ⟨(some (K.ofNat 62)), none, .not (.t (K.ofNat 61))⟩]
noncomputable def f104_r12 : List EOper := [⟨(some (K.ofNat 63)), none, .bin .add (.t (K.ofNat 16)) (.c (.i .i64 (.ofNat 1)))⟩, ⟨(some (K.ofNat 16)), none, .mv (.t (K.ofNat 63))⟩]
noncomputable def f104_l1 : EC := (.seq (.reg f104_r2) (.seq (.cond (.t (K.ofNat 17)) .skip (.exit 0)) (.seq (.block 1 (.seq (.reg f104_r3) (.seq (.reg f104_r4) (.seq (.seq (.reg f104_r5) (.block 2 (.loop f104_l0))) (.seq (.reg f104_r11) (.cond (.t (K.ofNat 62)) .ret .skip)))))) (.reg f104_r12))))
noncomputable def f104_c : EC := (.seq (.reg f104_r0) (.seq (.reg f104_r1) (.block 0 (.loop f104_l1))))
noncomputable def f104 : EF := ⟨64, [], f104_c, none⟩
theorem f104_rs : f104.rs = [] := of_eq_true (eq_self _)
noncomputable def f103_r0 : List EOper := [⟨(some (K.ofNat 2)), none, .box 1 (.t (K.ofNat 0))⟩, ⟨(some (K.ofNat 4)), none, .as (.c .sn)⟩]
noncomputable def f103_r1 : List EOper := [⟨(some (K.ofNat 6)), none, .mv (.t (K.ofNat 1))⟩]
noncomputable def f103_r2 : List EOper := [⟨(some (K.ofNat 5)), none, .as (.t (K.ofNat 7))⟩]
noncomputable def f103_a0 : EC := (.reg f103_r2)
noncomputable def f103_r3 : List EOper := [⟨(some (K.ofNat 8)), none, .ld (.t (K.ofNat 2))⟩, ⟨(some (K.ofNat 9)), none, .mv (.t (K.ofNat 5))⟩, ⟨(some (K.ofNat 10)), none, .bslice 1 1 [.sn] [(0, 1, (.t (K.ofNat 9)))]⟩, ⟨(some (K.ofNat 11)), none, .app 1 (.t (K.ofNat 8)) (.t (K.ofNat 10))⟩, ⟨none, none, .st 1 (.t (K.ofNat 2)) (.t (K.ofNat 11))⟩]
noncomputable def f103_b0 : EC := (.block 1 (.reg f103_r3))
noncomputable def f103_r4 : List EOper := [⟨(some (K.ofNat 12)), none, .ld (.t (K.ofNat 2))⟩, ⟨(some (K.ofNat 4)), none, .as (.t (K.ofNat 12))⟩]
noncomputable def f103_c : EC := (.seq (.reg f103_r0) (.seq (.seq (.reg f103_r1) (.block 0 (.rangeF (.t (K.ofNat 6)) [(K.ofNat 7)] f103_a0 f103_b0))) (.seq (.reg f103_r4) .ret)))
noncomputable def f103 : EF := ⟨13, [.tmp (K.ofNat 4)], f103_c, none⟩
theorem f103_rs : f103.rs = [.tmp (K.ofNat 4)] := of_eq_true (eq_self _)
noncomputable def f65_r0 : List EOper := [⟨(some (K.ofNat 2)), none, .as (.c .sn)⟩]
noncomputable def f65_r1 : List EOper := [⟨(some (K.ofNat 3)), none, .mv (.t (K.ofNat 0))⟩, ⟨(some (K.ofNat 4)), none, .call (.c (.fn (K.ofNat 103) [])) [(.c .sn), (.t (K.ofNat 3))]⟩, ⟨(some (K.ofNat 2)), none, .as (.t (K.ofNat 4))⟩]
noncomputable def f65_c : EC := (.seq (.reg f65_r0) (.seq (.reg f65_r1) .ret))
noncomputable def f65 : EF := ⟨5, [.tmp (K.ofNat 2)], f65_c, none⟩
theorem f65_rs : f65.rs = [.tmp (K.ofNat 2)] := of_eq_true (eq_self _)
noncomputable def f66_r0 : List EOper := [⟨(some (K.ofNat 2)), none, .box 1 (.t (K.ofNat 0))⟩, ⟨(some (K.ofNat 3)), none, .box 1 (.t (K.ofNat 1))⟩, ⟨(some (K.ofNat 4)), none, .as (.c .fnil)⟩]
noncomputable def f66_r1 : List EOper := [⟨(some (K.ofNat 5)), none, .mkfn (K.ofNat 104) [(.t (K.ofNat 2)), (.t (K.ofNat 3))]⟩, ⟨(some (K.ofNat 4)), none, .as (.t (K.ofNat 5))⟩]
noncomputable def f66_c : EC := (.seq (.reg f66_r0) (.seq (.reg f66_r1) .ret))
noncomputable def f66 : EF := ⟨6, [.tmp (K.ofNat 4)], f66_c, none⟩
theorem f66_rs : f66.rs = [.tmp (K.ofNat 4)] := of_eq_true (eq_self _)
noncomputable def f21_r0 : List EOper := [⟨(some (K.ofNat 6)), none, .as (.c .sn)⟩, ⟨(some (K.ofNat 7)), none, .as (.c (.i .i64 (.ofNat 0)))⟩]
noncomputable def f21_r1 : List EOper := [⟨(some (K.ofNat 9)), none, .mv (.t (K.ofNat 0))⟩, ⟨(some (K.ofNat 10)), none, .mv (.t (K.ofNat 1))⟩, ⟨(some (K.ofNat 11)), none, .mv (.t (K.ofNat 2))⟩, ⟨(some (K.ofNat 12)), none, .call (.c (.fn (K.ofNat 64) [])) [(.t (K.ofNat 9)), (.t (K.ofNat 10)), (.t (K.ofNat 11))]⟩, ⟨(some (K.ofNat 8)), none, .as (.t (K.ofNat 12))⟩]
noncomputable def f21_r2 : List EOper := [⟨(some (K.ofNat 13)), none, .mv (.t (K.ofNat 8))⟩, ⟨(some (K.ofNat 14)), none, .bin .neq (.t (K.ofNat 13)) (.c (.i .i64 (.ofNat 0)))⟩]
noncomputable def f21_r3 : List EOper := [⟨(some (K.ofNat 15)), none, .mv (.t (K.ofNat 8))⟩, ⟨(some (K.ofNat 6)), none, .as (.c .sn)⟩, ⟨(some (K.ofNat 7)), none, .as (.t (K.ofNat 15))⟩]
noncomputable def f21_r4 : List EOper := [⟨(some (K.ofNat 16)), none, .mv (.t (K.ofNat 1))⟩, ⟨(some (K.ofNat 17)), none, .mv (.t (K.ofNat 2))⟩, ⟨(some (K.ofNat 18)), none, .call (.c (.fn (K.ofNat 66) [])) [(.t (K.ofNat 16)), (.t (K.ofNat 17))]⟩, ⟨(some (K.ofNat 19)), none, .call (.c (.fn (K.ofNat 65) [])) [(.t (K.ofNat 18))]⟩, ⟨(some (K.ofNat 6)), none, .as (.t (K.ofNat 19))⟩, ⟨(some (K.ofNat 7)), none, .as (.c (.i .i64 (.ofNat 0)))⟩]
noncomputable def f21_c : EC := (.seq (.reg f21_r0) (.seq (.seq (.reg f21_r1) (.seq (.reg f21_r2) (.cond (.t (K.ofNat 14)) (.seq (.reg f21_r3) .ret) .skip))) (.seq (.reg f21_r4) .ret)))
noncomputable def f21 : EF := ⟨20, [.tmp (K.ofNat 6), .tmp (K.ofNat 7)], f21_c, none⟩
theorem f21_rs : f21.rs = [.tmp (K.ofNat 6), .tmp (K.ofNat 7)] := of_eq_true (eq_self _)
/-- An edge of copy t. -/
def cpE (L : List Int) (s t : Nat) (e : Int × Int) : Int × Int := (min (((L.getD e.1.toNat 0 + t).tmod s)) ((L.getD e.2.toNat 0 + t).tmod s), max (((L.getD e.1.toNat 0 + t).tmod s)) ((L.getD e.2.toNat 0 + t).tmod s))
def cpRow (E : List (Int × Int)) (L : List Int) (t : Nat) : List (Int × Int) := E.map (cpE L (2 * E.length + 1) t)
def cpAll (E : List (Int × Int)) (L : List Int) : List (List (Int × Int)) := (List.range (2 * E.length + 1)).map (cpRow E L)
theorem cpAll_at {E : List (Int × Int)} {L : List Int} {t : Nat} (h : t < (cpAll E L).length) : (cpAll E L)[t] = E.map (cpE L (2 * E.length + 1) t) := by simp [cpAll, cpRow]
/-- What the closure holds. -/
structure NC (ide idl : K) (w v : V) (E : List (Int × Int)) (L : List Int) (h : H) : Prop where
  he : h.get ide = .cells 1 [w]
  hl : h.get idl = .cells 1 [v]
  es : Srp h w E
  ls : Sr iE h v L
section
variable {fs : T EF} {ro : Option K} {h h' : H} {v w : V} {E : List (Int × Int)} {L : List Int} {ide idl : K}
theorem NC.grow (n : NC ide idl w v E L h) (hc : HC h) (hg : Grow h.nx.nat h h') : NC ide idl w v E L h' :=
  ⟨by rw [hg.old _ (hc.cells n.he)]; exact n.he, by rw [hg.old _ (hc.cells n.hl)]; exact n.hl, n.es.grow hc hg, n.ls.grow hc hg⟩
/-- The function, called with a body, goes through these lists of pairs: each is a new slice. -/
def YieldsQ (fs : T EF) (k : K) (caps : List V) (N : H → Prop) (Y : List (List (Int × Int))) : Prop :=
  ∀ (id : K) (I : Nat → H → Prop) (D : H → Prop) (h : H), (∀ i h1, I i h1 → N h1 ∧ HC h1) → I 0 h →
    (∀ i h1 h2 v (hi : i < Y.length), I i h1 → Grow h1.nx.nat h1 h2 → Srp h2 v Y[i] → Own h1.nx.nat v → ∃ r h', Round fs id v h2 r h' ∧ (r = true → I (i + 1) h') ∧ (r = false → D h')) →
    CallP fs (.fn k caps) [.yl id] h fun r h' => r = .tup [] ∧ ((∃ h1, I Y.length h1 ∧ Grow h1.nx.nat h1 h') ∨ D h')
def f104_I (id ide idl : K) (E : List (Int × Int)) (I : Nat → H → Prop) (t : Nat) (fr : Fr) (h1 : H) : Prop := t ≤ 2 * E.length + 1 ∧ I t h1 ∧ fr.get (K.ofNat 0) = some (.yl id) ∧ fr.get (K.ofNat 1) = some (.p ide 0) ∧ fr.get (K.ofNat 2) = some (.p idl 0) ∧ fr.get (K.ofNat 4) = some (.i .i64 ((2 * E.length + 1 : Nat) : Int)) ∧ fr.get (K.ofNat 15) = some (.i .i64 ((2 * E.length + 1 : Nat) : Int)) ∧ fr.get (K.ofNat 16) = some (.i .i64 (t : Int))
def f104_J (id ide idl : K) (w : V) (E : List (Int × Int)) (L : List Int) (h0 : H) (t : Nat) (j : Nat) (fr : Fr) (h1 : H) : Prop := j ≤ E.length ∧ Grow h0.nx.nat h0 h1 ∧ ∃ c, Sk 2 qE h1 c ((E.take j).map (cpE L (2 * E.length + 1) t) ++ List.replicate (E.length - j) (0, 0)) ∧ Own h0.nx.nat c ∧
  fr.get (K.ofNat 0) = some (.yl id) ∧ fr.get (K.ofNat 1) = some (.p ide 0) ∧ fr.get (K.ofNat 2) = some (.p idl 0) ∧ fr.get (K.ofNat 4) = some (.i .i64 ((2 * E.length + 1 : Nat) : Int)) ∧ fr.get (K.ofNat 5) = some (.i .i64 (t : Int)) ∧ fr.get (K.ofNat 6) = some (c) ∧ fr.get (K.ofNat 15) = some (.i .i64 ((2 * E.length + 1 : Nat) : Int)) ∧ fr.get (K.ofNat 16) = some (.i .i64 (t : Int)) ∧ fr.get (K.ofNat 22) = some (w) ∧ fr.get (K.ofNat 23) = some (.i .i64 (E.length : Int)) ∧ fr.get (K.ofNat 24) = some (.i .i64 (j : Int))
theorem copies_yield {n : Nat} (h104 : fs.get (K.ofNat 104) = some f104) (h102 : fs.get (K.ofNat 102) = some f102) (hE : EdgesOk n E) (hlab : LabOk E L) (hn : L.length = n) : YieldsQ fs (K.ofNat 104) [.p ide 0, .p idl 0] (NC ide idl w v E L) (cpAll E L) := by
  intro id I D h hN hI round
  have hE10 := hE.1
  have hYl : (cpAll E L).length = 2 * E.length + 1 := by simp [cpAll]
  refine callP_of (ef := f104) h104 rfl ?_
  show Ret fs f104 [.yl id, .p ide 0, .p idl 0] h _
  apply ret_of rfl
  show W fs none f104_c _ _ _
  unfold f104_c
  obtain ⟨N0, _⟩ := hN _ _ hI
  have l1 := load_p N0.he (show nth [w] 0 = some w from rfl)
  have es : (2 * (E.length : Int) + 1) = ((2 * E.length + 1 : Nat) : Int) := by omega
  have e2 : ((2 * E.length : Nat) : Int) = 2 * (E.length : Int) := by omega
  simp (disch := omega) only [f104_r0, f104_r1, w_reg, w_seq, w_block, seqK_n, x_nil, x_mv, x_as, x_ld, x_bin, x_len, kx, rvP_ok, okv_some, ev_t, ev_c, getV_some, putD_some, bin_add, bin_mul, frame_3, of0, of1, of2, getK_set, Nat.reduceEqDiff, ↓reduceIte, l1, N0.es.len, fw64, es]
  refine W_loop (f104_I id ide idl E I) (fun t => 2 * E.length + 1 - t) ?_ 0 ⟨by omega, hI, by simp (disch := omega) only [getK_set, Nat.reduceEqDiff, ↓reduceIte, and_self, Int.natCast_zero]⟩
  clear l1 N0 hI
  rintro t fr h0 ⟨ht, hIt, g0, g1, g2, g4, g15, g16⟩
  obtain ⟨N0, hc0⟩ := hN _ _ hIt
  unfold f104_l1
  by_cases hlt : t < 2 * E.length + 1
  · have d0 : decide ((t : Int) < ((2 * E.length + 1 : Nat) : Int)) = true := by simp only [decide_eq_true_eq]; omega
    have l1 := load_p N0.he (show nth [w] 0 = some w from rfl)
    have hmk := mks_p (h := h0) (k := .i64) (n := E.length) (by omega)
    have hsl0 := mksp_sl (h := h0) (n := E.length)
    have gD := Grow.new (Nat.le_refl h0.nx.nat) (.cells (E.length * 2) (rep (qE (0, 0)) E.length))
    simp (disch := omega) only [f104_r2, f104_r3, f104_r4, w_skip, w_reg, w_seq, w_cond, w_block, seqK_n, ckB_b, cbB_b, true_and, x_nil, x_mv, x_as, x_ld, x_bin, x_mks, x_len, kx, rvP_ok, okv_some, ev_t, getV_some, putD_some, bin_lss, of0, getK_set, Nat.reduceEqDiff, ↓reduceIte, g1, g15, g16, d0, l1, N0.es.len, hmk]
    have own0 : Own h0.nx.nat (.sl h0.nx 0 E.length 2) := fun _ _ _ _ e => by cases e; exact Nat.le_refl _
    generalize h0.new (.cells (E.length * 2) (rep (qE (0, 0)) E.length)) = h1 at *
    have N1 := N0.grow hc0 gD
    have l2 := load_p N1.he (show nth [w] 0 = some w from rfl)
    simp (disch := omega) only [f104_r5, w_block, seqK_n, x_nil, x_mv, x_ld, x_len, kx, rvP_ok, ev_t, ev_c, getV_some, putD_some, of0, getK_set, Nat.reduceEqDiff, ↓reduceIte, g1, l2, N1.es.len]
    refine W_loop (f104_J id ide idl w E L h0 t) (fun j => E.length - j) ?_ 0 ⟨by omega, gD, .sl h0.nx 0 E.length 2, by simpa using hsl0, own0, by simp (disch := omega) only [getK_set, Nat.reduceEqDiff, ↓reduceIte, g0, g1, g2, g4, g15, g16, and_self, Int.natCast_zero]⟩
    clear l1 l2 hmk hsl0 N1 gD own0 g0 g1 g2 g4 g15 g16 fr
    rintro j fr hx ⟨hj, hGx, c, hsk, hown, g0, g1, g2, g4, g5, g6, g15, g16, g22, g23, g24⟩
    have hcx := hGx.hc hc0
    have Nx := N0.grow hc0 hGx
    unfold f104_l0
    by_cases hlt2 : j < E.length
    · have d1 : decide ((j : Int) < (E.length : Int)) = true := by simpa using hlt2
      obtain ⟨ida, q, hp1, hp2, _, _⟩ := Nx.es.at2 hlt2
      obtain ⟨e0, e1, e3⟩ := hE.2.2 E[j] (List.getElem_mem hlt2)
      obtain ⟨a, ea⟩ : ∃ a : Nat, E[j].1 = (a : Int) := ⟨E[j].1.toNat, by omega⟩
      obtain ⟨b, eb⟩ : ∃ b : Nat, E[j].2 = (b : Int) := ⟨E[j].2.toNat, by omega⟩
      have ha : a < L.length := by omega
      have hb : b < L.length := by omega
      obtain ⟨x, hx'⟩ : ∃ x : Nat, L[a] = (x : Int) := ⟨L[a].toNat, by have := (hlab _ (List.getElem_mem ha)).1; omega⟩
      obtain ⟨y, hy'⟩ : ∃ y : Nat, L[b] = (y : Int) := ⟨L[b].toNat, by have := (hlab _ (List.getElem_mem hb)).1; omega⟩
      have hxb := (hlab _ (List.getElem_mem ha)).2
      have hyb := (hlab _ (List.getElem_mem hb)).2
      have hst2 : storeV (hx.new (.cells 2 zz)) 2 (.p hx.nx 0) (.agg [.i .i64 E[j].1, .i .i64 E[j].2]) = .ok undefV ((hx.new (.cells 2 zz)).put hx.nx (.cells 2 [.i .i64 E[j].1, .i .i64 E[j].2])) := st2 (a := .i .i64 (.ofNat 0)) (b := .i .i64 (.ofNat 0)) get_new_same
      have nx1 := nx_new hx (.cells 2 zz)
      have gA : Grow hx.nx.nat hx ((hx.new (.cells 2 zz)).put hx.nx (.cells 2 [.i .i64 E[j].1, .i .i64 E[j].2])) := (Grow.new (Nat.le_refl _) _).trans (Grow.put (Nat.le_refl _) (by omega) _)
      have c8 : ((hx.new (.cells 2 zz)).put hx.nx (.cells 2 [.i .i64 E[j].1, .i .i64 E[j].2])).get hx.nx = .cells 2 [.i .i64 E[j].1, .i .i64 E[j].2] := get_put_same
      have hzz : ([.i .i64 0, .i .i64 0] : List V) = zz := rfl
      generalize (hx.new (.cells 2 zz)).put hx.nx (.cells 2 [.i .i64 E[j].1, .i .i64 E[j].2]) = h3 at *
      have hG3 := hGx.trans (gA.low hGx.nx)
      have hc3 := hG3.hc hc0
      have N3 := N0.grow hc0 hG3
      have l0 : loadV h3 (.p hx.nx (0 + 0 * 1)) one? = .ok (.i .i64 E[j].1) h3 := load_p c8 rfl
      have l1 : loadV h3 (.p hx.nx (0 + 1 * 1)) one? = .ok (.i .i64 E[j].2) h3 := load_p c8 rfl
      have ll := load_p N3.hl (show nth [v] 0 = some v from rfl)
      obtain ⟨s1, hx1, hx2, hx3⟩ := N3.ls.atb a ha
      obtain ⟨s2, ht1, ht2, ht3⟩ := N3.ls.atb b hb
      have hwb := N3.ls.beq
      rw [ea] at l0
      rw [eb] at l1
      rw [ea, eb] at hst2 hp2
      have hrem : ∀ a, binV .rem (.i .i64 a) (.i .i64 ((2 * E.length + 1 : Nat) : Int)) = some (.i .i64 (a.tmod ((2 * E.length + 1 : Nat) : Int))) := fun a => bin_rem (by omega)
      have hcp : cpE L (2 * E.length + 1) t E[j] = (min ((L[a] + t).tmod ((2 * E.length + 1 : Nat) : Int)) ((L[b] + t).tmod ((2 * E.length + 1 : Nat) : Int)), max ((L[a] + t).tmod ((2 * E.length + 1 : Nat) : Int)) ((L[b] + t).tmod ((2 * E.length + 1 : Nat) : Int))) := by
        unfold cpE
        rw [ea, eb]
        simp only [Int.toNat_natCast, List.getD_eq_getElem?_getD, List.getElem?_eq_getElem ha, List.getElem?_eq_getElem hb, Option.getD_some]
      obtain ⟨A, hA⟩ : ∃ A, A = (L[a] + t).tmod ((2 * E.length + 1 : Nat) : Int) := ⟨_, rfl⟩
      obtain ⟨B, hB⟩ : ∃ B, B = (L[b] + t).tmod ((2 * E.length + 1 : Nat) : Int) := ⟨_, rfl⟩
      rw [← hA, ← hB] at hcp
      have hlit := Sl.lit (e := iE) (x := B) (h := h3)
      have gl := Grow.new (Nat.le_refl h3.nx.nat) (.cells (1 * 1) [iE B])
      simp (disch := omega) only [f104_r6, f104_r7, f104_r8, w_skip, w_reg, w_draw, w_seq, w_cond, w_block, seqK_n, ckB_b, cbB_b, true_and, x_nil, x_mv, x_as, x_alloc, x_ldn, x_st, x_bin, x_iads, x_call, kx, kg, xg_nil, xg_mv, xg_ld, xg_bin, xg_iadr, xg_iads, xg_bslice, xd_cons, stK_s, stay_nil, rvP_ok, okv_some, ev_t, ev_c, evs_nil, evs_cons, getV_some, putD_some, putD_none, bin_add, bin_lss, onP_p, oGet_s, cells1_i, fill_1, set_1, of0, of1, Option.some.injEq, exists_eq_left', getK_set, Nat.reduceEqDiff, ↓reduceIte, ix2_0, ix2_1, g2, g4, g5, g22, g23, g24, d1, hp1, hp2, hzz, hst2, l0, l1, ll, hx1, hx2, ht1, ht2, iE, hc3.dead, fill_1, set_1, hrem, ← hA, ← hB, fw64]
      refine ⟨fresh_one (n := 1) (sz := 1) (by simp (disch := omega) only [getK_set, ↓reduceIte]), ?_⟩
      refine (callP_0 (ef := f102) h102 rfl (f102_ret (a := A) hlit.sr (by simp))).mono ?_
      rintro r h4 ⟨rfl, rfl⟩
      have gAl := gA.trans (gl.low gA.nx)
      have hGl := hGx.trans (gAl.low hGx.nx)
      have hcl := hGl.hc hc0
      have em : minL A [B] = min A B := rfl
      have eM : maxL A [B] = max A B := rfl
      rw [em, eM]
      have hskl : Sk 2 qE (h3.new (.cells (1 * 1) [iE B])) c _ := hsk.grow hcx gAl
      generalize h3.new (.cells (1 * 1) [iE B]) = h5 at *
      have hil : j < ((E.take j).map (cpE L (2 * E.length + 1) t) ++ List.replicate (E.length - j) (0, 0)).length := by simp; omega
      obtain ⟨p, idz, m, cs', w1, w2, w3, ⟨off', n', sz', w4⟩, w5⟩ := hskl.st2 hil (x := (min A B, max A B)) hcl
      have gP := Grow.put (hown _ _ _ _ w4) w5 (.cells m cs')
      have hset : ((E.take j).map (cpE L (2 * E.length + 1) t) ++ List.replicate (E.length - j) (0, 0)).set j (min A B, max A B) = (E.take (j + 1)).map (cpE L (2 * E.length + 1) t) ++ List.replicate (E.length - (j + 1)) (0, 0) := by
        have hlen : ((E.take j).map (cpE L (2 * E.length + 1) t)).length = j := by simp; omega
        rw [List.set_append_right _ _ (by omega), hlen, Nat.sub_self, show E.length - j = (E.length - (j + 1)) + 1 by omega, List.replicate_succ, List.set_cons_zero, List.take_succ_eq_append_getElem hlt2, List.map_append, List.append_assoc]
        simp only [List.map_cons, List.map_nil, hcp, List.singleton_append]
      rw [hset] at w3
      simp (disch := omega) only [f104_r9, f104_r10, w_reg, seqK_n, atK_n, loopK_n, true_and, x_nil, x_mv, x_as, x_build, x_st, x_bin, x_iads, kx, kg, xg_nil, xg_mv, xg_ext, xd_cons, fresh_nil, stK_n, stK_s, stay_nil, stay_cons, again_ok, beq_i, rvP_ok, okv_some, ev_t, ev_c, getV_some, putD_some, putD_none, bin_add, onTup_t, oGet_s, nth0, nth1, cells1_i, of0, of1, getK_set, Nat.reduceEqDiff, ↓reduceIte, fill_2, set_2, g6, g24, stay_ext, again_ok, beq_i, fill_2, set_2, w1, w2, fw64]
      exact ⟨j + 1, by omega, by omega, hGl.trans gP, c, w3, hown, by simp (disch := omega) only [getK_set, Nat.reduceEqDiff, ↓reduceIte, g0, g1, g2, g4, g5, g6, g15, g16, g22, g23, and_self, Int.natCast_add, Int.natCast_one]⟩
    · have d1 : decide ((j : Int) < (E.length : Int)) = false := by simpa using hlt2
      have ej : j = E.length := by omega
      rw [ej, List.take_length, Nat.sub_self, List.replicate_zero, List.append_nil] at hsk
      have hi : t < (cpAll E L).length := by rw [hYl]; exact hlt
      have hYi := cpAll_at hi
      obtain ⟨r, h6, hr, r1, r2⟩ := round t h0 hx c hi hIt hGx (by rw [hYi]; exact hsk.srp) hown
      simp (disch := omega) only [f104_r6, f104_r11, w_reg, w_seq, w_cond, w_exit, seqK_n, seqK_e, atK_e, loopK_e, ckB_b, cbB_b, true_and, x_nil, x_mv, x_bin, x_call, kx, rvP_ok, okv_some, ev_t, evs_nil, evs_cons, getV_some, putD_some, bin_lss, getK_set, Nat.reduceEqDiff, ↓reduceIte, Bool.false_eq_true, g0, g6, g23, g24, d1]
      obtain ⟨m, hm⟩ := hr
      refine ⟨m, _, _, hm, ?_⟩
      cases r with
      | false =>
        simp (disch := omega) only [f104_rs, w_cond, w_ret, seqK_n, seqK_r, atK_r, loopK_r, ckB_b, cbB_b, true_and, retK_r, x_nil, x_not, kx, rvP_ok, ev_t, getV_some, putD_some, onB_b, readRs_nil, retV_0, Option.some.injEq, exists_eq_left', getK_set, ↓reduceIte, Bool.not_false, Bool.not_false, true_and]
        exact .inr (r2 rfl)
      | true =>
        simp (disch := omega) only [f104_r12, w_skip, w_reg, w_cond, seqK_n, atK_n, loopK_n, ckB_b, cbB_b, true_and, x_nil, x_mv, x_bin, x_not, kx, rvP_ok, okv_some, ev_t, ev_c, getV_some, putD_some, bin_add, onB_b, of1, getK_set, Nat.reduceEqDiff, ↓reduceIte, Bool.false_eq_true, Bool.not_true, g16, Bool.not_true, fw64]
        exact ⟨t + 1, by omega, by omega, r1 rfl, by simp (disch := omega) only [getK_set, Nat.reduceEqDiff, ↓reduceIte, g0, g1, g2, g4, g15, and_self, Int.natCast_add, Int.natCast_one]⟩
  · have d0 : decide ((t : Int) < ((2 * E.length + 1 : Nat) : Int)) = false := by simp only [decide_eq_false_iff_not]; omega
    have et : t = 2 * E.length + 1 := by omega
    simp (disch := omega) only [f104_r2, f104_rs, w_reg, w_seq, w_cond, w_exit, seqK_n, seqK_e, atK_e, loopK_e, ckB_b, cbB_b, true_and, retK_n, x_nil, x_bin, kx, rvP_ok, okv_some, ev_t, getV_some, putD_some, bin_lss, readRs_nil, retV_0, Option.some.injEq, exists_eq_left', getK_set, ↓reduceIte, Bool.false_eq_true, g15, g16, d0, true_and]
    exact .inl ⟨h0, by rw [hYl, ← et]; exact hIt, Grow.refl _ _⟩
end
end Go.Ev
namespace Go.Ev
open Go Go.RowKit
section
variable {fs : T EF}
/-- A loop over such a function. -/
theorem W_rangeQ {ro : Option K} {f : EO} {k : K} {caps : List V} {p : K} {a c : EC} {fr : Fr} {h : H} {Q : Ex → Fr → H → Prop} {N : H → Prop} {Y : List (List (Int × Int))} (hro : roOk ro h = true) (hf : ev fr f = .fn k caps) (hy : YieldsQ fs k caps N Y)
    (I : Nat → H → Prop) (D : Ex → H → Prop) (hN : ∀ i h1, I i h1 → N h1 ∧ HC h1 ∧ h.nx.nat < h1.nx.nat) (hI0 : I 0 (h.new (rdyB fr [p] a c)))
    (step : ∀ i h1 h2 v (hi : i < Y.length), I i h1 → Grow h1.nx.nat h1 h2 → h2.get h.nx = rdyB fr [p] a c → Srp h2 v Y[i] → Own h1.nx.nat v → W fs (some h.nx) a (rndA fs h.nx fr [p] a c (I (i + 1)) D) (fr.set p v) h2)
    (fin : ∀ h1 h2, I Y.length h1 → Grow h1.nx.nat h1 h2 → Q .normal fr (h2.put h.nx .dead)) (brk : ∀ e h1, e ≠ .normal → D e h1 → Q e fr h1) : W fs ro (.rangeF f [p] a c) Q fr h := by
  have key := hy h.nx (fun i h1 => I i h1 ∧ h1.get h.nx = rdyB fr [p] a c) (fun h1 => ∃ e, e ≠ .normal ∧ D e (h1.put h.nx .dead) ∧ h1.get h.nx = .loop .done (some e) fr [p] a c) (h.new (rdyB fr [p] a c)) (fun i h1 hi => ⟨(hN i h1 hi.1).1, (hN i h1 hi.1).2.1⟩) ⟨hI0, get_new_same⟩ ?_
  · obtain ⟨n, r, h1, hc, rfl, hq⟩ := key
    rcases hq with ⟨h0, ⟨hI, hb⟩, hG⟩ | ⟨e, hne, hD, hb⟩
    · have hb1 : h1.get h.nx = rdyB fr [p] a c := (hG.old _ (hN _ _ hI).2.2).trans hb
      exact ⟨.normal, fr, _, Runs.range hro hf ⟨n, hc⟩ hb1 (.inl ⟨rfl, rfl, rfl⟩), fin h0 h1 hI hG⟩
    · exact ⟨e, fr, _, Runs.range hro hf ⟨n, hc⟩ hb (.inr ⟨rfl, rfl⟩), brk e _ hne hD⟩
  · rintro i h1 h2 v hi ⟨hI, hb⟩ hG hs ho
    have hb2 : h2.get h.nx = rdyB fr [p] a c := (hG.old _ (hN _ _ hI).2.2).trans hb
    obtain ⟨e1, fr1, h3, r1, rfl, hb3, hw⟩ := W_ok _ _ _ _ (step i h1 h2 v hi hI hG hb2 hs ho)
    obtain ⟨e2, fr2, h4, r2, hb4, hq⟩ := W_ok _ _ _ _ hw
    refine ⟨isNo e2, h4.put h.nx (afterR e2 fr [p] a c), round_of hb2 rfl r1 hb3 r2 hb4, fun he => ?_, fun he => ?_⟩
    · cases e2 <;> first | exact ⟨hq, get_put_same⟩ | cases he
    · cases e2 with
      | normal => cases he
      | exit j => exact ⟨.exit j, by simp, by rw [H.put_put]; exact hq, get_put_same⟩
      | ret => exact ⟨.ret, by simp, by rw [H.put_put]; exact hq, get_put_same⟩
/-- What is gathered. -/
structure Gat (b : Nat) (h : H) (idb idl : K) (Ls : List (List (Int × Int))) (h1 : H) : Prop where
  ex : ∃ o us, h1.get idb = .cells 1 [o] ∧ Sll h1 o us Ls ∧ Own (idl.nat + 1) o ∧ ∀ u ∈ us, Own (idl.nat + 1) u
  gr : Grow b h h1
  hc : HC h1
  nx : idl.nat < h1.nx.nat
theorem f103_ret {h : H} {k : K} {caps : List V} {N : H → Prop} {Y : List (List (Int × Int))} (hy : YieldsQ fs k caps N Y) (hc : HC h) (hN : ∀ h1, Grow h.nx.nat h h1 → N h1) (hY : Y.length ≤ 1000000) :
    Ret fs f103 [.sn, .fn k caps] h fun r h' => (∃ us, Sll h' r us Y) ∧ Grow h.nx.nat h h' := by
  apply ret_of rfl
  show W fs none f103_c _ _ _
  unfold f103_c
  have cf : cellsN 1 .sn = some [.sn] := rfl
  have n1 := nx_new h (.cells 1 [.sn])
  have g1 := Grow.new (Nat.le_refl h.nx.nat) (.cells 1 [.sn])
  have e1 : (h.new (.cells 1 [.sn])).get h.nx = .cells 1 [.sn] := get_new_same
  simp (disch := omega) only [f103_r0, f103_r1, w_reg, w_seq, w_block, seqK_n, x_nil, x_mv, x_as, x_box, kx, rvP_ok, ev_t, ev_c, getV_some, putD_some, oGet_s, frame_2, getK_set, Nat.reduceEqDiff, ↓reduceIte, cf]
  generalize h.new (.cells 1 [.sn]) = h1 at *
  generalize hfr : T.set (K.ofNat 6) _ _ = fr6
  have f6' : fr6.get (K.ofNat 6) = some (.fn k caps) := by rw [← hfr]; simp (disch := omega) only [getK_set, ↓reduceIte]
  have f2' : fr6.get (K.ofNat 2) = some (.p h.nx 0) := by rw [← hfr]; simp (disch := omega) only [getK_set, Nat.reduceEqDiff, ↓reduceIte]
  clear hfr
  have hc1 := g1.hc hc
  have n2 := nx_new h1 (rdyB fr6 [(K.ofNat 7)] f103_a0 f103_b0)
  have g2 : Grow h1.nx.nat h1 (h1.new (rdyB fr6 [(K.ofNat 7)] f103_a0 f103_b0)) := Grow.new (Nat.le_refl _) _
  refine W_rangeQ (Y := Y) (N := N) rfl (by simp (disch := omega) only [ev_t, getV_some, f6']) hy (fun i h2 => Gat h.nx.nat h h.nx h1.nx (Y.take i) h2) (fun _ _ => False) (fun i h2 g => ⟨hN _ g.gr, g.hc, g.nx⟩) ?_ ?_ ?_ (fun _ _ _ hf => hf.elim)
  · exact ⟨⟨.sn, [], by rw [g2.old _ (by omega)]; exact e1, by rw [List.take_zero]; exact Sll.nil, Own.sn, fun u hu => absurd hu (by simp)⟩, g1.trans (g2.low (by omega)), g2.hc hc1, by omega⟩
  · rintro i h2 h3 v hi ⟨⟨o, us, eo, so, oo, ou⟩, gr, hc2, nx2⟩ hG hb hs ho
    rw [show ∀ Q fr h, W fs (some h1.nx) f103_a0 Q fr h = X fs f103_r2 (Q .normal) fr h from fun _ _ _ => rfl]
    simp (disch := omega) only [f103_r2, rndA_n, x_nil, x_as, ev_t, getV_some, putD_some, getK_set, ↓reduceIte]
    refine ⟨hb, ?_⟩
    show W fs (some h1.nx) (.block 1 (.reg f103_r3)) (rndK h1.nx fr6 [(K.ofNat 7)] f103_a0 f103_b0 _ _) _ _
    have hc3 := hG.hc hc2
    have so3 := so.grow hc2 hG
    have eo3 : h3.get h.nx = .cells 1 [o] := (hG.old _ (by omega)).trans eo
    have gr3 := gr.trans (hG.low gr.nx)
    have nx3 := hG.nx
    have olt : ∀ id off n sz, o = .sl id off n sz → id.nat < h2.nx.nat := so.out.lt hc2
    have gB : Grow 0 h3 (h3.put h1.nx (bsyB fr6 [(K.ofNat 7)] f103_a0 f103_b0)) := Grow.put (Nat.zero_le _) (by omega) _
    have e4 : (h3.put h1.nx (bsyB fr6 [(K.ofNat 7)] f103_a0 f103_b0)).get h1.nx = bsyB fr6 [(K.ofNat 7)] f103_a0 f103_b0 := get_put_same
    have o4 : ∀ y : K, y ≠ h1.nx → (h3.put h1.nx (bsyB fr6 [(K.ofNat 7)] f103_a0 f103_b0)).get y = h3.get y := fun y hy => get_put_other hy
    have x4 : (h3.put h1.nx (bsyB fr6 [(K.ofNat 7)] f103_a0 f103_b0)).nx = h3.nx := rfl
    have hc4 := gB.hc hc3
    generalize h3.put h1.nx (bsyB fr6 [(K.ofNat 7)] f103_a0 f103_b0) = h4 at *
    have eo4 : h4.get h.nx = .cells 1 [o] := (o4 _ (kNe (by omega))).trans eo3
    -- what is a slice lies in no loop's block
    have cellsNe : ∀ {id : K} {m : Nat} {cs : List V}, h3.get id = .cells m cs → id ≠ h1.nx := fun e e' => by rw [e', hb] at e; cases e
    have romNe : ∀ {id : K} {m : Nat} {cs : List V}, h3.get id = .rom m cs → id ≠ h1.nx := fun e e' => by rw [e', hb] at e; cases e
    have srp4 : ∀ {u : V} {L : List (Int × Int)}, Srp h3 u L → Srp h4 u L := fun {u L} hu => by
      rcases hu with hu | ⟨id, off, m, cs, rfl, hb', hx⟩
      · exact .inl hu
      · refine .inr ⟨id, off, m, cs, rfl, ?_, hx⟩
        rcases hb' with hb' | hb'
        · rw [o4 _ (cellsNe hb')]; exact .inl hb'
        · rw [o4 _ (romNe hb')]; exact .inr hb'
    have so4 : Sll h4 o us (Y.take i) := ⟨so3.len, so3.out.same fun id off n sz e => o4 _ (fun e' => by have := oo _ _ _ _ e; rw [e'] at this; omega), fun j q1 q2 => srp4 (so3.inn j q1 q2), so3.sep⟩
    have hs4 := srp4 hs
    have sepv : ∀ id off n sz, v = .sl id off n sz → NotIn id o := fun id off n sz e off' n' sz' e' => by
      have := ho _ _ _ _ e
      have := olt _ _ _ _ e'
      omega
    obtain ⟨o5, h5, a1, s5, ow5, gr5, kp5⟩ := so4.push (b := h1.nx.nat + 1) oo (by rw [x4]; omega) hc4 (by simp; omega) hs4 sepv
    have hno : NotIn h.nx o := fun off n sz e => by have := oo _ _ _ _ e; omega
    have hnl : NotIn h1.nx o := fun off n sz e => by have := oo _ _ _ _ e; omega
    have k1 := kp5 h.nx (by rw [x4]; omega) hno
    have k2 := kp5 h1.nx (by rw [x4]; omega) hnl
    have ld := load_p eo4 (show nth [o] 0 = some o from rfl)
    have st := st1 (h := h5) (id := h.nx) (a := o) (c := o5) (k1.1.trans eo4) s5.out.one
    have hvc := hs4.cell
    simp (disch := omega) only [f103_r3, w_reg, w_block, atK_n, rndK_n, x_nil, x_mv, x_bslice, x_ld, x_st, x_app, kx, rvP_ok, ev_t, getV_some, putD_some, putD_none, oGet_s, fill_1, set_1, getK_set, Nat.reduceEqDiff, ↓reduceIte, f2', ld, hvc, fill_1, set_1, a1, st]
    have hc5 := gr5.hc hc4
    have x5 := gr5.nx
    rw [x4] at x5
    refine ⟨by rw [get_put_other (kNe (by omega)).symm, k2.1]; exact e4, ?_⟩
    have ne01 : h.nx ≠ h1.nx := kNe (by omega)
    -- blocks that are slices
    have hno5 : NotIn h.nx o5 := k1.2
    have hnl5 : NotIn h1.nx o5 := k2.2
    have ov : ∀ u ∈ us ++ [v], Own (h1.nx.nat + 1) u := fun u hu => by
      rcases List.mem_append.1 hu with hu | hu
      · exact ou u hu
      · rw [List.mem_singleton.1 hu]; exact ho.low nx2
    have hiu : ∀ u ∈ us ++ [v], ∀ id off n sz, u = .sl id off n sz → id ≠ h.nx ∧ id ≠ h1.nx := fun u hu id off n sz e => by
      have := ov u hu _ _ _ _ e
      exact ⟨fun e' => by rw [e'] at this; omega, fun e' => by rw [e'] at this; omega⟩
    refine ⟨⟨o5, us ++ [v], ?_, ?_, ow5, ov⟩, ?_, ?_, ?_⟩
    · rw [get_put_other ne01, get_put_same]
    · rw [List.take_succ_eq_append_getElem hi]
      refine ⟨s5.len, s5.out.same fun id off n sz e => ?_, fun j q1 q2 => (s5.inn j q1 q2).old fun id off n sz e => ?_, s5.sep⟩
      · have := ow5 _ _ _ _ e
        rw [get_put_other (fun e' => by rw [e'] at this; omega), get_put_other (fun e' => by rw [e'] at this; omega)]
      · obtain ⟨n1, n2⟩ := hiu _ (List.getElem_mem q1) _ _ _ _ e
        rw [get_put_other n2, get_put_other n1]
    · refine ⟨by show h.nx.nat ≤ h5.nx.nat; omega, fun id hid => ?_, fun _ => (Grow.put (b := 0) (Nat.zero_le _) (by show h1.nx.nat < h5.nx.nat; omega) _).hc ((Grow.put (b := 0) (Nat.zero_le _) (by omega) _).hc hc5)⟩
      rw [get_put_other (kNe (by omega)), get_put_other (kNe hid), gr5.old id (by omega), o4 id (kNe (by omega)), gr3.old id hid]
    · exact (Grow.put (b := 0) (Nat.zero_le _) (by show h1.nx.nat < h5.nx.nat; omega) _).hc ((Grow.put (b := 0) (Nat.zero_le _) (by omega) _).hc hc5)
    · show h1.nx.nat < h5.nx.nat; omega
  · rintro h2 h3 ⟨⟨o, us, eo, so, oo, ou⟩, gr, hc2, nx2⟩ hG
    rw [List.take_length] at so
    have hc3 := hG.hc hc2
    have so3 := so.grow hc2 hG
    have eo3 : h3.get h.nx = .cells 1 [o] := (hG.old _ (by omega)).trans eo
    have gr3 := gr.trans (hG.low gr.nx)
    have nx3 := hG.nx
    have eo4 : (h3.put h1.nx .dead).get h.nx = .cells 1 [o] := by rw [get_put_other (kNe (by omega))]; exact eo3
    have ld := load_p eo4 (show nth [o] 0 = some o from rfl)
    simp (disch := omega) only [f103_r4, f103_rs, w_reg, w_seq, w_ret, seqK_n, atK_n, retK_r, x_nil, x_as, x_ld, kx, rvP_ok, ev_t, getV_some, putD_some, oGet_s, readRs_nil, readRs_t, retV_1, Option.some.injEq, exists_eq_left', getK_set, ↓reduceIte, f2', ld]
    refine ⟨⟨us, so3.len, so3.out.put (fun off n sz e => by have := oo _ _ _ _ e; omega) _, fun j q1 q2 => (so3.inn j q1 q2).old fun id off n sz e => get_put_other (fun e' => by have := ou _ (List.getElem_mem q1) _ _ _ _ e; rw [e'] at this; omega), so3.sep⟩, ?_⟩
    refine ⟨gr3.nx, fun id hid => ?_, fun _ => (Grow.put (b := 0) (Nat.zero_le _) (by omega) _).hc hc3⟩
    rw [get_put_other (kNe (by omega)), gr3.old id hid]
theorem f65_ret {h : H} {k : K} {caps : List V} {N : H → Prop} {Y : List (List (Int × Int))} (h103 : fs.get (K.ofNat 103) = some f103) (hy : YieldsQ fs k caps N Y) (hc : HC h) (hN : ∀ h1, Grow h.nx.nat h h1 → N h1) (hY : Y.length ≤ 1000000) :
    Ret fs f65 [.fn k caps] h fun r h' => (∃ us, Sll h' r us Y) ∧ Grow h.nx.nat h h' := by
  apply ret_of rfl
  show W fs none f65_c _ _ _
  unfold f65_c
  simp (disch := omega) only [f65_r0, f65_r1, w_reg, w_seq, seqK_n, x_nil, x_mv, x_as, x_call, ev_t, ev_c, evs_nil, evs_cons, getV_some, putD_some, frame_1, getK_set, Nat.reduceEqDiff, ↓reduceIte]
  refine (callP_0 (ef := f103) h103 rfl (f103_ret hy hc hN hY)).mono ?_
  rintro r h1 hh
  simp (disch := omega) only [f65_rs, w_ret, seqK_n, retK_r, x_nil, x_as, kx, ev_t, getV_some, putD_some, oGet_s, readRs_nil, readRs_t, retV_1, Option.some.injEq, exists_eq_left', getK_set, ↓reduceIte]
  exact hh
theorem f66_ret {h : H} {v w : V} (hv : cellsN 1 v = some [v]) (hw : cellsN 1 w = some [w]) : Ret fs f66 [w, v] h fun r h' => r = .fn (K.ofNat 104) [.p h.nx 0, .p (h.new (.cells 1 [w])).nx 0] ∧ h' = (h.new (.cells 1 [w])).new (.cells 1 [v]) := by
  apply ret_of rfl
  show W fs none f66_c _ _ _
  unfold f66_c
  simp (disch := omega) only [f66_r0, f66_r1, f66_rs, w_reg, w_seq, w_ret, seqK_n, retK_r, x_nil, x_as, x_box, x_mkfn, kx, rvP_ok, ev_t, ev_c, evs_nil, evs_cons, getV_some, putD_some, oGet_s, readRs_nil, readRs_t, retV_1, frame_2, Option.some.injEq, exists_eq_left', getK_set, Nat.reduceEqDiff, ↓reduceIte, hv, hw, and_self]
structure CallsCp (fs : T EF) : Prop extends CallsIg fs where
  c65 : fs.get (K.ofNat 65) = some f65
  c66 : fs.get (K.ofNat 66) = some f66
  c103 : fs.get (K.ofNat 103) = some f103
  c104 : fs.get (K.ofNat 104) = some f104
section
variable {h : H} {v w : V} {m : Nat} {E : List (Int × Int)} {L : List Int}
theorem f21_ok (k : CallsCp fs) (hv : Srp h v E) (hw : Sr iE h w L) (hc : HC h) (hL : L.length ≤ 1000000) (hn : chkI (m : Int) E = 0) (hg : grB (m : Int) E L = true) : Ret fs f21 [.i .i64 (m : Int), v, w] h fun r h' => ∃ u us, r = .tup [u, .i .i64 0] ∧ Sll h' u us (cpAll E L) ∧ Grow h.nx.nat h h' := by
  obtain ⟨m', hm, _, hE⟩ := chkI_ok hn
  obtain rfl : m = m' := by omega
  obtain ⟨hXm, hlin⟩ := gr_labs hg
  have hE10 := hE.1
  apply ret_of rfl
  show W fs none f21_c _ _ _
  unfold f21_c
  simp (disch := omega) only [f21_r0, f21_r1, w_reg, w_seq, seqK_n, x_nil, x_mv, x_as, x_call, ev_t, ev_c, evs_nil, evs_cons, getV_some, putD_some, frame_3, of0, getK_set, Nat.reduceEqDiff, ↓reduceIte]
  refine (callP_0 (ef := f64) k.c64 rfl (f64_ok k.toCallsIg hv hw hc hL hn)).mono ?_
  rintro r h1 ⟨rfl, g1⟩
  have d : decide ((0 : Int) ≠ 0) = false := rfl
  have hv1 := hv.grow hc g1
  have hw1 := hw.grow hc g1
  have hc1 := g1.hc hc
  simp (disch := omega) only [f21_r2, f21_r4, w_skip, w_reg, w_seq, w_cond, seqK_n, ckB_b, cbB_b, true_and, x_nil, x_mv, x_as, x_bin, x_call, kx, rvP_ok, okv_some, ev_t, ev_c, evs_nil, evs_cons, getV_some, putD_some, bin_neq, of0, getK_set, Nat.reduceEqDiff, ↓reduceIte, Bool.false_eq_true, hg, d]
  refine (callP_0 (ef := f66) k.c66 rfl (f66_ret (v := w) (w := v) hw1.one hv1.one)).mono ?_
  rintro r h2 ⟨rfl, h2e⟩
  have n1 := nx_new h1 (.cells 1 [v])
  have n2 := nx_new (h1.new (.cells 1 [v])) (.cells 1 [w])
  have g2 : Grow h1.nx.nat h1 h2 := by rw [h2e]; exact (Grow.new (Nat.le_refl _) _).trans (Grow.new (by omega) _)
  have hc2 := g2.hc hc1
  have N2 : NC h1.nx (h1.new (.cells 1 [v])).nx v w E L h2 := ⟨by rw [h2e, get_new_old (by omega), get_new_same], by rw [h2e, get_new_same], hv1.grow hc1 g2, hw1.grow hc1 g2⟩
  clear h2e
  generalize (h1.new (.cells 1 [v])).nx = idl at *
  simp (disch := omega) only [x_call, kx, ev_t, ev_c, evs_nil, evs_cons, getV_some, putD_some, getK_set, ↓reduceIte]
  refine (callP_0 (ef := f65) k.c65 rfl (f65_ret k.c103 (copies_yield k.c104 k.c102 hE hlin hXm) hc2 (fun h3 g => N2.grow hc2 g) (by simp [cpAll]; omega))).mono ?_
  rintro r h3 ⟨⟨us, hs⟩, g3⟩
  simp (disch := omega) only [f21_rs, w_ret, seqK_n, retK_r, x_nil, x_as, kx, ev_t, ev_c, getV_some, putD_some, oGet_s, readRs_nil, readRs_t, retV_2, Option.some.injEq, exists_eq_left', getK_set, Nat.reduceEqDiff, ↓reduceIte]
  exact ⟨r, us, rfl, hs, g1.trans ((g2.trans (g3.low g2.nx)).low g1.nx)⟩
end
end
end Go.Ev
namespace Go.Ev
open Go Go.RowKit
noncomputable def f6_r0 : List EOper := [⟨(some (K.ofNat 6)), none, .as (.c (.b false))⟩]
noncomputable def f6_r1 : List EOper := [⟨(some (K.ofNat 14)), none, .mv (.t (K.ofNat 0))⟩, ⟨(some (K.ofNat 15)), none, .mv (.t (K.ofNat 1))⟩, ⟨(some (K.ofNat 16)), none, .call (.c (.fn (K.ofNat 28) [])) [(.t (K.ofNat 14)), (.t (K.ofNat 15)), (.c (.i .i64 (.ofNat 10)))]⟩, ⟨(some (K.ofNat 13)), none, .mv (.t (K.ofNat 16))⟩, ⟨(some (K.ofNat 17)), none, .ext (.t (K.ofNat 13)) 0⟩, ⟨(some (K.ofNat 18)), none, .ext (.t (K.ofNat 13)) 1⟩, ⟨(some (K.ofNat 7)), none, .as (.t (K.ofNat 17))⟩, ⟨(some (K.ofNat 8)), none, .as (.t (K.ofNat 18))⟩]
noncomputable def f6_r2 : List EOper := [⟨(some (K.ofNat 19)), none, .mv (.t (K.ofNat 2))⟩, ⟨(some (K.ofNat 20)), none, .call (.c (.fn (K.ofNat 15) [])) [(.t (K.ofNat 19)), (.c (.i .i64 (.ofNat 10)))]⟩, ⟨(some (K.ofNat 9)), none, .as (.t (K.ofNat 20))⟩]
noncomputable def f6_r3 : List EOper := [⟨(some (K.ofNat 10)), none, .as (.c (.i .i64 (.ofNat 0)))⟩]
noncomputable def f6_r4 : List EOper := [⟨(some (K.ofNat 21)), none, .mv (.t (K.ofNat 10))⟩, ⟨(some (K.ofNat 22)), none, .bin .lss (.t (K.ofNat 21)) (.c (.i .i64 (.ofNat 2)))⟩]
noncomputable def f6_r5 : List EOper := [⟨(some (K.ofNat 26)), none, .mv (.t (K.ofNat 7))⟩, ⟨(some (K.ofNat 27)), none, .mv (.t (K.ofNat 8))⟩, ⟨(some (K.ofNat 28)), none, .mv (.t (K.ofNat 9))⟩, ⟨(some (K.ofNat 29)), none, .call (.c (.fn (K.ofNat 21) [])) [(.t (K.ofNat 26)), (.t (K.ofNat 27)), (.t (K.ofNat 28))]⟩, ⟨(some (K.ofNat 25)), none, .mv (.t (K.ofNat 29))⟩, ⟨(some (K.ofNat 30)), none, .ext (.t (K.ofNat 25)) 0⟩, ⟨(some (K.ofNat 31)), none, .ext (.t (K.ofNat 25)) 1⟩, ⟨(some (K.ofNat 11)), none, .as (.t (K.ofNat 30))⟩, ⟨(some (K.ofNat 12)), none, .as (.t (K.ofNat 31))⟩]
noncomputable def f6_r6 : List EOper := [⟨(some (K.ofNat 32)), none, .mv (.t (K.ofNat 7))⟩, ⟨(some (K.ofNat 33)), none, .mv (.t (K.ofNat 8))⟩, ⟨(some (K.ofNat 34)), none, .mv (.t (K.ofNat 9))⟩, ⟨(some (K.ofNat 35)), none, .call (.c (.fn (K.ofNat 32) [])) [(.t (K.ofNat 32)), (.t (K.ofNat 33)), (.t (K.ofNat 34))]⟩, ⟨(some (K.ofNat 36)), none, .not (.t (K.ofNat 35))⟩]
noncomputable def f6_r7 : List EOper := [⟨(some (K.ofNat 37)), none, .mv (.t (K.ofNat 12))⟩, ⟨(some (K.ofNat 38)), none, .bin .neq (.t (K.ofNat 37)) (.c (.i .i64 (.ofNat 1)))⟩, ⟨(some (K.ofNat 39)), none, .mv (.t (K.ofNat 38))⟩, ⟨(some (K.ofNat 40)), (some ((K.ofNat 39), false)), .mv (.t (K.ofNat 11))⟩, ⟨(some (K.ofNat 41)), (some ((K.ofNat 39), false)), .len (.t (K.ofNat 40))⟩, ⟨(some (K.ofNat 42)), (some ((K.ofNat 39), false)), .bin .neq (.t (K.ofNat 41)) (.c (.i .i64 (.ofNat 0)))⟩, ⟨(some (K.ofNat 43)), none, .pick (.t (K.ofNat 39)) (.c (.b true)) (.t (K.ofNat 42))⟩]
noncomputable def f6_r8 : List EOper := [⟨(some (K.ofNat 6)), none, .as (.c (.b false))⟩]
noncomputable def f6_r9 : List EOper := [⟨(some (K.ofNat 44)), none, .mv (.t (K.ofNat 12))⟩, ⟨(some (K.ofNat 45)), none, .bin .neq (.t (K.ofNat 44)) (.c (.i .i64 (.ofNat 0)))⟩, ⟨(some (K.ofNat 46)), none, .mv (.t (K.ofNat 45))⟩, ⟨(some (K.ofNat 47)), (some ((K.ofNat 46), false)), .mv (.t (K.ofNat 11))⟩, ⟨(some (K.ofNat 48)), (some ((K.ofNat 46), false)), .mv (.t (K.ofNat 8))⟩, ⟨(some (K.ofNat 49)), (some ((K.ofNat 46), false)), .mv (.t (K.ofNat 9))⟩, ⟨(some (K.ofNat 50)), (some ((K.ofNat 46), false)), .call (.c (.fn (K.ofNat 36) [])) [(.t (K.ofNat 48)), (.t (K.ofNat 49))]⟩, ⟨(some (K.ofNat 51)), (some ((K.ofNat 46), false)), .call (.c (.fn (K.ofNat 35) [])) [(.t (K.ofNat 47)), (.t (K.ofNat 50))]⟩, ⟨(some (K.ofNat 52)), (some ((K.ofNat 46), false)), .not (.t (K.ofNat 51))⟩, ⟨(some (K.ofNat 53)), none, .pick (.t (K.ofNat 46)) (.c (.b true)) (.t (K.ofNat 52))⟩]
noncomputable def f6_r10 : List EOper := [⟨(some (K.ofNat 6)), none, .as (.c (.b false))⟩]
noncomputable def f6_r11 : List EOper := [⟨(some (K.ofNat 54)), none, .mv (.t (K.ofNat 7))⟩, ⟨(some (K.ofNat 55)), none, .mv (.t (K.ofNat 8))⟩, ⟨(some (K.ofNat 56)), none, .call (.c (.fn (K.ofNat 29) [])) [(.t (K.ofNat 54)), (.t (K.ofNat 55)), (.c (.b false))]⟩, ⟨(some (K.ofNat 9)), none, .as (.t (K.ofNat 56))⟩]
noncomputable def f6_r12 : List EOper := [⟨(some (K.ofNat 23)), none, .mv (.t (K.ofNat 10))⟩, ⟨(some (K.ofNat 24)), none, .bin .add (.t (K.ofNat 23)) (.c (.i .i64 (.ofNat 1)))⟩, ⟨(some (K.ofNat 10)), none, .as (.t (K.ofNat 24))⟩]
noncomputable def f6_l0 : EC := (.seq (.seq (.reg f6_r4) (.cond (.t (K.ofNat 22)) .skip (.exit 0))) (.seq (.block 1 (.seq (.reg f6_r5) (.seq (.seq (.reg f6_r6) (.cond (.t (K.ofNat 36)) (.seq (.reg f6_r7) (.cond (.t (K.ofNat 43)) (.seq (.reg f6_r8) .ret) .skip)) (.seq (.reg f6_r9) (.cond (.t (K.ofNat 53)) (.seq (.reg f6_r10) .ret) .skip)))) (.reg f6_r11)))) (.reg f6_r12)))
noncomputable def f6_r13 : List EOper := [⟨(some (K.ofNat 57)), none, .call (.c (.fn (K.ofNat 23) [])) []⟩, ⟨(some (K.ofNat 6)), none, .as (.t (K.ofNat 57))⟩]
noncomputable def f6_c : EC := (.seq (.reg f6_r0) (.seq (.reg f6_r1) (.seq (.reg f6_r2) (.seq (.seq (.reg f6_r3) (.block 0 (.loop f6_l0))) (.seq (.reg f6_r13) .ret)))))
noncomputable def f6 : EF := ⟨58, [.tmp (K.ofNat 6)], f6_c, none⟩
section
variable {fs : T EF} {h : H} {v w : V} {n : Nat} {E : List (Int × Int)} {L : List Int}
end
end Go.Ev
namespace Go.Ev
open Go Go.RowKit
theorem mod_two {z s : Nat} (hz : z < 2 * s) : (z < s ∧ z % s = z) ∨ (s ≤ z ∧ z % s = z - s) := by
  rcases Nat.lt_or_ge z s with h | h
  · exact .inl ⟨h, Nat.mod_eq_of_lt h⟩
  · exact .inr ⟨h, by rw [Nat.mod_eq_sub_mod h, Nat.mod_eq_of_lt (by omega)]⟩
section
variable {n : Nat} {E : List (Int × Int)} {M : List Int}
/-- The labels of an edge's ends. -/
theorem ends_of (hE : EdgesOk n E) (hlab : LabOk E M) (hn : M.length = n) (hnd : M.Nodup) {e : Int × Int} (he : e ∈ E) : ∃ x y : Nat, M.getD e.1.toNat 0 = (x : Int) ∧ M.getD e.2.toNat 0 = (y : Int) ∧ x ≤ E.length ∧ y ≤ E.length ∧ x ≠ y ∧ dfE M e = (if x < y then ((y - x : Nat) : Int) else ((x - y : Nat) : Int)) ∧
    ∀ s t : Nat, cpE M s t e = (min (((x + t) % s : Nat) : Int) (((y + t) % s : Nat) : Int), max (((x + t) % s : Nat) : Int) (((y + t) % s : Nat) : Int)) := by
  have h2 := hE.2.2 e he
  have a1 : e.1.toNat < M.length := by omega
  have a2 : e.2.toNat < M.length := by omega
  have p := hlab _ (List.getElem_mem a1)
  have q := hlab _ (List.getElem_mem a2)
  have hne := (List.pairwise_iff_getElem.1 hnd) e.1.toNat e.2.toNat a1 a2 (by omega)
  have g1 : M.getD e.1.toNat 0 = M[e.1.toNat] := by rw [List.getD_eq_getElem?_getD, List.getElem?_eq_getElem a1]; rfl
  have g2 : M.getD e.2.toNat 0 = M[e.2.toNat] := by rw [List.getD_eq_getElem?_getD, List.getElem?_eq_getElem a2]; rfl
  have e1 : M.getD e.1.toNat 0 = ((M[e.1.toNat].toNat : Nat) : Int) := by rw [g1]; omega
  have e2 : M.getD e.2.toNat 0 = ((M[e.2.toNat].toNat : Nat) : Int) := by rw [g2]; omega
  refine ⟨M[e.1.toNat].toNat, M[e.2.toNat].toNat, e1, e2, by omega, by omega, by omega, ?_, fun s t => ?_⟩
  · unfold dfE absD
    rw [e1, e2]
    split <;> split <;> omega
  · unfold cpE
    rw [e1, e2]; rfl
/-- Two copies of edges that are the same. -/
theorem cp_same (hE : EdgesOk n E) (hlab : LabOk E M) (hn : M.length = n) (hnd : M.Nodup) {e e' : Int × Int} (he : e ∈ E) (he' : e' ∈ E) {t t' : Nat} (ht : t < 2 * E.length + 1) (ht' : t' < 2 * E.length + 1)
    (h : cpE M (2 * E.length + 1) t e = cpE M (2 * E.length + 1) t' e') : dfE M e = dfE M e' ∧ (e = e' → t = t') := by
  obtain ⟨x, y, x1, x2, hx, hy, hxy, hd, hc⟩ := ends_of hE hlab hn hnd he
  obtain ⟨x', y', x1', x2', hx', hy', hxy', hd', hc'⟩ := ends_of hE hlab hn hnd he'
  rw [hc, hc'] at h
  generalize hs : 2 * E.length + 1 = s at *
  have m1 := mod_two (z := x + t) (s := s) (by omega)
  have m2 := mod_two (z := y + t) (s := s) (by omega)
  have m3 := mod_two (z := x' + t') (s := s) (by omega)
  have m4 := mod_two (z := y' + t') (s := s) (by omega)
  generalize (x + t) % s = A at *
  generalize (y + t) % s = B at *
  generalize (x' + t') % s = A' at *
  generalize (y' + t') % s = B' at *
  have h1 := congrArg Prod.fst h
  have h2 := congrArg Prod.snd h
  simp only at h1 h2
  have hAB : (A = A' ∧ B = B') ∨ (A = B' ∧ B = A') := by omega
  have hz : ((x : Int) - y = x' - y') ∨ ((x : Int) - y = y' - x') := by
    rcases hAB with ⟨q1, q2⟩ | ⟨q1, q2⟩
    · left
      rcases m1 with m1 | m1 <;> rcases m2 with m2 | m2 <;> rcases m3 with m3 | m3 <;> rcases m4 with m4 | m4 <;> omega
    · right
      rcases m1 with m1 | m1 <;> rcases m2 with m2 | m2 <;> rcases m3 with m3 | m3 <;> rcases m4 with m4 | m4 <;> omega
  refine ⟨?_, fun hee => ?_⟩
  · rw [hd, hd']
    split <;> split <;> omega
  · subst hee
    have e1 : x = x' := by omega
    have e2 : y = y' := by omega
    subst e1 e2
    rcases hAB with ⟨q1, q2⟩ | ⟨q1, q2⟩
    · rcases m1 with m1 | m1 <;> rcases m3 with m3 | m3 <;> omega
    · exfalso
      rcases m1 with m1 | m1 <;> rcases m2 with m2 | m2 <;> rcases m3 with m3 | m3 <;> rcases m4 with m4 | m4 <;> omega
/-- No pair comes twice. -/
theorem cp_nodup (hE : EdgesOk n E) (hlab : LabOk E M) (hn : M.length = n) (hnd : M.Nodup) (hpw : E.Pairwise fun e e' => dfE M e ≠ dfE M e') : (cpAll E M).flatten.Nodup := by
  unfold List.Nodup
  rw [List.pairwise_flatten]
  refine ⟨fun l hl => ?_, ?_⟩
  · obtain ⟨t, ht, rfl⟩ := List.mem_map.1 hl
    have ht : t < 2 * E.length + 1 := by simpa using ht
    unfold cpRow
    rw [List.pairwise_map]
    exact List.Pairwise.imp_of_mem (fun {a b} ha hb hab h => hab (cp_same hE hlab hn hnd ha hb ht ht h).1) hpw
  · unfold cpAll
    rw [List.pairwise_map]
    refine List.Pairwise.imp_of_mem (R := fun a b => a ≠ b) (fun {t t'} ht ht' hne => ?_) List.nodup_range
    have ht : t < 2 * E.length + 1 := by simpa using ht
    have ht' : t' < 2 * E.length + 1 := by simpa using ht'
    intro p hp q hq hpq
    obtain ⟨e, he, rfl⟩ := List.mem_map.1 hp
    obtain ⟨e', he', rfl⟩ := List.mem_map.1 hq
    obtain ⟨h1, h2⟩ := cp_same hE hlab hn hnd he he' ht ht' hpq
    by_cases hee : e = e'
    · exact hne (h2 hee)
    · exact pw_all (R := fun e e' : Int × Int => dfE M e ≠ dfE M e') (fun _ _ h => h.symm) hpw e he e' he' hee h1
theorem cp_valid (hE : EdgesOk n E) (hlab : LabOk E M) (hn : M.length = n) (hnd : M.Nodup) : ∀ l ∈ cpAll E M, l.length = E.length ∧ ∀ p ∈ l, edB ((2 * E.length + 1 : Nat) : Int) p = true := fun l hl => by
  obtain ⟨t, ht, rfl⟩ := List.mem_map.1 hl
  have ht : t < 2 * E.length + 1 := by simpa using ht
  refine ⟨by unfold cpRow; simp, fun p hp => ?_⟩
  obtain ⟨e, he, rfl⟩ := List.mem_map.1 hp
  obtain ⟨x, y, x1, x2, hx, hy, hxy, _, hc⟩ := ends_of hE hlab hn hnd he
  rw [hc]
  have m1 := mod_two (z := x + t) (s := 2 * E.length + 1) (by omega)
  have m2 := mod_two (z := y + t) (s := 2 * E.length + 1) (by omega)
  unfold edB
  simp only [Bool.and_eq_true, decide_eq_true_eq]
  generalize (x + t) % (2 * E.length + 1) = A at *
  generalize (y + t) % (2 * E.length + 1) = B at *
  refine ⟨by omega, ?_, ?_⟩
  · rcases m1 with m1 | m1 <;> rcases m2 with m2 | m2 <;> omega
  · rcases m1 with m1 | m1 <;> rcases m2 with m2 | m2 <;> omega
theorem flat_const {α β : Type} {f : β → List α} {k : Nat} : ∀ {l : List β}, (∀ x ∈ l, (f x).length = k) → (l.map f).flatten.length = l.length * k
  | [], _ => by simp
  | x :: l, h => by
    rw [List.map_cons, List.flatten_cons, List.length_append, h x (by simp), flat_const fun y hy => h y (by simp [hy]), List.length_cons, Nat.add_mul]; omega
theorem cp_many : (cpAll E M).flatten.length = (2 * E.length + 1) * E.length := by
  unfold cpAll
  rw [flat_const (k := E.length) fun t _ => by unfold cpRow; simp, List.length_range]
/-! ### Turned -/
theorem turn_at {v : Nat} (hv : v < M.length) : (turnL E M).getD v 0 = (E.length : Int) - M.getD v 0 := by
  unfold turnL
  rw [List.getD_eq_getElem?_getD, List.getD_eq_getElem?_getD, List.getElem?_map, List.getElem?_eq_getElem hv]; rfl
theorem turn_back : turnL E (turnL E M) = M := by
  unfold turnL
  rw [List.map_map]
  conv => rhs; rw [← List.map_id M]
  apply List.map_congr_left
  intro x _
  show (E.length : Int) - ((E.length : Int) - x) = x
  omega
theorem turn_df (hE : EdgesOk n E) (hn : M.length = n) {e : Int × Int} (he : e ∈ E) : dfE (turnL E M) e = dfE M e := by
  have h2 := hE.2.2 e he
  unfold dfE
  rw [turn_at (by omega), turn_at (by omega)]
  unfold absD
  split <;> split <;> omega
theorem gr_iff {L : List Int} : grB (n : Int) E L = true ↔ L.length = n ∧ LabOk E L ∧ L.Nodup ∧ E.Pairwise (fun e e' => dfE L e ≠ dfE L e') := by
  unfold grB
  rw [Bool.and_eq_true, Bool.and_eq_true, difsOk_iff]
  have hlo : labsOk (E.length : Int) L = true ↔ LabOk E L ∧ L.Nodup := by
    constructor
    · intro h
      refine ⟨labs_in h, List.pairwise_iff_getElem.2 fun i j hi hj hij heq => ?_⟩
      have := List.all_eq_true.1 h j (by simpa using hj)
      unfold labOk1 at this
      have hg : L.getD j 0 = L[j] := by simp [hj]
      rw [hg] at this
      simp only [Bool.and_eq_true, Bool.not_eq_true', decide_eq_false_iff_not] at this
      exact this.2.2 (by rw [← heq]; exact List.mem_iff_getElem.2 ⟨i, by rw [List.length_take]; omega, by rw [List.getElem_take]⟩)
    · rintro ⟨h1, h2⟩
      refine all_yes fun j hj => ?_
      unfold labOk1
      have hg : L.getD j 0 = L[j] := by simp [hj]
      obtain ⟨a, b⟩ := h1 L[j] (List.getElem_mem hj)
      rw [hg, decide_eq_true a, decide_eq_true b, Bool.true_and, Bool.true_and, Bool.not_eq_true', decide_eq_false_iff_not]
      intro hm
      obtain ⟨i, hi, heq⟩ := List.getElem_of_mem hm
      have hi' : i < j ∧ i < L.length := by rw [List.length_take] at hi; omega
      rw [List.getElem_take] at heq
      exact (List.pairwise_iff_getElem.1 h2) i j hi'.2 hj hi'.1 heq
  rw [hlo]
  constructor
  · rintro ⟨h1, ⟨h2, h3⟩, h4⟩
    exact ⟨by have := of_decide_eq_true h1; omega, h2, h3, h4⟩
  · rintro ⟨h1, h2, h3, h4⟩
    exact ⟨by simp; omega, ⟨h2, h3⟩, h4⟩
theorem turn_gr (hE : EdgesOk n E) (h : grB (n : Int) E M = true) : grB (n : Int) E (turnL E M) = true := by
  obtain ⟨h1, h2, h3, h4⟩ := gr_iff.1 h
  refine gr_iff.2 ⟨by simp [turnL, h1], fun x hx => ?_, ?_, ?_⟩
  · obtain ⟨y, hy, rfl⟩ := List.mem_map.1 hx
    have := h2 y hy
    omega
  · unfold turnL List.Nodup
    rw [List.pairwise_map]
    exact h3.imp fun {a b} hab h => hab (by omega)
  · refine List.Pairwise.imp_of_mem (fun {a b} ha hb hab => ?_) h4
    rw [turn_df hE h1 ha, turn_df hE h1 hb]; exact hab
theorem firstF_iff {α : Type} {g : Int → Option α} : ∀ {k : Nat} {a : Int}, (firstF g a k).isSome = true ↔ ∃ c, a ≤ c ∧ c < a + k ∧ (g c).isSome = true
  | 0, a => by
    constructor
    · intro h; cases h
    · rintro ⟨c, h1, h2, _⟩; omega
  | k + 1, a => by
    rw [firstF_succ]
    cases hg : g a with
    | some r => exact ⟨fun _ => ⟨a, by omega, by omega, by rw [hg]; rfl⟩, fun _ => rfl⟩
    | none =>
      show (firstF g (a + 1) k).isSome = true ↔ _
      rw [firstF_iff (k := k) (a := a + 1)]
      constructor
      · rintro ⟨c, h1, h2, h3⟩
        exact ⟨c, by omega, by omega, h3⟩
      · rintro ⟨c, h1, h2, h3⟩
        by_cases e : c = a
        · rw [e, hg] at h3; cases h3
        · exact ⟨c, by omega, by omega, h3⟩
theorem prt_iff {L : List Int} : (prtO E L).isSome = true ↔ ∃ c : Int, 0 ≤ c ∧ c < E.length ∧ prtC E L c = true := by
  unfold prtO
  rw [firstF_iff]
  constructor
  · rintro ⟨c, h1, h2, h3⟩
    refine ⟨c, h1, by omega, ?_⟩
    by_cases h : prtC E L c = true
    · exact h
    · rw [if_neg h] at h3; cases h3
  · rintro ⟨c, h1, h2, h3⟩
    exact ⟨c, h1, by omega, by rw [if_pos h3]; rfl⟩
theorem turn_prtC (hE : EdgesOk n E) (hn : M.length = n) {c : Int} : prtC E (turnL E M) ((E.length : Int) - c - 1) = prtC E M c := by
  unfold prtC
  rw [Bool.eq_iff_iff, List.all_eq_true, List.all_eq_true]
  have key : ∀ e ∈ E, prt1 (turnL E M) ((E.length : Int) - c - 1) e = prt1 M c e := fun e he => by
    have h2 := hE.2.2 e he
    unfold prt1
    rw [turn_at (by omega), turn_at (by omega)]
    have q : ∀ z : Int, decide ((E.length : Int) - z ≤ (E.length : Int) - c - 1) = !decide (z ≤ c) := fun z => by
      by_cases h : z ≤ c
      · rw [decide_eq_true h, decide_eq_false (by omega)]; rfl
      · rw [decide_eq_false h, decide_eq_true (by omega)]; rfl
    rw [q, q]
    cases decide (M.getD e.1.toNat 0 ≤ c) <;> cases decide (M.getD e.2.toNat 0 ≤ c) <;> rfl
  constructor
  · intro h e he; rw [← key e he]; exact h e he
  · intro h e he; rw [key e he]; exact h e he
theorem turn_prt (hE : EdgesOk n E) (hn : M.length = n) : (prtO E (turnL E M)).isSome = (prtO E M).isSome := by
  rw [Bool.eq_iff_iff, prt_iff, prt_iff]
  constructor
  · rintro ⟨c, h1, h2, h3⟩
    refine ⟨(E.length : Int) - c - 1, by omega, by omega, ?_⟩
    rw [← turn_prtC hE hn, show (E.length : Int) - ((E.length : Int) - c - 1) - 1 = c by omega]; exact h3
  · rintro ⟨c, h1, h2, h3⟩
    exact ⟨(E.length : Int) - c - 1, by omega, by omega, by rw [turn_prtC hE hn]; exact h3⟩
end
end Go.Ev
namespace Go.Ev
open Go Go.RowKit
noncomputable def f71_r0 : List EOper := [⟨(some (K.ofNat 4)), none, .as (.c (.i .i64 (.ofNat 0)))⟩]
noncomputable def f71_r1 : List EOper := [⟨(some (K.ofNat 9)), none, .mv (.t (K.ofNat 0))⟩, ⟨(some (K.ofNat 10)), none, .bin .lss (.t (K.ofNat 9)) (.c (.i .i64 (.ofNat 2)))⟩, ⟨(some (K.ofNat 11)), none, .mv (.t (K.ofNat 10))⟩, ⟨(some (K.ofNat 12)), (some ((K.ofNat 11), false)), .mv (.t (K.ofNat 0))⟩, ⟨(some (K.ofNat 13)), (some ((K.ofNat 11), false)), .bin .gtr (.t (K.ofNat 12)) (.c (.i .i64 (.ofNat 21)))⟩, ⟨(some (K.ofNat 14)), none, .pick (.t (K.ofNat 11)) (.c (.b true)) (.t (K.ofNat 13))⟩, ⟨(some (K.ofNat 15)), none, .mv (.t (K.ofNat 14))⟩, ⟨(some (K.ofNat 16)), (some ((K.ofNat 15), false)), .mv (.t (K.ofNat 1))⟩, ⟨(some (K.ofNat 17)), (some ((K.ofNat 15), false)), .len (.t (K.ofNat 16))⟩, ⟨(some (K.ofNat 18)), (some ((K.ofNat 15), false)), .bin .gtr (.t (K.ofNat 17)) (.c (.i .i64 (.ofNat 40)))⟩, ⟨(some (K.ofNat 19)), none, .pick (.t (K.ofNat 15)) (.c (.b true)) (.t (K.ofNat 18))⟩]
noncomputable def f71_r2 : List EOper := [⟨(some (K.ofNat 4)), none, .as (.c (.i .i64 (.ofNat 1)))⟩]
noncomputable def f71_r3 : List EOper := [⟨(some (K.ofNat 20)), none, .mv (.t (K.ofNat 1))⟩, ⟨(some (K.ofNat 21)), none, .len (.t (K.ofNat 20))⟩, ⟨(some (K.ofNat 22)), none, .mv (.c (.i .i64 (.ofNat 0)))⟩]
noncomputable def f71_r4 : List EOper := [⟨(some (K.ofNat 23)), none, .bin .lss (.t (K.ofNat 22)) (.t (K.ofNat 21))⟩]
noncomputable def f71_r5 : List EOper := [⟨(some (K.ofNat 24)), none, .iads 1 (.t (K.ofNat 20)) (.t (K.ofNat 22))⟩, ⟨(some (K.ofNat 25)), none, .ld (.t (K.ofNat 24))⟩, ⟨(some (K.ofNat 6)), none, .as (.t (K.ofNat 25))⟩]
noncomputable def f71_r6 : List EOper := [⟨(some (K.ofNat 26)), none, .mv (.t (K.ofNat 6))⟩, ⟨(some (K.ofNat 27)), none, .len (.t (K.ofNat 26))⟩, ⟨(some (K.ofNat 28)), none, .bin .gtr (.t (K.ofNat 27)) (.c (.i .i64 (.ofNat 20)))⟩]
noncomputable def f71_r7 : List EOper := [⟨(some (K.ofNat 4)), none, .as (.c (.i .i64 (.ofNat 1)))⟩]
noncomputable def f71_r8 : List EOper := [⟨(some (K.ofNat 29)), none, .mv (.t (K.ofNat 6))⟩, ⟨(some (K.ofNat 30)), none, .len (.t (K.ofNat 29))⟩, ⟨(some (K.ofNat 31)), none, .mv (.c (.i .i64 (.ofNat 0)))⟩]
noncomputable def f71_r9 : List EOper := [⟨(some (K.ofNat 32)), none, .bin .lss (.t (K.ofNat 31)) (.t (K.ofNat 30))⟩]
noncomputable def f71_r10 : List EOper := [⟨(some (K.ofNat 33)), none, .iads 2 (.t (K.ofNat 29)) (.t (K.ofNat 31))⟩, ⟨(some (K.ofNat 34)), none, .ldn 2 (.t (K.ofNat 33))⟩, ⟨(some (K.ofNat 8)), none, .alloc 2 [(.i .i64 (.ofNat 0)), (.i .i64 (.ofNat 0))]⟩, ⟨none, none, .st 2 (.t (K.ofNat 8)) (.t (K.ofNat 34))⟩]
noncomputable def f71_r11 : List EOper := [⟨(some (K.ofNat 35)), none, .mv (.t (K.ofNat 0))⟩, ⟨(some (K.ofNat 36)), none, .ldn 2 (.t (K.ofNat 8))⟩, ⟨(some (K.ofNat 37)), none, .call (.c (.fn (K.ofNat 60) [])) [(.t (K.ofNat 35)), (.t (K.ofNat 36))]⟩, ⟨(some (K.ofNat 38)), none, .not (.t (K.ofNat 37))⟩]
noncomputable def f71_r12 : List EOper := [⟨(some (K.ofNat 4)), none, .as (.c (.i .i64 (.ofNat 1)))⟩]
noncomputable def f71_r13 : List EOper := [⟨(some (K.ofNat 39)), none, .bin .add (.t (K.ofNat 31)) (.c (.i .i64 (.ofNat 1)))⟩, ⟨(some (K.ofNat 31)), none, .mv (.t (K.ofNat 39))⟩]
noncomputable def f71_l0 : EC := (.seq (.reg f71_r9) (.seq (.cond (.t (K.ofNat 32)) .skip (.exit 2)) (.seq (.block 3 (.seq (.reg f71_r10) (.seq (.reg f71_r11) (.cond (.t (K.ofNat 38)) (.seq (.reg f71_r12) .ret) .skip)))) (.reg f71_r13))))
noncomputable def f71_r14 : List EOper := [⟨(some (K.ofNat 40)), none, .bin .add (.t (K.ofNat 22)) (.c (.i .i64 (.ofNat 1)))⟩, ⟨(some (K.ofNat 22)), none, .mv (.t (K.ofNat 40))⟩]
noncomputable def f71_l1 : EC := (.seq (.reg f71_r4) (.seq (.cond (.t (K.ofNat 23)) .skip (.exit 0)) (.seq (.block 1 (.seq (.reg f71_r5) (.seq (.seq (.reg f71_r6) (.cond (.t (K.ofNat 28)) (.seq (.reg f71_r7) .ret) .skip)) (.seq (.reg f71_r8) (.block 2 (.loop f71_l0)))))) (.reg f71_r14))))
noncomputable def f71_r15 : List EOper := [⟨(some (K.ofNat 4)), none, .as (.c (.i .i64 (.ofNat 0)))⟩]
noncomputable def f71_c : EC := (.seq (.reg f71_r0) (.seq (.seq (.reg f71_r1) (.cond (.t (K.ofNat 19)) (.seq (.reg f71_r2) .ret) .skip)) (.seq (.seq (.reg f71_r3) (.block 0 (.loop f71_l1))) (.seq (.reg f71_r15) .ret))))
noncomputable def f71 : EF := ⟨41, [.tmp (K.ofNat 4)], f71_c, none⟩
theorem f71_rs : f71.rs = [.tmp (K.ofNat 4)] := of_eq_true (eq_self _)
noncomputable def f72_r0 : List EOper := [⟨(some (K.ofNat 4)), none, .as (.c (.b false))⟩]
noncomputable def f72_r1 : List EOper := [⟨(some (K.ofNat 11)), none, .mkmap 139⟩, ⟨(some (K.ofNat 5)), none, .as (.t (K.ofNat 11))⟩]
noncomputable def f72_r2 : List EOper := [⟨(some (K.ofNat 12)), none, .mv (.t (K.ofNat 1))⟩, ⟨(some (K.ofNat 13)), none, .len (.t (K.ofNat 12))⟩, ⟨(some (K.ofNat 14)), none, .mv (.c (.i .i64 (.ofNat 0)))⟩]
noncomputable def f72_r3 : List EOper := [⟨(some (K.ofNat 15)), none, .bin .lss (.t (K.ofNat 14)) (.t (K.ofNat 13))⟩]
noncomputable def f72_r4 : List EOper := [⟨(some (K.ofNat 16)), none, .iads 1 (.t (K.ofNat 12)) (.t (K.ofNat 14))⟩, ⟨(some (K.ofNat 17)), none, .ld (.t (K.ofNat 16))⟩, ⟨(some (K.ofNat 7)), none, .as (.t (K.ofNat 17))⟩]
noncomputable def f72_r5 : List EOper := [⟨(some (K.ofNat 18)), none, .mv (.t (K.ofNat 7))⟩, ⟨(some (K.ofNat 19)), none, .len (.t (K.ofNat 18))⟩, ⟨(some (K.ofNat 20)), none, .mv (.c (.i .i64 (.ofNat 0)))⟩]
noncomputable def f72_r6 : List EOper := [⟨(some (K.ofNat 21)), none, .bin .lss (.t (K.ofNat 20)) (.t (K.ofNat 19))⟩]
noncomputable def f72_r7 : List EOper := [⟨(some (K.ofNat 22)), none, .iads 2 (.t (K.ofNat 18)) (.t (K.ofNat 20))⟩, ⟨(some (K.ofNat 23)), none, .ldn 2 (.t (K.ofNat 22))⟩, ⟨(some (K.ofNat 9)), none, .alloc 2 [(.i .i64 (.ofNat 0)), (.i .i64 (.ofNat 0))]⟩, ⟨none, none, .st 2 (.t (K.ofNat 9)) (.t (K.ofNat 23))⟩]
noncomputable def f72_r8 : List EOper := [⟨(some (K.ofNat 24)), none, .iadr 2 1 (.t (K.ofNat 9)) (.c (.i .i64 (.ofNat 0)))⟩, ⟨(some (K.ofNat 25)), none, .ld (.t (K.ofNat 24))⟩, ⟨(some (K.ofNat 26)), none, .iadr 2 1 (.t (K.ofNat 9)) (.c (.i .i64 (.ofNat 1)))⟩, ⟨(some (K.ofNat 27)), none, .ld (.t (K.ofNat 26))⟩, ⟨(some (K.ofNat 28)), none, .build [(.i .i64 (.ofNat 0)), (.i .i64 (.ofNat 0))] [(0, 1, (.t (K.ofNat 25))), (1, 1, (.t (K.ofNat 27)))]⟩, ⟨(some (K.ofNat 10)), none, .alloc 2 [(.i .i64 (.ofNat 0)), (.i .i64 (.ofNat 0))]⟩, ⟨none, none, .st 2 (.t (K.ofNat 10)) (.t (K.ofNat 28))⟩]
noncomputable def f72_r9 : List EOper := [⟨(some (K.ofNat 29)), none, .mv (.t (K.ofNat 5))⟩, ⟨(some (K.ofNat 30)), none, .ldn 2 (.t (K.ofNat 10))⟩, ⟨(some (K.ofNat 31)), none, .look 139 (.many [(some .i64), (some .i64)]) (.b false) (.t (K.ofNat 29)) (.t (K.ofNat 30)) false⟩]
noncomputable def f72_r10 : List EOper := [⟨(some (K.ofNat 4)), none, .as (.c (.b false))⟩]
noncomputable def f72_r11 : List EOper := [⟨(some (K.ofNat 32)), none, .mv (.t (K.ofNat 5))⟩, ⟨(some (K.ofNat 33)), none, .ldn 2 (.t (K.ofNat 10))⟩, ⟨none, none, .mupd 139 (.many [(some .i64), (some .i64)]) (.t (K.ofNat 32)) (.t (K.ofNat 33)) (.c (.b true))⟩]
noncomputable def f72_r12 : List EOper := [⟨(some (K.ofNat 34)), none, .bin .add (.t (K.ofNat 20)) (.c (.i .i64 (.ofNat 1)))⟩, ⟨(some (K.ofNat 20)), none, .mv (.t (K.ofNat 34))⟩]
noncomputable def f72_l0 : EC := (.seq (.reg f72_r6) (.seq (.cond (.t (K.ofNat 21)) .skip (.exit 2)) (.seq (.block 3 (.seq (.reg f72_r7) (.seq (.reg f72_r8) (.seq (.seq (.reg f72_r9) (.cond (.t (K.ofNat 31)) (.seq (.reg f72_r10) .ret) .skip)) (.reg f72_r11))))) (.reg f72_r12))))
noncomputable def f72_r13 : List EOper := [⟨(some (K.ofNat 35)), none, .bin .add (.t (K.ofNat 14)) (.c (.i .i64 (.ofNat 1)))⟩, ⟨(some (K.ofNat 14)), none, .mv (.t (K.ofNat 35))⟩]
noncomputable def f72_l1 : EC := (.seq (.reg f72_r3) (.seq (.cond (.t (K.ofNat 15)) .skip (.exit 0)) (.seq (.block 1 (.seq (.reg f72_r4) (.seq (.reg f72_r5) (.block 2 (.loop f72_l0))))) (.reg f72_r13))))
noncomputable def f72_r14 : List EOper := [⟨(some (K.ofNat 36)), none, .mv (.t (K.ofNat 5))⟩, ⟨(some (K.ofNat 37)), none, .lenM 139 (.t (K.ofNat 36))⟩, ⟨(some (K.ofNat 38)), none, .mv (.t (K.ofNat 0))⟩, ⟨(some (K.ofNat 39)), none, .mv (.t (K.ofNat 0))⟩, ⟨(some (K.ofNat 40)), none, .bin .sub (.t (K.ofNat 39)) (.c (.i .i64 (.ofNat 1)))⟩, ⟨(some (K.ofNat 41)), none, .bin .mul (.t (K.ofNat 38)) (.t (K.ofNat 40))⟩, ⟨(some (K.ofNat 42)), none, .bin .quo (.t (K.ofNat 41)) (.c (.i .i64 (.ofNat 2)))⟩, ⟨(some (K.ofNat 43)), none, .bin .eql (.t (K.ofNat 37)) (.t (K.ofNat 42))⟩, ⟨(some (K.ofNat 4)), none, .as (.t (K.ofNat 43))⟩]
noncomputable def f72_c : EC := (.seq (.reg f72_r0) (.seq (.reg f72_r1) (.seq (.seq (.reg f72_r2) (.block 0 (.loop f72_l1))) (.seq (.reg f72_r14) .ret))))
noncomputable def f72 : EF := ⟨44, [.tmp (K.ofNat 4)], f72_c, none⟩
theorem f72_rs : f72.rs = [.tmp (K.ofNat 4)] := of_eq_true (eq_self _)
noncomputable def f37_r0 : List EOper := [⟨(some (K.ofNat 4)), none, .as (.c (.b false))⟩, ⟨(some (K.ofNat 5)), none, .as (.c (.i .i64 (.ofNat 0)))⟩]
noncomputable def f37_r1 : List EOper := [⟨(some (K.ofNat 7)), none, .mv (.t (K.ofNat 0))⟩, ⟨(some (K.ofNat 8)), none, .mv (.t (K.ofNat 1))⟩, ⟨(some (K.ofNat 9)), none, .call (.c (.fn (K.ofNat 71) [])) [(.t (K.ofNat 7)), (.t (K.ofNat 8))]⟩, ⟨(some (K.ofNat 6)), none, .as (.t (K.ofNat 9))⟩]
noncomputable def f37_r2 : List EOper := [⟨(some (K.ofNat 10)), none, .mv (.t (K.ofNat 6))⟩, ⟨(some (K.ofNat 11)), none, .bin .neq (.t (K.ofNat 10)) (.c (.i .i64 (.ofNat 0)))⟩]
noncomputable def f37_r3 : List EOper := [⟨(some (K.ofNat 12)), none, .mv (.t (K.ofNat 6))⟩, ⟨(some (K.ofNat 4)), none, .as (.c (.b false))⟩, ⟨(some (K.ofNat 5)), none, .as (.t (K.ofNat 12))⟩]
noncomputable def f37_r4 : List EOper := [⟨(some (K.ofNat 13)), none, .mv (.t (K.ofNat 0))⟩, ⟨(some (K.ofNat 14)), none, .mv (.t (K.ofNat 1))⟩, ⟨(some (K.ofNat 15)), none, .call (.c (.fn (K.ofNat 72) [])) [(.t (K.ofNat 13)), (.t (K.ofNat 14))]⟩, ⟨(some (K.ofNat 4)), none, .as (.t (K.ofNat 15))⟩, ⟨(some (K.ofNat 5)), none, .as (.c (.i .i64 (.ofNat 0)))⟩]
noncomputable def f37_c : EC := (.seq (.reg f37_r0) (.seq (.seq (.reg f37_r1) (.seq (.reg f37_r2) (.cond (.t (K.ofNat 11)) (.seq (.reg f37_r3) .ret) .skip))) (.seq (.reg f37_r4) .ret)))
noncomputable def f37 : EF := ⟨16, [.tmp (K.ofNat 4), .tmp (K.ofNat 5)], f37_c, none⟩
theorem f37_rs : f37.rs = [.tmp (K.ofNat 4), .tmp (K.ofNat 5)] := of_eq_true (eq_self _)
/-- Are these copies of a graph of that size? -/
def rgtB (s : Int) (Ls : List (List (Int × Int))) : Bool := Ls.all fun l => decide (l.length ≤ 20) && l.all (edB s)
def rgtI (s : Int) (Ls : List (List (Int × Int))) : Int := if s < 2 ∨ 21 < s ∨ 40 < Ls.length then 1 else if rgtB s Ls = true then 0 else 1
theorem rgtB_no {s : Int} {Ls : List (List (Int × Int))} {i : Nat} (hi : i < Ls.length) (h : (decide (Ls[i].length ≤ 20) && Ls[i].all (edB s)) = false) : rgtB s Ls = false := by
  rw [Bool.eq_false_iff]
  intro hr
  have := List.all_eq_true.1 hr _ (List.getElem_mem hi)
  rw [h] at this; cases this
section
variable {fs : T EF} {h : H} {v : V} {us : List V} {Ls : List (List (Int × Int))} {s : Int}
def f71_I (h : H) (s : Int) (v : V) (Ls : List (List (Int × Int))) (i : Nat) (fr : Fr) (h1 : H) : Prop := i ≤ Ls.length ∧ Grow h.nx.nat h h1 ∧ (∀ j (hj : j < Ls.length), j < i → (decide (Ls[j].length ≤ 20) && Ls[j].all (edB s)) = true) ∧ fr.get (K.ofNat 0) = some (.i .i64 s) ∧ fr.get (K.ofNat 1) = some (v) ∧ fr.get (K.ofNat 20) = some (v) ∧ fr.get (K.ofNat 21) = some (.i .i64 (Ls.length : Int)) ∧ fr.get (K.ofNat 22) = some (.i .i64 (i : Int))
def f71_J (h : H) (s : Int) (v u : V) (Ls : List (List (Int × Int))) (l : List (Int × Int)) (i : Nat) (j : Nat) (fr : Fr) (h1 : H) : Prop := j ≤ l.length ∧ Grow h.nx.nat h h1 ∧ (l.take j).all (edB s) = true ∧ fr.get (K.ofNat 0) = some (.i .i64 s) ∧ fr.get (K.ofNat 1) = some (v) ∧ fr.get (K.ofNat 6) = some (u) ∧ fr.get (K.ofNat 20) = some (v) ∧ fr.get (K.ofNat 21) = some (.i .i64 (Ls.length : Int)) ∧ fr.get (K.ofNat 22) = some (.i .i64 (i : Int)) ∧ fr.get (K.ofNat 29) = some (u) ∧ fr.get (K.ofNat 30) = some (.i .i64 (l.length : Int)) ∧ fr.get (K.ofNat 31) = some (.i .i64 (j : Int))
theorem f71_ret (h60 : fs.get (K.ofNat 60) = some f60) (hv : Sll h v us Ls) (hc : HC h) (hL : Ls.length ≤ 1000000) : Ret fs f71 [.i .i64 s, v] h fun r h' => r = .i .i64 (rgtI s Ls) ∧ Grow h.nx.nat h h' := by
  apply ret_of rfl
  show W fs none f71_c _ _ _
  unfold f71_c rgtI
  have hl : ∀ h1, lenV v h1 = .ok (.i .i64 (Ls.length : Int)) h1 := fun h1 => by rw [hv.out.len, hv.len]
  cases d1 : decide (s < 2) with
  | true =>
    have h1 : s < 2 ∨ 21 < s ∨ 40 < Ls.length := .inl (by simpa using d1)
    simp (disch := omega) only [f71_r0, f71_r1, f71_r2, f71_rs, w_reg, w_seq, w_cond, w_ret, seqK_n, seqK_r, ckB_b, cbB_b, okG_b, asG_f, true_and, retK_r, x_nil, x_g, x_mv, x_as, x_pick, x_bin, kx, rvP_ok, okv_some, ev_t, ev_c, getV_some, putD_some, bin_lss, pick_b, oGet_s, readRs_nil, readRs_t, retV_1, frame_2, of0, of1, of2, Option.some.injEq, exists_eq_left', getK_set, Nat.reduceEqDiff, ↓reduceIte, Bool.false_eq_true, Bool.not_true, of21, of40, d1, h1, Bool.not_true, true_and]
    exact Grow.refl _ _
  | false =>
  cases d2 : decide (s > 21) with
  | true =>
    have h1 : s < 2 ∨ 21 < s ∨ 40 < Ls.length := .inr (.inl (by simpa using d2))
    simp (disch := omega) only [f71_r0, f71_r1, f71_r2, f71_rs, w_reg, w_seq, w_cond, w_ret, seqK_n, seqK_r, ckB_b, cbB_b, okG_b, asG_f, true_and, retK_r, x_nil, x_g, x_mv, x_as, x_pick, x_bin, kx, rvP_ok, okv_some, ev_t, ev_c, getV_some, putD_some, bin_lss, bin_gtr, pick_b, oGet_s, readRs_nil, readRs_t, retV_1, frame_2, of0, of1, of2, Option.some.injEq, exists_eq_left', getK_set, Nat.reduceEqDiff, ↓reduceIte, Bool.false_eq_true, Bool.not_true, Bool.not_false, of21, of40, d1, d2, h1, Bool.not_true, Bool.not_false, true_and]
    exact Grow.refl _ _
  | false =>
  cases d3 : decide ((Ls.length : Int) > 40) with
  | true =>
    have h0 : (Ls.length : Int) > 40 := by simpa using d3
    have h1 : s < 2 ∨ 21 < s ∨ 40 < Ls.length := .inr (.inr (by omega))
    simp (disch := omega) only [f71_r0, f71_r1, f71_r2, f71_rs, w_reg, w_seq, w_cond, w_ret, seqK_n, seqK_r, ckB_b, cbB_b, okG_b, asG_f, true_and, retK_r, x_nil, x_g, x_mv, x_as, x_pick, x_bin, x_len, kx, rvP_ok, okv_some, ev_t, ev_c, getV_some, putD_some, bin_lss, bin_gtr, pick_b, oGet_s, readRs_nil, readRs_t, retV_1, frame_2, of0, of1, of2, Option.some.injEq, exists_eq_left', getK_set, Nat.reduceEqDiff, ↓reduceIte, Bool.false_eq_true, Bool.not_false, of21, of40, d1, d2, d3, h1, hl, Bool.not_false, true_and]
    exact Grow.refl _ _
  | false =>
  have h1 : ¬ (s < 2 ∨ 21 < s ∨ 40 < Ls.length) := by simp at d1 d2 d3; omega
  simp (disch := omega) only [f71_r0, f71_r1, f71_r3, w_skip, w_reg, w_seq, w_cond, w_block, seqK_n, ckB_b, cbB_b, okG_b, asG_f, true_and, x_nil, x_g, x_mv, x_as, x_pick, x_bin, x_len, kx, rvP_ok, okv_some, ev_t, ev_c, getV_some, putD_some, bin_lss, bin_gtr, pick_b, frame_2, of0, of2, getK_set, Nat.reduceEqDiff, ↓reduceIte, Bool.false_eq_true, Bool.not_false, of21, of40, d1, d2, d3, h1, hl, Bool.not_false]
  refine W_loop (f71_I h s v Ls) (fun i => Ls.length - i) ?_ 0 ⟨by omega, Grow.refl _ _, fun j hj h => by omega, by simp (disch := omega) only [getK_set, Nat.reduceEqDiff, ↓reduceIte, and_self, Int.natCast_zero]⟩
  rintro i fr h1 ⟨hi, hG, hok, g0, g1, g20, g21, g22⟩
  have hv1 := hv.grow hc hG
  unfold f71_l1
  by_cases hlt : i < Ls.length
  · have d4 : decide ((i : Int) < (Ls.length : Int)) = true := by simpa using hlt
    have hiv : i < us.length := by rw [hv.len]; exact hlt
    obtain ⟨p, hp1, hp2⟩ := hv1.out.at i hiv
    have hp2 : loadV h1 p one? = .ok us[i] h1 := hp2
    have hu0 := hv.inn i hiv hlt
    have hu := hu0.grow hc hG
    have bad := rgtB_no (s := s) hlt
    have good : ∀ h2 : (decide (Ls[i].length ≤ 20) && Ls[i].all (edB s)) = true, ∀ j (hj : j < Ls.length), j < i + 1 → (decide (Ls[j].length ≤ 20) && Ls[j].all (edB s)) = true := fun h2 j hj hji => by
      by_cases e : j = i
      · subst e; exact h2
      · exact hok j hj (by omega)
    generalize Ls[i] = l at *
    generalize us[i] = u at *
    cases d5 : decide ((l.length : Int) > 20) with
    | true =>
      have : rgtB s Ls = false := bad (by rw [decide_eq_false (by have := of_decide_eq_true d5; omega)]; rfl)
      simp (disch := omega) only [f71_r4, f71_r5, f71_r6, f71_r7, f71_rs, w_skip, w_reg, w_seq, w_cond, w_block, w_ret, seqK_n, seqK_r, atK_r, loopK_r, ckB_b, cbB_b, true_and, retK_r, x_nil, x_mv, x_as, x_ld, x_bin, x_iads, x_len, kx, rvP_ok, okv_some, ev_t, ev_c, getV_some, putD_some, bin_lss, bin_gtr, oGet_s, readRs_nil, readRs_t, retV_1, of1, Option.some.injEq, exists_eq_left', getK_set, Nat.reduceEqDiff, ↓reduceIte, Bool.false_eq_true, of20, g20, g21, g22, d4, hp1, hp2, hu.len, d5, this, Bool.false_eq_true, true_and]
      exact hG
    | false =>
    have hl20 : l.length ≤ 20 := by have := of_decide_eq_false d5; omega
    simp (disch := omega) only [f71_r4, f71_r5, f71_r6, f71_r8, w_skip, w_reg, w_seq, w_cond, w_block, seqK_n, ckB_b, cbB_b, true_and, x_nil, x_mv, x_as, x_ld, x_bin, x_iads, x_len, kx, rvP_ok, okv_some, ev_t, ev_c, getV_some, putD_some, bin_lss, bin_gtr, of0, getK_set, Nat.reduceEqDiff, ↓reduceIte, Bool.false_eq_true, of20, g20, g21, g22, d4, hp1, hp2, hu.len, d5]
    refine W_loop (f71_J h s v u Ls l i) (fun j => l.length - j) ?_ 0 ⟨by omega, hG, rfl, by simp (disch := omega) only [getK_set, Nat.reduceEqDiff, ↓reduceIte, g0, g1, g20, g21, g22, and_self, Int.natCast_zero]⟩
    clear hv1 hu hp1 hp2 hG g0 g1 g20 g21 g22 fr
    rintro j fr hx ⟨hj, hG, hall, g0, g1, g6, g20, g21, g22, g29, g30, g31⟩
    have hux := hu0.grow hc hG
    unfold f71_l0
    by_cases hlt2 : j < l.length
    · have d6 : decide ((j : Int) < (l.length : Int)) = true := by simpa using hlt2
      obtain ⟨ida, q, hp1, hp2, _, _⟩ := hux.at2 hlt2
      have hst2 : storeV (hx.new (.cells 2 zz)) 2 (.p hx.nx 0) (.agg [.i .i64 l[j].1, .i .i64 l[j].2]) = .ok undefV ((hx.new (.cells 2 zz)).put hx.nx (.cells 2 [.i .i64 l[j].1, .i .i64 l[j].2])) := st2 (a := .i .i64 (.ofNat 0)) (b := .i .i64 (.ofNat 0)) get_new_same
      have nx1 := nx_new hx (.cells 2 zz)
      have gB : Grow hx.nx.nat hx ((hx.new (.cells 2 zz)).put hx.nx (.cells 2 [.i .i64 l[j].1, .i .i64 l[j].2])) := (Grow.new (Nat.le_refl _) _).trans (Grow.put (Nat.le_refl _) (by omega) _)
      have c8 : ((hx.new (.cells 2 zz)).put hx.nx (.cells 2 [.i .i64 l[j].1, .i .i64 l[j].2])).get hx.nx = .cells 2 [.i .i64 l[j].1, .i .i64 l[j].2] := get_put_same
      have hzz : ([.i .i64 0, .i .i64 0] : List V) = zz := rfl
      generalize (hx.new (.cells 2 zz)).put hx.nx (.cells 2 [.i .i64 l[j].1, .i .i64 l[j].2]) = h4 at *
      have l2 : loadV h4 (.p hx.nx 0) (many? 2) = .ok (pV l[j]) h4 := ldn2 c8
      have hall2 := all_snoc (p := edB s) hlt2
      rw [hall, Bool.true_and] at hall2
      simp (disch := omega) only [f71_r9, f71_r10, f71_r11, w_skip, w_reg, w_seq, w_cond, w_block, seqK_n, ckB_b, cbB_b, true_and, x_nil, x_mv, x_alloc, x_ldn, x_st, x_bin, x_iads, x_call, kx, rvP_ok, okv_some, ev_t, ev_c, evs_nil, evs_cons, getV_some, putD_some, putD_none, bin_lss, of0, getK_set, Nat.reduceEqDiff, ↓reduceIte, g0, g29, g30, g31, d6, hp1, hp2, hzz, hst2, l2]
      refine (callP_0 (ef := f60) h60 rfl (f60_ret (n := s) (e := l[j]))).mono ?_
      rintro r h5 ⟨rfl, gC⟩
      have hG5 := hG.trans ((gB.trans (gC.low gB.nx)).low hG.nx)
      cases he : edB s l[j] with
      | false =>
        have hal : l.all (edB s) = false := by
          rw [Bool.eq_false_iff]
          intro h
          rw [List.all_eq_true.1 h _ (List.getElem_mem hlt2)] at he
          cases he
        have : rgtB s Ls = false := bad (by rw [hal, Bool.and_false])
        simp (disch := omega) only [f71_r12, f71_rs, w_reg, w_seq, w_cond, w_ret, seqK_n, seqK_r, atK_r, loopK_r, ckB_b, cbB_b, true_and, retK_r, x_nil, x_as, x_not, kx, rvP_ok, ev_t, ev_c, getV_some, putD_some, onB_b, oGet_s, readRs_nil, readRs_t, retV_1, of1, Option.some.injEq, exists_eq_left', getK_set, ↓reduceIte, Bool.false_eq_true, Bool.not_false, this, Bool.not_false, Bool.false_eq_true, true_and]
        exact hG5
      | true =>
        rw [he] at hall2
        simp (disch := omega) only [f71_r13, w_skip, w_reg, w_cond, seqK_n, atK_n, loopK_n, ckB_b, cbB_b, true_and, x_nil, x_mv, x_bin, x_not, kx, rvP_ok, okv_some, ev_t, ev_c, getV_some, putD_some, bin_add, onB_b, of1, getK_set, Nat.reduceEqDiff, ↓reduceIte, Bool.false_eq_true, Bool.not_true, g31, Bool.not_true, fw64]
        exact ⟨j + 1, by omega, by omega, hG5, hall2, by simp (disch := omega) only [getK_set, Nat.reduceEqDiff, ↓reduceIte, g0, g1, g6, g20, g21, g22, g29, g30, and_self, Int.natCast_add, Int.natCast_one]⟩
    · have d6 : decide ((j : Int) < (l.length : Int)) = false := by simpa using hlt2
      have ej : j = l.length := by omega
      rw [ej, List.take_length] at hall
      simp (disch := omega) only [f71_r9, f71_r14, w_reg, w_seq, w_cond, w_exit, seqK_n, seqK_e, atK_n, atK_e, loopK_n, loopK_e, ckB_b, cbB_b, true_and, x_nil, x_mv, x_bin, kx, rvP_ok, okv_some, ev_t, ev_c, getV_some, putD_some, bin_add, bin_lss, of1, getK_set, Nat.reduceEqDiff, ↓reduceIte, Bool.false_eq_true, g22, g30, g31, d6, fw64]
      exact ⟨i + 1, by omega, by omega, hG, good (by rw [decide_eq_true hl20, hall]; rfl), by simp (disch := omega) only [getK_set, Nat.reduceEqDiff, ↓reduceIte, g0, g1, g20, g21, and_self, Int.natCast_add, Int.natCast_one]⟩
  · have d4 : decide ((i : Int) < (Ls.length : Int)) = false := by simpa using hlt
    have : rgtB s Ls = true := List.all_eq_true.2 fun l hl => by
      obtain ⟨j, hj, rfl⟩ := List.getElem_of_mem hl
      exact hok j hj (by omega)
    simp (disch := omega) only [f71_r4, f71_r15, f71_rs, w_reg, w_seq, w_cond, w_exit, w_ret, seqK_n, seqK_e, atK_e, loopK_e, ckB_b, cbB_b, true_and, retK_r, x_nil, x_as, x_bin, kx, rvP_ok, okv_some, ev_t, ev_c, getV_some, putD_some, bin_lss, oGet_s, readRs_nil, readRs_t, retV_1, of0, Option.some.injEq, exists_eq_left', getK_set, ↓reduceIte, Bool.false_eq_true, g21, g22, d4, this, true_and]
    exact hG
/-! ### A set of pairs, as a map -/
def entP (M : List (Int × Int)) : List (V × V) := M.map fun p => (pV p, .b true)
def kdP : KD := .many [some .i64, some .i64]
def InP (M : List (Int × Int)) : Prop := ∀ x ∈ M, inR .i64 x.1 = true ∧ inR .i64 x.2 = true
theorem keyEq_p {x y : Int × Int} (hx : inR .i64 x.1 = true ∧ inR .i64 x.2 = true) (hy : inR .i64 y.1 = true ∧ inR .i64 y.2 = true) : keyEq kdP (pV x) (pV y) = some (decide (x = y)) := by
  have := keyEq_2 hx.1 hx.2 hy.1 hy.2
  have e : (decide (x.1 = y.1) && decide (x.2 = y.2)) = decide (x = y) := by
    rw [Bool.eq_iff_iff, Bool.and_eq_true, decide_eq_true_eq, decide_eq_true_eq, decide_eq_true_eq]
    exact ⟨fun h => Prod.ext h.1 h.2, fun h => by rw [h]; exact ⟨rfl, rfl⟩⟩
  rw [e] at this
  exact this
theorem findE_p {x : Int × Int} (hx : inR .i64 x.1 = true ∧ inR .i64 x.2 = true) : ∀ (M : List (Int × Int)), InP M → findE kdP (pV x) (entP M) = some (if x ∈ M then some (.b true) else none)
  | [], _ => by
    show (oGet (keyEq kdP (pV x) (pV x)) none fun _ => some none) = _
    rw [keyEq_p hx hx]; rfl
  | y :: M, hM => by
    have ih := findE_p hx M fun z hz => hM z (List.mem_cons_of_mem _ hz)
    show (oGet (keyEq kdP (pV x) (pV y)) none fun r => bif r then some (some (.b true)) else findE kdP (pV x) (entP M)) = _
    rw [keyEq_p hx (hM y (by simp)), ih]
    show (bif decide (x = y) then _ else _) = _
    by_cases e : x = y
    · rw [decide_eq_true e, if_pos (show x ∈ y :: M by rw [e]; exact List.mem_cons_self)]; rfl
    · rw [decide_eq_false e]
      by_cases e2 : x ∈ M
      · rw [if_pos e2, if_pos (show x ∈ y :: M from List.mem_cons_of_mem _ e2)]; rfl
      · rw [if_neg e2, if_neg (show ¬ x ∈ y :: M from fun h => by rcases List.mem_cons.1 h with h | h <;> contradiction)]; rfl
theorem updE_p {x : Int × Int} (hx : inR .i64 x.1 = true ∧ inR .i64 x.2 = true) : ∀ (M : List (Int × Int)), InP M → x ∉ M → updE kdP (pV x) (.b true) (entP M) = some (entP (M ++ [x]))
  | [], _, _ => by
    show (oGet (keyEq kdP (pV x) (pV x)) none fun _ => some [(pV x, V.b true)]) = _
    rw [keyEq_p hx hx]; rfl
  | y :: M, hM, hn => by
    have e : ¬ x = y := fun e => hn (by rw [e]; simp)
    have ih := updE_p hx M (fun z hz => hM z (List.mem_cons_of_mem _ hz)) fun hm => hn (List.mem_cons_of_mem _ hm)
    show (oGet (keyEq kdP (pV x) (pV y)) none fun r => bif r then some ((pV x, V.b true) :: entP M) else oGet (updE kdP (pV x) (.b true) (entP M)) none fun l => some ((pV y, V.b true) :: l)) = _
    rw [keyEq_p hx (hM y (by simp)), ih, decide_eq_false e]; rfl
def MapP (h : H) (id : K) (kt : Nat) (M : List (Int × Int)) : Prop := h.get id = .map kt (entP M)
theorem MapP.look {kt : Nat} {id : K} {M : List (Int × Int)} {x : Int × Int} (hm : MapP h id kt M) (hx : inR .i64 x.1 = true ∧ inR .i64 x.2 = true) (hM : InP M) :
    lookV kt kdP (.b false) h (.m id) (pV x) false = .ok (.b (decide (x ∈ M))) h := by
  show ((h.get id).onM kt fun es => oGet (findE kdP (pV x) es) RV.no fun r => bif false then _ else RV.ok (oGet r (.b false) fun v => v) h) = _
  rw [hm]
  show (bif Nat.beq kt kt then (oGet (findE kdP (pV x) (entP M)) RV.no fun r => RV.ok (oGet r (.b false) fun v => v) h) else _) = _
  rw [Nat.beq_same, findE_p hx M hM]
  by_cases e : x ∈ M
  · rw [if_pos e, decide_eq_true e]; rfl
  · rw [if_neg e, decide_eq_false e]; rfl
theorem MapP.put {kt : Nat} {id : K} {M : List (Int × Int)} {x : Int × Int} (hm : MapP h id kt M) (hx : inR .i64 x.1 = true ∧ inR .i64 x.2 = true) (hM : InP M) (hn : x ∉ M) :
    mupdV kt kdP h (.m id) (pV x) (.b true) = .ok undefV (h.put id (.map kt (entP (M ++ [x])))) ∧ MapP (h.put id (.map kt (entP (M ++ [x])))) id kt (M ++ [x]) := by
  refine ⟨?_, get_put_same⟩
  show ((h.get id).onM kt fun es => oGet (updE kdP (pV x) (.b true) es) RV.no fun es => RV.ok undefV (h.put id (.map kt es))) = _
  rw [hm]
  show (bif Nat.beq kt kt then (oGet (updE kdP (pV x) (.b true) (entP M)) RV.no fun es => RV.ok undefV (h.put id (.map kt es))) else _) = _
  rw [Nat.beq_same, updE_p hx M hM hn]; rfl
theorem MapP.len {kt : Nat} {id : K} {M : List (Int × Int)} (hm : MapP h id kt M) : lenMV kt (.m id) h = .ok (.i .i64 (M.length : Int)) h := by
  show ((h.get id).onM kt fun es => RV.ok (.i .i64 (.ofNat (lenL es))) h) = _
  rw [hm]
  show (bif Nat.beq kt kt then RV.ok (.i .i64 (.ofNat (lenL (entP M)))) h else _) = _
  rw [Nat.beq_same, lenL_eq]
  unfold entP
  rw [List.length_map]; rfl
/-! ### Is each pair there just once? -/
theorem edB_in {s : Int} (hs : s ≤ 1000) {x : Int × Int} (h : edB s x = true) : inR .i64 x.1 = true ∧ inR .i64 x.2 = true := by
  unfold edB at h
  simp only [Bool.and_eq_true, decide_eq_true_eq] at h
  obtain ⟨a, ha⟩ : ∃ a : Nat, x.1 = (a : Int) := ⟨x.1.toNat, by omega⟩
  obtain ⟨b, hb⟩ : ∃ b : Nat, x.2 = (b : Int) := ⟨x.2.toNat, by omega⟩
  rw [ha, hb]
  exact ⟨inR_n (by omega), inR_n (by omega)⟩
def f72_I (h : H) (s : Nat) (v : V) (Ls : List (List (Int × Int))) (i : Nat) (fr : Fr) (h1 : H) : Prop := i ≤ Ls.length ∧ Grow h.nx.nat h h1 ∧ h.nx.nat < h1.nx.nat ∧ MapP h1 h.nx 139 (Ls.take i).flatten ∧ (Ls.take i).flatten.Nodup ∧ fr.get (K.ofNat 0) = some (.i .i64 (s : Int)) ∧ fr.get (K.ofNat 1) = some (v) ∧ fr.get (K.ofNat 5) = some (.m h.nx) ∧ fr.get (K.ofNat 12) = some (v) ∧ fr.get (K.ofNat 13) = some (.i .i64 (Ls.length : Int)) ∧ fr.get (K.ofNat 14) = some (.i .i64 (i : Int))
def f72_J (h : H) (s : Nat) (v u : V) (Ls : List (List (Int × Int))) (l : List (Int × Int)) (i : Nat) (j : Nat) (fr : Fr) (h1 : H) : Prop := j ≤ l.length ∧ Grow h.nx.nat h h1 ∧ h.nx.nat < h1.nx.nat ∧ MapP h1 h.nx 139 ((Ls.take i).flatten ++ l.take j) ∧ ((Ls.take i).flatten ++ l.take j).Nodup ∧ fr.get (K.ofNat 0) = some (.i .i64 (s : Int)) ∧ fr.get (K.ofNat 1) = some (v) ∧ fr.get (K.ofNat 5) = some (.m h.nx) ∧ fr.get (K.ofNat 12) = some (v) ∧ fr.get (K.ofNat 13) = some (.i .i64 (Ls.length : Int)) ∧ fr.get (K.ofNat 14) = some (.i .i64 (i : Int)) ∧ fr.get (K.ofNat 18) = some (u) ∧ fr.get (K.ofNat 19) = some (.i .i64 (l.length : Int)) ∧ fr.get (K.ofNat 20) = some (.i .i64 (j : Int))
theorem f72_ret {s : Nat} (hv : Sll h v us Ls) (hc : HC h) (hs : 1 ≤ s ∧ s ≤ 1000) (hL : Ls.length ≤ 1000) (hb : ∀ l ∈ Ls, l.length ≤ 1000 ∧ ∀ x ∈ l, edB (s : Int) x = true) : Ret fs f72 [.i .i64 (s : Int), v] h fun r h' => (∃ c, r = .b c ∧ (c = true ↔ Ls.flatten.Nodup ∧ Ls.flatten.length = s * (s - 1) / 2)) ∧ Grow h.nx.nat h h' := by
  apply ret_of rfl
  show W fs none f72_c _ _ _
  unfold f72_c
  have hl : ∀ h1, lenV v h1 = .ok (.i .i64 (Ls.length : Int)) h1 := fun h1 => by rw [hv.out.len, hv.len]
  have n1 := nx_new h (.map 139 [])
  have g1' : Grow h.nx.nat h (h.new (.map 139 [])) := Grow.new (Nat.le_refl _) _
  have e1 : MapP (h.new (.map 139 [])) h.nx 139 (Ls.take 0).flatten := get_new_same
  simp (disch := omega) only [f72_r0, f72_r1, f72_r2, w_reg, w_seq, w_block, seqK_n, x_nil, x_mv, x_as, x_mkmap, x_len, kx, rvP_ok, ev_t, ev_c, getV_some, putD_some, frame_2, of0, getK_set, Nat.reduceEqDiff, ↓reduceIte, hl]
  refine W_loop (f72_I h s v Ls) (fun i => Ls.length - i) ?_ 0 ⟨by omega, g1', by omega, e1, by simp, by simp (disch := omega) only [getK_set, Nat.reduceEqDiff, ↓reduceIte, and_self, Int.natCast_zero]⟩
  clear e1 g1' n1
  rintro i fr h1 ⟨hi, hG, hnx, hm, hnd, g0, g1, g5, g12, g13, g14⟩
  have hv1 := hv.grow hc hG
  unfold f72_l1
  by_cases hlt : i < Ls.length
  · have d4 : decide ((i : Int) < (Ls.length : Int)) = true := by simpa using hlt
    have hiv : i < us.length := by rw [hv.len]; exact hlt
    obtain ⟨p, hp1, hp2⟩ := hv1.out.at i hiv
    have hp2 : loadV h1 p one? = .ok us[i] h1 := hp2
    have hu0 := hv.inn i hiv hlt
    have hu := hu0.grow hc hG
    have hsn : (Ls.take (i + 1)).flatten = (Ls.take i).flatten ++ Ls[i] := by rw [List.take_succ_eq_append_getElem hlt, List.flatten_append]; simp
    obtain ⟨hb1, hb2⟩ := hb _ (List.getElem_mem hlt)
    have hsplit : Ls.flatten = ((Ls.take i).flatten ++ Ls[i]) ++ (Ls.drop (i + 1)).flatten := by
      conv => lhs; rw [← List.take_append_drop (i + 1) Ls]
      rw [List.flatten_append, hsn]
    have hinT : InP (Ls.take i).flatten := fun x hx => by
      obtain ⟨l, hl, hx⟩ := List.mem_flatten.1 hx
      exact edB_in (by omega) ((hb l (List.mem_of_mem_take hl)).2 x hx)
    generalize Ls[i] = l at *
    generalize us[i] = u at *
    simp (disch := omega) only [f72_r3, f72_r4, f72_r5, w_skip, w_reg, w_seq, w_cond, w_block, seqK_n, ckB_b, cbB_b, true_and, x_nil, x_mv, x_as, x_ld, x_bin, x_iads, x_len, kx, rvP_ok, okv_some, ev_t, ev_c, getV_some, putD_some, bin_lss, of0, getK_set, Nat.reduceEqDiff, ↓reduceIte, g12, g13, g14, d4, hp1, hp2, hu.len]
    refine W_loop (f72_J h s v u Ls l i) (fun j => l.length - j) ?_ 0 ⟨by omega, hG, hnx, by simpa using hm, by simpa using hnd, by simp (disch := omega) only [getK_set, Nat.reduceEqDiff, ↓reduceIte, g0, g1, g5, g12, g13, g14, and_self, Int.natCast_zero]⟩
    clear hv1 hu hp1 hp2 hG hnx hm hnd g0 g1 g5 g12 g13 g14 fr
    rintro j fr hx ⟨hj, hG, hnx, hm, hnd, g0, g1, g5, g12, g13, g14, g18, g19, g20⟩
    have hux := hu0.grow hc hG
    unfold f72_l0
    by_cases hlt2 : j < l.length
    · have d6 : decide ((j : Int) < (l.length : Int)) = true := by simpa using hlt2
      obtain ⟨ida, q, hp1, hp2, _, _⟩ := hux.at2 hlt2
      have hst2 : storeV (hx.new (.cells 2 zz)) 2 (.p hx.nx 0) (.agg [.i .i64 l[j].1, .i .i64 l[j].2]) = .ok undefV ((hx.new (.cells 2 zz)).put hx.nx (.cells 2 [.i .i64 l[j].1, .i .i64 l[j].2])) := st2 (a := .i .i64 (.ofNat 0)) (b := .i .i64 (.ofNat 0)) get_new_same
      have nx1 := nx_new hx (.cells 2 zz)
      have gB : Grow hx.nx.nat hx ((hx.new (.cells 2 zz)).put hx.nx (.cells 2 [.i .i64 l[j].1, .i .i64 l[j].2])) := (Grow.new (Nat.le_refl _) _).trans (Grow.put (Nat.le_refl _) (by omega) _)
      have c9 : ((hx.new (.cells 2 zz)).put hx.nx (.cells 2 [.i .i64 l[j].1, .i .i64 l[j].2])).get hx.nx = .cells 2 [.i .i64 l[j].1, .i .i64 l[j].2] := get_put_same
      have hzz : ([.i .i64 0, .i .i64 0] : List V) = zz := rfl
      generalize (hx.new (.cells 2 zz)).put hx.nx (.cells 2 [.i .i64 l[j].1, .i .i64 l[j].2]) = h4 at *
      have l0 : loadV h4 (.p hx.nx (0 + 0 * 1)) one? = .ok (.i .i64 l[j].1) h4 := load_p c9 rfl
      have l1 : loadV h4 (.p hx.nx (0 + 1 * 1)) one? = .ok (.i .i64 l[j].2) h4 := load_p c9 rfl
      have hst4 : storeV (h4.new (.cells 2 zz)) 2 (.p h4.nx 0) (.agg [.i .i64 l[j].1, .i .i64 l[j].2]) = .ok undefV ((h4.new (.cells 2 zz)).put h4.nx (.cells 2 [.i .i64 l[j].1, .i .i64 l[j].2])) := st2 (a := .i .i64 (.ofNat 0)) (b := .i .i64 (.ofNat 0)) get_new_same
      have nx4 := nx_new h4 (.cells 2 zz)
      have gC : Grow h4.nx.nat h4 ((h4.new (.cells 2 zz)).put h4.nx (.cells 2 [.i .i64 l[j].1, .i .i64 l[j].2])) := (Grow.new (Nat.le_refl _) _).trans (Grow.put (Nat.le_refl _) (by omega) _)
      have c10 : ((h4.new (.cells 2 zz)).put h4.nx (.cells 2 [.i .i64 l[j].1, .i .i64 l[j].2])).get h4.nx = .cells 2 [.i .i64 l[j].1, .i .i64 l[j].2] := get_put_same
      have hf2 : ∀ (fr : Fr) (x y : EO), ev fr x = .i .i64 l[j].1 → ev fr y = .i .i64 l[j].2 → fillE fr zz [(0, 1, x), (1, 1, y)] = some [.i .i64 l[j].1, .i .i64 l[j].2] := fun fr x y h1 h2 => by
        show fillE fr [.i .i64 (.ofNat 0), .i .i64 (.ofNat 0)] [(0, 1, x), (1, 1, y)] = _
        rw [fill_2, h1, h2]; rfl
      generalize (h4.new (.cells 2 zz)).put h4.nx (.cells 2 [.i .i64 l[j].1, .i .i64 l[j].2]) = h5 at *
      have l2 : loadV h5 (.p h4.nx 0) (many? 2) = .ok (pV l[j]) h5 := ldn2 c10
      have gBC := gB.trans (gC.low gB.nx)
      have hG5 := hG.trans (gBC.low hG.nx)
      have hm5 : MapP h5 h.nx 139 ((Ls.take i).flatten ++ l.take j) := (gBC.old _ hnx).trans hm
      have hnx5 : h.nx.nat < h5.nx.nat := by have := gBC.nx; omega
      have hxin := edB_in (by omega) (hb2 _ (List.getElem_mem hlt2))
      have hinM : InP ((Ls.take i).flatten ++ l.take j) := fun x hx => by
        rcases List.mem_append.1 hx with hx | hx
        · exact hinT x hx
        · exact edB_in (by omega) (hb2 x (List.mem_of_mem_take hx))
      have hlk := hm5.look hxin hinM
      unfold kdP at hlk
      have hsnj : (Ls.take i).flatten ++ l.take (j + 1) = ((Ls.take i).flatten ++ l.take j) ++ [l[j]] := by rw [List.take_succ_eq_append_getElem hlt2, List.append_assoc]
      simp (disch := omega) only [f72_r6, f72_r7, w_skip, w_reg, w_seq, w_cond, w_block, seqK_n, ckB_b, cbB_b, true_and, x_nil, x_alloc, x_ldn, x_st, x_bin, x_iads, kx, rvP_ok, okv_some, ev_t, getV_some, putD_some, putD_none, bin_lss, of0, getK_set, Nat.reduceEqDiff, ↓reduceIte, g18, g19, g20, d6, hp1, hp2, hzz, hst2]
      simp (disch := omega) only [f72_r8, x_alloc, x_build, x_ld, x_st, x_iadr, kx, rvP_ok, ev_t, ev_c, getV_some, putD_some, onP_p, oGet_s, cells1_i, of0, of1, getK_set, Nat.reduceEqDiff, ↓reduceIte, fill_2, set_2, ix2_0, ix2_1, l0, l1, fill_2, set_2]
      simp (disch := omega) only [w_reg, w_seq, seqK_n, x_nil, kx, rvP_ok, putD_none, hzz, hst4]
      cases hin : decide (l[j] ∈ (Ls.take i).flatten ++ l.take j) with
      | true =>
        rw [hin] at hlk
        simp (disch := omega) only [f72_r9, f72_r10, f72_rs, w_reg, w_seq, w_cond, w_ret, seqK_n, seqK_r, atK_r, loopK_r, ckB_b, cbB_b, true_and, retK_r, x_nil, x_mv, x_as, x_ldn, x_look, kx, rvP_ok, ev_t, ev_c, getV_some, putD_some, oGet_s, readRs_nil, readRs_t, retV_1, Option.some.injEq, exists_eq_left', getK_set, Nat.reduceEqDiff, ↓reduceIte, g5, l2, hlk]
        refine ⟨⟨false, rfl, ⟨fun h => (by cases h), fun h => ?_⟩⟩, hG5⟩
        have h1 := h.1
        have hj1 : Ls.flatten = ((Ls.take i).flatten ++ l.take j) ++ ([l[j]] ++ (l.drop (j + 1) ++ (Ls.drop (i + 1)).flatten)) := by
          rw [hsplit]
          conv => lhs; rw [← List.take_append_drop (j + 1) l, List.take_succ_eq_append_getElem hlt2]
          simp only [List.append_assoc]
        rw [hj1, List.nodup_append] at h1
        exact absurd rfl (h1.2.2 _ (of_decide_eq_true hin) _ (by simp))
      | false =>
        rw [hin] at hlk
        obtain ⟨hp, hm6⟩ := hm5.put hxin hinM (of_decide_eq_false hin)
        unfold kdP at hp
        rw [← hsnj] at hm6 hp
        simp (disch := omega) only [f72_r9, f72_r11, f72_r12, w_skip, w_reg, w_cond, seqK_n, atK_n, loopK_n, ckB_b, cbB_b, true_and, x_nil, x_mv, x_ldn, x_bin, x_look, x_mupd, kx, rvP_ok, okv_some, ev_t, ev_c, getV_some, putD_some, putD_none, bin_add, of1, getK_set, Nat.reduceEqDiff, ↓reduceIte, Bool.false_eq_true, g5, g20, l2, hlk, hp, fw64]
        refine ⟨j + 1, by omega, by omega, hG5.trans (Grow.put (Nat.le_refl _) hnx5 _), hnx5, hm6, ?_, by simp (disch := omega) only [getK_set, Nat.reduceEqDiff, ↓reduceIte, g0, g1, g5, g12, g13, g14, g18, g19, and_self, Int.natCast_add, Int.natCast_one]⟩
        rw [hsnj, List.nodup_append]
        exact ⟨hnd, by simp, fun a ha b hb' => by
          rw [List.mem_singleton.1 hb']
          exact fun e => of_decide_eq_false hin (e ▸ ha)⟩
    · have d6 : decide ((j : Int) < (l.length : Int)) = false := by simpa using hlt2
      have ej : j = l.length := by omega
      rw [ej, List.take_length, ← hsn] at hm hnd
      simp (disch := omega) only [f72_r6, f72_r13, w_reg, w_seq, w_cond, w_exit, seqK_n, seqK_e, atK_n, atK_e, loopK_n, loopK_e, ckB_b, cbB_b, true_and, x_nil, x_mv, x_bin, kx, rvP_ok, okv_some, ev_t, ev_c, getV_some, putD_some, bin_add, bin_lss, of1, getK_set, Nat.reduceEqDiff, ↓reduceIte, Bool.false_eq_true, g14, g19, g20, d6, fw64]
      exact ⟨i + 1, by omega, by omega, hG, hnx, hm, hnd, by simp (disch := omega) only [getK_set, Nat.reduceEqDiff, ↓reduceIte, g0, g1, g5, g12, g13, and_self, Int.natCast_add, Int.natCast_one]⟩
  · have d4 : decide ((i : Int) < (Ls.length : Int)) = false := by simpa using hlt
    have ei : i = Ls.length := by omega
    rw [ei, List.take_length] at hm hnd
    have hs1 : ((s : Int) - 1) = ((s - 1 : Nat) : Int) := by omega
    have hmul : ((s : Int) * ((s - 1 : Nat) : Int)) = ((s * (s - 1) : Nat) : Int) := by rw [Int.natCast_mul]
    have hle : s * (s - 1) ≤ 1000 * 1000 := Nat.mul_le_mul (by omega) (by omega)
    have hq : (((s * (s - 1) : Nat) : Int)).tdiv 2 = ((s * (s - 1) / 2 : Nat) : Int) := rfl
    simp (disch := omega) only [f72_r3, f72_r14, f72_rs, w_reg, w_seq, w_cond, w_exit, w_ret, seqK_n, seqK_e, atK_e, loopK_e, ckB_b, cbB_b, true_and, retK_r, x_nil, x_mv, x_as, x_bin, x_lenM, kx, rvP_ok, okv_some, ev_t, ev_c, getV_some, putD_some, bin_sub, bin_mul, bin_eql, bin_lss, bin_quo, oGet_s, readRs_nil, readRs_t, retV_1, of1, of2, Option.some.injEq, exists_eq_left', getK_set, Nat.reduceEqDiff, ↓reduceIte, Bool.false_eq_true, g0, g5, g13, g14, d4, hm.len, fw64, hs1, hmul, hq]
    refine ⟨⟨_, rfl, ?_⟩, hG⟩
    rw [decide_eq_true_eq]
    exact ⟨fun h => ⟨hnd, by omega⟩, fun h => by rw [h.2]⟩
structure CallsCv (fs : T EF) : Prop where
  c37 : fs.get (K.ofNat 37) = some f37
  c60 : fs.get (K.ofNat 60) = some f60
  c71 : fs.get (K.ofNat 71) = some f71
  c72 : fs.get (K.ofNat 72) = some f72
theorem f37_ok (k : CallsCv fs) {s : Nat} (hv : Sll h v us Ls) (hc : HC h) (hr : rgtI (s : Int) Ls = 0) : Ret fs f37 [.i .i64 (s : Int), v] h fun r h' => (∃ c, r = .tup [.b c, .i .i64 0] ∧ (c = true ↔ Ls.flatten.Nodup ∧ Ls.flatten.length = s * (s - 1) / 2)) ∧ Grow h.nx.nat h h' := by
  have hr2 : (2 ≤ s ∧ s ≤ 21) ∧ Ls.length ≤ 40 ∧ rgtB (s : Int) Ls = true := by
    unfold rgtI at hr
    split at hr
    · cases hr
    · split at hr
      · exact ⟨by omega, by omega, by assumption⟩
      · cases hr
  apply ret_of rfl
  show W fs none f37_c _ _ _
  unfold f37_c
  simp (disch := omega) only [f37_r0, f37_r1, w_reg, w_seq, seqK_n, x_nil, x_mv, x_as, x_call, ev_t, ev_c, evs_nil, evs_cons, getV_some, putD_some, frame_2, of0, getK_set, Nat.reduceEqDiff, ↓reduceIte]
  refine (callP_0 (ef := f71) k.c71 rfl (f71_ret (s := (s : Int)) k.c60 hv hc (by omega))).mono ?_
  rintro r h1 ⟨rfl, hG1⟩
  have d : decide ((0 : Int) ≠ 0) = false := rfl
  simp (disch := omega) only [f37_r2, f37_r4, w_skip, w_reg, w_seq, w_cond, seqK_n, ckB_b, cbB_b, true_and, x_nil, x_mv, x_as, x_bin, x_call, kx, rvP_ok, okv_some, ev_t, ev_c, evs_nil, evs_cons, getV_some, putD_some, bin_neq, of0, getK_set, Nat.reduceEqDiff, ↓reduceIte, Bool.false_eq_true, hr, d]
  refine (callP_0 (ef := f72) k.c72 rfl (f72_ret (hv.grow hc hG1) (hG1.hc hc) (by omega) (by omega) fun l hl => ?_)).mono ?_
  · have := List.all_eq_true.1 hr2.2.2 l hl
    rw [Bool.and_eq_true] at this
    exact ⟨by have := of_decide_eq_true this.1; omega, fun x hx => List.all_eq_true.1 this.2 x hx⟩
  · rintro r h2 ⟨⟨c, rfl, hcc⟩, hG2⟩
    simp (disch := omega) only [f37_rs, w_ret, seqK_n, retK_r, x_nil, x_as, kx, ev_t, ev_c, getV_some, putD_some, oGet_s, readRs_nil, readRs_t, retV_2, Option.some.injEq, exists_eq_left', getK_set, Nat.reduceEqDiff, ↓reduceIte]
    exact ⟨⟨c, rfl, hcc⟩, hG1.trans (hG2.low hG1.nx)⟩
end
end Go.Ev
namespace Go.Ev
open Go Go.RowKit
noncomputable def f11_r0 : List EOper := [⟨(some (K.ofNat 4)), none, .as (.c (.b false))⟩]
noncomputable def f11_r1 : List EOper := [⟨(some (K.ofNat 27)), none, .mv (.t (K.ofNat 0))⟩, ⟨(some (K.ofNat 28)), none, .mv (.t (K.ofNat 1))⟩, ⟨(some (K.ofNat 29)), none, .call (.c (.fn (K.ofNat 28) [])) [(.t (K.ofNat 27)), (.t (K.ofNat 28)), (.c (.i .i64 (.ofNat 10)))]⟩, ⟨(some (K.ofNat 26)), none, .mv (.t (K.ofNat 29))⟩, ⟨(some (K.ofNat 30)), none, .ext (.t (K.ofNat 26)) 0⟩, ⟨(some (K.ofNat 31)), none, .ext (.t (K.ofNat 26)) 1⟩, ⟨(some (K.ofNat 5)), none, .as (.t (K.ofNat 30))⟩, ⟨(some (K.ofNat 6)), none, .as (.t (K.ofNat 31))⟩]
noncomputable def f11_r2 : List EOper := [⟨(some (K.ofNat 33)), none, .mv (.t (K.ofNat 5))⟩, ⟨(some (K.ofNat 34)), none, .mv (.t (K.ofNat 6))⟩, ⟨(some (K.ofNat 35)), none, .call (.c (.fn (K.ofNat 24) [])) [(.t (K.ofNat 33)), (.t (K.ofNat 34))]⟩, ⟨(some (K.ofNat 32)), none, .mv (.t (K.ofNat 35))⟩, ⟨(some (K.ofNat 36)), none, .ext (.t (K.ofNat 32)) 0⟩, ⟨(some (K.ofNat 37)), none, .ext (.t (K.ofNat 32)) 1⟩, ⟨(some (K.ofNat 38)), none, .ext (.t (K.ofNat 32)) 2⟩, ⟨(some (K.ofNat 7)), none, .as (.t (K.ofNat 36))⟩, ⟨(some (K.ofNat 8)), none, .as (.t (K.ofNat 37))⟩, ⟨(some (K.ofNat 9)), none, .as (.t (K.ofNat 38))⟩]
noncomputable def f11_r3 : List EOper := [⟨(some (K.ofNat 39)), none, .mv (.t (K.ofNat 9))⟩, ⟨(some (K.ofNat 40)), none, .bin .neq (.t (K.ofNat 39)) (.c (.i .i64 (.ofNat 0)))⟩]
noncomputable def f11_r4 : List EOper := [⟨(some (K.ofNat 4)), none, .as (.c (.b false))⟩]
noncomputable def f11_r5 : List EOper := [⟨(some (K.ofNat 41)), none, .mv (.t (K.ofNat 8))⟩, ⟨(some (K.ofNat 42)), none, .not (.t (K.ofNat 41))⟩]
noncomputable def f11_r6 : List EOper := [⟨(some (K.ofNat 43)), none, .call (.c (.fn (K.ofNat 23) [])) []⟩, ⟨(some (K.ofNat 4)), none, .as (.t (K.ofNat 43))⟩]
noncomputable def f11_r7 : List EOper := [⟨(some (K.ofNat 45)), none, .mv (.t (K.ofNat 5))⟩, ⟨(some (K.ofNat 46)), none, .mv (.t (K.ofNat 6))⟩, ⟨(some (K.ofNat 47)), none, .mv (.t (K.ofNat 7))⟩, ⟨(some (K.ofNat 48)), none, .call (.c (.fn (K.ofNat 21) [])) [(.t (K.ofNat 45)), (.t (K.ofNat 46)), (.t (K.ofNat 47))]⟩, ⟨(some (K.ofNat 44)), none, .mv (.t (K.ofNat 48))⟩, ⟨(some (K.ofNat 49)), none, .ext (.t (K.ofNat 44)) 0⟩, ⟨(some (K.ofNat 50)), none, .ext (.t (K.ofNat 44)) 1⟩, ⟨(some (K.ofNat 10)), none, .as (.t (K.ofNat 49))⟩, ⟨(some (K.ofNat 11)), none, .as (.t (K.ofNat 50))⟩]
noncomputable def f11_r8 : List EOper := [⟨(some (K.ofNat 52)), none, .mv (.t (K.ofNat 6))⟩, ⟨(some (K.ofNat 53)), none, .len (.t (K.ofNat 52))⟩, ⟨(some (K.ofNat 54)), none, .bin .mul (.c (.i .i64 (.ofNat 2))) (.t (K.ofNat 53))⟩, ⟨(some (K.ofNat 55)), none, .bin .add (.t (K.ofNat 54)) (.c (.i .i64 (.ofNat 1)))⟩, ⟨(some (K.ofNat 56)), none, .mv (.t (K.ofNat 10))⟩, ⟨(some (K.ofNat 57)), none, .call (.c (.fn (K.ofNat 37) [])) [(.t (K.ofNat 55)), (.t (K.ofNat 56))]⟩, ⟨(some (K.ofNat 51)), none, .mv (.t (K.ofNat 57))⟩, ⟨(some (K.ofNat 58)), none, .ext (.t (K.ofNat 51)) 0⟩, ⟨(some (K.ofNat 59)), none, .ext (.t (K.ofNat 51)) 1⟩, ⟨(some (K.ofNat 12)), none, .as (.t (K.ofNat 58))⟩, ⟨(some (K.ofNat 13)), none, .as (.t (K.ofNat 59))⟩]
noncomputable def f11_r9 : List EOper := [⟨(some (K.ofNat 61)), none, .mv (.t (K.ofNat 5))⟩, ⟨(some (K.ofNat 62)), none, .mv (.t (K.ofNat 6))⟩, ⟨(some (K.ofNat 63)), none, .mv (.t (K.ofNat 7))⟩, ⟨(some (K.ofNat 64)), none, .call (.c (.fn (K.ofNat 20) [])) [(.t (K.ofNat 61)), (.t (K.ofNat 62)), (.t (K.ofNat 63))]⟩, ⟨(some (K.ofNat 60)), none, .mv (.t (K.ofNat 64))⟩, ⟨(some (K.ofNat 65)), none, .ext (.t (K.ofNat 60)) 0⟩, ⟨(some (K.ofNat 66)), none, .ext (.t (K.ofNat 60)) 1⟩, ⟨(some (K.ofNat 14)), none, .as (.t (K.ofNat 65))⟩, ⟨(some (K.ofNat 15)), none, .as (.t (K.ofNat 66))⟩]
noncomputable def f11_r10 : List EOper := [⟨(some (K.ofNat 68)), none, .mv (.t (K.ofNat 5))⟩, ⟨(some (K.ofNat 69)), none, .mv (.t (K.ofNat 6))⟩, ⟨(some (K.ofNat 70)), none, .mv (.t (K.ofNat 14))⟩, ⟨(some (K.ofNat 71)), none, .call (.c (.fn (K.ofNat 18) [])) [(.t (K.ofNat 68)), (.t (K.ofNat 69)), (.t (K.ofNat 70))]⟩, ⟨(some (K.ofNat 67)), none, .mv (.t (K.ofNat 71))⟩, ⟨(some (K.ofNat 72)), none, .ext (.t (K.ofNat 67)) 0⟩, ⟨(some (K.ofNat 73)), none, .ext (.t (K.ofNat 67)) 1⟩, ⟨(some (K.ofNat 16)), none, .as (.t (K.ofNat 72))⟩, ⟨(some (K.ofNat 17)), none, .as (.t (K.ofNat 73))⟩]
noncomputable def f11_r11 : List EOper := [⟨(some (K.ofNat 75)), none, .mv (.t (K.ofNat 5))⟩, ⟨(some (K.ofNat 76)), none, .mv (.t (K.ofNat 6))⟩, ⟨(some (K.ofNat 77)), none, .mv (.t (K.ofNat 14))⟩, ⟨(some (K.ofNat 78)), none, .call (.c (.fn (K.ofNat 20) [])) [(.t (K.ofNat 75)), (.t (K.ofNat 76)), (.t (K.ofNat 77))]⟩, ⟨(some (K.ofNat 74)), none, .mv (.t (K.ofNat 78))⟩, ⟨(some (K.ofNat 79)), none, .ext (.t (K.ofNat 74)) 0⟩, ⟨(some (K.ofNat 80)), none, .ext (.t (K.ofNat 74)) 1⟩, ⟨(some (K.ofNat 18)), none, .as (.t (K.ofNat 79))⟩, ⟨(some (K.ofNat 19)), none, .as (.t (K.ofNat 80))⟩]
noncomputable def f11_r12 : List EOper := [⟨(some (K.ofNat 82)), none, .mv (.t (K.ofNat 5))⟩, ⟨(some (K.ofNat 83)), none, .mv (.t (K.ofNat 6))⟩, ⟨(some (K.ofNat 84)), none, .mv (.t (K.ofNat 7))⟩, ⟨(some (K.ofNat 85)), none, .call (.c (.fn (K.ofNat 19) [])) [(.t (K.ofNat 82)), (.t (K.ofNat 83)), (.t (K.ofNat 84))]⟩, ⟨(some (K.ofNat 81)), none, .mv (.t (K.ofNat 85))⟩, ⟨(some (K.ofNat 86)), none, .ext (.t (K.ofNat 81)) 0⟩, ⟨(some (K.ofNat 87)), none, .ext (.t (K.ofNat 81)) 1⟩, ⟨(some (K.ofNat 88)), none, .ext (.t (K.ofNat 81)) 2⟩, ⟨(some (K.ofNat 20)), none, .as (.t (K.ofNat 86))⟩, ⟨(some (K.ofNat 21)), none, .as (.t (K.ofNat 87))⟩, ⟨(some (K.ofNat 22)), none, .as (.t (K.ofNat 88))⟩]
noncomputable def f11_r13 : List EOper := [⟨(some (K.ofNat 90)), none, .mv (.t (K.ofNat 5))⟩, ⟨(some (K.ofNat 91)), none, .mv (.t (K.ofNat 6))⟩, ⟨(some (K.ofNat 92)), none, .mv (.t (K.ofNat 14))⟩, ⟨(some (K.ofNat 93)), none, .call (.c (.fn (K.ofNat 19) [])) [(.t (K.ofNat 90)), (.t (K.ofNat 91)), (.t (K.ofNat 92))]⟩, ⟨(some (K.ofNat 89)), none, .mv (.t (K.ofNat 93))⟩, ⟨(some (K.ofNat 94)), none, .ext (.t (K.ofNat 89)) 0⟩, ⟨(some (K.ofNat 95)), none, .ext (.t (K.ofNat 89)) 1⟩, ⟨(some (K.ofNat 96)), none, .ext (.t (K.ofNat 89)) 2⟩, ⟨(some (K.ofNat 23)), none, .as (.t (K.ofNat 94))⟩, ⟨(some (K.ofNat 24)), none, .as (.t (K.ofNat 95))⟩, ⟨(some (K.ofNat 25)), none, .as (.t (K.ofNat 96))⟩]
noncomputable def f11_r14 : List EOper := [⟨(some (K.ofNat 97)), none, .mv (.t (K.ofNat 11))⟩, ⟨(some (K.ofNat 98)), none, .bin .eql (.t (K.ofNat 97)) (.c (.i .i64 (.ofNat 0)))⟩, ⟨(some (K.ofNat 99)), none, .mv (.t (K.ofNat 98))⟩, ⟨(some (K.ofNat 100)), (some ((K.ofNat 99), true)), .mv (.t (K.ofNat 13))⟩, ⟨(some (K.ofNat 101)), (some ((K.ofNat 99), true)), .bin .eql (.t (K.ofNat 100)) (.c (.i .i64 (.ofNat 0)))⟩, ⟨(some (K.ofNat 102)), none, .pick (.t (K.ofNat 99)) (.t (K.ofNat 101)) (.c (.b false))⟩, ⟨(some (K.ofNat 103)), none, .mv (.t (K.ofNat 102))⟩, ⟨(some (K.ofNat 104)), (some ((K.ofNat 103), true)), .mv (.t (K.ofNat 15))⟩, ⟨(some (K.ofNat 105)), (some ((K.ofNat 103), true)), .bin .eql (.t (K.ofNat 104)) (.c (.i .i64 (.ofNat 0)))⟩, ⟨(some (K.ofNat 106)), none, .pick (.t (K.ofNat 103)) (.t (K.ofNat 105)) (.c (.b false))⟩, ⟨(some (K.ofNat 107)), none, .mv (.t (K.ofNat 106))⟩, ⟨(some (K.ofNat 108)), (some ((K.ofNat 107), true)), .mv (.t (K.ofNat 17))⟩, ⟨(some (K.ofNat 109)), (some ((K.ofNat 107), true)), .bin .eql (.t (K.ofNat 108)) (.c (.i .i64 (.ofNat 0)))⟩, ⟨(some (K.ofNat 110)), none, .pick (.t (K.ofNat 107)) (.t (K.ofNat 109)) (.c (.b false))⟩, ⟨(some (K.ofNat 111)), none, .mv (.t (K.ofNat 110))⟩, ⟨(some (K.ofNat 112)), (some ((K.ofNat 111), true)), .mv (.t (K.ofNat 19))⟩, ⟨(some (K.ofNat 113)), (some ((K.ofNat 111), true)), .bin .eql (.t (K.ofNat 112)) (.c (.i .i64 (.ofNat 0)))⟩, ⟨(some (K.ofNat 114)), none, .pick (.t (K.ofNat 111)) (.t (K.ofNat 113)) (.c (.b false))⟩, ⟨(some (K.ofNat 115)), none, .mv (.t (K.ofNat 114))⟩, ⟨(some (K.ofNat 116)), (some ((K.ofNat 115), true)), .mv (.t (K.ofNat 22))⟩, ⟨(some (K.ofNat 117)), (some ((K.ofNat 115), true)), .bin .eql (.t (K.ofNat 116)) (.c (.i .i64 (.ofNat 0)))⟩, ⟨(some (K.ofNat 118)), none, .pick (.t (K.ofNat 115)) (.t (K.ofNat 117)) (.c (.b false))⟩, ⟨(some (K.ofNat 119)), none, .mv (.t (K.ofNat 118))⟩, ⟨(some (K.ofNat 120)), (some ((K.ofNat 119), true)), .mv (.t (K.ofNat 25))⟩, ⟨(some (K.ofNat 121)), (some ((K.ofNat 119), true)), .bin .eql (.t (K.ofNat 120)) (.c (.i .i64 (.ofNat 0)))⟩, ⟨(some (K.ofNat 122)), none, .pick (.t (K.ofNat 119)) (.t (K.ofNat 121)) (.c (.b false))⟩, ⟨(some (K.ofNat 123)), none, .mv (.t (K.ofNat 122))⟩, ⟨(some (K.ofNat 124)), (some ((K.ofNat 123), true)), .mv (.t (K.ofNat 12))⟩, ⟨(some (K.ofNat 125)), none, .pick (.t (K.ofNat 123)) (.t (K.ofNat 124)) (.c (.b false))⟩, ⟨(some (K.ofNat 126)), none, .mv (.t (K.ofNat 125))⟩, ⟨(some (K.ofNat 127)), (some ((K.ofNat 126), true)), .mv (.t (K.ofNat 16))⟩, ⟨(some (K.ofNat 128)), none, .pick (.t (K.ofNat 126)) (.t (K.ofNat 127)) (.c (.b false))⟩, ⟨(some (K.ofNat 129)), none, .mv (.t (K.ofNat 128))⟩, ⟨(some (K.ofNat 130)), (some ((K.ofNat 129), true)), .mv (.t (K.ofNat 18))⟩, ⟨(some (K.ofNat 131)), (some ((K.ofNat 129), true)), .mv (.t (K.ofNat 7))⟩, ⟨(some (K.ofNat 132)), (some ((K.ofNat 129), true)), .call (.c (.fn (K.ofNat 30) [])) [(.t (K.ofNat 130)), (.t (K.ofNat 131))]⟩, ⟨(some (K.ofNat 133)), none, .pick (.t (K.ofNat 129)) (.t (K.ofNat 132)) (.c (.b false))⟩, ⟨(some (K.ofNat 134)), none, .mv (.t (K.ofNat 133))⟩, ⟨(some (K.ofNat 135)), (some ((K.ofNat 134), true)), .mv (.t (K.ofNat 21))⟩, ⟨(some (K.ofNat 136)), (some ((K.ofNat 134), true)), .mv (.t (K.ofNat 24))⟩, ⟨(some (K.ofNat 137)), (some ((K.ofNat 134), true)), .eqk (.one none) false (.t (K.ofNat 135)) (.t (K.ofNat 136))⟩, ⟨(some (K.ofNat 138)), none, .pick (.t (K.ofNat 134)) (.t (K.ofNat 137)) (.c (.b false))⟩, ⟨(some (K.ofNat 139)), none, .mv (.t (K.ofNat 138))⟩, ⟨(some (K.ofNat 140)), (some ((K.ofNat 139), true)), .call (.c (.fn (K.ofNat 23) [])) []⟩, ⟨(some (K.ofNat 141)), none, .pick (.t (K.ofNat 139)) (.t (K.ofNat 140)) (.c (.b false))⟩, ⟨(some (K.ofNat 4)), none, .as (.t (K.ofNat 141))⟩]
noncomputable def f11_c : EC := (.seq (.reg f11_r0) (.seq (.reg f11_r1) (.seq (.reg f11_r2) (.seq (.seq (.reg f11_r3) (.cond (.t (K.ofNat 40)) (.seq (.reg f11_r4) .ret) .skip)) (.seq (.seq (.reg f11_r5) (.cond (.t (K.ofNat 42)) (.seq (.reg f11_r6) .ret) .skip)) (.seq (.reg f11_r7) (.seq (.reg f11_r8) (.seq (.reg f11_r9) (.seq (.reg f11_r10) (.seq (.reg f11_r11) (.seq (.reg f11_r12) (.seq (.reg f11_r13) (.seq (.reg f11_r14) .ret)))))))))))))
noncomputable def f11 : EF := ⟨142, [.tmp (K.ofNat 4)], f11_c, none⟩
theorem f11_rs : f11.rs = [.tmp (K.ofNat 4)] := of_eq_true (eq_self _)
structure CallsRo (fs : T EF) : Prop extends CallsL fs, CallsPs fs, CallsCp fs, CallsCv fs where
  c18 : fs.get (K.ofNat 18) = some f18
  c19 : fs.get (K.ofNat 19) = some f19
  c20 : fs.get (K.ofNat 20) = some f20
  c21 : fs.get (K.ofNat 21) = some f21
  c24 : fs.get (K.ofNat 24) = some f24
  c28 : fs.get (K.ofNat 28) = some f28
  c30 : fs.get (K.ofNat 30) = some f30
  aw : ∀ h P, CallP fs (.fn (K.ofNat 23) []) [] h P = P (.b true) h
section
variable {fs : T EF} {h : H}
set_option maxRecDepth 100000 in
theorem f11_ret {v : V} {l : List (Int × Int)} {n : Int} (k : CallsRo fs) (hv : Srp h v l) (hL : l.length ≤ 9223372036854775807) (hc : HC h) : Ret fs f11 [.i .i64 n, v] h fun r h' => r = .b true ∧ Grow h.nx.nat h h' := by
  have aw := k.aw
  have ne0 : decide ((0 : Int) ≠ 0) = false := rfl
  have eq0 : decide ((0 : Int) = 0) = true := rfl
  have kb : ∀ a b, keyEq (.one none) (.b a) (.b b) = some (a == b) := fun _ _ => rfl
  have bb : ∀ a : Bool, (a == a) = true := fun a => by cases a <;> rfl
  apply ret_of rfl
  show W fs none f11_c _ _ _
  unfold f11_c
  simp (disch := omega) only [f11_r0, f11_r1, w_reg, w_seq, seqK_n, x_nil, x_mv, x_as, x_call, ev_t, ev_c, evs_nil, evs_cons, getV_some, putD_some, frame_2, of10, getK_set, Nat.reduceEqDiff, ↓reduceIte]
  refine (callP_0 (ef := f28) k.c28 rfl (f28_ret (n := n) hv hc hL)).mono ?_
  rintro r h1 ⟨m, u, E, rfl, hu, hchk, hG1⟩
  obtain ⟨m', hm', hm2, hE⟩ := chkI_ok hchk
  obtain rfl : m = m' := by omega
  have hm7 : m ≤ 7 := hE.2.1
  have hE10 := hE.1
  have hc1 := hG1.hc hc
  simp (disch := omega) only [f11_r2, w_reg, w_seq, seqK_n, x_nil, x_mv, x_as, x_ext, x_call, kx, rvP_ok, okv_some, ev_t, ev_c, evs_nil, evs_cons, getV_some, putD_some, onTup_t, nth0, nth1, getK_set, Nat.reduceEqDiff, ↓reduceIte]
  refine (callP_0 (ef := f24) k.c24 rfl (f24_ok k.toCallsL hu hc1 hchk)).mono ?_
  rintro r h2 ⟨w, rfl, sw, _, hG2, _⟩
  have hc2 := hG2.hc hc1
  have hu2 := hu.grow hc1 hG2
  have hGa := hG1.trans (hG2.low hG1.nx)
  by_cases hem : labsL m E = []
  · have d : decide (labsL m E ≠ []) = false := by simp [hem]
    simp (disch := omega) only [f11_r3, f11_r5, f11_r6, f11_rs, w_skip, w_reg, w_seq, w_cond, w_ret, seqK_n, seqK_r, ckB_b, cbB_b, true_and, retK_r, x_nil, x_mv, x_as, x_bin, x_not, x_ext, x_call, kx, rvP_ok, okv_some, ev_t, ev_c, evs_nil, getV_some, putD_some, bin_neq, onB_b, onTup_t, oGet_s, nth0, nth1, nth2, readRs_nil, readRs_t, retV_1, of0, Option.some.injEq, exists_eq_left', getK_set, Nat.reduceEqDiff, ↓reduceIte, Bool.false_eq_true, Bool.not_false, ne0, d, Bool.not_false, aw, true_and]
    exact hGa
  · have d : decide (labsL m E ≠ []) = true := by simp [hem]
    have hM : (labsL m E).headD [] ∈ labsL m E := by
      cases hq : labsL m E with
      | nil => exact absurd hq hem
      | cons M l => simp
    generalize (labsL m E).headD [] = M at *
    obtain ⟨hgr, hlab, hlen, hnd, hpw⟩ := labsL_gr hE hM
    have hML : M.length ≤ 1000000 := by omega
    simp (disch := omega) only [f11_r3, f11_r5, f11_r7, w_skip, w_reg, w_seq, w_cond, seqK_n, ckB_b, cbB_b, true_and, x_nil, x_mv, x_as, x_bin, x_not, x_ext, x_call, kx, rvP_ok, okv_some, ev_t, ev_c, evs_nil, evs_cons, getV_some, putD_some, bin_neq, onB_b, onTup_t, nth0, nth1, nth2, of0, getK_set, Nat.reduceEqDiff, ↓reduceIte, Bool.false_eq_true, Bool.not_true, ne0, d, Bool.not_true]
    refine (callP_0 (ef := f21) k.c21 rfl (f21_ok k.toCallsCp hu2 sw.sr hc2 hML hchk hgr)).mono ?_
    rintro r h3 ⟨o, us, rfl, so, hG3⟩
    have hc3 := hG3.hc hc2
    have hu3 := hu2.grow hc2 hG3
    have sw3 := sw.grow hc2 hG3
    have hGb := hGa.trans (hG3.low hGa.nx)
    have es : (2 * (E.length : Int) + 1) = ((2 * E.length + 1 : Nat) : Int) := by omega
    have e2 : ((2 * E.length : Nat) : Int) = 2 * (E.length : Int) := by omega
    have hEpos : 1 ≤ E.length := by have := List.length_pos_iff.2 (chkI_ne hchk); omega
    have hval := cp_valid hE hlab hlen hnd
    have hrgt : rgtI ((2 * E.length + 1 : Nat) : Int) (cpAll E M) = 0 := by
      have hr : rgtB ((2 * E.length + 1 : Nat) : Int) (cpAll E M) = true := List.all_eq_true.2 fun l hl => by
        obtain ⟨q1, q2⟩ := hval l hl
        rw [decide_eq_true (by omega), Bool.true_and]
        exact List.all_eq_true.2 q2
      have hlc : (cpAll E M).length = 2 * E.length + 1 := by simp [cpAll]
      unfold rgtI
      rw [if_neg (by omega), hr]; rfl
    simp (disch := omega) only [f11_r8, w_reg, w_seq, seqK_n, x_nil, x_mv, x_as, x_bin, x_ext, x_call, x_len, kx, rvP_ok, okv_some, ev_t, ev_c, evs_nil, evs_cons, getV_some, putD_some, bin_add, bin_mul, onTup_t, nth0, nth1, of1, of2, getK_set, Nat.reduceEqDiff, ↓reduceIte, hu3.len, fw64, es]
    refine (callP_0 (ef := f37) k.c37 rfl (f37_ok k.toCallsCv so hc3 hrgt)).mono ?_
    rintro r h4 ⟨⟨cv, rfl, hcv⟩, hG4⟩
    have hcvt : cv = true := hcv.2 ⟨cp_nodup hE hlab hlen hnd hpw, by
      rw [cp_many]
      have : (2 * E.length + 1) * (2 * E.length + 1 - 1) = 2 * ((2 * E.length + 1) * E.length) := by
        rw [show 2 * E.length + 1 - 1 = 2 * E.length by omega, Nat.mul_left_comm]
      omega⟩
    subst hcvt
    have hc4 := hG4.hc hc3
    have hu4 := hu3.grow hc3 hG4
    have sw4 := sw3.grow hc3 hG4
    have hGc := hGb.trans (hG4.low hGb.nx)
    simp (disch := omega) only [f11_r9, w_reg, w_seq, seqK_n, x_nil, x_mv, x_as, x_ext, x_call, kx, rvP_ok, okv_some, ev_t, ev_c, evs_nil, evs_cons, getV_some, putD_some, onTup_t, nth0, nth1, getK_set, Nat.reduceEqDiff, ↓reduceIte]
    refine (callP_0 (ef := f20) k.c20 rfl (f20_ok k.toCallsIg hu4 sw4.sr hc4 hML hchk hgr)).mono ?_
    rintro r h5 ⟨t, rfl, st, _, hG5⟩
    have hc5 := hG5.hc hc4
    have hu5 := hu4.grow hc4 hG5
    have sw5 := sw4.grow hc4 hG5
    have hGd := hGc.trans (hG5.low hGc.nx)
    have htg := turn_gr hE hgr
    have hTL : (turnL E M).length ≤ 1000000 := by simp [turnL]; omega
    simp (disch := omega) only [f11_r10, w_reg, w_seq, seqK_n, x_nil, x_mv, x_as, x_ext, x_call, kx, rvP_ok, okv_some, ev_t, ev_c, evs_nil, evs_cons, getV_some, putD_some, onTup_t, nth0, nth1, getK_set, Nat.reduceEqDiff, ↓reduceIte]
    refine (callP_0 (ef := f18) k.c18 rfl (f18_ok k.toCallsIg hu5 st.sr hc5 hTL hchk)).mono ?_
    rintro r h6 ⟨rfl, hG6⟩
    have hc6 := hG6.hc hc5
    have hu6 := hu5.grow hc5 hG6
    have sw6 := sw5.grow hc5 hG6
    have st6 := st.grow hc5 hG6
    have hGe := hGd.trans (hG6.low hGd.nx)
    simp (disch := omega) only [f11_r11, w_reg, w_seq, seqK_n, x_nil, x_mv, x_as, x_ext, x_call, kx, rvP_ok, okv_some, ev_t, ev_c, evs_nil, evs_cons, getV_some, putD_some, onTup_t, nth0, nth1, getK_set, Nat.reduceEqDiff, ↓reduceIte]
    refine (callP_0 (ef := f20) k.c20 rfl (f20_ok k.toCallsIg hu6 st6.sr hc6 hTL hchk htg)).mono ?_
    rintro r h7 ⟨b, rfl, sb, _, hG7⟩
    rw [turn_back] at sb
    have hc7 := hG7.hc hc6
    have hu7 := hu6.grow hc6 hG7
    have sw7 := sw6.grow hc6 hG7
    have st7 := st6.grow hc6 hG7
    have hGf := hGe.trans (hG7.low hGe.nx)
    simp (disch := omega) only [f11_r12, w_reg, w_seq, seqK_n, x_nil, x_mv, x_as, x_ext, x_call, kx, rvP_ok, okv_some, ev_t, ev_c, evs_nil, evs_cons, getV_some, putD_some, onTup_t, nth0, nth1, getK_set, Nat.reduceEqDiff, ↓reduceIte]
    refine (callP_0 (ef := f19) k.c19 rfl (f19_ok k.toCallsPs hu7 sw7.sr hc7 hML hchk)).mono ?_
    rintro r h8 ⟨rfl, hG8⟩
    have hc8 := hG8.hc hc7
    have hu8 := hu7.grow hc7 hG8
    have st8 := st7.grow hc7 hG8
    have hGg := hGf.trans (hG8.low hGf.nx)
    simp (disch := omega) only [f11_r13, w_reg, w_seq, seqK_n, x_nil, x_mv, x_as, x_ext, x_call, kx, rvP_ok, okv_some, ev_t, ev_c, evs_nil, evs_cons, getV_some, putD_some, onTup_t, nth0, nth1, nth2, getK_set, Nat.reduceEqDiff, ↓reduceIte]
    refine (callP_0 (ef := f19) k.c19 rfl (f19_ok k.toCallsPs hu8 st8.sr hc8 hTL hchk)).mono ?_
    rintro r h9 ⟨rfl, hG9⟩
    have sb9 := (sb.grow hc7 hG8).grow hc8 hG9
    have sw9 := (sw7.grow hc7 hG8).grow hc8 hG9
    have hpp := turn_prt (M := M) hE hlen
    simp (maxSteps := 5000000) (disch := omega) only [f11_r14, w_reg, w_seq, seqK_n, okG_b, asG_t, true_and, x_nil, x_g, x_mv, x_as, x_pick, x_bin, x_ext, x_call, kx, rvP_ok, okv_some, ev_t, ev_c, evs_nil, evs_cons, getV_some, putD_some, bin_eql, pick_b, onTup_t, nth0, nth1, nth2, of0, getK_set, Nat.reduceEqDiff, ↓reduceIte, decide_eq_true_eq, htg]
    refine (callP_0 (ef := f30) k.c30 rfl (f30_same sb9.sr sw9.sr hML)).mono ?_
    rintro r h10 ⟨rfl, rfl⟩
    simp (maxSteps := 5000000) (disch := omega) only [f11_rs, w_ret, seqK_n, okG_b, asG_t, true_and, retK_r, x_nil, x_g, x_mv, x_as, x_pick, x_eqk, x_call, kx, rvP_ok, okv_some, ev_t, ev_c, evs_nil, getV_some, putD_some, pick_b, oGet_s, readRs_nil, readRs_t, retV_1, Option.some.injEq, exists_eq_left', getK_set, Nat.reduceEqDiff, ↓reduceIte, hgr, hpp, Bool.true_and, kb, bb, cond_false, aw, true_and]
    exact hGg.trans (hG9.low hGg.nx)
end
end Go.Ev
