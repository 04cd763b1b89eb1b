/-
  Orders: what look of findClash does: a search, the nearest first.
  Orders: findClash, Clash.
  Orders: checkArrows of one pair, Class.
  Orders: the law OrdersGallai.
-/
import Derived.Test.YtdmnejhjlmeodaaPg
namespace Go.Ev
open Go Go.RowKit
noncomputable def f88_r0 : List EOper := [⟨(some (K.ofNat 3)), none, .box 2 (.t (K.ofNat 0))⟩]
noncomputable def f88_r1 : List EOper := [⟨(some (K.ofNat 12)), none, .mkmap 76⟩, ⟨(some (K.ofNat 13)), none, .ldn 2 (.t (K.ofNat 3))⟩, ⟨(some (K.ofNat 14)), none, .ldn 2 (.t (K.ofNat 3))⟩, ⟨none, none, .mupd 76 (.many [(some .i64), (some .i64)]) (.t (K.ofNat 12)) (.t (K.ofNat 13)) (.t (K.ofNat 14))⟩, ⟨(some (K.ofNat 15)), none, .mv (.t (K.ofNat 12))⟩, ⟨(some (K.ofNat 4)), none, .alloc 1 [.mn]⟩, ⟨none, none, .st 1 (.t (K.ofNat 4)) (.t (K.ofNat 15))⟩]
noncomputable def f88_r2 : List EOper := [⟨(some (K.ofNat 16)), none, .ldn 2 (.t (K.ofNat 3))⟩, ⟨(some (K.ofNat 17)), none, .bslice 1 2 [(.i .i64 (.ofNat 0)), (.i .i64 (.ofNat 0))] [(0, 2, (.t (K.ofNat 16)))]⟩, ⟨(some (K.ofNat 5)), none, .alloc 1 [.sn]⟩, ⟨none, none, .st 1 (.t (K.ofNat 5)) (.t (K.ofNat 17))⟩]
noncomputable def f88_r3 : List EOper := [⟨(some (K.ofNat 6)), none, .alloc 1 [(.i .i64 (.ofNat 0))]⟩, ⟨none, none, .st 1 (.t (K.ofNat 6)) (.c (.i .i64 (.ofNat 0)))⟩]
noncomputable def f88_r4 : List EOper := [⟨(some (K.ofNat 18)), none, .ld (.t (K.ofNat 6))⟩, ⟨(some (K.ofNat 19)), none, .ld (.t (K.ofNat 5))⟩, ⟨(some (K.ofNat 20)), none, .len (.t (K.ofNat 19))⟩, ⟨(some (K.ofNat 21)), none, .bin .lss (.t (K.ofNat 18)) (.t (K.ofNat 20))⟩]
noncomputable def f88_r5 : List Stage := [⟨[⟨(some (K.ofNat 24)), none, .ldn 49 (.t (K.ofNat 1))⟩, ⟨(some (K.ofNat 25)), none, .ld (.t (K.ofNat 5))⟩, ⟨(some (K.ofNat 26)), none, .ld (.t (K.ofNat 6))⟩, ⟨(some (K.ofNat 27)), none, .iads 2 (.t (K.ofNat 25)) (.t (K.ofNat 26))⟩, ⟨(some (K.ofNat 28)), none, .ldn 2 (.t (K.ofNat 27))⟩], [], (some ⟨(some (K.ofNat 29)), none, .call (.c (.fn (K.ofNat 86) [])) [(.t (K.ofNat 24)), (.t (K.ofNat 28))]⟩), []⟩, ⟨[], [], none, []⟩]
noncomputable def f88_r6 : List EOper := [⟨(some (K.ofNat 7)), none, .alloc 2 [(.i .i64 (.ofNat 0)), (.i .i64 (.ofNat 0))]⟩, ⟨none, none, .st 2 (.t (K.ofNat 7)) (.t (K.ofNat 30))⟩]
noncomputable def f88_a0 : EC := (.reg f88_r6)
noncomputable def f88_r7 : List EOper := [⟨(some (K.ofNat 32)), none, .ld (.t (K.ofNat 4))⟩, ⟨(some (K.ofNat 33)), none, .ldn 2 (.t (K.ofNat 7))⟩, ⟨(some (K.ofNat 34)), none, .look 76 (.many [(some .i64), (some .i64)]) (.agg [(.i .i64 (.ofNat 0)), (.i .i64 (.ofNat 0))]) (.t (K.ofNat 32)) (.t (K.ofNat 33)) true⟩, ⟨(some (K.ofNat 31)), none, .mv (.t (K.ofNat 34))⟩, ⟨(some (K.ofNat 35)), none, .ext (.t (K.ofNat 31)) 0⟩, ⟨(some (K.ofNat 36)), none, .ext (.t (K.ofNat 31)) 1⟩, ⟨(some (K.ofNat 8)), none, .alloc 2 [(.i .i64 (.ofNat 0)), (.i .i64 (.ofNat 0))]⟩, ⟨none, none, .st 2 (.t (K.ofNat 8)) (.t (K.ofNat 35))⟩, ⟨(some (K.ofNat 9)), none, .as (.t (K.ofNat 36))⟩]
noncomputable def f88_r8 : List EOper := [⟨(some (K.ofNat 37)), none, .mv (.t (K.ofNat 9))⟩]
noncomputable def f88_r9 : List Stage := [⟨[⟨(some (K.ofNat 38)), none, .ld (.t (K.ofNat 4))⟩, ⟨(some (K.ofNat 39)), none, .ldn 2 (.t (K.ofNat 7))⟩, ⟨(some (K.ofNat 40)), none, .ld (.t (K.ofNat 5))⟩, ⟨(some (K.ofNat 41)), none, .ld (.t (K.ofNat 6))⟩, ⟨(some (K.ofNat 42)), none, .iads 2 (.t (K.ofNat 40)) (.t (K.ofNat 41))⟩, ⟨(some (K.ofNat 43)), none, .ldn 2 (.t (K.ofNat 42))⟩], [], (some ⟨none, none, .mupd 76 (.many [(some .i64), (some .i64)]) (.t (K.ofNat 38)) (.t (K.ofNat 39)) (.t (K.ofNat 43))⟩), []⟩, ⟨[], [], none, []⟩]
noncomputable def f88_r10 : List EOper := [⟨(some (K.ofNat 44)), none, .ld (.t (K.ofNat 5))⟩, ⟨(some (K.ofNat 45)), none, .ldn 2 (.t (K.ofNat 7))⟩, ⟨(some (K.ofNat 46)), none, .bslice 1 2 [(.i .i64 (.ofNat 0)), (.i .i64 (.ofNat 0))] [(0, 2, (.t (K.ofNat 45)))]⟩, ⟨(some (K.ofNat 47)), none, .app 2 (.t (K.ofNat 44)) (.t (K.ofNat 46))⟩, ⟨none, none, .st 1 (.t (K.ofNat 5)) (.t (K.ofNat 47))⟩]
noncomputable def f88_r11 : List Stage := [⟨[⟨(some (K.ofNat 48)), none, .ldn 2 (.t (K.ofNat 7))⟩, ⟨(some (K.ofNat 49)), none, .ldn 2 (.t (K.ofNat 3))⟩], [], (some ⟨(some (K.ofNat 50)), none, .call (.c (.fn (K.ofNat 77) [])) [(.t (K.ofNat 49))]⟩), []⟩, ⟨[⟨(some (K.ofNat 51)), none, .eqk (.many [(some .i64), (some .i64)]) false (.t (K.ofNat 48)) (.t (K.ofNat 50))⟩], [⟨(some (K.ofNat 48)), none, .ldn 2 (.t (K.ofNat 7))⟩], none, []⟩]
noncomputable def f88_b0 : EC := (.block 3 (.seq (.seq (.reg f88_r7) (.seq (.reg f88_r8) (.cond (.t (K.ofNat 37)) (.exit 3) .skip))) (.seq (.draw f88_r9) (.seq (.reg f88_r10) (.seq (.draw f88_r11) (.cond (.t (K.ofNat 51)) (.exit 0) .skip))))))
noncomputable def f88_r12 : List EOper := [⟨(some (K.ofNat 52)), none, .ld (.t (K.ofNat 6))⟩]
noncomputable def f88_r13 : List EOper := [⟨(some (K.ofNat 6)), none, .alloc 1 [(.i .i64 (.ofNat 0))]⟩, ⟨none, none, .st 1 (.t (K.ofNat 6)) (.t (K.ofNat 52))⟩]
noncomputable def f88_r14 : List EOper := [⟨(some (K.ofNat 22)), none, .ld (.t (K.ofNat 6))⟩, ⟨(some (K.ofNat 23)), none, .bin .add (.t (K.ofNat 22)) (.c (.i .i64 (.ofNat 1)))⟩, ⟨none, none, .st 1 (.t (K.ofNat 6)) (.t (K.ofNat 23))⟩]
noncomputable def f88_l0 : EC := (.seq (.seq (.reg f88_r4) (.cond (.t (K.ofNat 21)) .skip (.exit 0))) (.seq (.block 1 (.seq (.draw f88_r5) (.block 2 (.rangeF (.t (K.ofNat 29)) [(K.ofNat 30)] f88_a0 f88_b0)))) (.seq (.seq (.reg f88_r12) (.reg f88_r13)) (.reg f88_r14))))
noncomputable def f88_r15 : List Stage := [⟨[⟨(some (K.ofNat 54)), none, .ldn 2 (.t (K.ofNat 3))⟩, ⟨(some (K.ofNat 56)), none, .ld (.t (K.ofNat 4))⟩], [], (some ⟨(some (K.ofNat 55)), none, .call (.c (.fn (K.ofNat 77) [])) [(.t (K.ofNat 54))]⟩), []⟩, ⟨[], [⟨(some (K.ofNat 56)), none, .ld (.t (K.ofNat 4))⟩], (some ⟨(some (K.ofNat 57)), none, .call (.c (.fn (K.ofNat 89) [])) [(.t (K.ofNat 55)), (.t (K.ofNat 56))]⟩), []⟩, ⟨[⟨(some (K.ofNat 53)), none, .mv (.t (K.ofNat 57))⟩, ⟨(some (K.ofNat 58)), none, .ext (.t (K.ofNat 53)) 0⟩, ⟨(some (K.ofNat 59)), none, .ext (.t (K.ofNat 53)) 1⟩], [], (some ⟨(some (K.ofNat 10)), none, .as (.t (K.ofNat 58))⟩), []⟩, ⟨[], [⟨(some (K.ofNat 59)), none, .ext (.t (K.ofNat 53)) 1⟩], (some ⟨(some (K.ofNat 11)), none, .as (.t (K.ofNat 59))⟩), []⟩, ⟨[], [], none, []⟩]
noncomputable def f88_r16 : List EOper := [⟨(some (K.ofNat 60)), none, .mv (.t (K.ofNat 11))⟩, ⟨(some (K.ofNat 61)), none, .mv (.t (K.ofNat 60))⟩, ⟨(some (K.ofNat 62)), (some ((K.ofNat 61), true)), .ld (.t (K.ofNat 2))⟩, ⟨(some (K.ofNat 63)), (some ((K.ofNat 61), true)), .isnil false (.t (K.ofNat 62))⟩, ⟨(some (K.ofNat 64)), (some ((K.ofNat 61), true)), .mv (.t (K.ofNat 63))⟩, ⟨(some (K.ofNat 65)), (some ((K.ofNat 64), false)), .mv (.t (K.ofNat 10))⟩, ⟨(some (K.ofNat 66)), (some ((K.ofNat 64), false)), .len (.t (K.ofNat 65))⟩, ⟨(some (K.ofNat 67)), (some ((K.ofNat 64), false)), .ld (.t (K.ofNat 2))⟩, ⟨(some (K.ofNat 68)), (some ((K.ofNat 64), false)), .len (.t (K.ofNat 67))⟩, ⟨(some (K.ofNat 69)), (some ((K.ofNat 64), false)), .bin .lss (.t (K.ofNat 66)) (.t (K.ofNat 68))⟩, ⟨(some (K.ofNat 70)), (some ((K.ofNat 61), true)), .pick (.t (K.ofNat 64)) (.c (.b true)) (.t (K.ofNat 69))⟩, ⟨(some (K.ofNat 71)), none, .pick (.t (K.ofNat 61)) (.t (K.ofNat 70)) (.c (.b false))⟩]
noncomputable def f88_r17 : List EOper := [⟨(some (K.ofNat 72)), none, .mv (.t (K.ofNat 10))⟩, ⟨none, none, .st 1 (.t (K.ofNat 2)) (.t (K.ofNat 72))⟩]
noncomputable def f88_c : EC := (.seq (.reg f88_r0) (.scope (.seq (.reg f88_r1) (.seq (.reg f88_r2) (.seq .skip (.seq (.seq (.reg f88_r3) (.block 0 (.loop f88_l0))) (.seq (.draw f88_r15) (.seq (.reg f88_r16) (.cond (.t (K.ofNat 71)) (.reg f88_r17) .skip)))))))))
noncomputable def f88 : EF := ⟨73, [], f88_c, none⟩
theorem f88_rs : f88.rs = [] := of_eq_true (eq_self _)
section
variable {fs : T EF} {h h' : H}
theorem cells1_m {id : K} : cellsN 1 (.m id) = some [.m id] := rfl
/-- The cell of the fewest arrows: whether there are some. -/
def Fw (u : V) (p : Prop) : Prop := (u = .sn ∧ ¬ p) ∨ (p ∧ ∃ id off n, u = .sl id off n 2)
def keys (M : List ((Nat × Nat) × (Nat × Nat))) : List (Nat × Nat) := M.map Prod.fst
def keyI (M : List ((Nat × Nat) × (Nat × Nat))) : List (Int × Int) := (keys M).map toI
theorem keyI_len {M : List ((Nat × Nat) × (Nat × Nat))} : (keyI M).length = M.length := by unfold keyI keys; rw [List.length_map, List.length_map]
theorem keyI_at {M : List ((Nat × Nat) × (Nat × Nat))} {i : Nat} {x w : Nat × Nat} (h : M[i]? = some (x, w)) : (keyI M)[i]? = some (toI x) := by
  unfold keyI keys
  rw [List.getElem?_map, List.getElem?_map, h]; rfl
/-- A queue's block is an old one, or a new one. -/
def Frm (u : V) (b : Nat) (u' : V) : Prop := ∀ id off n sz, u' = .sl id off n sz → (∃ off n sz, u = .sl id off n sz) ∨ b < id.nat
theorem Frm.notIn {u u' : V} {b : Nat} {id : K} (hf : Frm u b u') (h1 : NotIn id u) (h2 : id.nat ≤ b) : NotIn id u' := fun off n sz e => by
  rcases hf id off n sz e with ⟨_, _, _, h⟩ | h
  · exact h1 _ _ _ h
  · omega
def Clo (L : List Bool) (M : List ((Nat × Nat) × (Nat × Nat))) (i : Nat) : Prop := ∀ (j : Nat) (e : (Nat × Nat) × (Nat × Nat)), j < i → M[j]? = some e → ∀ p ∈ fcY L e.1.1 e.1.2, p ∈ keys M
structure QI (L : List Bool) (s t : Nat × Nat) (id3 idm idmv : K) (h0 : H) (M : List ((Nat × Nat) × (Nat × Nat))) (h1 : H) : Prop where
  bf : Bf L s M
  gr : Grow h0.nx.nat h0 h1
  c3 : h1.get id3 = .cells 2 [.i .i64 (s.1 : Int), .i .i64 (s.2 : Int)]
  cm : h1.get idmv = .cells 1 [.m idm]
  mp : MapA h1 idm 76 M
structure QQ (t : Nat × Nat) (b : Nat) (idq : K) (M : List ((Nat × Nat) × (Nat × Nat))) (u : V) (h1 : H) : Prop where
  no : t ∉ keys M
  cq : h1.get idq = .cells 1 [u]
  sk : Sk 2 qE h1 u (keyI M)
  own : Own b u
  nq : NotIn idq u
def f88_I (L : List Bool) (s t : Nat × Nat) (idr idf id3 idm idmv idq : K) (b : Nat) (h0 : H) (z : Nat × List ((Nat × Nat) × (Nat × Nat))) (fr : Fr) (h1 : H) : Prop :=
  z.1 ≤ z.2.length ∧ QI L s t id3 idm idmv h0 z.2 h1 ∧ HC h1 ∧ Clo L z.2 z.1 ∧ ∃ idi u, QQ t b idq z.2 u h1 ∧ NotIn idi u ∧ idq.nat < idi.nat ∧ idi.nat < h1.nx.nat ∧ h1.get idi = .cells 1 [.i .i64 (z.1 : Int)] ∧
  fr.get (K.ofNat 1) = some (.p idr 0) ∧ fr.get (K.ofNat 2) = some (.p idf 0) ∧ fr.get (K.ofNat 3) = some (.p id3 0) ∧ fr.get (K.ofNat 4) = some (.p idmv 0) ∧ fr.get (K.ofNat 5) = some (.p idq 0) ∧ fr.get (K.ofNat 6) = some (.p idi 0)
def f88_E (L : List Bool) (s t : Nat × Nat) (idr idf id3 idm idmv : K) (h0 : H) (fr : Fr) (h1 : H) : Prop :=
  ∃ M, QI L s t id3 idm idmv h0 M h1 ∧ HC h1 ∧ (t ∈ keys M ↔ Rch (Er L) s.1 s.2 t.1 t.2) ∧ fr.get (K.ofNat 1) = some (.p idr 0) ∧ fr.get (K.ofNat 2) = some (.p idf 0) ∧ fr.get (K.ofNat 3) = some (.p id3 0) ∧ fr.get (K.ofNat 4) = some (.p idmv 0)
theorem beq_aV {x : Nat × Nat} : beqV (aV x) (aV x) = true := by
  exact beq_2
def swN (x : Nat × Nat) : Nat × Nat := (x.2, x.1)
theorem f88_ret {L : List Bool} {s : Nat × Nat} {idr idf : K} {u0 : V} {p0 : Prop} (k : Nat1 fs) (h86 : fs.get (K.ofNat 86) = some f86) (h102 : fs.get (K.ofNat 102) = some f102) (h103 : fs.get (K.ofNat 103) = some f103) (h89 : fs.get (K.ofNat 89) = some f89) (hL : L.length = 49) (hs : in7 s) (hst : s ≠ swN s)
    (er : h.get idr = rC L) (ef : h.get idf = .cells 1 [u0]) (hu : Fw u0 p0) (_hrf : idr ≠ idf) (hc : HC h) : Ret fs f88 [aV s, .p idr 0, .p idf 0] h fun r h' => r = .tup [] ∧ ∃ u', h'.get idf = .cells 1 [u'] ∧ Fw u' (p0 ∨ Rch (Er L) s.1 s.2 s.2 s.1) ∧ Kp idf h h' := by
  apply ret_of rfl
  show W fs none f88_c _ _ _
  unfold f88_c
  have lr : idr.nat < h.nx.nat := hc.cells er
  have lf : idf.nat < h.nx.nat := hc.cells ef
  have c2 : cellsN 2 (aV s) = some [.i .i64 (s.1 : Int), .i .i64 (s.2 : Int)] := rfl
  have n1 := nx_new h (.cells 2 [.i .i64 (s.1 : Int), .i .i64 (s.2 : Int)])
  have gr1 : Grow h.nx.nat h (h.new (.cells 2 [.i .i64 (s.1 : Int), .i .i64 (s.2 : Int)])) := Grow.new (Nat.le_refl _) _
  have e1 : (h.new (.cells 2 [.i .i64 (s.1 : Int), .i .i64 (s.2 : Int)])).get h.nx = .cells 2 [.i .i64 (s.1 : Int), .i .i64 (s.2 : Int)] := get_new_same
  simp (disch := omega) only [f88_r0, w_reg, w_seq, w_scope, seqK_n, x_nil, x_box, kx, rvP_ok, ev_t, getV_some, putD_some, oGet_s, frame_3, getK_set, Nat.reduceEqDiff, ↓reduceIte, c2]
  generalize h.new (.cells 2 [.i .i64 (s.1 : Int), .i .i64 (s.2 : Int)]) = h1 at *
  have hav : V.agg [.i .i64 (s.1 : Int), .i .i64 (s.2 : Int)] = aV s := rfl
  have n2 := nx_new h1 (.map 76 [])
  have gr2 : Grow h1.nx.nat h1 (h1.new (.map 76 [])) := Grow.new (Nat.le_refl _) _
  have e2 : MapA (h1.new (.map 76 [])) h1.nx 76 [] := get_new_same
  have l2 := ldn2 ((gr2.old h.nx (by omega)).trans e1)
  have p2 := e2.put (x := s) (v := s) (by simp) hs (by simp)
  have g2 : Grow h1.nx.nat h1 ((h1.new (.map 76 [])).put h1.nx (.map 76 (entA ([] ++ [(s, s)])))) := gr2.trans (Grow.put (Nat.le_refl _) (by omega) _)
  have m2 : MapA ((h1.new (.map 76 [])).put h1.nx (.map 76 (entA ([] ++ [(s, s)])))) h1.nx 76 [(s, s)] := get_put_same
  have n2' : ((h1.new (.map 76 [])).put h1.nx (.map 76 (entA ([] ++ [(s, s)])))).nx.nat = h1.nx.nat + 1 := n2
  simp (disch := omega) only [f88_r1, x_mv, x_alloc, x_ldn, x_st, x_mkmap, x_mupd, kx, rvP_ok, ev_t, getV_some, putD_some, putD_none, getK_set, Nat.reduceEqDiff, ↓reduceIte, l2, hav, p2]
  generalize (h1.new (.map 76 [])).put h1.nx (.map 76 (entA ([] ++ [(s, s)]))) = h2 at *
  have n3 := nx_new h2 (.cells 1 [.mn])
  have s3 : storeV (h2.new (.cells 1 [.mn])) 1 (.p h2.nx 0) (.m h1.nx) = .ok undefV ((h2.new (.cells 1 [.mn])).put h2.nx (.cells 1 [.m h1.nx])) := st1 get_new_same cells1_m
  have g3 : Grow h2.nx.nat h2 ((h2.new (.cells 1 [.mn])).put h2.nx (.cells 1 [.m h1.nx])) := (Grow.new (Nat.le_refl _) _).trans (Grow.put (Nat.le_refl _) (by omega) _)
  have e3 : ((h2.new (.cells 1 [.mn])).put h2.nx (.cells 1 [.m h1.nx])).get h2.nx = .cells 1 [.m h1.nx] := get_put_same
  have n3' : ((h2.new (.cells 1 [.mn])).put h2.nx (.cells 1 [.m h1.nx])).nx.nat = h2.nx.nat + 1 := n3
  simp (disch := omega) only [w_reg, w_seq, seqK_n, x_nil, kx, rvP_ok, putD_none, s3]
  generalize (h2.new (.cells 1 [.mn])).put h2.nx (.cells 1 [.m h1.nx]) = h3 at *
  have hc1 := gr1.hc hc
  have hc2 := g2.hc hc1
  have hc3 := g3.hc hc2
  have cp : cellsN 2 (aV s) = some [.i .i64 (s.1 : Int), .i .i64 (s.2 : Int)] := rfl
  have sp : setMany [V.i .i64 0, V.i .i64 0] 0 [V.i .i64 (s.1 : Int), V.i .i64 (s.2 : Int)] = [V.i .i64 (s.1 : Int), V.i .i64 (s.2 : Int)] := rfl
  have a1 := (g3.old h.nx (by omega)).trans ((g2.old h.nx (by omega)).trans e1)
  have a2 : MapA h3 h1.nx 76 [(s, s)] := (m2.grow hc2 g3)
  have l3 := ldn2 a1
  have n4 := nx_new h3 (.cells (1 * 2) [.i .i64 (s.1 : Int), .i .i64 (s.2 : Int)])
  have g4 : Grow h3.nx.nat h3 (h3.new (.cells (1 * 2) [.i .i64 (s.1 : Int), .i .i64 (s.2 : Int)])) := Grow.new (Nat.le_refl _) _
  have k4 : Sk 2 qE (h3.new (.cells (1 * 2) [.i .i64 (s.1 : Int), .i .i64 (s.2 : Int)])) (.sl h3.nx 0 1 2) [toI s] := Sk.lit2o
  simp (disch := omega) only [f88_r2, x_alloc, x_bslice, x_ldn, x_st, kx, rvP_ok, ev_t, getV_some, putD_some, oGet_s, of0, getK_set, Nat.reduceEqDiff, ↓reduceIte, fill_0, l3, hav, fill_c, cp, sp]
  generalize h3.new (.cells (1 * 2) [.i .i64 (s.1 : Int), .i .i64 (s.2 : Int)]) = h4 at *
  have hc4 := g4.hc hc3
  have n5 := nx_new h4 (.cells 1 [.sn])
  have s5 : storeV (h4.new (.cells 1 [.sn])) 1 (.p h4.nx 0) (.sl h3.nx 0 1 2) = .ok undefV ((h4.new (.cells 1 [.sn])).put h4.nx (.cells 1 [.sl h3.nx 0 1 2])) := st1 get_new_same rfl
  have g5 : Grow h4.nx.nat h4 ((h4.new (.cells 1 [.sn])).put h4.nx (.cells 1 [.sl h3.nx 0 1 2])) := (Grow.new (Nat.le_refl _) _).trans (Grow.put (Nat.le_refl _) (by omega) _)
  have e5 : ((h4.new (.cells 1 [.sn])).put h4.nx (.cells 1 [.sl h3.nx 0 1 2])).get h4.nx = .cells 1 [.sl h3.nx 0 1 2] := get_put_same
  have n5' : ((h4.new (.cells 1 [.sn])).put h4.nx (.cells 1 [.sl h3.nx 0 1 2])).nx.nat = h4.nx.nat + 1 := n5
  simp (disch := omega) only [w_skip, w_reg, w_seq, seqK_n, x_nil, kx, rvP_ok, putD_none, s5]
  generalize (h4.new (.cells 1 [.sn])).put h4.nx (.cells 1 [.sl h3.nx 0 1 2]) = h5 at *
  have hc5 := g5.hc hc4
  have n6 := nx_new h5 (.cells 1 [.i .i64 0])
  have s6 : storeV (h5.new (.cells 1 [.i .i64 0])) 1 (.p h5.nx 0) (.i .i64 0) = .ok undefV ((h5.new (.cells 1 [.i .i64 0])).put h5.nx (.cells 1 [.i .i64 0])) := st1 get_new_same rfl
  have g6 : Grow h5.nx.nat h5 ((h5.new (.cells 1 [.i .i64 0])).put h5.nx (.cells 1 [.i .i64 0])) := (Grow.new (Nat.le_refl _) _).trans (Grow.put (Nat.le_refl _) (by omega) _)
  have e6 : ((h5.new (.cells 1 [.i .i64 0])).put h5.nx (.cells 1 [.i .i64 0])).get h5.nx = .cells 1 [.i .i64 0] := get_put_same
  have n6' : ((h5.new (.cells 1 [.i .i64 0])).put h5.nx (.cells 1 [.i .i64 0])).nx.nat = h5.nx.nat + 1 := n6
  simp (disch := omega) only [f88_r3, w_block, seqK_n, x_nil, x_alloc, x_st, kx, rvP_ok, ev_t, ev_c, getV_some, putD_some, putD_none, of0, getK_set, ↓reduceIte, s6]
  generalize (h5.new (.cells 1 [.i .i64 0])).put h5.nx (.cells 1 [.i .i64 0]) = h6 at *
  have hc6 := g6.hc hc5
  have gA : Grow h.nx.nat h h6 := gr1.trans ((g2.low (by omega)).trans ((g3.low (by omega)).trans ((g4.low (by omega)).trans ((g5.low (by omega)).trans (g6.low (by omega))))))
  have g36 : Grow h3.nx.nat h3 h6 := g4.trans ((g5.low (by omega)).trans (g6.low (by omega)))
  have g46 : Grow h4.nx.nat h4 h6 := g5.trans (g6.low (by omega))
  have hQI : QI L s (swN s) h.nx h1.nx h2.nx h [(s, s)] h6 := ⟨Bf.one hs, gA, (g36.old _ (by omega)).trans a1, (g36.old _ (by omega)).trans e3, a2.grow hc3 g36⟩
  have hQQ : QQ (swN s) h3.nx.nat h4.nx [(s, s)] (.sl h3.nx 0 1 2) h6 := ⟨by unfold keys; simp only [List.map_cons, List.map_nil, List.mem_singleton]; exact fun e => hst e.symm, (g6.old _ (by omega)).trans e5, k4.grow hc4 g46, fun id off n sz e => by cases e; exact Nat.le_refl _, fun off n sz e => by have := congrArg (fun v => match v with | V.sl id _ _ _ => id.nat | _ => 0) e; simp only at this; omega⟩
  have nl6 : NotIn h5.nx (.sl h3.nx 0 1 2) := fun off n sz e => by have := congrArg (fun v => match v with | V.sl id _ _ _ => id.nat | _ => 0) e; simp only at this; omega
  have hst1 : h1.nx.nat = h.nx.nat + 1 := n1
  have hst2 : h2.nx.nat = h.nx.nat + 2 := by omega
  have hst3 : h3.nx.nat = h.nx.nat + 3 := by omega
  have hst4 : h4.nx.nat = h.nx.nat + 4 := by omega
  have hst5 : h5.nx.nat = h.nx.nat + 5 := by omega
  have hst6 : h6.nx.nat = h.nx.nat + 6 := by omega
  have bm : beqV (.m h1.nx) (.m h1.nx) = true := K.beq_refl _
  refine W_mono ?_ (W_loop (Q := fun e fr h1_ => e = .exit 0 ∧ f88_E L s (swN s) idr idf h.nx h1.nx h2.nx h fr h1_) (f88_I L s (swN s) idr idf h.nx h1.nx h2.nx h4.nx h3.nx.nat h) (fun z => 50 - z.1) ?_ (0, [(s, s)]) ⟨by simp, hQI, hc6, fun j e hj => absurd hj (by omega), h5.nx, _, hQQ, nl6, by omega, by omega, e6, by simp (disch := omega) only [getK_set, Nat.reduceEqDiff, ↓reduceIte, and_self]⟩)
  · rintro e fr h7 ⟨rfl, M, q, hc7, hiff, g1, g2, g3, g4⟩
    have l3 := ldn2 q.c3
    have lm := load_p (off := 0) q.cm (show nth [V.m h1.nx] 0 = some _ from rfl)
    have k77 : ∀ h P, CallP fs (.fn (K.ofNat 77) []) [aV s] h P = P (aV (swN s)) h := fun _ _ => k.n77 (toI s) _ _
    simp (disch := omega) only [f88_r15, w_draw, w_seq, seqK_n, atK_e, true_and, x_nil, x_call, kx, kg, xg_nil, xg_ld, xg_ldn, xd_cons, fresh_nil, stK_s, stay_nil, stay_cons, again_ok, stay_ld, rvP_ok, ev_t, ev_c, evs_nil, evs_cons, getV_some, putD_some, getK_set, Nat.reduceEqDiff, ↓reduceIte, g3, g4, l3, hav, k77, lm, bm]
    refine (callP_0 (ef := f89) h89 rfl (f89_ret (x := swN s) k h103 q.bf ⟨hs.2, hs.1⟩ q.mp hc7)).mono ?_
    rintro r h8 ⟨g8, hr⟩
    have ef8 := (g8.old idf (by have := q.gr.nx; omega)).trans ((q.gr.old idf lf).trans ef)
    have l8 := load_p (off := 0) ef8 (show nth [u0] 0 = some u0 from rfl)
    have gE : Grow h.nx.nat h h8 := q.gr.trans (g8.low q.gr.nx)
    have kE : Kp idf h h8 := Kp.of hc gE (Nat.le_refl _)
    have lf8 : idf.nat < h8.nx.nat := by have := gE.nx; omega
    rcases hr with ⟨hn, rfl⟩ | ⟨hy, id, off, n, rfl⟩
    · have hno : ¬ Rch (Er L) s.1 s.2 s.2 s.1 := fun e => hn (hiff.2 e)
      simp (disch := omega) only [f88_r16, f88_rs, w_skip, w_reg, w_seq, w_cond, seqK_n, ckB_b, cbB_b, okG_b, okG_u, asG_t, asG_u, true_and, retK_n, x_nil, x_g, x_mv, x_as, x_pick, kx, kg, xg_nil, xg_mv, xg_ext, xd_cons, fresh_nil, stK_n, stK_s, stay_nil, stay_cons, again_ok, beq_b, rvP_ok, okv_some, ev_t, ev_c, getV_some, putD_some, pick_b, onTup_t, nth0, nth1, readRs_nil, retV_0, Option.some.injEq, exists_eq_left', getK_set, Nat.reduceEqDiff, ↓reduceIte, Bool.false_eq_true, stay_ext]
      refine ⟨u0, ef8, ?_, kE⟩
      rcases hu with ⟨e1, e2⟩ | ⟨e1, e2⟩
      · exact .inl ⟨e1, fun e => e.elim e2 hno⟩
      · exact .inr ⟨.inl e1, e2⟩
    · have hys : Rch (Er L) s.1 s.2 s.2 s.1 := hiff.1 hy
      have sE : storeV h8 1 (.p idf 0) (.sl id off n 2) = .ok undefV (h8.put idf (.cells 1 [.sl id off n 2])) := st1 ef8 rfl
      have res : ∃ u', (h8.put idf (.cells 1 [.sl id off n 2])).get idf = .cells 1 [u'] ∧ Fw u' (p0 ∨ Rch (Er L) s.1 s.2 s.2 s.1) ∧ Kp idf h (h8.put idf (.cells 1 [.sl id off n 2])) := ⟨_, get_put_same, .inr ⟨.inr hys, _, _, _, rfl⟩, kE.put lf8 _⟩
      rcases hu with ⟨rfl, e2⟩ | ⟨e1, id0, off0, n0, rfl⟩
      · simp (disch := omega) only [f88_r16, f88_r17, f88_rs, w_reg, w_seq, w_cond, seqK_n, ckB_b, cbB_b, okG_b, asG_t, asG_f, true_and, retK_n, x_nil, x_g, x_mv, x_as, x_pick, x_ld, x_st, x_isnil, kx, kg, xg_nil, xg_mv, xg_ext, xd_cons, fresh_nil, stK_n, stK_s, stay_nil, stay_cons, again_ok, beq_b, rvP_ok, okv_some, ev_t, ev_c, getV_some, putD_some, putD_none, pick_b, onTup_t, nth0, nth1, isnil_sn, readRs_nil, retV_0, Option.some.injEq, exists_eq_left', getK_set, Nat.reduceEqDiff, ↓reduceIte, Bool.false_eq_true, Bool.not_true, Bool.not_false, stay_ext, g2, l8, sE]
        exact res
      · cases hd : decide ((n : Int) < (n0 : Int)) with
        | true =>
          simp (disch := omega) only [f88_r16, f88_r17, f88_rs, w_reg, w_seq, w_cond, seqK_n, ckB_b, cbB_b, okG_b, asG_t, asG_f, true_and, retK_n, x_nil, x_g, x_mv, x_as, x_pick, x_ld, x_st, x_bin, x_len, x_isnil, kx, kg, xg_nil, xg_mv, xg_ext, xd_cons, fresh_nil, stK_n, stK_s, stay_nil, stay_cons, again_ok, beq_b, rvP_ok, okv_some, ev_t, ev_c, getV_some, putD_some, putD_none, bin_lss, pick_b, onTup_t, nth0, nth1, isnil_sl, len_sl, readRs_nil, retV_0, Option.some.injEq, exists_eq_left', getK_set, Nat.reduceEqDiff, ↓reduceIte, Bool.false_eq_true, Bool.not_false, stay_ext, g2, l8, sE, hd]
          exact res
        | false =>
          simp (disch := omega) only [f88_r16, f88_rs, w_skip, w_reg, w_seq, w_cond, seqK_n, ckB_b, cbB_b, okG_b, asG_t, asG_f, true_and, retK_n, x_nil, x_g, x_mv, x_as, x_pick, x_ld, x_bin, x_len, x_isnil, kx, kg, xg_nil, xg_mv, xg_ext, xd_cons, fresh_nil, stK_n, stK_s, stay_nil, stay_cons, again_ok, beq_b, rvP_ok, okv_some, ev_t, ev_c, getV_some, putD_some, bin_lss, pick_b, onTup_t, nth0, nth1, isnil_sl, len_sl, readRs_nil, retV_0, Option.some.injEq, exists_eq_left', getK_set, Nat.reduceEqDiff, ↓reduceIte, Bool.false_eq_true, Bool.not_false, stay_ext, g2, l8, hd]
          exact ⟨_, ef8, .inr ⟨.inl e1, _, _, _, rfl⟩, kE⟩
  · clear hQI hQQ nl6 gA g36 g46 e6 n6' n6 g6 s6 e5 n5' n5 s5 g5 k4 g4 n4 l3 a1 a2 cp sp hc3 hc2 hc1 n3' n3 s3 e3 g3 m2 n2' g2 p2 l2 e2 gr2 n2 e1 gr1 n1 c2 hc4 hc5 hc6
    rintro ⟨i, M⟩ fr h7 ⟨hi, q, hc7, hclo, idi, u, qq, hni, hqi, hin, ei, g1, g2, g3, g4, g5, g6⟩
    have hi : i ≤ M.length := hi
    have ei : h7.get idi = .cells 1 [.i .i64 (i : Int)] := ei
    have qgn := q.gr.nx
    have lq := load_p (off := 0) qq.cq (show nth [u] 0 = some u from rfl)
    have li := load_p (off := 0) ei (show nth [V.i .i64 (i : Int)] 0 = some _ from rfl)
    have hlen := qq.sk.len
    rw [keyI_len] at hlen
    have hub := qq.sk.beq
    unfold f88_l0
    by_cases hlt : i < M.length
    · have d0 : decide ((i : Int) < (M.length : Int)) = true := decide_eq_true (by omega)
      obtain ⟨⟨x, w⟩, hx⟩ : ∃ e, M[i]? = some e := ⟨M[i], List.getElem?_eq_getElem hlt⟩
      have hxl := q.bf.lt _ (List.mem_of_getElem? hx)
      obtain ⟨pq, pa, pb⟩ := qq.sk.at2 (i := i) (by rw [keyI_len]; exact hlt)
      have eK : (keyI M)[i]'(by rw [keyI_len]; exact hlt) = toI x := by
        have := keyI_at hx
        rw [List.getElem?_eq_getElem (by rw [keyI_len]; exact hlt)] at this
        exact Option.some.inj this
      have pb : loadV h7 pq (many? 2) = .ok (aV x) h7 := by rw [eK] at pb; exact pb
      have lL := rC_ldn hL ((q.gr.old idr lr).trans er)
      simp (disch := omega) only [f88_r4, f88_r5, w_skip, w_reg, w_draw, w_seq, w_cond, w_block, seqK_n, ckB_b, cbB_b, true_and, x_nil, x_ld, x_bin, x_call, x_len, kx, kg, xg_nil, xg_ld, xg_ldn, xg_iads, xd_cons, fresh_nil, stK_s, stay_nil, rvP_ok, okv_some, ev_t, ev_c, evs_nil, evs_cons, getV_some, putD_some, bin_lss, getK_set, Nat.reduceEqDiff, ↓reduceIte, g1, g5, g6, li, lq, hlen, d0, lL, pa, pb]
      refine (callP_0 (ef := f86) h86 rfl (f86_ret (x := x) hL hc7)).mono ?_
      rintro r h8 ⟨idr2, ida, rfl, o1, o2, o3, o4, gra, era, eaa⟩
      have hc8 := gra.hc hc7
      have n8 := gra.nx
      have ult : ∀ id off n sz, u = .sl id off n sz → id.nat < h7.nx.nat := qq.sk.lt hc7
      simp (disch := omega) only [w_block, seqK_n, true_and, x_nil, kx, xg_nil, xd_cons, fresh_nil, stK_n, stay_nil, putD_some]
      generalize hfr : T.set (K.ofNat 29) _ _ = fr
      have g1 : fr.get (K.ofNat 1) = some (.p idr 0) := by rw [← hfr]; simp only [getK_set, Nat.reduceEqDiff, ↓reduceIte, g1]
      have g2 : fr.get (K.ofNat 2) = some (.p idf 0) := by rw [← hfr]; simp only [getK_set, Nat.reduceEqDiff, ↓reduceIte, g2]
      have g3 : fr.get (K.ofNat 3) = some (.p h.nx 0) := by rw [← hfr]; simp only [getK_set, Nat.reduceEqDiff, ↓reduceIte, g3]
      have g4 : fr.get (K.ofNat 4) = some (.p h2.nx 0) := by rw [← hfr]; simp only [getK_set, Nat.reduceEqDiff, ↓reduceIte, g4]
      have g5 : fr.get (K.ofNat 5) = some (.p h4.nx 0) := by rw [← hfr]; simp only [getK_set, Nat.reduceEqDiff, ↓reduceIte, g5]
      have g6 : fr.get (K.ofNat 6) = some (.p idi 0) := by rw [← hfr]; simp only [getK_set, Nat.reduceEqDiff, ↓reduceIte, g6]
      have g29 : fr.get (K.ofNat 29) = some (.fn (K.ofNat 102) [.p idr2 0, .p ida 0]) := by rw [← hfr]; simp only [getK_set, ↓reduceIte]
      clear hfr
      refine W_itr (by simp (disch := omega) only [ev_t, getV_some, g29]) (forced_yields (idr := idr2) (ida := ida) hL hxl.1 hxl.2 h102) (fun id => id = h1.nx ∨ id = h4.nx ∨ ∃ off n sz, u = .sl id off n sz)
        (fun j hh => ∃ M' u', Bf L s M' ∧ (∃ X, M' = M ++ X) ∧ (∀ p ∈ (fcY L x.1 x.2).take j, p ∈ keys M') ∧ MapA hh h1.nx 76 M' ∧ QQ (swN s) h3.nx.nat h4.nx M' u' hh ∧ Frm u h8.nx.nat u')
        (fun e hh => e = .exit 0 ∧ ∃ M', Bf L s M' ∧ swN s ∈ keys M' ∧ MapA hh h1.nx 76 M') hc8 rfl ?_ ?_ ?_ ?_ ?_ ?_ ?_ ?_
      · rintro id (rfl | rfl | ⟨off, n, sz, e⟩)
        · omega
        · omega
        · have := ult _ _ _ _ e; omega
      · intro hh ks
        refine ⟨(ks.old idr2 (by omega) ?_).trans era, (ks.old ida (by omega) ?_).trans eaa⟩ <;> rintro (e | e | ⟨off, n, sz, e⟩)
        · have := congrArg K.nat e; omega
        · have := congrArg K.nat e; omega
        · have := ult _ _ _ _ e; omega
        · have := congrArg K.nat e; omega
        · have := congrArg K.nat e; omega
        · have := ult _ _ _ _ e; omega
      · rintro j hh1 hh2 ⟨M', u', b1, b2, b3, b4, b5, b6⟩ hcx hnx ho
        refine ⟨M', u', b1, b2, b3, (ho _ (by omega) (kNe (by omega))).trans b4, ⟨b5.no, (ho _ (by omega) (kNe (by omega))).trans b5.cq, b5.sk.same fun id off n sz e => ho _ (b5.sk.lt hcx _ _ _ _ e) fun e2 => ?_, b5.own, b5.nq⟩, b6⟩
        have e2 := congrArg K.nat e2
        rcases b6 _ _ _ _ e with ⟨_, _, _, e3⟩ | e3
        · have := ult _ _ _ _ e3; omega
        · omega
      · rintro e hh1 hh2 ⟨rfl, M', b1, b2, b4⟩ hcx hnx ho
        exact ⟨rfl, M', b1, b2, (ho _ (by omega) (kNe (by omega))).trans b4⟩
      · intro hh hg
        exact ⟨M, u, q.bf, ⟨[], by simp⟩, by simp, (hg.old _ (by omega)).trans ((gra.old _ (by omega)).trans q.mp), ⟨qq.no, (hg.old _ (by omega)).trans ((gra.old _ (by omega)).trans qq.cq), (qq.sk.grow hc7 gra).grow hc8 hg, qq.own, qq.nq⟩, fun id off n sz e => .inl ⟨_, _, _, e⟩⟩
      · rintro j ⟨c, d⟩ h9 hj hk hn ⟨M', u', b1, ⟨X, b2⟩, b3, b4, b5, b6⟩
        have l7 := fcY_lt hxl.1 hxl.2 (List.mem_of_getElem? hj)
        have hpl : in7 (c, d) := ⟨l7.1, l7.2.1⟩
        have hpm : (c, d) ∈ fcY L x.1 x.2 := List.mem_of_getElem? hj
        obtain ⟨hst9, gB, c7, nb⟩ := arr_var (h := h9) (x := c) (y := d)
        have ns : ∀ id : K, id.nat ≠ h1.nx.nat → id.nat ≠ h4.nx.nat → NotIn id u → ¬ (id = h1.nx ∨ id = h4.nx ∨ ∃ off n sz, u = .sl id off n sz) := by
          rintro id q1 q2 q3 (e | e | ⟨off, n, sz, e⟩)
          · exact q1 (congrArg K.nat e)
          · exact q2 (congrArg K.nat e)
          · exact q3 _ _ _ e
        have olo : ∀ id : K, id.nat < h3.nx.nat → NotIn id u := fun id hid => qq.own.notIn hid
        have old7 : ∀ id : K, id.nat < h7.nx.nat → id.nat ≠ h1.nx.nat → id.nat ≠ h4.nx.nat → NotIn id u → h9.get id = h7.get id := fun id q0 q1 q2 q3 => (hk.old id (by omega) (ns id q1 q2 q3)).trans (gra.old id q0)
        have e3_9 := (old7 h.nx (by omega) (by omega) (by omega) (olo _ (by omega))).trans q.c3
        have em_9 := (old7 h2.nx (by omega) (by omega) (by omega) (olo _ (by omega))).trans q.cm
        have ei_9 := (old7 idi (by omega) (by omega) (by omega) hni).trans ei
        unfold f88_a0
        simp (disch := omega) only [f88_r6, w_reg, x_nil, x_alloc, x_st, kx, rvP_ok, ev_t, getV_some, putD_some, putD_none, of0, getK_set, Nat.reduceEqDiff, ↓reduceIte, hst9, itA_n]
        generalize (h9.new (.cells 2 [.i .i64 0, .i .i64 0])).put h9.nx (.cells 2 [.i .i64 (c : Int), .i .i64 (d : Int)]) = hX at *
        refine ⟨gB, fun hY nY hcY oY _ => ?_⟩
        have nY' : hY.nx.nat = hX.nx.nat := congrArg K.nat nY
        have gBn := gB.nx
        have oo : ∀ id : K, id.nat < h9.nx.nat → id.nat ≠ h8.nx.nat → hY.get id = h9.get id := fun id q0 q1 => (oY id (fun e => q1 (congrArg K.nat e))).trans (gB.old id q0)
        have e3 := (oo h.nx (by omega) (by omega)).trans e3_9
        have em := (oo h2.nx (by omega) (by omega)).trans em_9
        have eI := (oo idi (by omega) (by omega)).trans ei_9
        have mY : MapA hY h1.nx 76 M' := (oo h1.nx (by omega) (by omega)).trans b4
        have eq := (oo h4.nx (by omega) (by omega)).trans b5.cq
        have fb : ∀ id off n sz, u' = .sl id off n sz → id.nat < h9.nx.nat ∧ id.nat ≠ h8.nx.nat := fun id off n sz e => ⟨b5.sk.lt hk.hc _ _ _ _ e, by
          rcases b6 _ _ _ _ e with ⟨_, _, _, e3⟩ | e3
          · have := ult _ _ _ _ e3; omega
          · omega⟩
        have sY : Sk 2 qE hY u' (keyI M') := b5.sk.same fun id off n sz e => oo id (fb _ _ _ _ e).1 (fb _ _ _ _ e).2
        have c7' := (oY h9.nx (fun e => by have := congrArg K.nat e; omega)).trans c7
        have l3 := ldn2 e3
        have lp := ldn2 c7'
        have lm := load_p (off := 0) em (show nth [V.m h1.nx] 0 = some _ from rfl)
        have lq := load_p (off := 0) eq (show nth [u'] 0 = some u' from rfl)
        have li := load_p (off := 0) eI (show nth [V.i .i64 (i : Int)] 0 = some _ from rfl)
        have havp : V.agg [.i .i64 (c : Int), .i .i64 (d : Int)] = aV (c, d) := rfl
        have hlook := mY.look b1.lt hpl
        have hM49 := b1.len
        unfold f88_b0
        by_cases hin2 : (c, d) ∈ keys M'
        · obtain ⟨⟨p1, v⟩, he, e2⟩ := List.mem_map.1 hin2
          replace e2 : p1 = (c, d) := e2
          subst e2
          obtain ⟨jj, hjj, ejj⟩ := List.getElem_of_mem he
          rw [lookA_at b1.nd (by rw [List.getElem?_eq_getElem hjj, ejj])] at hlook
          have hok : okA (some v) = .tup [aV v, .b true] := rfl
          obtain ⟨hst2, gC, _, _⟩ := arr_var (h := hY) (x := v.1) (y := v.2)
          replace hst2 : storeV (hY.new (.cells 2 [.i .i64 0, .i .i64 0])) 2 (.p hY.nx 0) (aV v) = _ := hst2
          simp (disch := omega) only [f88_r7, f88_r8, w_reg, w_seq, w_cond, w_block, w_exit, seqK_n, seqK_e, atK_e, ckB_b, cbB_b, true_and, x_nil, x_mv, x_as, x_alloc, x_ld, x_ldn, x_st, x_look, x_ext, kx, rvP_ok, okv_some, ev_t, getV_some, putD_some, putD_none, onTup_t, nth0, nth1, of0, getK_set, Nat.reduceEqDiff, ↓reduceIte, g4, lm, lp, havp, hlook, hok, hst2, itC_n]
          refine ⟨⟨M', u', b1, ⟨X, b2⟩, fun p hp => ?_, (gC.old h1.nx (by omega)).trans mY, ⟨b5.no, (gC.old h4.nx (by omega)).trans eq, sY.grow hcY gC, b5.own, b5.nq⟩, b6⟩, Kr.of hcY gC (by omega)⟩
          rw [List.take_add_one, hj] at hp
          rcases List.mem_append.1 hp with hp | hp
          · exact b3 p hp
          · simp at hp; rw [hp]; exact hin2
        · rw [lookA_none hin2] at hlook
          have hok : okA none = .tup [.agg [.i .i64 0, .i .i64 0], .b false] := rfl
          obtain ⟨hst2, gC, _, _⟩ := arr_var (h := hY) (x := 0) (y := 0)
          replace hst2 : storeV (hY.new (.cells 2 [.i .i64 0, .i .i64 0])) 2 (.p hY.nx 0) (.agg [.i .i64 0, .i .i64 0]) = _ := hst2
          simp (disch := omega) only [f88_r7, f88_r8, w_skip, w_reg, w_draw, w_seq, w_cond, w_block, seqK_n, ckB_b, cbB_b, true_and, x_nil, x_mv, x_as, x_alloc, x_ld, x_ldn, x_st, x_look, x_ext, kx, rvP_ok, okv_some, ev_t, getV_some, putD_some, putD_none, onTup_t, nth0, nth1, of0, getK_set, Nat.reduceEqDiff, ↓reduceIte, Bool.false_eq_true, g4, lm, lp, havp, hlook, hok, hst2]
          have hcZ := gC.hc hcY
          have gCn := gC.nx
          generalize (hY.new (.cells 2 [.i .i64 0, .i .i64 0])).put hY.nx (.cells 2 [.i .i64 ((0 : Nat) : Int), .i .i64 ((0 : Nat) : Int)]) = hZ at *
          have lmZ := load_p (off := 0) ((gC.old h2.nx (by omega)).trans em) (show nth [V.m h1.nx] 0 = some _ from rfl)
          have lpZ := ldn2 ((gC.old h9.nx (by omega)).trans c7')
          have lqZ := load_p (off := 0) ((gC.old h4.nx (by omega)).trans eq) (show nth [u'] 0 = some u' from rfl)
          have liZ := load_p (off := 0) ((gC.old idi (by omega)).trans eI) (show nth [V.i .i64 (i : Int)] 0 = some _ from rfl)
          have sZ := sY.grow hcY gC
          have mZ : MapA hZ h1.nx 76 M' := (gC.old h1.nx (by omega)).trans mY
          have hxM : M'[i]? = some (x, w) := by rw [b2, List.getElem?_append_left hlt]; exact hx
          have hlM : i < (keyI M').length := by rw [keyI_len, b2, List.length_append]; omega
          obtain ⟨pq2, pa2, pb2⟩ := sZ.at2 (i := i) hlM
          have eK2 : (keyI M')[i] = toI x := by
            have := keyI_at hxM
            rw [List.getElem?_eq_getElem hlM] at this
            exact Option.some.inj this
          have pb2 : loadV hZ pq2 (many? 2) = .ok (aV x) hZ := by rw [eK2] at pb2; exact pb2
          have hub2 := sZ.beq
          have mput := mZ.put (v := x) b1.lt hpl hin2
          have b1' := b1.add hxM hpm hin2
          simp (disch := omega) only [f88_r9, w_reg, w_seq, seqK_n, true_and, x_nil, x_mupd, kx, kg, xg_nil, xg_ld, xg_ldn, xg_iads, xd_cons, fresh_nil, stK_n, stK_s, stay_nil, rvP_ok, ev_t, getV_some, putD_some, putD_none, getK_set, Nat.reduceEqDiff, ↓reduceIte, g4, g5, g6, lmZ, lpZ, havp, lqZ, liZ, pa2, pb2, mput]
          have gU : Grow 0 hZ (hZ.put h1.nx (.map 76 (entA (M' ++ [((c, d), x)])))) := Grow.put (Nat.zero_le _) (by omega) _
          have mU : MapA (hZ.put h1.nx (.map 76 (entA (M' ++ [((c, d), x)])))) h1.nx 76 (M' ++ [((c, d), x)]) := get_put_same
          have oU : ∀ id : K, id.nat ≠ h1.nx.nat → (hZ.put h1.nx (.map 76 (entA (M' ++ [((c, d), x)])))).get id = hZ.get id := fun id hid => get_put_other fun e => hid (congrArg K.nat e)
          have nU : (hZ.put h1.nx (.map 76 (entA (M' ++ [((c, d), x)])))).nx.nat = hZ.nx.nat := rfl
          have hcU := gU.hc hcZ
          clear gU
          generalize hZ.put h1.nx (.map 76 (entA (M' ++ [((c, d), x)]))) = hU at *
          have nu1 : NotIn h1.nx u' := b6.notIn (olo _ (by omega)) (by omega)
          have sU : Sk 2 qE hU u' (keyI M') := sZ.same fun id off n sz e => oU id fun e2 => by
            rw [K.nat_inj e2] at e; exact nu1 _ _ _ e
          have cU7 := (oU h9.nx (by omega)).trans ((gC.old h9.nx (by omega)).trans c7')
          have cUq := (oU h4.nx (by omega)).trans ((gC.old h4.nx (by omega)).trans eq)
          have cU3 := (oU h.nx (by omega)).trans ((gC.old h.nx (by omega)).trans e3)
          have lpU := ldn2 cU7
          have lqU := load_p (off := 0) cUq (show nth [u'] 0 = some u' from rfl)
          have cp : cellsN 2 (aV (c, d)) = some [.i .i64 (c : Int), .i .i64 (d : Int)] := rfl
          have sp : setMany [V.i .i64 0, V.i .i64 0] 0 [V.i .i64 (c : Int), V.i .i64 (d : Int)] = [V.i .i64 (c : Int), V.i .i64 (d : Int)] := rfl
          obtain ⟨u2, hV, a1, s1, o1, gr8, k8⟩ := Sk.push (b := h3.nx.nat) qE_len (by omega) (x := toI (c, d)) sU b5.own (by omega) hcU (by rw [keyI_len]; omega)
          have a1' : appV 2 (hU.new (.cells (1 * 2) [.i .i64 (c : Int), .i .i64 (d : Int)])) u' (.sl hU.nx 0 1 2) = .ok u2 hV := a1
          have n9lt : NotIn h9.nx u' := fun off n sz e => by have := (fb _ _ _ _ e).1; omega
          have gVn := gr8.nx
          have hcV := gr8.hc hcU
          have s8 : storeV hV 1 (.p h4.nx 0) u2 = .ok undefV (hV.put h4.nx (.cells 1 [u2])) := st1 ((k8 h4.nx (by omega) b5.nq).1.trans cUq) s1.one
          simp (disch := omega) only [f88_r10, w_draw, w_seq, seqK_n, x_nil, x_bslice, x_ld, x_ldn, x_st, x_app, kx, rvP_ok, ev_t, getV_some, putD_some, putD_none, oGet_s, of0, getK_set, Nat.reduceEqDiff, ↓reduceIte, fill_0, g5, lqU, lpU, havp, fill_c, cp, sp, a1', s8]
          have n4o : ∀ id : K, id.nat ≠ h4.nx.nat → (hV.put h4.nx (.cells 1 [u2])).get id = hV.get id := fun id hid => get_put_other fun e => hid (congrArg K.nat e)
          have cW7 := (n4o h9.nx (by omega)).trans ((k8 h9.nx (by omega) n9lt).1.trans cU7)
          have cW3 := (n4o h.nx (by omega)).trans ((k8 h.nx (by omega) (b6.notIn (olo _ (by omega)) (by omega))).1.trans cU3)
          have cWm : MapA (hV.put h4.nx (.cells 1 [u2])) h1.nx 76 (M' ++ [((c, d), x)]) := (n4o h1.nx (by omega)).trans ((k8 h1.nx (by omega) nu1).1.trans mU)
          have sW := s1.put (k8 h4.nx (by omega) b5.nq).2 (.cells 1 [u2])
          have cWq : (hV.put h4.nx (.cells 1 [u2])).get h4.nx = .cells 1 [u2] := get_put_same
          have nW : (hV.put h4.nx (.cells 1 [u2])).nx.nat = hV.nx.nat := rfl
          have hcW : HC (hV.put h4.nx (.cells 1 [u2])) := (Grow.put (b := 0) (Nat.zero_le _) (by omega) _).hc hcV
          generalize hV.put h4.nx (.cells 1 [u2]) = hW at *
          have kW : Kr (fun id => id = h1.nx ∨ id = h4.nx ∨ ∃ off n sz, u = .sl id off n sz) h8.nx hY hW := by
            refine ⟨by omega, fun id hid hS => ?_, hcW⟩
            rw [not_or, not_or] at hS
            rw [n4o id (fun e => hS.2.1 (K.nat_inj e)), (k8 id (by omega) (b6.notIn (fun off n sz e => hS.2.2 ⟨_, _, _, e⟩) hid)).1, oU id (fun e => hS.1 (K.nat_inj e)), gC.old id (by omega)]
          have lpW := ldn2 cW7
          have l3W := ldn2 cW3
          have k77 : ∀ h P, CallP fs (.fn (K.ofNat 77) []) [aV s] h P = P (aV (swN s)) h := fun _ _ => k.n77 (toI s) _ _
          have hkq := keyEq_aV hpl (show (swN s).1 < 7 ∧ (swN s).2 < 7 from ⟨hs.2, hs.1⟩)
          have bcd : beqV (aV (c, d)) (aV (c, d)) = true := beq_aV
          have hkeys : keys (M' ++ [((c, d), x)]) = keys M' ++ [(c, d)] := by unfold keys; simp
          by_cases hq : (c, d) = swN s
          · rw [decide_eq_true hq] at hkq
            simp (disch := omega) only [f88_r11, w_skip, w_cond, w_exit, seqK_n, atK_n, atK_e, ckB_b, cbB_b, true_and, x_nil, x_call, kx, kg, xg_nil, xg_ldn, xg_eqk, xd_cons, fresh_nil, stK_n, stK_s, stay_nil, stay_cons, again_ok, rvP_ok, okv_some, ev_t, ev_c, evs_nil, evs_cons, getV_some, putD_some, oGet_s, getK_set, Nat.reduceEqDiff, ↓reduceIte, Bool.not_true, stay_ldn, g3, lpW, l3W, hav, havp, k77, hkq, bcd, itC_e]
            exact ⟨⟨_, b1', by rw [hkeys, ← hq]; simp, cWm⟩, kW⟩
          · rw [decide_eq_false hq] at hkq
            simp (disch := omega) only [f88_r11, w_skip, w_cond, w_exit, seqK_n, atK_n, atK_e, ckB_b, cbB_b, true_and, x_nil, x_call, kx, kg, xg_nil, xg_ldn, xg_eqk, xd_cons, fresh_nil, stK_n, stK_s, stay_nil, stay_cons, again_ok, rvP_ok, okv_some, ev_t, ev_c, evs_nil, evs_cons, getV_some, putD_some, oGet_s, getK_set, Nat.reduceEqDiff, ↓reduceIte, Bool.not_false, stay_ldn, g3, lpW, l3W, hav, havp, k77, hkq, bcd, itC_n]
            refine ⟨⟨M' ++ [((c, d), x)], u2, b1', ⟨X ++ [((c, d), x)], by rw [b2, List.append_assoc]⟩, fun p hp => ?_, cWm, ⟨?_, cWq, ?_, o1, (k8 h4.nx (by omega) b5.nq).2⟩, ?_⟩, kW⟩
            · rw [List.take_add_one, hj] at hp
              rw [hkeys]
              rcases List.mem_append.1 hp with hp | hp
              · exact List.mem_append_left _ (b3 p hp)
              · simp at hp; rw [hp]; simp
            · rw [hkeys, List.mem_append, List.mem_singleton]
              exact fun e => e.elim b5.no fun e => hq e.symm
            · have : keyI (M' ++ [((c, d), x)]) = keyI M' ++ [toI (c, d)] := by unfold keyI; rw [hkeys, List.map_append]; rfl
              rw [this]; exact sW
            · intro id off n sz e
              by_cases hid : id.nat < hU.nx.nat
              · by_cases hnu : NotIn id u'
                · exact absurd e ((k8 id hid hnu).2 off n sz)
                · have : ∃ off n sz, u' = .sl id off n sz := Classical.byContradiction fun h => hnu fun off n sz e => h ⟨off, n, sz, e⟩
                  obtain ⟨off', n', sz', e'⟩ := this
                  exact b6 _ _ _ _ e'
              · exact .inr (by omega)
      · rintro h9 ⟨M', u', b1, ⟨X, b2⟩, b3, b4, b5, b6⟩ hk hn
        rw [List.take_length] at b3
        have ns : ∀ id : K, id.nat ≠ h1.nx.nat → id.nat ≠ h4.nx.nat → NotIn id u → ¬ (id = h1.nx ∨ id = h4.nx ∨ ∃ off n sz, u = .sl id off n sz) := by
          rintro id q1 q2 q3 (e | e | ⟨off, n, sz, e⟩)
          · exact q1 (congrArg K.nat e)
          · exact q2 (congrArg K.nat e)
          · exact q3 _ _ _ e
        have olo : ∀ id : K, id.nat < h3.nx.nat → NotIn id u := fun id hid => qq.own.notIn hid
        have old7 : ∀ id : K, id.nat < h7.nx.nat → id.nat ≠ h1.nx.nat → id.nat ≠ h4.nx.nat → NotIn id u → h9.get id = h7.get id := fun id q0 q1 q2 q3 => (hk.old id (by omega) (ns id q1 q2 q3)).trans (gra.old id q0)
        have e3_9 := (old7 h.nx (by omega) (by omega) (by omega) (olo _ (by omega))).trans q.c3
        have em_9 := (old7 h2.nx (by omega) (by omega) (by omega) (olo _ (by omega))).trans q.cm
        have ei_9 := (old7 idi (by omega) (by omega) (by omega) hni).trans ei
        have li := load_p (off := 0) ei_9 (show nth [V.i .i64 (i : Int)] 0 = some _ from rfl)
        have n10 := nx_new h9 (.cells 1 [.i .i64 0])
        have s10 : storeV (h9.new (.cells 1 [.i .i64 0])) 1 (.p h9.nx 0) (.i .i64 (i : Int)) = .ok undefV ((h9.new (.cells 1 [.i .i64 0])).put h9.nx (.cells 1 [.i .i64 (i : Int)])) := st1 get_new_same rfl
        have l10 : loadV ((h9.new (.cells 1 [.i .i64 0])).put h9.nx (.cells 1 [.i .i64 (i : Int)])) (.p h9.nx 0) one? = .ok (.i .i64 (i : Int)) _ := load_p get_put_same rfl
        have s11 : storeV ((h9.new (.cells 1 [.i .i64 0])).put h9.nx (.cells 1 [.i .i64 (i : Int)])) 1 (.p h9.nx 0) (.i .i64 ((i : Int) + 1)) = .ok undefV (((h9.new (.cells 1 [.i .i64 0])).put h9.nx (.cells 1 [.i .i64 (i : Int)])).put h9.nx (.cells 1 [.i .i64 ((i : Int) + 1)])) := st1 get_put_same rfl
        have g11 : Grow h9.nx.nat h9 (((h9.new (.cells 1 [.i .i64 0])).put h9.nx (.cells 1 [.i .i64 (i : Int)])).put h9.nx (.cells 1 [.i .i64 ((i : Int) + 1)])) := (Grow.new (Nat.le_refl _) _).trans ((Grow.put (Nat.le_refl _) (by omega) _).trans (Grow.put (Nat.le_refl _) (by rw [nx_put]; omega) _))
        have hM49 := q.bf.len
        have hM49' := b1.len
        have hlen' : M'.length = M.length + X.length := by rw [b2, List.length_append]
        simp (disch := omega) only [f88_r12, f88_r13, f88_r14, w_reg, w_seq, seqK_n, atK_n, loopK_n, x_nil, x_alloc, x_ld, x_st, x_bin, kx, rvP_ok, okv_some, ev_t, ev_c, getV_some, putD_some, putD_none, bin_add, of0, of1, getK_set, Nat.reduceEqDiff, ↓reduceIte, g6, li, s10, l10, s11, fw64]
        have e11 : (((h9.new (.cells 1 [.i .i64 0])).put h9.nx (.cells 1 [.i .i64 (i : Int)])).put h9.nx (.cells 1 [.i .i64 ((i : Int) + 1)])).get h9.nx = .cells 1 [.i .i64 ((i : Int) + 1)] := get_put_same
        have n11 : (((h9.new (.cells 1 [.i .i64 0])).put h9.nx (.cells 1 [.i .i64 (i : Int)])).put h9.nx (.cells 1 [.i .i64 ((i : Int) + 1)])).nx.nat = h9.nx.nat + 1 := n10
        generalize ((h9.new (.cells 1 [.i .i64 0])).put h9.nx (.cells 1 [.i .i64 (i : Int)])).put h9.nx (.cells 1 [.i .i64 ((i : Int) + 1)]) = h10 at *
        have gK : Grow h.nx.nat h h10 := by
          refine q.gr.trans ((gra.low qgn).trans ((hk.toGrow (b := h.nx.nat) ?_ (by omega)).trans (g11.low (by omega))))
          rintro id (rfl | rfl | ⟨off, n, sz, e⟩)
          · omega
          · omega
          · have := qq.own _ _ _ _ e; omega
        refine ⟨(i + 1, M'), ?_, ?_, ⟨b1, gK, (g11.old _ (by omega)).trans e3_9, (g11.old _ (by omega)).trans em_9, (g11.old _ (by omega)).trans b4⟩, g11.hc hk.hc, ?_, h9.nx, u', ⟨b5.no, (g11.old _ (by omega)).trans b5.cq, b5.sk.grow hk.hc g11, b5.own, b5.nq⟩, fun off n sz e => by have := b5.sk.lt hk.hc _ _ _ _ e; omega, by omega, by omega, e11, by simp (disch := omega) only [getK_set, Nat.reduceEqDiff, ↓reduceIte, g1, g2, g3, g4, g5, and_self]⟩
        · show 50 - (i + 1) < 50 - i
          omega
        · show i + 1 ≤ M'.length
          omega
        · intro j e hj he p hp
          have hj : j < i + 1 := hj
          have he0 : M[j]? = some e := by rw [b2, List.getElem?_append_left (by omega)] at he; exact he
          by_cases hji : j = i
          · subst hji
            rw [hx] at he0
            cases he0
            exact b3 p hp
          · have := hclo j e (show j < i by omega) he0 p hp
            show p ∈ keys M'
            rw [b2]; unfold keys at this ⊢
            rw [List.map_append]; exact List.mem_append_left _ this
      · rintro e h9 _ ⟨rfl, M', b1, b2, b4⟩ hk hn
        have ns : ∀ id : K, id.nat ≠ h1.nx.nat → id.nat ≠ h4.nx.nat → NotIn id u → ¬ (id = h1.nx ∨ id = h4.nx ∨ ∃ off n sz, u = .sl id off n sz) := by
          rintro id q1 q2 q3 (e | e | ⟨off, n, sz, e⟩)
          · exact q1 (congrArg K.nat e)
          · exact q2 (congrArg K.nat e)
          · exact q3 _ _ _ e
        have olo : ∀ id : K, id.nat < h3.nx.nat → NotIn id u := fun id hid => qq.own.notIn hid
        have old7 : ∀ id : K, id.nat < h7.nx.nat → id.nat ≠ h1.nx.nat → id.nat ≠ h4.nx.nat → NotIn id u → h9.get id = h7.get id := fun id q0 q1 q2 q3 => (hk.old id (by omega) (ns id q1 q2 q3)).trans (gra.old id q0)
        have gK : Grow h.nx.nat h h9 := by
          refine q.gr.trans ((gra.low qgn).trans (hk.toGrow (b := h.nx.nat) ?_ (by omega)))
          rintro id (rfl | rfl | ⟨off, n, sz, e⟩)
          · omega
          · omega
          · have := qq.own _ _ _ _ e; omega
        simp (disch := omega) only [seqK_e, atK_e, loopK_e, true_and, Nat.reduceEqDiff, ↓reduceIte]
        refine ⟨M', ⟨b1, gK, (old7 h.nx (by omega) (by omega) (by omega) (olo _ (by omega))).trans q.c3, (old7 h2.nx (by omega) (by omega) (by omega) (olo _ (by omega))).trans q.cm, b4⟩, hk.hc, ⟨fun _ => ?_, fun _ => b2⟩, by simp (disch := omega) only [g1, g2, g3, g4, and_self]⟩
        obtain ⟨e, he, h2⟩ := List.mem_map.1 b2
        have := b1.rch e he
        rw [h2] at this
        exact this
    · have d0 : decide ((i : Int) < (M.length : Int)) = false := decide_eq_false (by omega)
      have hji : ∀ (j : Nat) e, M[j]? = some e → j < i := fun j e he => by
        have hj : j < M.length := by
          by_cases hj : j < M.length
          · exact hj
          · rw [List.getElem?_eq_none (by omega)] at he; cases he
        omega
      simp (disch := omega) only [f88_r4, w_reg, w_seq, w_cond, w_exit, seqK_n, seqK_e, loopK_e, ckB_b, cbB_b, true_and, x_nil, x_ld, x_bin, x_len, kx, rvP_ok, okv_some, ev_t, getV_some, putD_some, bin_lss, getK_set, Nat.reduceEqDiff, ↓reduceIte, Bool.false_eq_true, g5, g6, li, lq, hlen, d0]
      refine ⟨M, q, hc7, ⟨fun h => ?_, fun h => q.bf.all (fun j e he => hclo j e (hji j e he) he) h⟩, by simp (disch := omega) only [getK_set, Nat.reduceEqDiff, ↓reduceIte, g1, g2, g3, g4, and_self]⟩
      · obtain ⟨e, he, h2⟩ := List.mem_map.1 h
        have := q.bf.rch e he
        rw [h2] at this
        exact this
end
end Go.Ev
namespace Go.Ev
open Go Go.RowKit
noncomputable def f61_r0 : List EOper := [⟨(some (K.ofNat 1)), none, .box 49 (.t (K.ofNat 0))⟩, ⟨(some (K.ofNat 2)), none, .as (.c .sn)⟩, ⟨(some (K.ofNat 3)), none, .as (.c (.b false))⟩]
noncomputable def f61_r1 : List EOper := [⟨(some (K.ofNat 4)), none, .alloc 1 [.sn]⟩]
noncomputable def f61_r2 : List EOper := [⟨(some (K.ofNat 7)), none, .mkfn (K.ofNat 88) [(.t (K.ofNat 1)), (.t (K.ofNat 4))]⟩, ⟨(some (K.ofNat 5)), none, .alloc 1 [.fnil]⟩, ⟨none, none, .st 1 (.t (K.ofNat 5)) (.t (K.ofNat 7))⟩]
noncomputable def f61_r3 : List EOper := [⟨(some (K.ofNat 8)), none, .ldn 49 (.t (K.ofNat 1))⟩, ⟨(some (K.ofNat 9)), none, .call (.c (.fn (K.ofNat 84) [])) [(.t (K.ofNat 8))]⟩]
noncomputable def f61_r4 : List EOper := [⟨(some (K.ofNat 6)), none, .alloc 2 [(.i .i64 (.ofNat 0)), (.i .i64 (.ofNat 0))]⟩, ⟨none, none, .st 2 (.t (K.ofNat 6)) (.t (K.ofNat 10))⟩]
noncomputable def f61_a0 : EC := (.reg f61_r4)
noncomputable def f61_r5 : List EOper := [⟨(some (K.ofNat 11)), none, .ld (.t (K.ofNat 5))⟩, ⟨(some (K.ofNat 12)), none, .ldn 2 (.t (K.ofNat 6))⟩, ⟨(some (K.ofNat 13)), none, .call (.t (K.ofNat 11)) [(.t (K.ofNat 12))]⟩]
noncomputable def f61_b0 : EC := (.block 1 (.reg f61_r5))
noncomputable def f61_r6 : List Stage := [⟨[⟨(some (K.ofNat 14)), none, .ld (.t (K.ofNat 4))⟩, ⟨(some (K.ofNat 15)), none, .ld (.t (K.ofNat 4))⟩, ⟨(some (K.ofNat 16)), none, .isnil true (.t (K.ofNat 15))⟩], [], (some ⟨(some (K.ofNat 2)), none, .as (.t (K.ofNat 14))⟩), []⟩, ⟨[], [⟨(some (K.ofNat 15)), none, .ld (.t (K.ofNat 4))⟩, ⟨(some (K.ofNat 16)), none, .isnil true (.t (K.ofNat 15))⟩], (some ⟨(some (K.ofNat 3)), none, .as (.t (K.ofNat 16))⟩), []⟩, ⟨[], [], none, []⟩]
noncomputable def f61_c : EC := (.seq (.reg f61_r0) (.seq (.reg f61_r1) (.seq (.reg f61_r2) (.seq (.seq (.reg f61_r3) (.block 0 (.rangeF (.t (K.ofNat 9)) [(K.ofNat 10)] f61_a0 f61_b0))) (.seq (.draw f61_r6) .ret)))))
noncomputable def f61 : EF := ⟨17, [.tmp (K.ofNat 2), .tmp (K.ofNat 3)], f61_c, none⟩
theorem f61_rs : f61.rs = [.tmp (K.ofNat 2), .tmp (K.ofNat 3)] := of_eq_true (eq_self _)
noncomputable def f24_r0 : List EOper := [⟨(some (K.ofNat 4)), none, .as (.c .sn)⟩, ⟨(some (K.ofNat 5)), none, .as (.c (.b false))⟩, ⟨(some (K.ofNat 6)), none, .as (.c (.i .i64 (.ofNat 0)))⟩]
noncomputable def f24_r1 : List EOper := [⟨(some (K.ofNat 10)), none, .mv (.t (K.ofNat 0))⟩, ⟨(some (K.ofNat 11)), none, .mv (.t (K.ofNat 1))⟩, ⟨(some (K.ofNat 12)), none, .call (.c (.fn (K.ofNat 47) [])) [(.t (K.ofNat 10)), (.t (K.ofNat 11))]⟩, ⟨(some (K.ofNat 7)), none, .as (.t (K.ofNat 12))⟩]
noncomputable def f24_r2 : List EOper := [⟨(some (K.ofNat 13)), none, .mv (.t (K.ofNat 7))⟩, ⟨(some (K.ofNat 14)), none, .bin .neq (.t (K.ofNat 13)) (.c (.i .i64 (.ofNat 0)))⟩]
noncomputable def f24_r3 : List EOper := [⟨(some (K.ofNat 15)), none, .mv (.t (K.ofNat 7))⟩, ⟨(some (K.ofNat 4)), none, .as (.c .sn)⟩, ⟨(some (K.ofNat 5)), none, .as (.c (.b false))⟩, ⟨(some (K.ofNat 6)), none, .as (.t (K.ofNat 15))⟩]
noncomputable def f24_r4 : List EOper := [⟨(some (K.ofNat 17)), none, .mv (.t (K.ofNat 1))⟩, ⟨(some (K.ofNat 18)), none, .call (.c (.fn (K.ofNat 48) [])) [(.t (K.ofNat 17))]⟩, ⟨(some (K.ofNat 19)), none, .call (.c (.fn (K.ofNat 61) [])) [(.t (K.ofNat 18))]⟩, ⟨(some (K.ofNat 16)), none, .mv (.t (K.ofNat 19))⟩, ⟨(some (K.ofNat 20)), none, .ext (.t (K.ofNat 16)) 0⟩, ⟨(some (K.ofNat 21)), none, .ext (.t (K.ofNat 16)) 1⟩, ⟨(some (K.ofNat 8)), none, .as (.t (K.ofNat 20))⟩, ⟨(some (K.ofNat 9)), none, .as (.t (K.ofNat 21))⟩]
noncomputable def f24_r5 : List EOper := [⟨(some (K.ofNat 22)), none, .mv (.t (K.ofNat 8))⟩, ⟨(some (K.ofNat 23)), none, .mv (.t (K.ofNat 9))⟩, ⟨(some (K.ofNat 4)), none, .as (.t (K.ofNat 22))⟩, ⟨(some (K.ofNat 5)), none, .as (.t (K.ofNat 23))⟩, ⟨(some (K.ofNat 6)), none, .as (.c (.i .i64 (.ofNat 0)))⟩]
noncomputable def f24_c : EC := (.seq (.reg f24_r0) (.seq (.seq (.reg f24_r1) (.seq (.reg f24_r2) (.cond (.t (K.ofNat 14)) (.seq (.reg f24_r3) .ret) .skip))) (.seq (.reg f24_r4) (.seq (.reg f24_r5) .ret))))
noncomputable def f24 : EF := ⟨24, [.tmp (K.ofNat 4), .tmp (K.ofNat 5), .tmp (K.ofNat 6)], f24_c, none⟩
theorem f24_rs : f24.rs = [.tmp (K.ofNat 4), .tmp (K.ofNat 5), .tmp (K.ofNat 6)] := of_eq_true (eq_self _)
section
variable {fs : T EF} {h h' : H}
theorem cells1_fn {k : K} {l : List V} : cellsN 1 (.fn k l) = some [.fn k l] := rfl
structure CallsCl (fs : T EF) : Prop extends CallsOr fs where
  c86 : fs.get (K.ofNat 86) = some f86
  c102 : fs.get (K.ofNat 102) = some f102
  c103 : fs.get (K.ofNat 103) = some f103
  c89 : fs.get (K.ofNat 89) = some f89
  c88 : fs.get (K.ofNat 88) = some f88
  c61 : fs.get (K.ofNat 61) = some f61
theorem f61_ret {L : List Bool} (k : CallsCl fs) (hS : SymR L) (hc : HC h) : Ret fs f61 [rV L] h fun r h' => ∃ u f, r = .tup [u, .b f] ∧ (f = true ↔ ¬ CF (Er L)) ∧ Grow h.nx.nat h h' := by
  apply ret_of rfl
  show W fs none f61_c _ _ _
  unfold f61_c
  have hL := hS.len
  have c1 := rC_cells hL
  have n1 := nx_new h (.cells 49 (L.map V.b))
  have gr1 : Grow h.nx.nat h (h.new (.cells 49 (L.map V.b))) := Grow.new (Nat.le_refl _) _
  have e1 : (h.new (.cells 49 (L.map V.b))).get h.nx = rC L := get_new_same
  simp (disch := omega) only [f61_r0, w_reg, w_seq, seqK_n, x_nil, x_as, x_box, kx, rvP_ok, ev_t, ev_c, getV_some, putD_some, oGet_s, frame_1, getK_set, ↓reduceIte, c1]
  generalize h.new (.cells 49 (L.map V.b)) = h1 at *
  have n2 := nx_new h1 (.cells 1 [.sn])
  have gr2 : Grow h1.nx.nat h1 (h1.new (.cells 1 [.sn])) := Grow.new (Nat.le_refl _) _
  have e2 : (h1.new (.cells 1 [.sn])).get h1.nx = .cells 1 [.sn] := get_new_same
  simp (disch := omega) only [f61_r1, w_reg, w_seq, seqK_n, x_nil, x_alloc, putD_some]
  generalize h1.new (.cells 1 [.sn]) = h2 at *
  have n3 := nx_new h2 (.cells 1 [.fnil])
  have s3 : storeV (h2.new (.cells 1 [.fnil])) 1 (.p h2.nx 0) (.fn (K.ofNat 88) [.p h.nx 0, .p h1.nx 0]) = .ok undefV ((h2.new (.cells 1 [.fnil])).put h2.nx (.cells 1 [.fn (K.ofNat 88) [.p h.nx 0, .p h1.nx 0]])) := st1 get_new_same cells1_fn
  have g3 : Grow h2.nx.nat h2 ((h2.new (.cells 1 [.fnil])).put h2.nx (.cells 1 [.fn (K.ofNat 88) [.p h.nx 0, .p h1.nx 0]])) := (Grow.new (Nat.le_refl _) _).trans (Grow.put (Nat.le_refl _) (by omega) _)
  have e3 : ((h2.new (.cells 1 [.fnil])).put h2.nx (.cells 1 [.fn (K.ofNat 88) [.p h.nx 0, .p h1.nx 0]])).get h2.nx = .cells 1 [.fn (K.ofNat 88) [.p h.nx 0, .p h1.nx 0]] := get_put_same
  have n3' : ((h2.new (.cells 1 [.fnil])).put h2.nx (.cells 1 [.fn (K.ofNat 88) [.p h.nx 0, .p h1.nx 0]])).nx.nat = h2.nx.nat + 1 := n3
  simp (disch := omega) only [f61_r2, w_reg, w_seq, seqK_n, x_nil, x_alloc, x_st, x_mkfn, kx, rvP_ok, ev_t, evs_nil, evs_cons, getV_some, putD_some, putD_none, getK_set, Nat.reduceEqDiff, ↓reduceIte, s3]
  generalize (h2.new (.cells 1 [.fnil])).put h2.nx (.cells 1 [.fn (K.ofNat 88) [.p h.nx 0, .p h1.nx 0]]) = h3 at *
  have hc3 := g3.hc (gr2.hc (gr1.hc hc))
  have a1 := (g3.old h.nx (by omega)).trans ((gr2.old h.nx (by omega)).trans e1)
  have a2 := (g3.old h1.nx (by omega)).trans e2
  have l1 := rC_ldn hL a1
  simp (disch := omega) only [f61_r3, x_ldn, x_call, kx, rvP_ok, ev_t, ev_c, evs_nil, evs_cons, getV_some, putD_some, getK_set, Nat.reduceEqDiff, ↓reduceIte, l1]
  refine (callP_0 (ef := f84) k.c84 rfl (f84_ret hL)).mono ?_
  rintro r h4 ⟨rfl, rfl⟩
  have n4 := nx_new h3 (rC L)
  have gr4 : Grow h3.nx.nat h3 (h3.new (rC L)) := Grow.new (Nat.le_refl _) _
  have e4 : (h3.new (rC L)).get h3.nx = rC L := get_new_same
  have hc4 := gr4.hc hc3
  have b1 := (gr4.old h.nx (by omega)).trans a1
  have b2 := (gr4.old h1.nx (by omega)).trans a2
  have b3 := (gr4.old h2.nx (by omega)).trans e3
  have gA : Grow h.nx.nat h (h3.new (rC L)) := gr1.trans ((gr2.low (by omega)).trans ((g3.low (by omega)).trans (gr4.low (by omega))))
  simp (disch := omega) only [w_block, seqK_n, x_nil, kx, putD_some]
  generalize h3.new (rC L) = h4 at *
  generalize hfr : T.set (K.ofNat 9) _ _ = fr
  have g4 : fr.get (K.ofNat 4) = some (.p h1.nx 0) := by rw [← hfr]; simp only [getK_set, Nat.reduceEqDiff, ↓reduceIte]
  have g5 : fr.get (K.ofNat 5) = some (.p h2.nx 0) := by rw [← hfr]; simp only [getK_set, Nat.reduceEqDiff, ↓reduceIte]
  have g9 : fr.get (K.ofNat 9) = some (.fn (K.ofNat 101) [.p h3.nx 0]) := by rw [← hfr]; simp only [getK_set, ↓reduceIte]
  clear hfr
  refine W_itr (by simp (disch := omega) only [ev_t, getV_some, g9]) (all_yieldsR hL k.c101) (fun id => id = h1.nx) (fun i h5 => ∃ u, h5.get h1.nx = .cells 1 [u] ∧ Fw u (∃ x ∈ (arw (rat L)).take i, Rch (Er L) x.1 x.2 x.2 x.1)) (fun _ _ => False) hc4 rfl (by rintro id rfl; omega)
    (fun h5 ks => (ks.old _ (by omega) (fun e => by have := congrArg K.nat e; omega)).trans e4) ?_ (fun _ _ _ h _ _ _ => h.elim) ?_ ?_ ?_ (fun _ _ _ h => h.elim)
  · rintro i h5 h6 ⟨u, q1, q2⟩ hc5 hn ho
    exact ⟨u, by rw [ho _ (by omega) (kNe (by omega))]; exact q1, q2⟩
  · exact fun h5 hg => ⟨.sn, (hg.old _ (by omega)).trans b2, .inl ⟨rfl, fun ⟨x, hx, _⟩ => by simp at hx⟩⟩
  · rintro i ⟨x, y⟩ h5 hx hk hn ⟨u, q1, q2⟩
    obtain ⟨hst, gB, c7, n5⟩ := arr_var (h := h5) (x := x) (y := y)
    have hxm := List.mem_of_getElem? hx
    obtain ⟨m1, m2, m3⟩ := arw_lt hxm
    have ne : ∀ {id : K}, id.nat ≠ h1.nx.nat → ¬ id = h1.nx := fun h e => h (congrArg K.nat e)
    have d1 := (gB.old h.nx (by omega)).trans ((hk.old h.nx (by omega) (ne (by omega))).trans b1)
    have d2 := (gB.old h1.nx (by omega)).trans q1
    have d3 := (gB.old h2.nx (by omega)).trans ((hk.old h2.nx (by omega) (ne (by omega))).trans b3)
    unfold f61_a0
    simp (disch := omega) only [f61_r4, w_reg, x_nil, x_alloc, x_st, kx, rvP_ok, ev_t, getV_some, putD_some, putD_none, of0, getK_set, Nat.reduceEqDiff, ↓reduceIte, hst, itA_n]
    generalize (h5.new (.cells 2 [.i .i64 0, .i .i64 0])).put h5.nx (.cells 2 [.i .i64 (x : Int), .i .i64 (y : Int)]) = h6 at *
    refine ⟨gB, fun h7 n7 hc7 o7 lp7 => ?_⟩
    have n7' : h7.nx.nat = h6.nx.nat := congrArg K.nat n7
    have z1 := (o7 h.nx (kNe (by omega))).trans d1
    have z2 := (o7 h1.nx (kNe (by omega))).trans d2
    have l3 := load_p (off := 0) ((o7 h2.nx (kNe (by omega))).trans d3) (show nth [V.fn (K.ofNat 88) [.p h.nx 0, .p h1.nx 0]] 0 = some _ from rfl)
    have l6 := ldn2 ((o7 _ (kNe hn).symm).trans c7)
    have hav : V.agg [.i .i64 (x : Int), .i .i64 (y : Int)] = aV (x, y) := rfl
    unfold f61_b0
    simp (disch := omega) only [f61_r5, w_reg, w_block, x_ld, x_ldn, x_call, kx, rvP_ok, ev_t, evs_nil, evs_cons, getV_some, putD_some, getK_set, Nat.reduceEqDiff, ↓reduceIte, g5, l3, l6, hav]
    refine (callP_of (ef := f88) (args := [aV (x, y)]) (caps := [.p h.nx 0, .p h1.nx 0]) k.c88 rfl (f88_ret (s := (x, y)) k.toNat1 k.c86 k.c102 k.c103 k.c89 hL ⟨m1, m2⟩ (fun e => by
      have e2 : x = y := congrArg Prod.fst e
      rw [e2] at m3
      exact hS.gr.irr y m3) z1 z2 q2 (kNe (by omega)) hc7)).mono ?_
    rintro r h8 ⟨rfl, u', r1, r2, r3⟩
    simp (disch := omega) only [atK_n, x_nil, kx, putD_some, itC_n]
    refine ⟨⟨u', r1, ?_⟩, ⟨r3.nx, fun id hid hs => r3.old id (by omega) hs, r3.hc⟩⟩
    rw [List.take_add_one, hx]
    have hiff : (∃ z ∈ (arw (rat L)).take i ++ (some (x, y)).toList, Rch (Er L) z.1 z.2 z.2 z.1) ↔ ((∃ z ∈ (arw (rat L)).take i, Rch (Er L) z.1 z.2 z.2 z.1) ∨ Rch (Er L) x y y x) := by
      constructor
      · rintro ⟨z, hz, hr⟩
        rcases List.mem_append.1 hz with hz | hz
        · exact .inl ⟨z, hz, hr⟩
        · simp at hz; subst hz; exact .inr hr
      · rintro (⟨z, hz, hr⟩ | hr)
        · exact ⟨z, List.mem_append_left _ hz, hr⟩
        · exact ⟨(x, y), by simp, hr⟩
    rw [hiff]
    exact r2
  · rintro h5 ⟨u, q1, q2⟩ hk hn
    rw [List.take_length] at q2
    have l5 := load_p (off := 0) q1 (show nth [u] 0 = some u from rfl)
    have hcf : (∃ x ∈ arw (rat L), Rch (Er L) x.1 x.2 x.2 x.1) ↔ ¬ CF (Er L) := by
      constructor
      · rintro ⟨⟨a, b⟩, hm, hr⟩ hC
        exact hC a b (arw_lt hm).2.2 hr
      · intro hC
        refine Classical.byContradiction fun hn => hC fun a b hab hr => hn ⟨(a, b), mem_arw.2 ⟨(rat_lt hab).1, (rat_lt hab).2, hab⟩, hr⟩
    rw [hcf] at q2
    have gE : Grow h.nx.nat h h5 := gA.trans (hk.toGrow (by rintro id rfl; omega) (by omega))
    rcases q2 with ⟨rfl, q2⟩ | ⟨q2, id, off, n, rfl⟩
    · simp (disch := omega) only [f61_r6, f61_rs, w_draw, w_seq, w_ret, seqK_n, atK_n, true_and, retK_r, x_nil, x_as, kg, xg_nil, xg_ld, xg_isnil, xd_cons, fresh_nil, stK_n, stK_s, stay_nil, stay_cons, again_ok, stay_ld, beq_b, rvP_ok, ev_t, getV_some, putD_some, oGet_s, isnil_sn, readRs_nil, readRs_t, retV_2, Option.some.injEq, exists_eq_left', getK_set, Nat.reduceEqDiff, ↓reduceIte, Bool.not_true, beq_sn, g4, l5, stay_isnil]
      exact ⟨.sn, false, rfl, ⟨(fun h => by cases h), fun h => absurd h q2⟩, gE⟩
    · have bsl : beqV (.sl id off n 2) (.sl id off n 2) = true := by
        show (K.beq id id && Nat.beq off off && Nat.beq n n && Nat.beq 2 2) = true
        rw [K.beq_refl, Nat.beq_same, Nat.beq_same]; rfl
      simp (disch := omega) only [f61_r6, f61_rs, w_draw, w_seq, w_ret, seqK_n, atK_n, true_and, retK_r, x_nil, x_as, kg, xg_nil, xg_ld, xg_isnil, xd_cons, fresh_nil, stK_n, stK_s, stay_nil, stay_cons, again_ok, stay_ld, beq_b, rvP_ok, ev_t, getV_some, putD_some, oGet_s, isnil_sl, readRs_nil, readRs_t, retV_2, Option.some.injEq, exists_eq_left', getK_set, Nat.reduceEqDiff, ↓reduceIte, g4, l5, stay_isnil, bsl]
      exact ⟨_, true, rfl, ⟨fun _ => q2, fun _ => rfl⟩, gE⟩
theorem f24_ret {n : Nat} {v : V} {g : Nat → Nat → Bool} (k : CallsCl fs) (hg : Gph n g) (hv : Srp h v (arI g)) (hc : HC h) : Ret fs f24 [.i .i64 (n : Int), v] h fun r h' => ∃ u f, r = .tup [u, .b f, .i .i64 0] ∧ (f = true ↔ ¬ CF (Er (gR (arI g)))) ∧ Grow h.nx.nat h h' := by
  have hlb := arI_len (g := g)
  apply ret_of rfl
  show W fs none f24_c _ _ _
  unfold f24_c
  simp (disch := omega) only [f24_r0, f24_r1, w_reg, w_seq, seqK_n, x_nil, x_mv, x_as, x_call, ev_t, ev_c, evs_nil, evs_cons, getV_some, putD_some, frame_2, of0, getK_set, Nat.reduceEqDiff, ↓reduceIte]
  refine (callP_0 (ef := f47) k.c47 rfl (f47_ret k.toCallsCk hv (by omega) hc)).mono ?_
  rintro r h1 ⟨rfl, gr1⟩
  rw [chkG_g hg]
  have ne0 : decide ((0 : Int) ≠ 0) = false := rfl
  simp (disch := omega) only [f24_r2, f24_r4, w_skip, w_reg, w_seq, w_cond, seqK_n, ckB_b, cbB_b, true_and, x_nil, x_mv, x_as, x_bin, x_call, kx, rvP_ok, okv_some, ev_t, ev_c, evs_nil, evs_cons, getV_some, putD_some, bin_neq, of0, getK_set, Nat.reduceEqDiff, ↓reduceIte, Bool.false_eq_true, ne0]
  have hc1 := gr1.hc hc
  refine (callP_0 (ef := f48) k.c48 rfl (f48_ret k.toNat2 (hv.grow hc gr1) nd_arI (by omega) hc1)).mono ?_
  rintro r h2 ⟨rfl, gr2⟩
  have hc2 := gr2.hc hc1
  simp (disch := omega) only [x_call, kx, ev_t, ev_c, evs_nil, evs_cons, getV_some, putD_some, getK_set, ↓reduceIte]
  refine (callP_0 (ef := f61) k.c61 rfl (f61_ret k (symR_g hg) hc2)).mono ?_
  rintro r h3 ⟨u, f, rfl, hf, gr3⟩
  have gA : Grow h.nx.nat h h3 := gr1.trans ((gr2.low gr1.nx).trans (gr3.low (by have := gr1.nx; have := gr2.nx; omega)))
  simp (disch := omega) only [f24_r5, f24_rs, w_reg, w_seq, w_ret, seqK_n, retK_r, x_nil, x_mv, x_as, x_ext, kx, rvP_ok, okv_some, ev_t, ev_c, getV_some, putD_some, onTup_t, oGet_s, nth0, nth1, readRs_nil, readRs_t, retV_2, of0, Option.some.injEq, exists_eq_left', getK_set, Nat.reduceEqDiff, ↓reduceIte]
  exact ⟨u, f, rfl, hf, gA⟩
end
end Go.Ev
namespace Go.Ev
open Go Go.RowKit
noncomputable def f54_r0 : List EOper := [⟨(some (K.ofNat 6)), none, .as (.c (.i .i64 (.ofNat 0)))⟩]
noncomputable def f54_r1 : List EOper := [⟨(some (K.ofNat 11)), none, .mv (.t (K.ofNat 0))⟩, ⟨(some (K.ofNat 12)), none, .mv (.t (K.ofNat 1))⟩, ⟨(some (K.ofNat 13)), none, .call (.c (.fn (K.ofNat 47) [])) [(.t (K.ofNat 11)), (.t (K.ofNat 12))]⟩, ⟨(some (K.ofNat 7)), none, .as (.t (K.ofNat 13))⟩]
noncomputable def f54_r2 : List EOper := [⟨(some (K.ofNat 14)), none, .mv (.t (K.ofNat 7))⟩, ⟨(some (K.ofNat 15)), none, .bin .neq (.t (K.ofNat 14)) (.c (.i .i64 (.ofNat 0)))⟩]
noncomputable def f54_r3 : List EOper := [⟨(some (K.ofNat 16)), none, .mv (.t (K.ofNat 7))⟩, ⟨(some (K.ofNat 6)), none, .as (.t (K.ofNat 16))⟩]
noncomputable def f54_r4 : List EOper := [⟨(some (K.ofNat 17)), none, .mv (.t (K.ofNat 1))⟩, ⟨(some (K.ofNat 18)), none, .call (.c (.fn (K.ofNat 48) [])) [(.t (K.ofNat 17))]⟩, ⟨(some (K.ofNat 8)), none, .alloc 49 (List.replicate 49 (.b false))⟩, ⟨none, none, .st 49 (.t (K.ofNat 8)) (.t (K.ofNat 18))⟩]
noncomputable def f54_r5 : List EOper := [⟨(some (K.ofNat 19)), none, .mv (.t (K.ofNat 2))⟩, ⟨(some (K.ofNat 20)), none, .len (.t (K.ofNat 19))⟩, ⟨(some (K.ofNat 21)), none, .mv (.c (.i .i64 (.ofNat 0)))⟩]
noncomputable def f54_r6 : List EOper := [⟨(some (K.ofNat 22)), none, .bin .lss (.t (K.ofNat 21)) (.t (K.ofNat 20))⟩]
noncomputable def f54_r7 : List EOper := [⟨(some (K.ofNat 23)), none, .iads 2 (.t (K.ofNat 19)) (.t (K.ofNat 21))⟩, ⟨(some (K.ofNat 24)), none, .ldn 2 (.t (K.ofNat 23))⟩, ⟨(some (K.ofNat 10)), none, .alloc 2 [(.i .i64 (.ofNat 0)), (.i .i64 (.ofNat 0))]⟩, ⟨none, none, .st 2 (.t (K.ofNat 10)) (.t (K.ofNat 24))⟩]
noncomputable def f54_r8 : List Stage := [⟨[⟨(some (K.ofNat 25)), none, .ldn 49 (.t (K.ofNat 8))⟩, ⟨(some (K.ofNat 26)), none, .ldn 2 (.t (K.ofNat 10))⟩], [], (some ⟨(some (K.ofNat 27)), none, .call (.c (.fn (K.ofNat 56) [])) [(.t (K.ofNat 26))]⟩), []⟩, ⟨[], [⟨(some (K.ofNat 25)), none, .ldn 49 (.t (K.ofNat 8))⟩], (some ⟨(some (K.ofNat 28)), none, .call (.c (.fn (K.ofNat 85) [])) [(.t (K.ofNat 25)), (.t (K.ofNat 27))]⟩), []⟩, ⟨[⟨(some (K.ofNat 29)), none, .not (.t (K.ofNat 28))⟩], [], none, []⟩]
noncomputable def f54_r9 : List EOper := [⟨(some (K.ofNat 6)), none, .as (.c (.i .i64 (.ofNat 1)))⟩]
noncomputable def f54_r10 : List EOper := [⟨(some (K.ofNat 30)), none, .bin .add (.t (K.ofNat 21)) (.c (.i .i64 (.ofNat 1)))⟩, ⟨(some (K.ofNat 21)), none, .mv (.t (K.ofNat 30))⟩]
noncomputable def f54_l0 : EC := (.seq (.reg f54_r6) (.seq (.cond (.t (K.ofNat 22)) .skip (.exit 0)) (.seq (.block 1 (.seq (.reg f54_r7) (.seq (.draw f54_r8) (.cond (.t (K.ofNat 29)) (.seq (.reg f54_r9) .ret) .skip)))) (.reg f54_r10))))
noncomputable def f54_r11 : List EOper := [⟨(some (K.ofNat 6)), none, .as (.c (.i .i64 (.ofNat 0)))⟩]
noncomputable def f54_c : EC := (.seq (.reg f54_r0) (.seq (.seq (.reg f54_r1) (.seq (.reg f54_r2) (.cond (.t (K.ofNat 15)) (.seq (.reg f54_r3) .ret) .skip))) (.seq (.reg f54_r4) (.seq (.seq (.reg f54_r5) (.block 0 (.loop f54_l0))) (.seq (.reg f54_r11) .ret)))))
noncomputable def f54 : EF := ⟨31, [.tmp (K.ofNat 6)], f54_c, none⟩
theorem f54_rs : f54.rs = [.tmp (K.ofNat 6)] := of_eq_true (eq_self _)
noncomputable def f18_r0 : List EOper := [⟨(some (K.ofNat 5)), none, .box 2 (.t (K.ofNat 2))⟩, ⟨(some (K.ofNat 6)), none, .as (.c .sn)⟩, ⟨(some (K.ofNat 7)), none, .as (.c (.i .i64 (.ofNat 0)))⟩]
noncomputable def f18_r1 : List EOper := [⟨(some (K.ofNat 9)), none, .mv (.t (K.ofNat 0))⟩, ⟨(some (K.ofNat 10)), none, .mv (.t (K.ofNat 1))⟩, ⟨(some (K.ofNat 11)), none, .ldn 2 (.t (K.ofNat 5))⟩, ⟨(some (K.ofNat 12)), none, .bslice 1 2 [(.i .i64 (.ofNat 0)), (.i .i64 (.ofNat 0))] [(0, 2, (.t (K.ofNat 11)))]⟩, ⟨(some (K.ofNat 13)), none, .call (.c (.fn (K.ofNat 54) [])) [(.t (K.ofNat 9)), (.t (K.ofNat 10)), (.t (K.ofNat 12))]⟩, ⟨(some (K.ofNat 8)), none, .as (.t (K.ofNat 13))⟩]
noncomputable def f18_r2 : List EOper := [⟨(some (K.ofNat 14)), none, .mv (.t (K.ofNat 8))⟩, ⟨(some (K.ofNat 15)), none, .bin .neq (.t (K.ofNat 14)) (.c (.i .i64 (.ofNat 0)))⟩]
noncomputable def f18_r3 : List EOper := [⟨(some (K.ofNat 16)), none, .mv (.t (K.ofNat 8))⟩, ⟨(some (K.ofNat 6)), none, .as (.c .sn)⟩, ⟨(some (K.ofNat 7)), none, .as (.t (K.ofNat 16))⟩]
noncomputable def f18_r4 : List Stage := [⟨[⟨(some (K.ofNat 17)), none, .mv (.t (K.ofNat 1))⟩, ⟨(some (K.ofNat 19)), none, .ldn 2 (.t (K.ofNat 5))⟩], [], (some ⟨(some (K.ofNat 18)), none, .call (.c (.fn (K.ofNat 48) [])) [(.t (K.ofNat 17))]⟩), []⟩, ⟨[], [⟨(some (K.ofNat 19)), none, .ldn 2 (.t (K.ofNat 5))⟩], (some ⟨(some (K.ofNat 20)), none, .call (.c (.fn (K.ofNat 56) [])) [(.t (K.ofNat 19))]⟩), []⟩, ⟨[], [], (some ⟨(some (K.ofNat 21)), none, .call (.c (.fn (K.ofNat 57) [])) [(.t (K.ofNat 18)), (.t (K.ofNat 20))]⟩), []⟩, ⟨[], [], (some ⟨(some (K.ofNat 22)), none, .call (.c (.fn (K.ofNat 58) [])) [(.t (K.ofNat 21))]⟩), []⟩, ⟨[], [], (some ⟨(some (K.ofNat 6)), none, .as (.t (K.ofNat 22))⟩), []⟩, ⟨[], [], (some ⟨(some (K.ofNat 7)), none, .as (.c (.i .i64 (.ofNat 0)))⟩), []⟩, ⟨[], [], none, []⟩]
noncomputable def f18_c : EC := (.seq (.reg f18_r0) (.seq (.seq (.reg f18_r1) (.seq (.reg f18_r2) (.cond (.t (K.ofNat 15)) (.seq (.reg f18_r3) .ret) .skip))) (.seq (.draw f18_r4) .ret)))
noncomputable def f18 : EF := ⟨23, [.tmp (K.ofNat 6), .tmp (K.ofNat 7)], f18_c, none⟩
theorem f18_rs : f18.rs = [.tmp (K.ofNat 6), .tmp (K.ofNat 7)] := of_eq_true (eq_self _)
section
variable {fs : T EF} {h h' : H}
theorem hasR_nat {L : List Bool} {a b : Nat} (ha : a < 7) (hb : b < 7) : hasR L ((a : Int), (b : Int)) = rat L a b := by
  unfold hasR nodeB
  rw [decide_eq_true (show (0 : Int) ≤ ((a : Int), (b : Int)).1 ∧ ((a : Int), (b : Int)).1 < 7 by simp only; omega), decide_eq_true (show (0 : Int) ≤ ((a : Int), (b : Int)).2 ∧ ((a : Int), (b : Int)).2 < 7 by simp only; omega)]
  rfl
def f54_I (h0 : H) (id8 : K) (w : V) (x : Int × Int) (L : List Bool) (i : Nat) (fr : Fr) (h1 : H) : Prop := i ≤ 1 ∧ (1 ≤ i → hasR L x = true) ∧ Grow h0.nx.nat h0 h1 ∧ fr.get (K.ofNat 8) = some (.p id8 0) ∧ fr.get (K.ofNat 19) = some (w) ∧ fr.get (K.ofNat 20) = some (.i .i64 1) ∧ fr.get (K.ofNat 21) = some (.i .i64 (i : Int))
theorem f54_ret {n : Nat} {v w : V} {g : Nat → Nat → Bool} {x : Int × Int} (k : CallsCl fs) (hg : Gph n g) (hv : Srp h v (arI g)) (hw : Srp h w [x]) (hc : HC h) : Ret fs f54 [.i .i64 (n : Int), v, w] h fun r h' => r = .i .i64 (if hasR (gR (arI g)) x = true then 0 else 1) ∧ Grow h.nx.nat h h' := by
  have hlb := arI_len (g := g)
  apply ret_of rfl
  show W fs none f54_c _ _ _
  unfold f54_c
  simp (disch := omega) only [f54_r0, f54_r1, w_reg, w_seq, seqK_n, x_nil, x_mv, x_as, x_call, ev_t, ev_c, evs_nil, evs_cons, getV_some, putD_some, frame_3, of0, getK_set, Nat.reduceEqDiff, ↓reduceIte]
  refine (callP_0 (ef := f47) k.c47 rfl (f47_ret k.toCallsCk hv (by omega) hc)).mono ?_
  rintro r h1 ⟨rfl, gr1⟩
  rw [chkG_g hg]
  have ne0 : decide ((0 : Int) ≠ 0) = false := rfl
  simp (disch := omega) only [f54_r2, f54_r4, w_skip, w_reg, w_seq, w_cond, seqK_n, ckB_b, cbB_b, true_and, x_nil, x_mv, x_as, x_bin, x_call, kx, rvP_ok, okv_some, ev_t, ev_c, evs_nil, evs_cons, getV_some, putD_some, bin_neq, of0, getK_set, Nat.reduceEqDiff, ↓reduceIte, Bool.false_eq_true, ne0]
  have hc1 := gr1.hc hc
  refine (callP_0 (ef := f48) k.c48 rfl (f48_ret k.toNat2 (hv.grow hc gr1) nd_arI (by omega) hc1)).mono ?_
  rintro r h2 ⟨rfl, gr2⟩
  have hc2 := gr2.hc hc1
  have hL : (gR (arI g)).length = 49 := gR_len
  generalize gR (arI g) = L at *
  have s2 := rC_stn hL rl_len (M := rl fun _ _ => false) (h := h2.new (.cells 49 (List.replicate 49 (.b false)))) (id := h2.nx) (by rw [rl_false]; exact get_new_same)
  have n3 := nx_new h2 (.cells 49 (List.replicate 49 (.b false)))
  have gr3 : Grow h2.nx.nat h2 ((h2.new (.cells 49 (List.replicate 49 (.b false)))).put h2.nx (rC L)) := (Grow.new (Nat.le_refl _) _).trans (Grow.put (Nat.le_refl _) (by omega) _)
  have e3 : ((h2.new (.cells 49 (List.replicate 49 (.b false)))).put h2.nx (rC L)).get h2.nx = rC L := get_put_same
  have n3' : ((h2.new (.cells 49 (List.replicate 49 (.b false)))).put h2.nx (rC L)).nx.nat = h2.nx.nat + 1 := n3
  have hlen : ∀ h1, lenV w h1 = .ok (.i .i64 1) h1 := fun h1 => hw.len h1
  simp (disch := omega) only [f54_r5, w_reg, w_seq, w_block, seqK_n, x_nil, x_mv, x_alloc, x_st, x_len, kx, rvP_ok, ev_t, ev_c, getV_some, putD_some, putD_none, of0, getK_set, Nat.reduceEqDiff, ↓reduceIte, s2, hlen]
  generalize (h2.new (.cells 49 (List.replicate 49 (.b false)))).put h2.nx (rC L) = h3 at *
  have hc3 := gr3.hc hc2
  have gA : Grow h.nx.nat h h3 := gr1.trans ((gr2.low gr1.nx).trans (gr3.low (by have := gr1.nx; have := gr2.nx; omega)))
  have hw3 := hw.grow hc gA
  refine W_loop (f54_I h3 h2.nx w x L) (fun i => 1 - i) ?_ 0 ⟨by omega, fun h => by omega, Grow.refl _ _, by simp (disch := omega) only [getK_set, Nat.reduceEqDiff, ↓reduceIte, and_self, Int.natCast_zero]⟩
  rintro i fr h4 ⟨hi, hyes, hG, g8, g19, g20, g21⟩
  have hc4 := hG.hc hc3
  unfold f54_l0
  by_cases hlt : i < 1
  · have ei : i = 0 := by omega
    subst ei
    have d0 : decide (((0 : Nat) : Int) < 1) = true := rfl
    obtain ⟨id, q, p1, p2, _⟩ := (hw3.grow hc3 hG).at2 (i := 0) (by simp)
    obtain ⟨x1, x2⟩ := x
    have p2 : loadV h4 (.p id q) (many? 2) = .ok (pV (x1, x2)) h4 := p2
    have s5 : storeV (h4.new (.cells 2 [.i .i64 0, .i .i64 0])) 2 (.p h4.nx 0) (pV (x1, x2)) = .ok undefV ((h4.new (.cells 2 [.i .i64 0, .i .i64 0])).put h4.nx (.cells 2 [.i .i64 x1, .i .i64 x2])) := st2 get_new_same
    have n5 := nx_new h4 (.cells 2 [.i .i64 0, .i .i64 0])
    have g5 : Grow h4.nx.nat h4 ((h4.new (.cells 2 [.i .i64 0, .i .i64 0])).put h4.nx (.cells 2 [.i .i64 x1, .i .i64 x2])) := (Grow.new (Nat.le_refl _) _).trans (Grow.put (Nat.le_refl _) (by omega) _)
    have e5 : ((h4.new (.cells 2 [.i .i64 0, .i .i64 0])).put h4.nx (.cells 2 [.i .i64 x1, .i .i64 x2])).get h4.nx = .cells 2 [.i .i64 x1, .i .i64 x2] := get_put_same
    simp (disch := omega) only [f54_r6, f54_r7, w_skip, w_reg, w_draw, w_seq, w_cond, w_block, seqK_n, ckB_b, cbB_b, true_and, x_nil, x_alloc, x_ldn, x_st, x_bin, x_iads, kx, rvP_ok, okv_some, ev_t, getV_some, putD_some, putD_none, bin_lss, of0, getK_set, Nat.reduceEqDiff, ↓reduceIte, g19, g20, g21, d0, p1, p2, s5]
    generalize (h4.new (.cells 2 [.i .i64 0, .i .i64 0])).put h4.nx (.cells 2 [.i .i64 x1, .i .i64 x2]) = h5 at *
    have l5 := ldn2 e5
    have hav : V.agg [.i .i64 x1, .i .i64 x2] = pV (x1, x2) := rfl
    have hGn := hG.nx
    have l8 := rC_ldn hL ((g5.old h2.nx (by omega)).trans ((hG.old h2.nx (by omega)).trans e3))
    cases hh : hasR L (x1, x2) with
    | true =>
      simp (disch := omega) only [f54_r8, f54_r10, w_skip, w_reg, w_cond, seqK_n, atK_n, loopK_n, ckB_b, cbB_b, true_and, x_nil, x_mv, x_bin, x_call, kx, kg, xg_nil, xg_ldn, xg_not, xd_cons, fresh_nil, stK_n, stK_s, stay_nil, stay_cons, again_ok, rvP_ok, okv_some, ev_t, ev_c, evs_nil, evs_cons, getV_some, putD_some, bin_add, onB_b, of1, getK_set, Nat.reduceEqDiff, ↓reduceIte, Bool.false_eq_true, Bool.not_true, stay_ldn, g8, g21, l5, hav, l8, beq_rV, k.n56, k.n85 _ _ _ _ hL, hh, fw64]
      exact ⟨1, by omega, by omega, fun _ => hh, hG.trans (g5.low hGn), by simp (disch := omega) only [getK_set, Nat.reduceEqDiff, ↓reduceIte, g8, g19, g20, and_self, Int.natCast_zero, Int.natCast_one, Int.zero_add]⟩
    | false =>
      simp (disch := omega) only [f54_r8, f54_r9, f54_rs, w_reg, w_seq, w_cond, w_ret, seqK_n, seqK_r, atK_r, loopK_r, ckB_b, cbB_b, true_and, retK_r, x_nil, x_as, x_call, kx, kg, xg_nil, xg_ldn, xg_not, xd_cons, fresh_nil, stK_n, stK_s, stay_nil, stay_cons, again_ok, rvP_ok, ev_t, ev_c, evs_nil, evs_cons, getV_some, putD_some, onB_b, oGet_s, readRs_nil, readRs_t, retV_1, of1, Option.some.injEq, exists_eq_left', getK_set, Nat.reduceEqDiff, ↓reduceIte, Bool.false_eq_true, Bool.not_false, stay_ldn, g8, l5, hav, l8, beq_rV, k.n56, k.n85 _ _ _ _ hL, hh]
      exact gA.trans ((hG.trans (g5.low hGn)).low gA.nx)
  · have ei : i = 1 := by omega
    subst ei
    have d0 : decide (((1 : Nat) : Int) < 1) = false := rfl
    simp (disch := omega) only [f54_r6, f54_r11, f54_rs, w_reg, w_seq, w_cond, w_exit, w_ret, seqK_n, seqK_e, atK_e, loopK_e, ckB_b, cbB_b, true_and, retK_r, x_nil, x_as, x_bin, kx, rvP_ok, okv_some, ev_t, ev_c, getV_some, putD_some, bin_lss, oGet_s, readRs_nil, readRs_t, retV_1, of0, Option.some.injEq, exists_eq_left', getK_set, ↓reduceIte, Bool.false_eq_true, g20, g21, d0]
    rw [if_pos (hyes (Nat.le_refl _))]
    exact ⟨rfl, gA.trans (hG.low gA.nx)⟩
theorem f18_ret {n : Nat} {v : V} {g : Nat → Nat → Bool} {x : Nat × Nat} (k : CallsCl fs) (h54 : fs.get (K.ofNat 54) = some f54) (hg : Gph n g) (hv : Srp h v (arI g)) (hx : rat (gR (arI g)) x.1 x.2 = true) (hc : HC h) : Ret fs f18 [.i .i64 (n : Int), v, aV x] h fun r h' => ∃ u, r = .tup [u, .i .i64 0] ∧ Sk 2 qE h' u (arI (rat (clsR (gR (arI g)) x))) ∧ Own h.nx.nat u ∧ Grow h.nx.nat h h' := by
  have hlb := arI_len (g := g)
  apply ret_of rfl
  show W fs none f18_c _ _ _
  unfold f18_c
  have hx7 := rat_lt hx
  have c2 : cellsN 2 (aV x) = some [.i .i64 (x.1 : Int), .i .i64 (x.2 : Int)] := rfl
  have n1 := nx_new h (.cells 2 [.i .i64 (x.1 : Int), .i .i64 (x.2 : Int)])
  have gr1 : Grow h.nx.nat h (h.new (.cells 2 [.i .i64 (x.1 : Int), .i .i64 (x.2 : Int)])) := Grow.new (Nat.le_refl _) _
  have e1 : (h.new (.cells 2 [.i .i64 (x.1 : Int), .i .i64 (x.2 : Int)])).get h.nx = .cells 2 [.i .i64 (x.1 : Int), .i .i64 (x.2 : Int)] := get_new_same
  simp (disch := omega) only [f18_r0, w_reg, w_seq, seqK_n, x_nil, x_as, x_box, kx, rvP_ok, ev_t, ev_c, getV_some, putD_some, oGet_s, frame_3, of0, getK_set, ↓reduceIte, c2]
  generalize h.new (.cells 2 [.i .i64 (x.1 : Int), .i .i64 (x.2 : Int)]) = h1 at *
  have hc1 := gr1.hc hc
  have hav : V.agg [.i .i64 (x.1 : Int), .i .i64 (x.2 : Int)] = aV x := rfl
  have sp : setMany [V.i .i64 0, V.i .i64 0] 0 [V.i .i64 (x.1 : Int), V.i .i64 (x.2 : Int)] = [V.i .i64 (x.1 : Int), V.i .i64 (x.2 : Int)] := rfl
  have l1 := ldn2 e1
  have n2 := nx_new h1 (.cells (1 * 2) [.i .i64 (x.1 : Int), .i .i64 (x.2 : Int)])
  have gr2 : Grow h1.nx.nat h1 (h1.new (.cells (1 * 2) [.i .i64 (x.1 : Int), .i .i64 (x.2 : Int)])) := Grow.new (Nat.le_refl _) _
  have k2 : Sk 2 qE (h1.new (.cells (1 * 2) [.i .i64 (x.1 : Int), .i .i64 (x.2 : Int)])) (.sl h1.nx 0 1 2) [toI x] := Sk.lit2o
  simp (disch := omega) only [f18_r1, x_mv, x_bslice, x_ldn, x_call, kx, rvP_ok, ev_t, ev_c, evs_nil, evs_cons, getV_some, putD_some, oGet_s, of0, getK_set, Nat.reduceEqDiff, ↓reduceIte, fill_0, l1, hav, fill_c, c2, sp]
  generalize h1.new (.cells (1 * 2) [.i .i64 (x.1 : Int), .i .i64 (x.2 : Int)]) = h2 at *
  have hc2 := gr2.hc hc1
  have gA : Grow h.nx.nat h h2 := gr1.trans (gr2.low (by omega))
  refine (callP_0 (ef := f54) h54 rfl (f54_ret k hg (hv.grow hc gA) k2.srpo hc2)).mono ?_
  rintro r h3 ⟨rfl, gr3⟩
  have hc3 := gr3.hc hc2
  have gB := gA.trans (gr3.low gA.nx)
  rw [if_pos (show hasR (gR (arI g)) (toI x) = true by unfold toI; rw [hasR_nat hx7.1 hx7.2]; exact hx)]
  have ne0 : decide ((0 : Int) ≠ 0) = false := rfl
  have l3 := ldn2 ((gr3.old h.nx (by omega)).trans ((gr2.old h.nx (by omega)).trans e1))
  simp (disch := omega) only [f18_r2, f18_r4, w_skip, w_reg, w_draw, w_seq, w_cond, seqK_n, ckB_b, cbB_b, true_and, x_nil, x_mv, x_as, x_bin, x_call, kx, kg, xg_nil, xg_mv, xg_ldn, xd_cons, fresh_nil, stK_s, stay_nil, rvP_ok, okv_some, ev_t, ev_c, evs_nil, evs_cons, getV_some, putD_some, bin_neq, of0, getK_set, Nat.reduceEqDiff, ↓reduceIte, Bool.false_eq_true, ne0, l3, hav]
  have hL : (gR (arI g)).length = 49 := gR_len
  refine (callP_0 (ef := f48) k.c48 rfl (f48_ret k.toNat2 (hv.grow hc gB) nd_arI (by omega) hc3)).mono ?_
  rintro r h4 ⟨rfl, gr4⟩
  have hc4 := gr4.hc hc3
  have gC := gB.trans (gr4.low gB.nx)
  have l4 := ldn2 ((gr4.old h.nx (by have := gr3.nx; omega)).trans ((gr3.old h.nx (by omega)).trans ((gr2.old h.nx (by omega)).trans e1)))
  have k56 : ∀ h P, CallP fs (.fn (K.ofNat 56) []) [aV x] h P = P (aV x) h := fun _ _ => k.n56 (toI x) _ _
  simp (disch := omega) only [true_and, x_nil, x_call, kx, xg_nil, xd_cons, fresh_nil, stK_s, stay_nil, stay_cons, again_ok, ev_t, ev_c, evs_nil, evs_cons, getV_some, putD_some, getK_set, Nat.reduceEqDiff, ↓reduceIte, stay_ldn, l4, hav, beq_aV, k56, k.n57 _ _ _ _ hL hx7]
  refine (callP_0 (ef := f58) k.c58 rfl (f58_ret k.toNat4 clsR_len hc4)).mono ?_
  rintro u h5 ⟨hs, ho, gr5⟩
  simp (disch := omega) only [f18_rs, w_ret, seqK_n, true_and, retK_r, x_nil, x_as, kx, xg_nil, xd_cons, fresh_nil, stK_n, stK_s, stay_nil, ev_t, ev_c, getV_some, putD_some, oGet_s, readRs_nil, readRs_t, retV_2, Option.some.injEq, exists_eq_left', getK_set, Nat.reduceEqDiff, ↓reduceIte]
  exact ⟨u, rfl, hs, ho.low gC.nx, gC.trans (gr5.low gC.nx)⟩
end
end Go.Ev
namespace Go.Ev
open Go Go.RowKit
noncomputable def f7_r0 : List EOper := [⟨(some (K.ofNat 4)), none, .as (.c (.b false))⟩]
noncomputable def f7_r1 : List EOper := [⟨(some (K.ofNat 21)), none, .mv (.t (K.ofNat 0))⟩, ⟨(some (K.ofNat 22)), none, .mv (.t (K.ofNat 1))⟩, ⟨(some (K.ofNat 23)), none, .call (.c (.fn (K.ofNat 11) [])) [(.t (K.ofNat 21)), (.t (K.ofNat 22)), (.c (.i .i64 (.ofNat 7)))]⟩, ⟨(some (K.ofNat 20)), none, .mv (.t (K.ofNat 23))⟩, ⟨(some (K.ofNat 24)), none, .ext (.t (K.ofNat 20)) 0⟩, ⟨(some (K.ofNat 25)), none, .ext (.t (K.ofNat 20)) 1⟩, ⟨(some (K.ofNat 5)), none, .as (.t (K.ofNat 24))⟩, ⟨(some (K.ofNat 6)), none, .as (.t (K.ofNat 25))⟩]
noncomputable def f7_r2 : List EOper := [⟨(some (K.ofNat 27)), none, .mv (.t (K.ofNat 5))⟩, ⟨(some (K.ofNat 28)), none, .mv (.t (K.ofNat 6))⟩, ⟨(some (K.ofNat 29)), none, .call (.c (.fn (K.ofNat 23) [])) [(.t (K.ofNat 27)), (.t (K.ofNat 28))]⟩, ⟨(some (K.ofNat 26)), none, .mv (.t (K.ofNat 29))⟩, ⟨(some (K.ofNat 30)), none, .ext (.t (K.ofNat 26)) 0⟩, ⟨(some (K.ofNat 31)), none, .ext (.t (K.ofNat 26)) 1⟩, ⟨(some (K.ofNat 32)), none, .ext (.t (K.ofNat 26)) 2⟩, ⟨(some (K.ofNat 7)), none, .as (.t (K.ofNat 30))⟩, ⟨(some (K.ofNat 8)), none, .as (.t (K.ofNat 31))⟩, ⟨(some (K.ofNat 9)), none, .as (.t (K.ofNat 32))⟩]
noncomputable def f7_r3 : List EOper := [⟨(some (K.ofNat 34)), none, .mv (.t (K.ofNat 5))⟩, ⟨(some (K.ofNat 35)), none, .mv (.t (K.ofNat 6))⟩, ⟨(some (K.ofNat 36)), none, .call (.c (.fn (K.ofNat 24) [])) [(.t (K.ofNat 34)), (.t (K.ofNat 35))]⟩, ⟨(some (K.ofNat 33)), none, .mv (.t (K.ofNat 36))⟩, ⟨(some (K.ofNat 37)), none, .ext (.t (K.ofNat 33)) 0⟩, ⟨(some (K.ofNat 38)), none, .ext (.t (K.ofNat 33)) 1⟩, ⟨(some (K.ofNat 39)), none, .ext (.t (K.ofNat 33)) 2⟩, ⟨(some (K.ofNat 10)), none, .as (.t (K.ofNat 37))⟩, ⟨(some (K.ofNat 11)), none, .as (.t (K.ofNat 38))⟩, ⟨(some (K.ofNat 12)), none, .as (.t (K.ofNat 39))⟩]
noncomputable def f7_r4 : List EOper := [⟨(some (K.ofNat 40)), none, .mv (.t (K.ofNat 9))⟩, ⟨(some (K.ofNat 41)), none, .bin .neq (.t (K.ofNat 40)) (.c (.i .i64 (.ofNat 0)))⟩, ⟨(some (K.ofNat 42)), none, .mv (.t (K.ofNat 41))⟩, ⟨(some (K.ofNat 43)), (some ((K.ofNat 42), false)), .mv (.t (K.ofNat 12))⟩, ⟨(some (K.ofNat 44)), (some ((K.ofNat 42), false)), .bin .neq (.t (K.ofNat 43)) (.c (.i .i64 (.ofNat 0)))⟩, ⟨(some (K.ofNat 45)), none, .pick (.t (K.ofNat 42)) (.c (.b true)) (.t (K.ofNat 44))⟩, ⟨(some (K.ofNat 46)), none, .mv (.t (K.ofNat 45))⟩, ⟨(some (K.ofNat 47)), (some ((K.ofNat 46), false)), .mv (.t (K.ofNat 8))⟩, ⟨(some (K.ofNat 48)), (some ((K.ofNat 46), false)), .mv (.t (K.ofNat 11))⟩, ⟨(some (K.ofNat 49)), (some ((K.ofNat 46), false)), .eqk (.one none) false (.t (K.ofNat 47)) (.t (K.ofNat 48))⟩, ⟨(some (K.ofNat 50)), none, .pick (.t (K.ofNat 46)) (.c (.b true)) (.t (K.ofNat 49))⟩]
noncomputable def f7_r5 : List EOper := [⟨(some (K.ofNat 4)), none, .as (.c (.b false))⟩]
noncomputable def f7_r6 : List EOper := [⟨(some (K.ofNat 13)), none, .as (.c (.i .i64 (.ofNat 0)))⟩]
noncomputable def f7_r7 : List EOper := [⟨(some (K.ofNat 51)), none, .mv (.t (K.ofNat 13))⟩, ⟨(some (K.ofNat 52)), none, .mv (.t (K.ofNat 6))⟩, ⟨(some (K.ofNat 53)), none, .len (.t (K.ofNat 52))⟩, ⟨(some (K.ofNat 54)), none, .bin .lss (.t (K.ofNat 51)) (.t (K.ofNat 53))⟩]
noncomputable def f7_r8 : List EOper := [⟨(some (K.ofNat 57)), none, .mv (.t (K.ofNat 6))⟩, ⟨(some (K.ofNat 58)), none, .mv (.t (K.ofNat 13))⟩, ⟨(some (K.ofNat 59)), none, .iads 2 (.t (K.ofNat 57)) (.t (K.ofNat 58))⟩, ⟨(some (K.ofNat 60)), none, .ldn 2 (.t (K.ofNat 59))⟩, ⟨(some (K.ofNat 14)), none, .alloc 2 [(.i .i64 (.ofNat 0)), (.i .i64 (.ofNat 0))]⟩, ⟨none, none, .st 2 (.t (K.ofNat 14)) (.t (K.ofNat 60))⟩]
noncomputable def f7_r9 : List EOper := [⟨(some (K.ofNat 62)), none, .mv (.t (K.ofNat 5))⟩, ⟨(some (K.ofNat 63)), none, .mv (.t (K.ofNat 6))⟩, ⟨(some (K.ofNat 64)), none, .ldn 2 (.t (K.ofNat 14))⟩, ⟨(some (K.ofNat 65)), none, .call (.c (.fn (K.ofNat 18) [])) [(.t (K.ofNat 62)), (.t (K.ofNat 63)), (.t (K.ofNat 64))]⟩, ⟨(some (K.ofNat 61)), none, .mv (.t (K.ofNat 65))⟩, ⟨(some (K.ofNat 66)), none, .ext (.t (K.ofNat 61)) 0⟩, ⟨(some (K.ofNat 67)), none, .ext (.t (K.ofNat 61)) 1⟩, ⟨(some (K.ofNat 15)), none, .as (.t (K.ofNat 66))⟩, ⟨(some (K.ofNat 16)), none, .as (.t (K.ofNat 67))⟩]
noncomputable def f7_r10 : List EOper := [⟨(some (K.ofNat 69)), none, .mv (.t (K.ofNat 5))⟩, ⟨(some (K.ofNat 70)), none, .mv (.t (K.ofNat 6))⟩, ⟨(some (K.ofNat 71)), none, .iadr 2 1 (.t (K.ofNat 14)) (.c (.i .i64 (.ofNat 1)))⟩, ⟨(some (K.ofNat 72)), none, .ld (.t (K.ofNat 71))⟩, ⟨(some (K.ofNat 73)), none, .iadr 2 1 (.t (K.ofNat 14)) (.c (.i .i64 (.ofNat 0)))⟩, ⟨(some (K.ofNat 74)), none, .ld (.t (K.ofNat 73))⟩, ⟨(some (K.ofNat 75)), none, .build [(.i .i64 (.ofNat 0)), (.i .i64 (.ofNat 0))] [(0, 1, (.t (K.ofNat 72))), (1, 1, (.t (K.ofNat 74)))]⟩, ⟨(some (K.ofNat 76)), none, .call (.c (.fn (K.ofNat 18) [])) [(.t (K.ofNat 69)), (.t (K.ofNat 70)), (.t (K.ofNat 75))]⟩, ⟨(some (K.ofNat 68)), none, .mv (.t (K.ofNat 76))⟩, ⟨(some (K.ofNat 77)), none, .ext (.t (K.ofNat 68)) 0⟩, ⟨(some (K.ofNat 78)), none, .ext (.t (K.ofNat 68)) 1⟩, ⟨(some (K.ofNat 17)), none, .as (.t (K.ofNat 77))⟩, ⟨(some (K.ofNat 18)), none, .as (.t (K.ofNat 78))⟩]
noncomputable def f7_r11 : List EOper := [⟨(some (K.ofNat 79)), none, .mv (.t (K.ofNat 16))⟩, ⟨(some (K.ofNat 80)), none, .bin .neq (.t (K.ofNat 79)) (.c (.i .i64 (.ofNat 0)))⟩, ⟨(some (K.ofNat 81)), none, .mv (.t (K.ofNat 80))⟩, ⟨(some (K.ofNat 82)), (some ((K.ofNat 81), false)), .mv (.t (K.ofNat 18))⟩, ⟨(some (K.ofNat 83)), (some ((K.ofNat 81), false)), .bin .neq (.t (K.ofNat 82)) (.c (.i .i64 (.ofNat 0)))⟩, ⟨(some (K.ofNat 84)), none, .pick (.t (K.ofNat 81)) (.c (.b true)) (.t (K.ofNat 83))⟩, ⟨(some (K.ofNat 85)), none, .mv (.t (K.ofNat 84))⟩, ⟨(some (K.ofNat 86)), (some ((K.ofNat 85), false)), .mv (.t (K.ofNat 15))⟩, ⟨(some (K.ofNat 87)), (some ((K.ofNat 85), false)), .len (.t (K.ofNat 86))⟩, ⟨(some (K.ofNat 88)), (some ((K.ofNat 85), false)), .mv (.t (K.ofNat 17))⟩, ⟨(some (K.ofNat 89)), (some ((K.ofNat 85), false)), .len (.t (K.ofNat 88))⟩, ⟨(some (K.ofNat 90)), (some ((K.ofNat 85), false)), .bin .neq (.t (K.ofNat 87)) (.t (K.ofNat 89))⟩, ⟨(some (K.ofNat 91)), none, .pick (.t (K.ofNat 85)) (.c (.b true)) (.t (K.ofNat 90))⟩]
noncomputable def f7_r12 : List EOper := [⟨(some (K.ofNat 4)), none, .as (.c (.b false))⟩]
noncomputable def f7_r13 : List EOper := [⟨(some (K.ofNat 19)), none, .as (.c (.i .i64 (.ofNat 0)))⟩]
noncomputable def f7_r14 : List EOper := [⟨(some (K.ofNat 92)), none, .mv (.t (K.ofNat 19))⟩, ⟨(some (K.ofNat 93)), none, .mv (.t (K.ofNat 15))⟩, ⟨(some (K.ofNat 94)), none, .len (.t (K.ofNat 93))⟩, ⟨(some (K.ofNat 95)), none, .bin .lss (.t (K.ofNat 92)) (.t (K.ofNat 94))⟩]
noncomputable def f7_r15 : List Stage := [⟨[⟨(some (K.ofNat 98)), none, .mv (.t (K.ofNat 17))⟩, ⟨(some (K.ofNat 99)), none, .mv (.t (K.ofNat 15))⟩, ⟨(some (K.ofNat 100)), none, .mv (.t (K.ofNat 19))⟩, ⟨(some (K.ofNat 101)), none, .iads 2 (.t (K.ofNat 99)) (.t (K.ofNat 100))⟩, ⟨(some (K.ofNat 102)), none, .iadr 2 1 (.t (K.ofNat 101)) (.c (.i .i64 (.ofNat 1)))⟩, ⟨(some (K.ofNat 103)), none, .ld (.t (K.ofNat 102))⟩, ⟨(some (K.ofNat 104)), none, .mv (.t (K.ofNat 15))⟩, ⟨(some (K.ofNat 105)), none, .mv (.t (K.ofNat 19))⟩, ⟨(some (K.ofNat 106)), none, .iads 2 (.t (K.ofNat 104)) (.t (K.ofNat 105))⟩, ⟨(some (K.ofNat 107)), none, .iadr 2 1 (.t (K.ofNat 106)) (.c (.i .i64 (.ofNat 0)))⟩, ⟨(some (K.ofNat 108)), none, .ld (.t (K.ofNat 107))⟩, ⟨(some (K.ofNat 109)), none, .build [(.i .i64 (.ofNat 0)), (.i .i64 (.ofNat 0))] [(0, 1, (.t (K.ofNat 103))), (1, 1, (.t (K.ofNat 108)))]⟩], [], (some ⟨(some (K.ofNat 110)), none, .call (.c (.fn (K.ofNat 40) [])) [(.t (K.ofNat 98)), (.t (K.ofNat 109))]⟩), []⟩, ⟨[⟨(some (K.ofNat 111)), none, .not (.t (K.ofNat 110))⟩, ⟨(some (K.ofNat 112)), none, .mv (.t (K.ofNat 111))⟩, ⟨(some (K.ofNat 113)), (some ((K.ofNat 112), false)), .mv (.t (K.ofNat 8))⟩, ⟨(some (K.ofNat 114)), (some ((K.ofNat 112), false)), .mv (.t (K.ofNat 113))⟩, ⟨(some (K.ofNat 115)), (some ((K.ofNat 114), true)), .mv (.t (K.ofNat 7))⟩, ⟨(some (K.ofNat 116)), (some ((K.ofNat 114), true)), .mv (.t (K.ofNat 15))⟩, ⟨(some (K.ofNat 117)), (some ((K.ofNat 114), true)), .mv (.t (K.ofNat 19))⟩, ⟨(some (K.ofNat 118)), (some ((K.ofNat 114), true)), .iads 2 (.t (K.ofNat 116)) (.t (K.ofNat 117))⟩, ⟨(some (K.ofNat 119)), (some ((K.ofNat 114), true)), .ldn 2 (.t (K.ofNat 118))⟩, ⟨(some (K.ofNat 121)), (some ((K.ofNat 114), true)), .mv (.t (K.ofNat 7))⟩, ⟨(some (K.ofNat 122)), (some ((K.ofNat 114), true)), .ldn 2 (.t (K.ofNat 14))⟩], [], (some ⟨(some (K.ofNat 120)), (some ((K.ofNat 114), true)), .call (.c (.fn (K.ofNat 40) [])) [(.t (K.ofNat 115)), (.t (K.ofNat 119))]⟩), []⟩, ⟨[], [⟨(some (K.ofNat 121)), (some ((K.ofNat 114), true)), .mv (.t (K.ofNat 7))⟩, ⟨(some (K.ofNat 122)), (some ((K.ofNat 114), true)), .ldn 2 (.t (K.ofNat 14))⟩], (some ⟨(some (K.ofNat 123)), (some ((K.ofNat 114), true)), .call (.c (.fn (K.ofNat 40) [])) [(.t (K.ofNat 121)), (.t (K.ofNat 122))]⟩), []⟩, ⟨[⟨(some (K.ofNat 124)), (some ((K.ofNat 114), true)), .eqk (.one none) true (.t (K.ofNat 120)) (.t (K.ofNat 123))⟩, ⟨(some (K.ofNat 125)), (some ((K.ofNat 112), false)), .pick (.t (K.ofNat 114)) (.t (K.ofNat 124)) (.c (.b false))⟩, ⟨(some (K.ofNat 126)), none, .pick (.t (K.ofNat 112)) (.c (.b true)) (.t (K.ofNat 125))⟩], [], none, []⟩]
noncomputable def f7_r16 : List EOper := [⟨(some (K.ofNat 4)), none, .as (.c (.b false))⟩]
noncomputable def f7_r17 : List EOper := [⟨(some (K.ofNat 96)), none, .mv (.t (K.ofNat 19))⟩, ⟨(some (K.ofNat 97)), none, .bin .add (.t (K.ofNat 96)) (.c (.i .i64 (.ofNat 1)))⟩, ⟨(some (K.ofNat 19)), none, .as (.t (K.ofNat 97))⟩]
noncomputable def f7_l0 : EC := (.seq (.seq (.reg f7_r14) (.cond (.t (K.ofNat 95)) .skip (.exit 2))) (.seq (.block 3 (.seq (.draw f7_r15) (.cond (.t (K.ofNat 126)) (.seq (.reg f7_r16) .ret) .skip))) (.reg f7_r17)))
noncomputable def f7_r18 : List EOper := [⟨(some (K.ofNat 55)), none, .mv (.t (K.ofNat 13))⟩, ⟨(some (K.ofNat 56)), none, .bin .add (.t (K.ofNat 55)) (.c (.i .i64 (.ofNat 1)))⟩, ⟨(some (K.ofNat 13)), none, .as (.t (K.ofNat 56))⟩]
noncomputable def f7_l1 : EC := (.seq (.seq (.reg f7_r7) (.cond (.t (K.ofNat 54)) .skip (.exit 0))) (.seq (.block 1 (.seq (.reg f7_r8) (.seq (.reg f7_r9) (.seq (.reg f7_r10) (.seq (.seq (.reg f7_r11) (.cond (.t (K.ofNat 91)) (.seq (.reg f7_r12) .ret) .skip)) (.seq (.reg f7_r13) (.block 2 (.loop f7_l0)))))))) (.reg f7_r18)))
noncomputable def f7_r19 : List EOper := [⟨(some (K.ofNat 127)), none, .call (.c (.fn (K.ofNat 22) [])) []⟩, ⟨(some (K.ofNat 4)), none, .as (.t (K.ofNat 127))⟩]
noncomputable def f7_c : EC := (.seq (.reg f7_r0) (.seq (.reg f7_r1) (.seq (.reg f7_r2) (.seq (.reg f7_r3) (.seq (.seq (.reg f7_r4) (.cond (.t (K.ofNat 50)) (.seq (.reg f7_r5) .ret) .skip)) (.seq (.seq (.reg f7_r6) (.block 0 (.loop f7_l1))) (.seq (.reg f7_r19) .ret)))))))
noncomputable def f7 : EF := ⟨128, [.tmp (K.ofNat 4)], f7_c, none⟩
theorem f7_rs : f7.rs = [.tmp (K.ofNat 4)] := of_eq_true (eq_self _)
section
variable {fs : T EF} {h h' : H}
theorem arw_nd {f : Nat → Nat → Bool} : (arw f).Nodup := by
  unfold arw
  refine List.Pairwise.map _ (fun a b hab e => hab ?_) (List.Pairwise.filter _ List.nodup_range)
  have e1 : a / 7 = b / 7 := congrArg Prod.fst e
  have e2 : a % 7 = b % 7 := congrArg Prod.snd e
  omega
theorem arw_swl {f f' : Nat → Nat → Bool} (hs : ∀ a b, f a b = true → f' b a = true) : (arI f).length ≤ (arI f').length := by
  unfold arI
  rw [List.length_map, List.length_map, ← List.length_map (f := swN)]
  have nd : ((arw f).map swN).Nodup := by
    refine List.Pairwise.map _ (fun a b hab e => hab ?_) arw_nd
    have e1 : a.2 = b.2 := congrArg Prod.fst e
    have e2 : a.1 = b.1 := congrArg Prod.snd e
    exact Prod.ext e2 e1
  refine nodup_leO nd fun x hx => ?_
  obtain ⟨⟨a, b⟩, hy, rfl⟩ := List.mem_map.1 hx
  obtain ⟨h1, h2, h3⟩ := mem_arw.1 hy
  exact mem_arw.2 ⟨h2, h1, hs _ _ h3⟩
/-- The class of an arrow turned is the class, turned. -/
theorem cls_sw {L : List Bool} (s : SymR L) {x : Nat × Nat} (hx : in7 x) (a b : Nat) : rat (clsR L x) a b = true ↔ rat (clsR L (swN x)) b a = true := by
  rw [clsR_iff hx, clsR_iff (show (swN x).1 < 7 ∧ (swN x).2 < 7 from ⟨hx.2, hx.1⟩)]
  exact ⟨fun h => h.inv s.gr, fun h => h.inv s.gr⟩
theorem cls_len {L : List Bool} (s : SymR L) {x : Nat × Nat} (hx : in7 x) : (arI (rat (clsR L x))).length = (arI (rat (clsR L (swN x)))).length :=
  Nat.le_antisymm (arw_swl fun a b h => (cls_sw s hx a b).1 h) (arw_swl fun a b h => (cls_sw s hx b a).2 h)
theorem ord_same {L F : List Bool} (s : SymR L) (o : Ord (Er L) (Er F)) {x : Nat × Nat} (hx : rat L x.1 x.2 = true) {a b : Nat} (h : Rch (Er L) x.1 x.2 a b) : rat F a b = rat F x.1 x.2 := by
  rw [Bool.eq_iff_iff]
  exact ⟨fun k => o.cls s.gr k (h.symm s.gr hx), fun k => o.cls s.gr k h⟩
structure CallsGa (fs : T EF) : Prop extends CallsCl fs where
  c11 : fs.get (K.ofNat 11) = some f11
  c18 : fs.get (K.ofNat 18) = some f18
  c23 : fs.get (K.ofNat 23) = some f23
  c24 : fs.get (K.ofNat 24) = some f24
  c40 : fs.get (K.ofNat 40) = some f40
  c54 : fs.get (K.ofNat 54) = some f54
  aw : ∀ h P, CallP fs (.fn (K.ofNat 22) []) [] h P = P (.b true) h
def f7_I (h0 : H) (m : Nat) (e o : V) (b : Bool) (n : Nat) (i : Nat) (fr : Fr) (h1 : H) : Prop := i ≤ n ∧ Grow h0.nx.nat h0 h1 ∧ fr.get (K.ofNat 5) = some (.i .i64 (m : Int)) ∧ fr.get (K.ofNat 6) = some (e) ∧ fr.get (K.ofNat 7) = some (o) ∧ fr.get (K.ofNat 8) = some (.b b) ∧ fr.get (K.ofNat 13) = some (.i .i64 (i : Int))
def f7_J (h0 : H) (m : Nat) (e o u1 u2 : V) (b : Bool) (n : Nat) (i : Nat) (id14 : K) (kk : Nat) (fr : Fr) (h1 : H) : Prop := kk ≤ n ∧ Grow h0.nx.nat h0 h1 ∧ fr.get (K.ofNat 5) = some (.i .i64 (m : Int)) ∧ fr.get (K.ofNat 6) = some (e) ∧ fr.get (K.ofNat 7) = some (o) ∧ fr.get (K.ofNat 8) = some (.b b) ∧ fr.get (K.ofNat 13) = some (.i .i64 (i : Int)) ∧ fr.get (K.ofNat 14) = some (.p id14 0) ∧ fr.get (K.ofNat 15) = some (u1) ∧ fr.get (K.ofNat 17) = some (u2) ∧ fr.get (K.ofNat 19) = some (.i .i64 (kk : Int))
theorem f7_ret {n : Int} {v : V} {l : List (Int × Int)} (k : CallsGa fs) (hv : Srp h v l) (hc : HC h) : Ret fs f7 [.i .i64 n, v] h fun r h' => r = .b true ∧ Grow h.nx.nat h h' := by
  apply ret_of rfl
  show W fs none f7_c _ _ _
  unfold f7_c
  have o7 : Int.ofNat 7 = ((7 : Nat) : Int) := rfl
  simp (disch := omega) only [f7_r0, f7_r1, w_reg, w_seq, seqK_n, x_nil, x_mv, x_as, x_call, ev_t, ev_c, evs_nil, evs_cons, getV_some, putD_some, frame_2, getK_set, Nat.reduceEqDiff, ↓reduceIte, of7]
  refine (callP_0 (ef := f11) k.c11 rfl (f11_ret (n := n) (w := 7) hv (by omega) (by omega) hc)).mono ?_
  rintro r h1 ⟨m, e, g, rfl, hm7, hg, he, hoe, gr1⟩
  have hc1 := gr1.hc hc
  simp (disch := omega) only [f7_r2, w_reg, w_seq, seqK_n, x_nil, x_mv, x_as, x_ext, x_call, kx, rvP_ok, okv_some, ev_t, ev_c, evs_nil, evs_cons, getV_some, putD_some, onTup_t, nth0, nth1, getK_set, Nat.reduceEqDiff, ↓reduceIte]
  refine (callP_0 (ef := f23) k.c23 rfl (f23_ret k.toCallsOr hg he.srpo hc1)).mono ?_
  rintro r h2 ⟨b, F, o, rfl, hF, ho, hoo, gr2⟩
  have hc2 := gr2.hc hc1
  have gA := gr1.trans (gr2.low gr1.nx)
  have he2 := he.grow hc1 gr2
  simp (disch := omega) only [f7_r3, w_reg, w_seq, seqK_n, x_nil, x_mv, x_as, x_ext, x_call, kx, rvP_ok, okv_some, ev_t, ev_c, evs_nil, evs_cons, getV_some, putD_some, onTup_t, nth0, nth1, nth2, getK_set, Nat.reduceEqDiff, ↓reduceIte]
  refine (callP_0 (ef := f24) k.c24 rfl (f24_ret k.toCallsCl hg he2.srpo hc2)).mono ?_
  rintro r h3 ⟨uc, f, rfl, hf, gr3⟩
  have hc3 := gr3.hc hc2
  have gB := gA.trans (gr3.low gA.nx)
  have he3 := he2.grow hc2 gr3
  have ho3 := ho.grow hc2 gr3
  have hsy := symR_g hg
  have hbf : keyEq (.one none) (.b b) (.b f) = some false := by
    cases b with
    | true =>
      cases f with
      | true => exact absurd ((hF.yes rfl).cf hsy.gr) (hf.1 rfl)
      | false => rfl
    | false =>
      cases f with
      | true => rfl
      | false => exact absurd (hf.2 (hF.no rfl).2) (by simp)
  have ne0 : decide ((0 : Int) ≠ 0) = false := rfl
  have hlb := arI_len (g := g)
  have hlen := he3.len
  simp (disch := omega) only [f7_r4, f7_r6, w_skip, w_reg, w_seq, w_cond, w_block, seqK_n, ckB_b, cbB_b, okG_b, asG_f, true_and, x_nil, x_g, x_mv, x_as, x_pick, x_bin, x_eqk, x_ext, kx, rvP_ok, okv_some, ev_t, ev_c, getV_some, putD_some, bin_neq, pick_b, onTup_t, oGet_s, nth0, nth1, nth2, of0, getK_set, Nat.reduceEqDiff, ↓reduceIte, Bool.false_eq_true, Bool.not_false, ne0, hbf]
  refine W_loop (f7_I h3 m e o b (arI g).length) (fun i => (arI g).length - i) ?_ 0 ⟨by omega, Grow.refl _ _, by simp (disch := omega) only [getK_set, Nat.reduceEqDiff, ↓reduceIte, and_self, Int.natCast_zero]⟩
  rintro i fr h4 ⟨hi, hG, g5, g6, g7, g8, g13⟩
  have hc4 := hG.hc hc3
  unfold f7_l1
  by_cases hlt : i < (arI g).length
  · have d0 : decide ((i : Int) < ((arI g).length : Int)) = true := decide_eq_true (by omega)
    have he4 := he3.grow hc3 hG
    have ho4 := ho3.grow hc3 hG
    obtain ⟨id, q, p1, p2, _⟩ := he4.srpo.at2 hlt
    obtain ⟨x1, x2, hx1, hx2, hxg, hx⟩ := mem_arI.1 (List.getElem_mem hlt)
    have p2 : loadV h4 (.p id q) (many? 2) = .ok (aV (x1, x2)) h4 := by rw [hx] at p2; exact p2
    have hxG : rat (gR (arI g)) x1 x2 = true := (gR_arI hg).2 (by unfold sy; rw [hxg]; rfl)
    have hxG2 : rat (gR (arI g)) x2 x1 = true := hsy.gr.sym _ _ hxG
    obtain ⟨hst, gC, c7, n5⟩ := arr_var (h := h4) (x := x1) (y := x2)
    simp (disch := omega) only [f7_r7, f7_r8, w_skip, w_reg, w_seq, w_cond, w_block, seqK_n, ckB_b, cbB_b, true_and, x_nil, x_mv, x_alloc, x_ldn, x_st, x_bin, x_iads, x_len, kx, rvP_ok, okv_some, ev_t, getV_some, putD_some, putD_none, bin_lss, of0, getK_set, Nat.reduceEqDiff, ↓reduceIte, g6, g13, hlen, d0, p1, p2, hst]
    generalize (h4.new (.cells 2 [.i .i64 0, .i .i64 0])).put h4.nx (.cells 2 [.i .i64 (x1 : Int), .i .i64 (x2 : Int)]) = h5 at *
    have hc5 := gC.hc hc4
    have he5 := he4.grow hc4 gC
    have l5 := ldn2 c7
    have hav : V.agg [.i .i64 (x1 : Int), .i .i64 (x2 : Int)] = aV (x1, x2) := rfl
    simp (disch := omega) only [f7_r9, x_mv, x_ldn, x_call, kx, rvP_ok, ev_t, ev_c, evs_nil, evs_cons, getV_some, putD_some, getK_set, Nat.reduceEqDiff, ↓reduceIte, g5, g6, l5, hav]
    refine (callP_0 (ef := f18) k.c18 rfl (f18_ret (x := (x1, x2)) k.toCallsCl k.c54 hg he5.srpo hxG hc5)).mono ?_
    rintro r h6 ⟨u1, rfl, hs1, ho1, gr6⟩
    have hc6 := gr6.hc hc5
    have he6 := he5.grow hc5 gr6
    have c6 := (gr6.old h4.nx (by omega)).trans c7
    have l60 := ld20 c6
    have l61 := ld21 c6
    have hav2 : V.agg [.i .i64 (x2 : Int), .i .i64 (x1 : Int)] = aV (x2, x1) := rfl
    simp (disch := omega) only [f7_r10, w_reg, w_seq, seqK_n, x_nil, x_mv, x_as, x_build, x_ld, x_iadr, x_ext, x_call, kx, rvP_ok, okv_some, ev_t, ev_c, evs_nil, evs_cons, getV_some, putD_some, onTup_t, onP_p, oGet_s, nth0, nth1, cells1_i, of0, of1, getK_set, Nat.reduceEqDiff, ↓reduceIte, fill_2, set_2, ix2_0, ix2_1, g5, g6, l60, l61, fill_2, set_2, hav2]
    refine (callP_0 (ef := f18) k.c18 rfl (f18_ret (x := (x2, x1)) k.toCallsCl k.c54 hg he6.srpo hxG2 hc6)).mono ?_
    rintro r h7 ⟨u2, rfl, hs2, ho2, gr7⟩
    have hc7 := gr7.hc hc6
    have hs1 := hs1.grow hc6 gr7
    have c7_ := (gr7.old h4.nx (by have := gr6.nx; omega)).trans c6
    have hlc : (arI (rat (clsR (gR (arI g)) (x1, x2)))).length = (arI (rat (clsR (gR (arI g)) (x2, x1)))).length := cls_len hsy (x := (x1, x2)) ⟨hx1, hx2⟩
    have hl1 := hs1.len
    have hl2 := hs2.len
    rw [← hlc] at hl2
    have hb1 := arI_len (g := rat (clsR (gR (arI g)) (x1, x2)))
    have hb2 := arI_len (g := rat (clsR (gR (arI g)) (x2, x1)))
    have hb3 := arI_len (g := rat F)
    have gG : Grow h3.nx.nat h3 h7 := hG.trans ((gC.low hG.nx).trans ((gr6.low (by have := hG.nx; omega)).trans (gr7.low (by have := hG.nx; have := gr6.nx; omega))))
    have mne : decide (((arI (rat (clsR (gR (arI g)) (x1, x2)))).length : Int) ≠ ((arI (rat (clsR (gR (arI g)) (x1, x2)))).length : Int)) = false := by simp
    have ho7 := ho3.grow hc3 gG
    simp (disch := omega) only [f7_r11, f7_r13, w_skip, w_reg, w_seq, w_cond, w_block, seqK_n, ckB_b, cbB_b, okG_b, asG_f, true_and, x_nil, x_g, x_mv, x_as, x_pick, x_bin, x_ext, x_len, kx, rvP_ok, okv_some, ev_t, ev_c, getV_some, putD_some, bin_neq, pick_b, onTup_t, nth0, nth1, of0, getK_set, Nat.reduceEqDiff, ↓reduceIte, Bool.false_eq_true, Bool.not_false, ne0, hl1, hl2, mne]
    refine W_loop (f7_J h7 m e o u1 u2 b (arI (rat (clsR (gR (arI g)) (x1, x2)))).length i h4.nx) (fun kk => (arI (rat (clsR (gR (arI g)) (x1, x2)))).length - kk) ?_ 0 ⟨by omega, Grow.refl _ _, by simp (disch := omega) only [getK_set, Nat.reduceEqDiff, ↓reduceIte, g5, g6, g7, g8, g13, and_self, Int.natCast_zero]⟩
    clear g5 g6 g7 g8 g13 fr l60 l61 l5 p1 p2 hst
    rintro kk fr h8 ⟨hkk, hG8, g5, g6, g7, g8, g13, g14, g15, g17, g19⟩
    have hc8 := hG8.hc hc7
    unfold f7_l0
    by_cases hlt2 : kk < (arI (rat (clsR (gR (arI g)) (x1, x2)))).length
    · have d1 : decide ((kk : Int) < ((arI (rat (clsR (gR (arI g)) (x1, x2)))).length : Int)) = true := decide_eq_true (by omega)
      obtain ⟨id2, q2, r1, r2, r3, r4⟩ := (hs1.grow hc7 hG8).srpo.at2 hlt2
      obtain ⟨y1, y2, hy1, hy2, hyc, hy⟩ := mem_arI.1 (List.getElem_mem hlt2)
      have hyr := (clsR_iff (x := (x1, x2)) ⟨hx1, hx2⟩).1 hyc
      rw [hy] at r3 r4
      have r2 : loadV h8 (.p id2 q2) (many? 2) = .ok (aV (y1, y2)) h8 := by rw [hy] at r2; exact r2
      have hav3 : V.agg [.i .i64 (y2 : Int), .i .i64 (y1 : Int)] = aV (y2, y1) := rfl
      have hmem : ((y2 : Int), (y1 : Int)) ∈ arI (rat (clsR (gR (arI g)) (x2, x1))) := mem_arI'.2 ⟨hy2, hy1, (cls_sw hsy (x := (x1, x2)) ⟨hx1, hx2⟩ y1 y2).1 hyc⟩
      have z0 : ∀ ff : Nat → RV, idxV (.i .i64 0) 2 ff = ff 0 := fun _ => rfl
      have z1 : ∀ ff : Nat → RV, idxV (.i .i64 1) 2 ff = ff 1 := fun _ => rfl
      have bs1 := hs1.beq
      have bs2 := hs2.beq
      have bso := ho3.beq
      simp (disch := omega) only [f7_r14, f7_r15, w_skip, w_reg, w_draw, w_seq, w_cond, w_block, seqK_n, ckB_b, cbB_b, true_and, x_nil, x_mv, x_bin, x_call, x_len, kx, kg, xg_nil, xg_mv, xg_build, xg_ld, xg_iadr, xg_iads, xd_cons, fresh_nil, stK_s, stay_nil, rvP_ok, okv_some, ev_t, ev_c, evs_nil, evs_cons, getV_some, putD_some, bin_lss, onP_p, oGet_s, cells1_i, of0, of1, getK_set, Nat.reduceEqDiff, ↓reduceIte, fill_2, set_2, g15, g17, g19, hl1, d1, r1, r3, r4, z0, z1, fill_2, set_2, hav3]
      have hG8n := hG8.nx
      have hs1_8 := hs1.grow hc7 hG8
      refine (callP_0 (ef := f40) k.c40 rfl (f40_ret (x := ((y2 : Int), (y1 : Int))) (hs2.grow hc7 hG8).srpo inI_arI (inI_nat hy2 hy1) (by omega) hc8)).mono ?_
      rintro r h9 ⟨rfl, gr9⟩
      have hc9 := gr9.hc hc8
      rw [decide_eq_true hmem]
      have gr9n := gr9.nx
      cases b with
      | false =>
        simp (disch := omega) only [f7_r17, w_skip, w_reg, w_cond, seqK_n, atK_n, loopK_n, ckB_b, cbB_b, okG_b, asG_t, asG_f, true_and, x_nil, x_g, x_mv, x_as, x_bin, kx, kg, xg_nil, xg_g, xg_mv, xg_pick, xg_not, xd_cons, fresh_nil, stK_n, stK_s, stay_nil, stay_cons, rvP_ok, okv_some, ev_t, ev_c, getV_some, putD_some, bin_add, pick_b, onB_b, of1, getK_set, Nat.reduceEqDiff, ↓reduceIte, Bool.false_eq_true, Bool.not_true, Bool.not_false, stay_g, dst_k, isU_u, g8, g19, fw64]
        exact ⟨kk + 1, by omega, by omega, hG8.trans (gr9.low hG8n), by simp (disch := omega) only [getK_set, Nat.reduceEqDiff, ↓reduceIte, g5, g6, g7, g8, g13, g14, g15, g17, and_self, Int.natCast_add, Int.natCast_one]⟩
      | true =>
        have hsm : rat F y1 y2 = rat F x1 x2 := ord_same hsy (hF.yes rfl) (x := (x1, x2)) hxG hyr
        obtain ⟨id3, q3, w1, w2, _⟩ := (hs1_8.grow hc8 gr9).srpo.at2 hlt2
        have w2 : loadV h9 (.p id3 q3) (many? 2) = .ok (aV (y1, y2)) h9 := by rw [hy] at w2; exact w2
        have c9 := (gr9.old h4.nx (by have := gr6.nx; have := gr7.nx; omega)).trans ((hG8.old h4.nx (by have := gr6.nx; have := gr7.nx; omega)).trans c7_)
        have l9 := ldn2 c9
        have gr79 : Grow h7.nx.nat h7 h9 := hG8.trans (gr9.low hG8n)
        have ho9 := ho7.grow hc7 gr79
        have d2 : ∀ {a c : Nat}, a < 7 → c < 7 → decide (((a : Int), (c : Int)) ∈ arI (rat F)) = rat F a c := fun {a c} h1 h2 => by
          rw [Bool.eq_iff_iff, decide_eq_true_eq, mem_arI']
          exact ⟨fun h => h.2.2, fun h => ⟨h1, h2, h⟩⟩
        simp (disch := omega) only [okG_b, asG_t, asG_f, true_and, x_nil, x_g, x_call, kx, kg, xg_nil, xg_g, xg_mv, xg_ldn, xg_not, xg_iads, xd_cons, fresh_nil, stK_s, stay_nil, rvP_ok, ev_t, ev_c, evs_nil, evs_cons, getV_some, putD_some, onB_b, getK_set, Nat.reduceEqDiff, ↓reduceIte, Bool.not_true, Bool.not_false, g7, g8, g14, g15, g19, w1, w2, l9, hav]
        refine (callP_0 (ef := f40) k.c40 rfl (f40_ret (x := ((y1 : Int), (y2 : Int))) ho9.srpo inI_arI (inI_nat hy1 hy2) (by omega) hc9)).mono ?_
        rintro r h10 ⟨rfl, gr10⟩
        have hc10 := gr10.hc hc9
        have gr710 := gr79.trans (gr10.low gr79.nx)
        have l10 := ldn2 ((gr10.old h4.nx (by have := gr6.nx; have := gr7.nx; omega)).trans c9)
        simp (disch := omega) only [okG_b, asG_t, true_and, x_nil, x_g, x_call, kx, xg_nil, xd_cons, fresh_nil, stK_s, stay_nil, stay_cons, again_ok, stay_mv, ev_t, ev_c, evs_nil, evs_cons, getV_some, putD_some, getK_set, Nat.reduceEqDiff, ↓reduceIte, stay_ldn, stay_g, g7, g14, l10, hav, beq_aV, bso]
        refine (callP_0 (ef := f40) k.c40 rfl (f40_ret (x := ((x1 : Int), (x2 : Int))) (ho7.grow hc7 gr710).srpo inI_arI (inI_nat hx1 hx2) (by omega) hc10)).mono ?_
        rintro r h11 ⟨rfl, gr11⟩
        have gr711 := gr710.trans (gr11.low gr710.nx)
        rw [d2 hy1 hy2, d2 hx1 hx2, hsm]
        have kq : keyEq (.one none) (.b (rat F x1 x2)) (.b (rat F x1 x2)) = some true := by cases rat F x1 x2 <;> rfl
        simp (disch := omega) only [f7_r17, w_skip, w_reg, w_seq, w_cond, seqK_n, atK_n, loopK_n, ckB_b, cbB_b, okG_b, asG_t, asG_f, true_and, x_nil, x_mv, x_as, x_bin, kx, kg, xg_nil, xg_g, xg_pick, xg_eqk, xd_cons, fresh_nil, stK_n, stay_nil, rvP_ok, okv_some, ev_t, ev_c, getV_some, putD_some, bin_add, pick_b, oGet_s, of1, getK_set, Nat.reduceEqDiff, ↓reduceIte, Bool.false_eq_true, Bool.not_true, Bool.not_false, g19, kq, fw64]
        exact ⟨kk + 1, by omega, by omega, gr711, by simp (disch := omega) only [getK_set, Nat.reduceEqDiff, ↓reduceIte, g5, g6, g7, g8, g13, g14, g15, g17, and_self, Int.natCast_add, Int.natCast_one]⟩
    · have d1 : decide ((kk : Int) < ((arI (rat (clsR (gR (arI g)) (x1, x2)))).length : Int)) = false := decide_eq_false (by omega)
      simp (disch := omega) only [f7_r14, f7_r18, w_reg, w_seq, w_cond, w_exit, seqK_n, seqK_e, atK_n, atK_e, loopK_n, loopK_e, ckB_b, cbB_b, true_and, x_nil, x_mv, x_as, x_bin, x_len, kx, rvP_ok, okv_some, ev_t, ev_c, getV_some, putD_some, bin_add, bin_lss, of1, getK_set, Nat.reduceEqDiff, ↓reduceIte, Bool.false_eq_true, g13, g15, g19, hl1, d1, fw64]
      exact ⟨i + 1, by omega, hlt, gG.trans (hG8.low gG.nx), by simp (disch := omega) only [getK_set, Nat.reduceEqDiff, ↓reduceIte, g5, g6, g7, g8, and_self, Int.natCast_add, Int.natCast_one]⟩
  · have d0 : decide ((i : Int) < ((arI g).length : Int)) = false := decide_eq_false (by omega)
    simp (disch := omega) only [f7_r7, f7_r19, f7_rs, w_reg, w_seq, w_cond, w_exit, w_ret, seqK_n, seqK_e, atK_e, loopK_e, ckB_b, cbB_b, true_and, retK_r, x_nil, x_mv, x_as, x_bin, x_call, x_len, kx, rvP_ok, okv_some, ev_t, ev_c, evs_nil, getV_some, putD_some, bin_lss, oGet_s, readRs_nil, readRs_t, retV_1, Option.some.injEq, exists_eq_left', getK_set, Nat.reduceEqDiff, ↓reduceIte, Bool.false_eq_true, g6, g13, hlen, d0, k.aw, true_and]
    exact gB.trans (hG.low gB.nx)
end
end Go.Ev
