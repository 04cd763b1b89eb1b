/-
  Orders: the number of orders of a graph, counted (countOrders, Count).
  Orders: the reference's IsOrder.
  Orders: the reference's Count.
  Orders: the reference's Count, run.
  Orders: the law OrdersCounts.
-/
import Derived.Test.YtdmnejhjlmeodaaPg
namespace Go.Ev
open Go Go.RowKit
noncomputable def f90_r0 : List EOper := [⟨(some (K.ofNat 4)), none, .box 49 (.t (K.ofNat 0))⟩, ⟨(some (K.ofNat 5)), none, .box 49 (.t (K.ofNat 1))⟩, ⟨(some (K.ofNat 6)), none, .as (.c (.i .i64 (.ofNat 0)))⟩]
noncomputable def f90_r1 : List Stage := [⟨[⟨(some (K.ofNat 11)), none, .ldn 49 (.t (K.ofNat 2))⟩, ⟨(some (K.ofNat 12)), none, .ldn 49 (.t (K.ofNat 4))⟩, ⟨(some (K.ofNat 15)), none, .ldn 49 (.t (K.ofNat 4))⟩], [], (some ⟨(some (K.ofNat 13)), none, .call (.c (.fn (K.ofNat 70) [])) [(.t (K.ofNat 12))]⟩), []⟩, ⟨[], [⟨(some (K.ofNat 11)), none, .ldn 49 (.t (K.ofNat 2))⟩, ⟨(some (K.ofNat 15)), none, .ldn 49 (.t (K.ofNat 4))⟩], (some ⟨(some (K.ofNat 14)), none, .call (.c (.fn (K.ofNat 81) [])) [(.t (K.ofNat 11)), (.t (K.ofNat 13))]⟩), []⟩, ⟨[], [⟨(some (K.ofNat 15)), none, .ldn 49 (.t (K.ofNat 4))⟩], (some ⟨(some (K.ofNat 16)), none, .call (.c (.fn (K.ofNat 92) [])) [(.t (K.ofNat 15))]⟩), []⟩, ⟨[], [], (some ⟨(some (K.ofNat 17)), none, .call (.c (.fn (K.ofNat 91) [])) [(.t (K.ofNat 14)), (.t (K.ofNat 16))]⟩), []⟩, ⟨[⟨(some (K.ofNat 18)), none, .not (.t (K.ofNat 17))⟩], [], none, []⟩]
noncomputable def f90_r2 : List EOper := [⟨(some (K.ofNat 6)), none, .as (.c (.i .i64 (.ofNat 0)))⟩]
noncomputable def f90_r3 : List EOper := [⟨(some (K.ofNat 20)), none, .ldn 49 (.t (K.ofNat 5))⟩, ⟨(some (K.ofNat 21)), none, .call (.c (.fn (K.ofNat 87) [])) [(.t (K.ofNat 20))]⟩, ⟨(some (K.ofNat 19)), none, .mv (.t (K.ofNat 21))⟩, ⟨(some (K.ofNat 22)), none, .ext (.t (K.ofNat 19)) 0⟩, ⟨(some (K.ofNat 23)), none, .ext (.t (K.ofNat 19)) 1⟩, ⟨(some (K.ofNat 7)), none, .alloc 2 [(.i .i64 (.ofNat 0)), (.i .i64 (.ofNat 0))]⟩, ⟨none, none, .st 2 (.t (K.ofNat 7)) (.t (K.ofNat 22))⟩, ⟨(some (K.ofNat 8)), none, .as (.t (K.ofNat 23))⟩]
noncomputable def f90_r4 : List EOper := [⟨(some (K.ofNat 24)), none, .mv (.t (K.ofNat 8))⟩, ⟨(some (K.ofNat 25)), none, .not (.t (K.ofNat 24))⟩]
noncomputable def f90_r5 : List EOper := [⟨(some (K.ofNat 6)), none, .as (.c (.i .i64 (.ofNat 1)))⟩]
noncomputable def f90_r6 : List EOper := [⟨(some (K.ofNat 26)), none, .ldn 49 (.t (K.ofNat 2))⟩, ⟨(some (K.ofNat 27)), none, .ldn 2 (.t (K.ofNat 7))⟩, ⟨(some (K.ofNat 28)), none, .call (.c (.fn (K.ofNat 57) [])) [(.t (K.ofNat 26)), (.t (K.ofNat 27))]⟩, ⟨(some (K.ofNat 9)), none, .alloc 49 (List.replicate 49 (.b false))⟩, ⟨none, none, .st 49 (.t (K.ofNat 9)) (.t (K.ofNat 28))⟩]
noncomputable def f90_r7 : List EOper := [⟨(some (K.ofNat 29)), none, .ldn 49 (.t (K.ofNat 9))⟩, ⟨(some (K.ofNat 30)), none, .call (.c (.fn (K.ofNat 70) [])) [(.t (K.ofNat 29))]⟩, ⟨(some (K.ofNat 10)), none, .alloc 49 (List.replicate 49 (.b false))⟩, ⟨none, none, .st 49 (.t (K.ofNat 10)) (.t (K.ofNat 30))⟩]
noncomputable def f90_r8 : List Stage := [⟨[⟨(some (K.ofNat 31)), none, .ldn 49 (.t (K.ofNat 5))⟩, ⟨(some (K.ofNat 32)), none, .ldn 49 (.t (K.ofNat 9))⟩, ⟨(some (K.ofNat 33)), none, .ldn 49 (.t (K.ofNat 10))⟩, ⟨(some (K.ofNat 34)), none, .bslice 2 49 (List.replicate 98 (.b false)) [(0, 49, (.t (K.ofNat 32))), (49, 49, (.t (K.ofNat 33)))]⟩], [], (some ⟨(some (K.ofNat 35)), none, .call (.c (.fn (K.ofNat 69) [])) [(.t (K.ofNat 34))]⟩), [(K.ofNat 34)]⟩, ⟨[], [⟨(some (K.ofNat 31)), none, .ldn 49 (.t (K.ofNat 5))⟩], (some ⟨(some (K.ofNat 36)), none, .call (.c (.fn (K.ofNat 81) [])) [(.t (K.ofNat 31)), (.t (K.ofNat 35))]⟩), []⟩, ⟨[], [], (some ⟨none, none, .st 49 (.t (K.ofNat 5)) (.t (K.ofNat 36))⟩), []⟩, ⟨[], [], none, []⟩]
noncomputable def f90_r9 : List Stage := [⟨[⟨(some (K.ofNat 37)), none, .ld (.t (K.ofNat 3))⟩, ⟨(some (K.ofNat 38)), none, .ldn 49 (.t (K.ofNat 4))⟩, ⟨(some (K.ofNat 39)), none, .ldn 49 (.t (K.ofNat 9))⟩, ⟨(some (K.ofNat 40)), none, .bslice 2 49 (List.replicate 98 (.b false)) [(0, 49, (.t (K.ofNat 38))), (49, 49, (.t (K.ofNat 39)))]⟩, ⟨(some (K.ofNat 42)), none, .ldn 49 (.t (K.ofNat 5))⟩, ⟨(some (K.ofNat 44)), none, .ld (.t (K.ofNat 3))⟩, ⟨(some (K.ofNat 45)), none, .ldn 49 (.t (K.ofNat 4))⟩, ⟨(some (K.ofNat 46)), none, .ldn 49 (.t (K.ofNat 10))⟩, ⟨(some (K.ofNat 47)), none, .bslice 2 49 (List.replicate 98 (.b false)) [(0, 49, (.t (K.ofNat 45))), (49, 49, (.t (K.ofNat 46)))]⟩, ⟨(some (K.ofNat 49)), none, .ldn 49 (.t (K.ofNat 5))⟩], [], (some ⟨(some (K.ofNat 41)), none, .call (.c (.fn (K.ofNat 69) [])) [(.t (K.ofNat 40))]⟩), [(K.ofNat 40), (K.ofNat 47)]⟩, ⟨[], [⟨(some (K.ofNat 37)), none, .ld (.t (K.ofNat 3))⟩, ⟨(some (K.ofNat 42)), none, .ldn 49 (.t (K.ofNat 5))⟩, ⟨(some (K.ofNat 44)), none, .ld (.t (K.ofNat 3))⟩, ⟨(some (K.ofNat 45)), none, .ldn 49 (.t (K.ofNat 4))⟩, ⟨(some (K.ofNat 46)), none, .ldn 49 (.t (K.ofNat 10))⟩, ⟨(some (K.ofNat 47)), none, .bslice 2 49 (List.replicate 98 (.b false)) [(0, 49, (.t (K.ofNat 45))), (49, 49, (.t (K.ofNat 46)))]⟩, ⟨(some (K.ofNat 49)), none, .ldn 49 (.t (K.ofNat 5))⟩], (some ⟨(some (K.ofNat 43)), none, .call (.t (K.ofNat 37)) [(.t (K.ofNat 41)), (.t (K.ofNat 42))]⟩), []⟩, ⟨[], [⟨(some (K.ofNat 44)), none, .ld (.t (K.ofNat 3))⟩, ⟨(some (K.ofNat 45)), none, .ldn 49 (.t (K.ofNat 4))⟩, ⟨(some (K.ofNat 46)), none, .ldn 49 (.t (K.ofNat 10))⟩, ⟨(some (K.ofNat 47)), none, .bslice 2 49 (List.replicate 98 (.b false)) [(0, 49, (.t (K.ofNat 45))), (49, 49, (.t (K.ofNat 46)))]⟩, ⟨(some (K.ofNat 49)), none, .ldn 49 (.t (K.ofNat 5))⟩], (some ⟨(some (K.ofNat 48)), none, .call (.c (.fn (K.ofNat 69) [])) [(.t (K.ofNat 47))]⟩), []⟩, ⟨[], [⟨(some (K.ofNat 44)), none, .ld (.t (K.ofNat 3))⟩, ⟨(some (K.ofNat 49)), none, .ldn 49 (.t (K.ofNat 5))⟩], (some ⟨(some (K.ofNat 50)), none, .call (.t (K.ofNat 44)) [(.t (K.ofNat 48)), (.t (K.ofNat 49))]⟩), []⟩, ⟨[⟨(some (K.ofNat 51)), none, .bin .add (.t (K.ofNat 43)) (.t (K.ofNat 50))⟩], [], (some ⟨(some (K.ofNat 6)), none, .as (.t (K.ofNat 51))⟩), []⟩, ⟨[], [], none, []⟩]
noncomputable def f90_c : EC := (.seq (.reg f90_r0) (.seq (.seq (.draw f90_r1) (.cond (.t (K.ofNat 18)) (.seq (.reg f90_r2) .ret) .skip)) (.seq (.reg f90_r3) (.seq (.seq (.reg f90_r4) (.cond (.t (K.ofNat 25)) (.seq (.reg f90_r5) .ret) .skip)) (.seq (.reg f90_r6) (.seq (.reg f90_r7) (.seq (.draw f90_r8) (.seq (.draw f90_r9) .ret))))))))
noncomputable def f90 : EF := ⟨52, [.tmp (K.ofNat 6)], f90_c, none⟩
theorem f90_rs : f90.rs = [.tmp (K.ofNat 6)] := of_eq_true (eq_self _)
noncomputable def f64_r0 : List EOper := [⟨(some (K.ofNat 1)), none, .box 49 (.t (K.ofNat 0))⟩, ⟨(some (K.ofNat 2)), none, .as (.c (.i .i64 (.ofNat 0)))⟩]
noncomputable def f64_r1 : List EOper := [⟨(some (K.ofNat 3)), none, .alloc 1 [.fnil]⟩]
noncomputable def f64_r2 : List EOper := [⟨(some (K.ofNat 4)), none, .mkfn (K.ofNat 90) [(.t (K.ofNat 1)), (.t (K.ofNat 3))]⟩, ⟨none, none, .st 1 (.t (K.ofNat 3)) (.t (K.ofNat 4))⟩]
noncomputable def f64_r3 : List EOper := [⟨(some (K.ofNat 5)), none, .ld (.t (K.ofNat 3))⟩, ⟨(some (K.ofNat 6)), none, .build (List.replicate 49 (.b false)) []⟩, ⟨(some (K.ofNat 7)), none, .ldn 49 (.t (K.ofNat 1))⟩, ⟨(some (K.ofNat 8)), none, .call (.t (K.ofNat 5)) [(.t (K.ofNat 6)), (.t (K.ofNat 7))]⟩, ⟨(some (K.ofNat 2)), none, .as (.t (K.ofNat 8))⟩]
noncomputable def f64_c : EC := (.seq (.reg f64_r0) (.seq (.reg f64_r1) (.seq (.reg f64_r2) (.seq (.reg f64_r3) .ret))))
noncomputable def f64 : EF := ⟨9, [.tmp (K.ofNat 2)], f64_c, none⟩
theorem f64_rs : f64.rs = [.tmp (K.ofNat 2)] := of_eq_true (eq_self _)
noncomputable def f31_r0 : List EOper := [⟨(some (K.ofNat 4)), none, .as (.c (.i .i64 (.ofNat 0)))⟩, ⟨(some (K.ofNat 5)), none, .as (.c (.i .i64 (.ofNat 0)))⟩]
noncomputable def f31_r1 : List EOper := [⟨(some (K.ofNat 7)), none, .mv (.t (K.ofNat 0))⟩, ⟨(some (K.ofNat 8)), none, .mv (.t (K.ofNat 1))⟩, ⟨(some (K.ofNat 9)), none, .call (.c (.fn (K.ofNat 47) [])) [(.t (K.ofNat 7)), (.t (K.ofNat 8))]⟩, ⟨(some (K.ofNat 6)), none, .as (.t (K.ofNat 9))⟩]
noncomputable def f31_r2 : List EOper := [⟨(some (K.ofNat 10)), none, .mv (.t (K.ofNat 6))⟩, ⟨(some (K.ofNat 11)), none, .bin .neq (.t (K.ofNat 10)) (.c (.i .i64 (.ofNat 0)))⟩]
noncomputable def f31_r3 : List EOper := [⟨(some (K.ofNat 12)), none, .mv (.t (K.ofNat 6))⟩, ⟨(some (K.ofNat 4)), none, .as (.c (.i .i64 (.ofNat 0)))⟩, ⟨(some (K.ofNat 5)), none, .as (.t (K.ofNat 12))⟩]
noncomputable def f31_r4 : List EOper := [⟨(some (K.ofNat 13)), none, .mv (.t (K.ofNat 0))⟩, ⟨(some (K.ofNat 14)), none, .bin .gtr (.t (K.ofNat 13)) (.c (.i .i64 (.ofNat 6)))⟩]
noncomputable def f31_r5 : List EOper := [⟨(some (K.ofNat 4)), none, .as (.c (.i .i64 (.ofNat 0)))⟩, ⟨(some (K.ofNat 5)), none, .as (.c (.i .i64 (.ofNat 1)))⟩]
noncomputable def f31_r6 : List EOper := [⟨(some (K.ofNat 15)), none, .mv (.t (K.ofNat 1))⟩, ⟨(some (K.ofNat 16)), none, .call (.c (.fn (K.ofNat 48) [])) [(.t (K.ofNat 15))]⟩, ⟨(some (K.ofNat 17)), none, .call (.c (.fn (K.ofNat 64) [])) [(.t (K.ofNat 16))]⟩, ⟨(some (K.ofNat 4)), none, .as (.t (K.ofNat 17))⟩, ⟨(some (K.ofNat 5)), none, .as (.c (.i .i64 (.ofNat 0)))⟩]
noncomputable def f31_c : EC := (.seq (.reg f31_r0) (.seq (.seq (.reg f31_r1) (.seq (.reg f31_r2) (.cond (.t (K.ofNat 11)) (.seq (.reg f31_r3) .ret) .skip))) (.seq (.seq (.reg f31_r4) (.cond (.t (K.ofNat 14)) (.seq (.reg f31_r5) .ret) .skip)) (.seq (.reg f31_r6) .ret))))
noncomputable def f31 : EF := ⟨18, [.tmp (K.ofNat 4), .tmp (K.ofNat 5)], f31_c, none⟩
theorem f31_rs : f31.rs = [.tmp (K.ofNat 4), .tmp (K.ofNat 5)] := of_eq_true (eq_self _)
section
variable {fs : T EF} {h h' : H} {fr : Fr}
theorem stay_two {k ka kb id : K} {L M : List Bool} (h1 : fr.get k = some (.sl id 0 2 49)) (h2 : fr.get ka = some (rV L)) (h3 : fr.get kb = some (rV M)) (hL : L.length = 49) (hM : M.length = 49) (hg : h.get id = .cells (2 * 49) (L.map V.b ++ M.map V.b)) :
    stays fs goNo fr h ⟨some k, none, .bslice 2 49 (List.replicate 98 (.b false)) [(0, 49, .t ka), (49, 49, .t kb)]⟩ = true := by
  have c1 := rC_cells hL
  have c2 := rC_cells hM
  show litOk fr h 2 49 (List.replicate 98 (.b false)) [(0, 49, .t ka), (49, 49, .t kb)] (getV (fr.get k)) = true
  rw [h1]
  show (Nat.beq 0 0 && Nat.beq 2 2 && Nat.beq 49 49 && (h.get id).onW false fun m cs => Nat.beq m (2 * 49) && oGet (fillE fr (List.replicate 98 (.b false)) [(0, 49, .t ka), (49, 49, .t kb)]) false fun cs' => beqL cs cs') = true
  rw [hg]
  have hf : fillE fr (List.replicate 98 (.b false)) [(0, 49, .t ka), (49, 49, .t kb)] = some (L.map V.b ++ M.map V.b) := by
    have ea : ev fr (.t ka) = rV L := by show getV (fr.get ka) = _; rw [h2]; rfl
    have eb : ev fr (.t kb) = rV M := by show getV (fr.get kb) = _; rw [h3]; rfl
    rw [fill_c, ea, c1]
    show fillE fr (setMany (List.replicate 98 (.b false)) 0 (L.map V.b)) [(49, 49, .t kb)] = _
    rw [fill_c, eb, c2]
    show fillE fr (setMany (setMany (List.replicate 98 (.b false)) 0 (L.map V.b)) 49 (M.map V.b)) [] = _
    rw [fill_e, set98a hL, set98b hL hM]
  show (true && true && true && (Nat.beq (2 * 49) (2 * 49) && oGet (fillE fr (List.replicate 98 (.b false)) [(0, 49, .t ka), (49, 49, .t kb)]) false fun cs' => beqL (L.map V.b ++ M.map V.b) cs')) = true
  rw [hf, ← List.map_append]
  show (true && true && true && (Nat.beq (2 * 49) (2 * 49) && beqL ((L ++ M).map V.b) ((L ++ M).map V.b))) = true
  rw [beqL_b]; rfl
theorem fresh_two {h0 : H} {k1 k2 : K} {n sz n' sz' : Nat} {x y : Blk} (hg : fr.get k1 = some (.sl h0.nx 0 n sz)) (hg2 : fr.get k2 = some (.sl (h0.new x).nx 0 n' sz')) : isFresh h0 ((h0.new x).new y) fr [k1, k2] = true := by
  have n1 : (h0.new x).nx.nat = h0.nx.nat + 1 := nx_new h0 x
  have n2 : ((h0.new x).new y).nx.nat = (h0.new x).nx.nat + 1 := nx_new _ y
  show freshL h0.nx.nat ((h0.new x).new y).nx.nat (oGet (slId (getV (fr.get k1))) (idsOf fr [k2]) fun id => id :: idsOf fr [k2]) = true
  rw [hg]
  show freshL h0.nx.nat ((h0.new x).new y).nx.nat (h0.nx :: (oGet (slId (getV (fr.get k2))) [] fun id => [id])) = true
  rw [hg2]
  show (Nat.ble h0.nx.nat h0.nx.nat && Nat.blt h0.nx.nat ((h0.new x).new y).nx.nat && (!(h0.nx.beq (h0.new x).nx) && true) && (Nat.ble h0.nx.nat (h0.new x).nx.nat && Nat.blt (h0.new x).nx.nat ((h0.new x).new y).nx.nat && true && true)) = true
  have hne : h0.nx.beq (h0.new x).nx = false := by
    cases e : h0.nx.beq (h0.new x).nx with
    | false => rfl
    | true => have := congrArg K.nat (K.beq_eq e); omega
  rw [hne, Nat.ble_eq_true_of_le (Nat.le_refl _), show Nat.blt h0.nx.nat ((h0.new x).new y).nx.nat = true from Nat.ble_eq_true_of_le (by omega), Nat.ble_eq_true_of_le (show h0.nx.nat ≤ (h0.new x).nx.nat by omega), show Nat.blt (h0.new x).nx.nat ((h0.new x).new y).nx.nat = true from Nat.ble_eq_true_of_le (by omega)]
  rfl
theorem beq_fn {k a b : K} : beqV (.fn k [.p a 0, .p b 0]) (.fn k [.p a 0, .p b 0]) = true := by
  show (K.beq k k && (beqV (.p a 0) (.p a 0) && (beqV (.p b 0) (.p b 0) && true))) = true
  rw [K.beq_refl, beq_p, beq_p]; rfl
theorem turn_cls {G : List Bool} (sy : SymR G) {x : Nat × Nat} (hx : in7 x) : turnR (clsR G x) = clsR G (swN x) := by
  refine rel_ext rl_len clsR_len fun a b _ _ => ?_
  rw [Bool.eq_iff_iff, turnR_iff, clsR_iff hx, clsR_iff (show (swN x).1 < 7 ∧ (swN x).2 < 7 from ⟨hx.2, hx.1⟩)]
  exact ⟨fun h => h.inv sy.gr, fun h => h.inv sy.gr⟩
structure CallsNo (fs : T EF) : Prop extends CallsOr fs where
  c64 : fs.get (K.ofNat 64) = some f64
  c90 : fs.get (K.ofNat 90) = some f90
theorem f90_ret {G : List Bool} {idr idc : K} (k : CallsNo fs) (sy : SymR G) : ∀ (m : Nat) (C D : List Bool) (h : H), cntT D = m → CtI G C D → h.get idr = rC G → h.get idc = .cells 1 [.fn (K.ofNat 90) [.p idr 0, .p idc 0]] → HC h → Ret fs f90 [rV C, rV D, .p idr 0, .p idc 0] h fun r h' => r = .i .i64 (nOrd G (Er C) : Int) ∧ Grow h.nx.nat h h' := by
  intro m
  induction m using Nat.strongRecOn with
  | ind m ih =>
  intro C D h hm ci er ec hc
  have hG := sy.len
  have hC := ci.lc
  have hD := ci.ld
  apply ret_of rfl
  show W fs none f90_c _ _ _
  unfold f90_c
  have lr : idr.nat < h.nx.nat := hc.cells er
  have lc : idc.nat < h.nx.nat := hc.cells ec
  have c1 := rC_cells hC
  have c2 := rC_cells hD
  have n1 := nx_new h (.cells 49 (C.map V.b))
  have g1 : Grow h.nx.nat h (h.new (.cells 49 (C.map V.b))) := Grow.new (Nat.le_refl _) _
  have e1 : (h.new (.cells 49 (C.map V.b))).get h.nx = rC C := get_new_same
  simp (disch := omega) only [f90_r0, w_reg, w_draw, w_seq, seqK_n, x_nil, x_as, x_box, kx, rvP_ok, ev_t, ev_c, getV_some, putD_some, oGet_s, frame_4, of0, getK_set, Nat.reduceEqDiff, ↓reduceIte, c1, c2]
  generalize h.new (.cells 49 (C.map V.b)) = h1 at *
  have n2 := nx_new h1 (.cells 49 (D.map V.b))
  have g2 : Grow h1.nx.nat h1 (h1.new (.cells 49 (D.map V.b))) := Grow.new (Nat.le_refl _) _
  have e2 : (h1.new (.cells 49 (D.map V.b))).get h1.nx = rC D := get_new_same
  generalize h1.new (.cells 49 (D.map V.b)) = h2 at *
  have gA : Grow h.nx.nat h h2 := g1.trans (g2.low (by omega))
  have hc2 := gA.hc hc
  have aC := (g2.old h.nx (by omega)).trans e1
  have aG := (gA.old idr lr).trans er
  have l1 := rC_ldn hC aC
  have lG := rC_ldn hG aG
  have hT : (turnR C).length = 49 := rl_len
  have hW : (woR G (turnR C)).length = 49 := rl_len
  have hS : (spR C).length = 49 := rl_len
  have k70 := k.n70 C
  have k81 := k.n81 G (turnR C)
  have k92 := k.n92 C
  have k91 := k.n91 (woR G (turnR C)) (spR C)
  cases hcv : cvB (woR G (turnR C)) (spR C) with
  | false =>
    simp (disch := omega) only [f90_r1, f90_r2, f90_rs, w_reg, w_seq, w_cond, w_ret, seqK_n, seqK_r, ckB_b, cbB_b, true_and, retK_r, x_nil, x_as, x_call, kx, kg, xg_nil, xg_ldn, xg_not, xd_cons, fresh_nil, stK_n, stK_s, stay_nil, stay_cons, again_ok, rvP_ok, ev_t, ev_c, evs_nil, evs_cons, getV_some, putD_some, onB_b, oGet_s, readRs_nil, readRs_t, retV_1, of0, Option.some.injEq, exists_eq_left', getK_set, Nat.reduceEqDiff, ↓reduceIte, Bool.not_false, stay_ldn, l1, lG, beq_rV, k70 _ _ hC, k81 _ _ hG hT, k92 _ _ hC, k91 _ _ hW hS, hcv]
    exact ⟨by rw [CtI.zero hG hcv]; rfl, gA⟩
  | true =>
    have l2 := rC_ldn hD e2
    have k87 := k.n87 D
    obtain ⟨hst, gB, c7, n5⟩ := arr_var (h := h2) (x := (frX D).1) (y := (frX D).2)
    replace hst : storeV (h2.new (.cells 2 [.i .i64 0, .i .i64 0])) 2 (.p h2.nx 0) (aV (frX D)) = _ := hst
    simp (disch := omega) only [f90_r1, f90_r3, w_skip, w_reg, w_seq, w_cond, seqK_n, ckB_b, cbB_b, true_and, x_nil, x_mv, x_as, x_alloc, x_ldn, x_st, x_ext, x_call, kx, kg, xg_nil, xg_ldn, xg_not, xd_cons, fresh_nil, stK_n, stK_s, stay_nil, stay_cons, again_ok, rvP_ok, okv_some, ev_t, ev_c, evs_nil, evs_cons, getV_some, putD_some, putD_none, onB_b, onTup_t, nth0, nth1, of0, getK_set, Nat.reduceEqDiff, ↓reduceIte, Bool.false_eq_true, Bool.not_true, stay_ldn, l1, lG, beq_rV, k70 _ _ hC, k81 _ _ hG hT, k92 _ _ hC, k91 _ _ hW hS, hcv, l2, k87 _ _ hD, frV_eq, hst]
    generalize (h2.new (.cells 2 [.i .i64 0, .i .i64 0])).put h2.nx (.cells 2 [.i .i64 ((frX D).1 : Int), .i .i64 ((frX D).2 : Int)]) = h3 at *
    have gA3 := gA.trans (gB.low gA.nx)
    have hc3 := gB.hc hc2
    cases hf : frO D with
    | none =>
      simp (disch := omega) only [f90_r4, f90_r5, f90_rs, w_reg, w_seq, w_cond, w_ret, seqK_n, seqK_r, ckB_b, cbB_b, true_and, retK_r, x_nil, x_mv, x_as, x_not, kx, rvP_ok, ev_t, ev_c, getV_some, putD_some, onB_b, oGet_s, readRs_nil, readRs_t, retV_1, of1, Option.some.injEq, exists_eq_left', getK_set, ↓reduceIte, Bool.not_false, Option.isSome_none]
      exact ⟨by rw [ci.one sy.gr hcv hf]; rfl, gA3⟩
    | some x =>
      have hx : frX D = x := by unfold frX; rw [hf]; rfl
      obtain ⟨hx1, hx2, hxD⟩ := frO_some hf
      rw [hx] at c7
      have hxG := ci.sd _ _ hxD
      have hx7 := rat_lt hxG
      have l7 := ldn2 c7
      have hav : V.agg [.i .i64 (x.1 : Int), .i .i64 (x.2 : Int)] = aV x := rfl
      have lG3 := rC_ldn hG ((gA3.old idr lr).trans er)
      have k57 := k.n57 G x
      have hK : (clsR G x).length = 49 := clsR_len
      have hKT : (turnR (clsR G x)).length = 49 := rl_len
      have s9 := rC_stn hK rl_len (M := rl fun _ _ => false) (h := h3.new (.cells 49 (List.replicate 49 (.b false)))) (id := h3.nx) (by rw [rl_false]; exact get_new_same)
      have n9 := nx_new h3 (.cells 49 (List.replicate 49 (.b false)))
      have g9 : Grow h3.nx.nat h3 ((h3.new (.cells 49 (List.replicate 49 (.b false)))).put h3.nx (rC (clsR G x))) := (Grow.new (Nat.le_refl _) _).trans (Grow.put (Nat.le_refl _) (by omega) _)
      have e9 : ((h3.new (.cells 49 (List.replicate 49 (.b false)))).put h3.nx (rC (clsR G x))).get h3.nx = rC (clsR G x) := get_put_same
      have n9' : ((h3.new (.cells 49 (List.replicate 49 (.b false)))).put h3.nx (rC (clsR G x))).nx.nat = h3.nx.nat + 1 := n9
      simp (disch := omega) only [f90_r4, f90_r6, w_skip, w_reg, w_seq, w_cond, seqK_n, ckB_b, cbB_b, true_and, x_nil, x_mv, x_alloc, x_ldn, x_st, x_not, x_call, kx, rvP_ok, ev_t, ev_c, evs_nil, evs_cons, getV_some, putD_some, putD_none, onB_b, getK_set, Nat.reduceEqDiff, ↓reduceIte, Bool.false_eq_true, Bool.not_true, Option.isSome_some, lG3, l7, hav, k57 _ _ hG hx7, s9]
      generalize (h3.new (.cells 49 (List.replicate 49 (.b false)))).put h3.nx (rC (clsR G x)) = h4 at *
      have l4 := rC_ldn hK e9
      have k70b := k.n70 (clsR G x)
      have s10 := rC_stn hKT rl_len (M := rl fun _ _ => false) (h := h4.new (.cells 49 (List.replicate 49 (.b false)))) (id := h4.nx) (by rw [rl_false]; exact get_new_same)
      have n10 := nx_new h4 (.cells 49 (List.replicate 49 (.b false)))
      have g10 : Grow h4.nx.nat h4 ((h4.new (.cells 49 (List.replicate 49 (.b false)))).put h4.nx (rC (turnR (clsR G x)))) := (Grow.new (Nat.le_refl _) _).trans (Grow.put (Nat.le_refl _) (by omega) _)
      have e10 : ((h4.new (.cells 49 (List.replicate 49 (.b false)))).put h4.nx (rC (turnR (clsR G x)))).get h4.nx = rC (turnR (clsR G x)) := get_put_same
      have n10' : ((h4.new (.cells 49 (List.replicate 49 (.b false)))).put h4.nx (rC (turnR (clsR G x)))).nx.nat = h4.nx.nat + 1 := n10
      simp (disch := omega) only [f90_r7, w_draw, w_seq, seqK_n, x_nil, x_alloc, x_ldn, x_st, x_call, kx, rvP_ok, ev_t, ev_c, evs_nil, evs_cons, getV_some, putD_some, putD_none, getK_set, Nat.reduceEqDiff, ↓reduceIte, l4, k70b _ _ hK, s10]
      generalize (h4.new (.cells 49 (List.replicate 49 (.b false)))).put h4.nx (rC (turnR (clsR G x))) = h5 at *
      have hc4 := g9.hc hc3
      have hc5 := g10.hc hc4
      have gB3 := gB.nx
      have gA5 : Grow h.nx.nat h h5 := gA3.trans ((g9.low gA3.nx).trans (g10.low (by have := gA3.nx; omega)))
      have b5 : h5.get h1.nx = rC D := (g10.old _ (by omega)).trans ((g9.old _ (by omega)).trans ((gB.old _ (by omega)).trans e2))
      have b4 : h5.get h.nx = rC C := (g10.old _ (by omega)).trans ((g9.old _ (by omega)).trans ((gB.old _ (by omega)).trans aC))
      have b9 : h5.get h3.nx = rC (clsR G x) := (g10.old _ (by omega)).trans e9
      have cK := rC_cells hK
      have cKT := rC_cells hKT
      simp (disch := omega) only [f90_r8, true_and, x_call, kg, xg_nil, xg_ldn, xg_bslice, xd_cons, stK_s, stay_nil, rvP_ok, ev_t, ev_c, evs_nil, evs_cons, getV_some, putD_some, oGet_s, Option.some.injEq, exists_eq_left', getK_set, Nat.reduceEqDiff, ↓reduceIte, fill_0, rC_ldn hD b5, rC_ldn hK b9, rC_ldn hKT e10, fill_c, cK, cKT, set98a hK, set98b hK hKT, hc5.dead]
      refine ⟨fresh_one (n := 2) (sz := 49) (by simp (disch := omega) only [getK_set, ↓reduceIte]), ?_⟩
      have gL : Grow h5.nx.nat h5 (h5.new (.cells (2 * 49) ((clsR G x).map V.b ++ (turnR (clsR G x)).map V.b))) := Grow.new (Nat.le_refl _) _
      have hr6 := Rs.two (h := h5) hK hKT
      have n6 := nx_new h5 (.cells (2 * 49) ((clsR G x).map V.b ++ (turnR (clsR G x)).map V.b))
      have hc6 := gL.hc hc5
      generalize h5.new (.cells (2 * 49) ((clsR G x).map V.b ++ (turnR (clsR G x)).map V.b)) = h6 at *
      have hall : ∀ z ∈ [clsR G x, turnR (clsR G x)], z.length = 49 := fun z hz => by
        simp only [List.mem_cons, List.not_mem_nil, or_false] at hz
        rcases hz with rfl | rfl
        · exact hK
        · exact hKT
      refine (callP_0 (ef := f69) k.c69 rfl (f69_ret k.c84 k.c101 hr6 hall (by simp) hc6)).mono ?_
      rintro r h7 ⟨rfl, g7⟩
      have hc7 := g7.hc hc6
      have g57 : Grow h5.nx.nat h5 h7 := gL.trans (g7.low (by omega))
      have hJ : (jnR [clsR G x, turnR (clsR G x)]).length = 49 := rl_len
      have hN : (woR D (jnR [clsR G x, turnR (clsR G x)])).length = 49 := rl_len
      have b5' := (g57.old h1.nx (by omega)).trans b5
      have l5' := rC_ldn hD b5'
      have k81b := k.n81 D (jnR [clsR G x, turnR (clsR G x)])
      have s7 := rC_stn hN hD b5'
      have gn7 := g57.nx
      simp (disch := omega) only [w_draw, w_seq, seqK_n, true_and, x_nil, x_st, x_call, kx, xg_nil, xd_cons, fresh_nil, stK_n, stK_s, stay_nil, stay_cons, again_ok, rvP_ok, ev_t, ev_c, evs_nil, evs_cons, getV_some, putD_some, putD_none, getK_set, Nat.reduceEqDiff, ↓reduceIte, stay_ldn, l5', beq_rV, k81b _ _ hD hJ, s7]
      have eD : (h7.put h1.nx (rC (woR D (jnR [clsR G x, turnR (clsR G x)])))).get h1.nx = rC (woR D (jnR [clsR G x, turnR (clsR G x)])) := get_put_same
      have o8 : ∀ id : K, id.nat ≠ h1.nx.nat → (h7.put h1.nx (rC (woR D (jnR [clsR G x, turnR (clsR G x)])))).get id = h7.get id := fun id hid => get_put_other fun e => hid (congrArg K.nat e)
      have n8 : (h7.put h1.nx (rC (woR D (jnR [clsR G x, turnR (clsR G x)])))).nx.nat = h7.nx.nat := rfl
      have hc8 : HC (h7.put h1.nx (rC (woR D (jnR [clsR G x, turnR (clsR G x)])))) := (Grow.put (b := 0) (Nat.zero_le _) (by omega) _).hc hc7
      generalize h7.put h1.nx (rC (woR D (jnR [clsR G x, turnR (clsR G x)]))) = h8 at *
      have gA8 : Grow h.nx.nat h h8 := ⟨by have := gA5.nx; omega, fun id hid => (o8 id (by omega)).trans ((g57.old id (by have := gA5.nx; omega)).trans (gA5.old id hid)), fun _ => hc8⟩
      have a4 := (o8 h.nx (by omega)).trans ((g57.old _ (by omega)).trans b4)
      have a9 := (o8 h3.nx (by omega)).trans ((g57.old _ (by omega)).trans b9)
      have a10 := (o8 h4.nx (by omega)).trans ((g57.old _ (by omega)).trans e10)
      have acl := (gA8.old idc lc).trans ec
      have lcl := load_p (off := 0) acl (show nth [V.fn (K.ofNat 90) [.p idr 0, .p idc 0]] 0 = some _ from rfl)
      have gX : Grow h8.nx.nat h8 (h8.new (.cells (2 * 49) (C.map V.b ++ (clsR G x).map V.b))) := Grow.new (Nat.le_refl _) _
      have nX := nx_new h8 (.cells (2 * 49) (C.map V.b ++ (clsR G x).map V.b))
      have hcX := gX.hc hc8
      have rX := Rs.two (h := h8) hC hK
      have gY : Grow (h8.new (.cells (2 * 49) (C.map V.b ++ (clsR G x).map V.b))).nx.nat (h8.new (.cells (2 * 49) (C.map V.b ++ (clsR G x).map V.b))) ((h8.new (.cells (2 * 49) (C.map V.b ++ (clsR G x).map V.b))).new (.cells (2 * 49) (C.map V.b ++ (turnR (clsR G x)).map V.b))) := Grow.new (Nat.le_refl _) _
      have nY := nx_new (h8.new (.cells (2 * 49) (C.map V.b ++ (clsR G x).map V.b))) (.cells (2 * 49) (C.map V.b ++ (turnR (clsR G x)).map V.b))
      have bY : ((h8.new (.cells (2 * 49) (C.map V.b ++ (clsR G x).map V.b))).new (.cells (2 * 49) (C.map V.b ++ (turnR (clsR G x)).map V.b))).get (h8.new (.cells (2 * 49) (C.map V.b ++ (clsR G x).map V.b))).nx = .cells (2 * 49) (C.map V.b ++ (turnR (clsR G x)).map V.b) := get_new_same
      have n78 : h7.nx.nat = h8.nx.nat := n8.symm
      have rY2 := Rs.two (h := h8.new (.cells (2 * 49) (C.map V.b ++ (clsR G x).map V.b))) hC hKT
      have lclX := load_p (off := 0) ((gX.old idc (by have := gA8.nx; omega)).trans acl) (show nth [V.fn (K.ofNat 90) [.p idr 0, .p idc 0]] 0 = some _ from rfl)
      have lDX := rC_ldn hN ((gX.old h1.nx (by omega)).trans eD)
      have lCX := rC_ldn hC ((gX.old h.nx (by omega)).trans a4)
      have lTX := rC_ldn hKT ((gX.old h4.nx (by omega)).trans a10)
      have dX := hcX.dead
      have lDY := rC_ldn hN ((gY.old h1.nx (by omega)).trans ((gX.old h1.nx (by omega)).trans eD))
      simp (disch := omega) only [f90_r9, true_and, x_call, kg, xg_nil, xg_ld, xg_ldn, xg_bslice, xd_cons, stK_s, stay_nil, rvP_ok, ev_t, ev_c, evs_nil, evs_cons, getV_some, putD_some, oGet_s, Option.some.injEq, exists_eq_left', getK_set, Nat.reduceEqDiff, ↓reduceIte, fill_0, lcl, rC_ldn hC a4, rC_ldn hK a9, fill_c, c1, cK, cKT, set98a hC, set98b hC hK, set98b hC hKT, hc8.dead, lclX, lDX, lCX, lTX, dX, lDY]
      refine ⟨fresh_two (n := 2) (sz := 49) (n' := 2) (sz' := 49) (by simp (disch := omega) only [getK_set, Nat.reduceEqDiff, ↓reduceIte]) (by simp (disch := omega) only [getK_set, Nat.reduceEqDiff, ↓reduceIte]), ?_⟩
      generalize h8.new (.cells (2 * 49) (C.map V.b ++ (clsR G x).map V.b)) = hX at *
      generalize hX.new (.cells (2 * 49) (C.map V.b ++ (turnR (clsR G x)).map V.b)) = hY at *
      have hcY := gY.hc hcX
      have g8Y : Grow h8.nx.nat h8 hY := gX.trans (gY.low (by omega))
      have rY : Rs hY (.sl h8.nx 0 2 49) [C, clsR G x] := rX.grow hcX gY
      have hall2 : ∀ z ∈ [C, clsR G x], z.length = 49 := fun z hz => by
        simp only [List.mem_cons, List.not_mem_nil, or_false] at hz
        rcases hz with rfl | rfl
        · exact hC
        · exact hK
      refine (callP_0 (ef := f69) k.c69 rfl (f69_ret k.c84 k.c101 rY hall2 (by simp) hcY)).mono ?_
      rintro r h9 ⟨rfl, gr9⟩
      have hc9 := gr9.hc hcY
      have g89 : Grow h8.nx.nat h8 h9 := g8Y.trans (gr9.low (by omega))
      have gn9 := g89.nx
      have lcl9 := load_p (off := 0) ((g89.old idc (by have := gA8.nx; omega)).trans acl) (show nth [V.fn (K.ofNat 90) [.p idr 0, .p idc 0]] 0 = some _ from rfl)
      have lD9 := rC_ldn hN ((g89.old h1.nx (by omega)).trans eD)
      have lC9 := rC_ldn hC ((g89.old h.nx (by omega)).trans a4)
      have lT9 := rC_ldn hKT ((g89.old h4.nx (by omega)).trans a10)
      have b9Y := (gr9.old hX.nx (by omega)).trans bY
      simp (disch := omega) only [true_and, x_nil, x_call, kx, xg_nil, xd_cons, fresh_nil, stK_s, stay_nil, stay_cons, again_ok, stay_ld, ev_t, evs_nil, evs_cons, getV_some, putD_some, getK_set, Nat.reduceEqDiff, ↓reduceIte, stay_ldn, lcl9, lD9, lC9, lT9, beq_rV, beq_fn]
      refine ⟨by simp only [and_true]; exact stay_two (by simp (disch := omega) only [getK_set, Nat.reduceEqDiff, ↓reduceIte]) (by simp (disch := omega) only [getK_set, Nat.reduceEqDiff, ↓reduceIte]) (by simp (disch := omega) only [getK_set, Nat.reduceEqDiff, ↓reduceIte]) hC hKT b9Y, ?_⟩
      have hlt : cntT (woR D (jnR [clsR G x, turnR (clsR G x)])) < m := by
        rw [← hm]
        exact woR_cnt hD hxD (jn2_iff.2 (.inl ((clsR_iff hx7).2 .refl)))
      refine (callP_of (ef := f90) (args := [rV (jnR [C, clsR G x]), rV (woR D (jnR [clsR G x, turnR (clsR G x)]))]) (caps := [.p idr 0, .p idc 0]) k.c90 rfl (ih _ hlt _ _ h9 rfl (ci.next sy hxD (.inl rfl)) ((g89.old idr (by have := gA8.nx; omega)).trans ((gA8.old idr lr).trans er)) ((g89.old idc (by have := gA8.nx; omega)).trans acl) hc9)).mono ?_
      rintro r h10 ⟨rfl, gr10⟩
      have hc10 := gr10.hc hc9
      have g810 : Grow h8.nx.nat h8 h10 := g89.trans (gr10.low (by omega))
      have gn10 := g810.nx
      have lcl10 := load_p (off := 0) ((g810.old idc (by have := gA8.nx; omega)).trans acl) (show nth [V.fn (K.ofNat 90) [.p idr 0, .p idc 0]] 0 = some _ from rfl)
      have lD10 := rC_ldn hN ((g810.old h1.nx (by omega)).trans eD)
      have lC10 := rC_ldn hC ((g810.old h.nx (by omega)).trans a4)
      have lT10 := rC_ldn hKT ((g810.old h4.nx (by omega)).trans a10)
      have gr9n := gr9.nx
      have b10Y := (gr10.old hX.nx (by omega)).trans b9Y
      simp (disch := omega) only [true_and, x_nil, x_call, kx, xg_nil, xd_cons, fresh_nil, stK_s, stay_nil, stay_cons, again_ok, stay_ld, ev_t, ev_c, evs_nil, evs_cons, getV_some, putD_some, getK_set, Nat.reduceEqDiff, ↓reduceIte, stay_ldn, lcl10, lD10, lC10, lT10, beq_rV, beq_fn]
      refine ⟨by simp only [and_true]; exact stay_two (by simp (disch := omega) only [getK_set, Nat.reduceEqDiff, ↓reduceIte]) (by simp (disch := omega) only [getK_set, Nat.reduceEqDiff, ↓reduceIte]) (by simp (disch := omega) only [getK_set, Nat.reduceEqDiff, ↓reduceIte]) hC hKT b10Y, ?_⟩
      have hall3 : ∀ z ∈ [C, turnR (clsR G x)], z.length = 49 := fun z hz => by
        simp only [List.mem_cons, List.not_mem_nil, or_false] at hz
        rcases hz with rfl | rfl
        · exact hC
        · exact hKT
      refine (callP_0 (ef := f69) k.c69 rfl (f69_ret k.c84 k.c101 ((rY2.grow hcY gr9).grow hc9 gr10) hall3 (by simp) hc10)).mono ?_
      rintro r h11 ⟨rfl, gr11⟩
      have hc11 := gr11.hc hc10
      have g811 : Grow h8.nx.nat h8 h11 := g810.trans (gr11.low gn10)
      have lcl11 := load_p (off := 0) ((g811.old idc (by have := gA8.nx; omega)).trans acl) (show nth [V.fn (K.ofNat 90) [.p idr 0, .p idc 0]] 0 = some _ from rfl)
      have lD11 := rC_ldn hN ((g811.old h1.nx (by omega)).trans eD)
      have ecl : jnR [C, turnR (clsR G x)] = jn2 C (clsR G (swN x)) := by rw [turn_cls sy hx7]; rfl
      rw [ecl]
      simp (disch := omega) only [true_and, x_nil, x_call, kx, xg_nil, xd_cons, fresh_nil, stK_s, stay_nil, stay_cons, again_ok, stay_ld, ev_t, evs_nil, evs_cons, getV_some, putD_some, getK_set, Nat.reduceEqDiff, ↓reduceIte, stay_ldn, lcl11, lD11, beq_rV, beq_fn]
      refine (callP_of (ef := f90) (args := [rV (jn2 C (clsR G (swN x))), rV (woR D (jnR [clsR G x, turnR (clsR G x)]))]) (caps := [.p idr 0, .p idc 0]) k.c90 rfl (ih _ hlt _ _ h11 rfl (ci.next sy hxD (.inr rfl)) ((g811.old idr (by have := gA8.nx; omega)).trans ((gA8.old idr lr).trans er)) ((g811.old idc (by have := gA8.nx; omega)).trans acl) hc11)).mono ?_
      rintro r h12 ⟨rfl, gr12⟩
      have q1 : nOrd G (Er (jnR [C, clsR G x])) ≤ 562949953421312 := nOrd_le
      have q2 : nOrd G (Er (jn2 C (clsR G (swN x)))) ≤ 562949953421312 := nOrd_le
      have gE : Grow h.nx.nat h h12 := gA8.trans ((g811.low gA8.nx).trans (gr12.low (by have := gA8.nx; have := g811.nx; omega)))
      simp (disch := omega) only [f90_rs, w_ret, seqK_n, true_and, retK_r, x_nil, x_as, kx, kg, xg_nil, xg_bin, xd_cons, fresh_nil, stK_n, stK_s, stay_nil, rvP_ok, okv_some, ev_t, getV_some, putD_some, bin_add, oGet_s, readRs_nil, readRs_t, retV_1, Option.some.injEq, exists_eq_left', getK_set, Nat.reduceEqDiff, ↓reduceIte, fw64]
      refine ⟨?_, gE⟩
      rw [ci.split sy hxD, show nOrd G (Er (jn2 C (clsR G x))) = nOrd G (Er (jnR [C, clsR G x])) from rfl]
      exact congrArg _ (by show _ = ((_ + _ : Nat) : Int); omega)
theorem f64_ret {G : List Bool} (k : CallsNo fs) (sy : SymR G) (hc : HC h) : Ret fs f64 [rV G] h fun r h' => r = .i .i64 (nOrd G (fun _ _ => False) : Int) ∧ Grow h.nx.nat h h' := by
  have hG := sy.len
  apply ret_of rfl
  show W fs none f64_c _ _ _
  unfold f64_c
  have c1 := rC_cells hG
  have n1 := nx_new h (.cells 49 (G.map V.b))
  have g1 : Grow h.nx.nat h (h.new (.cells 49 (G.map V.b))) := Grow.new (Nat.le_refl _) _
  have e1 : (h.new (.cells 49 (G.map V.b))).get h.nx = rC G := get_new_same
  simp (disch := omega) only [f64_r0, w_reg, w_seq, seqK_n, x_nil, x_as, x_box, kx, rvP_ok, ev_t, ev_c, getV_some, putD_some, oGet_s, frame_1, of0, getK_set, ↓reduceIte, c1]
  generalize h.new (.cells 49 (G.map V.b)) = h1 at *
  have n3 := nx_new h1 (.cells 1 [.fnil])
  have s3 : storeV (h1.new (.cells 1 [.fnil])) 1 (.p h1.nx 0) (.fn (K.ofNat 90) [.p h.nx 0, .p h1.nx 0]) = .ok undefV ((h1.new (.cells 1 [.fnil])).put h1.nx (.cells 1 [.fn (K.ofNat 90) [.p h.nx 0, .p h1.nx 0]])) := st1 get_new_same rfl
  have g3 : Grow h1.nx.nat h1 ((h1.new (.cells 1 [.fnil])).put h1.nx (.cells 1 [.fn (K.ofNat 90) [.p h.nx 0, .p h1.nx 0]])) := (Grow.new (Nat.le_refl _) _).trans (Grow.put (Nat.le_refl _) (by omega) _)
  have e3 : ((h1.new (.cells 1 [.fnil])).put h1.nx (.cells 1 [.fn (K.ofNat 90) [.p h.nx 0, .p h1.nx 0]])).get h1.nx = .cells 1 [.fn (K.ofNat 90) [.p h.nx 0, .p h1.nx 0]] := get_put_same
  have lcl := load_p (off := 0) e3 (show nth [V.fn (K.ofNat 90) [.p h.nx 0, .p h1.nx 0]] 0 = some _ from rfl)
  have a1 := (g3.old h.nx (by omega)).trans e1
  have lG := rC_ldn hG a1
  simp (disch := omega) only [f64_r1, f64_r2, f64_r3, w_reg, w_seq, seqK_n, x_nil, x_alloc, x_build, x_ld, x_ldn, x_st, x_mkfn, x_call, kx, rvP_ok, ev_t, evs_nil, evs_cons, getV_some, putD_some, putD_none, oGet_s, getK_set, Nat.reduceEqDiff, ↓reduceIte, fill_0, s3, lcl, zero49, lG]
  generalize (h1.new (.cells 1 [.fnil])).put h1.nx (.cells 1 [.fn (K.ofNat 90) [.p h.nx 0, .p h1.nx 0]]) = h3 at *
  have hc3 := g3.hc (g1.hc hc)
  have ci : CtI G (rl fun _ _ => false) G := ⟨rl_len, hG, fun a b h => by have h : rat (rl fun _ _ => false) a b = true := h; rw [rat_rl] at h; simp at h, fun _ _ h => h, fun _ _ h => .inl h⟩
  refine (callP_of (ef := f90) (args := [rV (rl fun _ _ => false), rV G]) (caps := [.p h.nx 0, .p h1.nx 0]) k.c90 rfl (f90_ret k sy _ _ _ h3 rfl ci a1 e3 hc3)).mono ?_
  rintro r h4 ⟨rfl, g4⟩
  simp (disch := omega) only [f64_rs, w_ret, seqK_n, retK_r, x_nil, x_as, kx, ev_t, getV_some, putD_some, oGet_s, readRs_nil, readRs_t, retV_1, Option.some.injEq, exists_eq_left', getK_set, ↓reduceIte]
  refine ⟨?_, g1.trans ((g3.low (by omega)).trans (g4.low (by have := g3.nx; omega)))⟩
  rw [nOrd_congr (C' := fun _ _ => False) (fun a b => ⟨fun h => by have h : rat (rl fun _ _ => false) a b = true := h; rw [rat_rl] at h; simp at h, False.elim⟩)]
theorem f31_ret {n : Nat} {v : V} {g : Nat → Nat → Bool} (k : CallsNo fs) (hg : Gph n g) (hv : Srp h v (arI g)) (hc : HC h) : Ret fs f31 [.i .i64 (n : Int), v] h fun r h' => r = (if n ≤ 6 then .tup [.i .i64 (nOrd (gR (arI g)) (fun _ _ => False) : Int), .i .i64 0] else .tup [.i .i64 0, .i .i64 1]) ∧ Grow h.nx.nat h h' := by
  have hlb := arI_len (g := g)
  apply ret_of rfl
  show W fs none f31_c _ _ _
  unfold f31_c
  simp (disch := omega) only [f31_r0, f31_r1, w_reg, w_seq, seqK_n, x_nil, x_mv, x_as, x_call, ev_t, ev_c, evs_nil, evs_cons, getV_some, putD_some, frame_2, of0, getK_set, Nat.reduceEqDiff, ↓reduceIte]
  refine (callP_0 (ef := f47) k.c47 rfl (f47_ret k.toCallsCk hv (by omega) hc)).mono ?_
  rintro r h1 ⟨rfl, gr1⟩
  rw [chkG_g hg]
  have ne0 : decide ((0 : Int) ≠ 0) = false := rfl
  have hc1 := gr1.hc hc
  by_cases h6 : n ≤ 6
  · have d0 : decide ((n : Int) > 6) = false := decide_eq_false (by omega)
    simp (disch := omega) only [f31_r2, f31_r4, f31_r6, w_skip, w_reg, w_seq, w_cond, seqK_n, ckB_b, cbB_b, true_and, x_nil, x_mv, x_as, x_bin, x_call, kx, rvP_ok, okv_some, ev_t, ev_c, evs_nil, evs_cons, getV_some, putD_some, bin_neq, bin_gtr, of0, of6, getK_set, Nat.reduceEqDiff, ↓reduceIte, Bool.false_eq_true, ne0, d0]
    refine (callP_0 (ef := f48) k.c48 rfl (f48_ret k.toNat2 (hv.grow hc gr1) nd_arI (by omega) hc1)).mono ?_
    rintro r h2 ⟨rfl, gr2⟩
    have hc2 := gr2.hc hc1
    simp (disch := omega) only [x_call, kx, ev_t, ev_c, evs_nil, evs_cons, getV_some, putD_some, getK_set, ↓reduceIte]
    refine (callP_0 (ef := f64) k.c64 rfl (f64_ret k (symR_g hg) hc2)).mono ?_
    rintro r h3 ⟨rfl, gr3⟩
    simp (disch := omega) only [f31_rs, w_ret, seqK_n, retK_r, x_nil, x_as, kx, ev_t, ev_c, getV_some, putD_some, oGet_s, readRs_nil, readRs_t, retV_2, Option.some.injEq, exists_eq_left', getK_set, Nat.reduceEqDiff, ↓reduceIte]
    exact ⟨by rw [if_pos h6], gr1.trans ((gr2.low gr1.nx).trans (gr3.low (by have := gr1.nx; have := gr2.nx; omega)))⟩
  · have d0 : decide ((n : Int) > 6) = true := decide_eq_true (by omega)
    simp (disch := omega) only [f31_r2, f31_r4, f31_r5, f31_rs, w_skip, w_reg, w_seq, w_cond, w_ret, seqK_n, seqK_r, ckB_b, cbB_b, true_and, retK_r, x_nil, x_mv, x_as, x_bin, kx, rvP_ok, okv_some, ev_t, ev_c, getV_some, putD_some, bin_neq, bin_gtr, oGet_s, readRs_nil, readRs_t, retV_2, of0, of1, of6, Option.some.injEq, exists_eq_left', getK_set, Nat.reduceEqDiff, ↓reduceIte, Bool.false_eq_true, ne0, d0]
    exact ⟨by rw [if_neg h6], gr1⟩
end
end Go.Ev
namespace Go.Ev
open Go Go.RowKit
noncomputable def f62_r0 : List EOper := [⟨(some (K.ofNat 2)), none, .box 2 (.t (K.ofNat 0))⟩, ⟨(some (K.ofNat 3)), none, .box 2 (.t (K.ofNat 1))⟩, ⟨(some (K.ofNat 4)), none, .as (.c (.b false))⟩]
noncomputable def f62_r1 : List EOper := [⟨(some (K.ofNat 5)), none, .iadr 2 1 (.t (K.ofNat 2)) (.c (.i .i64 (.ofNat 0)))⟩, ⟨(some (K.ofNat 6)), none, .ld (.t (K.ofNat 5))⟩, ⟨(some (K.ofNat 7)), none, .iadr 2 1 (.t (K.ofNat 3)) (.c (.i .i64 (.ofNat 0)))⟩, ⟨(some (K.ofNat 8)), none, .ld (.t (K.ofNat 7))⟩, ⟨(some (K.ofNat 9)), none, .bin .lss (.t (K.ofNat 6)) (.t (K.ofNat 8))⟩, ⟨(some (K.ofNat 10)), none, .mv (.t (K.ofNat 9))⟩, ⟨(some (K.ofNat 11)), (some ((K.ofNat 10), false)), .iadr 2 1 (.t (K.ofNat 2)) (.c (.i .i64 (.ofNat 0)))⟩, ⟨(some (K.ofNat 12)), (some ((K.ofNat 10), false)), .ld (.t (K.ofNat 11))⟩, ⟨(some (K.ofNat 13)), (some ((K.ofNat 10), false)), .iadr 2 1 (.t (K.ofNat 3)) (.c (.i .i64 (.ofNat 0)))⟩, ⟨(some (K.ofNat 14)), (some ((K.ofNat 10), false)), .ld (.t (K.ofNat 13))⟩, ⟨(some (K.ofNat 15)), (some ((K.ofNat 10), false)), .bin .eql (.t (K.ofNat 12)) (.t (K.ofNat 14))⟩, ⟨(some (K.ofNat 16)), (some ((K.ofNat 10), false)), .mv (.t (K.ofNat 15))⟩, ⟨(some (K.ofNat 17)), (some ((K.ofNat 16), true)), .iadr 2 1 (.t (K.ofNat 2)) (.c (.i .i64 (.ofNat 1)))⟩, ⟨(some (K.ofNat 18)), (some ((K.ofNat 16), true)), .ld (.t (K.ofNat 17))⟩, ⟨(some (K.ofNat 19)), (some ((K.ofNat 16), true)), .iadr 2 1 (.t (K.ofNat 3)) (.c (.i .i64 (.ofNat 1)))⟩, ⟨(some (K.ofNat 20)), (some ((K.ofNat 16), true)), .ld (.t (K.ofNat 19))⟩, ⟨(some (K.ofNat 21)), (some ((K.ofNat 16), true)), .bin .lss (.t (K.ofNat 18)) (.t (K.ofNat 20))⟩, ⟨(some (K.ofNat 22)), (some ((K.ofNat 10), false)), .pick (.t (K.ofNat 16)) (.t (K.ofNat 21)) (.c (.b false))⟩, ⟨(some (K.ofNat 23)), none, .pick (.t (K.ofNat 10)) (.c (.b true)) (.t (K.ofNat 22))⟩, ⟨(some (K.ofNat 4)), none, .as (.t (K.ofNat 23))⟩]
noncomputable def f62_c : EC := (.seq (.reg f62_r0) (.seq (.reg f62_r1) .ret))
noncomputable def f62 : EF := ⟨24, [.tmp (K.ofNat 4)], f62_c, none⟩
theorem f62_rs : f62.rs = [.tmp (K.ofNat 4)] := of_eq_true (eq_self _)
noncomputable def f26_r0 : List EOper := [⟨(some (K.ofNat 4)), none, .as (.c (.b false))⟩]
noncomputable def f26_r1 : List EOper := [⟨(some (K.ofNat 5)), none, .as (.c (.i .i64 (.ofNat 0)))⟩]
noncomputable def f26_r2 : List EOper := [⟨(some (K.ofNat 9)), none, .mv (.t (K.ofNat 5))⟩, ⟨(some (K.ofNat 10)), none, .mv (.t (K.ofNat 1))⟩, ⟨(some (K.ofNat 11)), none, .len (.t (K.ofNat 10))⟩, ⟨(some (K.ofNat 12)), none, .bin .lss (.t (K.ofNat 9)) (.t (K.ofNat 11))⟩]
noncomputable def f26_r3 : List Stage := [⟨[⟨(some (K.ofNat 15)), none, .mv (.t (K.ofNat 1))⟩, ⟨(some (K.ofNat 16)), none, .mv (.t (K.ofNat 5))⟩, ⟨(some (K.ofNat 17)), none, .iads 2 (.t (K.ofNat 15)) (.t (K.ofNat 16))⟩, ⟨(some (K.ofNat 18)), none, .iadr 2 1 (.t (K.ofNat 17)) (.c (.i .i64 (.ofNat 0)))⟩, ⟨(some (K.ofNat 19)), none, .ld (.t (K.ofNat 18))⟩, ⟨(some (K.ofNat 20)), none, .mv (.t (K.ofNat 1))⟩, ⟨(some (K.ofNat 21)), none, .mv (.t (K.ofNat 5))⟩, ⟨(some (K.ofNat 22)), none, .iads 2 (.t (K.ofNat 20)) (.t (K.ofNat 21))⟩, ⟨(some (K.ofNat 23)), none, .iadr 2 1 (.t (K.ofNat 22)) (.c (.i .i64 (.ofNat 1)))⟩, ⟨(some (K.ofNat 24)), none, .ld (.t (K.ofNat 23))⟩], [], (some ⟨(some (K.ofNat 6)), none, .as (.t (K.ofNat 19))⟩), []⟩, ⟨[], [⟨(some (K.ofNat 20)), none, .mv (.t (K.ofNat 1))⟩, ⟨(some (K.ofNat 21)), none, .mv (.t (K.ofNat 5))⟩, ⟨(some (K.ofNat 22)), none, .iads 2 (.t (K.ofNat 20)) (.t (K.ofNat 21))⟩, ⟨(some (K.ofNat 23)), none, .iadr 2 1 (.t (K.ofNat 22)) (.c (.i .i64 (.ofNat 1)))⟩, ⟨(some (K.ofNat 24)), none, .ld (.t (K.ofNat 23))⟩], (some ⟨(some (K.ofNat 7)), none, .as (.t (K.ofNat 24))⟩), []⟩, ⟨[], [], none, []⟩]
noncomputable def f26_r4 : List Stage := [⟨[⟨(some (K.ofNat 25)), none, .mv (.t (K.ofNat 6))⟩, ⟨(some (K.ofNat 26)), none, .bin .lss (.t (K.ofNat 25)) (.c (.i .i64 (.ofNat 0)))⟩, ⟨(some (K.ofNat 27)), none, .mv (.t (K.ofNat 26))⟩, ⟨(some (K.ofNat 28)), (some ((K.ofNat 27), false)), .mv (.t (K.ofNat 7))⟩, ⟨(some (K.ofNat 29)), (some ((K.ofNat 27), false)), .bin .lss (.t (K.ofNat 28)) (.c (.i .i64 (.ofNat 0)))⟩, ⟨(some (K.ofNat 30)), none, .pick (.t (K.ofNat 27)) (.c (.b true)) (.t (K.ofNat 29))⟩, ⟨(some (K.ofNat 31)), none, .mv (.t (K.ofNat 30))⟩, ⟨(some (K.ofNat 32)), (some ((K.ofNat 31), false)), .mv (.t (K.ofNat 6))⟩, ⟨(some (K.ofNat 33)), (some ((K.ofNat 31), false)), .mv (.t (K.ofNat 0))⟩, ⟨(some (K.ofNat 34)), (some ((K.ofNat 31), false)), .bin .geq (.t (K.ofNat 32)) (.t (K.ofNat 33))⟩, ⟨(some (K.ofNat 35)), none, .pick (.t (K.ofNat 31)) (.c (.b true)) (.t (K.ofNat 34))⟩, ⟨(some (K.ofNat 36)), none, .mv (.t (K.ofNat 35))⟩, ⟨(some (K.ofNat 37)), (some ((K.ofNat 36), false)), .mv (.t (K.ofNat 7))⟩, ⟨(some (K.ofNat 38)), (some ((K.ofNat 36), false)), .mv (.t (K.ofNat 0))⟩, ⟨(some (K.ofNat 39)), (some ((K.ofNat 36), false)), .bin .geq (.t (K.ofNat 37)) (.t (K.ofNat 38))⟩, ⟨(some (K.ofNat 40)), none, .pick (.t (K.ofNat 36)) (.c (.b true)) (.t (K.ofNat 39))⟩, ⟨(some (K.ofNat 41)), none, .mv (.t (K.ofNat 40))⟩, ⟨(some (K.ofNat 42)), (some ((K.ofNat 41), false)), .mv (.t (K.ofNat 6))⟩, ⟨(some (K.ofNat 43)), (some ((K.ofNat 41), false)), .mv (.t (K.ofNat 7))⟩, ⟨(some (K.ofNat 44)), (some ((K.ofNat 41), false)), .bin .eql (.t (K.ofNat 42)) (.t (K.ofNat 43))⟩, ⟨(some (K.ofNat 45)), none, .pick (.t (K.ofNat 41)) (.c (.b true)) (.t (K.ofNat 44))⟩, ⟨(some (K.ofNat 46)), none, .mv (.t (K.ofNat 45))⟩, ⟨(some (K.ofNat 47)), (some ((K.ofNat 46), false)), .mv (.t (K.ofNat 1))⟩, ⟨(some (K.ofNat 48)), (some ((K.ofNat 46), false)), .mv (.t (K.ofNat 7))⟩, ⟨(some (K.ofNat 49)), (some ((K.ofNat 46), false)), .mv (.t (K.ofNat 6))⟩, ⟨(some (K.ofNat 50)), (some ((K.ofNat 46), false)), .build [(.i .i64 (.ofNat 0)), (.i .i64 (.ofNat 0))] [(0, 1, (.t (K.ofNat 48))), (1, 1, (.t (K.ofNat 49)))]⟩], [], (some ⟨(some (K.ofNat 51)), (some ((K.ofNat 46), false)), .call (.c (.fn (K.ofNat 40) [])) [(.t (K.ofNat 47)), (.t (K.ofNat 50))]⟩), []⟩, ⟨[⟨(some (K.ofNat 52)), none, .pick (.t (K.ofNat 46)) (.c (.b true)) (.t (K.ofNat 51))⟩, ⟨(some (K.ofNat 53)), none, .mv (.t (K.ofNat 52))⟩, ⟨(some (K.ofNat 54)), (some ((K.ofNat 53), false)), .mv (.t (K.ofNat 5))⟩, ⟨(some (K.ofNat 55)), (some ((K.ofNat 53), false)), .bin .gtr (.t (K.ofNat 54)) (.c (.i .i64 (.ofNat 0)))⟩, ⟨(some (K.ofNat 56)), (some ((K.ofNat 53), false)), .mv (.t (K.ofNat 55))⟩, ⟨(some (K.ofNat 57)), (some ((K.ofNat 56), true)), .mv (.t (K.ofNat 1))⟩, ⟨(some (K.ofNat 58)), (some ((K.ofNat 56), true)), .mv (.t (K.ofNat 5))⟩, ⟨(some (K.ofNat 59)), (some ((K.ofNat 56), true)), .bin .sub (.t (K.ofNat 58)) (.c (.i .i64 (.ofNat 1)))⟩, ⟨(some (K.ofNat 60)), (some ((K.ofNat 56), true)), .iads 2 (.t (K.ofNat 57)) (.t (K.ofNat 59))⟩, ⟨(some (K.ofNat 61)), (some ((K.ofNat 56), true)), .ldn 2 (.t (K.ofNat 60))⟩, ⟨(some (K.ofNat 62)), (some ((K.ofNat 56), true)), .mv (.t (K.ofNat 1))⟩, ⟨(some (K.ofNat 63)), (some ((K.ofNat 56), true)), .mv (.t (K.ofNat 5))⟩, ⟨(some (K.ofNat 64)), (some ((K.ofNat 56), true)), .iads 2 (.t (K.ofNat 62)) (.t (K.ofNat 63))⟩, ⟨(some (K.ofNat 65)), (some ((K.ofNat 56), true)), .ldn 2 (.t (K.ofNat 64))⟩], [], (some ⟨(some (K.ofNat 66)), (some ((K.ofNat 56), true)), .call (.c (.fn (K.ofNat 62) [])) [(.t (K.ofNat 61)), (.t (K.ofNat 65))]⟩), []⟩, ⟨[⟨(some (K.ofNat 67)), (some ((K.ofNat 56), true)), .not (.t (K.ofNat 66))⟩, ⟨(some (K.ofNat 68)), (some ((K.ofNat 53), false)), .pick (.t (K.ofNat 56)) (.t (K.ofNat 67)) (.c (.b false))⟩, ⟨(some (K.ofNat 69)), none, .pick (.t (K.ofNat 53)) (.c (.b true)) (.t (K.ofNat 68))⟩], [], none, []⟩]
noncomputable def f26_r5 : List EOper := [⟨(some (K.ofNat 4)), none, .as (.c (.b false))⟩]
noncomputable def f26_r6 : List EOper := [⟨(some (K.ofNat 8)), none, .as (.c (.i .i64 (.ofNat 0)))⟩]
noncomputable def f26_r7 : List EOper := [⟨(some (K.ofNat 70)), none, .mv (.t (K.ofNat 8))⟩, ⟨(some (K.ofNat 71)), none, .mv (.t (K.ofNat 1))⟩, ⟨(some (K.ofNat 72)), none, .len (.t (K.ofNat 71))⟩, ⟨(some (K.ofNat 73)), none, .bin .lss (.t (K.ofNat 70)) (.t (K.ofNat 72))⟩]
noncomputable def f26_r8 : List EOper := [⟨(some (K.ofNat 76)), none, .mv (.t (K.ofNat 1))⟩, ⟨(some (K.ofNat 77)), none, .mv (.t (K.ofNat 8))⟩, ⟨(some (K.ofNat 78)), none, .iads 2 (.t (K.ofNat 76)) (.t (K.ofNat 77))⟩, ⟨(some (K.ofNat 79)), none, .iadr 2 1 (.t (K.ofNat 78)) (.c (.i .i64 (.ofNat 0)))⟩, ⟨(some (K.ofNat 80)), none, .ld (.t (K.ofNat 79))⟩, ⟨(some (K.ofNat 81)), none, .mv (.t (K.ofNat 7))⟩, ⟨(some (K.ofNat 82)), none, .bin .eql (.t (K.ofNat 80)) (.t (K.ofNat 81))⟩, ⟨(some (K.ofNat 83)), none, .mv (.t (K.ofNat 82))⟩, ⟨(some (K.ofNat 84)), (some ((K.ofNat 83), true)), .mv (.t (K.ofNat 1))⟩, ⟨(some (K.ofNat 85)), (some ((K.ofNat 83), true)), .mv (.t (K.ofNat 6))⟩, ⟨(some (K.ofNat 86)), (some ((K.ofNat 83), true)), .mv (.t (K.ofNat 1))⟩, ⟨(some (K.ofNat 87)), (some ((K.ofNat 83), true)), .mv (.t (K.ofNat 8))⟩, ⟨(some (K.ofNat 88)), (some ((K.ofNat 83), true)), .iads 2 (.t (K.ofNat 86)) (.t (K.ofNat 87))⟩, ⟨(some (K.ofNat 89)), (some ((K.ofNat 83), true)), .iadr 2 1 (.t (K.ofNat 88)) (.c (.i .i64 (.ofNat 1)))⟩, ⟨(some (K.ofNat 90)), (some ((K.ofNat 83), true)), .ld (.t (K.ofNat 89))⟩, ⟨(some (K.ofNat 91)), (some ((K.ofNat 83), true)), .build [(.i .i64 (.ofNat 0)), (.i .i64 (.ofNat 0))] [(0, 1, (.t (K.ofNat 85))), (1, 1, (.t (K.ofNat 90)))]⟩, ⟨(some (K.ofNat 92)), (some ((K.ofNat 83), true)), .call (.c (.fn (K.ofNat 40) [])) [(.t (K.ofNat 84)), (.t (K.ofNat 91))]⟩, ⟨(some (K.ofNat 93)), (some ((K.ofNat 83), true)), .not (.t (K.ofNat 92))⟩, ⟨(some (K.ofNat 94)), none, .pick (.t (K.ofNat 83)) (.t (K.ofNat 93)) (.c (.b false))⟩]
noncomputable def f26_r9 : List EOper := [⟨(some (K.ofNat 4)), none, .as (.c (.b false))⟩]
noncomputable def f26_r10 : List EOper := [⟨(some (K.ofNat 74)), none, .mv (.t (K.ofNat 8))⟩, ⟨(some (K.ofNat 75)), none, .bin .add (.t (K.ofNat 74)) (.c (.i .i64 (.ofNat 1)))⟩, ⟨(some (K.ofNat 8)), none, .as (.t (K.ofNat 75))⟩]
noncomputable def f26_l0 : EC := (.seq (.seq (.reg f26_r7) (.cond (.t (K.ofNat 73)) .skip (.exit 2))) (.seq (.block 3 (.seq (.reg f26_r8) (.cond (.t (K.ofNat 94)) (.seq (.reg f26_r9) .ret) .skip))) (.reg f26_r10)))
noncomputable def f26_r11 : List EOper := [⟨(some (K.ofNat 13)), none, .mv (.t (K.ofNat 5))⟩, ⟨(some (K.ofNat 14)), none, .bin .add (.t (K.ofNat 13)) (.c (.i .i64 (.ofNat 1)))⟩, ⟨(some (K.ofNat 5)), none, .as (.t (K.ofNat 14))⟩]
noncomputable def f26_l1 : EC := (.seq (.seq (.reg f26_r2) (.cond (.t (K.ofNat 12)) .skip (.exit 0))) (.seq (.block 1 (.seq (.draw f26_r3) (.seq (.seq (.draw f26_r4) (.cond (.t (K.ofNat 69)) (.seq (.reg f26_r5) .ret) .skip)) (.seq (.reg f26_r6) (.block 2 (.loop f26_l0)))))) (.reg f26_r11)))
noncomputable def f26_r12 : List EOper := [⟨(some (K.ofNat 4)), none, .as (.c (.b true))⟩]
noncomputable def f26_c : EC := (.seq (.reg f26_r0) (.seq (.seq (.reg f26_r1) (.block 0 (.loop f26_l1))) (.seq (.reg f26_r12) .ret)))
noncomputable def f26 : EF := ⟨95, [.tmp (K.ofNat 4)], f26_c, none⟩
theorem f26_rs : f26.rs = [.tmp (K.ofNat 4)] := of_eq_true (eq_self _)
section
variable {fs : T EF} {h h' : H}
theorem f62_ret {x y : Nat × Nat} (hlt : x.1 < y.1 ∨ (x.1 = y.1 ∧ x.2 < y.2)) (hc : HC h) : Ret fs f62 [aV x, aV y] h fun r h' => r = .b true ∧ Grow h.nx.nat h h' := by
  have _ := hc
  apply ret_of rfl
  show W fs none f62_c _ _ _
  unfold f62_c
  have cx : cellsN 2 (aV x) = some [.i .i64 (x.1 : Int), .i .i64 (x.2 : Int)] := rfl
  have cy : cellsN 2 (aV y) = some [.i .i64 (y.1 : Int), .i .i64 (y.2 : Int)] := rfl
  have n1 := nx_new h (.cells 2 [.i .i64 (x.1 : Int), .i .i64 (x.2 : Int)])
  have g1 : Grow h.nx.nat h (h.new (.cells 2 [.i .i64 (x.1 : Int), .i .i64 (x.2 : Int)])) := Grow.new (Nat.le_refl _) _
  have e1 : (h.new (.cells 2 [.i .i64 (x.1 : Int), .i .i64 (x.2 : Int)])).get h.nx = .cells 2 [.i .i64 (x.1 : Int), .i .i64 (x.2 : Int)] := get_new_same
  simp (disch := omega) only [f62_r0, w_reg, w_seq, seqK_n, x_nil, x_as, x_box, kx, rvP_ok, ev_t, ev_c, getV_some, putD_some, oGet_s, frame_2, getK_set, Nat.reduceEqDiff, ↓reduceIte, cx, cy]
  generalize h.new (.cells 2 [.i .i64 (x.1 : Int), .i .i64 (x.2 : Int)]) = h1 at *
  have n2 := nx_new h1 (.cells 2 [.i .i64 (y.1 : Int), .i .i64 (y.2 : Int)])
  have g2 : Grow h1.nx.nat h1 (h1.new (.cells 2 [.i .i64 (y.1 : Int), .i .i64 (y.2 : Int)])) := Grow.new (Nat.le_refl _) _
  have e2 : (h1.new (.cells 2 [.i .i64 (y.1 : Int), .i .i64 (y.2 : Int)])).get h1.nx = .cells 2 [.i .i64 (y.1 : Int), .i .i64 (y.2 : Int)] := get_new_same
  generalize h1.new (.cells 2 [.i .i64 (y.1 : Int), .i .i64 (y.2 : Int)]) = h2 at *
  have a1 := (g2.old h.nx (by omega)).trans e1
  have l10 := ld20 a1
  have l11 := ld21 a1
  have l20 := ld20 e2
  have l21 := ld21 e2
  have gA : Grow h.nx.nat h h2 := g1.trans (g2.low (by omega))
  by_cases e : x.1 < y.1
  · have d0 : decide ((x.1 : Int) < (y.1 : Int)) = true := decide_eq_true (by omega)
    simp (disch := omega) only [f62_r1, f62_rs, w_ret, seqK_n, okG_b, okG_u, asG_f, asG_u, true_and, retK_r, x_nil, x_g, x_mv, x_as, x_pick, x_ld, x_bin, x_iadr, kx, rvP_ok, okv_some, ev_t, ev_c, getV_some, putD_some, bin_lss, pick_b, onP_p, oGet_s, readRs_nil, readRs_t, retV_1, of0, of1, Option.some.injEq, exists_eq_left', getK_set, Nat.reduceEqDiff, ↓reduceIte, Bool.false_eq_true, Bool.not_true, ix2_0, l10, l20, d0, true_and]
    exact gA
  · have d0 : decide ((x.1 : Int) < (y.1 : Int)) = false := decide_eq_false (by omega)
    have d1 : decide ((x.1 : Int) = (y.1 : Int)) = true := decide_eq_true (by omega)
    have d2 : decide ((x.2 : Int) < (y.2 : Int)) = true := decide_eq_true (by omega)
    simp (disch := omega) only [f62_r1, f62_rs, w_ret, seqK_n, okG_b, asG_t, asG_f, true_and, retK_r, x_nil, x_g, x_mv, x_as, x_pick, x_ld, x_bin, x_iadr, kx, rvP_ok, okv_some, ev_t, ev_c, getV_some, putD_some, bin_eql, bin_lss, pick_b, onP_p, oGet_s, readRs_nil, readRs_t, retV_1, of0, of1, Option.some.injEq, exists_eq_left', getK_set, Nat.reduceEqDiff, ↓reduceIte, Bool.false_eq_true, Bool.not_false, ix2_0, ix2_1, l10, l20, l11, l21, d0, d1, d2, true_and]
    exact gA
def okAt (C : List Bool) (x : Nat × Nat) : Prop := x.1 ≠ x.2 ∧ rat C x.2 x.1 = false ∧ ∀ c, rat C x.2 c = true → rat C x.1 c = true
def isoP (C : List Bool) : Prop := ∀ x : Nat × Nat, rat C x.1 x.2 = true → okAt C x
structure CallsIo (fs : T EF) : Prop where
  c40 : fs.get (K.ofNat 40) = some f40
  c62 : fs.get (K.ofNat 62) = some f62
def f26_I (h0 : H) (n : Nat) (v : V) (C : List Bool) (i : Nat) (fr : Fr) (h1 : H) : Prop := i ≤ (arw (rat C)).length ∧ (∀ (j : Nat) (x : Nat × Nat), j < i → (arw (rat C))[j]? = some x → okAt C x) ∧ Grow h0.nx.nat h0 h1 ∧ fr.get (K.ofNat 0) = some (.i .i64 (n : Int)) ∧ fr.get (K.ofNat 1) = some (v) ∧ fr.get (K.ofNat 5) = some (.i .i64 (i : Int))
def f26_J (h0 : H) (n : Nat) (v : V) (C : List Bool) (i : Nat) (x : Nat × Nat) (kk : Nat) (fr : Fr) (h1 : H) : Prop := kk ≤ (arw (rat C)).length ∧ (∀ (j : Nat) (y : Nat × Nat), j < kk → (arw (rat C))[j]? = some y → y.1 = x.2 → rat C x.1 y.2 = true) ∧ Grow h0.nx.nat h0 h1 ∧ fr.get (K.ofNat 0) = some (.i .i64 (n : Int)) ∧ fr.get (K.ofNat 1) = some (v) ∧ fr.get (K.ofNat 5) = some (.i .i64 (i : Int)) ∧ fr.get (K.ofNat 6) = some (.i .i64 (x.1 : Int)) ∧ fr.get (K.ofNat 7) = some (.i .i64 (x.2 : Int)) ∧ fr.get (K.ofNat 8) = some (.i .i64 (kk : Int))
theorem f26_ret {n : Nat} {v : V} {C : List Bool} (k : CallsIo fs) (hC : ∀ a b, rat C a b = true → a < n ∧ b < n) (hv : Srp h v (arI (rat C))) (hc : HC h) : Ret fs f26 [.i .i64 (n : Int), v] h fun r h' => ∃ bb, r = .b bb ∧ (bb = true ↔ isoP C) ∧ Grow h.nx.nat h h' := by
  have hlb := arI_len (g := rat C)
  have hlw : (arI (rat C)).length = (arw (rat C)).length := by unfold arI; rw [List.length_map]
  apply ret_of rfl
  show W fs none f26_c _ _ _
  unfold f26_c
  have hlen : ∀ h1, lenV v h1 = .ok (.i .i64 ((arw (rat C)).length : Int)) h1 := fun h1 => by rw [hv.len, hlw]
  simp (disch := omega) only [f26_r0, f26_r1, w_reg, w_seq, w_block, seqK_n, x_nil, x_as, ev_c, putD_some, frame_2, of0]
  refine W_loop (f26_I h n v C) (fun i => (arw (rat C)).length - i) ?_ 0 ⟨by omega, fun j x hj => by omega, Grow.refl _ _, by simp (disch := omega) only [getK_set, Nat.reduceEqDiff, ↓reduceIte, and_self, Int.natCast_zero]⟩
  rintro i fr h1 ⟨hi, hok, hG, g0, g1, g5⟩
  have hc1 := hG.hc hc
  have hv1 := hv.grow hc hG
  have hvb := hv.beq
  have z0 : ∀ ff : Nat → RV, idxV (.i .i64 0) 2 ff = ff 0 := fun _ => rfl
  have z1 : ∀ ff : Nat → RV, idxV (.i .i64 1) 2 ff = ff 1 := fun _ => rfl
  unfold f26_l1
  by_cases hlt : i < (arw (rat C)).length
  · have d0 : decide ((i : Int) < ((arw (rat C)).length : Int)) = true := decide_eq_true (by omega)
    obtain ⟨x, hx⟩ : ∃ x, (arw (rat C))[i]? = some x := ⟨_, List.getElem?_eq_getElem hlt⟩
    obtain ⟨xl1, xl2, hxC⟩ := arw_lt (List.mem_of_getElem? hx)
    have hxn := hC _ _ hxC
    obtain ⟨id, q, p1, p2, p3, p4⟩ := hv1.at2 (i := i) (by omega)
    rw [arI_at hx (by omega)] at p3 p4
    have p3 : loadV h1 (.p id (q + 0 * 1)) one? = .ok (.i .i64 (x.1 : Int)) h1 := p3
    have p4 : loadV h1 (.p id (q + 1 * 1)) one? = .ok (.i .i64 (x.2 : Int)) h1 := p4
    have p2 : loadV h1 (.p id q) (many? 2) = .ok (aV x) h1 := by rw [arI_at hx (by omega)] at p2; exact p2
    have a0 : decide ((x.1 : Int) < 0) = false := decide_eq_false (by omega)
    have a1 : decide ((x.2 : Int) < 0) = false := decide_eq_false (by omega)
    have a2 : decide ((x.1 : Int) ≥ (n : Int)) = false := decide_eq_false (by omega)
    have a3 : decide ((x.2 : Int) ≥ (n : Int)) = false := decide_eq_false (by omega)
    by_cases e : x.1 = x.2
    · have a4 : decide ((x.1 : Int) = (x.2 : Int)) = true := decide_eq_true (by omega)
      simp (disch := omega) only [f26_r2, f26_r3, f26_r4, f26_r5, f26_rs, w_skip, w_reg, w_draw, w_seq, w_cond, w_block, w_ret, seqK_n, seqK_r, atK_r, loopK_r, ckB_b, cbB_b, okG_b, okG_u, asG_f, asG_u, true_and, retK_r, x_nil, x_g, x_mv, x_as, x_bin, x_len, kx, kg, xg_nil, xg_g, xg_mv, xg_pick, xg_ld, xg_bin, xg_iadr, xg_iads, xd_cons, fresh_nil, stK_n, stK_s, stay_nil, stay_cons, again_ok, stay_mv, beq_i, stay_iads, stay_ld, beq_p, rvP_ok, okv_some, ev_t, ev_c, getV_some, putD_some, bin_eql, bin_lss, bin_geq, pick_b, onP_p, oGet_s, readRs_nil, readRs_t, retV_1, of0, of1, Option.some.injEq, exists_eq_left', getK_set, Nat.reduceEqDiff, ↓reduceIte, Bool.false_eq_true, Bool.not_true, Bool.not_false, stay_iadr, g0, g1, g5, hlen, d0, p1, p3, p4, z0, z1, hvb, a0, a1, a2, a3, a4]
      exact ⟨false, rfl, ⟨(fun h => by cases h), fun h => absurd e (h x hxC).1⟩, hG⟩
    · have a4 : decide ((x.1 : Int) = (x.2 : Int)) = false := decide_eq_false (by omega)
      have hav : V.agg [.i .i64 (x.2 : Int), .i .i64 (x.1 : Int)] = aV (x.2, x.1) := rfl
      simp (disch := omega) only [f26_r2, f26_r3, f26_r4, w_skip, w_reg, w_draw, w_seq, w_cond, w_block, seqK_n, ckB_b, cbB_b, okG_b, asG_f, true_and, x_nil, x_g, x_mv, x_as, x_bin, x_call, x_len, kx, kg, xg_nil, xg_g, xg_mv, xg_pick, xg_build, xg_ld, xg_bin, xg_iadr, xg_iads, xd_cons, fresh_nil, stK_n, stK_s, stay_nil, stay_cons, again_ok, stay_mv, beq_i, stay_iads, stay_ld, beq_p, rvP_ok, okv_some, ev_t, ev_c, evs_nil, evs_cons, getV_some, putD_some, bin_eql, bin_lss, bin_geq, pick_b, onP_p, oGet_s, cells1_i, of0, of1, getK_set, Nat.reduceEqDiff, ↓reduceIte, Bool.false_eq_true, Bool.not_false, stay_iadr, fill_2, set_2, g0, g1, g5, hlen, d0, p1, p3, p4, z0, z1, hvb, a0, a1, a2, a3, a4, fill_2, set_2, hav]
      refine (callP_0 (ef := f40) k.c40 rfl (f40_ret (x := ((x.2 : Int), (x.1 : Int))) hv1 inI_arI (inI_nat xl2 xl1) (by omega) hc1)).mono ?_
      rintro r h2 ⟨rfl, gr2⟩
      have hc2 := gr2.hc hc1
      have hG2 := hG.trans (gr2.low hG.nx)
      have hv2 := hv.grow hc hG2
      have d2 : decide (((x.2 : Int), (x.1 : Int)) ∈ arI (rat C)) = rat C x.2 x.1 := by
        rw [Bool.eq_iff_iff, decide_eq_true_eq, mem_arI']
        exact ⟨fun h => h.2.2, fun h => ⟨xl2, xl1, h⟩⟩
      rw [d2]
      cases hr : rat C x.2 x.1 with
      | true =>
        simp (disch := omega) only [f26_r5, f26_rs, w_reg, w_seq, w_cond, w_ret, seqK_n, seqK_r, atK_r, loopK_r, ckB_b, cbB_b, okG_b, okG_u, asG_f, asG_u, true_and, retK_r, x_nil, x_g, x_as, kx, kg, xg_nil, xg_g, xg_mv, xg_pick, xd_cons, fresh_nil, stK_n, stK_s, stay_nil, rvP_ok, ev_t, ev_c, getV_some, putD_some, pick_b, oGet_s, readRs_nil, readRs_t, retV_1, Option.some.injEq, exists_eq_left', getK_set, Nat.reduceEqDiff, ↓reduceIte, Bool.false_eq_true, Bool.not_true]
        exact ⟨false, rfl, ⟨(fun h => by cases h), fun h => by have := (h x hxC).2.1; rw [hr] at this; cases this⟩, hG2⟩
      | false =>
        -- the inner loop
        have inner : ∀ (fr : Fr) (h3 : H), Grow h.nx.nat h h3 → fr.get (K.ofNat 0) = some (.i .i64 (n : Int)) ∧ fr.get (K.ofNat 1) = some (v) ∧ fr.get (K.ofNat 5) = some (.i .i64 (i : Int)) ∧ fr.get (K.ofNat 6) = some (.i .i64 (x.1 : Int)) ∧ fr.get (K.ofNat 7) = some (.i .i64 (x.2 : Int)) →
            W fs none (.reg f26_r6) (seqK (W fs none (.block 2 (.loop f26_l0))) (atK 1 (seqK (W fs none (.reg f26_r11)) (loopK (f26_I h n v C) (fun i => (arw (rat C)).length - i) i (atK 0 (seqK (W fs none (.seq (.reg f26_r12) .ret)) (retK f26 fun r h' => ∃ bb, r = .b bb ∧ (bb = true ↔ isoP C) ∧ Grow h.nx.nat h h'))))))) fr h3 := by
          clear g0 g1 g5 fr
          rintro fr h3 hG3 ⟨g0, g1, g5, g6, g7⟩
          simp (disch := omega) only [f26_r6, w_reg, w_block, seqK_n, x_nil, x_as, ev_c, putD_some, of0]
          refine W_loop (f26_J h n v C i x) (fun kk => (arw (rat C)).length - kk) ?_ 0 ⟨by omega, fun j y hj => by omega, hG3, by simp (disch := omega) only [getK_set, Nat.reduceEqDiff, ↓reduceIte, g0, g1, g5, g6, g7, and_self, Int.natCast_zero]⟩
          clear g0 g1 g5 g6 g7 hG3
          rintro kk fr h4 ⟨hkk, hin, hG4, g0, g1, g5, g6, g7, g8⟩
          have hc4 := hG4.hc hc
          have hv4 := hv.grow hc hG4
          unfold f26_l0
          by_cases hlt2 : kk < (arw (rat C)).length
          · have d3 : decide ((kk : Int) < ((arw (rat C)).length : Int)) = true := decide_eq_true (by omega)
            obtain ⟨y, hy⟩ : ∃ y, (arw (rat C))[kk]? = some y := ⟨_, List.getElem?_eq_getElem hlt2⟩
            obtain ⟨yl1, yl2, hyC⟩ := arw_lt (List.mem_of_getElem? hy)
            obtain ⟨id4, q4, w1, _, w3, w4⟩ := hv4.at2 (i := kk) (by omega)
            rw [arI_at hy (by omega)] at w3 w4
            have w3 : loadV h4 (.p id4 (q4 + 0 * 1)) one? = .ok (.i .i64 (y.1 : Int)) h4 := w3
            have w4 : loadV h4 (.p id4 (q4 + 1 * 1)) one? = .ok (.i .i64 (y.2 : Int)) h4 := w4
            by_cases e2 : y.1 = x.2
            · have d4 : decide ((y.1 : Int) = (x.2 : Int)) = true := decide_eq_true (by omega)
              have hav2 : V.agg [.i .i64 (x.1 : Int), .i .i64 (y.2 : Int)] = aV (x.1, y.2) := rfl
              simp (disch := omega) only [f26_r7, f26_r8, w_skip, w_reg, w_seq, w_cond, w_block, seqK_n, ckB_b, cbB_b, okG_b, asG_t, true_and, x_nil, x_g, x_mv, x_build, x_ld, x_bin, x_iadr, x_iads, x_call, x_len, kx, rvP_ok, okv_some, ev_t, ev_c, evs_nil, evs_cons, getV_some, putD_some, bin_eql, bin_lss, onP_p, oGet_s, cells1_i, of0, of1, getK_set, Nat.reduceEqDiff, ↓reduceIte, fill_2, set_2, g1, g6, g7, g8, hlen, d3, w1, z0, z1, w3, w4, d4, fill_2, set_2, hav2]
              refine (callP_0 (ef := f40) k.c40 rfl (f40_ret (x := ((x.1 : Int), (y.2 : Int))) hv4 inI_arI (inI_nat xl1 yl2) (by omega) hc4)).mono ?_
              rintro r h5 ⟨rfl, gr5⟩
              have d5 : decide (((x.1 : Int), (y.2 : Int)) ∈ arI (rat C)) = rat C x.1 y.2 := by
                rw [Bool.eq_iff_iff, decide_eq_true_eq, mem_arI']
                exact ⟨fun h => h.2.2, fun h => ⟨xl1, yl2, h⟩⟩
              rw [d5]
              cases hr2 : rat C x.1 y.2 with
              | true =>
                simp (disch := omega) only [f26_r10, w_skip, w_reg, w_cond, seqK_n, atK_n, loopK_n, ckB_b, cbB_b, okG_b, asG_t, true_and, x_nil, x_g, x_mv, x_as, x_pick, x_bin, x_not, kx, rvP_ok, okv_some, ev_t, ev_c, getV_some, putD_some, bin_add, pick_b, onB_b, of1, getK_set, Nat.reduceEqDiff, ↓reduceIte, Bool.false_eq_true, Bool.not_true, g8, fw64]
                refine ⟨kk + 1, by omega, by omega, fun j z hj hz hz2 => ?_, hG4.trans (gr5.low hG4.nx), by simp (disch := omega) only [getK_set, Nat.reduceEqDiff, ↓reduceIte, g0, g1, g5, g6, g7, and_self, Int.natCast_add, Int.natCast_one]⟩
                by_cases ej : j = kk
                · subst ej; rw [hy] at hz; cases hz; exact hr2
                · exact hin j z (by omega) hz hz2
              | false =>
                simp (disch := omega) only [f26_r9, f26_rs, w_reg, w_seq, w_cond, w_ret, seqK_n, seqK_r, atK_r, loopK_r, ckB_b, cbB_b, okG_b, asG_t, true_and, retK_r, x_nil, x_g, x_as, x_pick, x_not, kx, rvP_ok, ev_t, ev_c, getV_some, putD_some, pick_b, onB_b, oGet_s, readRs_nil, readRs_t, retV_1, Option.some.injEq, exists_eq_left', getK_set, Nat.reduceEqDiff, ↓reduceIte, Bool.not_false]
                refine ⟨false, rfl, ⟨(fun h => by cases h), fun h => ?_⟩, hG4.trans (gr5.low hG4.nx)⟩
                have := (h x hxC).2.2 y.2 (by rw [← e2]; exact hyC)
                rw [hr2] at this; cases this
            · have d4 : decide ((y.1 : Int) = (x.2 : Int)) = false := decide_eq_false (by omega)
              simp (disch := omega) only [f26_r7, f26_r8, f26_r10, w_skip, w_reg, w_seq, w_cond, w_block, seqK_n, atK_n, loopK_n, ckB_b, cbB_b, okG_b, asG_t, true_and, x_nil, x_g, x_mv, x_as, x_pick, x_ld, x_bin, x_iadr, x_iads, x_len, kx, rvP_ok, okv_some, ev_t, ev_c, getV_some, putD_some, bin_add, bin_eql, bin_lss, pick_b, onP_p, of0, of1, getK_set, Nat.reduceEqDiff, ↓reduceIte, Bool.false_eq_true, g1, g7, g8, hlen, d3, w1, z0, w3, d4, fw64]
              refine ⟨kk + 1, by omega, by omega, fun j z hj hz hz2 => ?_, hG4, by simp (disch := omega) only [getK_set, Nat.reduceEqDiff, ↓reduceIte, g0, g1, g5, g6, g7, and_self, Int.natCast_add, Int.natCast_one]⟩
              by_cases ej : j = kk
              · subst ej; rw [hy] at hz; cases hz; exact absurd hz2 e2
              · exact hin j z (by omega) hz hz2
          · have d3 : decide ((kk : Int) < ((arw (rat C)).length : Int)) = false := decide_eq_false (by omega)
            simp (disch := omega) only [f26_r7, f26_r11, w_reg, w_seq, w_cond, w_exit, seqK_n, seqK_e, atK_n, atK_e, loopK_n, loopK_e, ckB_b, cbB_b, true_and, x_nil, x_mv, x_as, x_bin, x_len, kx, rvP_ok, okv_some, ev_t, ev_c, getV_some, putD_some, bin_add, bin_lss, of1, getK_set, Nat.reduceEqDiff, ↓reduceIte, Bool.false_eq_true, g1, g5, g8, hlen, d3, fw64]
            refine ⟨i + 1, by omega, by omega, fun j z hj hz => ?_, hG4, by simp (disch := omega) only [getK_set, Nat.reduceEqDiff, ↓reduceIte, g0, g1, and_self, Int.natCast_add, Int.natCast_one]⟩
            by_cases ej : j = i
            · subst ej
              rw [hx] at hz; cases hz
              refine ⟨e, hr, fun c hcc => ?_⟩
              obtain ⟨jj, hjj, ejj⟩ := List.getElem_of_mem (mem_arw.2 ⟨(rat_lt hcc).1, (rat_lt hcc).2, hcc⟩)
              exact hin jj (x.2, c) (by omega) (by rw [List.getElem?_eq_getElem hjj, ejj]) rfl
            · exact hok j z (by omega) hz
        by_cases hi0 : i = 0
        · have d3 : decide ((i : Int) > 0) = false := decide_eq_false (by omega)
          simp (disch := omega) only [w_skip, w_reg, w_seq, w_cond, seqK_n, ckB_b, cbB_b, okG_b, asG_t, asG_f, true_and, x_nil, x_g, kx, kg, xg_nil, xg_g, xg_mv, xg_pick, xg_bin, xd_cons, fresh_nil, stK_n, stK_s, stay_nil, rvP_ok, okv_some, ev_t, ev_c, getV_some, putD_some, bin_gtr, pick_b, getK_set, Nat.reduceEqDiff, ↓reduceIte, Bool.false_eq_true, Bool.not_false, g5, d3]
          exact inner _ _ hG2 (by simp (disch := omega) only [getK_set, Nat.reduceEqDiff, ↓reduceIte, g0, g1, g5, and_self])
        · have d3 : decide ((i : Int) > 0) = true := decide_eq_true (by omega)
          obtain ⟨i', hi'⟩ : ∃ i', i = i' + 1 := ⟨i - 1, by omega⟩
          obtain ⟨y, hy⟩ : ∃ y, (arw (rat C))[i']? = some y := ⟨_, List.getElem?_eq_getElem (by omega)⟩
          obtain ⟨id4, q4, w1, w2, _, _⟩ := hv2.at2 (i := i') (by omega)
          have w2 : loadV h2 (.p id4 q4) (many? 2) = .ok (aV y) h2 := by rw [arI_at hy (by omega)] at w2; exact w2
          obtain ⟨id5, q5, v1, v2, _, _⟩ := hv2.at2 (i := i) (by omega)
          have v2 : loadV h2 (.p id5 q5) (many? 2) = .ok (aV x) h2 := by rw [arI_at hx (by omega)] at v2; exact v2
          have esub : (i : Int) - 1 = (i' : Int) := by omega
          have hsort := arw_sorted (g := rat C) (i := i') (by omega)
          have ey : (arw (rat C))[i']'(by omega) = y := by
            rw [List.getElem?_eq_getElem (by omega)] at hy; exact Option.some.inj hy
          have ex : (arw (rat C))[i' + 1]'(by omega) = x := by
            have hx' := hx
            rw [hi', List.getElem?_eq_getElem (by omega)] at hx'; exact Option.some.inj hx'
          rw [ey, ex] at hsort
          obtain ⟨yl1, yl2, _⟩ := arw_lt (List.mem_of_getElem? hy)
          simp (disch := omega) only [okG_b, asG_t, asG_f, true_and, x_nil, x_g, x_call, kx, kg, xg_nil, xg_g, xg_mv, xg_pick, xg_ldn, xg_bin, xg_iads, xd_cons, fresh_nil, stK_s, stay_nil, rvP_ok, okv_some, ev_t, ev_c, evs_nil, evs_cons, getV_some, putD_some, bin_sub, bin_gtr, pick_b, getK_set, Nat.reduceEqDiff, ↓reduceIte, Bool.false_eq_true, Bool.not_false, g1, g5, d3, fw64, esub, w1, w2, v1, v2]
          refine (callP_0 (ef := f62) k.c62 rfl (f62_ret (x := y) (y := x) (by omega) hc2)).mono ?_
          rintro r h3 ⟨rfl, gr3⟩
          simp (disch := omega) only [w_skip, w_reg, w_seq, w_cond, seqK_n, ckB_b, cbB_b, okG_b, asG_t, asG_f, true_and, x_nil, kx, kg, xg_nil, xg_g, xg_pick, xg_not, xd_cons, fresh_nil, stK_n, stay_nil, rvP_ok, ev_t, ev_c, getV_some, putD_some, pick_b, onB_b, getK_set, Nat.reduceEqDiff, ↓reduceIte, Bool.false_eq_true, Bool.not_true, Bool.not_false]
          exact inner _ _ (hG2.trans (gr3.low hG2.nx)) (by simp (disch := omega) only [getK_set, Nat.reduceEqDiff, ↓reduceIte, g0, g1, g5, and_self])
  · have d0 : decide ((i : Int) < ((arw (rat C)).length : Int)) = false := decide_eq_false (by omega)
    simp (disch := omega) only [f26_r2, f26_r12, f26_rs, w_reg, w_seq, w_cond, w_exit, w_ret, seqK_n, seqK_e, atK_e, loopK_e, ckB_b, cbB_b, true_and, retK_r, x_nil, x_mv, x_as, x_bin, x_len, kx, rvP_ok, okv_some, ev_t, ev_c, getV_some, putD_some, bin_lss, oGet_s, readRs_nil, readRs_t, retV_1, Option.some.injEq, exists_eq_left', getK_set, Nat.reduceEqDiff, ↓reduceIte, Bool.false_eq_true, g1, g5, hlen, d0]
    refine ⟨true, rfl, ⟨fun _ x hx => ?_, fun _ => rfl⟩, hG⟩
    obtain ⟨j, hj, ej⟩ := List.getElem_of_mem (mem_arw.2 ⟨(rat_lt hx).1, (rat_lt hx).2, hx⟩)
    exact hok j x (by omega) (by rw [List.getElem?_eq_getElem hj, ej])
end
end Go.Ev
namespace Go.Ev
open Go Go.RowKit
section
variable {fs : T EF} {h h' : H}
/-! ### Plain -/
def pC (P : List (Int × Int)) (a b : Nat) : Prop := ((a : Int), (b : Int)) ∈ P
theorem Nd.inI {P : List (Int × Int)} (hn : Nd P) : ∀ x ∈ P, inI x := fun x hx => by
  have := hn x hx
  obtain ⟨x1, x2⟩ := x
  simp only at this
  have e : (x1, x2) = ((x1.toNat : Int), (x2.toNat : Int)) := Prod.ext (by show x1 = (x1.toNat : Int); omega) (by show x2 = (x2.toNat : Int); omega)
  rw [e]
  exact inI_nat (by omega) (by omega)
/-- What is not directed yet. -/
def unD (G : List Bool) (P : List (Int × Int)) : List Bool := rl fun a b => rat G a b && (!decide (((a : Int), (b : Int)) ∈ P) && !decide (((b : Int), (a : Int)) ∈ P))
theorem unD_iff {G : List Bool} {P : List (Int × Int)} {a b : Nat} : rat (unD G P) a b = true ↔ rat G a b = true ∧ ¬ pC P a b ∧ ¬ pC P b a := by
  unfold unD pC
  rw [rat_rl]
  simp only [Bool.and_eq_true, decide_eq_true_eq, Bool.not_eq_true', decide_eq_false_iff_not]
  exact ⟨fun h => h.2, fun h => ⟨rat_lt h.1, h⟩⟩
theorem cntT_sub {A B : List Bool} (hA : A.length = 49) (hB : B.length = 49) (hs : ∀ a b, rat A a b = true → rat B a b = true) {x : Nat × Nat} (h1 : rat B x.1 x.2 = true) (h2 : ¬ rat A x.1 x.2 = true) : cntT A < cntT B := by
  have e : ∀ (M : List Bool) (hM : M.length = 49) (i : Nat) (hi : i < M.length), M[i] = rat M (i / 7) (i % 7) := fun M hM i hi => by
    unfold rat
    rw [decide_eq_true (show i / 7 < 7 by omega), decide_eq_true (show i % 7 < 7 by omega), show 7 * (i / 7) + i % 7 = i by omega, List.getD_eq_getElem?_getD, List.getElem?_eq_getElem hi]
    rfl
  refine (cntT_lt (by rw [hA, hB]) fun i q1 q2 hi => ?_).2 fun eq => h2 (by rw [eq]; exact h1)
  rw [e _ hA] at hi
  rw [e _ hB]
  exact hs _ _ hi
/-- Is no arrow of the first j of the list there turned, before it comes? -/
def okJ (P c : List (Int × Int)) (j : Nat) : Prop := ∀ i (hi : i < c.length), i < j → (c[i].2, c[i].1) ∉ P ++ c.take i
structure CnI (G : List Bool) (P : List (Int × Int)) : Prop where
  nd : Nd P
  sub : ∀ a b, pC P a b → Er G a b
theorem CnI.app {G : List Bool} {P : List (Int × Int)} (k : CnI G P) {x : Nat × Nat} (hx : Er G x.1 x.2) : CnI G (P ++ arI (rat (clsR G x))) := by
  refine ⟨fun z hz => (List.mem_append.1 hz).elim (k.nd z) (nd_arI z), fun a b h => (List.mem_append.1 h).elim (k.sub a b) fun h => ?_⟩
  exact ((clsR_iff (rat_lt hx)).1 (mem_arI'.1 h).2.2).edge hx
theorem pC_app {G : List Bool} {P : List (Int × Int)} {x : Nat × Nat} (hx : Er G x.1 x.2) {a b : Nat} : pC (P ++ arI (rat (clsR G x))) a b ↔ pC P a b ∨ Rch (Er G) x.1 x.2 a b := by
  unfold pC
  rw [List.mem_append, mem_arI', clsR_iff (rat_lt hx)]
  refine or_congr Iff.rfl ⟨fun h => h.2.2, fun h => ?_⟩
  have := rat_lt (h.edge hx)
  exact ⟨this.1, this.2, h⟩
theorem nOrd_bad {G : List Bool} {P : List (Int × Int)} {x : Nat × Nat} (hx : Er G x.1 x.2) (h : ¬ okJ P (arI (rat (clsR G x))) (arI (rat (clsR G x))).length) : nOrd G (fun a b => pC P a b ∨ Rch (Er G) x.1 x.2 a b) = 0 := by
  refine nOrd_zero fun F o hF => h fun i hi _ hm => ?_
  obtain ⟨a, b, _, _, hab, e⟩ := mem_arI.1 (List.getElem_mem hi)
  rw [e] at hm
  have h1 : Er F a b := hF _ _ (.inr ((clsR_iff (rat_lt hx)).1 hab))
  have h2 : pC (P ++ arI (rat (clsR G x))) b a := by
    rcases List.mem_append.1 hm with hm | hm
    · exact List.mem_append_left _ hm
    · exact List.mem_append_right _ (List.mem_of_mem_take hm)
  exact o.one _ _ h1 (hF _ _ ((pC_app hx).1 h2))
theorem unD_app {G : List Bool} {P : List (Int × Int)} {x y : Nat × Nat} (hx : Er G x.1 x.2) (h1 : ¬ pC P x.1 x.2) (h2 : ¬ pC P x.2 x.1) (hy : Er G y.1 y.2) (he : y = x ∨ y = swN x) : cntT (unD G (P ++ arI (rat (clsR G y)))) < cntT (unD G P) := by
  have l1 : (unD G (P ++ arI (rat (clsR G y)))).length = 49 := rl_len
  have l2 : (unD G P).length = 49 := rl_len
  refine cntT_sub (x := x) l1 l2 (fun a b h => ?_) (unD_iff.2 ⟨hx, h1, h2⟩) (fun h => ?_)
  · obtain ⟨q1, q2, q3⟩ := unD_iff.1 h
    exact unD_iff.2 ⟨q1, fun h => q2 ((pC_app hy).2 (.inl h)), fun h => q3 ((pC_app hy).2 (.inl h))⟩
  · obtain ⟨q1, q2, q3⟩ := unD_iff.1 h
    rcases he with rfl | rfl
    · exact q2 ((pC_app hy).2 (.inr .refl))
    · exact q3 ((pC_app hy).2 (.inr .refl))
/-- All edges are directed. -/
theorem iso_ord {G : List Bool} {P : List (Int × Int)} (k : CnI G P) (g : Gr (Er G)) (all : ∀ a b, Er G a b → pC P a b ∨ pC P b a) : (isoP (relR P) → nOrd G (pC P) = 1) ∧ (¬ isoP (relR P) → nOrd G (pC P) = 0) := by
  have hr : ∀ a b, pC P a b ↔ rat (relR P) a b = true := fun a b => (relR_iff k.nd).symm
  constructor
  · intro h
    have hl : (relR P).length = 49 := rl_len
    refine nOrd_one hl ⟨fun a b h1 => k.sub _ _ ((hr _ _).2 h1), fun a b h1 => (all a b h1).imp (hr _ _).1 (hr _ _).1, fun a b h1 h2 => ?_, fun a b c h1 h2 => (h (a, b) h1).2.2 c h2⟩ hr
    have := (h (a, b) h1).2.1
    have h2 : rat (relR P) b a = true := h2
    rw [h2] at this; cases this
  · intro h
    refine nOrd_zero fun F o hF => h fun x hx => ?_
    have hx' := (hr _ _).2 hx
    refine ⟨fun e => ?_, ?_, fun c hc => ?_⟩
    · have := k.sub _ _ hx'
      rw [e] at this; exact g.irr _ this
    · cases e : rat (relR P) x.2 x.1 with
      | false => rfl
      | true => exact absurd (hF _ _ ((hr _ _).2 e)) (o.one _ _ (hF _ _ hx'))
    · have hf := o.tr _ _ _ (hF _ _ hx') (hF _ _ ((hr _ _).2 hc))
      rcases all _ _ (o.sub _ _ hf) with h1 | h1
      · exact (hr _ _).1 h1
      · exact absurd (hF _ _ h1) (o.one _ _ hf)
end
end Go.Ev
namespace Go.Ev
open Go Go.RowKit
noncomputable def f65_r0 : List EOper := [⟨(some (K.ofNat 6)), none, .as (.c (.i .i64 (.ofNat 0)))⟩]
noncomputable def f65_r1 : List EOper := [⟨(some (K.ofNat 7)), none, .as (.c (.i .i64 (.ofNat 0)))⟩]
noncomputable def f65_r2 : List EOper := [⟨(some (K.ofNat 21)), none, .mv (.t (K.ofNat 7))⟩, ⟨(some (K.ofNat 22)), none, .mv (.t (K.ofNat 1))⟩, ⟨(some (K.ofNat 23)), none, .len (.t (K.ofNat 22))⟩, ⟨(some (K.ofNat 24)), none, .bin .lss (.t (K.ofNat 21)) (.t (K.ofNat 23))⟩]
noncomputable def f65_r3 : List EOper := [⟨(some (K.ofNat 27)), none, .mv (.t (K.ofNat 1))⟩, ⟨(some (K.ofNat 28)), none, .mv (.t (K.ofNat 7))⟩, ⟨(some (K.ofNat 29)), none, .iads 2 (.t (K.ofNat 27)) (.t (K.ofNat 28))⟩, ⟨(some (K.ofNat 30)), none, .ldn 2 (.t (K.ofNat 29))⟩, ⟨(some (K.ofNat 8)), none, .alloc 2 [(.i .i64 (.ofNat 0)), (.i .i64 (.ofNat 0))]⟩, ⟨none, none, .st 2 (.t (K.ofNat 8)) (.t (K.ofNat 30))⟩]
noncomputable def f65_r4 : List EOper := [⟨(some (K.ofNat 31)), none, .iadr 2 1 (.t (K.ofNat 8)) (.c (.i .i64 (.ofNat 1)))⟩, ⟨(some (K.ofNat 32)), none, .ld (.t (K.ofNat 31))⟩, ⟨(some (K.ofNat 33)), none, .iadr 2 1 (.t (K.ofNat 8)) (.c (.i .i64 (.ofNat 0)))⟩, ⟨(some (K.ofNat 34)), none, .ld (.t (K.ofNat 33))⟩, ⟨(some (K.ofNat 35)), none, .build [(.i .i64 (.ofNat 0)), (.i .i64 (.ofNat 0))] [(0, 1, (.t (K.ofNat 32))), (1, 1, (.t (K.ofNat 34)))]⟩, ⟨(some (K.ofNat 9)), none, .alloc 2 [(.i .i64 (.ofNat 0)), (.i .i64 (.ofNat 0))]⟩, ⟨none, none, .st 2 (.t (K.ofNat 9)) (.t (K.ofNat 35))⟩]
noncomputable def f65_r5 : List EOper := [⟨(some (K.ofNat 36)), none, .mv (.t (K.ofNat 2))⟩, ⟨(some (K.ofNat 37)), none, .ldn 2 (.t (K.ofNat 8))⟩, ⟨(some (K.ofNat 38)), none, .call (.c (.fn (K.ofNat 40) [])) [(.t (K.ofNat 36)), (.t (K.ofNat 37))]⟩, ⟨(some (K.ofNat 39)), none, .mv (.t (K.ofNat 38))⟩, ⟨(some (K.ofNat 40)), (some ((K.ofNat 39), false)), .mv (.t (K.ofNat 2))⟩, ⟨(some (K.ofNat 41)), (some ((K.ofNat 39), false)), .ldn 2 (.t (K.ofNat 9))⟩, ⟨(some (K.ofNat 42)), (some ((K.ofNat 39), false)), .call (.c (.fn (K.ofNat 40) [])) [(.t (K.ofNat 40)), (.t (K.ofNat 41))]⟩, ⟨(some (K.ofNat 43)), none, .pick (.t (K.ofNat 39)) (.c (.b true)) (.t (K.ofNat 42))⟩]
noncomputable def f65_r6 : List EOper := [⟨(some (K.ofNat 10)), none, .as (.c (.i .i64 (.ofNat 0)))⟩]
noncomputable def f65_r7 : List EOper := [⟨(some (K.ofNat 11)), none, .as (.c (.i .i64 (.ofNat 0)))⟩]
noncomputable def f65_r8 : List EOper := [⟨(some (K.ofNat 44)), none, .mv (.t (K.ofNat 11))⟩, ⟨(some (K.ofNat 45)), none, .bin .lss (.t (K.ofNat 44)) (.c (.i .i64 (.ofNat 2)))⟩]
noncomputable def f65_r9 : List EOper := [⟨(some (K.ofNat 49)), none, .mv (.t (K.ofNat 0))⟩, ⟨(some (K.ofNat 50)), none, .mv (.t (K.ofNat 1))⟩, ⟨(some (K.ofNat 51)), none, .ldn 2 (.t (K.ofNat 8))⟩, ⟨(some (K.ofNat 52)), none, .call (.c (.fn (K.ofNat 21) [])) [(.t (K.ofNat 49)), (.t (K.ofNat 50)), (.t (K.ofNat 51))]⟩, ⟨(some (K.ofNat 48)), none, .mv (.t (K.ofNat 52))⟩, ⟨(some (K.ofNat 53)), none, .ext (.t (K.ofNat 48)) 0⟩, ⟨(some (K.ofNat 54)), none, .ext (.t (K.ofNat 48)) 1⟩, ⟨(some (K.ofNat 12)), none, .as (.t (K.ofNat 53))⟩, ⟨(some (K.ofNat 13)), none, .as (.t (K.ofNat 54))⟩]
noncomputable def f65_r10 : List EOper := [⟨(some (K.ofNat 14)), none, .as (.c (.b true))⟩]
noncomputable def f65_r11 : List EOper := [⟨(some (K.ofNat 15)), none, .as (.c .sn)⟩]
noncomputable def f65_r12 : List EOper := [⟨(some (K.ofNat 55)), none, .mv (.t (K.ofNat 15))⟩, ⟨(some (K.ofNat 56)), none, .mv (.t (K.ofNat 2))⟩, ⟨(some (K.ofNat 57)), none, .app 2 (.t (K.ofNat 55)) (.t (K.ofNat 56))⟩, ⟨(some (K.ofNat 15)), none, .as (.t (K.ofNat 57))⟩]
noncomputable def f65_r13 : List EOper := [⟨(some (K.ofNat 16)), none, .as (.c (.i .i64 (.ofNat 0)))⟩]
noncomputable def f65_r14 : List EOper := [⟨(some (K.ofNat 58)), none, .mv (.t (K.ofNat 16))⟩, ⟨(some (K.ofNat 59)), none, .mv (.t (K.ofNat 12))⟩, ⟨(some (K.ofNat 60)), none, .len (.t (K.ofNat 59))⟩, ⟨(some (K.ofNat 61)), none, .bin .lss (.t (K.ofNat 58)) (.t (K.ofNat 60))⟩]
noncomputable def f65_r15 : List Stage := [⟨[⟨(some (K.ofNat 64)), none, .mv (.t (K.ofNat 12))⟩, ⟨(some (K.ofNat 65)), none, .mv (.t (K.ofNat 16))⟩, ⟨(some (K.ofNat 66)), none, .iads 2 (.t (K.ofNat 64)) (.t (K.ofNat 65))⟩, ⟨(some (K.ofNat 67)), none, .iadr 2 1 (.t (K.ofNat 66)) (.c (.i .i64 (.ofNat 1)))⟩, ⟨(some (K.ofNat 68)), none, .ld (.t (K.ofNat 67))⟩, ⟨(some (K.ofNat 69)), none, .mv (.t (K.ofNat 12))⟩, ⟨(some (K.ofNat 70)), none, .mv (.t (K.ofNat 16))⟩, ⟨(some (K.ofNat 71)), none, .iads 2 (.t (K.ofNat 69)) (.t (K.ofNat 70))⟩, ⟨(some (K.ofNat 72)), none, .iadr 2 1 (.t (K.ofNat 71)) (.c (.i .i64 (.ofNat 0)))⟩, ⟨(some (K.ofNat 73)), none, .ld (.t (K.ofNat 72))⟩, ⟨(some (K.ofNat 74)), none, .build [(.i .i64 (.ofNat 0)), (.i .i64 (.ofNat 0))] [(0, 1, (.t (K.ofNat 68))), (1, 1, (.t (K.ofNat 73)))]⟩, ⟨(some (K.ofNat 17)), none, .alloc 2 [(.i .i64 (.ofNat 0)), (.i .i64 (.ofNat 0))]⟩], [], (some ⟨none, none, .st 2 (.t (K.ofNat 17)) (.t (K.ofNat 74))⟩), [(K.ofNat 17)]⟩, ⟨[], [], none, []⟩]
noncomputable def f65_r16 : List EOper := [⟨(some (K.ofNat 75)), none, .mv (.t (K.ofNat 14))⟩, ⟨(some (K.ofNat 76)), none, .mv (.t (K.ofNat 75))⟩, ⟨(some (K.ofNat 77)), (some ((K.ofNat 76), true)), .mv (.t (K.ofNat 15))⟩, ⟨(some (K.ofNat 78)), (some ((K.ofNat 76), true)), .ldn 2 (.t (K.ofNat 17))⟩, ⟨(some (K.ofNat 79)), (some ((K.ofNat 76), true)), .call (.c (.fn (K.ofNat 40) [])) [(.t (K.ofNat 77)), (.t (K.ofNat 78))]⟩, ⟨(some (K.ofNat 80)), (some ((K.ofNat 76), true)), .not (.t (K.ofNat 79))⟩, ⟨(some (K.ofNat 81)), none, .pick (.t (K.ofNat 76)) (.t (K.ofNat 80)) (.c (.b false))⟩, ⟨(some (K.ofNat 14)), none, .as (.t (K.ofNat 81))⟩]
noncomputable def f65_r17 : List EOper := [⟨(some (K.ofNat 82)), none, .mv (.t (K.ofNat 15))⟩, ⟨(some (K.ofNat 83)), none, .mv (.t (K.ofNat 12))⟩, ⟨(some (K.ofNat 84)), none, .mv (.t (K.ofNat 16))⟩, ⟨(some (K.ofNat 85)), none, .iads 2 (.t (K.ofNat 83)) (.t (K.ofNat 84))⟩, ⟨(some (K.ofNat 86)), none, .ldn 2 (.t (K.ofNat 85))⟩, ⟨(some (K.ofNat 87)), none, .bslice 1 2 [(.i .i64 (.ofNat 0)), (.i .i64 (.ofNat 0))] [(0, 2, (.t (K.ofNat 86)))]⟩, ⟨(some (K.ofNat 88)), none, .app 2 (.t (K.ofNat 82)) (.t (K.ofNat 87))⟩, ⟨(some (K.ofNat 15)), none, .as (.t (K.ofNat 88))⟩]
noncomputable def f65_r18 : List EOper := [⟨(some (K.ofNat 62)), none, .mv (.t (K.ofNat 16))⟩, ⟨(some (K.ofNat 63)), none, .bin .add (.t (K.ofNat 62)) (.c (.i .i64 (.ofNat 1)))⟩, ⟨(some (K.ofNat 16)), none, .as (.t (K.ofNat 63))⟩]
noncomputable def f65_l0 : EC := (.seq (.seq (.reg f65_r14) (.cond (.t (K.ofNat 61)) .skip (.exit 4))) (.seq (.block 5 (.seq (.draw f65_r15) (.seq (.reg f65_r16) (.reg f65_r17)))) (.reg f65_r18)))
noncomputable def f65_r19 : List EOper := [⟨(some (K.ofNat 89)), none, .mv (.t (K.ofNat 14))⟩]
noncomputable def f65_r20 : List EOper := [⟨(some (K.ofNat 90)), none, .mv (.t (K.ofNat 10))⟩, ⟨(some (K.ofNat 91)), none, .mv (.t (K.ofNat 0))⟩, ⟨(some (K.ofNat 92)), none, .mv (.t (K.ofNat 1))⟩, ⟨(some (K.ofNat 93)), none, .mv (.t (K.ofNat 15))⟩, ⟨(some (K.ofNat 94)), none, .call (.c (.fn (K.ofNat 65) [])) [(.t (K.ofNat 91)), (.t (K.ofNat 92)), (.t (K.ofNat 93))]⟩, ⟨(some (K.ofNat 95)), none, .bin .add (.t (K.ofNat 90)) (.t (K.ofNat 94))⟩, ⟨(some (K.ofNat 10)), none, .as (.t (K.ofNat 95))⟩]
noncomputable def f65_r21 : List EOper := [⟨(some (K.ofNat 96)), none, .ldn 2 (.t (K.ofNat 9))⟩, ⟨none, none, .st 2 (.t (K.ofNat 8)) (.t (K.ofNat 96))⟩]
noncomputable def f65_r22 : List EOper := [⟨(some (K.ofNat 46)), none, .mv (.t (K.ofNat 11))⟩, ⟨(some (K.ofNat 47)), none, .bin .add (.t (K.ofNat 46)) (.c (.i .i64 (.ofNat 1)))⟩, ⟨(some (K.ofNat 11)), none, .as (.t (K.ofNat 47))⟩]
noncomputable def f65_l1 : EC := (.seq (.seq (.reg f65_r8) (.cond (.t (K.ofNat 45)) .skip (.exit 2))) (.seq (.block 3 (.seq (.reg f65_r9) (.seq (.reg f65_r10) (.seq (.reg f65_r11) (.seq (.reg f65_r12) (.seq (.seq (.reg f65_r13) (.block 4 (.loop f65_l0))) (.seq (.seq (.reg f65_r19) (.cond (.t (K.ofNat 89)) (.reg f65_r20) .skip)) (.reg f65_r21)))))))) (.reg f65_r22)))
noncomputable def f65_r23 : List EOper := [⟨(some (K.ofNat 97)), none, .mv (.t (K.ofNat 10))⟩, ⟨(some (K.ofNat 6)), none, .as (.t (K.ofNat 97))⟩]
noncomputable def f65_r24 : List EOper := [⟨(some (K.ofNat 25)), none, .mv (.t (K.ofNat 7))⟩, ⟨(some (K.ofNat 26)), none, .bin .add (.t (K.ofNat 25)) (.c (.i .i64 (.ofNat 1)))⟩, ⟨(some (K.ofNat 7)), none, .as (.t (K.ofNat 26))⟩]
noncomputable def f65_l2 : EC := (.seq (.seq (.reg f65_r2) (.cond (.t (K.ofNat 24)) .skip (.exit 0))) (.seq (.block 1 (.seq (.reg f65_r3) (.seq (.reg f65_r4) (.seq (.seq (.reg f65_r5) (.cond (.t (K.ofNat 43)) (.exit 1) .skip)) (.seq (.reg f65_r6) (.seq (.seq (.reg f65_r7) (.block 2 (.loop f65_l1))) (.seq (.reg f65_r23) .ret))))))) (.reg f65_r24)))
noncomputable def f65_r25 : List EOper := [⟨(some (K.ofNat 18)), none, .as (.c .sn)⟩]
noncomputable def f65_r26 : List EOper := [⟨(some (K.ofNat 19)), none, .as (.c (.i .i64 (.ofNat 0)))⟩]
noncomputable def f65_r27 : List EOper := [⟨(some (K.ofNat 98)), none, .mv (.t (K.ofNat 19))⟩, ⟨(some (K.ofNat 99)), none, .mv (.t (K.ofNat 0))⟩, ⟨(some (K.ofNat 100)), none, .bin .lss (.t (K.ofNat 98)) (.t (K.ofNat 99))⟩]
noncomputable def f65_r28 : List EOper := [⟨(some (K.ofNat 20)), none, .as (.c (.i .i64 (.ofNat 0)))⟩]
noncomputable def f65_r29 : List EOper := [⟨(some (K.ofNat 103)), none, .mv (.t (K.ofNat 20))⟩, ⟨(some (K.ofNat 104)), none, .mv (.t (K.ofNat 0))⟩, ⟨(some (K.ofNat 105)), none, .bin .lss (.t (K.ofNat 103)) (.t (K.ofNat 104))⟩]
noncomputable def f65_r30 : List EOper := [⟨(some (K.ofNat 108)), none, .mv (.t (K.ofNat 2))⟩, ⟨(some (K.ofNat 109)), none, .mv (.t (K.ofNat 19))⟩, ⟨(some (K.ofNat 110)), none, .mv (.t (K.ofNat 20))⟩, ⟨(some (K.ofNat 111)), none, .build [(.i .i64 (.ofNat 0)), (.i .i64 (.ofNat 0))] [(0, 1, (.t (K.ofNat 109))), (1, 1, (.t (K.ofNat 110)))]⟩, ⟨(some (K.ofNat 112)), none, .call (.c (.fn (K.ofNat 40) [])) [(.t (K.ofNat 108)), (.t (K.ofNat 111))]⟩]
noncomputable def f65_r31 : List EOper := [⟨(some (K.ofNat 113)), none, .mv (.t (K.ofNat 18))⟩, ⟨(some (K.ofNat 114)), none, .mv (.t (K.ofNat 19))⟩, ⟨(some (K.ofNat 115)), none, .mv (.t (K.ofNat 20))⟩, ⟨(some (K.ofNat 116)), none, .build [(.i .i64 (.ofNat 0)), (.i .i64 (.ofNat 0))] [(0, 1, (.t (K.ofNat 114))), (1, 1, (.t (K.ofNat 115)))]⟩, ⟨(some (K.ofNat 117)), none, .bslice 1 2 [(.i .i64 (.ofNat 0)), (.i .i64 (.ofNat 0))] [(0, 2, (.t (K.ofNat 116)))]⟩, ⟨(some (K.ofNat 118)), none, .app 2 (.t (K.ofNat 113)) (.t (K.ofNat 117))⟩, ⟨(some (K.ofNat 18)), none, .as (.t (K.ofNat 118))⟩]
noncomputable def f65_r32 : List EOper := [⟨(some (K.ofNat 106)), none, .mv (.t (K.ofNat 20))⟩, ⟨(some (K.ofNat 107)), none, .bin .add (.t (K.ofNat 106)) (.c (.i .i64 (.ofNat 1)))⟩, ⟨(some (K.ofNat 20)), none, .as (.t (K.ofNat 107))⟩]
noncomputable def f65_l3 : EC := (.seq (.seq (.reg f65_r29) (.cond (.t (K.ofNat 105)) .skip (.exit 8))) (.seq (.block 9 (.seq (.reg f65_r30) (.cond (.t (K.ofNat 112)) (.reg f65_r31) .skip))) (.reg f65_r32)))
noncomputable def f65_r33 : List EOper := [⟨(some (K.ofNat 101)), none, .mv (.t (K.ofNat 19))⟩, ⟨(some (K.ofNat 102)), none, .bin .add (.t (K.ofNat 101)) (.c (.i .i64 (.ofNat 1)))⟩, ⟨(some (K.ofNat 19)), none, .as (.t (K.ofNat 102))⟩]
noncomputable def f65_l4 : EC := (.seq (.seq (.reg f65_r27) (.cond (.t (K.ofNat 100)) .skip (.exit 6))) (.seq (.block 7 (.seq (.reg f65_r28) (.block 8 (.loop f65_l3)))) (.reg f65_r33)))
noncomputable def f65_r34 : List EOper := [⟨(some (K.ofNat 119)), none, .mv (.t (K.ofNat 0))⟩, ⟨(some (K.ofNat 120)), none, .mv (.t (K.ofNat 18))⟩, ⟨(some (K.ofNat 121)), none, .call (.c (.fn (K.ofNat 26) [])) [(.t (K.ofNat 119)), (.t (K.ofNat 120))]⟩]
noncomputable def f65_r35 : List EOper := [⟨(some (K.ofNat 6)), none, .as (.c (.i .i64 (.ofNat 1)))⟩]
noncomputable def f65_r36 : List EOper := [⟨(some (K.ofNat 6)), none, .as (.c (.i .i64 (.ofNat 0)))⟩]
noncomputable def f65_c : EC := (.seq (.reg f65_r0) (.seq (.seq (.reg f65_r1) (.block 0 (.loop f65_l2))) (.seq (.reg f65_r25) (.seq (.seq (.reg f65_r26) (.block 6 (.loop f65_l4))) (.seq (.seq (.reg f65_r34) (.cond (.t (K.ofNat 121)) (.seq (.reg f65_r35) .ret) .skip)) (.seq (.reg f65_r36) .ret))))))
noncomputable def f65 : EF := ⟨122, [.tmp (K.ofNat 6)], f65_c, none⟩
theorem f65_rs : f65.rs = [.tmp (K.ofNat 6)] := of_eq_true (eq_self _)
noncomputable def f32_r0 : List EOper := [⟨(some (K.ofNat 4)), none, .as (.c (.i .i64 (.ofNat 0)))⟩]
noncomputable def f32_r1 : List EOper := [⟨(some (K.ofNat 5)), none, .mv (.t (K.ofNat 0))⟩, ⟨(some (K.ofNat 6)), none, .mv (.t (K.ofNat 1))⟩, ⟨(some (K.ofNat 7)), none, .call (.c (.fn (K.ofNat 65) [])) [(.t (K.ofNat 5)), (.t (K.ofNat 6)), (.c .sn)]⟩, ⟨(some (K.ofNat 4)), none, .as (.t (K.ofNat 7))⟩]
noncomputable def f32_c : EC := (.seq (.reg f32_r0) (.seq (.reg f32_r1) .ret))
noncomputable def f32 : EF := ⟨8, [.tmp (K.ofNat 4)], f32_c, none⟩
theorem f32_rs : f32.rs = [.tmp (K.ofNat 4)] := of_eq_true (eq_self _)
section
variable {fs : T EF} {h h' : H}
theorem okJ_succ {P c : List (Int × Int)} {j : Nat} (hj : j < c.length) : okJ P c (j + 1) ↔ okJ P c j ∧ (c[j].2, c[j].1) ∉ P ++ c.take j := by
  constructor
  · exact fun h => ⟨fun i hi hij => h i hi (by omega), h j hj (by omega)⟩
  · rintro ⟨h1, h2⟩ i hi hij
    by_cases e : i = j
    · subst e; exact h2
    · exact h1 i hi (by omega)
structure CallsRc (fs : T EF) : Prop extends CallsCs fs, CallsIo fs where
  c21 : fs.get (K.ofNat 21) = some f21
  c26 : fs.get (K.ofNat 26) = some f26
  c65 : fs.get (K.ofNat 65) = some f65
def dirP (P : List (Int × Int)) (z : Int × Int) : Prop := z ∈ P ∨ (z.2, z.1) ∈ P
def f65_L (h0 : H) (n : Nat) (v w : V) (E P : List (Int × Int)) (i : Nat) (fr : Fr) (h1 : H) : Prop := i ≤ E.length ∧ (∀ j (hj : j < E.length), j < i → dirP P E[j]) ∧ Grow h0.nx.nat h0 h1 ∧ fr.get (K.ofNat 0) = some (.i .i64 (n : Int)) ∧ fr.get (K.ofNat 1) = some (v) ∧ fr.get (K.ofNat 2) = some (w) ∧ fr.get (K.ofNat 7) = some (.i .i64 (i : Int))
def f65_Q (h0 : H) (n : Nat) (v w : V) (E P : List (Int × Int)) (N : Nat) (e : Ex) (fr : Fr) (h1 : H) : Prop := Grow h0.nx.nat h0 h1 ∧ ((e = .exit 0 ∧ (∀ j (hj : j < E.length), dirP P E[j]) ∧ fr.get (K.ofNat 0) = some (.i .i64 (n : Int)) ∧ fr.get (K.ofNat 1) = some (v) ∧ fr.get (K.ofNat 2) = some (w)) ∨ (e = .ret ∧ fr.get (K.ofNat 6) = some (.i .i64 (N : Int))))
def sumT (a b kk : Nat) : Nat := (if 1 ≤ kk then a else 0) + (if 2 ≤ kk then b else 0)
theorem sumT_0 {a b : Nat} : sumT a b 0 = 0 := rfl
def f65_K (h0 : H) (n : Nat) (v w : V) (id8 id9 : K) (x : Nat × Nat) (a b : Nat) (kk : Nat) (fr : Fr) (h1 : H) : Prop := kk ≤ 2 ∧ Kp id8 h0 h1 ∧ (h1.get id8 = if kk = 0 then .cells 2 [.i .i64 (x.1 : Int), .i .i64 (x.2 : Int)] else .cells 2 [.i .i64 (x.2 : Int), .i .i64 (x.1 : Int)]) ∧ fr.get (K.ofNat 0) = some (.i .i64 (n : Int)) ∧ fr.get (K.ofNat 1) = some (v) ∧ fr.get (K.ofNat 2) = some (w) ∧ fr.get (K.ofNat 8) = some (.p id8 0) ∧ fr.get (K.ofNat 9) = some (.p id9 0) ∧ fr.get (K.ofNat 10) = some (.i .i64 (sumT a b kk : Int)) ∧ fr.get (K.ofNat 11) = some (.i .i64 (kk : Int))
def f65_J (h0 : H) (n : Nat) (v w c : V) (id8 id9 : K) (P C : List (Int × Int)) (s kk : Nat) (j : Nat) (fr : Fr) (h1 : H) : Prop := j ≤ C.length ∧ Grow h0.nx.nat h0 h1 ∧ ∃ bb nx, (bb = true ↔ okJ P C j) ∧ Sk 2 qE h1 nx (P ++ C.take j) ∧ Own h0.nx.nat nx ∧ fr.get (K.ofNat 0) = some (.i .i64 (n : Int)) ∧ fr.get (K.ofNat 1) = some (v) ∧ fr.get (K.ofNat 2) = some (w) ∧ fr.get (K.ofNat 8) = some (.p id8 0) ∧ fr.get (K.ofNat 9) = some (.p id9 0) ∧ fr.get (K.ofNat 10) = some (.i .i64 (s : Int)) ∧ fr.get (K.ofNat 11) = some (.i .i64 (kk : Int)) ∧ fr.get (K.ofNat 12) = some (c) ∧ fr.get (K.ofNat 14) = some (.b bb) ∧ fr.get (K.ofNat 15) = some (nx) ∧ fr.get (K.ofNat 16) = some (.i .i64 (j : Int))
def f65_A (h0 : H) (n : Nat) (w : V) (f : Nat → Nat → Bool) (a : Nat) (fr : Fr) (h1 : H) : Prop := a ≤ n ∧ ∃ u, Sk 2 qE h1 u (arP f (7 * a)) ∧ Own h0.nx.nat u ∧ Grow h0.nx.nat h0 h1 ∧ fr.get (K.ofNat 0) = some (.i .i64 (n : Int)) ∧ fr.get (K.ofNat 2) = some (w) ∧ fr.get (K.ofNat 18) = some (u) ∧ fr.get (K.ofNat 19) = some (.i .i64 (a : Int))
def f65_B (h0 : H) (n : Nat) (w : V) (f : Nat → Nat → Bool) (a : Nat) (b : Nat) (fr : Fr) (h1 : H) : Prop := b ≤ n ∧ ∃ u, Sk 2 qE h1 u (arP f (7 * a + b)) ∧ Own h0.nx.nat u ∧ Grow h0.nx.nat h0 h1 ∧ fr.get (K.ofNat 0) = some (.i .i64 (n : Int)) ∧ fr.get (K.ofNat 2) = some (w) ∧ fr.get (K.ofNat 18) = some (u) ∧ fr.get (K.ofNat 19) = some (.i .i64 (a : Int)) ∧ fr.get (K.ofNat 20) = some (.i .i64 (b : Int))
theorem f65_ret {n : Nat} {v : V} {g : Nat → Nat → Bool} (k : CallsRc fs) (hg : Gph n g) : ∀ (m : Nat) (P : List (Int × Int)) (h : H) (w : V), cntT (unD (gR (arI g)) P) = m → CnI (gR (arI g)) P → P.length + 49 * m ≤ 2500 → Srp h v (arI g) → Srp h w P → HC h → Ret fs f65 [.i .i64 (n : Int), v, w] h fun r h' => r = .i .i64 (nOrd (gR (arI g)) (pC P) : Int) ∧ Grow h.nx.nat h h' := by
  have hlb := arI_len (g := g)
  have sy := symR_g hg
  have hn7 := hg.n7
  intro m
  induction m using Nat.strongRecOn with
  | ind m ih =>
  intro P h w hm ci hPl hv hw hc
  have hPi := ci.nd.inI
  apply ret_of rfl
  show W fs none f65_c _ _ _
  unfold f65_c
  have hlen := hv.len
  simp (disch := omega) only [f65_r0, f65_r1, w_reg, w_seq, w_block, seqK_n, x_nil, x_as, ev_c, putD_some, frame_3, of0]
  refine loop_monoO (Q := f65_Q h n v w (arI g) P (nOrd (gR (arI g)) (pC P))) ?_ (W_loop (f65_L h n v w (arI g) P) (fun i => (arI g).length - i) ?_ 0 ⟨by omega, fun j hj h0 => by omega, Grow.refl _ _, by simp (disch := omega) only [getK_set, Nat.reduceEqDiff, ↓reduceIte, and_self, Int.natCast_zero]⟩)
  · rintro e fr h1 ⟨hG, ⟨rfl, hall, g0, g1, g2⟩ | ⟨rfl, g6⟩⟩
    · have alld : ∀ a b, Er (gR (arI g)) a b → pC P a b ∨ pC P b a := fun a b hab => by
        have := (gR_iff nd_arI).1 hab
        rcases this with h1 | h1
        · obtain ⟨j, hj, ej⟩ := List.getElem_of_mem h1
          have := hall j hj
          rw [ej] at this
          exact this
        · obtain ⟨j, hj, ej⟩ := List.getElem_of_mem h1
          have := hall j hj
          rw [ej] at this
          exact this.symm
      obtain ⟨hyes, hno⟩ := iso_ord ci sy.gr alld
      have hrl : ∀ a b, rat (relR P) a b = true → a < n ∧ b < n := fun a b h => by
        have := Er_lt hg (ci.sub _ _ ((relR_iff ci.nd).1 h)); exact ⟨this.1, this.2.1⟩
      have hc1 := hG.hc hc
      simp (disch := omega) only [f65_r25, f65_r26, w_reg, w_seq, w_block, seqK_n, atK_e, x_nil, x_as, ev_c, putD_some, of0, ↓reduceIte]
      refine W_loop (f65_A h1 n w (rat (relR P))) (fun a => n - a) ?_ 0 ⟨by omega, .sn, Sk.nil, Own.sn, Grow.refl _ _, by simp (disch := omega) only [getK_set, Nat.reduceEqDiff, ↓reduceIte, g0, g2, and_self, Int.natCast_zero]⟩
      clear g0 g1 g2 fr
      rintro a fr h2 ⟨ha, u, hs, ho, hG2, g0, g2, g18, g19⟩
      have hc2 := hG2.hc hc1
      unfold f65_l4
      by_cases hlt : a < n
      · have d0 : decide ((a : Int) < (n : Int)) = true := decide_eq_true (by omega)
        simp (disch := omega) only [f65_r27, f65_r28, w_skip, w_reg, w_seq, w_cond, w_block, seqK_n, ckB_b, cbB_b, true_and, x_nil, x_mv, x_as, x_bin, kx, rvP_ok, okv_some, ev_t, ev_c, getV_some, putD_some, bin_lss, of0, getK_set, Nat.reduceEqDiff, ↓reduceIte, g0, g19, d0]
        refine W_loop (f65_B h1 n w (rat (relR P)) a) (fun b => n - b) ?_ 0 ⟨by omega, u, hs, ho, hG2, by simp (disch := omega) only [getK_set, Nat.reduceEqDiff, ↓reduceIte, g0, g2, g18, g19, and_self, Int.natCast_zero]⟩
        clear hs ho hG2 g0 g2 g18 g19 fr hc2
        rintro b fr h3 ⟨hb, u, hs, ho, hG2, g0, g2, g18, g19, g20⟩
        have hc3 := hG2.hc hc1
        have hw3 := (hw.grow hc hG).grow hc1 hG2
        unfold f65_l3
        by_cases hlt2 : b < n
        · have d1 : decide ((b : Int) < (n : Int)) = true := decide_eq_true (by omega)
          have hsu := arP_succ (g := rat (relR P)) (a := a) (b := b) (by omega)
          have hav : V.agg [.i .i64 (a : Int), .i .i64 (b : Int)] = aV (a, b) := rfl
          simp (disch := omega) only [f65_r29, f65_r30, w_skip, w_reg, w_seq, w_cond, w_block, seqK_n, ckB_b, cbB_b, true_and, x_nil, x_mv, x_build, x_bin, x_call, kx, rvP_ok, okv_some, ev_t, ev_c, evs_nil, evs_cons, getV_some, putD_some, bin_lss, oGet_s, cells1_i, of0, getK_set, Nat.reduceEqDiff, ↓reduceIte, fill_2, set_2, g0, g2, g19, g20, d1, fill_2, set_2, hav]
          refine (callP_0 (ef := f40) k.c40 rfl (f40_ret (x := ((a : Int), (b : Int))) hw3 hPi (inI_nat (by omega) (by omega)) (by omega) hc3)).mono ?_
          rintro r h4 ⟨rfl, gr4⟩
          have hd : decide (((a : Int), (b : Int)) ∈ P) = rat (relR P) a b := by
            rw [Bool.eq_iff_iff, decide_eq_true_eq]; exact (relR_iff ci.nd).symm
          rw [hd]
          have hc4 := gr4.hc hc3
          have hs4 := hs.grow hc3 gr4
          have gB := hG2.trans (gr4.low hG2.nx)
          cases hr : rat (relR P) a b with
          | false =>
            rw [if_neg (by rw [hr]; simp), List.append_nil] at hsu
            simp (disch := omega) only [f65_r32, w_skip, w_reg, w_cond, seqK_n, atK_n, loopK_n, ckB_b, cbB_b, true_and, x_nil, x_mv, x_as, x_bin, kx, rvP_ok, okv_some, ev_t, ev_c, getV_some, putD_some, bin_add, of1, getK_set, Nat.reduceEqDiff, ↓reduceIte, Bool.false_eq_true, g20, fw64]
            exact ⟨b + 1, by omega, by omega, u, by rw [hsu]; exact hs4, ho, gB, by simp (disch := omega) only [getK_set, Nat.reduceEqDiff, ↓reduceIte, g0, g2, g18, g19, and_self, Int.natCast_add, Int.natCast_one]⟩
          | true =>
            rw [if_pos hr] at hsu
            have hl := arP_len (g := rat (relR P)) (i := 7 * a + b)
            obtain ⟨u', h5, a1, s1, o1, gr1, _⟩ := Sk.push qE_len (by omega) (x := ((a : Int), (b : Int))) hs4 ho gB.nx hc4 (by omega)
            have a1' : appV 2 (h4.new (.cells (1 * 2) [.i .i64 (a : Int), .i .i64 (b : Int)])) u (.sl h4.nx 0 1 2) = .ok u' h5 := a1
            have cp : cellsN 2 (aV (a, b)) = some [.i .i64 (a : Int), .i .i64 (b : Int)] := rfl
            have sp : setMany [V.i .i64 0, V.i .i64 0] 0 [V.i .i64 (a : Int), V.i .i64 (b : Int)] = [V.i .i64 (a : Int), V.i .i64 (b : Int)] := rfl
            simp (disch := omega) only [f65_r31, f65_r32, w_reg, w_cond, seqK_n, atK_n, loopK_n, ckB_b, cbB_b, true_and, x_nil, x_mv, x_as, x_build, x_bslice, x_bin, x_app, kx, rvP_ok, okv_some, ev_t, ev_c, getV_some, putD_some, bin_add, oGet_s, cells1_i, of0, of1, getK_set, Nat.reduceEqDiff, ↓reduceIte, set_2, fill_0, g18, g19, g20, set_2, hav, fill_c, cp, sp, a1', fw64]
            exact ⟨b + 1, by omega, by omega, u', by rw [hsu]; exact s1, o1, gB.trans gr1, by simp (disch := omega) only [getK_set, Nat.reduceEqDiff, ↓reduceIte, g0, g2, g19, and_self, Int.natCast_add, Int.natCast_one]⟩
        · have d1 : decide ((b : Int) < (n : Int)) = false := decide_eq_false (by omega)
          have eb : b = n := by omega
          have e1 : arP (rat (relR P)) (7 * (a + 1)) = arP (rat (relR P)) (7 * a + b) := arP_row (by omega) (fun d hd _ => by
            cases e : rat (relR P) a d with
            | false => rfl
            | true => have := (hrl _ _ e).2; omega)
          simp (disch := omega) only [f65_r29, f65_r33, w_reg, w_seq, w_cond, w_exit, seqK_n, seqK_e, atK_n, atK_e, loopK_n, loopK_e, ckB_b, cbB_b, true_and, x_nil, x_mv, x_as, x_bin, kx, rvP_ok, okv_some, ev_t, ev_c, getV_some, putD_some, bin_add, bin_lss, of1, getK_set, Nat.reduceEqDiff, ↓reduceIte, Bool.false_eq_true, g0, g19, g20, d1, fw64]
          exact ⟨a + 1, by omega, by omega, u, by rw [e1]; exact hs, ho, hG2, by simp (disch := omega) only [getK_set, Nat.reduceEqDiff, ↓reduceIte, g0, g2, g18, and_self, Int.natCast_add, Int.natCast_one]⟩
      · have d0 : decide ((a : Int) < (n : Int)) = false := decide_eq_false (by omega)
        have ea : a = n := by omega
        have e1 : arP (rat (relR P)) (7 * a) = arI (rat (relR P)) := arP_end (by omega) (fun x d hx _ hd => by
          cases e : rat (relR P) x d with
          | false => rfl
          | true => have := (hrl _ _ e).1; omega)
        rw [e1] at hs
        simp (disch := omega) only [f65_r27, f65_r34, w_reg, w_seq, w_cond, w_exit, seqK_n, seqK_e, atK_e, loopK_e, ckB_b, cbB_b, true_and, x_nil, x_mv, x_bin, x_call, kx, rvP_ok, okv_some, ev_t, ev_c, evs_nil, evs_cons, getV_some, putD_some, bin_lss, getK_set, Nat.reduceEqDiff, ↓reduceIte, Bool.false_eq_true, g0, g18, g19, d0]
        refine (callP_0 (ef := f26) k.c26 rfl (f26_ret k.toCallsIo hrl hs.srpo hc2)).mono ?_
        rintro r h3 ⟨bb, rfl, hbb, gr3⟩
        have gE := hG.trans ((hG2.low hG.nx).trans (gr3.low (by have := hG.nx; have := hG2.nx; omega)))
        cases bb with
        | true =>
          simp (disch := omega) only [f65_r35, f65_rs, w_reg, w_seq, w_cond, w_ret, seqK_n, seqK_r, ckB_b, cbB_b, true_and, retK_r, x_nil, x_as, kx, ev_t, ev_c, getV_some, putD_some, oGet_s, readRs_nil, readRs_t, retV_1, of1, Option.some.injEq, exists_eq_left', getK_set, ↓reduceIte]
          exact ⟨by rw [hyes (hbb.1 rfl)]; rfl, gE⟩
        | false =>
          simp (disch := omega) only [f65_r36, f65_rs, w_skip, w_reg, w_seq, w_cond, w_ret, seqK_n, ckB_b, cbB_b, true_and, retK_r, x_nil, x_as, kx, ev_t, ev_c, getV_some, putD_some, oGet_s, readRs_nil, readRs_t, retV_1, of0, Option.some.injEq, exists_eq_left', getK_set, ↓reduceIte, Bool.false_eq_true]
          exact ⟨by rw [hno (fun h => by have := hbb.2 h; cases this)]; rfl, gE⟩
    · simp (disch := omega) only [f65_rs, seqK_r, atK_r, true_and, retK_r, getV_some, oGet_s, readRs_nil, readRs_t, retV_1, Option.some.injEq, exists_eq_left', g6, true_and]
      exact hG
  · rintro i fr h1 ⟨hi, hdir, hG, g0, g1, g2, g7⟩
    have hc1 := hG.hc hc
    unfold f65_l2
    by_cases hlt : i < (arI g).length
    · have d0 : decide ((i : Int) < ((arI g).length : Int)) = true := decide_eq_true (by omega)
      have hv1 := hv.grow hc hG
      obtain ⟨id, q, p1, p2, _⟩ := hv1.at2 hlt
      obtain ⟨x1, x2, hx1, hx2, hxg, hx⟩ := mem_arI.1 (List.getElem_mem hlt)
      have p2 : loadV h1 (.p id q) (many? 2) = .ok (aV (x1, x2)) h1 := by rw [hx] at p2; exact p2
      have hxG : Er (gR (arI g)) x1 x2 := (gR_arI hg).2 (by unfold Go.Ev.sy; rw [hxg]; rfl)
      have hyG : Er (gR (arI g)) x2 x1 := sy.gr.sym _ _ hxG
      obtain ⟨hst, gC, c8, n8⟩ := arr_var (h := h1) (x := x1) (y := x2)
      simp (disch := omega) only [f65_r2, f65_r3, w_skip, w_reg, w_seq, w_cond, w_block, seqK_n, ckB_b, cbB_b, true_and, x_nil, x_mv, x_alloc, x_ldn, x_st, x_bin, x_iads, x_len, kx, rvP_ok, okv_some, ev_t, getV_some, putD_some, putD_none, bin_lss, of0, getK_set, Nat.reduceEqDiff, ↓reduceIte, g1, g7, hlen, d0, p1, p2, hst]
      generalize (h1.new (.cells 2 [.i .i64 0, .i .i64 0])).put h1.nx (.cells 2 [.i .i64 (x1 : Int), .i .i64 (x2 : Int)]) = h2 at *
      have hc2 := gC.hc hc1
      have l80 := ld20 c8
      have l81 := ld21 c8
      obtain ⟨hst2, gD, c9, n9⟩ := arr_var (h := h2) (x := x2) (y := x1)
      have hav2 : V.agg [.i .i64 (x2 : Int), .i .i64 (x1 : Int)] = aV (x2, x1) := rfl
      simp (disch := omega) only [f65_r4, w_reg, w_seq, seqK_n, x_nil, x_alloc, x_build, x_ld, x_st, x_iadr, kx, rvP_ok, ev_t, ev_c, getV_some, putD_some, putD_none, onP_p, oGet_s, cells1_i, of0, of1, getK_set, Nat.reduceEqDiff, ↓reduceIte, fill_2, set_2, ix2_0, ix2_1, l80, l81, fill_2, set_2, hav2, hst2]
      generalize (h2.new (.cells 2 [.i .i64 0, .i .i64 0])).put h2.nx (.cells 2 [.i .i64 (x2 : Int), .i .i64 (x1 : Int)]) = h3 at *
      have hc3 := gD.hc hc2
      have c8' := (gD.old h1.nx (by omega)).trans c8
      have l3 := ldn2 c8'
      have hav1 : V.agg [.i .i64 (x1 : Int), .i .i64 (x2 : Int)] = aV (x1, x2) := rfl
      have gA3 : Grow h.nx.nat h h3 := hG.trans ((gC.low hG.nx).trans (gD.low (by have := hG.nx; omega)))
      have hGn := hG.nx
      simp (disch := omega) only [f65_r5, x_mv, x_ldn, x_call, kx, rvP_ok, ev_t, ev_c, evs_nil, evs_cons, getV_some, putD_some, getK_set, Nat.reduceEqDiff, ↓reduceIte, g2, l3, hav1]
      refine (callP_0 (ef := f40) k.c40 rfl (f40_ret (x := ((x1 : Int), (x2 : Int))) (hw.grow hc gA3) hPi (inI_nat hx1 hx2) (by omega) hc3)).mono ?_
      rintro r h4 ⟨rfl, gr4⟩
      have hc4 := gr4.hc hc3
      have gA4 := gA3.trans (gr4.low gA3.nx)
      have skip : ∀ (fr : Fr) (hh : H), Grow h.nx.nat h hh → dirP P (arI g)[i] → fr.get (K.ofNat 0) = some (.i .i64 (n : Int)) ∧ fr.get (K.ofNat 1) = some (v) ∧ fr.get (K.ofNat 2) = some (w) ∧ fr.get (K.ofNat 7) = some (.i .i64 (i : Int)) → W fs none (.reg f65_r24) (loopK (f65_L h n v w (arI g) P) (fun i => (arI g).length - i) i (f65_Q h n v w (arI g) P (nOrd (gR (arI g)) (pC P)))) fr hh := by
        clear g0 g1 g2 g7 fr
        rintro fr hh hGh hd ⟨g0, g1, g2, g7⟩
        simp (disch := omega) only [f65_r24, w_reg, loopK_n, x_nil, x_mv, x_as, x_bin, kx, rvP_ok, okv_some, ev_t, ev_c, getV_some, putD_some, bin_add, of1, getK_set, ↓reduceIte, g7, fw64]
        refine ⟨i + 1, by omega, by omega, fun j hj hji => ?_, hGh, by simp (disch := omega) only [getK_set, Nat.reduceEqDiff, ↓reduceIte, g0, g1, g2, and_self, Int.natCast_add, Int.natCast_one]⟩
        by_cases ej : j = i
        · subst ej; exact hd
        · exact hdir j hj (by omega)
      by_cases hin : ((x1 : Int), (x2 : Int)) ∈ P
      · have d1 : decide (((x1 : Int), (x2 : Int)) ∈ P) = true := decide_eq_true hin
        simp (disch := omega) only [w_reg, w_cond, w_exit, seqK_n, seqK_e, atK_e, ckB_b, cbB_b, okG_b, asG_f, true_and, x_nil, x_g, x_mv, x_pick, kx, rvP_ok, ev_t, ev_c, getV_some, putD_some, pick_b, getK_set, Nat.reduceEqDiff, ↓reduceIte, Bool.false_eq_true, Bool.not_true, d1]
        exact skip _ _ gA4 (by rw [hx]; exact .inl hin) (by simp (disch := omega) only [getK_set, Nat.reduceEqDiff, ↓reduceIte, g0, g1, g2, g7, and_self])
      · have d1 : decide (((x1 : Int), (x2 : Int)) ∈ P) = false := decide_eq_false hin
        have gr4n := gr4.nx
        have c9' := (gr4.old h2.nx (by omega)).trans c9
        have l9 := ldn2 c9'
        simp (disch := omega) only [okG_b, asG_f, true_and, x_g, x_mv, x_ldn, x_call, kx, rvP_ok, ev_t, ev_c, evs_nil, evs_cons, getV_some, putD_some, getK_set, Nat.reduceEqDiff, ↓reduceIte, Bool.not_false, g2, d1, l9, hav2]
        refine (callP_0 (ef := f40) k.c40 rfl (f40_ret (x := ((x2 : Int), (x1 : Int))) (hw.grow hc gA4) hPi (inI_nat hx2 hx1) (by omega) hc4)).mono ?_
        rintro r h5 ⟨rfl, gr5⟩
        have hc5 := gr5.hc hc4
        have gA5 := gA4.trans (gr5.low gA4.nx)
        by_cases hin2 : ((x2 : Int), (x1 : Int)) ∈ P
        · have d2 : decide (((x2 : Int), (x1 : Int)) ∈ P) = true := decide_eq_true hin2
          simp (disch := omega) only [w_reg, w_cond, w_exit, seqK_n, seqK_e, atK_e, ckB_b, cbB_b, true_and, x_nil, x_pick, kx, rvP_ok, ev_t, ev_c, getV_some, putD_some, pick_b, getK_set, Nat.reduceEqDiff, ↓reduceIte, Bool.false_eq_true, d2]
          exact skip _ _ gA5 (by rw [hx]; exact .inr hin2) (by simp (disch := omega) only [getK_set, Nat.reduceEqDiff, ↓reduceIte, g0, g1, g2, g7, and_self])
        · have d2 : decide (((x2 : Int), (x1 : Int)) ∈ P) = false := decide_eq_false hin2
          clear skip
          have gr5n := gr5.nx
          have c8_5 := (gr5.old h1.nx (by omega)).trans ((gr4.old h1.nx (by omega)).trans c8')
          have c9_5 := (gr5.old h2.nx (by omega)).trans c9'
          simp (disch := omega) only [f65_r6, f65_r7, w_skip, w_reg, w_seq, w_cond, w_block, seqK_n, ckB_b, cbB_b, true_and, x_nil, x_as, x_pick, kx, rvP_ok, ev_t, ev_c, getV_some, putD_some, pick_b, of0, getK_set, Nat.reduceEqDiff, ↓reduceIte, Bool.false_eq_true, d2]
          refine W_loop (f65_K h5 n v w h1.nx h2.nx (x1, x2) (nOrd (gR (arI g)) (fun a b => pC P a b ∨ Rch (Er (gR (arI g))) x1 x2 a b)) (nOrd (gR (arI g)) (fun a b => pC P a b ∨ Rch (Er (gR (arI g))) x2 x1 a b))) (fun kk => 2 - kk) ?_ 0 ⟨by omega, Kp.refl hc5, by rw [if_pos rfl]; exact c8_5, by simp (disch := omega) only [getK_set, Nat.reduceEqDiff, ↓reduceIte, g0, g1, g2, and_self, Int.natCast_zero, sumT_0]⟩
          clear g0 g1 g2 g7 fr l9 l3 l80 l81 p1 p2 hst hst2
          rintro kk fr h6 ⟨hkk, hK, hid8, g0, g1, g2, g8, g9, g10, g11⟩
          have hc6 := hK.hc
          have hKn := hK.nx
          have q1 : nOrd (gR (arI g)) (fun a b => pC P a b ∨ Rch (Er (gR (arI g))) x1 x2 a b) ≤ 562949953421312 := nOrd_le
          have q2 : nOrd (gR (arI g)) (fun a b => pC P a b ∨ Rch (Er (gR (arI g))) x2 x1 a b) ≤ 562949953421312 := nOrd_le
          have gA6 : Grow h.nx.nat h h6 := gA5.trans (hK.toGrow (b := h.nx.nat) (by omega) gA5.nx)
          unfold f65_l1
          by_cases hk2 : kk < 2
          · have d3 : decide ((kk : Int) < 2) = true := decide_eq_true (by omega)
            -- the arrow of this round
            obtain ⟨z, hz, hzG, hz8, hzN⟩ : ∃ z : Nat × Nat, (z = (x1, x2) ∨ z = swN (x1, x2)) ∧ Er (gR (arI g)) z.1 z.2 ∧ h6.get h1.nx = .cells 2 [.i .i64 (z.1 : Int), .i .i64 (z.2 : Int)] ∧
                sumT (nOrd (gR (arI g)) (fun a b => pC P a b ∨ Rch (Er (gR (arI g))) x1 x2 a b)) (nOrd (gR (arI g)) (fun a b => pC P a b ∨ Rch (Er (gR (arI g))) x2 x1 a b)) (kk + 1) = sumT (nOrd (gR (arI g)) (fun a b => pC P a b ∨ Rch (Er (gR (arI g))) x1 x2 a b)) (nOrd (gR (arI g)) (fun a b => pC P a b ∨ Rch (Er (gR (arI g))) x2 x1 a b)) kk + nOrd (gR (arI g)) (fun a b => pC P a b ∨ Rch (Er (gR (arI g))) z.1 z.2 a b) := by
              by_cases e : kk = 0
              · subst e
                exact ⟨(x1, x2), .inl rfl, hxG, by rw [if_pos rfl] at hid8; exact hid8, by simp [sumT]⟩
              · have : kk = 1 := by omega
                subst this
                exact ⟨(x2, x1), .inr rfl, hyG, by rw [if_neg (by omega)] at hid8; exact hid8, by simp [sumT]⟩
            have hsum : sumT (nOrd (gR (arI g)) (fun a b => pC P a b ∨ Rch (Er (gR (arI g))) x1 x2 a b)) (nOrd (gR (arI g)) (fun a b => pC P a b ∨ Rch (Er (gR (arI g))) x2 x1 a b)) kk ≤ 1125899906842624 := by unfold sumT; split <;> split <;> omega
            generalize sumT (nOrd (gR (arI g)) (fun a b => pC P a b ∨ Rch (Er (gR (arI g))) x1 x2 a b)) (nOrd (gR (arI g)) (fun a b => pC P a b ∨ Rch (Er (gR (arI g))) x2 x1 a b)) kk = s0 at *
            have l8 := ldn2 hz8
            have havz : V.agg [.i .i64 (z.1 : Int), .i .i64 (z.2 : Int)] = aV z := rfl
            simp (disch := omega) only [f65_r8, f65_r9, w_skip, w_reg, w_seq, w_cond, w_block, seqK_n, ckB_b, cbB_b, true_and, x_nil, x_mv, x_ldn, x_bin, x_call, kx, rvP_ok, okv_some, ev_t, ev_c, evs_nil, evs_cons, getV_some, putD_some, bin_lss, of2, getK_set, Nat.reduceEqDiff, ↓reduceIte, g0, g1, g8, g11, d3, l8, havz]
            refine (callP_0 (ef := f21) k.c21 rfl (f21_ret (s := z) k.toCallsCs hg (hv.grow hc gA6) hzG hc6)).mono ?_
            rintro r h7 ⟨u, w13, M, rfl, _, hu, hou, _, _, gr7⟩
            have hc7 := gr7.hc hc6
            have gr7n := gr7.nx
            have gA7 := gA6.trans (gr7.low gA6.nx)
            obtain ⟨nx, h8, a1, s1, o1, gr8⟩ := (hw.grow hc gA7).appN hc7 (by omega)
            have hc8 := gr8.hc hc7
            have gr8n := gr8.nx
            have gA8 := gA7.trans (gr8.low gA7.nx)
            have ci' := ci.app hzG
            have hul := arI_len (g := rat (clsR (gR (arI g)) z))
            have hlenu := hu.len
            have id9old : h8.get h2.nx = .cells 2 [.i .i64 (x2 : Int), .i .i64 (x1 : Int)] := (gr8.old _ (by omega)).trans ((gr7.old _ (by omega)).trans ((hK.old h2.nx (by omega) (kNe (by omega)).symm).trans c9_5))
            have id8old : h8.get h1.nx = .cells 2 [.i .i64 (z.1 : Int), .i .i64 (z.2 : Int)] := (gr8.old _ (by omega)).trans ((gr7.old _ (by omega)).trans hz8)
            simp (disch := omega) only [f65_r10, f65_r11, f65_r12, f65_r13, w_reg, w_seq, w_block, seqK_n, x_nil, x_mv, x_as, x_ext, x_app, kx, rvP_ok, okv_some, ev_t, ev_c, getV_some, putD_some, onTup_t, nth0, nth1, of0, getK_set, Nat.reduceEqDiff, ↓reduceIte, g2, a1]
            refine W_loop (f65_J h7 n v w u h1.nx h2.nx P (arI (rat (clsR (gR (arI g)) z))) s0 kk) (fun j => (arI (rat (clsR (gR (arI g)) z))).length - j) ?_ 0 ⟨by omega, gr8, true, nx, ⟨fun _ i hi h0 => by omega, fun _ => rfl⟩, by rw [List.take_zero, List.append_nil]; exact s1, o1, by simp (disch := omega) only [getK_set, Nat.reduceEqDiff, ↓reduceIte, g0, g1, g2, g8, g9, g10, g11, and_self, Int.natCast_zero]⟩
            clear g0 g1 g2 g8 g9 g10 g11 fr a1 s1 o1 l8
            rintro j fr h9 ⟨hj, hG9, bb, nx', hbb, hnx, honx, g0, g1, g2, g8, g9, g10, g11, g12, g14, g15, g16⟩
            have hc9 := hG9.hc hc7
            have hG9n := hG9.nx
            have hu9 := hu.grow hc7 hG9
            unfold f65_l0
            by_cases hjl : j < (arI (rat (clsR (gR (arI g)) z))).length
            · have d4 : decide ((j : Int) < ((arI (rat (clsR (gR (arI g)) z))).length : Int)) = true := decide_eq_true (by omega)
              obtain ⟨a, b, ha, hb, hab, ec⟩ := mem_arI.1 (List.getElem_mem hjl)
              obtain ⟨id4, q4, w1, _, w3, w4⟩ := hu9.srpo.at2 hjl
              rw [ec] at w3 w4
              have z0 : ∀ ff : Nat → RV, idxV (.i .i64 0) 2 ff = ff 0 := fun _ => rfl
              have z1 : ∀ ff : Nat → RV, idxV (.i .i64 1) 2 ff = ff 1 := fun _ => rfl
              have hav : V.agg [.i .i64 (b : Int), .i .i64 (a : Int)] = aV (b, a) := rfl
              have hub := hu.beq
              obtain ⟨hst3, gF, c17, n17⟩ := arr_var (h := h9) (x := b) (y := a)
              simp (disch := omega) only [f65_r14, f65_r15, w_skip, w_reg, w_draw, w_seq, w_cond, w_block, seqK_n, ckB_b, cbB_b, true_and, x_nil, x_mv, x_st, x_bin, x_len, kx, kg, xg_nil, xg_mv, xg_build, xg_ld, xg_iadr, xg_iads, xd_cons, stK_s, stay_nil, rvP_ok, okv_some, ev_t, ev_c, getV_some, putD_some, bin_lss, onP_p, oGet_s, cells1_i, of0, of1, getK_set, Nat.reduceEqDiff, ↓reduceIte, xg_alloc, fill_2, set_2, g12, g16, hlenu, d4, w1, z0, z1, w3, w4, fill_2, set_2, hav, hc9.dead]
              refine ⟨fresh_p (by simp (disch := omega) only [getK_set, ↓reduceIte]), ?_⟩
              simp (disch := omega) only [w_reg, w_seq, seqK_n, true_and, x_nil, kx, xg_nil, xd_cons, fresh_nil, stK_n, stay_nil, rvP_ok, putD_none, hst3]
              generalize (h9.new (.cells 2 [.i .i64 0, .i .i64 0])).put h9.nx (.cells 2 [.i .i64 (b : Int), .i .i64 (a : Int)]) = h10 at *
              have hc10 := gF.hc hc9
              have hsuc := okJ_succ (P := P) hjl
              rw [ec] at hsuc
              cases bb with
              | false =>
                have g911 : Grow h9.nx.nat h9 h10 := gF
                generalize h10 = h11 at *
                have hG11 : Grow h7.nx.nat h7 h11 := hG9.trans (g911.low hG9.nx)
                have hc11 := hG11.hc hc7
                obtain ⟨id5, q5, v1, v2, _, _⟩ := (hu.grow hc7 hG11).srpo.at2 hjl
                have v2 : loadV h11 (.p id5 q5) (many? 2) = .ok (aV (a, b)) h11 := by rw [ec] at v2; exact v2
                obtain ⟨nx2, h12, a1, s1, o1, gr12, _⟩ := Sk.push (b := h7.nx.nat) qE_len (by omega) (x := ((a : Int), (b : Int))) (hnx.grow hc9 g911) honx hG11.nx hc11 (by rw [List.length_append, List.length_take]; omega)
                have a1' : appV 2 (h11.new (.cells (1 * 2) [.i .i64 (a : Int), .i .i64 (b : Int)])) nx' (.sl h11.nx 0 1 2) = .ok nx2 h12 := a1
                have cp : cellsN 2 (aV (a, b)) = some [.i .i64 (a : Int), .i .i64 (b : Int)] := rfl
                have sp : setMany [V.i .i64 0, V.i .i64 0] 0 [V.i .i64 (a : Int), V.i .i64 (b : Int)] = [V.i .i64 (a : Int), V.i .i64 (b : Int)] := rfl
                have etk : P ++ (arI (rat (clsR (gR (arI g)) z))).take (j + 1) = P ++ (arI (rat (clsR (gR (arI g)) z))).take j ++ [((a : Int), (b : Int))] := by rw [List.take_succ_eq_append_getElem hjl, ec, List.append_assoc]
                simp (disch := omega) only [f65_r16, f65_r17, f65_r18, w_reg, seqK_n, atK_n, loopK_n, okG_b, asG_t, true_and, x_nil, x_g, x_mv, x_as, x_pick, x_bslice, x_ldn, x_bin, x_iads, x_app, kx, rvP_ok, okv_some, ev_t, ev_c, getV_some, putD_some, bin_add, pick_b, oGet_s, of0, of1, getK_set, Nat.reduceEqDiff, ↓reduceIte, Bool.false_eq_true, fill_0, g12, g14, g15, g16, v1, v2, fill_c, cp, sp, a1', fw64]
                refine ⟨j + 1, by omega, by omega, hG11.trans gr12, false, nx2, ⟨(fun h => by cases h), fun h => by have := hbb.2 (hsuc.1 h).1; cases this⟩, by rw [etk]; exact s1, o1, by simp (disch := omega) only [getK_set, Nat.reduceEqDiff, ↓reduceIte, g0, g1, g2, g8, g9, g10, g11, g12, and_self, Int.natCast_add, Int.natCast_one]⟩
              | true =>
                have l17 := ldn2 c17
                simp (disch := omega) only [f65_r16, okG_b, asG_t, true_and, x_g, x_mv, x_ldn, x_call, kx, rvP_ok, ev_t, ev_c, evs_nil, evs_cons, getV_some, putD_some, getK_set, Nat.reduceEqDiff, ↓reduceIte, g14, g15, l17, hav]
                refine (callP_0 (ef := f40) k.c40 rfl (f40_ret (x := ((b : Int), (a : Int))) (hnx.grow hc9 gF).srpo (fun y hy => ci'.nd.inI y ((List.mem_append.1 hy).elim (List.mem_append_left _) fun h => List.mem_append_right _ (List.mem_of_mem_take h))) (inI_nat hb ha) (by rw [List.length_append, List.length_take]; omega) hc10)).mono ?_
                rintro r h11 ⟨rfl, gr11⟩
                have g911 : Grow h9.nx.nat h9 h11 := gF.trans (gr11.low gF.nx)
                have hG11 : Grow h7.nx.nat h7 h11 := hG9.trans (g911.low hG9.nx)
                have hc11 := hG11.hc hc7
                obtain ⟨id5, q5, v1, v2, _, _⟩ := (hu.grow hc7 hG11).srpo.at2 hjl
                have v2 : loadV h11 (.p id5 q5) (many? 2) = .ok (aV (a, b)) h11 := by rw [ec] at v2; exact v2
                obtain ⟨nx2, h12, a1, s1, o1, gr12, _⟩ := Sk.push (b := h7.nx.nat) qE_len (by omega) (x := ((a : Int), (b : Int))) (hnx.grow hc9 g911) honx hG11.nx hc11 (by rw [List.length_append, List.length_take]; omega)
                have a1' : appV 2 (h11.new (.cells (1 * 2) [.i .i64 (a : Int), .i .i64 (b : Int)])) nx' (.sl h11.nx 0 1 2) = .ok nx2 h12 := a1
                have cp : cellsN 2 (aV (a, b)) = some [.i .i64 (a : Int), .i .i64 (b : Int)] := rfl
                have sp : setMany [V.i .i64 0, V.i .i64 0] 0 [V.i .i64 (a : Int), V.i .i64 (b : Int)] = [V.i .i64 (a : Int), V.i .i64 (b : Int)] := rfl
                have etk : P ++ (arI (rat (clsR (gR (arI g)) z))).take (j + 1) = P ++ (arI (rat (clsR (gR (arI g)) z))).take j ++ [((a : Int), (b : Int))] := by rw [List.take_succ_eq_append_getElem hjl, ec, List.append_assoc]
                simp (disch := omega) only [f65_r17, f65_r18, w_reg, seqK_n, atK_n, loopK_n, okG_b, asG_t, true_and, x_nil, x_g, x_mv, x_as, x_pick, x_bslice, x_ldn, x_bin, x_not, x_iads, x_app, kx, rvP_ok, okv_some, ev_t, ev_c, getV_some, putD_some, bin_add, pick_b, onB_b, oGet_s, of0, of1, getK_set, Nat.reduceEqDiff, ↓reduceIte, fill_0, g12, g15, g16, v1, v2, fill_c, cp, sp, a1', fw64]
                refine ⟨j + 1, by omega, by omega, hG11.trans gr12, !decide (((b : Int), (a : Int)) ∈ P ++ (arI (rat (clsR (gR (arI g)) z))).take j), nx2, ?_, by rw [etk]; exact s1, o1, by simp (disch := omega) only [getK_set, Nat.reduceEqDiff, ↓reduceIte, g0, g1, g2, g8, g9, g10, g11, g12, and_self, Int.natCast_add, Int.natCast_one]⟩
                rw [hsuc, Bool.not_eq_true', decide_eq_false_iff_not]
                exact ⟨fun h => ⟨hbb.1 rfl, h⟩, fun h => h.2⟩
            · have d4 : decide ((j : Int) < ((arI (rat (clsR (gR (arI g)) z))).length : Int)) = false := decide_eq_false (by omega)
              have ej : j = (arI (rat (clsR (gR (arI g)) z))).length := by omega
              subst ej
              rw [List.take_length] at hnx
              have gA9 := gA7.trans (hG9.low gA7.nx)
              have c8_9 : h9.get h1.nx = .cells 2 [.i .i64 (z.1 : Int), .i .i64 (z.2 : Int)] := (hG9.old _ (by omega)).trans ((gr7.old _ (by omega)).trans hz8)
              have c9_9 : h9.get h2.nx = .cells 2 [.i .i64 (x2 : Int), .i .i64 (x1 : Int)] := (hG9.old _ (by omega)).trans ((gr7.old _ (by omega)).trans ((hK.old h2.nx (by omega) (kNe (by omega)).symm).trans c9_5))
              have kp9 : Kp h1.nx h5 h9 := (hK.grow gr7 hKn).grow hG9 (by omega)
              have hav2' : V.agg [.i .i64 (x2 : Int), .i .i64 (x1 : Int)] = aV (x2, x1) := rfl
              cases bb with
              | false =>
                have hbad := nOrd_bad hzG (fun h => by have := hbb.2 h; cases this)
                have l9' := ldn2 c9_9
                have s8' : storeV h9 2 (.p h1.nx 0) (aV (x2, x1)) = .ok undefV (h9.put h1.nx (.cells 2 [.i .i64 (x2 : Int), .i .i64 (x1 : Int)])) := st2 c8_9
                simp (disch := omega) only [f65_r14, f65_r19, f65_r21, f65_r22, w_skip, w_reg, w_seq, w_cond, w_exit, seqK_n, seqK_e, atK_n, atK_e, loopK_n, loopK_e, ckB_b, cbB_b, true_and, x_nil, x_mv, x_as, x_ldn, x_st, x_bin, x_len, kx, rvP_ok, okv_some, ev_t, ev_c, getV_some, putD_some, putD_none, bin_add, bin_lss, of1, getK_set, Nat.reduceEqDiff, ↓reduceIte, Bool.false_eq_true, g8, g9, g11, g12, g14, g16, hlenu, d4, l9', hav2', s8', fw64]
                refine ⟨kk + 1, by omega, by omega, kp9.put (by omega) _, by rw [if_neg (by omega)]; exact get_put_same, by simp (disch := omega) only [getK_set, Nat.reduceEqDiff, ↓reduceIte, g0, g1, g2, g8, g9, g10, and_self, Int.natCast_add, Int.natCast_one, hzN, hbad, Nat.add_zero]⟩
              | true =>
                have hlt65 : cntT (unD (gR (arI g)) (P ++ arI (rat (clsR (gR (arI g)) z)))) < m := by
                  rw [← hm]; exact unD_app (x := (x1, x2)) hxG hin hin2 hzG hz
                simp (disch := omega) only [f65_r14, f65_r19, f65_r20, w_reg, w_seq, w_cond, w_exit, seqK_n, seqK_e, atK_e, loopK_e, ckB_b, cbB_b, true_and, x_nil, x_mv, x_bin, x_call, x_len, kx, rvP_ok, okv_some, ev_t, ev_c, evs_nil, evs_cons, getV_some, putD_some, bin_lss, getK_set, Nat.reduceEqDiff, ↓reduceIte, Bool.false_eq_true, g0, g1, g10, g12, g14, g15, g16, hlenu, d4]
                refine (callP_0 (ef := f65) k.c65 rfl (ih _ hlt65 _ h9 nx' rfl ci' (by rw [List.length_append]; omega) (hv.grow hc gA9) hnx.srpo hc9)).mono ?_
                rintro r h10 ⟨rfl, gr10⟩
                have hc10 := gr10.hc hc9
                rw [nOrd_congr (fun a b => pC_app hzG)]
                have c8_10 := (gr10.old h1.nx (by omega)).trans c8_9
                have l9' := ldn2 ((gr10.old h2.nx (by omega)).trans c9_9)
                have s8' : storeV h10 2 (.p h1.nx 0) (aV (x2, x1)) = .ok undefV (h10.put h1.nx (.cells 2 [.i .i64 (x2 : Int), .i .i64 (x1 : Int)])) := st2 c8_10
                have q3 : nOrd (gR (arI g)) (fun a b => pC P a b ∨ Rch (Er (gR (arI g))) z.1 z.2 a b) ≤ 562949953421312 := nOrd_le
                have gr10n := gr10.nx
                simp (disch := omega) only [f65_r21, f65_r22, w_reg, seqK_n, atK_n, loopK_n, x_nil, x_mv, x_as, x_ldn, x_st, x_bin, kx, rvP_ok, okv_some, ev_t, ev_c, getV_some, putD_some, putD_none, bin_add, of1, getK_set, Nat.reduceEqDiff, ↓reduceIte, g8, g9, g11, l9', hav2', s8', fw64]
                refine ⟨kk + 1, by omega, by omega, (kp9.grow gr10 (by omega)).put (by omega) _, by rw [if_neg (by omega)]; exact get_put_same, by simp (disch := omega) only [getK_set, Nat.reduceEqDiff, ↓reduceIte, g0, g1, g2, g8, g9, and_self, Int.natCast_add, Int.natCast_one, hzN]⟩
          · have d3 : decide ((kk : Int) < 2) = false := decide_eq_false (by omega)
            have ek : kk = 2 := by omega
            subst ek
            simp (disch := omega) only [f65_r8, f65_r23, w_reg, w_seq, w_cond, w_exit, w_ret, seqK_n, seqK_e, seqK_r, atK_r, atK_e, loopK_e, loopK_r, ckB_b, cbB_b, true_and, x_nil, x_mv, x_as, x_bin, kx, rvP_ok, okv_some, ev_t, ev_c, getV_some, putD_some, bin_lss, of2, getK_set, Nat.reduceEqDiff, ↓reduceIte, Bool.false_eq_true, g10, g11, d3]
            refine ⟨gA6, .inr ⟨rfl, ?_⟩⟩
            simp (disch := omega) only [Option.some.injEq, getK_set, ↓reduceIte]
            rw [nOrd_split (C := pC P) sy.gr hxG]
            rfl
    · have d0 : decide ((i : Int) < ((arI g).length : Int)) = false := decide_eq_false (by omega)
      simp (disch := omega) only [f65_r2, w_reg, w_seq, w_cond, w_exit, seqK_n, seqK_e, loopK_e, ckB_b, cbB_b, true_and, x_nil, x_mv, x_bin, x_len, kx, rvP_ok, okv_some, ev_t, getV_some, putD_some, bin_lss, getK_set, Nat.reduceEqDiff, ↓reduceIte, Bool.false_eq_true, g1, g7, hlen, d0]
      exact ⟨hG, .inl ⟨rfl, fun j hj => hdir j hj (by omega), by simp (disch := omega) only [getK_set, Nat.reduceEqDiff, ↓reduceIte, g0, g1, g2, and_self]⟩⟩
theorem f32_ret {n : Nat} {v : V} {g : Nat → Nat → Bool} (k : CallsRc fs) (hg : Gph n g) (hv : Srp h v (arI g)) (hc : HC h) : Ret fs f32 [.i .i64 (n : Int), v] h fun r h' => r = .i .i64 (nOrd (gR (arI g)) (fun _ _ => False) : Int) ∧ Grow h.nx.nat h h' := by
  have ci : CnI (gR (arI g)) [] := ⟨fun x hx => absurd hx (by simp), fun a b h => absurd h (by unfold pC; simp)⟩
  have h49 : cntT (unD (gR (arI g)) []) ≤ 49 := cntT_le rl_len
  apply ret_of rfl
  show W fs none f32_c _ _ _
  unfold f32_c
  simp (disch := omega) only [f32_r0, f32_r1, w_reg, w_seq, seqK_n, x_nil, x_mv, x_as, x_call, ev_t, ev_c, evs_nil, evs_cons, getV_some, putD_some, frame_2, of0, getK_set, Nat.reduceEqDiff, ↓reduceIte]
  refine (callP_0 (ef := f65) k.c65 rfl (f65_ret k hg _ [] h .sn rfl ci (by simp only [List.length_nil]; omega) hv Sk.nil.srpo hc)).mono ?_
  rintro r h1 ⟨rfl, g1⟩
  have e : nOrd (gR (arI g)) (pC []) = nOrd (gR (arI g)) (fun _ _ => False) := nOrd_congr fun a b => ⟨fun h => by unfold pC at h; simp at h, False.elim⟩
  rw [e]
  simp (disch := omega) only [f32_rs, w_ret, seqK_n, true_and, retK_r, x_nil, x_as, kx, ev_t, getV_some, putD_some, oGet_s, readRs_nil, readRs_t, retV_1, Option.some.injEq, exists_eq_left', getK_set, ↓reduceIte, true_and]
  exact g1
end
end Go.Ev
namespace Go.Ev
open Go Go.RowKit
noncomputable def f5_r0 : List EOper := [⟨(some (K.ofNat 4)), none, .as (.c (.b false))⟩]
noncomputable def f5_r1 : List EOper := [⟨(some (K.ofNat 12)), none, .mv (.t (K.ofNat 0))⟩, ⟨(some (K.ofNat 13)), none, .mv (.t (K.ofNat 1))⟩, ⟨(some (K.ofNat 14)), none, .call (.c (.fn (K.ofNat 11) [])) [(.t (K.ofNat 12)), (.t (K.ofNat 13)), (.c (.i .i64 (.ofNat 6)))]⟩, ⟨(some (K.ofNat 11)), none, .mv (.t (K.ofNat 14))⟩, ⟨(some (K.ofNat 15)), none, .ext (.t (K.ofNat 11)) 0⟩, ⟨(some (K.ofNat 16)), none, .ext (.t (K.ofNat 11)) 1⟩, ⟨(some (K.ofNat 5)), none, .as (.t (K.ofNat 15))⟩, ⟨(some (K.ofNat 6)), none, .as (.t (K.ofNat 16))⟩]
noncomputable def f5_r2 : List EOper := [⟨(some (K.ofNat 18)), none, .mv (.t (K.ofNat 5))⟩, ⟨(some (K.ofNat 19)), none, .mv (.t (K.ofNat 6))⟩, ⟨(some (K.ofNat 20)), none, .call (.c (.fn (K.ofNat 31) [])) [(.t (K.ofNat 18)), (.t (K.ofNat 19))]⟩, ⟨(some (K.ofNat 17)), none, .mv (.t (K.ofNat 20))⟩, ⟨(some (K.ofNat 21)), none, .ext (.t (K.ofNat 17)) 0⟩, ⟨(some (K.ofNat 22)), none, .ext (.t (K.ofNat 17)) 1⟩, ⟨(some (K.ofNat 7)), none, .as (.t (K.ofNat 21))⟩, ⟨(some (K.ofNat 8)), none, .as (.t (K.ofNat 22))⟩]
noncomputable def f5_r3 : List EOper := [⟨(some (K.ofNat 24)), none, .mv (.t (K.ofNat 6))⟩, ⟨(some (K.ofNat 25)), none, .call (.c (.fn (K.ofNat 31) [])) [(.c (.i .i64 (.ofNat 7))), (.t (K.ofNat 24))]⟩, ⟨(some (K.ofNat 23)), none, .mv (.t (K.ofNat 25))⟩, ⟨(some (K.ofNat 26)), none, .ext (.t (K.ofNat 23)) 0⟩, ⟨(some (K.ofNat 27)), none, .ext (.t (K.ofNat 23)) 1⟩, ⟨(some (K.ofNat 9)), none, .as (.t (K.ofNat 26))⟩, ⟨(some (K.ofNat 10)), none, .as (.t (K.ofNat 27))⟩]
noncomputable def f5_r4 : List EOper := [⟨(some (K.ofNat 28)), none, .mv (.t (K.ofNat 8))⟩, ⟨(some (K.ofNat 29)), none, .bin .eql (.t (K.ofNat 28)) (.c (.i .i64 (.ofNat 0)))⟩, ⟨(some (K.ofNat 30)), none, .mv (.t (K.ofNat 29))⟩, ⟨(some (K.ofNat 31)), (some ((K.ofNat 30), true)), .mv (.t (K.ofNat 7))⟩, ⟨(some (K.ofNat 32)), (some ((K.ofNat 30), true)), .mv (.t (K.ofNat 5))⟩, ⟨(some (K.ofNat 33)), (some ((K.ofNat 30), true)), .mv (.t (K.ofNat 6))⟩, ⟨(some (K.ofNat 34)), (some ((K.ofNat 30), true)), .call (.c (.fn (K.ofNat 32) [])) [(.t (K.ofNat 32)), (.t (K.ofNat 33))]⟩, ⟨(some (K.ofNat 35)), (some ((K.ofNat 30), true)), .bin .eql (.t (K.ofNat 31)) (.t (K.ofNat 34))⟩, ⟨(some (K.ofNat 36)), none, .pick (.t (K.ofNat 30)) (.t (K.ofNat 35)) (.c (.b false))⟩, ⟨(some (K.ofNat 37)), none, .mv (.t (K.ofNat 36))⟩, ⟨(some (K.ofNat 38)), (some ((K.ofNat 37), true)), .mv (.t (K.ofNat 10))⟩, ⟨(some (K.ofNat 39)), (some ((K.ofNat 37), true)), .bin .eql (.t (K.ofNat 38)) (.c (.i .i64 (.ofNat 1)))⟩, ⟨(some (K.ofNat 40)), none, .pick (.t (K.ofNat 37)) (.t (K.ofNat 39)) (.c (.b false))⟩, ⟨(some (K.ofNat 41)), none, .mv (.t (K.ofNat 40))⟩, ⟨(some (K.ofNat 42)), (some ((K.ofNat 41), true)), .mv (.t (K.ofNat 9))⟩, ⟨(some (K.ofNat 43)), (some ((K.ofNat 41), true)), .bin .eql (.t (K.ofNat 42)) (.c (.i .i64 (.ofNat 0)))⟩, ⟨(some (K.ofNat 44)), none, .pick (.t (K.ofNat 41)) (.t (K.ofNat 43)) (.c (.b false))⟩, ⟨(some (K.ofNat 45)), none, .mv (.t (K.ofNat 44))⟩, ⟨(some (K.ofNat 46)), (some ((K.ofNat 45), true)), .call (.c (.fn (K.ofNat 22) [])) []⟩, ⟨(some (K.ofNat 47)), none, .pick (.t (K.ofNat 45)) (.t (K.ofNat 46)) (.c (.b false))⟩, ⟨(some (K.ofNat 4)), none, .as (.t (K.ofNat 47))⟩]
noncomputable def f5_c : EC := (.seq (.reg f5_r0) (.seq (.reg f5_r1) (.seq (.reg f5_r2) (.seq (.reg f5_r3) (.seq (.reg f5_r4) .ret)))))
noncomputable def f5 : EF := ⟨48, [.tmp (K.ofNat 4)], f5_c, none⟩
theorem f5_rs : f5.rs = [.tmp (K.ofNat 4)] := of_eq_true (eq_self _)
section
variable {fs : T EF} {h h' : H}
structure CallsCt (fs : T EF) : Prop extends CallsNo fs, CallsRc fs where
  c11 : fs.get (K.ofNat 11) = some f11
  c31 : fs.get (K.ofNat 31) = some f31
  c32 : fs.get (K.ofNat 32) = some f32
  aw : ∀ h P, CallP fs (.fn (K.ofNat 22) []) [] h P = P (.b true) h
theorem f5_ret {n : Int} {v : V} {l : List (Int × Int)} (k : CallsCt fs) (hv : Srp h v l) (hc : HC h) : Ret fs f5 [.i .i64 n, v] h fun r h' => r = .b true ∧ Grow h.nx.nat h h' := by
  apply ret_of rfl
  show W fs none f5_c _ _ _
  unfold f5_c
  have o6 : Int.ofNat 6 = ((6 : Nat) : Int) := rfl
  have o7 : Int.ofNat 7 = ((7 : Nat) : Int) := rfl
  simp (disch := omega) only [f5_r0, f5_r1, w_reg, w_seq, seqK_n, x_nil, x_mv, x_as, x_call, ev_t, ev_c, evs_nil, evs_cons, getV_some, putD_some, frame_2, of6, getK_set, Nat.reduceEqDiff, ↓reduceIte]
  refine (callP_0 (ef := f11) k.c11 rfl (f11_ret (n := n) (w := 6) hv (by omega) (by omega) hc)).mono ?_
  rintro r h1 ⟨m, e, g, rfl, hm6, hg, he, hoe, gr1⟩
  have hc1 := gr1.hc hc
  have hg7 : Gph 7 g := ⟨by omega, by omega, fun a b h => ⟨(hg.up a b h).1, by have := (hg.up a b h).2; have := hg.n7; omega⟩⟩
  simp (disch := omega) only [f5_r2, w_reg, w_seq, seqK_n, x_nil, x_mv, x_as, x_ext, x_call, kx, rvP_ok, okv_some, ev_t, ev_c, evs_nil, evs_cons, getV_some, putD_some, onTup_t, nth0, nth1, getK_set, Nat.reduceEqDiff, ↓reduceIte]
  refine (callP_0 (ef := f31) k.c31 rfl (f31_ret k.toCallsNo hg he.srpo hc1)).mono ?_
  rintro r h2 ⟨rfl, gr2⟩
  rw [if_pos hm6]
  have hc2 := gr2.hc hc1
  have gA := gr1.trans (gr2.low gr1.nx)
  have he2 := he.grow hc1 gr2
  simp (disch := omega) only [f5_r3, w_reg, w_seq, seqK_n, x_nil, x_mv, x_as, x_ext, x_call, kx, rvP_ok, okv_some, ev_t, ev_c, evs_nil, evs_cons, getV_some, putD_some, onTup_t, nth0, nth1, getK_set, Nat.reduceEqDiff, ↓reduceIte, of7]
  refine (callP_0 (ef := f31) k.c31 rfl (f31_ret (n := 7) k.toCallsNo hg7 he2.srpo hc2)).mono ?_
  rintro r h3 ⟨rfl, gr3⟩
  rw [if_neg (by omega)]
  have hc3 := gr3.hc hc2
  have gB := gA.trans (gr3.low gA.nx)
  have eq0 : decide ((0 : Int) = 0) = true := rfl
  have eq1 : decide ((1 : Int) = 1) = true := rfl
  simp (disch := omega) only [f5_r4, w_reg, w_seq, seqK_n, okG_b, asG_t, true_and, x_nil, x_g, x_mv, x_as, x_bin, x_ext, x_call, kx, rvP_ok, okv_some, ev_t, ev_c, evs_nil, evs_cons, getV_some, putD_some, bin_eql, onTup_t, nth0, nth1, of0, of1, getK_set, Nat.reduceEqDiff, ↓reduceIte, decide_eq_true_eq]
  refine (callP_0 (ef := f32) k.c32 rfl (f32_ret k.toCallsRc hg (he2.grow hc2 gr3).srpo hc3)).mono ?_
  rintro r h4 ⟨rfl, gr4⟩
  have eqN : decide ((nOrd (gR (arI g)) (fun _ _ => False) : Int) = (nOrd (gR (arI g)) (fun _ _ => False) : Int)) = true := by simp
  simp (disch := omega) only [f5_rs, w_ret, seqK_n, okG_b, asG_t, true_and, retK_r, x_nil, x_g, x_mv, x_as, x_pick, x_bin, x_call, kx, rvP_ok, okv_some, ev_t, ev_c, evs_nil, getV_some, putD_some, bin_eql, pick_b, oGet_s, readRs_nil, readRs_t, retV_1, Option.some.injEq, exists_eq_left', getK_set, Nat.reduceEqDiff, ↓reduceIte, decide_eq_true_eq, k.aw, true_and]
  exact gB.trans (gr4.low gB.nx)
end
end Go.Ev
