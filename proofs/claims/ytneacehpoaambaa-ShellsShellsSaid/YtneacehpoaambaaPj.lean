/-
  The state of the search for a shelling: its boxes, its two slices, its map.
  Functions of the seat: the search for a shelling (findShelling's closure).
  Functions of the seat: findShelling, Shell.
  Complexes as the laws make them: tame, and pure.
  The law ShellsShells.
-/
import Derived.Test.YtneacehpoaambaaPh
import Derived.Test.YtneacehpoaambaaPi
namespace Go.Ev
open Go Go.RowKit
section
variable {α : Type} {e : α → V} {h h' : H} {v : V} {L : List α}
theorem Sl.map {β : Type} {e : β → V} {f : α → β} (hs : Sl (fun x => e (f x)) h v L) : Sl e h v (L.map f) := by
  rcases hs with ⟨rfl, rfl⟩ | ⟨id, off, m, cs, rfl, hb, hl, hm, hx⟩
  · exact .inl ⟨rfl, rfl⟩
  · exact .inr ⟨id, off, m, cs, by rw [List.length_map], hb, hl, by rw [List.length_map]; exact hm, fun i hi => by
      have hi' : i < L.length := by simpa using hi
      rw [hx i hi', List.getElem_map]⟩
theorem cellsN_arr {f : Nat → α} {n : Nat} : cellsN n (.agg ((arr f n).map e)) = some ((arr f n).map e) := by
  show (bif Nat.beq (lenL ((arr f n).map e)) n then some ((arr f n).map e) else none) = _
  rw [lenL_eq, List.length_map, arr_len, Nat.beq_refl]; rfl
theorem Ar.box {f : Nat → α} {n : Nat} : Ar e (h.new (.cells n ((arr f n).map e))) h.nx (arr f n) := by
  unfold Ar; rw [get_new_same, arr_len]
/-- The whole array is stored. -/
theorem Ar.stn {f g : Nat → α} {n : Nat} {id : K} (ha : Ar e h id (arr f n)) : storeV h n (.p id 0) (.agg ((arr g n).map e)) = .ok undefV (h.put id (.cells n ((arr g n).map e))) := by
  unfold Ar at ha
  rw [arr_len] at ha
  rw [store_p ha cellsN_arr (by omega), setMany_eq _ _ _ (by simp [arr]), List.take_zero, List.nil_append, List.drop_eq_nil_of_le (by simp [arr]), List.append_nil]
end
/-- Two slices in different blocks. -/
def Apart (o w : V) : Prop := ∀ id off n sz, o = .sl id off n sz → NotIn id w
theorem Apart.symm {o w : V} (h : Apart o w) : Apart w o := fun id off n sz e off' n' sz' e' => h id off' n' sz' e' off n sz e
structure Ids where
  (P O B M T F : K)
structure IdsOk (b c : Nat) (d : Ids) : Prop where
  a1 : b ≤ d.P.nat
  a2 : d.P.nat < d.O.nat
  a3 : d.O.nat < d.B.nat
  a4 : d.B.nat < d.M.nat
  a5 : d.M.nat < d.T.nat
  a6 : d.T.nat < d.F.nat
  a7 : d.F.nat < c
noncomputable def capsF (d : Ids) : List V := [.p d.O 0, .p d.P 0, .p d.T 0, .p d.B 0, .p d.F 0]
structure FSt (b c : Nat) (h0 : H) (d : Ids) (v : V) (Q : List Nat) (M : List (List Bool)) (O : List Nat) (o w : V) (h : H) : Prop where
  gr : Grow b h0 h
  nx : c ≤ h.nx.nat
  eP : h.get d.P = .cells 1 [v]
  eO : h.get d.O = .cells 1 [o]
  eB : h.get d.B = .cells 1 [w]
  eM : MapI h d.M 89 M
  eT : h.get d.T = .cells 1 [.m d.M]
  eF : h.get d.F = .cells 1 [.fn (K.ofNat 79) (capsF d)]
  so : Sl nE h o O
  sw : Sl nE h w (O.map fun i => Q.getD i 0)
  oo : Own c o
  ow : Own c w
  ap : Apart o w
  /-- What lies beside stays. -/
def Kept (c : Nat) (h : H) (o w : V) (h' : H) (o' w' : V) : Prop := h.nx.nat ≤ h'.nx.nat ∧ ∀ id : K, c ≤ id.nat → id.nat < h.nx.nat → NotIn id o → NotIn id w → h'.get id = h.get id ∧ NotIn id o' ∧ NotIn id w'
theorem Kept.refl {c : Nat} {h : H} {o w : V} : Kept c h o w h o w := ⟨Nat.le_refl _, fun _ _ _ h1 h2 => ⟨rfl, h1, h2⟩⟩
theorem Kept.trans {c : Nat} {h h1 h2 : H} {o w o1 w1 o2 w2 : V} (k : Kept c h o w h1 o1 w1) (l : Kept c h1 o1 w1 h2 o2 w2) : Kept c h o w h2 o2 w2 := by
  refine ⟨Nat.le_trans k.1 l.1, fun id h1 h2 h3 h4 => ?_⟩
  obtain ⟨q1, q2, q3⟩ := k.2 id h1 h2 h3 h4
  have := k.1
  obtain ⟨q4, q5, q6⟩ := l.2 id h1 (by omega) q2 q3
  exact ⟨q4.trans q1, q5, q6⟩
theorem Kept.grow {c : Nat} {h h' : H} {o w : V} (g : Grow h.nx.nat h h') : Kept c h o w h' o w := ⟨g.nx, fun id _ h2 h3 h4 => ⟨g.old id h2, h3, h4⟩⟩
theorem Kept.put {c : Nat} {h : H} {o w : V} {id : K} {x : Blk} (hi : id.nat < c) : Kept c h o w (h.put id x) o w := ⟨Nat.le_refl _, fun id' h1 _ h3 h4 => ⟨get_put_other (kNe (by omega)).symm, h3, h4⟩⟩
section
variable {b c : Nat} {h0 h h' : H} {d : Ids} {v : V} {Q O : List Nat} {M : List (List Bool)} {o w : V}
theorem FSt.hc (t : FSt b c h0 d v Q M O o w h) (h1 : HC h0) : HC h := t.gr.hc h1
theorem FSt.grow (t : FSt b c h0 d v Q M O o w h) (h1 : HC h0) (k : IdsOk b c d) (g : Grow h.nx.nat h h') : FSt b c h0 d v Q M O o w h' := by
  have := t.nx; have := g.nx; obtain ⟨a1, a2, a3, a4, a5, a6, a7⟩ := k
  have hc := t.hc h1
  exact ⟨t.gr.trans (g.low (by omega)), by omega, by rw [g.old _ (by omega)]; exact t.eP, by rw [g.old _ (by omega)]; exact t.eO, by rw [g.old _ (by omega)]; exact t.eB, by unfold MapI; rw [g.old _ (by omega)]; exact t.eM,
    by rw [g.old _ (by omega)]; exact t.eT, by rw [g.old _ (by omega)]; exact t.eF, t.so.grow hc g, t.sw.grow hc g, t.oo, t.ow, t.ap⟩
/-- The map gets an entry. -/
theorem FSt.mark (t : FSt b c h0 d v Q M O o w h) (k : IdsOk b c d) {M' : List (List Bool)} {x : Blk} (h1 : MapI (h.put d.M x) d.M 89 M') : FSt b c h0 d v Q M' O o w (h.put d.M x) := by
  have := t.nx; obtain ⟨a1, a2, a3, a4, a5, a6, a7⟩ := k
  have n1 := t.oo.notIn (id := d.M) (by omega)
  have n2 := t.ow.notIn (id := d.M) (by omega)
  exact ⟨t.gr.trans (Grow.put (by omega) (by omega) _), t.nx, by rw [get_put_other (kNe (by omega))]; exact t.eP, by rw [get_put_other (kNe (by omega))]; exact t.eO, by rw [get_put_other (kNe (by omega))]; exact t.eB, h1,
    by rw [get_put_other (kNe (by omega)).symm]; exact t.eT, by rw [get_put_other (kNe (by omega)).symm]; exact t.eF, t.so.put n1 _, t.sw.put n2 _, t.oo, t.ow, t.ap⟩
/-- Both slices have turned, and lie in their boxes. -/
theorem FSt.turn {O' : List Nat} {o' w' : V} {h2 : H} (t : FSt b c h0 d v Q M O o w h) (k : IdsOk b c d) (g : Grow c h h2) (so : Sl nE h2 o' O') (sw : Sl nE h2 w' (O'.map fun i => Q.getD i 0)) (oo : Own c o') (ow : Own c w') (ap : Apart o' w') :
    FSt b c h0 d v Q M O' o' w' ((h2.put d.O (.cells 1 [o'])).put d.B (.cells 1 [w'])) := by
  have := t.nx; have := g.nx; obtain ⟨a1, a2, a3, a4, a5, a6, a7⟩ := k
  have ne : ∀ j : K, j.nat < c → j ≠ d.O → j ≠ d.B → ((h2.put d.O (.cells 1 [o'])).put d.B (.cells 1 [w'])).get j = h.get j := fun j hj n1 n2 => by rw [get_put_other n2, get_put_other n1, g.old _ hj]
  have g1 : Grow b h2 (h2.put d.O (.cells 1 [o'])) := Grow.put (by omega) (by omega) _
  have g2 : Grow b (h2.put d.O (.cells 1 [o'])) ((h2.put d.O (.cells 1 [o'])).put d.B (.cells 1 [w'])) := Grow.put (by omega) (by rw [nx_put]; omega) _
  refine ⟨((t.gr.trans (g.low (by omega))).trans g1).trans g2, by rw [nx_put, nx_put]; omega, by rw [ne _ (by omega) (kNe (by omega)) (kNe (by omega))]; exact t.eP, by rw [get_put_other (kNe (by omega)), get_put_same], get_put_same,
    by unfold MapI; rw [ne _ (by omega) (kNe (by omega)).symm (kNe (by omega)).symm]; exact t.eM, by rw [ne _ (by omega) (kNe (by omega)).symm (kNe (by omega)).symm]; exact t.eT, by rw [ne _ (by omega) (kNe (by omega)).symm (kNe (by omega)).symm]; exact t.eF,
    (so.put (oo.notIn (by omega)) _).put (oo.notIn (by omega)) _, (sw.put (ow.notIn (by omega)) _).put (ow.notIn (by omega)) _, oo, ow, ap⟩
/-- order, before = append(order, i), append(before, piece) -/
theorem FSt.push (t : FSt b c h0 d v Q M O o w h) (h1 : HC h0) (k : IdsOk b c d) (i : Nat) (hn : O.length < 1000000) (A B : Blk) (hA : A = .cells (1 * 1) [nE i]) (hB : B = .cells (1 * 1) [nE (Q.getD i 0)]) :
    ∃ o' w' h3 h4, appV 1 ((h.new A).new B) o (.sl h.nx 0 1 1) = .ok o' h3 ∧ h3.get d.B = .cells 1 [w] ∧ h3.get (h.new A).nx = B ∧ appV 1 h3 w (.sl (h.new A).nx 0 1 1) = .ok w' h4 ∧
      storeV h4 1 (.p d.O 0) o' = .ok undefV (h4.put d.O (.cells 1 [o'])) ∧ storeV (h4.put d.O (.cells 1 [o'])) 1 (.p d.B 0) w' = .ok undefV ((h4.put d.O (.cells 1 [o'])).put d.B (.cells 1 [w'])) ∧
      FSt b c h0 d v Q M (O ++ [i]) o' w' ((h4.put d.O (.cells 1 [o'])).put d.B (.cells 1 [w'])) ∧ Kept c h o w ((h4.put d.O (.cells 1 [o'])).put d.B (.cells 1 [w'])) o' w' := by
  have nx := t.nx; have kk := k; obtain ⟨a1, a2, a3, a4, a5, a6, a7⟩ := k
  have hc := t.hc h1
  have n1 := nx_new h A
  have n2 := nx_new (h.new A) B
  have g1 : Grow h.nx.nat h (h.new A) := Grow.new (Nat.le_refl _) A
  have hc1 := g1.hc hc
  have g2 : Grow (h.new A).nx.nat (h.new A) ((h.new A).new B) := Grow.new (Nat.le_refl _) B
  have g12 : Grow h.nx.nat h ((h.new A).new B) := g1.trans (g2.low (by omega))
  have hc2 := g2.hc hc1
  have sA : Sl nE (h.new A) (.sl h.nx 0 1 1) [i] := by subst hA; exact Sl.lit
  have sB : Sl nE ((h.new A).new B) (.sl (h.new A).nx 0 1 1) [Q.getD i 0] := by subst hB; exact Sl.lit
  obtain ⟨o', h3, p1, p2, p3, p4, p5⟩ := Sl.app (b := c) (t.so.grow hc g12) t.oo (by omega) (sA.grow hc1 g2) hc2 (by simp; omega)
  have hc3 := p4.hc hc2
  have nx3 := p4.nx
  have lo := t.so.lt hc
  have lw := t.sw.lt hc
  have oB : NotIn (h.new A).nx o := fun off n sz e => by have := lo _ _ _ _ e; omega
  have wB : NotIn (h.new A).nx w := fun off n sz e => by have := lw _ _ _ _ e; omega
  obtain ⟨b3, b4⟩ := p5 (h.new A).nx (by omega) oB
  have eB3 : h3.get (h.new A).nx = B := b3.trans get_new_same
  have sB3 : Sl nE h3 (.sl (h.new A).nx 0 1 1) [Q.getD i 0] := sB.same fun id off n sz e => by cases e; exact b3
  have sw3 : Sl nE h3 w (O.map fun i => Q.getD i 0) := (t.sw.grow hc g12).same fun id off n sz e => (p5 id (by have := lw _ _ _ _ e; omega) (t.ap.symm _ _ _ _ e)).1
  obtain ⟨w', h4, q1, q2, q3, q4, q5⟩ := Sl.app (b := c) sw3 t.ow (by omega) sB3 hc3 (by simp; omega)
  have nx4 := q4.nx
  have lo3 := p2.lt hc3
  -- the new order lies in no block of before
  have ow3 : Apart o' w := fun id off n sz e off' n' sz' e' => (p5 id (by have := lw _ _ _ _ e'; omega) (t.ap.symm _ _ _ _ e')).2 _ _ _ e
  have so4 : Sl nE h4 o' (O ++ [i]) := p2.same fun id off n sz e => (q5 id (lo3 _ _ _ _ e) (ow3 _ _ _ _ e)).1
  have ap4 : Apart o' w' := fun id off n sz e => (q5 id (lo3 _ _ _ _ e) (ow3 _ _ _ _ e)).2
  have gg : Grow c h h4 := ((g12.low (by omega)).trans p4).trans q4
  have sw4 : Sl nE h4 w' ((O ++ [i]).map fun i => Q.getD i 0) := by rw [List.map_append]; exact q2
  have eB3' : h3.get d.B = .cells 1 [w] := by rw [p4.old _ (by omega), g12.old _ (by omega)]; exact t.eB
  have eO4 : h4.get d.O = .cells 1 [o] := by rw [gg.old _ (by omega)]; exact t.eO
  have eB4 : (h4.put d.O (.cells 1 [o'])).get d.B = .cells 1 [w] := by rw [get_put_other (kNe (by omega)).symm, gg.old _ (by omega)]; exact t.eB
  refine ⟨o', w', h3, h4, p1, eB3', eB3, q1, ?_, ?_, t.turn kk gg so4 sw4 p3 q3 ap4, ?_⟩
  · rw [store_p eO4 p2.one (by omega)]; rfl
  · rw [store_p eB4 q2.one (by omega)]; rfl
  · refine ⟨by rw [nx_put, nx_put]; omega, fun id i1 i2 i3 i4 => ?_⟩
    obtain ⟨r1, r2⟩ := p5 id (by omega) i3
    obtain ⟨r3, r4⟩ := q5 id (by omega) i4
    refine ⟨?_, ?_, r4⟩
    · rw [get_put_other (kNe (by omega)).symm, get_put_other (kNe (by omega)).symm, r3, r1, g12.old _ i2]
    · exact r2
/-- order, before = order[:len(order)-1], before[:len(before)-1] -/
theorem FSt.pop {i : Nat} (t : FSt b c h0 d v Q M (O ++ [i]) o w h) (k : IdsOk b c d) :
    ∃ o' w', (∀ k h1, sliceB 1 o none (some (.i k (O.length : Int))) none h1 = .ok o' h1) ∧ (∀ k h1, sliceB 1 w none (some (.i k (O.length : Int))) none h1 = .ok w' h1) ∧ beqV w' w' = true ∧ beqV w w = true ∧
      storeV h 1 (.p d.O 0) o' = .ok undefV (h.put d.O (.cells 1 [o'])) ∧ storeV (h.put d.O (.cells 1 [o'])) 1 (.p d.B 0) w' = .ok undefV ((h.put d.O (.cells 1 [o'])).put d.B (.cells 1 [w'])) ∧
      FSt b c h0 d v Q M O o' w' ((h.put d.O (.cells 1 [o'])).put d.B (.cells 1 [w'])) ∧ Kept c h o w ((h.put d.O (.cells 1 [o'])).put d.B (.cells 1 [w'])) o' w' := by
  have nx := t.nx; have kk := k; obtain ⟨a1, a2, a3, a4, a5, a6, a7⟩ := k
  obtain ⟨o', p1, p2, p3, p4⟩ := t.so.cut (lo := none) (hi := some (.i .i64 (O.length : Int))) (l := 0) (u := O.length) rfl rfl (Nat.zero_le _) (by simp)
  obtain ⟨w', q1, q2, q3, q4⟩ := t.sw.cut (lo := none) (hi := some (.i .i64 (O.length : Int))) (l := 0) (u := O.length) rfl rfl (Nat.zero_le _) (by simp)
  have e1 : ((O ++ [i]).take O.length).drop 0 = O := by simp
  have e2 : (((O ++ [i]).map fun i => Q.getD i 0).take O.length).drop 0 = O.map fun i => Q.getD i 0 := by simp
  rw [e1] at p2
  rw [e2] at q2
  have ap' : Apart o' w' := fun id off n sz e => q4 id fun off' n' sz' e' => by
    have : ¬ NotIn id o' := fun hh => hh _ _ _ e
    exact this (p4 id fun o2 n2 s2 e2 => t.ap _ _ _ _ e2 _ _ _ e')
  have eB4 : (h.put d.O (.cells 1 [o'])).get d.B = .cells 1 [w] := by rw [get_put_other (kNe (by omega)).symm]; exact t.eB
  refine ⟨o', w', ?_, ?_, q2.beq, t.sw.beq, ?_, ?_, t.turn kk (Grow.refl _ _) p2 q2 (p3 _ t.oo) (q3 _ t.ow) ap', ⟨Nat.le_refl _, fun id i1 i2 i3 i4 => ⟨?_, p4 id i3, q4 id i4⟩⟩⟩
  · intro kk h1; rw [← p1 h1]; cases o <;> rfl
  · intro kk h1; rw [← q1 h1]; cases w <;> rfl
  · rw [store_p t.eO p2.one (by omega)]; rfl
  · rw [store_p eB4 q2.one (by omega)]; rfl
  · rw [get_put_other (kNe (by omega)).symm, get_put_other (kNe (by omega)).symm]
theorem FSt.ldP (t : FSt b c h0 d v Q M O o w h) : loadV h (.p d.P 0) one? = .ok v h := load_p t.eP rfl
theorem FSt.ldO (t : FSt b c h0 d v Q M O o w h) : loadV h (.p d.O 0) one? = .ok o h := load_p t.eO rfl
theorem FSt.ldB (t : FSt b c h0 d v Q M O o w h) : loadV h (.p d.B 0) one? = .ok w h := load_p t.eB rfl
theorem FSt.ldT (t : FSt b c h0 d v Q M O o w h) : loadV h (.p d.T 0) one? = .ok (.m d.M) h := load_p t.eT rfl
theorem FSt.ldF (t : FSt b c h0 d v Q M O o w h) : loadV h (.p d.F 0) one? = .ok (.fn (K.ofNat 79) (capsF d)) h := load_p t.eF rfl
end
end Go.Ev
namespace Go.Ev
open Go Go.RowKit
noncomputable def f79_r0 : List EOper := [⟨(some (K.ofNat 6)), none, .box 10 (.t (K.ofNat 0))⟩, ⟨(some (K.ofNat 7)), none, .as (.c (.b false))⟩]
noncomputable def f79_r1 : List EOper := [⟨(some (K.ofNat 11)), none, .ld (.t (K.ofNat 1))⟩, ⟨(some (K.ofNat 12)), none, .len (.t (K.ofNat 11))⟩, ⟨(some (K.ofNat 13)), none, .ld (.t (K.ofNat 2))⟩, ⟨(some (K.ofNat 14)), none, .len (.t (K.ofNat 13))⟩, ⟨(some (K.ofNat 15)), none, .bin .eql (.t (K.ofNat 12)) (.t (K.ofNat 14))⟩]
noncomputable def f79_r2 : List EOper := [⟨(some (K.ofNat 7)), none, .as (.c (.b true))⟩]
noncomputable def f79_r3 : List EOper := [⟨(some (K.ofNat 16)), none, .ld (.t (K.ofNat 3))⟩, ⟨(some (K.ofNat 17)), none, .ldn 10 (.t (K.ofNat 6))⟩, ⟨(some (K.ofNat 18)), none, .look 89 (.many (List.replicate 10 none)) (.b false) (.t (K.ofNat 16)) (.t (K.ofNat 17)) false⟩]
noncomputable def f79_r4 : List EOper := [⟨(some (K.ofNat 7)), none, .as (.c (.b false))⟩]
noncomputable def f79_r5 : List EOper := [⟨(some (K.ofNat 19)), none, .ld (.t (K.ofNat 3))⟩, ⟨(some (K.ofNat 20)), none, .ldn 10 (.t (K.ofNat 6))⟩, ⟨none, none, .mupd 89 (.many (List.replicate 10 none)) (.t (K.ofNat 19)) (.t (K.ofNat 20)) (.c (.b true))⟩]
noncomputable def f79_r6 : List EOper := [⟨(some (K.ofNat 21)), none, .ld (.t (K.ofNat 2))⟩, ⟨(some (K.ofNat 22)), none, .len (.t (K.ofNat 21))⟩, ⟨(some (K.ofNat 23)), none, .mv (.c (.i .i64 (.ofNat 0)))⟩]
noncomputable def f79_r7 : List EOper := [⟨(some (K.ofNat 24)), none, .bin .lss (.t (K.ofNat 23)) (.t (K.ofNat 22))⟩]
noncomputable def f79_r8 : List EOper := [⟨(some (K.ofNat 25)), none, .mv (.t (K.ofNat 23))⟩, ⟨(some (K.ofNat 26)), none, .iads 1 (.t (K.ofNat 21)) (.t (K.ofNat 23))⟩, ⟨(some (K.ofNat 27)), none, .ld (.t (K.ofNat 26))⟩, ⟨(some (K.ofNat 8)), none, .as (.t (K.ofNat 25))⟩, ⟨(some (K.ofNat 9)), none, .as (.t (K.ofNat 27))⟩]
noncomputable def f79_r9 : List EOper := [⟨(some (K.ofNat 28)), none, .mv (.t (K.ofNat 8))⟩, ⟨(some (K.ofNat 29)), none, .iadr 10 1 (.t (K.ofNat 6)) (.t (K.ofNat 28))⟩, ⟨(some (K.ofNat 30)), none, .ld (.t (K.ofNat 29))⟩, ⟨(some (K.ofNat 31)), none, .mv (.t (K.ofNat 30))⟩, ⟨(some (K.ofNat 32)), (some ((K.ofNat 31), false)), .mv (.t (K.ofNat 9))⟩, ⟨(some (K.ofNat 33)), (some ((K.ofNat 31), false)), .ld (.t (K.ofNat 4))⟩, ⟨(some (K.ofNat 34)), (some ((K.ofNat 31), false)), .call (.c (.fn (K.ofNat 80) [])) [(.t (K.ofNat 32)), (.t (K.ofNat 33))]⟩, ⟨(some (K.ofNat 35)), (some ((K.ofNat 31), false)), .not (.t (K.ofNat 34))⟩, ⟨(some (K.ofNat 36)), none, .pick (.t (K.ofNat 31)) (.c (.b true)) (.t (K.ofNat 35))⟩]
noncomputable def f79_r10 : List Stage := [⟨[⟨(some (K.ofNat 37)), none, .ld (.t (K.ofNat 1))⟩, ⟨(some (K.ofNat 38)), none, .mv (.t (K.ofNat 8))⟩, ⟨(some (K.ofNat 39)), none, .bslice 1 1 [(.i .i64 (.ofNat 0))] [(0, 1, (.t (K.ofNat 38)))]⟩, ⟨(some (K.ofNat 41)), none, .ld (.t (K.ofNat 4))⟩, ⟨(some (K.ofNat 42)), none, .mv (.t (K.ofNat 9))⟩, ⟨(some (K.ofNat 43)), none, .bslice 1 1 [(.i .i64 (.ofNat 0))] [(0, 1, (.t (K.ofNat 42)))]⟩], [], (some ⟨(some (K.ofNat 40)), none, .app 1 (.t (K.ofNat 37)) (.t (K.ofNat 39))⟩), [(K.ofNat 39), (K.ofNat 43)]⟩, ⟨[], [⟨(some (K.ofNat 41)), none, .ld (.t (K.ofNat 4))⟩, ⟨(some (K.ofNat 42)), none, .mv (.t (K.ofNat 9))⟩, ⟨(some (K.ofNat 43)), none, .bslice 1 1 [(.i .i64 (.ofNat 0))] [(0, 1, (.t (K.ofNat 42)))]⟩], (some ⟨(some (K.ofNat 44)), none, .app 1 (.t (K.ofNat 41)) (.t (K.ofNat 43))⟩), []⟩, ⟨[], [], (some ⟨none, none, .st 1 (.t (K.ofNat 1)) (.t (K.ofNat 40))⟩), []⟩, ⟨[], [], (some ⟨none, none, .st 1 (.t (K.ofNat 4)) (.t (K.ofNat 44))⟩), []⟩, ⟨[], [], none, []⟩]
noncomputable def f79_r11 : List EOper := [⟨(some (K.ofNat 45)), none, .ldn 10 (.t (K.ofNat 6))⟩, ⟨(some (K.ofNat 10)), none, .alloc 10 (List.replicate 10 (.b false))⟩, ⟨none, none, .st 10 (.t (K.ofNat 10)) (.t (K.ofNat 45))⟩]
noncomputable def f79_r12 : List EOper := [⟨(some (K.ofNat 46)), none, .mv (.t (K.ofNat 8))⟩, ⟨(some (K.ofNat 47)), none, .iadr 10 1 (.t (K.ofNat 10)) (.t (K.ofNat 46))⟩, ⟨none, none, .st 1 (.t (K.ofNat 47)) (.c (.b true))⟩]
noncomputable def f79_r13 : List EOper := [⟨(some (K.ofNat 48)), none, .ld (.t (K.ofNat 5))⟩, ⟨(some (K.ofNat 49)), none, .ldn 10 (.t (K.ofNat 10))⟩, ⟨(some (K.ofNat 50)), none, .call (.t (K.ofNat 48)) [(.t (K.ofNat 49))]⟩]
noncomputable def f79_r14 : List EOper := [⟨(some (K.ofNat 7)), none, .as (.c (.b true))⟩]
noncomputable def f79_r15 : List Stage := [⟨[⟨(some (K.ofNat 51)), none, .ld (.t (K.ofNat 1))⟩, ⟨(some (K.ofNat 52)), none, .ld (.t (K.ofNat 1))⟩, ⟨(some (K.ofNat 53)), none, .len (.t (K.ofNat 52))⟩, ⟨(some (K.ofNat 54)), none, .bin .sub (.t (K.ofNat 53)) (.c (.i .i64 (.ofNat 1)))⟩, ⟨(some (K.ofNat 55)), none, .slice 1 (.t (K.ofNat 51)) none (some (.t (K.ofNat 54))) none⟩, ⟨(some (K.ofNat 56)), none, .ld (.t (K.ofNat 4))⟩, ⟨(some (K.ofNat 57)), none, .ld (.t (K.ofNat 4))⟩, ⟨(some (K.ofNat 58)), none, .len (.t (K.ofNat 57))⟩, ⟨(some (K.ofNat 59)), none, .bin .sub (.t (K.ofNat 58)) (.c (.i .i64 (.ofNat 1)))⟩, ⟨(some (K.ofNat 60)), none, .slice 1 (.t (K.ofNat 56)) none (some (.t (K.ofNat 59))) none⟩], [], (some ⟨none, none, .st 1 (.t (K.ofNat 1)) (.t (K.ofNat 55))⟩), []⟩, ⟨[], [⟨(some (K.ofNat 56)), none, .ld (.t (K.ofNat 4))⟩, ⟨(some (K.ofNat 57)), none, .ld (.t (K.ofNat 4))⟩, ⟨(some (K.ofNat 58)), none, .len (.t (K.ofNat 57))⟩, ⟨(some (K.ofNat 59)), none, .bin .sub (.t (K.ofNat 58)) (.c (.i .i64 (.ofNat 1)))⟩, ⟨(some (K.ofNat 60)), none, .slice 1 (.t (K.ofNat 56)) none (some (.t (K.ofNat 59))) none⟩], (some ⟨none, none, .st 1 (.t (K.ofNat 4)) (.t (K.ofNat 60))⟩), []⟩, ⟨[], [], none, []⟩]
noncomputable def f79_r16 : List EOper := [⟨(some (K.ofNat 61)), none, .bin .add (.t (K.ofNat 23)) (.c (.i .i64 (.ofNat 1)))⟩, ⟨(some (K.ofNat 23)), none, .mv (.t (K.ofNat 61))⟩]
noncomputable def f79_l0 : EC := (.seq (.reg f79_r7) (.seq (.cond (.t (K.ofNat 24)) .skip (.exit 0)) (.seq (.block 1 (.seq (.reg f79_r8) (.seq (.seq (.reg f79_r9) (.cond (.t (K.ofNat 36)) (.exit 1) .skip)) (.seq (.draw f79_r10) (.seq (.reg f79_r11) (.seq (.reg f79_r12) (.seq (.seq (.reg f79_r13) (.cond (.t (K.ofNat 50)) (.seq (.reg f79_r14) .ret) .skip)) (.draw f79_r15)))))))) (.reg f79_r16))))
noncomputable def f79_r17 : List EOper := [⟨(some (K.ofNat 7)), none, .as (.c (.b false))⟩]
noncomputable def f79_c : EC := (.seq (.reg f79_r0) (.seq (.seq (.reg f79_r1) (.cond (.t (K.ofNat 15)) (.seq (.reg f79_r2) .ret) .skip)) (.seq (.seq (.reg f79_r3) (.cond (.t (K.ofNat 18)) (.seq (.reg f79_r4) .ret) .skip)) (.seq (.reg f79_r5) (.seq (.seq (.reg f79_r6) (.block 0 (.loop f79_l0))) (.seq (.reg f79_r17) .ret))))))
noncomputable def f79 : EF := ⟨62, [.tmp (K.ofNat 7)], f79_c, none⟩
theorem f79_rs : f79.rs = [.tmp (K.ofNat 7)] := of_eq_true (eq_self _)
section
variable {fs : T EF} {ro : Option K}
/-- What the search needs to call. -/
structure Calls79 (fs : T EF) : Prop where
  p54 : ∀ a b h P, CallP fs (.fn (K.ofNat 54) []) [.i .i64 a, .i .i64 b] h P = P (.b (ptI a b)) h
  pt : ∃ ef, fs.get (K.ofNat 54) = some ef ∧ ef.nv = some (flatG partG)
  c82 : fs.get (K.ofNat 82) = some f82
  c92 : fs.get (K.ofNat 92) = some coF
  c83 : fs.get (K.ofNat 83) = some f83
  c61 : fs.get (K.ofNat 61) = some f61
  c80 : fs.get (K.ofNat 80) = some f80
  c79 : fs.get (K.ofNat 79) = some f79
structure Anti (Q : List Nat) : Prop where
  len : Q.length ≤ 10
  lt : ∀ y ∈ Q, y < 64
  no : ∀ i j, i < Q.length → j < Q.length → j ≠ i → Q.getD i 0 &&& Q.getD j 0 ≠ Q.getD i 0
def bitsA (m : Nat) : List Bool := arr (fun i => m.testBit i) 10
structure Post79 (b c : Nat) (h0 : H) (d : Ids) (v : V) (Q O : List Nat) (o w : V) (h : H) (r : Bool) (h' : H) : Prop where
  ex : ∃ M' O' o' w', FSt b c h0 d v Q M' O' o' w' h' ∧ Kept c h o w h' o' w' ∧ (r = true → Ord Q O' ∧ O'.length = Q.length) ∧ (r = false → O' = O ∧ Tri Q M' O ∧ ¬ Fin0 Q (setO O))
def f79_I (b c : Nat) (h0 : H) (d : Ids) (v : V) (Q O : List Nat) (o w : V) (h : H) (u : K) (i : Nat) (fr : Fr) (h1 : H) : Prop := ∃ M1 o1 w1, i ≤ Q.length ∧ FSt b c h0 d v Q M1 O o1 w1 h1 ∧ Tri1 Q M1 O ∧ Kept c h o w h1 o1 w1 ∧
  (Ar V.b h1 u (bitsA (setO O)) ∧ NotIn u o1 ∧ NotIn u w1 ∧ u.nat < h1.nx.nat) ∧ (∀ k, k < i → okN Q (setO O) k → ¬ Fin0 Q (setO (O ++ [k]))) ∧
  fr.get (K.ofNat 1) = some (.p d.O 0) ∧ fr.get (K.ofNat 2) = some (.p d.P 0) ∧ fr.get (K.ofNat 3) = some (.p d.T 0) ∧ fr.get (K.ofNat 4) = some (.p d.B 0) ∧ fr.get (K.ofNat 5) = some (.p d.F 0) ∧ fr.get (K.ofNat 6) = some (.p u 0) ∧ fr.get (K.ofNat 21) = some (v) ∧ fr.get (K.ofNat 22) = some (.i .i64 (Q.length : Int)) ∧ fr.get (K.ofNat 23) = some (.i .i64 (i : Int))
theorem beqL_i {k : IntKind} {n : Int} : beqL [.i k n] [.i k n] = true := by
  show (beqV (.i k n) (.i k n) && true) = true
  rw [beq_i]; rfl
theorem bitsA_set {O : List Nat} {i : Nat} : (bitsA (setO O)).set i true = bitsA (setO (O ++ [i])) := by
  unfold bitsA
  rw [arr_set]
  apply arr_congr
  intro k _
  rw [setO_snoc, Nat.testBit_or, Nat.testBit_two_pow]
  by_cases e : k = i
  · subst e; simp
  · rw [if_neg e, decide_eq_false (fun h => e h.symm), Bool.or_false]
theorem bitsA_len {m : Nat} : (bitsA m).length = 10 := arr_len
theorem f79_body {b c : Nat} {h0 h : H} {d : Ids} {v : V} {Q O : List Nat} {o w : V} {u : K} {P : V → H → Prop} (k : Calls79 fs) (kd : IdsOk b c d) (hc0 : HC h0) (hv : Sl nE h0 v Q) (hvb : ∀ id off n sz, v = .sl id off n sz → id.nat < b) (an : Anti Q) (ho : Ord Q O)
    (hlt : O.length < Q.length) (hcu : c ≤ u.nat) (huh : h.nx.nat ≤ u.nat)
    (ih : ∀ i, i < Q.length → ∀ (M2 : List (List Bool)) (o2 w2 : V) (h2 : H), FSt b c h0 d v Q M2 (O ++ [i]) o2 w2 h2 → Ord Q (O ++ [i]) → Tri Q M2 (O ++ [i]) → CallP fs (.fn (K.ofNat 79) (capsF d)) [bK (bitsA (setO (O ++ [i])))] h2 fun r h' => ∃ x, r = .b x ∧ Post79 b c h0 d v Q (O ++ [i]) o2 w2 h2 x h')
    (hp1 : ∀ h', Post79 b c h0 d v Q O o w h true h' → P (.b true) h')
    (hp2 : ∀ h', Post79 b c h0 d v Q O o w h false h' → P (.b false) h')
    (i : Nat) (fr : Fr) (h1 : H) (hi : f79_I b c h0 d v Q O o w h u i fr h1) : W fs none f79_l0 (loopK (f79_I b c h0 d v Q O o w h u) (fun i => Q.length - i) i (atK 0 (seqK (W fs none (.seq (.reg f79_r17) .ret)) (retK f79 P)))) fr h1 := by
  obtain ⟨M1, o1, w1, hi, st, tr, kp, ⟨hu, hu1, hu2, hu3⟩, hno, g1, g2, g3, g4, g5, g6, g21, g22, g23⟩ := hi
  unfold f79_l0
  have hc1 := st.hc hc0
  have hv1 : Sl nE h1 v Q := hv.same fun id off n sz e => st.gr.old id (hvb _ _ _ _ e)
  by_cases hil : i < Q.length
  · have hil' : (i : Int) < (Q.length : Int) := by omega
    obtain ⟨p, hq1, hq2⟩ := hv1.at i hil
    have gi : Q.getD i 0 = Q[i] := by simp [List.getD, hil]
    have hx := an.lt _ (List.getElem_mem hil)
    have hal := an.len
    have hul : i < (bitsA (setO O)).length := by rw [bitsA_len]; omega
    have hub : (bitsA (setO O))[i] = (setO O).testBit i := arr_at hul
    have ldu : loadV h1 (.p u (0 + i * 1)) one? = .ok (.b ((setO O).testBit i)) h1 := by rw [hu.ld hul, hub]
    have i10 : i < 10 := by omega
    by_cases e1 : (setO O).testBit i = true
    · rw [e1] at ldu
      simp (disch := omega) only [f79_r7, f79_r8, f79_r9, f79_r16, w_skip, w_reg, w_seq, w_cond, w_block, w_exit, seqK_n, seqK_e, atK_e, loopK_n, ckB_b, cbB_b, okG_b, asG_f, true_and, x_nil, x_g, x_mv, x_as, x_pick, x_ld, x_bin, x_iadr, x_iads, kx, rvP_ok, okv_some, ev_t, ev_c, getV_some, putD_some, bin_add, bin_lss, pick_b, onP_p, idx_n, of1, getK_set, Nat.reduceEqDiff, ↓reduceIte, Bool.false_eq_true, Bool.not_true, g6, g21, g22, g23, hil', decide_true, hq1, hq2, nE, ldu, fw64]
      refine ⟨i + 1, by omega, M1, o1, w1, hil, st, tr, kp, ⟨hu, hu1, hu2, hu3⟩, fun k hk hok => ?_, by simp (disch := omega) only [getK_set, Nat.reduceEqDiff, ↓reduceIte, g1, g2, g3, g4, g5, g6, g21, g22, and_self, Int.natCast_add, Int.natCast_one]⟩
      by_cases e : k = i
      · subst e; have := hok.2.1; have := bit_iff.1 e1; omega
      · exact hno k (by omega) hok
    · have e1 : (setO O).testBit i = false := by simpa using e1
      rw [e1] at ldu
      simp (disch := omega) only [f79_r7, f79_r8, f79_r9, w_skip, w_reg, w_seq, w_cond, w_block, seqK_n, ckB_b, cbB_b, okG_b, asG_f, true_and, x_nil, x_g, x_mv, x_as, x_ld, x_bin, x_iadr, x_iads, x_call, kx, rvP_ok, okv_some, ev_t, ev_c, evs_nil, evs_cons, getV_some, putD_some, bin_lss, onP_p, idx_n, getK_set, Nat.reduceEqDiff, ↓reduceIte, Bool.not_false, g4, g6, g21, g22, g23, hil', decide_true, hq1, hq2, nE, ldu, st.ldB]
      have hnext : fitS (Q.getD i 0) (castL (O.map fun i => Q.getD i 0)) = nextR Q (setO O) i :=
        fits_next hil an.lt (fun j hj hne => an.no i j hil hj hne) (bit_iff0.1 e1) (fun z => by
          rw [List.mem_map]
          constructor
          · rintro ⟨j, hj, rfl⟩
            exact ⟨j, ho.lt j hj, setO_mem.2 hj, rfl⟩
          · rintro ⟨j, _, hj, rfl⟩
            exact ⟨j, setO_mem.1 hj, rfl⟩)
      have hsw : Sl iE h1 w1 (castL (O.map fun i => Q.getD i 0)) := Sl.map (f := fun (k : Nat) => (k : Int)) st.sw
      obtain ⟨ef, pt1, pt2⟩ := k.pt
      refine (callP_0 (ef := f80) k.c80 rfl (f80_ret (x := Q[i]) k.p54 k.c82 k.c92 pt1 pt2 k.c83 k.c61 hsw hc1 (by simp [castL]; omega) hx)).mono ?_
      rintro u1 h2 ⟨rfl, gr2⟩
      rw [← gi, hnext]
      have st2 := st.grow hc0 kd gr2
      have kp2 := kp.trans (Kept.grow (o := o1) (w := w1) gr2)
      have hu_2 : Ar V.b h2 u (bitsA (setO O)) := hu.same (gr2.old u hu3)
      have hu3_2 : u.nat < h2.nx.nat := by have := gr2.nx; omega
      have hc2 := st2.hc hc0
      cases e2 : nextR Q (setO O) i
      · simp (disch := omega) only [f79_r16, w_reg, w_cond, w_exit, seqK_n, seqK_e, atK_e, loopK_n, ckB_b, cbB_b, okG_b, asG_f, true_and, x_nil, x_g, x_mv, x_pick, x_bin, x_not, kx, rvP_ok, okv_some, ev_t, ev_c, getV_some, putD_some, bin_add, pick_b, onB_b, of1, getK_set, Nat.reduceEqDiff, ↓reduceIte, Bool.false_eq_true, Bool.not_false, g23, fw64]
        refine ⟨i + 1, by omega, M1, o1, w1, hil, st2, tr, kp2, ⟨hu_2, hu1, hu2, hu3_2⟩, fun k hk hok => ?_, by simp (disch := omega) only [getK_set, Nat.reduceEqDiff, ↓reduceIte, g1, g2, g3, g4, g5, g6, g21, g22, and_self, Int.natCast_add, Int.natCast_one]⟩
        by_cases e : k = i
        · subst e; have := hok.2.2; rw [e2] at this; cases this
        · exact hno k (by omega) hok
      · have hok : okN Q (setO O) i := ⟨hil, bit_iff0.1 e1, e2⟩
        have ho2 := Ord.snoc ho hok
        obtain ⟨o', w', h3, h4, q1, q2, q3, q4, q5, q6, q7, q8⟩ := st2.push hc0 kd i (by omega) (.cells (1 * 1) [.i .i64 (i : Int)]) (.cells (1 * 1) [.i .i64 (Q.getD i 0 : Int)]) rfl rfl
        have hcA : HC (h2.new (.cells (1 * 1) [.i .i64 (i : Int)])) := (Grow.new (b := 0) (Nat.zero_le _) _).hc hc2
        have nx2 := st2.nx
        have ldA : loadV (h2.new (.cells (1 * 1) [.i .i64 (i : Int)])) (.p d.B 0) one? = .ok w1 _ := load_p (by rw [get_new_old (by have := kd.a4; have := kd.a5; have := kd.a6; have := kd.a7; omega)]; exact st2.eB) rfl
        have ld3 : loadV h3 (.p d.B 0) one? = .ok w1 h3 := load_p q2 rfl
        simp (disch := omega) only [f79_r10, w_skip, w_reg, w_draw, w_seq, w_cond, seqK_n, ckB_b, cbB_b, okG_b, asG_f, true_and, x_nil, x_g, x_pick, x_st, x_not, x_app, kx, kg, xg_nil, xg_mv, xg_ld, xg_bslice, xd_cons, fresh_nil, stK_n, stK_s, stay_nil, stay_cons, again_ok, stay_mv, beq_i, stay_ld, rvP_ok, ev_t, ev_c, getV_some, putD_some, putD_none, pick_b, onB_b, oGet_s, cells1_i, fill_1, set_1, of0, Option.some.injEq, exists_eq_left', getK_set, Nat.reduceEqDiff, ↓reduceIte, Bool.false_eq_true, Bool.not_true, Bool.not_false, g1, g4, st2.ldO, hc2.dead, hcA.dead, ldA, q1, q4, q5, q6, ld3, st2.sw.beq]
        refine ⟨fresh_two (n := 1) (sz := 1) (n2 := 1) (sz2 := 1) (by simp (disch := omega) only [getK_set, Nat.reduceEqDiff, ↓reduceIte]) (by simp (disch := omega) only [getK_set, ↓reduceIte]), ⟨stay_lit (off := 0) (id := (h2.new (.cells (1 * 1) [.i .i64 (i : Int)])).nx) (cs := [.i .i64 (Q.getD i 0 : Int)]) (by simp (disch := omega) only [getK_set, Nat.reduceEqDiff, ↓reduceIte]) q3 (by simp (disch := omega) only [ev_t, getV_some, oGet_s, cells1_i, fill_1, set_1, getK_set, Nat.reduceEqDiff, ↓reduceIte]) beqL_i, trivial⟩, ?_⟩
        obtain ⟨ku1, ku2, ku3⟩ := q8.2 u hcu hu3_2 hu1 hu2
        have hu5 := hu_2.same ku1
        have kp5 := kp2.trans q8
        have hu35 : u.nat < ((h4.put d.O (.cells 1 [o'])).put d.B (.cells 1 [w'])).nx.nat := by have := q8.1; omega
        clear q1 q2 q3 q4 q5 q6 q8 ld3 ldA hcA ku1
        generalize (h4.put d.O (.cells 1 [o'])).put d.B (.cells 1 [w']) = h5 at *
        have hc5 := q7.hc hc0
        have nx6 := nx_new h5 (.cells 10 (List.replicate 10 (.b false)))
        have hA6 : Ar V.b (h5.new (.cells 10 (List.replicate 10 (.b false)))) h5.nx (arr (fun _ => false) 10) := by unfold Ar; rw [get_new_same]; rfl
        have st6 := hA6.stn (g := fun i => (setO O).testBit i)
        have gw6 : Grow h5.nx.nat h5 (h5.new (.cells 10 (List.replicate 10 (.b false)))) := Grow.new (Nat.le_refl _) _
        have gw7 : Grow h5.nx.nat (h5.new (.cells 10 (List.replicate 10 (.b false)))) ((h5.new (.cells 10 (List.replicate 10 (.b false)))).put h5.nx (.cells 10 ((bitsA (setO O)).map V.b))) := Grow.put (Nat.le_refl _) (by omega) _
        have hA7 : Ar V.b ((h5.new (.cells 10 (List.replicate 10 (.b false)))).put h5.nx (.cells 10 ((bitsA (setO O)).map V.b))) h5.nx (bitsA (setO O)) := by unfold Ar; rw [get_put_same, bitsA_len]
        have ldn5 := hu5.ldn (n := 10) bitsA_len.symm
        obtain ⟨st8, hA8⟩ := hA7.st (i := i) (x := true) (c := .b true) hul rfl rfl
        have gw8 : Grow h5.nx.nat ((h5.new (.cells 10 (List.replicate 10 (.b false)))).put h5.nx (.cells 10 ((bitsA (setO O)).map V.b))) (((h5.new (.cells 10 (List.replicate 10 (.b false)))).put h5.nx (.cells 10 ((bitsA (setO O)).map V.b))).put h5.nx (.cells (bitsA (setO O)).length (((bitsA (setO O)).set i true).map V.b))) := Grow.put (Nat.le_refl _) (by rw [nx_put]; omega) _
        have g58 := (gw6.trans gw7).trans gw8
        have ldn8 := hA8.ldn (n := 10) (by rw [List.length_set]; exact bitsA_len.symm)
        have t8 := q7.grow hc0 kd g58
        change storeV _ 10 _ (.agg ((bitsA (setO O)).map V.b)) = .ok undefV ((h5.new (.cells 10 (List.replicate 10 (.b false)))).put h5.nx (.cells 10 ((bitsA (setO O)).map V.b))) at st6
        have ldF8 := t8.ldF
        simp (disch := omega) only [f79_r11, f79_r12, f79_r13, w_reg, w_seq, seqK_n, x_nil, x_mv, x_alloc, x_ld, x_ldn, x_st, x_iadr, x_call, kx, rvP_ok, ev_t, ev_c, evs_nil, evs_cons, getV_some, putD_some, putD_none, onP_p, idx_n, getK_set, Nat.reduceEqDiff, ↓reduceIte, g5, g6, ldn5, st6, st8, ldF8, ldn8]
        clear st6 st8 hA6 hA7 ldF8 ldn5 gw6 gw7 gw8 nx6 ldn8 hA8
        generalize ((h5.new (.cells 10 (List.replicate 10 (.b false)))).put h5.nx (.cells 10 ((bitsA (setO O)).map V.b))).put h5.nx (.cells (bitsA (setO O)).length (((bitsA (setO O)).set i true).map V.b)) = h8 at *
        rw [bitsA_set]
        refine (ih i hil M1 o' w' h8 t8 ho2 tr.down).mono ?_
        rintro r h9 ⟨x, rfl, po⟩
        obtain ⟨M9, O9, o9, w9, t9, k9, f9, f9'⟩ := po.ex
        have kp9 := (kp5.trans (Kept.grow (o := o') (w := w') g58)).trans k9
        cases x
        · obtain ⟨rfl, tr9, nf9⟩ := f9' rfl
          obtain ⟨oa, wa, s1, s2, s3, s4, s5, s6, s7, s8⟩ := t9.pop kd
          have hsub : fw .i64 (((O ++ [i]).length : Int) - 1) = (O.length : Int) := by
            have : (O ++ [i]).length = O.length + 1 := by simp
            rw [fw64 (by omega) (by omega)]; omega
          have hln := t9.so.len
          have hlw := t9.sw.len
          rw [List.length_map] at hlw
          have ldb : loadV (h9.put d.O (.cells 1 [oa])) (.p d.B 0) one? = .ok w9 _ := load_p (by rw [get_put_other (kNe kd.a3).symm]; exact t9.eB) rfl
          obtain ⟨v1, v2, v3⟩ := k9.2 u hcu (by have := g58.nx; omega) ku2 ku3
          obtain ⟨v4, v5, v6⟩ := s8.2 u hcu (by have := g58.nx; have := k9.1; omega) v2 v3
          simp (disch := omega) only [f79_r15, w_skip, w_reg, w_draw, w_cond, seqK_n, atK_n, ckB_b, cbB_b, true_and, x_nil, x_st, sliceV_eq, Option.map_none, Option.map_some, kx, kg, xg_nil, xg_ld, xg_bin, xg_slice, xg_len, xd_cons, fresh_nil, stK_n, stK_s, stay_nil, stay_cons, again_ok, stay_len, stay_slice, beq_i, stay_ld, stay_bin, rvP_ok, okv_some, ev_t, ev_c, getV_some, putD_some, putD_none, bin_sub, of1, getK_set, Nat.reduceEqDiff, ↓reduceIte, Bool.false_eq_true, g1, g4, t9.ldO, t9.ldB, hln, hlw, hsub, s1, s2, s3, s4, s5, s6, ldb]
          simp (disch := omega) only [f79_r16, loopK_n, x_nil, x_mv, x_bin, kx, rvP_ok, okv_some, ev_t, ev_c, getV_some, putD_some, bin_add, of1, getK_set, Nat.reduceEqDiff, ↓reduceIte, g23, fw64]
          refine ⟨i + 1, by omega, M9, oa, wa, hil, s7, tr9.up, kp9.trans s8, ⟨((hu5.same (g58.old u hu35)).same v1).same v4, v5, v6, by have := s8.1; have := k9.1; have := g58.nx; omega⟩, fun k hk hok => ?_, by simp (disch := omega) only [getK_set, Nat.reduceEqDiff, ↓reduceIte, g1, g2, g3, g4, g5, g6, g21, g22, and_self, Int.natCast_add, Int.natCast_one]⟩
          by_cases e : k = i
          · subst e; exact nf9
          · exact hno k (by omega) hok
        · simp (disch := omega) only [f79_r14, f79_rs, w_reg, w_seq, w_cond, w_ret, seqK_n, seqK_r, atK_r, loopK_r, ckB_b, cbB_b, true_and, retK_r, x_nil, x_as, kx, ev_t, ev_c, getV_some, putD_some, oGet_s, readRs_nil, readRs_t, retV_1, Option.some.injEq, exists_eq_left', getK_set, ↓reduceIte]
          exact hp1 _ ⟨M9, O9, o9, w9, t9, kp9, f9, fun h => by cases h⟩
  · obtain rfl : i = Q.length := by omega
    simp (disch := omega) only [f79_r7, f79_r17, f79_rs, w_reg, w_seq, w_cond, w_exit, w_ret, seqK_n, seqK_e, atK_e, loopK_e, ckB_b, cbB_b, true_and, retK_r, x_nil, x_as, x_bin, kx, rvP_ok, okv_some, ev_t, ev_c, getV_some, putD_some, bin_lss, oGet_s, readRs_nil, readRs_t, retV_1, Option.some.injEq, exists_eq_left', getK_set, ↓reduceIte, Bool.false_eq_true, g22, g23, Int.lt_irrefl, decide_false]
    have nf := no_fin ho hlt fun k hk hok => hno k hk hok
    exact hp2 _ ⟨M1, O, o1, w1, st, kp, fun h => (by cases h), fun _ => ⟨rfl, tr.out ho an.len nf, nf⟩⟩
theorem f79_ret {b c : Nat} {h0 : H} {d : Ids} {v : V} {Q : List Nat} (k : Calls79 fs) (kd : IdsOk b c d) (hc0 : HC h0) (hv : Sl nE h0 v Q) (hvb : ∀ id off n sz, v = .sl id off n sz → id.nat < b) (an : Anti Q) :
    ∀ (n : Nat) (M : List (List Bool)) (O : List Nat) (o w : V) (h : H), Q.length - O.length ≤ n → FSt b c h0 d v Q M O o w h → Ord Q O → Tri Q M O →
      Ret fs f79 (bK (bitsA (setO O)) :: capsF d) h fun r h' => ∃ x, r = .b x ∧ Post79 b c h0 d v Q O o w h x h' := by
  intro n
  induction n with
  | zero =>
    intro M O o w h hn st ho tr
    have hl := ho.len
    apply ret_of rfl
    show W fs none f79_c _ _ _
    unfold f79_c capsF
    have e : O.length = Q.length := by omega
    have hb : cellsN 10 (bK (bitsA (setO O))) = some ((bitsA (setO O)).map V.b) := cellsN_arr
    have g1 : Grow h.nx.nat h (h.new (.cells 10 ((bitsA (setO O)).map V.b))) := Grow.new (Nat.le_refl _) _
    have st1 := st.grow hc0 kd g1
    have hv1 : Sl nE (h.new (.cells 10 ((bitsA (setO O)).map V.b))) v Q := hv.same fun id off n sz e => st1.gr.old id (hvb _ _ _ _ e)
    have e' : ((O.length : Nat) : Int) = ((Q.length : Nat) : Int) := by omega
    simp (disch := omega) only [f79_r0, f79_r1, f79_r2, f79_rs, w_reg, w_seq, w_cond, w_ret, seqK_n, seqK_r, ckB_b, cbB_b, true_and, retK_r, x_nil, x_as, x_box, x_ld, x_bin, x_len, kx, rvP_ok, okv_some, ev_t, ev_c, getV_some, putD_some, bin_eql, oGet_s, readRs_nil, readRs_t, retV_1, Option.some.injEq, exists_eq_left', getK_set, Nat.reduceEqDiff, ↓reduceIte, frame_6, hb, st1.ldO, st1.ldP, st1.so.len, hv1.len, e', decide_true]
    exact ⟨true, rfl, ⟨M, O, o, w, st1, Kept.grow g1, fun _ => ⟨ho, e⟩, fun h => by cases h⟩⟩
  | succ n ih =>
    intro M O o w h hn st ho tr
    have hl := ho.len
    apply ret_of rfl
    show W fs none f79_c _ _ _
    unfold f79_c capsF
    have hb : cellsN 10 (bK (bitsA (setO O))) = some ((bitsA (setO O)).map V.b) := cellsN_arr
    have g1 : Grow h.nx.nat h (h.new (.cells 10 ((bitsA (setO O)).map V.b))) := Grow.new (Nat.le_refl _) _
    have st1 := st.grow hc0 kd g1
    have hc := st.hc hc0
    have nx1 := nx_new h (.cells 10 ((bitsA (setO O)).map V.b))
    have hv1 : Sl nE (h.new (.cells 10 ((bitsA (setO O)).map V.b))) v Q := hv.same fun id off n sz e => st1.gr.old id (hvb _ _ _ _ e)
    by_cases e : O.length = Q.length
    · have e' : ((O.length : Nat) : Int) = ((Q.length : Nat) : Int) := by omega
      simp (disch := omega) only [f79_r0, f79_r1, f79_r2, f79_rs, w_reg, w_seq, w_cond, w_ret, seqK_n, seqK_r, ckB_b, cbB_b, true_and, retK_r, x_nil, x_as, x_box, x_ld, x_bin, x_len, kx, rvP_ok, okv_some, ev_t, ev_c, getV_some, putD_some, bin_eql, oGet_s, readRs_nil, readRs_t, retV_1, Option.some.injEq, exists_eq_left', getK_set, Nat.reduceEqDiff, ↓reduceIte, frame_6, hb, st1.ldO, st1.ldP, st1.so.len, hv1.len, e', decide_true]
      exact ⟨true, rfl, ⟨M, O, o, w, st1, Kept.grow g1, fun _ => ⟨ho, e⟩, fun h => by cases h⟩⟩
    · have e' : ¬ ((O.length : Nat) : Int) = ((Q.length : Nat) : Int) := by omega
      have hu : Ar V.b (h.new (.cells 10 ((bitsA (setO O)).map V.b))) h.nx (bitsA (setO O)) := Ar.box
      have ldu := hu.ldn (n := 10) bitsA_len.symm
      have lk := st1.eM.look (n := 10) (L := bitsA (setO O)) bitsA_len tr.len
      have lo := st.so.lt hc
      have lw := st.sw.lt hc
      have hlen := an.len
      by_cases em : bitsA (setO O) ∈ M
      · rw [decide_eq_true em] at lk
        change lookV 89 _ _ _ _ (.agg ((bitsA (setO O)).map V.b)) _ = _ at lk
        simp (disch := omega) only [f79_r0, f79_r1, f79_r3, f79_r4, f79_rs, w_skip, w_reg, w_seq, w_cond, w_ret, seqK_n, seqK_r, ckB_b, cbB_b, true_and, retK_r, x_nil, x_as, x_box, x_ld, x_ldn, x_bin, x_look, x_len, kx, rvP_ok, okv_some, ev_t, ev_c, getV_some, putD_some, bin_eql, oGet_s, readRs_nil, readRs_t, retV_1, Option.some.injEq, exists_eq_left', getK_set, Nat.reduceEqDiff, ↓reduceIte, Bool.false_eq_true, frame_6, hb, st1.ldO, st1.ldP, st1.so.len, hv1.len, e', decide_false, st1.ldT, ldu, lk]
        exact ⟨false, rfl, ⟨M, O, o, w, st1, Kept.grow g1, fun h => (by cases h), fun _ => ⟨rfl, tr, tr.hit ho hlen em⟩⟩⟩
      · rw [decide_eq_false em] at lk
        change lookV 89 _ _ _ _ (.agg ((bitsA (setO O)).map V.b)) _ = _ at lk
        obtain ⟨mp1, mp2⟩ := st1.eM.put (n := 10) (L := bitsA (setO O)) bitsA_len tr.len em
        change mupdV 89 _ _ _ (.agg ((bitsA (setO O)).map V.b)) _ = _ at mp1
        have st2 := st1.mark kd mp2
        have hdM : d.M.nat < c := by have := kd.a5; have := kd.a6; have := kd.a7; omega
        have hch := st.nx
        have hu2 : Ar V.b ((h.new (.cells 10 ((bitsA (setO O)).map V.b))).put d.M (.map 89 (ents (M ++ [bitsA (setO O)])))) h.nx (bitsA (setO O)) := hu.same (get_put_other (kNe (by omega)).symm)
        simp (disch := omega) only [f79_r0, f79_r1, f79_r3, f79_r5, f79_r6, w_skip, w_reg, w_seq, w_cond, w_block, seqK_n, ckB_b, cbB_b, true_and, x_nil, x_mv, x_as, x_box, x_ld, x_ldn, x_bin, x_look, x_mupd, x_len, kx, rvP_ok, okv_some, ev_t, ev_c, getV_some, putD_some, putD_none, bin_eql, oGet_s, of0, getK_set, Nat.reduceEqDiff, ↓reduceIte, Bool.false_eq_true, frame_6, hb, st1.ldO, st1.ldP, st1.so.len, hv1.len, e', decide_false, st1.ldT, ldu, lk, mp1, st2.ldP]
        refine W_loop (f79_I b c h0 d v Q O o w h h.nx) (fun i => Q.length - i) (f79_body k kd hc0 hv hvb an ho (by omega) st.nx (Nat.le_refl _) ?_ ?_ ?_) 0 ⟨M ++ [bitsA (setO O)], o, w, Nat.zero_le _, st2, tr.add, (Kept.grow g1).trans (Kept.put (by omega)), ⟨hu2, fun off n sz e => by have := lo _ _ _ _ e; omega, fun off n sz e => by have := lw _ _ _ _ e; omega, by rw [nx_put]; omega⟩, fun k hk => by omega, by simp (disch := omega) only [getK_set, Nat.reduceEqDiff, ↓reduceIte, and_self, Int.natCast_zero]⟩
        · intro i hi M2 o2 w2 h2 st2 ho2 tr2
          refine callP_c k.c79 rfl (ih M2 (O ++ [i]) o2 w2 h2 (by simp; omega) st2 ho2 tr2)
        · exact fun h' po => ⟨true, rfl, po⟩
        · exact fun h' po => ⟨false, rfl, po⟩
end
end Go.Ev
namespace Go.Ev
open Go Go.RowKit
noncomputable def f59_r0 : List EOper := [⟨(some (K.ofNat 1)), none, .box 1 (.t (K.ofNat 0))⟩, ⟨(some (K.ofNat 2)), none, .as (.c .sn)⟩, ⟨(some (K.ofNat 3)), none, .as (.c (.b false))⟩]
noncomputable def f59_r1 : List EOper := [⟨(some (K.ofNat 4)), none, .alloc 1 [.sn]⟩, ⟨(some (K.ofNat 5)), none, .alloc 1 [.sn]⟩]
noncomputable def f59_r2 : List EOper := [⟨(some (K.ofNat 8)), none, .mkmap 89⟩, ⟨(some (K.ofNat 6)), none, .alloc 1 [.mn]⟩, ⟨none, none, .st 1 (.t (K.ofNat 6)) (.t (K.ofNat 8))⟩]
noncomputable def f59_r3 : List EOper := [⟨(some (K.ofNat 7)), none, .alloc 1 [.fnil]⟩]
noncomputable def f59_r4 : List EOper := [⟨(some (K.ofNat 9)), none, .mkfn (K.ofNat 79) [(.t (K.ofNat 4)), (.t (K.ofNat 1)), (.t (K.ofNat 6)), (.t (K.ofNat 5)), (.t (K.ofNat 7))]⟩, ⟨none, none, .st 1 (.t (K.ofNat 7)) (.t (K.ofNat 9))⟩]
noncomputable def f59_r5 : List EOper := [⟨(some (K.ofNat 10)), none, .ld (.t (K.ofNat 7))⟩, ⟨(some (K.ofNat 11)), none, .build (List.replicate 10 (.b false)) []⟩, ⟨(some (K.ofNat 12)), none, .call (.t (K.ofNat 10)) [(.t (K.ofNat 11))]⟩, ⟨(some (K.ofNat 13)), none, .not (.t (K.ofNat 12))⟩]
noncomputable def f59_r6 : List EOper := [⟨(some (K.ofNat 2)), none, .as (.c .sn)⟩, ⟨(some (K.ofNat 3)), none, .as (.c (.b false))⟩]
noncomputable def f59_r7 : List EOper := [⟨(some (K.ofNat 14)), none, .ld (.t (K.ofNat 4))⟩, ⟨(some (K.ofNat 2)), none, .as (.t (K.ofNat 14))⟩, ⟨(some (K.ofNat 3)), none, .as (.c (.b true))⟩]
noncomputable def f59_c : EC := (.seq (.reg f59_r0) (.seq (.reg f59_r1) (.seq (.reg f59_r2) (.seq (.reg f59_r3) (.seq (.reg f59_r4) (.seq (.seq (.reg f59_r5) (.cond (.t (K.ofNat 13)) (.seq (.reg f59_r6) .ret) .skip)) (.seq (.reg f59_r7) .ret)))))))
noncomputable def f59 : EF := ⟨15, [.tmp (K.ofNat 2), .tmp (K.ofNat 3)], f59_c, none⟩
theorem f59_rs : f59.rs = [.tmp (K.ofNat 2), .tmp (K.ofNat 3)] := of_eq_true (eq_self _)
noncomputable def f21_r0 : List EOper := [⟨(some (K.ofNat 4)), none, .as (.c .sn)⟩, ⟨(some (K.ofNat 5)), none, .as (.c (.b false))⟩, ⟨(some (K.ofNat 6)), none, .as (.c (.i .i64 (.ofNat 0)))⟩]
noncomputable def f21_r1 : List EOper := [⟨(some (K.ofNat 10)), none, .mv (.t (K.ofNat 0))⟩, ⟨(some (K.ofNat 11)), none, .mv (.t (K.ofNat 1))⟩, ⟨(some (K.ofNat 12)), none, .call (.c (.fn (K.ofNat 16) [])) [(.t (K.ofNat 10)), (.t (K.ofNat 11))]⟩, ⟨(some (K.ofNat 7)), none, .as (.t (K.ofNat 12))⟩]
noncomputable def f21_r2 : List EOper := [⟨(some (K.ofNat 13)), none, .mv (.t (K.ofNat 7))⟩, ⟨(some (K.ofNat 14)), none, .bin .neq (.t (K.ofNat 13)) (.c (.i .i64 (.ofNat 0)))⟩]
noncomputable def f21_r3 : List EOper := [⟨(some (K.ofNat 15)), none, .mv (.t (K.ofNat 7))⟩, ⟨(some (K.ofNat 4)), none, .as (.c .sn)⟩, ⟨(some (K.ofNat 5)), none, .as (.c (.b false))⟩, ⟨(some (K.ofNat 6)), none, .as (.t (K.ofNat 15))⟩]
noncomputable def f21_r4 : List EOper := [⟨(some (K.ofNat 16)), none, .mv (.t (K.ofNat 1))⟩, ⟨(some (K.ofNat 17)), none, .call (.c (.fn (K.ofNat 58) [])) [(.t (K.ofNat 16))]⟩, ⟨(some (K.ofNat 18)), none, .not (.t (K.ofNat 17))⟩]
noncomputable def f21_r5 : List EOper := [⟨(some (K.ofNat 4)), none, .as (.c .sn)⟩, ⟨(some (K.ofNat 5)), none, .as (.c (.b false))⟩, ⟨(some (K.ofNat 6)), none, .as (.c (.i .i64 (.ofNat 0)))⟩]
noncomputable def f21_r6 : List EOper := [⟨(some (K.ofNat 20)), none, .mv (.t (K.ofNat 1))⟩, ⟨(some (K.ofNat 21)), none, .call (.c (.fn (K.ofNat 59) [])) [(.t (K.ofNat 20))]⟩, ⟨(some (K.ofNat 19)), none, .mv (.t (K.ofNat 21))⟩, ⟨(some (K.ofNat 22)), none, .ext (.t (K.ofNat 19)) 0⟩, ⟨(some (K.ofNat 23)), none, .ext (.t (K.ofNat 19)) 1⟩, ⟨(some (K.ofNat 8)), none, .as (.t (K.ofNat 22))⟩, ⟨(some (K.ofNat 9)), none, .as (.t (K.ofNat 23))⟩]
noncomputable def f21_r7 : List EOper := [⟨(some (K.ofNat 24)), none, .mv (.t (K.ofNat 8))⟩, ⟨(some (K.ofNat 25)), none, .mv (.t (K.ofNat 9))⟩, ⟨(some (K.ofNat 4)), none, .as (.t (K.ofNat 24))⟩, ⟨(some (K.ofNat 5)), none, .as (.t (K.ofNat 25))⟩, ⟨(some (K.ofNat 6)), none, .as (.c (.i .i64 (.ofNat 0)))⟩]
noncomputable def f21_c : EC := (.seq (.reg f21_r0) (.seq (.seq (.reg f21_r1) (.seq (.reg f21_r2) (.cond (.t (K.ofNat 14)) (.seq (.reg f21_r3) .ret) .skip))) (.seq (.seq (.reg f21_r4) (.cond (.t (K.ofNat 18)) (.seq (.reg f21_r5) .ret) .skip)) (.seq (.reg f21_r6) (.seq (.reg f21_r7) .ret)))))
noncomputable def f21 : EF := ⟨26, [.tmp (K.ofNat 4), .tmp (K.ofNat 5), .tmp (K.ofNat 6)], f21_c, none⟩
theorem f21_rs : f21.rs = [.tmp (K.ofNat 4), .tmp (K.ofNat 5), .tmp (K.ofNat 6)] := of_eq_true (eq_self _)
section
variable {fs : T EF} {ro : Option K}
structure Found (Q : List Nat) (h h' : H) (x : Bool) (u : V) : Prop where
  gr : Grow h.nx.nat h h'
  yes : x = true → ∃ O, Sl nE h' u O ∧ Own h.nx.nat u ∧ Ord Q O ∧ O.length = Q.length
  no : x = false → u = .sn ∧ ¬ Fin0 Q 0
theorem f59_ret {h : H} {v : V} {Q : List Nat} (k : Calls79 fs) (hc : HC h) (hv : Sl nE h v Q) (an : Anti Q) :
    Ret fs f59 [v] h fun r h' => ∃ x u, r = .tup [u, .b x] ∧ Found Q h h' x u := by
  apply ret_of rfl
  show W fs none f59_c _ _ _
  unfold f59_c
  have n1 := nx_new h (.cells 1 [v])
  have n2 := nx_new (h.new (.cells 1 [v])) (.cells 1 [.sn])
  have b2 : (h.new (.cells 1 [v])).get h.nx = .cells 1 [v] := get_new_same
  have w1 : Grow h.nx.nat h (h.new (.cells 1 [v])) := Grow.new (Nat.le_refl _) _
  have hv1 := hv.one
  simp (disch := omega) only [f59_r0, w_reg, w_seq, seqK_n, x_nil, x_as, x_box, kx, rvP_ok, ev_t, ev_c, getV_some, putD_some, oGet_s, frame_1, getK_set, ↓reduceIte, hv1]
  generalize h.new (.cells 1 [v]) = h1 at *
  have w2 : Grow h1.nx.nat h1 (h1.new (.cells 1 [.sn])) := Grow.new (Nat.le_refl _) _
  have c2 : (h1.new (.cells 1 [.sn])).get h1.nx = .cells 1 [.sn] := get_new_same
  have n3 := nx_new (h1.new (.cells 1 [.sn])) (.cells 1 [.sn])
  have w3 : Grow (h1.new (.cells 1 [.sn])).nx.nat (h1.new (.cells 1 [.sn])) ((h1.new (.cells 1 [.sn])).new (.cells 1 [.sn])) := Grow.new (Nat.le_refl _) _
  have c3 : ((h1.new (.cells 1 [.sn])).new (.cells 1 [.sn])).get (h1.new (.cells 1 [.sn])).nx = .cells 1 [.sn] := get_new_same
  simp (disch := omega) only [f59_r1, w_reg, w_seq, seqK_n, x_nil, x_alloc, putD_some]
  generalize h1.new (.cells 1 [.sn]) = h2 at *
  generalize h2.new (.cells 1 [.sn]) = h3 at *
  have n4 := nx_new h3 (.map 89 [])
  have w4 : Grow h3.nx.nat h3 (h3.new (.map 89 [])) := Grow.new (Nat.le_refl _) _
  have c4 : (h3.new (.map 89 [])).get h3.nx = .map 89 [] := get_new_same
  have n5 := nx_new (h3.new (.map 89 [])) (.cells 1 [.mn])
  have w5 : Grow (h3.new (.map 89 [])).nx.nat (h3.new (.map 89 [])) ((h3.new (.map 89 [])).new (.cells 1 [.mn])) := Grow.new (Nat.le_refl _) _
  have s5 : storeV ((h3.new (.map 89 [])).new (.cells 1 [.mn])) 1 (.p (h3.new (.map 89 [])).nx 0) (.m h3.nx) = .ok undefV (((h3.new (.map 89 [])).new (.cells 1 [.mn])).put (h3.new (.map 89 [])).nx (.cells 1 [.m h3.nx])) := by
    rw [store_p (m := 1) (cs := [.mn]) get_new_same (xs := [.m h3.nx]) rfl (by omega)]; rfl
  have w6 : Grow (h3.new (.map 89 [])).nx.nat ((h3.new (.map 89 [])).new (.cells 1 [.mn])) (((h3.new (.map 89 [])).new (.cells 1 [.mn])).put (h3.new (.map 89 [])).nx (.cells 1 [.m h3.nx])) := Grow.put (Nat.le_refl _) (by omega) _
  have c6 : (((h3.new (.map 89 [])).new (.cells 1 [.mn])).put (h3.new (.map 89 [])).nx (.cells 1 [.m h3.nx])).get (h3.new (.map 89 [])).nx = .cells 1 [.m h3.nx] := get_put_same
  have n6 : (((h3.new (.map 89 [])).new (.cells 1 [.mn])).put (h3.new (.map 89 [])).nx (.cells 1 [.m h3.nx])).nx.nat = ((h3.new (.map 89 [])).new (.cells 1 [.mn])).nx.nat := rfl
  simp (disch := omega) only [f59_r2, w_reg, w_seq, seqK_n, x_nil, x_alloc, x_st, x_mkmap, kx, rvP_ok, ev_t, getV_some, putD_some, putD_none, getK_set, Nat.reduceEqDiff, ↓reduceIte, s5]
  generalize h3.new (.map 89 []) = h4 at *
  generalize h4.new (.cells 1 [.mn]) = h5 at *
  generalize h5.put h4.nx (.cells 1 [.m h3.nx]) = h6 at *
  have n7 := nx_new h6 (.cells 1 [.fnil])
  have w7 : Grow h6.nx.nat h6 (h6.new (.cells 1 [.fnil])) := Grow.new (Nat.le_refl _) _
  have s7 : storeV (h6.new (.cells 1 [.fnil])) 1 (.p h6.nx 0) (.fn (K.ofNat 79) [.p h1.nx 0, .p h.nx 0, .p h4.nx 0, .p h2.nx 0, .p h6.nx 0]) = .ok undefV ((h6.new (.cells 1 [.fnil])).put h6.nx (.cells 1 [.fn (K.ofNat 79) [.p h1.nx 0, .p h.nx 0, .p h4.nx 0, .p h2.nx 0, .p h6.nx 0]])) := by
    rw [store_p (m := 1) (cs := [.fnil]) get_new_same (xs := [.fn (K.ofNat 79) [.p h1.nx 0, .p h.nx 0, .p h4.nx 0, .p h2.nx 0, .p h6.nx 0]]) rfl (by omega)]; rfl
  have w8 : Grow h6.nx.nat (h6.new (.cells 1 [.fnil])) ((h6.new (.cells 1 [.fnil])).put h6.nx (.cells 1 [.fn (K.ofNat 79) [.p h1.nx 0, .p h.nx 0, .p h4.nx 0, .p h2.nx 0, .p h6.nx 0]])) := Grow.put (Nat.le_refl _) (by omega) _
  have c8 : ((h6.new (.cells 1 [.fnil])).put h6.nx (.cells 1 [.fn (K.ofNat 79) [.p h1.nx 0, .p h.nx 0, .p h4.nx 0, .p h2.nx 0, .p h6.nx 0]])).get h6.nx = .cells 1 [.fn (K.ofNat 79) [.p h1.nx 0, .p h.nx 0, .p h4.nx 0, .p h2.nx 0, .p h6.nx 0]] := get_put_same
  have n8 : ((h6.new (.cells 1 [.fnil])).put h6.nx (.cells 1 [.fn (K.ofNat 79) [.p h1.nx 0, .p h.nx 0, .p h4.nx 0, .p h2.nx 0, .p h6.nx 0]])).nx.nat = (h6.new (.cells 1 [.fnil])).nx.nat := rfl
  simp (disch := omega) only [f59_r3, f59_r4, w_reg, w_seq, seqK_n, x_nil, x_alloc, x_st, x_mkfn, kx, rvP_ok, ev_t, evs_nil, evs_cons, getV_some, putD_some, putD_none, getK_set, Nat.reduceEqDiff, ↓reduceIte, s7]
  generalize h6.new (.cells 1 [.fnil]) = h7 at *
  generalize h7.put h6.nx (.cells 1 [.fn (K.ofNat 79) [.p h1.nx 0, .p h.nx 0, .p h4.nx 0, .p h2.nx 0, .p h6.nx 0]]) = h8 at *
  have z6 : Grow h6.nx.nat h6 h8 := w7.trans w8
  have z4 : Grow h4.nx.nat h4 h8 := (w5.trans w6).trans (z6.low (by omega))
  have z3 : Grow h3.nx.nat h3 h8 := w4.trans (z4.low (by omega))
  have z2 : Grow h2.nx.nat h2 h8 := w3.trans (z3.low (by omega))
  have z1 : Grow h1.nx.nat h1 h8 := w2.trans (z2.low (by omega))
  have z0 : Grow h.nx.nat h h8 := w1.trans (z1.low (by omega))
  have hvl := hv.lt hc
  have kd : IdsOk h.nx.nat h8.nx.nat ⟨h.nx, h1.nx, h2.nx, h3.nx, h4.nx, h6.nx⟩ := by
    constructor
    · show h.nx.nat ≤ h.nx.nat; omega
    · show h.nx.nat < h1.nx.nat; omega
    · show h1.nx.nat < h2.nx.nat; omega
    · show h2.nx.nat < h3.nx.nat; omega
    · show h3.nx.nat < h4.nx.nat; omega
    · show h4.nx.nat < h6.nx.nat; omega
    · show h6.nx.nat < h8.nx.nat; omega
  have st : FSt h.nx.nat h8.nx.nat h ⟨h.nx, h1.nx, h2.nx, h3.nx, h4.nx, h6.nx⟩ v Q [] [] .sn .sn h8 := by
    refine ⟨z0, Nat.le_refl _, ?_, ?_, ?_, ?_, ?_, ?_, Sl.nil, Sl.nil, Own.sn, Own.sn, fun _ _ _ _ e => by cases e⟩
    · show h8.get h.nx = _; rw [z1.old _ (by omega)]; exact b2
    · show h8.get h1.nx = _; rw [z2.old _ (by omega)]; exact c2
    · show h8.get h2.nx = _; rw [z3.old _ (by omega)]; exact c3
    · show h8.get h3.nx = _; rw [z4.old _ (by omega)]; exact c4
    · show h8.get h4.nx = _; rw [z6.old _ (by omega)]; exact c6
    · exact c8
  have ldF := st.ldF
  change loadV h8 (.p h6.nx 0) one? = .ok (.fn (K.ofNat 79) (capsF ⟨h.nx, h1.nx, h2.nx, h3.nx, h4.nx, h6.nx⟩)) h8 at ldF
  have fl0 : ∀ fr : Fr, fillE fr (List.replicate 10 (.b false)) [] = some (List.replicate 10 (.b false)) := fun _ => rfl
  simp (disch := omega) only [f59_r5, x_build, x_ld, x_call, kx, rvP_ok, ev_t, evs_nil, evs_cons, getV_some, putD_some, oGet_s, getK_set, Nat.reduceEqDiff, ↓reduceIte, ldF, fl0]
  have hbk : V.agg (List.replicate 10 (.b false)) = bK (bitsA (setO [])) := rfl
  rw [hbk]
  refine (callP_c k.c79 rfl (f79_ret k kd hc hv hvl an Q.length [] [] .sn .sn h8 (by simp) st .nil ⟨fun x hx => (by cases hx), fun x hx => (by cases hx)⟩)).mono ?_
  rintro r h9 ⟨x, rfl, po⟩
  obtain ⟨M9, O9, o9, w9, t9, k9, f9, f9'⟩ := po.ex
  have ldO := t9.ldO
  change loadV h9 (.p h1.nx 0) one? = .ok o9 h9 at ldO
  cases x
  · obtain ⟨_, _, nf⟩ := f9' rfl
    simp (disch := omega) only [f59_r6, f59_rs, w_reg, w_seq, w_cond, w_ret, seqK_n, seqK_r, ckB_b, cbB_b, true_and, retK_r, x_nil, x_as, x_not, kx, rvP_ok, ev_t, ev_c, getV_some, putD_some, onB_b, oGet_s, readRs_nil, readRs_t, retV_2, Option.some.injEq, exists_eq_left', getK_set, Nat.reduceEqDiff, ↓reduceIte, Bool.not_false]
    exact ⟨_, _, rfl, t9.gr, fun h => (by cases h), fun _ => ⟨rfl, nf⟩⟩
  · obtain ⟨ho, hl⟩ := f9 rfl
    simp (disch := omega) only [f59_r7, f59_rs, w_skip, w_reg, w_seq, w_cond, w_ret, seqK_n, ckB_b, cbB_b, true_and, retK_r, x_nil, x_as, x_ld, x_not, kx, rvP_ok, ev_t, ev_c, getV_some, putD_some, onB_b, oGet_s, readRs_nil, readRs_t, retV_2, Option.some.injEq, exists_eq_left', getK_set, Nat.reduceEqDiff, ↓reduceIte, Bool.false_eq_true, Bool.not_true, ldO]
    exact ⟨_, _, rfl, t9.gr, fun _ => ⟨O9, t9.so, t9.oo.low (by omega), ho, hl⟩, fun h => (by cases h)⟩
/-- Shell, of what is a complex. -/
theorem f21_ret {h : H} {v : V} {Q : List Nat} {n : Int} (k : Calls79 fs) (hp75 : ∀ m : Nat, m < 64 → ∀ h P, CallP fs (.fn (K.ofNat 75) []) [.i .i64 (m : Int)] h P = P (.i .i64 (pop6 m : Int)) h) (h16 : fs.get (K.ofNat 16) = some f16) (h58 : fs.get (K.ofNat 58) = some f58) (h59 : fs.get (K.ofNat 59) = some f59)
    (hv : Sl iE h v (castL Q)) (hc : HC h) (an : Anti Q) (hchk : chkS n (castL Q) = 0) :
    Ret fs f21 [.i .i64 n, v] h fun r h' => ∃ x u, r = .tup [u, .b x, .i .i64 0] ∧ Grow h.nx.nat h h' ∧ (x = true → pureS (castL Q) = true ∧ ∃ O, Sl nE h' u O ∧ Own h.nx.nat u ∧ Ord Q O ∧ O.length = Q.length) ∧ (x = false → u = .sn ∧ (pureS (castL Q) = false ∨ ¬ Fin0 Q 0)) := by
  apply ret_of rfl
  show W fs none f21_c _ _ _
  unfold f21_c
  have hl := an.len
  have ne0 : decide ((0 : Int) ≠ 0) = false := rfl
  simp (disch := omega) only [f21_r0, f21_r1, w_reg, w_seq, seqK_n, x_nil, x_mv, x_as, x_call, ev_t, ev_c, evs_nil, evs_cons, getV_some, putD_some, frame_2, of0, getK_set, Nat.reduceEqDiff, ↓reduceIte]
  refine (callP_0 (ef := f16) h16 rfl (f16_ret (n := n) k.p54 hv)).mono ?_
  rintro r h1 ⟨rfl, rfl⟩
  rw [hchk]
  simp (disch := omega) only [f21_r2, f21_r4, w_skip, w_reg, w_seq, w_cond, seqK_n, ckB_b, cbB_b, true_and, x_nil, x_mv, x_as, x_bin, x_call, kx, rvP_ok, okv_some, ev_t, ev_c, evs_nil, evs_cons, getV_some, putD_some, bin_neq, of0, getK_set, Nat.reduceEqDiff, ↓reduceIte, Bool.false_eq_true, ne0]
  refine (callP_0 (ef := f58) h58 rfl (f58_ret hp75 hv (by simp [castL]; omega) (sets_map an.lt))).mono ?_
  rintro r h2 ⟨rfl, rfl⟩
  cases e : pureS (castL Q)
  · simp (disch := omega) only [f21_r5, f21_rs, w_reg, w_seq, w_cond, w_ret, seqK_n, seqK_r, ckB_b, cbB_b, true_and, retK_r, x_nil, x_as, x_not, kx, rvP_ok, ev_t, ev_c, getV_some, putD_some, onB_b, oGet_s, readRs_nil, readRs_t, retV_2, of0, Option.some.injEq, exists_eq_left', getK_set, Nat.reduceEqDiff, ↓reduceIte, Bool.false_eq_true, Bool.not_false]
    exact ⟨false, .sn, rfl, Grow.refl _ _, fun h => (by cases h), fun _ => ⟨rfl, .inl trivial⟩⟩
  · simp (disch := omega) only [f21_r6, w_skip, w_reg, w_seq, w_cond, seqK_n, ckB_b, cbB_b, true_and, x_nil, x_mv, x_not, x_call, kx, rvP_ok, ev_t, ev_c, evs_nil, evs_cons, getV_some, putD_some, onB_b, getK_set, Nat.reduceEqDiff, ↓reduceIte, Bool.false_eq_true, Bool.not_true]
    refine (callP_0 (ef := f59) h59 rfl (f59_ret k hc hv.unmap an)).mono ?_
    rintro r h3 ⟨x, u, rfl, fd⟩
    simp (disch := omega) only [f21_r7, f21_rs, w_reg, w_seq, w_ret, seqK_n, retK_r, x_nil, x_mv, x_as, x_ext, kx, rvP_ok, okv_some, ev_t, ev_c, getV_some, putD_some, onTup_t, oGet_s, nth0, nth1, readRs_nil, readRs_t, retV_2, of0, Option.some.injEq, exists_eq_left', getK_set, Nat.reduceEqDiff, ↓reduceIte]
    exact ⟨x, u, rfl, fd.gr, fd.yes, fun h => ⟨(fd.no h).1, by first | exact .inr (fd.no h).2 | exact (fd.no h).2⟩⟩
end
end Go.Ev
namespace Go.Ev
open Go Go.RowKit
structure Cpx (N : Int) (P : List Int) : Prop where
  chk : chkS N P = 0
  ne : P ≠ []
  ex : ∃ Q, P = castL Q ∧ Anti Q
theorem cast_toNat : ∀ {P : List Int}, (∀ x ∈ P, 0 ≤ x) → castL (P.map Int.toNat) = P
  | [], _ => rfl
  | x :: P, h => by
    have ih := cast_toNat (P := P) fun y hy => h y (List.mem_cons_of_mem _ hy)
    have hx := h x (by simp)
    unfold castL at ih ⊢
    rw [List.map_cons, List.map_cons, ih]
    congr 1
    show ((x.toNat : Nat) : Int) = x
    omega
theorem cpx_of {N : Int} {P : List Int} (h1 : 1 ≤ N) (h6 : N ≤ 6) (hne : P ≠ []) (hl : P.length ≤ 10) (hs : P.Pairwise (· < ·)) (hin : ∀ x ∈ P, 1 ≤ x ∧ x < 2 ^ N.toNat) (ha : ∀ x ∈ P, ∀ y ∈ P, y = x ∨ ptI x y = false) : Cpx N P := by
  refine ⟨chk_good h1 h6 hne hl hs hin ha, hne, P.map Int.toNat, (cast_toNat fun x hx => by have := (hin x hx).1; omega).symm, ?_⟩
  obtain ⟨hpw, hpe⟩ := pow_n h1 h6
  have hlt : ∀ y ∈ P.map Int.toNat, y < 64 := by
    intro y hy
    obtain ⟨x, hx, rfl⟩ := List.mem_map.1 hy
    have := hin x hx
    omega
  refine ⟨by simpa using hl, hlt, fun i j hi hj hne => ?_⟩
  have hi' : i < P.length := by simpa using hi
  have hj' : j < P.length := by simpa using hj
  have ei : (P.map Int.toNat).getD i 0 = P[i].toNat := by simp [List.getD, hi']
  have ej : (P.map Int.toNat).getD j 0 = P[j].toNat := by simp [List.getD, hj']
  have pi := hin _ (List.getElem_mem hi')
  have pj := hin _ (List.getElem_mem hj')
  have ci : ((P[i].toNat : Nat) : Int) = P[i] := by omega
  have cj : ((P[j].toNat : Nat) : Int) = P[j] := by omega
  rw [ei, ej]
  intro e
  rcases ha _ (List.getElem_mem hi') _ (List.getElem_mem hj') with h | h
  · rw [List.pairwise_iff_getElem] at hs
    rcases Nat.lt_or_gt_of_ne hne with h2 | h2
    · have := hs j i hj' hi' h2; omega
    · have := hs i j hi' hj' h2; omega
  · rw [← ci, ← cj, ptI_nat (by omega) (by omega), decide_eq_true e] at h
    cases h
theorem cpx_tame (n : Int) (L : List Int) : Cpx (tameN n) ((tameP (tameN n) L).take 10) := by
  obtain ⟨n1, n6⟩ := tameN_in n
  obtain ⟨f1, f2, f3, f4, f5⟩ := facts_P (N := tameN n) (L := L) n1 n6
  exact cpx_of n1 n6 f1 f2 f3 f4 f5
theorem cpx_pure (n : Int) (L : List Int) : Cpx (tameN n) (pureL ((tameP (tameN n) L).take 10) ((tameP (tameN n) L).take 10)) := by
  obtain ⟨n1, n6⟩ := tameN_in n
  obtain ⟨f1, f2, f3, f4, f5⟩ := facts_P (N := tameN n) (L := L) n1 n6
  generalize (tameP (tameN n) L).take 10 = P at *
  have hsub : ∀ x ∈ pureL P P, x ∈ P := fun x hx => (List.mem_filter.1 hx).1
  refine cpx_of n1 n6 ?_ (Nat.le_trans pureL_len f2) (f3.sublist List.filter_sublist) (fun x hx => f4 x (hsub x hx)) (fun x hx y hy => f5 x (hsub x hx) y (hsub y hy))
  intro e
  have hm : P.getLastD 0 ∈ P := by
    cases P with
    | nil => exact absurd rfl f1
    | cons a l => simp [List.getLastD]
  have : P.getLastD 0 ∈ pureL P P := List.mem_filter.2 ⟨hm, by simp⟩
  rw [e] at this; cases this
end Go.Ev
namespace Go.Ev
open Go Go.RowKit
noncomputable def f5_r0 : List EOper := [⟨(some (K.ofNat 4)), none, .as (.c (.b false))⟩]
noncomputable def f5_r1 : List EOper := [⟨(some (K.ofNat 12)), none, .mv (.t (K.ofNat 0))⟩, ⟨(some (K.ofNat 13)), none, .mv (.t (K.ofNat 1))⟩, ⟨(some (K.ofNat 14)), none, .call (.c (.fn (K.ofNat 30) [])) [(.t (K.ofNat 12)), (.t (K.ofNat 13))]⟩, ⟨(some (K.ofNat 11)), none, .mv (.t (K.ofNat 14))⟩, ⟨(some (K.ofNat 15)), none, .ext (.t (K.ofNat 11)) 0⟩, ⟨(some (K.ofNat 16)), none, .ext (.t (K.ofNat 11)) 1⟩, ⟨(some (K.ofNat 5)), none, .as (.t (K.ofNat 15))⟩, ⟨(some (K.ofNat 6)), none, .as (.t (K.ofNat 16))⟩]
noncomputable def f5_r2 : List EOper := [⟨(some (K.ofNat 7)), none, .as (.c (.i .i64 (.ofNat 0)))⟩]
noncomputable def f5_r3 : List EOper := [⟨(some (K.ofNat 17)), none, .mv (.t (K.ofNat 7))⟩, ⟨(some (K.ofNat 18)), none, .bin .lss (.t (K.ofNat 17)) (.c (.i .i64 (.ofNat 2)))⟩]
noncomputable def f5_r4 : List EOper := [⟨(some (K.ofNat 22)), none, .mv (.t (K.ofNat 5))⟩, ⟨(some (K.ofNat 23)), none, .mv (.t (K.ofNat 6))⟩, ⟨(some (K.ofNat 24)), none, .call (.c (.fn (K.ofNat 21) [])) [(.t (K.ofNat 22)), (.t (K.ofNat 23))]⟩, ⟨(some (K.ofNat 21)), none, .mv (.t (K.ofNat 24))⟩, ⟨(some (K.ofNat 25)), none, .ext (.t (K.ofNat 21)) 0⟩, ⟨(some (K.ofNat 26)), none, .ext (.t (K.ofNat 21)) 1⟩, ⟨(some (K.ofNat 27)), none, .ext (.t (K.ofNat 21)) 2⟩, ⟨(some (K.ofNat 8)), none, .as (.t (K.ofNat 25))⟩, ⟨(some (K.ofNat 9)), none, .as (.t (K.ofNat 26))⟩, ⟨(some (K.ofNat 10)), none, .as (.t (K.ofNat 27))⟩]
noncomputable def f5_r5 : List EOper := [⟨(some (K.ofNat 28)), none, .mv (.t (K.ofNat 10))⟩, ⟨(some (K.ofNat 29)), none, .bin .neq (.t (K.ofNat 28)) (.c (.i .i64 (.ofNat 0)))⟩, ⟨(some (K.ofNat 30)), none, .mv (.t (K.ofNat 29))⟩, ⟨(some (K.ofNat 31)), (some ((K.ofNat 30), false)), .mv (.t (K.ofNat 9))⟩, ⟨(some (K.ofNat 32)), (some ((K.ofNat 30), false)), .mv (.t (K.ofNat 6))⟩, ⟨(some (K.ofNat 33)), (some ((K.ofNat 30), false)), .call (.c (.fn (K.ofNat 36) [])) [(.t (K.ofNat 32))]⟩, ⟨(some (K.ofNat 34)), (some ((K.ofNat 30), false)), .eqk (.one none) true (.t (K.ofNat 31)) (.t (K.ofNat 33))⟩, ⟨(some (K.ofNat 35)), none, .pick (.t (K.ofNat 30)) (.c (.b true)) (.t (K.ofNat 34))⟩, ⟨(some (K.ofNat 36)), none, .mv (.t (K.ofNat 35))⟩, ⟨(some (K.ofNat 37)), (some ((K.ofNat 36), false)), .mv (.t (K.ofNat 9))⟩, ⟨(some (K.ofNat 38)), (some ((K.ofNat 36), false)), .mv (.t (K.ofNat 37))⟩, ⟨(some (K.ofNat 39)), (some ((K.ofNat 38), true)), .mv (.t (K.ofNat 6))⟩, ⟨(some (K.ofNat 40)), (some ((K.ofNat 38), true)), .mv (.t (K.ofNat 8))⟩, ⟨(some (K.ofNat 41)), (some ((K.ofNat 38), true)), .call (.c (.fn (K.ofNat 37) [])) [(.t (K.ofNat 39)), (.t (K.ofNat 40))]⟩, ⟨(some (K.ofNat 42)), (some ((K.ofNat 38), true)), .not (.t (K.ofNat 41))⟩, ⟨(some (K.ofNat 43)), (some ((K.ofNat 36), false)), .pick (.t (K.ofNat 38)) (.t (K.ofNat 42)) (.c (.b false))⟩, ⟨(some (K.ofNat 44)), none, .pick (.t (K.ofNat 36)) (.c (.b true)) (.t (K.ofNat 43))⟩, ⟨(some (K.ofNat 45)), none, .mv (.t (K.ofNat 44))⟩, ⟨(some (K.ofNat 46)), (some ((K.ofNat 45), false)), .mv (.t (K.ofNat 9))⟩, ⟨(some (K.ofNat 47)), (some ((K.ofNat 45), false)), .not (.t (K.ofNat 46))⟩, ⟨(some (K.ofNat 48)), (some ((K.ofNat 45), false)), .mv (.t (K.ofNat 47))⟩, ⟨(some (K.ofNat 49)), (some ((K.ofNat 48), true)), .mv (.t (K.ofNat 8))⟩, ⟨(some (K.ofNat 50)), (some ((K.ofNat 48), true)), .len (.t (K.ofNat 49))⟩, ⟨(some (K.ofNat 51)), (some ((K.ofNat 48), true)), .bin .neq (.t (K.ofNat 50)) (.c (.i .i64 (.ofNat 0)))⟩, ⟨(some (K.ofNat 52)), (some ((K.ofNat 45), false)), .pick (.t (K.ofNat 48)) (.t (K.ofNat 51)) (.c (.b false))⟩, ⟨(some (K.ofNat 53)), none, .pick (.t (K.ofNat 45)) (.c (.b true)) (.t (K.ofNat 52))⟩]
noncomputable def f5_r6 : List EOper := [⟨(some (K.ofNat 4)), none, .as (.c (.b false))⟩]
noncomputable def f5_r7 : List EOper := [⟨(some (K.ofNat 55)), none, .mv (.t (K.ofNat 0))⟩, ⟨(some (K.ofNat 56)), none, .mv (.t (K.ofNat 1))⟩, ⟨(some (K.ofNat 57)), none, .call (.c (.fn (K.ofNat 38) [])) [(.t (K.ofNat 55)), (.t (K.ofNat 56))]⟩, ⟨(some (K.ofNat 54)), none, .mv (.t (K.ofNat 57))⟩, ⟨(some (K.ofNat 58)), none, .ext (.t (K.ofNat 54)) 0⟩, ⟨(some (K.ofNat 59)), none, .ext (.t (K.ofNat 54)) 1⟩, ⟨(some (K.ofNat 5)), none, .as (.t (K.ofNat 58))⟩, ⟨(some (K.ofNat 6)), none, .as (.t (K.ofNat 59))⟩]
noncomputable def f5_r8 : List EOper := [⟨(some (K.ofNat 19)), none, .mv (.t (K.ofNat 7))⟩, ⟨(some (K.ofNat 20)), none, .bin .add (.t (K.ofNat 19)) (.c (.i .i64 (.ofNat 1)))⟩, ⟨(some (K.ofNat 7)), none, .as (.t (K.ofNat 20))⟩]
noncomputable def f5_l0 : EC := (.seq (.seq (.reg f5_r3) (.cond (.t (K.ofNat 18)) .skip (.exit 0))) (.seq (.block 1 (.seq (.reg f5_r4) (.seq (.seq (.reg f5_r5) (.cond (.t (K.ofNat 53)) (.seq (.reg f5_r6) .ret) .skip)) (.reg f5_r7)))) (.reg f5_r8)))
noncomputable def f5_r9 : List EOper := [⟨(some (K.ofNat 60)), none, .call (.c (.fn (K.ofNat 29) [])) []⟩, ⟨(some (K.ofNat 4)), none, .as (.t (K.ofNat 60))⟩]
noncomputable def f5_c : EC := (.seq (.reg f5_r0) (.seq (.reg f5_r1) (.seq (.seq (.reg f5_r2) (.block 0 (.loop f5_l0))) (.seq (.reg f5_r9) .ret))))
noncomputable def f5 : EF := ⟨61, [.tmp (K.ofNat 4)], f5_c, none⟩
theorem f5_rs : f5.rs = [.tmp (K.ofNat 4)] := of_eq_true (eq_self _)
section
variable {fs : T EF} {ro : Option K}
structure Calls5 (fs : T EF) : Prop extends Calls79 fs where
  p53 : ∀ a b h P, CallP fs (.fn (K.ofNat 53) []) [.i .i64 a, .i .i64 b] h P = P (.b (ptI a b)) h
  p52 : ∀ m : Nat, m < 64 → ∀ h P, CallP fs (.fn (K.ofNat 52) []) [.i .i64 (m : Int)] h P = P (.i .i64 (pop6 m : Int)) h
  p75 : ∀ m : Nat, m < 64 → ∀ h P, CallP fs (.fn (K.ofNat 75) []) [.i .i64 (m : Int)] h P = P (.i .i64 (pop6 m : Int)) h
  aw : ∀ h P, CallP fs (.fn (K.ofNat 29) []) [] h P = P (.b true) h
  c16 : fs.get (K.ofNat 16) = some f16
  c21 : fs.get (K.ofNat 21) = some f21
  c30 : fs.get (K.ofNat 30) = some f30
  c36 : fs.get (K.ofNat 36) = some f36
  c37 : fs.get (K.ofNat 37) = some f37
  c38 : fs.get (K.ofNat 38) = some f38
  c49 : fs.get (K.ofNat 49) = some f49
  c58 : fs.get (K.ofNat 58) = some f58
  c59 : fs.get (K.ofNat 59) = some f59
  c70 : fs.get (K.ofNat 70) = some f70
  c71 : fs.get (K.ofNat 71) = some f71
def f5_I (h : H) (n : Int) (v : V) (i : Nat) (fr : Fr) (h1 : H) : Prop := ∃ u N P, i ≤ 2 ∧ Cpx N P ∧ Sl iE h1 u P ∧ Grow h.nx.nat h h1 ∧ fr.get (K.ofNat 0) = some (.i .i64 n) ∧ fr.get (K.ofNat 1) = some (v) ∧ fr.get (K.ofNat 5) = some (.i .i64 N) ∧ fr.get (K.ofNat 6) = some (u) ∧ fr.get (K.ofNat 7) = some (.i .i64 (i : Int))
theorem nat_cast_len {O : List Nat} : (castL O).length = O.length := by simp [castL]
theorem f5_ret {h : H} {v : V} {L : List Int} {n : Int} (k : Calls5 fs) (hv : Sl iE h v L) (hc : HC h) : Ret fs f5 [.i .i64 n, v] h fun u h' => u = .b true ∧ Grow h.nx.nat h h' := by
  apply ret_of rfl
  show W fs none f5_c _ _ _
  unfold f5_c
  simp (disch := omega) only [f5_r0, f5_r1, w_reg, w_seq, seqK_n, x_nil, x_mv, x_as, x_call, ev_t, ev_c, evs_nil, evs_cons, getV_some, putD_some, frame_2, getK_set, Nat.reduceEqDiff, ↓reduceIte]
  refine (callP_0 (ef := f30) k.c30 rfl (f30_ret (n := n) k.p53 k.c49 hv hc)).mono ?_
  rintro r h1 ⟨u, rfl, hsu, hoo, gr1⟩
  simp (disch := omega) only [f5_r2, w_reg, w_seq, w_block, seqK_n, x_nil, x_mv, x_as, x_ext, kx, rvP_ok, okv_some, ev_t, ev_c, getV_some, putD_some, onTup_t, nth0, nth1, of0, getK_set, Nat.reduceEqDiff, ↓reduceIte]
  refine W_loop (f5_I h n v) (fun i => 2 - i) ?_ 0 ⟨u, _, _, by omega, cpx_tame n L, hsu, gr1, by simp (disch := omega) only [getK_set, Nat.reduceEqDiff, ↓reduceIte, and_self, Int.natCast_zero]⟩
  clear hsu gr1 hoo u h1
  rintro i fr h1 ⟨u, N, P, hi, cp, hsu, gr1, g0, g1, g5, g6, g7⟩
  have hc1 := gr1.hc hc
  have hv1 := hv.grow hc gr1
  unfold f5_l0
  by_cases hlt : i < 2
  · have hlt' : (i : Int) < 2 := by omega
    obtain ⟨Q, rfl, an⟩ := cp.ex
    have hql := an.len
    have ne0 : decide ((0 : Int) ≠ 0) = false := rfl
    have kb : ∀ a b, keyEq (.one none) (.b a) (.b b) = some (a == b) := fun _ _ => rfl
    -- the pure one comes next
    have rest : ∀ fr h3, Grow h.nx.nat h h3 → fr.get (K.ofNat 0) = some (.i .i64 n) ∧ fr.get (K.ofNat 1) = some (v) ∧ fr.get (K.ofNat 7) = some (.i .i64 (i : Int)) →
        X fs f5_r7 (atK 1 (seqK (W fs none (.reg f5_r8)) (loopK (f5_I h n v) (fun i => 2 - i) i (atK 0 (seqK (W fs none (.seq (.reg f5_r9) .ret)) (retK f5 fun u h' => u = .b true ∧ Grow h.nx.nat h h'))))) .normal) fr h3 := by
      clear g0 g1 g5 g6 g7 fr
      rintro fr h3 gr3 ⟨g0, g1, g7⟩
      have hc3 := gr3.hc hc
      have hv3 := hv.grow hc gr3
      obtain ⟨Q', hq', an'⟩ := (cpx_tame n L).ex
      simp (disch := omega) only [f5_r7, x_mv, x_call, ev_t, ev_c, evs_nil, evs_cons, getV_some, putD_some, getK_set, Nat.reduceEqDiff, ↓reduceIte, g0, g1]
      refine (callP_0 (ef := f38) k.c38 rfl (f38_ret (n := n) k.p53 k.p52 k.c49 k.c30 hv3 hc3 (by rw [hq']; exact sets_map an'.lt))).mono ?_
      rintro r h4 ⟨w, rfl, hsw, _, gr4⟩
      simp (disch := omega) only [f5_r8, w_reg, seqK_n, atK_n, loopK_n, x_nil, x_mv, x_as, x_bin, x_ext, kx, rvP_ok, okv_some, ev_t, ev_c, getV_some, putD_some, bin_add, onTup_t, nth0, nth1, of1, getK_set, Nat.reduceEqDiff, ↓reduceIte, g7, fw64]
      exact ⟨i + 1, by omega, w, _, _, hlt, cpx_pure n L, hsw, gr3.trans (gr4.low gr3.nx), by simp (disch := omega) only [getK_set, Nat.reduceEqDiff, ↓reduceIte, g0, g1, and_self, Int.natCast_add, Int.natCast_one]⟩
    simp (disch := omega) only [f5_r3, f5_r4, w_skip, w_reg, w_seq, w_cond, w_block, seqK_n, ckB_b, cbB_b, true_and, x_nil, x_mv, x_bin, x_call, kx, rvP_ok, okv_some, ev_t, ev_c, evs_nil, evs_cons, getV_some, putD_some, bin_lss, of2, getK_set, Nat.reduceEqDiff, ↓reduceIte, g5, g6, g7, hlt', decide_true]
    refine (callP_0 (ef := f21) k.c21 rfl (f21_ret (n := N) k.toCalls79 k.p75 k.c16 k.c58 k.c59 hsu hc1 an cp.chk)).mono ?_
    rintro r h2 ⟨x, w, rfl, gr2, yes, no⟩
    have hc2 := gr2.hc hc1
    have hsu2 := hsu.grow hc1 gr2
    simp (disch := omega) only [f5_r5, w_reg, w_seq, seqK_n, okG_b, asG_f, true_and, x_nil, x_g, x_mv, x_as, x_bin, x_ext, x_call, kx, rvP_ok, okv_some, ev_t, ev_c, evs_nil, evs_cons, getV_some, putD_some, bin_neq, onTup_t, nth0, nth1, nth2, of0, getK_set, Nat.reduceEqDiff, ↓reduceIte, Bool.not_false, g6, ne0]
    refine (callP_0 (ef := f36) k.c36 rfl (f36_ret k.p52 k.c70 k.c71 hsu2 hc2 an.lt hql)).mono ?_
    rintro r h3 ⟨b, rfl, hb, gr3⟩
    have hc3 := gr3.hc hc2
    have hsu3 := hsu2.grow hc2 gr3
    have gg := (gr1.trans (gr2.low gr1.nx)).trans (gr3.low (by have := gr1.nx; have := gr2.nx; omega))
    cases x
    · obtain ⟨rfl, hno⟩ := no rfl
      have hf : (pureS (castL Q) && b) = false := by
        rcases hno with h1 | h1
        · rw [h1]; rfl
        · cases b
          · simp
          · exact absurd (reach_iff.1 (hb.1 rfl)) h1
      have l0 : lenV .sn h3 = .ok (.i .i64 0) h3 := rfl
      have b0 : (false == false) = true := rfl
      rw [hf]
      simp (disch := omega) only [w_skip, w_reg, w_cond, seqK_n, ckB_b, cbB_b, okG_b, asG_t, asG_f, true_and, x_nil, x_g, x_mv, x_pick, x_bin, x_eqk, x_not, x_len, kx, rvP_ok, okv_some, ev_t, ev_c, getV_some, putD_some, bin_neq, pick_b, onB_b, oGet_s, getK_set, Nat.reduceEqDiff, ↓reduceIte, Bool.false_eq_true, Bool.not_true, Bool.not_false, kb, b0, cond_true, l0, ne0]
      exact rest _ _ gg (by simp (disch := omega) only [getK_set, Nat.reduceEqDiff, ↓reduceIte, g0, g1, g7, and_self])
    · obtain ⟨hp, O, hsO, _, ho, hl⟩ := yes rfl
      have hf : (pureS (castL Q) && b) = true := by
        rw [hp, hb.2 (reach_iff.2 (ho.fin (by rw [ho.full hl]; exact .full)))]; rfl
      have b0 : (true == true) = true := rfl
      have hsO3 := hsO.grow hc2 gr3
      rw [hf]
      simp (disch := omega) only [okG_b, asG_t, asG_f, true_and, x_g, x_mv, x_pick, x_eqk, x_call, kx, rvP_ok, okv_some, ev_t, ev_c, evs_nil, evs_cons, getV_some, putD_some, pick_b, oGet_s, getK_set, Nat.reduceEqDiff, ↓reduceIte, Bool.false_eq_true, Bool.not_true, Bool.not_false, g6, kb, b0, cond_true]
      refine (callP_0 (ef := f37) k.c37 rfl (f37_ret (O := castL O) k.p52 k.c70 k.c71 hsu3 (Sl.map (f := fun (k : Nat) => (k : Int)) hsO3) an.lt (by omega) (by rw [nat_cast_len]; omega))).mono ?_
      rintro r h4 ⟨rfl, rfl⟩
      rw [ho.shell hl hp]
      simp (disch := omega) only [w_skip, w_reg, w_cond, seqK_n, ckB_b, cbB_b, okG_b, asG_t, asG_f, true_and, x_nil, x_g, x_mv, x_pick, x_not, kx, rvP_ok, ev_t, ev_c, getV_some, putD_some, pick_b, onB_b, getK_set, Nat.reduceEqDiff, ↓reduceIte, Bool.false_eq_true, Bool.not_true, Bool.not_false]
      exact rest _ _ gg (by simp (disch := omega) only [getK_set, Nat.reduceEqDiff, ↓reduceIte, g0, g1, g7, and_self])
  · obtain rfl : i = 2 := by omega
    have hlt' : ¬ ((2 : Nat) : Int) < 2 := by omega
    simp (disch := omega) only [f5_r3, f5_r9, f5_rs, w_reg, w_seq, w_cond, w_exit, w_ret, seqK_n, seqK_e, atK_e, loopK_e, ckB_b, cbB_b, true_and, retK_r, x_nil, x_mv, x_as, x_bin, x_call, kx, rvP_ok, okv_some, ev_t, ev_c, evs_nil, getV_some, putD_some, bin_lss, oGet_s, readRs_nil, readRs_t, retV_1, of2, Option.some.injEq, exists_eq_left', getK_set, ↓reduceIte, Bool.false_eq_true, g7, hlt', decide_false, k.aw]
    exact gr1
end
end Go.Ev
