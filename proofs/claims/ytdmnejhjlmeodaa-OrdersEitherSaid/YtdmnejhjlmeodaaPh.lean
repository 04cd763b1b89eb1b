/-
  Orders: forcing of any pair; the way back, with what it is., and what follows.
-/
import Derived.Test.YtdmnejhjlmeodaaPe
import Derived.Test.YtdmnejhjlmeodaaPg
namespace Go.Ev
open Go Go.RowKit
/-! ### Forcing of any pair -/
section
variable {fs : T EF} {h h' : H}
theorem toI_inj {x y : Nat × Nat} (h : toI x = toI y) : x = y := by
  unfold toI at h
  injection h with h1 h2
  exact Prod.ext (by omega) (by omega)
theorem f55g_ret {L : List Bool} {x : Nat × Nat} {y : Int × Int} (h86 : fs.get (K.ofNat 86) = some f86) (h102 : fs.get (K.ofNat 102) = some f102) (hL : L.length = 49) (hx : x.1 < 7 ∧ x.2 < 7) (hy : inI y) (hc : HC h) : Ret fs f55 [rV L, aV x, pV y] h fun r _ => r = .b (decide (y ∈ (fcY L x.1 x.2).map toI)) := by
  apply ret_of rfl
  show W fs none f55_c _ _ _
  unfold f55_c
  have c1 := rC_cells hL
  have c2 : cellsN 2 (aV x) = some [.i .i64 (x.1 : Int), .i .i64 (x.2 : Int)] := rfl
  have c3 : cellsN 2 (pV y) = some [.i .i64 y.1, .i .i64 y.2] := rfl
  have n1 := nx_new h (.cells 49 (L.map V.b))
  have gr1 : Grow h.nx.nat h (h.new (.cells 49 (L.map V.b))) := Grow.new (Nat.le_refl _) _
  have e1 : (h.new (.cells 49 (L.map V.b))).get h.nx = rC L := get_new_same
  simp (disch := omega) only [f55_r0, Nat.reduceEqDiff, ↓reduceIte, c1, c2, c3, bz]
  generalize h.new (.cells 49 (L.map V.b)) = h1 at *
  have n2 := nx_new h1 (.cells 2 [.i .i64 (x.1 : Int), .i .i64 (x.2 : Int)])
  have gr2 : Grow h1.nx.nat h1 (h1.new (.cells 2 [.i .i64 (x.1 : Int), .i .i64 (x.2 : Int)])) := Grow.new (Nat.le_refl _) _
  have e2 : (h1.new (.cells 2 [.i .i64 (x.1 : Int), .i .i64 (x.2 : Int)])).get h1.nx = .cells 2 [.i .i64 (x.1 : Int), .i .i64 (x.2 : Int)] := get_new_same
  generalize h1.new (.cells 2 [.i .i64 (x.1 : Int), .i .i64 (x.2 : Int)]) = h2 at *
  have n3 := nx_new h2 (.cells 2 [.i .i64 y.1, .i .i64 y.2])
  have gr3 : Grow h2.nx.nat h2 (h2.new (.cells 2 [.i .i64 y.1, .i .i64 y.2])) := Grow.new (Nat.le_refl _) _
  have e3 : (h2.new (.cells 2 [.i .i64 y.1, .i .i64 y.2])).get h2.nx = .cells 2 [.i .i64 y.1, .i .i64 y.2] := get_new_same
  generalize h2.new (.cells 2 [.i .i64 y.1, .i .i64 y.2]) = h3 at *
  have n4 := nx_new h3 (.cells 1 [.b false])
  have gr4 : Grow h3.nx.nat h3 (h3.new (.cells 1 [.b false])) := Grow.new (Nat.le_refl _) _
  have e4 : (h3.new (.cells 1 [.b false])).get h3.nx = .cells 1 [.b false] := get_new_same
  generalize h3.new (.cells 1 [.b false]) = h4 at *
  have hc4 := gr4.hc (gr3.hc (gr2.hc (gr1.hc hc)))
  have e1' := (gr4.old h.nx (by omega)).trans ((gr3.old h.nx (by omega)).trans ((gr2.old h.nx (by omega)).trans e1))
  have e2' := (gr4.old h1.nx (by omega)).trans ((gr3.old h1.nx (by omega)).trans e2)
  have e3' := (gr4.old h2.nx (by omega)).trans e3
  have hav : V.agg [.i .i64 (x.1 : Int), .i .i64 (x.2 : Int)] = aV x := rfl
  simp (disch := omega) only [f55_r1, Nat.reduceEqDiff, ↓reduceIte, rC_ldn hL e1', ldn2 e2', hav, bz]
  refine (callP_0 (ef := f86) h86 rfl (f86_ret hL hc4)).mono ?_
  rintro r h5 ⟨idr, ida, rfl, o1, o2, o3, o4, gr5, er, ea⟩
  have hc5 := gr5.hc hc4
  have e3'' := (gr5.old h2.nx (by omega)).trans e3'
  have e4' := (gr5.old h3.nx (by omega)).trans e4
  have n5 := gr5.nx
  simp (disch := omega) only [bz]
  generalize hfr : T.set (K.ofNat 10) _ _ = fr
  have g3 : fr.get (K.ofNat 3) = some (.p h.nx 0) := by rw [← hfr]; simp only [getK_set, Nat.reduceEqDiff, ↓reduceIte]
  have g4 : fr.get (K.ofNat 4) = some (.p h1.nx 0) := by rw [← hfr]; simp only [getK_set, Nat.reduceEqDiff, ↓reduceIte]
  have g5 : fr.get (K.ofNat 5) = some (.p h2.nx 0) := by rw [← hfr]; simp only [getK_set, Nat.reduceEqDiff, ↓reduceIte]
  have g6 : fr.get (K.ofNat 6) = some (.p h3.nx 0) := by rw [← hfr]; simp only [getK_set, Nat.reduceEqDiff, ↓reduceIte]
  have g10 : fr.get (K.ofNat 10) = some (.fn (K.ofNat 102) [.p idr 0, .p ida 0]) := by rw [← hfr]; simp only [getK_set, ↓reduceIte]
  clear hfr
  refine W_itr (by simp (disch := omega) only [ev_t, getV_some, g10]) (forced_yields hL hx.1 hx.2 h102) (fun id => id = h3.nx) (fun i h6 => y ∉ ((fcY L x.1 x.2).take i).map toI ∧ h6.get h3.nx = .cells 1 [.b false]) (fun e h6 => e = .ret ∧ y ∈ (fcY L x.1 x.2).map toI ∧ h6.get h3.nx = .cells 1 [.b true]) hc5 rfl (by rintro id rfl; omega)
    (fun h6 ks => ⟨(ks.old _ (by omega) (fun e => by have := congrArg K.nat e; omega)).trans er, (ks.old _ (by omega) (fun e => by have := congrArg K.nat e; omega)).trans ea⟩) ?_ ?_ ?_ ?_ ?_ ?_
  · rintro i h6 h7 ⟨he, q2⟩ _ hn ho
    exact ⟨he, by rw [ho _ (by omega) (kNe (by omega))]; exact q2⟩
  · rintro e h6 h7 ⟨he, q1, q2⟩ _ hn ho
    exact ⟨he, q1, by rw [ho _ (by omega) (kNe (by omega))]; exact q2⟩
  · exact fun h6 hg => ⟨by simp, (hg.old _ (by omega)).trans e4'⟩
  · rintro i ⟨a, b⟩ h6 hxi hk hn ⟨q1, q2⟩
    obtain ⟨hst, gB, c7, n7⟩ := arr_var (h := h6) (x := a) (y := b)
    obtain ⟨ha, hb, _⟩ := fcY_lt hx.1 hx.2 (List.mem_of_getElem? hxi)
    have b2 := (gB.old h3.nx (by omega)).trans q2
    have b3 := (gB.old h2.nx (by omega)).trans ((hk.old h2.nx (by omega) (fun e => by have := congrArg K.nat e; omega)).trans e3'')
    unfold f55_a0
    simp (disch := omega) only [f55_r2, Nat.reduceEqDiff, ↓reduceIte, hst, itA_n, bz]
    generalize (h6.new (.cells 2 [.i .i64 0, .i .i64 0])).put h6.nx (.cells 2 [.i .i64 (a : Int), .i .i64 (b : Int)]) = h7 at *
    refine ⟨gB, fun h8 n8 hc8 o8 _ => ?_⟩
    have n8' : h8.nx.nat = h7.nx.nat := congrArg K.nat n8
    have l1 := ldn2 ((o8 _ (kNe hn).symm).trans c7)
    have b2' := (o8 h3.nx (kNe (by omega))).trans b2
    have l2 := ldn2 ((o8 h2.nx (kNe (by omega))).trans b3)
    have ht : (fcY L x.1 x.2).take (i + 1) = (fcY L x.1 x.2).take i ++ [(a, b)] := by rw [List.take_add_one, hxi]; rfl
    have hq := keyEq_pVO (x := toI (a, b)) (y := y) (inI_nat ha hb) hy
    have hav1 : V.agg [.i .i64 (a : Int), .i .i64 (b : Int)] = pV (toI (a, b)) := rfl
    have hav2 : V.agg [.i .i64 y.1, .i .i64 y.2] = pV y := rfl
    unfold f55_b0
    by_cases e : toI (a, b) = y
    · have d0 : decide (toI (a, b) = y) = true := decide_eq_true e
      rw [d0] at hq
      have s1 : storeV h8 1 (.p h3.nx 0) (.b true) = .ok undefV (h8.put h3.nx (.cells 1 [.b true])) := st1 b2' rfl
      simp (disch := omega) only [f55_r3, f55_r4, Nat.reduceEqDiff, ↓reduceIte, g5, g6, l1, l2, hav1, hav2, hq, s1, cond_false, itC_r, bz]
      refine ⟨⟨by rw [← e]; exact List.mem_map.2 ⟨_, List.mem_of_getElem? hxi, rfl⟩, get_put_same⟩, ?_⟩
      have hk8 : Kr (fun id => id = h3.nx) h5.nx h8 h8 := Kr.refl hc8
      exact hk8.put (by omega) (.inl rfl) _
    · have d0 : decide (toI (a, b) = y) = false := decide_eq_false e
      rw [d0] at hq
      simp (disch := omega) only [f55_r3, Nat.reduceEqDiff, ↓reduceIte, Bool.false_eq_true, g5, l1, l2, hav1, hav2, hq, cond_false, itC_n, bz]
      refine ⟨⟨by rw [ht, List.map_append, List.mem_append, List.map_cons, List.map_nil, List.mem_singleton]; exact fun h => h.elim q1 (fun h => e h.symm), b2'⟩, Kr.refl hc8⟩
  · rintro h6 ⟨q1, q2⟩ hk hn
    rw [List.take_length] at q1
    have s1 : storeV h6 1 (.p h3.nx 0) (.b false) = .ok undefV (h6.put h3.nx (.cells 1 [.b false])) := st1 q2 rfl
    have r1 : readP (h6.put h3.nx (.cells 1 [.b false])) (.p h3.nx 0) one? = some (.b false) := rd1 get_put_same
    simp (disch := omega) only [f55_r5, f55_rs, readRs_c, Option.some.injEq, exists_eq_left', g6, s1, r1, bz]
    rw [decide_eq_false q1]
  · rintro e h6 _ ⟨rfl, q1, q2⟩ hk hn
    have r1 : readP h6 (.p h3.nx 0) one? = some (.b true) := rd1 q2
    simp (disch := omega) only [f55_rs, readRs_c, Option.some.injEq, exists_eq_left', g6, r1, bz]
    rw [decide_eq_true q1]
end
section
variable {Y : Rig} {fs : T EF}
def D55g : Type := {x : List Bool × ((Nat × Nat) × (Int × Int)) // x.1.length = 49 ∧ ((x.2.1.1 < 7 ∧ x.2.1.2 < 7) ∧ inI x.2.2)}
noncomputable def A55g : D55g → List V := fun ⟨x, _⟩ => [rV x.1, aV x.2.1, pV x.2.2]
noncomputable def F55g : D55g → V := fun ⟨x, _⟩ => V.b (decide (x.2.2 ∈ (fcY x.1 x.2.1.1 x.2.1.2).map toI))
theorem I55g : ∀ x y, A55g x = A55g y → F55g x = F55g y := by
  rintro ⟨x, p⟩ ⟨y, q⟩ h
  have h : [rV x.1, aV x.2.1, pV x.2.2] = [rV y.1, aV y.2.1, pV y.2.2] := h
  injection h with h0 h
  have e0 := rV_inj h0
  injection h with h1 h
  have e1 := aV_inj h1
  injection h with h2 h
  have e2 := pV_inj h2
  have e : x = y := by
    exact Prod.ext e0 (Prod.ext e1 e2)
  subst e
  rfl
theorem P55g : ∀ x, (A55g x).all V.plain = true := by
  rintro ⟨x, p⟩
  show ([rV x.1, aV x.2.1, pV x.2.2].all V.plain) = true
  first | rfl | (simp only [List.all_cons, List.all_nil, rV_plain, Bool.true_and, Bool.and_true]; done) | (simp only [List.all_cons, List.all_nil, rV_plain, Bool.true_and, Bool.and_true]; rfl)
theorem Q55g : ∀ x, (F55g x).plainT = true := fun ⟨_, _⟩ => rfl
theorem G55g (h86 : fs.get (K.ofNat 86) = some f86) (h102 : fs.get (K.ofNat 102) = some f102) (hfs : Fns Y fs) (hf : f55.nv = none ∧ ∃ fn c, FnOk Y (K.ofNat 55) f55 fn c) : ∀ args v, dataG A55g F55g args = some v → Gives Y (K.ofNat 55) args v := dataG_gives hfs hf P55g Q55g fun ⟨_, p⟩ => by have _ := p; exact f55g_ret h86 h102 p.1 p.2.1 p.2.2 HC.empty
theorem E55g {ef : EF} (hf : fs.get (K.ofNat 55) = some ef) (hn : ef.nv = some (flatG (dataG A55g F55g))) (x : List Bool × ((Nat × Nat) × (Int × Int))) (p : x.1.length = 49 ∧ ((x.2.1.1 < 7 ∧ x.2.1.2 < 7) ∧ inI x.2.2)) (h : H) (P : V → H → Prop) : CallP fs (.fn (K.ofNat 55) []) (A55g ⟨x, p⟩) h P = P (F55g ⟨x, p⟩) h := callP_data hf hn I55g _ h P
theorem mem_mapI {l : List (Nat × Nat)} {x : Nat × Nat} : toI x ∈ l.map toI ↔ x ∈ l := by
  rw [List.mem_map]
  exact ⟨fun ⟨y, h1, h2⟩ => by rw [← toI_inj h2]; exact h1, fun h => ⟨x, h, rfl⟩⟩
theorem E55n {ef : EF} (hf : fs.get (K.ofNat 55) = some ef) (hn : ef.nv = some (flatG (dataG A55g F55g))) (L : List Bool) (x y : Nat × Nat) (p1 : L.length = 49) (p2 : x.1 < 7 ∧ x.2 < 7) (p3 : y.1 < 7 ∧ y.2 < 7) (h : H) (P : V → H → Prop) : CallP fs (.fn (K.ofNat 55) []) [rV L, aV x, aV y] h P = P (.b (decide (y ∈ fcY L x.1 x.2))) h := by
  have e := E55g hf hn (L, (x, toI y)) ⟨p1, p2, inI_nat p3.1 p3.2⟩ h P
  have e2 : F55g ⟨(L, (x, toI y)), ⟨p1, p2, inI_nat p3.1 p3.2⟩⟩ = .b (decide (y ∈ fcY L x.1 x.2)) := by
    show V.b (decide (toI y ∈ (fcY L x.1 x.2).map toI)) = _
    rw [decide_eq_decide.2 mem_mapI]
  rw [e2] at e
  exact e
end
/-! ### What the search knows, with how far it is -/
structure DmN (L : List Bool) (M : List ((Nat × Nat) × (Nat × Nat))) (N : DM) : Prop where
  ks : N.map Prod.fst = keys M
  par : ∀ j x v, M[j]? = some (x, v) → 0 < j → ∃ i w e, i < j ∧ M[i]? = some (v, w) ∧ N[i]? = some (v, e) ∧ N[j]? = some (x, e + 1) ∧ x ∈ fcY L v.1 v.2
def Dm (L : List Bool) (s : Nat × Nat) (M : List ((Nat × Nat) × (Nat × Nat))) (i : Nat) : Prop := ∃ N, DmN L M N ∧ Lv L s N i
theorem Dm.one {L : List Bool} {s : Nat × Nat} : Dm L s [(s, s)] 0 := ⟨[(s, 0)], ⟨rfl, fun j x v h h0 => by have := (get_one h).1; omega⟩, Lv.one⟩
theorem DmN.at {L : List Bool} {M : List ((Nat × Nat) × (Nat × Nat))} {N : DM} (k : DmN L M N) {i : Nat} {x w : Nat × Nat} (h : M[i]? = some (x, w)) : ∃ d, N[i]? = some (x, d) := by
  have h1 : (keys M)[i]? = some x := by unfold keys; rw [List.getElem?_map, h]; rfl
  rw [← k.ks, List.getElem?_map] at h1
  cases e : N[i]? with
  | none => rw [e] at h1; cases h1
  | some y =>
    rw [e] at h1
    obtain ⟨a, d⟩ := y
    exact ⟨d, by rw [← Option.some.inj h1]⟩
theorem DmN.len {L : List Bool} {M : List ((Nat × Nat) × (Nat × Nat))} {N : DM} (k : DmN L M N) : N.length = M.length := by
  have := congrArg List.length k.ks
  unfold keys at this
  rwa [List.length_map, List.length_map] at this
theorem DmN.add {L : List Bool} {M : List ((Nat × Nat) × (Nat × Nat))} {N : DM} (k : DmN L M N) {i : Nat} {x w p : Nat × Nat} {d : Nat} (hi : M[i]? = some (x, w)) (hd : N[i]? = some (x, d)) (hp : p ∈ fcY L x.1 x.2) : DmN L (M ++ [(p, x)]) (N ++ [(p, d + 1)]) where
  ks := by
    unfold keys
    rw [List.map_append, List.map_append, k.ks]; rfl
  par := fun j y v h h0 => by
    rcases get_snoc h with h | ⟨h1, h2⟩
    · obtain ⟨i', w', e, q1, q2, q3, q4, q5⟩ := k.par j y v h h0
      exact ⟨i', w', e, q1, get_up q2, get_up q3, get_up q4, q5⟩
    · obtain ⟨rfl, rfl⟩ := Prod.mk.inj h2
      refine ⟨i, w, d, by have := get_lt hi; omega, get_up hi, get_up hd, ?_, hp⟩
      rw [h1, ← k.len, List.getElem?_append_right (Nat.le_refl _), Nat.sub_self]; rfl
theorem Dm.add {L : List Bool} {s : Nat × Nat} {M : List ((Nat × Nat) × (Nat × Nat))} {i : Nat} (k : Dm L s M i) {x w p : Nat × Nat} (hi : M[i]? = some (x, w)) (hp : p ∈ fcY L x.1 x.2) : Dm L s (M ++ [(p, x)]) i := by
  obtain ⟨N, k1, k2⟩ := k
  obtain ⟨d, hd⟩ := k1.at hi
  exact ⟨_, k1.add hi hd hp, k2.add hd hp⟩
theorem Dm.next {L : List Bool} {s : Nat × Nat} {M : List ((Nat × Nat) × (Nat × Nat))} {i : Nat} (k : Dm L s M i) {x w : Nat × Nat} (hi : M[i]? = some (x, w)) (hc : ∀ p ∈ fcY L x.1 x.2, p ∈ keys M) : Dm L s M (i + 1) := by
  obtain ⟨N, k1, k2⟩ := k
  refine ⟨N, k1, k2.next fun y d hy p hp => ?_⟩
  obtain ⟨d', hd⟩ := k1.at hi
  rw [hd] at hy
  obtain ⟨rfl, _⟩ := Prod.mk.inj (Option.some.inj hy)
  rw [k1.ks]; exact hc p hp
theorem Dm.met {L : List Bool} {s : Nat × Nat} {M : List ((Nat × Nat) × (Nat × Nat))} {i : Nat} (k : Dm L s M i) {x w p : Nat × Nat} (hi : M[i]? = some (x, w)) (hp : p ∈ fcY L x.1 x.2) (hno : p ∉ keys M) : ∃ N, DmN L (M ++ [(p, x)]) N ∧ N[0]? = some (s, 0) ∧ ∀ (j : Nat) (d : Nat), N[j]? = some (p, d) → IsD L s p d := by
  obtain ⟨N, k1, k2⟩ := k
  obtain ⟨d, hd⟩ := k1.at hi
  have hnk : p ∉ kyD N := by unfold kyD; rw [k1.ks]; exact hno
  refine ⟨_, k1.add hi hd hp, get_up k2.beg, fun j e h => ?_⟩
  rcases get_snoc h with h | ⟨_, h⟩
  · exact absurd (List.mem_map.2 ⟨_, List.mem_of_getElem? h, rfl⟩) hnk
  · rw [(Prod.mk.inj h).2]; exact k2.new hd hp hnk
structure WayC (G : List Bool) (s t : Nat × Nat) (d : Nat) (C : List (Nat × Nat)) : Prop where
  len : C.length = d + 1
  beg : C[0]? = some s
  last : C[d]? = some t
  st : ∀ k a b, C[k]? = some a → C[k + 1]? = some b → b ∈ fcY G a.1 a.2
section
variable {fs : T EF} {h h' : H}
/-! ### slices.Reverse -/
def f103c_I (v : V) (L : List (Int × Int)) (h0 : H) (i : Nat) (fr : Fr) (h1 : H) : Prop := 2 * i ≤ L.length ∧ (∃ M, M.length = L.length ∧ (∀ k, k < L.length → M[k]? = if k < i ∨ L.length - i ≤ k then L[L.length - 1 - k]? else L[k]?) ∧ Sk 2 qE h1 v M) ∧ h1.nx = h0.nx ∧ HC h1 ∧ (∀ id : K, NotIn id v → h1.get id = h0.get id) ∧ fr.get (K.ofNat 0) = some (v) ∧ fr.get (K.ofNat 2) = some (.i .i64 (i : Int)) ∧ fr.get (K.ofNat 3) = some (.i .i64 ((L.length : Int) - 1 - (i : Int)))
theorem f103c_ret {v : V} {L : List (Int × Int)} (hs : Sk 2 qE h v L) (hl : L.length ≤ 1000) (hc : HC h) : Ret fs f103 [v] h fun r h' => r = .tup [] ∧ Sk 2 qE h' v L.reverse ∧ h'.nx = h.nx ∧ HC h' ∧ (∀ id : K, NotIn id v → h'.get id = h.get id) := by
  apply ret_of rfl
  show W fs none f103_c _ _ _
  unfold f103_c
  have hlen := hs.len
  simp (disch := omega) only [f103_r0, Nat.reduceEqDiff, ↓reduceIte, hlen, bz]
  refine W_loop (f103c_I v L h) (fun i => L.length - i) ?_ 0 ⟨by omega, ⟨L, rfl, fun k hk => by rw [if_neg (by omega)], hs⟩, rfl, hc, fun _ _ => rfl, by simp (disch := omega) only [getK_set, Nat.reduceEqDiff, ↓reduceIte, and_self, Int.natCast_zero, Int.sub_zero]⟩
  rintro i fr h1 ⟨hi, ⟨M, hM, hMk, s1⟩, hnx, hc1, ho, g0, g2, g3⟩
  unfold f103_l0
  by_cases hlt : 2 * i + 1 < L.length
  · have d0 : decide ((i : Int) < (L.length : Int) - 1 - (i : Int)) = true := decide_eq_true (by omega)
    obtain ⟨j, hj⟩ : ∃ j : Nat, (j : Int) = (L.length : Int) - 1 - (i : Int) := ⟨L.length - 1 - i, by omega⟩
    have hiM : i < M.length := by omega
    have hjM : j < M.length := by omega
    obtain ⟨p1, a1, b1⟩ := s1.at2 hjM
    obtain ⟨p2, a2, b2⟩ := s1.at2 hiM
    have hvb := s1.beq
    obtain ⟨p3, id3, m3, cs3, a3, b3, c3, ⟨of3_, n3, z3, e3⟩, l3⟩ := s1.st2 hiM (x := M[j]) hc1
    have hc2 := (Grow.put (b := 0) (Nat.zero_le _) l3 (.cells m3 cs3)).hc hc1
    obtain ⟨p4, id4, m4, cs4, a4, b4, c4, ⟨of4_, n4, z4, e4⟩, l4⟩ := c3.st2 (i := j) (by rw [List.length_set]; exact hjM) (x := M[i]) hc2
    have hc3 := (Grow.put (b := 0) (Nat.zero_le _) l4 (.cells m4 cs4)).hc hc2
    obtain rfl := iads_det a3 a2
    obtain rfl := iads_det a4 a1
    have eMi : M[i]? = some M[i] := List.getElem?_eq_getElem hiM
    have eMj : M[j]? = some M[j] := List.getElem?_eq_getElem hjM
    have ei := hMk i (by omega)
    have ej := hMk j (by omega)
    rw [if_neg (by omega), eMi] at ei
    rw [if_neg (by omega), eMj] at ej
    rw [← hj] at g3 d0
    simp (disch := omega) only [f103_r1, f103_r2, f103_r3, stay_mv, beq_i, Nat.reduceEqDiff, ↓reduceIte, g0, g2, g3, d0, a1, b1, a2, b2, b3, b4, hvb, bz]
    refine ⟨i + 1, by omega, by omega, ⟨_, by simp [hM], fun k hk => ?_, c4⟩, hnx, hc3, fun id hn => ?_, by simp (disch := omega) only [true_and, Option.some.injEq, getK_set, Nat.reduceEqDiff, ↓reduceIte, g0, Int.natCast_add, Int.natCast_one]; exact congrArg _ (by omega)⟩
    · rw [List.getElem?_set, List.length_set]
      by_cases k1 : j = k
      · subst k1
        rw [if_pos rfl, if_pos hjM, if_pos (by omega), ei]
        congr 1; omega
      · rw [if_neg k1, List.getElem?_set]
        by_cases k2 : i = k
        · subst k2
          rw [if_pos rfl, if_pos hiM, if_pos (by omega), ej]
          congr 1; omega
        · rw [if_neg k2, hMk k hk]
          by_cases k3 : k < i ∨ L.length - i ≤ k
          · rw [if_pos k3, if_pos (by omega)]
          · rw [if_neg k3, if_neg (by omega)]
    · rw [get_put_other (fun e => hn of4_ n4 z4 (by rw [e]; exact e4)), get_put_other (fun e => hn of3_ n3 z3 (by rw [e]; exact e3))]
      exact ho id hn
  · have d0 : decide ((i : Int) < (L.length : Int) - 1 - (i : Int)) = false := decide_eq_false (by omega)
    have hrev : M = L.reverse := by
      apply List.ext_getElem?
      intro k
      by_cases hk : k < L.length
      · rw [hMk k hk, List.getElem?_reverse hk]
        by_cases k3 : k < i ∨ L.length - i ≤ k
        · rw [if_pos k3]
        · rw [if_neg k3, show L.length - 1 - k = k by omega]
      · rw [List.getElem?_eq_none (by omega), List.getElem?_eq_none (by simp; omega)]
    rw [hrev] at s1
    simp (disch := omega) only [f103_r1, f103_rs, Option.some.injEq, exists_eq_left', Nat.reduceEqDiff, ↓reduceIte, Bool.false_eq_true, g2, g3, d0, bz]
    exact ⟨s1, hnx, hc1, ho⟩
/-! ### wayTo -/
structure BackW (G : List Bool) (t x : Nat × Nat) (D d : Nat) (W_ : List (Nat × Nat)) : Prop where
  len : W_.length + d = D + 1
  beg : W_[0]? = some t
  last : W_[W_.length - 1]? = some x
  st : ∀ k a b, W_[k]? = some a → W_[k + 1]? = some b → a ∈ fcY G b.1 b.2
theorem BackW.way {G : List Bool} {t s : Nat × Nat} {D : Nat} {W_ : List (Nat × Nat)} (b : BackW G t s D 0 W_) : WayC G s t D W_.reverse := by
  have hl := b.len
  refine ⟨by rw [List.length_reverse]; omega, ?_, ?_, fun k a c h1 h2 => ?_⟩
  · rw [List.getElem?_reverse (by omega)]; exact b.last
  · rw [List.getElem?_reverse (by omega), show W_.length - 1 - D = 0 by omega]; exact b.beg
  · have l1 := get_lt h1
    have l2 := get_lt h2
    rw [List.length_reverse] at l1 l2
    rw [List.getElem?_reverse l1] at h1
    rw [List.getElem?_reverse l2] at h2
    exact b.st (W_.length - 1 - (k + 1)) c a h2 (by rw [show W_.length - 1 - (k + 1) + 1 = W_.length - 1 - k by omega]; exact h1)
theorem BackW.add {G : List Bool} {t x v : Nat × Nat} {D d : Nat} {W_ : List (Nat × Nat)} (b : BackW G t x D (d + 1) W_) (hp : x ∈ fcY G v.1 v.2) : BackW G t v D d (W_ ++ [v]) := by
  have hl := b.len
  have hpos : 0 < W_.length := get_lt b.beg
  refine ⟨by simp; omega, get_up b.beg, by simp, fun k a c h1 h2 => ?_⟩
  rcases get_snoc h2 with h2 | ⟨e2, rfl⟩
  · have := get_lt h2
    have h1 : W_[k]? = some a := by rw [List.getElem?_append_left (by omega)] at h1; exact h1
    exact b.st k a c h1 h2
  · rw [List.getElem?_append_left (by omega)] at h1
    have hb := b.last
    rw [show W_.length - 1 = k by omega, h1] at hb
    rw [Option.some.inj hb]; exact hp
def f89c_I (G : List Bool) (t : Nat × Nat) (D : Nat) (N : DM) (h0 : H) (id2 idm : K) (b : Nat) (M : List ((Nat × Nat) × (Nat × Nat))) (j : Nat) (fr : Fr) (h1 : H) : Prop := ∃ x w u W_ d, M[j]? = some (x, w) ∧ N[j]? = some (x, d) ∧ BackW G t x D d W_ ∧ Kp id2 h0 h1 ∧ h1.get id2 = .cells 2 [.i .i64 (x.1 : Int), .i .i64 (x.2 : Int)] ∧ Sk 2 qE h1 u (W_.map toI) ∧ W_.length + j ≤ 60 ∧ Own b u ∧ fr.get (K.ofNat 1) = some (.m idm) ∧ fr.get (K.ofNat 2) = some (.p id2 0) ∧ fr.get (K.ofNat 6) = some (u)
theorem f89c_ret {L : List Bool} {s x : Nat × Nat} {idm : K} {M : List ((Nat × Nat) × (Nat × Nat))} {N : DM} (k : Nat1 fs) (h103 : fs.get (K.ofNat 103) = some f103) (hB : Bf L s M) (hN : DmN L M N) (hN0 : N[0]? = some (s, 0)) (hx : in7 x) (hm : MapA h idm 76 M) (hc : HC h) : Ret fs f89 [aV x, .m idm] h fun r h' => Grow h.nx.nat h h' ∧ ((x ∉ M.map Prod.fst ∧ r = .tup [.sn, .b false]) ∨ (x ∈ M.map Prod.fst ∧ ∃ (id : K) (off n j d : Nat) (C : List (Nat × Nat)), r = .tup [.sl id off n 2, .b true] ∧ N[j]? = some (x, d) ∧ WayC L s x d C ∧ Sk 2 qE h' (.sl id off n 2) (C.map toI) ∧ h.nx.nat ≤ id.nat ∧ C.length ≤ 60)) := by
  apply ret_of rfl
  show W fs none f89_c _ _ _
  unfold f89_c
  have c2 : cellsN 2 (aV x) = some [.i .i64 (x.1 : Int), .i .i64 (x.2 : Int)] := rfl
  have n1 := nx_new h (.cells 2 [.i .i64 (x.1 : Int), .i .i64 (x.2 : Int)])
  have gr1 : Grow h.nx.nat h (h.new (.cells 2 [.i .i64 (x.1 : Int), .i .i64 (x.2 : Int)])) := Grow.new (Nat.le_refl _) _
  have e1 : (h.new (.cells 2 [.i .i64 (x.1 : Int), .i .i64 (x.2 : Int)])).get h.nx = .cells 2 [.i .i64 (x.1 : Int), .i .i64 (x.2 : Int)] := get_new_same
  simp (disch := omega) only [f89_r0, Nat.reduceEqDiff, ↓reduceIte, c2, bz]
  generalize h.new (.cells 2 [.i .i64 (x.1 : Int), .i .i64 (x.2 : Int)]) = h1 at *
  have hc1 := gr1.hc hc
  have lm := hm.lt_nx hc
  have l1 := ldn2 e1
  have hav : V.agg [.i .i64 (x.1 : Int), .i .i64 (x.2 : Int)] = pV (toI x) := rfl
  have cp : cellsN 2 (pV (toI x)) = some [.i .i64 (x.1 : Int), .i .i64 (x.2 : Int)] := rfl
  have sp : setMany [V.i .i64 0, V.i .i64 0] 0 [V.i .i64 (x.1 : Int), V.i .i64 (x.2 : Int)] = [V.i .i64 (x.1 : Int), V.i .i64 (x.2 : Int)] := rfl
  have n2 := nx_new h1 (.cells (1 * 2) [.i .i64 (x.1 : Int), .i .i64 (x.2 : Int)])
  have gr2 : Grow h1.nx.nat h1 (h1.new (.cells (1 * 2) [.i .i64 (x.1 : Int), .i .i64 (x.2 : Int)])) := Grow.new (Nat.le_refl _) _
  have s2 : Sk 2 qE (h1.new (.cells (1 * 2) [.i .i64 (x.1 : Int), .i .i64 (x.2 : Int)])) (.sl h1.nx 0 1 2) [toI x] := Sk.lit2o
  simp (disch := omega) only [f89_r1, Nat.reduceEqDiff, ↓reduceIte, l1, hav, k.n78, fill_c, cp, sp, bz]
  generalize h1.new (.cells (1 * 2) [.i .i64 (x.1 : Int), .i .i64 (x.2 : Int)]) = h2 at *
  have hc2 := gr2.hc hc1
  have e2 := (gr2.old h.nx (by omega)).trans e1
  have m1 : MapA h1 idm 76 M := hm.grow hc gr1
  have m2 : MapA h2 idm 76 M := m1.grow hc1 (gr2.low (by omega))
  have gA1 := gr1
  have gA : Grow h.nx.nat h h2 := gr1.trans (gr2.low (by omega))
  by_cases hin : x ∈ M.map Prod.fst
  · obtain ⟨⟨x', w⟩, he, hx'⟩ := List.mem_map.1 hin
    replace hx' : x' = x := hx'
    rw [hx'] at he
    obtain ⟨j, hj, ej⟩ := List.getElem_of_mem he
    have hjM : M[j]? = some (x, w) := by rw [List.getElem?_eq_getElem hj, ej]
    have hMl := hB.len
    have o2 : Own (h.nx.nat + 1) (.sl h1.nx 0 1 2) := fun id off n sz ee => by cases ee; omega
    have hnn : h1.nx.nat = h.nx.nat + 1 := by omega
    obtain ⟨D, hD⟩ := hN.at hjM
    have hBW0 : BackW L x x D D [x] := ⟨by simp; omega, rfl, rfl, fun k a b h1 h2 => by have := (get_one h2).1; omega⟩
    obtain ⟨jT, hjT⟩ : ∃ j, N[j]? = some (x, D) := ⟨j, hD⟩
    obtain ⟨t, ht⟩ : ∃ t, t = x := ⟨x, rfl⟩
    rw [← ht] at hjT
    have hBW : BackW L t x D D [x] := by rw [ht]; exact hBW0
    have hinT : t ∈ M.map Prod.fst := by rw [ht]; exact hin
    refine W_loop (f89c_I L t D N h1 h.nx idm (h.nx.nat + 1) M) (fun j => j) ?_ j ⟨x, w, _, _, D, hjM, hD, hBW, Kp.of hc1 gr2 (Nat.le_refl _), e2, s2, by simp; omega, o2, by simp (disch := omega) only [getK_set, Nat.reduceEqDiff, ↓reduceIte, and_self]⟩
    rw [← ht]
    clear ht hBW0 hBW hD hjM ej hj he n1 n2 gr1 gr2 e1 l1 hav cp sp c2 s2 o2 hm e2 hx
    clear hx' hin
    clear x' w j x
    rintro j fr h3 ⟨x, w, u, W_, d, hjM, hjN, hBW, hk, e3, s3, hlen, hou, g1, g2, g6⟩
    have hx := hB.lt _ (List.mem_of_getElem? hjM)
    have hkn := hk.nx
    have m3 : MapA h3 idm 76 M := (hk.old idm (by omega) (fun e => by have := congrArg K.nat e; omega)).trans m1
    have hlk := lookA_at hB.nd hjM
    have hjl : j < M.length := get_lt hjM
    have l3 := ldn2 e3
    have hav : V.agg [.i .i64 (x.1 : Int), .i .i64 (x.2 : Int)] = aV x := rfl
    have hlook := m3.look hB.lt hx
    rw [hlk] at hlook
    have hok : okA (some w) = .tup [aV w, .b true] := rfl
    have cw : cellsN 2 (aV w) = some [.i .i64 (w.1 : Int), .i .i64 (w.2 : Int)] := rfl
    have hcell : storeV (h3.new (.cells 2 [.i .i64 0, .i .i64 0])) 2 (.p h3.nx 0) (aV w) = .ok undefV ((h3.new (.cells 2 [.i .i64 0, .i .i64 0])).put h3.nx (.cells 2 [.i .i64 (w.1 : Int), .i .i64 (w.2 : Int)])) := (arr_var (h := h3) (x := w.1) (y := w.2)).1
    obtain ⟨_, gB, c7, n5⟩ := arr_var (h := h3) (x := w.1) (y := w.2)
    unfold f89_l0
    simp (disch := omega) only [f89_r2, f89_r3, Nat.reduceEqDiff, ↓reduceIte, Bool.false_eq_true, Bool.not_true, g1, g2, l3, hav, hlook, hok, hcell, bz]
    generalize (h3.new (.cells 2 [.i .i64 0, .i .i64 0])).put h3.nx (.cells 2 [.i .i64 (w.1 : Int), .i .i64 (w.2 : Int)]) = h4 at *
    have hc4 := gB.hc hk.hc
    have e4 := (gB.old h.nx (by omega)).trans e3
    have l4 := ldn2 e4
    have l7 := ldn2 c7
    have s4 := s3.grow hk.hc gB
    have hw : in7 w := by
      by_cases h0 : 0 < j
      · obtain ⟨_, i, w', _, hi⟩ := hB.par j x w hjM h0
        exact hB.lt _ (List.mem_of_getElem? hi)
      · have : j = 0 := by omega
        subst this
        rw [hB.beg] at hjM
        simp at hjM
        rw [← hjM.2, hjM.1]; exact hx
    have hav2 : V.agg [.i .i64 (w.1 : Int), .i .i64 (w.2 : Int)] = aV w := rfl
    have hq := keyEq_aV hw hx
    have gC : Grow h.nx.nat h h4 := gA1.trans ((hk.toGrow (b := h.nx.nat) (Nat.le_refl _) (by omega)).trans (gB.low (by omega)))
    by_cases e : w = x
    · have d0 : decide (w = x) = true := decide_eq_true e
      rw [d0] at hq
      have hj0 : j = 0 := by
        refine Classical.byContradiction fun hn => ?_
        exact (hB.par j x w hjM (by omega)).1 e.symm
      subst hj0
      rw [hN0] at hjN
      obtain ⟨rfl, rfl⟩ := Prod.mk.inj (Option.some.inj hjN)
      simp (disch := omega) only [f89_r5, f89_r6, Nat.reduceEqDiff, ↓reduceIte, Bool.not_true, g2, g6, l7, l4, hav, hav2, hq, bz]
      refine (callP_0 (ef := f103) h103 rfl (f103c_ret s4 (by rw [List.length_map]; omega) hc4)).mono ?_
      rintro r h5 ⟨rfl, s5, n6, hc5, ho5⟩
      simp (disch := omega) only [f89_r7, f89_rs, Option.some.injEq, exists_eq_left', Nat.reduceEqDiff, ↓reduceIte, g6, bz]
      have n6' : h5.nx.nat = h4.nx.nat := congrArg K.nat n6
      refine ⟨gC.trans ⟨by omega, fun id hid => ho5 id (hou.notIn (by omega)), fun _ => hc5⟩, .inr ⟨hinT, ?_⟩⟩
      rw [← List.map_reverse] at s5
      rcases s4 with ⟨_, q2⟩ | ⟨id, off, m, cs, rfl, _⟩
      · have := get_lt hBW.beg
        have q2 := congrArg List.length q2
        rw [List.length_map] at q2
        simp at q2
        rw [q2] at this
        simp at this
      · exact ⟨id, off, _, jT, D, _, rfl, hjT, hBW.way, s5, by have := hou _ _ _ _ rfl; omega, by rw [List.length_reverse]; omega⟩
    · have d0 : decide (w = x) = false := decide_eq_false e
      rw [d0] at hq
      have h0 : 0 < j := by
        by_cases h0 : 0 < j
        · exact h0
        · have : j = 0 := by omega
          subst this
          rw [hB.beg] at hjM
          simp at hjM
          exact absurd (hjM.2.symm.trans hjM.1) e
      obtain ⟨i, w', ee, hij, hi, hiN, hjN2, hfc⟩ := hN.par j x w hjM h0
      have hde : d = ee + 1 := by rw [hjN] at hjN2; exact (Prod.mk.inj (Option.some.inj hjN2)).2
      subst hde
      have hvb := s4.beq
      have sp2 : setMany [V.i .i64 0, V.i .i64 0] 0 [V.i .i64 (w.1 : Int), V.i .i64 (w.2 : Int)] = [V.i .i64 (w.1 : Int), V.i .i64 (w.2 : Int)] := rfl
      have k78 : ∀ h1 P, CallP fs (.fn (K.ofNat 78) []) [aV w] h1 P = P (aV w) h1 := fun h1 P => k.n78 (toI w) h1 P
      obtain ⟨u', h8, a1, s1, o1, gr8, k8⟩ := Sk.push (b := h.nx.nat + 1) qE_len (by omega) (x := toI w) s4 hou (by omega) hc4 (by rw [List.length_map]; omega)
      have a1' : appV 2 (h4.new (.cells (1 * 2) [.i .i64 (w.1 : Int), .i .i64 (w.2 : Int)])) u (.sl h4.nx 0 1 2) = .ok u' h8 := a1
      have gr8n := gr8.nx
      have b7 := (k8 h3.nx (by omega) (fun off n sz ee => by have := s3.lt hk.hc _ _ _ _ ee; omega)).1.trans c7
      have l8 := ldn2 b7
      have b2 := (k8 h.nx (by omega) (hou.notIn (by omega))).1.trans e4
      have s9 : storeV h8 2 (.p h.nx 0) (aV w) = .ok undefV (h8.put h.nx (.cells 2 [.i .i64 (w.1 : Int), .i .i64 (w.2 : Int)])) := st2 b2
      simp (disch := omega) only [f89_r5, f89_r8, f89_r9, Nat.reduceEqDiff, ↓reduceIte, Bool.false_eq_true, g2, g6, l7, l4, hav, hav2, hq, cond_false, k78, fill_c, cw, sp2, a1', l8, s9, bz]
      have kk : Kp h.nx h1 (h8.put h.nx (.cells 2 [.i .i64 (w.1 : Int), .i .i64 (w.2 : Int)])) := by
        refine ⟨by rw [nx_put]; omega, fun id hid hn => ?_, ?_⟩
        · have hid0 : id.nat ≠ h.nx.nat := fun e => hn (K.nat_inj e)
          rw [get_put_other hn, (k8 id (by omega) (hou.notIn (by omega))).1, gB.old id (by omega)]
          exact hk.old id hid hn
        · exact (Grow.put (b := 0) (Nat.zero_le _) (by omega) _).hc (gr8.hc hc4)
      refine ⟨i, hij, w, w', u', _, ee, hi, hiN, hBW.add hfc, kk, get_put_same, by rw [List.map_append]; exact s1.put (o1.notIn (by omega)) _, by simp; omega, o1, by simp (disch := omega) only [getK_set, Nat.reduceEqDiff, ↓reduceIte, g1, g2, and_self]⟩
  · have hlook := m2.look hB.lt hx
    rw [lookA_none hin] at hlook
    have hok : okA none = .tup [.agg [.i .i64 0, .i .i64 0], .b false] := rfl
    have l2 := ldn2 e2
    have hav : V.agg [.i .i64 (x.1 : Int), .i .i64 (x.2 : Int)] = aV x := rfl
    obtain ⟨hcell, gB, _, _⟩ := arr_var (h := h2) (x := 0) (y := 0)
    have hcell : storeV (h2.new (.cells 2 [.i .i64 0, .i .i64 0])) 2 (.p h2.nx 0) (.agg [.i .i64 0, .i .i64 0]) = .ok undefV ((h2.new (.cells 2 [.i .i64 0, .i .i64 0])).put h2.nx (.cells 2 [.i .i64 0, .i .i64 0])) := hcell
    refine W_loop (fun (_ : Nat) fr h1 => h1 = h2 ∧ fr.get (K.ofNat 1) = some (.m idm) ∧ fr.get (K.ofNat 2) = some (.p h.nx 0)) (fun _ => 0) ?_ 0 ⟨rfl, by simp (disch := omega) only [getK_set, Nat.reduceEqDiff, ↓reduceIte, and_self]⟩
    rintro _ fr h3 ⟨rfl, g1, g2⟩
    unfold f89_l0
    simp (disch := omega) only [f89_r2, f89_r3, f89_r4, f89_rs, Option.some.injEq, exists_eq_left', Nat.reduceEqDiff, ↓reduceIte, Bool.not_false, g1, g2, l2, hav, hlook, hok, hcell, bz]
    exact ⟨gA.trans (gB.low (by have := gA.nx; omega)), .inl ⟨hin, trivial⟩⟩
end
end Go.Ev
namespace Go.Ev
open Go Go.RowKit
section
variable {fs : T EF} {h h' : H}
def Fc (G : List Bool) (h : H) (idf : K) (b : Nat) (u : V) (best : Nat) : Prop := (u = .sn ∧ best = 0) ∨ ∃ (s : Nat × Nat) (C : List (Nat × Nat)) (id : K) (off n : Nat), u = .sl id off n 2 ∧ rat G s.1 s.2 = true ∧ WayC G s (swN s) (best - 1) C ∧ C.length = best ∧ Sk 2 qE h u (C.map toI) ∧ id.nat ≠ idf.nat ∧ id.nat ≠ b ∧ C.length ≤ 60
def f88c_I (L : List Bool) (s t : Nat × Nat) (idr idf id3 idm idmv idq : K) (b : Nat) (h0 : H) (z : Nat × List ((Nat × Nat) × (Nat × Nat))) (fr : Fr) (h1 : H) : Prop :=
  z.1 ≤ z.2.length ∧ Dm L s z.2 z.1 ∧ QI L s t id3 idm idmv h0 z.2 h1 ∧ HC h1 ∧ Clo L z.2 z.1 ∧ ∃ idi u, QQ t b idq z.2 u h1 ∧ NotIn idi u ∧ idq.nat < idi.nat ∧ idi.nat < h1.nx.nat ∧ h1.get idi = .cells 1 [.i .i64 (z.1 : Int)] ∧
  fr.get (K.ofNat 1) = some (.p idr 0) ∧ fr.get (K.ofNat 2) = some (.p idf 0) ∧ fr.get (K.ofNat 3) = some (.p id3 0) ∧ fr.get (K.ofNat 4) = some (.p idmv 0) ∧ fr.get (K.ofNat 5) = some (.p idq 0) ∧ fr.get (K.ofNat 6) = some (.p idi 0)
def f88c_E (L : List Bool) (s t : Nat × Nat) (idr idf id3 idm idmv : K) (h0 : H) (fr : Fr) (h1 : H) : Prop :=
  ∃ M, QI L s t id3 idm idmv h0 M h1 ∧ HC h1 ∧ (t ∈ keys M ↔ Rch (Er L) s.1 s.2 t.1 t.2) ∧ (∃ N, DmN L M N ∧ N[0]? = some (s, 0) ∧ ∀ (j : Nat) (d : Nat), N[j]? = some (t, d) → IsD L s t d) ∧ fr.get (K.ofNat 1) = some (.p idr 0) ∧ fr.get (K.ofNat 2) = some (.p idf 0) ∧ fr.get (K.ofNat 3) = some (.p id3 0) ∧ fr.get (K.ofNat 4) = some (.p idmv 0)
theorem f88c_ret {L : List Bool} {s : Nat × Nat} {idr idf : K} {u0 : V} {p0 : Nat} (k : Nat1 fs) (h86 : fs.get (K.ofNat 86) = some f86) (h102 : fs.get (K.ofNat 102) = some f102) (h103 : fs.get (K.ofNat 103) = some f103) (h89 : fs.get (K.ofNat 89) = some f89) (hL : L.length = 49) (hs : in7 s) (hst : s ≠ swN s)
    (er : h.get idr = rC L) (ef : h.get idf = .cells 1 [u0]) {b : Nat} (hb : b < h.nx.nat) (hu : Fc L h idf b u0 p0) (hsr : rat L s.1 s.2 = true) (_hrf : idr ≠ idf) (hc : HC h) : Ret fs f88 [aV s, .p idr 0, .p idf 0] h fun r h' => r = .tup [] ∧ ∃ u', h'.get idf = .cells 1 [u'] ∧ Fc L h' idf b u' (minC p0 (dN L s (swN s))) ∧ Kp idf h h' := by
  apply ret_of rfl
  show W fs none f88_c _ _ _
  unfold f88_c
  have lr : idr.nat < h.nx.nat := hc.cells er
  have lf : idf.nat < h.nx.nat := hc.cells ef
  have c2 : cellsN 2 (aV s) = some [.i .i64 (s.1 : Int), .i .i64 (s.2 : Int)] := rfl
  have n1 := nx_new h (.cells 2 [.i .i64 (s.1 : Int), .i .i64 (s.2 : Int)])
  have gr1 : Grow h.nx.nat h (h.new (.cells 2 [.i .i64 (s.1 : Int), .i .i64 (s.2 : Int)])) := Grow.new (Nat.le_refl _) _
  have e1 : (h.new (.cells 2 [.i .i64 (s.1 : Int), .i .i64 (s.2 : Int)])).get h.nx = .cells 2 [.i .i64 (s.1 : Int), .i .i64 (s.2 : Int)] := get_new_same
  simp (disch := omega) only [f88_r0, w_scope, Nat.reduceEqDiff, ↓reduceIte, c2, bz]
  generalize h.new (.cells 2 [.i .i64 (s.1 : Int), .i .i64 (s.2 : Int)]) = h1 at *
  have hav : V.agg [.i .i64 (s.1 : Int), .i .i64 (s.2 : Int)] = aV s := rfl
  have n2 := nx_new h1 (.map 76 [])
  have gr2 : Grow h1.nx.nat h1 (h1.new (.map 76 [])) := Grow.new (Nat.le_refl _) _
  have e2 : MapA (h1.new (.map 76 [])) h1.nx 76 [] := get_new_same
  have l2 := ldn2 ((gr2.old h.nx (by omega)).trans e1)
  have p2 := e2.put (x := s) (v := s) (by simp) hs (by simp)
  have g2 : Grow h1.nx.nat h1 ((h1.new (.map 76 [])).put h1.nx (.map 76 (entA ([] ++ [(s, s)])))) := gr2.trans (Grow.put (Nat.le_refl _) (by omega) _)
  have m2 : MapA ((h1.new (.map 76 [])).put h1.nx (.map 76 (entA ([] ++ [(s, s)])))) h1.nx 76 [(s, s)] := get_put_same
  have n2' : ((h1.new (.map 76 [])).put h1.nx (.map 76 (entA ([] ++ [(s, s)])))).nx.nat = h1.nx.nat + 1 := n2
  simp (disch := omega) only [f88_r1, x_mkmap, x_mupd, Nat.reduceEqDiff, ↓reduceIte, l2, hav, p2, bz]
  generalize (h1.new (.map 76 [])).put h1.nx (.map 76 (entA ([] ++ [(s, s)]))) = h2 at *
  have n3 := nx_new h2 (.cells 1 [.mn])
  have s3 : storeV (h2.new (.cells 1 [.mn])) 1 (.p h2.nx 0) (.m h1.nx) = .ok undefV ((h2.new (.cells 1 [.mn])).put h2.nx (.cells 1 [.m h1.nx])) := st1 get_new_same cells1_m
  have g3 : Grow h2.nx.nat h2 ((h2.new (.cells 1 [.mn])).put h2.nx (.cells 1 [.m h1.nx])) := (Grow.new (Nat.le_refl _) _).trans (Grow.put (Nat.le_refl _) (by omega) _)
  have e3 : ((h2.new (.cells 1 [.mn])).put h2.nx (.cells 1 [.m h1.nx])).get h2.nx = .cells 1 [.m h1.nx] := get_put_same
  have n3' : ((h2.new (.cells 1 [.mn])).put h2.nx (.cells 1 [.m h1.nx])).nx.nat = h2.nx.nat + 1 := n3
  simp (disch := omega) only [s3, bz]
  generalize (h2.new (.cells 1 [.mn])).put h2.nx (.cells 1 [.m h1.nx]) = h3 at *
  have hc1 := gr1.hc hc
  have hc2 := g2.hc hc1
  have hc3 := g3.hc hc2
  have cp : cellsN 2 (aV s) = some [.i .i64 (s.1 : Int), .i .i64 (s.2 : Int)] := rfl
  have sp : setMany [V.i .i64 0, V.i .i64 0] 0 [V.i .i64 (s.1 : Int), V.i .i64 (s.2 : Int)] = [V.i .i64 (s.1 : Int), V.i .i64 (s.2 : Int)] := rfl
  have a1 := (g3.old h.nx (by omega)).trans ((g2.old h.nx (by omega)).trans e1)
  have a2 : MapA h3 h1.nx 76 [(s, s)] := (m2.grow hc2 g3)
  have l3 := ldn2 a1
  have n4 := nx_new h3 (.cells (1 * 2) [.i .i64 (s.1 : Int), .i .i64 (s.2 : Int)])
  have g4 : Grow h3.nx.nat h3 (h3.new (.cells (1 * 2) [.i .i64 (s.1 : Int), .i .i64 (s.2 : Int)])) := Grow.new (Nat.le_refl _) _
  have k4 : Sk 2 qE (h3.new (.cells (1 * 2) [.i .i64 (s.1 : Int), .i .i64 (s.2 : Int)])) (.sl h3.nx 0 1 2) [toI s] := Sk.lit2o
  simp (disch := omega) only [f88_r2, Nat.reduceEqDiff, ↓reduceIte, l3, hav, fill_c, cp, sp, bz]
  generalize h3.new (.cells (1 * 2) [.i .i64 (s.1 : Int), .i .i64 (s.2 : Int)]) = h4 at *
  have hc4 := g4.hc hc3
  have n5 := nx_new h4 (.cells 1 [.sn])
  have s5 : storeV (h4.new (.cells 1 [.sn])) 1 (.p h4.nx 0) (.sl h3.nx 0 1 2) = .ok undefV ((h4.new (.cells 1 [.sn])).put h4.nx (.cells 1 [.sl h3.nx 0 1 2])) := st1 get_new_same rfl
  have g5 : Grow h4.nx.nat h4 ((h4.new (.cells 1 [.sn])).put h4.nx (.cells 1 [.sl h3.nx 0 1 2])) := (Grow.new (Nat.le_refl _) _).trans (Grow.put (Nat.le_refl _) (by omega) _)
  have e5 : ((h4.new (.cells 1 [.sn])).put h4.nx (.cells 1 [.sl h3.nx 0 1 2])).get h4.nx = .cells 1 [.sl h3.nx 0 1 2] := get_put_same
  have n5' : ((h4.new (.cells 1 [.sn])).put h4.nx (.cells 1 [.sl h3.nx 0 1 2])).nx.nat = h4.nx.nat + 1 := n5
  simp (disch := omega) only [s5, bz]
  generalize (h4.new (.cells 1 [.sn])).put h4.nx (.cells 1 [.sl h3.nx 0 1 2]) = h5 at *
  have hc5 := g5.hc hc4
  have n6 := nx_new h5 (.cells 1 [.i .i64 0])
  have s6 : storeV (h5.new (.cells 1 [.i .i64 0])) 1 (.p h5.nx 0) (.i .i64 0) = .ok undefV ((h5.new (.cells 1 [.i .i64 0])).put h5.nx (.cells 1 [.i .i64 0])) := st1 get_new_same rfl
  have g6 : Grow h5.nx.nat h5 ((h5.new (.cells 1 [.i .i64 0])).put h5.nx (.cells 1 [.i .i64 0])) := (Grow.new (Nat.le_refl _) _).trans (Grow.put (Nat.le_refl _) (by omega) _)
  have e6 : ((h5.new (.cells 1 [.i .i64 0])).put h5.nx (.cells 1 [.i .i64 0])).get h5.nx = .cells 1 [.i .i64 0] := get_put_same
  have n6' : ((h5.new (.cells 1 [.i .i64 0])).put h5.nx (.cells 1 [.i .i64 0])).nx.nat = h5.nx.nat + 1 := n6
  simp (disch := omega) only [f88_r3, ↓reduceIte, s6, bz]
  generalize (h5.new (.cells 1 [.i .i64 0])).put h5.nx (.cells 1 [.i .i64 0]) = h6 at *
  have hc6 := g6.hc hc5
  have gA : Grow h.nx.nat h h6 := gr1.trans ((g2.low (by omega)).trans ((g3.low (by omega)).trans ((g4.low (by omega)).trans ((g5.low (by omega)).trans (g6.low (by omega))))))
  have g36 : Grow h3.nx.nat h3 h6 := g4.trans ((g5.low (by omega)).trans (g6.low (by omega)))
  have g46 : Grow h4.nx.nat h4 h6 := g5.trans (g6.low (by omega))
  have hQI : QI L s (swN s) h.nx h1.nx h2.nx h [(s, s)] h6 := ⟨Bf.one hs, gA, (g36.old _ (by omega)).trans a1, (g36.old _ (by omega)).trans e3, a2.grow hc3 g36⟩
  have hQQ : QQ (swN s) h3.nx.nat h4.nx [(s, s)] (.sl h3.nx 0 1 2) h6 := ⟨by unfold keys; simp only [List.map_cons, List.map_nil, List.mem_singleton]; exact fun e => hst e.symm, (g6.old _ (by omega)).trans e5, k4.grow hc4 g46, fun id off n sz e => by cases e; exact Nat.le_refl _, fun off n sz e => by have := congrArg (fun v => match v with | V.sl id _ _ _ => id.nat | _ => 0) e; simp only at this; omega⟩
  have nl6 : NotIn h5.nx (.sl h3.nx 0 1 2) := fun off n sz e => by have := congrArg (fun v => match v with | V.sl id _ _ _ => id.nat | _ => 0) e; simp only at this; omega
  have hst1 : h1.nx.nat = h.nx.nat + 1 := n1
  have hst2 : h2.nx.nat = h.nx.nat + 2 := by omega
  have hst3 : h3.nx.nat = h.nx.nat + 3 := by omega
  have hst4 : h4.nx.nat = h.nx.nat + 4 := by omega
  have hst5 : h5.nx.nat = h.nx.nat + 5 := by omega
  have hst6 : h6.nx.nat = h.nx.nat + 6 := by omega
  have bm : beqV (.m h1.nx) (.m h1.nx) = true := K.beq_refl _
  refine W_mono ?_ (W_loop (Q := fun e fr h1_ => e = .exit 0 ∧ f88c_E L s (swN s) idr idf h.nx h1.nx h2.nx h fr h1_) (f88c_I L s (swN s) idr idf h.nx h1.nx h2.nx h4.nx h3.nx.nat h) (fun z => 50 - z.1) ?_ (0, [(s, s)]) ⟨by simp, Dm.one, hQI, hc6, fun j e hj => absurd hj (by omega), h5.nx, _, hQQ, nl6, by omega, by omega, e6, by simp (disch := omega) only [getK_set, Nat.reduceEqDiff, ↓reduceIte, and_self]⟩)
  · rintro e fr h7 ⟨rfl, M, q, hc7, hiff, ⟨N, hN, hN0, hND⟩, g1, g2, g3, g4⟩
    have l3 := ldn2 q.c3
    have lm := load_p (off := 0) q.cm (show nth [V.m h1.nx] 0 = some _ from rfl)
    have k77 : ∀ h P, CallP fs (.fn (K.ofNat 77) []) [aV s] h P = P (aV (swN s)) h := fun _ _ => k.n77 (toI s) _ _
    simp (disch := omega) only [f88_r15, Nat.reduceEqDiff, ↓reduceIte, g3, g4, l3, hav, k77, lm, bm, bz]
    refine (callP_0 (ef := f89) h89 rfl (f89c_ret (x := swN s) k h103 q.bf hN hN0 ⟨hs.2, hs.1⟩ q.mp hc7)).mono ?_
    rintro r h8 ⟨g8, hr⟩
    have ef8 := (g8.old idf (by have := q.gr.nx; omega)).trans ((q.gr.old idf lf).trans ef)
    have l8 := load_p (off := 0) ef8 (show nth [u0] 0 = some u0 from rfl)
    have gE : Grow h.nx.nat h h8 := q.gr.trans (g8.low q.gr.nx)
    have kE : Kp idf h h8 := Kp.of hc gE (Nat.le_refl _)
    have lf8 : idf.nat < h8.nx.nat := by have := gE.nx; omega
    -- what was there before is there still
    have hu8 : Fc L h8 idf b u0 p0 := by
      rcases hu with hu | ⟨s0, C0, id0, off0, n0, q1, q2, q3, q4, q5, q6⟩
      · exact .inl hu
      · exact .inr ⟨s0, C0, id0, off0, n0, q1, q2, q3, q4, q5.grow hc gE, q6⟩
    rcases hr with ⟨hn, rfl⟩ | ⟨hy, id, off, n, j, d, C, rfl, hj, hw, hsk, hid, hC60⟩
    · have hno : dN L s (swN s) = none := dN_none fun d hd => hn (hiff.2 hd.rch)
      simp (disch := omega) only [f88_r16, f88_rs, xg_ext, Option.some.injEq, exists_eq_left', Nat.reduceEqDiff, ↓reduceIte, Bool.false_eq_true, stay_ext, bz]
      exact ⟨u0, ef8, by rw [hno]; exact hu8, kE⟩
    · have hdn : dN L s (swN s) = some d := dN_some (hND j d hj)
      have sE : storeV h8 1 (.p idf 0) (.sl id off n 2) = .ok undefV (h8.put idf (.cells 1 [.sl id off n 2])) := st1 ef8 rfl
      have hidf : id.nat ≠ idf.nat ∧ id.nat ≠ b := by have := q.gr.nx; constructor <;> omega
      have hCl : n = d + 1 := by
        have h1 := hsk.len h8
        have h2 : lenV (.sl id off n 2) h8 = .ok (.i .i64 (n : Int)) h8 := rfl
        rw [h2, List.length_map, hw.len] at h1
        injection h1 with h1
        injection h1 with _ h1
        omega
      have res : minC p0 (some d) = d + 1 → ∃ u', (h8.put idf (.cells 1 [.sl id off n 2])).get idf = .cells 1 [u'] ∧ Fc L (h8.put idf (.cells 1 [.sl id off n 2])) idf b u' (minC p0 (some d)) ∧ Kp idf h (h8.put idf (.cells 1 [.sl id off n 2])) := fun e => ⟨_, get_put_same, by
        rw [e]
        exact .inr ⟨s, C, id, off, n, rfl, hsr, hw, hw.len, hsk.put (fun off n sz e => by cases e; exact hidf.1 rfl) _, hidf.1, hidf.2, hC60⟩, kE.put lf8 _⟩
      rw [hdn]
      rcases hu8 with ⟨rfl, e2⟩ | ⟨s0, C0, id0, off0, n0, rfl, q2, q3, q4, q5, q6⟩
      · simp (disch := omega) only [f88_r16, f88_r17, f88_rs, x_isnil, xg_ext, isnil_sn, Option.some.injEq, exists_eq_left', Nat.reduceEqDiff, ↓reduceIte, Bool.false_eq_true, Bool.not_true, Bool.not_false, stay_ext, g2, l8, sE, bz]
        exact res (by unfold minC; simp only; rw [if_pos (.inl e2)])
      · have hn0 : n0 = p0 := by
          have h1 := q5.len h8
          have h2 : lenV (.sl id0 off0 n0 2) h8 = .ok (.i .i64 (n0 : Int)) h8 := rfl
          rw [h2, List.length_map, q4] at h1
          injection h1 with h1
          injection h1 with _ h1
          omega
        have hp1 : p0 ≠ 0 := by have := q3.len; omega
        cases hd : decide ((n : Int) < (n0 : Int)) with
        | true =>
          simp (disch := omega) only [f88_r16, f88_r17, f88_rs, x_isnil, xg_ext, isnil_sl, len_sl, Option.some.injEq, exists_eq_left', Nat.reduceEqDiff, ↓reduceIte, Bool.false_eq_true, Bool.not_false, stay_ext, g2, l8, sE, hd, bz]
          have hd := of_decide_eq_true hd
          exact res (by unfold minC; simp only; rw [if_pos (.inr (by omega))])
        | false =>
          simp (disch := omega) only [f88_r16, f88_rs, x_isnil, xg_ext, isnil_sl, len_sl, Option.some.injEq, exists_eq_left', Nat.reduceEqDiff, ↓reduceIte, Bool.false_eq_true, Bool.not_false, stay_ext, g2, l8, hd, bz]
          have hd := of_decide_eq_false hd
          refine ⟨_, ef8, ?_, kE⟩
          have e : minC p0 (some d) = p0 := by unfold minC; simp only; rw [if_neg (by omega)]
          rw [e]
          exact .inr ⟨s0, C0, id0, off0, n0, rfl, q2, q3, q4, q5, q6⟩
  · clear hQI hQQ nl6 gA g36 g46 e6 n6' n6 g6 s6 e5 n5' n5 s5 g5 k4 g4 n4 l3 a1 a2 cp sp hc3 hc2 hc1 n3' n3 s3 e3 g3 m2 n2' g2 p2 l2 e2 gr2 n2 e1 gr1 n1 c2 hc4 hc5 hc6
    rintro ⟨i, M⟩ fr h7 ⟨hi, hdm, q, hc7, hclo, idi, u, qq, hni, hqi, hin, ei, g1, g2, g3, g4, g5, g6⟩
    have hi : i ≤ M.length := hi
    have hdm : Dm L s M i := hdm
    have ei : h7.get idi = .cells 1 [.i .i64 (i : Int)] := ei
    have qgn := q.gr.nx
    have lq := load_p (off := 0) qq.cq (show nth [u] 0 = some u from rfl)
    have li := load_p (off := 0) ei (show nth [V.i .i64 (i : Int)] 0 = some _ from rfl)
    have hlen := qq.sk.len
    rw [keyI_len] at hlen
    have hub := qq.sk.beq
    unfold f88_l0
    by_cases hlt : i < M.length
    · have d0 : decide ((i : Int) < (M.length : Int)) = true := decide_eq_true (by omega)
      obtain ⟨⟨x, w⟩, hx⟩ : ∃ e, M[i]? = some e := ⟨M[i], List.getElem?_eq_getElem hlt⟩
      have hxl := q.bf.lt _ (List.mem_of_getElem? hx)
      obtain ⟨pq, pa, pb⟩ := qq.sk.at2 (i := i) (by rw [keyI_len]; exact hlt)
      have eK : (keyI M)[i]'(by rw [keyI_len]; exact hlt) = toI x := by
        have := keyI_at hx
        rw [List.getElem?_eq_getElem (by rw [keyI_len]; exact hlt)] at this
        exact Option.some.inj this
      have pb : loadV h7 pq (many? 2) = .ok (aV x) h7 := by rw [eK] at pb; exact pb
      have lL := rC_ldn hL ((q.gr.old idr lr).trans er)
      simp (disch := omega) only [f88_r4, f88_r5, Nat.reduceEqDiff, ↓reduceIte, g1, g5, g6, li, lq, hlen, d0, lL, pa, pb, bz]
      refine (callP_0 (ef := f86) h86 rfl (f86_ret (x := x) hL hc7)).mono ?_
      rintro r h8 ⟨idr2, ida, rfl, o1, o2, o3, o4, gra, era, eaa⟩
      have hc8 := gra.hc hc7
      have n8 := gra.nx
      have ult : ∀ id off n sz, u = .sl id off n sz → id.nat < h7.nx.nat := qq.sk.lt hc7
      simp (disch := omega) only [bz]
      generalize hfr : T.set (K.ofNat 29) _ _ = fr
      have g1 : fr.get (K.ofNat 1) = some (.p idr 0) := by rw [← hfr]; simp only [getK_set, Nat.reduceEqDiff, ↓reduceIte, g1]
      have g2 : fr.get (K.ofNat 2) = some (.p idf 0) := by rw [← hfr]; simp only [getK_set, Nat.reduceEqDiff, ↓reduceIte, g2]
      have g3 : fr.get (K.ofNat 3) = some (.p h.nx 0) := by rw [← hfr]; simp only [getK_set, Nat.reduceEqDiff, ↓reduceIte, g3]
      have g4 : fr.get (K.ofNat 4) = some (.p h2.nx 0) := by rw [← hfr]; simp only [getK_set, Nat.reduceEqDiff, ↓reduceIte, g4]
      have g5 : fr.get (K.ofNat 5) = some (.p h4.nx 0) := by rw [← hfr]; simp only [getK_set, Nat.reduceEqDiff, ↓reduceIte, g5]
      have g6 : fr.get (K.ofNat 6) = some (.p idi 0) := by rw [← hfr]; simp only [getK_set, Nat.reduceEqDiff, ↓reduceIte, g6]
      have g29 : fr.get (K.ofNat 29) = some (.fn (K.ofNat 102) [.p idr2 0, .p ida 0]) := by rw [← hfr]; simp only [getK_set, ↓reduceIte]
      clear hfr
      refine W_itr (by simp (disch := omega) only [ev_t, getV_some, g29]) (forced_yields (idr := idr2) (ida := ida) hL hxl.1 hxl.2 h102) (fun id => id = h1.nx ∨ id = h4.nx ∨ ∃ off n sz, u = .sl id off n sz)
        (fun j hh => ∃ M' u', Dm L s M' i ∧ Bf L s M' ∧ (∃ X, M' = M ++ X) ∧ (∀ p ∈ (fcY L x.1 x.2).take j, p ∈ keys M') ∧ MapA hh h1.nx 76 M' ∧ QQ (swN s) h3.nx.nat h4.nx M' u' hh ∧ Frm u h8.nx.nat u')
        (fun e hh => e = .exit 0 ∧ ∃ M', (∃ N, DmN L M' N ∧ N[0]? = some (s, 0) ∧ ∀ (j : Nat) (d : Nat), N[j]? = some (swN s, d) → IsD L s (swN s) d) ∧ Bf L s M' ∧ swN s ∈ keys M' ∧ MapA hh h1.nx 76 M') hc8 rfl ?_ ?_ ?_ ?_ ?_ ?_ ?_ ?_
      · rintro id (rfl | rfl | ⟨off, n, sz, e⟩)
        · omega
        · omega
        · have := ult _ _ _ _ e; omega
      · intro hh ks
        refine ⟨(ks.old idr2 (by omega) ?_).trans era, (ks.old ida (by omega) ?_).trans eaa⟩ <;> rintro (e | e | ⟨off, n, sz, e⟩)
        · have := congrArg K.nat e; omega
        · have := congrArg K.nat e; omega
        · have := ult _ _ _ _ e; omega
        · have := congrArg K.nat e; omega
        · have := congrArg K.nat e; omega
        · have := ult _ _ _ _ e; omega
      · rintro j hh1 hh2 ⟨M', u', b0, b1, b2, b3, b4, b5, b6⟩ hcx hnx ho
        refine ⟨M', u', b0, b1, b2, b3, (ho _ (by omega) (kNe (by omega))).trans b4, ⟨b5.no, (ho _ (by omega) (kNe (by omega))).trans b5.cq, b5.sk.same fun id off n sz e => ho _ (b5.sk.lt hcx _ _ _ _ e) fun e2 => ?_, b5.own, b5.nq⟩, b6⟩
        have e2 := congrArg K.nat e2
        rcases b6 _ _ _ _ e with ⟨_, _, _, e3⟩ | e3
        · have := ult _ _ _ _ e3; omega
        · omega
      · rintro e hh1 hh2 ⟨rfl, M', b0, b1, b2, b4⟩ hcx hnx ho
        exact ⟨rfl, M', b0, b1, b2, (ho _ (by omega) (kNe (by omega))).trans b4⟩
      · intro hh hg
        exact ⟨M, u, hdm, q.bf, ⟨[], by simp⟩, by simp, (hg.old _ (by omega)).trans ((gra.old _ (by omega)).trans q.mp), ⟨qq.no, (hg.old _ (by omega)).trans ((gra.old _ (by omega)).trans qq.cq), (qq.sk.grow hc7 gra).grow hc8 hg, qq.own, qq.nq⟩, fun id off n sz e => .inl ⟨_, _, _, e⟩⟩
      · rintro j ⟨c, d⟩ h9 hj hk hn ⟨M', u', b0, b1, ⟨X, b2⟩, b3, b4, b5, b6⟩
        have l7 := fcY_lt hxl.1 hxl.2 (List.mem_of_getElem? hj)
        have hpl : in7 (c, d) := ⟨l7.1, l7.2.1⟩
        have hpm : (c, d) ∈ fcY L x.1 x.2 := List.mem_of_getElem? hj
        obtain ⟨hst9, gB, c7, nb⟩ := arr_var (h := h9) (x := c) (y := d)
        have ns : ∀ id : K, id.nat ≠ h1.nx.nat → id.nat ≠ h4.nx.nat → NotIn id u → ¬ (id = h1.nx ∨ id = h4.nx ∨ ∃ off n sz, u = .sl id off n sz) := by
          rintro id q1 q2 q3 (e | e | ⟨off, n, sz, e⟩)
          · exact q1 (congrArg K.nat e)
          · exact q2 (congrArg K.nat e)
          · exact q3 _ _ _ e
        have olo : ∀ id : K, id.nat < h3.nx.nat → NotIn id u := fun id hid => qq.own.notIn hid
        have old7 : ∀ id : K, id.nat < h7.nx.nat → id.nat ≠ h1.nx.nat → id.nat ≠ h4.nx.nat → NotIn id u → h9.get id = h7.get id := fun id q0 q1 q2 q3 => (hk.old id (by omega) (ns id q1 q2 q3)).trans (gra.old id q0)
        have e3_9 := (old7 h.nx (by omega) (by omega) (by omega) (olo _ (by omega))).trans q.c3
        have em_9 := (old7 h2.nx (by omega) (by omega) (by omega) (olo _ (by omega))).trans q.cm
        have ei_9 := (old7 idi (by omega) (by omega) (by omega) hni).trans ei
        unfold f88_a0
        simp (disch := omega) only [f88_r6, Nat.reduceEqDiff, ↓reduceIte, hst9, itA_n, bz]
        generalize (h9.new (.cells 2 [.i .i64 0, .i .i64 0])).put h9.nx (.cells 2 [.i .i64 (c : Int), .i .i64 (d : Int)]) = hX at *
        refine ⟨gB, fun hY nY hcY oY _ => ?_⟩
        have nY' : hY.nx.nat = hX.nx.nat := congrArg K.nat nY
        have gBn := gB.nx
        have oo : ∀ id : K, id.nat < h9.nx.nat → id.nat ≠ h8.nx.nat → hY.get id = h9.get id := fun id q0 q1 => (oY id (fun e => q1 (congrArg K.nat e))).trans (gB.old id q0)
        have e3 := (oo h.nx (by omega) (by omega)).trans e3_9
        have em := (oo h2.nx (by omega) (by omega)).trans em_9
        have eI := (oo idi (by omega) (by omega)).trans ei_9
        have mY : MapA hY h1.nx 76 M' := (oo h1.nx (by omega) (by omega)).trans b4
        have eq := (oo h4.nx (by omega) (by omega)).trans b5.cq
        have fb : ∀ id off n sz, u' = .sl id off n sz → id.nat < h9.nx.nat ∧ id.nat ≠ h8.nx.nat := fun id off n sz e => ⟨b5.sk.lt hk.hc _ _ _ _ e, by
          rcases b6 _ _ _ _ e with ⟨_, _, _, e3⟩ | e3
          · have := ult _ _ _ _ e3; omega
          · omega⟩
        have sY : Sk 2 qE hY u' (keyI M') := b5.sk.same fun id off n sz e => oo id (fb _ _ _ _ e).1 (fb _ _ _ _ e).2
        have c7' := (oY h9.nx (fun e => by have := congrArg K.nat e; omega)).trans c7
        have l3 := ldn2 e3
        have lp := ldn2 c7'
        have lm := load_p (off := 0) em (show nth [V.m h1.nx] 0 = some _ from rfl)
        have lq := load_p (off := 0) eq (show nth [u'] 0 = some u' from rfl)
        have li := load_p (off := 0) eI (show nth [V.i .i64 (i : Int)] 0 = some _ from rfl)
        have havp : V.agg [.i .i64 (c : Int), .i .i64 (d : Int)] = aV (c, d) := rfl
        have hlook := mY.look b1.lt hpl
        have hM49 := b1.len
        unfold f88_b0
        by_cases hin2 : (c, d) ∈ keys M'
        · obtain ⟨⟨p1, v⟩, he, e2⟩ := List.mem_map.1 hin2
          replace e2 : p1 = (c, d) := e2
          subst e2
          obtain ⟨jj, hjj, ejj⟩ := List.getElem_of_mem he
          rw [lookA_at b1.nd (by rw [List.getElem?_eq_getElem hjj, ejj])] at hlook
          have hok : okA (some v) = .tup [aV v, .b true] := rfl
          obtain ⟨hst2, gC, _, _⟩ := arr_var (h := hY) (x := v.1) (y := v.2)
          replace hst2 : storeV (hY.new (.cells 2 [.i .i64 0, .i .i64 0])) 2 (.p hY.nx 0) (aV v) = _ := hst2
          simp (disch := omega) only [f88_r7, f88_r8, Nat.reduceEqDiff, ↓reduceIte, g4, lm, lp, havp, hlook, hok, hst2, itC_n, bz]
          refine ⟨⟨M', u', b0, b1, ⟨X, b2⟩, fun p hp => ?_, (gC.old h1.nx (by omega)).trans mY, ⟨b5.no, (gC.old h4.nx (by omega)).trans eq, sY.grow hcY gC, b5.own, b5.nq⟩, b6⟩, Kr.of hcY gC (by omega)⟩
          rw [List.take_add_one, hj] at hp
          rcases List.mem_append.1 hp with hp | hp
          · exact b3 p hp
          · simp at hp; rw [hp]; exact hin2
        · rw [lookA_none hin2] at hlook
          have hok : okA none = .tup [.agg [.i .i64 0, .i .i64 0], .b false] := rfl
          obtain ⟨hst2, gC, _, _⟩ := arr_var (h := hY) (x := 0) (y := 0)
          replace hst2 : storeV (hY.new (.cells 2 [.i .i64 0, .i .i64 0])) 2 (.p hY.nx 0) (.agg [.i .i64 0, .i .i64 0]) = _ := hst2
          simp (disch := omega) only [f88_r7, f88_r8, Nat.reduceEqDiff, ↓reduceIte, Bool.false_eq_true, g4, lm, lp, havp, hlook, hok, hst2, bz]
          have hcZ := gC.hc hcY
          have gCn := gC.nx
          generalize (hY.new (.cells 2 [.i .i64 0, .i .i64 0])).put hY.nx (.cells 2 [.i .i64 ((0 : Nat) : Int), .i .i64 ((0 : Nat) : Int)]) = hZ at *
          have lmZ := load_p (off := 0) ((gC.old h2.nx (by omega)).trans em) (show nth [V.m h1.nx] 0 = some _ from rfl)
          have lpZ := ldn2 ((gC.old h9.nx (by omega)).trans c7')
          have lqZ := load_p (off := 0) ((gC.old h4.nx (by omega)).trans eq) (show nth [u'] 0 = some u' from rfl)
          have liZ := load_p (off := 0) ((gC.old idi (by omega)).trans eI) (show nth [V.i .i64 (i : Int)] 0 = some _ from rfl)
          have sZ := sY.grow hcY gC
          have mZ : MapA hZ h1.nx 76 M' := (gC.old h1.nx (by omega)).trans mY
          have hxM : M'[i]? = some (x, w) := by rw [b2, List.getElem?_append_left hlt]; exact hx
          have hlM : i < (keyI M').length := by rw [keyI_len, b2, List.length_append]; omega
          obtain ⟨pq2, pa2, pb2⟩ := sZ.at2 (i := i) hlM
          have eK2 : (keyI M')[i] = toI x := by
            have := keyI_at hxM
            rw [List.getElem?_eq_getElem hlM] at this
            exact Option.some.inj this
          have pb2 : loadV hZ pq2 (many? 2) = .ok (aV x) hZ := by rw [eK2] at pb2; exact pb2
          have hub2 := sZ.beq
          have mput := mZ.put (v := x) b1.lt hpl hin2
          have b1' := b1.add hxM hpm hin2
          have b0' := b0.add hxM hpm
          have bm0 := b0.met hxM hpm hin2
          simp (disch := omega) only [f88_r9, x_mupd, Nat.reduceEqDiff, ↓reduceIte, g4, g5, g6, lmZ, lpZ, havp, lqZ, liZ, pa2, pb2, mput, bz]
          have gU : Grow 0 hZ (hZ.put h1.nx (.map 76 (entA (M' ++ [((c, d), x)])))) := Grow.put (Nat.zero_le _) (by omega) _
          have mU : MapA (hZ.put h1.nx (.map 76 (entA (M' ++ [((c, d), x)])))) h1.nx 76 (M' ++ [((c, d), x)]) := get_put_same
          have oU : ∀ id : K, id.nat ≠ h1.nx.nat → (hZ.put h1.nx (.map 76 (entA (M' ++ [((c, d), x)])))).get id = hZ.get id := fun id hid => get_put_other fun e => hid (congrArg K.nat e)
          have nU : (hZ.put h1.nx (.map 76 (entA (M' ++ [((c, d), x)])))).nx.nat = hZ.nx.nat := rfl
          have hcU := gU.hc hcZ
          clear gU
          generalize hZ.put h1.nx (.map 76 (entA (M' ++ [((c, d), x)]))) = hU at *
          have nu1 : NotIn h1.nx u' := b6.notIn (olo _ (by omega)) (by omega)
          have sU : Sk 2 qE hU u' (keyI M') := sZ.same fun id off n sz e => oU id fun e2 => by
            rw [K.nat_inj e2] at e; exact nu1 _ _ _ e
          have cU7 := (oU h9.nx (by omega)).trans ((gC.old h9.nx (by omega)).trans c7')
          have cUq := (oU h4.nx (by omega)).trans ((gC.old h4.nx (by omega)).trans eq)
          have cU3 := (oU h.nx (by omega)).trans ((gC.old h.nx (by omega)).trans e3)
          have lpU := ldn2 cU7
          have lqU := load_p (off := 0) cUq (show nth [u'] 0 = some u' from rfl)
          have cp : cellsN 2 (aV (c, d)) = some [.i .i64 (c : Int), .i .i64 (d : Int)] := rfl
          have sp : setMany [V.i .i64 0, V.i .i64 0] 0 [V.i .i64 (c : Int), V.i .i64 (d : Int)] = [V.i .i64 (c : Int), V.i .i64 (d : Int)] := rfl
          obtain ⟨u2, hV, a1, s1, o1, gr8, k8⟩ := Sk.push (b := h3.nx.nat) qE_len (by omega) (x := toI (c, d)) sU b5.own (by omega) hcU (by rw [keyI_len]; omega)
          have a1' : appV 2 (hU.new (.cells (1 * 2) [.i .i64 (c : Int), .i .i64 (d : Int)])) u' (.sl hU.nx 0 1 2) = .ok u2 hV := a1
          have n9lt : NotIn h9.nx u' := fun off n sz e => by have := (fb _ _ _ _ e).1; omega
          have gVn := gr8.nx
          have hcV := gr8.hc hcU
          have s8 : storeV hV 1 (.p h4.nx 0) u2 = .ok undefV (hV.put h4.nx (.cells 1 [u2])) := st1 ((k8 h4.nx (by omega) b5.nq).1.trans cUq) s1.one
          simp (disch := omega) only [f88_r10, Nat.reduceEqDiff, ↓reduceIte, g5, lqU, lpU, havp, fill_c, cp, sp, a1', s8, bz]
          have n4o : ∀ id : K, id.nat ≠ h4.nx.nat → (hV.put h4.nx (.cells 1 [u2])).get id = hV.get id := fun id hid => get_put_other fun e => hid (congrArg K.nat e)
          have cW7 := (n4o h9.nx (by omega)).trans ((k8 h9.nx (by omega) n9lt).1.trans cU7)
          have cW3 := (n4o h.nx (by omega)).trans ((k8 h.nx (by omega) (b6.notIn (olo _ (by omega)) (by omega))).1.trans cU3)
          have cWm : MapA (hV.put h4.nx (.cells 1 [u2])) h1.nx 76 (M' ++ [((c, d), x)]) := (n4o h1.nx (by omega)).trans ((k8 h1.nx (by omega) nu1).1.trans mU)
          have sW := s1.put (k8 h4.nx (by omega) b5.nq).2 (.cells 1 [u2])
          have cWq : (hV.put h4.nx (.cells 1 [u2])).get h4.nx = .cells 1 [u2] := get_put_same
          have nW : (hV.put h4.nx (.cells 1 [u2])).nx.nat = hV.nx.nat := rfl
          have hcW : HC (hV.put h4.nx (.cells 1 [u2])) := (Grow.put (b := 0) (Nat.zero_le _) (by omega) _).hc hcV
          generalize hV.put h4.nx (.cells 1 [u2]) = hW at *
          have kW : Kr (fun id => id = h1.nx ∨ id = h4.nx ∨ ∃ off n sz, u = .sl id off n sz) h8.nx hY hW := by
            refine ⟨by omega, fun id hid hS => ?_, hcW⟩
            rw [not_or, not_or] at hS
            rw [n4o id (fun e => hS.2.1 (K.nat_inj e)), (k8 id (by omega) (b6.notIn (fun off n sz e => hS.2.2 ⟨_, _, _, e⟩) hid)).1, oU id (fun e => hS.1 (K.nat_inj e)), gC.old id (by omega)]
          have lpW := ldn2 cW7
          have l3W := ldn2 cW3
          have k77 : ∀ h P, CallP fs (.fn (K.ofNat 77) []) [aV s] h P = P (aV (swN s)) h := fun _ _ => k.n77 (toI s) _ _
          have hkq := keyEq_aV hpl (show (swN s).1 < 7 ∧ (swN s).2 < 7 from ⟨hs.2, hs.1⟩)
          have bcd : beqV (aV (c, d)) (aV (c, d)) = true := beq_aV
          have hkeys : keys (M' ++ [((c, d), x)]) = keys M' ++ [(c, d)] := by unfold keys; simp
          by_cases hq : (c, d) = swN s
          · rw [decide_eq_true hq] at hkq
            simp (disch := omega) only [f88_r11, Nat.reduceEqDiff, ↓reduceIte, Bool.not_true, g3, lpW, l3W, hav, havp, k77, hkq, bcd, itC_e, bz]
            exact ⟨⟨_, by rw [← hq]; exact bm0, b1', by rw [hkeys, ← hq]; simp, cWm⟩, kW⟩
          · rw [decide_eq_false hq] at hkq
            simp (disch := omega) only [f88_r11, Nat.reduceEqDiff, ↓reduceIte, Bool.not_false, g3, lpW, l3W, hav, havp, k77, hkq, bcd, itC_n, bz]
            refine ⟨⟨M' ++ [((c, d), x)], u2, b0', b1', ⟨X ++ [((c, d), x)], by rw [b2, List.append_assoc]⟩, fun p hp => ?_, cWm, ⟨?_, cWq, ?_, o1, (k8 h4.nx (by omega) b5.nq).2⟩, ?_⟩, kW⟩
            · rw [List.take_add_one, hj] at hp
              rw [hkeys]
              rcases List.mem_append.1 hp with hp | hp
              · exact List.mem_append_left _ (b3 p hp)
              · simp at hp; rw [hp]; simp
            · rw [hkeys, List.mem_append, List.mem_singleton]
              exact fun e => e.elim b5.no fun e => hq e.symm
            · have : keyI (M' ++ [((c, d), x)]) = keyI M' ++ [toI (c, d)] := by unfold keyI; rw [hkeys, List.map_append]; rfl
              rw [this]; exact sW
            · intro id off n sz e
              by_cases hid : id.nat < hU.nx.nat
              · by_cases hnu : NotIn id u'
                · exact absurd e ((k8 id hid hnu).2 off n sz)
                · have : ∃ off n sz, u' = .sl id off n sz := Classical.byContradiction fun h => hnu fun off n sz e => h ⟨off, n, sz, e⟩
                  obtain ⟨off', n', sz', e'⟩ := this
                  exact b6 _ _ _ _ e'
              · exact .inr (by omega)
      · rintro h9 ⟨M', u', b0, b1, ⟨X, b2⟩, b3, b4, b5, b6⟩ hk hn
        rw [List.take_length] at b3
        have ns : ∀ id : K, id.nat ≠ h1.nx.nat → id.nat ≠ h4.nx.nat → NotIn id u → ¬ (id = h1.nx ∨ id = h4.nx ∨ ∃ off n sz, u = .sl id off n sz) := by
          rintro id q1 q2 q3 (e | e | ⟨off, n, sz, e⟩)
          · exact q1 (congrArg K.nat e)
          · exact q2 (congrArg K.nat e)
          · exact q3 _ _ _ e
        have olo : ∀ id : K, id.nat < h3.nx.nat → NotIn id u := fun id hid => qq.own.notIn hid
        have old7 : ∀ id : K, id.nat < h7.nx.nat → id.nat ≠ h1.nx.nat → id.nat ≠ h4.nx.nat → NotIn id u → h9.get id = h7.get id := fun id q0 q1 q2 q3 => (hk.old id (by omega) (ns id q1 q2 q3)).trans (gra.old id q0)
        have e3_9 := (old7 h.nx (by omega) (by omega) (by omega) (olo _ (by omega))).trans q.c3
        have em_9 := (old7 h2.nx (by omega) (by omega) (by omega) (olo _ (by omega))).trans q.cm
        have ei_9 := (old7 idi (by omega) (by omega) (by omega) hni).trans ei
        have li := load_p (off := 0) ei_9 (show nth [V.i .i64 (i : Int)] 0 = some _ from rfl)
        have n10 := nx_new h9 (.cells 1 [.i .i64 0])
        have s10 : storeV (h9.new (.cells 1 [.i .i64 0])) 1 (.p h9.nx 0) (.i .i64 (i : Int)) = .ok undefV ((h9.new (.cells 1 [.i .i64 0])).put h9.nx (.cells 1 [.i .i64 (i : Int)])) := st1 get_new_same rfl
        have l10 : loadV ((h9.new (.cells 1 [.i .i64 0])).put h9.nx (.cells 1 [.i .i64 (i : Int)])) (.p h9.nx 0) one? = .ok (.i .i64 (i : Int)) _ := load_p get_put_same rfl
        have s11 : storeV ((h9.new (.cells 1 [.i .i64 0])).put h9.nx (.cells 1 [.i .i64 (i : Int)])) 1 (.p h9.nx 0) (.i .i64 ((i : Int) + 1)) = .ok undefV (((h9.new (.cells 1 [.i .i64 0])).put h9.nx (.cells 1 [.i .i64 (i : Int)])).put h9.nx (.cells 1 [.i .i64 ((i : Int) + 1)])) := st1 get_put_same rfl
        have g11 : Grow h9.nx.nat h9 (((h9.new (.cells 1 [.i .i64 0])).put h9.nx (.cells 1 [.i .i64 (i : Int)])).put h9.nx (.cells 1 [.i .i64 ((i : Int) + 1)])) := (Grow.new (Nat.le_refl _) _).trans ((Grow.put (Nat.le_refl _) (by omega) _).trans (Grow.put (Nat.le_refl _) (by rw [nx_put]; omega) _))
        have hM49 := q.bf.len
        have hM49' := b1.len
        have hlen' : M'.length = M.length + X.length := by rw [b2, List.length_append]
        simp (disch := omega) only [f88_r12, f88_r13, f88_r14, Nat.reduceEqDiff, ↓reduceIte, g6, li, s10, l10, s11, bz]
        have e11 : (((h9.new (.cells 1 [.i .i64 0])).put h9.nx (.cells 1 [.i .i64 (i : Int)])).put h9.nx (.cells 1 [.i .i64 ((i : Int) + 1)])).get h9.nx = .cells 1 [.i .i64 ((i : Int) + 1)] := get_put_same
        have n11 : (((h9.new (.cells 1 [.i .i64 0])).put h9.nx (.cells 1 [.i .i64 (i : Int)])).put h9.nx (.cells 1 [.i .i64 ((i : Int) + 1)])).nx.nat = h9.nx.nat + 1 := n10
        generalize ((h9.new (.cells 1 [.i .i64 0])).put h9.nx (.cells 1 [.i .i64 (i : Int)])).put h9.nx (.cells 1 [.i .i64 ((i : Int) + 1)]) = h10 at *
        have gK : Grow h.nx.nat h h10 := by
          refine q.gr.trans ((gra.low qgn).trans ((hk.toGrow (b := h.nx.nat) ?_ (by omega)).trans (g11.low (by omega))))
          rintro id (rfl | rfl | ⟨off, n, sz, e⟩)
          · omega
          · omega
          · have := qq.own _ _ _ _ e; omega
        have hxM : M'[i]? = some (x, w) := by rw [b2, List.getElem?_append_left hlt]; exact hx
        refine ⟨(i + 1, M'), ?_, ?_, b0.next hxM b3, ⟨b1, gK, (g11.old _ (by omega)).trans e3_9, (g11.old _ (by omega)).trans em_9, (g11.old _ (by omega)).trans b4⟩, g11.hc hk.hc, ?_, h9.nx, u', ⟨b5.no, (g11.old _ (by omega)).trans b5.cq, b5.sk.grow hk.hc g11, b5.own, b5.nq⟩, fun off n sz e => by have := b5.sk.lt hk.hc _ _ _ _ e; omega, by omega, by omega, e11, by simp (disch := omega) only [getK_set, Nat.reduceEqDiff, ↓reduceIte, g1, g2, g3, g4, g5, and_self]⟩
        · show 50 - (i + 1) < 50 - i
          omega
        · show i + 1 ≤ M'.length
          omega
        · intro j e hj he p hp
          have hj : j < i + 1 := hj
          have he0 : M[j]? = some e := by rw [b2, List.getElem?_append_left (by omega)] at he; exact he
          by_cases hji : j = i
          · subst hji
            rw [hx] at he0
            cases he0
            exact b3 p hp
          · have := hclo j e (show j < i by omega) he0 p hp
            show p ∈ keys M'
            rw [b2]; unfold keys at this ⊢
            rw [List.map_append]; exact List.mem_append_left _ this
      · rintro e h9 _ ⟨rfl, M', b0, b1, b2, b4⟩ hk hn
        have ns : ∀ id : K, id.nat ≠ h1.nx.nat → id.nat ≠ h4.nx.nat → NotIn id u → ¬ (id = h1.nx ∨ id = h4.nx ∨ ∃ off n sz, u = .sl id off n sz) := by
          rintro id q1 q2 q3 (e | e | ⟨off, n, sz, e⟩)
          · exact q1 (congrArg K.nat e)
          · exact q2 (congrArg K.nat e)
          · exact q3 _ _ _ e
        have olo : ∀ id : K, id.nat < h3.nx.nat → NotIn id u := fun id hid => qq.own.notIn hid
        have old7 : ∀ id : K, id.nat < h7.nx.nat → id.nat ≠ h1.nx.nat → id.nat ≠ h4.nx.nat → NotIn id u → h9.get id = h7.get id := fun id q0 q1 q2 q3 => (hk.old id (by omega) (ns id q1 q2 q3)).trans (gra.old id q0)
        have gK : Grow h.nx.nat h h9 := by
          refine q.gr.trans ((gra.low qgn).trans (hk.toGrow (b := h.nx.nat) ?_ (by omega)))
          rintro id (rfl | rfl | ⟨off, n, sz, e⟩)
          · omega
          · omega
          · have := qq.own _ _ _ _ e; omega
        simp (disch := omega) only [Nat.reduceEqDiff, ↓reduceIte, bz]
        refine ⟨M', ⟨b1, gK, (old7 h.nx (by omega) (by omega) (by omega) (olo _ (by omega))).trans q.c3, (old7 h2.nx (by omega) (by omega) (by omega) (olo _ (by omega))).trans q.cm, b4⟩, hk.hc, ⟨fun _ => ?_, fun _ => b2⟩, b0, by simp (disch := omega) only [g1, g2, g3, g4, and_self]⟩
        obtain ⟨e, he, h2⟩ := List.mem_map.1 b2
        have := b1.rch e he
        rw [h2] at this
        exact this
    · have d0 : decide ((i : Int) < (M.length : Int)) = false := decide_eq_false (by omega)
      have hji : ∀ (j : Nat) e, M[j]? = some e → j < i := fun j e he => by
        have hj : j < M.length := by
          by_cases hj : j < M.length
          · exact hj
          · rw [List.getElem?_eq_none (by omega)] at he; cases he
        omega
      simp (disch := omega) only [f88_r4, Nat.reduceEqDiff, ↓reduceIte, Bool.false_eq_true, g5, g6, li, lq, hlen, d0, bz]
      refine ⟨M, q, hc7, ⟨fun h => ?_, fun h => q.bf.all (fun j e he => hclo j e (hji j e he) he) h⟩, ?_, by simp (disch := omega) only [getK_set, Nat.reduceEqDiff, ↓reduceIte, g1, g2, g3, g4, and_self]⟩
      · obtain ⟨e, he, h2⟩ := List.mem_map.1 h
        have := q.bf.rch e he
        rw [h2] at this
        exact this
      · obtain ⟨N, k1, k2⟩ := hdm
        exact ⟨N, k1, k2.beg, fun j d hj => absurd (by rw [← k1.ks]; exact List.mem_map.2 ⟨_, List.mem_of_getElem? hj, rfl⟩) qq.no⟩
end
end Go.Ev
namespace Go.Ev
open Go Go.RowKit
section
variable {fs : T EF} {h h' : H}
def ClO (G : List Bool) (h : H) (u : V) (f : Bool) : Prop := (u = .sn ∧ f = false ∧ clD G = 0) ∨ ∃ (s : Nat × Nat) (C : List (Nat × Nat)), f = true ∧ rat G s.1 s.2 = true ∧ WayC G s (swN s) (clD G - 1) C ∧ C.length = clD G ∧ Sk 2 qE h u (C.map toI) ∧ C.length ≤ 60
theorem f61c_ret {L : List Bool} (k : CallsCl fs) (hS : SymR L) (hc : HC h) : Ret fs f61 [rV L] h fun r h' => ∃ u f, r = .tup [u, .b f] ∧ ClO L h' u f ∧ Grow h.nx.nat h h' := by
  apply ret_of rfl
  show W fs none f61_c _ _ _
  unfold f61_c
  have hL := hS.len
  have c1 := rC_cells hL
  have n1 := nx_new h (.cells 49 (L.map V.b))
  have gr1 : Grow h.nx.nat h (h.new (.cells 49 (L.map V.b))) := Grow.new (Nat.le_refl _) _
  have e1 : (h.new (.cells 49 (L.map V.b))).get h.nx = rC L := get_new_same
  simp (disch := omega) only [f61_r0, ↓reduceIte, c1, bz]
  generalize h.new (.cells 49 (L.map V.b)) = h1 at *
  have n2 := nx_new h1 (.cells 1 [.sn])
  have gr2 : Grow h1.nx.nat h1 (h1.new (.cells 1 [.sn])) := Grow.new (Nat.le_refl _) _
  have e2 : (h1.new (.cells 1 [.sn])).get h1.nx = .cells 1 [.sn] := get_new_same
  simp (disch := omega) only [f61_r1, bz]
  generalize h1.new (.cells 1 [.sn]) = h2 at *
  have n3 := nx_new h2 (.cells 1 [.fnil])
  have s3 : storeV (h2.new (.cells 1 [.fnil])) 1 (.p h2.nx 0) (.fn (K.ofNat 88) [.p h.nx 0, .p h1.nx 0]) = .ok undefV ((h2.new (.cells 1 [.fnil])).put h2.nx (.cells 1 [.fn (K.ofNat 88) [.p h.nx 0, .p h1.nx 0]])) := st1 get_new_same cells1_fn
  have g3 : Grow h2.nx.nat h2 ((h2.new (.cells 1 [.fnil])).put h2.nx (.cells 1 [.fn (K.ofNat 88) [.p h.nx 0, .p h1.nx 0]])) := (Grow.new (Nat.le_refl _) _).trans (Grow.put (Nat.le_refl _) (by omega) _)
  have e3 : ((h2.new (.cells 1 [.fnil])).put h2.nx (.cells 1 [.fn (K.ofNat 88) [.p h.nx 0, .p h1.nx 0]])).get h2.nx = .cells 1 [.fn (K.ofNat 88) [.p h.nx 0, .p h1.nx 0]] := get_put_same
  have n3' : ((h2.new (.cells 1 [.fnil])).put h2.nx (.cells 1 [.fn (K.ofNat 88) [.p h.nx 0, .p h1.nx 0]])).nx.nat = h2.nx.nat + 1 := n3
  simp (disch := omega) only [f61_r2, x_mkfn, Nat.reduceEqDiff, ↓reduceIte, s3, bz]
  generalize (h2.new (.cells 1 [.fnil])).put h2.nx (.cells 1 [.fn (K.ofNat 88) [.p h.nx 0, .p h1.nx 0]]) = h3 at *
  have hc3 := g3.hc (gr2.hc (gr1.hc hc))
  have a1 := (g3.old h.nx (by omega)).trans ((gr2.old h.nx (by omega)).trans e1)
  have a2 := (g3.old h1.nx (by omega)).trans e2
  have l1 := rC_ldn hL a1
  simp (disch := omega) only [f61_r3, Nat.reduceEqDiff, ↓reduceIte, l1, bz]
  refine (callP_0 (ef := f84) k.c84 rfl (f84_ret hL)).mono ?_
  rintro r h4 ⟨rfl, rfl⟩
  have n4 := nx_new h3 (rC L)
  have gr4 : Grow h3.nx.nat h3 (h3.new (rC L)) := Grow.new (Nat.le_refl _) _
  have e4 : (h3.new (rC L)).get h3.nx = rC L := get_new_same
  have hc4 := gr4.hc hc3
  have b1 := (gr4.old h.nx (by omega)).trans a1
  have b2 := (gr4.old h1.nx (by omega)).trans a2
  have b3 := (gr4.old h2.nx (by omega)).trans e3
  have gA : Grow h.nx.nat h (h3.new (rC L)) := gr1.trans ((gr2.low (by omega)).trans ((g3.low (by omega)).trans (gr4.low (by omega))))
  simp (disch := omega) only [bz]
  generalize h3.new (rC L) = h4 at *
  generalize hfr : T.set (K.ofNat 9) _ _ = fr
  have g4 : fr.get (K.ofNat 4) = some (.p h1.nx 0) := by rw [← hfr]; simp only [getK_set, Nat.reduceEqDiff, ↓reduceIte]
  have g5 : fr.get (K.ofNat 5) = some (.p h2.nx 0) := by rw [← hfr]; simp only [getK_set, Nat.reduceEqDiff, ↓reduceIte]
  have g9 : fr.get (K.ofNat 9) = some (.fn (K.ofNat 101) [.p h3.nx 0]) := by rw [← hfr]; simp only [getK_set, ↓reduceIte]
  clear hfr
  refine W_itr (by simp (disch := omega) only [ev_t, getV_some, g9]) (all_yieldsR hL k.c101) (fun id => id = h1.nx) (fun i h5 => ∃ u, h5.get h1.nx = .cells 1 [u] ∧ Fc L h5 h1.nx h4.nx.nat u (clT L i)) (fun _ _ => False) hc4 rfl (by rintro id rfl; omega)
    (fun h5 ks => (ks.old _ (by omega) (fun e => by have := congrArg K.nat e; omega)).trans e4) ?_ (fun _ _ _ h _ _ _ => h.elim) ?_ ?_ ?_ (fun _ _ _ h => h.elim)
  · rintro i h5 h6 ⟨u, q1, q2⟩ hc5 hn ho
    refine ⟨u, by rw [ho _ (by omega) (kNe (by omega))]; exact q1, ?_⟩
    rcases q2 with q2 | ⟨s0, C0, id0, off0, n0, w1, w2, w3, w4, w5, w6, w7, w8⟩
    · exact .inl q2
    · exact .inr ⟨s0, C0, id0, off0, n0, w1, w2, w3, w4, w5.same fun id off n sz e => ho _ (w5.lt hc5 _ _ _ _ e) (by rw [w1] at e; cases e; exact fun e => w7 (congrArg K.nat e)), w6, w7, w8⟩
  · exact fun h5 hg => ⟨.sn, (hg.old _ (by omega)).trans b2, .inl ⟨rfl, rfl⟩⟩
  · rintro i ⟨x, y⟩ h5 hx hk hn ⟨u, q1, q2⟩
    obtain ⟨hst, gB, c7, n5⟩ := arr_var (h := h5) (x := x) (y := y)
    have hxm := List.mem_of_getElem? hx
    obtain ⟨m1, m2, m3⟩ := arw_lt hxm
    have ne : ∀ {id : K}, id.nat ≠ h1.nx.nat → ¬ id = h1.nx := fun h e => h (congrArg K.nat e)
    have d1 := (gB.old h.nx (by omega)).trans ((hk.old h.nx (by omega) (ne (by omega))).trans b1)
    have d2 := (gB.old h1.nx (by omega)).trans q1
    have d3 := (gB.old h2.nx (by omega)).trans ((hk.old h2.nx (by omega) (ne (by omega))).trans b3)
    unfold f61_a0
    simp (disch := omega) only [f61_r4, Nat.reduceEqDiff, ↓reduceIte, hst, itA_n, bz]
    generalize (h5.new (.cells 2 [.i .i64 0, .i .i64 0])).put h5.nx (.cells 2 [.i .i64 (x : Int), .i .i64 (y : Int)]) = h6 at *
    refine ⟨gB, fun h7 n7 hc7 o7 lp7 => ?_⟩
    have n7' : h7.nx.nat = h6.nx.nat := congrArg K.nat n7
    have z1 := (o7 h.nx (kNe (by omega))).trans d1
    have z2 := (o7 h1.nx (kNe (by omega))).trans d2
    have q2' : Fc L h7 h1.nx h4.nx.nat u (clT L i) := by
      rcases q2 with q2 | ⟨s0, C0, id0, off0, n0, w1, w2, w3, w4, w5, w6, w7, w8⟩
      · exact .inl q2
      · refine .inr ⟨s0, C0, id0, off0, n0, w1, w2, w3, w4, ?_, w6, w7, w8⟩
        have w5' := w5.grow hk.hc gB
        refine w5'.same fun id off n sz e => o7 _ ?_
        rw [w1] at e; cases e; exact fun e => w7 (congrArg K.nat e)
    have l3 := load_p (off := 0) ((o7 h2.nx (kNe (by omega))).trans d3) (show nth [V.fn (K.ofNat 88) [.p h.nx 0, .p h1.nx 0]] 0 = some _ from rfl)
    have l6 := ldn2 ((o7 _ (kNe hn).symm).trans c7)
    have hav : V.agg [.i .i64 (x : Int), .i .i64 (y : Int)] = aV (x, y) := rfl
    unfold f61_b0
    simp (disch := omega) only [f61_r5, Nat.reduceEqDiff, ↓reduceIte, g5, l3, l6, hav, bz]
    refine (callP_of (ef := f88) (args := [aV (x, y)]) (caps := [.p h.nx 0, .p h1.nx 0]) k.c88 rfl (f88c_ret (s := (x, y)) (b := h4.nx.nat) k.toNat1 k.c86 k.c102 k.c103 k.c89 hL ⟨m1, m2⟩ (fun e => by
      have e2 : x = y := congrArg Prod.fst e
      rw [e2] at m3
      exact hS.gr.irr y m3) z1 z2 (by omega) q2' m3 (kNe (by omega)) hc7)).mono ?_
    rintro r h8 ⟨rfl, u', r1, r2, r3⟩
    simp (disch := omega) only [itC_n, bz]
    refine ⟨⟨u', r1, ?_⟩, ⟨r3.nx, fun id hid hs => r3.old id (by omega) hs, r3.hc⟩⟩
    rw [clT_succ hx]
    exact r2
  · rintro h5 ⟨u, q1, q2⟩ hk hn
    replace q2 : Fc L h5 h1.nx h4.nx.nat u (clD L) := q2
    have l5 := load_p (off := 0) q1 (show nth [u] 0 = some u from rfl)
    have gE : Grow h.nx.nat h h5 := gA.trans (hk.toGrow (by rintro id rfl; omega) (by omega))
    rcases q2 with ⟨rfl, q2⟩ | ⟨s0, C0, id, off, n, rfl, w2, w3, w4, w5, w6, w7, w8⟩
    · simp (disch := omega) only [f61_r6, f61_rs, xg_isnil, isnil_sn, Option.some.injEq, exists_eq_left', Nat.reduceEqDiff, ↓reduceIte, Bool.not_true, beq_sn, g4, l5, stay_isnil, bz]
      exact ⟨.sn, false, rfl, .inl ⟨rfl, rfl, q2⟩, gE⟩
    · have bsl := w5.beq
      simp (disch := omega) only [f61_r6, f61_rs, xg_isnil, isnil_sl, Option.some.injEq, exists_eq_left', Nat.reduceEqDiff, ↓reduceIte, g4, l5, stay_isnil, bsl, bz]
      exact ⟨_, true, rfl, .inr ⟨s0, C0, rfl, w2, w3, w4, w5, w8⟩, gE⟩
theorem f24c_ret {n : Nat} {v : V} {g : Nat → Nat → Bool} (k : CallsCl fs) (hg : Gph n g) (hv : Srp h v (arI g)) (hc : HC h) : Ret fs f24 [.i .i64 (n : Int), v] h fun r h' => ∃ u f, r = .tup [u, .b f, .i .i64 0] ∧ ClO (gR (arI g)) h' u f ∧ Grow h.nx.nat h h' := by
  have hlb := arI_len (g := g)
  apply ret_of rfl
  show W fs none f24_c _ _ _
  unfold f24_c
  simp (disch := omega) only [f24_r0, f24_r1, Nat.reduceEqDiff, ↓reduceIte, bz]
  refine (callP_0 (ef := f47) k.c47 rfl (f47_ret k.toCallsCk hv (by omega) hc)).mono ?_
  rintro r h1 ⟨rfl, gr1⟩
  rw [chkG_g hg]
  have ne0 : decide ((0 : Int) ≠ 0) = false := rfl
  simp (disch := omega) only [f24_r2, f24_r4, Nat.reduceEqDiff, ↓reduceIte, Bool.false_eq_true, ne0, bz]
  have hc1 := gr1.hc hc
  refine (callP_0 (ef := f48) k.c48 rfl (f48_ret k.toNat2 (hv.grow hc gr1) nd_arI (by omega) hc1)).mono ?_
  rintro r h2 ⟨rfl, gr2⟩
  have hc2 := gr2.hc hc1
  simp (disch := omega) only [↓reduceIte, bz]
  refine (callP_0 (ef := f61) k.c61 rfl (f61c_ret k (symR_g hg) hc2)).mono ?_
  rintro r h3 ⟨u, f, rfl, hf, gr3⟩
  have gA : Grow h.nx.nat h h3 := gr1.trans ((gr2.low gr1.nx).trans (gr3.low (by have := gr1.nx; have := gr2.nx; omega)))
  simp (disch := omega) only [f24_r5, f24_rs, Option.some.injEq, exists_eq_left', Nat.reduceEqDiff, ↓reduceIte, bz]
  exact ⟨u, f, rfl, hf, gA⟩
end
end Go.Ev
namespace Go.Ev
open Go Go.RowKit
noncomputable def f62_r0 : List EOper := [oG 2 (.box 2 (tG 0)), oG 3 (.box 2 (tG 1)), oG 4 (.as (.c (.b false)))]
noncomputable def f62_r1 : List EOper := [oG 5 (.iadr 2 1 (tG 2) (cG 0)), oG 6 (.ld (tG 5)), oG 7 (.iadr 2 1 (tG 3) (cG 0)), oG 8 (.ld (tG 7)), oG 9 (.bin .lss (tG 6) (tG 8)), oG 10 (.mv (tG 9)), gG 11 10 false (.iadr 2 1 (tG 2) (cG 0)), gG 12 10 false (.ld (tG 11)), gG 13 10 false (.iadr 2 1 (tG 3) (cG 0)), gG 14 10 false (.ld (tG 13)), gG 15 10 false (.bin .eql (tG 12) (tG 14)), gG 16 10 false (.mv (tG 15)), gG 17 16 true (.iadr 2 1 (tG 2) (cG 1)), gG 18 16 true (.ld (tG 17)), gG 19 16 true (.iadr 2 1 (tG 3) (cG 1)), gG 20 16 true (.ld (tG 19)), gG 21 16 true (.bin .lss (tG 18) (tG 20)), gG 22 10 false (.pick (tG 16) (tG 21) (.c (.b false))), oG 23 (.pick (tG 10) (.c (.b true)) (tG 22)), oG 4 (.as (tG 23))]
noncomputable def f62_c : EC := (.seq (.reg f62_r0) (.seq (.reg f62_r1) .ret))
noncomputable def f62 : EF := ⟨24, [.tmp (.ofNat 4)], f62_c, none⟩
theorem f62_rs : f62.rs = [.tmp (.ofNat 4)] := of_eq_true (eq_self _)
noncomputable def f26_r0 : List EOper := [oG 4 (.as (.c (.b false)))]
noncomputable def f26_r1 : List EOper := [oG 5 (.as (cG 0))]
noncomputable def f26_r2 : List EOper := [oG 9 (.mv (tG 5)), oG 10 (.mv (tG 1)), oG 11 (.len (tG 10)), oG 12 (.bin .lss (tG 9) (tG 11))]
noncomputable def f26_r3 : List Stage := [⟨[oG 15 (.mv (tG 1)), oG 16 (.mv (tG 5)), oG 17 (.iads 2 (tG 15) (tG 16)), oG 18 (.iadr 2 1 (tG 17) (cG 0)), oG 19 (.ld (tG 18)), oG 20 (.mv (tG 1)), oG 21 (.mv (tG 5)), oG 22 (.iads 2 (tG 20) (tG 21)), oG 23 (.iadr 2 1 (tG 22) (cG 1)), oG 24 (.ld (tG 23))], [], (some (oG 6 (.as (tG 19)))), []⟩, ⟨[], [oG 20 (.mv (tG 1)), oG 21 (.mv (tG 5)), oG 22 (.iads 2 (tG 20) (tG 21)), oG 23 (.iadr 2 1 (tG 22) (cG 1)), oG 24 (.ld (tG 23))], (some (oG 7 (.as (tG 24)))), []⟩, ⟨[], [], none, []⟩]
noncomputable def f26_r4 : List Stage := [⟨[oG 25 (.mv (tG 6)), oG 26 (.bin .lss (tG 25) (cG 0)), oG 27 (.mv (tG 26)), gG 28 27 false (.mv (tG 7)), gG 29 27 false (.bin .lss (tG 28) (cG 0)), oG 30 (.pick (tG 27) (.c (.b true)) (tG 29)), oG 31 (.mv (tG 30)), gG 32 31 false (.mv (tG 6)), gG 33 31 false (.mv (tG 0)), gG 34 31 false (.bin .geq (tG 32) (tG 33)), oG 35 (.pick (tG 31) (.c (.b true)) (tG 34)), oG 36 (.mv (tG 35)), gG 37 36 false (.mv (tG 7)), gG 38 36 false (.mv (tG 0)), gG 39 36 false (.bin .geq (tG 37) (tG 38)), oG 40 (.pick (tG 36) (.c (.b true)) (tG 39)), oG 41 (.mv (tG 40)), gG 42 41 false (.mv (tG 6)), gG 43 41 false (.mv (tG 7)), gG 44 41 false (.bin .eql (tG 42) (tG 43)), oG 45 (.pick (tG 41) (.c (.b true)) (tG 44)), oG 46 (.mv (tG 45)), gG 47 46 false (.mv (tG 1)), gG 48 46 false (.mv (tG 7)), gG 49 46 false (.mv (tG 6)), gG 50 46 false (.build [(.i .i64 (.ofNat 0)), (.i .i64 (.ofNat 0))] [(0, 1, (tG 48)), (1, 1, (tG 49))])], [], (some (gG 51 46 false (.call (fG 40) [(tG 47), (tG 50)]))), []⟩, ⟨[oG 52 (.pick (tG 46) (.c (.b true)) (tG 51)), oG 53 (.mv (tG 52)), gG 54 53 false (.mv (tG 5)), gG 55 53 false (.bin .gtr (tG 54) (cG 0)), gG 56 53 false (.mv (tG 55)), gG 57 56 true (.mv (tG 1)), gG 58 56 true (.mv (tG 5)), gG 59 56 true (.bin .sub (tG 58) (cG 1)), gG 60 56 true (.iads 2 (tG 57) (tG 59)), gG 61 56 true (.ldn 2 (tG 60)), gG 62 56 true (.mv (tG 1)), gG 63 56 true (.mv (tG 5)), gG 64 56 true (.iads 2 (tG 62) (tG 63)), gG 65 56 true (.ldn 2 (tG 64))], [], (some (gG 66 56 true (.call (fG 62) [(tG 61), (tG 65)]))), []⟩, ⟨[gG 67 56 true (.not (tG 66)), gG 68 53 false (.pick (tG 56) (tG 67) (.c (.b false))), oG 69 (.pick (tG 53) (.c (.b true)) (tG 68))], [], none, []⟩]
noncomputable def f26_r5 : List EOper := [oG 4 (.as (.c (.b false)))]
noncomputable def f26_r6 : List EOper := [oG 8 (.as (cG 0))]
noncomputable def f26_r7 : List EOper := [oG 70 (.mv (tG 8)), oG 71 (.mv (tG 1)), oG 72 (.len (tG 71)), oG 73 (.bin .lss (tG 70) (tG 72))]
noncomputable def f26_r8 : List EOper := [oG 76 (.mv (tG 1)), oG 77 (.mv (tG 8)), oG 78 (.iads 2 (tG 76) (tG 77)), oG 79 (.iadr 2 1 (tG 78) (cG 0)), oG 80 (.ld (tG 79)), oG 81 (.mv (tG 7)), oG 82 (.bin .eql (tG 80) (tG 81)), oG 83 (.mv (tG 82)), gG 84 83 true (.mv (tG 1)), gG 85 83 true (.mv (tG 6)), gG 86 83 true (.mv (tG 1)), gG 87 83 true (.mv (tG 8)), gG 88 83 true (.iads 2 (tG 86) (tG 87)), gG 89 83 true (.iadr 2 1 (tG 88) (cG 1)), gG 90 83 true (.ld (tG 89)), gG 91 83 true (.build [(.i .i64 (.ofNat 0)), (.i .i64 (.ofNat 0))] [(0, 1, (tG 85)), (1, 1, (tG 90))]), gG 92 83 true (.call (fG 40) [(tG 84), (tG 91)]), gG 93 83 true (.not (tG 92)), oG 94 (.pick (tG 83) (tG 93) (.c (.b false)))]
noncomputable def f26_r9 : List EOper := [oG 4 (.as (.c (.b false)))]
noncomputable def f26_r10 : List EOper := [oG 74 (.mv (tG 8)), oG 75 (.bin .add (tG 74) (cG 1)), oG 8 (.as (tG 75))]
noncomputable def f26_l0 : EC := (.seq (.seq (.reg f26_r7) (.cond (tG 73) .skip (.exit 2))) (.seq (.block 3 (.seq (.reg f26_r8) (.cond (tG 94) (.seq (.reg f26_r9) .ret) .skip))) (.reg f26_r10)))
noncomputable def f26_r11 : List EOper := [oG 13 (.mv (tG 5)), oG 14 (.bin .add (tG 13) (cG 1)), oG 5 (.as (tG 14))]
noncomputable def f26_l1 : EC := (.seq (.seq (.reg f26_r2) (.cond (tG 12) .skip (.exit 0))) (.seq (.block 1 (.seq (.draw f26_r3) (.seq (.seq (.draw f26_r4) (.cond (tG 69) (.seq (.reg f26_r5) .ret) .skip)) (.seq (.reg f26_r6) (.block 2 (.loop f26_l0)))))) (.reg f26_r11)))
noncomputable def f26_r12 : List EOper := [oG 4 (.as (.c (.b true)))]
noncomputable def f26_c : EC := (.seq (.reg f26_r0) (.seq (.seq (.reg f26_r1) (.block 0 (.loop f26_l1))) (.seq (.reg f26_r12) .ret)))
noncomputable def f26 : EF := ⟨95, [.tmp (.ofNat 4)], f26_c, none⟩
theorem f26_rs : f26.rs = [.tmp (.ofNat 4)] := of_eq_true (eq_self _)
section
variable {fs : T EF} {h h' : H}
theorem f62_ret {x y : Nat × Nat} (hlt : x.1 < y.1 ∨ (x.1 = y.1 ∧ x.2 < y.2)) (hc : HC h) : Ret fs f62 [aV x, aV y] h fun r h' => r = .b true ∧ Grow h.nx.nat h h' := by
  have _ := hc
  apply ret_of rfl
  show W fs none f62_c _ _ _
  unfold f62_c
  have cx : cellsN 2 (aV x) = some [.i .i64 (x.1 : Int), .i .i64 (x.2 : Int)] := rfl
  have cy : cellsN 2 (aV y) = some [.i .i64 (y.1 : Int), .i .i64 (y.2 : Int)] := rfl
  have n1 := nx_new h (.cells 2 [.i .i64 (x.1 : Int), .i .i64 (x.2 : Int)])
  have g1 : Grow h.nx.nat h (h.new (.cells 2 [.i .i64 (x.1 : Int), .i .i64 (x.2 : Int)])) := Grow.new (Nat.le_refl _) _
  have e1 : (h.new (.cells 2 [.i .i64 (x.1 : Int), .i .i64 (x.2 : Int)])).get h.nx = .cells 2 [.i .i64 (x.1 : Int), .i .i64 (x.2 : Int)] := get_new_same
  simp (disch := omega) only [f62_r0, Nat.reduceEqDiff, ↓reduceIte, cx, cy, bz]
  generalize h.new (.cells 2 [.i .i64 (x.1 : Int), .i .i64 (x.2 : Int)]) = h1 at *
  have n2 := nx_new h1 (.cells 2 [.i .i64 (y.1 : Int), .i .i64 (y.2 : Int)])
  have g2 : Grow h1.nx.nat h1 (h1.new (.cells 2 [.i .i64 (y.1 : Int), .i .i64 (y.2 : Int)])) := Grow.new (Nat.le_refl _) _
  have e2 : (h1.new (.cells 2 [.i .i64 (y.1 : Int), .i .i64 (y.2 : Int)])).get h1.nx = .cells 2 [.i .i64 (y.1 : Int), .i .i64 (y.2 : Int)] := get_new_same
  generalize h1.new (.cells 2 [.i .i64 (y.1 : Int), .i .i64 (y.2 : Int)]) = h2 at *
  have a1 := (g2.old h.nx (by omega)).trans e1
  have l10 := ld20 a1
  have l11 := ld21 a1
  have l20 := ld20 e2
  have l21 := ld21 e2
  have gA : Grow h.nx.nat h h2 := g1.trans (g2.low (by omega))
  by_cases e : x.1 < y.1
  · have d0 : decide ((x.1 : Int) < (y.1 : Int)) = true := decide_eq_true (by omega)
    simp (disch := omega) only [f62_r1, f62_rs, Option.some.injEq, exists_eq_left', Nat.reduceEqDiff, ↓reduceIte, Bool.false_eq_true, Bool.not_true, l10, l20, d0, bz]
    exact gA
  · have d0 : decide ((x.1 : Int) < (y.1 : Int)) = false := decide_eq_false (by omega)
    have d1 : decide ((x.1 : Int) = (y.1 : Int)) = true := decide_eq_true (by omega)
    have d2 : decide ((x.2 : Int) < (y.2 : Int)) = true := decide_eq_true (by omega)
    simp (disch := omega) only [f62_r1, f62_rs, Option.some.injEq, exists_eq_left', Nat.reduceEqDiff, ↓reduceIte, Bool.false_eq_true, Bool.not_false, l10, l20, l11, l21, d0, d1, d2, bz]
    exact gA
def okAt (C : List Bool) (x : Nat × Nat) : Prop := x.1 ≠ x.2 ∧ rat C x.2 x.1 = false ∧ ∀ c, rat C x.2 c = true → rat C x.1 c = true
def isoP (C : List Bool) : Prop := ∀ x : Nat × Nat, rat C x.1 x.2 = true → okAt C x
structure CallsIo (fs : T EF) : Prop where
  c40 : fs.get (K.ofNat 40) = some f40
  c62 : fs.get (K.ofNat 62) = some f62
def f26_I (h0 : H) (n : Nat) (v : V) (C : List Bool) (i : Nat) (fr : Fr) (h1 : H) : Prop := i ≤ (arw (rat C)).length ∧ (∀ (j : Nat) (x : Nat × Nat), j < i → (arw (rat C))[j]? = some x → okAt C x) ∧ Grow h0.nx.nat h0 h1 ∧ fr.get (K.ofNat 0) = some (.i .i64 (n : Int)) ∧ fr.get (K.ofNat 1) = some (v) ∧ fr.get (K.ofNat 5) = some (.i .i64 (i : Int))
def f26_J (h0 : H) (n : Nat) (v : V) (C : List Bool) (i : Nat) (x : Nat × Nat) (kk : Nat) (fr : Fr) (h1 : H) : Prop := kk ≤ (arw (rat C)).length ∧ (∀ (j : Nat) (y : Nat × Nat), j < kk → (arw (rat C))[j]? = some y → y.1 = x.2 → rat C x.1 y.2 = true) ∧ Grow h0.nx.nat h0 h1 ∧ fr.get (K.ofNat 0) = some (.i .i64 (n : Int)) ∧ fr.get (K.ofNat 1) = some (v) ∧ fr.get (K.ofNat 5) = some (.i .i64 (i : Int)) ∧ fr.get (K.ofNat 6) = some (.i .i64 (x.1 : Int)) ∧ fr.get (K.ofNat 7) = some (.i .i64 (x.2 : Int)) ∧ fr.get (K.ofNat 8) = some (.i .i64 (kk : Int))
theorem f26_ret {n : Nat} {v : V} {C : List Bool} (k : CallsIo fs) (hC : ∀ a b, rat C a b = true → a < n ∧ b < n) (hv : Srp h v (arI (rat C))) (hc : HC h) : Ret fs f26 [.i .i64 (n : Int), v] h fun r h' => ∃ bb, r = .b bb ∧ (bb = true ↔ isoP C) ∧ Grow h.nx.nat h h' := by
  have hlb := arI_len (g := rat C)
  have hlw : (arI (rat C)).length = (arw (rat C)).length := by unfold arI; rw [List.length_map]
  apply ret_of rfl
  show W fs none f26_c _ _ _
  unfold f26_c
  have hlen : ∀ h1, lenV v h1 = .ok (.i .i64 ((arw (rat C)).length : Int)) h1 := fun h1 => by rw [hv.len, hlw]
  simp (disch := omega) only [f26_r0, f26_r1, bz]
  refine W_loop (f26_I h n v C) (fun i => (arw (rat C)).length - i) ?_ 0 ⟨by omega, fun j x hj => by omega, Grow.refl _ _, by simp (disch := omega) only [getK_set, Nat.reduceEqDiff, ↓reduceIte, and_self, Int.natCast_zero]⟩
  rintro i fr h1 ⟨hi, hok, hG, g0, g1, g5⟩
  have hc1 := hG.hc hc
  have hv1 := hv.grow hc hG
  have hvb := hv.beq
  have z0 : ∀ ff : Nat → RV, idxV (.i .i64 0) 2 ff = ff 0 := fun _ => rfl
  have z1 : ∀ ff : Nat → RV, idxV (.i .i64 1) 2 ff = ff 1 := fun _ => rfl
  unfold f26_l1
  by_cases hlt : i < (arw (rat C)).length
  · have d0 : decide ((i : Int) < ((arw (rat C)).length : Int)) = true := decide_eq_true (by omega)
    obtain ⟨x, hx⟩ : ∃ x, (arw (rat C))[i]? = some x := ⟨_, List.getElem?_eq_getElem hlt⟩
    obtain ⟨xl1, xl2, hxC⟩ := arw_lt (List.mem_of_getElem? hx)
    have hxn := hC _ _ hxC
    obtain ⟨id, q, p1, p2, p3, p4⟩ := hv1.at2 (i := i) (by omega)
    rw [arI_at hx (by omega)] at p3 p4
    have p3 : loadV h1 (.p id (q + 0 * 1)) one? = .ok (.i .i64 (x.1 : Int)) h1 := p3
    have p4 : loadV h1 (.p id (q + 1 * 1)) one? = .ok (.i .i64 (x.2 : Int)) h1 := p4
    have p2 : loadV h1 (.p id q) (many? 2) = .ok (aV x) h1 := by rw [arI_at hx (by omega)] at p2; exact p2
    have a0 : decide ((x.1 : Int) < 0) = false := decide_eq_false (by omega)
    have a1 : decide ((x.2 : Int) < 0) = false := decide_eq_false (by omega)
    have a2 : decide ((x.1 : Int) ≥ (n : Int)) = false := decide_eq_false (by omega)
    have a3 : decide ((x.2 : Int) ≥ (n : Int)) = false := decide_eq_false (by omega)
    by_cases e : x.1 = x.2
    · have a4 : decide ((x.1 : Int) = (x.2 : Int)) = true := decide_eq_true (by omega)
      simp (disch := omega) only [f26_r2, f26_r3, f26_r4, f26_r5, f26_rs, stay_mv, beq_i, stay_iads, beq_p, Option.some.injEq, exists_eq_left', Nat.reduceEqDiff, ↓reduceIte, Bool.false_eq_true, Bool.not_true, Bool.not_false, stay_iadr, g0, g1, g5, hlen, d0, p1, p3, p4, z0, z1, hvb, a0, a1, a2, a3, a4, bz]
      exact ⟨false, rfl, ⟨(fun h => by cases h), fun h => absurd e (h x hxC).1⟩, hG⟩
    · have a4 : decide ((x.1 : Int) = (x.2 : Int)) = false := decide_eq_false (by omega)
      have hav : V.agg [.i .i64 (x.2 : Int), .i .i64 (x.1 : Int)] = aV (x.2, x.1) := rfl
      simp (disch := omega) only [f26_r2, f26_r3, f26_r4, stay_mv, beq_i, stay_iads, beq_p, Nat.reduceEqDiff, ↓reduceIte, Bool.false_eq_true, Bool.not_false, stay_iadr, g0, g1, g5, hlen, d0, p1, p3, p4, z0, z1, hvb, a0, a1, a2, a3, a4, hav, bz]
      refine (callP_0 (ef := f40) k.c40 rfl (f40_ret (x := ((x.2 : Int), (x.1 : Int))) hv1 inI_arI (inI_nat xl2 xl1) (by omega) hc1)).mono ?_
      rintro r h2 ⟨rfl, gr2⟩
      have hc2 := gr2.hc hc1
      have hG2 := hG.trans (gr2.low hG.nx)
      have hv2 := hv.grow hc hG2
      have d2 : decide (((x.2 : Int), (x.1 : Int)) ∈ arI (rat C)) = rat C x.2 x.1 := by
        rw [Bool.eq_iff_iff, decide_eq_true_eq, mem_arI']
        exact ⟨fun h => h.2.2, fun h => ⟨xl2, xl1, h⟩⟩
      rw [d2]
      cases hr : rat C x.2 x.1 with
      | true =>
        simp (disch := omega) only [f26_r5, f26_rs, Option.some.injEq, exists_eq_left', Nat.reduceEqDiff, ↓reduceIte, Bool.false_eq_true, Bool.not_true, bz]
        exact ⟨false, rfl, ⟨(fun h => by cases h), fun h => by have := (h x hxC).2.1; rw [hr] at this; cases this⟩, hG2⟩
      | false =>
        -- the inner loop
        have inner : ∀ (fr : Fr) (h3 : H), Grow h.nx.nat h h3 → fr.get (K.ofNat 0) = some (.i .i64 (n : Int)) ∧ fr.get (K.ofNat 1) = some (v) ∧ fr.get (K.ofNat 5) = some (.i .i64 (i : Int)) ∧ fr.get (K.ofNat 6) = some (.i .i64 (x.1 : Int)) ∧ fr.get (K.ofNat 7) = some (.i .i64 (x.2 : Int)) →
            W fs none (.reg f26_r6) (seqK (W fs none (.block 2 (.loop f26_l0))) (atK 1 (seqK (W fs none (.reg f26_r11)) (loopK (f26_I h n v C) (fun i => (arw (rat C)).length - i) i (atK 0 (seqK (W fs none (.seq (.reg f26_r12) .ret)) (retK f26 fun r h' => ∃ bb, r = .b bb ∧ (bb = true ↔ isoP C) ∧ Grow h.nx.nat h h'))))))) fr h3 := by
          clear g0 g1 g5 fr
          rintro fr h3 hG3 ⟨g0, g1, g5, g6, g7⟩
          simp (disch := omega) only [f26_r6, bz]
          refine W_loop (f26_J h n v C i x) (fun kk => (arw (rat C)).length - kk) ?_ 0 ⟨by omega, fun j y hj => by omega, hG3, by simp (disch := omega) only [getK_set, Nat.reduceEqDiff, ↓reduceIte, g0, g1, g5, g6, g7, and_self, Int.natCast_zero]⟩
          clear g0 g1 g5 g6 g7 hG3
          rintro kk fr h4 ⟨hkk, hin, hG4, g0, g1, g5, g6, g7, g8⟩
          have hc4 := hG4.hc hc
          have hv4 := hv.grow hc hG4
          unfold f26_l0
          by_cases hlt2 : kk < (arw (rat C)).length
          · have d3 : decide ((kk : Int) < ((arw (rat C)).length : Int)) = true := decide_eq_true (by omega)
            obtain ⟨y, hy⟩ : ∃ y, (arw (rat C))[kk]? = some y := ⟨_, List.getElem?_eq_getElem hlt2⟩
            obtain ⟨yl1, yl2, hyC⟩ := arw_lt (List.mem_of_getElem? hy)
            obtain ⟨id4, q4, w1, _, w3, w4⟩ := hv4.at2 (i := kk) (by omega)
            rw [arI_at hy (by omega)] at w3 w4
            have w3 : loadV h4 (.p id4 (q4 + 0 * 1)) one? = .ok (.i .i64 (y.1 : Int)) h4 := w3
            have w4 : loadV h4 (.p id4 (q4 + 1 * 1)) one? = .ok (.i .i64 (y.2 : Int)) h4 := w4
            by_cases e2 : y.1 = x.2
            · have d4 : decide ((y.1 : Int) = (x.2 : Int)) = true := decide_eq_true (by omega)
              have hav2 : V.agg [.i .i64 (x.1 : Int), .i .i64 (y.2 : Int)] = aV (x.1, y.2) := rfl
              simp (disch := omega) only [f26_r7, f26_r8, Nat.reduceEqDiff, ↓reduceIte, g1, g6, g7, g8, hlen, d3, w1, z0, z1, w3, w4, d4, hav2, bz]
              refine (callP_0 (ef := f40) k.c40 rfl (f40_ret (x := ((x.1 : Int), (y.2 : Int))) hv4 inI_arI (inI_nat xl1 yl2) (by omega) hc4)).mono ?_
              rintro r h5 ⟨rfl, gr5⟩
              have d5 : decide (((x.1 : Int), (y.2 : Int)) ∈ arI (rat C)) = rat C x.1 y.2 := by
                rw [Bool.eq_iff_iff, decide_eq_true_eq, mem_arI']
                exact ⟨fun h => h.2.2, fun h => ⟨xl1, yl2, h⟩⟩
              rw [d5]
              cases hr2 : rat C x.1 y.2 with
              | true =>
                simp (disch := omega) only [f26_r10, Nat.reduceEqDiff, ↓reduceIte, Bool.false_eq_true, Bool.not_true, g8, bz]
                refine ⟨kk + 1, by omega, by omega, fun j z hj hz hz2 => ?_, hG4.trans (gr5.low hG4.nx), by simp (disch := omega) only [getK_set, Nat.reduceEqDiff, ↓reduceIte, g0, g1, g5, g6, g7, and_self, Int.natCast_add, Int.natCast_one]⟩
                by_cases ej : j = kk
                · subst ej; rw [hy] at hz; cases hz; exact hr2
                · exact hin j z (by omega) hz hz2
              | false =>
                simp (disch := omega) only [f26_r9, f26_rs, Option.some.injEq, exists_eq_left', Nat.reduceEqDiff, ↓reduceIte, Bool.not_false, bz]
                refine ⟨false, rfl, ⟨(fun h => by cases h), fun h => ?_⟩, hG4.trans (gr5.low hG4.nx)⟩
                have := (h x hxC).2.2 y.2 (by rw [← e2]; exact hyC)
                rw [hr2] at this; cases this
            · have d4 : decide ((y.1 : Int) = (x.2 : Int)) = false := decide_eq_false (by omega)
              simp (disch := omega) only [f26_r7, f26_r8, f26_r10, Nat.reduceEqDiff, ↓reduceIte, Bool.false_eq_true, g1, g7, g8, hlen, d3, w1, z0, w3, d4, bz]
              refine ⟨kk + 1, by omega, by omega, fun j z hj hz hz2 => ?_, hG4, by simp (disch := omega) only [getK_set, Nat.reduceEqDiff, ↓reduceIte, g0, g1, g5, g6, g7, and_self, Int.natCast_add, Int.natCast_one]⟩
              by_cases ej : j = kk
              · subst ej; rw [hy] at hz; cases hz; exact absurd hz2 e2
              · exact hin j z (by omega) hz hz2
          · have d3 : decide ((kk : Int) < ((arw (rat C)).length : Int)) = false := decide_eq_false (by omega)
            simp (disch := omega) only [f26_r7, f26_r11, Nat.reduceEqDiff, ↓reduceIte, Bool.false_eq_true, g1, g5, g8, hlen, d3, bz]
            refine ⟨i + 1, by omega, by omega, fun j z hj hz => ?_, hG4, by simp (disch := omega) only [getK_set, Nat.reduceEqDiff, ↓reduceIte, g0, g1, and_self, Int.natCast_add, Int.natCast_one]⟩
            by_cases ej : j = i
            · subst ej
              rw [hx] at hz; cases hz
              refine ⟨e, hr, fun c hcc => ?_⟩
              obtain ⟨jj, hjj, ejj⟩ := List.getElem_of_mem (mem_arw.2 ⟨(rat_lt hcc).1, (rat_lt hcc).2, hcc⟩)
              exact hin jj (x.2, c) (by omega) (by rw [List.getElem?_eq_getElem hjj, ejj]) rfl
            · exact hok j z (by omega) hz
        by_cases hi0 : i = 0
        · have d3 : decide ((i : Int) > 0) = false := decide_eq_false (by omega)
          simp (disch := omega) only [Nat.reduceEqDiff, ↓reduceIte, Bool.false_eq_true, Bool.not_false, g5, d3, bz]
          exact inner _ _ hG2 (by simp (disch := omega) only [getK_set, Nat.reduceEqDiff, ↓reduceIte, g0, g1, g5, and_self])
        · have d3 : decide ((i : Int) > 0) = true := decide_eq_true (by omega)
          obtain ⟨i', hi'⟩ : ∃ i', i = i' + 1 := ⟨i - 1, by omega⟩
          obtain ⟨y, hy⟩ : ∃ y, (arw (rat C))[i']? = some y := ⟨_, List.getElem?_eq_getElem (by omega)⟩
          obtain ⟨id4, q4, w1, w2, _, _⟩ := hv2.at2 (i := i') (by omega)
          have w2 : loadV h2 (.p id4 q4) (many? 2) = .ok (aV y) h2 := by rw [arI_at hy (by omega)] at w2; exact w2
          obtain ⟨id5, q5, v1, v2, _, _⟩ := hv2.at2 (i := i) (by omega)
          have v2 : loadV h2 (.p id5 q5) (many? 2) = .ok (aV x) h2 := by rw [arI_at hx (by omega)] at v2; exact v2
          have esub : (i : Int) - 1 = (i' : Int) := by omega
          have hsort := arw_sorted (g := rat C) (i := i') (by omega)
          have ey : (arw (rat C))[i']'(by omega) = y := by
            rw [List.getElem?_eq_getElem (by omega)] at hy; exact Option.some.inj hy
          have ex : (arw (rat C))[i' + 1]'(by omega) = x := by
            have hx' := hx
            rw [hi', List.getElem?_eq_getElem (by omega)] at hx'; exact Option.some.inj hx'
          rw [ey, ex] at hsort
          obtain ⟨yl1, yl2, _⟩ := arw_lt (List.mem_of_getElem? hy)
          simp (disch := omega) only [Nat.reduceEqDiff, ↓reduceIte, Bool.false_eq_true, Bool.not_false, g1, g5, d3, esub, w1, w2, v1, v2, bz]
          refine (callP_0 (ef := f62) k.c62 rfl (f62_ret (x := y) (y := x) (by omega) hc2)).mono ?_
          rintro r h3 ⟨rfl, gr3⟩
          simp (disch := omega) only [Nat.reduceEqDiff, ↓reduceIte, Bool.false_eq_true, Bool.not_true, Bool.not_false, bz]
          exact inner _ _ (hG2.trans (gr3.low hG2.nx)) (by simp (disch := omega) only [getK_set, Nat.reduceEqDiff, ↓reduceIte, g0, g1, g5, and_self])
  · have d0 : decide ((i : Int) < ((arw (rat C)).length : Int)) = false := decide_eq_false (by omega)
    simp (disch := omega) only [f26_r2, f26_r12, f26_rs, Option.some.injEq, exists_eq_left', Nat.reduceEqDiff, ↓reduceIte, Bool.false_eq_true, g1, g5, hlen, d0, bz]
    refine ⟨true, rfl, ⟨fun _ x hx => ?_, fun _ => rfl⟩, hG⟩
    obtain ⟨j, hj, ej⟩ := List.getElem_of_mem (mem_arw.2 ⟨(rat_lt hx).1, (rat_lt hx).2, hx⟩)
    exact hok j x (by omega) (by rw [List.getElem?_eq_getElem hj, ej])
end
end Go.Ev
namespace Go.Ev
open Go Go.RowKit
noncomputable def f63_r0 : List EOper := [oG 2 (.box 49 (tG 0)), oG 4 (.as (.c (.b false)))]
noncomputable def f63_r1 : List Stage := [⟨[oG 9 (.mv (tG 1)), oG 10 (.len (tG 9)), oG 11 (.bin .eql (tG 10) (cG 0)), oG 12 (.mv (tG 11)), gG 13 12 false (.ldn 49 (tG 2)), gG 14 12 false (.mv (tG 1)), gG 15 12 false (.iads 2 (tG 14) (cG 0)), gG 16 12 false (.ldn 2 (tG 15))], [], (some (gG 17 12 false (.call (fG 56) [(tG 16)]))), []⟩, ⟨[], [gG 13 12 false (.ldn 49 (tG 2))], (some (gG 18 12 false (.call (fG 85) [(tG 13), (tG 17)]))), []⟩, ⟨[gG 19 12 false (.not (tG 18)), oG 20 (.pick (tG 12) (.c (.b true)) (tG 19))], [], none, []⟩]
noncomputable def f63_r2 : List EOper := [oG 4 (.as (.c (.b false)))]
noncomputable def f63_r3 : List EOper := [oG 21 (.mv (tG 1)), oG 22 (.iads 2 (tG 21) (cG 0)), oG 23 (.ldn 2 (tG 22)), oG 24 (.call (fG 56) [(tG 23)]), oG 5 (.alloc 2 [(.i .i64 (.ofNat 0)), (.i .i64 (.ofNat 0))]), ⟨none, none, .st 2 (tG 5) (tG 24)⟩]
noncomputable def f63_r4 : List EOper := [oG 25 (.mv (tG 1)), oG 26 (.slice 2 (tG 25) (some (cG 1)) none none), oG 27 (.len (tG 26)), oG 28 (.mv (cG 0))]
noncomputable def f63_r5 : List EOper := [oG 29 (.bin .lss (tG 28) (tG 27))]
noncomputable def f63_r6 : List EOper := [oG 30 (.iads 2 (tG 26) (tG 28)), oG 31 (.ldn 2 (tG 30)), oG 7 (.alloc 2 [(.i .i64 (.ofNat 0)), (.i .i64 (.ofNat 0))]), ⟨none, none, .st 2 (tG 7) (tG 31)⟩]
noncomputable def f63_r7 : List EOper := [oG 32 (.ldn 2 (tG 7)), oG 33 (.call (fG 56) [(tG 32)]), oG 8 (.alloc 2 [(.i .i64 (.ofNat 0)), (.i .i64 (.ofNat 0))]), ⟨none, none, .st 2 (tG 8) (tG 33)⟩]
noncomputable def f63_r8 : List EOper := [oG 34 (.ldn 49 (tG 2)), oG 35 (.ldn 2 (tG 5)), oG 36 (.ldn 2 (tG 8)), oG 37 (.call (fG 55) [(tG 34), (tG 35), (tG 36)]), oG 38 (.not (tG 37))]
noncomputable def f63_r9 : List EOper := [oG 4 (.as (.c (.b false)))]
noncomputable def f63_r10 : List EOper := [oG 39 (.ldn 2 (tG 8)), ⟨none, none, .st 2 (tG 5) (tG 39)⟩]
noncomputable def f63_r11 : List EOper := [oG 40 (.bin .add (tG 28) (cG 1)), oG 28 (.mv (tG 40))]
noncomputable def f63_l0 : EC := (.seq (.reg f63_r5) (.seq (.cond (tG 29) .skip (.exit 0)) (.seq (.block 1 (.seq (.reg f63_r6) (.seq (.reg f63_r7) (.seq (.seq (.reg f63_r8) (.cond (tG 38) (.seq (.reg f63_r9) .ret) .skip)) (.reg f63_r10))))) (.reg f63_r11))))
noncomputable def f63_r12 : List Stage := [⟨[oG 41 (.ldn 2 (tG 5)), oG 42 (.mv (tG 1)), oG 43 (.iads 2 (tG 42) (cG 0)), oG 44 (.ldn 2 (tG 43))], [], (some (oG 45 (.call (fG 56) [(tG 44)]))), []⟩, ⟨[], [oG 41 (.ldn 2 (tG 5))], (some (oG 46 (.call (fG 77) [(tG 45)]))), []⟩, ⟨[oG 47 (.eqk (.many [(some .i64), (some .i64)]) false (tG 41) (tG 46))], [oG 41 (.ldn 2 (tG 5))], (some (oG 4 (.as (tG 47)))), []⟩, ⟨[], [], none, []⟩]
noncomputable def f63_c : EC := (.seq (.reg f63_r0) (.seq (.seq (.draw f63_r1) (.cond (tG 20) (.seq (.reg f63_r2) .ret) .skip)) (.seq (.reg f63_r3) (.seq (.seq (.reg f63_r4) (.block 0 (.loop f63_l0))) (.seq (.draw f63_r12) .ret)))))
noncomputable def f63 : EF := ⟨48, [.tmp (.ofNat 4)], f63_c, none⟩
theorem f63_rs : f63.rs = [.tmp (.ofNat 4)] := of_eq_true (eq_self _)
noncomputable def f30_r0 : List EOper := [oG 6 (.as (.c (.b false))), oG 7 (.as (cG 0))]
noncomputable def f30_r1 : List EOper := [oG 9 (.mv (tG 0)), oG 10 (.mv (tG 1)), oG 11 (.call (fG 47) [(tG 9), (tG 10)]), oG 8 (.as (tG 11))]
noncomputable def f30_r2 : List EOper := [oG 12 (.mv (tG 8)), oG 13 (.bin .neq (tG 12) (cG 0))]
noncomputable def f30_r3 : List EOper := [oG 14 (.mv (tG 8)), oG 6 (.as (.c (.b false))), oG 7 (.as (tG 14))]
noncomputable def f30_r4 : List EOper := [oG 15 (.mv (tG 1)), oG 16 (.call (fG 48) [(tG 15)]), oG 17 (.mv (tG 2)), oG 18 (.call (fG 63) [(tG 16), (tG 17)]), oG 6 (.as (tG 18)), oG 7 (.as (cG 0))]
noncomputable def f30_c : EC := (.seq (.reg f30_r0) (.seq (.seq (.reg f30_r1) (.seq (.reg f30_r2) (.cond (tG 13) (.seq (.reg f30_r3) .ret) .skip))) (.seq (.reg f30_r4) .ret)))
noncomputable def f30 : EF := ⟨19, [.tmp (.ofNat 6), .tmp (.ofNat 7)], f30_c, none⟩
theorem f30_rs : f30.rs = [.tmp (.ofNat 6), .tmp (.ofNat 7)] := of_eq_true (eq_self _)
noncomputable def f28_r0 : List EOper := [oG 6 (.as (.c (.b false)))]
noncomputable def f28_r1 : List EOper := [oG 8 (.mv (tG 2)), oG 9 (.len (tG 8)), oG 10 (.bin .lss (tG 9) (cG 2))]
noncomputable def f28_r2 : List EOper := [oG 6 (.as (.c (.b false)))]
noncomputable def f28_r3 : List EOper := [oG 7 (.as (cG 0))]
noncomputable def f28_r4 : List EOper := [oG 11 (.mv (tG 7)), oG 12 (.mv (tG 2)), oG 13 (.len (tG 12)), oG 14 (.bin .lss (tG 11) (tG 13))]
noncomputable def f28_r5 : List Stage := [⟨[oG 17 (.mv (tG 0)), oG 18 (.mv (tG 1)), oG 19 (.mv (tG 2)), oG 20 (.mv (tG 7)), oG 21 (.iads 2 (tG 19) (tG 20)), oG 22 (.ldn 2 (tG 21))], [], (some (oG 23 (.call (fG 19) [(tG 17), (tG 18), (tG 22)]))), []⟩, ⟨[oG 24 (.not (tG 23)), oG 25 (.mv (tG 24)), gG 26 25 false (.mv (tG 7)), gG 27 25 false (.bin .gtr (tG 26) (cG 0)), gG 28 25 false (.mv (tG 27)), gG 29 28 true (.mv (tG 1)), gG 30 28 true (.mv (tG 2)), gG 31 28 true (.mv (tG 7)), gG 32 28 true (.bin .sub (tG 31) (cG 1)), gG 33 28 true (.iads 2 (tG 30) (tG 32)), gG 34 28 true (.ldn 2 (tG 33)), gG 35 28 true (.mv (tG 2)), gG 36 28 true (.mv (tG 7)), gG 37 28 true (.iads 2 (tG 35) (tG 36)), gG 38 28 true (.ldn 2 (tG 37))], [], (some (gG 39 28 true (.call (fG 20) [(tG 29), (tG 34), (tG 38)]))), []⟩, ⟨[gG 40 28 true (.not (tG 39)), gG 41 25 false (.pick (tG 28) (tG 40) (.c (.b false))), oG 42 (.pick (tG 25) (.c (.b true)) (tG 41))], [], none, []⟩]
noncomputable def f28_r6 : List EOper := [oG 6 (.as (.c (.b false)))]
noncomputable def f28_r7 : List EOper := [oG 15 (.mv (tG 7)), oG 16 (.bin .add (tG 15) (cG 1)), oG 7 (.as (tG 16))]
noncomputable def f28_l0 : EC := (.seq (.seq (.reg f28_r4) (.cond (tG 14) .skip (.exit 0))) (.seq (.block 1 (.seq (.draw f28_r5) (.cond (tG 42) (.seq (.reg f28_r6) .ret) .skip))) (.reg f28_r7)))
noncomputable def f28_r8 : List Stage := [⟨[oG 43 (.mv (tG 2)), oG 44 (.mv (tG 2)), oG 45 (.len (tG 44)), oG 46 (.bin .sub (tG 45) (cG 1)), oG 47 (.iads 2 (tG 43) (tG 46)), oG 48 (.ldn 2 (tG 47)), oG 49 (.mv (tG 2)), oG 50 (.iads 2 (tG 49) (cG 0)), oG 51 (.iadr 2 1 (tG 50) (cG 1)), oG 52 (.ld (tG 51)), oG 53 (.mv (tG 2)), oG 54 (.iads 2 (tG 53) (cG 0)), oG 55 (.iadr 2 1 (tG 54) (cG 0)), oG 56 (.ld (tG 55)), oG 57 (.build [(.i .i64 (.ofNat 0)), (.i .i64 (.ofNat 0))] [(0, 1, (tG 52)), (1, 1, (tG 56))]), oG 58 (.eqk (.many [(some .i64), (some .i64)]) false (tG 48) (tG 57))], [], (some (oG 6 (.as (tG 58)))), []⟩, ⟨[], [], none, []⟩]
noncomputable def f28_c : EC := (.seq (.reg f28_r0) (.seq (.seq (.reg f28_r1) (.cond (tG 10) (.seq (.reg f28_r2) .ret) .skip)) (.seq (.seq (.reg f28_r3) (.block 0 (.loop f28_l0))) (.seq (.draw f28_r8) .ret))))
noncomputable def f28 : EF := ⟨59, [.tmp (.ofNat 6)], f28_c, none⟩
theorem f28_rs : f28.rs = [.tmp (.ofNat 6)] := of_eq_true (eq_self _)
noncomputable def f27_r0 : List EOper := [oG 4 (.as (.c .sn))]
noncomputable def f27_r1 : List EOper := [oG 5 (.as (.c .sn))]
noncomputable def f27_r2 : List EOper := [oG 6 (.as (cG 0))]
noncomputable def f27_r3 : List EOper := [oG 8 (.mv (tG 6)), oG 9 (.mv (tG 0)), oG 10 (.bin .lss (tG 8) (tG 9))]
noncomputable def f27_r4 : List EOper := [oG 13 (.mv (tG 6)), oG 14 (.bin .add (tG 13) (cG 1)), oG 7 (.as (tG 14))]
noncomputable def f27_r5 : List EOper := [oG 15 (.mv (tG 7)), oG 16 (.mv (tG 0)), oG 17 (.bin .lss (tG 15) (tG 16))]
noncomputable def f27_r6 : List EOper := [oG 20 (.mv (tG 1)), oG 21 (.mv (tG 6)), oG 22 (.mv (tG 7)), oG 23 (.build [(.i .i64 (.ofNat 0)), (.i .i64 (.ofNat 0))] [(0, 1, (tG 21)), (1, 1, (tG 22))]), oG 24 (.call (fG 40) [(tG 20), (tG 23)]), oG 25 (.mv (tG 24)), gG 26 25 false (.mv (tG 1)), gG 27 25 false (.mv (tG 7)), gG 28 25 false (.mv (tG 6)), gG 29 25 false (.build [(.i .i64 (.ofNat 0)), (.i .i64 (.ofNat 0))] [(0, 1, (tG 27)), (1, 1, (tG 28))]), gG 30 25 false (.call (fG 40) [(tG 26), (tG 29)]), oG 31 (.pick (tG 25) (.c (.b true)) (tG 30))]
noncomputable def f27_r7 : List EOper := [oG 32 (.mv (tG 5)), oG 33 (.mv (tG 6)), oG 34 (.mv (tG 7)), oG 35 (.build [(.i .i64 (.ofNat 0)), (.i .i64 (.ofNat 0))] [(0, 1, (tG 33)), (1, 1, (tG 34))]), oG 36 (.bslice 1 2 [(.i .i64 (.ofNat 0)), (.i .i64 (.ofNat 0))] [(0, 2, (tG 35))]), oG 37 (.app 2 (tG 32) (tG 36)), oG 5 (.as (tG 37))]
noncomputable def f27_r8 : List EOper := [oG 18 (.mv (tG 7)), oG 19 (.bin .add (tG 18) (cG 1)), oG 7 (.as (tG 19))]
noncomputable def f27_l0 : EC := (.seq (.seq (.reg f27_r5) (.cond (tG 17) .skip (.exit 2))) (.seq (.block 3 (.seq (.reg f27_r6) (.cond (tG 31) (.reg f27_r7) .skip))) (.reg f27_r8)))
noncomputable def f27_r9 : List EOper := [oG 11 (.mv (tG 6)), oG 12 (.bin .add (tG 11) (cG 1)), oG 6 (.as (tG 12))]
noncomputable def f27_l1 : EC := (.seq (.seq (.reg f27_r3) (.cond (tG 10) .skip (.exit 0))) (.seq (.block 1 (.seq (.reg f27_r4) (.block 2 (.loop f27_l0)))) (.reg f27_r9)))
noncomputable def f27_r10 : List EOper := [oG 38 (.mv (tG 5)), oG 4 (.as (tG 38))]
noncomputable def f27_c : EC := (.seq (.reg f27_r0) (.seq (.reg f27_r1) (.seq (.seq (.reg f27_r2) (.block 0 (.loop f27_l1))) (.seq (.reg f27_r10) .ret))))
noncomputable def f27 : EF := ⟨39, [.tmp (.ofNat 4)], f27_c, none⟩
theorem f27_rs : f27.rs = [.tmp (.ofNat 4)] := of_eq_true (eq_self _)
noncomputable def f29_r0 : List EOper := [oG 4 (.as (.c .sn))]
noncomputable def f29_r1 : List EOper := [oG 5 (.as (.c .sn))]
noncomputable def f29_r2 : List EOper := [oG 6 (.mv (tG 5)), oG 7 (.mv (tG 0)), oG 8 (.mv (tG 0)), oG 9 (.len (tG 8)), oG 10 (.mv (tG 1)), oG 11 (.min (tG 9) (tG 10)), oG 12 (.slice 2 (tG 7) none (some (tG 11)) none), oG 13 (.app 2 (tG 6) (tG 12)), oG 4 (.as (tG 13))]
noncomputable def f29_c : EC := (.seq (.reg f29_r0) (.seq (.reg f29_r1) (.seq (.reg f29_r2) .ret)))
noncomputable def f29 : EF := ⟨14, [.tmp (.ofNat 4)], f29_c, none⟩
theorem f29_rs : f29.rs = [.tmp (.ofNat 4)] := of_eq_true (eq_self _)
section
variable {fs : T EF} {h h' : H}
theorem Srp.from1 {v : V} {x : Int × Int} {L : List (Int × Int)} (hs : Srp h v (x :: L)) : ∃ v', (∀ h1, sliceB 2 v (some (.i .i64 1)) none none h1 = .ok v' h1) ∧ Srp h v' L := by
  rcases hs with ⟨rfl, h0, _⟩ | ⟨id, off, m, cs, rfl, hb, hll, hm, hx⟩
  · simp at h0
  · have hn : (x :: L).length = L.length + 1 := rfl
    rw [hn] at hm hx
    refine ⟨.sl id (off + 1 * 2) ((x :: L).length - 1) 2, fun h1 => ?_, .inr ⟨id, off + 1 * 2, m, cs, by rw [hn]; rfl, hb, hll, by omega, ?_⟩⟩
    · unfold sliceB
      show cutV id off (x :: L).length 2 h1 1 (x :: L).length none = _
      unfold cutV
      rw [hn, Nat.ble_eq_true_of_le (show 1 ≤ L.length + 1 by omega), Nat.ble_eq_true_of_le (Nat.le_refl (L.length + 1))]; rfl
    · have e : (x :: L).flatMap qE = qE x ++ L.flatMap qE := List.flatMap_cons
      rw [e] at hx
      have h2 := congrArg (List.drop 2) hx
      rw [List.drop_append_of_le_length (by rw [qE_len]; omega), List.drop_eq_nil_of_le (show (qE x).length ≤ 2 by rw [qE_len]; omega), List.nil_append, List.drop_take, List.drop_drop] at h2
      rw [← h2]
      congr 1; omega
theorem pairs_inI {n : Nat} {L : List Int} (hb : ∀ z ∈ L, inR .i64 z = true) : ∀ y ∈ pairsOf n L, inI y := fun y hy => by
  unfold pairsOf at hy
  obtain ⟨i, _, rfl⟩ := List.mem_map.1 hy
  have gd : ∀ k : Nat, inR .i64 (L.getD k 0) = true := fun k => by
    rw [List.getD_eq_getElem?_getD]
    cases e : L[k]? with
    | none => rfl
    | some z => exact hb z (List.mem_of_getElem? e)
  exact ⟨gd _, gd _⟩
def ClW (G : List Bool) (P : List (Int × Int)) (i : Nat) : Prop := ∀ j, j < i → ∃ x : Nat × Nat, P[j]? = some (toI x) ∧ rat G x.1 x.2 = true ∧ (0 < j → ∃ w : Nat × Nat, P[j - 1]? = some (toI w) ∧ x ∈ fcY G w.1 w.2)
def IsC (G : List Bool) (P : List (Int × Int)) : Prop := 1 ≤ P.length ∧ ClW G P P.length ∧ ∃ x, P[0]? = some x ∧ P[P.length - 1]? = some (x.2, x.1)
theorem ClW.add {G : List Bool} {P : List (Int × Int)} {i : Nat} (k : ClW G P i) {x : Nat × Nat} (h1 : P[i]? = some (toI x)) (h2 : rat G x.1 x.2 = true) (h3 : 0 < i → ∃ w : Nat × Nat, P[i - 1]? = some (toI w) ∧ x ∈ fcY G w.1 w.2) : ClW G P (i + 1) := fun j hj => by
  by_cases e : j = i
  · subst e; exact ⟨x, h1, h2, h3⟩
  · exact k j (by omega)
structure CallsEi (fs : T EF) : Prop where
  n55g : ∀ L (x : Nat × Nat) (y : Int × Int) h P, L.length = 49 → (x.1 < 7 ∧ x.2 < 7) → inI y → CallP fs (.fn (K.ofNat 55) []) [rV L, aV x, pV y] h P = P (.b (decide (y ∈ (fcY L x.1 x.2).map toI))) h
theorem pair_var {y : Int × Int} : storeV (h.new (.cells 2 [.i .i64 0, .i .i64 0])) 2 (.p h.nx 0) (pV y) = .ok undefV ((h.new (.cells 2 [.i .i64 0, .i .i64 0])).put h.nx (.cells 2 [.i .i64 y.1, .i .i64 y.2])) ∧ Grow h.nx.nat h ((h.new (.cells 2 [.i .i64 0, .i .i64 0])).put h.nx (.cells 2 [.i .i64 y.1, .i .i64 y.2])) ∧ ((h.new (.cells 2 [.i .i64 0, .i .i64 0])).put h.nx (.cells 2 [.i .i64 y.1, .i .i64 y.2])).get h.nx = .cells 2 [.i .i64 y.1, .i .i64 y.2] ∧ ((h.new (.cells 2 [.i .i64 0, .i .i64 0])).put h.nx (.cells 2 [.i .i64 y.1, .i .i64 y.2])).nx.nat = h.nx.nat + 1 := by
  have n1 := nx_new h (.cells 2 [.i .i64 0, .i .i64 0])
  exact ⟨st2 get_new_same, (Grow.new (Nat.le_refl _) _).trans (Grow.put (Nat.le_refl _) (by omega) _), get_put_same, n1⟩
def f63_I (h0 : H) (G : List Bool) (id2 id5 : K) (v u : V) (P : List (Int × Int)) (t : Nat) (fr : Fr) (h1 : H) : Prop := t + 1 ≤ P.length ∧ ClW G P (t + 1) ∧ Grow h0.nx.nat h0 h1 ∧ HC h1 ∧ h1.get id2 = rC G ∧ (∃ x : Nat × Nat, P[t]? = some (toI x) ∧ in7 x ∧ h1.get id5 = .cells 2 [.i .i64 (x.1 : Int), .i .i64 (x.2 : Int)]) ∧ fr.get (K.ofNat 1) = some (v) ∧ fr.get (K.ofNat 2) = some (.p id2 0) ∧ fr.get (K.ofNat 5) = some (.p id5 0) ∧ fr.get (K.ofNat 26) = some (u) ∧ fr.get (K.ofNat 27) = some (.i .i64 ((P.length : Int) - 1)) ∧ fr.get (K.ofNat 28) = some (.i .i64 (t : Int))
theorem f63_ret {G : List Bool} {v : V} {P : List (Int × Int)} (k : Nat4 fs) (ke : CallsEi fs) (sy : SymR G) (hv : Srp h v P) (hP : ∀ y ∈ P, inI y) (hl : P.length ≤ 1000) (hc : HC h) : Ret fs f63 [rV G, v] h fun r h' => ∃ b, r = .b b ∧ (b = true ↔ IsC G P) ∧ Grow h.nx.nat h h' := by
  have hG := sy.len
  apply ret_of rfl
  show W fs none f63_c _ _ _
  unfold f63_c
  have c1 := rC_cells hG
  have n1 := nx_new h (.cells 49 (G.map V.b))
  have g1 : Grow h.nx.nat h (h.new (.cells 49 (G.map V.b))) := Grow.new (Nat.le_refl _) _
  have e1 : (h.new (.cells 49 (G.map V.b))).get h.nx = rC G := get_new_same
  simp (disch := omega) only [f63_r0, Nat.reduceEqDiff, ↓reduceIte, c1, bz]
  generalize h.new (.cells 49 (G.map V.b)) = h1 at *
  have hc1 := g1.hc hc
  have hv1 := hv.grow hc g1
  have hlen := hv.len
  have hlG := rC_ldn hG e1
  have k85 := k.n85 G
  have hb1 : (P.length : Int) = 0 ↔ P = [] := by rw [← List.length_eq_zero_iff]; omega
  match P, hP, hl, hv, hv1, hlen with
  | [], _, _, _, _, hlen =>
    have d0 : decide ((([] : List (Int × Int)).length : Int) = 0) = true := rfl
    simp (disch := omega) only [f63_r1, f63_r2, f63_rs, xg_len, Option.some.injEq, exists_eq_left', Nat.reduceEqDiff, ↓reduceIte, Bool.false_eq_true, Bool.not_true, stay_g, dst_k, isU_u, hlen, d0, bz]
    exact ⟨false, rfl, ⟨(fun h => by cases h), fun h => absurd h.1 (by simp)⟩, g1⟩
  | p :: P, hP, hl, hv, hv1, hlen =>
    have hlp : (p :: P).length = P.length + 1 := rfl
    have d0 : decide (((p :: P).length : Int) = 0) = false := decide_eq_false (by rw [hlp]; omega)
    obtain ⟨id, q, pa, pb, _, _⟩ := hv1.at2 (i := 0) (by rw [hlp]; omega)
    have pa : ∀ k h1, iadsV 2 v (.i k 0) h1 = .ok (.p id q) h1 := pa
    have pb : loadV h1 (.p id q) (many? 2) = .ok (pV p) h1 := pb
    have bp : beqV (pV p) (pV p) = true := beq_2
    cases hh : hasR G p with
    | false =>
      simp (disch := omega) only [f63_r1, f63_r2, f63_rs, xg_len, Option.some.injEq, exists_eq_left', Nat.reduceEqDiff, ↓reduceIte, Bool.false_eq_true, Bool.not_false, stay_g, hlen, d0, hlG, beq_rV, pa, pb, k.n56, k85 p _ _ hG, hh, bz]
      refine ⟨false, rfl, ⟨(fun h => by cases h), fun h => ?_⟩, g1⟩
      obtain ⟨x, h1, h2, _⟩ := h.2.1 0 (by rw [hlp]; omega)
      obtain rfl : p = toI x := Option.some.inj h1
      have hx := rat_lt h2
      have hh : hasR G ((x.1 : Int), (x.2 : Int)) = false := hh
      rw [hasR_nat hx.1 hx.2, h2] at hh
      cases hh
    | true =>
      obtain ⟨x, rfl, hx7, hxG⟩ := hasR_arr hh
      obtain ⟨q1, q2, q3, q4⟩ := pair_var (h := h1) (y := toI x)
      obtain ⟨u, hu, hsu⟩ := hv1.from1
      have hul : ∀ h2, lenV u h2 = .ok (.i .i64 (P.length : Int)) h2 := hsu.len
      have q1 : storeV (h1.new (.cells 2 [.i .i64 0, .i .i64 0])) 2 (.p h1.nx 0) (pV (toI x)) = _ := q1
      simp (disch := omega) only [f63_r1, f63_r3, f63_r4, x_slice, sliceV_eq, Option.map_none, Option.map_some, xg_len, Nat.reduceEqDiff, ↓reduceIte, Bool.false_eq_true, Bool.not_true, Bool.not_false, stay_g, hlen, d0, hlG, beq_rV, pa, pb, k.n56, k85 (toI x) _ _ hG, hh, q1, hu, hul, bz]
      have q2' := q2
      generalize (h1.new (.cells 2 [.i .i64 0, .i .i64 0])).put h1.nx (.cells 2 [.i .i64 (toI x).1, .i .i64 (toI x).2]) = h2 at *
      have hc2 := q2.hc hc1
      have ePl : ((toI x :: P).length : Int) - 1 = (P.length : Int) := by rw [hlp]; omega
      refine W_loop (f63_I h1 G h.nx h1.nx v u (toI x :: P)) (fun t => (toI x :: P).length - t) ?_ 0 ⟨by rw [hlp]; omega, fun j hj => ⟨x, by rw [show j = 0 by omega]; rfl, hxG, fun h => by omega⟩, q2, hc2, (q2.old h.nx (by omega)).trans e1, ⟨x, rfl, hx7, q3⟩, by rw [ePl]; simp (disch := omega) only [getK_set, Nat.reduceEqDiff, ↓reduceIte, and_self, Int.natCast_zero]⟩
      rintro t fr h3 ⟨ht, hcl, hG3, hc3, e3, ⟨y, hy, hy7, e5⟩, g1_, g2, g5, g26, g27, g28⟩
      rw [ePl] at g27
      have gr3 : Grow h.nx.nat h h3 := g1.trans (hG3.low (by omega))
      have l5 := ldn2 e5
      have hav : V.agg [.i .i64 (y.1 : Int), .i .i64 (y.2 : Int)] = pV (toI y) := rfl
      have bay : beqV (pV (toI y)) (pV (toI y)) = true := beq_2
      unfold f63_l0
      by_cases hlt : t < P.length
      · have d1 : decide ((t : Int) < (P.length : Int)) = true := decide_eq_true (by omega)
        have hsu3 := hsu.grow hc1 hG3
        obtain ⟨id2, qq, ua, ub, _, _⟩ := hsu3.at2 hlt
        obtain ⟨z, hz⟩ : ∃ z, P[t] = z := ⟨_, rfl⟩
        rw [hz] at ub
        have ub : loadV h3 (.p id2 qq) (many? 2) = .ok (pV z) h3 := ub
        have hzP : (toI x :: P)[t + 1]? = some z := by rw [List.getElem?_cons_succ, List.getElem?_eq_getElem hlt, hz]
        have hzI := hP z (List.mem_of_getElem? hzP)
        obtain ⟨w1, w2, w3, w4⟩ := pair_var (h := h3) (y := z)
        simp (disch := omega) only [f63_r5, f63_r6, Nat.reduceEqDiff, ↓reduceIte, g26, g27, g28, d1, ua, ub, w1, bz]
        generalize (h3.new (.cells 2 [.i .i64 0, .i .i64 0])).put h3.nx (.cells 2 [.i .i64 z.1, .i .i64 z.2]) = h4 at *
        have l7 := ldn2 w3
        have haz : V.agg [.i .i64 z.1, .i .i64 z.2] = pV z := rfl
        obtain ⟨v1, v2, v3, v4⟩ := pair_var (h := h4) (y := z)
        simp (disch := omega) only [f63_r7, Nat.reduceEqDiff, ↓reduceIte, l7, haz, k.n56, v1, bz]
        generalize (h4.new (.cells 2 [.i .i64 0, .i .i64 0])).put h4.nx (.cells 2 [.i .i64 z.1, .i .i64 z.2]) = h5 at *
        have hc4 := w2.hc hc3
        have hc5 := v2.hc hc4
        have lt5 := hc3.cells e5
        have lt2 := hc3.cells e3
        have g35 : Grow h3.nx.nat h3 h5 := w2.trans (v2.low w2.nx)
        have e5' := (g35.old h1.nx lt5).trans e5
        have e3' := (g35.old h.nx lt2).trans e3
        have l5' := ldn2 e5'
        have l8 := ldn2 v3
        have lG := rC_ldn hG e3'
        have k55 := ke.n55g G y z
        have haV : pV (toI y) = aV y := rfl
        cases hd : decide (z ∈ (fcY G y.1 y.2).map toI) with
        | false =>
          have hnz := of_decide_eq_false hd
          simp (disch := omega) only [f63_r8, f63_r9, f63_rs, Option.some.injEq, exists_eq_left', Nat.reduceEqDiff, ↓reduceIte, Bool.not_false, g2, g5, lG, l5', l8, hav, haz, haV, k55 _ _ hG hy7 hzI, hd, bz]
          refine ⟨false, rfl, ⟨(fun h => by cases h), fun hC => ?_⟩, gr3.trans (g35.low gr3.nx)⟩
          obtain ⟨x', h1, h2, h3⟩ := hC.2.1 (t + 1) (by rw [hlp]; omega)
          obtain ⟨w', h4, h5⟩ := h3 (by omega)
          rw [hzP] at h1
          rw [show t + 1 - 1 = t by omega, hy] at h4
          obtain rfl := toI_inj (Option.some.inj h4)
          exact absurd (by rw [Option.some.inj h1]; exact mem_mapI.2 h5) hnz
        | true =>
          obtain ⟨z', hz1, rfl⟩ := List.mem_map.1 (of_decide_eq_true hd)
          have hza := fcY_arr hz1
          have st_ : storeV h5 2 (.p h1.nx 0) (pV (toI z')) = .ok undefV (h5.put h1.nx (.cells 2 [.i .i64 (z'.1 : Int), .i .i64 (z'.2 : Int)])) := st2 e5'
          have gp : Grow h1.nx.nat h5 (h5.put h1.nx (.cells 2 [.i .i64 (z'.1 : Int), .i .i64 (z'.2 : Int)])) := Grow.put (Nat.le_refl _) (by have := g35.nx; omega) _
          have gg := (hG3.trans (g35.low hG3.nx)).trans gp
          simp (disch := omega) only [f63_r8, f63_r10, f63_r11, Nat.reduceEqDiff, ↓reduceIte, Bool.false_eq_true, Bool.not_true, g2, g5, g28, lG, l5', l8, hav, haz, haV, k55 _ _ hG hy7 hzI, hd, st_, bz]
          have hzl := rat_lt hza
          refine ⟨t + 1, by rw [hlp]; omega, by rw [hlp]; omega, hcl.add hzP hza fun _ => ⟨y, hy, hz1⟩, gg, gg.hc hc1, (get_put_other (kNe (by omega))).trans e3', ⟨z', hzP, hzl, get_put_same⟩, by rw [ePl]; simp (disch := omega) only [getK_set, Nat.reduceEqDiff, ↓reduceIte, g1_, g2, g5, g26, g27, and_self, Int.natCast_add, Int.natCast_one]⟩
      · have d1 : decide ((t : Int) < (P.length : Int)) = false := decide_eq_false (by omega)
        have et : t = P.length := by rw [hlp] at ht; omega
        obtain ⟨id3, q3_, xa, xb, _, _⟩ := (hv1.grow hc1 hG3).at2 (i := 0) (by rw [hlp]; omega)
        have xa : ∀ k h1, iadsV 2 v (.i k 0) h1 = .ok (.p id3 q3_) h1 := xa
        have xb : loadV h3 (.p id3 q3_) (many? 2) = .ok (pV (toI x)) h3 := xb
        have hq := keyEq_pVO (x := toI y) (y := ((toI x).2, (toI x).1)) (inI_nat hy7.1 hy7.2) (inI_nat hx7.2 hx7.1)
        have hres : toI y = ((toI x).2, (toI x).1) ↔ IsC G (toI x :: P) := by
          have hcl' : ClW G (toI x :: P) (toI x :: P).length := by rw [hlp, ← et]; exact hcl
          constructor
          · intro e
            exact ⟨by rw [hlp]; omega, hcl', toI x, rfl, by rw [hlp, Nat.add_sub_cancel, ← et, hy, e]⟩
          · rintro ⟨_, _, z, h1, h2⟩
            obtain rfl : toI x = z := Option.some.inj h1
            rw [hlp, Nat.add_sub_cancel, ← et, hy] at h2
            exact Option.some.inj h2
        cases hd : decide (toI y = ((toI x).2, (toI x).1)) with
        | false =>
          rw [hd] at hq
          simp (disch := omega) only [f63_r5, f63_r12, f63_rs, Option.some.injEq, exists_eq_left', Nat.reduceEqDiff, ↓reduceIte, Bool.false_eq_true, g1_, g5, g27, g28, d1, l5, hav, xa, xb, k.n56, k.n77, bay, hq, cond_false, bz]
          exact ⟨false, rfl, ⟨(fun h => by cases h), fun h => absurd (hres.2 h) (of_decide_eq_false hd)⟩, gr3⟩
        | true =>
          rw [hd] at hq
          simp (disch := omega) only [f63_r5, f63_r12, f63_rs, Option.some.injEq, exists_eq_left', Nat.reduceEqDiff, ↓reduceIte, Bool.false_eq_true, g1_, g5, g27, g28, d1, l5, hav, xa, xb, k.n56, k.n77, bay, hq, cond_false, bz]
          exact ⟨true, rfl, ⟨fun _ => hres.1 (of_decide_eq_true hd), fun _ => rfl⟩, gr3⟩
end
end Go.Ev
namespace Go.Ev
open Go Go.RowKit
section
variable {fs : T EF} {h h' : H}
structure CallsIc (fs : T EF) : Prop extends CallsOr fs, CallsEi fs where
  c63 : fs.get (K.ofNat 63) = some f63
theorem f30_ret {n : Nat} {v w : V} {g : Nat → Nat → Bool} {P : List (Int × Int)} (k : CallsIc fs) (hg : Gph n g) (hv : Srp h v (arI g)) (hw : Srp h w P) (hP : ∀ y ∈ P, inI y) (hl : P.length ≤ 1000) (hc : HC h) : Ret fs f30 [.i .i64 (n : Int), v, w] h fun r h' => ∃ b, r = .tup [.b b, .i .i64 0] ∧ (b = true ↔ IsC (gR (arI g)) P) ∧ Grow h.nx.nat h h' := by
  have hlb := arI_len (g := g)
  apply ret_of rfl
  show W fs none f30_c _ _ _
  unfold f30_c
  simp (disch := omega) only [f30_r0, f30_r1, Nat.reduceEqDiff, ↓reduceIte, bz]
  refine (callP_0 (ef := f47) k.c47 rfl (f47_ret k.toCallsCk hv (by omega) hc)).mono ?_
  rintro r h1 ⟨rfl, g1⟩
  rw [chkG_g hg]
  have ne0 : decide ((0 : Int) ≠ 0) = false := rfl
  have hc1 := g1.hc hc
  simp (disch := omega) only [f30_r2, f30_r4, Nat.reduceEqDiff, ↓reduceIte, Bool.false_eq_true, ne0, bz]
  refine (callP_0 (ef := f48) k.c48 rfl (f48_ret k.toNat2 (hv.grow hc g1) nd_arI (by omega) hc1)).mono ?_
  rintro r h2 ⟨rfl, g2⟩
  have hc2 := g2.hc hc1
  simp (disch := omega) only [Nat.reduceEqDiff, ↓reduceIte, bz]
  refine (callP_0 (ef := f63) k.c63 rfl (f63_ret k.toNat4 k.toCallsEi (symR_g hg) ((hw.grow hc g1).grow hc1 g2) hP hl hc2)).mono ?_
  rintro r h3 ⟨b, rfl, hb, g3⟩
  simp (disch := omega) only [f30_rs, Option.some.injEq, exists_eq_left', Nat.reduceEqDiff, ↓reduceIte, bz]
  exact ⟨b, rfl, hb, g1.trans ((g2.low g1.nx).trans (g3.low (by have := g1.nx; have := g2.nx; omega)))⟩
/-! ### The reference's IsClash -/
structure CallsRi (fs : T EF) : Prop extends CallsJn fs where
  c19 : fs.get (K.ofNat 19) = some f19
  c20 : fs.get (K.ofNat 20) = some f20
def f28_I (h0 : H) (n : Nat) (e v : V) (G : List Bool) (P : List (Int × Int)) (i : Nat) (fr : Fr) (h1 : H) : Prop := i ≤ P.length ∧ ClW G P i ∧ Grow h0.nx.nat h0 h1 ∧ HC h1 ∧ fr.get (K.ofNat 0) = some (.i .i64 (n : Int)) ∧ fr.get (K.ofNat 1) = some (e) ∧ fr.get (K.ofNat 2) = some (v) ∧ fr.get (K.ofNat 7) = some (.i .i64 (i : Int))
theorem f28_ret {n : Nat} {e v : V} {g : Nat → Nat → Bool} {P : List (Int × Int)} (k : CallsRi fs) (hg : Gph n g) (he : Srp h e (arI g)) (hv : Srp h v P) (_hP : ∀ y ∈ P, inI y) (hl : P.length ≤ 1000) (hc : HC h) : Ret fs f28 [.i .i64 (n : Int), e, v] h fun r h' => ∃ b, r = .b b ∧ (b = true ↔ IsC (gR (arI g)) P) ∧ Grow h.nx.nat h h' := by
  have sy := symR_g hg
  apply ret_of rfl
  show W fs none f28_c _ _ _
  unfold f28_c
  have hlen := hv.len
  by_cases h2 : P.length < 2
  · have d0 : decide ((P.length : Int) < 2) = true := decide_eq_true (by omega)
    simp (disch := omega) only [f28_r0, f28_r1, f28_r2, f28_rs, Option.some.injEq, exists_eq_left', Nat.reduceEqDiff, ↓reduceIte, hlen, d0, bz]
    refine ⟨false, rfl, ⟨(fun h => by cases h), fun hC => ?_⟩, Grow.refl _ _⟩
    obtain ⟨h1, h3, x, h4, h5⟩ := hC
    obtain ⟨y, h6, h7, _⟩ := h3 0 (by omega)
    rw [show P.length - 1 = 0 by omega, h4] at h5
    rw [h4] at h6
    have e1 := Option.some.inj h6
    subst e1
    have e2 := congrArg Prod.fst (Option.some.inj h5)
    have e2 : (y.1 : Int) = (y.2 : Int) := e2
    have e3 : y.1 = y.2 := by omega
    rw [← e3] at h7
    exact absurd h7 (sy.gr.irr _)
  · have d0 : decide ((P.length : Int) < 2) = false := decide_eq_false (by omega)
    simp (disch := omega) only [f28_r0, f28_r1, f28_r3, Nat.reduceEqDiff, ↓reduceIte, Bool.false_eq_true, hlen, d0, bz]
    refine W_loop (f28_I h n e v (gR (arI g)) P) (fun i => P.length - i) ?_ 0 ⟨by omega, fun j hj => by omega, Grow.refl _ _, hc, by simp (disch := omega) only [getK_set, Nat.reduceEqDiff, ↓reduceIte, and_self, Int.natCast_zero]⟩
    rintro i fr h1 ⟨hi, hcl, hG, hc1, g0, g1, g2, g7⟩
    have hv1 := hv.grow hc hG
    have he1 := he.grow hc hG
    unfold f28_l0
    by_cases hlt : i < P.length
    · have d1 : decide ((i : Int) < (P.length : Int)) = true := decide_eq_true (by omega)
      obtain ⟨id, q, pa, pb, _, _⟩ := hv1.at2 hlt
      obtain ⟨p, hp⟩ : ∃ p, P[i] = p := ⟨_, rfl⟩
      rw [hp] at pb
      have pb : loadV h1 (.p id q) (many? 2) = .ok (pV p) h1 := pb
      have hpi : P[i]? = some p := by rw [List.getElem?_eq_getElem hlt, hp]
      simp (disch := omega) only [f28_r4, f28_r5, Nat.reduceEqDiff, ↓reduceIte, g0, g1, g2, g7, hlen, d1, pa, pb, bz]
      refine (callP_0 (ef := f19) k.c19 rfl (f19_ret (x := p) k.toCallsJn hg he1 hc1)).mono ?_
      rintro r h3 ⟨rfl, g3⟩
      have hc3 := g3.hc hc1
      have hG3 := hG.trans (g3.low hG.nx)
      cases hh : hasR (gR (arI g)) p with
      | false =>
        simp (disch := omega) only [f28_r6, f28_rs, Option.some.injEq, exists_eq_left', Nat.reduceEqDiff, ↓reduceIte, Bool.false_eq_true, Bool.not_true, Bool.not_false, bz]
        refine ⟨false, rfl, ⟨(fun h => by cases h), fun hC => ?_⟩, hG3⟩
        obtain ⟨x, h1, h2, _⟩ := hC.2.1 i hlt
        rw [hpi] at h1
        obtain rfl : p = toI x := Option.some.inj h1
        have hx := rat_lt h2
        have hh : hasR (gR (arI g)) ((x.1 : Int), (x.2 : Int)) = false := hh
        rw [hasR_nat hx.1 hx.2, h2] at hh
        cases hh
      | true =>
        obtain ⟨x, rfl, hx7, hxG⟩ := hasR_arr hh
        by_cases h0 : 0 < i
        · have d2 : decide ((i : Int) > 0) = true := decide_eq_true (by omega)
          have d2' : decide (0 < (i : Int)) = true := decide_eq_true (by omega)
          obtain ⟨j, rfl⟩ : ∃ j, i = j + 1 := ⟨i - 1, by omega⟩
          have hj1 : ((j + 1 : Nat) : Int) - 1 = (j : Int) := by omega
          obtain ⟨w, hw, hwG, _⟩ := hcl j (by omega)
          have hw7 := rat_lt hwG
          have hjl : j < P.length := by omega
          have hv3 := hv1.grow hc1 g3
          obtain ⟨id2, q2, wa, wb, _, _⟩ := hv3.at2 hjl
          have hpj : P[j] = toI w := by rw [List.getElem?_eq_getElem hjl] at hw; exact Option.some.inj hw
          rw [hpj] at wb
          have wb : loadV h3 (.p id2 q2) (many? 2) = .ok (aV w) h3 := wb
          obtain ⟨id3, q3, xa, xb, _, _⟩ := hv3.at2 hlt
          rw [hp] at xb
          have xb : loadV h3 (.p id3 q3) (many? 2) = .ok (aV x) h3 := xb
          simp (disch := omega) only [Nat.reduceEqDiff, ↓reduceIte, Bool.not_true, Bool.not_false, g1, g2, g7, d2, hj1, wa, wb, xa, xb, bz]
          refine (callP_0 (ef := f20) k.c20 rfl (f20_ret (x := w) (y := x) k.toCallsJn hg (he1.grow hc1 g3) hw7 hx7 hc3)).mono ?_
          rintro r h4 ⟨rfl, g4⟩
          have hG4 := hG3.trans (g4.low hG3.nx)
          have hfr := fcY_frcB sy (x := w) hxG
          cases hf : frcB (gR (arI g)) w x with
          | false =>
            rw [hf] at hfr
            simp (disch := omega) only [f28_r6, f28_rs, Option.some.injEq, exists_eq_left', Nat.reduceEqDiff, ↓reduceIte, Bool.false_eq_true, Bool.not_false, bz]
            refine ⟨false, rfl, ⟨(fun h => by cases h), fun hC => ?_⟩, hG4⟩
            obtain ⟨x', h1, _, h3⟩ := hC.2.1 (j + 1) hlt
            rw [hpi] at h1
            obtain rfl := toI_inj (Option.some.inj h1)
            obtain ⟨w', h4, h5⟩ := h3 (by omega)
            rw [Nat.add_sub_cancel, hw] at h4
            obtain rfl := toI_inj (Option.some.inj h4)
            exact absurd h5 (of_decide_eq_false hfr)
          | true =>
            rw [hf] at hfr
            simp (disch := omega) only [f28_r7, Nat.reduceEqDiff, ↓reduceIte, Bool.false_eq_true, Bool.not_true, Bool.not_false, g7, bz]
            exact ⟨j + 1 + 1, by omega, by omega, hcl.add hpi hxG fun _ => ⟨w, by rw [Nat.add_sub_cancel]; exact hw, of_decide_eq_true hfr⟩, hG4, g4.hc hc3, by simp (disch := omega) only [getK_set, Nat.reduceEqDiff, ↓reduceIte, g0, g1, g2, and_self, Int.natCast_add, Int.natCast_one]⟩
        · have d2 : decide ((i : Int) > 0) = false := decide_eq_false (by omega)
          have d2' : decide (0 < (i : Int)) = false := decide_eq_false (by omega)
          simp (disch := omega) only [f28_r7, Nat.reduceEqDiff, ↓reduceIte, Bool.false_eq_true, Bool.not_true, Bool.not_false, g7, d2, bz]
          exact ⟨i + 1, by omega, by omega, hcl.add hpi hxG fun h => absurd h h0, hG3, hc3, by simp (disch := omega) only [getK_set, Nat.reduceEqDiff, ↓reduceIte, g0, g1, g2, and_self, Int.natCast_add, Int.natCast_one]⟩
    · have d1 : decide ((i : Int) < (P.length : Int)) = false := decide_eq_false (by omega)
      have ei : i = P.length := by omega
      subst ei
      obtain ⟨m, hm⟩ : ∃ m, P.length = m + 1 := ⟨P.length - 1, by omega⟩
      have hm1 : ((P.length : Nat) : Int) - 1 = (m : Int) := by omega
      obtain ⟨x, hx, hxG, _⟩ := hcl 0 (by omega)
      obtain ⟨y, hy, hyG, _⟩ := hcl m (by omega)
      have hx7 := rat_lt hxG
      have hy7 := rat_lt hyG
      obtain ⟨id1, q1, xa, _, xc, xd⟩ := hv1.at2 (i := 0) (by omega)
      obtain ⟨id2, q2, ya, yb, _, _⟩ := hv1.at2 (i := m) (by omega)
      have hP0 : P[0]'(by omega) = toI x := by rw [List.getElem?_eq_getElem (by omega)] at hx; exact Option.some.inj hx
      have hPm : P[m]'(by omega) = toI y := by rw [List.getElem?_eq_getElem (by omega)] at hy; exact Option.some.inj hy
      rw [hP0] at xc xd
      rw [hPm] at yb
      have xa : ∀ k h1, iadsV 2 v (.i k 0) h1 = .ok (.p id1 q1) h1 := xa
      have xc : loadV h1 (.p id1 (q1 + 0 * 1)) one? = .ok (.i .i64 (x.1 : Int)) h1 := xc
      have xd : loadV h1 (.p id1 (q1 + 1 * 1)) one? = .ok (.i .i64 (x.2 : Int)) h1 := xd
      have yb : loadV h1 (.p id2 q2) (many? 2) = .ok (aV y) h1 := yb
      have hav : V.agg [.i .i64 (x.2 : Int), .i .i64 (x.1 : Int)] = aV (swN x) := rfl
      have hq := keyEq_aV (x := y) (y := swN x) hy7 ⟨hx7.2, hx7.1⟩
      have hres : y = swN x ↔ IsC (gR (arI g)) P := by
        constructor
        · intro e
          exact ⟨by omega, hcl, toI x, hx, by rw [hm, Nat.add_sub_cancel, hy, e]; rfl⟩
        · rintro ⟨_, _, z, h1, h2⟩
          rw [hx] at h1
          obtain rfl := Option.some.inj h1
          rw [hm, Nat.add_sub_cancel, hy] at h2
          have h2 := Option.some.inj h2
          exact toI_inj h2
      cases hd : decide (y = swN x) with
      | false =>
        rw [hd] at hq
        simp (disch := omega) only [f28_r4, f28_r8, f28_rs, xg_len, Option.some.injEq, exists_eq_left', Nat.reduceEqDiff, ↓reduceIte, Bool.false_eq_true, g2, g7, hlen, d1, hm1, ya, yb, xa, xc, xd, hav, hq, cond_false, bz]
        exact ⟨false, rfl, ⟨(fun h => by cases h), fun h => absurd (hres.2 h) (of_decide_eq_false hd)⟩, hG⟩
      | true =>
        rw [hd] at hq
        simp (disch := omega) only [f28_r4, f28_r8, f28_rs, xg_len, Option.some.injEq, exists_eq_left', Nat.reduceEqDiff, ↓reduceIte, Bool.false_eq_true, g2, g7, hlen, d1, hm1, ya, yb, xa, xc, xd, hav, hq, cond_false, bz]
        exact ⟨true, rfl, ⟨fun _ => hres.1 (of_decide_eq_true hd), fun _ => rfl⟩, hG⟩
/-! ### The reference's Graph -/
def f27_A (h0 : H) (n : Nat) (v : V) (G : Nat → Nat → Bool) (a : Nat) (fr : Fr) (h1 : H) : Prop := a ≤ n ∧ ∃ u, Sk 2 qE h1 u (arP G (7 * a)) ∧ Own h0.nx.nat u ∧ Grow h0.nx.nat h0 h1 ∧ fr.get (K.ofNat 0) = some (.i .i64 (n : Int)) ∧ fr.get (K.ofNat 1) = some (v) ∧ fr.get (K.ofNat 5) = some (u) ∧ fr.get (K.ofNat 6) = some (.i .i64 (a : Int))
def f27_B (h0 : H) (n : Nat) (v : V) (G : Nat → Nat → Bool) (a : Nat) (b : Nat) (fr : Fr) (h1 : H) : Prop := a + 1 ≤ b ∧ b ≤ n ∧ ∃ u, Sk 2 qE h1 u (arP G (7 * a + b)) ∧ Own h0.nx.nat u ∧ Grow h0.nx.nat h0 h1 ∧ fr.get (K.ofNat 0) = some (.i .i64 (n : Int)) ∧ fr.get (K.ofNat 1) = some (v) ∧ fr.get (K.ofNat 5) = some (u) ∧ fr.get (K.ofNat 6) = some (.i .i64 (a : Int)) ∧ fr.get (K.ofNat 7) = some (.i .i64 (b : Int))
theorem f27_ret {n : Nat} {v : V} {g : Nat → Nat → Bool} {F : List Bool} (h40 : fs.get (.ofNat 40) = some f40) (hg : Gph n g) (hgF : ∀ a b, a < b → (g a b = true ↔ rat F a b = true ∨ rat F b a = true)) (hv : Srp h v (arI (rat F))) (hc : HC h) : Ret fs f27 [.i .i64 (n : Int), v] h fun r h' => Sk 2 qE h' r (arI g) ∧ Own h.nx.nat r ∧ Grow h.nx.nat h h' := by
  have hlb := arI_len (g := rat F)
  have hn7 := hg.n7
  apply ret_of rfl
  show W fs none f27_c _ _ _
  unfold f27_c
  simp (disch := omega) only [f27_r0, f27_r1, f27_r2, bz]
  refine W_loop (f27_A h n v g) (fun a => n - a) ?_ 0 ⟨by omega, .sn, Sk.nil, Own.sn, Grow.refl _ _, by simp (disch := omega) only [getK_set, Nat.reduceEqDiff, ↓reduceIte, and_self, Int.natCast_zero]⟩
  rintro a fr h1 ⟨ha, u, hs, ho, hG, g0, g1, g5, g6⟩
  unfold f27_l1
  by_cases hlt : a < n
  · have d0 : decide ((a : Int) < (n : Int)) = true := decide_eq_true (by omega)
    have e0 : arP g (7 * a + (a + 1)) = arP g (7 * a) := by
      have := arP_skip (g := g) (a := a) (b := 0) (c := a + 1) (by omega) (by omega) (fun d _ hd => by
        cases e : g a d with
        | false => rfl
        | true => have := (hg.up _ _ e).1; omega)
      rw [this, Nat.add_zero]
    simp (disch := omega) only [f27_r3, f27_r4, Nat.reduceEqDiff, ↓reduceIte, g0, g6, d0, bz]
    refine W_loop (f27_B h n v g a) (fun b => n + 1 - b) ?_ (a + 1) ⟨by omega, by omega, u, by rw [e0]; exact hs, ho, hG, by simp (disch := omega) only [getK_set, Nat.reduceEqDiff, ↓reduceIte, g0, g1, g5, g6, and_self, Int.natCast_add, Int.natCast_one]⟩
    clear hs ho hG g0 g1 g5 g6 fr
    rintro b fr h2 ⟨hab, hb, u, hs, ho, hG, g0, g1, g5, g6, g7⟩
    have hc2 := hG.hc hc
    have hv2 := hv.grow hc hG
    unfold f27_l0
    by_cases hlt2 : b < n
    · have d1 : decide ((b : Int) < (n : Int)) = true := decide_eq_true (by omega)
      have hsu := arP_succ (g := g) (a := a) (b := b) (by omega)
      have hpa : V.agg [.i .i64 (a : Int), .i .i64 (b : Int)] = pV ((a : Int), (b : Int)) := rfl
      have hpb : V.agg [.i .i64 (b : Int), .i .i64 (a : Int)] = pV ((b : Int), (a : Int)) := rfl
      have ia : decide (((a : Int), (b : Int)) ∈ arI (rat F)) = rat F a b := by
        rw [Bool.eq_iff_iff, decide_eq_true_eq, mem_arI']
        exact ⟨fun h => h.2.2, fun h => ⟨by omega, by omega, h⟩⟩
      have ib : decide (((b : Int), (a : Int)) ∈ arI (rat F)) = rat F b a := by
        rw [Bool.eq_iff_iff, decide_eq_true_eq, mem_arI']
        exact ⟨fun h => h.2.2, fun h => ⟨by omega, by omega, h⟩⟩
      have push : ∀ {h3 : H}, Grow h.nx.nat h h3 → HC h3 → Sk 2 qE h3 u (arP g (7 * a + b)) → ∃ u' h4, appV 2 (h3.new (.cells (1 * 2) [.i .i64 (a : Int), .i .i64 (b : Int)])) u (.sl h3.nx 0 1 2) = .ok u' h4 ∧ Sk 2 qE h4 u' (arP g (7 * a + b) ++ [((a : Int), (b : Int))]) ∧ Own h.nx.nat u' ∧ Grow h.nx.nat h3 h4 := fun {h3} gB hc3 hs3 => by
        have hl := arP_len (g := g) (i := 7 * a + b)
        obtain ⟨u', h4, a1, s1, o1, gr1, _⟩ := Sk.push qE_len (by omega) (x := ((a : Int), (b : Int))) hs3 ho gB.nx hc3 (by omega)
        exact ⟨u', h4, a1, s1, o1, gr1⟩
      have cp : cellsN 2 (.agg [.i .i64 (a : Int), .i .i64 (b : Int)]) = some [.i .i64 (a : Int), .i .i64 (b : Int)] := rfl
      have cp2 : cellsN 2 (pV ((a : Int), (b : Int))) = some [.i .i64 (a : Int), .i .i64 (b : Int)] := rfl
      have sp : setMany [V.i .i64 0, V.i .i64 0] 0 [V.i .i64 (a : Int), V.i .i64 (b : Int)] = [V.i .i64 (a : Int), V.i .i64 (b : Int)] := rfl
      simp (disch := omega) only [f27_r5, f27_r6, Nat.reduceEqDiff, ↓reduceIte, g0, g1, g6, g7, d1, hpa, bz]
      refine (callP_0 (ef := f40) h40 rfl (f40_ret hv2 inI_arI (x := ((a : Int), (b : Int))) (inI_nat (by omega) (by omega)) (by omega) hc2)).mono ?_
      rintro r h3 ⟨rfl, g3⟩
      rw [ia]
      have hc3 := g3.hc hc2
      have hs3 := hs.grow hc2 g3
      have gB := hG.trans (g3.low hG.nx)
      cases hr : rat F a b with
      | true =>
        rw [if_pos ((hgF a b (by omega)).2 (.inl hr))] at hsu
        obtain ⟨u', h4, a1, s1, o1, gr1⟩ := push gB hc3 hs3
        simp (disch := omega) only [f27_r7, f27_r8, Nat.reduceEqDiff, ↓reduceIte, Bool.false_eq_true, Bool.not_true, g5, g6, g7, hpa, fill_c, cp2, sp, a1, bz]
        exact ⟨b + 1, by omega, by omega, by omega, u', by rw [hsu]; exact s1, o1, gB.trans gr1, by simp (disch := omega) only [getK_set, Nat.reduceEqDiff, ↓reduceIte, g0, g1, g6, and_self, Int.natCast_add, Int.natCast_one]⟩
      | false =>
        simp (disch := omega) only [Nat.reduceEqDiff, ↓reduceIte, Bool.not_false, g1, g6, g7, hpb, bz]
        refine (callP_0 (ef := f40) h40 rfl (f40_ret (hv2.grow hc2 g3) inI_arI (x := ((b : Int), (a : Int))) (inI_nat (by omega) (by omega)) (by omega) hc3)).mono ?_
        rintro r h4 ⟨rfl, g4⟩
        rw [ib]
        have hc4 := g4.hc hc3
        have hs4 := hs3.grow hc3 g4
        have gC := gB.trans (g4.low gB.nx)
        cases hr2 : rat F b a with
        | true =>
          rw [if_pos ((hgF a b (by omega)).2 (.inr hr2))] at hsu
          obtain ⟨u', h5, a1, s1, o1, gr1⟩ := push gC hc4 hs4
          simp (disch := omega) only [f27_r7, f27_r8, Nat.reduceEqDiff, ↓reduceIte, Bool.false_eq_true, g5, g6, g7, hpa, fill_c, cp2, sp, a1, bz]
          exact ⟨b + 1, by omega, by omega, by omega, u', by rw [hsu]; exact s1, o1, gC.trans gr1, by simp (disch := omega) only [getK_set, Nat.reduceEqDiff, ↓reduceIte, g0, g1, g6, and_self, Int.natCast_add, Int.natCast_one]⟩
        | false =>
          rw [if_neg (fun h => by rcases (hgF a b (by omega)).1 h with h | h
                                  · rw [h] at hr; cases hr
                                  · rw [h] at hr2; cases hr2), List.append_nil] at hsu
          simp (disch := omega) only [f27_r8, Nat.reduceEqDiff, ↓reduceIte, Bool.false_eq_true, g7, bz]
          exact ⟨b + 1, by omega, by omega, by omega, u, by rw [hsu]; exact hs4, ho, gC, by simp (disch := omega) only [getK_set, Nat.reduceEqDiff, ↓reduceIte, g0, g1, g5, g6, and_self, Int.natCast_add, Int.natCast_one]⟩
    · have d1 : decide ((b : Int) < (n : Int)) = false := decide_eq_false (by omega)
      have eb : b = n := by omega
      have e1 : arP g (7 * (a + 1)) = arP g (7 * a + b) := arP_row (by omega) (fun d hd _ => by
        cases e : g a d with
        | false => rfl
        | true => have := (hg.up _ _ e).2; omega)
      simp (disch := omega) only [f27_r5, f27_r9, Nat.reduceEqDiff, ↓reduceIte, Bool.false_eq_true, g0, g6, g7, d1, bz]
      exact ⟨a + 1, by omega, by omega, u, by rw [e1]; exact hs, ho, hG, by simp (disch := omega) only [getK_set, Nat.reduceEqDiff, ↓reduceIte, g0, g1, g5, and_self, Int.natCast_add, Int.natCast_one]⟩
  · have d0 : decide ((a : Int) < (n : Int)) = false := decide_eq_false (by omega)
    have ea : a = n := by omega
    have e1 : arP g (7 * a) = arI g := arP_end (by omega) (fun x d hx _ hd => by
      cases e : g x d with
      | false => rfl
      | true => have := hg.up _ _ e; omega)
    rw [e1] at hs
    simp (disch := omega) only [f27_r3, f27_r10, f27_rs, Option.some.injEq, exists_eq_left', Nat.reduceEqDiff, ↓reduceIte, Bool.false_eq_true, g0, g5, g6, d0, bz]
    exact ⟨hs, ho, hG⟩
/-! ### few -/
theorem f29_ret {v : V} {P : List (Int × Int)} {m : Nat} (hm : m ≤ 100) (hv : Srp h v P) (hc : HC h) : Ret fs f29 [v, .i .i64 (m : Int)] h fun r h' => Sk 2 qE h' r (P.take (min P.length m)) ∧ Own h.nx.nat r ∧ Grow h.nx.nat h h' := by
  apply ret_of rfl
  show W fs none f29_c _ _ _
  unfold f29_c
  have hl := hv.len
  have hmin : min (P.length : Int) (m : Int) = ((min P.length m : Nat) : Int) := by omega
  obtain ⟨u, hu, hsu, _⟩ := hv.cut (u := min P.length m) (kk := .i64) (Nat.min_le_left _ _)
  obtain ⟨w, h2, ha, hs2, ho2, g2⟩ := hsu.appN hc (by rw [List.length_take]; omega)
  simp (disch := omega) only [f29_r0, f29_r1, f29_r2, f29_rs, x_slice, sliceV_eq, Option.map_none, Option.map_some, x_min, min_ii, Option.some.injEq, exists_eq_left', Nat.reduceEqDiff, ↓reduceIte, hl, hmin, hu, ha, bz]
  exact ⟨hs2, ho2, g2⟩
end
end Go.Ev
