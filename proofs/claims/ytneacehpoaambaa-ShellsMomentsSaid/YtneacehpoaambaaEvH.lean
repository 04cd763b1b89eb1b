/-
  The evaluator, part H: slices that are made, cut and appended to; maps.
-/
import Derived.Test.YtneacehpoaambaaEvG
namespace Go.Ev
open Go Go.RowKit
section ops
variable {Y : Rig} {nt : Nat} {ι : Io} {fr : Fr} {a : Act} {h h' : H} {w : World} {v : V} {d : Option Tmp} {ty : TypeId} {pos : String} {aft : Array Edge} {g : Option (Nat × Bool)}

theorem op_mkslice (ha : AR nt ι fr a) (hr : WR Y.tab ι h w) {t e : TypeId} {dt de : TD} {z : List V} {x y : Operand} {x' : EO} (ht : Y.tab t = some dt) (hd : dt.desc = .slice e) (hde : Y.tab e = some de) (hz : zeroOf de = some z) (hp : 0 < de.size) (hl : z.length = de.size) (hb : de.bytes ≤ 1000000)
    (hxy : sameOp x y = true) (hx : eo x = some x') (he : mksV de.size z h (ev fr x') = .ok v h') : OpOk Y h ι a w ⟨d, .makeSlice t x y, ty, pos, aft, g⟩ v h' := by
  obtain ⟨k, m, hm, he1⟩ := V.onI_ok he
  obtain ⟨n, hn, he2⟩ := oGet_ok he1
  obtain ⟨hc, he3⟩ := cond_ok RV.no_ne he2
  have hc := Nat.le_of_ble_eq_true hc
  have hmn := nonneg_some hn
  subst hmn
  cases he3
  have hv := ha.ev hx
  rw [hm] at hv
  have hev := hv.of_i
  have hevy : a.eval y = .int k (n : Int) := by
    rw [← hev]
    cases x <;> cases y <;> simp only [sameOp] at hxy <;> try cases hxy
    · have : ‹Tmp› = ‹Tmp› := rfl
      rename_i t1 t2
      have e : t1 = t2 := by simpa using hxy
      rw [e]
    · rename_i v1 v2
      cases v1 <;> cases v2 <;> simp only [] at hxy <;> try cases hxy
      simp only [Bool.and_eq_true, beq_iff_eq] at hxy
      rw [hxy.1, hxy.2]
  obtain ⟨h1, h2⟩ := zeros_rel (ι := ι) hz hl hp n
  have hlen : (rep z n).length = n * de.size := by rw [rep_length, hl]
  obtain ⟨hs, hw⟩ := cells_new (t := e) hr hlen h1 h2
  obtain ⟨i, hi, hi1, hi2, hi3⟩ := Rig.info hde
  refine ⟨.slice (some ⟨w.heap.size, 0, none⟩) n n, _, _, .inl ?_, hs, ?_, hw⟩
  · have hw1 : IntKind.i64.wrap (n : Int) = n := wrap_in .i64 _ (by simp only [kmin]; omega) (by simp only [kmax]; omega)
    have hby : de.bytes * n ≤ 1000000000000 := Nat.le_trans (Nat.mul_le_mul hb hc) (by decide)
    have hbi : ((de.bytes : Int) * (n : Int)) ≤ 1000000000000 := by rw [← Int.natCast_mul]; omega
    have c1 : ¬ ((281474976710656 : Int) < (de.bytes : Int) * (n : Int)) := by omega
    have c2 : ¬ ((n : Int) < 0) := by omega
    have c3 : ¬ (roomBytes < n * de.bytes) := by rw [Nat.mul_comm]; have : roomBytes = 140737488355328 := rfl; omega
    have hti : (typeInfo e).run Y.P w = .ok i w := by simp [typeInfo, hi]
    simp only [execOp, Instr.makeSlice, hev, hevy, Sem.run_bind, Rig.und ht, hd, Result.andThen_ok, asInt, asIntOf, Sem.run_pure, hti, hi2, hw1]
    rw [if_neg (show ¬ ((decide ((n : Int) < 0) || decide ((de.bytes : Int) * (n : Int) > 2 ^ 48) || decide ((n : Int) < 0) || decide ((n : Int) > (n : Int))) = true) by simp only [Bool.or_eq_true, decide_eq_true_eq]; omega)]
    simp only [Int.toNat_natCast, askRoom, if_neg c3, Sem.run_pure, Result.andThen_ok, Sem.run_bind, Rig.size hde]
    by_cases h0 : n * de.size = 0
    · have hn0 : n = 0 := by rcases Nat.mul_eq_zero.1 h0 with h | h <;> omega
      subst hn0
      simp [newRow, show Array.range 0 = #[] from rfl]
    · simp [h0, Rig.zero hde, newRow]
  · have := VR.sl (off := 0) (n := n) (sz := de.size) (c := n) (updI_same ι h.nx ⟨w.heap.size, 0, ((Array.range (n * de.size)).map fun i => de.zero.cells[i % de.zero.cells.size]!).size⟩) (by simp) (Nat.le_refl _) hp
    simpa using this

theorem bound_rel (ha : AR nt ι fr a) {o : Option Operand} {o' : Option EO} {dflt l : Nat} (ho : optEo o = some o') (hb : bound fr o' dflt = some l) : (o = none ∧ o' = none ∧ l = dflt) ∨ ∃ x x' k, o = some x ∧ o' = some x' ∧ a.eval x = .int k (l : Int) := by
  cases o with
  | none => cases ho; cases hb; exact .inl ⟨rfl, rfl, rfl⟩
  | some x =>
    unfold optEo at ho
    cases hx : eo x with
    | none => simp [hx] at ho
    | some x' =>
      simp [hx] at ho
      subst ho
      obtain ⟨k, m, hm, he⟩ := V.onIo_ok (show (ev fr x').onI none (fun _ n => nonneg n) = some l from hb)
      have := nonneg_some he
      subst this
      have hv := ha.ev hx
      rw [hm] at hv
      exact .inr ⟨x, x', k, rfl, rfl, hv.of_i⟩

theorem sb_run {lo hi mx : Option Operand} {n c l u m : Nat} {k1 k2 k3 : IntKind} (hl : (lo = none ∧ l = 0) ∨ ∃ x, lo = some x ∧ a.eval x = .int k1 (l : Int)) (hu : (hi = none ∧ u = n ∧ mx = none) ∨ ∃ x, hi = some x ∧ a.eval x = .int k2 (u : Int)) (hm : (mx = none ∧ m = c) ∨ ∃ x, mx = some x ∧ a.eval x = .int k3 (m : Int))
    (h1 : l ≤ u) (h2 : u ≤ m) (h3 : m ≤ c) : (Instr.sliceBounds true n c (lo.map a.eval) (hi.map a.eval) (mx.map a.eval)).run Y.P w = .ok (l, u, m) w := by
  have i1 : (l : Int) ≤ (u : Int) := by omega
  have i2 : (u : Int) ≤ (m : Int) := by omega
  have i3 : (m : Int) ≤ (c : Int) := by omega
  have p1 : (0 : Int) ≤ (l : Int) := by omega
  have p2 : (0 : Int) ≤ (u : Int) := by omega
  have p3 : (0 : Int) ≤ (m : Int) := by omega
  rcases hl with ⟨rfl, rfl⟩ | ⟨x, rfl, hx⟩ <;> rcases hu with ⟨rfl, rfl, rfl⟩ | ⟨y, rfl, hy⟩ <;> rcases hm with ⟨hm1, hm2⟩ | ⟨z, hm1, hz⟩ <;> (try subst hm1) <;> (try subst hm2) <;> (try cases hm1) <;>
    simp [Instr.sliceBounds, Instr.sliceBound, *, asIntOf]

theorem op_slice (ha : AR nt ι fr a) (hr : WR Y.tab ι h w) {t e : TypeId} {dt de : TD} {x : Operand} {x' : EO} {lo hi mx : Option Operand} {lo' hi' mx' : Option EO} (ht : Y.tab t = some dt) (hd : dt.desc = .slice e) (hde : Y.tab e = some de) (hx : eo x = some x') (hlo : optEo lo = some lo') (hhi : optEo hi = some hi') (hmx : optEo mx = some mx')
    (he : sliceV fr de.size (ev fr x') lo' hi' mx' h = .ok v h') (hmh : mx.isSome = true → hi.isSome = true) : OpOk Y h ι a w ⟨d, .slice t x lo hi mx, ty, pos, aft, g⟩ v h' := by
  have hv := ha.ev hx
  have hmh' : mx = none ∨ ∃ y, hi = some y := by
    cases mx with
    | none => exact .inl rfl
    | some m => cases hi with | none => simp at hmh | some y => exact .inr ⟨y, rfl⟩
  rcases V.onSl_ok RV.no_ne he with ⟨hb, he1⟩ | ⟨id, off, n, sz', hb, he1⟩
  · rw [hb] at hv
    generalize hxv : a.eval x = xv at hv
    cases hv
    obtain ⟨l, hl, he2⟩ := oGet_ok he1
    obtain ⟨u, hu, he3⟩ := oGet_ok he2
    obtain ⟨m, hm, he4⟩ := oGet_ok he3
    obtain ⟨hc, he5⟩ := cond_ok RV.no_ne he4
    cases he5
    simp only [Bool.and_eq_true, Nat.beq_eq] at hc
    obtain ⟨⟨rfl, rfl⟩, rfl⟩ := hc
    have hrun : (Instr.sliceBounds true 0 0 (lo.map a.eval) (hi.map a.eval) (mx.map a.eval)).run Y.P w = .ok (0, 0, 0) w := by
      have b1 := bound_rel ha hlo hl
      have b2 := bound_rel ha hhi hu
      have b3 := bound_rel ha hmx hm
      rcases b1 with ⟨rfl, _, _⟩ | ⟨x1, _, k1, rfl, _, e1⟩ <;> rcases b2 with ⟨rfl, _, _⟩ | ⟨x2, _, k2, rfl, _, e2⟩ <;> rcases b3 with ⟨rfl, _, _⟩ | ⟨x3, _, k3, rfl, _, e3⟩ <;>
        first
          | (simp [Instr.sliceBounds, Instr.sliceBound, *, asIntOf]; done)
          | (simp at hmh; done)
    exact .pure (v' := .slice none 0 0) hr (by simp [execOp, Instr.sliceAt, hxv, Rig.und ht, hd, Instr.slice, hrun, Rig.size hde]) .sn
  · rw [hb] at hv
    obtain ⟨hsz, he2⟩ := cond_ok RV.no_ne he1
    have hsz := Nat.eq_of_beq_eq_true hsz
    subst hsz
    obtain ⟨l, hl, he3⟩ := oGet_ok he2
    obtain ⟨u, hu, he4⟩ := oGet_ok he3
    have b1 := bound_rel ha hlo hl
    have b2 := bound_rel ha hhi hu
    -- the bounds, and what is behind the length
    have key : ∃ (mo : Option Nat), cutV id off n de.size h l u mo = .ok v h' ∧ ((mx = none ∧ mo = none) ∨ ∃ y k m, mx = some y ∧ mo = some m ∧ a.eval y = .int k (m : Int)) := by
      cases mx' with
      | none =>
        refine ⟨none, he4, .inl ⟨?_, rfl⟩⟩
        cases mx with
        | none => rfl
        | some y => unfold optEo at hmx; cases hy : eo y <;> simp [hy] at hmx
      | some y' =>
        obtain ⟨m, hm, he5⟩ := oGet_ok (show oGet (bound fr (some y') 0) RV.no (fun m => cutV id off n de.size h l u (some m)) = RV.ok v h' from he4)
        rcases bound_rel ha hmx hm with ⟨_, h2, _⟩ | ⟨y, y'', k, h1, h2, h3⟩
        · cases h2
        · exact ⟨some m, he5, .inr ⟨y, k, m, h1, rfl, h3⟩⟩
    obtain ⟨mo, hcut, hmo⟩ := key
    obtain ⟨hc, he5⟩ := cond_ok RV.no_ne hcut
    cases he5
    simp only [Bool.and_eq_true] at hc
    obtain ⟨⟨hc1, hc2⟩, hc3⟩ := hc
    have hc1 := Nat.le_of_ble_eq_true hc1
    have hc2 := Nat.le_of_ble_eq_true hc2
    generalize hxv : a.eval x = xv at hv
    have gen : ∀ (ad : Addr) (c m : Nat), n ≤ c → xv = .slice (some ad) n c → u ≤ m → m ≤ c → ((mx = none ∧ m = c) ∨ ∃ y k, mx = some y ∧ a.eval y = .int k (m : Int)) →
        (execOp a.eval ⟨d, .slice t x lo hi mx, ty, pos, aft, g⟩).run Y.P w = .ok (.value (.slice (some (if m = l then ad else ad.add (l * de.size))) (u - l) (m - l))) w := by
      intro ad c m hnc hxe hum hmc hmm
      have hlo3 : ∃ k1, (lo = none ∧ l = 0) ∨ ∃ x, lo = some x ∧ a.eval x = .int k1 (l : Int) := by
        rcases b1 with ⟨h1, _, h2⟩ | ⟨y, _, k, h1, _, h2⟩
        · exact ⟨.i64, .inl ⟨h1, h2⟩⟩
        · exact ⟨k, .inr ⟨y, h1, h2⟩⟩
      have hhi3 : ∃ k2, (hi = none ∧ u = n ∧ mx = none) ∨ ∃ x, hi = some x ∧ a.eval x = .int k2 (u : Int) := by
        rcases b2 with ⟨h1, _, h2⟩ | ⟨y, _, k, h1, _, h2⟩
        · refine ⟨.i64, .inl ⟨h1, h2, ?_⟩⟩
          rcases hmh' with h | ⟨y, hy⟩
          · exact h
          · rw [h1] at hy; cases hy
        · exact ⟨k, .inr ⟨y, h1, h2⟩⟩
      have hmx3 : ∃ k3, (mx = none ∧ m = c) ∨ ∃ x, mx = some x ∧ a.eval x = .int k3 (m : Int) := by
        rcases hmm with h | ⟨y, k, h1, h2⟩
        · exact ⟨.i64, .inl h⟩
        · exact ⟨k, .inr ⟨y, h1, h2⟩⟩
      obtain ⟨k1, hlo3⟩ := hlo3
      obtain ⟨k2, hhi3⟩ := hhi3
      obtain ⟨k3, hmx3⟩ := hmx3
      have hrun := sb_run (Y := Y) (w := w) (n := n) (c := c) hlo3 hhi3 hmx3 hc1 hum hmc
      rw [hxe] at hxv
      by_cases hml : m = l <;> simp [execOp, Instr.sliceAt, hxv, Rig.und ht, hd, Instr.slice, hrun, Rig.size hde, hml]
    have hmval : ∀ c, n ≤ c → ∃ m, u ≤ m ∧ m ≤ c ∧ ((mx = none ∧ m = c) ∨ ∃ y k, mx = some y ∧ a.eval y = .int k (m : Int)) := by
      intro c hnc
      rcases hmo with ⟨h1, h2⟩ | ⟨y, k, m, h1, h2, h3⟩
      · exact ⟨c, by omega, Nat.le_refl _, .inl ⟨h1, rfl⟩⟩
      · subst h2
        simp only [oGet, Bool.and_eq_true] at hc3
        exact ⟨m, Nat.le_of_ble_eq_true hc3.1, Nat.le_trans (Nat.le_of_ble_eq_true hc3.2) hnc, .inr ⟨y, k, h1, h3⟩⟩
    cases hv with
    | @sl0 _ _ _ b o =>
      obtain ⟨m, hm1, hm2, hm3⟩ := hmval 0 (Nat.le_refl _)
      have := gen ⟨b, o, none⟩ 0 m (Nat.le_refl _) rfl hm1 hm2 hm3
      have e1 : u = 0 := by omega
      have e2 : l = 0 := by omega
      have e3 : m = 0 := by omega
      subst e1; subst e2; subst e3
      exact .pure hr this (by simpa using VR.sl0)
    | @sl _ _ _ _ c q hq hcap hn h0 =>
      obtain ⟨m, hm1, hm2, hm3⟩ := hmval c hn
      have := gen ⟨q.b, q.base + off, none⟩ c m hn rfl hm1 hm2 hm3
      refine .pure hr this ?_
      by_cases hml : m = l
      · have e1 : u - l = 0 := by omega
        have e2 : m - l = 0 := by omega
        simp only [hml, if_true, e1, Nat.sub_self]
        exact VR.sl0
      · simp only [hml, if_false, add_lit', Nat.add_assoc]
        refine .sl hq ?_ (by omega) h0
        have e1 : l * de.size + (m - l) * de.size = m * de.size := by rw [← Nat.add_mul]; congr 1; omega
        have e2 : m * de.size ≤ c * de.size := Nat.mul_le_mul_right _ hm2
        omega
end ops
end Go.Ev
