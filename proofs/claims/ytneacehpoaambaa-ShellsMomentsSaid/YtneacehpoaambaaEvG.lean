/-
  The evaluator, part G: numbers, comparisons, parts of values, slices.
-/
import Derived.Test.YtneacehpoaambaaEvF
namespace Go.Ev
open Go Go.RowKit
theorem ckEq_rel {ι : Io} {c : CK} {x y : V} {x' y' : Value} {r : Bool} (hx : VR ι x x') (hy : VR ι y y') (h : ckEq c x y = some r) : fitC c x' ∧ fitC c y' ∧ (r = true ↔ x' = y') := by
  unfold ckEq at h
  cases c with
  | none =>
    cases x <;> simp only [V.onB] at h <;> try cases h
    cases y <;> simp only [] at h <;> cases h
    cases hx; cases hy
    exact ⟨⟨_, rfl⟩, ⟨_, rfl⟩, by simp⟩
  | some k =>
    cases x <;> simp only [V.onI] at h <;> try cases h
    cases y <;> simp only [] at h <;> try cases h
    obtain ⟨h1, h⟩ := cond_ok (by simp) h
    cases h
    simp only [Bool.and_eq_true, beq_iff_eq] at h1
    obtain ⟨rfl, rfl⟩ := h1
    cases hx; cases hy
    exact ⟨⟨_, rfl⟩, ⟨_, rfl⟩, by rw [ieq_eq]; simp⟩
theorem eqK_rel {ι : Io} : ∀ (cs : List CK) (xs ys : List V) (xs' ys' : List Value) (r : Bool), VRs ι xs xs' → VRs ι ys ys' → eqK cs xs ys = some r →
    xs'.length = cs.length ∧ ys'.length = cs.length ∧ (∀ (i : Nat) (h : i < cs.length) (h' : i < xs'.length), fitC cs[i] xs'[i]) ∧ (∀ (i : Nat) (h : i < cs.length) (h' : i < ys'.length), fitC cs[i] ys'[i]) ∧ (r = true ↔ xs' = ys')
  | [], xs, ys, xs', ys', r, hx, hy, h => by
    cases xs with
    | cons x xs => cases h
    | nil =>
      cases ys with
      | cons y ys => cases h
      | nil =>
        cases h
        obtain rfl := hx.inv_nil
        obtain rfl := hy.inv_nil
        exact ⟨rfl, rfl, fun i h => absurd h (by simp), fun i h => absurd h (by simp), by simp⟩
  | c :: cs, xs, ys, xs', ys', r, hx, hy, h => by
    cases xs with
    | nil => cases h
    | cons x xs =>
      cases ys with
      | nil => cases h
      | cons y ys =>
        have h' : (oGet (ckEq c x y) none fun r => oGet (eqK cs xs ys) none fun s => some (r && s)) = some r := h
        obtain ⟨r1, h1, h'⟩ := oGet_some (by simp) h'
        obtain ⟨r2, h2, h'⟩ := oGet_some (by simp) h'
        cases h'
        obtain ⟨a, as, rfl, ha, has⟩ := hx.inv_cons
        obtain ⟨b, bs, rfl, hb, hbs⟩ := hy.inv_cons
        obtain ⟨g1, g2, g3⟩ := ckEq_rel ha hb h1
        obtain ⟨k1, k2, k3, k4, k5⟩ := eqK_rel cs xs ys as bs r2 has hbs h2
        refine ⟨by simp [k1], by simp [k2], fun i p q => ?_, fun i p q => ?_, by simp [g3, k5]⟩
        · cases i with
          | zero => exact g1
          | succ i => exact k3 i (by simpa using p) (by simpa using q)
        · cases i with
          | zero => exact g2
          | succ i => exact k4 i (by simpa using p) (by simpa using q)
theorem aggL_some {x : V} {cs : List V} (h : aggL x = some cs) : x = .agg cs := by cases x <;> cases h; rfl
theorem keyEq_rel {ι : Io} {kd : KD} {x y : V} {x' y' : Value} {r : Bool} (hx : VR ι x x') (hy : VR ι y y') (h : keyEq kd x y = some r) : fitV kd x' ∧ fitV kd y' ∧ (r = true ↔ x' = y') := by
  cases kd with
  | one c => exact ckEq_rel hx hy h
  | many cs =>
    have h' : (oGet (aggL x) none fun xs => oGet (aggL y) none fun ys => eqK cs xs ys) = some r := h
    obtain ⟨xs, h1, h'⟩ := oGet_some (by simp) h'
    obtain ⟨ys, h2, h'⟩ := oGet_some (by simp) h'
    have h1 := aggL_some h1
    have h2 := aggL_some h2
    subst h1; subst h2
    obtain ⟨vs, rfl, hvs, _⟩ := hx.of_agg
    obtain ⟨us, rfl, hus, _⟩ := hy.of_agg
    obtain ⟨k1, k2, k3, k4, k5⟩ := eqK_rel cs xs ys vs us r hvs hus h'
    refine ⟨⟨vs, rfl, k1, k3⟩, ⟨us, rfl, k2, k4⟩, k5.trans ?_⟩
    simp

section ops
variable {Y : Rig} {nt : Nat} {ι : Io} {fr : Fr} {a : Act} {h h' : H} {w : World} {v : V} {d : Option Tmp} {ty : TypeId} {pos : String} {aft : Array Edge} {g : Option (Nat × Bool)}

theorem eqGuard_int' (op : BinOp) (t : TypeId) (x y : Operand) (k k' : IntKind) (a b : Int) (w : World) : (eqGuard op t x y (.int k a) (.int k' b)).run Y.P w = .ok () w := by
  unfold eqGuard; cases op <;> rfl
theorem op_bin (ha : AR nt ι fr a) (hr : WR Y.tab ι h w) {op : BinOp} {t t' : TypeId} {x y : Operand} {x' y' : EO} (hx : eo x = some x') (hy : eo y = some y') (he : okv (binV op (ev fr x') (ev fr y')) h = .ok v h') :
    OpOk Y h ι a w ⟨d, .binOp op t x y t', ty, pos, aft, g⟩ v h' := by
  obtain ⟨he1, hq⟩ := okv_ok he
  clear he
  subst hq
  have he := he1
  clear he1
  obtain ⟨k, m, hm, he⟩ := V.onIo_ok he
  obtain ⟨k', n, hn, he⟩ := V.onIo_ok he
  have hvx := ha.ev hx
  have hvy := ha.ev hy
  rw [hm] at hvx
  rw [hn] at hvy
  have ex := hvx.of_i
  have ey := hvy.of_i
  obtain ⟨v', h1, h2⟩ := binI_rel (P := Y.P) (ι := ι) (w := w) (t := t) he
  refine .pure hr ?_ h2
  simp only [execOp, ex, ey, Sem.run_bind, eqGuard_int', Result.andThen_ok, h1, Sem.run_pure]
theorem op_eqk (ha : AR nt ι fr a) (hr : WR Y.tab ι h w) {neg : Bool} {t t' : TypeId} {dt : TD} {kd : KD} {x y : Operand} {x' y' : EO} (ht : Y.tab t = some dt) (hk : dt.key = some kd) (hx : eo x = some x') (hy : eo y = some y')
    (he : okv (oGet (keyEq kd (ev fr x') (ev fr y')) none fun r => some (.b (bif neg then !r else r))) h = .ok v h') :
    OpOk Y h ι a w ⟨d, .binOp (if neg then .neq else .eql) t x y t', ty, pos, aft, g⟩ v h' := by
  obtain ⟨he1, hq⟩ := okv_ok he
  clear he
  subst hq
  have he := he1
  clear he1
  obtain ⟨r, hr1, he⟩ := oGet_some (by simp) he
  cases he
  obtain ⟨f1, f2, f3⟩ := keyEq_rel (ha.ev hx) (ha.ev hy) hr1
  have hko := (Y.htab t dt ht).key kd hk
  obtain ⟨r', e1, e2⟩ := hko.eq w _ _ f1 f2
  have : r' = r := by
    rw [Bool.eq_iff_iff]; exact e2.trans f3.symm
  subst this
  have notint : ∀ {k : IntKind} {n : Int} {z : Value}, a.eval x = .int k n → a.eval y = z → (binOp (if neg then .neq else .eql) t (a.eval x) (a.eval y)).run Y.P w = (do pure (.bool (bif neg then !(← Op.equal t (a.eval x) (a.eval y)) else ← Op.equal t (a.eval x) (a.eval y))) : Sem Value).run Y.P w ∨ True := fun _ _ => .inr trivial
  refine .pure (v' := .bool (bif neg then !r' else r')) hr ?_ (.b _)
  have hg := hko.guard w (if neg then .neq else .eql) x y _ _ f1 f2
  have hb : (binOp (if neg then .neq else .eql) t (a.eval x) (a.eval y)).run Y.P w = .ok (.bool (bif neg then !r' else r')) w := by
    cases kd with
    | one c =>
      cases c with
      | none =>
        obtain ⟨b1, h1⟩ := f1
        obtain ⟨b2, h2⟩ := f2
        rw [h1, h2] at e1 ⊢
        cases neg <;> simp [binOp, e1]
      | some k =>
        obtain ⟨b1, h1⟩ := f1
        obtain ⟨b2, h2⟩ := f2
        rw [h1, h2] at e2 ⊢
        have : r' = (b1 == b2) := by rw [Bool.eq_iff_iff]; simp [e2]
        subst this
        cases neg <;> simp [binOp, Op.intCmp, bne]
    | many cs =>
      obtain ⟨b1, h1, _⟩ := f1
      obtain ⟨b2, h2, _⟩ := f2
      rw [h1, h2] at e1 ⊢
      cases neg <;> simp [binOp, e1]
  simp only [execOp, Sem.run_bind, hg, Result.andThen_ok, hb, Sem.run_pure]

theorem op_not (ha : AR nt ι fr a) (hr : WR Y.tab ι h w) {t : TypeId} {x : Operand} {x' : EO} (hx : eo x = some x') (he : (ev fr x').onB RV.no (fun b => RV.ok (.b (!b)) h) = .ok v h') : OpOk Y h ι a w ⟨d, .unOp .not t x, ty, pos, aft, g⟩ v h' := by
  obtain ⟨b, hb, he⟩ := V.onB_ok he
  cases he
  have hv := ha.ev hx
  rw [hb] at hv
  exact .pure (v' := .bool (!b)) hr (by simp [execOp, hv.of_b, Op.unary]) (.b _)
theorem op_neg (ha : AR nt ι fr a) (hr : WR Y.tab ι h w) {t : TypeId} {x : Operand} {x' : EO} (hx : eo x = some x') (he : (ev fr x').onI RV.no (fun k n => RV.ok (.i k (fw k (isub 0 n))) h) = .ok v h') : OpOk Y h ι a w ⟨d, .unOp .neg t x, ty, pos, aft, g⟩ v h' := by
  obtain ⟨k, n, hb, he⟩ := V.onI_ok he
  cases he
  have hv := ha.ev hx
  rw [hb] at hv
  refine .pure (v' := .int k (k.wrap (0 - n))) hr (by simp [execOp, hv.of_i, Op.unary, Op.intArith]) ?_
  rw [fw_eq, isub_eq]
  exact .i _ _
theorem op_conv (ha : AR nt ι fr a) (hr : WR Y.tab ι h w) {s t : TypeId} {ds dt : TD} {k0 k : IntKind} {x : Operand} {x' : EO} (hs : Y.tab s = some ds) (ht : Y.tab t = some dt) (hs' : ds.desc = .int k0) (ht' : dt.desc = .int k) (hx : eo x = some x')
    (he : (ev fr x').onI RV.no (fun _ n => RV.ok (.i k (fw k n)) h) = .ok v h') : OpOk Y h ι a w ⟨d, .convert s t x, ty, pos, aft, g⟩ v h' := by
  obtain ⟨k1, n, hb, he⟩ := V.onI_ok he
  cases he
  have hv := ha.ev hx
  rw [hb] at hv
  refine .pure (v' := .int k (k.wrap n)) hr (by simp [execOp, hv.of_i, convert, Rig.und hs, Rig.und ht, hs', ht', Conv.intToInt]) ?_
  rw [fw_eq]
  exact .i _ _
theorem op_mkfn (ha : AR nt ι fr a) (hr : WR Y.tab ι h w) {f : FuncId} {fs cs : Array Operand} {cs' : List EO} (hf : fs.isEmpty = true) (hc : mapO eo cs.toList = some cs') :
    OpOk Y h ι a w ⟨d, .makeFunc (.func f) fs cs, ty, pos, aft, g⟩ (.fn (K.ofNat f) (evs fr cs')) h := by
  have h1 := ha.evs hc
  have hfs : fs = #[] := by simpa using hf
  subst hfs
  have := VR.fn (f := K.ofNat f) h1.len h1.at_
  rw [K.ofNat_nat] at this
  refine .pure hr ?_ this
  have hm : Array.map a.eval cs = (List.map a.eval cs.toList).toArray := by apply Array.ext'; simp
  simp only [execOp, Instr.makeFunc, Sem.run_bind, Sem.run_pure, Result.andThen_ok, hm]
  simp

theorem idxV_ok {i : V} {i' : Value} {len : Nat} {f : Nat → RV} (hi : VR ι i i') (he : idxV i len f = .ok v h') : ∃ (k : IntKind) (n : Nat), i' = .int k (n : Int) ∧ n < len ∧ f n = .ok v h' := by
  obtain ⟨k, m, rfl, he1⟩ := V.onI_ok he
  obtain ⟨n, hn, he2⟩ := oGet_ok he1
  obtain ⟨hc, he3⟩ := cond_ok RV.no_ne he2
  have := nonneg_some hn
  subst this
  exact ⟨k, n, hi.of_i, Nat.le_of_ble_eq_true hc, he3⟩

theorem op_fadr (ha : AR nt ι fr a) (hr : WR Y.tab ι h w) {t : TypeId} {dt df : TD} {fs : Array Field} {fd : Field} {f : Nat} {x : Operand} {x' : EO} (ht : Y.tab t = some dt) (hd : dt.desc = .struct fs) (hf : fs[f]? = some fd) (hdf : Y.tab fd.type = some df) (h0 : df.size ≠ 0) (hx : eo x = some x')
    (he : (ev fr x').onP (fun id o => .ok (.p id (o + fd.offset)) h) = .ok v h') : OpOk Y h ι a w ⟨d, .fieldAddr t x f, ty, pos, aft, g⟩ v h' := by
  obtain ⟨id, o, hb, he⟩ := V.onP_ok he
  cases he
  have hv := ha.ev hx
  rw [hb] at hv
  obtain ⟨q, hi, hev⟩ := hv.of_p
  refine .pure (v' := .pointer (some ⟨q.b, q.base + (o + fd.offset), none⟩)) hr ?_ (.p hi)
  simp [execOp, Instr.fieldAt, Rig.und ht, hd, hf, hev, Instr.sureAddr, fieldPlace, Rig.size hdf, h0, add_lit', Nat.add_assoc]
theorem op_iadr (ha : AR nt ι fr a) (hr : WR Y.tab ι h w) {t e : TypeId} {dt de : TD} {len : Nat} {x i : Operand} {x' i' : EO} (ht : Y.tab t = some dt) (hd : dt.desc = .array len e) (hde : Y.tab e = some de) (hx : eo x = some x') (hi : eo i = some i')
    (he : (ev fr x').onP (fun id off => idxV (ev fr i') len fun n => .ok (.p id (off + n * de.size)) h) = .ok v h') : OpOk Y h ι a w ⟨d, .indexAddr t x i, ty, pos, aft, g⟩ v h' := by
  obtain ⟨id, o, hb, he⟩ := V.onP_ok he
  have hv := ha.ev hx
  rw [hb] at hv
  obtain ⟨q, hq, hev⟩ := hv.of_p
  obtain ⟨k, n, hin, hlt, he⟩ := idxV_ok (ha.ev hi) he
  cases he
  refine .pure (v' := .pointer (some ⟨q.b, q.base + (o + n * de.size), none⟩)) hr ?_ (.p hq)
  simp [execOp, Instr.indexAt, hin, asIntOf, Rig.und ht, hd, hev, Instr.sureAddr, hlt, Rig.size hde, add_lit', Nat.add_assoc]
theorem op_iads (ha : AR nt ι fr a) (hr : WR Y.tab ι h w) {t e : TypeId} {dt de : TD} {x i : Operand} {x' i' : EO} (ht : Y.tab t = some dt) (hd : dt.desc = .slice e) (hde : Y.tab e = some de) (hx : eo x = some x') (hi : eo i = some i')
    (he : (ev fr x').onSl RV.no RV.no (fun id off len sz' => bif Nat.beq de.size sz' then idxV (ev fr i') len fun n => .ok (.p id (off + n * de.size)) h else .no) = .ok v h') : OpOk Y h ι a w ⟨d, .indexAddr t x i, ty, pos, aft, g⟩ v h' := by
  rcases V.onSl_ok RV.no_ne he with ⟨_, he⟩ | ⟨id, off, len, sz', hb, he⟩
  · cases he
  obtain ⟨hc, he⟩ := cond_ok RV.no_ne he
  have hsz := Nat.eq_of_beq_eq_true hc
  have hv := ha.ev hx
  rw [hb] at hv
  obtain ⟨k, n, hin, hlt, he⟩ := idxV_ok (ha.ev hi) he
  cases he
  generalize hxv : a.eval x = xv at hv
  cases hv with
  | sl0 => omega
  | @sl _ _ _ _ c q hq hcap hn h0 =>
    refine .pure (v' := .pointer (some ⟨q.b, q.base + (off + n * de.size), none⟩)) hr ?_ (.p hq)
    simp [execOp, Instr.indexAt, hin, asIntOf, Rig.und ht, hd, hxv, hlt, Rig.size hde, add_lit', Nat.add_assoc]

theorem part_rel {e : TypeId} {de : TD} {cs : List V} {vs : List Value} (hde : Y.tab e = some de) (hg : de.agg = true) (hvs : VRs ι cs vs) (ho : ∀ c ∈ cs, c.one = true) (off : Nat) :
    (part e vs.toArray off).run Y.P w = .ok (.agg ((vs.drop off).take de.size).toArray) w ∧ VR ι (.agg (takeN de.size (dropN off cs))) (.agg ((vs.drop off).take de.size).toArray) := by
  refine ⟨?_, ?_⟩
  · simp only [part, Sem.run_bind, Rig.isAgg hde, hg, Result.andThen_ok, if_true, Rig.size hde, Sem.run_pure]
    congr 2
    apply Array.ext'
    simp [List.extract]
  · rw [takeN_eq, dropN_eq]
    exact VR.aggs ((hvs.drop off).take _) fun c hc => ho c (List.mem_of_mem_drop (List.mem_of_mem_take hc))
theorem part_rel1 {e : TypeId} {de : TD} {cs : List V} {vs : List Value} {off : Nat} {c : V} (hde : Y.tab e = some de) (hg : de.agg = false) (hvs : VRs ι cs vs) (hc : nth cs off = some c) :
    ∃ v', (part e vs.toArray off).run Y.P w = .ok v' w ∧ VR ι c v' := by
  rw [nth_eq] at hc
  obtain ⟨v', h1, h2⟩ := hvs.get? hc
  refine ⟨v', ?_, h2⟩
  simp only [part, Sem.run_bind, Rig.isAgg hde, hg, Result.andThen_ok]
  simp [h1]

theorem op_fld (ha : AR nt ι fr a) (hr : WR Y.tab ι h w) {t : TypeId} {dt df : TD} {fs : Array Field} {fd : Field} {f : Nat} {x : Operand} {x' : EO} (ht : Y.tab t = some dt) (hd : dt.desc = .struct fs) (hf : fs[f]? = some fd) (hdf : Y.tab fd.type = some df) (hx : eo x = some x')
    (he : fldV fd.offset (if df.agg then some df.size else none) (ev fr x') h = .ok v h') : OpOk Y h ι a w ⟨d, .field t x f, ty, pos, aft, g⟩ v h' := by
  obtain ⟨cs, hb, he⟩ := V.onAgg_ok he
  have hv := ha.ev hx
  rw [hb] at hv
  obtain ⟨vs, hev, hvs, ho⟩ := hv.of_agg
  cases hg : df.agg with
  | true =>
    rw [hg] at he
    cases he
    obtain ⟨h1, h2⟩ := part_rel (Y := Y) (w := w) hdf hg hvs ho fd.offset
    exact .pure hr (by simp [execOp, Instr.field, Rig.und ht, hd, hf, hev, asAgg, h1]) h2
  | false =>
    rw [hg] at he
    obtain ⟨he1, hq⟩ := okv_ok he
    clear he
    subst hq
    have he := he1
    clear he1
    obtain ⟨v', h1, h2⟩ := part_rel1 (Y := Y) (w := w) hdf hg hvs he
    exact .pure hr (by simp [execOp, Instr.field, Rig.und ht, hd, hf, hev, asAgg, h1]) h2
theorem op_ix (ha : AR nt ι fr a) (hr : WR Y.tab ι h w) {t e : TypeId} {dt de : TD} {len : Nat} {x i : Operand} {x' i' : EO} (ht : Y.tab t = some dt) (hd : dt.desc = .array len e) (hde : Y.tab e = some de) (hx : eo x = some x') (hi : eo i = some i')
    (he : ixV len de.size de.agg (ev fr x') (ev fr i') h = .ok v h') : OpOk Y h ι a w ⟨d, .index t x i, ty, pos, aft, g⟩ v h' := by
  obtain ⟨cs, hb, he⟩ := V.onAgg_ok he
  have hv := ha.ev hx
  rw [hb] at hv
  obtain ⟨vs, hev, hvs, ho⟩ := hv.of_agg
  obtain ⟨k, n, hin, hlt, he⟩ := idxV_ok (ha.ev hi) he
  cases hg : de.agg with
  | true =>
    rw [hg] at he
    cases he
    obtain ⟨h1, h2⟩ := part_rel (Y := Y) (w := w) hde hg hvs ho (n * de.size)
    exact .pure hr (by simp [execOp, Instr.index, hin, asIntOf, Rig.und ht, hd, hev, hlt, Rig.size hde, h1]) h2
  | false =>
    rw [hg] at he
    obtain ⟨he1, hq⟩ := okv_ok he
    clear he
    subst hq
    have he := he1
    clear he1
    obtain ⟨v', h1, h2⟩ := part_rel1 (Y := Y) (w := w) hde hg hvs he
    exact .pure hr (by simp [execOp, Instr.index, hin, asIntOf, Rig.und ht, hd, hev, hlt, Rig.size hde, h1]) h2
theorem op_ext (ha : AR nt ι fr a) (hr : WR Y.tab ι h w) {x : Operand} {x' : EO} {i : Nat} (hx : eo x = some x') (he : (ev fr x').onTup (fun l => okv (nth l i) h) = .ok v h') : OpOk Y h ι a w ⟨d, .extract x i, ty, pos, aft, g⟩ v h' := by
  obtain ⟨cs, hb, he⟩ := V.onTup_ok he
  obtain ⟨he1, hq⟩ := okv_ok he
  clear he
  subst hq
  have he := he1
  clear he1
  have hv := ha.ev hx
  rw [hb] at hv
  obtain ⟨vs, hev, hvs⟩ := hv.of_tup
  rw [nth_eq] at he
  obtain ⟨v', h1, h2⟩ := hvs.get? he
  exact .pure hr (by simp [execOp, hev, Instr.extract, h1]) h2

theorem op_len (ha : AR nt ι fr a) (hr : WR Y.tab ι h w) {t e : TypeId} {dt : TD} {x : Operand} {x' : EO} (ht : Y.tab t = some dt) (hd : dt.desc = .slice e) (hx : eo x = some x') (he : lenV (ev fr x') h = .ok v h') :
    OpOk Y h ι a w ⟨d, .call ⟨.builtin .len, #[x], #[t]⟩, ty, pos, aft, g⟩ v h' := by
  have hv := ha.ev hx
  rcases V.onSl_ok RV.no_ne he with ⟨hb, he⟩ | ⟨id, off, n, sz', hb, he⟩
  · rw [hb] at hv
    generalize hxv : a.eval x = xv at hv
    cases hv
    cases he
    exact .pure (v' := .int .i64 0) hr (by simp [execOp, resolve, hxv, invoke, builtin, Builtin.len_, Rig.und ht, hd, goInt]) (.i _ _)
  · rw [hb] at hv
    cases he
    generalize hxv : a.eval x = xv at hv
    cases hv with
    | sl0 => exact .pure (v' := .int .i64 0) hr (by simp [execOp, resolve, hxv, invoke, builtin, Builtin.len_, Rig.und ht, hd, goInt]) (.i _ _)
    | sl hq hc hn h0 => exact .pure (v' := .int .i64 n) hr (by simp [execOp, resolve, hxv, invoke, builtin, Builtin.len_, Rig.und ht, hd, goInt]) (.i _ _)
theorem op_min (ha : AR nt ι fr a) (hr : WR Y.tab ι h w) {x y : Operand} {x' y' : EO} {tys : Array TypeId} (hx : eo x = some x') (hy : eo y = some y') (he : minV (ev fr x') (ev fr y') h = .ok v h') :
    OpOk Y h ι a w ⟨d, .call ⟨.builtin .min, #[x, y], tys⟩, ty, pos, aft, g⟩ v h' := by
  obtain ⟨k, m, hm, he⟩ := V.onI_ok he
  obtain ⟨k', n, hn, he⟩ := V.onI_ok he
  cases he
  have hvx := ha.ev hx
  have hvy := ha.ev hy
  rw [hm] at hvx
  rw [hn] at hvy
  refine .pure (v' := .int k (if n < m then n else m)) hr (by simp [execOp, resolve, hvx.of_i, hvy.of_i, invoke, builtin, Builtin.min_, Builtin.min2]) ?_
  rw [ilt_eq]
  by_cases hlt : n < m <;> simp only [hlt, decide_true, decide_false, cond_true, cond_false, if_true, if_false] <;> exact .i _ _
theorem op_max (ha : AR nt ι fr a) (hr : WR Y.tab ι h w) {x y : Operand} {x' y' : EO} {tys : Array TypeId} (hx : eo x = some x') (hy : eo y = some y') (he : maxV (ev fr x') (ev fr y') h = .ok v h') :
    OpOk Y h ι a w ⟨d, .call ⟨.builtin .max, #[x, y], tys⟩, ty, pos, aft, g⟩ v h' := by
  obtain ⟨k, m, hm, he⟩ := V.onI_ok he
  obtain ⟨k', n, hn, he⟩ := V.onI_ok he
  cases he
  have hvx := ha.ev hx
  have hvy := ha.ev hy
  rw [hm] at hvx
  rw [hn] at hvy
  refine .pure (v' := .int k (if n > m then n else m)) hr (by simp [execOp, resolve, hvx.of_i, hvy.of_i, invoke, builtin, Builtin.max_, Builtin.max2]) ?_
  rw [ilt_eq]
  by_cases hlt : m < n <;> simp only [hlt, decide_true, decide_false, cond_true, cond_false, if_true, if_false] <;> exact .i _ _
end ops
end Go.Ev
