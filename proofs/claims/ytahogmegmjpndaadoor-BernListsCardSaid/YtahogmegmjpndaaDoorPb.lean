/-
  The evaluator, part G: numbers, comparisons, parts of values, slices., and what follows.
-/
import Derived.Test.YtahogmegmjpndaaDoorPa
import Derived.Laws.RangeString
namespace Go.Ev
open Go Go.RowKit
theorem ckEq_rel {ι : Io} {c : CK} {x y : V} {x' y' : Value} {r : Bool} (hx : VR ι x x') (hy : VR ι y y') (h : ckEq c x y = some r) : fitC c x' ∧ fitC c y' ∧ (r = true ↔ x' = y') := by
  unfold ckEq at h
  cases c with
  | none =>
    cases x <;> simp only [V.onB] at h <;> try cases h
    cases y <;> simp only [] at h <;> cases h
    cases hx; cases hy
    exact ⟨⟨_, rfl⟩, ⟨_, rfl⟩, by simp⟩
  | some k =>
    cases x <;> simp only [V.onI] at h <;> try cases h
    cases y <;> simp only [] at h <;> try cases h
    obtain ⟨h1, h⟩ := cond_ok (by simp) h
    cases h
    simp only [Bool.and_eq_true, beq_iff_eq] at h1
    obtain ⟨⟨rfl, rfl⟩, r1, r2⟩ := h1
    cases hx; cases hy
    exact ⟨⟨_, rfl, r1⟩, ⟨_, rfl, r2⟩, by rw [ieq_eq]; simp⟩
theorem eqK_rel {ι : Io} : ∀ (cs : List CK) (xs ys : List V) (xs' ys' : List Value) (r : Bool), VRs ι xs xs' → VRs ι ys ys' → eqK cs xs ys = some r →
    xs'.length = cs.length ∧ ys'.length = cs.length ∧ (∀ (i : Nat) (h : i < cs.length) (h' : i < xs'.length), fitC cs[i] xs'[i]) ∧ (∀ (i : Nat) (h : i < cs.length) (h' : i < ys'.length), fitC cs[i] ys'[i]) ∧ (r = true ↔ xs' = ys')
  | [], xs, ys, xs', ys', r, hx, hy, h => by
    cases xs with
    | cons x xs => cases h
    | nil =>
      cases ys with
      | cons y ys => cases h
      | nil =>
        cases h
        obtain rfl := hx.inv_nil
        obtain rfl := hy.inv_nil
        exact ⟨rfl, rfl, fun i h => absurd h (by simp), fun i h => absurd h (by simp), by simp⟩
  | c :: cs, xs, ys, xs', ys', r, hx, hy, h => by
    cases xs with
    | nil => cases h
    | cons x xs =>
      cases ys with
      | nil => cases h
      | cons y ys =>
        have h' : (oGet (ckEq c x y) none fun r => oGet (eqK cs xs ys) none fun s => some (r && s)) = some r := h
        obtain ⟨r1, h1, h'⟩ := oGet_some (by simp) h'
        obtain ⟨r2, h2, h'⟩ := oGet_some (by simp) h'
        cases h'
        obtain ⟨a, as, rfl, ha, has⟩ := hx.inv_cons
        obtain ⟨b, bs, rfl, hb, hbs⟩ := hy.inv_cons
        obtain ⟨g1, g2, g3⟩ := ckEq_rel ha hb h1
        obtain ⟨k1, k2, k3, k4, k5⟩ := eqK_rel cs xs ys as bs r2 has hbs h2
        refine ⟨by simp [k1], by simp [k2], fun i p q => ?_, fun i p q => ?_, by simp [g3, k5]⟩
        · cases i with
          | zero => exact g1
          | succ i => exact k3 i (by simpa using p) (by simpa using q)
        · cases i with
          | zero => exact g2
          | succ i => exact k4 i (by simpa using p) (by simpa using q)
theorem aggL_some {x : V} {cs : List V} (h : aggL x = some cs) : x = .agg cs := by cases x <;> cases h; rfl
theorem keyEq_rel {ι : Io} {kd : KD} {x y : V} {x' y' : Value} {r : Bool} (hx : VR ι x x') (hy : VR ι y y') (h : keyEq kd x y = some r) : fitV kd x' ∧ fitV kd y' ∧ (r = true ↔ x' = y') := by
  cases kd with
  | one c => exact ckEq_rel hx hy h
  | many cs =>
    have h' : (oGet (aggL x) none fun xs => oGet (aggL y) none fun ys => eqK cs xs ys) = some r := h
    obtain ⟨xs, h1, h'⟩ := oGet_some (by simp) h'
    obtain ⟨ys, h2, h'⟩ := oGet_some (by simp) h'
    have h1 := aggL_some h1
    have h2 := aggL_some h2
    subst h1; subst h2
    obtain ⟨vs, rfl, hvs, _⟩ := hx.of_agg
    obtain ⟨us, rfl, hus, _⟩ := hy.of_agg
    obtain ⟨k1, k2, k3, k4, k5⟩ := eqK_rel cs xs ys vs us r hvs hus h'
    refine ⟨⟨vs, rfl, k1, k3⟩, ⟨us, rfl, k2, k4⟩, k5.trans ?_⟩
    simp

section ops
variable {Y : Rig} {nt : Nat} {ι : Io} {fr : Fr} {a : Act} {h h' : H} {w : World} {v : V} {d : Option Tmp} {ty : TypeId} {pos : String} {aft : Array Edge} {g : Option (Nat × Bool)}

theorem eqGuard_int' (op : BinOp) (t : TypeId) (x y : Operand) (k k' : IntKind) (a b : Int) (w : World) : (eqGuard op t x y (.int k a) (.int k' b)).run Y.P w = .ok () w := by
  unfold eqGuard; cases op <;> rfl
theorem op_bin (ha : AR nt ι fr a) (hr : WR Y.tab ι h w) {op : BinOp} {t t' : TypeId} {x y : Operand} {x' y' : EO} (hx : eo x = some x') (hy : eo y = some y') (he : okv (binV op (ev fr x') (ev fr y')) h = .ok v h') :
    OpOk Y h ι a w ⟨d, .binOp op t x y t', ty, pos, aft, g⟩ v h' := by
  obtain ⟨he1, hq⟩ := okv_ok he
  clear he
  subst hq
  have he := he1
  clear he1
  obtain ⟨k, m, hm, he⟩ := V.onIo_ok he
  obtain ⟨k', n, hn, he⟩ := V.onIo_ok he
  have hvx := ha.ev hx
  have hvy := ha.ev hy
  rw [hm] at hvx
  rw [hn] at hvy
  have ex := hvx.of_i
  have ey := hvy.of_i
  obtain ⟨v', h1, h2⟩ := binI_rel (P := Y.P) (ι := ι) (w := w) (t := t) he
  refine .pure hr ?_ h2
  simp only [execOp, ex, ey, Sem.run_bind, eqGuard_int', Result.andThen_ok, h1, Sem.run_pure]
theorem op_xor1 (ha : AR nt ι fr a) (hr : WR Y.tab ι h w) {t : TypeId} {k : IntKind} {x : Operand} {x' : EO} (hx : eo x = some x') (he : okv (binV .xor (.i k (if k.signed then -1 else k.max)) (ev fr x')) h = .ok v h') :
    OpOk Y h ι a w ⟨d, .unOp .xor t x, ty, pos, aft, g⟩ v h' := by
  obtain ⟨he1, hq⟩ := okv_ok he
  clear he
  subst hq
  have he := he1
  clear he1
  obtain ⟨k1, m, hm, he⟩ := V.onIo_ok he
  cases hm
  obtain ⟨k', n, hn, he⟩ := V.onIo_ok he
  have hvx := ha.ev hx
  rw [hn] at hvx
  have ex := hvx.of_i
  obtain ⟨v', h1, h2⟩ := binI_rel (P := Y.P) (ι := ι) (w := w) (t := t) he
  refine .pure hr ?_ h2
  have h1' : (if k ≠ k' then (stuck "BinOp: operands of different kinds" : Sem Value) else Op.intBits .xor k (if k.signed then -1 else k.max) n).run Y.P w = .ok v' w := h1
  by_cases hk : k = k'
  · subst hk
    rw [if_neg (by simp)] at h1'
    simp only [execOp, ex, Sem.run_bind, Op.unary, h1', Result.andThen_ok, Sem.run_pure]
  · rw [if_pos hk] at h1'
    cases h1'
theorem op_eqk (ha : AR nt ι fr a) (hr : WR Y.tab ι h w) {neg : Bool} {t t' : TypeId} {dt : TD} {kd : KD} {x y : Operand} {x' y' : EO} (ht : Y.tab t = some dt) (hk : dt.key = some kd) (hx : eo x = some x') (hy : eo y = some y')
    (he : okv (oGet (keyEq kd (ev fr x') (ev fr y')) none fun r => some (.b (bif neg then !r else r))) h = .ok v h') :
    OpOk Y h ι a w ⟨d, .binOp (if neg then .neq else .eql) t x y t', ty, pos, aft, g⟩ v h' := by
  obtain ⟨he1, hq⟩ := okv_ok he
  clear he
  subst hq
  have he := he1
  clear he1
  obtain ⟨r, hr1, he⟩ := oGet_some (by simp) he
  cases he
  obtain ⟨f1, f2, f3⟩ := keyEq_rel (ha.ev hx) (ha.ev hy) hr1
  have hko := (Y.htab t dt ht).key kd hk
  obtain ⟨r', e1, e2⟩ := hko.eq w _ _ f1 f2
  have : r' = r := by
    rw [Bool.eq_iff_iff]; exact e2.trans f3.symm
  subst this
  refine .pure (v' := .bool (bif neg then !r' else r')) hr ?_ (.b _)
  have hg := hko.guard w (if neg then .neq else .eql) x y _ _ f1 f2
  have hb : (binOp (if neg then .neq else .eql) t (a.eval x) (a.eval y)).run Y.P w = .ok (.bool (bif neg then !r' else r')) w := by
    cases kd with
    | one c =>
      cases c with
      | none =>
        obtain ⟨b1, h1⟩ := f1
        obtain ⟨b2, h2⟩ := f2
        rw [h1, h2] at e1 ⊢
        cases neg <;> simp [binOp, e1]
      | some k =>
        obtain ⟨b1, h1, _⟩ := f1
        obtain ⟨b2, h2, _⟩ := f2
        rw [h1, h2] at e2 ⊢
        have : r' = (b1 == b2) := by rw [Bool.eq_iff_iff]; simp [e2]
        subst this
        cases neg <;> simp [binOp, Op.intCmp, bne]
    | many cs =>
      obtain ⟨b1, h1, _⟩ := f1
      obtain ⟨b2, h2, _⟩ := f2
      rw [h1, h2] at e1 ⊢
      cases neg <;> simp [binOp, e1]
  simp only [execOp, Sem.run_bind, hg, Result.andThen_ok, hb, Sem.run_pure]

theorem op_not (ha : AR nt ι fr a) (hr : WR Y.tab ι h w) {t : TypeId} {x : Operand} {x' : EO} (hx : eo x = some x') (he : (ev fr x').onB RV.no (fun b => RV.ok (.b (!b)) h) = .ok v h') : OpOk Y h ι a w ⟨d, .unOp .not t x, ty, pos, aft, g⟩ v h' := by
  obtain ⟨b, hb, he⟩ := V.onB_ok he
  cases he
  have hv := ha.ev hx
  rw [hb] at hv
  exact .pure (v' := .bool (!b)) hr (by simp [execOp, hv.of_b, Op.unary]) (.b _)
theorem op_neg (ha : AR nt ι fr a) (hr : WR Y.tab ι h w) {t : TypeId} {x : Operand} {x' : EO} (hx : eo x = some x') (he : (ev fr x').onI RV.no (fun k n => RV.ok (.i k (fw k (isub 0 n))) h) = .ok v h') : OpOk Y h ι a w ⟨d, .unOp .neg t x, ty, pos, aft, g⟩ v h' := by
  obtain ⟨k, n, hb, he⟩ := V.onI_ok he
  cases he
  have hv := ha.ev hx
  rw [hb] at hv
  refine .pure (v' := .int k (k.wrap (0 - n))) hr (by simp [execOp, hv.of_i, Op.unary, Op.intArith]) ?_
  rw [fw_eq, isub_eq]
  exact .i _ _
theorem op_conv (ha : AR nt ι fr a) (hr : WR Y.tab ι h w) {s t : TypeId} {ds dt : TD} {k0 k : IntKind} {x : Operand} {x' : EO} (hs : Y.tab s = some ds) (ht : Y.tab t = some dt) (hs' : ds.desc = .int k0) (ht' : dt.desc = .int k) (hx : eo x = some x')
    (he : (ev fr x').onI RV.no (fun _ n => RV.ok (.i k (fw k n)) h) = .ok v h') : OpOk Y h ι a w ⟨d, .convert s t x, ty, pos, aft, g⟩ v h' := by
  obtain ⟨k1, n, hb, he⟩ := V.onI_ok he
  cases he
  have hv := ha.ev hx
  rw [hb] at hv
  refine .pure (v' := .int k (k.wrap n)) hr (by simp [execOp, hv.of_i, convert, Rig.und hs, Rig.und ht, hs', ht', Conv.intToInt]) ?_
  rw [fw_eq]
  exact .i _ _
theorem op_mkfn (ha : AR nt ι fr a) (hr : WR Y.tab ι h w) {f : FuncId} {fs cs : Array Operand} {cs' : List EO} (hf : fs.isEmpty = true) (hc : mapO eo cs.toList = some cs') :
    OpOk Y h ι a w ⟨d, .makeFunc (.func f) fs cs, ty, pos, aft, g⟩ (.fn (K.ofNat f) (evs fr cs')) h := by
  have h1 := ha.evs hc
  have hfs : fs = #[] := by simpa using hf
  subst hfs
  have := VR.fn (f := K.ofNat f) h1.len h1.at_
  rw [K.ofNat_nat] at this
  refine .pure hr ?_ this
  have hm : Array.map a.eval cs = (List.map a.eval cs.toList).toArray := by apply Array.ext'; simp
  simp only [execOp, Instr.makeFunc, Sem.run_bind, Sem.run_pure, Result.andThen_ok, hm]
  simp

theorem op_mkbf (ha : AR nt ι fr a) (hr : WR Y.tab ι h w) {f : FuncId} {fs cs : Array Operand} {fs' cs' : List EO} (hf : mapO eo fs.toList = some fs') (hc : mapO eo cs.toList = some cs') :
    OpOk Y h ι a w ⟨d, .makeFunc (.func f) fs cs, ty, pos, aft, g⟩ (.bf (K.ofNat f) (evs fr fs') (evs fr cs')) h := by
  have h1 := ha.evs hc
  have h2 := ha.evs hf
  have := VR.bf (f := K.ofNat f) h2.len h2.at_ h1.len h1.at_
  rw [K.ofNat_nat] at this
  refine .pure hr ?_ this
  have hm : ∀ cs : Array Operand, Array.map a.eval cs = (List.map a.eval cs.toList).toArray := fun cs => by apply Array.ext'; simp
  simp only [execOp, Instr.makeFunc, Sem.run_bind, Sem.run_pure, Result.andThen_ok, hm]

theorem idxV_ok {i : V} {i' : Value} {len : Nat} {f : Nat → RV} (hi : VR ι i i') (he : idxV i len f = .ok v h') : ∃ (k : IntKind) (n : Nat), i' = .int k (n : Int) ∧ n < len ∧ f n = .ok v h' := by
  obtain ⟨k, m, rfl, he1⟩ := V.onI_ok he
  obtain ⟨n, hn, he2⟩ := oGet_ok he1
  obtain ⟨hc, he3⟩ := cond_ok RV.no_ne he2
  have := nonneg_some hn
  subst this
  exact ⟨k, n, hi.of_i, Nat.le_of_ble_eq_true hc, he3⟩

theorem op_fadr (ha : AR nt ι fr a) (hr : WR Y.tab ι h w) {t : TypeId} {dt df : TD} {fs : Array Field} {fd : Field} {f : Nat} {x : Operand} {x' : EO} (ht : Y.tab t = some dt) (hd : dt.desc = .struct fs) (hf : fs[f]? = some fd) (hdf : Y.tab fd.type = some df) (h0 : df.size ≠ 0) (hx : eo x = some x')
    (he : (ev fr x').onP (fun id o => .ok (.p id (o + fd.offset)) h) = .ok v h') : OpOk Y h ι a w ⟨d, .fieldAddr t x f, ty, pos, aft, g⟩ v h' := by
  obtain ⟨id, o, hb, he⟩ := V.onP_ok he
  cases he
  have hv := ha.ev hx
  rw [hb] at hv
  obtain ⟨q, hi, hev⟩ := hv.of_p
  refine .pure (v' := .pointer (some ⟨q.b, q.base + (o + fd.offset), none⟩)) hr ?_ (.p hi)
  simp [execOp, Instr.fieldAt, Rig.und ht, hd, hf, hev, Instr.sureAddr, fieldPlace, Rig.size hdf, h0, add_lit', Nat.add_assoc]
theorem op_iadr (ha : AR nt ι fr a) (hr : WR Y.tab ι h w) {t e : TypeId} {dt de : TD} {len : Nat} {x i : Operand} {x' i' : EO} (ht : Y.tab t = some dt) (hd : dt.desc = .array len e) (hde : Y.tab e = some de) (hx : eo x = some x') (hi : eo i = some i')
    (he : (ev fr x').onP (fun id off => idxV (ev fr i') len fun n => .ok (.p id (off + n * de.size)) h) = .ok v h') : OpOk Y h ι a w ⟨d, .indexAddr t x i, ty, pos, aft, g⟩ v h' := by
  obtain ⟨id, o, hb, he⟩ := V.onP_ok he
  have hv := ha.ev hx
  rw [hb] at hv
  obtain ⟨q, hq, hev⟩ := hv.of_p
  obtain ⟨k, n, hin, hlt, he⟩ := idxV_ok (ha.ev hi) he
  cases he
  refine .pure (v' := .pointer (some ⟨q.b, q.base + (o + n * de.size), none⟩)) hr ?_ (.p hq)
  simp [execOp, Instr.indexAt, hin, asIntOf, Rig.und ht, hd, hev, Instr.sureAddr, hlt, Rig.size hde, add_lit', Nat.add_assoc]
theorem op_iads (ha : AR nt ι fr a) (hr : WR Y.tab ι h w) {t e : TypeId} {dt de : TD} {x i : Operand} {x' i' : EO} (ht : Y.tab t = some dt) (hd : dt.desc = .slice e) (hde : Y.tab e = some de) (hx : eo x = some x') (hi : eo i = some i')
    (he : (ev fr x').onSl RV.no RV.no (fun id off len sz' => bif Nat.beq de.size sz' then idxV (ev fr i') len fun n => .ok (.p id (off + n * de.size)) h else .no) = .ok v h') : OpOk Y h ι a w ⟨d, .indexAddr t x i, ty, pos, aft, g⟩ v h' := by
  rcases V.onSl_ok RV.no_ne he with ⟨_, he⟩ | ⟨id, off, len, sz', hb, he⟩
  · cases he
  obtain ⟨hc, he⟩ := cond_ok RV.no_ne he
  have hsz := Nat.eq_of_beq_eq_true hc
  have hv := ha.ev hx
  replace hv := VR.of_sl hb hv
  obtain ⟨k, n, hin, hlt, he⟩ := idxV_ok (ha.ev hi) he
  cases he
  generalize hxv : a.eval x = xv at hv
  cases hv with
  | sl0 => omega
  | @sl _ _ _ _ c q hq hcap hn h0 =>
    refine .pure (v' := .pointer (some ⟨q.b, q.base + (off + n * de.size), none⟩)) hr ?_ (.p hq)
    simp [execOp, Instr.indexAt, hin, asIntOf, Rig.und ht, hd, hxv, hlt, Rig.size hde, add_lit', Nat.add_assoc]

theorem part_rel {e : TypeId} {de : TD} {cs : List V} {vs : List Value} (hde : Y.tab e = some de) (hg : de.agg = true) (hvs : VRs ι cs vs) (ho : ∀ c ∈ cs, c.one = true) (off : Nat) :
    (part e vs.toArray off).run Y.P w = .ok (.agg ((vs.drop off).take de.size).toArray) w ∧ VR ι (.agg (takeN de.size (dropN off cs))) (.agg ((vs.drop off).take de.size).toArray) := by
  refine ⟨?_, ?_⟩
  · simp only [part, Sem.run_bind, Rig.isAgg hde, hg, Result.andThen_ok, if_true, Rig.size hde, Sem.run_pure]
    congr 2
    apply Array.ext'
    simp [List.extract]
  · rw [takeN_eq, dropN_eq]
    exact VR.aggs ((hvs.drop off).take _) fun c hc => ho c (List.mem_of_mem_drop (List.mem_of_mem_take hc))
theorem part_rel1 {e : TypeId} {de : TD} {cs : List V} {vs : List Value} {off : Nat} {c : V} (hde : Y.tab e = some de) (hg : de.agg = false) (hvs : VRs ι cs vs) (hc : nth cs off = some c) :
    ∃ v', (part e vs.toArray off).run Y.P w = .ok v' w ∧ VR ι c v' := by
  rw [nth_eq] at hc
  obtain ⟨v', h1, h2⟩ := hvs.get? hc
  refine ⟨v', ?_, h2⟩
  simp only [part, Sem.run_bind, Rig.isAgg hde, hg, Result.andThen_ok]
  simp [h1]

theorem op_fld (ha : AR nt ι fr a) (hr : WR Y.tab ι h w) {t : TypeId} {dt df : TD} {fs : Array Field} {fd : Field} {f : Nat} {x : Operand} {x' : EO} (ht : Y.tab t = some dt) (hd : dt.desc = .struct fs) (hf : fs[f]? = some fd) (hdf : Y.tab fd.type = some df) (hx : eo x = some x')
    (he : fldV fd.offset (if df.agg then some df.size else none) (ev fr x') h = .ok v h') : OpOk Y h ι a w ⟨d, .field t x f, ty, pos, aft, g⟩ v h' := by
  obtain ⟨cs, hb, he⟩ := V.onAgg_ok he
  have hv := ha.ev hx
  rw [hb] at hv
  obtain ⟨vs, hev, hvs, ho⟩ := hv.of_agg
  cases hg : df.agg with
  | true =>
    rw [hg] at he
    cases he
    obtain ⟨h1, h2⟩ := part_rel (Y := Y) (w := w) hdf hg hvs ho fd.offset
    exact .pure hr (by simp [execOp, Instr.field, Rig.und ht, hd, hf, hev, asAgg, h1]) h2
  | false =>
    rw [hg] at he
    obtain ⟨he1, hq⟩ := okv_ok he
    clear he
    subst hq
    have he := he1
    clear he1
    obtain ⟨v', h1, h2⟩ := part_rel1 (Y := Y) (w := w) hdf hg hvs he
    exact .pure hr (by simp [execOp, Instr.field, Rig.und ht, hd, hf, hev, asAgg, h1]) h2
theorem op_ix (ha : AR nt ι fr a) (hr : WR Y.tab ι h w) {t e : TypeId} {dt de : TD} {len : Nat} {x i : Operand} {x' i' : EO} (ht : Y.tab t = some dt) (hd : dt.desc = .array len e) (hde : Y.tab e = some de) (hx : eo x = some x') (hi : eo i = some i')
    (he : ixV len de.size de.agg (ev fr x') (ev fr i') h = .ok v h') : OpOk Y h ι a w ⟨d, .index t x i, ty, pos, aft, g⟩ v h' := by
  obtain ⟨cs, hb, he⟩ := V.onAgg_ok he
  have hv := ha.ev hx
  rw [hb] at hv
  obtain ⟨vs, hev, hvs, ho⟩ := hv.of_agg
  obtain ⟨k, n, hin, hlt, he⟩ := idxV_ok (ha.ev hi) he
  cases hg : de.agg with
  | true =>
    rw [hg] at he
    cases he
    obtain ⟨h1, h2⟩ := part_rel (Y := Y) (w := w) hde hg hvs ho (n * de.size)
    exact .pure hr (by simp [execOp, Instr.index, hin, asIntOf, Rig.und ht, hd, hev, hlt, Rig.size hde, h1]) h2
  | false =>
    rw [hg] at he
    obtain ⟨he1, hq⟩ := okv_ok he
    clear he
    subst hq
    have he := he1
    clear he1
    obtain ⟨v', h1, h2⟩ := part_rel1 (Y := Y) (w := w) hde hg hvs he
    exact .pure hr (by simp [execOp, Instr.index, hin, asIntOf, Rig.und ht, hd, hev, hlt, Rig.size hde, h1]) h2
theorem op_ext (ha : AR nt ι fr a) (hr : WR Y.tab ι h w) {x : Operand} {x' : EO} {i : Nat} (hx : eo x = some x') (he : (ev fr x').onTup (fun l => okv (nth l i) h) = .ok v h') : OpOk Y h ι a w ⟨d, .extract x i, ty, pos, aft, g⟩ v h' := by
  obtain ⟨cs, hb, he⟩ := V.onTup_ok he
  obtain ⟨he1, hq⟩ := okv_ok he
  clear he
  subst hq
  have he := he1
  clear he1
  have hv := ha.ev hx
  rw [hb] at hv
  obtain ⟨vs, hev, hvs⟩ := hv.of_tup
  rw [nth_eq] at he
  obtain ⟨v', h1, h2⟩ := hvs.get? he
  exact .pure hr (by simp [execOp, hev, Instr.extract, h1]) h2

theorem op_len (ha : AR nt ι fr a) (hr : WR Y.tab ι h w) {t e : TypeId} {dt : TD} {x : Operand} {x' : EO} (ht : Y.tab t = some dt) (hd : dt.desc = .slice e) (hx : eo x = some x') (he : lenV (ev fr x') h = .ok v h') :
    OpOk Y h ι a w ⟨d, .call ⟨.builtin .len, #[x], #[t]⟩, ty, pos, aft, g⟩ v h' := by
  have hv := ha.ev hx
  rcases V.onSl_ok RV.no_ne he with ⟨hb, he⟩ | ⟨id, off, n, sz', hb, he⟩
  · rw [hb] at hv
    generalize hxv : a.eval x = xv at hv
    cases hv
    cases he
    exact .pure (v' := .int .i64 0) hr (by simp [execOp, resolve, hxv, invoke, builtin, Builtin.len_, Rig.und ht, hd, goInt]) (.i _ _)
  · replace hv := VR.of_sl hb hv
    cases he
    generalize hxv : a.eval x = xv at hv
    cases hv with
    | sl0 => exact .pure (v' := .int .i64 0) hr (by simp [execOp, resolve, hxv, invoke, builtin, Builtin.len_, Rig.und ht, hd, goInt]) (.i _ _)
    | sl hq hc hn h0 => exact .pure (v' := .int .i64 n) hr (by simp [execOp, resolve, hxv, invoke, builtin, Builtin.len_, Rig.und ht, hd, goInt]) (.i _ _)
theorem op_min (ha : AR nt ι fr a) (hr : WR Y.tab ι h w) {x y : Operand} {x' y' : EO} {tys : Array TypeId} (hx : eo x = some x') (hy : eo y = some y') (he : minV (ev fr x') (ev fr y') h = .ok v h') :
    OpOk Y h ι a w ⟨d, .call ⟨.builtin .min, #[x, y], tys⟩, ty, pos, aft, g⟩ v h' := by
  obtain ⟨k, m, hm, he⟩ := V.onI_ok he
  obtain ⟨k', n, hn, he⟩ := V.onI_ok he
  cases he
  have hvx := ha.ev hx
  have hvy := ha.ev hy
  rw [hm] at hvx
  rw [hn] at hvy
  refine .pure (v' := .int k (if n < m then n else m)) hr (by simp [execOp, resolve, hvx.of_i, hvy.of_i, invoke, builtin, Builtin.min_, Builtin.min2]) ?_
  rw [ilt_eq]
  by_cases hlt : n < m <;> simp only [hlt, decide_true, decide_false, cond_true, cond_false, if_true, if_false] <;> exact .i _ _
theorem op_max (ha : AR nt ι fr a) (hr : WR Y.tab ι h w) {x y : Operand} {x' y' : EO} {tys : Array TypeId} (hx : eo x = some x') (hy : eo y = some y') (he : maxV (ev fr x') (ev fr y') h = .ok v h') :
    OpOk Y h ι a w ⟨d, .call ⟨.builtin .max, #[x, y], tys⟩, ty, pos, aft, g⟩ v h' := by
  obtain ⟨k, m, hm, he⟩ := V.onI_ok he
  obtain ⟨k', n, hn, he⟩ := V.onI_ok he
  cases he
  have hvx := ha.ev hx
  have hvy := ha.ev hy
  rw [hm] at hvx
  rw [hn] at hvy
  refine .pure (v' := .int k (if n > m then n else m)) hr (by simp [execOp, resolve, hvx.of_i, hvy.of_i, invoke, builtin, Builtin.max_, Builtin.max2]) ?_
  rw [ilt_eq]
  by_cases hlt : m < n <;> simp only [hlt, decide_true, decide_false, cond_true, cond_false, if_true, if_false] <;> exact .i _ _
end ops
end Go.Ev
namespace Go.Ev
open Go Go.RowKit
section ops
variable {Y : Rig} {nt : Nat} {ι : Io} {fr : Fr} {a : Act} {h h' : H} {w : World} {v : V} {d : Option Tmp} {ty : TypeId} {pos : String} {aft : Array Edge} {g : Option (Nat × Bool)}

theorem op_mkslice (ha : AR nt ι fr a) (hr : WR Y.tab ι h w) {t e : TypeId} {dt de : TD} {z : List V} {x y : Operand} {x' : EO} (ht : Y.tab t = some dt) (hd : dt.desc = .slice e) (hde : Y.tab e = some de) (hz : zeroOf de = some z) (hp : 0 < de.size) (hl : z.length = de.size) (hb : de.bytes ≤ 1000000)
    (hxy : sameOp x y = true) (hx : eo x = some x') (he : mksV de.size z h (ev fr x') = .ok v h') : OpOk Y h ι a w ⟨d, .makeSlice t x y, ty, pos, aft, g⟩ v h' := by
  obtain ⟨k, m, hm, he1⟩ := V.onI_ok he
  obtain ⟨n, hn, he2⟩ := oGet_ok he1
  obtain ⟨hc, he3⟩ := cond_ok RV.no_ne he2
  have hc := Nat.le_of_ble_eq_true hc
  have hmn := nonneg_some hn
  subst hmn
  cases he3
  have hv := ha.ev hx
  rw [hm] at hv
  have hev := hv.of_i
  have hevy : a.eval y = .int k (n : Int) := by
    rw [← hev]
    cases x <;> cases y <;> simp only [sameOp] at hxy <;> try cases hxy
    · have : ‹Tmp› = ‹Tmp› := rfl
      rename_i t1 t2
      have e : t1 = t2 := by simpa using hxy
      rw [e]
    · rename_i v1 v2
      cases v1 <;> cases v2 <;> simp only [] at hxy <;> try cases hxy
      simp only [Bool.and_eq_true, beq_iff_eq] at hxy
      rw [hxy.1, hxy.2]
  obtain ⟨h1, h2⟩ := zeros_rel (ι := ι) hz hl hp n
  have hlen : (rep z n).length = n * de.size := by rw [rep_length, hl]
  obtain ⟨hs, hw⟩ := cells_new (t := e) hr hlen h1 h2
  obtain ⟨i, hi, hi1, hi2, hi3⟩ := Rig.info hde
  refine ⟨.slice (some ⟨w.heap.size, 0, none⟩) n n, _, _, .inl ?_, hs, ?_, hw⟩
  · have hw1 : IntKind.i64.wrap (n : Int) = n := wrap_in .i64 _ (by simp only [kmin]; omega) (by simp only [kmax]; omega)
    have hby : de.bytes * n ≤ 1000000000000 := Nat.le_trans (Nat.mul_le_mul hb hc) (by decide)
    have hbi : ((de.bytes : Int) * (n : Int)) ≤ 1000000000000 := by rw [← Int.natCast_mul]; omega
    have c1 : ¬ ((281474976710656 : Int) < (de.bytes : Int) * (n : Int)) := by omega
    have c2 : ¬ ((n : Int) < 0) := by omega
    have c3 : ¬ (roomBytes < n * de.bytes) := by rw [Nat.mul_comm]; have : roomBytes = 140737488355328 := rfl; omega
    have hti : (typeInfo e).run Y.P w = .ok i w := by simp [typeInfo, hi]
    simp only [execOp, Instr.makeSlice, hev, hevy, Sem.run_bind, Rig.und ht, hd, Result.andThen_ok, asInt, asIntOf, Sem.run_pure, hti, hi2, hw1]
    rw [if_neg (show ¬ ((decide ((n : Int) < 0) || decide ((de.bytes : Int) * (n : Int) > 2 ^ 48) || decide ((n : Int) < 0) || decide ((n : Int) > (n : Int))) = true) by simp only [Bool.or_eq_true, decide_eq_true_eq]; omega)]
    simp only [Int.toNat_natCast, askRoom, if_neg c3, Sem.run_pure, Result.andThen_ok, Sem.run_bind, Rig.size hde]
    by_cases h0 : n * de.size = 0
    · have hn0 : n = 0 := by rcases Nat.mul_eq_zero.1 h0 with h | h <;> omega
      subst hn0
      simp [newRow, show Array.range 0 = #[] from rfl]
    · simp [h0, Rig.zero hde, newRow]
  · have := VR.sl (off := 0) (n := n) (sz := de.size) (c := n) (updI_same ι h.nx ⟨w.heap.size, 0, ((Array.range (n * de.size)).map fun i => de.zero.cells[i % de.zero.cells.size]!).size, none⟩) (by simp) (Nat.le_refl _) hp
    simpa using this

theorem mks_run {t e : TypeId} {dt de : TD} {x y : Operand} {k : IntKind} {n : Nat} (ht : Y.tab t = some dt) (hd : dt.desc = .slice e) (hde : Y.tab e = some de) (hb : de.bytes ≤ 1000000)
    (hxy : sameOp x y = true) (hev : a.eval x = .int k (n : Int)) (hc : n ≤ 1000000) : (execOp a.eval ⟨d, .makeSlice t x y, ty, pos, aft, g⟩).run Y.P w = .ok (.value (.slice (some ⟨w.heap.size, 0, none⟩) n n)) (w.alloc (.cells ((Array.range (n * de.size)).map fun i => de.zero.cells[i % de.zero.cells.size]!) e)) := by
  have hevy : a.eval y = .int k (n : Int) := by
    rw [← hev]
    cases x <;> cases y <;> simp only [sameOp] at hxy <;> try cases hxy
    · have : ‹Tmp› = ‹Tmp› := rfl
      rename_i t1 t2
      have e : t1 = t2 := by simpa using hxy
      rw [e]
    · rename_i v1 v2
      cases v1 <;> cases v2 <;> simp only [] at hxy <;> try cases hxy
      simp only [Bool.and_eq_true, beq_iff_eq] at hxy
      rw [hxy.1, hxy.2]
  obtain ⟨i, hi, hi1, hi2, hi3⟩ := Rig.info hde
  have hw1 : IntKind.i64.wrap (n : Int) = n := wrap_in .i64 _ (by simp only [kmin]; omega) (by simp only [kmax]; omega)
  have hby : de.bytes * n ≤ 1000000000000 := Nat.le_trans (Nat.mul_le_mul hb hc) (by decide)
  have hbi : ((de.bytes : Int) * (n : Int)) ≤ 1000000000000 := by rw [← Int.natCast_mul]; omega
  have c1 : ¬ ((281474976710656 : Int) < (de.bytes : Int) * (n : Int)) := by omega
  have c3 : ¬ (roomBytes < n * de.bytes) := by rw [Nat.mul_comm]; have : roomBytes = 140737488355328 := rfl; omega
  have hti : (typeInfo e).run Y.P w = .ok i w := by simp [typeInfo, hi]
  simp only [execOp, Instr.makeSlice, hev, hevy, Sem.run_bind, Rig.und ht, hd, Result.andThen_ok, asInt, asIntOf, Sem.run_pure, hti, hi2, hw1]
  rw [if_neg (show ¬ ((decide ((n : Int) < 0) || decide ((de.bytes : Int) * (n : Int) > 2 ^ 48) || decide ((n : Int) < 0) || decide ((n : Int) > (n : Int))) = true) by simp only [Bool.or_eq_true, decide_eq_true_eq]; omega)]
  simp only [Int.toNat_natCast, askRoom, if_neg c3, Sem.run_pure, Result.andThen_ok, Sem.run_bind, Rig.size hde]
  by_cases h0 : n * de.size = 0
  · simp [h0, newRow, show Array.range 0 = #[] from rfl]
  · simp [h0, Rig.zero hde, newRow]

theorem op_mkslC (ha : AR nt ι fr a) (hr : WR Y.tab ι h w) {t e : TypeId} {dt de : TD} {z : List V} {x y : Operand} {x' y' : EO} (ht : Y.tab t = some dt) (hd : dt.desc = .slice e) (hde : Y.tab e = some de) (hz : zeroOf de = some z) (hp : 0 < de.size) (hl : z.length = de.size) (hb : de.bytes ≤ 1000000)
    (hx : eo x = some x') (hy : eo y = some y') (he : mksCV de.size z h (ev fr x') (ev fr y') = .ok v h') : OpOk Y h ι a w ⟨d, .makeSlice t x y, ty, pos, aft, g⟩ v h' := by
  obtain ⟨k, m0, hm, he⟩ := V.onI_ok he
  obtain ⟨m, hn, he⟩ := oGet_ok he
  obtain ⟨k2, n0, hm2, he⟩ := V.onI_ok he
  obtain ⟨n, hn2, he⟩ := oGet_ok he
  obtain ⟨hc, he3⟩ := cond_ok RV.no_ne he
  simp only [Bool.and_eq_true] at hc
  have hmn := Nat.le_of_ble_eq_true hc.1
  have hc := Nat.le_of_ble_eq_true hc.2
  have e1 := nonneg_some hn
  have e2 := nonneg_some hn2
  subst e1
  subst e2
  cases he3
  have hv := ha.ev hx
  rw [hm] at hv
  have hev := hv.of_i
  have hv2 := ha.ev hy
  rw [hm2] at hv2
  have hevy := hv2.of_i
  obtain ⟨h1, h2⟩ := zeros_rel (ι := ι) hz hl hp n
  have hlen : (rep z n).length = n * de.size := by rw [rep_length, hl]
  obtain ⟨hs, hw⟩ := cells_new (t := e) hr hlen h1 h2
  obtain ⟨i, hi, hi1, hi2, hi3⟩ := Rig.info hde
  refine ⟨.slice (some ⟨w.heap.size, 0, none⟩) m n, _, _, .inl ?_, hs, ?_, hw⟩
  · have hw0 : IntKind.i64.wrap (m : Int) = m := wrap_in .i64 _ (by simp only [kmin]; omega) (by simp only [kmax]; omega)
    have hw1 : IntKind.i64.wrap (n : Int) = n := wrap_in .i64 _ (by simp only [kmin]; omega) (by simp only [kmax]; omega)
    have hby : de.bytes * n ≤ 1000000000000 := Nat.le_trans (Nat.mul_le_mul hb hc) (by decide)
    have hbi : ((de.bytes : Int) * (n : Int)) ≤ 1000000000000 := by rw [← Int.natCast_mul]; omega
    have c1 : ¬ ((281474976710656 : Int) < (de.bytes : Int) * (n : Int)) := by omega
    have c3 : ¬ (roomBytes < n * de.bytes) := by rw [Nat.mul_comm]; have : roomBytes = 140737488355328 := rfl; omega
    have hti : (typeInfo e).run Y.P w = .ok i w := by simp [typeInfo, hi]
    simp only [execOp, Instr.makeSlice, hev, hevy, Sem.run_bind, Rig.und ht, hd, Result.andThen_ok, asInt, asIntOf, Sem.run_pure, hti, hi2, hw1, hw0]
    rw [if_neg (show ¬ ((decide ((n : Int) < 0) || decide ((de.bytes : Int) * (n : Int) > 2 ^ 48) || decide ((m : Int) < 0) || decide ((m : Int) > (n : Int))) = true) by simp only [Bool.or_eq_true, decide_eq_true_eq]; omega)]
    simp only [Int.toNat_natCast, askRoom, if_neg c3, Sem.run_pure, Result.andThen_ok, Sem.run_bind, Rig.size hde]
    by_cases h0 : n * de.size = 0
    · have hn0 : n = 0 := by rcases Nat.mul_eq_zero.1 h0 with h | h <;> omega
      subst hn0
      simp [newRow, show Array.range 0 = #[] from rfl]
    · simp [h0, Rig.zero hde, newRow]
  · have := VR.sl (off := 0) (n := m) (sz := de.size) (c := n) (updI_same ι h.nx ⟨w.heap.size, 0, ((Array.range (n * de.size)).map fun i => de.zero.cells[i % de.zero.cells.size]!).size, none⟩) (by simp) hmn hp
    simpa using this

theorem bound_rel (ha : AR nt ι fr a) {o : Option Operand} {o' : Option EO} {dflt l : Nat} (ho : optEo o = some o') (hb : bound fr o' dflt = some l) : (o = none ∧ o' = none ∧ l = dflt) ∨ ∃ x x' k, o = some x ∧ o' = some x' ∧ a.eval x = .int k (l : Int) := by
  cases o with
  | none => cases ho; cases hb; exact .inl ⟨rfl, rfl, rfl⟩
  | some x =>
    unfold optEo at ho
    cases hx : eo x with
    | none => simp [hx] at ho
    | some x' =>
      simp [hx] at ho
      subst ho
      obtain ⟨k, m, hm, he⟩ := V.onIo_ok (show (ev fr x').onI none (fun _ n => nonneg n) = some l from hb)
      have := nonneg_some he
      subst this
      have hv := ha.ev hx
      rw [hm] at hv
      exact .inr ⟨x, x', k, rfl, rfl, hv.of_i⟩

theorem sb_run {lo hi mx : Option Operand} {n c l u m : Nat} {k1 k2 k3 : IntKind} (hl : (lo = none ∧ l = 0) ∨ ∃ x, lo = some x ∧ a.eval x = .int k1 (l : Int)) (hu : (hi = none ∧ u = n ∧ mx = none) ∨ ∃ x, hi = some x ∧ a.eval x = .int k2 (u : Int)) (hm : (mx = none ∧ m = c) ∨ ∃ x, mx = some x ∧ a.eval x = .int k3 (m : Int))
    (h1 : l ≤ u) (h2 : u ≤ m) (h3 : m ≤ c) : (Instr.sliceBounds true n c (lo.map a.eval) (hi.map a.eval) (mx.map a.eval)).run Y.P w = .ok (l, u, m) w := by
  have i1 : (l : Int) ≤ (u : Int) := by omega
  have i2 : (u : Int) ≤ (m : Int) := by omega
  have i3 : (m : Int) ≤ (c : Int) := by omega
  have p1 : (0 : Int) ≤ (l : Int) := by omega
  have p2 : (0 : Int) ≤ (u : Int) := by omega
  have p3 : (0 : Int) ≤ (m : Int) := by omega
  rcases hl with ⟨rfl, rfl⟩ | ⟨x, rfl, hx⟩ <;> rcases hu with ⟨rfl, rfl, rfl⟩ | ⟨y, rfl, hy⟩ <;> rcases hm with ⟨hm1, hm2⟩ | ⟨z, hm1, hz⟩ <;> (try subst hm1) <;> (try subst hm2) <;> (try cases hm1) <;>
    simp [Instr.sliceBounds, Instr.sliceBound, *, asIntOf]

theorem sbA_run {lo hi : Option Operand} {n l u : Nat} {k1 k2 : IntKind} (hl : (lo = none ∧ l = 0) ∨ ∃ x, lo = some x ∧ a.eval x = .int k1 (l : Int)) (hu : (hi = none ∧ u = n) ∨ ∃ x, hi = some x ∧ a.eval x = .int k2 (u : Int))
    (h1 : l ≤ u) (h2 : u ≤ n) : (Instr.sliceBounds false n n (lo.map a.eval) (hi.map a.eval) none).run Y.P w = .ok (l, u, n) w := by
  have i1 : (l : Int) ≤ (u : Int) := by omega
  have i2 : (u : Int) ≤ (n : Int) := by omega
  have p1 : (0 : Int) ≤ (l : Int) := by omega
  have p2 : (0 : Int) ≤ (u : Int) := by omega
  rcases hl with ⟨rfl, rfl⟩ | ⟨x, rfl, hx⟩ <;> rcases hu with ⟨rfl, rfl⟩ | ⟨y, rfl, hy⟩ <;> simp [Instr.sliceBounds, Instr.sliceBound, *, asIntOf]
theorem op_slcA (ha : AR nt ι fr a) (hr : WR Y.tab ι h w) {t arr e : TypeId} {dt da de : TD} {n : Nat} {x : Operand} {x' : EO} {lo hi : Option Operand} {lo' hi' : Option EO} (ht : Y.tab t = some dt) (hd : (dt.desc = .pointer arr ∧ Y.tab arr = some da ∧ da.desc = .array n e) ∨ dt.desc = .array n e) (hde : Y.tab e = some de) (hp : 0 < de.size) (hx : eo x = some x') (hlo : optEo lo = some lo') (hhi : optEo hi = some hi')
    (he : slcAV fr n de.size (ev fr x') lo' hi' h = .ok v h') : OpOk Y h ι a w ⟨d, .slice t x lo hi none, ty, pos, aft, g⟩ v h' := by
  have hv := ha.ev hx
  obtain ⟨id, off, hb, he⟩ := V.onP_ok he
  obtain ⟨m, cs, hc, he⟩ := Blk.onC_ok RV.no_ne he
  obtain ⟨h1, he⟩ := cond_ok RV.no_ne he
  have h1 := Nat.le_of_ble_eq_true h1
  obtain ⟨l, hl, he⟩ := oGet_ok he
  obtain ⟨u, hu, he⟩ := oGet_ok he
  obtain ⟨h4, he⟩ := cond_ok RV.no_ne he
  simp only [Bool.and_eq_true] at h4
  have h5 := Nat.le_of_ble_eq_true h4.1
  have h6 := Nat.le_of_ble_eq_true h4.2
  cases he
  rw [hb] at hv
  generalize hxv : a.eval x = xv at hv
  cases hv with
  | @p _ _ q hq =>
    have hroom : m ≤ q.room := by
      have := hr.blk id q hq
      rcases hc with hc | hc <;> rw [hc] at this <;> obtain ⟨_, _, _, _, _, _, h, _⟩ := this <;> exact h
    have b1 : ∃ k1, (lo = none ∧ l = 0) ∨ ∃ x, lo = some x ∧ a.eval x = .int k1 (l : Int) := by
      rcases bound_rel ha hlo hl with ⟨h1, _, h2⟩ | ⟨y, _, k, h1, _, h2⟩
      · exact ⟨.i64, .inl ⟨h1, h2⟩⟩
      · exact ⟨k, .inr ⟨y, h1, h2⟩⟩
    have b2 : ∃ k2, (hi = none ∧ u = n) ∨ ∃ x, hi = some x ∧ a.eval x = .int k2 (u : Int) := by
      rcases bound_rel ha hhi hu with ⟨h1, _, h2⟩ | ⟨y, _, k, h1, _, h2⟩
      · exact ⟨.i64, .inl ⟨h1, h2⟩⟩
      · exact ⟨k, .inr ⟨y, h1, h2⟩⟩
    obtain ⟨k1, b1⟩ := b1
    obtain ⟨k2, b2⟩ := b2
    have hrun := sbA_run (Y := Y) (w := w) b1 b2 h5 h6
    refine .pure (v' := .slice (some (if n = l then ⟨q.b, q.base + off, none⟩ else (⟨q.b, q.base + off, none⟩ : Addr).add (l * de.size))) (u - l) (n - l)) hr ?_ ?_
    · rcases hd with ⟨hd, hta, hda⟩ | hd
      · simp [execOp, Instr.sliceAt, hxv, Rig.und ht, hd, Rig.und hta, hda, Instr.slice, asAddr, hrun, Rig.size hde]
      · simp [execOp, Instr.sliceAt, hxv, Rig.und ht, hd, Instr.sureAddr, hrun, Rig.size hde]
    · by_cases hnl : n = l
      · have hul : u - l = 0 := by omega
        have hnl' : n - l = 0 := by omega
        rw [if_pos hnl, hul, hnl']
        exact .sl0
      · rw [if_neg hnl]
        have hle : off + l * de.size + (n - l) * de.size ≤ q.room := by
          rw [Nat.add_assoc, ← Nat.add_mul, show l + (n - l) = n by omega]; omega
        have := VR.sl (off := off + l * de.size) (n := u - l) (sz := de.size) (c := n - l) hq hle (by omega) hp
        by_cases hz : l * de.size = 0
        · simpa [Addr.add, hz] using this
        · simpa [Addr.add, hz, Nat.add_assoc] using this
theorem sbX_run {lo : Option Operand} {x2 x3 : Operand} {n l u m : Nat} {k1 k2 k3 : IntKind} (hl : (lo = none ∧ l = 0) ∨ ∃ x, lo = some x ∧ a.eval x = .int k1 (l : Int)) (hu : a.eval x2 = .int k2 (u : Int)) (hm : a.eval x3 = .int k3 (m : Int))
    (h1 : l ≤ u) (h2 : u ≤ m) (h3 : m ≤ n) : (Instr.sliceBounds false n n (lo.map a.eval) ((some x2).map a.eval) ((some x3).map a.eval)).run Y.P w = .ok (l, u, m) w := by
  have i1 : (l : Int) ≤ (u : Int) := by omega
  have i2 : (u : Int) ≤ (m : Int) := by omega
  have i3 : (m : Int) ≤ (n : Int) := by omega
  have p1 : (0 : Int) ≤ (l : Int) := by omega
  have p2 : (0 : Int) ≤ (u : Int) := by omega
  have p3 : (0 : Int) ≤ (m : Int) := by omega
  rcases hl with ⟨rfl, rfl⟩ | ⟨x, rfl, hx⟩ <;> simp [Instr.sliceBounds, Instr.sliceBound, *, asIntOf]
theorem op_slcX (ha : AR nt ι fr a) (hr : WR Y.tab ι h w) {t arr e : TypeId} {dt da de : TD} {n : Nat} {x : Operand} {x' : EO} {lo hi mx : Option Operand} {lo' hi' mx' : Option EO} (ht : Y.tab t = some dt) (hd : (dt.desc = .pointer arr ∧ Y.tab arr = some da ∧ da.desc = .array n e) ∨ dt.desc = .array n e) (hde : Y.tab e = some de) (hp : 0 < de.size) (hx : eo x = some x') (hlo : optEo lo = some lo') (hhi : optEo hi = some hi') (hmx : optEo mx = some mx') (his : hi.isSome = true) (hms : mx ≠ none)
    (he : slcXV fr n de.size (ev fr x') lo' hi' mx' h = .ok v h') : OpOk Y h ι a w ⟨d, .slice t x lo hi mx, ty, pos, aft, g⟩ v h' := by
  have hv := ha.ev hx
  obtain ⟨id, off, hb, he⟩ := V.onP_ok he
  obtain ⟨mm, cs, hc, he⟩ := Blk.onC_ok RV.no_ne he
  obtain ⟨h1, he⟩ := cond_ok RV.no_ne he
  have h1 := Nat.le_of_ble_eq_true h1
  obtain ⟨l, hl, he⟩ := oGet_ok he
  obtain ⟨u, hu, he⟩ := oGet_ok he
  obtain ⟨m, hm, he⟩ := oGet_ok he
  obtain ⟨h4, he⟩ := cond_ok RV.no_ne he
  simp only [Bool.and_eq_true] at h4
  have h5 := Nat.le_of_ble_eq_true h4.1.1
  have h6 := Nat.le_of_ble_eq_true h4.1.2
  have h7 := Nat.le_of_ble_eq_true h4.2
  cases he
  rw [hb] at hv
  generalize hxv : a.eval x = xv at hv
  cases hv with
  | @p _ _ q hq =>
    have hroom : mm ≤ q.room := by
      have := hr.blk id q hq
      rcases hc with hc | hc <;> rw [hc] at this <;> obtain ⟨_, _, _, _, _, _, h, _⟩ := this <;> exact h
    have b1 : ∃ k1, (lo = none ∧ l = 0) ∨ ∃ x, lo = some x ∧ a.eval x = .int k1 (l : Int) := by
      rcases bound_rel ha hlo hl with ⟨h1, _, h2⟩ | ⟨y, _, k, h1, _, h2⟩
      · exact ⟨.i64, .inl ⟨h1, h2⟩⟩
      · exact ⟨k, .inr ⟨y, h1, h2⟩⟩
    obtain ⟨x2, rfl⟩ : ∃ x2, hi = some x2 := by cases hi with | none => simp at his | some y => exact ⟨y, rfl⟩
    obtain ⟨x3, rfl⟩ : ∃ x3, mx = some x3 := by cases mx with | none => exact absurd rfl hms | some y => exact ⟨y, rfl⟩
    have b2 : ∃ k2, a.eval x2 = .int k2 (u : Int) := by
      rcases bound_rel ha hhi hu with ⟨h1, _, h2⟩ | ⟨y, _, k, h1, _, h2⟩
      · cases h1
      · cases h1; exact ⟨k, h2⟩
    have b3 : ∃ k3, a.eval x3 = .int k3 (m : Int) := by
      rcases bound_rel ha hmx hm with ⟨h1, _, h2⟩ | ⟨y, _, k, h1, _, h2⟩
      · cases h1
      · cases h1; exact ⟨k, h2⟩
    obtain ⟨k1, b1⟩ := b1
    obtain ⟨k2, b2⟩ := b2
    obtain ⟨k3, b3⟩ := b3
    have hrun := sbX_run (Y := Y) (w := w) (n := n) b1 b2 b3 h5 h6 h7
    have hrel : VR ι (.sl id (off + l * de.size) (u - l) de.size) (.slice (some (if m = l then ⟨q.b, q.base + off, none⟩ else (⟨q.b, q.base + off, none⟩ : Addr).add (l * de.size))) (u - l) (m - l)) := by
      by_cases hnl : m = l
      · have hul : u - l = 0 := by omega
        have hnl' : m - l = 0 := by omega
        rw [if_pos hnl, hul, hnl']
        exact .sl0
      · rw [if_neg hnl]
        have hle : off + l * de.size + (m - l) * de.size ≤ q.room := by
          have : (l + (m - l)) * de.size ≤ n * de.size := Nat.mul_le_mul_right _ (by omega)
          rw [Nat.add_assoc, ← Nat.add_mul]; omega
        have := VR.sl (off := off + l * de.size) (n := u - l) (sz := de.size) (c := m - l) hq hle (by omega) hp
        by_cases hz : l * de.size = 0
        · simpa [Addr.add, hz] using this
        · simpa [Addr.add, hz, Nat.add_assoc] using this
    refine .pure (v' := .slice (some (if m = l then ⟨q.b, q.base + off, none⟩ else (⟨q.b, q.base + off, none⟩ : Addr).add (l * de.size))) (u - l) (m - l)) hr ?_ ?_
    · rcases hd with ⟨hd, hta, hda⟩ | hd
      · simp only [Option.map_some] at hrun
        simp [execOp, Instr.sliceAt, hxv, Rig.und ht, hd, Rig.und hta, hda, Instr.slice, asAddr, hrun, Rig.size hde]
      · simp only [Option.map_some] at hrun
        simp [execOp, Instr.sliceAt, hxv, Rig.und ht, hd, Instr.sureAddr, hrun, Rig.size hde]
    · cases hmu : Nat.beq m u with
      | false => exact hrel
      | true =>
        have := Nat.eq_of_beq_eq_true hmu
        subst this
        exact hrel.tighten
theorem op_slice (ha : AR nt ι fr a) (hr : WR Y.tab ι h w) {t e : TypeId} {dt de : TD} {x : Operand} {x' : EO} {lo hi mx : Option Operand} {lo' hi' mx' : Option EO} (ht : Y.tab t = some dt) (hd : dt.desc = .slice e) (hde : Y.tab e = some de) (hx : eo x = some x') (hlo : optEo lo = some lo') (hhi : optEo hi = some hi') (hmx : optEo mx = some mx')
    (he : sliceV fr de.size (ev fr x') lo' hi' mx' h = .ok v h') (hmh : mx.isSome = true → hi.isSome = true) : OpOk Y h ι a w ⟨d, .slice t x lo hi mx, ty, pos, aft, g⟩ v h' := by
  have hv := ha.ev hx
  have hmh' : mx = none ∨ ∃ y, hi = some y := by
    cases mx with
    | none => exact .inl rfl
    | some m => cases hi with | none => simp at hmh | some y => exact .inr ⟨y, rfl⟩
  rcases V.onSl_ok RV.no_ne he with ⟨hb, he1⟩ | ⟨id, off, n, sz', hb, he1⟩
  · rw [hb] at hv
    generalize hxv : a.eval x = xv at hv
    cases hv
    obtain ⟨l, hl, he2⟩ := oGet_ok he1
    obtain ⟨u, hu, he3⟩ := oGet_ok he2
    obtain ⟨m, hm, he4⟩ := oGet_ok he3
    obtain ⟨hc, he5⟩ := cond_ok RV.no_ne he4
    cases he5
    simp only [Bool.and_eq_true, Nat.beq_eq] at hc
    obtain ⟨⟨rfl, rfl⟩, rfl⟩ := hc
    have hrun : (Instr.sliceBounds true 0 0 (lo.map a.eval) (hi.map a.eval) (mx.map a.eval)).run Y.P w = .ok (0, 0, 0) w := by
      have b1 := bound_rel ha hlo hl
      have b2 := bound_rel ha hhi hu
      have b3 := bound_rel ha hmx hm
      rcases b1 with ⟨rfl, _, _⟩ | ⟨x1, _, k1, rfl, _, e1⟩ <;> rcases b2 with ⟨rfl, _, _⟩ | ⟨x2, _, k2, rfl, _, e2⟩ <;> rcases b3 with ⟨rfl, _, _⟩ | ⟨x3, _, k3, rfl, _, e3⟩ <;>
        first
          | (simp [Instr.sliceBounds, Instr.sliceBound, *, asIntOf]; done)
          | (simp at hmh; done)
    exact .pure (v' := .slice none 0 0) hr (by simp [execOp, Instr.sliceAt, hxv, Rig.und ht, hd, Instr.slice, hrun, Rig.size hde]) .sn
  · replace hv := VR.of_sl hb hv
    obtain ⟨hsz, he2⟩ := cond_ok RV.no_ne he1
    have hsz := Nat.eq_of_beq_eq_true hsz
    subst hsz
    obtain ⟨l, hl, he3⟩ := oGet_ok he2
    obtain ⟨u, hu, he4⟩ := oGet_ok he3
    have b1 := bound_rel ha hlo hl
    have b2 := bound_rel ha hhi hu
    -- the bounds, and what is behind the length
    have key : ∃ (mo : Option Nat), cutV id off n de.size h l u mo = .ok v h' ∧ ((mx = none ∧ mo = none) ∨ ∃ y k m, mx = some y ∧ mo = some m ∧ a.eval y = .int k (m : Int)) := by
      cases mx' with
      | none =>
        refine ⟨none, he4, .inl ⟨?_, rfl⟩⟩
        cases mx with
        | none => rfl
        | some y => unfold optEo at hmx; cases hy : eo y <;> simp [hy] at hmx
      | some y' =>
        obtain ⟨m, hm, he5⟩ := oGet_ok (show oGet (bound fr (some y') 0) RV.no (fun m => cutV id off n de.size h l u (some m)) = RV.ok v h' from he4)
        rcases bound_rel ha hmx hm with ⟨_, h2, _⟩ | ⟨y, y'', k, h1, h2, h3⟩
        · cases h2
        · exact ⟨some m, he5, .inr ⟨y, k, m, h1, rfl, h3⟩⟩
    obtain ⟨mo, hcut, hmo⟩ := key
    obtain ⟨hc, he5⟩ := cond_ok RV.no_ne hcut
    have hv' : v = (oGet mo (.sl id (off + l * de.size) (u - l) de.size) fun m => bif Nat.beq m u then .slt id (off + l * de.size) (u - l) de.size else .sl id (off + l * de.size) (u - l) de.size) ∧ h' = h := by
      cases he5; exact ⟨rfl, rfl⟩
    clear he5 hcut
    obtain ⟨hv', rfl⟩ := hv'
    have shut : ∀ {m : Nat} {b : Option Addr}, (mo = none ∨ mo = some m) → VR ι (.sl id (off + l * de.size) (u - l) de.size) (.slice b (u - l) (m - l)) → VR ι v (.slice b (u - l) (m - l)) := by
      intro m b hm hvr
      rw [hv']
      rcases hm with hm | hm <;> rw [hm]
      · exact hvr
      · show VR ι (bif Nat.beq m u then _ else _) _
        cases hmu : Nat.beq m u with
        | false => exact hvr
        | true => have := Nat.eq_of_beq_eq_true hmu; subst this; exact hvr.tighten
    simp only [Bool.and_eq_true] at hc
    obtain ⟨⟨hc1, hc2⟩, hc3⟩ := hc
    have hc1 := Nat.le_of_ble_eq_true hc1
    have hc2 := Nat.le_of_ble_eq_true hc2
    generalize hxv : a.eval x = xv at hv
    have gen : ∀ (ad : Addr) (c m : Nat), n ≤ c → xv = .slice (some ad) n c → u ≤ m → m ≤ c → ((mx = none ∧ m = c) ∨ ∃ y k, mx = some y ∧ a.eval y = .int k (m : Int)) →
        (execOp a.eval ⟨d, .slice t x lo hi mx, ty, pos, aft, g⟩).run Y.P w = .ok (.value (.slice (some (if m = l then ad else ad.add (l * de.size))) (u - l) (m - l))) w := by
      intro ad c m hnc hxe hum hmc hmm
      have hlo3 : ∃ k1, (lo = none ∧ l = 0) ∨ ∃ x, lo = some x ∧ a.eval x = .int k1 (l : Int) := by
        rcases b1 with ⟨h1, _, h2⟩ | ⟨y, _, k, h1, _, h2⟩
        · exact ⟨.i64, .inl ⟨h1, h2⟩⟩
        · exact ⟨k, .inr ⟨y, h1, h2⟩⟩
      have hhi3 : ∃ k2, (hi = none ∧ u = n ∧ mx = none) ∨ ∃ x, hi = some x ∧ a.eval x = .int k2 (u : Int) := by
        rcases b2 with ⟨h1, _, h2⟩ | ⟨y, _, k, h1, _, h2⟩
        · refine ⟨.i64, .inl ⟨h1, h2, ?_⟩⟩
          rcases hmh' with h | ⟨y, hy⟩
          · exact h
          · rw [h1] at hy; cases hy
        · exact ⟨k, .inr ⟨y, h1, h2⟩⟩
      have hmx3 : ∃ k3, (mx = none ∧ m = c) ∨ ∃ x, mx = some x ∧ a.eval x = .int k3 (m : Int) := by
        rcases hmm with h | ⟨y, k, h1, h2⟩
        · exact ⟨.i64, .inl h⟩
        · exact ⟨k, .inr ⟨y, h1, h2⟩⟩
      obtain ⟨k1, hlo3⟩ := hlo3
      obtain ⟨k2, hhi3⟩ := hhi3
      obtain ⟨k3, hmx3⟩ := hmx3
      have hrun := sb_run (Y := Y) (w := w) (n := n) (c := c) hlo3 hhi3 hmx3 hc1 hum hmc
      rw [hxe] at hxv
      by_cases hml : m = l <;> simp [execOp, Instr.sliceAt, hxv, Rig.und ht, hd, Instr.slice, hrun, Rig.size hde, hml]
    have hmval : ∀ c, n ≤ c → ∃ m, u ≤ m ∧ m ≤ c ∧ ((mx = none ∧ m = c) ∨ ∃ y k, mx = some y ∧ a.eval y = .int k (m : Int)) ∧ (mo = none ∨ mo = some m) := by
      intro c hnc
      rcases hmo with ⟨h1, h2⟩ | ⟨y, k, m, h1, h2, h3⟩
      · exact ⟨c, by omega, Nat.le_refl _, .inl ⟨h1, rfl⟩, .inl h2⟩
      · subst h2
        simp only [oGet, Bool.and_eq_true] at hc3
        exact ⟨m, Nat.le_of_ble_eq_true hc3.1, Nat.le_trans (Nat.le_of_ble_eq_true hc3.2) hnc, .inr ⟨y, k, h1, h3⟩, .inr rfl⟩
    cases hv with
    | @sl0 _ _ _ adz =>
      obtain ⟨m, hm1, hm2, hm3, hm4⟩ := hmval 0 (Nat.le_refl _)
      have := gen adz 0 m (Nat.le_refl _) rfl hm1 hm2 hm3
      have e1 : u = 0 := by omega
      have e2 : l = 0 := by omega
      have e3 : m = 0 := by omega
      subst e1; subst e2; subst e3
      exact .pure hr this (shut hm4 (by simpa using VR.sl0))
    | @sl _ _ _ _ c q hq hcap hn h0 =>
      obtain ⟨m, hm1, hm2, hm3, hm4⟩ := hmval c hn
      have := gen ⟨q.b, q.base + off, none⟩ c m hn rfl hm1 hm2 hm3
      refine .pure hr this (shut hm4 ?_)
      by_cases hml : m = l
      · have e1 : u - l = 0 := by omega
        have e2 : m - l = 0 := by omega
        simp only [hml, if_true, e1, Nat.sub_self]
        exact VR.sl0
      · simp only [hml, if_false, add_lit', Nat.add_assoc]
        refine .sl hq ?_ (by omega) h0
        have e1 : l * de.size + (m - l) * de.size = m * de.size := by rw [← Nat.add_mul]; congr 1; omega
        have e2 : m * de.size ≤ c * de.size := Nat.mul_le_mul_right _ hm2
        omega
end ops
end Go.Ev
namespace Go.Ev
open Go Go.RowKit

theorem WR.adopt {tab : Tab} {ι : Io} {h : H} {w w' : World} {b : Blk} {id0 : K} {q0 : Pl} {base room : Nat} (hr : WR tab ι h w) (hq0 : ι id0 = some q0) (hlv : live h id0) (hnr : ¬ isRom (h.get id0)) (hs : w'.heap.size = w.heap.size)
    (hoth : ∀ c, c ≠ q0.b → w'.heap[c]? = w.heap[c]?) (hos : w'.os = w.os) (htp : w'.tape = w.tape) (hout : w'.output = w.output) (hb : BR tab (updI ι h.nx ⟨q0.b, base, room, none⟩) ⟨q0.b, base, room, none⟩ w' b) :
    Step h.nx.nat ι w ((h.put id0 .dead).new b).nx.nat (updI ι h.nx ⟨q0.b, base, room, none⟩) w' ∧ WR tab (updI ι h.nx ⟨q0.b, base, room, none⟩) ((h.put id0 .dead).new b) w' := by
  have hn : ι h.nx = none := hr.fresh _ (Nat.le_refl _)
  have hext := updI_ext (q := ⟨q0.b, base, room, none⟩) hn
  have hne0 : id0 ≠ h.nx := fun e => by rw [e, hn] at hq0; cases hq0
  have hget : ∀ k, ((h.put id0 .dead).new b).get k = if k = h.nx then b else if k = id0 then .dead else h.get k := fun k => by
    rw [H.get_new, H.get_put]; rfl
  refine ⟨⟨hext, fun id q hq hi => ?_, fun c hc ho => hoth c fun e => ho id0 q0 hq0 e.symm, hos, htp, hout, Nat.le_of_eq hs.symm, (by have h1 : ((h.put id0 .dead).new b).nx.nat = h.nx.nat + 1 := K.succ_nat _; omega), fun id hid hi => (by rw [updI_other _ _ (fun e => by rw [e] at hid; omega)]; exact hi)⟩, fun id q hq => ?_, fun id q hq => ?_, fun id id' q q' hq hq' hl hl' e => ?_, fun id hid => ?_, fun t d g u k1 k2 => ?_⟩
  · by_cases e : id = h.nx
    · subst e; rw [updI_same] at hq; cases hq; exact .inr ⟨id0, q0, hq0, rfl⟩
    · rw [updI_other _ _ e, hi] at hq; cases hq
  · rw [hget]
    by_cases e : id = h.nx
    · subst e; rw [updI_same] at hq; cases hq; simpa using hb
    · rw [updI_other _ _ e] at hq
      simp only [e, if_false]
      by_cases e0 : id = id0
      · simp only [e0, if_true]; trivial
      · simp only [e0, if_false]
        by_cases hd : h.get id = .dead
        · rw [hd]; trivial
        · exact (hr.blk id q hq).mono hext (hoth _ fun e' => e0 (hr.inj1 hq hq0 hd hlv hnr e'))
  · rw [hs]
    by_cases e : id = h.nx
    · subst e; rw [updI_same] at hq; cases hq; exact hr.lt id0 q0 hq0
    · rw [updI_other _ _ e] at hq; exact hr.lt id q hq
  · have hl0 : ∀ {k : K}, k ≠ h.nx → live ((h.put id0 .dead).new b) k → k ≠ id0 ∧ live h k := fun {k} hk hlv => by
      unfold live at hlv ⊢
      rw [hget, if_neg hk] at hlv
      by_cases e : k = id0
      · simp [e] at hlv
      · rw [if_neg e] at hlv; exact ⟨e, hlv⟩
    by_cases e1 : id = h.nx
    · by_cases e2 : id' = h.nx
      · exact .inl (by rw [e1, e2])
      · subst e1; rw [updI_same] at hq; cases hq; rw [updI_other _ _ e2] at hq'
        obtain ⟨h1, h2⟩ := hl0 e2 hl'
        exact absurd (hr.inj1 hq' hq0 h2 hlv hnr e.symm) h1
    · by_cases e2 : id' = h.nx
      · subst e2; rw [updI_same] at hq'; cases hq'; rw [updI_other _ _ e1] at hq
        obtain ⟨h1, h2⟩ := hl0 e1 hl
        exact absurd (hr.inj1 hq hq0 h2 hlv hnr e) h1
      · rw [updI_other _ _ e1] at hq; rw [updI_other _ _ e2] at hq'
        rw [hget, if_neg e1, if_neg (hl0 e1 hl).1, hget, if_neg e2, if_neg (hl0 e2 hl').1]
        exact hr.inj id id' q q' hq hq' (hl0 e1 hl).2 (hl0 e2 hl').2 e
  · have h1 : ((h.put id0 .dead).new b).nx.nat = h.nx.nat + 1 := K.succ_nat _
    rw [h1] at hid
    rw [updI_other _ _ (fun e => by rw [e] at hid; omega)]
    exact hr.fresh id (by omega)
  · obtain ⟨⟨ty, fz, k3⟩, k4⟩ := hr.glob t d g u k1 k2
    have hne : g ≠ q0.b := fun e => (k4 id0 q0 hq0 e.symm).elim hnr hlv
    refine ⟨⟨ty, fz, (hoth g hne).trans k3⟩, fun id q hq e => ?_⟩
    have e1 : id ≠ h.nx := fun e1 => by subst e1; rw [updI_same] at hq; cases hq; exact hne e.symm
    rw [updI_other _ _ e1] at hq
    rw [hget, if_neg e1]
    by_cases e2 : id = id0
    · rw [if_pos e2]; exact .inr rfl
    · rw [if_neg e2]; exact k4 id q hq e

theorem Step.drew (n : Nat) (ι : Io) (w : World) : Step n ι w n ι w.drew := ⟨Ext.refl ι, fun id q h k => (by rw [h] at k; cases k), fun _ _ _ => rfl, rfl, rfl, rfl, Nat.le_refl _, Nat.le_refl _, fun _ _ h => h⟩
theorem WR.drew {tab : Tab} {ι : Io} {h : H} {w : World} (hr : WR tab ι h w) : WR tab ι h w.drew := hr.same (fun _ _ => rfl) (Nat.le_refl _)

section ops
variable {Y : Rig} {nt : Nat} {ι : Io} {fr : Fr} {a : Act} {h h' : H} {w : World} {v : V} {d : Option Tmp} {ty : TypeId} {pos : String} {aft : Array Edge} {g : Option (Nat × Bool)}

theorem slice_cells (hr : WR Y.tab ι h w) {id : K} {q : Pl} (hq : ι id = some q) {len off n sz : Nat} {cs : List V} (hb : h.get id = .cells len cs ∨ h.get id = .rom len cs) (hle : off + n * sz ≤ len) :
    ∃ vs, VRs ι (takeN (n * sz) (dropN off cs)) vs ∧ vs.length = n * sz ∧ (∀ (j : Nat) (u : Value), vs[j]? = some u → w.cell? ((⟨q.b, q.base + off, none⟩ : Addr).add j) = some u) ∧ (∀ c ∈ takeN (n * sz) (dropN off cs), c.one = true) ∧ (∀ u ∈ vs, u.oneCell' = true) := by
  obtain ⟨cur, t, fz, hh, hn, hsz, hroom, hone, hrel⟩ := BR.cells hr hq hb
  rw [takeN_eq, dropN_eq]
  have h1 := (hrel.drop off).take (n * sz)
  have ho : ∀ c ∈ (cs.drop off).take (n * sz), c.one = true := fun c hc => hone c (List.mem_of_mem_drop (List.mem_of_mem_take hc))
  refine ⟨_, h1, ?_, fun j u hu => ?_, ho, fun u hu => ?_⟩
  · rw [h1.len]; simp; omega
  · rw [add_lit', Nat.add_assoc]
    refine cell_in (n := len) hh ?_
    rw [List.getElem?_take] at hu
    split at hu
    · rw [List.getElem?_drop] at hu; exact hu
    · cases hu
  · obtain ⟨j, hj, rfl⟩ := List.getElem_of_mem hu
    have hj' : j < ((cs.drop off).take (n * sz)).length := by rw [← h1.len]; exact hj
    exact ((h1.at_ j hj' hj).oneCell (ho _ (List.getElem_mem hj'))).2

theorem addOf_rel (hr : WR Y.tab ι h w) {sz : Nat} {y : V} {y' : Value} {m : Nat} {new : List V} (hy : VR ι y y') (he : addOf sz h y = some (m, new)) :
    ∃ vs, VRs ι new vs ∧ vs.length = m * sz ∧ (∀ c ∈ new, c.one = true) ∧ (∀ u ∈ vs, u.oneCell' = true) ∧
      ((m = 0 ∧ (y' = .slice none 0 0 ∨ ∃ ad c, y' = .slice (some ad) 0 c)) ∨ ∃ ad c, y' = .slice (some ad) m c ∧ ∀ (j : Nat) (u : Value), vs[j]? = some u → w.cell? (ad.add j) = some u) := by
  rcases V.onSl_ok (by simp) he with ⟨rfl, he⟩ | ⟨id, off, n, sz', hb0, he⟩
  · cases he
    cases hy
    exact ⟨[], VRs.nil, by simp, by simp, by simp, .inl ⟨rfl, .inl rfl⟩⟩
  · replace hy := VR.of_sl hb0 hy
    obtain ⟨len, cs, hb, he1⟩ := Blk.onC_ok (by simp) he
    obtain ⟨hc, he2⟩ := cond_ok (by simp) he1
    simp only [Bool.and_eq_true, Nat.beq_eq] at hc
    obtain ⟨rfl, hc2⟩ := hc
    have hc2 := Nat.le_of_ble_eq_true hc2
    cases he2
    cases hy with
    | @sl0 _ _ _ adz =>
      refine ⟨[], ?_, by simp, ?_, by simp, .inl ⟨rfl, .inr ⟨_, _, rfl⟩⟩⟩
      · rw [Nat.zero_mul]; exact VRs.nil
      · rw [Nat.zero_mul]; intro c hc; cases hc
    | @sl _ _ _ _ c q hq hcap hn h0 =>
      obtain ⟨vs, h1, h2, h3, h4, h5⟩ := slice_cells hr hq hb hc2
      exact ⟨vs, h1, h2, h4, h5, .inr ⟨_, c, rfl, h3⟩⟩

theorem zeroCells_size (z : Array Value) (n : Nat) : (Builtin.zeroCells z n).size = n * z.size := by simp [Builtin.zeroCells]

theorem grow_rel (hr : WR Y.tab ι h w) {sz m : Nat} {cs : List V} {vs : List Value} {z : Array Value} {cap : Nat} {e : TypeId} (hcs : VRs ι cs vs) (hl : vs.length = m * sz) (ho : ∀ c ∈ cs, c.one = true) (hz : z.size = sz) (hcap : m ≤ cap) (h0 : 0 < sz) :
    ∃ ι', Step h.nx.nat ι w (h.new (.cells (m * sz) cs)).nx.nat ι' (w.drew.alloc (.cells (vs.toArray ++ Builtin.zeroCells z (cap - m)) e)) ∧ VR ι' (.sl h.nx 0 m sz) (.slice (some ⟨w.heap.size, 0, none⟩) m cap) ∧ WR Y.tab ι' (h.new (.cells (m * sz) cs)) (w.drew.alloc (.cells (vs.toArray ++ Builtin.zeroCells z (cap - m)) e)) := by
  have hsz : (vs.toArray ++ Builtin.zeroCells z (cap - m)).size = cap * sz := by
    simp only [Array.size_append, List.size_toArray, zeroCells_size, hz, hl]
    rw [← Nat.add_mul]; congr 1; omega
  have hle : m * sz ≤ cap * sz := Nat.mul_le_mul_right _ hcap
  have hal := hr.drew.alloc (b := .cells (m * sz) cs) (o := .cells (vs.toArray ++ Builtin.zeroCells z (cap - m)) e) (base := 0) (room := cap * sz)
    ⟨_, e, (0, 0), heap_alloc_new w.drew _, by rw [← hcs.len, hl], by rw [hsz]; simp, hle, ho, by
      have e1 : List.take (m * sz) (List.drop 0 (vs.toArray ++ Builtin.zeroCells z (cap - m)).toList) = vs := by
        simp [← hl]
      show VRs _ cs (List.take (m * sz) (List.drop 0 _))
      rw [e1]
      exact hcs.mono (updI_ext (hr.fresh _ (Nat.le_refl _))), pinOk_new rfl⟩
  refine ⟨_, (Step.drew _ ι w).trans hal.1, ?_, hal.2⟩
  have := VR.sl (off := 0) (n := m) (sz := sz) (c := cap) (updI_same ι h.nx ⟨w.drew.heap.size, 0, cap * sz, none⟩) (by simp) hcap h0
  simpa using this

theorem op_append (ha : AR nt ι fr a) (hr : WR Y.tab ι h w) {t e : TypeId} {dt de : TD} {x y : Operand} {x' y' : EO} (ht : Y.tab t = some dt) (hd : dt.desc = .slice e) (hde : Y.tab e = some de) (hp : 0 < de.size) (hz : de.zero.cells.size = de.size) (hb : de.bytes ≤ 1000000)
    (hx : eo x = some x') (hy : eo y = some y') (he : appV de.size h (ev fr x') (ev fr y') = .ok v h') : OpOk Y h ι a w ⟨d, .call ⟨.builtin .append, #[x, y], #[t, t]⟩, ty, pos, aft, g⟩ v h' := by
  obtain ⟨⟨m, new⟩, hadd, he1⟩ := oGet_ok he
  obtain ⟨vs, g1, g2, g3, g4, g5⟩ := addOf_rel hr (ha.ev hy) hadd
  obtain ⟨i, hi, hi1, hi2, hi3⟩ := Rig.info hde
  have hu : Y.P.underlying t = some (.slice e) := by rw [(Y.htab t dt ht).und, hd]
  have hvx := ha.ev hx
  have hex : ∀ v' w', (Builtin.append_ #[t, t] ty #[a.eval x, a.eval y]).run Y.P w = .ok v' w' → (execOp a.eval ⟨d, .call ⟨.builtin .append, #[x, y], #[t, t]⟩, ty, pos, aft, g⟩).run Y.P w = .ok (.value v') w' := fun v' w' h => by
    simp [execOp, resolve, invoke, builtin, h]
  have hempty : ∀ (base : Option Addr) (n c : Nat), n ≤ c → (a.eval y = .slice none 0 0 ∨ ∃ ad c, a.eval y = .slice (some ad) 0 c) → (Builtin.append_ #[t, t] ty #[.slice base n c, a.eval y]).run Y.P w = .ok (.slice base n c) w := by
    intro base n c hnc hye
    have hu0 : ∀ s l : Nat, (Builtin.firstCells s 0 (.slice none 0 0)).run Y.P w = .ok #[] w := fun s l => rfl
    rcases hye with h1 | ⟨ad, c', h1⟩
    · rw [h1]
      cases base <;> simp [Builtin.append_, run_underlying hu, sizeOf, typeInfo, hi, Builtin.lenOf, Builtin.firstCells, hnc, storeCells]
    · rw [h1]
      have hf := run_firstCells_some (P := Y.P) w i.size 0 ad 0 c' [] (by simp) (by simp)
      cases base <;> simp [Builtin.append_, run_underlying hu, sizeOf, typeInfo, hi, Builtin.lenOf, hnc, hf, storeCells]
  cases ht1 : (ev fr x').tight with
  | true =>
    rw [ht1] at he1
    have he1 : appT de.size h (ev fr x') m new = .ok v h' := he1
    unfold appT at he1
    obtain ⟨id, off, n, sz', hb1⟩ : ∃ id off n sz', ev fr x' = .slt id off n sz' := by
      cases hx' : ev fr x' <;> rw [hx'] at ht1 <;> first | exact ⟨_, _, _, _, rfl⟩ | cases ht1
    rw [hb1] at hvx he1
    generalize hxv : a.eval x = xv at hvx hex
    cases hm0 : Nat.beq m 0 with
    | true =>
      rw [hm0] at he1
      cases he1
      have hm0 := Nat.eq_of_beq_eq_true hm0
      subst hm0
      have hye : a.eval y = .slice none 0 0 ∨ ∃ ad c, a.eval y = .slice (some ad) 0 c := by
        rcases g5 with ⟨_, h1⟩ | ⟨ad, c, h1, _⟩
        · exact h1
        · exact .inr ⟨ad, c, h1⟩
      cases hvx with
      | slt0 => exact .pure hr (hex _ _ (hempty _ 0 0 (Nat.le_refl _) hye)) .slt0
      | slt hq hcap h0 => exact .pure hr (hex _ _ (hempty _ n n (Nat.le_refl _) hye)) (.slt hq hcap h0)
    | false =>
      rw [hm0] at he1
      obtain ⟨len, cs, hblk, he3⟩ := Blk.onC_ok RV.no_ne he1
      obtain ⟨hc, he4⟩ := cond_ok RV.no_ne he3
      simp only [Bool.and_eq_true, Nat.beq_eq] at hc
      obtain ⟨⟨rfl, hc2⟩, hc3⟩ := hc
      have hc2 := Nat.le_of_ble_eq_true hc2
      have hc3 : n + m ≤ 16777216 := Nat.le_of_ble_eq_true hc3
      cases he4
      have hm0 : m ≠ 0 := fun e => by rw [e] at hm0; cases hm0
      rcases g5 with ⟨h1, _⟩ | ⟨ad, c', h1, h2⟩
      · exact absurd h1 hm0
      have hby : (n + m) * i.bytes ≤ 140737488355328 := by
        rw [hi2]; exact Nat.le_trans (Nat.mul_le_mul hc3 hb) (by decide)
      have grow : ∀ (ad0 : Addr) (olds : List Value), xv = .slice (some ad0) n n → VRs ι (takeN (n * de.size) (dropN off cs)) olds → olds.length = n * de.size → (∀ (j : Nat) (u : Value), olds[j]? = some u → w.cell? (ad0.add j) = some u) → (∀ c ∈ takeN (n * de.size) (dropN off cs), c.one = true) →
          OpOk Y h ι a w ⟨d, .call ⟨.builtin .append, #[x, y], #[t, t]⟩, ty, pos, aft, g⟩ (.sl h.nx 0 (n + m) de.size) (h.new (.cells ((n + m) * de.size) (cat (takeN (n * de.size) (dropN off cs)) new))) := by
        intro ad0 olds hxe ho1 ho2 ho3 ho4
        have hx2 := run_append_grow (P := Y.P) w t ty e i de.zero hu hi hi3 ad0 n n olds (by rw [hi1]; exact ho2) ho3 ad m c' vs (by rw [hi1]; exact g2) h2 (by omega) (by omega) (growslice_fits (by omega) hby)
        have hcat : cat (takeN (n * de.size) (dropN off cs)) new = takeN (n * de.size) (dropN off cs) ++ new := cat_eq _ _
        rw [hcat]
        obtain ⟨ι', s1, s2, s3⟩ := grow_rel (e := e) (h := h) (m := n + m) (z := de.zero.cells) (cap := grownCap w (n + m) n e) hr (ho1.append g1) (by simp [ho2, g2, Nat.add_mul]) (fun c hc => (List.mem_append.1 hc).elim (ho4 c) (g3 c)) hz (grownCap_ge w (n + m) n e) hp
        have e1 : (olds ++ vs).toArray = olds.toArray ++ vs.toArray := by simp
        rw [e1] at s1 s3
        exact ⟨_, _, ι', .inl (hex _ _ (by rw [hxe, h1]; exact hx2)), s1, s2, s3⟩
      cases hvx with
      | @slt0 _ _ _ adz =>
        refine grow adz [] rfl ?_ (by simp) (by simp) ?_
        · rw [Nat.zero_mul]; exact VRs.nil
        · rw [Nat.zero_mul]; intro c hc; cases hc
      | @slt _ _ _ _ q hq hcap h0 =>
        obtain ⟨olds, o1, o2, o3, o4, o5⟩ := slice_cells hr hq hblk hc2
        exact grow ⟨q.b, q.base + off, none⟩ olds rfl o1 o2 o3 o4
  | false =>
  rw [ht1] at he1
  have he1 : (ev fr x').onSl RV.no (bif Nat.ble m 16777216 then app0 de.size h m new else .no) (fun id off n sz' => (h.get id).onW .no fun len cs => bif Nat.beq de.size sz' && Nat.ble (off + n * de.size) len && Nat.ble (n + m) 16777216 then app1 de.size h id off n cs m new else .no) = .ok v h' := he1
  rcases V.onSl_ok RV.no_ne he1 with ⟨hb1, he2⟩ | ⟨id, off, n, sz', hb1, he2⟩
  · -- onto nil
    rw [hb1] at hvx
    generalize hxv : a.eval x = xv at hvx hex
    cases hvx
    obtain ⟨hm, he2⟩ := cond_ok RV.no_ne he2
    have hm := Nat.le_of_ble_eq_true hm
    unfold app0 at he2
    cases hm0 : Nat.beq m 0 with
    | true =>
      rw [hm0] at he2
      cases he2
      have hm0 := Nat.eq_of_beq_eq_true hm0
      subst hm0
      refine .pure hr (hex _ _ (hempty none 0 0 (Nat.le_refl _) ?_)) .sn
      rcases g5 with ⟨_, h1⟩ | ⟨ad, c, h1, _⟩
      · exact h1
      · exact .inr ⟨ad, c, h1⟩
    | false =>
      rw [hm0] at he2
      cases he2
      have hm0 : m ≠ 0 := fun e => by rw [e] at hm0; cases hm0
      rcases g5 with ⟨h1, _⟩ | ⟨ad, c, h1, h2⟩
      · exact absurd h1 hm0
      · have hm' : m ≤ 16777216 := hm
        have hbm : m * i.bytes ≤ 281474976710656 := by
          rw [hi2]; exact Nat.le_trans (Nat.mul_le_mul hm' hb) (by decide)
        have hx2 := run_append_nil (P := Y.P) w t ty e i de.zero hu hi hi3 ad m c vs (by rw [hi1]; exact g2) h2 (by omega) (by omega) hbm
        obtain ⟨ι', s1, s2, s3⟩ := grow_rel (e := e) (z := de.zero.cells) (cap := grownCap w m 0 e) hr g1 g2 g3 hz (grownCap_ge w m 0 e) hp
        exact ⟨_, _, ι', .inl (hex _ _ (by rw [h1]; exact hx2)), s1, s2, s3⟩
  · replace hb1 : ev fr x' = .sl id off n sz' := hb1.elim (fun h => h) fun h => by rw [h] at ht1; cases ht1
    obtain ⟨len, cs, hblk, he3⟩ := Blk.onW_ok RV.no_ne he2
    obtain ⟨hc, he4⟩ := cond_ok RV.no_ne he3
    simp only [Bool.and_eq_true, Nat.beq_eq] at hc
    obtain ⟨⟨rfl, hc2⟩, hc3⟩ := hc
    have hc2 := Nat.le_of_ble_eq_true hc2
    have hc3 : n + m ≤ 16777216 := Nat.le_of_ble_eq_true hc3
    rw [hb1] at hvx
    generalize hxv : a.eval x = xv at hvx hex
    unfold app1 at he4
    have hlive : live h id := by unfold live; rw [hblk]; simp
    cases hm0 : Nat.beq m 0 with
    | true =>
      rw [hm0] at he4
      cases he4
      have hm0 := Nat.eq_of_beq_eq_true hm0
      subst hm0
      have hye : a.eval y = .slice none 0 0 ∨ ∃ ad c, a.eval y = .slice (some ad) 0 c := by
        rcases g5 with ⟨_, h1⟩ | ⟨ad, c, h1, _⟩
        · exact h1
        · exact .inr ⟨ad, c, h1⟩
      cases hvx with
      | sl0 => exact .pure hr (hex _ _ (hempty _ 0 0 (Nat.le_refl _) hye)) .sl0
      | sl hq hcap hn h0 => exact .pure hr (hex _ _ (hempty _ n _ hn hye)) (.sl hq hcap hn h0)
    | false =>
      rw [hm0] at he4
      cases he4
      have hm0 : m ≠ 0 := fun e => by rw [e] at hm0; cases hm0
      rcases g5 with ⟨h1, _⟩ | ⟨ad, c', h1, h2⟩
      · exact absurd h1 hm0
      have hby : (n + m) * i.bytes ≤ 140737488355328 := by
        rw [hi2]; exact Nat.le_trans (Nat.mul_le_mul hc3 hb) (by decide)
      -- the array is left behind
      have grow : ∀ (ad0 : Addr) (cap : Nat) (olds : List Value), cap < n + m → xv = .slice (some ad0) n cap → VRs ι (takeN (n * de.size) (dropN off cs)) olds → olds.length = n * de.size → (∀ (j : Nat) (u : Value), olds[j]? = some u → w.cell? (ad0.add j) = some u) → (∀ c ∈ takeN (n * de.size) (dropN off cs), c.one = true) →
          OpOk Y h ι a w ⟨d, .call ⟨.builtin .append, #[x, y], #[t, t]⟩, ty, pos, aft, g⟩ (.sl h.nx 0 (n + m) de.size) ((h.put id .dead).new (.cells ((n + m) * de.size) (cat (takeN (n * de.size) (dropN off cs)) new))) := by
        intro ad0 cap olds hlt hxe ho1 ho2 ho3 ho4
        have hx2 := run_append_grow (P := Y.P) w t ty e i de.zero hu hi hi3 ad0 n cap olds (by rw [hi1]; exact ho2) ho3 ad m c' vs (by rw [hi1]; exact g2) h2 hlt (by omega) (growslice_fits hlt hby)
        have hcat : cat (takeN (n * de.size) (dropN off cs)) new = takeN (n * de.size) (dropN off cs) ++ new := cat_eq _ _
        rw [hcat]
        obtain ⟨ι', s1, s2, s3⟩ := grow_rel (e := e) (h := h.put id .dead) (m := n + m) (z := de.zero.cells) (cap := grownCap w (n + m) cap e) (hr.kill id) (ho1.append g1) (by simp [ho2, g2, Nat.add_mul]) (fun c hc => (List.mem_append.1 hc).elim (ho4 c) (g3 c)) hz (grownCap_ge w (n + m) cap e) hp
        have e1 : (olds ++ vs).toArray = olds.toArray ++ vs.toArray := by simp
        rw [e1] at s1 s3
        exact ⟨_, _, ι', .inl (hex _ _ (by rw [hxe, h1]; exact hx2)), s1, s2, s3⟩
      cases hvx with
      | @sl0 _ _ _ adz =>
        refine grow adz 0 [] (by omega) rfl ?_ (by simp) (by simp) ?_
        · rw [Nat.zero_mul]; exact VRs.nil
        · rw [Nat.zero_mul]; intro c hc; cases hc
      | @sl _ _ _ _ cap q hq hcap hn h0 =>
        obtain ⟨olds, o1, o2, o3, o4, o5⟩ := slice_cells hr hq (.inl hblk) hc2
        by_cases hroom : n + m ≤ cap
        · obtain ⟨cur, t2, fz, hh, hcl, hcsz, hlr, hone, hrel⟩ := BR.cells hr hq (.inl hblk)
          have hfit : (n + m) * de.size ≤ cap * de.size := Nat.mul_le_mul_right _ hroom
          have hnm : (n + m) * de.size = n * de.size + m * de.size := Nat.add_mul _ _ _
          have hx2 := run_append_room_cells (P := Y.P) w t ty e i hu hi q.b (q.base + off) n cap ad m c' vs (by rw [hi1]; exact g2) h2 g4 hroom
            (fun j hj => by rw [cell_of_row w q.b _ cur t2 _ hh, hi1]; simp; rw [g2] at hj; omega) (fun j hj => by have := (BR.pin hr hq hblk hh).1 (q.base + off + n * de.size + j) (by omega) (by rw [g2] at hj; omega); simp only [World.frozen?, hh, hi1]; rw [← Bool.not_eq_true]; simp only [Bool.and_eq_true, decide_eq_true_eq]; exact this)
          rw [hi1] at hx2
          have hrow := setCells_at (fz := fz) vs (q.base + off + n * de.size) cur w hh (by rw [g2]; omega)
          have hsame := setRow_heap w q.b cur (cur.toList.take (q.base + off + n * de.size) ++ vs ++ cur.toList.drop (q.base + off + n * de.size + vs.length)).toArray t2 _ hh
          rw [hrow] at hx2
          have hcat : cat (takeN (n * de.size) (dropN off cs)) new = takeN (n * de.size) (dropN off cs) ++ new := cat_eq _ _
          rw [hcat]
          obtain ⟨s1, s2⟩ := hr.adopt (b := .cells ((n + m) * de.size) (takeN (n * de.size) (dropN off cs) ++ new)) (base := q.base + off) (room := q.room - off) (w' := w.setRow q.b (cur.toList.take (q.base + off + n * de.size) ++ vs ++ cur.toList.drop (q.base + off + n * de.size + vs.length)).toArray) hq hlive (by rw [hblk]; exact fun h => h) (by simp) (fun c hc => setRow_other w q.b c _ hc) rfl rfl rfl
            ⟨_, t2, fz, hsame, by rw [List.length_append, ← o1.len, ← g1.len, o2, g2, hnm], by simp; omega, by show _ ≤ q.room - off; omega, fun c hc => (List.mem_append.1 hc).elim (o4 c) (g3 c), by
              have holds : olds = (cur.toList.drop (q.base + off)).take (n * de.size) := by
                apply List.ext_getElem?
                intro j
                by_cases hj : j < n * de.size
                · have hjo : j < olds.length := by rw [o2]; exact hj
                  have := o3 j olds[j] (by simp [hjo])
                  rw [add_lit', cell_of_row w q.b _ cur t2 _ hh] at this
                  have this' : cur.toList[q.base + off + j]? = some olds[j] := by rw [Array.getElem?_toList]; exact this
                  rw [List.getElem?_take, if_pos hj, List.getElem?_drop, this']
                  simp [hjo]
                · rw [List.getElem?_eq_none (by rw [o2]; omega), List.getElem?_take, if_neg hj]
              have e1 : List.take ((n + m) * de.size) (List.drop (q.base + off) (cur.toList.take (q.base + off + n * de.size) ++ vs ++ cur.toList.drop (q.base + off + n * de.size + vs.length))) = olds ++ vs := by
                rw [List.append_assoc, List.drop_append, List.length_take, Array.length_toList]
                rw [show q.base + off - min (q.base + off + n * de.size) cur.size = 0 by omega, List.drop_zero]
                rw [List.drop_take, show q.base + off + n * de.size - (q.base + off) = n * de.size by omega, ← holds]
                rw [← List.append_assoc, List.take_append_of_le_length (by simp [o2, g2]; omega), List.take_of_length_le (by simp [o2, g2]; omega)]
              show VRs _ _ (List.take _ (List.drop (q.base + off) _))
              simp only
              rw [e1]
              exact (o1.append g1).mono (updI_ext (hr.fresh _ (Nat.le_refl _))), ⟨fun j h1 h2 => (BR.pin hr hq hblk hh).1 j (by have h1 : q.base + off ≤ j := h1; omega) (by have h2 : j < q.base + off + (q.room - off) := h2; omega), fun p hp => by cases hp⟩⟩
          refine ⟨_, _, _, .inl (hex _ _ (by rw [h1]; exact hx2)), s1, ?_, s2⟩
          have := VR.sl (off := 0) (n := n + m) (sz := de.size) (c := cap) (updI_same ι h.nx ⟨q.b, q.base + off, q.room - off, none⟩) (by show 0 + cap * de.size ≤ q.room - off; omega) hroom h0
          simpa using this
        · exact grow ⟨q.b, q.base + off, none⟩ cap olds (by omega) rfl o1 o2 o3 o4

/-! ### Maps -/
theorem op_mkmap (hr : WR Y.tab ι h w) {t kt : TypeId} {dk : TD} {kd : KD} (hdk : Y.tab kt = some dk) (hkd : dk.key = some kd) : OpOk Y h ι a w ⟨d, .makeMap t none, ty, pos, aft, g⟩ (.m h.nx) (h.new (.map kt [])) := by
  obtain ⟨hs, hw⟩ := hr.alloc (b := .map kt []) (o := .map #[] 0) (base := 0) (room := 0) ⟨#[], 0, heap_alloc_new w _, VRs.nil, VRs.nil, by simp, dk, kd, hdk, hkd, by simp⟩
  refine ⟨.map (some w.heap.size), _, _, .inl ?_, hs, .m (updI_same _ _ _), hw⟩
  simp [execOp, Instr.makeMap]

theorem keyEq_self {ι : Io} {kd : KD} {k : V} {k' : Value} {r : Bool} (hk : VR ι k k') (he : keyEq kd k k = some r) : fitV kd k' := (keyEq_rel hk hk he).1

theorem findE_rel {kd : KD} {k : V} {k' : Value} (hk : VR ι k k') : ∀ {es : List (V × V)} {ks vs : List Value} {r : Option V}, VRs ι (es.map (·.1)) ks → VRs ι (es.map (·.2)) vs → findE kd k es = some r →
    fitV kd k' ∧ match r with
      | none => ∀ x ∈ ks, fitV kd x ∧ x ≠ k'
      | some v => ∃ (i : Nat) (v' : Value), ks[i]? = some k' ∧ vs[i]? = some v' ∧ VR ι v v'
  | [], ks, vs, r, h1, h2, he => by
    obtain ⟨b, hb, he⟩ := oGet_some (by simp) (show (oGet (keyEq kd k k) none fun _ => some none) = some r from he)
    cases he
    obtain rfl := h1.inv_nil
    exact ⟨keyEq_self hk hb, by simp⟩
  | (x, y) :: es, ks, vs, r, h1, h2, he => by
    obtain ⟨x', ks, rfl, hx, h1'⟩ := VRs.inv_cons (show VRs ι (x :: es.map (·.1)) ks from h1)
    obtain ⟨y', vs, rfl, hy, h2'⟩ := VRs.inv_cons (show VRs ι (y :: es.map (·.2)) vs from h2)
    obtain ⟨b, hb, he⟩ := oGet_some (by simp) (show (oGet (keyEq kd k x) none fun r => bif r then some (some y) else findE kd k es) = some r from he)
    obtain ⟨f1, f2, f3⟩ := keyEq_rel hk hx hb
    cases b with
    | true =>
      cases he
      have e := f3.1 rfl
      exact ⟨f1, 0, y', by simp [e], by simp, hy⟩
    | false =>
      have hne : x' ≠ k' := fun e => by have := f3.2 e.symm; cases this
      have he : findE kd k es = some r := he
      obtain ⟨g1, g2⟩ := findE_rel hk h1' h2' he
      refine ⟨g1, ?_⟩
      cases r with
      | none => intro z hz; rcases List.mem_cons.1 hz with rfl | hz <;> first | exact ⟨f2, hne⟩ | exact g2 z hz
      | some v =>
        obtain ⟨i, v', p1, p2, p3⟩ := g2
        exact ⟨i + 1, v', by simpa using p1, by simpa using p2, p3⟩

theorem nodup_idx {l : List Value} (h : l.Nodup) {i j : Nat} {x : Value} (hi : l[i]? = some x) (hj : l[j]? = some x) : i = j := by
  obtain ⟨h1, e1⟩ := List.getElem?_eq_some_iff.1 hi
  obtain ⟨h2, e2⟩ := List.getElem?_eq_some_iff.1 hj
  exact (List.getElem_inj h).1 (e1.trans e2.symm)

theorem op_look (ha : AR nt ι fr a) (hr : WR Y.tab ι h w) {t kt e : TypeId} {dt dk de : TD} {kd : KD} {z : V} {m k : Operand} {m' k' : EO} {ok : Bool} (ht : Y.tab t = some dt) (hd : dt.desc = .map kt e) (hdk : Y.tab kt = some dk) (hkd : dk.key = some kd) (hde : Y.tab e = some de) (hz : ofVal de.zero = some z)
    (hm : eo m = some m') (hk : eo k = some k') (he : lookV kt kd z h (ev fr m') (ev fr k') ok = .ok v h') :
    OpOk Y h ι a w ⟨d, .lookup t m k ok, ty, pos, aft, g⟩ v h' := by
  have hvm := ha.ev hm
  have hvk := ha.ev hk
  unfold lookV at he
  generalize hmv : ev fr m' = mv at hvm he
  cases mv <;> simp only [V.onM] at he <;> try cases he
  rename_i id
  generalize hxv : a.eval m = xv at hvm
  cases hvm with
  | @m _ q hq =>
    have hblk := hr.blk id q hq
    generalize h.get id = blk at hblk he
    cases blk <;> simp only [Blk.onM] at he <;> try cases he
    rename_i kt' es
    obtain ⟨hkt, heK⟩ := cond_ok RV.no_ne he
    clear he
    have hkt := Nat.eq_of_beq_eq_true hkt
    subst hkt
    obtain ⟨ents, clock, hh, r1, r2, r3, dk', kd', r4, r5, hfs⟩ := hblk
    rw [hdk] at r4
    cases r4
    rw [hkd] at r5
    cases r5
    obtain ⟨r, hfind, he2⟩ := oGet_ok heK
    obtain ⟨g1, g2⟩ := findE_rel hvk r1 r2 hfind
    have hko := (Y.htab kt dk hdk).key kd hkd
    have hF := hko.find w (a.eval k) ents.toList g1 hfs
    have hgo : (getObj q.b).run Y.P w = .ok (.map ents clock) w := by simp [getObj, Sem.run, hh]
    have hck := hko.check w ents.isEmpty (a.eval k) g1
    have hzr := ofVal_rel (ι := ι) hz
    have fin : ∀ {v1 : V} {v1' : Value} {b : Bool} {fnd : Option (Nat × Value)}, (Instr.findKey kt (a.eval k) ents.toList).run Y.P w = .ok fnd w → VR ι v1 v1' → (match fnd with | some (_, x) => x = v1' ∧ b = true | none => v1' = de.zero ∧ b = false) → (bif ok then RV.ok (.tup [v1, .b b]) h else RV.ok v1 h) = RV.ok v h' →
        OpOk Y h ι a w ⟨d, .lookup t m k ok, ty, pos, aft, g⟩ v h' := by
      intro v1 v1' b fnd hfk hv1 hcase hres
      have hrun : (execOp a.eval ⟨d, .lookup t m k ok, ty, pos, aft, g⟩).run Y.P w = .ok (.value (if ok then .tuple #[v1', .bool b] else v1')) w := by
        cases fnd with
        | none =>
          obtain ⟨rfl, rfl⟩ := hcase
          simp [execOp, Instr.lookup, Rig.und ht, hd, hxv, hgo, hck, hfk, Rig.zero hde]
        | some p =>
          obtain ⟨j, x⟩ := p
          obtain ⟨rfl, rfl⟩ := hcase
          simp [execOp, Instr.lookup, Rig.und ht, hd, hxv, hgo, hck, hfk]
      cases ok with
      | true =>
        cases hres
        exact .pure hr (by simpa using hrun) (VR.tups (VRs.cons hv1 (VRs.cons (.b _) VRs.nil)))
      | false =>
        cases hres
        exact .pure hr (by simpa using hrun) hv1
    cases r with
    | none =>
      rcases hF with ⟨f1, _⟩ | ⟨j, e1, f1, f2, f3⟩
      · exact fin f1 hzr ⟨rfl, rfl⟩ he2
      · exfalso
        have : e1.key ∈ ents.toList.map (·.key) := List.mem_map_of_mem (List.mem_of_getElem? f2)
        exact (g2 _ this).2 f3
    | some v1 =>
      obtain ⟨i, v1', p1, p2, p3⟩ := g2
      rcases hF with ⟨_, f2⟩ | ⟨j, e1, f1, f2, f3⟩
      · exfalso
        have hmem := List.mem_of_getElem? p1
        obtain ⟨e2, h1, h2⟩ := List.mem_map.1 hmem
        exact f2 e2 h1 h2
      · have hj : (ents.toList.map (·.key))[j]? = some (a.eval k) := by rw [List.getElem?_map, f2]; simp [f3]
        have hij := nodup_idx r3 p1 hj
        subst hij
        rw [List.getElem?_map, f2] at p2
        have hval : e1.val = v1' := by simpa using p2
        exact fin f1 (hval ▸ p3) ⟨rfl, rfl⟩ he2

theorem VRs.set {cs : List V} {vs : List Value} (hs : VRs ι cs vs) (i : Nat) {c : V} {x : Value} (hc : VR ι c x) : VRs ι (cs.set i c) (vs.set i x) := by
  refine ⟨by simp [hs.len], fun j h1 h2 => ?_⟩
  by_cases e : i = j
  · subst e; simp only [List.getElem_set_self]; exact hc
  · rw [List.getElem_set_ne e, List.getElem_set_ne e]; exact hs.at_ j _ _

theorem updE_rel {kd : KD} {k x : V} {k' : Value} (hk : VR ι k k') : ∀ {es es' : List (V × V)} {ks vs : List Value}, VRs ι (es.map (·.1)) ks → VRs ι (es.map (·.2)) vs → updE kd k x es = some es' →
    fitV kd k' ∧ ((es' = es ++ [(k, x)] ∧ ∀ z ∈ ks, fitV kd z ∧ z ≠ k') ∨ ∃ i, ks[i]? = some k' ∧ es'.map (·.1) = (es.map (·.1)).set i k ∧ es'.map (·.2) = (es.map (·.2)).set i x)
  | [], es', ks, vs, h1, h2, he => by
    obtain ⟨b, hb, he⟩ := oGet_some (by simp) (show (oGet (keyEq kd k k) none fun _ => some [(k, x)]) = some es' from he)
    cases he
    obtain rfl := h1.inv_nil
    exact ⟨keyEq_self hk hb, .inl ⟨rfl, by simp⟩⟩
  | (u, y) :: es, es', ks, vs, h1, h2, he => by
    obtain ⟨u', ks, rfl, hu, h1'⟩ := VRs.inv_cons (show VRs ι (u :: es.map (·.1)) ks from h1)
    obtain ⟨y', vs, rfl, hy, h2'⟩ := VRs.inv_cons (show VRs ι (y :: es.map (·.2)) vs from h2)
    obtain ⟨b, hb, he⟩ := oGet_some (by simp) (show (oGet (keyEq kd k u) none fun r => bif r then some ((k, x) :: es) else oGet (updE kd k x es) none fun l => some ((u, y) :: l)) = some es' from he)
    obtain ⟨f1, f2, f3⟩ := keyEq_rel hk hu hb
    cases b with
    | true =>
      cases he
      have e := f3.1 rfl
      exact ⟨f1, .inr ⟨0, by simp [e], by simp, by simp⟩⟩
    | false =>
      have hne : u' ≠ k' := fun e => by have := f3.2 e.symm; cases this
      obtain ⟨l, hl, he⟩ := oGet_some (by simp) (show (oGet (updE kd k x es) none fun l => some ((u, y) :: l)) = some es' from he)
      cases he
      obtain ⟨g1, g2⟩ := updE_rel hk h1' h2' hl
      refine ⟨g1, ?_⟩
      rcases g2 with ⟨rfl, g2⟩ | ⟨i, p1, p2, p3⟩
      · exact .inl ⟨rfl, fun z hz => by rcases List.mem_cons.1 hz with rfl | hz <;> first | exact ⟨f2, hne⟩ | exact g2 z hz⟩
      · exact .inr ⟨i + 1, by simpa using p1, by simp [p2], by simp [p3]⟩

theorem op_mupd (ha : AR nt ι fr a) (hr : WR Y.tab ι h w) {t kt e : TypeId} {dt dk : TD} {kd : KD} {m k x : Operand} {m' k' x' : EO} (ht : Y.tab t = some dt) (hd : dt.desc = .map kt e) (hdk : Y.tab kt = some dk) (hkd : dk.key = some kd)
    (hm : eo m = some m') (hk : eo k = some k') (hx : eo x = some x') (he : mupdV kt kd h (ev fr m') (ev fr k') (ev fr x') = .ok v h') :
    OpOk Y h ι a w ⟨d, .mapUpdate t m k x, ty, pos, aft, g⟩ v h' := by
  have hvm := ha.ev hm
  have hvk := ha.ev hk
  have hvx := ha.ev hx
  unfold mupdV at he
  generalize hmv : ev fr m' = mv at hvm he
  cases mv <;> simp only [V.onM] at he <;> try cases he
  rename_i id
  generalize hxv : a.eval m = xv at hvm
  cases hvm with
  | @m _ q hq =>
    have hblk := hr.blk id q hq
    have hlive : (∃ kt es, h.get id = .map kt es) → live h id := fun ⟨_, _, e⟩ => by unfold live; rw [e]; simp
    generalize hbg : h.get id = blk at hblk he hlive
    cases blk <;> simp only [Blk.onM] at he <;> try cases he
    rename_i kt' es
    obtain ⟨hkt, heK⟩ := cond_ok RV.no_ne he
    clear he
    have hkt := Nat.eq_of_beq_eq_true hkt
    subst hkt
    have hlive := hlive ⟨_, _, rfl⟩
    obtain ⟨ents, clock, hh, r1, r2, r3, dk', kd', r4, r5, hfs⟩ := hblk
    rw [hdk] at r4
    cases r4
    rw [hkd] at r5
    cases r5
    obtain ⟨es', hupd, he2⟩ := oGet_ok heK
    cases he2
    obtain ⟨g1, g2⟩ := updE_rel hvk r1 r2 hupd
    have hko := (Y.htab kt dk hdk).key kd hkd
    have hF := hko.find w (a.eval k) ents.toList g1 hfs
    have hgo : (getObj q.b).run Y.P w = .ok (.map ents clock) w := by simp [getObj, Sem.run, hh]
    have hck := hko.check w false (a.eval k) g1
    have hset : ∀ o : Obj, (setObj q.b o).run Y.P w = .ok () (w.putObj q.b o) := fun o => by simp [setObj, Sem.run, hh, World.putObj]
    have hlt : q.b < w.heap.size := hr.lt id q hq
    have hsame : ∀ o : Obj, (w.putObj q.b o).heap[q.b]? = some o := fun o => by simp [World.putObj, hlt]
    have hoth : ∀ (o : Obj) (c : Nat), c ≠ q.b → (w.putObj q.b o).heap[c]? = w.heap[c]? := fun o c hc => by
      simp only [World.putObj]; exact Array.getElem?_setIfInBounds_ne (Ne.symm hc)
    have fin : ∀ (ents' : Array MapEntry) (clock' : Nat), (execOp a.eval ⟨d, .mapUpdate t m k x, ty, pos, aft, g⟩).run Y.P w = .ok .skip (w.putObj q.b (.map ents' clock')) → VRs ι (es'.map (·.1)) (ents'.toList.map (·.key)) → VRs ι (es'.map (·.2)) (ents'.toList.map (·.val)) → (ents'.toList.map (·.key)).Nodup → (∀ x ∈ ents'.toList, fitV kd x.key) →
        OpOk Y h ι a w ⟨d, .mapUpdate t m k x, ty, pos, aft, g⟩ undefV (h.put id (.map kt es')) := by
      intro ents' clock' hrun q1 q2 q3 q4
      obtain ⟨s1, s2⟩ := hr.write (b := .map kt es') (w' := w.putObj q.b (.map ents' clock')) hq hlive (by rw [hbg]; exact fun h => h) (by simp [World.putObj]) (hoth _) rfl rfl rfl ⟨ents', clock', hsame _, q1, q2, q3, dk, kd, hdk, hkd, q4⟩
      exact ⟨undef, _, ι, .inr ⟨hrun, rfl⟩, s1, VR.undef, s2⟩
    rcases g2 with ⟨rfl, g2⟩ | ⟨i, p1, p2, p3⟩
    · have hfk : (Instr.findKey kt (a.eval k) ents.toList).run Y.P w = .ok none w := by
        rcases hF with ⟨f1, _⟩ | ⟨j, e1, f1, f2, f3⟩
        · exact f1
        · exfalso
          have : e1.key ∈ ents.toList.map (·.key) := List.mem_map_of_mem (List.mem_of_getElem? f2)
          exact (g2 _ this).2 f3
      refine fin (ents.push { key := a.eval k, val := a.eval x, born := clock }) (clock + 1) ?_ ?_ ?_ ?_ ?_
      · simp [execOp, Instr.mapUpdate, Rig.und ht, hd, hxv, hgo, hck, hfk, hset]
      · simpa using r1.append (VRs.cons hvk VRs.nil)
      · simpa using r2.append (VRs.cons hvx VRs.nil)
      · simp only [Array.toList_push, List.map_append, List.map_cons, List.map_nil]
        rw [List.nodup_append]
        refine ⟨r3, by simp, fun b1 h1 b2 h2 => ?_⟩
        simp only [List.mem_singleton] at h2
        subst h2
        exact (g2 b1 h1).2
      · intro y hy
        simp only [Array.toList_push, List.mem_append, List.mem_singleton] at hy
        rcases hy with hy | rfl
        · exact hfs y hy
        · exact g1
    · rcases hF with ⟨_, f2⟩ | ⟨j, e1, f1, f2, f3⟩
      · exfalso
        have hmem := List.mem_of_getElem? p1
        obtain ⟨e2, h1, h2⟩ := List.mem_map.1 hmem
        exact f2 e2 h1 h2
      · have hj : (ents.toList.map (·.key))[j]? = some (a.eval k) := by rw [List.getElem?_map, f2]; simp [f3]
        have hij := nodup_idx r3 p1 hj
        subst hij
        have hst := hko.stays w (a.eval k) g1
        have hei : ents[i]? = some e1 := by rw [← Array.getElem?_toList]; exact f2
        have hkk : ((ents[i]?).map (·.key)).getD (a.eval k) = a.eval k := by rw [hei]; simp [f3]
        have hil : i < ents.toList.length := (List.getElem?_eq_some_iff.1 f2).1
        have hml : (ents.modify i fun e => { e with key := a.eval k, val := a.eval x }).toList = ents.toList.set i { e1 with key := a.eval k, val := a.eval x } := by
          rw [Array.toList_modify, List.modify_eq_set]
          rw [f2]
          rfl
        refine fin (ents.modify i fun e => { e with key := a.eval k, val := a.eval x }) clock ?_ ?_ ?_ ?_ ?_
        · simp [execOp, Instr.mapUpdate, Rig.und ht, hd, hxv, hgo, hck, f1, hkk, hst, hset]
        · rw [hml, p2, List.map_set]; exact r1.set i hvk
        · rw [hml, p3, List.map_set]; exact r2.set i hvx
        · rw [hml, List.map_set]
          have : (ents.toList.map (·.key)).set i (a.eval k) = ents.toList.map (·.key) := by
            apply List.ext_getElem?
            intro n
            rw [List.getElem?_set]
            split
            · rename_i e; subst e; rw [p1]; simpa using hil
            · rfl
          simpa [this] using r3
        · intro y hy
          rw [hml] at hy
          rcases List.mem_or_eq_of_mem_set hy with hy | rfl
          · exact hfs y hy
          · exact g1
theorem eqs_run {t e : TypeId} {dt : TD} (ht : Y.tab t = some dt) (hd : dt.desc = .slice e) (w : World) (b : Option Addr) (n c : Nat) : (Op.equal t (.slice b n c) (.slice none 0 0)).run Y.P w = .ok b.isNone w := by
  unfold Op.equal
  obtain ⟨m, hm⟩ : ∃ m, Op.maxDepth = m + 1 := ⟨Op.maxDepth - 1, rfl⟩
  rw [hm]
  unfold Op.equalIn
  cases b <;> simp [Rig.und ht, hd]
theorem op_isnil (ha : AR nt ι fr a) (hr : WR Y.tab ι h w) {neg : Bool} {t t' e : TypeId} {dt : TD} {x y : Operand} {x' : EO} (ht : Y.tab t = some dt) (hd : dt.desc = .slice e) (hx : eo x = some x') (hy : eo y = some (.c .sn))
    (he : isnilV neg (ev fr x') h = .ok v h') : OpOk Y h ι a w ⟨d, .binOp (if neg then .neq else .eql) t x y t', ty, pos, aft, g⟩ v h' := by
  have hvx := ha.ev hx
  have hvy := ha.ev hy
  change VR ι .sn (a.eval y) at hvy
  generalize hyv : a.eval y = yv at hvy
  cases hvy
  generalize hxv : a.eval x = xv at hvx
  have hb2 : ∀ b n c, (binOp (if neg then .neq else .eql) t (.slice b n c) (.slice none 0 0)).run Y.P w = .ok (.bool (bif neg then !b.isNone else b.isNone)) w := fun b n c => by
    cases neg <;> simp [binOp, eqs_run ht hd]
  have hg2 : ∀ b n c, (eqGuard (if neg then .neq else .eql) t x y (.slice b n c) (.slice none 0 0)).run Y.P w = .ok () w := fun b n c => by
    cases neg <;> simp [eqGuard]
  rcases V.onSl_ok RV.no_ne he with ⟨hb, he⟩ | ⟨id, off, n, sz', hb, he⟩
  · rw [hb] at hvx
    cases hvx
    cases he
    refine .pure (v' := .bool (!neg)) hr ?_ (.b _)
    simp only [execOp, hxv, hyv, Sem.run_bind, hg2, Result.andThen_ok, hb2, Sem.run_pure]
    cases neg <;> rfl
  · replace hvx := VR.of_sl hb hvx
    cases he
    refine .pure (v' := .bool neg) hr ?_ (.b _)
    cases hvx <;> simp only [execOp, hxv, hyv, Sem.run_bind, hg2, Result.andThen_ok, hb2, Sem.run_pure] <;> cases neg <;> rfl
theorem op_lenM (ha : AR nt ι fr a) (hr : WR Y.tab ι h w) {t kt e : TypeId} {dt : TD} {x : Operand} {x' : EO} (ht : Y.tab t = some dt) (hd : dt.desc = .map kt e) (hx : eo x = some x') (he : lenMV kt (ev fr x') h = .ok v h') :
    OpOk Y h ι a w ⟨d, .call ⟨.builtin .len, #[x], #[t]⟩, ty, pos, aft, g⟩ v h' := by
  have hvm := ha.ev hx
  unfold lenMV at he
  generalize hmv : ev fr x' = mv at hvm he
  cases mv <;> simp only [V.onM] at he <;> try cases he
  rename_i id
  generalize hxv : a.eval x = xv at hvm
  cases hvm with
  | @m _ q hq =>
    have hblk := hr.blk id q hq
    generalize h.get id = blk at hblk he
    cases blk <;> simp only [Blk.onM] at he <;> try cases he
    rename_i kt' es
    obtain ⟨_, he⟩ := cond_ok RV.no_ne he
    obtain ⟨ents, clock, hh, r1, r2, _⟩ := hblk
    cases he
    have hl : ents.size = lenL es := by have := r1.len; simp at this; rw [lenL_eq]; exact this
    have hgo : (getObj q.b).run Y.P w = .ok (.map ents clock) w := by simp [getObj, Sem.run, hh]
    refine .pure (v' := .int .i64 (lenL es : Int)) hr ?_ (.i _ _)
    simp [execOp, resolve, hxv, invoke, builtin, Builtin.len_, Rig.und ht, hd, goInt, hgo, hl]
end ops
end Go.Ev
namespace Go.Ev
open Go Go.RowKit
section ops
variable {Y : Rig} {nt : Nat} {ι : Io} {fr : Fr} {a : Act} {h h' : H} {w : World} {v : V} {d : Option Tmp} {ty : TypeId} {pos : String} {aft : Array Edge} {g : Option (Nat × Bool)}
theorem op_nilck (ha : AR nt ι fr a) (hr : WR Y.tab ι h w) {x : Operand} {x' : EO} (hx : eo x = some x') (he : (ev fr x').onNN (fun v => RV.ok v h) = .ok v h') : OpOk Y h ι a w ⟨d, .nilCheck x, ty, pos, aft, g⟩ v h' := by
  have hv := ha.ev hx
  generalize ev fr x' = xv' at he hv
  generalize hxv : a.eval x = xv at hv
  cases hv <;> simp only [V.onNN] at he <;> try cases he
  case p hq => exact .pure hr (by simp [execOp, hxv]) (.p hq)
  case fn hl hh => exact .pure hr (by simp [execOp, hxv]) (.fn hl hh)
  case bf a b c e => exact .pure hr (by simp [execOp, hxv]) (.bf a b c e)
theorem V.onSo_ok {α : Type} {x : V} {f : ByteArray → Option α} {v : α} (e : x.onS none f = some v) : ∃ b, x = .s b ∧ f b = some v := by
  cases x <;> first | exact ⟨_, rfl, e⟩ | cases e
theorem VR.of_s {ι : Io} {b : ByteArray} {v : Value} (h : VR ι (.s b) v) : v = .string b := by cases h; rfl
theorem beqB_eq (a b : UInt8) : beqB a b = (a == b) := by
  unfold beqB
  rw [Bool.eq_iff_iff, Nat.beq_eq, beq_iff_eq, UInt8.toNat_inj]
theorem sameB_eq : ∀ l m : List UInt8, sameB l m = (l == m)
  | [], [] => rfl
  | [], _ :: _ => rfl
  | _ :: _, [] => rfl
  | x :: l, y :: m => by
    show (beqB x y && sameB l m) = _
    rw [beqB_eq, sameB_eq l m]; rfl
theorem bytes_len (b : ByteArray) : lenL (bytes b) = b.size := by rw [lenL_eq]; rfl
theorem bytes_cat (a b : ByteArray) : (⟨⟨cat (bytes a) (bytes b)⟩⟩ : ByteArray) = a ++ b := by
  rw [cat_eq]
  apply ByteArray.ext
  rw [ByteArray.data_append]
  apply Array.ext'
  simp [bytes]
theorem eqGuard_str (op : BinOp) (t : TypeId) (x y : Operand) (a b : ByteArray) (w : World) : (eqGuard op t x y (.string a) (.string b)).run Y.P w = .ok () w := by
  unfold eqGuard; cases op <;> rfl
theorem toList_bytes (a : ByteArray) : a.toList = bytes a := ByteArray.toList_eq a
theorem op_sbin (ha : AR nt ι fr a) (hr : WR Y.tab ι h w) {op : BinOp} {p : PK} {t t' : TypeId} {dt : TD} {x y : Operand} {x' y' : EO} (_ : Y.tab t = some dt) (_ : dt.desc = .string) (hx : eo x = some x') (hy : eo y = some y')
    (hp : (op = .add ∧ p = .sadd) ∨ (op = .eql ∧ p = .seql false) ∨ (op = .neq ∧ p = .seql true)) (he : okv (prV p (ev fr x') (ev fr y')) h = .ok v h') : OpOk Y h ι a w ⟨d, .binOp op t x y t', ty, pos, aft, g⟩ v h' := by
  obtain ⟨he1, hq⟩ := okv_ok he
  clear he
  subst hq
  have he := he1
  clear he1
  have hvx := ha.ev hx
  have hvy := ha.ev hy
  rcases hp with ⟨rfl, rfl⟩ | ⟨rfl, rfl⟩ | ⟨rfl, rfl⟩
  all_goals
    obtain ⟨b1, e1, he⟩ := V.onSo_ok he
    obtain ⟨b2, e2, he⟩ := V.onSo_ok he
    rw [e1] at hvx
    rw [e2] at hvy
    have hxv := hvx.of_s
    have hyv := hvy.of_s
  · obtain ⟨hc, he⟩ := cond_ok (by simp) he
    cases he
    have hc := Nat.le_of_ble_eq_true hc
    rw [bytes_len, bytes_len] at hc
    rw [bytes_cat]
    refine .pure (v' := .string (b1 ++ b2)) hr ?_ (.s _)
    have c1 : ¬ (((b1.size + b2.size : Nat) : Int) > 9223372036854775807) := by omega
    simp [execOp, hxv, hyv, eqGuard_str, binOp, Op.stringOp]
    omega
  · cases he
    refine .pure (v' := .bool (sameB (bytes b1) (bytes b2))) hr ?_ (.b _)
    simp [execOp, hxv, hyv, eqGuard_str, binOp, Op.stringOp, sameB_eq, toList_bytes]
  · cases he
    refine .pure (v' := .bool (!sameB (bytes b1) (bytes b2))) hr ?_ (.b _)
    simp [execOp, hxv, hyv, eqGuard_str, binOp, Op.stringOp, sameB_eq, toList_bytes]
theorem op_sidx (ha : AR nt ι fr a) (hr : WR Y.tab ι h w) {t : TypeId} {dt : TD} {x i : Operand} {x' i' : EO} (ht : Y.tab t = some dt) (hd : dt.desc = .string) (hx : eo x = some x') (hi : eo i = some i')
    (he : okv (prV .sidx (ev fr x') (ev fr i')) h = .ok v h') : OpOk Y h ι a w ⟨d, .index t x i, ty, pos, aft, g⟩ v h' := by
  obtain ⟨he1, hq⟩ := okv_ok he
  clear he
  subst hq
  have he := he1
  clear he1
  have hvx := ha.ev hx
  have hvi := ha.ev hi
  obtain ⟨b1, e1, he⟩ := V.onSo_ok he
  obtain ⟨k, n, e2, he⟩ := V.onIo_ok he
  obtain ⟨m, hm, he⟩ := oGet_some (by simp) he
  obtain ⟨c, hc, he⟩ := oGet_some (by simp) he
  cases he
  have hmn := nonneg_some hm
  subst hmn
  rw [e1] at hvx
  rw [e2] at hvi
  have hxv := hvx.of_s
  have hiv := hvi.of_i
  rw [nth_eq] at hc
  have hc' : b1[m]? = some c := by
    unfold bytes at hc
    rw [Array.getElem?_toList] at hc
    rw [← hc]
    show (if h : m < b1.size then some b1[m] else none) = _
    by_cases hlt : m < b1.size
    · rw [dif_pos hlt, Array.getElem?_eq_getElem (show m < b1.data.size from hlt)]; rfl
    · rw [dif_neg hlt, Array.getElem?_eq_none (show b1.data.size ≤ m by exact Nat.le_of_not_lt hlt)]
  refine .pure (v' := .int .u8 (c.toNat : Int)) hr ?_ (.i _ _)
  simp [execOp, Instr.index, hxv, hiv, asIntOf, Rig.und ht, hd, hc']
theorem op_slen (ha : AR nt ι fr a) (hr : WR Y.tab ι h w) {t : TypeId} {dt : TD} {x : Operand} {x' : EO} (ht : Y.tab t = some dt) (hd : dt.desc = .string) (hx : eo x = some x') (he : okv (prV .slen (ev fr x') (ev fr x')) h = .ok v h') :
    OpOk Y h ι a w ⟨d, .call ⟨.builtin .len, #[x], #[t]⟩, ty, pos, aft, g⟩ v h' := by
  obtain ⟨he1, hq⟩ := okv_ok he
  clear he
  subst hq
  have he := he1
  clear he1
  have hvx := ha.ev hx
  obtain ⟨b1, e1, he⟩ := V.onSo_ok he
  cases he
  rw [e1] at hvx
  have hxv := hvx.of_s
  rw [bytes_len]
  exact .pure (v' := .int .i64 (b1.size : Int)) hr (by simp [execOp, resolve, hxv, invoke, builtin, Builtin.len_, Rig.und ht, hd, goInt]) (.i _ _)
theorem op_scap (ha : AR nt ι fr a) (hr : WR Y.tab ι h w) {t e : TypeId} {dt : TD} {x : Operand} {x' : EO} (ht : Y.tab t = some dt) (hd : dt.desc = .slice e) (hx : eo x = some x') (he : okv (prV .scap (ev fr x') (ev fr x')) h = .ok v h') :
    OpOk Y h ι a w ⟨d, .call ⟨.builtin .cap, #[x], #[t]⟩, ty, pos, aft, g⟩ v h' := by
  obtain ⟨he1, hq⟩ := okv_ok he
  clear he
  subst hq
  have he := he1
  clear he1
  have hvx := ha.ev hx
  unfold prV at he
  generalize ev fr x' = xv' at he hvx
  generalize hxv : a.eval x = xv at hvx
  cases hvx <;> simp only [reduceCtorEq] at he <;> cases he
  case sn => exact .pure (v' := .int .i64 0) hr (by simp [execOp, resolve, hxv, invoke, builtin, Builtin.cap_, Rig.und ht, hd, goInt]) (.i _ _)
  case slt hq hc h0 => exact .pure (v' := .int .i64 (_ : Nat)) hr (by simp [execOp, resolve, hxv, invoke, builtin, Builtin.cap_, Rig.und ht, hd, goInt]) (.i _ _)
  case slt0 => exact .pure (v' := .int .i64 0) hr (by simp [execOp, resolve, hxv, invoke, builtin, Builtin.cap_, Rig.und ht, hd, goInt]) (.i _ _)
theorem op_clr (ha : AR nt ι fr a) (hr : WR Y.tab ι h w) {t e : TypeId} {dt de : TD} {z : List V} {x : Operand} {x' : EO} (ht : Y.tab t = some dt) (hd : dt.desc = .slice e) (hde : Y.tab e = some de) (hzo : zeroOf de = some z) (hp : 0 < de.size) (hl : z.length = de.size)
    (hx : eo x = some x') (he : clrV de.size z h (ev fr x') = .ok v h') : OpOk Y h ι a w ⟨d, .call ⟨.builtin .clear, #[x], #[t]⟩, ty, pos, aft, g⟩ v h' := by
  have hvx := ha.ev hx
  generalize hxv : a.eval x = xv at hvx
  have hu : Y.P.underlying t = some (.slice e) := by rw [(Y.htab t dt ht).und, hd]
  unfold clrV at he
  have hex : ∀ w', (Builtin.clear_ #[t] ty #[xv]).run Y.P w = .ok undef w' → (execOp a.eval ⟨d, .call ⟨.builtin .clear, #[x], #[t]⟩, ty, pos, aft, g⟩).run Y.P w = .ok (.value undef) w' := fun w' h => by
    simp [execOp, resolve, invoke, builtin, hxv, h]
  have hnil : ∀ b c, xv = .slice b 0 c → (Builtin.clear_ #[t] ty #[xv]).run Y.P w = .ok undef w := fun b c e => by
    subst e
    cases b <;> simp [Builtin.clear_, run_underlying hu, undef]
  rcases V.onSl_ok RV.no_ne he with ⟨hb, he⟩ | ⟨id, off, n, sz', hb, he⟩
  · rw [hb] at hvx
    cases hvx
    cases he
    exact .pure hr (hex _ (hnil _ _ rfl)) VR.undef
  · replace hvx := VR.of_sl hb hvx
    cases hn0 : Nat.beq n 0 with
    | true =>
      rw [hn0] at he
      cases he
      have hn0 := Nat.eq_of_beq_eq_true hn0
      subst hn0
      refine .pure hr (hex _ ?_) VR.undef
      cases hvx with
      | sl hq hc h1 h0 => exact hnil _ _ rfl
      | sl0 => exact hnil _ _ rfl
    | false =>
      rw [hn0] at he
      have hn0 : n ≠ 0 := fun e => by rw [e] at hn0; cases hn0
      obtain ⟨m, cs, hbk, he⟩ := Blk.onW_ok RV.no_ne he
      obtain ⟨hc, he⟩ := cond_ok RV.no_ne he
      cases he
      rw [Bool.and_eq_true] at hc
      have hsz := Nat.eq_of_beq_eq_true hc.1
      have hm := Nat.le_of_ble_eq_true hc.2
      subst hsz
      cases hvx with
      | sl0 => exact absurd rfl hn0
      | @sl _ _ _ _ c q hi hcap hnc h0 =>
        obtain ⟨z1, z2⟩ := zeros_rel (ι := ι) hzo hl hp n
        have hrl : (rep z n).length = n * de.size := by rw [rep_length, hl]
        obtain ⟨g1, g2, g3⟩ := write_rel (off := off) hr hi hbk (xs := rep z n) (by rw [hrl]; exact hm) z1 z2
        have hzs : de.zero.cells.size = de.size := by
          obtain ⟨q1, _⟩ := ofV1s_rel (ι := ι) hzo
          rw [← Array.length_toList, q1.len, hl]
        refine ⟨undef, _, _, .inl (hex _ ?_), g2, VR.undef, g3⟩
        obtain ⟨k, rfl⟩ : ∃ k, n = k + 1 := ⟨n - 1, by omega⟩
        have hz := fun w => Rig.zero hde w
        have hzc : Builtin.zeroCells de.zero.cells (k + 1) = (Array.range ((k + 1) * de.size)).map fun i => de.zero.cells[i % de.zero.cells.size]! := by rw [Builtin.zeroCells, hzs]
        rw [← hzc] at g1
        simp only [Builtin.clear_, List.getElem?_toArray, List.getElem?_cons_zero, Sem.run_bind, run_underlying hu, Result.andThen_ok, hz, g1, Sem.run_pure]
        rw [hzc]; rfl
theorem op_appZ (ha : AR nt ι fr a) (hr : WR Y.tab ι h w) {t t' e : TypeId} {k0 : IntKind} {dt du de : TD} {z : List V} {x y : Operand} {x' y' : EO} (ht : Y.tab t = some dt) (hd : dt.desc = .slice e) (hu' : Y.tab t' = some du) (hdu : du.desc = .int k0) (hde : Y.tab e = some de) (hzo : zeroOf de = some z) (hp : 0 < de.size) (hl : z.length = de.size) (hb : de.bytes ≤ 1000000)
    (hx : eo x = some x') (hy : eo y = some y') (he : appZV de.size z h (ev fr x') (ev fr y') = .ok v h') : OpOk Y h ι a w ⟨d, .call ⟨.builtin .append, #[x, y], #[t, t']⟩, ty, pos, aft, g⟩ v h' := by
  have hvx := ha.ev hx
  have hvy := ha.ev hy
  unfold appZV at he
  split at he
  · rename_i hxe
    rw [hxe] at hvx
    generalize hxv : a.eval x = xv at hvx
    cases hvx
    obtain ⟨k, m, hm, he1⟩ := V.onI_ok he
    obtain ⟨n, hn, he2⟩ := oGet_ok he1
    obtain ⟨hc, he3⟩ := cond_ok RV.no_ne he2
    have hc : n ≤ 16777216 := Nat.le_of_ble_eq_true hc
    have hmn := nonneg_some hn
    subst hmn
    rw [hm] at hvy
    have hev := hvy.of_i
    obtain ⟨i, hi, hi1, hi2, hi3⟩ := Rig.info hde
    have hu : Y.P.underlying t = some (.slice e) := by rw [(Y.htab t dt ht).und, hd]
    have huu : Y.P.underlying t' = some (.int k0) := by rw [(Y.htab t' du hu').und, hdu]
    have hex : ∀ v' w', (Builtin.append_ #[t, t'] ty #[.slice none 0 0, .int k (n : Int)]).run Y.P w = .ok v' w' → (execOp a.eval ⟨d, .call ⟨.builtin .append, #[x, y], #[t, t']⟩, ty, pos, aft, g⟩).run Y.P w = .ok (.value v') w' := fun v' w' h => by
      simp [execOp, resolve, invoke, builtin, hxv, hev, h]
    have hw1 : IntKind.i64.wrap (n : Int) = n := wrap_in .i64 _ (by simp only [kmin]; omega) (by simp only [kmax]; omega)
    have c1 : ¬ ((n : Int) < 0) := by omega
    have hby : n * i.bytes ≤ 16777216 * 1000000 := by rw [hi2]; exact Nat.mul_le_mul hc hb
    have c2 : ¬ ((281474976710656 : Int) < (n : Int) * (i.bytes : Int)) := by rw [← Int.natCast_mul]; omega
    unfold app0 at he3
    cases hm0 : Nat.beq n 0 with
    | true =>
      rw [hm0] at he3
      cases he3
      have hm0 := Nat.eq_of_beq_eq_true hm0
      subst hm0
      refine .pure hr (hex (.slice none 0 0) w ?_) .sn
      have hw0 : IntKind.i64.wrap 0 = 0 := hw1
      simp [Builtin.append_, run_underlying hu, run_underlying huu, sizeOf, typeInfo, hi, asInt, asIntOf, hw0]
    | false =>
      rw [hm0] at he3
      cases he3
      have hm0 : n ≠ 0 := fun e => by rw [e] at hm0; cases hm0
      obtain ⟨h1, h2⟩ := zeros_rel (ι := ι) hzo hl hp n
      have hzl : de.zero.cells.size = de.size := by
        obtain ⟨h1, h2⟩ := ofV1s_rel (ι := ι) hzo
        rw [← Array.length_toList, h1.len, hl]
      obtain ⟨ι', s1, s2, s3⟩ := grow_rel (e := e) (z := de.zero.cells) (cap := grownCap w n 0 e) hr h1 (by simp) h2 hzl (grownCap_ge w n 0 e) hp
      refine ⟨_, _, ι', .inl (hex _ _ ?_), s1, s2, s3⟩
      have h48' : ¬ (281474976710656 < Builtin.nextslicecap n 0 * i.bytes) := by rw [nextslicecap_zero (by omega)]; omega
      have h63' : ¬ (9223372036854775807 < (n : Int)) := by omega
      have hns : n * de.size ≠ 0 := fun e => by rcases Nat.mul_eq_zero.1 e with h | h <;> omega
      simp [Builtin.append_, run_underlying hu, run_underlying huu, sizeOf, typeInfo, zeroValue, hi, hi1, hi3, asInt, asIntOf, hw1, c1, c2, hm0, h63', h48', Question.forced, run_firstCells_none, newRow, grownCap, hns]
      congr 3
      simp only [Builtin.zeroCells, hzl]
      apply Array.ext'
      simp
  · cases he

end ops
end Go.Ev
namespace Go.Ev
open Go Go.RowKit
section ops
variable {Y : Rig} {nt : Nat} {ι : Io} {fr : Fr} {a : Act} {h h' : H} {w : World} {v : V} {d : Option Tmp} {ty : TypeId} {pos : String} {aft : Array Edge} {g : Option (Nat × Bool)}

theorem op_mx3 (ha : AR nt ι fr a) (hr : WR Y.tab ι h w) {x y z : Operand} {x' y' z' : EO} {tys : Array TypeId} (hx : eo x = some x') (hy : eo y = some y') (hz : eo z = some z') (he : mx3V (ev fr x') (ev fr y') (ev fr z') h = .ok v h') :
    OpOk Y h ι a w ⟨d, .call ⟨.builtin .max, #[x, y, z], tys⟩, ty, pos, aft, g⟩ v h' := by
  obtain ⟨k, m, hm, he⟩ := V.onI_ok he
  obtain ⟨k', n, hn, he⟩ := V.onI_ok he
  obtain ⟨k'', p, hp, he⟩ := V.onI_ok he
  cases he
  have hvx := ha.ev hx
  have hvy := ha.ev hy
  have hvz := ha.ev hz
  rw [hm] at hvx
  rw [hn] at hvy
  rw [hp] at hvz
  refine .pure (v' := .int k (if p > (if n > m then n else m) then p else (if n > m then n else m))) hr (by simp [execOp, resolve, hvx.of_i, hvy.of_i, hvz.of_i, invoke, builtin, Builtin.max_, Builtin.max2, List.foldlM]) ?_
  have e : ∀ a b : Int, (bif ilt a b then b else a) = if b > a then b else a := fun a b => by
    rw [ilt_eq]; by_cases hlt : a < b <;> simp [hlt]
  rw [e, e]
  exact .i _ _

theorem op_ssl (ha : AR nt ι fr a) (hr : WR Y.tab ι h w) {t : TypeId} {dt : TD} {x : Operand} {x' : EO} {lo hi : Option Operand} {lo' hi' : Option EO} (ht : Y.tab t = some dt) (hd : dt.desc = .string) (hx : eo x = some x') (hlo : optEo lo = some lo') (hhi : optEo hi = some hi')
    (he : sslV fr (ev fr x') lo' hi' h = .ok v h') : OpOk Y h ι a w ⟨d, .slice t x lo hi none, ty, pos, aft, g⟩ v h' := by
  have hv := ha.ev hx
  obtain ⟨s, hs, he⟩ : ∃ s, ev fr x' = .s s ∧ (oGet (bound fr lo' 0) .no fun l => oGet (bound fr hi' (lenL (bytes s))) .no fun u => bif Nat.ble l u && Nat.ble u (lenL (bytes s)) then RV.ok (.s ⟨⟨takeN (u - l) (dropN l (bytes s))⟩⟩) h else .no) = .ok v h' := by
    unfold sslV at he
    generalize ev fr x' = xv at he
    cases xv <;> simp only [V.onS, reduceCtorEq] at he
    exact ⟨_, rfl, he⟩
  obtain ⟨l, hl, he⟩ := oGet_ok he
  obtain ⟨u, hu, he⟩ := oGet_ok he
  obtain ⟨hc, he⟩ := cond_ok RV.no_ne he
  cases he
  rw [Bool.and_eq_true] at hc
  have h1 := Nat.le_of_ble_eq_true hc.1
  have h2 := Nat.le_of_ble_eq_true hc.2
  rw [bytes_len] at h2
  rw [hs] at hv
  have hxv := hv.of_s
  have e : (⟨⟨takeN (u - l) (dropN l (bytes s))⟩⟩ : ByteArray) = s.extract l u := by
    apply ByteArray.ext
    rw [ByteArray.data_extract]
    apply Array.ext'
    rw [takeN_eq, dropN_eq, Array.toList_extract]
    rfl
  rw [e]
  refine .pure (v' := .string (s.extract l u)) hr ?_ (.s _)
  have hb : ∃ k1 k2, ((lo = none ∧ l = 0) ∨ ∃ x, lo = some x ∧ a.eval x = .int k1 (l : Int)) ∧ ((hi = none ∧ u = s.size) ∨ ∃ x, hi = some x ∧ a.eval x = .int k2 (u : Int)) := by
    rcases bound_rel ha hlo hl with ⟨q1, _, q3⟩ | ⟨x1, _, k1, q1, _, q3⟩ <;> rcases bound_rel ha hhi hu with ⟨p1, _, p3⟩ | ⟨x2, _, k2, p1, _, p3⟩
    · exact ⟨.i64, .i64, .inl ⟨q1, q3⟩, .inl ⟨p1, by rw [p3, bytes_len]⟩⟩
    · exact ⟨.i64, k2, .inl ⟨q1, q3⟩, .inr ⟨x2, p1, p3⟩⟩
    · exact ⟨k1, .i64, .inr ⟨x1, q1, q3⟩, .inl ⟨p1, by rw [p3, bytes_len]⟩⟩
    · exact ⟨k1, k2, .inr ⟨x1, q1, q3⟩, .inr ⟨x2, p1, p3⟩⟩
  obtain ⟨k1, k2, b1, b2⟩ := hb
  have hrun := sbA_run (Y := Y) (a := a) (w := w) b1 b2 h1 h2
  simp [execOp, Instr.sliceAt, Instr.slice, hxv, Rig.und ht, hd, hrun]

theorem op_rng (ha : AR nt ι fr a) (hr : WR Y.tab ι h w) {t : TypeId} {dt : TD} {x : Operand} {x' : EO} (ht : Y.tab t = some dt) (hd : dt.desc = .string) (hx : eo x = some x') (he : rngV (ev fr x') h = .ok v h') :
    OpOk Y h ι a w ⟨d, .range t x, ty, pos, aft, g⟩ v h' := by
  have hv := ha.ev hx
  obtain ⟨s, hs, he⟩ : ∃ s, ev fr x' = .s s ∧ (RV.ok (.p h.nx 0) (h.new (.sit s 0))) = .ok v h' := by
    unfold rngV at he
    generalize ev fr x' = xv at he
    cases xv <;> simp only [V.onS, reduceCtorEq] at he
    exact ⟨_, rfl, he⟩
  cases he
  rw [hs] at hv
  have hxv := hv.of_s
  have hal := hr.alloc (b := .sit s 0) (o := .stringIter s 0) (base := 0) (room := 0) ⟨heap_alloc_new w _, rfl⟩
  refine ⟨.pointer (some ⟨w.heap.size, 0, none⟩), _, _, .inl ?_, hal.1, ?_, hal.2⟩
  · have hu : Y.P.underlying t = some .string := by rw [(Y.htab t dt ht).und, hd]
    have := run_range_string w t s hu
    simp [execOp, hxv, this, World.iter]
  · exact VR.p (off := 0) (updI_same ι h.nx ⟨w.heap.size, 0, 0, none⟩)

theorem op_nxt (ha : AR nt ι fr a) (hr : WR Y.tab ι h w) {x : Operand} {x' : EO} (hx : eo x = some x') (he : nxtV (ev fr x') h = .ok v h') :
    OpOk Y h ι a w ⟨d, .next x true, ty, pos, aft, g⟩ v h' := by
  obtain ⟨id, off, hp, he1⟩ := V.onP_ok he
  obtain ⟨hc, he2⟩ := cond_ok RV.no_ne he1
  clear he he1
  have he := he2
  clear he2
  have hoff := Nat.eq_of_beq_eq_true hc
  subst hoff
  obtain ⟨s, p, hb, he⟩ : ∃ s p, h.get id = .sit s p ∧ (oGet (nth (bytes s) p) (.ok (.tup [.b false]) h) fun c =>
      bif Nat.blt c.toNat 128 then RV.ok (.tup [.b true, .i .i64 (.ofNat p), .i .i32 (.ofNat c.toNat)]) (h.put id (.sit s (p + 1))) else .no) = .ok v h' := by
    generalize h.get id = b at he
    cases b <;> simp only [Blk.onT, reduceCtorEq] at he
    exact ⟨_, _, rfl, he⟩
  have hpv := ha.ev hx
  rw [hp] at hpv
  obtain ⟨q, hi, hpq⟩ := hpv.of_p
  have hbr := hr.blk id q hi
  rw [hb] at hbr
  obtain ⟨hh, hbase⟩ := hbr
  have hpq' : a.eval x = .pointer (some ⟨q.b, 0, none⟩) := by rw [hpq, hbase]
  by_cases hlt : p < s.size
  · have hn : nth (bytes s) p = some (s[p]'hlt) := by
      rw [nth_eq]
      unfold bytes
      rw [Array.getElem?_toList, Array.getElem?_eq_getElem (show p < s.data.size from hlt)]
      rfl
    rw [hn] at he
    obtain ⟨hc, he⟩ := cond_ok RV.no_ne (show (bif Nat.blt (s[p]'hlt).toNat 128 then RV.ok (.tup [.b true, .i .i64 (.ofNat p), .i .i32 (.ofNat (s[p]'hlt).toNat)]) (h.put id (.sit s (p + 1))) else .no) = .ok v h' from he)
    cases he
    have hlt2 : (s[p]'hlt).toNat < 128 := by
      have := Nat.le_of_ble_eq_true hc
      omega
    have hdec := decode_ascii s p hlt hlt2
    have hlv : live h id := by unfold live; rw [hb]; simp
    have hnr : ¬ isRom (h.get id) := by rw [hb]; exact fun h => h
    have hlt3 : q.b < w.heap.size := hr.lt id q hi
    have hw := hr.write (w' := w.putObj q.b (.stringIter s (p + 1))) (b := .sit s (p + 1)) hi hlv hnr (by simp [World.putObj]) (fun c hc => by simp [World.putObj, Ne.symm hc]) rfl rfl rfl ⟨by simp [World.putObj, hlt3], hbase⟩
    refine ⟨.tuple #[.bool true, .int .i64 (p : Int), .int .i32 ((s[p]'hlt).toNat : Int)], _, _, .inl ?_, hw.1, ?_, hw.2⟩
    · simp [execOp, hpq', Instr.next, getObj, setObj, hh, hlt, hdec, goInt, World.putObj, Sem.run]
    · exact VR.tups (VRs.cons (.b _) (VRs.cons (.i _ _) (VRs.cons (.i _ _) VRs.nil)))
  · have hn : nth (bytes s) p = none := by
      rw [nth_eq]
      unfold bytes
      rw [Array.getElem?_toList, Array.getElem?_eq_none (show s.data.size ≤ p from Nat.le_of_not_lt hlt)]
    rw [hn] at he
    cases he
    refine .pure (v' := .tuple #[.bool false]) hr ?_ (VR.tups (VRs.cons (.b _) VRs.nil))
    simp [execOp, hpq', Instr.next, getObj, hh, hlt, Sem.run]

theorem op_cpy (ha : AR nt ι fr a) (hr : WR Y.tab ι h w) {t e : TypeId} {dt de : TD} {x y : Operand} {x' y' : EO} (ht : Y.tab t = some dt) (hd : dt.desc = .slice e) (hde : Y.tab e = some de)
    (hx : eo x = some x') (hy : eo y = some y') (he : cpyV de.size h (ev fr x') (ev fr y') = .ok v h') : OpOk Y h ι a w ⟨d, .call ⟨.builtin .copy, #[x, y], #[t, t]⟩, ty, pos, aft, g⟩ v h' := by
  obtain ⟨⟨m, new⟩, hadd, he1⟩ := oGet_ok he
  obtain ⟨vs, g1, g2, g3, g4, g5⟩ := addOf_rel hr (ha.ev hy) hadd
  have hu : Y.P.underlying t = some (.slice e) := by rw [(Y.htab t dt ht).und, hd]
  have hvx := ha.ev hx
  have hex : ∀ v' w', (Builtin.copy_ #[t, t] ty #[a.eval x, a.eval y]).run Y.P w = .ok v' w' → (execOp a.eval ⟨d, .call ⟨.builtin .copy, #[x, y], #[t, t]⟩, ty, pos, aft, g⟩).run Y.P w = .ok (.value v') w' := fun v' w' h => by
    simp [execOp, resolve, invoke, builtin, h]
  -- what is read
  have hlen : (Builtin.lenOf (a.eval y)).run Y.P w = .ok m w := by
    rcases g5 with ⟨rfl, h1 | ⟨ad, c, h1⟩⟩ | ⟨ad, c, h1, _⟩ <;> rw [h1] <;> rfl
  have hcells : ∀ n, n ≤ m → (Builtin.firstCells de.size n (a.eval y)).run Y.P w = .ok (vs.take (n * de.size)).toArray w := fun n hn => by
    rcases g5 with ⟨rfl, h1 | ⟨ad, c, h1⟩⟩ | ⟨ad, c, h1, h2⟩
    · have : n = 0 := by omega
      subst this
      rw [h1]; simp [Builtin.firstCells]
    · have : n = 0 := by omega
      subst this
      rw [h1]
      have := run_loadCells_list (P := Y.P) w ad [] (fun j u hu => by cases hu)
      simpa [Builtin.firstCells] using this
    · rw [h1]
      have hle : n * de.size ≤ m * de.size := Nat.mul_le_mul_right _ hn
      have := run_loadCells_list (P := Y.P) w ad (vs.take (n * de.size)) (fun j u hu => by
        rw [List.getElem?_take] at hu
        split at hu
        · exact h2 j u hu
        · cases hu)
      rw [List.length_take, g2, Nat.min_eq_left hle] at this
      simpa [Builtin.firstCells] using this
  have hmain : ∀ b n c, a.eval x = .slice b n c → Nat.min m n = 0 → OpOk Y h ι a w ⟨d, .call ⟨.builtin .copy, #[x, y], #[t, t]⟩, ty, pos, aft, g⟩ (.i .i64 (.ofNat 0)) h := fun b n c hxe h0 => by
    refine .pure (v' := .int .i64 0) hr (hex _ _ ?_) (.i _ _)
    have hc0 := hcells 0 (Nat.zero_le _)
    rw [hxe]
    cases b with
    | none => simp [Builtin.copy_, run_underlying hu, hlen, h0, Rig.size hde, hc0, goInt]
    | some ad =>
      simp [Builtin.copy_, run_underlying hu, hlen, h0, Rig.size hde, hc0, goInt, storeCells]
  rcases V.onSl_ok RV.no_ne he1 with ⟨hb, he⟩ | ⟨id, off, n, sz', hb, he⟩
  · rw [hb] at hvx
    cases he
    generalize hxv : a.eval x = xv at hvx
    cases hvx
    exact hmain none 0 0 hxv (Nat.min_zero m)
  · replace hvx := VR.of_sl hb hvx
    cases hn0 : Nat.beq (Nat.min m n) 0 with
    | true =>
      rw [hn0] at he
      cases he
      have hn0 := Nat.eq_of_beq_eq_true hn0
      generalize hxv : a.eval x = xv at hvx
      cases hvx with
      | sl hq hc h1 h0 => exact hmain _ _ _ hxv hn0
      | sl0 => exact hmain _ _ _ hxv hn0
    | false =>
      rw [hn0] at he
      have hn0 : Nat.min m n ≠ 0 := fun e => by rw [e] at hn0; cases hn0
      obtain ⟨len, cs, hbk, he⟩ := Blk.onW_ok RV.no_ne he
      obtain ⟨hc, he⟩ := cond_ok RV.no_ne he
      cases he
      rw [Bool.and_eq_true] at hc
      have hsz := Nat.eq_of_beq_eq_true hc.1
      have hm := Nat.le_of_ble_eq_true hc.2
      subst hsz
      generalize hxv : a.eval x = xv at hvx
      cases hvx with
      | sl0 => exact absurd (Nat.min_zero m) hn0
      | @sl _ _ _ _ c q hi hcap hnc h0 =>
        have hmn : Nat.min m n ≤ n := Nat.min_le_right m n
        have hmm : Nat.min m n ≤ m := Nat.min_le_left m n
        have q1 : Nat.min m n * de.size ≤ n * de.size := Nat.mul_le_mul_right _ hmn
        have q2 : Nat.min m n * de.size ≤ m * de.size := Nat.mul_le_mul_right _ hmm
        have hnl : new.length = m * de.size := by rw [← g1.len, g2]
        rw [takeN_eq]
        obtain ⟨k1, k2, k3⟩ := write_rel (off := off) hr hi hbk (xs := new.take (Nat.min m n * de.size)) (vs := vs.take (Nat.min m n * de.size)) (by rw [List.length_take]; omega) (g1.take _) (fun c hc => g3 c (List.mem_of_mem_take hc))
        refine ⟨.int .i64 (Nat.min m n : Nat), _, _, .inl (hex _ _ ?_), k2, .i _ _, k3⟩
        have hcm := hcells _ hmm
        rw [hxv]
        simp only [Builtin.copy_, List.getElem?_toArray, List.getElem?_cons_zero, List.getElem?_cons_succ, Sem.run_bind, run_underlying hu, Result.andThen_ok, hlen, Rig.size hde, hcm, k1, Sem.run_pure, goInt]
end ops
end Go.Ev
namespace Go.Ev
open Go Go.RowKit

section
variable {Y : Rig} {nt : Nat} {ι : Io} {fr : Fr} {a : Act} {h h' : H} {w : World} {v : V} {d : Option Tmp} {ty : TypeId} {pos : String} {aft : Array Edge} {g : Option (Nat × Bool)}

def isCall : Op → Bool
  | .call c => match c.callee with | .value _ => true | _ => false
  | _ => false

theorem evop_rel {fs : T EF} {go : Go} (ha : AR nt ι fr a) (hr : WR Y.tab ι h w) {op : Op} {eop : EOp} (hnc : isCall op = false) (hc : compOp Y.tab op = some eop) (he : evop fs go fr h eop = .ok v h') : OpOk Y h ι a w ⟨d, op, ty, pos, aft, g⟩ v h' := by
  cases op
  case move x =>
    simp only [compOp, Option.map_eq_some_iff] at hc
    obtain ⟨x', hx, rfl⟩ := hc
    cases he
    exact op_move ha hr hx
  case assign x =>
    simp only [compOp, Option.map_eq_some_iff] at hc
    obtain ⟨x', hx, rfl⟩ := hc
    cases he
    exact op_assign ha hr hx
  case pick c x y =>
    simp only [compOp, Option.bind_eq_bind, Option.bind_eq_some_iff, Option.some.injEq] at hc
    obtain ⟨c', h1, x', h2, y', h3, rfl⟩ := hc
    exact op_pick ha hr h1 h2 h3 he
  case alloc t =>
    simp only [compOp, Option.bind_eq_bind, Option.bind_eq_some_iff, Option.some.injEq] at hc
    obtain ⟨dt, h1, z, h2, rfl⟩ := hc
    cases he
    exact op_alloc hr h1 h2
  case box t x =>
    simp only [compOp, Option.bind_eq_bind, Option.bind_eq_some_iff, Option.some.injEq] at hc
    obtain ⟨dt, h1, x', h2, rfl⟩ := hc
    obtain ⟨cs, h3, he⟩ := oGet_ok he
    cases he
    exact op_box ha hr h2 h3
  case build t ps =>
    simp only [compOp, Option.bind_eq_bind, Option.bind_eq_some_iff] at hc
    obtain ⟨dt, h1, hc⟩ := hc
    cases hd : dt.desc <;> rw [hd] at hc <;> simp only [reduceCtorEq] at hc
    case array n e =>
      simp only [Option.bind_eq_some_iff, Option.some.injEq] at hc
      obtain ⟨de, h2, z, h3, qs, h4, rfl⟩ := hc
      obtain ⟨cs, h5, he⟩ := oGet_ok he
      cases he
      exact op_build_arr ha hr h1 hd h2 h3 h4 h5
    case struct fs =>
      simp only [Option.bind_eq_some_iff, Option.some.injEq] at hc
      obtain ⟨z, h2, szs, h3, qs, h4, rfl⟩ := hc
      obtain ⟨cs, h5, he⟩ := oGet_ok he
      cases he
      exact op_build_str ha hr h1 hd h2 h3 h4 h5
  case buildSlice t n ps =>
    simp only [compOp, Option.bind_eq_bind, Option.bind_eq_some_iff] at hc
    obtain ⟨dt, h1, hc⟩ := hc
    cases hd : dt.desc <;> rw [hd] at hc <;> simp only [reduceCtorEq] at hc
    case slice e =>
      simp only [Option.bind_eq_some_iff] at hc
      obtain ⟨de, h2, z, h3, hc⟩ := hc
      split at hc
      · rename_i hcond
        obtain ⟨c1, c2, c3⟩ := hcond
        simp only [Option.bind_eq_some_iff, Option.some.injEq] at hc
        obtain ⟨qs, h4, rfl⟩ := hc
        obtain ⟨cs, h5, he⟩ := oGet_ok he
        cases he
        exact op_buildSlice ha hr h1 hd h2 h3 c1 c2 c3 h4 h5
      · cases hc
  case load t p =>
    simp only [compOp, Option.bind_eq_bind, Option.bind_eq_some_iff] at hc
    obtain ⟨dt, h1, hc⟩ := hc
    unfold compLd at hc
    split at hc
    · rename_i k
      simp only [Option.map_eq_some_iff] at hc
      obtain ⟨v', h2, rfl⟩ := hc
      cases he
      exact op_gld hr h1 h2
    · split at hc
      · rename_i hg
        simp only [Option.map_eq_some_iff] at hc
        obtain ⟨p', h2, rfl⟩ := hc
        exact op_loadn ha hr h1 hg h2 he
      · rename_i hg
        simp only [Option.map_eq_some_iff] at hc
        obtain ⟨p', h2, rfl⟩ := hc
        exact op_load ha hr h1 (by simpa using hg) h2 he
  case store t p x =>
    simp only [compOp, Option.bind_eq_bind, Option.bind_eq_some_iff, Option.some.injEq] at hc
    obtain ⟨dt, h1, p', h2, x', h3, rfl⟩ := hc
    exact op_store ha hr h1 h2 h3 he
  case binOp op t x y t' =>
    simp only [compOp, Option.bind_eq_bind, Option.bind_eq_some_iff] at hc
    obtain ⟨dt, h1, hc⟩ := hc
    split at hc
    · simp only [Option.bind_eq_some_iff, Option.some.injEq] at hc
      obtain ⟨x', h2, y', h3, rfl⟩ := hc
      exact op_bin ha hr h2 h3 he
    · rename_i hd
      simp only [Option.bind_eq_some_iff, Option.some.injEq] at hc
      obtain ⟨p, hp, x', h2, y', h3, rfl⟩ := hc
      refine op_sbin ha hr h1 hd h2 h3 ?_ he
      cases op <;> simp [strK] at hp ⊢ <;> exact hp.symm
    · rename_i e hd
      split at hc
      · rename_i hy
        simp only [Option.map_eq_some_iff] at hc
        obtain ⟨x', hx, rfl⟩ := hc
        exact op_isnil (neg := false) ha hr h1 hd hx hy he
      · rename_i hy
        simp only [Option.map_eq_some_iff] at hc
        obtain ⟨x', hx, rfl⟩ := hc
        exact op_isnil (neg := true) ha hr h1 hd hx hy he
      · cases hc
    · simp only [Option.bind_eq_some_iff] at hc
      obtain ⟨kd, h2, hc⟩ := hc
      cases op <;> simp only [reduceCtorEq] at hc
      · simp only [Option.bind_eq_some_iff, Option.some.injEq] at hc
        obtain ⟨x', h3, y', h4, rfl⟩ := hc
        exact op_eqk (neg := false) ha hr h1 h2 h3 h4 he
      · simp only [Option.bind_eq_some_iff, Option.some.injEq] at hc
        obtain ⟨x', h3, y', h4, rfl⟩ := hc
        exact op_eqk (neg := true) ha hr h1 h2 h3 h4 he
  case nilCheck x =>
    simp only [compOp, Option.map_eq_some_iff] at hc
    obtain ⟨x', hx, rfl⟩ := hc
    exact op_nilck ha hr hx he
  case unOp op t x =>
    cases op <;> simp only [compOp, Option.map_eq_some_iff, reduceCtorEq] at hc
    · obtain ⟨x', hx, rfl⟩ := hc
      exact op_neg ha hr hx he
    · simp only [Option.bind_eq_bind, Option.bind_eq_some_iff] at hc
      obtain ⟨dt, h1, hc⟩ := hc
      split at hc
      · simp only [Option.bind_eq_some_iff, Option.some.injEq] at hc
        obtain ⟨x', hx, rfl⟩ := hc
        exact op_xor1 ha hr hx he
      · cases hc
    · obtain ⟨x', hx, rfl⟩ := hc
      exact op_not ha hr hx he
  case convert s t x =>
    simp only [compOp, Option.bind_eq_bind, Option.bind_eq_some_iff] at hc
    obtain ⟨ds, h1, dt, h2, hc⟩ := hc
    split at hc
    · rename_i k0 k hd1 hd2
      simp only [Option.map_eq_some_iff] at hc
      obtain ⟨x', hx, rfl⟩ := hc
      exact op_conv ha hr h1 h2 hd1 hd2 hx he
    · cases hc
  case makeFunc fn fs cs =>
    cases fn <;> simp only [compOp, reduceCtorEq] at hc
    split at hc
    · rename_i hf
      simp only [Option.map_eq_some_iff] at hc
      obtain ⟨cs', h1, rfl⟩ := hc
      cases he
      exact op_mkfn ha hr hf h1
    · simp only [Option.bind_eq_bind, Option.bind_eq_some_iff, Option.some.injEq] at hc
      obtain ⟨fs', h1, cs', h2, rfl⟩ := hc
      cases he
      exact op_mkbf ha hr h1 h2
  case makeMap t r =>
    cases r <;> simp only [compOp, reduceCtorEq] at hc
    simp only [Option.bind_eq_bind, Option.bind_eq_some_iff] at hc
    obtain ⟨dt, h1, hc⟩ := hc
    split at hc
    · simp only [Option.bind_eq_some_iff, Option.some.injEq] at hc
      obtain ⟨dk, h2, kd, h3, rfl⟩ := hc
      cases he
      exact op_mkmap hr h2 h3
    · cases hc
  case makeSlice t l c =>
    simp only [compOp] at hc
    split at hc
    · rename_i hs
      simp only [Option.bind_eq_bind, Option.bind_eq_some_iff] at hc
      obtain ⟨dt, h1, hc⟩ := hc
      split at hc
      · rename_i e hd
        simp only [Option.bind_eq_some_iff] at hc
        obtain ⟨de, h2, z, h3, hc⟩ := hc
        split at hc
        · rename_i hcond
          simp only [Option.bind_eq_some_iff, Option.some.injEq] at hc
          obtain ⟨l', h4, rfl⟩ := hc
          exact op_mkslice ha hr h1 hd h2 h3 hcond.1 hcond.2.1 hcond.2.2 hs h4 he
        · cases hc
      · cases hc
    · simp only [Option.bind_eq_bind, Option.bind_eq_some_iff] at hc
      obtain ⟨dt, h1, hc⟩ := hc
      split at hc
      · rename_i e hd
        simp only [Option.bind_eq_some_iff] at hc
        obtain ⟨de, h2, z, h3, hc⟩ := hc
        split at hc
        · rename_i hcond
          simp only [Option.bind_eq_some_iff, Option.some.injEq] at hc
          obtain ⟨l', h4, c', h5, rfl⟩ := hc
          exact op_mkslC ha hr h1 hd h2 h3 hcond.1 hcond.2.1 hcond.2.2 h4 h5 he
        · cases hc
      · cases hc
  case slice t x lo hi mx =>
    simp only [compOp, Option.bind_eq_bind, Option.bind_eq_some_iff] at hc
    obtain ⟨dt, h1, hc⟩ := hc
    split at hc
    · rename_i e hd
      split at hc
      · rename_i hmh
        simp only [Option.bind_eq_some_iff, Option.some.injEq] at hc
        obtain ⟨de, h2, x', h3, lo', h4, hi', h5, mx', h6, rfl⟩ := hc
        exact op_slice ha hr h1 hd h2 h3 h4 h5 h6 he hmh
      · cases hc
    · rename_i arr hd
      split at hc
      · rename_i hmx
        subst hmx
        simp only [Option.bind_eq_some_iff] at hc
        obtain ⟨da, h2, hc⟩ := hc
        split at hc
        · rename_i n e hda
          simp only [Option.bind_eq_some_iff] at hc
          obtain ⟨de, h3, hc⟩ := hc
          split at hc
          · rename_i hp
            simp only [Option.bind_eq_some_iff, Option.some.injEq] at hc
            obtain ⟨x', h4, lo', h5, hi', h6, rfl⟩ := hc
            exact op_slcA ha hr h1 (.inl ⟨hd, h2, hda⟩) h3 hp h4 h5 h6 he
          · cases hc
        · cases hc
      · rename_i hmx
        split at hc
        · rename_i his
          simp only [Option.bind_eq_some_iff] at hc
          obtain ⟨da, h2, hc⟩ := hc
          split at hc
          · rename_i n e hda
            simp only [Option.bind_eq_some_iff] at hc
            obtain ⟨de, h3, hc⟩ := hc
            split at hc
            · rename_i hp
              simp only [Option.bind_eq_some_iff, Option.some.injEq] at hc
              obtain ⟨x', h4, lo', h5, hi', h6, mx', h7, rfl⟩ := hc
              exact op_slcX ha hr h1 (.inl ⟨hd, h2, hda⟩) h3 hp h4 h5 h6 h7 his hmx he
            · cases hc
          · cases hc
        · cases hc
    · rename_i n e hd
      split at hc
      · rename_i hmx
        subst hmx
        simp only [Option.bind_eq_some_iff] at hc
        obtain ⟨de, h3, hc⟩ := hc
        split at hc
        · rename_i hp
          simp only [Option.bind_eq_some_iff, Option.some.injEq] at hc
          obtain ⟨x', h4, lo', h5, hi', h6, rfl⟩ := hc
          exact op_slcA (arr := 0) (da := dt) ha hr h1 (.inr hd) h3 hp h4 h5 h6 he
        · cases hc
      · rename_i hmx
        split at hc
        · rename_i his
          simp only [Option.bind_eq_some_iff] at hc
          obtain ⟨de, h3, hc⟩ := hc
          split at hc
          · rename_i hp
            simp only [Option.bind_eq_some_iff, Option.some.injEq] at hc
            obtain ⟨x', h4, lo', h5, hi', h6, mx', h7, rfl⟩ := hc
            exact op_slcX (arr := 0) (da := dt) ha hr h1 (.inr hd) h3 hp h4 h5 h6 h7 his hmx he
          · cases hc
        · cases hc
    · rename_i hd
      split at hc
      · rename_i hmx
        subst hmx
        simp only [Option.bind_eq_some_iff, Option.some.injEq] at hc
        obtain ⟨x', h4, lo', h5, hi', h6, rfl⟩ := hc
        exact op_ssl ha hr h1 hd h4 h5 h6 he
      · cases hc
    · cases hc
  case range t x =>
    simp only [compOp, Option.bind_eq_bind, Option.bind_eq_some_iff] at hc
    obtain ⟨dt, h1, hc⟩ := hc
    split at hc
    · rename_i hd
      simp only [Option.map_eq_some_iff] at hc
      obtain ⟨x', h2, rfl⟩ := hc
      exact op_rng ha hr h1 hd h2 he
    · cases hc
  case next x b =>
    simp only [compOp] at hc
    split at hc
    · rename_i hb
      subst hb
      simp only [Option.map_eq_some_iff] at hc
      obtain ⟨x', h2, rfl⟩ := hc
      exact op_nxt ha hr h2 he
    · cases hc
  case fieldAddr t x f =>
    simp only [compOp, Option.bind_eq_bind, Option.bind_eq_some_iff] at hc
    obtain ⟨dt, h1, hc⟩ := hc
    split at hc
    · rename_i fs hd
      simp only [Option.bind_eq_some_iff] at hc
      obtain ⟨fd, h2, df, h3, hc⟩ := hc
      split at hc
      · cases hc
      · rename_i h0
        simp only [Option.bind_eq_some_iff, Option.some.injEq] at hc
        obtain ⟨x', h4, rfl⟩ := hc
        exact op_fadr ha hr h1 hd h2 h3 h0 h4 he
    · cases hc
  case field t x f =>
    simp only [compOp, Option.bind_eq_bind, Option.bind_eq_some_iff] at hc
    obtain ⟨dt, h1, hc⟩ := hc
    split at hc
    · rename_i fs hd
      simp only [Option.bind_eq_some_iff, Option.some.injEq] at hc
      obtain ⟨fd, h2, df, h3, x', h4, rfl⟩ := hc
      exact op_fld ha hr h1 hd h2 h3 h4 he
    · cases hc
  case indexAddr t x i =>
    simp only [compOp, Option.bind_eq_bind, Option.bind_eq_some_iff] at hc
    obtain ⟨dt, h1, hc⟩ := hc
    split at hc
    · rename_i n e hd
      simp only [Option.bind_eq_some_iff, Option.some.injEq] at hc
      obtain ⟨de, h2, x', h3, i', h4, rfl⟩ := hc
      exact op_iadr ha hr h1 hd h2 h3 h4 he
    · rename_i e hd
      simp only [Option.bind_eq_some_iff, Option.some.injEq] at hc
      obtain ⟨de, h2, x', h3, i', h4, rfl⟩ := hc
      exact op_iads ha hr h1 hd h2 h3 h4 he
    · cases hc
  case index t x i =>
    simp only [compOp, Option.bind_eq_bind, Option.bind_eq_some_iff] at hc
    obtain ⟨dt, h1, hc⟩ := hc
    split at hc
    · rename_i n e hd
      simp only [Option.bind_eq_some_iff, Option.some.injEq] at hc
      obtain ⟨de, h2, x', h3, i', h4, rfl⟩ := hc
      exact op_ix ha hr h1 hd h2 h3 h4 he
    · rename_i hd
      simp only [Option.bind_eq_some_iff, Option.some.injEq] at hc
      obtain ⟨x', h3, i', h4, rfl⟩ := hc
      exact op_sidx ha hr h1 hd h3 h4 he
    · cases hc
  case lookup t m k ok =>
    simp only [compOp, Option.bind_eq_bind, Option.bind_eq_some_iff] at hc
    obtain ⟨dt, h1, hc⟩ := hc
    split at hc
    · rename_i kt e hd
      simp only [Option.bind_eq_some_iff, Option.some.injEq] at hc
      obtain ⟨dk, h2, kd, h3, de, h4, z, h5, m', h6, k', h7, rfl⟩ := hc
      exact op_look ha hr h1 hd h2 h3 h4 h5 h6 h7 he
    · cases hc
  case mapUpdate t m k x =>
    simp only [compOp, Option.bind_eq_bind, Option.bind_eq_some_iff] at hc
    obtain ⟨dt, h1, hc⟩ := hc
    split at hc
    · rename_i kt e hd
      simp only [Option.bind_eq_some_iff, Option.some.injEq] at hc
      obtain ⟨dk, h2, kd, h3, m', h6, k', h7, x', h8, rfl⟩ := hc
      have := op_mupd (d := d) (ty := ty) (pos := pos) (aft := aft) (g := g) ha hr h1 hd h2 h3 h6 h7 h8 he
      exact this
    · cases hc
  case insert t m k x =>
    simp only [compOp, Option.bind_eq_bind, Option.bind_eq_some_iff] at hc
    obtain ⟨dt, h1, hc⟩ := hc
    split at hc
    · rename_i kt e hd
      simp only [Option.bind_eq_some_iff, Option.some.injEq] at hc
      obtain ⟨dk, h2, kd, h3, m', h6, k', h7, x', h8, rfl⟩ := hc
      have := op_mupd (d := d) (ty := ty) (pos := pos) (aft := aft) (g := g) ha hr h1 hd h2 h3 h6 h7 h8 he
      exact this
    · cases hc
  case extract x i =>
    simp only [compOp, Option.bind_eq_bind, Option.bind_eq_some_iff, Option.some.injEq] at hc
    obtain ⟨x', h1, rfl⟩ := hc
    exact op_ext ha hr h1 he
  case call c =>
    obtain ⟨callee, args, tys⟩ := c
    obtain ⟨al, rfl⟩ : ∃ al : List Operand, args = al.toArray := ⟨args.toList, by simp⟩
    obtain ⟨tl, rfl⟩ : ∃ tl : List TypeId, tys = tl.toArray := ⟨tys.toList, by simp⟩
    cases callee with
    | value f => simp [isCall] at hnc
    | invoke r m => simp [compOp] at hc
    | builtin b =>
      cases b <;> simp only [compOp, reduceCtorEq] at hc
      case len =>
        split at hc
        · simp only [Option.bind_eq_bind, Option.bind_eq_some_iff] at hc
          obtain ⟨dt, h1, hc⟩ := hc
          split at hc
          · rename_i e hd
            simp only [Option.map_eq_some_iff] at hc
            obtain ⟨x', hx, rfl⟩ := hc
            exact op_len ha hr h1 hd hx he
          · rename_i kt e hd
            simp only [Option.map_eq_some_iff] at hc
            obtain ⟨x', hx, rfl⟩ := hc
            exact op_lenM ha hr h1 hd hx he
          · rename_i hd
            simp only [Option.map_eq_some_iff] at hc
            obtain ⟨x', hx, rfl⟩ := hc
            exact op_slen ha hr h1 hd hx he
          · cases hc
        · cases hc
      case cap =>
        split at hc
        · simp only [Option.bind_eq_bind, Option.bind_eq_some_iff] at hc
          obtain ⟨dt, h1, hc⟩ := hc
          split at hc
          · rename_i e hd
            simp only [Option.map_eq_some_iff] at hc
            obtain ⟨x', hx, rfl⟩ := hc
            exact op_scap ha hr h1 hd hx he
          · cases hc
        · cases hc
      case append =>
        split at hc
        · simp only [Option.bind_eq_bind, Option.bind_eq_some_iff] at hc
          obtain ⟨dt, h1, hc⟩ := hc
          split at hc
          · rename_i e hd
            split at hc
            · rename_i htt
              subst htt
              simp only [Option.bind_eq_some_iff] at hc
              obtain ⟨de, h2, hc⟩ := hc
              split at hc
              · rename_i hcond
                simp only [Option.bind_eq_some_iff, Option.some.injEq] at hc
                obtain ⟨x', h3, y', h4, rfl⟩ := hc
                exact op_append ha hr h1 hd h2 hcond.1 hcond.2.1 hcond.2.2 h3 h4 he
              · cases hc
            · simp only [Option.bind_eq_some_iff] at hc
              obtain ⟨du, h2, hc⟩ := hc
              split at hc
              · rename_i k0 hdu
                simp only [Option.bind_eq_some_iff] at hc
                obtain ⟨de, h3, z, h4, hc⟩ := hc
                split at hc
                · rename_i hcond
                  simp only [Option.bind_eq_some_iff, Option.some.injEq] at hc
                  obtain ⟨x', h5, y', h6, rfl⟩ := hc
                  exact op_appZ ha hr h1 hd h2 hdu h3 h4 hcond.1 hcond.2.1 hcond.2.2 h5 h6 he
                · cases hc
              · cases hc
          · cases hc
        · cases hc
      case clear =>
        split at hc
        · simp only [Option.bind_eq_bind, Option.bind_eq_some_iff] at hc
          obtain ⟨dt, h1, hc⟩ := hc
          split at hc
          · rename_i e hd
            simp only [Option.bind_eq_some_iff] at hc
            obtain ⟨de, h3, z, h4, hc⟩ := hc
            split at hc
            · rename_i hcond
              simp only [Option.bind_eq_some_iff, Option.some.injEq] at hc
              obtain ⟨x', h5, rfl⟩ := hc
              exact op_clr ha hr h1 hd h3 h4 hcond.1 hcond.2 h5 he
            · cases hc
          · cases hc
        · cases hc
      case min =>
        split at hc
        · simp only [Option.bind_eq_bind, Option.bind_eq_some_iff, Option.some.injEq] at hc
          obtain ⟨x', h3, y', h4, rfl⟩ := hc
          exact op_min ha hr h3 h4 he
        · cases hc
      case max =>
        split at hc
        · simp only [Option.bind_eq_bind, Option.bind_eq_some_iff, Option.some.injEq] at hc
          obtain ⟨x', h3, y', h4, rfl⟩ := hc
          exact op_max ha hr h3 h4 he
        · simp only [Option.bind_eq_bind, Option.bind_eq_some_iff, Option.some.injEq] at hc
          obtain ⟨x', h3, y', h4, z', h5, rfl⟩ := hc
          exact op_mx3 ha hr h3 h4 h5 he
        · cases hc
      case copy =>
        split at hc
        · split at hc
          · rename_i htt
            subst htt
            simp only [Option.bind_eq_bind, Option.bind_eq_some_iff] at hc
            obtain ⟨dt, h1, hc⟩ := hc
            split at hc
            · rename_i e hd
              simp only [Option.bind_eq_some_iff] at hc
              obtain ⟨de, h2, hc⟩ := hc
              split at hc
              · simp only [Option.bind_eq_some_iff, Option.some.injEq] at hc
                obtain ⟨x', h3, y', h4, rfl⟩ := hc
                exact op_cpy ha hr h1 hd h2 h3 h4 he
              · cases hc
            · cases hc
          · cases hc
        · cases hc
  all_goals (simp only [compOp, reduceCtorEq] at hc)
end
end Go.Ev
namespace Go.Ev
open Go Go.RowKit

def Mk (base : Nat) (ι : Io) (w : World) (ds : List Deferred) : Prop := base ≤ w.heap.size ∧ ∃ l : List Nat, ds = l.map (fun D => { target := .collected D, args := #[] }) ∧ l.Nodup ∧ ∀ D ∈ l, base ≤ D ∧ w.heap[D]? = some (Obj.deferred (some [])) ∧ ∀ id q, ι id = some q → q.b ≠ D
theorem lt_of_heap {w : World} {b : Nat} {o : Obj} (h : w.heap[b]? = some o) : b < w.heap.size := (Array.getElem?_eq_some_iff.1 h).1
theorem Mk.step {base n n' : Nat} {ι ι' : Io} {w w' : World} {ds : List Deferred} (h : Mk base ι w ds) (hs : Step n ι w n' ι' w') : Mk base ι' w' ds := by
  obtain ⟨h0, l, h1, h2, h3⟩ := h
  refine ⟨Nat.le_trans h0 hs.size, l, h1, h2, fun D hD => ?_⟩
  obtain ⟨g1, g2, g3⟩ := h3 D hD
  have hlt := lt_of_heap g2
  exact ⟨g1, (hs.keep D hlt g3).trans g2, hs.out hlt g3⟩
theorem Mk.nil (ι : Io) (w : World) : Mk w.heap.size ι w [] := ⟨Nat.le_refl _, [], rfl, List.nodup_nil, fun D h => absurd h (by simp)⟩

def Ex.of : Ex → Exit
  | .normal => .normal
  | .exit id => .exit id
  | .ret => .ret

def RO (F : Fence) (ro : Option K) (ι : Io) : Prop := match ro with
  | none => F = Fence.wide
  | some id => ∃ q, ι id = some q ∧ F = Fence.wide.inRound q.b
theorem RO.mono {F : Fence} {ro : Option K} {ι ι' : Io} (he : Ext ι ι') (h : RO F ro ι) : RO F ro ι' := by
  cases ro with
  | none => exact h
  | some id => obtain ⟨q, h1, h2⟩ := h; exact ⟨q, he _ _ h1, h2⟩
def FW (F : Fence) : Prop := F = Fence.wide ∨ ∃ l, F = Fence.wide.inRound l
theorem RO.fw {F : Fence} {ro : Option K} {ι : Io} (h : RO F ro ι) : FW F := by
  cases ro with
  | none => exact .inl h
  | some id => obtain ⟨q, _, h2⟩ := h; exact .inr ⟨_, h2⟩
theorem FW.fn {F : Fence} (h : FW F) (f : FuncId) : F.fn f := by rcases h with rfl | ⟨l, rfl⟩ <;> trivial
theorem FW.depth {F : Fence} (h : FW F) : F.depth = none := by rcases h with rfl | ⟨l, rfl⟩ <;> rfl
theorem FW.into {F : Fence} (h : FW F) (l : Nat) : F.inRound l = Fence.wide.inRound l := by rcases h with rfl | ⟨l, rfl⟩ <;> rfl
theorem FW.calls {F : Fence} (h : FW F) {P : Program} {f : FuncId} {args : Array Value} {w : World} {R : Ending → World → Prop} (hc : CallsIn Fence.wide 0 P f args w R) : CallsIn F 0 P f args w R := by
  rcases h with rfl | ⟨l, rfl⟩ <;> exact hc

structure FnOk (Y : Rig) (k : K) (ef : EF) (fn : Func) (c : Code) : Prop where
  def_ : Y.P.funcs[k.nat]? = some fn
  body : fn.body = some c
  name : (fn.name == "runtime.NumGoroutine") = false
  nt : ef.nt = fn.ntmps
  rs : mapO (compR Y.tab) fn.results.toList = some ef.rs
  code : ef.body = comp Y.tab fn.ntmps c
def Gives (Y : Rig) (k : K) (args : List V) (v : V) : Prop := ∀ (ι : Io) (vals : List Value) (w : World), VRs ι args vals → Glob Y.tab w → CallsIn Fence.wide 0 Y.P k.nat vals.toArray w fun e w' =>
  ∃ v', e = .returned v' ∧ (∀ ι, VR ι v v') ∧ w'.os = w.os ∧ w'.tape = w.tape ∧ w'.output = w.output ∧ w.heap.size ≤ w'.heap.size ∧ ∀ b, b < w.heap.size → w'.heap[b]? = w.heap[b]?
def Post (Y : Rig) (h : H) (ι : Io) (w : World) (v : V) (h' : H) : Ending → World → Prop := fun e w' => ∃ ι' v', e = .returned v' ∧ Step h.nx.nat ι w h'.nx.nat ι' w' ∧ VR ι' v v' ∧ WR Y.tab ι' h' w'
def Does (Y : Rig) (k : K) (args : List V) (h : H) (v : V) (h' : H) : Prop := ∀ (ι : Io) (vals : List Value) (w : World), VRs ι args vals → WR Y.tab ι h w → CallsIn Fence.wide 0 Y.P k.nat vals.toArray w (Post Y h ι w v h')
theorem Gives.does {Y : Rig} {k : K} {args : List V} {v : V} (hg : Gives Y k args v) (h : H) : Does Y k args h v h := fun ι vals w hv hr => by
  refine (hg ι vals w hv hr.globs).mono ?_
  rintro e w' ⟨v', rfl, g1, g2, g3, g4, g5, g6⟩
  exact ⟨ι, v', rfl, ⟨Ext.refl ι, fun id q h k => (by rw [h] at k; cases k), fun b hb _ => g6 b hb, g2, g3, g4, g5, Nat.le_refl _, fun _ _ h => h⟩, g1 ι, hr.same g6 g5⟩
structure NatOk (Y : Rig) (k : K) (g : List V → H → Option (V × H)) : Prop where
  fn : ∃ fn, Y.P.funcs[k.nat]? = some fn ∧ fn.body ≠ none ∧ (fn.name == "runtime.NumGoroutine") = false
  does : ∀ args h v h', g args h = some (v, h') → Does Y k args h v h'
def Fns (Y : Rig) (fs : T EF) : Prop := ∀ k ef, fs.get k = some ef → (ef.nv = none ∧ ∃ fn c, FnOk Y k ef fn c) ∨ ∃ g, ef.nv = some g ∧ NatOk Y k g

def CQ (Y : Rig) (nt base : Nat) (h : H) (ι : Io) (w : World) (e : Ex) (fr' : Fr) (h' : H) : Exit → Act → World → Prop := fun ex a' w' =>
  ex = e.of ∧ ∃ ι', Step h.nx.nat ι w h'.nx.nat ι' w' ∧ AR nt ι' fr' a' ∧ WR Y.tab ι' h' w' ∧ Mk base ι' w' a'.defers
def GoOk (Y : Rig) (go : Go) : Prop := ∀ (ro : Option K) (nt base : Nat) (code : Code) (fr : Fr) (h : H) (e : Ex) (fr' : Fr) (h' : H), go ro (comp Y.tab nt code) fr h = .ok e fr' h' →
  ∀ (F : Fence) (ι : Io) (a : Act) (w : World), RO F ro ι → AR nt ι fr a → WR Y.tab ι h w → Mk base ι w a.defers → code.wpIn F 0 Y.P (CQ Y nt base h ι w e fr' h') a w
/-! ### A function's results -/
def rvSem (tmps : Array Value) : ResultVar → Sem Value
  | .tmp t => pure (tmps.getD t undef)
  | .cell a t => do loadVar t (← asAddr (tmps.getD a undef))
theorem results_eq (fn : Func) (tmps : Array Value) : results fn tmps = (do
    let vs ← fn.results.mapM (rvSem tmps)
    pure (if h : vs.size = 1 then vs[0] else .tuple vs)) := by
  unfold results
  congr 1
def retVal : List Value → Value
  | [v] => v
  | l => .tuple l.toArray
theorem retV_rel {ι : Io} {vs : List V} {us : List Value} (h : VRs ι vs us) : VR ι (retV vs) (retVal us) := by
  cases vs with
  | nil => obtain rfl := h.inv_nil; exact VR.tups VRs.nil
  | cons v vs =>
    obtain ⟨u, us, rfl, h1, h2⟩ := h.inv_cons
    cases vs with
    | nil => obtain rfl := h2.inv_nil; exact h1
    | cons v2 vs =>
      obtain ⟨u2, us, rfl, h3, h4⟩ := h2.inv_cons
      exact VR.tups (VRs.cons h1 (VRs.cons h3 h4))

section
variable {Y : Rig} {nt : Nat} {ι : Io} {fr : Fr} {a : Act} {h h' : H} {w : World} {v : V}

theorem readR_rel (hf : FR ι fr a.tmps) (hr : WR Y.tab ι h w) {r : ResultVar} {er : ER} (hc : compR Y.tab r = some er) (he : readR fr h er = some v) : ∃ v', (rvSem a.tmps r).run Y.P w = .ok v' w ∧ VR ι v v' := by
  have hslot : ∀ t : Tmp, VR ι (ev fr (.t (K.ofNat t))) (a.tmps.getD t undef) := fun t => by
    have := hf (K.ofNat t)
    rw [K.ofNat_nat] at this
    exact this
  cases r with
  | tmp t =>
    cases hc
    cases he
    exact ⟨_, rfl, hslot t⟩
  | cell t ty =>
    unfold compR at hc
    simp only at hc
    split at hc
    · rename_i d hd
      split at hc
      · rename_i hg
        cases hc
        obtain ⟨b, off, vs, cs, h1, h2, h3, h4, h5, rfl⟩ := many?_rel hr (hslot t) he
        refine ⟨.agg vs.toArray, ?_, VR.aggs h4 h5⟩
        have hl := run_loadCells_list (P := Y.P) w ⟨b, off, none⟩ vs h3
        rw [h2] at hl
        simp [rvSem, h1, asAddr, loadVar, Rig.isAgg hd, hg, Rig.size hd, hl]
      · rename_i hg
        cases hc
        obtain ⟨b, off, v', h1, h2, h3⟩ := one?_rel hr (hslot t) he
        refine ⟨v', ?_, h3⟩
        have hg' : d.agg = false := by simpa using hg
        simp [rvSem, h1, asAddr, loadVar, Rig.isAgg hd, hg', h2]
    · cases hc
theorem readRs_rel (hf : FR ι fr a.tmps) (hr : WR Y.tab ι h w) : ∀ {rs : List ResultVar} {ers : List ER} {vs : List V}, mapO (compR Y.tab) rs = some ers → readRs fr h ers = some vs → ∃ us, (rs.mapM (rvSem a.tmps)).run Y.P w = .ok us w ∧ VRs ι vs us
  | [], ers, vs, hc, he => by
    cases hc
    cases he
    exact ⟨[], rfl, VRs.nil⟩
  | r :: rs, ers, vs, hc, he => by
    unfold mapO at hc
    split at hc
    · rename_i y hy
      cases hm : mapO (compR Y.tab) rs with
      | none => rw [hm] at hc; cases hc
      | some m =>
        rw [hm] at hc
        cases hc
        obtain ⟨v, h1, he⟩ := oGet_some (by simp) (show (oGet (readR fr h y) none fun v => oGet (readRs fr h m) none fun l => some (v :: l)) = some vs from he)
        obtain ⟨l, h2, he⟩ := oGet_some (by simp) he
        cases he
        obtain ⟨v', g1, g2⟩ := readR_rel hf hr hy h1
        obtain ⟨us, g3, g4⟩ := readRs_rel hf hr hm h2
        refine ⟨v' :: us, ?_, VRs.cons g2 g4⟩
        simp only [List.mapM_cons, Sem.run_bind, g1, Result.andThen_ok, g3, Sem.run_pure]
    · cases hc
theorem results_rel (hf : FR ι fr a.tmps) (hr : WR Y.tab ι h w) {fn : Func} {ers : List ER} {vs : List V} (hc : mapO (compR Y.tab) fn.results.toList = some ers) (he : readRs fr h ers = some vs) : ∃ v', (results fn a.tmps).run Y.P w = .ok v' w ∧ VR ι (retV vs) v' := by
  obtain ⟨us, h1, h2⟩ := readRs_rel hf hr hc he
  refine ⟨retVal us, ?_, retV_rel h2⟩
  obtain ⟨rl, hrl⟩ : ∃ rl : List ResultVar, fn.results = rl.toArray := ⟨fn.results.toList, by simp⟩
  rw [hrl] at h1
  simp only at h1
  rw [results_eq, Sem.run_bind, hrl, List.mapM_toArray, Sem.run_map]
  rw [h1]
  simp only [Result.andThen_ok, Sem.run_pure]
  match us with
  | [] => rfl
  | [v] => rfl
  | v1 :: v2 :: vs => simp [retVal]

theorem frame_get : ∀ (vs : List V) (k0 : K) (fr : Fr) (k : K), (frame k0 vs fr).get k = if k0.nat ≤ k.nat ∧ k.nat < k0.nat + vs.length then vs[k.nat - k0.nat]? else fr.get k
  | [], k0, fr, k => by rw [if_neg (by simp)]; rfl
  | v :: vs, k0, fr, k => by
    have : (frame k0 (v :: vs) fr).get k = (frame k0.succ vs (fr.set k0 v)).get k := rfl
    rw [this, frame_get vs, K.succ_nat, T.get_set]
    by_cases h1 : k0.nat + 1 ≤ k.nat ∧ k.nat < k0.nat + 1 + vs.length
    · rw [if_pos h1, if_pos (by simp; omega)]
      have : k.nat - k0.nat = (k.nat - (k0.nat + 1)) + 1 := by omega
      rw [this, List.getElem?_cons_succ]
    · rw [if_neg h1]
      by_cases h2 : k = k0
      · subst h2; rw [if_pos rfl, if_pos (by simp)]; simp
      · have : k.nat ≠ k0.nat := fun e => h2 (K.nat_inj e)
        rw [if_neg h2, if_neg (by simp; omega)]

theorem frame_rel {args : List V} {vals : List Value} (hv : VRs ι args vals) {n : Nat} (hn : args.length ≤ n) : AR n ι (frame .e args .nil) { tmps := vals.toArray ++ Array.replicate (n - vals.toArray.size) undef, defers := [] } := by
  have hl := hv.len
  refine ⟨by simp; omega, fun k => ?_⟩
  rw [frame_get, T.get_nil]
  simp only [K.nat, Nat.zero_le, true_and, Nat.zero_add, Nat.sub_zero]
  simp only [Array.getD_eq_getD_getElem?]
  by_cases h1 : k.nat < args.length
  · rw [if_pos h1, Array.getElem?_append_left (by simp; omega)]
    have h2 : k.nat < vals.length := by omega
    simp only [List.getElem?_toArray, List.getElem?_eq_getElem h1, List.getElem?_eq_getElem h2, getV, Option.getD_some]
    exact hv.at_ _ _ _
  · rw [if_neg h1]; exact .un _

theorem Step.put_out {n n' : Nat} {ι : Io} {w0 w : World} {ι1 : Io} {D : Nat} {o : Obj} (hs : Step n ι w0 n' ι1 w) (hD : w0.heap.size ≤ D) : Step n ι w0 n' ι1 (w.putObj D o) :=
  ⟨hs.ext, hs.new, fun b hb ho => (World.putObj_heap_other (by omega)).trans (hs.keep b hb ho), hs.os, hs.tape, hs.output, by simpa using hs.size, hs.mono, hs.low⟩
theorem WR.put_out {tab : Tab} {ι : Io} {h : H} {w : World} {D : Nat} {o : Obj} (hr : WR tab ι h w) (hD : ∀ id q, ι id = some q → q.b ≠ D) (hc : ∀ cs ty fz, w.heap[D]? ≠ some (.cells cs ty fz)) : WR tab ι h (w.putObj D o) :=
  ⟨fun id q hq => (hr.blk id q hq).mono (Ext.refl _) (World.putObj_heap_other (hD id q hq)), fun id q hq => by simpa using hr.lt id q hq, hr.inj, hr.fresh, fun t d g u k1 k2 => by
    obtain ⟨⟨ty, fz, k3⟩, k4⟩ := hr.glob t d g u k1 k2
    exact ⟨⟨ty, fz, (World.putObj_heap_other (fun e => hc _ _ _ (e ▸ k3))).trans k3⟩, k4⟩⟩

theorem callF_rel {go : Go} (hgo : GoOk Y go) {k : K} {ef : EF} {fn : Func} {c : Code} (hf : FnOk Y k ef fn c) {args : List V} {vals : List Value} (he : callF go ef args h = .ok v h') (hv : VRs ι args vals) (hr : WR Y.tab ι h w) :
    CallsIn Fence.wide 0 Y.P k.nat vals.toArray w (Post Y h ι w v h') := by
  obtain ⟨hc, he1⟩ := cond_ok RV.no_ne he
  have hc := Nat.le_of_ble_eq_true hc
  rw [lenL_eq, hf.nt] at hc
  rw [hf.code] at he1
  cases hres : go none (comp Y.tab fn.ntmps c) (frame .e args .nil) h with
  | no => rw [hres] at he1; cases he1
  | ok e fr1 h1 =>
    rw [hres] at he1
    have he2 : leave ef e fr1 h1 = .ok v h' := he1
    have hvs : (e = .normal ∨ e = .ret) ∧ ∃ vs, readRs fr1 h1 ef.rs = some vs ∧ v = retV vs ∧ h' = h1 := by
      cases e with
      | exit id => cases he2
      | normal =>
        obtain ⟨vs, h2, h3⟩ := oGet_ok (show (oGet (readRs fr1 h1 ef.rs) .no fun vs => .ok (retV vs) h1) = RV.ok v h' from he2)
        cases h3
        exact ⟨.inl rfl, vs, h2, rfl, rfl⟩
      | ret =>
        obtain ⟨vs, h2, h3⟩ := oGet_ok (show (oGet (readRs fr1 h1 ef.rs) .no fun vs => .ok (retV vs) h1) = RV.ok v h' from he2)
        cases h3
        exact ⟨.inr rfl, vs, h2, rfl, rfl⟩
    obtain ⟨hee, vs, hread, rfl, rfl⟩ := hvs
    refine callsIn_of_wp_marks hf.def_ hf.body trivial (wpIn_mono (hgo none fn.ntmps w.heap.size c _ h e fr1 h' hres Fence.wide ι _ w rfl (frame_rel hv hc) hr (Mk.nil ι w)) ?_)
    rintro ex a' w' ⟨rfl, ι', hs, har, hwr, hmk⟩
    have out : ∀ (l : List Nat) (ds : List Deferred) (w' : World), ds = l.map (fun D => { target := .collected D, args := #[] }) → l.Nodup → (∀ D ∈ l, w.heap.size ≤ D ∧ w'.heap[D]? = some (Obj.deferred (some [])) ∧ ∀ id q, ι' id = some q → q.b ≠ D) → Step h.nx.nat ι w h'.nx.nat ι' w' → WR Y.tab ι' h' w' →
        LeavesInM Fence.wide 0 Y.P fn a'.tmps (Post Y h ι w (retV vs) h') ds .returning w' := by
      intro l
      induction l with
      | nil =>
        intro ds w' hd _ _ hs hwr
        rw [hd]
        obtain ⟨v', h2, h3⟩ := results_rel (fn := fn) har.fr hwr hf.rs hread
        exact ⟨v', h2, ι', v', rfl, hs, h3, hwr⟩
      | cons D l ih =>
        intro ds w' hd hnd hl hs hwr
        rw [hd]
        obtain ⟨d1, d2, d3⟩ := hl D List.mem_cons_self
        refine ⟨by simp, .inl ⟨D, _, rfl, run_takeDeferred d2, ?_⟩⟩
        refine ih _ (w'.putObj D (.deferred none)) rfl (List.nodup_cons.1 hnd).2 (fun E hE => ?_) (hs.put_out d1) (hwr.put_out d3 (by rw [d2]; simp))
        have hne : E ≠ D := fun e => (List.nodup_cons.1 hnd).1 (e ▸ hE)
        obtain ⟨e1, e2, e3⟩ := hl E (List.mem_cons_of_mem _ hE)
        exact ⟨e1, (World.putObj_heap_other hne).trans e2, e3⟩
    obtain ⟨_, l, h2, h3, h4⟩ := hmk
    have := out l a'.defers w' h2 h3 h4 hs hwr
    rcases hee with rfl | rfl <;> exact this
end
end Go.Ev
