/-
  The evaluator, weakest preconditions: how they are worked out, step by step.
  The evaluator, weakest preconditions: memory that grows; slices whose elements take one cell each.
  The evaluator, an example: an iterator over a family of sets (shells.family.all's literal, function 91 of the seat of d3d68b0): what it does for any body.
  The evaluator, an example: the iterator over a set's corners (shells.cornersOf's literal, function 92 of the seat of d3d68b0): what it does for any body.
  The evaluator, weakest preconditions: loops over functions; parts of slices; arrays.
  The evaluator, weakest preconditions: statements whose order is open.
  The evaluator, weakest preconditions: a call with a slice that came in.
  The evaluator: what is proved of a function of numbers whose result is a new slice of numbers.
  A slice of numbers that comes in, and reads behind the call as it read before.
  The evaluator, weakest preconditions: more on slices.
  Slices that are only read; calls with several slices that came in and may overlap.
  The evaluator, weakest preconditions: more that stays; memory of which a few blocks differ; pairs.
  Slices of pairs that come in, and read behind the call as they read before.
  Slices of pairs: those that came in, those that are only read.
  The evaluator, weakest preconditions: what follows may be weakened.
  The evaluator, weakest preconditions: a store into a slice of pairs; slices of slices of pairs.
  Slices of slices that come in: of pairs, of numbers.
  Slices of slices of pairs, of numbers: how they are read, and that they read behind the call as before.
  More rules: operations of a drawn statement that are guarded; numbers.
  Rounds: slices that are only read, whichever way they were cut.
  Rounds: names of any numbers.
  Rounds: the schedule that goes round.
  Rounds: schedules with other names.
-/
import Derived.Test.YthememdeglgnpaaPc
import Derived.ProofKit
import Derived.SizedLaws
import Derived.ChangeSlices
namespace Go.Ev
open Go Go.RowKit
section
variable {fs : T EF} {ro : Option K} {Q : Ex → Fr → H → Prop} {R : Fr → H → Prop} {fr : Fr} {h h' : H} {d : Option K} {l : List EOper} {x y z : EO} {v : V} {f : V → H → Prop} {P Q' : Prop}
/-! Code -/
theorem w_skip : W fs ro .skip Q fr h = Q .normal fr h := of_eq_true (eq_self _)
theorem w_reg {ops : List EOper} : W fs ro (.reg ops) Q fr h = X fs ops (Q .normal) fr h := of_eq_true (eq_self _)
theorem w_draw {st : List Stage} : W fs ro (.draw st) Q fr h = XD fs st (Q .normal) fr h := of_eq_true (eq_self _)
theorem w_seq {a b : EC} : W fs ro (.seq a b) Q fr h = W fs ro a (seqK (W fs ro b) Q) fr h := of_eq_true (eq_self _)
def ckB (v : V) : Prop := match v with | .b _ => True | _ => False
def cbB (v : V) : Bool := match v with | .b r => r | _ => false
theorem ckB_b {b : Bool} : ckB (.b b) = True := of_eq_true (eq_self _)
theorem cbB_b {b : Bool} : cbB (.b b) = b := of_eq_true (eq_self _)
theorem w_cond {a b : EC} : W fs ro (.cond x a b) Q fr h = (ckB (ev fr x) ∧ if cbB (ev fr x) = true then W fs ro a Q fr h else W fs ro b Q fr h) := by
  show condP (ev fr x) (W fs ro a Q fr h) (W fs ro b Q fr h) = _
  generalize ev fr x = v
  cases v <;> simp [condP, ckB, cbB]
  rename_i r
  cases r <;> simp
theorem w_block {id : Nat} {c : EC} : W fs ro (.block id c) Q fr h = W fs ro c (atK id Q) fr h := of_eq_true (eq_self _)
theorem w_scope {c : EC} : W fs ro (.scope c) Q fr h = W fs ro c Q fr h := of_eq_true (eq_self _)
theorem w_exit {id : Nat} : W fs ro (.exit id) Q fr h = Q (.exit id) fr h := of_eq_true (eq_self _)
theorem w_ret : W fs ro .ret Q fr h = Q .ret fr h := of_eq_true (eq_self _)
theorem seqK_n {A : (Ex → Fr → H → Prop) → Fr → H → Prop} : seqK A Q .normal fr h = A Q fr h := of_eq_true (eq_self _)
theorem seqK_e {A : (Ex → Fr → H → Prop) → Fr → H → Prop} {i : Nat} : seqK A Q (.exit i) fr h = Q (.exit i) fr h := of_eq_true (eq_self _)
theorem seqK_r {A : (Ex → Fr → H → Prop) → Fr → H → Prop} : seqK A Q .ret fr h = Q .ret fr h := of_eq_true (eq_self _)
theorem atK_n {id : Nat} : atK id Q .normal fr h = Q .normal fr h := of_eq_true (eq_self _)
theorem atK_r {id : Nat} : atK id Q .ret fr h = Q .ret fr h := of_eq_true (eq_self _)
theorem atK_e {id j : Nat} : atK id Q (.exit j) fr h = if j = id then Q .normal fr h else Q (.exit j) fr h := by
  show ((j = id → Q .normal fr h) ∧ (j ≠ id → Q (.exit j) fr h)) = _
  by_cases e : j = id <;> simp [e]
theorem loopK_n {σ : Type} {I : σ → Fr → H → Prop} {μ : σ → Nat} {s : σ} : loopK I μ s Q .normal fr h = ∃ s', μ s' < μ s ∧ I s' fr h := of_eq_true (eq_self _)
theorem loopK_e {σ : Type} {I : σ → Fr → H → Prop} {μ : σ → Nat} {s : σ} {i : Nat} : loopK I μ s Q (.exit i) fr h = Q (.exit i) fr h := of_eq_true (eq_self _)
theorem loopK_r {σ : Type} {I : σ → Fr → H → Prop} {μ : σ → Nat} {s : σ} : loopK I μ s Q .ret fr h = Q .ret fr h := of_eq_true (eq_self _)
theorem retK_n {ef : EF} : retK ef f .normal fr h = ∃ vs, readRs fr h ef.rs = some vs ∧ f (retV vs) h := of_eq_true (eq_self _)
theorem retK_r {ef : EF} : retK ef f .ret fr h = ∃ vs, readRs fr h ef.rs = some vs ∧ f (retV vs) h := of_eq_true (eq_self _)
/-! Operations -/
theorem x_nil : X fs [] R fr h = R fr h := of_eq_true (eq_self _)
theorem gp_t : GP (some true) P Q' = P := by simp [GP]
theorem x_g0 {k : K} {b : Bool} {op : EOp} : X fs (⟨d, some (k, b), op⟩ :: l) R fr h = GP (guardV (getV (fr.get k)) b) (X fs (⟨d, none, op⟩ :: l) R fr h) (X fs l R (putD fr d undefV) h) := by
  show GP (oGet (some (k, b)) (some true) fun p => guardV (getV (fr.get p.1)) p.2) _ _ = _
  show _ = GP (guardV (getV (fr.get k)) b) (GP (some true) _ _) _
  rw [gp_t]; rfl
def okG (v : V) : Prop := match v with | .b _ => True | .tup _ => True | _ => False
def asG (v : V) (w : Bool) : Bool := match v with | .b r => (if w then r else !r) | _ => false
theorem okG_b {b : Bool} : okG (.b b) = True := of_eq_true (eq_self _)
theorem okG_u : okG undefV = True := of_eq_true (eq_self _)
theorem asG_t {b : Bool} : asG (.b b) true = b := of_eq_true (eq_self _)
theorem asG_f {b : Bool} : asG (.b b) false = !b := of_eq_true (eq_self _)
theorem asG_u {w : Bool} : asG undefV w = false := of_eq_true (eq_self _)
theorem gp_as {v : V} {w : Bool} : GP (guardV v w) P Q' = (okG v ∧ if asG v w = true then P else Q') := by
  cases v <;> simp [GP, guardV, okG, asG]
  rename_i r
  cases r <;> cases w <;> simp
theorem x_g {k : K} {b : Bool} {op : EOp} : X fs (⟨d, some (k, b), op⟩ :: l) R fr h = (okG (getV (fr.get k)) ∧ if asG (getV (fr.get k)) b = true then X fs (⟨d, none, op⟩ :: l) R fr h else X fs l R (putD fr d undefV) h) := by
  rw [x_g0, gp_as]
theorem x_mv : X fs (⟨d, none, .mv x⟩ :: l) R fr h = X fs l R (putD fr d (ev fr x)) h := by show GP (some true) _ _ = _; rw [gp_t]; rfl
theorem x_as : X fs (⟨d, none, .as x⟩ :: l) R fr h = X fs l R (putD fr d (ev fr x)) h := by show GP (some true) _ _ = _; rw [gp_t]; rfl
theorem x_pick : X fs (⟨d, none, .pick x y z⟩ :: l) R fr h = rvP (pickV (ev fr x) (ev fr y) (ev fr z) h) (kX fs l R fr d) := by show GP (some true) _ _ = _; rw [gp_t]; rfl
theorem x_alloc {n : Nat} {zs : List V} : X fs (⟨d, none, .alloc n zs⟩ :: l) R fr h = X fs l R (putD fr d (.p h.nx 0)) (h.new (.cells n zs)) := by show GP (some true) _ _ = _; rw [gp_t]; rfl
theorem x_box {n : Nat} : X fs (⟨d, none, .box n x⟩ :: l) R fr h = rvP (oGet (cellsN n (ev fr x)) .no fun cs => .ok (.p h.nx 0) (h.new (.cells n cs))) (kX fs l R fr d) := by show GP (some true) _ _ = _; rw [gp_t]; rfl
theorem x_build {zs : List V} {ps : List (Nat × Nat × EO)} : X fs (⟨d, none, .build zs ps⟩ :: l) R fr h = rvP (oGet (fillE fr zs ps) .no fun cs => .ok (.agg cs) h) (kX fs l R fr d) := by show GP (some true) _ _ = _; rw [gp_t]; rfl
theorem x_bslice {n sz : Nat} {zs : List V} {ps : List (Nat × Nat × EO)} : X fs (⟨d, none, .bslice n sz zs ps⟩ :: l) R fr h = rvP (oGet (fillE fr zs ps) .no fun cs => .ok (.sl h.nx 0 n sz) (h.new (.cells (n * sz) cs))) (kX fs l R fr d) := by show GP (some true) _ _ = _; rw [gp_t]; rfl
theorem x_ld : X fs (⟨d, none, .ld x⟩ :: l) R fr h = rvP (loadV h (ev fr x) one?) (kX fs l R fr d) := by show GP (some true) _ _ = _; rw [gp_t]; rfl
theorem x_ldn {n : Nat} : X fs (⟨d, none, .ldn n x⟩ :: l) R fr h = rvP (loadV h (ev fr x) (many? n)) (kX fs l R fr d) := by show GP (some true) _ _ = _; rw [gp_t]; rfl
theorem x_st {n : Nat} : X fs (⟨d, none, .st n x y⟩ :: l) R fr h = rvP (storeV h n (ev fr x) (ev fr y)) (kX fs l R fr d) := by show GP (some true) _ _ = _; rw [gp_t]; rfl
theorem x_bin {op : BinOp} : X fs (⟨d, none, .bin op x y⟩ :: l) R fr h = rvP (okv (binV op (ev fr x) (ev fr y)) h) (kX fs l R fr d) := by show GP (some true) _ _ = _; rw [gp_t]; rfl
theorem x_eqk {kd : KD} {b : Bool} : X fs (⟨d, none, .eqk kd b x y⟩ :: l) R fr h = rvP (okv (oGet (keyEq kd (ev fr x) (ev fr y)) none fun r => some (.b (bif b then !r else r))) h) (kX fs l R fr d) := by show GP (some true) _ _ = _; rw [gp_t]; rfl
theorem x_not : X fs (⟨d, none, .not x⟩ :: l) R fr h = rvP ((ev fr x).onB .no fun b => .ok (.b (!b)) h) (kX fs l R fr d) := by show GP (some true) _ _ = _; rw [gp_t]; rfl
theorem x_conv {k : IntKind} : X fs (⟨d, none, .conv k x⟩ :: l) R fr h = rvP ((ev fr x).onI .no fun _ n => .ok (.i k (fw k n)) h) (kX fs l R fr d) := by show GP (some true) _ _ = _; rw [gp_t]; rfl
theorem x_mkfn {k : K} {cs : List EO} : X fs (⟨d, none, .mkfn k cs⟩ :: l) R fr h = X fs l R (putD fr d (.fn k (evs fr cs))) h := by show GP (some true) _ _ = _; rw [gp_t]; rfl
theorem x_mks {sz : Nat} {zs : List V} : X fs (⟨d, none, .mkslice sz zs x⟩ :: l) R fr h = rvP (mksV sz zs h (ev fr x)) (kX fs l R fr d) := by show GP (some true) _ _ = _; rw [gp_t]; rfl
theorem x_slice {sz : Nat} {lo hi mx : Option EO} : X fs (⟨d, none, .slice sz x lo hi mx⟩ :: l) R fr h = rvP (sliceV fr sz (ev fr x) lo hi mx h) (kX fs l R fr d) := by show GP (some true) _ _ = _; rw [gp_t]; rfl
theorem x_iadr {n sz : Nat} : X fs (⟨d, none, .iadr n sz x y⟩ :: l) R fr h = rvP ((ev fr x).onP fun id off => idxV (ev fr y) n fun m => .ok (.p id (off + m * sz)) h) (kX fs l R fr d) := by show GP (some true) _ _ = _; rw [gp_t]; rfl
noncomputable def iadsV (sz : Nat) (x y : V) (h : H) : RV := x.onSl .no .no fun id off len sz' => bif Nat.beq sz sz' then idxV y len fun n => .ok (.p id (off + n * sz)) h else .no
theorem x_iads {sz : Nat} : X fs (⟨d, none, .iads sz x y⟩ :: l) R fr h = rvP (iadsV sz (ev fr x) (ev fr y) h) (kX fs l R fr d) := by show GP (some true) _ _ = _; rw [gp_t]; rfl
theorem x_ext {i : Nat} : X fs (⟨d, none, .ext x i⟩ :: l) R fr h = rvP ((ev fr x).onTup fun l => okv (nth l i) h) (kX fs l R fr d) := by show GP (some true) _ _ = _; rw [gp_t]; rfl
theorem x_call {args : List EO} : X fs (⟨d, none, .call x args⟩ :: l) R fr h = CallP fs (ev fr x) (evs fr args) h (kX fs l R fr d) := by show GP (some true) _ _ = _; rw [gp_t]; rfl
theorem x_len : X fs (⟨d, none, .len x⟩ :: l) R fr h = rvP (lenV (ev fr x) h) (kX fs l R fr d) := by show GP (some true) _ _ = _; rw [gp_t]; rfl
theorem x_isnil {b : Bool} : X fs (⟨d, none, .isnil b x⟩ :: l) R fr h = rvP (isnilV b (ev fr x) h) (kX fs l R fr d) := by show GP (some true) _ _ = _; rw [gp_t]; rfl
noncomputable def nnV (v : V) (h : H) : RV := v.onNN fun v => .ok v h
theorem nn_p {id : K} {off : Nat} : nnV (.p id off) h = .ok (.p id off) h := of_eq_true (eq_self _)
theorem x_pr {p : PK} : X fs (⟨d, none, .pr p x y⟩ :: l) R fr h = rvP (okv (prV p (ev fr x) (ev fr y)) h) (kX fs l R fr d) := by show GP (some true) _ _ = _; rw [gp_t]; rfl
theorem x_appZ {sz : Nat} {zs : List V} : X fs (⟨d, none, .appZ sz zs x y⟩ :: l) R fr h = rvP (appZV sz zs h (ev fr x) (ev fr y)) (kX fs l R fr d) := by show GP (some true) _ _ = _; rw [gp_t]; rfl
theorem x_app {sz : Nat} : X fs (⟨d, none, .app sz x y⟩ :: l) R fr h = rvP (appV sz h (ev fr x) (ev fr y)) (kX fs l R fr d) := by show GP (some true) _ _ = _; rw [gp_t]; rfl
theorem x_min : X fs (⟨d, none, .min x y⟩ :: l) R fr h = rvP (minV (ev fr x) (ev fr y) h) (kX fs l R fr d) := by show GP (some true) _ _ = _; rw [gp_t]; rfl
theorem x_max : X fs (⟨d, none, .max x y⟩ :: l) R fr h = rvP (maxV (ev fr x) (ev fr y) h) (kX fs l R fr d) := by show GP (some true) _ _ = _; rw [gp_t]; rfl
theorem kx : kX fs l R fr d v h = X fs l R (putD fr d v) h := of_eq_true (eq_self _)
theorem rvP_ok : rvP (.ok v h) f = f v h := of_eq_true (eq_self _)
theorem okv_some : okv (some v) h = .ok v h := of_eq_true (eq_self _)
/-! Values -/
theorem ev_t {k : K} : ev fr (.t k) = getV (fr.get k) := of_eq_true (eq_self _)
theorem ev_c : ev fr (.c v) = v := of_eq_true (eq_self _)
theorem evs_nil : evs fr [] = [] := of_eq_true (eq_self _)
theorem evs_cons {as : List EO} : evs fr (x :: as) = ev fr x :: evs fr as := of_eq_true (eq_self _)
theorem getV_some : getV (some v) = v := of_eq_true (eq_self _)
theorem putD_some {k : K} : putD fr (some k) v = fr.set k v := of_eq_true (eq_self _)
theorem putD_none : putD fr none v = fr := of_eq_true (eq_self _)
variable {k k' : IntKind} {a b : Int} {r s : Bool} {id id' : K} {off n m sz : Nat}
theorem bin_add : binV .add (.i k a) (.i k b) = some (.i k (fw k (a + b))) := by cases k <;> (show some (V.i _ (fw _ (iadd a b))) = _; rw [iadd_eq])
theorem bin_sub : binV .sub (.i k a) (.i k b) = some (.i k (fw k (a - b))) := by cases k <;> (show some (V.i _ (fw _ (isub a b))) = _; rw [isub_eq])
theorem bin_mul : binV .mul (.i k a) (.i k b) = some (.i k (fw k (a * b))) := by cases k <;> (show some (V.i _ (fw _ (imul a b))) = _; rw [imul_eq])
theorem bin_eql : binV .eql (.i k a) (.i k b) = some (.b (decide (a = b))) := by
  have : binV .eql (.i k a) (.i k b) = some (.b (ieq a b)) := by cases k <;> rfl
  rw [this, ieq_eq]; congr 2
theorem bin_neq : binV .neq (.i k a) (.i k b) = some (.b (decide (a ≠ b))) := by
  have : binV .neq (.i k a) (.i k b) = some (.b (!ieq a b)) := by cases k <;> rfl
  rw [this, ieq_eq]; by_cases h : a = b <;> simp [h]
theorem bin_lss : binV .lss (.i k a) (.i k b) = some (.b (decide (a < b))) := by
  have : binV .lss (.i k a) (.i k b) = some (.b (ilt a b)) := by cases k <;> rfl
  rw [this, ilt_eq]
theorem bin_leq : binV .leq (.i k a) (.i k b) = some (.b (decide (a ≤ b))) := by
  have : binV .leq (.i k a) (.i k b) = some (.b (ile a b)) := by cases k <;> rfl
  rw [this, ile_eq]
theorem bin_gtr : binV .gtr (.i k a) (.i k b) = some (.b (decide (b < a))) := by
  have : binV .gtr (.i k a) (.i k b) = some (.b (ilt b a)) := by cases k <;> rfl
  rw [this, ilt_eq]
theorem bin_geq : binV .geq (.i k a) (.i k b) = some (.b (decide (b ≤ a))) := by
  have : binV .geq (.i k a) (.i k b) = some (.b (ile b a)) := by cases k <;> rfl
  rw [this, ile_eq]
theorem bin_rem (hb : b ≠ 0) : binV .rem (.i k a) (.i k b) = some (.i k (a.tmod b)) := by
  have : binV .rem (.i k a) (.i k b) = irem k a b := by cases k <;> rfl
  rw [this]; unfold irem; rw [ieq_eq, show (b == 0) = false by simpa using hb]; rfl
theorem bin_quo (hb : b ≠ 0) : binV .quo (.i k a) (.i k b) = some (.i k (fw k (a.tdiv b))) := by
  have : binV .quo (.i k a) (.i k b) = iquo k a b := by cases k <;> rfl
  rw [this]; unfold iquo; rw [ieq_eq, show (b == 0) = false by simpa using hb]; rfl
theorem bin_shl (hb : 0 ≤ b) : binV .shl (.i k a) (.i k' b) = some (.i k (fw k (a * 2 ^ (min b.toNat k.bits)))) := by
  obtain ⟨n, rfl⟩ := Int.eq_ofNat_of_zero_le hb
  have : binV .shl (.i k a) (.i k' (n : Int)) = some (shlV k a n) := by cases k <;> rfl
  rw [this]; unfold shlV; rw [imul_eq]; simp
theorem bin_shr {m n : Nat} : binV .shr (.i k (m : Int)) (.i k' (n : Int)) = some (.i k ((m / 2 ^ (min n k.bits) : Nat) : Int)) := by
  have : binV .shr (.i k (m : Int)) (.i k' (n : Int)) = some (shrV k (m : Int) n) := by cases k <;> rfl
  rw [this]; rfl
theorem ibits_nat {ff : Nat → Nat → Nat} {g : (w : Nat) → BitVec w → BitVec w → BitVec w} {m n : Nat} (hm : m ≤ kmax k) (hn : n ≤ kmax k) : ibits ff g k (m : Int) (n : Int) = ((ff m n : Nat) : Int) := by
  show (bif Nat.ble m (kmax k) && Nat.ble n (kmax k) then Int.ofNat (ff m n) else slowBits g k m n) = _
  rw [Nat.ble_eq_true_of_le hm, Nat.ble_eq_true_of_le hn]; rfl
theorem bin_and {m n : Nat} (hm : m ≤ kmax k) (hn : n ≤ kmax k) : binV .and (.i k (m : Int)) (.i k (n : Int)) = some (.i k ((m &&& n : Nat) : Int)) := by
  have : binV .and (.i k (m : Int)) (.i k (n : Int)) = some (.i k (ibits Nat.land (fun _ x y => x &&& y) k m n)) := by cases k <;> rfl
  rw [this, ibits_nat hm hn]; rfl
theorem bin_or {m n : Nat} (hm : m ≤ kmax k) (hn : n ≤ kmax k) : binV .or (.i k (m : Int)) (.i k (n : Int)) = some (.i k ((m ||| n : Nat) : Int)) := by
  have : binV .or (.i k (m : Int)) (.i k (n : Int)) = some (.i k (ibits Nat.lor (fun _ x y => x ||| y) k m n)) := by cases k <;> rfl
  rw [this, ibits_nat hm hn]; rfl
theorem fw_in (h1 : -(kmin k : Int) ≤ a) (h2 : a ≤ kmax k) : fw k a = a := by
  cases a with
  | ofNat m =>
    show (bif Nat.ble m (kmax k) then Int.ofNat m else k.wrap (.ofNat m)) = _
    rw [Nat.ble_eq_true_of_le (show m ≤ kmax k by have : Int.ofNat m = (m : Int) := rfl; omega)]; rfl
  | negSucc m =>
    show (bif Nat.blt m (kmin k) then Int.negSucc m else k.wrap (.negSucc m)) = _
    have : Nat.blt m (kmin k) = true := Nat.ble_eq_true_of_le (by have : Int.negSucc m = -((m : Int) + 1) := rfl; show m + 1 ≤ kmin k; omega)
    rw [this]; rfl
theorem fw64 (h1 : -9223372036854775808 ≤ a) (h2 : a ≤ 9223372036854775807) : fw .i64 a = a := fw_in (k := .i64) h1 h2
theorem fwu64 (h1 : 0 ≤ a) (h2 : a ≤ 18446744073709551615) : fw .u64 a = a := fw_in (k := .u64) (by simpa [kmin] using h1) h2
theorem pick_b {u : V} : pickV (.b r) v u h = .ok (if r = true then v else u) h := by cases r <;> rfl
theorem onB_b {α : Type} {dd : α} {ff : Bool → α} : (V.b r).onB dd ff = ff r := of_eq_true (eq_self _)
theorem onI_i {α : Type} {dd : α} {ff : IntKind → Int → α} : (V.i k a).onI dd ff = ff k a := of_eq_true (eq_self _)
theorem onTup_t {vs : List V} {ff : List V → RV} : (V.tup vs).onTup ff = ff vs := of_eq_true (eq_self _)
theorem onP_p {ff : K → Nat → RV} : (V.p id off).onP ff = ff id off := of_eq_true (eq_self _)
theorem oGet_s {α β : Type} {u : α} {dd : β} {ff : α → β} : oGet (some u) dd ff = ff u := of_eq_true (eq_self _)
theorem nth0 {α : Type} {u : α} {us : List α} : nth (u :: us) 0 = some u := of_eq_true (eq_self _)
theorem nth1 {α : Type} {u u1 : α} {us : List α} : nth (u :: u1 :: us) 1 = some u1 := of_eq_true (eq_self _)
theorem nth2 {α : Type} {u u1 u2 : α} {us : List α} : nth (u :: u1 :: u2 :: us) 2 = some u2 := of_eq_true (eq_self _)
theorem isnil_sl {b : Bool} : isnilV b (.sl id off n sz) h = .ok (.b b) h := of_eq_true (eq_self _)
theorem isnil_sn {b : Bool} : isnilV b .sn h = .ok (.b (!b)) h := of_eq_true (eq_self _)
theorem len_sn : lenV .sn h = .ok (.i .i64 0) h := of_eq_true (eq_self _)
theorem idx_n {ff : Nat → RV} (hm : m < n) : idxV (.i k (m : Int)) n ff = ff m := by
  show (bif Nat.blt m n then ff m else RV.no) = _
  rw [show Nat.blt m n = true from Nat.ble_eq_true_of_le hm]; rfl
theorem iads_sl {y : V} : iadsV sz (.sl id off n sz) y h = idxV y n fun m => .ok (.p id (off + m * sz)) h := by
  show (bif Nat.beq sz sz then _ else _) = _
  rw [Nat.beq_refl]; rfl
theorem load_p {cs : List V} (hb : h.get id = .cells m cs) (hc : nth cs off = some v) : loadV h (.p id off) one? = .ok v h := by
  show okv ((h.get id).onC none fun n cs => one? cs n off) h = _
  rw [hb]; show okv (nth cs off) h = _; rw [hc]; rfl
theorem loadn_p {cs : List V} (hb : h.get id = .cells m cs) (hm : off + n ≤ m) : loadV h (.p id off) (many? n) = .ok (.agg (takeN n (dropN off cs))) h := by
  show okv ((h.get id).onC none fun m cs => many? n cs m off) h = _
  rw [hb]; show okv (bif Nat.ble (off + n) m then some (.agg (takeN n (dropN off cs))) else none) h = _
  rw [Nat.ble_eq_true_of_le hm]; rfl
theorem store_p {cs xs : List V} (hb : h.get id = .cells m cs) (hx : cellsN n v = some xs) (hm : off + n ≤ m) : storeV h n (.p id off) v = .ok undefV (h.put id (.cells m (setMany cs off xs))) := by
  show (h.get id).onW RV.no (fun m cs => oGet (cellsN n v) RV.no fun xs => bif Nat.ble (off + n) m then RV.ok undefV (h.put id (.cells m (setMany cs off xs))) else RV.no) = _
  rw [hb, hx]
  show (bif Nat.ble (off + n) m then RV.ok undefV (h.put id (.cells m (setMany cs off xs))) else RV.no) = _
  rw [Nat.ble_eq_true_of_le hm]; rfl
theorem min_ii : minV (.i k a) (.i k' b) h = .ok (.i k (min a b)) h := by
  show RV.ok (V.i k (bif ilt b a then b else a)) h = _
  rw [ilt_eq]; by_cases e : b < a <;> simp [e, Int.min_def] <;> omega
theorem max_ii : maxV (.i k a) (.i k' b) h = .ok (.i k (max a b)) h := by
  show RV.ok (V.i k (bif ilt a b then b else a)) h = _
  rw [ilt_eq]; by_cases e : a < b <;> simp [e, Int.max_def] <;> omega
theorem readRs_nil : readRs fr h [] = some [] := of_eq_true (eq_self _)
theorem readRs_t {kk : K} {rs : List ER} : readRs fr h (.tmp kk :: rs) = oGet (readRs fr h rs) none fun l => some (getV (fr.get kk) :: l) := of_eq_true (eq_self _)
theorem readRs_c {kk : K} {rs : List ER} : readRs fr h (.cell kk :: rs) = oGet (readP h (getV (fr.get kk)) one?) none fun v => oGet (readRs fr h rs) none fun l => some (v :: l) := of_eq_true (eq_self _)
theorem readRs_n {kk : K} {n : Nat} {rs : List ER} : readRs fr h (.celln kk n :: rs) = oGet (readP h (getV (fr.get kk)) (many? n)) none fun v => oGet (readRs fr h rs) none fun l => some (v :: l) := of_eq_true (eq_self _)
theorem retV_1 : retV [v] = v := of_eq_true (eq_self _)
theorem retV_0 : retV [] = .tup [] := of_eq_true (eq_self _)
theorem retV_2 {v1 v2 : V} {vs : List V} : retV (v1 :: v2 :: vs) = .tup (v1 :: v2 :: vs) := of_eq_true (eq_self _)
theorem getK_set {kk kk' : Nat} {t : Fr} : T.get (K.ofNat kk) (T.set (K.ofNat kk') v t) = if kk = kk' then some v else T.get (K.ofNat kk) t := by
  rw [T.get_set]
  by_cases e : kk = kk'
  · rw [if_pos e, if_pos (by rw [e])]
  · rw [if_neg e, if_neg (fun h => e (by rw [← K.ofNat_nat kk, h, K.ofNat_nat]))]
theorem frame_1 {v1 : V} : frame .e [v1] .nil = T.set (K.ofNat 0) v1 .nil := of_eq_true (eq_self _)
theorem frame_2 {v1 v2 : V} : frame .e [v1, v2] .nil = T.set (K.ofNat 1) v2 (T.set (K.ofNat 0) v1 .nil) := of_eq_true (eq_self _)
theorem frame_3 {v1 v2 v3 : V} : frame .e [v1, v2, v3] .nil = T.set (K.ofNat 2) v3 (T.set (K.ofNat 1) v2 (T.set (K.ofNat 0) v1 .nil)) := of_eq_true (eq_self _)
theorem frame_4 {v1 v2 v3 v4 : V} : frame .e [v1, v2, v3, v4] .nil = T.set (K.ofNat 3) v4 (T.set (K.ofNat 2) v3 (T.set (K.ofNat 1) v2 (T.set (K.ofNat 0) v1 .nil))) := of_eq_true (eq_self _)
theorem cells1_i : cellsN 1 (.i k a) = some [.i k a] := of_eq_true (eq_self _)
end
end Go.Ev
namespace Go.Ev
open Go Go.RowKit

/-! ### Memory that grows -/
/-- Nothing lies beyond the names that were given. -/
def HC (h : H) : Prop := ∀ id : K, h.nx.nat ≤ id.nat → h.get id = .dead
/-- What has a name below b stays. -/
structure Grow (b : Nat) (h h' : H) : Prop where
  nx : h.nx.nat ≤ h'.nx.nat
  old : ∀ id : K, id.nat < b → h'.get id = h.get id
  hc : HC h → HC h'
theorem Grow.refl (b : Nat) (h : H) : Grow b h h := ⟨Nat.le_refl _, fun _ _ => rfl, fun h => h⟩
theorem Grow.trans {b : Nat} {h h1 h2 : H} (k : Grow b h h1) (l : Grow b h1 h2) : Grow b h h2 := ⟨Nat.le_trans k.nx l.nx, fun id hi => (l.old id hi).trans (k.old id hi), fun hc => l.hc (k.hc hc)⟩
theorem Grow.low {b c : Nat} {h h1 : H} (hb : b ≤ c) (k : Grow c h h1) : Grow b h h1 := ⟨k.nx, fun id hi => k.old id (Nat.lt_of_lt_of_le hi hb), k.hc⟩
theorem nx_new (h : H) (x : Blk) : (h.new x).nx.nat = h.nx.nat + 1 := K.succ_nat _
theorem nx_put (h : H) (k : K) (x : Blk) : (h.put k x).nx = h.nx := rfl
theorem Grow.new {b : Nat} {h : H} (hb : b ≤ h.nx.nat) (x : Blk) : Grow b h (h.new x) := by
  refine ⟨by rw [nx_new]; omega, fun id hi => ?_, fun hc id hi => ?_⟩
  · rw [H.get_new, if_neg (fun e => by rw [e] at hi; omega)]
  · rw [nx_new] at hi
    rw [H.get_new, if_neg (fun e => by rw [e] at hi; omega)]
    exact hc id (by omega)
theorem Grow.put {b : Nat} {h : H} {k : K} (hb : b ≤ k.nat) (hk : k.nat < h.nx.nat) (x : Blk) : Grow b h (h.put k x) := by
  refine ⟨Nat.le_refl _, fun id hi => ?_, fun hc id hi => ?_⟩
  · rw [H.get_put, if_neg (fun e => by rw [e] at hi; omega)]
  · rw [nx_put] at hi
    rw [H.get_put, if_neg (fun e => by rw [e] at hi; omega)]
    exact hc id hi
theorem HC.lt {h : H} (hc : HC h) {id : K} (hd : h.get id ≠ .dead) : id.nat < h.nx.nat := by
  rcases Nat.lt_or_ge id.nat h.nx.nat with e | e
  · exact e
  · exact absurd (hc id e) hd
theorem HC.cells {h : H} (hc : HC h) {id : K} {m : Nat} {cs : List V} (hd : h.get id = .cells m cs) : id.nat < h.nx.nat := hc.lt (by rw [hd]; simp)
theorem HC.dead {h : H} (hc : HC h) : (h.get h.nx).isDead = true := by rw [hc h.nx (Nat.le_refl _)]; rfl
theorem get_new_same {h : H} {x : Blk} : (h.new x).get h.nx = x := by rw [H.get_new, if_pos rfl]
theorem get_new_old {h : H} {x : Blk} {id : K} (hi : id.nat < h.nx.nat) : (h.new x).get id = h.get id := by rw [H.get_new, if_neg (fun e => by rw [e] at hi; omega)]
theorem get_put_same {h : H} {x : Blk} {id : K} : (h.put id x).get id = x := by rw [H.get_put, if_pos rfl]
theorem get_put_other {h : H} {x : Blk} {id id' : K} (hi : id' ≠ id) : (h.put id x).get id' = h.get id' := by rw [H.get_put, if_neg hi]

/-! ### Slices -/
def Sl {α : Type} (e : α → V) (h : H) (v : V) (L : List α) : Prop := (v = .sn ∧ L = []) ∨ ∃ id off m cs, v = .sl id off L.length 1 ∧ h.get id = .cells m cs ∧ cs.length = m ∧ off + L.length ≤ m ∧ ∀ i (hi : i < L.length), cs[off + i]? = some (e L[i])
/-- The slice was made since. -/
def Own (b : Nat) (v : V) : Prop := ∀ id off n sz, v = .sl id off n sz → b ≤ id.nat
/-- The slice is no part of that block. -/
def NotIn (id : K) (v : V) : Prop := ∀ off n sz, v ≠ .sl id off n sz
noncomputable def iE (n : Int) : V := .i .i64 n
section
variable {α : Type} {e : α → V} {h h' : H} {v u : V} {L M : List α} {b : Nat}
theorem Sl.nil : Sl e h .sn ([] : List α) := .inl ⟨rfl, rfl⟩
theorem Own.sn : Own b .sn := fun _ _ _ _ h => by cases h
theorem NotIn.sn {id : K} : NotIn id .sn := fun _ _ _ h => by cases h
theorem Own.low {c : Nat} (ho : Own c v) (hb : b ≤ c) : Own b v := fun id off n sz e => Nat.le_trans hb (ho id off n sz e)
theorem Sl.len (hs : Sl e h v L) (h1 : H) : lenV v h1 = .ok (.i .i64 (L.length : Int)) h1 := by
  rcases hs with ⟨rfl, rfl⟩ | ⟨id, off, m, cs, rfl, _⟩ <;> rfl
theorem Sl.at (hs : Sl e h v L) (i : Nat) (hi : i < L.length) : ∃ p, (∀ k h1, iadsV 1 v (.i k (i : Int)) h1 = .ok p h1) ∧ loadV h p one? = .ok (e L[i]) h := by
  rcases hs with ⟨rfl, rfl⟩ | ⟨id, off, m, cs, rfl, hb, hl, hm, hx⟩
  · simp at hi
  · refine ⟨.p id (off + i * 1), fun k h1 => ?_, ?_⟩
    · rw [iads_sl, idx_n hi]
    · exact load_p hb (by rw [nth_eq, Nat.mul_one]; exact hx i hi)
theorem Sl.same (hs : Sl e h v L) (hg : ∀ id off n sz, v = .sl id off n sz → h'.get id = h.get id) : Sl e h' v L := by
  rcases hs with ⟨rfl, rfl⟩ | ⟨id, off, m, cs, rfl, hb, hl, hm, hx⟩
  · exact .inl ⟨rfl, rfl⟩
  · exact .inr ⟨id, off, m, cs, rfl, by rw [hg _ _ _ _ rfl]; exact hb, hl, hm, hx⟩
theorem Sl.lt (hs : Sl e h v L) (hc : HC h) : ∀ id off n sz, v = .sl id off n sz → id.nat < h.nx.nat := by
  rcases hs with ⟨rfl, rfl⟩ | ⟨id, off, m, cs, rfl, hb, hl, hm, hx⟩
  · exact fun _ _ _ _ h => by cases h
  · exact fun _ _ _ _ h => by cases h; exact hc.cells hb
/-- What was there when the call began is there. -/
theorem Sl.grow (hs : Sl e h v L) (hc : HC h) (hg : Grow h.nx.nat h h') : Sl e h' v L := hs.same fun id off n sz ev => hg.old id (hs.lt hc id off n sz ev)
theorem Sl.new (hs : Sl e h v L) (hc : HC h) (x : Blk) : Sl e (h.new x) v L := hs.grow hc (Grow.new (Nat.le_refl _) x)
theorem Sl.put (hs : Sl e h v L) {id : K} (hn : NotIn id v) (x : Blk) : Sl e (h.put id x) v L := hs.same fun id' off n sz ev => get_put_other (fun ee => hn off n sz (by rw [ev, ee]))
theorem Sl.addOf (hs : Sl e h v L) : addOf 1 h v = some (L.length, L.map e) := by
  rcases hs with ⟨rfl, rfl⟩ | ⟨id, off, m, cs, rfl, hb, hl, hm, hx⟩
  · rfl
  · show (h.get id).onC none (fun len cs => bif Nat.beq 1 1 && Nat.ble (off + L.length * 1) len then some (L.length, takeN (L.length * 1) (dropN off cs)) else none) = _
    rw [hb]
    show (bif Nat.beq 1 1 && Nat.ble (off + L.length * 1) m then some (L.length, takeN (L.length * 1) (dropN off cs)) else none) = _
    rw [show (Nat.beq 1 1 && Nat.ble (off + L.length * 1) m) = true by rw [Nat.beq_refl, Nat.ble_eq_true_of_le (by omega)]; rfl]
    show some (L.length, takeN (L.length * 1) (dropN off cs)) = _
    congr 2
    rw [takeN_eq, dropN_eq, Nat.mul_one]
    apply List.ext_getElem?
    intro i
    by_cases hi : i < L.length
    · rw [List.getElem?_take, if_pos hi, List.getElem?_drop, hx i hi]; simp [hi]
    · rw [List.getElem?_eq_none (by simp; omega), List.getElem?_eq_none (by simp; omega)]
/-- What appending does. -/
theorem Sl.appA (hs : Sl e h v L) (ho : Own b v) (hb : b ≤ h.nx.nat) (hu : Go.Ev.addOf 1 h u = some (M.length, M.map e)) (hc : HC h) (hn : L.length + M.length ≤ 16777216) :
    ∃ v' h', appV 1 h v u = .ok v' h' ∧ Sl e h' v' (L ++ M) ∧ Own b v' ∧ Grow b h h' ∧ ∀ id : K, id.nat < h.nx.nat → NotIn id v → h'.get id = h.get id ∧ NotIn id v' := by
  have hne : ∀ id : K, id.nat < h.nx.nat → id ≠ h.nx := fun id hi ee => by rw [ee] at hi; omega
  have ht : v.tight = false := by rcases hs with ⟨rfl, _⟩ | ⟨_, _, _, _, rfl, _⟩ <;> rfl
  unfold appV
  rw [hu]
  simp only [oGet, ht, cond_false]
  show ∃ v' h', v.onSl RV.no (bif Nat.ble M.length 16777216 then app0 1 h M.length (M.map e) else .no) (fun id off n sz' => (h.get id).onW .no fun len cs => bif Nat.beq 1 sz' && Nat.ble (off + n * 1) len && Nat.ble (n + M.length) 16777216 then app1 1 h id off n cs M.length (M.map e) else .no) = .ok v' h' ∧ _
  rcases hs with ⟨rfl, rfl⟩ | ⟨id, off, m, cs, rfl, hb', hl, hm, hx⟩
  · show ∃ v' h', (bif Nat.ble M.length 16777216 then app0 1 h M.length (M.map e) else .no) = .ok v' h' ∧ _
    rw [Nat.ble_eq_true_of_le (by simpa using hn)]
    show ∃ v' h', app0 1 h M.length (M.map e) = .ok v' h' ∧ _
    unfold app0
    by_cases hz : M.length = 0
    · have : M = [] := List.length_eq_zero_iff.1 hz
      subst this
      exact ⟨.sn, h, rfl, .inl ⟨rfl, rfl⟩, Own.sn, Grow.refl _ _, fun id hi _ => ⟨rfl, NotIn.sn⟩⟩
    · rw [show Nat.beq M.length 0 = false by rw [← Bool.not_eq_true]; intro h; exact hz (Nat.eq_of_beq_eq_true h)]
      refine ⟨_, _, rfl, .inr ⟨h.nx, 0, M.length * 1, M.map e, rfl, get_new_same, by simp, by simp, fun i hi => ?_⟩, fun _ _ _ _ h => by cases h; exact hb, Grow.new hb _, fun id hi _ => ⟨get_new_old hi, fun _ _ _ h => by cases h; omega⟩⟩
      have hi : i < M.length := by simpa using hi
      simp [hi]
  · show ∃ v' h', (h.get id).onW RV.no (fun len cs => bif Nat.beq 1 1 && Nat.ble (off + L.length * 1) len && Nat.ble (L.length + M.length) 16777216 then app1 1 h id off L.length cs M.length (M.map e) else .no) = .ok v' h' ∧ _
    rw [hb']
    show ∃ v' h', (bif Nat.beq 1 1 && Nat.ble (off + L.length * 1) m && Nat.ble (L.length + M.length) 16777216 then app1 1 h id off L.length cs M.length (M.map e) else .no) = .ok v' h' ∧ _
    rw [show (Nat.beq 1 1 && Nat.ble (off + L.length * 1) m && Nat.ble (L.length + M.length) 16777216) = true by rw [Nat.beq_refl, Nat.ble_eq_true_of_le (show off + L.length * 1 ≤ m by omega), Nat.ble_eq_true_of_le hn]; rfl]
    show ∃ v' h', app1 1 h id off L.length cs M.length (M.map e) = .ok v' h' ∧ _
    unfold app1
    by_cases hz : M.length = 0
    · have : M = [] := List.length_eq_zero_iff.1 hz
      subst this
      refine ⟨_, h, rfl, .inr ⟨id, off, m, cs, by simp, hb', hl, by simpa using hm, fun i hi => ?_⟩, ho, Grow.refl _ _, fun id' hi hni => ⟨rfl, hni⟩⟩
      have hi' : i < L.length := by simpa using hi
      simpa using hx i hi'
    · rw [show Nat.beq M.length 0 = false by rw [← Bool.not_eq_true]; intro h; exact hz (Nat.eq_of_beq_eq_true h)]
      have hid := hc.cells hb'
      refine ⟨_, _, rfl, .inr ⟨h.nx, 0, (L.length + M.length) * 1, cat (takeN (L.length * 1) (dropN off cs)) (M.map e), by simp, get_new_same, ?_, by simp, fun i hi => ?_⟩, fun _ _ _ _ h => by cases h; exact hb, (Grow.put (ho _ _ _ _ rfl) hid _).trans (Grow.new (by exact hb) _), fun id' hi hni => ⟨?_, fun _ _ _ h => by cases h; exact absurd hi (Nat.lt_irrefl _)⟩⟩
      · rw [cat_eq, takeN_eq, dropN_eq]; simp; omega
      · rw [cat_eq, takeN_eq, dropN_eq, Nat.mul_one, Nat.zero_add]
        have hi' : i < L.length + M.length := by simpa using hi
        by_cases h1 : i < L.length
        · rw [List.getElem?_append_left (by simp; omega), List.getElem?_take, if_pos h1, List.getElem?_drop, hx i h1]
          simp [List.getElem_append_left h1]
        · rw [List.getElem?_append_right (by simp; omega)]
          have : (List.take L.length (List.drop off cs)).length = L.length := by simp; omega
          have hi2 : i - L.length < M.length := by omega
          rw [this, List.getElem_append_right (by omega), List.getElem?_map, List.getElem?_eq_getElem hi2]
          rfl
      · show ((h.put id .dead).new _).get id' = _
        rw [H.get_new, if_neg (show id' ≠ (h.put id .dead).nx from hne id' hi), get_put_other (fun ee => hni off L.length 1 (by rw [ee]))]
theorem Sl.app (hs : Sl e h v L) (ho : Own b v) (hb : b ≤ h.nx.nat) (hu : Sl e h u M) (hc : HC h) (hn : L.length + M.length ≤ 16777216) :
    ∃ v' h', appV 1 h v u = .ok v' h' ∧ Sl e h' v' (L ++ M) ∧ Own b v' ∧ Grow b h h' ∧ ∀ id : K, id.nat < h.nx.nat → NotIn id v → h'.get id = h.get id ∧ NotIn id v' := Sl.appA hs ho hb hu.addOf hc hn
theorem Sl.lit {x : α} : Sl e (h.new (.cells (1 * 1) [e x])) (.sl h.nx 0 1 1) [x] := by
  refine .inr ⟨h.nx, 0, 1 * 1, [e x], rfl, get_new_same, rfl, by simp, fun i hi => ?_⟩
  have : i = 0 := by simpa using hi
  subst this; rfl
/-- append(v, x). -/
theorem Sl.push {x : α} {c : V} (hx : c = e x) (hs : Sl e h v L) (ho : Own b v) (hb : b ≤ h.nx.nat) (hc : HC h) (hn : L.length < 16777216) :
    ∃ v' h', appV 1 (h.new (.cells (1 * 1) [c])) v (.sl h.nx 0 1 1) = .ok v' h' ∧ Sl e h' v' (L ++ [x]) ∧ Own b v' ∧ Grow b h h' ∧ ∀ id : K, id.nat < h.nx.nat → NotIn id v → h'.get id = h.get id ∧ NotIn id v' := by
  subst hx
  have hg := Grow.new (b := b) hb (.cells (1 * 1) [e x])
  have hnx := nx_new h (.cells (1 * 1) [e x])
  obtain ⟨v', h', e1, e2, e3, e4, e5⟩ := Sl.app (b := b) (hs.new hc (.cells (1 * 1) [e x])) ho (by omega) (Sl.lit (e := e) (x := x)) (hg.hc hc) (by simp; omega)
  refine ⟨v', h', e1, e2, e3, hg.trans e4, fun id hi hni => ?_⟩
  obtain ⟨e6, e7⟩ := e5 id (by omega) hni
  exact ⟨by rw [e6, get_new_old hi], e7⟩
theorem fill_1 {fr : Fr} {x : EO} {z : V} : fillE fr [z] [(0, 1, x)] = oGet (cellsN 1 (ev fr x)) none (fun cs => some (setMany [z] 0 cs)) := of_eq_true (eq_self _)
theorem set_1 {z c : V} : setMany [z] 0 [c] = [c] := of_eq_true (eq_self _)
theorem of0 : Int.ofNat 0 = 0 := of_eq_true (eq_self _)
theorem of1 : Int.ofNat 1 = 1 := of_eq_true (eq_self _)
theorem of2 : Int.ofNat 2 = 2 := of_eq_true (eq_self _)
theorem of6 : Int.ofNat 6 = 6 := of_eq_true (eq_self _)
theorem of8 : Int.ofNat 8 = 8 := of_eq_true (eq_self _)
theorem of10 : Int.ofNat 10 = 10 := of_eq_true (eq_self _)
end
end Go.Ev
namespace Go.Ev
open Go Go.RowKit
/-- A round gives b. -/
def Round (fs : T EF) (id : K) (v : V) (h : H) (b : Bool) (h' : H) : Prop := ∃ n, callV fs (eval fs n) (.yl id) [v] h = .ok (.b b) h'
section
variable {fs : T EF} {go : Go} {fr : Fr} {h h' : H} {id : K} {i : Nat} {cs : List V} {B : Nat → Bool}
end

/-! ### A round, and a loop over a function -/
section
variable {fs : T EF} {fr fr1 fr2 : Fr} {h h1 h2 h3 : H} {id : K} {ps : List K} {a c : EC} {v : V} {vs : List V} {e : Ex}
/-- What stands of the loop behind a round. -/
def afterR (e : Ex) (fr : Fr) (ps : List K) (a c : EC) : Blk := match e with
  | .normal => .loop .ready none fr ps a c
  | e => .loop .done (some e) fr ps a c
def isNo (e : Ex) : Bool := match e with | .normal => true | _ => false
theorem round_of (hb : h.get id = .loop .ready none fr ps a c) (hl : Nat.beq (lenL [v]) (lenL ps) = true) (ha : Runs fs (some id) a (bindK fr ps [v]) h .normal fr1 h1) (hb1 : h1.get id = .loop .ready none fr ps a c)
    (hc : Runs fs (some id) c fr1 (h1.put id (.loop .busy none fr ps a c)) e fr2 h2) (hb2 : h2.get id = .loop .busy none fr ps a c) : Round fs id v h (isNo e) (h2.put id (afterR e fr ps a c)) := by
  obtain ⟨n, e1⟩ := ha
  obtain ⟨m, e2⟩ := hc
  have e1 := eval_le fs (Nat.le_max_left n m) _ _ _ _ _ _ _ e1
  have e2 := eval_le fs (Nat.le_max_right n m) _ _ _ _ _ _ _ e2
  refine ⟨max n m, ?_⟩
  show (h.get id).onL (fun s _ fr ps a c => roundA (eval fs (max n m)) id [v] h s fr ps a c) = _
  rw [hb]
  show roundA (eval fs (max n m)) id [v] h .ready fr ps a c = _
  unfold roundA
  rw [hl]
  show ((eval fs (max n m) (some id) a (bindK fr ps [v]) h).all fun e fr' h => isN e ((h.get id).onL fun s j fr ps a c' => roundB (eval fs (max n m)) id c fr' h s j fr ps a c')) = _
  rw [e1]
  show (h1.get id).onL (fun s j fr ps a c' => roundB (eval fs (max n m)) id c fr1 h1 s j fr ps a c') = _
  rw [hb1]
  show ((eval fs (max n m) (some id) c fr1 (h1.put id (.loop .busy none fr ps a c))).all fun e _ h => (h.get id).onL fun s _ fr ps a c => isBusy s (endR id e fr ps a c h)) = _
  rw [e2]
  show (h2.get id).onL (fun s _ fr ps a c => isBusy s (endR id e fr ps a c h2)) = _
  rw [hb2]
  cases e <;> rfl
/-- How a loop over a function ends. -/
theorem Runs.range {ro : Option K} {f : EO} {k : K} {caps : List V} {u : V} {s : LS} {j : Option Ex} {ps' : List K} {a' c' : EC} {frl : Fr} (hro : roOk ro h = true) (hf : ev fr f = .fn k caps)
    (hcall : ∃ n, callV fs (eval fs n) (.fn k caps) [.yl h.nx] (h.new (.loop .ready none fr ps a c)) = .ok u h1) (hb : h1.get h.nx = .loop s j frl ps' a' c') (he : (s = .ready ∧ j = none ∧ e = .normal) ∨ (s = .done ∧ j = some e)) :
    Runs fs ro (.rangeF f ps a c) fr h e fr (h1.put h.nx .dead) := by
  obtain ⟨n, hc⟩ := hcall
  refine ⟨n + 1, ?_⟩
  show rangeL fs (eval fs n) ro (ev fr f) ps a c fr h = _
  rw [hf]
  unfold rangeL
  have : (roOk ro h && (V.fn k caps).isF) = true := by rw [hro]; rfl
  rw [this]
  show ((callV fs (eval fs n) (.fn k caps) [.yl h.nx] (h.new (.loop .ready none fr ps a c))).to fun _ h' => (h'.get h.nx).onL' fun s j => endL s j h.nx fr h') = _
  rw [hc]
  show (h1.get h.nx).onL' (fun s j => endL s j h.nx fr h1) = _
  rw [hb]
  rcases he with ⟨rfl, rfl, rfl⟩ | ⟨rfl, rfl⟩ <;> rfl
end

section
variable {fs : T EF} {go : Go} {fr : Fr} {h : H} {id idp : K} {cs : List V} {B : Nat → Bool} {x : EO} {off m n : Nat} {v : V} {k : K}
end
end Go.Ev
namespace Go.Ev
open Go Go.RowKit
section
variable {fs : T EF} {go : Go} {fr : Fr} {h h' : H} {id idp : K} {i : Nat} {S : Int}
end
end Go.Ev
namespace Go.Ev
open Go Go.RowKit
section
variable {fs : T EF}
def rdyB (fr : Fr) (ps : List K) (a c : EC) : Blk := .loop .ready none fr ps a c
def bsyB (fr : Fr) (ps : List K) (a c : EC) : Blk := .loop .busy none fr ps a c
/-- A round's end. -/
def rndK (id : K) (fr : Fr) (ps : List K) (a c : EC) (I : H → Prop) (D : Ex → H → Prop) : Ex → Fr → H → Prop := fun e _ h => h.get id = bsyB fr ps a c ∧ (match e with | .normal => I (h.put id (rdyB fr ps a c)) | e => D e (h.put id .dead))
def rndA (fs : T EF) (id : K) (fr : Fr) (ps : List K) (a c : EC) (I : H → Prop) (D : Ex → H → Prop) : Ex → Fr → H → Prop := fun e fr1 h => e = .normal ∧ h.get id = rdyB fr ps a c ∧ W fs (some id) c (rndK id fr ps a c I D) fr1 (h.put id (bsyB fr ps a c))
section
variable {id : K} {fr fr1 : Fr} {ps : List K} {a c : EC} {I : H → Prop} {D : Ex → H → Prop} {h : H} {i : Nat}
theorem rndA_n : rndA fs id fr ps a c I D .normal fr1 h = (h.get id = rdyB fr ps a c ∧ W fs (some id) c (rndK id fr ps a c I D) fr1 (h.put id (bsyB fr ps a c))) := by
  show (Ex.normal = Ex.normal ∧ _) = _
  rw [eq_self, true_and]
theorem rndK_n : rndK id fr ps a c I D .normal fr1 h = (h.get id = bsyB fr ps a c ∧ I (h.put id (rdyB fr ps a c))) := of_eq_true (eq_self _)
theorem rndK_r : rndK id fr ps a c I D .ret fr1 h = (h.get id = bsyB fr ps a c ∧ D .ret (h.put id .dead)) := of_eq_true (eq_self _)
end
theorem T.set_set {α : Type} (k : K) (x y : α) : ∀ t : T α, T.set k y (T.set k x t) = T.set k y t := by
  induction k with
  | e => intro t; rfl
  | o k ih =>
    intro t
    show T.node (T.set k y (T.set k x t.left)) t.val t.right = T.node (T.set k y t.left) t.val t.right
    rw [ih]
  | z k ih =>
    intro t
    show T.node t.left t.val (T.set k y (T.set k x t.right)) = T.node t.left t.val (T.set k y t.right)
    rw [ih]
theorem H.put_put (h : H) (k : K) (x y : Blk) : (h.put k x).put k y = h.put k y := by
  show (⟨h.nx, T.set k y (T.set k x h.t)⟩ : H) = ⟨h.nx, T.set k y h.t⟩
  rw [T.set_set]
end
section
variable {α : Type} {e : α → V} {fr : Fr} {h : H} {x y : EO} {v : V} {L M : List α} {sz : Nat} {lo hi mx : Option EO}
/-! ### Parts of slices -/
noncomputable def bnd (o : Option V) (d : Nat) : Option Nat := oGet o (some d) fun v => v.onI none fun _ n => nonneg n
noncomputable def sliceB (sz : Nat) (x : V) (lo hi mx : Option V) (h : H) : RV := x.onSl .no
    (oGet (bnd lo 0) .no fun l => oGet (bnd hi 0) .no fun u => oGet (bnd mx 0) .no fun m => bif Nat.beq l 0 && Nat.beq u 0 && Nat.beq m 0 then .ok .sn h else .no)
    fun id off n sz' => bif Nat.beq sz sz' then (oGet (bnd lo 0) .no fun l => oGet (bnd hi n) .no fun u => oGet mx (cutV id off n sz h l u none) fun _ => oGet (bnd mx 0) .no fun m => cutV id off n sz h l u (some m)) else .no
theorem bound_eq (o : Option EO) (d : Nat) : bound fr o d = bnd (o.map (ev fr)) d := by cases o <;> rfl
theorem sliceV_eq : sliceV fr sz v lo hi mx h = sliceB sz v (lo.map (ev fr)) (hi.map (ev fr)) (mx.map (ev fr)) h := by
  unfold sliceV sliceB
  congr 1
  · rw [bound_eq, bound_eq, bound_eq]
  · funext id off n sz'
    congr 1
    rw [bound_eq]; congr 1; funext l; rw [bound_eq]; congr 1; funext u
    cases mx with
    | none => rfl
    | some m => rfl
theorem Sl.cut {lo hi : Option V} {l u : Nat} (hs : Sl e h v L) (hl : bnd lo 0 = some l) (hu : bnd hi L.length = some u) (h1 : l ≤ u) (h2 : u ≤ L.length) :
    ∃ v', (∀ h1, sliceB 1 v lo hi none h1 = .ok v' h1) ∧ Sl e h v' ((L.take u).drop l) ∧ (∀ b, Own b v → Own b v') ∧ ∀ id, NotIn id v → NotIn id v' := by
  rcases hs with ⟨rfl, rfl⟩ | ⟨id, off, m, cs, rfl, hb, hll, hm, hx⟩
  · have hu0 : u = 0 := by simpa using h2
    subst hu0
    have hl0 : l = 0 := by omega
    subst hl0
    refine ⟨.sn, fun h1 => ?_, .inl ⟨rfl, rfl⟩, fun b h => h, fun id h => h⟩
    unfold sliceB
    have hu : bnd hi 0 = some 0 := hu
    show (oGet (bnd lo 0) .no fun l => oGet (bnd hi 0) .no fun u => oGet (bnd none 0) .no fun m => bif Nat.beq l 0 && Nat.beq u 0 && Nat.beq m 0 then RV.ok .sn h1 else .no) = _
    rw [hl, hu]; rfl
  · refine ⟨.sl id (off + l * 1) (u - l) 1, fun h1 => ?_, .inr ⟨id, off + l * 1, m, cs, ?_, hb, hll, ?_, fun i hi => ?_⟩, fun b ho _ _ _ _ e => ?_, fun id' hn _ _ _ e => ?_⟩
    · unfold sliceB
      show (bif Nat.beq 1 1 then (oGet (bnd lo 0) .no fun l => oGet (bnd hi L.length) .no fun u => oGet none (cutV id off L.length 1 h1 l u none) fun _ => oGet (bnd none 0) .no fun m => cutV id off L.length 1 h1 l u (some m)) else RV.no) = _
      rw [hl, hu, Nat.beq_refl]
      show cutV id off L.length 1 h1 l u none = _
      unfold cutV
      rw [Nat.ble_eq_true_of_le ‹l ≤ u›, Nat.ble_eq_true_of_le h2]; rfl
    · congr 1; simp; omega
    · simp; omega
    · have hi' : i < u - l := by simp at hi; omega
      rw [show off + l * 1 + i = off + (l + i) by omega, hx (l + i) (by omega)]
      simp
    · cases e; exact ho _ _ _ _ rfl
    · cases e; exact hn _ _ _ rfl
theorem bnd_none {d : Nat} : bnd none d = some d := rfl
theorem bnd_i {d m : Nat} {k : IntKind} : bnd (some (.i k (m : Int))) d = some m := rfl
/-! ### Arrays -/
def Ar (e : α → V) (h : H) (id : K) (L : List α) : Prop := h.get id = .cells L.length (L.map e)
theorem Ar.ld {id : K} (ha : Ar e h id L) {i : Nat} (hi : i < L.length) : loadV h (.p id (0 + i * 1)) one? = .ok (e L[i]) h :=
  load_p ha (by rw [nth_eq, Nat.zero_add, Nat.mul_one]; simp [hi])
theorem Ar.ldn {id : K} (ha : Ar e h id L) {n : Nat} (hn : n = L.length) : loadV h (.p id 0) (many? n) = .ok (.agg (L.map e)) h := by
  subst hn
  rw [loadn_p ha (by omega), takeN_eq, dropN_eq, List.drop_zero, List.take_of_length_le (by simp)]
theorem Ar.st {id : K} (ha : Ar e h id L) {i : Nat} (hi : i < L.length) {x : α} {c : V} (hc : c = e x) (ho : cellsN 1 c = some [c]) :
    storeV h 1 (.p id (0 + i * 1)) c = .ok undefV (h.put id (.cells L.length ((L.set i x).map e))) ∧ Ar e (h.put id (.cells L.length ((L.set i x).map e))) id (L.set i x) := by
  subst hc
  refine ⟨?_, ?_⟩
  · rw [store_p ha ho (by omega)]
    congr 3
    rw [setMany_eq _ _ _ (by simp; omega)]
    apply List.ext_getElem?
    intro j
    simp only [List.length_cons, List.length_nil, Nat.zero_add, Nat.mul_one]
    rcases Nat.lt_trichotomy j i with h1 | h1 | h1
    · rw [List.append_assoc, List.getElem?_append_left (by simp; omega), List.getElem?_take, if_pos h1, List.getElem?_map, List.getElem?_map, List.getElem?_set, if_neg (by omega)]
    · subst h1
      rw [List.append_assoc, List.getElem?_append_right (by simp; omega)]; simp [hi]
      have : min j L.length = j := by omega
      rw [this]; simp
    · rw [List.getElem?_append_right (by simp; omega)]
      simp
      rw [show i + 1 + (j - (min i L.length + 1)) = j by omega, List.getElem?_set]
      simp; omega
  · show (h.put id _).get id = _
    rw [get_put_same]; simp
theorem Ar.same {h' : H} {id : K} (ha : Ar e h id L) (hg : h'.get id = h.get id) : Ar e h' id L := by unfold Ar; rw [hg]; exact ha
def arr (f : Nat → α) (n : Nat) : List α := (List.range n).map f
end
end Go.Ev
namespace Go.Ev
open Go Go.RowKit
section
variable {fs : T EF} {R : Fr → H → Prop} {fr : Fr} {h h0 : H} {d : Option K} {l : List EOper} {x y z : EO} {v : V}
def kG (fs : T EF) (l : List EOper) (Q : Fr → H → Prop) (fr : Fr) (d : Option K) (h0 : H) (v : V) (_ : H) : Prop := XG fs l Q (putD fr d v) h0
theorem kg : kG fs l R fr d h0 v h = XG fs l R (putD fr d v) h0 := of_eq_true (eq_self _)
theorem xg_nil : XG fs [] R fr h = R fr h := of_eq_true (eq_self _)
theorem xg_mv  : XG fs (⟨d, none, .mv x⟩ :: l) R fr h = XG fs l R (putD fr d (ev fr x)) h := by show GP (some true) (true = true ∧ _) _ = _; rw [gp_t, eq_self, true_and]; rfl
theorem xg_build {zs : List V} {ps : List (Nat × Nat × EO)} : XG fs (⟨d, none, .build zs ps⟩ :: l) R fr h = rvP (oGet (fillE fr zs ps) .no fun cs => .ok (.agg cs) h) (kG fs l R fr d h) := by show GP (some true) (true = true ∧ _) _ = _; rw [gp_t, eq_self, true_and]; rfl
theorem xg_ld  : XG fs (⟨d, none, .ld x⟩ :: l) R fr h = rvP (loadV h (ev fr x) one?) (kG fs l R fr d h) := by show GP (some true) (true = true ∧ _) _ = _; rw [gp_t, eq_self, true_and]; rfl
theorem xg_ldn {n : Nat} : XG fs (⟨d, none, .ldn n x⟩ :: l) R fr h = rvP (loadV h (ev fr x) (many? n)) (kG fs l R fr d h) := by show GP (some true) (true = true ∧ _) _ = _; rw [gp_t, eq_self, true_and]; rfl
theorem xg_bin {op : BinOp} : XG fs (⟨d, none, .bin op x y⟩ :: l) R fr h = rvP (okv (binV op (ev fr x) (ev fr y)) h) (kG fs l R fr d h) := by show GP (some true) (true = true ∧ _) _ = _; rw [gp_t, eq_self, true_and]; rfl
theorem xg_eqk {kd : KD} {b : Bool} : XG fs (⟨d, none, .eqk kd b x y⟩ :: l) R fr h = rvP (okv (oGet (keyEq kd (ev fr x) (ev fr y)) none fun r => some (.b (bif b then !r else r))) h) (kG fs l R fr d h) := by show GP (some true) (true = true ∧ _) _ = _; rw [gp_t, eq_self, true_and]; rfl
theorem xg_not  : XG fs (⟨d, none, .not x⟩ :: l) R fr h = rvP ((ev fr x).onB .no fun b => .ok (.b (!b)) h) (kG fs l R fr d h) := by show GP (some true) (true = true ∧ _) _ = _; rw [gp_t, eq_self, true_and]; rfl
theorem xg_conv {k : IntKind} : XG fs (⟨d, none, .conv k x⟩ :: l) R fr h = rvP ((ev fr x).onI .no fun _ n => .ok (.i k (fw k n)) h) (kG fs l R fr d h) := by show GP (some true) (true = true ∧ _) _ = _; rw [gp_t, eq_self, true_and]; rfl
theorem xg_slice {sz : Nat} {lo hi mx : Option EO} : XG fs (⟨d, none, .slice sz x lo hi mx⟩ :: l) R fr h = rvP (sliceV fr sz (ev fr x) lo hi mx h) (kG fs l R fr d h) := by show GP (some true) (true = true ∧ _) _ = _; rw [gp_t, eq_self, true_and]; rfl
theorem xg_fadr {o : Nat} : XG fs (⟨d, none, .fadr o x⟩ :: l) R fr h = rvP ((ev fr x).onP fun id p => .ok (.p id (p + o)) h) (kG fs l R fr d h) := by show GP (some true) (true = true ∧ _) _ = _; rw [gp_t, eq_self, true_and]; rfl
theorem xg_iadr {n sz : Nat} : XG fs (⟨d, none, .iadr n sz x y⟩ :: l) R fr h = rvP ((ev fr x).onP fun id off => idxV (ev fr y) n fun m => .ok (.p id (off + m * sz)) h) (kG fs l R fr d h) := by show GP (some true) (true = true ∧ _) _ = _; rw [gp_t, eq_self, true_and]; rfl
theorem xg_iads {sz : Nat} : XG fs (⟨d, none, .iads sz x y⟩ :: l) R fr h = rvP (iadsV sz (ev fr x) (ev fr y) h) (kG fs l R fr d h) := by show GP (some true) (true = true ∧ _) _ = _; rw [gp_t, eq_self, true_and]; rfl
theorem xg_len  : XG fs (⟨d, none, .len x⟩ :: l) R fr h = rvP (lenV (ev fr x) h) (kG fs l R fr d h) := by show GP (some true) (true = true ∧ _) _ = _; rw [gp_t, eq_self, true_and]; rfl
theorem xg_pr {p : PK} : XG fs (⟨d, none, .pr p x y⟩ :: l) R fr h = rvP (okv (prV p (ev fr x) (ev fr y)) h) (kG fs l R fr d h) := by show GP (some true) (true = true ∧ _) _ = _; rw [gp_t, eq_self, true_and]; rfl
theorem xg_nilck : XG fs (⟨d, none, .nilck x⟩ :: l) R fr h = rvP (nnV (ev fr x) h) (kG fs l R fr d h) := by show GP (some true) (true = true ∧ _) _ = _; rw [gp_t, eq_self, true_and]; rfl
theorem xg_min  : XG fs (⟨d, none, .min x y⟩ :: l) R fr h = rvP (minV (ev fr x) (ev fr y) h) (kG fs l R fr d h) := by show GP (some true) (true = true ∧ _) _ = _; rw [gp_t, eq_self, true_and]; rfl
theorem xg_bslice {k : K} {n sz : Nat} {zs : List V} {ps : List (Nat × Nat × EO)} : XG fs (⟨some k, none, .bslice n sz zs ps⟩ :: l) R fr h = ((h.get h.nx).isDead = true ∧ ∃ cs, fillE fr zs ps = some cs ∧ XG fs l R (fr.set k (.sl h.nx 0 n sz)) (h.new (.cells (n * sz) cs))) := by
  show GP (some true) (∃ k' cs, some k = some k' ∧ _) _ = _
  rw [gp_t]
  apply propext
  constructor
  · rintro ⟨k', cs, e, e1, e2, e3⟩
    cases e
    exact ⟨e1, cs, e2, e3⟩
  · rintro ⟨e1, cs, e2, e3⟩
    exact ⟨k, cs, rfl, e1, e2, e3⟩
def stK (fs : T EF) (b : List K) (c : List EOper) (o : Option EOper) (l : List Stage) (Q : Fr → H → Prop) (h0 : H) (fr : Fr) (h : H) : Prop := isFresh h0 h fr b = true ∧ allStay fs goNo fr h c = true ∧ (match o with | none => Q fr h | some o => X fs [o] (XD fs l Q) fr h)
theorem xd_cons {g c : List EOper} {b : List K} {o : Option EOper} {l : List Stage} : XD fs (⟨g, c, o, b⟩ :: l) R fr h = XG fs g (stK fs b c o l R h) fr h := of_eq_true (eq_self _)
theorem fresh_nil : isFresh h0 h fr [] = true := of_eq_true (eq_self _)
theorem stK_n {b : List K} {c : List EOper} {l : List Stage} : stK fs b c none l R h0 fr h = (isFresh h0 h fr b = true ∧ allStay fs goNo fr h c = true ∧ R fr h) := of_eq_true (eq_self _)
theorem stK_s {b : List K} {c : List EOper} {o : EOper} {l : List Stage} : stK fs b c (some o) l R h0 fr h = (isFresh h0 h fr b = true ∧ allStay fs goNo fr h c = true ∧ X fs [o] (XD fs l R) fr h) := of_eq_true (eq_self _)
theorem stay_nil : allStay fs goNo fr h [] = true := of_eq_true (eq_self _)
theorem stay_cons {o : EOper} {c : List EOper} : (allStay fs goNo fr h (o :: c) = true) = (stays fs goNo fr h o = true ∧ allStay fs goNo fr h c = true) := by
  show ((stays fs goNo fr h o && allStay fs goNo fr h c) = true) = _
  rw [Bool.and_eq_true]
/-- An operation that gives again what it gave. -/
def again (r : RV) (u : V) : Prop := ∃ v h, r = .ok v h ∧ beqV v u = true
theorem again_ok {u : V} : again (.ok v h) u = (beqV v u = true) := by
  apply propext
  constructor
  · rintro ⟨v', h', e, hb⟩; cases e; exact hb
  · exact fun hb => ⟨v, h, rfl, hb⟩
theorem chk_again {r : RV} {u : V} : (r.chk (fun v => beqV v u) = true) = again r u := by
  apply propext
  cases r with
  | no => exact Iff.intro (fun h => by cases h) (fun ⟨v, h, e, _⟩ => by cases e)
  | ok v h => rw [again_ok]; rfl
theorem stay_mv {k : K} : (stays fs goNo fr h ⟨some k, none, .mv x⟩ = true) = (beqV (ev fr x) (getV (fr.get k)) = true) := of_eq_true (eq_self _)
theorem stay_nilck {k : K} : (stays fs goNo fr h ⟨some k, none, .nilck x⟩ = true) = again (nnV (ev fr x) h) (getV (fr.get k)) := chk_again
theorem beq_i {k : IntKind} {n : Int} : beqV (.i k n) (.i k n) = true := by
  show (k == k && ieq n n) = true
  rw [ieq_eq]; cases k <;> simp
theorem Nat.beq_same {n : Nat} : Nat.beq n n = true := Nat.beq_refl n
/-- One new slice. -/
theorem fresh_one {k : K} {n sz : Nat} {x : Blk} (hg : fr.get k = some (.sl h0.nx 0 n sz)) : isFresh h0 (h0.new x) fr [k] = true := by
  show freshL h0.nx.nat (h0.new x).nx.nat (oGet (slId (getV (fr.get k))) [] fun id => [id]) = true
  rw [hg]
  show (Nat.ble h0.nx.nat h0.nx.nat && Nat.blt h0.nx.nat (h0.new x).nx.nat && notIn h0.nx [] && true) = true
  rw [Nat.ble_eq_true_of_le (Nat.le_refl _), show Nat.blt h0.nx.nat (h0.new x).nx.nat = true from Nat.ble_eq_true_of_le (by rw [nx_new]; exact Nat.le_refl _)]
  rfl
end
end Go.Ev
namespace Go.Ev
open Go Go.RowKit
/-- A slice of numbers as it came in. -/
def SlArg (W : World) (val : Value) (L : List Int) : Prop := (val = .slice none 0 0 ∧ L = []) ∨ ∃ (b off len : Nat) (zs : List Int), val = .slice (some ⟨b, off, none⟩) len zs.length ∧ len ≤ zs.length ∧ L = zs.take len ∧
  (∀ i (hi : i < zs.length), W.cell? ⟨b, off + i, none⟩ = some (.int .i64 zs[i])) ∧ ∀ i, i < zs.length → W.frozen? ⟨b, off + i, none⟩ = false
theorem intsVR {ι : Io} : ∀ {zs : List Int} {vs : List Value}, vs.length = zs.length → (∀ i (hi : i < zs.length), vs[i]? = some (.int .i64 zs[i])) → VRs ι (zs.map iE) vs := by
  intro zs vs hl h
  refine ⟨by rw [List.length_map, hl], fun i h1 h2 => ?_⟩
  have hi : i < zs.length := by simpa using h1
  have := h i hi
  rw [List.getElem?_eq_getElem h2, Option.some.injEq] at this
  rw [this, List.getElem_map]
  exact .i _ _
end Go.Ev
namespace Go.Ev
open Go Go.RowKit
section
variable {Y : Rig} {fs : T EF} {k : K} {ef : EF} {n : Nat} {args : List V} {L : List Int}
end
theorem callP_flat {fs : T EF} {k : K} {ef : EF} {args : List V} {h : H} {v : V} {g : List V → Option V} {P : V → H → Prop} (hf : fs.get k = some ef) (hn : ef.nv = some (flatG g)) (hg : g args = some v) : CallP fs (.fn k []) args h P = P v h := by
  have hc : ∀ n, callV fs (eval fs n) (.fn k []) args h = .ok v h := fun n => by
    show (oGet (fs.get k) RV.no fun ef => callE (eval fs n) ef (cat args []) h) = _
    rw [hf]
    show oGet ef.nv (callF (eval fs n) ef (cat args []) h) (fun g => oGet (g (cat args []) h) RV.no fun p => RV.ok p.1 p.2) = _
    rw [hn, cat_eq, List.append_nil]
    show (oGet (flatG g args h) RV.no fun p => RV.ok p.1 p.2) = _
    unfold flatG
    rw [hg]; rfl
  apply propext
  constructor
  · rintro ⟨n, v', h', e, hp⟩
    rw [hc] at e
    cases e; exact hp
  · intro hp
    exact ⟨0, v, h, hc 0, hp⟩
end Go.Ev
namespace Go.Ev
open Go Go.RowKit Go.ChangeShapes Go.WideShapes Go.ChangeAt
theorem trod_slArg {H : Type} {enc : TypeId × Value → H} {P : Program} {W : World} {base : Nat} {t e : TypeId} (ht : P.underlying t = some (.slice e)) (he : P.underlying e = some (.int .i64)) (hc : P.cellsOf e = 1) {v : Value} {d : DataW H} {p ps : List MemPlace}
    (hval : Value.okWide P W .any base t v) (hd : DataW.Trod enc P W 0 (fun _ => true) true t v d p) (hps : ∀ x ∈ p, x ∈ ps) (hnf : W.noneFrozen ps) :
    ∃ L, SlArg W v L ∧ ∀ W', Below W.heap.size W W' → DataW.Trod enc P W' 0 (fun b => decide (b < W.heap.size)) true t v d p := by
  obtain ⟨ao, len, cap, rfl⟩ := okWide_slice ht hval
  obtain ⟨fuel, hf⟩ := hd
  rcases open_ints ht he hc hf with ⟨hcs, hx⟩ | ⟨a, len', cap', zs, hcs, _, hl, hm, hz, hx, hcell, hwf⟩
  · have hv : Value.slice ao len cap = .slice none 0 0 := by
      have : (Value.slice ao len cap).cells.toList = [.slice ao len cap] := rfl
      rw [this] at hcs
      exact (List.cons.inj hcs).1
    cases hv
    cases hx
    exact ⟨[], .inl ⟨rfl, rfl⟩, fun W' _ => ⟨1, by rw [DataW.trod_step]; unfold DataW.trodStep; simp only [ht]; rfl⟩⟩
  · have hv : Value.slice ao len cap = .slice (some a) len' cap' := by
      have : (Value.slice ao len cap).cells.toList = [.slice ao len cap] := rfl
      rw [this] at hcs
      exact (List.cons.inj hcs).1
    cases hv
    cases hx
    simp only [if_true] at hz
    have hspot : a.spot = none := by
      simp only [Value.okWide, ht, Cell.okWide, Cell.ok] at hval
      exact hval.2.2.2.1
    obtain ⟨b, off, sp⟩ := a
    have hspot : sp = none := hspot
    subst hspot
    have hcell' : ∀ i (hi : i < zs.length), W.cell? ⟨b, off + i, none⟩ = some (.int .i64 zs[i]) := fun i hi => by
      have := hcell i hi
      rw [add_lit'] at this
      rw [this]; simp [List.getD, hi]
    refine ⟨zs.take len, .inr ⟨b, off, len, zs, by rw [hz], by omega, rfl, hcell', fun i hi => ?_⟩, fun W' hb => ?_⟩
    · refine hnf b (off + i) (hps _ ?_)
      unfold MemPlace.row
      rw [List.mem_map]
      exact ⟨i, by simpa using hi, rfl⟩
    · refine ⟨0 + 2, ?_⟩
      have hlt : zs.length ≠ 0 → b < W.heap.size := fun hne => by
        have := hcell' 0 (by omega)
        unfold World.cell? at this
        split at this
        · rename_i hh; exact (Array.getElem?_eq_some_iff.1 hh).1
        · cases this
      refine shut_ints (zs := zs) 0 ht he hc (Nat.zero_le _) hl hm ?_ (fun i hi => ?_) hwf
      · by_cases hne : zs.length = 0
        · split <;> omega
        · have := hlt hne
          simp [this, hz]
      · rw [← hcell i hi, add_lit']
        have := hlt (by omega)
        unfold World.cell?
        show (match W'.heap[b]? with | some (.cells c _ _) => _ | _ => _) = _
        rw [hb.block b this]
        rfl
end Go.Ev
namespace Go.Ev
open Go Go.RowKit
section
variable {α : Type} {e : α → V} {h h' : H} {v u : V} {L M : List α} {b : Nat}
/-- A store into a slice. -/
theorem Sl.st (hs : Sl e h v L) {i : Nat} (hi : i < L.length) {x : α} {c : V} (hc : c = e x) (ho : cellsN 1 c = some [c]) (hhc : HC h) :
    ∃ p id m cs', (∀ k h1, iadsV 1 v (.i k (i : Int)) h1 = .ok p h1) ∧ storeV h 1 p c = .ok undefV (h.put id (.cells m cs')) ∧ Sl e (h.put id (.cells m cs')) v (L.set i x) ∧ (∃ off n sz, v = .sl id off n sz) ∧ id.nat < h.nx.nat := by
  subst hc
  rcases hs with ⟨rfl, rfl⟩ | ⟨id, off, m, cs, rfl, hb, hl, hm, hx⟩
  · simp at hi
  · refine ⟨.p id (off + i * 1), id, m, setMany cs (off + i * 1) [e x], fun k h1 => ?_, ?_, ?_, ⟨off, L.length, 1, rfl⟩, hhc.cells hb⟩
    · rw [iads_sl, idx_n hi]
    · exact store_p hb ho (by omega)
    · have hsm : setMany cs (off + i * 1) [e x] = cs.set (off + i) (e x) := by
        rw [setMany_eq _ _ _ (by simp; omega), Nat.mul_one]
        apply List.ext_getElem?
        intro j
        rcases Nat.lt_trichotomy j (off + i) with h1 | h1 | h1
        · rw [List.append_assoc, List.getElem?_append_left (by simp; omega), List.getElem?_take, if_pos h1, List.getElem?_set, if_neg (by omega)]
        · subst h1
          rw [List.append_assoc, List.getElem?_append_right (by simp; omega), List.getElem?_set]
          have h2 : off + i < cs.length := by omega
          have : off + i - min (off + i) cs.length = 0 := by omega
          simp [this, h2]
        · rw [List.getElem?_append_right (by simp; omega), List.getElem?_set, if_neg (by omega), List.getElem?_drop]
          congr 1
          simp; omega
      refine .inr ⟨id, off, m, _, by rw [List.length_set], get_put_same, by rw [hsm, List.length_set]; exact hl, by rw [List.length_set]; exact hm, fun j hj => ?_⟩
      have hj' : j < L.length := by simpa using hj
      rw [hsm, List.getElem?_set]
      by_cases e1 : i = j
      · subst e1
        rw [if_pos rfl, if_pos (by omega)]; simp
      · rw [if_neg (by omega), hx j hj', List.getElem_set_ne e1]
end

theorem kNe {a b : K} (h : a.nat < b.nat) : a ≠ b := fun e => by rw [e] at h; omega
section
variable {α : Type} {e : α → V} {b : Nat} {h h1 h2 : H} {idb idl : K} {kept : List (K × Blk)} {o o' : V} {L L' : List α} {lb : Blk}
theorem Sl.one {v : V} (hs : Sl e h v L) : cellsN 1 v = some [v] := by rcases hs with ⟨rfl, _⟩ | ⟨_, _, _, _, rfl, _⟩ <;> rfl
end

section
variable {fs : T EF} {fr : Fr} {h : H} {k : K} {x y : EO}
theorem stay_iads {sz : Nat} : (stays fs goNo fr h ⟨some k, none, .iads sz x y⟩ = true) = again (iadsV sz (ev fr x) (ev fr y) h) (getV (fr.get k)) := chk_again
theorem stay_ld : (stays fs goNo fr h ⟨some k, none, .ld x⟩ = true) = again (loadV h (ev fr x) one?) (getV (fr.get k)) := chk_again
theorem beq_p {id : K} {off : Nat} : beqV (.p id off) (.p id off) = true := by
  show (id.beq id && Nat.beq off off) = true
  rw [K.beq_refl, Nat.beq_same]; rfl
variable {α : Type} {e : α → V} {v : V} {L : List α}
end
theorem rep_cell {z : V} : ∀ n, rep [z] n = List.replicate n z
  | 0 => rfl
  | n + 1 => by
    show cat [z] (rep [z] n) = _
    rw [rep_cell n, cat_eq]; rfl
end Go.Ev
namespace Go.Ev
open Go Go.RowKit
/-- A slice that is only read. -/
def Sr {α : Type} (e : α → V) (h : H) (v : V) (L : List α) : Prop := (v = .sn ∧ L = []) ∨ ∃ id off m cs, v = .sl id off L.length 1 ∧ (h.get id = .cells m cs ∨ h.get id = .rom m cs) ∧ cs.length = m ∧ off + L.length ≤ m ∧ ∀ i (hi : i < L.length), cs[off + i]? = some (e L[i])
theorem load_r {h : H} {id : K} {m off : Nat} {v : V} {cs : List V} (hb : h.get id = .cells m cs ∨ h.get id = .rom m cs) (hc : nth cs off = some v) : loadV h (.p id off) one? = .ok v h := by
  show okv ((h.get id).onC none fun n cs => one? cs n off) h = _
  rcases hb with hb | hb <;> rw [hb] <;> show okv (nth cs off) h = _ <;> rw [hc] <;> rfl
section
variable {α : Type} {e : α → V} {h h' : H} {v u : V} {L M : List α} {b : Nat}
theorem Sl.sr (hs : Sl e h v L) : Sr e h v L := by
  rcases hs with hs | ⟨id, off, m, cs, h1, h2, h3⟩
  · exact .inl hs
  · exact .inr ⟨id, off, m, cs, h1, .inl h2, h3⟩
theorem Sr.nil : Sr e h .sn ([] : List α) := .inl ⟨rfl, rfl⟩
theorem Sr.len (hs : Sr e h v L) (h1 : H) : lenV v h1 = .ok (.i .i64 (L.length : Int)) h1 := by
  rcases hs with ⟨rfl, rfl⟩ | ⟨id, off, m, cs, rfl, _⟩ <;> rfl
theorem Sr.at (hs : Sr e h v L) (i : Nat) (hi : i < L.length) : ∃ p, (∀ k h1, iadsV 1 v (.i k (i : Int)) h1 = .ok p h1) ∧ loadV h p one? = .ok (e L[i]) h := by
  rcases hs with ⟨rfl, rfl⟩ | ⟨id, off, m, cs, rfl, hb, hl, hm, hx⟩
  · simp at hi
  · refine ⟨.p id (off + i * 1), fun k h1 => ?_, ?_⟩
    · rw [iads_sl, idx_n hi]
    · exact load_r hb (by rw [nth_eq, Nat.mul_one]; exact hx i hi)
theorem Sr.atb (hs : Sr e h v L) (i : Nat) (hi : i < L.length) : ∃ p, (∀ k h1, iadsV 1 v (.i k (i : Int)) h1 = .ok p h1) ∧ loadV h p one? = .ok (e L[i]) h ∧ beqV p p = true := by
  rcases hs with ⟨rfl, rfl⟩ | ⟨id, off, m, cs, rfl, hb, hl, hm, hx⟩
  · simp at hi
  · refine ⟨.p id (off + i * 1), fun k h1 => ?_, ?_, ?_⟩
    · rw [iads_sl, idx_n hi]
    · exact load_r hb (by rw [nth_eq, Nat.mul_one]; exact hx i hi)
    · show (id.beq id && Nat.beq (off + i * 1) (off + i * 1)) = true
      rw [K.beq_refl, Nat.beq_same]; rfl
theorem Sr.same (hs : Sr e h v L) (hg : ∀ id off n sz, v = .sl id off n sz → h'.get id = h.get id) : Sr e h' v L := by
  rcases hs with ⟨rfl, rfl⟩ | ⟨id, off, m, cs, rfl, hb, hl, hm, hx⟩
  · exact .inl ⟨rfl, rfl⟩
  · exact .inr ⟨id, off, m, cs, rfl, by rw [hg _ _ _ _ rfl]; exact hb, hl, hm, hx⟩
theorem Sr.lt (hs : Sr e h v L) (hc : HC h) : ∀ id off n sz, v = .sl id off n sz → id.nat < h.nx.nat := by
  rcases hs with ⟨rfl, rfl⟩ | ⟨id, off, m, cs, rfl, hb, hl, hm, hx⟩
  · exact fun _ _ _ _ h => by cases h
  · exact fun _ _ _ _ h => by cases h; exact hc.lt (by rcases hb with hb | hb <;> rw [hb] <;> simp)
theorem Sr.grow (hs : Sr e h v L) (hc : HC h) (hg : Grow h.nx.nat h h') : Sr e h' v L := hs.same fun id off n sz ev => hg.old id (hs.lt hc id off n sz ev)
theorem Sr.beq (hs : Sr e h v L) : beqV v v = true := by
  rcases hs with ⟨rfl, _⟩ | ⟨id, off, m, cs, rfl, _⟩
  · rfl
  · show (id.beq id && Nat.beq off off && Nat.beq L.length L.length && Nat.beq 1 1) = true
    rw [K.beq_refl, Nat.beq_same, Nat.beq_same]; rfl
theorem Sr.addOf (hs : Sr e h v L) : Go.Ev.addOf 1 h v = some (L.length, L.map e) := by
  rcases hs with ⟨rfl, rfl⟩ | ⟨id, off, m, cs, rfl, hb, hl, hm, hx⟩
  · rfl
  · show (h.get id).onC none (fun len cs => bif Nat.beq 1 1 && Nat.ble (off + L.length * 1) len then some (L.length, takeN (L.length * 1) (dropN off cs)) else none) = _
    have e0 : (h.get id).onC none (fun len cs => bif Nat.beq 1 1 && Nat.ble (off + L.length * 1) len then some (L.length, takeN (L.length * 1) (dropN off cs)) else none) = (bif Nat.beq 1 1 && Nat.ble (off + L.length * 1) m then some (L.length, takeN (L.length * 1) (dropN off cs)) else none) := by
      rcases hb with hb | hb <;> rw [hb] <;> rfl
    rw [e0, show (Nat.beq 1 1 && Nat.ble (off + L.length * 1) m) = true by rw [Nat.beq_refl, Nat.ble_eq_true_of_le (by omega)]; rfl]
    show some (L.length, takeN (L.length * 1) (dropN off cs)) = _
    congr 2
    rw [takeN_eq, dropN_eq, Nat.mul_one]
    apply List.ext_getElem?
    intro i
    by_cases hi : i < L.length
    · rw [List.getElem?_take, if_pos hi, List.getElem?_drop, hx i hi]; simp [hi]
    · rw [List.getElem?_eq_none (by simp; omega), List.getElem?_eq_none (by simp; omega)]
theorem Sr.cut {lo hi : Option V} {l u : Nat} (hs : Sr e h v L) (hl : bnd lo 0 = some l) (hu : bnd hi L.length = some u) (h1 : l ≤ u) (h2 : u ≤ L.length) :
    ∃ v', (∀ h1, sliceB 1 v lo hi none h1 = .ok v' h1) ∧ Sr e h v' ((L.take u).drop l) ∧ (∀ b, Own b v → Own b v') ∧ ∀ id, NotIn id v → NotIn id v' := by
  rcases hs with ⟨rfl, rfl⟩ | ⟨id, off, m, cs, rfl, hb, hll, hm, hx⟩
  · have hu0 : u = 0 := by simpa using h2
    subst hu0
    have hl0 : l = 0 := by omega
    subst hl0
    refine ⟨.sn, fun h1 => ?_, .inl ⟨rfl, rfl⟩, fun b h => h, fun id h => h⟩
    unfold sliceB
    have hu : bnd hi 0 = some 0 := hu
    show (oGet (bnd lo 0) .no fun l => oGet (bnd hi 0) .no fun u => oGet (bnd none 0) .no fun m => bif Nat.beq l 0 && Nat.beq u 0 && Nat.beq m 0 then RV.ok .sn h1 else .no) = _
    rw [hl, hu]; rfl
  · refine ⟨.sl id (off + l * 1) (u - l) 1, fun h1 => ?_, .inr ⟨id, off + l * 1, m, cs, ?_, hb, hll, ?_, fun i hi => ?_⟩, fun b ho _ _ _ _ e => ?_, fun id' hn _ _ _ e => ?_⟩
    · unfold sliceB
      show (bif Nat.beq 1 1 then (oGet (bnd lo 0) .no fun l => oGet (bnd hi L.length) .no fun u => oGet none (cutV id off L.length 1 h1 l u none) fun _ => oGet (bnd none 0) .no fun m => cutV id off L.length 1 h1 l u (some m)) else RV.no) = _
      rw [hl, hu, Nat.beq_refl]
      show cutV id off L.length 1 h1 l u none = _
      unfold cutV
      rw [Nat.ble_eq_true_of_le ‹l ≤ u›, Nat.ble_eq_true_of_le h2]; rfl
    · congr 1; simp; omega
    · simp; omega
    · have hi' : i < u - l := by simp at hi; omega
      rw [show off + l * 1 + i = off + (l + i) by omega, hx (l + i) (by omega)]
      simp
    · cases e; exact ho _ _ _ _ rfl
    · cases e; exact hn _ _ _ rfl
/-- Two slices that give the same to append are appended alike. -/
theorem Sl.appR (hs : Sl e h v L) (ho : Own b v) (hb : b ≤ h.nx.nat) (hu : Sr e h u M) (hc : HC h) (hn : L.length + M.length ≤ 16777216) :
    ∃ v' h', appV 1 h v u = .ok v' h' ∧ Sl e h' v' (L ++ M) ∧ Own b v' ∧ Grow b h h' ∧ ∀ id : K, id.nat < h.nx.nat → NotIn id v → h'.get id = h.get id ∧ NotIn id v' := by
  -- what is appended, as a slice of its own
  have key : ∀ (hs' : Go.Ev.addOf 1 h u = some (M.length, M.map e)), ∃ v' h', appV 1 h v u = .ok v' h' ∧ Sl e h' v' (L ++ M) ∧ Own b v' ∧ Grow b h h' ∧ ∀ id : K, id.nat < h.nx.nat → NotIn id v → h'.get id = h.get id ∧ NotIn id v' := by
    intro hs'
    exact Sl.appA hs ho hb hs' hc hn
  exact key hu.addOf
end
structure Roms (Y : Rig) (ι : Io) (h : H) (W : World) : Prop where
  wr : WR Y.tab ι h W
  hc : HC h
  all : ∀ id q, ι id = some q → ∃ n cs, h.get id = .rom n cs ∧ ∃ p, q.pin = some p ∧ W.heap[q.b]? = some (.cells p.1 p.2.1 p.2.2)
noncomputable def noH : H := ⟨.e, .nil⟩
theorem Roms.nil {Y : Rig} {W : World} : Roms Y (fun _ => none) noH W :=
  ⟨⟨(fun _ _ h => absurd h (by simp)), (fun _ _ h => absurd h (by simp)), (fun _ _ _ _ h => absurd h (by simp)), (fun _ _ => rfl)⟩, fun id _ => by
    show getB (T.get id .nil) = .dead
    rw [T.get_nil]; rfl, fun _ _ h => absurd h (by simp)⟩
section
variable {Y : Rig} {ι : Io} {h : H} {W : World}
/-- A slice of numbers comes in. -/
theorem Roms.add (r : Roms Y ι h W) {val : Value} {L : List Int} (ha : SlArg W val L) : ∃ ι' h' v, Roms Y ι' h' W ∧ Ext ι ι' ∧ VR ι' v val ∧ Sr iE h' v L ∧ Grow h.nx.nat h h' := by
  rcases ha with ⟨rfl, rfl⟩ | ⟨b, off, len, zs, rfl, hlen, rfl, hcell, hfro⟩
  · exact ⟨ι, h, .sn, r, Ext.refl _, .sn, Sr.nil, Grow.refl _ _⟩
  have hn : ι h.nx = none := r.wr.fresh _ (Nat.le_refl _)
  by_cases hz : zs.length = 0
  · obtain rfl := List.length_eq_zero_iff.1 hz
    obtain rfl : len = 0 := by simpa using hlen
    have g : Grow h.nx.nat h (h.new (.rom 0 [])) := Grow.new (Nat.le_refl _) _
    refine ⟨ι, h.new (.rom 0 []), .sl h.nx 0 0 1, ⟨r.wr.more (HX.new h _), g.hc r.hc, fun id q hq => ?_⟩, Ext.refl _, .sl0, .inr ⟨h.nx, 0, 0, [], rfl, .inr get_new_same, rfl, by simp, fun i hi => by simp at hi⟩, g⟩
    have : id.nat < h.nx.nat := by
      rcases Nat.lt_or_ge id.nat h.nx.nat with h1 | h1
      · exact h1
      · rw [r.wr.fresh id h1] at hq; cases hq
    rw [get_new_old this]
    exact r.all id q hq
  · have h0 := hcell 0 (by omega)
    obtain ⟨cur, ty, fz, hb⟩ : ∃ cur ty fz, W.heap[b]? = some (.cells cur ty fz) := by
      unfold World.cell? at h0
      split at h0
      · rename_i c t f hh; exact ⟨c, t, f, hh⟩
      · cases h0
    have hbl : b < W.heap.size := (Array.getElem?_eq_some_iff.1 hb).1
    have hcur : ∀ i (hi : i < zs.length), cur[off + i]? = some (.int .i64 zs[i]) := fun i hi => by
      have := hcell i hi
      rw [cell_of_row W b _ cur ty fz hb] at this
      exact this
    have hsz : off + zs.length ≤ cur.size := by
      have := hcur (zs.length - 1) (by omega)
      have := (Array.getElem?_eq_some_iff.1 this).1
      omega
    have hin : List.take zs.length (List.drop off cur.toList) = zs.map (Value.int .i64) := by
      apply List.ext_getElem?
      intro i
      rw [List.getElem?_take, List.getElem?_map]
      by_cases hi : i < zs.length
      · rw [if_pos hi, List.getElem?_drop, Array.getElem?_toList, hcur i hi, List.getElem?_eq_getElem hi]; rfl
      · rw [if_neg hi, List.getElem?_eq_none (by omega)]; rfl
    have q : ∃ q : Pl, q = ⟨b, off, zs.length, some (cur, ty, fz)⟩ := ⟨_, rfl⟩
    obtain ⟨q, hq⟩ := q
    have hext := updI_ext (q := q) hn
    have g : Grow h.nx.nat h (h.new (.rom zs.length (zs.map iE))) := Grow.new (Nat.le_refl _) _
    have hlt : ∀ id q', ι id = some q' → id.nat < h.nx.nat := fun id q' hq' => by
      rcases Nat.lt_or_ge id.nat h.nx.nat with h1 | h1
      · exact h1
      · rw [r.wr.fresh id h1] at hq'; cases hq'
    have hall : ∀ id q', updI ι h.nx q id = some q' → ∃ n cs, (h.new (.rom zs.length (zs.map iE))).get id = .rom n cs ∧ ∃ p, q'.pin = some p ∧ W.heap[q'.b]? = some (.cells p.1 p.2.1 p.2.2) := fun id q' hq' => by
      by_cases e : id = h.nx
      · subst e
        rw [updI_same] at hq'
        cases hq'
        subst hq
        exact ⟨_, _, get_new_same, _, rfl, hb⟩
      · rw [updI_other _ _ e] at hq'
        rw [get_new_old (hlt id q' hq')]
        exact r.all id q' hq'
    refine ⟨updI ι h.nx q, h.new (.rom zs.length (zs.map iE)), .sl h.nx 0 len 1, ⟨⟨fun id q' h' => ?_, fun id q' h' => ?_, fun id id' q1 q2 h1 h2 _ _ _ => ?_, fun id hid => ?_⟩, g.hc r.hc, hall⟩, hext, ?_, ?_, g⟩
    · by_cases e : id = h.nx
      · subst e
        rw [updI_same] at h'
        cases h'
        rw [get_new_same]
        subst hq
        refine ⟨cur, ty, fz, hb, by simp, hsz, Nat.le_refl _, fun c hc => ?_, ?_, ?_, ?_⟩
        · obtain ⟨z, _, rfl⟩ := List.mem_map.1 hc; rfl
        · show VRs _ _ (List.take zs.length (List.drop off cur.toList))
          rw [hin]
          exact intsVR (by simp) (fun i hi => by simp [hi])
        · intro j h1 h2 h3
          have h1 : off ≤ j := h1
          have h2 : j < off + zs.length := h2
          have := hfro (j - off) (by omega)
          unfold World.frozen? at this
          rw [hb] at this
          simp only [Bool.and_eq_false_iff, decide_eq_false_iff_not] at this
          omega
        · intro p hp
          cases hp
          exact ⟨rfl, rfl, fun _ _ => rfl⟩
      · rw [updI_other _ _ e] at h'
        rw [get_new_old (hlt id q' h')]
        exact (r.wr.blk id q' h').mono hext rfl
    · by_cases e : id = h.nx
      · subst e; rw [updI_same] at h'; cases h'; subst hq; exact hbl
      · rw [updI_other _ _ e] at h'; exact r.wr.lt id q' h'
    · obtain ⟨_, _, a1, _⟩ := hall id q1 h1
      obtain ⟨_, _, a2, _⟩ := hall id' q2 h2
      exact .inr ⟨by rw [a1]; trivial, by rw [a2]; trivial⟩
    · have h1 : (h.new (.rom zs.length (zs.map iE))).nx.nat = h.nx.nat + 1 := K.succ_nat _
      rw [h1] at hid
      rw [updI_other _ _ (fun e => by rw [e] at hid; omega)]
      exact r.wr.fresh id (by omega)
    · have := VR.sl (off := 0) (n := len) (sz := 1) (c := zs.length) (updI_same ι h.nx q) (by subst hq; show 0 + zs.length * 1 ≤ zs.length; omega) hlen (by omega)
      subst hq
      simpa using this
    · refine .inr ⟨h.nx, 0, zs.length, zs.map iE, by rw [List.length_take, Nat.min_eq_left hlen], .inr get_new_same, by simp, by simp; omega, fun i hi => ?_⟩
      have hi' : i < len := by rw [List.length_take] at hi; omega
      rw [Nat.zero_add, List.getElem?_map, List.getElem?_eq_getElem (by omega), List.getElem_take]; rfl
/-- What came in is as it was. -/
theorem Roms.below (r : Roms Y ι h W) {n' : Nat} {ι' : Io} {h' : H} {W' : World} (st : Step h.nx.nat ι W n' ι' W') (wr' : WR Y.tab ι' h' W') (g : Grow h.nx.nat h h') : Below W.heap.size W W' := by
  refine ⟨st.os, st.tape, st.output, st.size, fun b' hb' => ?_⟩
  by_cases ex : ∃ id q, ι id = some q ∧ q.b = b'
  · obtain ⟨id, q, hq, rfl⟩ := ex
    obtain ⟨n, cs, hg, p, hp, hW⟩ := r.all id q hq
    have hid : id.nat < h.nx.nat := by
      rcases Nat.lt_or_ge id.nat h.nx.nat with h1 | h1
      · exact h1
      · rw [r.wr.fresh id h1] at hq; cases hq
    have b1 := wr'.blk id q (st.ext id q hq)
    rw [g.old id hid, hg] at b1
    obtain ⟨cur, ty, fz, j1, j2, j3, j4, j5, j6, j7, j8⟩ := b1
    obtain ⟨p1, p2, p3⟩ := j8 p hp
    subst p1 p2
    have : cur = p.1 := by
      apply Array.ext_getElem?
      intro j
      exact p3 j (by omega)
    rw [j1, hW, this]
  · exact st.keep b' hb' fun id q hq e => ex ⟨id, q, hq, e⟩
/-- A call with what came in. -/
theorem Roms.call (r : Roms Y ι h W) {fs : T EF} (hfs : Fns Y fs) {k : K} {ef : EF} (hf : ef.nv = none ∧ ∃ fn c, FnOk Y k ef fn c) {vs : List V} {vals : List Value} (hv : VRs ι vs vals) (hrun : Ret fs ef vs h fun u h' => u = .b true ∧ Grow h.nx.nat h h') :
    Calls Y.P k.nat vals.toArray W fun e W' => e = .returned (.bool true) ∧ Below W.heap.size W W' := by
  obtain ⟨hnv, fn, c, hfn⟩ := hf
  obtain ⟨n, u, h', e, rfl, hg⟩ := hrun
  refine (callsIn_wide.1 (callF_rel (evalOk hfs n) hfn e hv r.wr)).mono ?_
  rintro e w' ⟨ι', v', rfl, hst, hvr, hwr⟩
  have := hvr.of_b
  subst this
  exact ⟨rfl, r.below hst hwr hg⟩
end
end Go.Ev
namespace Go.Ev
open Go Go.RowKit
section
variable {fs : T EF} {fr : Fr} {h h1 h2 : H} {x y : EO} {k : K}
theorem stay_fadr {o : Nat} : (stays fs goNo fr h ⟨some k, none, .fadr o x⟩ = true) = again ((ev fr x).onP fun id p => .ok (.p id (p + o)) h) (getV (fr.get k)) := chk_again
theorem fill_0 {zs : List V} : fillE fr zs [] = some zs := of_eq_true (eq_self _)
def zz : List V := [.i .i64 (.ofNat 0), .i .i64 (.ofNat 0)]
theorem cells2 {a b : V} : cellsN 2 (.agg [a, b]) = some [a, b] := of_eq_true (eq_self _)
theorem ldn2 {id : K} {a b : V} (hb : h.get id = .cells 2 [a, b]) : loadV h (.p id 0) (many? 2) = .ok (.agg [a, b]) h := by
  rw [loadn_p hb (by omega)]; rfl
theorem st2 {id : K} {a b c d : V} (hb : h.get id = .cells 2 [a, b]) : storeV h 2 (.p id 0) (.agg [c, d]) = .ok undefV (h.put id (.cells 2 [c, d])) := by
  rw [store_p hb cells2 (by omega)]; rfl
theorem st1 {id : K} {a c : V} (hb : h.get id = .cells 1 [a]) (hc : cellsN 1 c = some [c]) : storeV h 1 (.p id 0) c = .ok undefV (h.put id (.cells 1 [c])) := by
  rw [store_p hb hc (by omega)]; rfl
theorem ck_i {x y : Int} (hx : inR .i64 x = true) (hy : inR .i64 y = true) : ckEq (some .i64) (.i .i64 x) (.i .i64 y) = some (ieq x y) := by
  show (bif (IntKind.i64 == IntKind.i64 && IntKind.i64 == IntKind.i64) && (inR .i64 x && inR .i64 y) then some (ieq x y) else none) = _
  rw [hx, hy]; rfl
theorem keyEq_2 {a b c d : Int} (ha : inR .i64 a = true) (hb : inR .i64 b = true) (hc : inR .i64 c = true) (hd : inR .i64 d = true) : keyEq (.many [some .i64, some .i64]) (.agg [.i .i64 a, .i .i64 b]) (.agg [.i .i64 c, .i .i64 d]) = some (decide (a = c) && decide (b = d)) := by
  show oGet (ckEq (some .i64) (.i .i64 a) (.i .i64 c)) none (fun r => oGet (oGet (ckEq (some .i64) (.i .i64 b) (.i .i64 d)) none fun r => oGet (some true) none fun s => some (r && s)) none fun s => some (r && s)) = _
  rw [ck_i ha hc, ck_i hb hd]
  show some (ieq a c && (ieq b d && true)) = _
  rw [ieq_eq, ieq_eq]
  by_cases e1 : a = c <;> by_cases e2 : b = d <;> simp [e1, e2]
end
/-! ### Slices of elements of several cells -/
def Sk {α : Type} (k : Nat) (e : α → List V) (h : H) (v : V) (L : List α) : Prop := (v = .sn ∧ L = []) ∨ ∃ id off m cs, v = .sl id off L.length k ∧ h.get id = .cells m cs ∧ cs.length = m ∧ off + L.length * k ≤ m ∧ (cs.drop off).take (L.length * k) = L.flatMap e
section
variable {α : Type} {k : Nat} {e : α → List V} {h h' : H} {v u : V} {L M : List α} {b : Nat}
theorem Sk.nil : Sk k e h .sn ([] : List α) := .inl ⟨rfl, rfl⟩
theorem Sk.len (hs : Sk k e h v L) (h1 : H) : lenV v h1 = .ok (.i .i64 (L.length : Int)) h1 := by
  rcases hs with ⟨rfl, rfl⟩ | ⟨id, off, m, cs, rfl, _⟩ <;> rfl
theorem Sk.same (hs : Sk k e h v L) (hg : ∀ id off n sz, v = .sl id off n sz → h'.get id = h.get id) : Sk k e h' v L := by
  rcases hs with ⟨rfl, rfl⟩ | ⟨id, off, m, cs, rfl, hb, hx⟩
  · exact .inl ⟨rfl, rfl⟩
  · exact .inr ⟨id, off, m, cs, rfl, by rw [hg _ _ _ _ rfl]; exact hb, hx⟩
theorem Sk.lt (hs : Sk k e h v L) (hc : HC h) : ∀ id off n sz, v = .sl id off n sz → id.nat < h.nx.nat := by
  rcases hs with ⟨rfl, rfl⟩ | ⟨id, off, m, cs, rfl, hb, hx⟩
  · exact fun _ _ _ _ h => by cases h
  · exact fun _ _ _ _ h => by cases h; exact hc.cells hb
theorem Sk.grow (hs : Sk k e h v L) (hc : HC h) (hg : Grow h.nx.nat h h') : Sk k e h' v L := hs.same fun id off n sz ev => hg.old id (hs.lt hc id off n sz ev)
theorem Sk.put (hs : Sk k e h v L) {id : K} (hn : NotIn id v) (x : Blk) : Sk k e (h.put id x) v L := hs.same fun id' off n sz ev => get_put_other (fun ee => hn off n sz (by rw [ev, ee]))
theorem Sk.one {v : V} (hs : Sk k e h v L) : cellsN 1 v = some [v] := by rcases hs with ⟨rfl, _⟩ | ⟨_, _, _, _, rfl, _⟩ <;> rfl
theorem flat_take (he : ∀ x, (e x).length = k) : ∀ (L : List α) (u : Nat), u ≤ L.length → (L.flatMap e).take (u * k) = (L.take u).flatMap e
  | _, 0, _ => by simp
  | [], u + 1, h => by simp at h
  | x :: L, u + 1, h => by
    rw [List.flatMap_cons, List.take_succ_cons, List.flatMap_cons, show (u + 1) * k = (e x).length + u * k by rw [he, Nat.add_mul]; omega, List.take_length_add_append, flat_take he L u (by simpa using h)]
theorem flat_len (he : ∀ x, (e x).length = k) (L : List α) : (L.flatMap e).length = L.length * k := by
  induction L with
  | nil => simp
  | cons x L ih => rw [List.flatMap_cons, List.length_append, ih, he, List.length_cons, Nat.add_mul]; omega
/-- append(v, x): one element of several cells. -/
theorem Sk.push (he : ∀ x, (e x).length = k) (_ : 0 < k) {x : α} (hs : Sk k e h v L) (ho : Own b v) (hb : b ≤ h.nx.nat) (hc : HC h) (hn : L.length < 16777216) :
    ∃ v' h', appV k (h.new (.cells (1 * k) (e x))) v (.sl h.nx 0 1 k) = .ok v' h' ∧ Sk k e h' v' (L ++ [x]) ∧ Own b v' ∧ Grow b h h' ∧ ∀ id : K, id.nat < h.nx.nat → NotIn id v → h'.get id = h.get id ∧ NotIn id v' := by
  have hg := Grow.new (b := b) hb (.cells (1 * k) (e x))
  have hnx := nx_new h (.cells (1 * k) (e x))
  have hne : ∀ id : K, id.nat < h.nx.nat + 1 → id ≠ (h.new (.cells (1 * k) (e x))).nx := fun id hi ee => by rw [ee] at hi; omega
  have hadd : addOf k (h.new (.cells (1 * k) (e x))) (.sl h.nx 0 1 k) = some (1, e x) := by
    show ((h.new (.cells (1 * k) (e x))).get h.nx).onC none (fun len cs => bif Nat.beq k k && Nat.ble (0 + 1 * k) len then some (1, takeN (1 * k) (dropN 0 cs)) else none) = _
    rw [get_new_same]
    show (bif Nat.beq k k && Nat.ble (0 + 1 * k) (1 * k) then some (1, takeN (1 * k) (dropN 0 (e x))) else none) = _
    rw [Nat.beq_refl, Nat.ble_eq_true_of_le (by omega), takeN_eq, dropN_eq, List.drop_zero, List.take_of_length_le (by rw [he]; omega)]; rfl
  have ht : v.tight = false := by rcases hs with ⟨rfl, _⟩ | ⟨_, _, _, _, rfl, _⟩ <;> rfl
  unfold appV
  rw [hadd]
  simp only [oGet, ht, cond_false]
  show ∃ v' h', v.onSl RV.no (bif Nat.ble 1 16777216 then app0 k (h.new (.cells (1 * k) (e x))) 1 (e x) else .no) (fun id off n sz' => ((h.new (.cells (1 * k) (e x))).get id).onW .no fun len cs => bif Nat.beq k sz' && Nat.ble (off + n * k) len && Nat.ble (n + 1) 16777216 then app1 k (h.new (.cells (1 * k) (e x))) id off n cs 1 (e x) else .no) = .ok v' h' ∧ _
  rcases hs with ⟨rfl, rfl⟩ | ⟨id, off, m, cs, rfl, hb', hl, hm, hx⟩
  · refine ⟨_, _, rfl, .inr ⟨_, 0, 1 * k, e x, rfl, get_new_same, by rw [he]; omega, by simp, ?_⟩, fun _ _ _ _ h => by cases h; omega, hg.trans (Grow.new (by omega) _), fun id hi _ => ⟨?_, fun _ _ _ h => by cases h; omega⟩⟩
    · simp [he, List.take_of_length_le]
    · rw [get_new_old (by omega), get_new_old hi]
  · have hid := hc.cells hb'
    show ∃ v' h', ((h.new (.cells (1 * k) (e x))).get id).onW RV.no (fun len cs => bif Nat.beq k k && Nat.ble (off + L.length * k) len && Nat.ble (L.length + 1) 16777216 then app1 k (h.new (.cells (1 * k) (e x))) id off L.length cs 1 (e x) else .no) = .ok v' h' ∧ _
    rw [get_new_old hid, hb']
    show ∃ v' h', (bif Nat.beq k k && Nat.ble (off + L.length * k) m && Nat.ble (L.length + 1) 16777216 then app1 k (h.new (.cells (1 * k) (e x))) id off L.length cs 1 (e x) else .no) = .ok v' h' ∧ _
    rw [show (Nat.beq k k && Nat.ble (off + L.length * k) m && Nat.ble (L.length + 1) 16777216) = true by rw [Nat.beq_refl, Nat.ble_eq_true_of_le hm, Nat.ble_eq_true_of_le (show L.length + 1 ≤ 16777216 by omega)]; rfl]
    refine ⟨_, _, rfl, .inr ⟨(h.new (.cells (1 * k) (e x))).nx, 0, (L.length + 1) * k, cat (takeN (L.length * k) (dropN off cs)) (e x), by simp, get_new_same, ?_, by simp, ?_⟩, fun _ _ _ _ h => by cases h; omega, (hg.trans (Grow.put (ho _ _ _ _ rfl) (by omega) _)).trans (Grow.new (by rw [nx_put]; omega) _), fun id' hi hni => ⟨?_, fun _ _ _ h => by cases h; omega⟩⟩
    · rw [cat_eq, takeN_eq, dropN_eq, hx, List.length_append, flat_len he, he, Nat.add_mul]; omega
    · rw [cat_eq, takeN_eq, dropN_eq, hx, List.drop_zero, List.flatMap_append, List.take_of_length_le (by rw [List.length_append, flat_len he, he]; simp [Nat.add_mul])]
      simp
    · show (((h.new (.cells (1 * k) (e x))).put id .dead).new _).get id' = _
      rw [H.get_new, if_neg (show id' ≠ ((h.new (.cells (1 * k) (e x))).put id .dead).nx from hne id' (by omega)), get_put_other (fun ee => hni off L.length k (by rw [ee])), get_new_old hi]
/-- v[:u] -/
theorem Sk.cut (he : ∀ x, (e x).length = k) {u : Nat} {kk : IntKind} (hs : Sk k e h v L) (h2 : u ≤ L.length) :
    ∃ v', (∀ h1, sliceB k v none (some (.i kk (u : Int))) none h1 = .ok v' h1) ∧ Sk k e h v' (L.take u) ∧ (∀ b, Own b v → Own b v') ∧ ∀ id, NotIn id v → NotIn id v' := by
  rcases hs with ⟨rfl, rfl⟩ | ⟨id, off, m, cs, rfl, hb, hll, hm, hx⟩
  · have hu0 : u = 0 := by simpa using h2
    subst hu0
    exact ⟨.sn, fun h1 => rfl, .inl ⟨rfl, rfl⟩, fun b h => h, fun id h => h⟩
  · have hmul : u * k ≤ L.length * k := Nat.mul_le_mul_right k h2
    refine ⟨.sl id (off + 0 * k) (u - 0) k, fun h1 => ?_, .inr ⟨id, off + 0 * k, m, cs, ?_, hb, hll, ?_, ?_⟩, fun b ho _ _ _ _ e => ?_, fun id' hn _ _ _ e => ?_⟩
    · unfold sliceB
      show (bif Nat.beq k k then cutV id off L.length k h1 0 u none else RV.no) = _
      rw [Nat.beq_refl]
      show cutV id off L.length k h1 0 u none = _
      unfold cutV
      rw [Nat.ble_eq_true_of_le (Nat.zero_le u), Nat.ble_eq_true_of_le h2]; rfl
    · congr 1; simp; omega
    · rw [List.length_take, Nat.min_eq_left h2]; omega
    · rw [List.length_take, Nat.min_eq_left h2, ← flat_take he L u h2, ← hx, List.take_take, Nat.min_eq_left hmul]; simp
    · cases e; exact ho _ _ _ _ rfl
    · cases e; exact hn _ _ _ rfl
end
end Go.Ev
namespace Go.Ev
open Go Go.RowKit Go.ChangeShapes Go.WideShapes Go.ChangeAt
/-- What is read of such a value does not depend on memory. -/
def Plain (P : Program) (e : TypeId) : Prop := ∀ {H : Type} (enc : TypeId × Value → H) (W W' : World) (base : Nat) (sp sp' : Nat → Bool) (held : Bool) (n : Nat) (cs : List Value), DataW.trod enc P W base sp held n e cs = DataW.trod enc P W' base sp' held n e cs
theorem plain_int {P : Program} {e : TypeId} {k : IntKind} (he : P.underlying e = some (.int k)) : Plain P e := by
  intro H enc W W' base sp sp' held n cs
  cases n with
  | zero => rfl
  | succ n =>
    rw [DataW.trod_step, DataW.trod_step]; unfold DataW.trodStep; simp only [he]
    match cs with
    | [] => rfl
    | [c] => cases c <;> rfl
    | c :: _ :: _ => cases c <;> rfl
theorem plain_arr {P : Program} {e i : TypeId} {m : Nat} (he : P.underlying e = some (.array m i)) (hi : Plain P i) : Plain P e := by
  intro H enc W W' base sp sp' held n cs
  cases n with
  | zero => rfl
  | succ n =>
    rw [DataW.trod_step, DataW.trod_step]
    unfold DataW.trodStep
    simp only [he]
    have : (fun j => DataW.trod enc P W base sp held n i ((cs.drop (j * P.cellsOf i)).take (P.cellsOf i))) = fun j => DataW.trod enc P W' base sp' held n i ((cs.drop (j * P.cellsOf i)).take (P.cellsOf i)) := by
      funext j; exact hi enc W W' base sp sp' held n _
    rw [this]
theorem mapM_same {α β : Type} {f g : α → Option β} : ∀ l : List α, (∀ x ∈ l, f x = g x) → l.mapM f = l.mapM g
  | [], _ => rfl
  | x :: l, h => by
    rw [List.mapM_cons, List.mapM_cons, h x (by simp), mapM_same l fun y hy => h y (List.mem_cons_of_mem _ hy)]
theorem cell_below {W W' : World} {a : Addr} (hb : Below W.heap.size W W') (ha : a.block < W.heap.size) : W'.cell? a = W.cell? a := by
  unfold World.cell?
  rw [hb.block a.block ha]
/-- A slice of elements of k numbers each, as it came in: all its numbers, up to its capacity. -/
def SlArgK (k : Nat) (W : World) (val : Value) (len : Nat) (zs : List Int) : Prop := (val = .slice none 0 0 ∧ len = 0 ∧ zs = []) ∨ ∃ (b off cap : Nat), val = .slice (some ⟨b, off, none⟩) len cap ∧ len ≤ cap ∧ zs.length = cap * k ∧
  (∀ i (hi : i < zs.length), W.cell? ⟨b, off + i, none⟩ = some (.int .i64 zs[i])) ∧ ∀ i, i < zs.length → W.frozen? ⟨b, off + i, none⟩ = false
/-- A slice of elements of k cells, that is only read. -/
def Srk (k : Nat) (h : H) (v : V) (len : Nat) (cs0 : List V) : Prop := (v = .sn ∧ len = 0 ∧ cs0 = []) ∨ ∃ id off m cs, v = .sl id off len k ∧ (h.get id = .cells m cs ∨ h.get id = .rom m cs) ∧ cs.length = m ∧ off + len * k ≤ m ∧ (cs.drop off).take (len * k) = cs0
theorem Srk.lt {k len : Nat} {h : H} {v : V} {cs0 : List V} (hs : Srk k h v len cs0) (hc : HC h) : ∀ id off n sz, v = .sl id off n sz → id.nat < h.nx.nat := by
  rcases hs with ⟨rfl, _⟩ | ⟨id, off, m, cs, rfl, hb, _⟩
  · exact fun _ _ _ _ h => by cases h
  · exact fun _ _ _ _ h => by cases h; exact hc.lt (by rcases hb with hb | hb <;> rw [hb] <;> simp)
theorem Srk.grow {k len : Nat} {h h' : H} {v : V} {cs0 : List V} (hs : Srk k h v len cs0) (hc : HC h) (hg : Grow h.nx.nat h h') : Srk k h' v len cs0 := by
  have lt := hs.lt hc
  rcases hs with hs | ⟨id, off, m, cs, rfl, hb, hx⟩
  · exact .inl hs
  · exact .inr ⟨id, off, m, cs, rfl, by rw [hg.old id (lt _ _ _ _ rfl)]; exact hb, hx⟩
section
variable {Y : Rig} {ι : Io} {h : H} {W : World}
theorem Roms.addK (r : Roms Y ι h W) {k : Nat} (hk : 0 < k) {val : Value} {len : Nat} {zs : List Int} (ha : SlArgK k W val len zs) : ∃ ι' h' v, Roms Y ι' h' W ∧ Ext ι ι' ∧ VR ι' v val ∧ Srk k h' v len ((zs.take (len * k)).map iE) ∧ Grow h.nx.nat h h' := by
  rcases ha with ⟨rfl, rfl, rfl⟩ | ⟨b, off, cap, rfl, hlen, hzl, hcell, hfro⟩
  · exact ⟨ι, h, .sn, r, Ext.refl _, .sn, .inl ⟨rfl, rfl, by simp⟩, Grow.refl _ _⟩
  -- all its numbers, as a slice of numbers
  have ha1 : SlArg W (.slice (some ⟨b, off, none⟩) zs.length zs.length) zs := .inr ⟨b, off, zs.length, zs, rfl, Nat.le_refl _, by rw [List.take_length], hcell, hfro⟩
  have hkk : len * k ≤ cap * k := Nat.mul_le_mul_right k hlen
  by_cases hz : zs.length = 0
  · have hc0 : cap = 0 := by
      rw [hz] at hzl
      rcases Nat.mul_eq_zero.1 hzl.symm with h | h
      · exact h
      · omega
    subst hc0
    obtain rfl : len = 0 := by omega
    obtain rfl := List.length_eq_zero_iff.1 hz
    have g : Grow h.nx.nat h (h.new (.rom 0 [])) := Grow.new (Nat.le_refl _) _
    refine ⟨ι, h.new (.rom 0 []), .sl h.nx 0 0 k, ⟨r.wr.more (HX.new h _), g.hc r.hc, fun id q hq => ?_⟩, Ext.refl _, .sl0, .inr ⟨h.nx, 0, 0, [], rfl, .inr get_new_same, rfl, by simp, by simp⟩, g⟩
    have : id.nat < h.nx.nat := by
      rcases Nat.lt_or_ge id.nat h.nx.nat with h1 | h1
      · exact h1
      · rw [r.wr.fresh id h1] at hq; cases hq
    rw [get_new_old this]
    exact r.all id q hq
  · obtain ⟨ι', h', v, r', x, vr, sr, g⟩ := r.add ha1
    rcases sr with ⟨_, e⟩ | ⟨id, off', m, cs, rfl, hb, hl, hm, hx⟩
    · rw [e] at hz; exact absurd rfl hz
    · obtain ⟨q, hq, hcap, eb⟩ : ∃ q, ι' id = some q ∧ off' + zs.length * 1 ≤ q.room ∧ (⟨b, off, none⟩ : Addr) = ⟨q.b, q.base + off', none⟩ := by
        generalize hn : zs.length = n at vr
        generalize hval : Value.slice (some ⟨b, off, none⟩) n n = val at vr
        cases vr with
        | sl hq hcap hn' h0 => cases hval; exact ⟨_, hq, hcap, rfl⟩
        | sl0 => omega
      rw [eb]
      refine ⟨ι', h', .sl id off' len k, r', x, ?_, .inr ⟨id, off', m, cs, rfl, hb, hl, by omega, ?_⟩, g⟩
      · refine VR.sl (c := cap) hq ?_ hlen hk
        rw [← hzl]; simpa using hcap
      · apply List.ext_getElem?
        intro i
        rw [List.getElem?_take, List.getElem?_map]
        by_cases hi : i < len * k
        · rw [if_pos hi, List.getElem?_drop, hx i (by omega), List.getElem?_take, if_pos hi, List.getElem?_eq_getElem (by omega)]; rfl
        · rw [if_neg hi, List.getElem?_take, if_neg hi]; rfl
end
theorem trod_array2 {H : Type} {enc : TypeId × Value → H} {P : Program} {w : World} {base : Nat} {spare : Nat → Bool} {held : Bool} {t e : TypeId} {fuel : Nat} {c0 c1 : Value} {x : DataW H × List MemPlace} (ht : P.underlying t = some (.array 2 e)) (hce : P.cellsOf e = 1)
    (h : DataW.trod enc P w base spare held fuel t [c0, c1] = some x) : ∃ y0 y1 n, DataW.trod enc P w base spare held n e [c0] = some y0 ∧ DataW.trod enc P w base spare held n e [c1] = some y1 := by
  cases fuel with
  | zero => simp [DataW.trod] at h
  | succ n =>
    unfold DataW.trod at h
    rw [ht] at h
    have r2 : List.range 2 = [0, 1] := rfl
    simp [r2, hce] at h
    obtain ⟨_, h⟩ := h
    cases h0 : DataW.trod enc P w base spare held n e [c0] with
    | none => simp [h0] at h
    | some y0 =>
      cases h1 : DataW.trod enc P w base spare held n e [c1] with
      | none => simp [h0, h1] at h
      | some y1 => exact ⟨y0, y1, n, h0, h1⟩
theorem cells2_of {w : World} {A : Addr} {cs : List Value} (h : w.cells? 0 A 2 = some cs) : ∃ c0 c1, cs = [c0, c1] ∧ w.cell? (A.add 0) = some c0 ∧ w.cell? (A.add 1) = some c1 := by
  unfold World.cells? at h
  rw [if_pos (Nat.zero_le _), show List.range 2 = [0, 1] from rfl] at h
  cases h0 : w.cell? (A.add 0) with
  | none => simp [List.mapM_cons, h0] at h
  | some c0 =>
    cases h1 : w.cell? (A.add 1) with
    | none => simp [List.mapM_cons, h0, h1] at h
    | some c1 => simp [List.mapM_cons, h0, h1] at h; exact ⟨c0, c1, h.symm, rfl, rfl⟩
def numZ (c : Option Value) : Int := match c with | some (.int _ n) => n | _ => 0
end Go.Ev
namespace Go.Ev
open Go Go.RowKit Go.ChangeShapes Go.WideShapes Go.ChangeAt
def qE (x : Int × Int) : List V := [.i .i64 x.1, .i .i64 x.2]
theorem qE_len : ∀ x, (qE x).length = 2 := fun _ => rfl
theorem flat_drop {α : Type} {k : Nat} {e : α → List V} (he : ∀ x, (e x).length = k) : ∀ (L : List α) (i : Nat) (hi : i < L.length), ((L.flatMap e).drop (i * k)).take k = e L[i]
  | [], i, hi => absurd hi (Nat.not_lt_zero _)
  | x :: L, 0, _ => by rw [List.flatMap_cons, Nat.zero_mul, List.drop_zero, ← he x, List.take_left]; rfl
  | x :: L, i + 1, hi => by
    rw [List.flatMap_cons, show (i + 1) * k = (e x).length + i * k by rw [he, Nat.add_mul]; omega, List.drop_length_add_append, flat_drop he L i (by simpa using hi)]; rfl
def Srp (h : H) (v : V) (L : List (Int × Int)) : Prop := Srk 2 h v L.length (L.flatMap qE)
section
variable {h h' : H} {v : V} {L : List (Int × Int)}
theorem Srp.len (hs : Srp h v L) (h1 : H) : lenV v h1 = .ok (.i .i64 (L.length : Int)) h1 := by
  rcases hs with ⟨rfl, h0, _⟩ | ⟨id, off, m, cs, rfl, _⟩
  · rw [h0]; rfl
  · rfl
theorem Srp.grow (hs : Srp h v L) (hc : HC h) (hg : Grow h.nx.nat h h') : Srp h' v L := Srk.grow hs hc hg
theorem loadn_r {h : H} {id : K} {m n off : Nat} {cs : List V} (hb : h.get id = .cells m cs ∨ h.get id = .rom m cs) (hm : off + n ≤ m) : loadV h (.p id off) (many? n) = .ok (.agg (takeN n (dropN off cs))) h := by
  show okv ((h.get id).onC none fun m cs => many? n cs m off) h = _
  have e : many? n cs m off = some (.agg (takeN n (dropN off cs))) := by
    show (bif Nat.ble (off + n) m then some _ else none) = _
    rw [Nat.ble_eq_true_of_le hm]; rfl
  rcases hb with hb | hb <;> rw [hb] <;> show okv (many? n cs m off) h = _ <;> rw [e] <;> rfl
theorem Srp.at2 (hs : Srp h v L) {i : Nat} (hi : i < L.length) : ∃ id q, (∀ k h1, iadsV 2 v (.i k (i : Int)) h1 = .ok (.p id q) h1) ∧ loadV h (.p id q) (many? 2) = .ok (.agg [.i .i64 L[i].1, .i .i64 L[i].2]) h ∧ loadV h (.p id (q + 0 * 1)) one? = .ok (.i .i64 L[i].1) h ∧ loadV h (.p id (q + 1 * 1)) one? = .ok (.i .i64 L[i].2) h := by
  rcases hs with ⟨rfl, h0, _⟩ | ⟨id, off, m, cs, rfl, hb, hl, hm, hx⟩
  · omega
  · have h1 := flat_drop qE_len L i hi
    rw [← hx, List.drop_take, List.take_take, List.drop_drop, Nat.min_eq_left (by omega)] at h1
    refine ⟨id, off + i * 2, fun k h1 => ?_, ?_, ?_, ?_⟩
    · rw [iads_sl, idx_n hi]
    · rw [loadn_r hb (by omega), takeN_eq, dropN_eq, h1]; rfl
    · refine load_r hb ?_
      rw [nth_eq]
      have := congrArg (fun l => l[0]?) h1
      simp only [List.getElem?_take, List.getElem?_drop] at this
      simpa [qE] using this
    · refine load_r hb ?_
      rw [nth_eq]
      have := congrArg (fun l => l[1]?) h1
      simp only [List.getElem?_take, List.getElem?_drop] at this
      simpa [qE] using this
end
theorem inR_of {z : Int} (h : (Lit.int .i64 z).wf = true) : inR .i64 z = true := by
  have h : (decide (IntKind.min .i64 ≤ z) && decide (z ≤ IntKind.max .i64)) = true := h
  rw [Bool.and_eq_true, decide_eq_true_eq, decide_eq_true_eq] at h
  have h1 : -9223372036854775808 ≤ z := h.1
  have h2 : z ≤ 9223372036854775807 := h.2
  cases z with
  | ofNat m => exact Nat.ble_eq_true_of_le (by show m ≤ 9223372036854775807; have : Int.ofNat m = (m : Int) := rfl; omega)
  | negSucc m => exact Nat.ble_eq_true_of_le (by show m + 1 ≤ 9223372036854775808; omega)
theorem trod_iw {H : Type} {enc : TypeId × Value → H} {P : Program} {w : World} {base : Nat} {spare : Nat → Bool} {held : Bool} {e : TypeId} {fuel : Nat} {c : Value} {x : DataW H × List MemPlace} (he : P.underlying e = some (.int .i64))
    (h : DataW.trod enc P w base spare held fuel e [c] = some x) : ∃ z, c = .int .i64 z ∧ inR .i64 z = true := by
  cases fuel with
  | zero => simp [DataW.trod] at h
  | succ n =>
    rw [DataW.trod_step] at h
    unfold DataW.trodStep at h
    simp only [he] at h
    cases c <;> simp only [reduceCtorEq] at h
    rename_i k' z
    split at h
    · rename_i hk; exact ⟨z, by rw [hk.1], inR_of hk.2⟩
    · cases h
/-- Numbers, two by two. -/
def pairsOf (len : Nat) (zs : List Int) : List (Int × Int) := (List.range len).map fun i => (zs.getD (i * 2) 0, zs.getD (i * 2 + 1) 0)
theorem pairsOf_len {len : Nat} {zs : List Int} : (pairsOf len zs).length = len := by simp [pairsOf]
theorem pairsOf_flat : ∀ (len : Nat) {zs : List Int}, len * 2 ≤ zs.length → (pairsOf len zs).flatMap qE = (zs.take (len * 2)).map iE
  | 0, zs, _ => by simp [pairsOf]
  | len + 1, zs, h => by
    have ih := pairsOf_flat len (zs := zs) (by omega)
    unfold pairsOf at ih ⊢
    rw [List.range_succ, List.map_append, List.flatMap_append, ih, show (len + 1) * 2 = len * 2 + 1 + 1 by omega, List.take_succ_eq_append_getElem (by omega), List.take_succ_eq_append_getElem (by omega), List.map_append, List.map_append, List.append_assoc]
    congr 1
    simp only [List.map_cons, List.map_nil, List.flatMap_cons, List.flatMap_nil, List.append_nil, qE, iE, List.getD, List.getElem?_eq_getElem (show len * 2 < zs.length by omega), List.getElem?_eq_getElem (show len * 2 + 1 < zs.length by omega), Option.getD_some, List.singleton_append]
theorem SlArgK.le {k len : Nat} {W : World} {v : Value} {zs : List Int} (h : SlArgK k W v len zs) : len * k ≤ zs.length := by
  rcases h with ⟨_, rfl, rfl⟩ | ⟨b, off, cap, _, h1, h2, _⟩
  · simp
  · rw [h2]; exact Nat.mul_le_mul_right _ h1
theorem Srk.srp {h : H} {v : V} {len : Nat} {zs : List Int} (hs : Srk 2 h v len ((zs.take (len * 2)).map iE)) (hl : len * 2 ≤ zs.length) : Srp h v (pairsOf len zs) := by
  unfold Srp
  rw [pairsOf_len, pairsOf_flat len hl]; exact hs
theorem Srp.beq {h : H} {v : V} {L : List (Int × Int)} (hs : Srp h v L) : beqV v v = true := by
  rcases hs with ⟨rfl, _⟩ | ⟨id, off, m, cs, rfl, _⟩
  · rfl
  · show (id.beq id && Nat.beq off off && Nat.beq L.length L.length && Nat.beq 2 2) = true
    rw [K.beq_refl, Nat.beq_same, Nat.beq_same]; rfl
/-! ### More rules -/
section
variable {fs : T EF} {fr : Fr} {h : H} {x y z : EO} {k : K}
theorem stay_iadr {n sz : Nat} : (stays fs goNo fr h ⟨some k, none, .iadr n sz x y⟩ = true) = again ((ev fr x).onP fun id off => idxV (ev fr y) n fun m => .ok (.p id (off + m * sz)) h) (getV (fr.get k)) := chk_again
theorem fill_2 {x y : EO} {z1 z2 : V} : fillE fr [z1, z2] [(0, 1, x), (1, 1, y)] = oGet (cellsN 1 (ev fr x)) none fun cs => oGet (cellsN 1 (ev fr y)) none fun ds => some (setMany (setMany [z1, z2] 0 cs) 1 ds) := of_eq_true (eq_self _)
theorem set_2 {z1 z2 a b : V} : setMany (setMany [z1, z2] 0 [a]) 1 [b] = [a, b] := of_eq_true (eq_self _)
theorem ix2_0 {kk : IntKind} {f : Nat → RV} : idxV (.i kk 0) 2 f = f 0 := of_eq_true (eq_self _)
theorem ix2_1 {kk : IntKind} {f : Nat → RV} : idxV (.i kk 1) 2 f = f 1 := of_eq_true (eq_self _)
theorem of9 : Int.ofNat 9 = 9 := of_eq_true (eq_self _)
theorem of40 : Int.ofNat 40 = 40 := of_eq_true (eq_self _)
theorem beq_yl {id : K} : beqV (.yl id) (.yl id) = true := by
  show id.beq id = true
  exact K.beq_refl id
end
end Go.Ev
namespace Go.Ev
open Go Go.RowKit
section
variable {fs : T EF}
end
end Go.Ev
namespace Go.Ev
open Go Go.RowKit
section
variable {h h' : H} {v u : V} {L : List (Int × Int)} {b : Nat}
/-! ### Slices of slices of pairs -/
def vE (u : V) : V := u
structure Sll (h : H) (v : V) (us : List V) (Ls : List (List (Int × Int))) : Prop where
  len : us.length = Ls.length
  out : Sl vE h v us
  inn : ∀ i (h1 : i < us.length) (h2 : i < Ls.length), Srp h us[i] Ls[i]
  sep : ∀ u ∈ us, ∀ id off n sz, u = .sl id off n sz → NotIn id v
section
variable {us : List V} {Ls : List (List (Int × Int))}
theorem Sll.nil : Sll h .sn [] [] := ⟨rfl, Sl.nil, fun i h1 => absurd h1 (by simp), fun u hu => absurd hu (by simp)⟩
theorem Sll.grow (s : Sll h v us Ls) (hc : HC h) (hg : Grow h.nx.nat h h') : Sll h' v us Ls := ⟨s.len, s.out.grow hc hg, fun i h1 h2 => (s.inn i h1 h2).grow hc hg, s.sep⟩
theorem Srp.cell {L : List (Int × Int)} (hs : Srp h v L) : cellsN 1 v = some [v] := by rcases hs with ⟨rfl, _⟩ | ⟨_, _, _, _, rfl, _⟩ <;> rfl
theorem Srp.old {L : List (Int × Int)} (hs : Srp h v L) (hg : ∀ id off n sz, v = .sl id off n sz → h'.get id = h.get id) : Srp h' v L := by
  rcases hs with hs | ⟨id, off, m, cs, rfl, hb, hx⟩
  · exact .inl hs
  · exact .inr ⟨id, off, m, cs, rfl, by rw [hg _ _ _ _ rfl]; exact hb, hx⟩
/-- append(v, u): a slice more. -/
theorem Sll.push (s : Sll h v us Ls) (ho : Own b v) (hb : b ≤ h.nx.nat) (hc : HC h) (hn : Ls.length < 16777216) (hu : Srp h u L) (hsep : ∀ id off n sz, u = .sl id off n sz → NotIn id v) :
    ∃ v' h', appV 1 (h.new (.cells (1 * 1) [u])) v (.sl h.nx 0 1 1) = .ok v' h' ∧ Sll h' v' (us ++ [u]) (Ls ++ [L]) ∧ Own b v' ∧ Grow b h h' ∧ ∀ id : K, id.nat < h.nx.nat → NotIn id v → h'.get id = h.get id ∧ NotIn id v' := by
  obtain ⟨v', h', e1, e2, e3, e4, e5⟩ := Sl.push (e := vE) (x := u) (c := u) rfl s.out ho hb hc (by rw [s.len]; exact hn)
  have hul : ∀ id off n sz, u = .sl id off n sz → id.nat < h.nx.nat := Srk.lt hu hc
  have hil : ∀ w ∈ us, ∀ id off n sz, w = .sl id off n sz → id.nat < h.nx.nat := fun w hw => by
    obtain ⟨i, hi, rfl⟩ := List.getElem_of_mem hw
    exact Srk.lt (s.inn i hi (by rw [← s.len]; exact hi)) hc
  refine ⟨v', h', e1, ⟨by rw [List.length_append, List.length_append, s.len]; rfl, e2, fun i h1 h2 => ?_, fun w hw id off n sz ew => ?_⟩, e3, e4, e5⟩
  · by_cases hi : i < us.length
    · have hi2 : i < Ls.length := by rw [← s.len]; exact hi
      rw [List.getElem_append_left hi, List.getElem_append_left hi2]
      exact (s.inn i hi hi2).old fun id off n sz ew => (e5 id (hil _ (List.getElem_mem hi) _ _ _ _ ew) (s.sep _ (List.getElem_mem hi) _ _ _ _ ew)).1
    · have hl : i = us.length := by rw [List.length_append] at h1; simp at h1; omega
      subst hl
      rw [List.getElem_append_right (Nat.le_refl _), List.getElem_append_right (by rw [s.len]; exact Nat.le_refl _)]
      simp only [Nat.sub_self, List.getElem_cons_zero, s.len]
      exact hu.old fun id off n sz ew => (e5 id (hul _ _ _ _ ew) (hsep _ _ _ _ ew)).1
  · rcases List.mem_append.1 hw with hw | hw
    · exact (e5 id (hil w hw _ _ _ _ ew) (s.sep w hw _ _ _ _ ew)).2
    · rw [List.mem_singleton.1 hw] at ew
      exact (e5 id (hul _ _ _ _ ew) (hsep _ _ _ _ ew)).2
end
end
end Go.Ev
namespace Go.Ev
section
variable {h h' : H} {v u : V} {L M : List (Int × Int)}
/-- v[:u] of pairs that are only read. -/
theorem Srp.cut {u : Nat} {kk : IntKind} (hs : Srp h v L) (h2 : u ≤ L.length) : ∃ v', (∀ h1, sliceB 2 v none (some (.i kk (u : Int))) none h1 = .ok v' h1) ∧ Srp h v' (L.take u) ∧ (∀ b, Own b v → Own b v') := by
  rcases hs with ⟨rfl, h0, _⟩ | ⟨id, off, m, cs, rfl, hb, hll, hm, hx⟩
  · have hu0 : u = 0 := by omega
    subst hu0
    exact ⟨.sn, fun h1 => rfl, .inl ⟨rfl, by simp, by simp⟩, fun _ h => h⟩
  · have hmul : u * 2 ≤ L.length * 2 := Nat.mul_le_mul_right 2 h2
    refine ⟨.sl id (off + 0 * 2) (u - 0) 2, fun h1 => ?_, .inr ⟨id, off + 0 * 2, m, cs, ?_, hb, hll, ?_, ?_⟩, fun b ho _ _ _ _ e => by cases e; exact ho _ _ _ _ rfl⟩
    · unfold sliceB
      show cutV id off L.length 2 h1 0 u none = _
      unfold cutV
      rw [Nat.ble_eq_true_of_le (Nat.zero_le u), Nat.ble_eq_true_of_le h2]; rfl
    · congr 1; simp; omega
    · rw [List.length_take, Nat.min_eq_left h2]; omega
    · rw [List.length_take, Nat.min_eq_left h2, ← flat_take qE_len L u h2, ← hx, List.take_take, Nat.min_eq_left hmul]; simp
/-- append to nil. -/
theorem Srp.appN (hs : Srp h u M) (_ : HC h) (hn : M.length ≤ 16777216) : ∃ v' h', appV 2 h .sn u = .ok v' h' ∧ Sk 2 qE h' v' M ∧ Own h.nx.nat v' ∧ Grow h.nx.nat h h' := by
  have hadd : Go.Ev.addOf 2 h u = some (M.length, M.flatMap qE) := by
    rcases hs with ⟨rfl, h0, h1⟩ | ⟨id, off, m, cs, rfl, hb, hll, hm, hx⟩
    · rw [h1, h0]; rfl
    · show (h.get id).onC none (fun len cs => bif Nat.beq 2 2 && Nat.ble (off + M.length * 2) len then some (M.length, takeN (M.length * 2) (dropN off cs)) else none) = _
      have e0 : (h.get id).onC none (fun len cs => bif Nat.beq 2 2 && Nat.ble (off + M.length * 2) len then some (M.length, takeN (M.length * 2) (dropN off cs)) else none) = (bif Nat.beq 2 2 && Nat.ble (off + M.length * 2) m then some (M.length, takeN (M.length * 2) (dropN off cs)) else none) := by
        rcases hb with hb | hb <;> rw [hb] <;> rfl
      rw [e0, Nat.ble_eq_true_of_le hm, takeN_eq, dropN_eq, hx]; rfl
  unfold appV
  rw [hadd]
  show ∃ v' h', (bif Nat.ble M.length 16777216 then app0 2 h M.length (M.flatMap qE) else RV.no) = .ok v' h' ∧ _
  rw [Nat.ble_eq_true_of_le hn]
  show ∃ v' h', app0 2 h M.length (M.flatMap qE) = .ok v' h' ∧ _
  unfold app0
  by_cases hz : M.length = 0
  · have : M = [] := List.length_eq_zero_iff.1 hz
    subst this
    exact ⟨.sn, h, rfl, Sk.nil, Own.sn, Grow.refl _ _⟩
  · rw [show Nat.beq M.length 0 = false by rw [← Bool.not_eq_true]; intro h; exact hz (Nat.eq_of_beq_eq_true h)]
    exact ⟨_, _, rfl, .inr ⟨h.nx, 0, M.length * 2, M.flatMap qE, rfl, get_new_same, flat_len qE_len M, by omega, by rw [List.drop_zero, List.take_of_length_le (by rw [flat_len qE_len]; omega)]⟩, fun _ _ _ _ h => by cases h; exact Nat.le_refl _, Grow.new (Nat.le_refl _) _⟩
end
end Go.Ev
namespace Go.Ev
open Go Go.RowKit Go.ChangeShapes Go.WideShapes Go.ChangeAt
/-- An inner slice, as it came in. -/
def InArg (k : Nat) (W : World) (val : Value) (len : Nat) (zs : List Int) : Prop := SlArgK k W val len zs ∨ ∃ ad : Addr, val = .slice (some ad) 0 0 ∧ len = 0 ∧ zs = []
abbrev NA := Value × Nat × List Int
/-- A slice of slices, as it came in: all that lie up to its capacity. -/
def NArg (k : Nat) (W : World) (val : Value) (len : Nat) (as : List NA) : Prop := (val = .slice none 0 0 ∧ len = 0 ∧ as = []) ∨ ∃ (b off cap : Nat), val = .slice (some ⟨b, off, none⟩) len cap ∧ len ≤ cap ∧ as.length = cap ∧
  (∀ i (hi : i < as.length), W.cell? ⟨b, off + i, none⟩ = some as[i].1) ∧ (∀ i, i < as.length → W.frozen? ⟨b, off + i, none⟩ = false) ∧ ∀ a ∈ as, InArg k W a.1 a.2.1 a.2.2
/-- What is read of an inner slice. -/
def InRead (k : Nat) (h : H) (u : V) (a : NA) : Prop := Srk k h u a.2.1 ((a.2.2.take (a.2.1 * k)).map iE)
section
variable {Y : Rig} {ι : Io} {h : H} {W : World}
theorem Roms.zero (r : Roms Y ι h W) {k : Nat} (ad : Addr) : ∃ h' v, Roms Y ι h' W ∧ VR ι v (.slice (some ad) 0 0) ∧ Srk k h' v 0 [] ∧ Grow h.nx.nat h h' ∧ v.one = true := by
  have g : Grow h.nx.nat h (h.new (.rom 0 [])) := Grow.new (Nat.le_refl _) _
  refine ⟨h.new (.rom 0 []), .sl h.nx 0 0 k, ⟨r.wr.more (HX.new h _), g.hc r.hc, fun id q hq => ?_⟩, .sl0, .inr ⟨h.nx, 0, 0, [], rfl, .inr get_new_same, rfl, by simp, by simp⟩, g, rfl⟩
  have : id.nat < h.nx.nat := by
    rcases Nat.lt_or_ge id.nat h.nx.nat with h1 | h1
    · exact h1
    · rw [r.wr.fresh id h1] at hq; cases hq
  rw [get_new_old this]
  exact r.all id q hq
theorem Srk.one1 {k len : Nat} {v : V} {cs : List V} (hs : Srk k h v len cs) : v.one = true := by rcases hs with ⟨rfl, _⟩ | ⟨_, _, _, _, rfl, _⟩ <;> rfl
theorem Roms.addI (r : Roms Y ι h W) {k : Nat} (hk : 0 < k) {a : NA} (ha : InArg k W a.1 a.2.1 a.2.2) : ∃ ι' h' v, Roms Y ι' h' W ∧ Ext ι ι' ∧ VR ι' v a.1 ∧ InRead k h' v a ∧ Grow h.nx.nat h h' := by
  obtain ⟨val, len, zs⟩ := a
  rcases ha with ha | ⟨ad, rfl, rfl, rfl⟩
  · exact r.addK hk ha
  · obtain ⟨h', v, r', vr, sr, g, _⟩ := r.zero (k := k) ad
    exact ⟨ι, h', v, r', Ext.refl _, vr, by show Srk k h' v 0 (([] : List Int).take (0 * k) |>.map iE); simpa using sr, g⟩
/-- All of them. -/
theorem Roms.addL {k : Nat} (hk : 0 < k) : ∀ (as : List NA) {ι : Io} {h : H}, Roms Y ι h W → (∀ a ∈ as, InArg k W a.1 a.2.1 a.2.2) → ∃ ι' h' us, Roms Y ι' h' W ∧ Ext ι ι' ∧ VRs ι' us (as.map (·.1)) ∧ us.length = as.length ∧ (∀ i (h1 : i < us.length) (h2 : i < as.length), InRead k h' us[i] as[i]) ∧ Grow h.nx.nat h h'
  | [], ι, h, r, _ => ⟨ι, h, [], r, Ext.refl _, VRs.nil, rfl, fun i h1 => absurd h1 (by simp), Grow.refl _ _⟩
  | a :: as, ι, h, r, ha => by
    obtain ⟨ι1, h1, u, r1, x1, v1, s1, g1⟩ := r.addI hk (ha a (by simp))
    obtain ⟨ι2, h2, us, r2, x2, v2, l2, s2, g2⟩ := Roms.addL hk as r1 fun b hb => ha b (by simp [hb])
    refine ⟨ι2, h2, u :: us, r2, x1.trans x2, VRs.cons (v1.mono x2) v2, by simp [l2], fun i q1 q2 => ?_, g1.trans (g2.low g1.nx)⟩
    cases i with
    | zero => exact Srk.grow s1 r1.hc g2
    | succ i => exact s2 i (by simpa using q1) (by simpa using q2)
/-- A slice of slices comes in. -/
theorem Roms.addN (r : Roms Y ι h W) {k : Nat} (hk : 0 < k) {val : Value} {len : Nat} {as : List NA} (ha : NArg k W val len as) : ∃ ι' h' v us, Roms Y ι' h' W ∧ Ext ι ι' ∧ VR ι' v val ∧ Sr vE h' v us ∧ us.length = len ∧ (∀ i (h1 : i < us.length) (h2 : i < as.length), InRead k h' us[i] as[i]) ∧ len ≤ as.length ∧ Grow h.nx.nat h h' := by
  rcases ha with ⟨rfl, rfl, rfl⟩ | ⟨b, off, cap, rfl, hlen, hcap, hcell, hfro, hin⟩
  · exact ⟨ι, h, .sn, [], r, Ext.refl _, .sn, Sr.nil, rfl, fun i h1 => absurd h1 (by simp), Nat.le_refl _, Grow.refl _ _⟩
  obtain ⟨ι1, h1, us, r1, x1, v1, l1, s1, g1⟩ := Roms.addL hk as r hin
  have hn : ι1 h1.nx = none := r1.wr.fresh _ (Nat.le_refl _)
  by_cases hz : as.length = 0
  · have hc0 : cap = 0 := by omega
    subst hc0
    obtain rfl : len = 0 := by omega
    obtain ⟨h2, v, r2, vr, sr, g2, _⟩ := r1.zero (k := 1) ⟨b, off, none⟩
    refine ⟨ι1, h2, v, [], r2, x1, vr, ?_, rfl, fun i q => absurd q (by simp), by omega, g1.trans (g2.low g1.nx)⟩
    rcases sr with ⟨rfl, _, _⟩ | ⟨id, o, m, cs, rfl, q1, q2, q3, q4⟩
    · exact Sr.nil
    · exact .inr ⟨id, o, m, cs, rfl, q1, q2, by simpa using q3, fun i hi => absurd hi (by simp)⟩
  · have h0 := hcell 0 (by omega)
    obtain ⟨cur, ty, fz, hb⟩ : ∃ cur ty fz, W.heap[b]? = some (.cells cur ty fz) := by
      unfold World.cell? at h0
      split at h0
      · rename_i c t f hh; exact ⟨c, t, f, hh⟩
      · cases h0
    have hbl : b < W.heap.size := (Array.getElem?_eq_some_iff.1 hb).1
    have hcur : ∀ i (hi : i < as.length), cur[off + i]? = some as[i].1 := fun i hi => by
      have := hcell i hi
      rw [cell_of_row W b _ cur ty fz hb] at this
      exact this
    have hsz : off + as.length ≤ cur.size := by
      have := hcur (as.length - 1) (by omega)
      have := (Array.getElem?_eq_some_iff.1 this).1
      omega
    have hin2 : List.take as.length (List.drop off cur.toList) = as.map (·.1) := by
      apply List.ext_getElem?
      intro i
      rw [List.getElem?_take, List.getElem?_map]
      by_cases hi : i < as.length
      · rw [if_pos hi, List.getElem?_drop, Array.getElem?_toList, hcur i hi, List.getElem?_eq_getElem hi]; rfl
      · rw [if_neg hi, List.getElem?_eq_none (by omega)]; rfl
    obtain ⟨q, hq⟩ : ∃ q : Pl, q = ⟨b, off, as.length, some (cur, ty, fz)⟩ := ⟨_, rfl⟩
    have hext := updI_ext (q := q) hn
    have g : Grow h1.nx.nat h1 (h1.new (.rom as.length us)) := Grow.new (Nat.le_refl _) _
    have hlt : ∀ id q', ι1 id = some q' → id.nat < h1.nx.nat := fun id q' hq' => by
      rcases Nat.lt_or_ge id.nat h1.nx.nat with h2 | h2
      · exact h2
      · rw [r1.wr.fresh id h2] at hq'; cases hq'
    have hall : ∀ id q', updI ι1 h1.nx q id = some q' → ∃ n cs, (h1.new (.rom as.length us)).get id = .rom n cs ∧ ∃ p, q'.pin = some p ∧ W.heap[q'.b]? = some (.cells p.1 p.2.1 p.2.2) := fun id q' hq' => by
      by_cases e : id = h1.nx
      · subst e
        rw [updI_same] at hq'
        cases hq'
        subst hq
        exact ⟨_, _, get_new_same, _, rfl, hb⟩
      · rw [updI_other _ _ e] at hq'
        rw [get_new_old (hlt id q' hq')]
        exact r1.all id q' hq'
    refine ⟨updI ι1 h1.nx q, h1.new (.rom as.length us), .sl h1.nx 0 len 1, us.take len, ⟨⟨fun id q' h' => ?_, fun id q' h' => ?_, fun id id' q1 q2 h1' h2' _ _ _ => ?_, fun id hid => ?_⟩, g.hc r1.hc, hall⟩, x1.trans hext, ?_, ?_, by rw [List.length_take]; omega, fun i q1 q2 => ?_, by omega, g1.trans (g.low g1.nx)⟩
    · by_cases e : id = h1.nx
      · subst e
        rw [updI_same] at h'
        cases h'
        rw [get_new_same]
        subst hq
        refine ⟨cur, ty, fz, hb, by simp [l1], hsz, Nat.le_refl _, fun c hc => ?_, ?_, ?_, ?_⟩
        · obtain ⟨i, hi, rfl⟩ := List.getElem_of_mem hc
          exact Srk.one1 (s1 i hi (by omega))
        · show VRs _ _ (List.take as.length (List.drop off cur.toList))
          rw [hin2]
          exact v1.mono hext
        · intro j h1 h2 h3
          have h1 : off ≤ j := h1
          have h2 : j < off + as.length := h2
          have := hfro (j - off) (by omega)
          unfold World.frozen? at this
          rw [hb] at this
          simp only [Bool.and_eq_false_iff, decide_eq_false_iff_not] at this
          omega
        · intro p hp
          cases hp
          exact ⟨rfl, rfl, fun _ _ => rfl⟩
      · rw [updI_other _ _ e] at h'
        rw [get_new_old (hlt id q' h')]
        exact (r1.wr.blk id q' h').mono hext rfl
    · by_cases e : id = h1.nx
      · subst e; rw [updI_same] at h'; cases h'; subst hq; exact hbl
      · rw [updI_other _ _ e] at h'; exact r1.wr.lt id q' h'
    · obtain ⟨_, _, a1, _⟩ := hall id q1 h1'
      obtain ⟨_, _, a2, _⟩ := hall id' q2 h2'
      exact .inr ⟨by rw [a1]; trivial, by rw [a2]; trivial⟩
    · have hnx : (h1.new (.rom as.length us)).nx.nat = h1.nx.nat + 1 := K.succ_nat _
      rw [hnx] at hid
      rw [updI_other _ _ (fun e => by rw [e] at hid; omega)]
      exact r1.wr.fresh id (by omega)
    · have := VR.sl (off := 0) (n := len) (sz := 1) (c := as.length) (updI_same ι1 h1.nx q) (by subst hq; show 0 + as.length * 1 ≤ as.length; omega) (by omega) (by omega)
      subst hq
      rw [← hcap]
      simpa using this
    · refine .inr ⟨h1.nx, 0, as.length, us, by rw [List.length_take, Nat.min_eq_left (by omega)], .inr get_new_same, l1, by simp; omega, fun i hi => ?_⟩
      have hi' : i < len := by rw [List.length_take] at hi; omega
      rw [Nat.zero_add, List.getElem?_eq_getElem (by omega), List.getElem_take]; rfl
    · rw [List.getElem_take]
      exact Srk.grow (s1 i (by rw [List.length_take] at q1; omega) q2) r1.hc g
end
end Go.Ev
namespace Go.Ev
open Go Go.RowKit Go.ChangeShapes Go.WideShapes Go.ChangeAt
/-- Read in one memory, so it is read in the other. -/
def SameR (H : Type) (enc : TypeId × Value → H) (P : Program) (W W' : World) (e : TypeId) : Prop := ∀ n cs y, DataW.trod enc P W 0 (fun _ => true) true n e cs = some y → DataW.trod enc P W' 0 (fun b => decide (b < W.heap.size)) true n e cs = some y
theorem Plain.sameR {H : Type} {enc : TypeId × Value → H} {P : Program} {W W' : World} {e : TypeId} (pe : Plain P e) : SameR H enc P W W' e := fun n cs y h => by rw [← h]; exact pe enc W' W 0 _ _ true n cs
theorem cells_block {P : Program} {H : Type} {enc : TypeId × Value → H} {W : World} {a : Addr} {e : TypeId} {n i : Nat} {y : DataW H × List MemPlace} (hpos : 0 < P.cellsOf e) (hy : (W.cells? 0 (a.add (i * P.cellsOf e)) (P.cellsOf e)).bind (DataW.trod enc P W 0 (fun _ => true) true n e) = some y) : a.block < W.heap.size ∧ (i = 0 → a.spot = none) := by
  obtain ⟨cs, h1, _⟩ := Option.bind_eq_some_iff.1 hy
  unfold World.cells? at h1
  rw [if_pos (Nat.zero_le _)] at h1
  obtain ⟨k, hk⟩ : ∃ k, P.cellsOf e = k + 1 := ⟨P.cellsOf e - 1, by omega⟩
  rw [hk, List.range_succ_eq_map, List.mapM_cons] at h1
  cases h2 : W.cell? ((a.add (i * (k + 1))).add 0) with
  | none => rw [h2] at h1; simp at h1
  | some c =>
    unfold World.cell? at h2
    have hbk : ((a.add (i * (k + 1))).add 0).block = a.block := by rw [block_add, block_add]
    rw [hbk] at h2
    split at h2
    · rename_i hh
      refine ⟨(Array.getElem?_eq_some_iff.1 hh).1, fun hi => ?_⟩
      subst hi
      have e0 : ((a.add (0 * (k + 1))).add 0) = a := by simp [Addr.add]
      rw [e0] at h2
      cases hsp : a.spot with
      | none => rfl
      | some s => rw [hsp] at h2; cases h2
    · cases h2
theorem trod_same {H : Type} {enc : TypeId × Value → H} {P : Program} {W W' : World} {t e : TypeId} (ht : P.underlying t = some (.slice e)) (pe : SameR H enc P W W' e) (hpos : 0 < P.cellsOf e) (hb : Below W.heap.size W W') : SameR H enc P W W' t := by
  intro fuel cs x hf
  rcases DataW.trod_slice ht hf with ⟨hcs, hx⟩ | ⟨a, len, cap, elems, rest, n, rfl, hcs, hx, h0, hl, hm, hlen, hel, hsp, _⟩
  · rw [hcs] at hf ⊢
    cases fuel with
    | zero => cases hf
    | succ n =>
      rw [DataW.trod_step] at hf ⊢
      unfold DataW.trodStep at hf ⊢
      simp only [ht] at hf ⊢
      exact hf
  · obtain ⟨hrl, hr⟩ := hsp rfl
    rw [hcs] at hf ⊢
    rw [DataW.trod_step] at hf ⊢
    unfold DataW.trodStep at hf ⊢
    simp only [ht] at hf ⊢
    rw [if_pos ⟨h0, hl, hm⟩] at hf ⊢
    rw [← hf]
    by_cases hc0 : cap = 0
    · subst hc0
      obtain rfl : len = 0 := by omega
      simp
    · have hbl : a.block < W.heap.size := by
        by_cases h1 : 0 < len
        · exact (cells_block (i := 0) (y := elems[0]'(by omega)) hpos (by rw [hel 0 h1, List.getElem?_eq_getElem (by omega)])).1
        · exact (cells_block (i := len + 0) (y := rest[0]'(by omega)) hpos (by rw [hr 0 (by omega), List.getElem?_eq_getElem (by omega)])).1
      have hcc : ∀ i, W'.cells? 0 (a.add (i * P.cellsOf e)) (P.cellsOf e) = W.cells? 0 (a.add (i * P.cellsOf e)) (P.cellsOf e) := fun i => by
        unfold World.cells?
        rw [if_pos (Nat.zero_le _), if_pos (Nat.zero_le _)]
        exact mapM_same _ fun j _ => cell_below hb (by rw [block_add, block_add]; exact hbl)
      have el : ∀ i y, (W.cells? 0 (a.add (i * P.cellsOf e)) (P.cellsOf e)).bind (DataW.trod enc P W 0 (fun _ => true) true n e) = some y → (W'.cells? 0 (a.add (i * P.cellsOf e)) (P.cellsOf e)).bind (DataW.trod enc P W' 0 (fun b => decide (b < W.heap.size)) true n e) = (W.cells? 0 (a.add (i * P.cellsOf e)) (P.cellsOf e)).bind (DataW.trod enc P W 0 (fun _ => true) true n e) := fun i y hy => by
        rw [hcc i, hy]
        obtain ⟨cs, h1, h2⟩ := Option.bind_eq_some_iff.1 hy
        rw [h1]
        exact pe n cs y h2
      have e1 : (List.range len).mapM (fun i => (W'.cells? 0 (a.add (i * P.cellsOf e)) (P.cellsOf e)).bind (DataW.trod enc P W' 0 (fun b => decide (b < W.heap.size)) true n e)) = (List.range len).mapM (fun i => (W.cells? 0 (a.add (i * P.cellsOf e)) (P.cellsOf e)).bind (DataW.trod enc P W 0 (fun _ => true) true n e)) := mapM_same _ fun i hi => by
        have hi : i < len := by simpa using hi
        exact el i (elems[i]'(by omega)) (by rw [hel i hi, List.getElem?_eq_getElem (by omega)])
      have e2 : (List.range (cap - len)).mapM (fun j => (W'.cells? 0 (a.add ((len + j) * P.cellsOf e)) (P.cellsOf e)).bind (DataW.trod enc P W' 0 (fun b => decide (b < W.heap.size)) true n e)) = (List.range (cap - len)).mapM (fun j => (W.cells? 0 (a.add ((len + j) * P.cellsOf e)) (P.cellsOf e)).bind (DataW.trod enc P W 0 (fun _ => true) true n e)) := mapM_same _ fun j hj => by
        have hj : j < cap - len := by simpa using hj
        exact el (len + j) (rest[j]'(by omega)) (by rw [hr j hj, List.getElem?_eq_getElem (by omega)])
      rw [e1, e2]
      simp only [hbl, decide_true, if_true]
theorem SameR.trod {H : Type} {enc : TypeId × Value → H} {P : Program} {W W' : World} {t : TypeId} (s : SameR H enc P W W' t) {v : Value} {d : DataW H} {p : List MemPlace} (h : DataW.Trod enc P W 0 (fun _ => true) true t v d p) : DataW.Trod enc P W' 0 (fun b => decide (b < W.heap.size)) true t v d p := by
  obtain ⟨fuel, hf⟩ := h
  exact ⟨fuel, s _ _ _ hf⟩
/-- Choose, for each number below n. -/
theorem choose_list {α : Type} {p : Nat → α → Prop} : ∀ n, (∀ j, j < n → ∃ x, p j x) → ∃ l : List α, l.length = n ∧ ∀ j (h : j < l.length), p j l[j]
  | 0, _ => ⟨[], rfl, fun j h => absurd h (by simp)⟩
  | n + 1, h => by
    obtain ⟨l, h1, h2⟩ := choose_list n fun j hj => h j (by omega)
    obtain ⟨x, hx⟩ := h n (by omega)
    refine ⟨l ++ [x], by simp [h1], fun j hj => ?_⟩
    by_cases e : j < l.length
    · rw [List.getElem_append_left e]; exact h2 j e
    · have : j = l.length := by simp at hj; omega
      subst this
      rw [List.getElem_append_right (Nat.le_refl _)]
      simp only [Nat.sub_self, List.getElem_cons_zero]
      rw [h1]; exact hx
theorem cells1_of {w : World} {A : Addr} {cs : List Value} (h : w.cells? 0 A 1 = some cs) : ∃ c, cs = [c] ∧ w.cell? (A.add 0) = some c := by
  unfold World.cells? at h
  rw [if_pos (Nat.zero_le _), show List.range 1 = [0] from rfl] at h
  cases h0 : w.cell? (A.add 0) with
  | none => simp [List.mapM_cons, h0] at h
  | some c => simp [List.mapM_cons, h0] at h; exact ⟨c, h.symm, rfl⟩
/-- An inner slice of pairs. -/
theorem trod_in2 {H : Type} {enc : TypeId × Value → H} {P : Program} {W : World} {t e i : TypeId} (ht : P.underlying t = some (.slice e)) (he : P.underlying e = some (.array 2 i)) (hi : P.underlying i = some (.int .i64)) (hci : P.cellsOf i = 1) (hce : P.cellsOf e = 2)
    {fuel : Nat} {cs : List Value} {y : DataW H × List MemPlace} {ps : List MemPlace} (hf : DataW.trod enc P W 0 (fun _ => true) true fuel t cs = some y) (hps : ∀ x ∈ y.2, x ∈ ps) (hnf : W.noneFrozen ps) :
    ∃ v len zs, cs = [v] ∧ InArg 2 W v len zs ∧ (∀ z ∈ zs, inR .i64 z = true) ∧ len ≤ maxLen := by
  rcases DataW.trod_slice ht hf with ⟨hcs, hx⟩ | ⟨a, len0, cap0, elems, rest, n, rfl, hcs, hx, h0, hl, hm, hlen, hel, hsp, _⟩
  · exact ⟨_, 0, [], hcs, .inl (.inl ⟨rfl, rfl, rfl⟩), fun z hz => (by cases hz), Nat.zero_le _⟩
  · subst hcs hx
    obtain ⟨hrl, hr⟩ := hsp rfl
    rw [hce] at hel hr
    have el : ∀ j, j < cap0 → ∃ y, (W.cells? 0 (a.add (j * 2)) 2).bind (DataW.trod enc P W 0 (fun _ => true) true n e) = some y := by
      intro j hj
      by_cases h1 : j < len0
      · exact ⟨elems[j]'(by omega), by rw [hel j h1, List.getElem?_eq_getElem (by omega)]⟩
      · refine ⟨rest[j - len0]'(by omega), ?_⟩
        have := hr (j - len0) (by omega)
        rw [show len0 + (j - len0) = j by omega] at this
        rw [this, List.getElem?_eq_getElem (by omega)]
    by_cases hc0 : cap0 = 0
    · subst hc0
      obtain rfl : len0 = 0 := by omega
      exact ⟨_, 0, [], rfl, .inr ⟨a, rfl, rfl, rfl⟩, fun z hz => (by cases hz), Nat.zero_le _⟩
    · obtain ⟨y0, hy0⟩ := el 0 (by omega)
      have hspot : a.spot = none := (cells_block (P := P) (e := e) (i := 0) (y := y0) (by omega) (by rw [hce]; exact hy0)).2 rfl
      obtain ⟨b, off, sp⟩ := a
      have hspot : sp = none := hspot
      subst hspot
      have cell : ∀ j, j < cap0 * 2 → ∃ z, W.cell? ((⟨b, off, none⟩ : Addr).add j) = some (.int .i64 z) ∧ inR .i64 z = true := by
        intro j hj
        obtain ⟨y, hy⟩ := el (j / 2) (by omega)
        obtain ⟨cs, h1, h2⟩ := Option.bind_eq_some_iff.1 hy
        obtain ⟨c0, c1, rfl, q0, q1⟩ := cells2_of h1
        obtain ⟨y0, y1, n', r0, r1⟩ := trod_array2 he hci h2
        obtain ⟨z0, rfl, w0⟩ := trod_iw hi r0
        obtain ⟨z1, rfl, w1⟩ := trod_iw hi r1
        rw [add_lit', add_lit'] at q0 q1
        rcases Nat.mod_two_eq_zero_or_one j with h | h
        · refine ⟨z0, ?_, w0⟩
          rw [add_lit', ← q0]
          have : j = j / 2 * 2 := by omega
          rw [Nat.add_zero, ← this]
        · refine ⟨z1, ?_, w1⟩
          rw [add_lit', ← q1]
          rw [show off + j / 2 * 2 + 1 = off + j by omega]
      refine ⟨_, len0, (List.range (cap0 * 2)).map fun j => numZ (W.cell? ⟨b, off + j, none⟩), rfl, .inl (.inr ⟨b, off, cap0, rfl, hl, by simp, fun j hj => ?_, fun j hj => ?_⟩), fun z hz => ?_, Nat.le_trans hl hm⟩
      · have hj : j < cap0 * 2 := by simpa using hj
        obtain ⟨z, hz, _⟩ := cell j hj
        rw [add_lit'] at hz
        have hz : W.cell? ⟨b, off + j, none⟩ = some (.int .i64 z) := hz
        rw [List.getElem_map, List.getElem_range, hz]; rfl
      · have hj : j < cap0 * 2 := by simpa using hj
        refine hnf b (off + j) (hps _ (List.mem_append_left _ ?_))
        unfold MemPlace.row
        rw [List.mem_map]
        exact ⟨j, by rw [List.mem_range, hce, hlen, hrl]; omega, rfl⟩
      · obtain ⟨j, hj, rfl⟩ := List.mem_map.1 hz
        obtain ⟨z, hz, hw⟩ := cell j (List.mem_range.1 hj)
        rw [add_lit'] at hz
        have hz : W.cell? ⟨b, off + j, none⟩ = some (.int .i64 z) := hz
        rw [hz]; exact hw
/-- A slice of slices that comes in. -/
theorem trod_nArg {H : Type} {enc : TypeId × Value → H} {P : Program} {W : World} {base k : Nat} {t s : TypeId} (ht : P.underlying t = some (.slice s)) (hcs1 : P.cellsOf s = 1)
    (hin : ∀ {fuel : Nat} {cs : List Value} {y : DataW H × List MemPlace} {ps : List MemPlace}, DataW.trod enc P W 0 (fun _ => true) true fuel s cs = some y → (∀ x ∈ y.2, x ∈ ps) → W.noneFrozen ps → ∃ v len zs, cs = [v] ∧ InArg k W v len zs ∧ (∀ z ∈ zs, inR .i64 z = true) ∧ len ≤ maxLen)
    {v : Value} {d : DataW H} {p ps : List MemPlace} (hval : Value.okWide P W .any base t v) (hd : DataW.Trod enc P W 0 (fun _ => true) true t v d p) (hps : ∀ x ∈ p, x ∈ ps) (hnf : W.noneFrozen ps) :
    ∃ len as, NArg k W v len as ∧ (∀ a ∈ as, (∀ z ∈ a.2.2, inR .i64 z = true) ∧ a.2.1 ≤ maxLen) ∧ len ≤ maxLen := by
  obtain ⟨ao, len0, cap0, rfl⟩ := okWide_slice ht hval
  obtain ⟨fuel, hf⟩ := hd
  have hcells : (Value.slice ao len0 cap0).cells.toList = [.slice ao len0 cap0] := rfl
  rw [hcells] at hf
  rcases DataW.trod_slice ht hf with ⟨hcs, hx⟩ | ⟨a, len, cap, elems, rest, n, rfl, hcs, hx, h0, hl, hm, hlen, hel, hsp, _⟩
  · cases hcs
    exact ⟨0, [], .inl ⟨rfl, rfl, rfl⟩, fun a ha => (by cases ha), Nat.zero_le _⟩
  · cases hcs
    cases hx
    obtain ⟨hrl, hr⟩ := hsp rfl
    have hspot : a.spot = none := by
      simp only [Value.okWide, ht, Cell.okWide, Cell.ok] at hval
      exact hval.2.2.2.1
    obtain ⟨b, off, sp⟩ := a
    have hspot : sp = none := hspot
    subst hspot
    rw [hcs1] at hel hr
    have el : ∀ j, j < cap0 → ∃ y, (W.cells? 0 ((⟨b, off, none⟩ : Addr).add (j * 1)) 1).bind (DataW.trod enc P W 0 (fun _ => true) true n s) = some y ∧ ∀ x ∈ y.2, x ∈ ps := by
      intro j hj
      by_cases h1 : j < len0
      · refine ⟨elems[j]'(by omega), by rw [hel j h1, List.getElem?_eq_getElem (by omega)], fun x hx => hps _ (List.mem_append_right _ (List.mem_flatMap.2 ⟨elems[j]'(by omega), List.mem_append_left _ (List.getElem_mem _), hx⟩))⟩
      · refine ⟨rest[j - len0]'(by omega), ?_, fun x hx => hps _ (List.mem_append_right _ (List.mem_flatMap.2 ⟨rest[j - len0]'(by omega), List.mem_append_right _ (List.getElem_mem _), hx⟩))⟩
        have := hr (j - len0) (by omega)
        rw [show len0 + (j - len0) = j by omega] at this
        rw [this, List.getElem?_eq_getElem (by omega)]
    obtain ⟨as, ha1, ha2⟩ := choose_list (α := NA) (p := fun j a => W.cell? ⟨b, off + j, none⟩ = some a.1 ∧ InArg k W a.1 a.2.1 a.2.2 ∧ (∀ z ∈ a.2.2, inR .i64 z = true) ∧ a.2.1 ≤ maxLen) cap0 fun j hj => by
      obtain ⟨y, hy, hy2⟩ := el j hj
      obtain ⟨cs, h1, h2⟩ := Option.bind_eq_some_iff.1 hy
      obtain ⟨c0, rfl, q0⟩ := cells1_of h1
      obtain ⟨v, len, zs, hcv, hia, hz, hlm⟩ := hin h2 hy2 hnf
      cases hcv
      rw [add_lit', add_lit', Nat.mul_one, Nat.add_zero] at q0
      exact ⟨(c0, len, zs), q0, hia, hz, hlm⟩
    refine ⟨len0, as, .inr ⟨b, off, cap0, rfl, hl, ha1, fun i hi => (ha2 i hi).1, fun i hi => ?_, fun a ha => ?_⟩, fun a ha => ?_, Nat.le_trans hl hm⟩
    · refine hnf b (off + i) (hps _ (List.mem_append_left _ ?_))
      unfold MemPlace.row
      rw [List.mem_map]
      exact ⟨i, by rw [List.mem_range, hcs1, hlen, hrl]; omega, rfl⟩
    · obtain ⟨i, hi, rfl⟩ := List.getElem_of_mem ha
      exact (ha2 i hi).2.1
    · obtain ⟨i, hi, rfl⟩ := List.getElem_of_mem ha
      exact (ha2 i hi).2.2
end Go.Ev
namespace Go.Ev
open Go Go.RowKit
section
variable {fs : T EF} {fr : Fr} {h : H}
theorem frame_5 {v1 v2 v3 v4 v5 : V} : frame .e [v1, v2, v3, v4, v5] .nil = T.set (K.ofNat 4) v5 (T.set (K.ofNat 3) v4 (T.set (K.ofNat 2) v3 (T.set (K.ofNat 1) v2 (T.set (K.ofNat 0) v1 .nil)))) := of_eq_true (eq_self _)
end
theorem slArg_len {P : Program} {W : World} {base : Nat} {t e : TypeId} (ht : P.underlying t = some (.slice e)) {v : Value} {L : List Int} (hval : Value.okWide P W .any base t v) (hs : SlArg W v L) : L.length ≤ 9223372036854775807 := by
  rcases hs with ⟨_, rfl⟩ | ⟨b, off, len, zs, rfl, h1, rfl, _⟩
  · exact Nat.zero_le _
  · simp only [Value.okWide, ht, Cell.okWide, Cell.ok] at hval
    have h2 := hval.2.1
    have h3 : IntKind.i64.max = 9223372036854775807 := rfl
    simp
    omega
end Go.Ev
namespace Go.Ev
open Go Go.RowKit
/-- A slice that is only read: whether there is room behind it or not. -/
structure Rd (h : H) (v : V) (L : List Int) : Prop where
  len : ∀ h1, lenV v h1 = .ok (.i .i64 (L.length : Int)) h1
  now : ∀ i (hi : i < L.length), ∃ p, (∀ k h1, iadsV 1 v (.i k (i : Int)) h1 = .ok p h1) ∧ loadV h p one? = .ok (iE L[i]) h
  gr : HC h → ∀ h', Grow h.nx.nat h h' → ∀ i (hi : i < L.length), ∃ p, (∀ k h1, iadsV 1 v (.i k (i : Int)) h1 = .ok p h1) ∧ loadV h' p one? = .ok (iE L[i]) h'
theorem Rd.at {h : H} {v : V} {L : List Int} (s : Rd h v L) (i : Nat) (hi : i < L.length) : ∃ p, (∀ k h1, iadsV 1 v (.i k (i : Int)) h1 = .ok p h1) ∧ loadV h p one? = .ok (iE L[i]) h := s.now i hi
theorem Sr.rd {h : H} {v : V} {L : List Int} (s : Sr iE h v L) : Rd h v L := ⟨s.len, s.at, fun hc _ hG => (s.grow hc hG).at⟩
end Go.Ev
namespace Go.Ev
open Go Go.RowKit
noncomputable def f33_r0 : List EOper := [⟨(some (K.ofNat 4)), none, .as (.c .sn)⟩]
noncomputable def f33_r1 : List EOper := [⟨(some (K.ofNat 5)), none, .as (.c .sn)⟩]
noncomputable def f33_r2 : List EOper := [⟨(some (K.ofNat 6)), none, .as (.c (.i .i64 (.ofNat 0)))⟩]
noncomputable def f33_r3 : List EOper := [⟨(some (K.ofNat 9)), none, .mv (.t (K.ofNat 6))⟩, ⟨(some (K.ofNat 10)), none, .mv (.t (K.ofNat 0))⟩, ⟨(some (K.ofNat 11)), none, .bin .lss (.t (K.ofNat 9)) (.t (K.ofNat 10))⟩]
noncomputable def f33_r4 : List EOper := [⟨(some (K.ofNat 7)), none, .as (.c (.i .i64 (.ofNat 0)))⟩]
noncomputable def f33_r5 : List EOper := [⟨(some (K.ofNat 14)), none, .mv (.t (K.ofNat 6))⟩, ⟨(some (K.ofNat 15)), none, .mv (.t (K.ofNat 1))⟩, ⟨(some (K.ofNat 16)), none, .len (.t (K.ofNat 15))⟩, ⟨(some (K.ofNat 17)), none, .bin .lss (.t (K.ofNat 14)) (.t (K.ofNat 16))⟩]
noncomputable def f33_r6 : List EOper := [⟨(some (K.ofNat 18)), none, .mv (.t (K.ofNat 1))⟩, ⟨(some (K.ofNat 19)), none, .mv (.t (K.ofNat 6))⟩, ⟨(some (K.ofNat 20)), none, .iads 1 (.t (K.ofNat 18)) (.t (K.ofNat 19))⟩, ⟨(some (K.ofNat 21)), none, .ld (.t (K.ofNat 20))⟩, ⟨(some (K.ofNat 22)), none, .conv .u64 (.t (K.ofNat 21))⟩, ⟨(some (K.ofNat 23)), none, .mv (.t (K.ofNat 6))⟩, ⟨(some (K.ofNat 24)), none, .bin .add (.t (K.ofNat 23)) (.c (.i .i64 (.ofNat 1)))⟩, ⟨(some (K.ofNat 25)), none, .conv .u64 (.t (K.ofNat 24))⟩, ⟨(some (K.ofNat 26)), none, .bin .rem (.t (K.ofNat 22)) (.t (K.ofNat 25))⟩, ⟨(some (K.ofNat 27)), none, .conv .i64 (.t (K.ofNat 26))⟩, ⟨(some (K.ofNat 7)), none, .as (.t (K.ofNat 27))⟩]
noncomputable def f33_r7 : List EOper := [⟨(some (K.ofNat 8)), none, .as (.c .sn)⟩]
noncomputable def f33_r8 : List EOper := [⟨(some (K.ofNat 28)), none, .mv (.t (K.ofNat 8))⟩, ⟨(some (K.ofNat 29)), none, .mv (.t (K.ofNat 5))⟩, ⟨(some (K.ofNat 30)), none, .mv (.t (K.ofNat 7))⟩, ⟨(some (K.ofNat 31)), none, .slice 1 (.t (K.ofNat 29)) none (some (.t (K.ofNat 30))) none⟩, ⟨(some (K.ofNat 32)), none, .app 1 (.t (K.ofNat 28)) (.t (K.ofNat 31))⟩, ⟨(some (K.ofNat 8)), none, .as (.t (K.ofNat 32))⟩]
noncomputable def f33_r9 : List EOper := [⟨(some (K.ofNat 33)), none, .mv (.t (K.ofNat 8))⟩, ⟨(some (K.ofNat 34)), none, .mv (.t (K.ofNat 6))⟩, ⟨(some (K.ofNat 35)), none, .bslice 1 1 [(.i .i64 (.ofNat 0))] [(0, 1, (.t (K.ofNat 34)))]⟩, ⟨(some (K.ofNat 36)), none, .app 1 (.t (K.ofNat 33)) (.t (K.ofNat 35))⟩, ⟨(some (K.ofNat 8)), none, .as (.t (K.ofNat 36))⟩]
noncomputable def f33_r10 : List EOper := [⟨(some (K.ofNat 37)), none, .mv (.t (K.ofNat 8))⟩, ⟨(some (K.ofNat 38)), none, .mv (.t (K.ofNat 5))⟩, ⟨(some (K.ofNat 39)), none, .mv (.t (K.ofNat 7))⟩, ⟨(some (K.ofNat 40)), none, .slice 1 (.t (K.ofNat 38)) (some (.t (K.ofNat 39))) none none⟩, ⟨(some (K.ofNat 41)), none, .app 1 (.t (K.ofNat 37)) (.t (K.ofNat 40))⟩, ⟨(some (K.ofNat 5)), none, .as (.t (K.ofNat 41))⟩]
noncomputable def f33_r11 : List EOper := [⟨(some (K.ofNat 12)), none, .mv (.t (K.ofNat 6))⟩, ⟨(some (K.ofNat 13)), none, .bin .add (.t (K.ofNat 12)) (.c (.i .i64 (.ofNat 1)))⟩, ⟨(some (K.ofNat 6)), none, .as (.t (K.ofNat 13))⟩]
noncomputable def f33_l0 : EC := (.seq (.seq (.reg f33_r3) (.cond (.t (K.ofNat 11)) .skip (.exit 0))) (.seq (.block 1 (.seq (.reg f33_r4) (.seq (.seq (.reg f33_r5) (.cond (.t (K.ofNat 17)) (.reg f33_r6) .skip)) (.seq (.reg f33_r7) (.seq (.reg f33_r8) (.seq (.reg f33_r9) (.reg f33_r10))))))) (.reg f33_r11)))
noncomputable def f33_r12 : List EOper := [⟨(some (K.ofNat 42)), none, .mv (.t (K.ofNat 5))⟩, ⟨(some (K.ofNat 4)), none, .as (.t (K.ofNat 42))⟩]
noncomputable def f33_c : EC := (.seq (.reg f33_r0) (.seq (.reg f33_r1) (.seq (.seq (.reg f33_r2) (.block 0 (.loop f33_l0))) (.seq (.reg f33_r12) .ret))))
noncomputable def f33 : EF := ⟨43, [.tmp (K.ofNat 4)], f33_c, none⟩
theorem f33_rs : f33.rs = [.tmp (K.ofNat 4)] := of_eq_true (eq_self _)
theorem rem_k (x : Int) {k : Nat} (hk : 0 < k) (hk2 : k ≤ 1000) : ∃ q : Nat, q < k ∧ fw .i64 ((fw .u64 x).tmod (k : Int)) = (q : Int) := by
  have h0 : 0 ≤ fw .u64 x := by rw [fw_eq]; exact Int.emod_nonneg _ (by decide)
  obtain ⟨m, hm⟩ := Int.eq_ofNat_of_zero_le h0
  have h1 : (fw .u64 x).tmod (k : Int) = ((m % k : Nat) : Int) := by rw [hm]; rfl
  have h2 : m % k < k := Nat.mod_lt _ hk
  exact ⟨m % k, by omega, by rw [h1, fw64 (by omega) (by omega)]⟩
/-- Where the next name is put. -/
def atV (B : List Int) (t : Nat) : Int := if h : t < B.length then fw .i64 ((fw .u64 B[t]).tmod ((t + 1 : Nat) : Int)) else 0
theorem atV_nat {B : List Int} {t : Nat} (h : t ≤ 100) : ∃ q : Nat, q ≤ t ∧ atV B t = (q : Int) := by
  unfold atV
  split
  · obtain ⟨q, h1, h2⟩ := rem_k B[t] (k := t + 1) (by omega) (by omega)
    exact ⟨q, by omega, h2⟩
  · exact ⟨0, by omega, rfl⟩
/-- The names. -/
def nmL (B : List Int) : Nat → List Int
  | 0 => []
  | t + 1 => ((nmL B t).take (atV B t).toNat ++ [(t : Int)]) ++ (nmL B t).drop (atV B t).toNat
theorem nmL_len {B : List Int} : ∀ {t : Nat}, (nmL B t).length = t
  | 0 => rfl
  | t + 1 => by
    have := nmL_len (B := B) (t := t)
    simp only [nmL, List.length_append, List.length_take, List.length_drop, List.length_singleton]
    omega
section
variable {fs : T EF} {h : H} {v : V} {B : List Int}
def f33_I (h : H) (n : Nat) (v : V) (B : List Int) (t : Nat) (fr : Fr) (h1 : H) : Prop := t ≤ n ∧ Grow h.nx.nat h h1 ∧ ∃ w, Sl iE h1 w (nmL B t) ∧ Own h.nx.nat w ∧ fr.get (K.ofNat 0) = some (.i .i64 (n : Int)) ∧ fr.get (K.ofNat 1) = some (v) ∧ fr.get (K.ofNat 5) = some (w) ∧ fr.get (K.ofNat 6) = some (.i .i64 (t : Int))
theorem f33_ret {n : Nat} (hn : n ≤ 100) (hv : Sr iE h v B) (_hB : B.length ≤ 9223372036854775807) (hc : HC h) : Ret fs f33 [.i .i64 (n : Int), v] h fun r h' => Sl iE h' r (nmL B n) ∧ Own h.nx.nat r ∧ Grow h.nx.nat h h' := by
  apply ret_of rfl
  show W fs none f33_c _ _ _
  unfold f33_c
  simp (disch := omega) only [f33_r0, f33_r1, f33_r2, w_reg, w_seq, w_block, seqK_n, x_nil, x_as, ev_c, putD_some, frame_2, of0]
  refine W_loop (f33_I h n v B) (fun t => n - t) ?_ 0 ⟨by omega, Grow.refl _ _, .sn, Sl.nil, Own.sn, by simp (disch := omega) only [getK_set, Nat.reduceEqDiff, ↓reduceIte, and_self, Int.natCast_zero]⟩
  rintro t fr h1 ⟨ht, hG, w, hw, how, g0, g1, g5, g6⟩
  have hc1 := hG.hc hc
  have hv1 := hv.grow hc hG
  have hlen := hv1.len
  unfold f33_l0
  by_cases hlt : t < n
  · have d0 : decide ((t : Int) < (n : Int)) = true := by simpa using hlt
    have eb : (t : Int) + 1 = ((t + 1 : Nat) : Int) := by omega
    have hbw : fw .u64 ((t + 1 : Nat) : Int) = ((t + 1 : Nat) : Int) := fwu64 (by omega) (by omega)
    have hrem : ∀ a, binV .rem (.i .u64 a) (.i .u64 ((t + 1 : Nat) : Int)) = some (.i .u64 (a.tmod ((t + 1 : Nat) : Int))) := fun a => bin_rem (by omega)
    obtain ⟨q, hq, hqe⟩ := atV_nat (B := B) (t := t) (by omega)
    have hql : q ≤ (nmL B t).length := by rw [nmL_len]; exact hq
    have hnl := nmL_len (B := B) (t := t)
    -- the three that are appended
    obtain ⟨w1, c1, d1, _⟩ := hw.sr.cut (lo := none) (hi := some (.i .i64 (q : Int))) (l := 0) (u := q) bnd_none bnd_i (by omega) hql
    obtain ⟨x1, h2, a1, s1, o1, gr1, _⟩ := Sl.appR (b := h1.nx.nat) (Sl.nil (e := iE)) Own.sn (Nat.le_refl _) d1 hc1 (by simp; omega)
    have hc2 := gr1.hc hc1
    obtain ⟨x2, h3, a2, s2, o2, gr2, _⟩ := Sl.push (e := iE) (x := (t : Int)) (c := .i .i64 (t : Int)) rfl s1 o1 gr1.nx hc2 (by simp; omega)
    have hG13 := gr1.trans gr2
    have hc3 := hG13.hc hc1
    have hw3 := hw.grow hc1 hG13
    obtain ⟨w2, c2, d2, _⟩ := hw3.sr.cut (lo := some (.i .i64 (q : Int))) (hi := none) (l := q) (u := (nmL B t).length) bnd_i bnd_none hql (Nat.le_refl _)
    obtain ⟨x3, h4, a3, s3, o3, gr3, _⟩ := Sl.appR s2 o2 hG13.nx d2 hc3 (by simp; omega)
    have hG14 := hG13.trans gr3
    have hnew : (([] ++ ((nmL B t).take q).drop 0) ++ [(t : Int)]) ++ ((nmL B t).take (nmL B t).length).drop q = nmL B (t + 1) := by
      show _ = ((nmL B t).take (atV B t).toNat ++ [(t : Int)]) ++ (nmL B t).drop (atV B t).toNat
      rw [hqe, Int.toNat_natCast, List.take_length, List.drop_zero, List.nil_append]
    rw [hnew] at s3
    have o3' : Own h.nx.nat x3 := fun id off n sz e => Nat.le_trans hG.nx (o3 id off n sz e)
    by_cases hin : t < B.length
    · have d2' : decide ((t : Int) < (B.length : Int)) = true := by simpa using hin
      obtain ⟨p, hp1, hp2⟩ := hv1.at t hin
      have hqe' : fw .i64 ((fw .u64 B[t]).tmod ((t + 1 : Nat) : Int)) = (q : Int) := by
        unfold atV at hqe
        rw [dif_pos hin] at hqe; exact hqe
      simp (disch := omega) only [f33_r3, f33_r4, f33_r5, f33_r6, f33_r7, f33_r8, w_skip, w_reg, w_seq, w_cond, w_block, seqK_n, ckB_b, cbB_b, true_and, x_nil, x_mv, x_as, x_ld, x_bin, x_conv, x_slice, sliceV_eq, Option.map_none, Option.map_some, x_iads, x_len, x_app, kx, rvP_ok, okv_some, ev_t, ev_c, getV_some, putD_some, bin_add, bin_lss, onI_i, of0, of1, getK_set, Nat.reduceEqDiff, ↓reduceIte, g0, g1, g5, g6, d0, hlen, d2', hp1, hp2, iE, eb, fw64, hbw, hrem, hqe', c1, a1]
      simp (disch := omega) only [f33_r9, f33_r10, f33_r11, w_reg, seqK_n, atK_n, loopK_n, x_nil, x_mv, x_as, x_bslice, x_bin, x_slice, sliceV_eq, Option.map_none, Option.map_some, x_app, kx, rvP_ok, okv_some, ev_t, ev_c, getV_some, putD_some, bin_add, oGet_s, cells1_i, fill_1, set_1, of0, of1, getK_set, Nat.reduceEqDiff, ↓reduceIte, g5, g6, fill_1, set_1, a2, c2, a3, eb, fw64]
      exact ⟨t + 1, by omega, by omega, hG.trans (hG14.low hG.nx), x3, s3, o3', by simp (disch := omega) only [getK_set, Nat.reduceEqDiff, ↓reduceIte, g0, g1, and_self]⟩
    · have d2' : decide ((t : Int) < (B.length : Int)) = false := by simpa using hin
      have hq0 : q = 0 := by
        unfold atV at hqe
        rw [dif_neg hin] at hqe; omega
      subst hq0
      have c1 : ∀ h1, sliceB 1 w none (some (.i .i64 0)) none h1 = .ok w1 h1 := c1
      have c2 : ∀ h1, sliceB 1 w (some (.i .i64 0)) none none h1 = .ok w2 h1 := c2
      simp (disch := omega) only [f33_r3, f33_r4, f33_r5, f33_r7, f33_r8, w_skip, w_reg, w_seq, w_cond, w_block, seqK_n, ckB_b, cbB_b, true_and, x_nil, x_mv, x_as, x_bin, x_slice, sliceV_eq, Option.map_none, Option.map_some, x_len, x_app, kx, rvP_ok, okv_some, ev_t, ev_c, getV_some, putD_some, bin_lss, of0, getK_set, Nat.reduceEqDiff, ↓reduceIte, Bool.false_eq_true, g0, g1, g5, g6, d0, hlen, d2', c1, a1]
      simp (disch := omega) only [f33_r9, f33_r10, f33_r11, w_reg, seqK_n, atK_n, loopK_n, x_nil, x_mv, x_as, x_bslice, x_bin, x_slice, sliceV_eq, Option.map_none, Option.map_some, x_app, kx, rvP_ok, okv_some, ev_t, ev_c, getV_some, putD_some, bin_add, oGet_s, cells1_i, fill_1, set_1, of0, of1, getK_set, Nat.reduceEqDiff, ↓reduceIte, g5, g6, fill_1, set_1, a2, c2, a3, eb, fw64]
      exact ⟨t + 1, by omega, by omega, hG.trans (hG14.low hG.nx), x3, s3, o3', by simp (disch := omega) only [getK_set, Nat.reduceEqDiff, ↓reduceIte, g0, g1, and_self]⟩
  · have d0 : decide ((t : Int) < (n : Int)) = false := by simpa using hlt
    have et : t = n := by omega
    subst et
    simp (disch := omega) only [f33_r3, f33_r12, f33_rs, w_reg, w_seq, w_cond, w_exit, w_ret, seqK_n, seqK_e, atK_e, loopK_e, ckB_b, cbB_b, true_and, retK_r, x_nil, x_mv, x_as, x_bin, kx, rvP_ok, okv_some, ev_t, getV_some, putD_some, bin_lss, oGet_s, readRs_nil, readRs_t, retV_1, Option.some.injEq, exists_eq_left', getK_set, Nat.reduceEqDiff, ↓reduceIte, Bool.false_eq_true, g0, g5, g6, d0]
    exact ⟨hw, how, hG⟩
end
end Go.Ev
namespace Go.Ev
open Go Go.RowKit
theorem Sk.srp {h : H} {v : V} {L : List (Int × Int)} (hs : Sk 2 qE h v L) : Srp h v L := by
  rcases hs with ⟨rfl, rfl⟩ | ⟨id, off, m, cs, rfl, hb, h1, h2, h3⟩
  · exact .inl ⟨rfl, rfl, rfl⟩
  · exact .inr ⟨id, off, m, cs, rfl, .inl hb, h1, h2, h3⟩
theorem fill_p2 {fr : Fr} {x : EO} {z1 z2 : V} : fillE fr [z1, z2] [(0, 2, x)] = oGet (cellsN 2 (ev fr x)) none fun cs => some (setMany [z1, z2] 0 cs) := of_eq_true (eq_self _)
theorem set_p2 {z1 z2 a b : V} : setMany [z1, z2] 0 [a, b] = [a, b] := of_eq_true (eq_self _)
section
variable {fs : T EF} {h : H}
end
end Go.Ev
namespace Go.Ev
open Go Go.RowKit
/-- A slice of slices of pairs that is only read. -/
structure Nrp (h : H) (v : V) (us : List V) (Ls : List (List (Int × Int))) : Prop where
  len : us.length = Ls.length
  out : Sr vE h v us
  inn : ∀ i (h1 : i < us.length) (h2 : i < Ls.length), Srp h us[i] Ls[i]
theorem Nrp.grow {h h' : H} {v : V} {us : List V} {Ls : List (List (Int × Int))} (s : Nrp h v us Ls) (hc : HC h) (hg : Grow h.nx.nat h h') : Nrp h' v us Ls := ⟨s.len, s.out.grow hc hg, fun i h1 h2 => (s.inn i h1 h2).grow hc hg⟩
theorem Sll.nrp {h : H} {v : V} {us : List V} {Ls : List (List (Int × Int))} (s : Sll h v us Ls) : Nrp h v us Ls := ⟨s.len, s.out.sr, s.inn⟩
/-- A slice of slices of pairs, none of which shares its block. -/
structure Sld (h : H) (v : V) (us : List V) (Ls : List (List (Int × Int))) : Prop extends Sll h v us Ls where
  sk : ∀ i (h1 : i < us.length) (h2 : i < Ls.length), Sk 2 qE h us[i] Ls[i]
  dis : ∀ i j (hi : i < us.length) (hj : j < us.length), i ≠ j → ∀ id off n sz, us[i] = .sl id off n sz → NotIn id us[j]
section
variable {h h' : H} {v u : V} {us : List V} {Ls : List (List (Int × Int))} {L : List (Int × Int)} {b : Nat}
theorem Sld.nil : Sld h .sn [] [] := ⟨Sll.nil, fun i hi => absurd hi (by simp), fun i j hi => absurd hi (by simp)⟩
theorem Sld.grow (s : Sld h v us Ls) (hc : HC h) (hg : Grow h.nx.nat h h') : Sld h' v us Ls := ⟨s.toSll.grow hc hg, fun i h1 h2 => (s.sk i h1 h2).grow hc hg, s.dis⟩
theorem Sld.push (s : Sld h v us Ls) (ho : Own b v) (hb : b ≤ h.nx.nat) (hc : HC h) (hn : Ls.length < 16777216) (hu : Sk 2 qE h u L) (hsep : ∀ id off n sz, u = .sl id off n sz → NotIn id v) (hdis : ∀ x ∈ us, ∀ id off n sz, u = .sl id off n sz → NotIn id x) :
    ∃ v' h', appV 1 (h.new (.cells (1 * 1) [u])) v (.sl h.nx 0 1 1) = .ok v' h' ∧ Sld h' v' (us ++ [u]) (Ls ++ [L]) ∧ Own b v' ∧ Grow b h h' := by
  obtain ⟨v', h', e1, e2, e3, e4, e5⟩ := s.toSll.push ho hb hc hn hu.srp hsep
  refine ⟨v', h', e1, ⟨e2, fun i h1 h2 => ?_, fun i j hi hj hij id off n sz e => ?_⟩, e3, e4⟩
  · by_cases hi : i < us.length
    · have hi2 : i < Ls.length := by rw [← s.len]; exact hi
      rw [List.getElem_append_left hi, List.getElem_append_left hi2]
      exact (s.sk i hi hi2).same fun id off n sz ew => (e5 id ((s.sk i hi hi2).lt hc _ _ _ _ ew) (s.sep _ (List.getElem_mem hi) _ _ _ _ ew)).1
    · have hl : i = us.length := by rw [List.length_append] at h1; simp at h1; omega
      subst hl
      rw [List.getElem_append_right (Nat.le_refl _), List.getElem_append_right (by rw [s.len]; exact Nat.le_refl _)]
      simp only [Nat.sub_self, List.getElem_cons_zero, s.len]
      exact hu.same fun id off n sz ew => (e5 id (hu.lt hc _ _ _ _ ew) (hsep _ _ _ _ ew)).1
  have hl : (us ++ [u]).length = us.length + 1 := by simp
  by_cases h1 : i < us.length
  · rw [List.getElem_append_left h1] at e
    by_cases h2 : j < us.length
    · rw [List.getElem_append_left h2]; exact s.dis i j h1 h2 hij _ _ _ _ e
    · have ej : j = us.length := by omega
      subst ej
      rw [List.getElem_append_right (Nat.le_refl _)]
      simp only [Nat.sub_self, List.getElem_cons_zero]
      intro off' n' sz' e'
      exact hdis _ (List.getElem_mem h1) _ _ _ _ e' _ _ _ e
  · have ei : i = us.length := by omega
    subst ei
    rw [List.getElem_append_right (Nat.le_refl _)] at e
    simp only [Nat.sub_self, List.getElem_cons_zero] at e
    have h2 : j < us.length := by omega
    rw [List.getElem_append_left h2]
    exact hdis _ (List.getElem_mem h2) _ _ _ _ e
end
section
variable {fs : T EF} {h : H} {v w : V} {us : List V} {Ls : List (List (Int × Int))} {M : List Int}
end
end Go.Ev
