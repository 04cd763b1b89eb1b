/-
  The evaluator, weakest preconditions: how they are worked out, step by step.
  The evaluator, weakest preconditions: memory that grows; slices whose elements take one cell each.
  The evaluator, an example: an iterator over a family of sets (shells.family.all's literal, function 91 of the seat of d3d68b0): what it does for any body.
  The evaluator, an example: the iterator over a set's corners (shells.cornersOf's literal, function 92 of the seat of d3d68b0): what it does for any body.
  The evaluator, weakest preconditions: loops over functions; parts of slices; arrays.
  The evaluator, weakest preconditions: statements whose order is open.
  The evaluator, weakest preconditions: a call with a slice that came in.
  The evaluator: what is proved of a function of numbers whose result is a new slice of numbers.
  A slice of numbers that comes in, and reads behind the call as it read before.
  The evaluator, weakest preconditions: more on slices.
  Slices that are only read; calls with several slices that came in and may overlap.
  The evaluator, weakest preconditions: more that stays; memory of which a few blocks differ; pairs.
  Slices of pairs that come in, and read behind the call as they read before.
  Slices of pairs: those that came in, those that are only read.
  The evaluator, weakest preconditions: what follows may be weakened.
  The evaluator, weakest preconditions: a store into a slice of pairs; slices of slices of pairs.
  Slices of slices that come in: of pairs, of numbers.
  Slices of slices of pairs, of numbers: how they are read, and that they read behind the call as before.
  More rules: operations of a drawn statement that are guarded; numbers.
  Rounds: slices that are only read, whichever way they were cut.
  Rounds: names of any numbers.
  Rounds: the schedule that goes round.
  Rounds: schedules with other names.
-/
import Derived.Test.YthememdeglgnpaaPc
import Derived.ProofKit
import Derived.SizedLaws
import Derived.ChangeSlices
namespace Go.Ev
open Go Go.RowKit
section
variable {fs : T EF} {ro : Option K} {Q : Ex → Fr → H → Prop} {R : Fr → H → Prop} {fr : Fr} {h h' : H} {d : Option K} {l : List EOper} {x y z : EO} {v : V} {f : V → H → Prop} {P Q' : Prop}
/-! Code -/
theorem w_skip : W fs ro .skip Q fr h = Q .normal fr h := of_eq_true (eq_self _)
theorem w_reg {ops : List EOper} : W fs ro (.reg ops) Q fr h = X fs ops (Q .normal) fr h := of_eq_true (eq_self _)
theorem w_draw {st : List Stage} : W fs ro (.draw st) Q fr h = XD fs st (Q .normal) fr h := of_eq_true (eq_self _)
theorem w_seq {a b : EC} : W fs ro (.seq a b) Q fr h = W fs ro a (seqK (W fs ro b) Q) fr h := of_eq_true (eq_self _)
def ckB (v : V) : Prop := match v with | .b _ => True | _ => False
def cbB (v : V) : Bool := match v with | .b r => r | _ => false
theorem ckB_b {b : Bool} : ckB (.b b) = True := of_eq_true (eq_self _)
theorem cbB_b {b : Bool} : cbB (.b b) = b := of_eq_true (eq_self _)
theorem w_cond {a b : EC} : W fs ro (.cond x a b) Q fr h = (ckB (ev fr x) ∧ if cbB (ev fr x) = true then W fs ro a Q fr h else W fs ro b Q fr h) := by
  show condP (ev fr x) (W fs ro a Q fr h) (W fs ro b Q fr h) = _
  generalize ev fr x = v
  cases v <;> simp [condP, ckB, cbB]
  rename_i r
  cases r <;> simp
theorem w_block {id : Nat} {c : EC} : W fs ro (.block id c) Q fr h = W fs ro c (atK id Q) fr h := of_eq_true (eq_self _)
theorem w_scope {c : EC} : W fs ro (.scope c) Q fr h = W fs ro c Q fr h := of_eq_true (eq_self _)
theorem w_exit {id : Nat} : W fs ro (.exit id) Q fr h = Q (.exit id) fr h := of_eq_true (eq_self _)
theorem w_ret : W fs ro .ret Q fr h = Q .ret fr h := of_eq_true (eq_self _)
theorem seqK_n {A : (Ex → Fr → H → Prop) → Fr → H → Prop} : seqK A Q .normal fr h = A Q fr h := of_eq_true (eq_self _)
theorem seqK_e {A : (Ex → Fr → H → Prop) → Fr → H → Prop} {i : Nat} : seqK A Q (.exit i) fr h = Q (.exit i) fr h := of_eq_true (eq_self _)
theorem seqK_r {A : (Ex → Fr → H → Prop) → Fr → H → Prop} : seqK A Q .ret fr h = Q .ret fr h := of_eq_true (eq_self _)
theorem atK_n {id : Nat} : atK id Q .normal fr h = Q .normal fr h := of_eq_true (eq_self _)
theorem atK_r {id : Nat} : atK id Q .ret fr h = Q .ret fr h := of_eq_true (eq_self _)
theorem atK_e {id j : Nat} : atK id Q (.exit j) fr h = if j = id then Q .normal fr h else Q (.exit j) fr h := by
  show ((j = id → Q .normal fr h) ∧ (j ≠ id → Q (.exit j) fr h)) = _
  by_cases e : j = id <;> simp [e]
theorem loopK_n {σ : Type} {I : σ → Fr → H → Prop} {μ : σ → Nat} {s : σ} : loopK I μ s Q .normal fr h = ∃ s', μ s' < μ s ∧ I s' fr h := of_eq_true (eq_self _)
theorem loopK_e {σ : Type} {I : σ → Fr → H → Prop} {μ : σ → Nat} {s : σ} {i : Nat} : loopK I μ s Q (.exit i) fr h = Q (.exit i) fr h := of_eq_true (eq_self _)
theorem loopK_r {σ : Type} {I : σ → Fr → H → Prop} {μ : σ → Nat} {s : σ} : loopK I μ s Q .ret fr h = Q .ret fr h := of_eq_true (eq_self _)
theorem retK_n {ef : EF} : retK ef f .normal fr h = ∃ vs, readRs fr h ef.rs = some vs ∧ f (retV vs) h := of_eq_true (eq_self _)
theorem retK_r {ef : EF} : retK ef f .ret fr h = ∃ vs, readRs fr h ef.rs = some vs ∧ f (retV vs) h := of_eq_true (eq_self _)
/-! Operations -/
theorem x_nil : X fs [] R fr h = R fr h := of_eq_true (eq_self _)
theorem gp_t : GP (some true) P Q' = P := by simp [GP]
theorem x_g0 {k : K} {b : Bool} {op : EOp} : X fs (⟨d, some (k, b), op⟩ :: l) R fr h = GP (guardV (getV (fr.get k)) b) (X fs (⟨d, none, op⟩ :: l) R fr h) (X fs l R (putD fr d undefV) h) := by
  show GP (oGet (some (k, b)) (some true) fun p => guardV (getV (fr.get p.1)) p.2) _ _ = _
  show _ = GP (guardV (getV (fr.get k)) b) (GP (some true) _ _) _
  rw [gp_t]; rfl
def okG (v : V) : Prop := match v with | .b _ => True | .tup _ => True | _ => False
def asG (v : V) (w : Bool) : Bool := match v with | .b r => (if w then r else !r) | _ => false
theorem okG_b {b : Bool} : okG (.b b) = True := of_eq_true (eq_self _)
theorem asG_t {b : Bool} : asG (.b b) true = b := of_eq_true (eq_self _)
theorem asG_f {b : Bool} : asG (.b b) false = !b := of_eq_true (eq_self _)
theorem gp_as {v : V} {w : Bool} : GP (guardV v w) P Q' = (okG v ∧ if asG v w = true then P else Q') := by
  cases v <;> simp [GP, guardV, okG, asG]
  rename_i r
  cases r <;> cases w <;> simp
theorem x_g {k : K} {b : Bool} {op : EOp} : X fs (⟨d, some (k, b), op⟩ :: l) R fr h = (okG (getV (fr.get k)) ∧ if asG (getV (fr.get k)) b = true then X fs (⟨d, none, op⟩ :: l) R fr h else X fs l R (putD fr d undefV) h) := by
  rw [x_g0, gp_as]
theorem x_mv : X fs (⟨d, none, .mv x⟩ :: l) R fr h = X fs l R (putD fr d (ev fr x)) h := by show GP (some true) _ _ = _; rw [gp_t]; rfl
theorem x_as : X fs (⟨d, none, .as x⟩ :: l) R fr h = X fs l R (putD fr d (ev fr x)) h := by show GP (some true) _ _ = _; rw [gp_t]; rfl
theorem x_pick : X fs (⟨d, none, .pick x y z⟩ :: l) R fr h = rvP (pickV (ev fr x) (ev fr y) (ev fr z) h) (kX fs l R fr d) := by show GP (some true) _ _ = _; rw [gp_t]; rfl
theorem x_alloc {n : Nat} {zs : List V} : X fs (⟨d, none, .alloc n zs⟩ :: l) R fr h = X fs l R (putD fr d (.p h.nx 0)) (h.new (.cells n zs)) := by show GP (some true) _ _ = _; rw [gp_t]; rfl
theorem x_box {n : Nat} : X fs (⟨d, none, .box n x⟩ :: l) R fr h = rvP (oGet (cellsN n (ev fr x)) .no fun cs => .ok (.p h.nx 0) (h.new (.cells n cs))) (kX fs l R fr d) := by show GP (some true) _ _ = _; rw [gp_t]; rfl
theorem x_build {zs : List V} {ps : List (Nat × Nat × EO)} : X fs (⟨d, none, .build zs ps⟩ :: l) R fr h = rvP (oGet (fillE fr zs ps) .no fun cs => .ok (.agg cs) h) (kX fs l R fr d) := by show GP (some true) _ _ = _; rw [gp_t]; rfl
theorem x_bslice {n sz : Nat} {zs : List V} {ps : List (Nat × Nat × EO)} : X fs (⟨d, none, .bslice n sz zs ps⟩ :: l) R fr h = rvP (oGet (fillE fr zs ps) .no fun cs => .ok (.sl h.nx 0 n sz) (h.new (.cells (n * sz) cs))) (kX fs l R fr d) := by show GP (some true) _ _ = _; rw [gp_t]; rfl
theorem x_ld : X fs (⟨d, none, .ld x⟩ :: l) R fr h = rvP (loadV h (ev fr x) one?) (kX fs l R fr d) := by show GP (some true) _ _ = _; rw [gp_t]; rfl
theorem x_ldn {n : Nat} : X fs (⟨d, none, .ldn n x⟩ :: l) R fr h = rvP (loadV h (ev fr x) (many? n)) (kX fs l R fr d) := by show GP (some true) _ _ = _; rw [gp_t]; rfl
theorem x_st {n : Nat} : X fs (⟨d, none, .st n x y⟩ :: l) R fr h = rvP (storeV h n (ev fr x) (ev fr y)) (kX fs l R fr d) := by show GP (some true) _ _ = _; rw [gp_t]; rfl
theorem x_bin {op : BinOp} : X fs (⟨d, none, .bin op x y⟩ :: l) R fr h = rvP (okv (binV op (ev fr x) (ev fr y)) h) (kX fs l R fr d) := by show GP (some true) _ _ = _; rw [gp_t]; rfl
theorem x_not : X fs (⟨d, none, .not x⟩ :: l) R fr h = rvP ((ev fr x).onB .no fun b => .ok (.b (!b)) h) (kX fs l R fr d) := by show GP (some true) _ _ = _; rw [gp_t]; rfl
theorem x_conv {k : IntKind} : X fs (⟨d, none, .conv k x⟩ :: l) R fr h = rvP ((ev fr x).onI .no fun _ n => .ok (.i k (fw k n)) h) (kX fs l R fr d) := by show GP (some true) _ _ = _; rw [gp_t]; rfl
theorem x_mkfn {k : K} {cs : List EO} : X fs (⟨d, none, .mkfn k cs⟩ :: l) R fr h = X fs l R (putD fr d (.fn k (evs fr cs))) h := by show GP (some true) _ _ = _; rw [gp_t]; rfl
theorem x_mks {sz : Nat} {zs : List V} : X fs (⟨d, none, .mkslice sz zs x⟩ :: l) R fr h = rvP (mksV sz zs h (ev fr x)) (kX fs l R fr d) := by show GP (some true) _ _ = _; rw [gp_t]; rfl
theorem x_slice {sz : Nat} {lo hi mx : Option EO} : X fs (⟨d, none, .slice sz x lo hi mx⟩ :: l) R fr h = rvP (sliceV fr sz (ev fr x) lo hi mx h) (kX fs l R fr d) := by show GP (some true) _ _ = _; rw [gp_t]; rfl
theorem x_iadr {n sz : Nat} : X fs (⟨d, none, .iadr n sz x y⟩ :: l) R fr h = rvP ((ev fr x).onP fun id off => idxV (ev fr y) n fun m => .ok (.p id (off + m * sz)) h) (kX fs l R fr d) := by show GP (some true) _ _ = _; rw [gp_t]; rfl
noncomputable def iadsV (sz : Nat) (x y : V) (h : H) : RV := x.onSl .no .no fun id off len sz' => bif Nat.beq sz sz' then idxV y len fun n => .ok (.p id (off + n * sz)) h else .no
theorem x_iads {sz : Nat} : X fs (⟨d, none, .iads sz x y⟩ :: l) R fr h = rvP (iadsV sz (ev fr x) (ev fr y) h) (kX fs l R fr d) := by show GP (some true) _ _ = _; rw [gp_t]; rfl
theorem x_ext {i : Nat} : X fs (⟨d, none, .ext x i⟩ :: l) R fr h = rvP ((ev fr x).onTup fun l => okv (nth l i) h) (kX fs l R fr d) := by show GP (some true) _ _ = _; rw [gp_t]; rfl
theorem x_call {args : List EO} : X fs (⟨d, none, .call x args⟩ :: l) R fr h = CallP fs (ev fr x) (evs fr args) h (kX fs l R fr d) := by show GP (some true) _ _ = _; rw [gp_t]; rfl
theorem x_len : X fs (⟨d, none, .len x⟩ :: l) R fr h = rvP (lenV (ev fr x) h) (kX fs l R fr d) := by show GP (some true) _ _ = _; rw [gp_t]; rfl
theorem x_isnil {b : Bool} : X fs (⟨d, none, .isnil b x⟩ :: l) R fr h = rvP (isnilV b (ev fr x) h) (kX fs l R fr d) := by show GP (some true) _ _ = _; rw [gp_t]; rfl
noncomputable def nnV (v : V) (h : H) : RV := v.onNN fun v => .ok v h
theorem nn_p {id : K} {off : Nat} : nnV (.p id off) h = .ok (.p id off) h := of_eq_true (eq_self _)
theorem x_pr {p : PK} : X fs (⟨d, none, .pr p x y⟩ :: l) R fr h = rvP (okv (prV p (ev fr x) (ev fr y)) h) (kX fs l R fr d) := by show GP (some true) _ _ = _; rw [gp_t]; rfl
theorem x_appZ {sz : Nat} {zs : List V} : X fs (⟨d, none, .appZ sz zs x y⟩ :: l) R fr h = rvP (appZV sz zs h (ev fr x) (ev fr y)) (kX fs l R fr d) := by show GP (some true) _ _ = _; rw [gp_t]; rfl
theorem x_app {sz : Nat} : X fs (⟨d, none, .app sz x y⟩ :: l) R fr h = rvP (appV sz h (ev fr x) (ev fr y)) (kX fs l R fr d) := by show GP (some true) _ _ = _; rw [gp_t]; rfl
theorem x_min : X fs (⟨d, none, .min x y⟩ :: l) R fr h = rvP (minV (ev fr x) (ev fr y) h) (kX fs l R fr d) := by show GP (some true) _ _ = _; rw [gp_t]; rfl
theorem x_max : X fs (⟨d, none, .max x y⟩ :: l) R fr h = rvP (maxV (ev fr x) (ev fr y) h) (kX fs l R fr d) := by show GP (some true) _ _ = _; rw [gp_t]; rfl
theorem kx : kX fs l R fr d v h = X fs l R (putD fr d v) h := of_eq_true (eq_self _)
theorem rvP_ok : rvP (.ok v h) f = f v h := of_eq_true (eq_self _)
theorem okv_some : okv (some v) h = .ok v h := of_eq_true (eq_self _)
/-! Values -/
theorem ev_t {k : K} : ev fr (.t k) = getV (fr.get k) := of_eq_true (eq_self _)
theorem ev_c : ev fr (.c v) = v := of_eq_true (eq_self _)
theorem evs_nil : evs fr [] = [] := of_eq_true (eq_self _)
theorem evs_cons {as : List EO} : evs fr (x :: as) = ev fr x :: evs fr as := of_eq_true (eq_self _)
theorem getV_some : getV (some v) = v := of_eq_true (eq_self _)
theorem putD_some {k : K} : putD fr (some k) v = fr.set k v := of_eq_true (eq_self _)
theorem putD_none : putD fr none v = fr := of_eq_true (eq_self _)
variable {k k' : IntKind} {a b : Int} {r s : Bool} {id id' : K} {off n m sz : Nat}
theorem bin_add : binV .add (.i k a) (.i k b) = some (.i k (fw k (a + b))) := by cases k <;> (show some (V.i _ (fw _ (iadd a b))) = _; rw [iadd_eq])
theorem bin_sub : binV .sub (.i k a) (.i k b) = some (.i k (fw k (a - b))) := by cases k <;> (show some (V.i _ (fw _ (isub a b))) = _; rw [isub_eq])
theorem bin_mul : binV .mul (.i k a) (.i k b) = some (.i k (fw k (a * b))) := by cases k <;> (show some (V.i _ (fw _ (imul a b))) = _; rw [imul_eq])
theorem bin_eql : binV .eql (.i k a) (.i k b) = some (.b (decide (a = b))) := by
  have : binV .eql (.i k a) (.i k b) = some (.b (ieq a b)) := by cases k <;> rfl
  rw [this, ieq_eq]; congr 2
theorem bin_neq : binV .neq (.i k a) (.i k b) = some (.b (decide (a ≠ b))) := by
  have : binV .neq (.i k a) (.i k b) = some (.b (!ieq a b)) := by cases k <;> rfl
  rw [this, ieq_eq]; by_cases h : a = b <;> simp [h]
theorem bin_lss : binV .lss (.i k a) (.i k b) = some (.b (decide (a < b))) := by
  have : binV .lss (.i k a) (.i k b) = some (.b (ilt a b)) := by cases k <;> rfl
  rw [this, ilt_eq]
theorem bin_leq : binV .leq (.i k a) (.i k b) = some (.b (decide (a ≤ b))) := by
  have : binV .leq (.i k a) (.i k b) = some (.b (ile a b)) := by cases k <;> rfl
  rw [this, ile_eq]
theorem bin_gtr : binV .gtr (.i k a) (.i k b) = some (.b (decide (b < a))) := by
  have : binV .gtr (.i k a) (.i k b) = some (.b (ilt b a)) := by cases k <;> rfl
  rw [this, ilt_eq]
theorem bin_geq : binV .geq (.i k a) (.i k b) = some (.b (decide (b ≤ a))) := by
  have : binV .geq (.i k a) (.i k b) = some (.b (ile b a)) := by cases k <;> rfl
  rw [this, ile_eq]
theorem bin_rem (hb : b ≠ 0) : binV .rem (.i k a) (.i k b) = some (.i k (a.tmod b)) := by
  have : binV .rem (.i k a) (.i k b) = irem k a b := by cases k <;> rfl
  rw [this]; unfold irem; rw [ieq_eq, show (b == 0) = false by simpa using hb]; rfl
theorem bin_quo (hb : b ≠ 0) : binV .quo (.i k a) (.i k b) = some (.i k (fw k (a.tdiv b))) := by
  have : binV .quo (.i k a) (.i k b) = iquo k a b := by cases k <;> rfl
  rw [this]; unfold iquo; rw [ieq_eq, show (b == 0) = false by simpa using hb]; rfl
theorem bin_shl (hb : 0 ≤ b) : binV .shl (.i k a) (.i k' b) = some (.i k (fw k (a * 2 ^ (min b.toNat k.bits)))) := by
  obtain ⟨n, rfl⟩ := Int.eq_ofNat_of_zero_le hb
  have : binV .shl (.i k a) (.i k' (n : Int)) = some (shlV k a n) := by cases k <;> rfl
  rw [this]; unfold shlV; rw [imul_eq]; simp
theorem bin_shr {m n : Nat} : binV .shr (.i k (m : Int)) (.i k' (n : Int)) = some (.i k ((m / 2 ^ (min n k.bits) : Nat) : Int)) := by
  have : binV .shr (.i k (m : Int)) (.i k' (n : Int)) = some (shrV k (m : Int) n) := by cases k <;> rfl
  rw [this]; rfl
theorem ibits_nat {ff : Nat → Nat → Nat} {g : (w : Nat) → BitVec w → BitVec w → BitVec w} {m n : Nat} (hm : m ≤ kmax k) (hn : n ≤ kmax k) : ibits ff g k (m : Int) (n : Int) = ((ff m n : Nat) : Int) := by
  show (bif Nat.ble m (kmax k) && Nat.ble n (kmax k) then Int.ofNat (ff m n) else slowBits g k m n) = _
  rw [Nat.ble_eq_true_of_le hm, Nat.ble_eq_true_of_le hn]; rfl
theorem bin_and {m n : Nat} (hm : m ≤ kmax k) (hn : n ≤ kmax k) : binV .and (.i k (m : Int)) (.i k (n : Int)) = some (.i k ((m &&& n : Nat) : Int)) := by
  have : binV .and (.i k (m : Int)) (.i k (n : Int)) = some (.i k (ibits Nat.land (fun _ x y => x &&& y) k m n)) := by cases k <;> rfl
  rw [this, ibits_nat hm hn]; rfl
theorem bin_or {m n : Nat} (hm : m ≤ kmax k) (hn : n ≤ kmax k) : binV .or (.i k (m : Int)) (.i k (n : Int)) = some (.i k ((m ||| n : Nat) : Int)) := by
  have : binV .or (.i k (m : Int)) (.i k (n : Int)) = some (.i k (ibits Nat.lor (fun _ x y => x ||| y) k m n)) := by cases k <;> rfl
  rw [this, ibits_nat hm hn]; rfl
theorem fw_in (h1 : -(kmin k : Int) ≤ a) (h2 : a ≤ kmax k) : fw k a = a := by
  cases a with
  | ofNat m =>
    show (bif Nat.ble m (kmax k) then Int.ofNat m else k.wrap (.ofNat m)) = _
    rw [Nat.ble_eq_true_of_le (show m ≤ kmax k by have : Int.ofNat m = (m : Int) := rfl; omega)]; rfl
  | negSucc m =>
    show (bif Nat.blt m (kmin k) then Int.negSucc m else k.wrap (.negSucc m)) = _
    have : Nat.blt m (kmin k) = true := Nat.ble_eq_true_of_le (by have : Int.negSucc m = -((m : Int) + 1) := rfl; show m + 1 ≤ kmin k; omega)
    rw [this]; rfl
theorem fw64 (h1 : -9223372036854775808 ≤ a) (h2 : a ≤ 9223372036854775807) : fw .i64 a = a := fw_in (k := .i64) h1 h2
theorem fwu64 (h1 : 0 ≤ a) (h2 : a ≤ 18446744073709551615) : fw .u64 a = a := fw_in (k := .u64) (by simpa [kmin] using h1) h2
theorem pick_b {u : V} : pickV (.b r) v u h = .ok (if r = true then v else u) h := by cases r <;> rfl
theorem onB_b {α : Type} {dd : α} {ff : Bool → α} : (V.b r).onB dd ff = ff r := of_eq_true (eq_self _)
theorem onI_i {α : Type} {dd : α} {ff : IntKind → Int → α} : (V.i k a).onI dd ff = ff k a := of_eq_true (eq_self _)
theorem onTup_t {vs : List V} {ff : List V → RV} : (V.tup vs).onTup ff = ff vs := of_eq_true (eq_self _)
theorem onP_p {ff : K → Nat → RV} : (V.p id off).onP ff = ff id off := of_eq_true (eq_self _)
theorem oGet_s {α β : Type} {u : α} {dd : β} {ff : α → β} : oGet (some u) dd ff = ff u := of_eq_true (eq_self _)
theorem nth0 {α : Type} {u : α} {us : List α} : nth (u :: us) 0 = some u := of_eq_true (eq_self _)
theorem nth1 {α : Type} {u u1 : α} {us : List α} : nth (u :: u1 :: us) 1 = some u1 := of_eq_true (eq_self _)
theorem nth2 {α : Type} {u u1 u2 : α} {us : List α} : nth (u :: u1 :: u2 :: us) 2 = some u2 := of_eq_true (eq_self _)
theorem isnil_sl {b : Bool} : isnilV b (.sl id off n sz) h = .ok (.b b) h := of_eq_true (eq_self _)
theorem isnil_sn {b : Bool} : isnilV b .sn h = .ok (.b (!b)) h := of_eq_true (eq_self _)
theorem len_sn : lenV .sn h = .ok (.i .i64 0) h := of_eq_true (eq_self _)
theorem idx_n {ff : Nat → RV} (hm : m < n) : idxV (.i k (m : Int)) n ff = ff m := by
  show (bif Nat.blt m n then ff m else RV.no) = _
  rw [show Nat.blt m n = true from Nat.ble_eq_true_of_le hm]; rfl
theorem iads_sl {y : V} : iadsV sz (.sl id off n sz) y h = idxV y n fun m => .ok (.p id (off + m * sz)) h := by
  show (bif Nat.beq sz sz then _ else _) = _
  rw [Nat.beq_refl]; rfl
theorem load_p {cs : List V} (hb : h.get id = .cells m cs) (hc : nth cs off = some v) : loadV h (.p id off) one? = .ok v h := by
  show okv ((h.get id).onC none fun n cs => one? cs n off) h = _
  rw [hb]; show okv (nth cs off) h = _; rw [hc]; rfl
theorem loadn_p {cs : List V} (hb : h.get id = .cells m cs) (hm : off + n ≤ m) : loadV h (.p id off) (many? n) = .ok (.agg (takeN n (dropN off cs))) h := by
  show okv ((h.get id).onC none fun m cs => many? n cs m off) h = _
  rw [hb]; show okv (bif Nat.ble (off + n) m then some (.agg (takeN n (dropN off cs))) else none) h = _
  rw [Nat.ble_eq_true_of_le hm]; rfl
theorem store_p {cs xs : List V} (hb : h.get id = .cells m cs) (hx : cellsN n v = some xs) (hm : off + n ≤ m) : storeV h n (.p id off) v = .ok undefV (h.put id (.cells m (setMany cs off xs))) := by
  show (h.get id).onW RV.no (fun m cs => oGet (cellsN n v) RV.no fun xs => bif Nat.ble (off + n) m then RV.ok undefV (h.put id (.cells m (setMany cs off xs))) else RV.no) = _
  rw [hb, hx]
  show (bif Nat.ble (off + n) m then RV.ok undefV (h.put id (.cells m (setMany cs off xs))) else RV.no) = _
  rw [Nat.ble_eq_true_of_le hm]; rfl
theorem min_ii : minV (.i k a) (.i k' b) h = .ok (.i k (min a b)) h := by
  show RV.ok (V.i k (bif ilt b a then b else a)) h = _
  rw [ilt_eq]; by_cases e : b < a <;> simp [e, Int.min_def] <;> omega
theorem max_ii : maxV (.i k a) (.i k' b) h = .ok (.i k (max a b)) h := by
  show RV.ok (V.i k (bif ilt a b then b else a)) h = _
  rw [ilt_eq]; by_cases e : a < b <;> simp [e, Int.max_def] <;> omega
theorem readRs_nil : readRs fr h [] = some [] := of_eq_true (eq_self _)
theorem readRs_t {kk : K} {rs : List ER} : readRs fr h (.tmp kk :: rs) = oGet (readRs fr h rs) none fun l => some (getV (fr.get kk) :: l) := of_eq_true (eq_self _)
theorem readRs_c {kk : K} {rs : List ER} : readRs fr h (.cell kk :: rs) = oGet (readP h (getV (fr.get kk)) one?) none fun v => oGet (readRs fr h rs) none fun l => some (v :: l) := of_eq_true (eq_self _)
theorem readRs_n {kk : K} {n : Nat} {rs : List ER} : readRs fr h (.celln kk n :: rs) = oGet (readP h (getV (fr.get kk)) (many? n)) none fun v => oGet (readRs fr h rs) none fun l => some (v :: l) := of_eq_true (eq_self _)
theorem retV_1 : retV [v] = v := of_eq_true (eq_self _)
theorem retV_0 : retV [] = .tup [] := of_eq_true (eq_self _)
theorem retV_2 {v1 v2 : V} {vs : List V} : retV (v1 :: v2 :: vs) = .tup (v1 :: v2 :: vs) := of_eq_true (eq_self _)
theorem getK_set {kk kk' : Nat} {t : Fr} : T.get (K.ofNat kk) (T.set (K.ofNat kk') v t) = if kk = kk' then some v else T.get (K.ofNat kk) t := by
  rw [T.get_set]
  by_cases e : kk = kk'
  · rw [if_pos e, if_pos (by rw [e])]
  · rw [if_neg e, if_neg (fun h => e (by rw [← K.ofNat_nat kk, h, K.ofNat_nat]))]
theorem frame_1 {v1 : V} : frame .e [v1] .nil = T.set (K.ofNat 0) v1 .nil := of_eq_true (eq_self _)
theorem frame_2 {v1 v2 : V} : frame .e [v1, v2] .nil = T.set (K.ofNat 1) v2 (T.set (K.ofNat 0) v1 .nil) := of_eq_true (eq_self _)
theorem frame_3 {v1 v2 v3 : V} : frame .e [v1, v2, v3] .nil = T.set (K.ofNat 2) v3 (T.set (K.ofNat 1) v2 (T.set (K.ofNat 0) v1 .nil)) := of_eq_true (eq_self _)
theorem frame_4 {v1 v2 v3 v4 : V} : frame .e [v1, v2, v3, v4] .nil = T.set (K.ofNat 3) v4 (T.set (K.ofNat 2) v3 (T.set (K.ofNat 1) v2 (T.set (K.ofNat 0) v1 .nil))) := of_eq_true (eq_self _)
theorem cells1_i : cellsN 1 (.i k a) = some [.i k a] := of_eq_true (eq_self _)
theorem cells1_sl : cellsN 1 (.sl id off n sz) = some [.sl id off n sz] := of_eq_true (eq_self _)
end
end Go.Ev
namespace Go.Ev
open Go Go.RowKit

/-! ### Memory that grows -/
/-- Nothing lies beyond the names that were given. -/
def HC (h : H) : Prop := ∀ id : K, h.nx.nat ≤ id.nat → h.get id = .dead
/-- What has a name below b stays. -/
structure Grow (b : Nat) (h h' : H) : Prop where
  nx : h.nx.nat ≤ h'.nx.nat
  old : ∀ id : K, id.nat < b → h'.get id = h.get id
  hc : HC h → HC h'
theorem Grow.refl (b : Nat) (h : H) : Grow b h h := ⟨Nat.le_refl _, fun _ _ => rfl, fun h => h⟩
theorem Grow.trans {b : Nat} {h h1 h2 : H} (k : Grow b h h1) (l : Grow b h1 h2) : Grow b h h2 := ⟨Nat.le_trans k.nx l.nx, fun id hi => (l.old id hi).trans (k.old id hi), fun hc => l.hc (k.hc hc)⟩
theorem Grow.low {b c : Nat} {h h1 : H} (hb : b ≤ c) (k : Grow c h h1) : Grow b h h1 := ⟨k.nx, fun id hi => k.old id (Nat.lt_of_lt_of_le hi hb), k.hc⟩
theorem nx_new (h : H) (x : Blk) : (h.new x).nx.nat = h.nx.nat + 1 := K.succ_nat _
theorem nx_put (h : H) (k : K) (x : Blk) : (h.put k x).nx = h.nx := rfl
theorem Grow.new {b : Nat} {h : H} (hb : b ≤ h.nx.nat) (x : Blk) : Grow b h (h.new x) := by
  refine ⟨by rw [nx_new]; omega, fun id hi => ?_, fun hc id hi => ?_⟩
  · rw [H.get_new, if_neg (fun e => by rw [e] at hi; omega)]
  · rw [nx_new] at hi
    rw [H.get_new, if_neg (fun e => by rw [e] at hi; omega)]
    exact hc id (by omega)
theorem Grow.put {b : Nat} {h : H} {k : K} (hb : b ≤ k.nat) (hk : k.nat < h.nx.nat) (x : Blk) : Grow b h (h.put k x) := by
  refine ⟨Nat.le_refl _, fun id hi => ?_, fun hc id hi => ?_⟩
  · rw [H.get_put, if_neg (fun e => by rw [e] at hi; omega)]
  · rw [nx_put] at hi
    rw [H.get_put, if_neg (fun e => by rw [e] at hi; omega)]
    exact hc id hi
theorem HC.lt {h : H} (hc : HC h) {id : K} (hd : h.get id ≠ .dead) : id.nat < h.nx.nat := by
  rcases Nat.lt_or_ge id.nat h.nx.nat with e | e
  · exact e
  · exact absurd (hc id e) hd
theorem HC.cells {h : H} (hc : HC h) {id : K} {m : Nat} {cs : List V} (hd : h.get id = .cells m cs) : id.nat < h.nx.nat := hc.lt (by rw [hd]; simp)
theorem HC.dead {h : H} (hc : HC h) : (h.get h.nx).isDead = true := by rw [hc h.nx (Nat.le_refl _)]; rfl
theorem get_new_same {h : H} {x : Blk} : (h.new x).get h.nx = x := by rw [H.get_new, if_pos rfl]
theorem get_new_old {h : H} {x : Blk} {id : K} (hi : id.nat < h.nx.nat) : (h.new x).get id = h.get id := by rw [H.get_new, if_neg (fun e => by rw [e] at hi; omega)]
theorem get_put_same {h : H} {x : Blk} {id : K} : (h.put id x).get id = x := by rw [H.get_put, if_pos rfl]
theorem get_put_other {h : H} {x : Blk} {id id' : K} (hi : id' ≠ id) : (h.put id x).get id' = h.get id' := by rw [H.get_put, if_neg hi]

/-! ### Slices -/
def Sl {α : Type} (e : α → V) (h : H) (v : V) (L : List α) : Prop := (v = .sn ∧ L = []) ∨ ∃ id off m cs, v = .sl id off L.length 1 ∧ h.get id = .cells m cs ∧ cs.length = m ∧ off + L.length ≤ m ∧ ∀ i (hi : i < L.length), cs[off + i]? = some (e L[i])
/-- The slice was made since. -/
def Own (b : Nat) (v : V) : Prop := ∀ id off n sz, v = .sl id off n sz → b ≤ id.nat
/-- The slice is no part of that block. -/
def NotIn (id : K) (v : V) : Prop := ∀ off n sz, v ≠ .sl id off n sz
noncomputable def iE (n : Int) : V := .i .i64 n
section
variable {α : Type} {e : α → V} {h h' : H} {v u : V} {L M : List α} {b : Nat}
theorem Sl.nil : Sl e h .sn ([] : List α) := .inl ⟨rfl, rfl⟩
theorem Own.sn : Own b .sn := fun _ _ _ _ h => by cases h
theorem NotIn.sn {id : K} : NotIn id .sn := fun _ _ _ h => by cases h
theorem Own.low {c : Nat} (ho : Own c v) (hb : b ≤ c) : Own b v := fun id off n sz e => Nat.le_trans hb (ho id off n sz e)
theorem Sl.len (hs : Sl e h v L) (h1 : H) : lenV v h1 = .ok (.i .i64 (L.length : Int)) h1 := by
  rcases hs with ⟨rfl, rfl⟩ | ⟨id, off, m, cs, rfl, _⟩ <;> rfl
theorem Sl.at (hs : Sl e h v L) (i : Nat) (hi : i < L.length) : ∃ p, (∀ k h1, iadsV 1 v (.i k (i : Int)) h1 = .ok p h1) ∧ loadV h p one? = .ok (e L[i]) h := by
  rcases hs with ⟨rfl, rfl⟩ | ⟨id, off, m, cs, rfl, hb, hl, hm, hx⟩
  · simp at hi
  · refine ⟨.p id (off + i * 1), fun k h1 => ?_, ?_⟩
    · rw [iads_sl, idx_n hi]
    · exact load_p hb (by rw [nth_eq, Nat.mul_one]; exact hx i hi)
theorem Sl.same (hs : Sl e h v L) (hg : ∀ id off n sz, v = .sl id off n sz → h'.get id = h.get id) : Sl e h' v L := by
  rcases hs with ⟨rfl, rfl⟩ | ⟨id, off, m, cs, rfl, hb, hl, hm, hx⟩
  · exact .inl ⟨rfl, rfl⟩
  · exact .inr ⟨id, off, m, cs, rfl, by rw [hg _ _ _ _ rfl]; exact hb, hl, hm, hx⟩
theorem Sl.lt (hs : Sl e h v L) (hc : HC h) : ∀ id off n sz, v = .sl id off n sz → id.nat < h.nx.nat := by
  rcases hs with ⟨rfl, rfl⟩ | ⟨id, off, m, cs, rfl, hb, hl, hm, hx⟩
  · exact fun _ _ _ _ h => by cases h
  · exact fun _ _ _ _ h => by cases h; exact hc.cells hb
/-- What was there when the call began is there. -/
theorem Sl.grow (hs : Sl e h v L) (hc : HC h) (hg : Grow h.nx.nat h h') : Sl e h' v L := hs.same fun id off n sz ev => hg.old id (hs.lt hc id off n sz ev)
theorem Sl.new (hs : Sl e h v L) (hc : HC h) (x : Blk) : Sl e (h.new x) v L := hs.grow hc (Grow.new (Nat.le_refl _) x)
theorem Sl.put (hs : Sl e h v L) {id : K} (hn : NotIn id v) (x : Blk) : Sl e (h.put id x) v L := hs.same fun id' off n sz ev => get_put_other (fun ee => hn off n sz (by rw [ev, ee]))
theorem Sl.addOf (hs : Sl e h v L) : addOf 1 h v = some (L.length, L.map e) := by
  rcases hs with ⟨rfl, rfl⟩ | ⟨id, off, m, cs, rfl, hb, hl, hm, hx⟩
  · rfl
  · show (h.get id).onC none (fun len cs => bif Nat.beq 1 1 && Nat.ble (off + L.length * 1) len then some (L.length, takeN (L.length * 1) (dropN off cs)) else none) = _
    rw [hb]
    show (bif Nat.beq 1 1 && Nat.ble (off + L.length * 1) m then some (L.length, takeN (L.length * 1) (dropN off cs)) else none) = _
    rw [show (Nat.beq 1 1 && Nat.ble (off + L.length * 1) m) = true by rw [Nat.beq_refl, Nat.ble_eq_true_of_le (by omega)]; rfl]
    show some (L.length, takeN (L.length * 1) (dropN off cs)) = _
    congr 2
    rw [takeN_eq, dropN_eq, Nat.mul_one]
    apply List.ext_getElem?
    intro i
    by_cases hi : i < L.length
    · rw [List.getElem?_take, if_pos hi, List.getElem?_drop, hx i hi]; simp [hi]
    · rw [List.getElem?_eq_none (by simp; omega), List.getElem?_eq_none (by simp; omega)]
/-- What appending does. -/
theorem Sl.appA (hs : Sl e h v L) (ho : Own b v) (hb : b ≤ h.nx.nat) (hu : Go.Ev.addOf 1 h u = some (M.length, M.map e)) (hc : HC h) (hn : L.length + M.length ≤ 16777216) :
    ∃ v' h', appV 1 h v u = .ok v' h' ∧ Sl e h' v' (L ++ M) ∧ Own b v' ∧ Grow b h h' ∧ ∀ id : K, id.nat < h.nx.nat → NotIn id v → h'.get id = h.get id ∧ NotIn id v' := by
  have hne : ∀ id : K, id.nat < h.nx.nat → id ≠ h.nx := fun id hi ee => by rw [ee] at hi; omega
  have ht : v.tight = false := by rcases hs with ⟨rfl, _⟩ | ⟨_, _, _, _, rfl, _⟩ <;> rfl
  unfold appV
  rw [hu]
  simp only [oGet, ht, cond_false]
  show ∃ v' h', v.onSl RV.no (bif Nat.ble M.length 16777216 then app0 1 h M.length (M.map e) else .no) (fun id off n sz' => (h.get id).onW .no fun len cs => bif Nat.beq 1 sz' && Nat.ble (off + n * 1) len && Nat.ble (n + M.length) 16777216 then app1 1 h id off n cs M.length (M.map e) else .no) = .ok v' h' ∧ _
  rcases hs with ⟨rfl, rfl⟩ | ⟨id, off, m, cs, rfl, hb', hl, hm, hx⟩
  · show ∃ v' h', (bif Nat.ble M.length 16777216 then app0 1 h M.length (M.map e) else .no) = .ok v' h' ∧ _
    rw [Nat.ble_eq_true_of_le (by simpa using hn)]
    show ∃ v' h', app0 1 h M.length (M.map e) = .ok v' h' ∧ _
    unfold app0
    by_cases hz : M.length = 0
    · have : M = [] := List.length_eq_zero_iff.1 hz
      subst this
      exact ⟨.sn, h, rfl, .inl ⟨rfl, rfl⟩, Own.sn, Grow.refl _ _, fun id hi _ => ⟨rfl, NotIn.sn⟩⟩
    · rw [show Nat.beq M.length 0 = false by rw [← Bool.not_eq_true]; intro h; exact hz (Nat.eq_of_beq_eq_true h)]
      refine ⟨_, _, rfl, .inr ⟨h.nx, 0, M.length * 1, M.map e, rfl, get_new_same, by simp, by simp, fun i hi => ?_⟩, fun _ _ _ _ h => by cases h; exact hb, Grow.new hb _, fun id hi _ => ⟨get_new_old hi, fun _ _ _ h => by cases h; omega⟩⟩
      have hi : i < M.length := by simpa using hi
      simp [hi]
  · show ∃ v' h', (h.get id).onW RV.no (fun len cs => bif Nat.beq 1 1 && Nat.ble (off + L.length * 1) len && Nat.ble (L.length + M.length) 16777216 then app1 1 h id off L.length cs M.length (M.map e) else .no) = .ok v' h' ∧ _
    rw [hb']
    show ∃ v' h', (bif Nat.beq 1 1 && Nat.ble (off + L.length * 1) m && Nat.ble (L.length + M.length) 16777216 then app1 1 h id off L.length cs M.length (M.map e) else .no) = .ok v' h' ∧ _
    rw [show (Nat.beq 1 1 && Nat.ble (off + L.length * 1) m && Nat.ble (L.length + M.length) 16777216) = true by rw [Nat.beq_refl, Nat.ble_eq_true_of_le (show off + L.length * 1 ≤ m by omega), Nat.ble_eq_true_of_le hn]; rfl]
    show ∃ v' h', app1 1 h id off L.length cs M.length (M.map e) = .ok v' h' ∧ _
    unfold app1
    by_cases hz : M.length = 0
    · have : M = [] := List.length_eq_zero_iff.1 hz
      subst this
      refine ⟨_, h, rfl, .inr ⟨id, off, m, cs, by simp, hb', hl, by simpa using hm, fun i hi => ?_⟩, ho, Grow.refl _ _, fun id' hi hni => ⟨rfl, hni⟩⟩
      have hi' : i < L.length := by simpa using hi
      simpa using hx i hi'
    · rw [show Nat.beq M.length 0 = false by rw [← Bool.not_eq_true]; intro h; exact hz (Nat.eq_of_beq_eq_true h)]
      have hid := hc.cells hb'
      refine ⟨_, _, rfl, .inr ⟨h.nx, 0, (L.length + M.length) * 1, cat (takeN (L.length * 1) (dropN off cs)) (M.map e), by simp, get_new_same, ?_, by simp, fun i hi => ?_⟩, fun _ _ _ _ h => by cases h; exact hb, (Grow.put (ho _ _ _ _ rfl) hid _).trans (Grow.new (by exact hb) _), fun id' hi hni => ⟨?_, fun _ _ _ h => by cases h; exact absurd hi (Nat.lt_irrefl _)⟩⟩
      · rw [cat_eq, takeN_eq, dropN_eq]; simp; omega
      · rw [cat_eq, takeN_eq, dropN_eq, Nat.mul_one, Nat.zero_add]
        have hi' : i < L.length + M.length := by simpa using hi
        by_cases h1 : i < L.length
        · rw [List.getElem?_append_left (by simp; omega), List.getElem?_take, if_pos h1, List.getElem?_drop, hx i h1]
          simp [List.getElem_append_left h1]
        · rw [List.getElem?_append_right (by simp; omega)]
          have : (List.take L.length (List.drop off cs)).length = L.length := by simp; omega
          have hi2 : i - L.length < M.length := by omega
          rw [this, List.getElem_append_right (by omega), List.getElem?_map, List.getElem?_eq_getElem hi2]
          rfl
      · show ((h.put id .dead).new _).get id' = _
        rw [H.get_new, if_neg (show id' ≠ (h.put id .dead).nx from hne id' hi), get_put_other (fun ee => hni off L.length 1 (by rw [ee]))]
theorem Sl.app (hs : Sl e h v L) (ho : Own b v) (hb : b ≤ h.nx.nat) (hu : Sl e h u M) (hc : HC h) (hn : L.length + M.length ≤ 16777216) :
    ∃ v' h', appV 1 h v u = .ok v' h' ∧ Sl e h' v' (L ++ M) ∧ Own b v' ∧ Grow b h h' ∧ ∀ id : K, id.nat < h.nx.nat → NotIn id v → h'.get id = h.get id ∧ NotIn id v' := Sl.appA hs ho hb hu.addOf hc hn
theorem Sl.lit {x : α} : Sl e (h.new (.cells (1 * 1) [e x])) (.sl h.nx 0 1 1) [x] := by
  refine .inr ⟨h.nx, 0, 1 * 1, [e x], rfl, get_new_same, rfl, by simp, fun i hi => ?_⟩
  have : i = 0 := by simpa using hi
  subst this; rfl
/-- append(v, x). -/
theorem Sl.push {x : α} {c : V} (hx : c = e x) (hs : Sl e h v L) (ho : Own b v) (hb : b ≤ h.nx.nat) (hc : HC h) (hn : L.length < 16777216) :
    ∃ v' h', appV 1 (h.new (.cells (1 * 1) [c])) v (.sl h.nx 0 1 1) = .ok v' h' ∧ Sl e h' v' (L ++ [x]) ∧ Own b v' ∧ Grow b h h' ∧ ∀ id : K, id.nat < h.nx.nat → NotIn id v → h'.get id = h.get id ∧ NotIn id v' := by
  subst hx
  have hg := Grow.new (b := b) hb (.cells (1 * 1) [e x])
  have hnx := nx_new h (.cells (1 * 1) [e x])
  obtain ⟨v', h', e1, e2, e3, e4, e5⟩ := Sl.app (b := b) (hs.new hc (.cells (1 * 1) [e x])) ho (by omega) (Sl.lit (e := e) (x := x)) (hg.hc hc) (by simp; omega)
  refine ⟨v', h', e1, e2, e3, hg.trans e4, fun id hi hni => ?_⟩
  obtain ⟨e6, e7⟩ := e5 id (by omega) hni
  exact ⟨by rw [e6, get_new_old hi], e7⟩
theorem fill_1 {fr : Fr} {x : EO} {z : V} : fillE fr [z] [(0, 1, x)] = oGet (cellsN 1 (ev fr x)) none (fun cs => some (setMany [z] 0 cs)) := of_eq_true (eq_self _)
theorem set_1 {z c : V} : setMany [z] 0 [c] = [c] := of_eq_true (eq_self _)
theorem of0 : Int.ofNat 0 = 0 := of_eq_true (eq_self _)
theorem of1 : Int.ofNat 1 = 1 := of_eq_true (eq_self _)
theorem of2 : Int.ofNat 2 = 2 := of_eq_true (eq_self _)
theorem of3 : Int.ofNat 3 = 3 := of_eq_true (eq_self _)
theorem of4 : Int.ofNat 4 = 4 := of_eq_true (eq_self _)
theorem of6 : Int.ofNat 6 = 6 := of_eq_true (eq_self _)
theorem of8 : Int.ofNat 8 = 8 := of_eq_true (eq_self _)
theorem of10 : Int.ofNat 10 = 10 := of_eq_true (eq_self _)
end
end Go.Ev
namespace Go.Ev
open Go Go.RowKit
/-- A round gives b. -/
def Round (fs : T EF) (id : K) (v : V) (h : H) (b : Bool) (h' : H) : Prop := ∃ n, callV fs (eval fs n) (.yl id) [v] h = .ok (.b b) h'
section
variable {fs : T EF} {go : Go} {fr : Fr} {h h' : H} {id : K} {i : Nat} {cs : List V} {B : Nat → Bool}
end

/-! ### A round, and a loop over a function -/
section
variable {fs : T EF} {fr fr1 fr2 : Fr} {h h1 h2 h3 : H} {id : K} {ps : List K} {a c : EC} {v : V} {vs : List V} {e : Ex}
/-- What stands of the loop behind a round. -/
def afterR (e : Ex) (fr : Fr) (ps : List K) (a c : EC) : Blk := match e with
  | .normal => .loop .ready none fr ps a c
  | e => .loop .done (some e) fr ps a c
def isNo (e : Ex) : Bool := match e with | .normal => true | _ => false
theorem round_of (hb : h.get id = .loop .ready none fr ps a c) (hl : Nat.beq (lenL [v]) (lenL ps) = true) (ha : Runs fs (some id) a (bindK fr ps [v]) h .normal fr1 h1) (hb1 : h1.get id = .loop .ready none fr ps a c)
    (hc : Runs fs (some id) c fr1 (h1.put id (.loop .busy none fr ps a c)) e fr2 h2) (hb2 : h2.get id = .loop .busy none fr ps a c) : Round fs id v h (isNo e) (h2.put id (afterR e fr ps a c)) := by
  obtain ⟨n, e1⟩ := ha
  obtain ⟨m, e2⟩ := hc
  have e1 := eval_le fs (Nat.le_max_left n m) _ _ _ _ _ _ _ e1
  have e2 := eval_le fs (Nat.le_max_right n m) _ _ _ _ _ _ _ e2
  refine ⟨max n m, ?_⟩
  show (h.get id).onL (fun s _ fr ps a c => roundA (eval fs (max n m)) id [v] h s fr ps a c) = _
  rw [hb]
  show roundA (eval fs (max n m)) id [v] h .ready fr ps a c = _
  unfold roundA
  rw [hl]
  show ((eval fs (max n m) (some id) a (bindK fr ps [v]) h).all fun e fr' h => isN e ((h.get id).onL fun s j fr ps a c' => roundB (eval fs (max n m)) id c fr' h s j fr ps a c')) = _
  rw [e1]
  show (h1.get id).onL (fun s j fr ps a c' => roundB (eval fs (max n m)) id c fr1 h1 s j fr ps a c') = _
  rw [hb1]
  show ((eval fs (max n m) (some id) c fr1 (h1.put id (.loop .busy none fr ps a c))).all fun e _ h => (h.get id).onL fun s _ fr ps a c => isBusy s (endR id e fr ps a c h)) = _
  rw [e2]
  show (h2.get id).onL (fun s _ fr ps a c => isBusy s (endR id e fr ps a c h2)) = _
  rw [hb2]
  cases e <;> rfl
/-- How a loop over a function ends. -/
theorem Runs.range {ro : Option K} {f : EO} {k : K} {caps : List V} {u : V} {s : LS} {j : Option Ex} {ps' : List K} {a' c' : EC} {frl : Fr} (hro : roOk ro h = true) (hf : ev fr f = .fn k caps)
    (hcall : ∃ n, callV fs (eval fs n) (.fn k caps) [.yl h.nx] (h.new (.loop .ready none fr ps a c)) = .ok u h1) (hb : h1.get h.nx = .loop s j frl ps' a' c') (he : (s = .ready ∧ j = none ∧ e = .normal) ∨ (s = .done ∧ j = some e)) :
    Runs fs ro (.rangeF f ps a c) fr h e fr (h1.put h.nx .dead) := by
  obtain ⟨n, hc⟩ := hcall
  refine ⟨n + 1, ?_⟩
  show rangeL fs (eval fs n) ro (ev fr f) ps a c fr h = _
  rw [hf]
  unfold rangeL
  have : (roOk ro h && (V.fn k caps).isF) = true := by rw [hro]; rfl
  rw [this]
  show ((callV fs (eval fs n) (.fn k caps) [.yl h.nx] (h.new (.loop .ready none fr ps a c))).to fun _ h' => (h'.get h.nx).onL' fun s j => endL s j h.nx fr h') = _
  rw [hc]
  show (h1.get h.nx).onL' (fun s j => endL s j h.nx fr h1) = _
  rw [hb]
  rcases he with ⟨rfl, rfl, rfl⟩ | ⟨rfl, rfl⟩ <;> rfl
end

section
variable {fs : T EF} {go : Go} {fr : Fr} {h : H} {id idp : K} {cs : List V} {B : Nat → Bool} {x : EO} {off m n : Nat} {v : V} {k : K}
end
end Go.Ev
namespace Go.Ev
open Go Go.RowKit
section
variable {fs : T EF} {go : Go} {fr : Fr} {h h' : H} {id idp : K} {i : Nat} {S : Int}
end
end Go.Ev
namespace Go.Ev
open Go Go.RowKit
section
variable {fs : T EF}
def rdyB (fr : Fr) (ps : List K) (a c : EC) : Blk := .loop .ready none fr ps a c
def bsyB (fr : Fr) (ps : List K) (a c : EC) : Blk := .loop .busy none fr ps a c
/-- A round's end. -/
def rndK (id : K) (fr : Fr) (ps : List K) (a c : EC) (I : H → Prop) (D : Ex → H → Prop) : Ex → Fr → H → Prop := fun e _ h => h.get id = bsyB fr ps a c ∧ (match e with | .normal => I (h.put id (rdyB fr ps a c)) | e => D e (h.put id .dead))
def rndA (fs : T EF) (id : K) (fr : Fr) (ps : List K) (a c : EC) (I : H → Prop) (D : Ex → H → Prop) : Ex → Fr → H → Prop := fun e fr1 h => e = .normal ∧ h.get id = rdyB fr ps a c ∧ W fs (some id) c (rndK id fr ps a c I D) fr1 (h.put id (bsyB fr ps a c))
section
variable {id : K} {fr fr1 : Fr} {ps : List K} {a c : EC} {I : H → Prop} {D : Ex → H → Prop} {h : H} {i : Nat}
theorem rndA_n : rndA fs id fr ps a c I D .normal fr1 h = (h.get id = rdyB fr ps a c ∧ W fs (some id) c (rndK id fr ps a c I D) fr1 (h.put id (bsyB fr ps a c))) := by
  show (Ex.normal = Ex.normal ∧ _) = _
  rw [eq_self, true_and]
theorem rndK_n : rndK id fr ps a c I D .normal fr1 h = (h.get id = bsyB fr ps a c ∧ I (h.put id (rdyB fr ps a c))) := of_eq_true (eq_self _)
theorem rndK_r : rndK id fr ps a c I D .ret fr1 h = (h.get id = bsyB fr ps a c ∧ D .ret (h.put id .dead)) := of_eq_true (eq_self _)
end
theorem T.set_set {α : Type} (k : K) (x y : α) : ∀ t : T α, T.set k y (T.set k x t) = T.set k y t := by
  induction k with
  | e => intro t; rfl
  | o k ih =>
    intro t
    show T.node (T.set k y (T.set k x t.left)) t.val t.right = T.node (T.set k y t.left) t.val t.right
    rw [ih]
  | z k ih =>
    intro t
    show T.node t.left t.val (T.set k y (T.set k x t.right)) = T.node t.left t.val (T.set k y t.right)
    rw [ih]
theorem H.put_put (h : H) (k : K) (x y : Blk) : (h.put k x).put k y = h.put k y := by
  show (⟨h.nx, T.set k y (T.set k x h.t)⟩ : H) = ⟨h.nx, T.set k y h.t⟩
  rw [T.set_set]
end
section
variable {α : Type} {e : α → V} {fr : Fr} {h : H} {x y : EO} {v : V} {L M : List α} {sz : Nat} {lo hi mx : Option EO}
/-! ### Parts of slices -/
noncomputable def bnd (o : Option V) (d : Nat) : Option Nat := oGet o (some d) fun v => v.onI none fun _ n => nonneg n
noncomputable def sliceB (sz : Nat) (x : V) (lo hi mx : Option V) (h : H) : RV := x.onSl .no
    (oGet (bnd lo 0) .no fun l => oGet (bnd hi 0) .no fun u => oGet (bnd mx 0) .no fun m => bif Nat.beq l 0 && Nat.beq u 0 && Nat.beq m 0 then .ok .sn h else .no)
    fun id off n sz' => bif Nat.beq sz sz' then (oGet (bnd lo 0) .no fun l => oGet (bnd hi n) .no fun u => oGet mx (cutV id off n sz h l u none) fun _ => oGet (bnd mx 0) .no fun m => cutV id off n sz h l u (some m)) else .no
theorem bound_eq (o : Option EO) (d : Nat) : bound fr o d = bnd (o.map (ev fr)) d := by cases o <;> rfl
theorem sliceV_eq : sliceV fr sz v lo hi mx h = sliceB sz v (lo.map (ev fr)) (hi.map (ev fr)) (mx.map (ev fr)) h := by
  unfold sliceV sliceB
  congr 1
  · rw [bound_eq, bound_eq, bound_eq]
  · funext id off n sz'
    congr 1
    rw [bound_eq]; congr 1; funext l; rw [bound_eq]; congr 1; funext u
    cases mx with
    | none => rfl
    | some m => rfl
theorem Sl.cut {lo hi : Option V} {l u : Nat} (hs : Sl e h v L) (hl : bnd lo 0 = some l) (hu : bnd hi L.length = some u) (h1 : l ≤ u) (h2 : u ≤ L.length) :
    ∃ v', (∀ h1, sliceB 1 v lo hi none h1 = .ok v' h1) ∧ Sl e h v' ((L.take u).drop l) ∧ (∀ b, Own b v → Own b v') ∧ ∀ id, NotIn id v → NotIn id v' := by
  rcases hs with ⟨rfl, rfl⟩ | ⟨id, off, m, cs, rfl, hb, hll, hm, hx⟩
  · have hu0 : u = 0 := by simpa using h2
    subst hu0
    have hl0 : l = 0 := by omega
    subst hl0
    refine ⟨.sn, fun h1 => ?_, .inl ⟨rfl, rfl⟩, fun b h => h, fun id h => h⟩
    unfold sliceB
    have hu : bnd hi 0 = some 0 := hu
    show (oGet (bnd lo 0) .no fun l => oGet (bnd hi 0) .no fun u => oGet (bnd none 0) .no fun m => bif Nat.beq l 0 && Nat.beq u 0 && Nat.beq m 0 then RV.ok .sn h1 else .no) = _
    rw [hl, hu]; rfl
  · refine ⟨.sl id (off + l * 1) (u - l) 1, fun h1 => ?_, .inr ⟨id, off + l * 1, m, cs, ?_, hb, hll, ?_, fun i hi => ?_⟩, fun b ho _ _ _ _ e => ?_, fun id' hn _ _ _ e => ?_⟩
    · unfold sliceB
      show (bif Nat.beq 1 1 then (oGet (bnd lo 0) .no fun l => oGet (bnd hi L.length) .no fun u => oGet none (cutV id off L.length 1 h1 l u none) fun _ => oGet (bnd none 0) .no fun m => cutV id off L.length 1 h1 l u (some m)) else RV.no) = _
      rw [hl, hu, Nat.beq_refl]
      show cutV id off L.length 1 h1 l u none = _
      unfold cutV
      rw [Nat.ble_eq_true_of_le ‹l ≤ u›, Nat.ble_eq_true_of_le h2]; rfl
    · congr 1; simp; omega
    · simp; omega
    · have hi' : i < u - l := by simp at hi; omega
      rw [show off + l * 1 + i = off + (l + i) by omega, hx (l + i) (by omega)]
      simp
    · cases e; exact ho _ _ _ _ rfl
    · cases e; exact hn _ _ _ rfl
theorem bnd_none {d : Nat} : bnd none d = some d := rfl
theorem bnd_i {d m : Nat} {k : IntKind} : bnd (some (.i k (m : Int))) d = some m := rfl
/-! ### Arrays -/
def Ar (e : α → V) (h : H) (id : K) (L : List α) : Prop := h.get id = .cells L.length (L.map e)
theorem Ar.ld {id : K} (ha : Ar e h id L) {i : Nat} (hi : i < L.length) : loadV h (.p id (0 + i * 1)) one? = .ok (e L[i]) h :=
  load_p ha (by rw [nth_eq, Nat.zero_add, Nat.mul_one]; simp [hi])
theorem Ar.ldn {id : K} (ha : Ar e h id L) {n : Nat} (hn : n = L.length) : loadV h (.p id 0) (many? n) = .ok (.agg (L.map e)) h := by
  subst hn
  rw [loadn_p ha (by omega), takeN_eq, dropN_eq, List.drop_zero, List.take_of_length_le (by simp)]
theorem Ar.st {id : K} (ha : Ar e h id L) {i : Nat} (hi : i < L.length) {x : α} {c : V} (hc : c = e x) (ho : cellsN 1 c = some [c]) :
    storeV h 1 (.p id (0 + i * 1)) c = .ok undefV (h.put id (.cells L.length ((L.set i x).map e))) ∧ Ar e (h.put id (.cells L.length ((L.set i x).map e))) id (L.set i x) := by
  subst hc
  refine ⟨?_, ?_⟩
  · rw [store_p ha ho (by omega)]
    congr 3
    rw [setMany_eq _ _ _ (by simp; omega)]
    apply List.ext_getElem?
    intro j
    simp only [List.length_cons, List.length_nil, Nat.zero_add, Nat.mul_one]
    rcases Nat.lt_trichotomy j i with h1 | h1 | h1
    · rw [List.append_assoc, List.getElem?_append_left (by simp; omega), List.getElem?_take, if_pos h1, List.getElem?_map, List.getElem?_map, List.getElem?_set, if_neg (by omega)]
    · subst h1
      rw [List.append_assoc, List.getElem?_append_right (by simp; omega)]; simp [hi]
      have : min j L.length = j := by omega
      rw [this]; simp
    · rw [List.getElem?_append_right (by simp; omega)]
      simp
      rw [show i + 1 + (j - (min i L.length + 1)) = j by omega, List.getElem?_set]
      simp; omega
  · show (h.put id _).get id = _
    rw [get_put_same]; simp
theorem Ar.same {h' : H} {id : K} (ha : Ar e h id L) (hg : h'.get id = h.get id) : Ar e h' id L := by unfold Ar; rw [hg]; exact ha
def arr (f : Nat → α) (n : Nat) : List α := (List.range n).map f
end
end Go.Ev
namespace Go.Ev
open Go Go.RowKit
section
variable {fs : T EF} {R : Fr → H → Prop} {fr : Fr} {h h0 : H} {d : Option K} {l : List EOper} {x y z : EO} {v : V}
def kG (fs : T EF) (l : List EOper) (Q : Fr → H → Prop) (fr : Fr) (d : Option K) (h0 : H) (v : V) (_ : H) : Prop := XG fs l Q (putD fr d v) h0
theorem kg : kG fs l R fr d h0 v h = XG fs l R (putD fr d v) h0 := of_eq_true (eq_self _)
theorem xg_nil : XG fs [] R fr h = R fr h := of_eq_true (eq_self _)
theorem xg_g {k : K} {b : Bool} {op : EOp} : XG fs (⟨d, some (k, b), op⟩ :: l) R fr h = (okG (getV (fr.get k)) ∧ if asG (getV (fr.get k)) b = true then XG fs (⟨d, none, op⟩ :: l) R fr h else XG fs l R (putD fr d undefV) h) := by
  show GP (oGet (some (k, b)) (some true) fun p => guardV (getV (fr.get p.1)) p.2) _ _ = _
  rw [← gp_as]
  show GP (guardV (getV (fr.get k)) b) _ _ = GP (guardV (getV (fr.get k)) b) (GP (some true) _ _) _
  rw [gp_t]
theorem xg_mv  : XG fs (⟨d, none, .mv x⟩ :: l) R fr h = XG fs l R (putD fr d (ev fr x)) h := by show GP (some true) (true = true ∧ _) _ = _; rw [gp_t, eq_self, true_and]; rfl
theorem xg_pick  : XG fs (⟨d, none, .pick x y z⟩ :: l) R fr h = rvP (pickV (ev fr x) (ev fr y) (ev fr z) h) (kG fs l R fr d h) := by show GP (some true) (true = true ∧ _) _ = _; rw [gp_t, eq_self, true_and]; rfl
theorem xg_build {zs : List V} {ps : List (Nat × Nat × EO)} : XG fs (⟨d, none, .build zs ps⟩ :: l) R fr h = rvP (oGet (fillE fr zs ps) .no fun cs => .ok (.agg cs) h) (kG fs l R fr d h) := by show GP (some true) (true = true ∧ _) _ = _; rw [gp_t, eq_self, true_and]; rfl
theorem xg_ld  : XG fs (⟨d, none, .ld x⟩ :: l) R fr h = rvP (loadV h (ev fr x) one?) (kG fs l R fr d h) := by show GP (some true) (true = true ∧ _) _ = _; rw [gp_t, eq_self, true_and]; rfl
theorem xg_ldn {n : Nat} : XG fs (⟨d, none, .ldn n x⟩ :: l) R fr h = rvP (loadV h (ev fr x) (many? n)) (kG fs l R fr d h) := by show GP (some true) (true = true ∧ _) _ = _; rw [gp_t, eq_self, true_and]; rfl
theorem xg_bin {op : BinOp} : XG fs (⟨d, none, .bin op x y⟩ :: l) R fr h = rvP (okv (binV op (ev fr x) (ev fr y)) h) (kG fs l R fr d h) := by show GP (some true) (true = true ∧ _) _ = _; rw [gp_t, eq_self, true_and]; rfl
theorem xg_eqk {kd : KD} {b : Bool} : XG fs (⟨d, none, .eqk kd b x y⟩ :: l) R fr h = rvP (okv (oGet (keyEq kd (ev fr x) (ev fr y)) none fun r => some (.b (bif b then !r else r))) h) (kG fs l R fr d h) := by show GP (some true) (true = true ∧ _) _ = _; rw [gp_t, eq_self, true_and]; rfl
theorem xg_not  : XG fs (⟨d, none, .not x⟩ :: l) R fr h = rvP ((ev fr x).onB .no fun b => .ok (.b (!b)) h) (kG fs l R fr d h) := by show GP (some true) (true = true ∧ _) _ = _; rw [gp_t, eq_self, true_and]; rfl
theorem xg_conv {k : IntKind} : XG fs (⟨d, none, .conv k x⟩ :: l) R fr h = rvP ((ev fr x).onI .no fun _ n => .ok (.i k (fw k n)) h) (kG fs l R fr d h) := by show GP (some true) (true = true ∧ _) _ = _; rw [gp_t, eq_self, true_and]; rfl
theorem xg_slice {sz : Nat} {lo hi mx : Option EO} : XG fs (⟨d, none, .slice sz x lo hi mx⟩ :: l) R fr h = rvP (sliceV fr sz (ev fr x) lo hi mx h) (kG fs l R fr d h) := by show GP (some true) (true = true ∧ _) _ = _; rw [gp_t, eq_self, true_and]; rfl
theorem xg_fadr {o : Nat} : XG fs (⟨d, none, .fadr o x⟩ :: l) R fr h = rvP ((ev fr x).onP fun id p => .ok (.p id (p + o)) h) (kG fs l R fr d h) := by show GP (some true) (true = true ∧ _) _ = _; rw [gp_t, eq_self, true_and]; rfl
theorem xg_iadr {n sz : Nat} : XG fs (⟨d, none, .iadr n sz x y⟩ :: l) R fr h = rvP ((ev fr x).onP fun id off => idxV (ev fr y) n fun m => .ok (.p id (off + m * sz)) h) (kG fs l R fr d h) := by show GP (some true) (true = true ∧ _) _ = _; rw [gp_t, eq_self, true_and]; rfl
theorem xg_iads {sz : Nat} : XG fs (⟨d, none, .iads sz x y⟩ :: l) R fr h = rvP (iadsV sz (ev fr x) (ev fr y) h) (kG fs l R fr d h) := by show GP (some true) (true = true ∧ _) _ = _; rw [gp_t, eq_self, true_and]; rfl
theorem xg_ext {i : Nat} : XG fs (⟨d, none, .ext x i⟩ :: l) R fr h = rvP ((ev fr x).onTup fun l => okv (nth l i) h) (kG fs l R fr d h) := by show GP (some true) (true = true ∧ _) _ = _; rw [gp_t, eq_self, true_and]; rfl
theorem xg_len  : XG fs (⟨d, none, .len x⟩ :: l) R fr h = rvP (lenV (ev fr x) h) (kG fs l R fr d h) := by show GP (some true) (true = true ∧ _) _ = _; rw [gp_t, eq_self, true_and]; rfl
theorem xg_pr {p : PK} : XG fs (⟨d, none, .pr p x y⟩ :: l) R fr h = rvP (okv (prV p (ev fr x) (ev fr y)) h) (kG fs l R fr d h) := by show GP (some true) (true = true ∧ _) _ = _; rw [gp_t, eq_self, true_and]; rfl
theorem xg_nilck : XG fs (⟨d, none, .nilck x⟩ :: l) R fr h = rvP (nnV (ev fr x) h) (kG fs l R fr d h) := by show GP (some true) (true = true ∧ _) _ = _; rw [gp_t, eq_self, true_and]; rfl
theorem xg_bslice {k : K} {n sz : Nat} {zs : List V} {ps : List (Nat × Nat × EO)} : XG fs (⟨some k, none, .bslice n sz zs ps⟩ :: l) R fr h = ((h.get h.nx).isDead = true ∧ ∃ cs, fillE fr zs ps = some cs ∧ XG fs l R (fr.set k (.sl h.nx 0 n sz)) (h.new (.cells (n * sz) cs))) := by
  show GP (some true) (∃ k' cs, some k = some k' ∧ _) _ = _
  rw [gp_t]
  apply propext
  constructor
  · rintro ⟨k', cs, e, e1, e2, e3⟩
    cases e
    exact ⟨e1, cs, e2, e3⟩
  · rintro ⟨e1, cs, e2, e3⟩
    exact ⟨k, cs, rfl, e1, e2, e3⟩
def stK (fs : T EF) (b : List K) (c : List EOper) (o : Option EOper) (l : List Stage) (Q : Fr → H → Prop) (h0 : H) (fr : Fr) (h : H) : Prop := isFresh h0 h fr b = true ∧ allStay fs goNo fr h c = true ∧ (match o with | none => Q fr h | some o => X fs [o] (XD fs l Q) fr h)
theorem xd_cons {g c : List EOper} {b : List K} {o : Option EOper} {l : List Stage} : XD fs (⟨g, c, o, b⟩ :: l) R fr h = XG fs g (stK fs b c o l R h) fr h := of_eq_true (eq_self _)
theorem fresh_nil : isFresh h0 h fr [] = true := of_eq_true (eq_self _)
theorem stK_n {b : List K} {c : List EOper} {l : List Stage} : stK fs b c none l R h0 fr h = (isFresh h0 h fr b = true ∧ allStay fs goNo fr h c = true ∧ R fr h) := of_eq_true (eq_self _)
theorem stK_s {b : List K} {c : List EOper} {o : EOper} {l : List Stage} : stK fs b c (some o) l R h0 fr h = (isFresh h0 h fr b = true ∧ allStay fs goNo fr h c = true ∧ X fs [o] (XD fs l R) fr h) := of_eq_true (eq_self _)
theorem stay_nil : allStay fs goNo fr h [] = true := of_eq_true (eq_self _)
theorem stay_cons {o : EOper} {c : List EOper} : (allStay fs goNo fr h (o :: c) = true) = (stays fs goNo fr h o = true ∧ allStay fs goNo fr h c = true) := by
  show ((stays fs goNo fr h o && allStay fs goNo fr h c) = true) = _
  rw [Bool.and_eq_true]
/-- An operation that gives again what it gave. -/
def again (r : RV) (u : V) : Prop := ∃ v h, r = .ok v h ∧ beqV v u = true
theorem again_ok {u : V} : again (.ok v h) u = (beqV v u = true) := by
  apply propext
  constructor
  · rintro ⟨v', h', e, hb⟩; cases e; exact hb
  · exact fun hb => ⟨v, h, rfl, hb⟩
theorem chk_again {r : RV} {u : V} : (r.chk (fun v => beqV v u) = true) = again r u := by
  apply propext
  cases r with
  | no => exact Iff.intro (fun h => by cases h) (fun ⟨v, h, e, _⟩ => by cases e)
  | ok v h => rw [again_ok]; rfl
theorem stay_mv {k : K} : (stays fs goNo fr h ⟨some k, none, .mv x⟩ = true) = (beqV (ev fr x) (getV (fr.get k)) = true) := of_eq_true (eq_self _)
theorem stay_nilck {k : K} : (stays fs goNo fr h ⟨some k, none, .nilck x⟩ = true) = again (nnV (ev fr x) h) (getV (fr.get k)) := chk_again
theorem beq_i {k : IntKind} {n : Int} : beqV (.i k n) (.i k n) = true := by
  show (k == k && ieq n n) = true
  rw [ieq_eq]; cases k <;> simp
theorem Nat.beq_same {n : Nat} : Nat.beq n n = true := Nat.beq_refl n
/-- One new slice. -/
theorem fresh_one {k : K} {n sz : Nat} {x : Blk} (hg : fr.get k = some (.sl h0.nx 0 n sz)) : isFresh h0 (h0.new x) fr [k] = true := by
  show freshL h0.nx.nat (h0.new x).nx.nat (oGet (slId (getV (fr.get k))) [] fun id => [id]) = true
  rw [hg]
  show (Nat.ble h0.nx.nat h0.nx.nat && Nat.blt h0.nx.nat (h0.new x).nx.nat && notIn h0.nx [] && true) = true
  rw [Nat.ble_eq_true_of_le (Nat.le_refl _), show Nat.blt h0.nx.nat (h0.new x).nx.nat = true from Nat.ble_eq_true_of_le (by rw [nx_new]; exact Nat.le_refl _)]
  rfl
end
end Go.Ev
namespace Go.Ev
open Go Go.RowKit
/-- A slice of numbers as it came in. -/
def SlArg (W : World) (val : Value) (L : List Int) : Prop := (val = .slice none 0 0 ∧ L = []) ∨ ∃ (b off len : Nat) (zs : List Int), val = .slice (some ⟨b, off, none⟩) len zs.length ∧ len ≤ zs.length ∧ L = zs.take len ∧
  (∀ i (hi : i < zs.length), W.cell? ⟨b, off + i, none⟩ = some (.int .i64 zs[i])) ∧ ∀ i, i < zs.length → W.frozen? ⟨b, off + i, none⟩ = false
theorem intsVR {ι : Io} : ∀ {zs : List Int} {vs : List Value}, vs.length = zs.length → (∀ i (hi : i < zs.length), vs[i]? = some (.int .i64 zs[i])) → VRs ι (zs.map iE) vs := by
  intro zs vs hl h
  refine ⟨by rw [List.length_map, hl], fun i h1 h2 => ?_⟩
  have hi : i < zs.length := by simpa using h1
  have := h i hi
  rw [List.getElem?_eq_getElem h2, Option.some.injEq] at this
  rw [this, List.getElem_map]
  exact .i _ _
end Go.Ev
namespace Go.Ev
open Go Go.RowKit
section
variable {Y : Rig} {fs : T EF} {k : K} {ef : EF} {n : Nat} {args : List V} {L : List Int}
end
theorem callP_flat {fs : T EF} {k : K} {ef : EF} {args : List V} {h : H} {v : V} {g : List V → Option V} {P : V → H → Prop} (hf : fs.get k = some ef) (hn : ef.nv = some (flatG g)) (hg : g args = some v) : CallP fs (.fn k []) args h P = P v h := by
  have hc : ∀ n, callV fs (eval fs n) (.fn k []) args h = .ok v h := fun n => by
    show (oGet (fs.get k) RV.no fun ef => callE (eval fs n) ef (cat args []) h) = _
    rw [hf]
    show oGet ef.nv (callF (eval fs n) ef (cat args []) h) (fun g => oGet (g (cat args []) h) RV.no fun p => RV.ok p.1 p.2) = _
    rw [hn, cat_eq, List.append_nil]
    show (oGet (flatG g args h) RV.no fun p => RV.ok p.1 p.2) = _
    unfold flatG
    rw [hg]; rfl
  apply propext
  constructor
  · rintro ⟨n, v', h', e, hp⟩
    rw [hc] at e
    cases e; exact hp
  · intro hp
    exact ⟨0, v, h, hc 0, hp⟩
end Go.Ev
namespace Go.Ev
open Go Go.RowKit Go.ChangeShapes Go.WideShapes Go.ChangeAt
theorem trod_slArg {H : Type} {enc : TypeId × Value → H} {P : Program} {W : World} {base : Nat} {t e : TypeId} (ht : P.underlying t = some (.slice e)) (he : P.underlying e = some (.int .i64)) (hc : P.cellsOf e = 1) {v : Value} {d : DataW H} {p ps : List MemPlace}
    (hval : Value.okWide P W .any base t v) (hd : DataW.Trod enc P W 0 (fun _ => true) true t v d p) (hps : ∀ x ∈ p, x ∈ ps) (hnf : W.noneFrozen ps) :
    ∃ L, SlArg W v L ∧ ∀ W', Below W.heap.size W W' → DataW.Trod enc P W' 0 (fun b => decide (b < W.heap.size)) true t v d p := by
  obtain ⟨ao, len, cap, rfl⟩ := okWide_slice ht hval
  obtain ⟨fuel, hf⟩ := hd
  rcases open_ints ht he hc hf with ⟨hcs, hx⟩ | ⟨a, len', cap', zs, hcs, _, hl, hm, hz, hx, hcell, hwf⟩
  · have hv : Value.slice ao len cap = .slice none 0 0 := by
      have : (Value.slice ao len cap).cells.toList = [.slice ao len cap] := rfl
      rw [this] at hcs
      exact (List.cons.inj hcs).1
    cases hv
    cases hx
    exact ⟨[], .inl ⟨rfl, rfl⟩, fun W' _ => ⟨1, by rw [DataW.trod_step]; unfold DataW.trodStep; simp only [ht]; rfl⟩⟩
  · have hv : Value.slice ao len cap = .slice (some a) len' cap' := by
      have : (Value.slice ao len cap).cells.toList = [.slice ao len cap] := rfl
      rw [this] at hcs
      exact (List.cons.inj hcs).1
    cases hv
    cases hx
    simp only [if_true] at hz
    have hspot : a.spot = none := by
      simp only [Value.okWide, ht, Cell.okWide, Cell.ok] at hval
      exact hval.2.2.2.1
    obtain ⟨b, off, sp⟩ := a
    have hspot : sp = none := hspot
    subst hspot
    have hcell' : ∀ i (hi : i < zs.length), W.cell? ⟨b, off + i, none⟩ = some (.int .i64 zs[i]) := fun i hi => by
      have := hcell i hi
      rw [add_lit'] at this
      rw [this]; simp [List.getD, hi]
    refine ⟨zs.take len, .inr ⟨b, off, len, zs, by rw [hz], by omega, rfl, hcell', fun i hi => ?_⟩, fun W' hb => ?_⟩
    · refine hnf b (off + i) (hps _ ?_)
      unfold MemPlace.row
      rw [List.mem_map]
      exact ⟨i, by simpa using hi, rfl⟩
    · refine ⟨0 + 2, ?_⟩
      have hlt : zs.length ≠ 0 → b < W.heap.size := fun hne => by
        have := hcell' 0 (by omega)
        unfold World.cell? at this
        split at this
        · rename_i hh; exact (Array.getElem?_eq_some_iff.1 hh).1
        · cases this
      refine shut_ints (zs := zs) 0 ht he hc (Nat.zero_le _) hl hm ?_ (fun i hi => ?_) hwf
      · by_cases hne : zs.length = 0
        · split <;> omega
        · have := hlt hne
          simp [this, hz]
      · rw [← hcell i hi, add_lit']
        have := hlt (by omega)
        unfold World.cell?
        show (match W'.heap[b]? with | some (.cells c _ _) => _ | _ => _) = _
        rw [hb.block b this]
        rfl
end Go.Ev
namespace Go.Ev
open Go Go.RowKit
section
variable {α : Type} {e : α → V} {h h' : H} {v u : V} {L M : List α} {b : Nat}
/-- A store into a slice. -/
theorem Sl.st (hs : Sl e h v L) {i : Nat} (hi : i < L.length) {x : α} {c : V} (hc : c = e x) (ho : cellsN 1 c = some [c]) (hhc : HC h) :
    ∃ p id m cs', (∀ k h1, iadsV 1 v (.i k (i : Int)) h1 = .ok p h1) ∧ storeV h 1 p c = .ok undefV (h.put id (.cells m cs')) ∧ Sl e (h.put id (.cells m cs')) v (L.set i x) ∧ (∃ off n sz, v = .sl id off n sz) ∧ id.nat < h.nx.nat := by
  subst hc
  rcases hs with ⟨rfl, rfl⟩ | ⟨id, off, m, cs, rfl, hb, hl, hm, hx⟩
  · simp at hi
  · refine ⟨.p id (off + i * 1), id, m, setMany cs (off + i * 1) [e x], fun k h1 => ?_, ?_, ?_, ⟨off, L.length, 1, rfl⟩, hhc.cells hb⟩
    · rw [iads_sl, idx_n hi]
    · exact store_p hb ho (by omega)
    · have hsm : setMany cs (off + i * 1) [e x] = cs.set (off + i) (e x) := by
        rw [setMany_eq _ _ _ (by simp; omega), Nat.mul_one]
        apply List.ext_getElem?
        intro j
        rcases Nat.lt_trichotomy j (off + i) with h1 | h1 | h1
        · rw [List.append_assoc, List.getElem?_append_left (by simp; omega), List.getElem?_take, if_pos h1, List.getElem?_set, if_neg (by omega)]
        · subst h1
          rw [List.append_assoc, List.getElem?_append_right (by simp; omega), List.getElem?_set]
          have h2 : off + i < cs.length := by omega
          have : off + i - min (off + i) cs.length = 0 := by omega
          simp [this, h2]
        · rw [List.getElem?_append_right (by simp; omega), List.getElem?_set, if_neg (by omega), List.getElem?_drop]
          congr 1
          simp; omega
      refine .inr ⟨id, off, m, _, by rw [List.length_set], get_put_same, by rw [hsm, List.length_set]; exact hl, by rw [List.length_set]; exact hm, fun j hj => ?_⟩
      have hj' : j < L.length := by simpa using hj
      rw [hsm, List.getElem?_set]
      by_cases e1 : i = j
      · subst e1
        rw [if_pos rfl, if_pos (by omega)]; simp
      · rw [if_neg (by omega), hx j hj', List.getElem_set_ne e1]
end

theorem kNe {a b : K} (h : a.nat < b.nat) : a ≠ b := fun e => by rw [e] at h; omega
section
variable {α : Type} {e : α → V} {b : Nat} {h h1 h2 : H} {idb idl : K} {kept : List (K × Blk)} {o o' : V} {L L' : List α} {lb : Blk}
theorem Sl.one {v : V} (hs : Sl e h v L) : cellsN 1 v = some [v] := by rcases hs with ⟨rfl, _⟩ | ⟨_, _, _, _, rfl, _⟩ <;> rfl
end

section
variable {fs : T EF} {fr : Fr} {h : H} {k : K} {x y : EO}
theorem stay_iads {sz : Nat} : (stays fs goNo fr h ⟨some k, none, .iads sz x y⟩ = true) = again (iadsV sz (ev fr x) (ev fr y) h) (getV (fr.get k)) := chk_again
theorem stay_ld : (stays fs goNo fr h ⟨some k, none, .ld x⟩ = true) = again (loadV h (ev fr x) one?) (getV (fr.get k)) := chk_again
theorem beq_p {id : K} {off : Nat} : beqV (.p id off) (.p id off) = true := by
  show (id.beq id && Nat.beq off off) = true
  rw [K.beq_refl, Nat.beq_same]; rfl
theorem beq_b {b : Bool} : beqV (.b b) (.b b) = true := by cases b <;> rfl
variable {α : Type} {e : α → V} {v : V} {L : List α}
end
theorem rep_cell {z : V} : ∀ n, rep [z] n = List.replicate n z
  | 0 => rfl
  | n + 1 => by
    show cat [z] (rep [z] n) = _
    rw [rep_cell n, cat_eq]; rfl
end Go.Ev
namespace Go.Ev
open Go Go.RowKit
/-- A slice that is only read. -/
def Sr {α : Type} (e : α → V) (h : H) (v : V) (L : List α) : Prop := (v = .sn ∧ L = []) ∨ ∃ id off m cs, v = .sl id off L.length 1 ∧ (h.get id = .cells m cs ∨ h.get id = .rom m cs) ∧ cs.length = m ∧ off + L.length ≤ m ∧ ∀ i (hi : i < L.length), cs[off + i]? = some (e L[i])
theorem load_r {h : H} {id : K} {m off : Nat} {v : V} {cs : List V} (hb : h.get id = .cells m cs ∨ h.get id = .rom m cs) (hc : nth cs off = some v) : loadV h (.p id off) one? = .ok v h := by
  show okv ((h.get id).onC none fun n cs => one? cs n off) h = _
  rcases hb with hb | hb <;> rw [hb] <;> show okv (nth cs off) h = _ <;> rw [hc] <;> rfl
section
variable {α : Type} {e : α → V} {h h' : H} {v u : V} {L M : List α} {b : Nat}
theorem Sl.sr (hs : Sl e h v L) : Sr e h v L := by
  rcases hs with hs | ⟨id, off, m, cs, h1, h2, h3⟩
  · exact .inl hs
  · exact .inr ⟨id, off, m, cs, h1, .inl h2, h3⟩
theorem Sr.nil : Sr e h .sn ([] : List α) := .inl ⟨rfl, rfl⟩
theorem Sr.len (hs : Sr e h v L) (h1 : H) : lenV v h1 = .ok (.i .i64 (L.length : Int)) h1 := by
  rcases hs with ⟨rfl, rfl⟩ | ⟨id, off, m, cs, rfl, _⟩ <;> rfl
theorem Sr.at (hs : Sr e h v L) (i : Nat) (hi : i < L.length) : ∃ p, (∀ k h1, iadsV 1 v (.i k (i : Int)) h1 = .ok p h1) ∧ loadV h p one? = .ok (e L[i]) h := by
  rcases hs with ⟨rfl, rfl⟩ | ⟨id, off, m, cs, rfl, hb, hl, hm, hx⟩
  · simp at hi
  · refine ⟨.p id (off + i * 1), fun k h1 => ?_, ?_⟩
    · rw [iads_sl, idx_n hi]
    · exact load_r hb (by rw [nth_eq, Nat.mul_one]; exact hx i hi)
theorem Sr.atb (hs : Sr e h v L) (i : Nat) (hi : i < L.length) : ∃ p, (∀ k h1, iadsV 1 v (.i k (i : Int)) h1 = .ok p h1) ∧ loadV h p one? = .ok (e L[i]) h ∧ beqV p p = true := by
  rcases hs with ⟨rfl, rfl⟩ | ⟨id, off, m, cs, rfl, hb, hl, hm, hx⟩
  · simp at hi
  · refine ⟨.p id (off + i * 1), fun k h1 => ?_, ?_, ?_⟩
    · rw [iads_sl, idx_n hi]
    · exact load_r hb (by rw [nth_eq, Nat.mul_one]; exact hx i hi)
    · show (id.beq id && Nat.beq (off + i * 1) (off + i * 1)) = true
      rw [K.beq_refl, Nat.beq_same]; rfl
theorem Sr.same (hs : Sr e h v L) (hg : ∀ id off n sz, v = .sl id off n sz → h'.get id = h.get id) : Sr e h' v L := by
  rcases hs with ⟨rfl, rfl⟩ | ⟨id, off, m, cs, rfl, hb, hl, hm, hx⟩
  · exact .inl ⟨rfl, rfl⟩
  · exact .inr ⟨id, off, m, cs, rfl, by rw [hg _ _ _ _ rfl]; exact hb, hl, hm, hx⟩
theorem Sr.lt (hs : Sr e h v L) (hc : HC h) : ∀ id off n sz, v = .sl id off n sz → id.nat < h.nx.nat := by
  rcases hs with ⟨rfl, rfl⟩ | ⟨id, off, m, cs, rfl, hb, hl, hm, hx⟩
  · exact fun _ _ _ _ h => by cases h
  · exact fun _ _ _ _ h => by cases h; exact hc.lt (by rcases hb with hb | hb <;> rw [hb] <;> simp)
theorem Sr.grow (hs : Sr e h v L) (hc : HC h) (hg : Grow h.nx.nat h h') : Sr e h' v L := hs.same fun id off n sz ev => hg.old id (hs.lt hc id off n sz ev)
theorem Sr.beq (hs : Sr e h v L) : beqV v v = true := by
  rcases hs with ⟨rfl, _⟩ | ⟨id, off, m, cs, rfl, _⟩
  · rfl
  · show (id.beq id && Nat.beq off off && Nat.beq L.length L.length && Nat.beq 1 1) = true
    rw [K.beq_refl, Nat.beq_same, Nat.beq_same]; rfl
theorem Sr.addOf (hs : Sr e h v L) : Go.Ev.addOf 1 h v = some (L.length, L.map e) := by
  rcases hs with ⟨rfl, rfl⟩ | ⟨id, off, m, cs, rfl, hb, hl, hm, hx⟩
  · rfl
  · show (h.get id).onC none (fun len cs => bif Nat.beq 1 1 && Nat.ble (off + L.length * 1) len then some (L.length, takeN (L.length * 1) (dropN off cs)) else none) = _
    have e0 : (h.get id).onC none (fun len cs => bif Nat.beq 1 1 && Nat.ble (off + L.length * 1) len then some (L.length, takeN (L.length * 1) (dropN off cs)) else none) = (bif Nat.beq 1 1 && Nat.ble (off + L.length * 1) m then some (L.length, takeN (L.length * 1) (dropN off cs)) else none) := by
      rcases hb with hb | hb <;> rw [hb] <;> rfl
    rw [e0, show (Nat.beq 1 1 && Nat.ble (off + L.length * 1) m) = true by rw [Nat.beq_refl, Nat.ble_eq_true_of_le (by omega)]; rfl]
    show some (L.length, takeN (L.length * 1) (dropN off cs)) = _
    congr 2
    rw [takeN_eq, dropN_eq, Nat.mul_one]
    apply List.ext_getElem?
    intro i
    by_cases hi : i < L.length
    · rw [List.getElem?_take, if_pos hi, List.getElem?_drop, hx i hi]; simp [hi]
    · rw [List.getElem?_eq_none (by simp; omega), List.getElem?_eq_none (by simp; omega)]
theorem Sr.cut {lo hi : Option V} {l u : Nat} (hs : Sr e h v L) (hl : bnd lo 0 = some l) (hu : bnd hi L.length = some u) (h1 : l ≤ u) (h2 : u ≤ L.length) :
    ∃ v', (∀ h1, sliceB 1 v lo hi none h1 = .ok v' h1) ∧ Sr e h v' ((L.take u).drop l) ∧ (∀ b, Own b v → Own b v') ∧ ∀ id, NotIn id v → NotIn id v' := by
  rcases hs with ⟨rfl, rfl⟩ | ⟨id, off, m, cs, rfl, hb, hll, hm, hx⟩
  · have hu0 : u = 0 := by simpa using h2
    subst hu0
    have hl0 : l = 0 := by omega
    subst hl0
    refine ⟨.sn, fun h1 => ?_, .inl ⟨rfl, rfl⟩, fun b h => h, fun id h => h⟩
    unfold sliceB
    have hu : bnd hi 0 = some 0 := hu
    show (oGet (bnd lo 0) .no fun l => oGet (bnd hi 0) .no fun u => oGet (bnd none 0) .no fun m => bif Nat.beq l 0 && Nat.beq u 0 && Nat.beq m 0 then RV.ok .sn h1 else .no) = _
    rw [hl, hu]; rfl
  · refine ⟨.sl id (off + l * 1) (u - l) 1, fun h1 => ?_, .inr ⟨id, off + l * 1, m, cs, ?_, hb, hll, ?_, fun i hi => ?_⟩, fun b ho _ _ _ _ e => ?_, fun id' hn _ _ _ e => ?_⟩
    · unfold sliceB
      show (bif Nat.beq 1 1 then (oGet (bnd lo 0) .no fun l => oGet (bnd hi L.length) .no fun u => oGet none (cutV id off L.length 1 h1 l u none) fun _ => oGet (bnd none 0) .no fun m => cutV id off L.length 1 h1 l u (some m)) else RV.no) = _
      rw [hl, hu, Nat.beq_refl]
      show cutV id off L.length 1 h1 l u none = _
      unfold cutV
      rw [Nat.ble_eq_true_of_le ‹l ≤ u›, Nat.ble_eq_true_of_le h2]; rfl
    · congr 1; simp; omega
    · simp; omega
    · have hi' : i < u - l := by simp at hi; omega
      rw [show off + l * 1 + i = off + (l + i) by omega, hx (l + i) (by omega)]
      simp
    · cases e; exact ho _ _ _ _ rfl
    · cases e; exact hn _ _ _ rfl
/-- Two slices that give the same to append are appended alike. -/
theorem Sl.appR (hs : Sl e h v L) (ho : Own b v) (hb : b ≤ h.nx.nat) (hu : Sr e h u M) (hc : HC h) (hn : L.length + M.length ≤ 16777216) :
    ∃ v' h', appV 1 h v u = .ok v' h' ∧ Sl e h' v' (L ++ M) ∧ Own b v' ∧ Grow b h h' ∧ ∀ id : K, id.nat < h.nx.nat → NotIn id v → h'.get id = h.get id ∧ NotIn id v' := by
  -- what is appended, as a slice of its own
  have key : ∀ (hs' : Go.Ev.addOf 1 h u = some (M.length, M.map e)), ∃ v' h', appV 1 h v u = .ok v' h' ∧ Sl e h' v' (L ++ M) ∧ Own b v' ∧ Grow b h h' ∧ ∀ id : K, id.nat < h.nx.nat → NotIn id v → h'.get id = h.get id ∧ NotIn id v' := by
    intro hs'
    exact Sl.appA hs ho hb hs' hc hn
  exact key hu.addOf
end
structure Roms (Y : Rig) (ι : Io) (h : H) (W : World) : Prop where
  wr : WR Y.tab ι h W
  hc : HC h
  all : ∀ id q, ι id = some q → ∃ n cs, h.get id = .rom n cs ∧ ∃ p, q.pin = some p ∧ W.heap[q.b]? = some (.cells p.1 p.2.1 p.2.2)
noncomputable def noH : H := ⟨.e, .nil⟩
theorem Roms.nil {Y : Rig} {W : World} : Roms Y (fun _ => none) noH W :=
  ⟨⟨(fun _ _ h => absurd h (by simp)), (fun _ _ h => absurd h (by simp)), (fun _ _ _ _ h => absurd h (by simp)), (fun _ _ => rfl)⟩, fun id _ => by
    show getB (T.get id .nil) = .dead
    rw [T.get_nil]; rfl, fun _ _ h => absurd h (by simp)⟩
section
variable {Y : Rig} {ι : Io} {h : H} {W : World}
/-- A slice of numbers comes in. -/
theorem Roms.add (r : Roms Y ι h W) {val : Value} {L : List Int} (ha : SlArg W val L) : ∃ ι' h' v, Roms Y ι' h' W ∧ Ext ι ι' ∧ VR ι' v val ∧ Sr iE h' v L ∧ Grow h.nx.nat h h' := by
  rcases ha with ⟨rfl, rfl⟩ | ⟨b, off, len, zs, rfl, hlen, rfl, hcell, hfro⟩
  · exact ⟨ι, h, .sn, r, Ext.refl _, .sn, Sr.nil, Grow.refl _ _⟩
  have hn : ι h.nx = none := r.wr.fresh _ (Nat.le_refl _)
  by_cases hz : zs.length = 0
  · obtain rfl := List.length_eq_zero_iff.1 hz
    obtain rfl : len = 0 := by simpa using hlen
    have g : Grow h.nx.nat h (h.new (.rom 0 [])) := Grow.new (Nat.le_refl _) _
    refine ⟨ι, h.new (.rom 0 []), .sl h.nx 0 0 1, ⟨r.wr.more (HX.new h _), g.hc r.hc, fun id q hq => ?_⟩, Ext.refl _, .sl0, .inr ⟨h.nx, 0, 0, [], rfl, .inr get_new_same, rfl, by simp, fun i hi => by simp at hi⟩, g⟩
    have : id.nat < h.nx.nat := by
      rcases Nat.lt_or_ge id.nat h.nx.nat with h1 | h1
      · exact h1
      · rw [r.wr.fresh id h1] at hq; cases hq
    rw [get_new_old this]
    exact r.all id q hq
  · have h0 := hcell 0 (by omega)
    obtain ⟨cur, ty, fz, hb⟩ : ∃ cur ty fz, W.heap[b]? = some (.cells cur ty fz) := by
      unfold World.cell? at h0
      split at h0
      · rename_i c t f hh; exact ⟨c, t, f, hh⟩
      · cases h0
    have hbl : b < W.heap.size := (Array.getElem?_eq_some_iff.1 hb).1
    have hcur : ∀ i (hi : i < zs.length), cur[off + i]? = some (.int .i64 zs[i]) := fun i hi => by
      have := hcell i hi
      rw [cell_of_row W b _ cur ty fz hb] at this
      exact this
    have hsz : off + zs.length ≤ cur.size := by
      have := hcur (zs.length - 1) (by omega)
      have := (Array.getElem?_eq_some_iff.1 this).1
      omega
    have hin : List.take zs.length (List.drop off cur.toList) = zs.map (Value.int .i64) := by
      apply List.ext_getElem?
      intro i
      rw [List.getElem?_take, List.getElem?_map]
      by_cases hi : i < zs.length
      · rw [if_pos hi, List.getElem?_drop, Array.getElem?_toList, hcur i hi, List.getElem?_eq_getElem hi]; rfl
      · rw [if_neg hi, List.getElem?_eq_none (by omega)]; rfl
    have q : ∃ q : Pl, q = ⟨b, off, zs.length, some (cur, ty, fz)⟩ := ⟨_, rfl⟩
    obtain ⟨q, hq⟩ := q
    have hext := updI_ext (q := q) hn
    have g : Grow h.nx.nat h (h.new (.rom zs.length (zs.map iE))) := Grow.new (Nat.le_refl _) _
    have hlt : ∀ id q', ι id = some q' → id.nat < h.nx.nat := fun id q' hq' => by
      rcases Nat.lt_or_ge id.nat h.nx.nat with h1 | h1
      · exact h1
      · rw [r.wr.fresh id h1] at hq'; cases hq'
    have hall : ∀ id q', updI ι h.nx q id = some q' → ∃ n cs, (h.new (.rom zs.length (zs.map iE))).get id = .rom n cs ∧ ∃ p, q'.pin = some p ∧ W.heap[q'.b]? = some (.cells p.1 p.2.1 p.2.2) := fun id q' hq' => by
      by_cases e : id = h.nx
      · subst e
        rw [updI_same] at hq'
        cases hq'
        subst hq
        exact ⟨_, _, get_new_same, _, rfl, hb⟩
      · rw [updI_other _ _ e] at hq'
        rw [get_new_old (hlt id q' hq')]
        exact r.all id q' hq'
    refine ⟨updI ι h.nx q, h.new (.rom zs.length (zs.map iE)), .sl h.nx 0 len 1, ⟨⟨fun id q' h' => ?_, fun id q' h' => ?_, fun id id' q1 q2 h1 h2 _ _ _ => ?_, fun id hid => ?_⟩, g.hc r.hc, hall⟩, hext, ?_, ?_, g⟩
    · by_cases e : id = h.nx
      · subst e
        rw [updI_same] at h'
        cases h'
        rw [get_new_same]
        subst hq
        refine ⟨cur, ty, fz, hb, by simp, hsz, Nat.le_refl _, fun c hc => ?_, ?_, ?_, ?_⟩
        · obtain ⟨z, _, rfl⟩ := List.mem_map.1 hc; rfl
        · show VRs _ _ (List.take zs.length (List.drop off cur.toList))
          rw [hin]
          exact intsVR (by simp) (fun i hi => by simp [hi])
        · intro j h1 h2 h3
          have h1 : off ≤ j := h1
          have h2 : j < off + zs.length := h2
          have := hfro (j - off) (by omega)
          unfold World.frozen? at this
          rw [hb] at this
          simp only [Bool.and_eq_false_iff, decide_eq_false_iff_not] at this
          omega
        · intro p hp
          cases hp
          exact ⟨rfl, rfl, fun _ _ => rfl⟩
      · rw [updI_other _ _ e] at h'
        rw [get_new_old (hlt id q' h')]
        exact (r.wr.blk id q' h').mono hext rfl
    · by_cases e : id = h.nx
      · subst e; rw [updI_same] at h'; cases h'; subst hq; exact hbl
      · rw [updI_other _ _ e] at h'; exact r.wr.lt id q' h'
    · obtain ⟨_, _, a1, _⟩ := hall id q1 h1
      obtain ⟨_, _, a2, _⟩ := hall id' q2 h2
      exact .inr ⟨by rw [a1]; trivial, by rw [a2]; trivial⟩
    · have h1 : (h.new (.rom zs.length (zs.map iE))).nx.nat = h.nx.nat + 1 := K.succ_nat _
      rw [h1] at hid
      rw [updI_other _ _ (fun e => by rw [e] at hid; omega)]
      exact r.wr.fresh id (by omega)
    · have := VR.sl (off := 0) (n := len) (sz := 1) (c := zs.length) (updI_same ι h.nx q) (by subst hq; show 0 + zs.length * 1 ≤ zs.length; omega) hlen (by omega)
      subst hq
      simpa using this
    · refine .inr ⟨h.nx, 0, zs.length, zs.map iE, by rw [List.length_take, Nat.min_eq_left hlen], .inr get_new_same, by simp, by simp; omega, fun i hi => ?_⟩
      have hi' : i < len := by rw [List.length_take] at hi; omega
      rw [Nat.zero_add, List.getElem?_map, List.getElem?_eq_getElem (by omega), List.getElem_take]; rfl
/-- What came in is as it was. -/
theorem Roms.below (r : Roms Y ι h W) {n' : Nat} {ι' : Io} {h' : H} {W' : World} (st : Step h.nx.nat ι W n' ι' W') (wr' : WR Y.tab ι' h' W') (g : Grow h.nx.nat h h') : Below W.heap.size W W' := by
  refine ⟨st.os, st.tape, st.output, st.size, fun b' hb' => ?_⟩
  by_cases ex : ∃ id q, ι id = some q ∧ q.b = b'
  · obtain ⟨id, q, hq, rfl⟩ := ex
    obtain ⟨n, cs, hg, p, hp, hW⟩ := r.all id q hq
    have hid : id.nat < h.nx.nat := by
      rcases Nat.lt_or_ge id.nat h.nx.nat with h1 | h1
      · exact h1
      · rw [r.wr.fresh id h1] at hq; cases hq
    have b1 := wr'.blk id q (st.ext id q hq)
    rw [g.old id hid, hg] at b1
    obtain ⟨cur, ty, fz, j1, j2, j3, j4, j5, j6, j7, j8⟩ := b1
    obtain ⟨p1, p2, p3⟩ := j8 p hp
    subst p1 p2
    have : cur = p.1 := by
      apply Array.ext_getElem?
      intro j
      exact p3 j (by omega)
    rw [j1, hW, this]
  · exact st.keep b' hb' fun id q hq e => ex ⟨id, q, hq, e⟩
/-- A call with what came in. -/
theorem Roms.call (r : Roms Y ι h W) {fs : T EF} (hfs : Fns Y fs) {k : K} {ef : EF} (hf : ef.nv = none ∧ ∃ fn c, FnOk Y k ef fn c) {vs : List V} {vals : List Value} (hv : VRs ι vs vals) (hrun : Ret fs ef vs h fun u h' => u = .b true ∧ Grow h.nx.nat h h') :
    Calls Y.P k.nat vals.toArray W fun e W' => e = .returned (.bool true) ∧ Below W.heap.size W W' := by
  obtain ⟨hnv, fn, c, hfn⟩ := hf
  obtain ⟨n, u, h', e, rfl, hg⟩ := hrun
  refine (callsIn_wide.1 (callF_rel (evalOk hfs n) hfn e hv r.wr)).mono ?_
  rintro e w' ⟨ι', v', rfl, hst, hvr, hwr⟩
  have := hvr.of_b
  subst this
  exact ⟨rfl, r.below hst hwr hg⟩
end
end Go.Ev
namespace Go.Ev
open Go Go.RowKit
section
variable {fs : T EF} {fr : Fr} {h h1 h2 : H} {x y : EO} {k : K}
theorem stay_fadr {o : Nat} : (stays fs goNo fr h ⟨some k, none, .fadr o x⟩ = true) = again ((ev fr x).onP fun id p => .ok (.p id (p + o)) h) (getV (fr.get k)) := chk_again
theorem fill_0 {zs : List V} : fillE fr zs [] = some zs := of_eq_true (eq_self _)
def zz : List V := [.i .i64 (.ofNat 0), .i .i64 (.ofNat 0)]
theorem cells2 {a b : V} : cellsN 2 (.agg [a, b]) = some [a, b] := of_eq_true (eq_self _)
theorem ldn2 {id : K} {a b : V} (hb : h.get id = .cells 2 [a, b]) : loadV h (.p id 0) (many? 2) = .ok (.agg [a, b]) h := by
  rw [loadn_p hb (by omega)]; rfl
theorem st2 {id : K} {a b c d : V} (hb : h.get id = .cells 2 [a, b]) : storeV h 2 (.p id 0) (.agg [c, d]) = .ok undefV (h.put id (.cells 2 [c, d])) := by
  rw [store_p hb cells2 (by omega)]; rfl
theorem st1 {id : K} {a c : V} (hb : h.get id = .cells 1 [a]) (hc : cellsN 1 c = some [c]) : storeV h 1 (.p id 0) c = .ok undefV (h.put id (.cells 1 [c])) := by
  rw [store_p hb hc (by omega)]; rfl
theorem ck_i {x y : Int} (hx : inR .i64 x = true) (hy : inR .i64 y = true) : ckEq (some .i64) (.i .i64 x) (.i .i64 y) = some (ieq x y) := by
  show (bif (IntKind.i64 == IntKind.i64 && IntKind.i64 == IntKind.i64) && (inR .i64 x && inR .i64 y) then some (ieq x y) else none) = _
  rw [hx, hy]; rfl
theorem keyEq_2 {a b c d : Int} (ha : inR .i64 a = true) (hb : inR .i64 b = true) (hc : inR .i64 c = true) (hd : inR .i64 d = true) : keyEq (.many [some .i64, some .i64]) (.agg [.i .i64 a, .i .i64 b]) (.agg [.i .i64 c, .i .i64 d]) = some (decide (a = c) && decide (b = d)) := by
  show oGet (ckEq (some .i64) (.i .i64 a) (.i .i64 c)) none (fun r => oGet (oGet (ckEq (some .i64) (.i .i64 b) (.i .i64 d)) none fun r => oGet (some true) none fun s => some (r && s)) none fun s => some (r && s)) = _
  rw [ck_i ha hc, ck_i hb hd]
  show some (ieq a c && (ieq b d && true)) = _
  rw [ieq_eq, ieq_eq]
  by_cases e1 : a = c <;> by_cases e2 : b = d <;> simp [e1, e2]
end
/-! ### Slices of elements of several cells -/
def Sk {α : Type} (k : Nat) (e : α → List V) (h : H) (v : V) (L : List α) : Prop := (v = .sn ∧ L = []) ∨ ∃ id off m cs, v = .sl id off L.length k ∧ h.get id = .cells m cs ∧ cs.length = m ∧ off + L.length * k ≤ m ∧ (cs.drop off).take (L.length * k) = L.flatMap e
section
variable {α : Type} {k : Nat} {e : α → List V} {h h' : H} {v u : V} {L M : List α} {b : Nat}
theorem Sk.nil : Sk k e h .sn ([] : List α) := .inl ⟨rfl, rfl⟩
theorem Sk.len (hs : Sk k e h v L) (h1 : H) : lenV v h1 = .ok (.i .i64 (L.length : Int)) h1 := by
  rcases hs with ⟨rfl, rfl⟩ | ⟨id, off, m, cs, rfl, _⟩ <;> rfl
theorem Sk.same (hs : Sk k e h v L) (hg : ∀ id off n sz, v = .sl id off n sz → h'.get id = h.get id) : Sk k e h' v L := by
  rcases hs with ⟨rfl, rfl⟩ | ⟨id, off, m, cs, rfl, hb, hx⟩
  · exact .inl ⟨rfl, rfl⟩
  · exact .inr ⟨id, off, m, cs, rfl, by rw [hg _ _ _ _ rfl]; exact hb, hx⟩
theorem Sk.lt (hs : Sk k e h v L) (hc : HC h) : ∀ id off n sz, v = .sl id off n sz → id.nat < h.nx.nat := by
  rcases hs with ⟨rfl, rfl⟩ | ⟨id, off, m, cs, rfl, hb, hx⟩
  · exact fun _ _ _ _ h => by cases h
  · exact fun _ _ _ _ h => by cases h; exact hc.cells hb
theorem Sk.grow (hs : Sk k e h v L) (hc : HC h) (hg : Grow h.nx.nat h h') : Sk k e h' v L := hs.same fun id off n sz ev => hg.old id (hs.lt hc id off n sz ev)
theorem Sk.put (hs : Sk k e h v L) {id : K} (hn : NotIn id v) (x : Blk) : Sk k e (h.put id x) v L := hs.same fun id' off n sz ev => get_put_other (fun ee => hn off n sz (by rw [ev, ee]))
theorem Sk.one {v : V} (hs : Sk k e h v L) : cellsN 1 v = some [v] := by rcases hs with ⟨rfl, _⟩ | ⟨_, _, _, _, rfl, _⟩ <;> rfl
theorem flat_take (he : ∀ x, (e x).length = k) : ∀ (L : List α) (u : Nat), u ≤ L.length → (L.flatMap e).take (u * k) = (L.take u).flatMap e
  | _, 0, _ => by simp
  | [], u + 1, h => by simp at h
  | x :: L, u + 1, h => by
    rw [List.flatMap_cons, List.take_succ_cons, List.flatMap_cons, show (u + 1) * k = (e x).length + u * k by rw [he, Nat.add_mul]; omega, List.take_length_add_append, flat_take he L u (by simpa using h)]
theorem flat_len (he : ∀ x, (e x).length = k) (L : List α) : (L.flatMap e).length = L.length * k := by
  induction L with
  | nil => simp
  | cons x L ih => rw [List.flatMap_cons, List.length_append, ih, he, List.length_cons, Nat.add_mul]; omega
/-- append(v, x): one element of several cells. -/
theorem Sk.push (he : ∀ x, (e x).length = k) (_ : 0 < k) {x : α} (hs : Sk k e h v L) (ho : Own b v) (hb : b ≤ h.nx.nat) (hc : HC h) (hn : L.length < 16777216) :
    ∃ v' h', appV k (h.new (.cells (1 * k) (e x))) v (.sl h.nx 0 1 k) = .ok v' h' ∧ Sk k e h' v' (L ++ [x]) ∧ Own b v' ∧ Grow b h h' ∧ ∀ id : K, id.nat < h.nx.nat → NotIn id v → h'.get id = h.get id ∧ NotIn id v' := by
  have hg := Grow.new (b := b) hb (.cells (1 * k) (e x))
  have hnx := nx_new h (.cells (1 * k) (e x))
  have hne : ∀ id : K, id.nat < h.nx.nat + 1 → id ≠ (h.new (.cells (1 * k) (e x))).nx := fun id hi ee => by rw [ee] at hi; omega
  have hadd : addOf k (h.new (.cells (1 * k) (e x))) (.sl h.nx 0 1 k) = some (1, e x) := by
    show ((h.new (.cells (1 * k) (e x))).get h.nx).onC none (fun len cs => bif Nat.beq k k && Nat.ble (0 + 1 * k) len then some (1, takeN (1 * k) (dropN 0 cs)) else none) = _
    rw [get_new_same]
    show (bif Nat.beq k k && Nat.ble (0 + 1 * k) (1 * k) then some (1, takeN (1 * k) (dropN 0 (e x))) else none) = _
    rw [Nat.beq_refl, Nat.ble_eq_true_of_le (by omega), takeN_eq, dropN_eq, List.drop_zero, List.take_of_length_le (by rw [he]; omega)]; rfl
  have ht : v.tight = false := by rcases hs with ⟨rfl, _⟩ | ⟨_, _, _, _, rfl, _⟩ <;> rfl
  unfold appV
  rw [hadd]
  simp only [oGet, ht, cond_false]
  show ∃ v' h', v.onSl RV.no (bif Nat.ble 1 16777216 then app0 k (h.new (.cells (1 * k) (e x))) 1 (e x) else .no) (fun id off n sz' => ((h.new (.cells (1 * k) (e x))).get id).onW .no fun len cs => bif Nat.beq k sz' && Nat.ble (off + n * k) len && Nat.ble (n + 1) 16777216 then app1 k (h.new (.cells (1 * k) (e x))) id off n cs 1 (e x) else .no) = .ok v' h' ∧ _
  rcases hs with ⟨rfl, rfl⟩ | ⟨id, off, m, cs, rfl, hb', hl, hm, hx⟩
  · refine ⟨_, _, rfl, .inr ⟨_, 0, 1 * k, e x, rfl, get_new_same, by rw [he]; omega, by simp, ?_⟩, fun _ _ _ _ h => by cases h; omega, hg.trans (Grow.new (by omega) _), fun id hi _ => ⟨?_, fun _ _ _ h => by cases h; omega⟩⟩
    · simp [he, List.take_of_length_le]
    · rw [get_new_old (by omega), get_new_old hi]
  · have hid := hc.cells hb'
    show ∃ v' h', ((h.new (.cells (1 * k) (e x))).get id).onW RV.no (fun len cs => bif Nat.beq k k && Nat.ble (off + L.length * k) len && Nat.ble (L.length + 1) 16777216 then app1 k (h.new (.cells (1 * k) (e x))) id off L.length cs 1 (e x) else .no) = .ok v' h' ∧ _
    rw [get_new_old hid, hb']
    show ∃ v' h', (bif Nat.beq k k && Nat.ble (off + L.length * k) m && Nat.ble (L.length + 1) 16777216 then app1 k (h.new (.cells (1 * k) (e x))) id off L.length cs 1 (e x) else .no) = .ok v' h' ∧ _
    rw [show (Nat.beq k k && Nat.ble (off + L.length * k) m && Nat.ble (L.length + 1) 16777216) = true by rw [Nat.beq_refl, Nat.ble_eq_true_of_le hm, Nat.ble_eq_true_of_le (show L.length + 1 ≤ 16777216 by omega)]; rfl]
    refine ⟨_, _, rfl, .inr ⟨(h.new (.cells (1 * k) (e x))).nx, 0, (L.length + 1) * k, cat (takeN (L.length * k) (dropN off cs)) (e x), by simp, get_new_same, ?_, by simp, ?_⟩, fun _ _ _ _ h => by cases h; omega, (hg.trans (Grow.put (ho _ _ _ _ rfl) (by omega) _)).trans (Grow.new (by rw [nx_put]; omega) _), fun id' hi hni => ⟨?_, fun _ _ _ h => by cases h; omega⟩⟩
    · rw [cat_eq, takeN_eq, dropN_eq, hx, List.length_append, flat_len he, he, Nat.add_mul]; omega
    · rw [cat_eq, takeN_eq, dropN_eq, hx, List.drop_zero, List.flatMap_append, List.take_of_length_le (by rw [List.length_append, flat_len he, he]; simp [Nat.add_mul])]
      simp
    · show (((h.new (.cells (1 * k) (e x))).put id .dead).new _).get id' = _
      rw [H.get_new, if_neg (show id' ≠ ((h.new (.cells (1 * k) (e x))).put id .dead).nx from hne id' (by omega)), get_put_other (fun ee => hni off L.length k (by rw [ee])), get_new_old hi]
/-- v[:u] -/
theorem Sk.cut (he : ∀ x, (e x).length = k) {u : Nat} {kk : IntKind} (hs : Sk k e h v L) (h2 : u ≤ L.length) :
    ∃ v', (∀ h1, sliceB k v none (some (.i kk (u : Int))) none h1 = .ok v' h1) ∧ Sk k e h v' (L.take u) ∧ (∀ b, Own b v → Own b v') ∧ ∀ id, NotIn id v → NotIn id v' := by
  rcases hs with ⟨rfl, rfl⟩ | ⟨id, off, m, cs, rfl, hb, hll, hm, hx⟩
  · have hu0 : u = 0 := by simpa using h2
    subst hu0
    exact ⟨.sn, fun h1 => rfl, .inl ⟨rfl, rfl⟩, fun b h => h, fun id h => h⟩
  · have hmul : u * k ≤ L.length * k := Nat.mul_le_mul_right k h2
    refine ⟨.sl id (off + 0 * k) (u - 0) k, fun h1 => ?_, .inr ⟨id, off + 0 * k, m, cs, ?_, hb, hll, ?_, ?_⟩, fun b ho _ _ _ _ e => ?_, fun id' hn _ _ _ e => ?_⟩
    · unfold sliceB
      show (bif Nat.beq k k then cutV id off L.length k h1 0 u none else RV.no) = _
      rw [Nat.beq_refl]
      show cutV id off L.length k h1 0 u none = _
      unfold cutV
      rw [Nat.ble_eq_true_of_le (Nat.zero_le u), Nat.ble_eq_true_of_le h2]; rfl
    · congr 1; simp; omega
    · rw [List.length_take, Nat.min_eq_left h2]; omega
    · rw [List.length_take, Nat.min_eq_left h2, ← flat_take he L u h2, ← hx, List.take_take, Nat.min_eq_left hmul]; simp
    · cases e; exact ho _ _ _ _ rfl
    · cases e; exact hn _ _ _ rfl
end
end Go.Ev
namespace Go.Ev
open Go Go.RowKit Go.ChangeShapes Go.WideShapes Go.ChangeAt
/-- A slice of elements of k cells, that is only read. -/
def Srk (k : Nat) (h : H) (v : V) (len : Nat) (cs0 : List V) : Prop := (v = .sn ∧ len = 0 ∧ cs0 = []) ∨ ∃ id off m cs, v = .sl id off len k ∧ (h.get id = .cells m cs ∨ h.get id = .rom m cs) ∧ cs.length = m ∧ off + len * k ≤ m ∧ (cs.drop off).take (len * k) = cs0
theorem Srk.lt {k len : Nat} {h : H} {v : V} {cs0 : List V} (hs : Srk k h v len cs0) (hc : HC h) : ∀ id off n sz, v = .sl id off n sz → id.nat < h.nx.nat := by
  rcases hs with ⟨rfl, _⟩ | ⟨id, off, m, cs, rfl, hb, _⟩
  · exact fun _ _ _ _ h => by cases h
  · exact fun _ _ _ _ h => by cases h; exact hc.lt (by rcases hb with hb | hb <;> rw [hb] <;> simp)
theorem Srk.grow {k len : Nat} {h h' : H} {v : V} {cs0 : List V} (hs : Srk k h v len cs0) (hc : HC h) (hg : Grow h.nx.nat h h') : Srk k h' v len cs0 := by
  have lt := hs.lt hc
  rcases hs with hs | ⟨id, off, m, cs, rfl, hb, hx⟩
  · exact .inl hs
  · exact .inr ⟨id, off, m, cs, rfl, by rw [hg.old id (lt _ _ _ _ rfl)]; exact hb, hx⟩
section
variable {Y : Rig} {ι : Io} {h : H} {W : World}
end
end Go.Ev
namespace Go.Ev
open Go Go.RowKit Go.ChangeShapes Go.WideShapes Go.ChangeAt
def qE (x : Int × Int) : List V := [.i .i64 x.1, .i .i64 x.2]
theorem qE_len : ∀ x, (qE x).length = 2 := fun _ => rfl
theorem flat_drop {α : Type} {k : Nat} {e : α → List V} (he : ∀ x, (e x).length = k) : ∀ (L : List α) (i : Nat) (hi : i < L.length), ((L.flatMap e).drop (i * k)).take k = e L[i]
  | [], i, hi => absurd hi (Nat.not_lt_zero _)
  | x :: L, 0, _ => by rw [List.flatMap_cons, Nat.zero_mul, List.drop_zero, ← he x, List.take_left]; rfl
  | x :: L, i + 1, hi => by
    rw [List.flatMap_cons, show (i + 1) * k = (e x).length + i * k by rw [he, Nat.add_mul]; omega, List.drop_length_add_append, flat_drop he L i (by simpa using hi)]; rfl
def Srp (h : H) (v : V) (L : List (Int × Int)) : Prop := Srk 2 h v L.length (L.flatMap qE)
section
variable {h h' : H} {v : V} {L : List (Int × Int)}
theorem Srp.len (hs : Srp h v L) (h1 : H) : lenV v h1 = .ok (.i .i64 (L.length : Int)) h1 := by
  rcases hs with ⟨rfl, h0, _⟩ | ⟨id, off, m, cs, rfl, _⟩
  · rw [h0]; rfl
  · rfl
theorem Srp.grow (hs : Srp h v L) (hc : HC h) (hg : Grow h.nx.nat h h') : Srp h' v L := Srk.grow hs hc hg
theorem loadn_r {h : H} {id : K} {m n off : Nat} {cs : List V} (hb : h.get id = .cells m cs ∨ h.get id = .rom m cs) (hm : off + n ≤ m) : loadV h (.p id off) (many? n) = .ok (.agg (takeN n (dropN off cs))) h := by
  show okv ((h.get id).onC none fun m cs => many? n cs m off) h = _
  have e : many? n cs m off = some (.agg (takeN n (dropN off cs))) := by
    show (bif Nat.ble (off + n) m then some _ else none) = _
    rw [Nat.ble_eq_true_of_le hm]; rfl
  rcases hb with hb | hb <;> rw [hb] <;> show okv (many? n cs m off) h = _ <;> rw [e] <;> rfl
theorem Srp.at2 (hs : Srp h v L) {i : Nat} (hi : i < L.length) : ∃ id q, (∀ k h1, iadsV 2 v (.i k (i : Int)) h1 = .ok (.p id q) h1) ∧ loadV h (.p id q) (many? 2) = .ok (.agg [.i .i64 L[i].1, .i .i64 L[i].2]) h ∧ loadV h (.p id (q + 0 * 1)) one? = .ok (.i .i64 L[i].1) h ∧ loadV h (.p id (q + 1 * 1)) one? = .ok (.i .i64 L[i].2) h := by
  rcases hs with ⟨rfl, h0, _⟩ | ⟨id, off, m, cs, rfl, hb, hl, hm, hx⟩
  · omega
  · have h1 := flat_drop qE_len L i hi
    rw [← hx, List.drop_take, List.take_take, List.drop_drop, Nat.min_eq_left (by omega)] at h1
    refine ⟨id, off + i * 2, fun k h1 => ?_, ?_, ?_, ?_⟩
    · rw [iads_sl, idx_n hi]
    · rw [loadn_r hb (by omega), takeN_eq, dropN_eq, h1]; rfl
    · refine load_r hb ?_
      rw [nth_eq]
      have := congrArg (fun l => l[0]?) h1
      simp only [List.getElem?_take, List.getElem?_drop] at this
      simpa [qE] using this
    · refine load_r hb ?_
      rw [nth_eq]
      have := congrArg (fun l => l[1]?) h1
      simp only [List.getElem?_take, List.getElem?_drop] at this
      simpa [qE] using this
end
theorem Srp.beq {h : H} {v : V} {L : List (Int × Int)} (hs : Srp h v L) : beqV v v = true := by
  rcases hs with ⟨rfl, _⟩ | ⟨id, off, m, cs, rfl, _⟩
  · rfl
  · show (id.beq id && Nat.beq off off && Nat.beq L.length L.length && Nat.beq 2 2) = true
    rw [K.beq_refl, Nat.beq_same, Nat.beq_same]; rfl
/-! ### More rules -/
section
variable {fs : T EF} {fr : Fr} {h : H} {x y z : EO} {k : K}
theorem stay_iadr {n sz : Nat} : (stays fs goNo fr h ⟨some k, none, .iadr n sz x y⟩ = true) = again ((ev fr x).onP fun id off => idxV (ev fr y) n fun m => .ok (.p id (off + m * sz)) h) (getV (fr.get k)) := chk_again
theorem fill_2 {x y : EO} {z1 z2 : V} : fillE fr [z1, z2] [(0, 1, x), (1, 1, y)] = oGet (cellsN 1 (ev fr x)) none fun cs => oGet (cellsN 1 (ev fr y)) none fun ds => some (setMany (setMany [z1, z2] 0 cs) 1 ds) := of_eq_true (eq_self _)
theorem set_2 {z1 z2 a b : V} : setMany (setMany [z1, z2] 0 [a]) 1 [b] = [a, b] := of_eq_true (eq_self _)
theorem ix2_0 {kk : IntKind} {f : Nat → RV} : idxV (.i kk 0) 2 f = f 0 := of_eq_true (eq_self _)
theorem ix2_1 {kk : IntKind} {f : Nat → RV} : idxV (.i kk 1) 2 f = f 1 := of_eq_true (eq_self _)
theorem of40 : Int.ofNat 40 = 40 := of_eq_true (eq_self _)
theorem beq_yl {id : K} : beqV (.yl id) (.yl id) = true := by
  show id.beq id = true
  exact K.beq_refl id
end
end Go.Ev
namespace Go.Ev
open Go Go.RowKit
section
variable {fs : T EF}
end
end Go.Ev
namespace Go.Ev
open Go Go.RowKit
section
variable {h h' : H} {v u : V} {L : List (Int × Int)} {b : Nat}
theorem flat_get : ∀ {L : List (Int × Int)} {t : Nat}, (L.flatMap qE)[t]? = (L[t / 2]?).map fun p => if t % 2 = 0 then iE p.1 else iE p.2
  | [], t => by simp
  | x :: L, 0 => rfl
  | x :: L, 1 => rfl
  | x :: L, t + 2 => by
    rw [List.flatMap_cons]
    show (V.i .i64 x.1 :: V.i .i64 x.2 :: L.flatMap qE)[t + 2]? = _
    rw [List.getElem?_cons_succ, List.getElem?_cons_succ, flat_get (L := L) (t := t), show (t + 2) / 2 = t / 2 + 1 by omega, List.getElem?_cons_succ, show (t + 2) % 2 = t % 2 by omega]
theorem set_get {cs : List V} {p : Nat} {a b : V} (hp : p + 2 ≤ cs.length) {q : Nat} : (setMany cs p [a, b])[q]? = if q = p then some a else if q = p + 1 then some b else cs[q]? := by
  rw [setMany_eq _ _ _ (by simpa using hp)]
  rcases Nat.lt_trichotomy q p with h1 | h1 | h1
  · rw [List.append_assoc, List.getElem?_append_left (by simp; omega), List.getElem?_take, if_pos h1, if_neg (by omega), if_neg (by omega)]
  · subst h1
    rw [List.append_assoc, List.getElem?_append_right (by simp; omega), if_pos rfl]; simp
    have : min q cs.length = q := by omega
    rw [this]; simp
  · rw [if_neg (by omega)]
    by_cases h2 : q = p + 1
    · subst h2
      rw [if_pos rfl, List.append_assoc, List.getElem?_append_right (by simp; omega)]; simp
      have : p + 1 - min p cs.length = 1 := by omega
      rw [this]; simp
    · rw [if_neg h2, List.getElem?_append_right (by simp; omega)]
      simp
      rw [show p + 2 + (q - (min p cs.length + 2)) = q by omega]
/-- A store into a slice of pairs. -/
theorem Sk.st2 (hs : Sk 2 qE h v L) {i : Nat} (hi : i < L.length) {x : Int × Int} (hhc : HC h) :
    ∃ p id m cs', (∀ k h1, iadsV 2 v (.i k (i : Int)) h1 = .ok p h1) ∧ storeV h 2 p (.agg [.i .i64 x.1, .i .i64 x.2]) = .ok undefV (h.put id (.cells m cs')) ∧ Sk 2 qE (h.put id (.cells m cs')) v (L.set i x) ∧ (∃ off n sz, v = .sl id off n sz) ∧ id.nat < h.nx.nat := by
  rcases hs with ⟨rfl, rfl⟩ | ⟨id, off, m, cs, rfl, hb, hl, hm, hx⟩
  · simp at hi
  · have hin : i * 2 + 2 ≤ L.length * 2 := by omega
    refine ⟨.p id (off + i * 2), id, m, setMany cs (off + i * 2) [.i .i64 x.1, .i .i64 x.2], fun k h1 => ?_, ?_, ?_, ⟨off, L.length, 2, rfl⟩, hhc.cells hb⟩
    · rw [iads_sl, idx_n hi]
    · exact store_p hb cells2 (by omega)
    · refine .inr ⟨id, off, m, _, by rw [List.length_set], get_put_same, ?_, by rw [List.length_set]; exact hm, ?_⟩
      · rw [setMany_eq _ _ _ (by simp; omega)]; simp; omega
      · rw [List.length_set]
        apply List.ext_getElem?
        intro t
        rw [List.getElem?_take, flat_get]
        by_cases ht : t < L.length * 2
        · have h0 := congrArg (fun l => l[t]?) hx
          simp only [List.getElem?_take, if_pos ht, List.getElem?_drop, flat_get] at h0
          rw [if_pos ht, List.getElem?_drop, set_get (by omega), List.getElem?_set]
          by_cases e1 : t = i * 2
          · subst e1
            rw [if_pos rfl, show i * 2 / 2 = i by omega, if_pos rfl, if_pos hi]
            simp [iE]
          · by_cases e2 : t = i * 2 + 1
            · subst e2
              rw [if_neg (by omega), if_pos (by omega), show (i * 2 + 1) / 2 = i by omega, if_pos rfl, if_pos hi]
              simp [iE]
            · rw [if_neg (by omega), if_neg (by omega), if_neg (by omega), h0]
        · rw [if_neg ht, List.getElem?_eq_none (by simp; omega)]; rfl
/-! ### Slices of slices of pairs -/
def vE (u : V) : V := u
structure Sll (h : H) (v : V) (us : List V) (Ls : List (List (Int × Int))) : Prop where
  len : us.length = Ls.length
  out : Sl vE h v us
  inn : ∀ i (h1 : i < us.length) (h2 : i < Ls.length), Srp h us[i] Ls[i]
  sep : ∀ u ∈ us, ∀ id off n sz, u = .sl id off n sz → NotIn id v
section
variable {us : List V} {Ls : List (List (Int × Int))}
theorem Sll.nil : Sll h .sn [] [] := ⟨rfl, Sl.nil, fun i h1 => absurd h1 (by simp), fun u hu => absurd hu (by simp)⟩
theorem Sll.grow (s : Sll h v us Ls) (hc : HC h) (hg : Grow h.nx.nat h h') : Sll h' v us Ls := ⟨s.len, s.out.grow hc hg, fun i h1 h2 => (s.inn i h1 h2).grow hc hg, s.sep⟩
theorem Srp.cell {L : List (Int × Int)} (hs : Srp h v L) : cellsN 1 v = some [v] := by rcases hs with ⟨rfl, _⟩ | ⟨_, _, _, _, rfl, _⟩ <;> rfl
theorem Srp.old {L : List (Int × Int)} (hs : Srp h v L) (hg : ∀ id off n sz, v = .sl id off n sz → h'.get id = h.get id) : Srp h' v L := by
  rcases hs with hs | ⟨id, off, m, cs, rfl, hb, hx⟩
  · exact .inl hs
  · exact .inr ⟨id, off, m, cs, rfl, by rw [hg _ _ _ _ rfl]; exact hb, hx⟩
/-- append(v, u): a slice more. -/
theorem Sll.push (s : Sll h v us Ls) (ho : Own b v) (hb : b ≤ h.nx.nat) (hc : HC h) (hn : Ls.length < 16777216) (hu : Srp h u L) (hsep : ∀ id off n sz, u = .sl id off n sz → NotIn id v) :
    ∃ v' h', appV 1 (h.new (.cells (1 * 1) [u])) v (.sl h.nx 0 1 1) = .ok v' h' ∧ Sll h' v' (us ++ [u]) (Ls ++ [L]) ∧ Own b v' ∧ Grow b h h' ∧ ∀ id : K, id.nat < h.nx.nat → NotIn id v → h'.get id = h.get id ∧ NotIn id v' := by
  obtain ⟨v', h', e1, e2, e3, e4, e5⟩ := Sl.push (e := vE) (x := u) (c := u) rfl s.out ho hb hc (by rw [s.len]; exact hn)
  have hul : ∀ id off n sz, u = .sl id off n sz → id.nat < h.nx.nat := Srk.lt hu hc
  have hil : ∀ w ∈ us, ∀ id off n sz, w = .sl id off n sz → id.nat < h.nx.nat := fun w hw => by
    obtain ⟨i, hi, rfl⟩ := List.getElem_of_mem hw
    exact Srk.lt (s.inn i hi (by rw [← s.len]; exact hi)) hc
  refine ⟨v', h', e1, ⟨by rw [List.length_append, List.length_append, s.len]; rfl, e2, fun i h1 h2 => ?_, fun w hw id off n sz ew => ?_⟩, e3, e4, e5⟩
  · by_cases hi : i < us.length
    · have hi2 : i < Ls.length := by rw [← s.len]; exact hi
      rw [List.getElem_append_left hi, List.getElem_append_left hi2]
      exact (s.inn i hi hi2).old fun id off n sz ew => (e5 id (hil _ (List.getElem_mem hi) _ _ _ _ ew) (s.sep _ (List.getElem_mem hi) _ _ _ _ ew)).1
    · have hl : i = us.length := by rw [List.length_append] at h1; simp at h1; omega
      subst hl
      rw [List.getElem_append_right (Nat.le_refl _), List.getElem_append_right (by rw [s.len]; exact Nat.le_refl _)]
      simp only [Nat.sub_self, List.getElem_cons_zero, s.len]
      exact hu.old fun id off n sz ew => (e5 id (hul _ _ _ _ ew) (hsep _ _ _ _ ew)).1
  · rcases List.mem_append.1 hw with hw | hw
    · exact (e5 id (hil w hw _ _ _ _ ew) (s.sep w hw _ _ _ _ ew)).2
    · rw [List.mem_singleton.1 hw] at ew
      exact (e5 id (hul _ _ _ _ ew) (hsep _ _ _ _ ew)).2
end
end
end Go.Ev
namespace Go.Ev
section
variable {h h' : H} {v u : V} {L M : List (Int × Int)}
end
end Go.Ev
namespace Go.Ev
open Go Go.RowKit Go.ChangeShapes Go.WideShapes Go.ChangeAt
section
variable {Y : Rig} {ι : Io} {h : H} {W : World}
end
end Go.Ev
namespace Go.Ev
open Go Go.RowKit Go.ChangeShapes Go.WideShapes Go.ChangeAt
end Go.Ev
namespace Go.Ev
open Go Go.RowKit
section
variable {fs : T EF} {fr : Fr} {h : H}
theorem stay_ext {x : EO} {k : K} {i : Nat} : (stays fs goNo fr h ⟨some k, none, .ext x i⟩ = true) = again ((ev fr x).onTup fun l => okv (nth l i) h) (getV (fr.get k)) := chk_again
theorem frame_5 {v1 v2 v3 v4 v5 : V} : frame .e [v1, v2, v3, v4, v5] .nil = T.set (K.ofNat 4) v5 (T.set (K.ofNat 3) v4 (T.set (K.ofNat 2) v3 (T.set (K.ofNat 1) v2 (T.set (K.ofNat 0) v1 .nil)))) := of_eq_true (eq_self _)
end
theorem slArg_len {P : Program} {W : World} {base : Nat} {t e : TypeId} (ht : P.underlying t = some (.slice e)) {v : Value} {L : List Int} (hval : Value.okWide P W .any base t v) (hs : SlArg W v L) : L.length ≤ 9223372036854775807 := by
  rcases hs with ⟨_, rfl⟩ | ⟨b, off, len, zs, rfl, h1, rfl, _⟩
  · exact Nat.zero_le _
  · simp only [Value.okWide, ht, Cell.okWide, Cell.ok] at hval
    have h2 := hval.2.1
    have h3 : IntKind.i64.max = 9223372036854775807 := rfl
    simp
    omega
end Go.Ev
namespace Go.Ev
open Go Go.RowKit
/-- A slice that is only read: whether there is room behind it or not. -/
structure Rd (h : H) (v : V) (L : List Int) : Prop where
  len : ∀ h1, lenV v h1 = .ok (.i .i64 (L.length : Int)) h1
  now : ∀ i (hi : i < L.length), ∃ p, (∀ k h1, iadsV 1 v (.i k (i : Int)) h1 = .ok p h1) ∧ loadV h p one? = .ok (iE L[i]) h
  gr : HC h → ∀ h', Grow h.nx.nat h h' → ∀ i (hi : i < L.length), ∃ p, (∀ k h1, iadsV 1 v (.i k (i : Int)) h1 = .ok p h1) ∧ loadV h' p one? = .ok (iE L[i]) h'
theorem Rd.at {h : H} {v : V} {L : List Int} (s : Rd h v L) (i : Nat) (hi : i < L.length) : ∃ p, (∀ k h1, iadsV 1 v (.i k (i : Int)) h1 = .ok p h1) ∧ loadV h p one? = .ok (iE L[i]) h := s.now i hi
theorem Rd.grow {h h' : H} {v : V} {L : List Int} (s : Rd h v L) (hc : HC h) (hG : Grow h.nx.nat h h') : Rd h' v L := ⟨s.len, s.gr hc h' hG, fun _ h2 hG2 => s.gr hc h2 (hG.trans (hG2.low hG.nx))⟩
theorem Sr.rd {h : H} {v : V} {L : List Int} (s : Sr iE h v L) : Rd h v L := ⟨s.len, s.at, fun hc _ hG => (s.grow hc hG).at⟩
end Go.Ev
namespace Go.Ev
open Go Go.RowKit
noncomputable def f33_r0 : List EOper := [⟨(some (K.ofNat 4)), none, .as (.c .sn)⟩]
noncomputable def f33_r1 : List EOper := [⟨(some (K.ofNat 5)), none, .as (.c .sn)⟩]
noncomputable def f33_r2 : List EOper := [⟨(some (K.ofNat 6)), none, .as (.c (.i .i64 (.ofNat 0)))⟩]
noncomputable def f33_r3 : List EOper := [⟨(some (K.ofNat 9)), none, .mv (.t (K.ofNat 6))⟩, ⟨(some (K.ofNat 10)), none, .mv (.t (K.ofNat 0))⟩, ⟨(some (K.ofNat 11)), none, .bin .lss (.t (K.ofNat 9)) (.t (K.ofNat 10))⟩]
noncomputable def f33_r4 : List EOper := [⟨(some (K.ofNat 7)), none, .as (.c (.i .i64 (.ofNat 0)))⟩]
noncomputable def f33_r5 : List EOper := [⟨(some (K.ofNat 14)), none, .mv (.t (K.ofNat 6))⟩, ⟨(some (K.ofNat 15)), none, .mv (.t (K.ofNat 1))⟩, ⟨(some (K.ofNat 16)), none, .len (.t (K.ofNat 15))⟩, ⟨(some (K.ofNat 17)), none, .bin .lss (.t (K.ofNat 14)) (.t (K.ofNat 16))⟩]
noncomputable def f33_r6 : List EOper := [⟨(some (K.ofNat 18)), none, .mv (.t (K.ofNat 1))⟩, ⟨(some (K.ofNat 19)), none, .mv (.t (K.ofNat 6))⟩, ⟨(some (K.ofNat 20)), none, .iads 1 (.t (K.ofNat 18)) (.t (K.ofNat 19))⟩, ⟨(some (K.ofNat 21)), none, .ld (.t (K.ofNat 20))⟩, ⟨(some (K.ofNat 22)), none, .conv .u64 (.t (K.ofNat 21))⟩, ⟨(some (K.ofNat 23)), none, .mv (.t (K.ofNat 6))⟩, ⟨(some (K.ofNat 24)), none, .bin .add (.t (K.ofNat 23)) (.c (.i .i64 (.ofNat 1)))⟩, ⟨(some (K.ofNat 25)), none, .conv .u64 (.t (K.ofNat 24))⟩, ⟨(some (K.ofNat 26)), none, .bin .rem (.t (K.ofNat 22)) (.t (K.ofNat 25))⟩, ⟨(some (K.ofNat 27)), none, .conv .i64 (.t (K.ofNat 26))⟩, ⟨(some (K.ofNat 7)), none, .as (.t (K.ofNat 27))⟩]
noncomputable def f33_r7 : List EOper := [⟨(some (K.ofNat 8)), none, .as (.c .sn)⟩]
noncomputable def f33_r8 : List EOper := [⟨(some (K.ofNat 28)), none, .mv (.t (K.ofNat 8))⟩, ⟨(some (K.ofNat 29)), none, .mv (.t (K.ofNat 5))⟩, ⟨(some (K.ofNat 30)), none, .mv (.t (K.ofNat 7))⟩, ⟨(some (K.ofNat 31)), none, .slice 1 (.t (K.ofNat 29)) none (some (.t (K.ofNat 30))) none⟩, ⟨(some (K.ofNat 32)), none, .app 1 (.t (K.ofNat 28)) (.t (K.ofNat 31))⟩, ⟨(some (K.ofNat 8)), none, .as (.t (K.ofNat 32))⟩]
noncomputable def f33_r9 : List EOper := [⟨(some (K.ofNat 33)), none, .mv (.t (K.ofNat 8))⟩, ⟨(some (K.ofNat 34)), none, .mv (.t (K.ofNat 6))⟩, ⟨(some (K.ofNat 35)), none, .bslice 1 1 [(.i .i64 (.ofNat 0))] [(0, 1, (.t (K.ofNat 34)))]⟩, ⟨(some (K.ofNat 36)), none, .app 1 (.t (K.ofNat 33)) (.t (K.ofNat 35))⟩, ⟨(some (K.ofNat 8)), none, .as (.t (K.ofNat 36))⟩]
noncomputable def f33_r10 : List EOper := [⟨(some (K.ofNat 37)), none, .mv (.t (K.ofNat 8))⟩, ⟨(some (K.ofNat 38)), none, .mv (.t (K.ofNat 5))⟩, ⟨(some (K.ofNat 39)), none, .mv (.t (K.ofNat 7))⟩, ⟨(some (K.ofNat 40)), none, .slice 1 (.t (K.ofNat 38)) (some (.t (K.ofNat 39))) none none⟩, ⟨(some (K.ofNat 41)), none, .app 1 (.t (K.ofNat 37)) (.t (K.ofNat 40))⟩, ⟨(some (K.ofNat 5)), none, .as (.t (K.ofNat 41))⟩]
noncomputable def f33_r11 : List EOper := [⟨(some (K.ofNat 12)), none, .mv (.t (K.ofNat 6))⟩, ⟨(some (K.ofNat 13)), none, .bin .add (.t (K.ofNat 12)) (.c (.i .i64 (.ofNat 1)))⟩, ⟨(some (K.ofNat 6)), none, .as (.t (K.ofNat 13))⟩]
noncomputable def f33_l0 : EC := (.seq (.seq (.reg f33_r3) (.cond (.t (K.ofNat 11)) .skip (.exit 0))) (.seq (.block 1 (.seq (.reg f33_r4) (.seq (.seq (.reg f33_r5) (.cond (.t (K.ofNat 17)) (.reg f33_r6) .skip)) (.seq (.reg f33_r7) (.seq (.reg f33_r8) (.seq (.reg f33_r9) (.reg f33_r10))))))) (.reg f33_r11)))
noncomputable def f33_r12 : List EOper := [⟨(some (K.ofNat 42)), none, .mv (.t (K.ofNat 5))⟩, ⟨(some (K.ofNat 4)), none, .as (.t (K.ofNat 42))⟩]
noncomputable def f33_c : EC := (.seq (.reg f33_r0) (.seq (.reg f33_r1) (.seq (.seq (.reg f33_r2) (.block 0 (.loop f33_l0))) (.seq (.reg f33_r12) .ret))))
noncomputable def f33 : EF := ⟨43, [.tmp (K.ofNat 4)], f33_c, none⟩
theorem f33_rs : f33.rs = [.tmp (K.ofNat 4)] := of_eq_true (eq_self _)
theorem rem_k (x : Int) {k : Nat} (hk : 0 < k) (hk2 : k ≤ 1000) : ∃ q : Nat, q < k ∧ fw .i64 ((fw .u64 x).tmod (k : Int)) = (q : Int) := by
  have h0 : 0 ≤ fw .u64 x := by rw [fw_eq]; exact Int.emod_nonneg _ (by decide)
  obtain ⟨m, hm⟩ := Int.eq_ofNat_of_zero_le h0
  have h1 : (fw .u64 x).tmod (k : Int) = ((m % k : Nat) : Int) := by rw [hm]; rfl
  have h2 : m % k < k := Nat.mod_lt _ hk
  exact ⟨m % k, by omega, by rw [h1, fw64 (by omega) (by omega)]⟩
/-- Where the next name is put. -/
def atV (B : List Int) (t : Nat) : Int := if h : t < B.length then fw .i64 ((fw .u64 B[t]).tmod ((t + 1 : Nat) : Int)) else 0
theorem atV_nat {B : List Int} {t : Nat} (h : t ≤ 100) : ∃ q : Nat, q ≤ t ∧ atV B t = (q : Int) := by
  unfold atV
  split
  · obtain ⟨q, h1, h2⟩ := rem_k B[t] (k := t + 1) (by omega) (by omega)
    exact ⟨q, by omega, h2⟩
  · exact ⟨0, by omega, rfl⟩
/-- The names. -/
def nmL (B : List Int) : Nat → List Int
  | 0 => []
  | t + 1 => ((nmL B t).take (atV B t).toNat ++ [(t : Int)]) ++ (nmL B t).drop (atV B t).toNat
theorem nmL_len {B : List Int} : ∀ {t : Nat}, (nmL B t).length = t
  | 0 => rfl
  | t + 1 => by
    have := nmL_len (B := B) (t := t)
    simp only [nmL, List.length_append, List.length_take, List.length_drop, List.length_singleton]
    omega
theorem nmL_mem {B : List Int} {x : Int} : ∀ {t : Nat}, x ∈ nmL B t ↔ 0 ≤ x ∧ x < (t : Int)
  | 0 => by simp [nmL]
  | t + 1 => by
    have ih := nmL_mem (B := B) (x := x) (t := t)
    have h1 : x ∈ nmL B t ↔ x ∈ (nmL B t).take (atV B t).toNat ∨ x ∈ (nmL B t).drop (atV B t).toNat := by
      rw [← List.mem_append, List.take_append_drop]
    simp only [nmL, List.mem_append, List.mem_singleton]
    constructor
    · rintro ((h | h) | h)
      · have := ih.1 (h1.2 (.inl h)); omega
      · omega
      · have := ih.1 (h1.2 (.inr h)); omega
    · intro h
      by_cases e : x = (t : Int)
      · exact .inl (.inr e)
      · rcases h1.1 (ih.2 (by omega)) with h2 | h2
        · exact .inl (.inl h2)
        · exact .inr h2
theorem nmL_nodup {B : List Int} : ∀ {t : Nat}, (nmL B t).Nodup
  | 0 => List.nodup_nil
  | t + 1 => by
    have ih := nmL_nodup (B := B) (t := t)
    have hp : List.Perm (nmL B (t + 1)) ((t : Int) :: nmL B t) := by
      show List.Perm (((nmL B t).take (atV B t).toNat ++ [(t : Int)]) ++ (nmL B t).drop (atV B t).toNat) _
      rw [List.append_assoc]
      refine List.perm_middle.trans ?_
      show List.Perm ((t : Int) :: ((nmL B t).take (atV B t).toNat ++ (nmL B t).drop (atV B t).toNat)) _
      rw [List.take_append_drop]
    rw [hp.nodup_iff, List.nodup_cons]
    refine ⟨fun h => ?_, ih⟩
    have := nmL_mem.1 h
    omega
section
variable {fs : T EF} {h : H} {v : V} {B : List Int}
def f33_I (h : H) (n : Nat) (v : V) (B : List Int) (t : Nat) (fr : Fr) (h1 : H) : Prop := t ≤ n ∧ Grow h.nx.nat h h1 ∧ ∃ w, Sl iE h1 w (nmL B t) ∧ Own h.nx.nat w ∧ fr.get (K.ofNat 0) = some (.i .i64 (n : Int)) ∧ fr.get (K.ofNat 1) = some (v) ∧ fr.get (K.ofNat 5) = some (w) ∧ fr.get (K.ofNat 6) = some (.i .i64 (t : Int))
theorem f33_ret {n : Nat} (hn : n ≤ 100) (hv : Sr iE h v B) (_hB : B.length ≤ 9223372036854775807) (hc : HC h) : Ret fs f33 [.i .i64 (n : Int), v] h fun r h' => Sl iE h' r (nmL B n) ∧ Own h.nx.nat r ∧ Grow h.nx.nat h h' := by
  apply ret_of rfl
  show W fs none f33_c _ _ _
  unfold f33_c
  simp (disch := omega) only [f33_r0, f33_r1, f33_r2, w_reg, w_seq, w_block, seqK_n, x_nil, x_as, ev_c, putD_some, frame_2, of0]
  refine W_loop (f33_I h n v B) (fun t => n - t) ?_ 0 ⟨by omega, Grow.refl _ _, .sn, Sl.nil, Own.sn, by simp (disch := omega) only [getK_set, Nat.reduceEqDiff, ↓reduceIte, and_self, Int.natCast_zero]⟩
  rintro t fr h1 ⟨ht, hG, w, hw, how, g0, g1, g5, g6⟩
  have hc1 := hG.hc hc
  have hv1 := hv.grow hc hG
  have hlen := hv1.len
  unfold f33_l0
  by_cases hlt : t < n
  · have d0 : decide ((t : Int) < (n : Int)) = true := by simpa using hlt
    have eb : (t : Int) + 1 = ((t + 1 : Nat) : Int) := by omega
    have hbw : fw .u64 ((t + 1 : Nat) : Int) = ((t + 1 : Nat) : Int) := fwu64 (by omega) (by omega)
    have hrem : ∀ a, binV .rem (.i .u64 a) (.i .u64 ((t + 1 : Nat) : Int)) = some (.i .u64 (a.tmod ((t + 1 : Nat) : Int))) := fun a => bin_rem (by omega)
    obtain ⟨q, hq, hqe⟩ := atV_nat (B := B) (t := t) (by omega)
    have hql : q ≤ (nmL B t).length := by rw [nmL_len]; exact hq
    have hnl := nmL_len (B := B) (t := t)
    -- the three that are appended
    obtain ⟨w1, c1, d1, _⟩ := hw.sr.cut (lo := none) (hi := some (.i .i64 (q : Int))) (l := 0) (u := q) bnd_none bnd_i (by omega) hql
    obtain ⟨x1, h2, a1, s1, o1, gr1, _⟩ := Sl.appR (b := h1.nx.nat) (Sl.nil (e := iE)) Own.sn (Nat.le_refl _) d1 hc1 (by simp; omega)
    have hc2 := gr1.hc hc1
    obtain ⟨x2, h3, a2, s2, o2, gr2, _⟩ := Sl.push (e := iE) (x := (t : Int)) (c := .i .i64 (t : Int)) rfl s1 o1 gr1.nx hc2 (by simp; omega)
    have hG13 := gr1.trans gr2
    have hc3 := hG13.hc hc1
    have hw3 := hw.grow hc1 hG13
    obtain ⟨w2, c2, d2, _⟩ := hw3.sr.cut (lo := some (.i .i64 (q : Int))) (hi := none) (l := q) (u := (nmL B t).length) bnd_i bnd_none hql (Nat.le_refl _)
    obtain ⟨x3, h4, a3, s3, o3, gr3, _⟩ := Sl.appR s2 o2 hG13.nx d2 hc3 (by simp; omega)
    have hG14 := hG13.trans gr3
    have hnew : (([] ++ ((nmL B t).take q).drop 0) ++ [(t : Int)]) ++ ((nmL B t).take (nmL B t).length).drop q = nmL B (t + 1) := by
      show _ = ((nmL B t).take (atV B t).toNat ++ [(t : Int)]) ++ (nmL B t).drop (atV B t).toNat
      rw [hqe, Int.toNat_natCast, List.take_length, List.drop_zero, List.nil_append]
    rw [hnew] at s3
    have o3' : Own h.nx.nat x3 := fun id off n sz e => Nat.le_trans hG.nx (o3 id off n sz e)
    by_cases hin : t < B.length
    · have d2' : decide ((t : Int) < (B.length : Int)) = true := by simpa using hin
      obtain ⟨p, hp1, hp2⟩ := hv1.at t hin
      have hqe' : fw .i64 ((fw .u64 B[t]).tmod ((t + 1 : Nat) : Int)) = (q : Int) := by
        unfold atV at hqe
        rw [dif_pos hin] at hqe; exact hqe
      simp (disch := omega) only [f33_r3, f33_r4, f33_r5, f33_r6, f33_r7, f33_r8, w_skip, w_reg, w_seq, w_cond, w_block, seqK_n, ckB_b, cbB_b, true_and, x_nil, x_mv, x_as, x_ld, x_bin, x_conv, x_slice, sliceV_eq, Option.map_none, Option.map_some, x_iads, x_len, x_app, kx, rvP_ok, okv_some, ev_t, ev_c, getV_some, putD_some, bin_add, bin_lss, onI_i, of0, of1, getK_set, Nat.reduceEqDiff, ↓reduceIte, g0, g1, g5, g6, d0, hlen, d2', hp1, hp2, iE, eb, fw64, hbw, hrem, hqe', c1, a1]
      simp (disch := omega) only [f33_r9, f33_r10, f33_r11, w_reg, seqK_n, atK_n, loopK_n, x_nil, x_mv, x_as, x_bslice, x_bin, x_slice, sliceV_eq, Option.map_none, Option.map_some, x_app, kx, rvP_ok, okv_some, ev_t, ev_c, getV_some, putD_some, bin_add, oGet_s, cells1_i, fill_1, set_1, of0, of1, getK_set, Nat.reduceEqDiff, ↓reduceIte, g5, g6, fill_1, set_1, a2, c2, a3, eb, fw64]
      exact ⟨t + 1, by omega, by omega, hG.trans (hG14.low hG.nx), x3, s3, o3', by simp (disch := omega) only [getK_set, Nat.reduceEqDiff, ↓reduceIte, g0, g1, and_self]⟩
    · have d2' : decide ((t : Int) < (B.length : Int)) = false := by simpa using hin
      have hq0 : q = 0 := by
        unfold atV at hqe
        rw [dif_neg hin] at hqe; omega
      subst hq0
      have c1 : ∀ h1, sliceB 1 w none (some (.i .i64 0)) none h1 = .ok w1 h1 := c1
      have c2 : ∀ h1, sliceB 1 w (some (.i .i64 0)) none none h1 = .ok w2 h1 := c2
      simp (disch := omega) only [f33_r3, f33_r4, f33_r5, f33_r7, f33_r8, w_skip, w_reg, w_seq, w_cond, w_block, seqK_n, ckB_b, cbB_b, true_and, x_nil, x_mv, x_as, x_bin, x_slice, sliceV_eq, Option.map_none, Option.map_some, x_len, x_app, kx, rvP_ok, okv_some, ev_t, ev_c, getV_some, putD_some, bin_lss, of0, getK_set, Nat.reduceEqDiff, ↓reduceIte, Bool.false_eq_true, g0, g1, g5, g6, d0, hlen, d2', c1, a1]
      simp (disch := omega) only [f33_r9, f33_r10, f33_r11, w_reg, seqK_n, atK_n, loopK_n, x_nil, x_mv, x_as, x_bslice, x_bin, x_slice, sliceV_eq, Option.map_none, Option.map_some, x_app, kx, rvP_ok, okv_some, ev_t, ev_c, getV_some, putD_some, bin_add, oGet_s, cells1_i, fill_1, set_1, of0, of1, getK_set, Nat.reduceEqDiff, ↓reduceIte, g5, g6, fill_1, set_1, a2, c2, a3, eb, fw64]
      exact ⟨t + 1, by omega, by omega, hG.trans (hG14.low hG.nx), x3, s3, o3', by simp (disch := omega) only [getK_set, Nat.reduceEqDiff, ↓reduceIte, g0, g1, and_self]⟩
  · have d0 : decide ((t : Int) < (n : Int)) = false := by simpa using hlt
    have et : t = n := by omega
    subst et
    simp (disch := omega) only [f33_r3, f33_r12, f33_rs, w_reg, w_seq, w_cond, w_exit, w_ret, seqK_n, seqK_e, atK_e, loopK_e, ckB_b, cbB_b, true_and, retK_r, x_nil, x_mv, x_as, x_bin, kx, rvP_ok, okv_some, ev_t, getV_some, putD_some, bin_lss, oGet_s, readRs_nil, readRs_t, retV_1, Option.some.injEq, exists_eq_left', getK_set, Nat.reduceEqDiff, ↓reduceIte, Bool.false_eq_true, g0, g5, g6, d0]
    exact ⟨hw, how, hG⟩
end
end Go.Ev
namespace Go.Ev
open Go Go.RowKit
noncomputable def f63_r0 : List EOper := [⟨(some (K.ofNat 2)), none, .as (.c .sn)⟩]
noncomputable def f63_r1 : List EOper := [⟨(some (K.ofNat 3)), none, .as (.c .sn)⟩]
noncomputable def f63_r2 : List EOper := [⟨(some (K.ofNat 4)), none, .as (.c (.i .i64 (.ofNat 0)))⟩]
noncomputable def f63_r3 : List EOper := [⟨(some (K.ofNat 7)), none, .mv (.t (K.ofNat 4))⟩, ⟨(some (K.ofNat 8)), none, .mv (.t (K.ofNat 0))⟩, ⟨(some (K.ofNat 9)), none, .bin .sub (.t (K.ofNat 8)) (.c (.i .i64 (.ofNat 1)))⟩, ⟨(some (K.ofNat 10)), none, .bin .lss (.t (K.ofNat 7)) (.t (K.ofNat 9))⟩]
noncomputable def f63_r4 : List EOper := [⟨(some (K.ofNat 13)), none, .mv (.t (K.ofNat 0))⟩, ⟨(some (K.ofNat 14)), none, .bin .sub (.t (K.ofNat 13)) (.c (.i .i64 (.ofNat 1)))⟩, ⟨(some (K.ofNat 15)), none, .mv (.t (K.ofNat 4))⟩, ⟨(some (K.ofNat 16)), none, .build [(.i .i64 (.ofNat 0)), (.i .i64 (.ofNat 0))] [(0, 1, (.t (K.ofNat 14))), (1, 1, (.t (K.ofNat 15)))]⟩, ⟨(some (K.ofNat 17)), none, .bslice 1 2 [(.i .i64 (.ofNat 0)), (.i .i64 (.ofNat 0))] [(0, 2, (.t (K.ofNat 16)))]⟩, ⟨(some (K.ofNat 5)), none, .as (.t (K.ofNat 17))⟩]
noncomputable def f63_r5 : List EOper := [⟨(some (K.ofNat 6)), none, .as (.c (.i .i64 (.ofNat 1)))⟩]
noncomputable def f63_r6 : List EOper := [⟨(some (K.ofNat 18)), none, .mv (.t (K.ofNat 6))⟩, ⟨(some (K.ofNat 19)), none, .mv (.t (K.ofNat 0))⟩, ⟨(some (K.ofNat 20)), none, .bin .quo (.t (K.ofNat 19)) (.c (.i .i64 (.ofNat 2)))⟩, ⟨(some (K.ofNat 21)), none, .bin .lss (.t (K.ofNat 18)) (.t (K.ofNat 20))⟩]
noncomputable def f63_r7 : List Stage := [⟨[⟨(some (K.ofNat 24)), none, .mv (.t (K.ofNat 5))⟩, ⟨(some (K.ofNat 25)), none, .mv (.t (K.ofNat 4))⟩, ⟨(some (K.ofNat 26)), none, .mv (.t (K.ofNat 6))⟩, ⟨(some (K.ofNat 27)), none, .bin .add (.t (K.ofNat 25)) (.t (K.ofNat 26))⟩, ⟨(some (K.ofNat 28)), none, .mv (.t (K.ofNat 0))⟩, ⟨(some (K.ofNat 29)), none, .bin .sub (.t (K.ofNat 28)) (.c (.i .i64 (.ofNat 1)))⟩, ⟨(some (K.ofNat 30)), none, .bin .rem (.t (K.ofNat 27)) (.t (K.ofNat 29))⟩, ⟨(some (K.ofNat 31)), none, .mv (.t (K.ofNat 4))⟩, ⟨(some (K.ofNat 32)), none, .mv (.t (K.ofNat 0))⟩, ⟨(some (K.ofNat 33)), none, .bin .add (.t (K.ofNat 31)) (.t (K.ofNat 32))⟩, ⟨(some (K.ofNat 34)), none, .bin .sub (.t (K.ofNat 33)) (.c (.i .i64 (.ofNat 1)))⟩, ⟨(some (K.ofNat 35)), none, .mv (.t (K.ofNat 6))⟩, ⟨(some (K.ofNat 36)), none, .bin .sub (.t (K.ofNat 34)) (.t (K.ofNat 35))⟩, ⟨(some (K.ofNat 37)), none, .mv (.t (K.ofNat 0))⟩, ⟨(some (K.ofNat 38)), none, .bin .sub (.t (K.ofNat 37)) (.c (.i .i64 (.ofNat 1)))⟩, ⟨(some (K.ofNat 39)), none, .bin .rem (.t (K.ofNat 36)) (.t (K.ofNat 38))⟩, ⟨(some (K.ofNat 40)), none, .build [(.i .i64 (.ofNat 0)), (.i .i64 (.ofNat 0))] [(0, 1, (.t (K.ofNat 30))), (1, 1, (.t (K.ofNat 39)))]⟩, ⟨(some (K.ofNat 41)), none, .bslice 1 2 [(.i .i64 (.ofNat 0)), (.i .i64 (.ofNat 0))] [(0, 2, (.t (K.ofNat 40)))]⟩], [], (some ⟨(some (K.ofNat 42)), none, .app 2 (.t (K.ofNat 24)) (.t (K.ofNat 41))⟩), [(K.ofNat 41)]⟩, ⟨[], [], (some ⟨(some (K.ofNat 5)), none, .as (.t (K.ofNat 42))⟩), []⟩, ⟨[], [], none, []⟩]
noncomputable def f63_r8 : List EOper := [⟨(some (K.ofNat 22)), none, .mv (.t (K.ofNat 6))⟩, ⟨(some (K.ofNat 23)), none, .bin .add (.t (K.ofNat 22)) (.c (.i .i64 (.ofNat 1)))⟩, ⟨(some (K.ofNat 6)), none, .as (.t (K.ofNat 23))⟩]
noncomputable def f63_l0 : EC := (.seq (.seq (.reg f63_r6) (.cond (.t (K.ofNat 21)) .skip (.exit 2))) (.seq (.block 3 (.draw f63_r7)) (.reg f63_r8)))
noncomputable def f63_r9 : List EOper := [⟨(some (K.ofNat 43)), none, .mv (.t (K.ofNat 3))⟩, ⟨(some (K.ofNat 44)), none, .mv (.t (K.ofNat 5))⟩, ⟨(some (K.ofNat 45)), none, .bslice 1 1 [.sn] [(0, 1, (.t (K.ofNat 44)))]⟩, ⟨(some (K.ofNat 46)), none, .app 1 (.t (K.ofNat 43)) (.t (K.ofNat 45))⟩, ⟨(some (K.ofNat 3)), none, .as (.t (K.ofNat 46))⟩]
noncomputable def f63_r10 : List EOper := [⟨(some (K.ofNat 11)), none, .mv (.t (K.ofNat 4))⟩, ⟨(some (K.ofNat 12)), none, .bin .add (.t (K.ofNat 11)) (.c (.i .i64 (.ofNat 1)))⟩, ⟨(some (K.ofNat 4)), none, .as (.t (K.ofNat 12))⟩]
noncomputable def f63_l1 : EC := (.seq (.seq (.reg f63_r3) (.cond (.t (K.ofNat 10)) .skip (.exit 0))) (.seq (.block 1 (.seq (.reg f63_r4) (.seq (.seq (.reg f63_r5) (.block 2 (.loop f63_l0))) (.reg f63_r9)))) (.reg f63_r10)))
noncomputable def f63_r11 : List EOper := [⟨(some (K.ofNat 47)), none, .mv (.t (K.ofNat 3))⟩, ⟨(some (K.ofNat 2)), none, .as (.t (K.ofNat 47))⟩]
noncomputable def f63_c : EC := (.seq (.reg f63_r0) (.seq (.reg f63_r1) (.seq (.seq (.reg f63_r2) (.block 0 (.loop f63_l1))) (.seq (.reg f63_r11) .ret))))
noncomputable def f63 : EF := ⟨48, [.tmp (K.ofNat 2)], f63_c, none⟩
theorem f63_rs : f63.rs = [.tmp (K.ofNat 2)] := of_eq_true (eq_self _)
theorem Sk.lit2 {h : H} {x : Int × Int} : Sk 2 qE (h.new (.cells (1 * 2) [.i .i64 x.1, .i .i64 x.2])) (.sl h.nx 0 1 2) [x] :=
  .inr ⟨h.nx, 0, 1 * 2, _, by simp, get_new_same, by simp, by simp, by simp [qE]⟩
theorem Sk.srp {h : H} {v : V} {L : List (Int × Int)} (hs : Sk 2 qE h v L) : Srp h v L := by
  rcases hs with ⟨rfl, rfl⟩ | ⟨id, off, m, cs, rfl, hb, h1, h2, h3⟩
  · exact .inl ⟨rfl, rfl, rfl⟩
  · exact .inr ⟨id, off, m, cs, rfl, .inl hb, h1, h2, h3⟩
theorem fill_p2 {fr : Fr} {x : EO} {z1 z2 : V} : fillE fr [z1, z2] [(0, 2, x)] = oGet (cellsN 2 (ev fr x)) none fun cs => some (setMany [z1, z2] 0 cs) := of_eq_true (eq_self _)
theorem set_p2 {z1 z2 a b : V} : setMany [z1, z2] 0 [a, b] = [a, b] := of_eq_true (eq_self _)
/-- A round of it, so far. -/
def turnR (n i k : Nat) : List (Int × Int) := (((n - 1 : Nat) : Int), (i : Int)) :: (List.range k).map fun k => ((((i + (k + 1)) % (n - 1) : Nat) : Int), (((i + n - 1 - (k + 1)) % (n - 1) : Nat) : Int))
theorem turnR_succ {n i k : Nat} : turnR n i (k + 1) = turnR n i k ++ [((((i + (k + 1)) % (n - 1) : Nat) : Int), (((i + n - 1 - (k + 1)) % (n - 1) : Nat) : Int))] := by
  unfold turnR; rw [List.range_succ, List.map_append]; rfl
theorem turnR_len {n i k : Nat} : (turnR n i k).length = k + 1 := by simp [turnR]
def turnS (n : Nat) (i : Nat) : List (List (Int × Int)) := (List.range i).map fun i => turnR n i (n / 2 - 1)
theorem turnS_succ {n i : Nat} : turnS n (i + 1) = turnS n i ++ [turnR n i (n / 2 - 1)] := by
  unfold turnS; rw [List.range_succ, List.map_append]; rfl
theorem turnS_len {n i : Nat} : (turnS n i).length = i := by simp [turnS]
section
variable {fs : T EF} {h : H}
def f63_I (h : H) (n : Nat) (i : Nat) (fr : Fr) (h1 : H) : Prop := i ≤ n - 1 ∧ Grow h.nx.nat h h1 ∧ ∃ c us, Sll h1 c us (turnS n i) ∧ Own h.nx.nat c ∧ fr.get (K.ofNat 0) = some (.i .i64 (n : Int)) ∧ fr.get (K.ofNat 3) = some (c) ∧ fr.get (K.ofNat 4) = some (.i .i64 (i : Int))
def f63_J (h : H) (n : Nat) (c : V) (i : Nat) (k : Nat) (fr : Fr) (h1 : H) : Prop := k ≤ n / 2 - 1 ∧ Grow h.nx.nat h h1 ∧ ∃ w, Sk 2 qE h1 w (turnR n i k) ∧ Own h.nx.nat w ∧ fr.get (K.ofNat 0) = some (.i .i64 (n : Int)) ∧ fr.get (K.ofNat 3) = some (c) ∧ fr.get (K.ofNat 4) = some (.i .i64 (i : Int)) ∧ fr.get (K.ofNat 5) = some (w) ∧ fr.get (K.ofNat 6) = some (.i .i64 ((k + 1 : Nat) : Int))
theorem f63_ret {n : Nat} (hn : 2 ≤ n ∧ n ≤ 100) (hc : HC h) : Ret fs f63 [.i .i64 (n : Int)] h fun r h' => ∃ us, Sll h' r us (turnS n (n - 1)) ∧ Own h.nx.nat r ∧ Grow h.nx.nat h h' := by
  have en1 : (n : Int) - 1 = ((n - 1 : Nat) : Int) := by omega
  have hq2 : (n : Int).tdiv 2 = ((n / 2 : Nat) : Int) := rfl
  apply ret_of rfl
  show W fs none f63_c _ _ _
  unfold f63_c
  simp (disch := omega) only [f63_r0, f63_r1, f63_r2, w_reg, w_seq, w_block, seqK_n, x_nil, x_as, ev_c, putD_some, frame_1, of0]
  refine W_loop (f63_I h n) (fun i => n - 1 - i) ?_ 0 ⟨by omega, Grow.refl _ _, .sn, [], Sll.nil, Own.sn, by simp (disch := omega) only [getK_set, Nat.reduceEqDiff, ↓reduceIte, and_self, Int.natCast_zero]⟩
  rintro i fr h1 ⟨hi, hG, c, us, hs, ho, g0, g3, g4⟩
  have hc1 := hG.hc hc
  unfold f63_l1
  by_cases hlt : i < n - 1
  · have d0 : decide ((i : Int) < ((n - 1 : Nat) : Int)) = true := by simp; omega
    have hlit := Sk.lit2 (h := h1) (x := (((n - 1 : Nat) : Int), (i : Int)))
    have gl := Grow.new (Nat.le_refl h1.nx.nat) (.cells (1 * 2) [.i .i64 (((n - 1 : Nat) : Int)), .i .i64 (i : Int)])
    simp (disch := omega) only [f63_r3, f63_r4, f63_r5, w_skip, w_reg, w_seq, w_cond, w_block, seqK_n, ckB_b, cbB_b, true_and, x_nil, x_mv, x_as, x_build, x_bslice, x_bin, kx, rvP_ok, okv_some, ev_t, ev_c, getV_some, putD_some, bin_sub, bin_lss, oGet_s, cells1_i, of0, of1, getK_set, Nat.reduceEqDiff, ↓reduceIte, fill_2, set_2, cells2, g0, g4, en1, fw64, d0, fill_2, set_2, cells2, fill_p2, set_p2]
    refine W_loop (f63_J h1 n c i) (fun k => n / 2 - 1 - k) ?_ 0 ⟨by omega, gl, .sl h1.nx 0 1 2, hlit, fun _ _ _ _ e => by cases e; exact Nat.le_refl _, by simp (disch := omega) only [getK_set, Nat.reduceEqDiff, ↓reduceIte, g0, g3, g4, and_self, Nat.zero_add, Int.natCast_one]⟩
    clear g0 g3 g4 hlit gl fr
    rintro k fr h2 ⟨hk, hG2, w, hw, how, g0, g3, g4, g5, g6⟩
    have hc2 := hG2.hc hc1
    unfold f63_l0
    by_cases hlt2 : k < n / 2 - 1
    · have d1 : decide (((k + 1 : Nat) : Int) < ((n / 2 : Nat) : Int)) = true := by simp; omega
      have hrem : ∀ a, binV .rem (.i .i64 a) (.i .i64 ((n - 1 : Nat) : Int)) = some (.i .i64 (a.tmod ((n - 1 : Nat) : Int))) := fun a => bin_rem (by omega)
      have e1 : (i : Int) + ((k + 1 : Nat) : Int) = ((i + (k + 1) : Nat) : Int) := by omega
      have e2 : (i : Int) + (n : Int) = ((i + n : Nat) : Int) := by omega
      have e3 : ((i + n : Nat) : Int) - 1 = ((i + n - 1 : Nat) : Int) := by omega
      have e4 : ((i + n - 1 : Nat) : Int) - ((k + 1 : Nat) : Int) = ((i + n - 1 - (k + 1) : Nat) : Int) := by omega
      have t1 : ((i + (k + 1) : Nat) : Int).tmod ((n - 1 : Nat) : Int) = (((i + (k + 1)) % (n - 1) : Nat) : Int) := rfl
      have t2 : ((i + n - 1 - (k + 1) : Nat) : Int).tmod ((n - 1 : Nat) : Int) = (((i + n - 1 - (k + 1)) % (n - 1) : Nat) : Int) := rfl
      have e5 : ((k + 1 : Nat) : Int) + 1 = ((k + 1 + 1 : Nat) : Int) := by omega
      obtain ⟨w', h3, a1, s1, o1, gr1, _⟩ := Sk.push qE_len (by omega) (x := ((((i + (k + 1)) % (n - 1) : Nat) : Int), (((i + n - 1 - (k + 1)) % (n - 1) : Nat) : Int))) hw how hG2.nx hc2 (by rw [turnR_len]; omega)
      rw [← turnR_succ] at s1
      have a1' : appV 2 (h2.new (.cells (1 * 2) [.i .i64 (((i + (k + 1)) % (n - 1) : Nat) : Int), .i .i64 (((i + n - 1 - (k + 1)) % (n - 1) : Nat) : Int)])) w (.sl h2.nx 0 1 2) = .ok w' h3 := a1
      simp (disch := omega) only [f63_r6, f63_r7, w_skip, w_reg, w_draw, w_seq, w_cond, w_block, seqK_n, ckB_b, cbB_b, true_and, x_nil, x_mv, x_bin, x_app, kx, kg, xg_nil, xg_mv, xg_build, xg_bin, xg_bslice, xd_cons, stK_s, stay_nil, rvP_ok, okv_some, ev_t, ev_c, getV_some, putD_some, bin_add, bin_sub, bin_lss, bin_quo, oGet_s, cells1_i, of0, of1, of2, Option.some.injEq, exists_eq_left', getK_set, Nat.reduceEqDiff, ↓reduceIte, fill_2, set_2, cells2, g0, g4, g5, g6, hq2, fw64, d1, en1, e1, e2, e3, e4, t1, t2, hrem, hc2.dead, fill_2, set_2, cells2, fill_p2, set_p2]
      refine ⟨fresh_one (n := 1) (sz := 2) (by simp (disch := omega) only [getK_set, ↓reduceIte]), ?_⟩
      simp (disch := omega) only [f63_r8, w_reg, seqK_n, atK_n, loopK_n, true_and, x_nil, x_mv, x_as, x_bin, kx, xg_nil, xd_cons, fresh_nil, stK_n, stK_s, stay_nil, rvP_ok, okv_some, ev_t, ev_c, getV_some, putD_some, bin_add, of1, getK_set, Nat.reduceEqDiff, ↓reduceIte, g6, a1', fw64, e5]
      exact ⟨k + 1, by omega, by omega, hG2.trans gr1, w', s1, o1, by simp (disch := omega) only [getK_set, Nat.reduceEqDiff, ↓reduceIte, g0, g3, g4, and_self]⟩
    · have d1 : decide (((k + 1 : Nat) : Int) < ((n / 2 : Nat) : Int)) = false := by simp; omega
      have ek : k = n / 2 - 1 := by omega
      subst ek
      have hs2 := hs.grow hc1 hG2
      have hclt := hs.out.lt hc1
      obtain ⟨c', h3, a1, s1, o1, gr1, _⟩ := hs2.push (b := h.nx.nat) ho (by have := hG.nx; have := hG2.nx; omega) hc2 (by rw [turnS_len]; omega) hw.srp (fun id off n sz e off' n' sz' e' => by
        have h1' := how _ _ _ _ e
        have h2' := hclt _ _ _ _ e'
        omega)
      have hcell := hw.srp.cell
      rw [← turnS_succ] at s1
      simp (disch := omega) only [f63_r6, f63_r9, f63_r10, w_reg, w_seq, w_cond, w_exit, seqK_n, seqK_e, atK_n, atK_e, loopK_n, loopK_e, ckB_b, cbB_b, true_and, x_nil, x_mv, x_as, x_bslice, x_bin, x_app, kx, rvP_ok, okv_some, ev_t, ev_c, getV_some, putD_some, bin_add, bin_lss, bin_quo, oGet_s, fill_1, set_1, of1, of2, getK_set, Nat.reduceEqDiff, ↓reduceIte, Bool.false_eq_true, g0, g3, g4, g5, g6, hq2, fw64, d1, fill_1, hcell, set_1, a1]
      exact ⟨i + 1, by omega, by omega, (hG.trans (hG2.low hG.nx)).trans gr1, c', _, s1, o1, by simp (disch := omega) only [getK_set, Nat.reduceEqDiff, ↓reduceIte, g0, and_self, Int.natCast_add, Int.natCast_one]⟩
  · have d0 : decide ((i : Int) < ((n - 1 : Nat) : Int)) = false := by simp; omega
    have ei : i = n - 1 := by omega
    subst ei
    simp (disch := omega) only [f63_r3, f63_r11, f63_rs, w_reg, w_seq, w_cond, w_exit, w_ret, seqK_n, seqK_e, atK_e, loopK_e, ckB_b, cbB_b, true_and, retK_r, x_nil, x_mv, x_as, x_bin, kx, rvP_ok, okv_some, ev_t, ev_c, getV_some, putD_some, bin_sub, bin_lss, oGet_s, readRs_nil, readRs_t, retV_1, of1, Option.some.injEq, exists_eq_left', getK_set, Nat.reduceEqDiff, ↓reduceIte, Bool.false_eq_true, g0, g3, g4, en1, fw64, d0]
    exact ⟨us, hs, ho, hG⟩
end
end Go.Ev
namespace Go.Ev
open Go Go.RowKit
noncomputable def f32_r0 : List EOper := [⟨(some (K.ofNat 4)), none, .as (.c .sn)⟩]
noncomputable def f32_r1 : List EOper := [⟨(some (K.ofNat 5)), none, .as (.c .sn)⟩]
noncomputable def f32_r2 : List EOper := [⟨(some (K.ofNat 6)), none, .as (.c (.i .i64 (.ofNat 0)))⟩]
noncomputable def f32_r3 : List EOper := [⟨(some (K.ofNat 9)), none, .mv (.t (K.ofNat 6))⟩, ⟨(some (K.ofNat 10)), none, .mv (.t (K.ofNat 0))⟩, ⟨(some (K.ofNat 11)), none, .len (.t (K.ofNat 10))⟩, ⟨(some (K.ofNat 12)), none, .bin .lss (.t (K.ofNat 9)) (.t (K.ofNat 11))⟩]
noncomputable def f32_r4 : List EOper := [⟨(some (K.ofNat 7)), none, .as (.c .sn)⟩]
noncomputable def f32_r5 : List EOper := [⟨(some (K.ofNat 8)), none, .as (.c (.i .i64 (.ofNat 0)))⟩]
noncomputable def f32_r6 : List EOper := [⟨(some (K.ofNat 15)), none, .mv (.t (K.ofNat 8))⟩, ⟨(some (K.ofNat 16)), none, .mv (.t (K.ofNat 0))⟩, ⟨(some (K.ofNat 17)), none, .mv (.t (K.ofNat 6))⟩, ⟨(some (K.ofNat 18)), none, .iads 1 (.t (K.ofNat 16)) (.t (K.ofNat 17))⟩, ⟨(some (K.ofNat 19)), none, .ld (.t (K.ofNat 18))⟩, ⟨(some (K.ofNat 20)), none, .len (.t (K.ofNat 19))⟩, ⟨(some (K.ofNat 21)), none, .bin .lss (.t (K.ofNat 15)) (.t (K.ofNat 20))⟩]
noncomputable def f32_r7 : List Stage := [⟨[⟨(some (K.ofNat 24)), none, .mv (.t (K.ofNat 7))⟩, ⟨(some (K.ofNat 25)), none, .mv (.t (K.ofNat 1))⟩, ⟨(some (K.ofNat 26)), none, .mv (.t (K.ofNat 0))⟩, ⟨(some (K.ofNat 27)), none, .mv (.t (K.ofNat 6))⟩, ⟨(some (K.ofNat 28)), none, .iads 1 (.t (K.ofNat 26)) (.t (K.ofNat 27))⟩, ⟨(some (K.ofNat 29)), none, .ld (.t (K.ofNat 28))⟩, ⟨(some (K.ofNat 30)), none, .mv (.t (K.ofNat 8))⟩, ⟨(some (K.ofNat 31)), none, .iads 2 (.t (K.ofNat 29)) (.t (K.ofNat 30))⟩, ⟨(some (K.ofNat 32)), none, .iadr 2 1 (.t (K.ofNat 31)) (.c (.i .i64 (.ofNat 0)))⟩, ⟨(some (K.ofNat 33)), none, .ld (.t (K.ofNat 32))⟩, ⟨(some (K.ofNat 34)), none, .iads 1 (.t (K.ofNat 25)) (.t (K.ofNat 33))⟩, ⟨(some (K.ofNat 35)), none, .ld (.t (K.ofNat 34))⟩, ⟨(some (K.ofNat 36)), none, .mv (.t (K.ofNat 1))⟩, ⟨(some (K.ofNat 37)), none, .mv (.t (K.ofNat 0))⟩, ⟨(some (K.ofNat 38)), none, .mv (.t (K.ofNat 6))⟩, ⟨(some (K.ofNat 39)), none, .iads 1 (.t (K.ofNat 37)) (.t (K.ofNat 38))⟩, ⟨(some (K.ofNat 40)), none, .ld (.t (K.ofNat 39))⟩, ⟨(some (K.ofNat 41)), none, .mv (.t (K.ofNat 8))⟩, ⟨(some (K.ofNat 42)), none, .iads 2 (.t (K.ofNat 40)) (.t (K.ofNat 41))⟩, ⟨(some (K.ofNat 43)), none, .iadr 2 1 (.t (K.ofNat 42)) (.c (.i .i64 (.ofNat 1)))⟩, ⟨(some (K.ofNat 44)), none, .ld (.t (K.ofNat 43))⟩, ⟨(some (K.ofNat 45)), none, .iads 1 (.t (K.ofNat 36)) (.t (K.ofNat 44))⟩, ⟨(some (K.ofNat 46)), none, .ld (.t (K.ofNat 45))⟩, ⟨(some (K.ofNat 47)), none, .build [(.i .i64 (.ofNat 0)), (.i .i64 (.ofNat 0))] [(0, 1, (.t (K.ofNat 35))), (1, 1, (.t (K.ofNat 46)))]⟩, ⟨(some (K.ofNat 48)), none, .bslice 1 2 [(.i .i64 (.ofNat 0)), (.i .i64 (.ofNat 0))] [(0, 2, (.t (K.ofNat 47)))]⟩], [], (some ⟨(some (K.ofNat 49)), none, .app 2 (.t (K.ofNat 24)) (.t (K.ofNat 48))⟩), [(K.ofNat 48)]⟩, ⟨[], [], (some ⟨(some (K.ofNat 7)), none, .as (.t (K.ofNat 49))⟩), []⟩, ⟨[], [], none, []⟩]
noncomputable def f32_r8 : List EOper := [⟨(some (K.ofNat 22)), none, .mv (.t (K.ofNat 8))⟩, ⟨(some (K.ofNat 23)), none, .bin .add (.t (K.ofNat 22)) (.c (.i .i64 (.ofNat 1)))⟩, ⟨(some (K.ofNat 8)), none, .as (.t (K.ofNat 23))⟩]
noncomputable def f32_l0 : EC := (.seq (.seq (.reg f32_r6) (.cond (.t (K.ofNat 21)) .skip (.exit 2))) (.seq (.block 3 (.draw f32_r7)) (.reg f32_r8)))
noncomputable def f32_r9 : List EOper := [⟨(some (K.ofNat 50)), none, .mv (.t (K.ofNat 5))⟩, ⟨(some (K.ofNat 51)), none, .mv (.t (K.ofNat 7))⟩, ⟨(some (K.ofNat 52)), none, .bslice 1 1 [.sn] [(0, 1, (.t (K.ofNat 51)))]⟩, ⟨(some (K.ofNat 53)), none, .app 1 (.t (K.ofNat 50)) (.t (K.ofNat 52))⟩, ⟨(some (K.ofNat 5)), none, .as (.t (K.ofNat 53))⟩]
noncomputable def f32_r10 : List EOper := [⟨(some (K.ofNat 13)), none, .mv (.t (K.ofNat 6))⟩, ⟨(some (K.ofNat 14)), none, .bin .add (.t (K.ofNat 13)) (.c (.i .i64 (.ofNat 1)))⟩, ⟨(some (K.ofNat 6)), none, .as (.t (K.ofNat 14))⟩]
noncomputable def f32_l1 : EC := (.seq (.seq (.reg f32_r3) (.cond (.t (K.ofNat 12)) .skip (.exit 0))) (.seq (.block 1 (.seq (.reg f32_r4) (.seq (.seq (.reg f32_r5) (.block 2 (.loop f32_l0))) (.reg f32_r9)))) (.reg f32_r10)))
noncomputable def f32_r11 : List EOper := [⟨(some (K.ofNat 54)), none, .mv (.t (K.ofNat 5))⟩, ⟨(some (K.ofNat 4)), none, .as (.t (K.ofNat 54))⟩]
noncomputable def f32_c : EC := (.seq (.reg f32_r0) (.seq (.reg f32_r1) (.seq (.seq (.reg f32_r2) (.block 0 (.loop f32_l1))) (.seq (.reg f32_r11) .ret))))
noncomputable def f32 : EF := ⟨55, [.tmp (K.ofNat 4)], f32_c, none⟩
theorem f32_rs : f32.rs = [.tmp (K.ofNat 4)] := of_eq_true (eq_self _)
/-- A slice of slices of pairs that is only read. -/
structure Nrp (h : H) (v : V) (us : List V) (Ls : List (List (Int × Int))) : Prop where
  len : us.length = Ls.length
  out : Sr vE h v us
  inn : ∀ i (h1 : i < us.length) (h2 : i < Ls.length), Srp h us[i] Ls[i]
theorem Nrp.grow {h h' : H} {v : V} {us : List V} {Ls : List (List (Int × Int))} (s : Nrp h v us Ls) (hc : HC h) (hg : Grow h.nx.nat h h') : Nrp h' v us Ls := ⟨s.len, s.out.grow hc hg, fun i h1 h2 => (s.inn i h1 h2).grow hc hg⟩
theorem Sll.nrp {h : H} {v : V} {us : List V} {Ls : List (List (Int × Int))} (s : Sll h v us Ls) : Nrp h v us Ls := ⟨s.len, s.out.sr, s.inn⟩
/-- A slice of slices of pairs, none of which shares its block. -/
structure Sld (h : H) (v : V) (us : List V) (Ls : List (List (Int × Int))) : Prop extends Sll h v us Ls where
  sk : ∀ i (h1 : i < us.length) (h2 : i < Ls.length), Sk 2 qE h us[i] Ls[i]
  dis : ∀ i j (hi : i < us.length) (hj : j < us.length), i ≠ j → ∀ id off n sz, us[i] = .sl id off n sz → NotIn id us[j]
section
variable {h h' : H} {v u : V} {us : List V} {Ls : List (List (Int × Int))} {L : List (Int × Int)} {b : Nat}
theorem Sld.nil : Sld h .sn [] [] := ⟨Sll.nil, fun i hi => absurd hi (by simp), fun i j hi => absurd hi (by simp)⟩
theorem Sld.grow (s : Sld h v us Ls) (hc : HC h) (hg : Grow h.nx.nat h h') : Sld h' v us Ls := ⟨s.toSll.grow hc hg, fun i h1 h2 => (s.sk i h1 h2).grow hc hg, s.dis⟩
theorem Sld.push (s : Sld h v us Ls) (ho : Own b v) (hb : b ≤ h.nx.nat) (hc : HC h) (hn : Ls.length < 16777216) (hu : Sk 2 qE h u L) (hsep : ∀ id off n sz, u = .sl id off n sz → NotIn id v) (hdis : ∀ x ∈ us, ∀ id off n sz, u = .sl id off n sz → NotIn id x) :
    ∃ v' h', appV 1 (h.new (.cells (1 * 1) [u])) v (.sl h.nx 0 1 1) = .ok v' h' ∧ Sld h' v' (us ++ [u]) (Ls ++ [L]) ∧ Own b v' ∧ Grow b h h' := by
  obtain ⟨v', h', e1, e2, e3, e4, e5⟩ := s.toSll.push ho hb hc hn hu.srp hsep
  refine ⟨v', h', e1, ⟨e2, fun i h1 h2 => ?_, fun i j hi hj hij id off n sz e => ?_⟩, e3, e4⟩
  · by_cases hi : i < us.length
    · have hi2 : i < Ls.length := by rw [← s.len]; exact hi
      rw [List.getElem_append_left hi, List.getElem_append_left hi2]
      exact (s.sk i hi hi2).same fun id off n sz ew => (e5 id ((s.sk i hi hi2).lt hc _ _ _ _ ew) (s.sep _ (List.getElem_mem hi) _ _ _ _ ew)).1
    · have hl : i = us.length := by rw [List.length_append] at h1; simp at h1; omega
      subst hl
      rw [List.getElem_append_right (Nat.le_refl _), List.getElem_append_right (by rw [s.len]; exact Nat.le_refl _)]
      simp only [Nat.sub_self, List.getElem_cons_zero, s.len]
      exact hu.same fun id off n sz ew => (e5 id (hu.lt hc _ _ _ _ ew) (hsep _ _ _ _ ew)).1
  have hl : (us ++ [u]).length = us.length + 1 := by simp
  by_cases h1 : i < us.length
  · rw [List.getElem_append_left h1] at e
    by_cases h2 : j < us.length
    · rw [List.getElem_append_left h2]; exact s.dis i j h1 h2 hij _ _ _ _ e
    · have ej : j = us.length := by omega
      subst ej
      rw [List.getElem_append_right (Nat.le_refl _)]
      simp only [Nat.sub_self, List.getElem_cons_zero]
      intro off' n' sz' e'
      exact hdis _ (List.getElem_mem h1) _ _ _ _ e' _ _ _ e
  · have ei : i = us.length := by omega
    subst ei
    rw [List.getElem_append_right (Nat.le_refl _)] at e
    simp only [Nat.sub_self, List.getElem_cons_zero] at e
    have h2 : j < us.length := by omega
    rw [List.getElem_append_left h2]
    exact hdis _ (List.getElem_mem h2) _ _ _ _ e
end
def renR (M : List Int) (l : List (Int × Int)) : List (Int × Int) := l.map fun e => (M.getD e.1.toNat 0, M.getD e.2.toNat 0)
def renS (M : List Int) (Ls : List (List (Int × Int))) : List (List (Int × Int)) := Ls.map (renR M)
/-- All teams have names. -/
def InN (n : Nat) (Ls : List (List (Int × Int))) : Prop := ∀ l ∈ Ls, ∀ e ∈ l, 0 ≤ e.1 ∧ e.1 < (n : Int) ∧ 0 ≤ e.2 ∧ e.2 < (n : Int)
section
variable {fs : T EF} {h : H} {v w : V} {us : List V} {Ls : List (List (Int × Int))} {M : List Int}
def f32_I (h : H) (v w : V) (Ls : List (List (Int × Int))) (M : List Int) (i : Nat) (fr : Fr) (h1 : H) : Prop := i ≤ Ls.length ∧ Grow h.nx.nat h h1 ∧ ∃ c ws, Sld h1 c ws (renS M (Ls.take i)) ∧ Own h.nx.nat c ∧ (∀ x ∈ ws, ∀ id off n sz, x = .sl id off n sz → h.nx.nat ≤ id.nat) ∧ fr.get (K.ofNat 0) = some (v) ∧ fr.get (K.ofNat 1) = some (w) ∧ fr.get (K.ofNat 5) = some (c) ∧ fr.get (K.ofNat 6) = some (.i .i64 (i : Int))
def f32_J (h : H) (v w c : V) (l : List (Int × Int)) (M : List Int) (i : Nat) (j : Nat) (fr : Fr) (h1 : H) : Prop := j ≤ l.length ∧ Grow h.nx.nat h h1 ∧ ∃ u, Sk 2 qE h1 u (renR M (l.take j)) ∧ Own h.nx.nat u ∧ fr.get (K.ofNat 0) = some (v) ∧ fr.get (K.ofNat 1) = some (w) ∧ fr.get (K.ofNat 5) = some (c) ∧ fr.get (K.ofNat 6) = some (.i .i64 (i : Int)) ∧ fr.get (K.ofNat 7) = some (u) ∧ fr.get (K.ofNat 8) = some (.i .i64 (j : Int))
theorem f32_ret (hv : Nrp h v us Ls) (hw : Rd h w M) (hI : InN M.length Ls) (hl1 : Ls.length ≤ 1000) (hl2 : ∀ l ∈ Ls, l.length ≤ 1000) (hc : HC h) : Ret fs f32 [v, w] h fun r h' => ∃ ws, Sld h' r ws (renS M Ls) ∧ Own h.nx.nat r ∧ (∀ x ∈ ws, ∀ id off n sz, x = .sl id off n sz → h.nx.nat ≤ id.nat) ∧ Grow h.nx.nat h h' := by
  apply ret_of rfl
  show W fs none f32_c _ _ _
  unfold f32_c
  simp (disch := omega) only [f32_r0, f32_r1, f32_r2, w_reg, w_seq, w_block, seqK_n, x_nil, x_as, ev_c, putD_some, frame_2, of0]
  refine W_loop (f32_I h v w Ls M) (fun i => Ls.length - i) ?_ 0 ⟨by omega, Grow.refl _ _, .sn, [], Sld.nil, Own.sn, fun x hx => absurd hx (by simp), by simp (disch := omega) only [getK_set, Nat.reduceEqDiff, ↓reduceIte, and_self, Int.natCast_zero]⟩
  rintro i fr h1 ⟨hi, hG, c, ws, hs, ho, hws, g0, g1, g5, g6⟩
  have hc1 := hG.hc hc
  have hv1 := hv.grow hc hG
  have hlen : ∀ h1, lenV v h1 = .ok (.i .i64 (Ls.length : Int)) h1 := fun h1 => by rw [hv.out.len, hv.len]
  unfold f32_l1
  by_cases hlt : i < Ls.length
  · have d0 : decide ((i : Int) < (Ls.length : Int)) = true := by simpa using hlt
    have hiu : i < us.length := by rw [hv.len]; exact hlt
    have hl2' := hl2 Ls[i] (List.getElem_mem hlt)
    have hIi := hI Ls[i] (List.getElem_mem hlt)
    have hrs : renS M (Ls.take (i + 1)) = renS M (Ls.take i) ++ [renR M Ls[i]] := by unfold renS; rw [List.take_succ_eq_append_getElem hlt, List.map_append]; rfl
    have hll : (renS M (Ls.take i)).length ≤ 1000 := by unfold renS; simp; omega
    simp (disch := omega) only [f32_r3, f32_r4, f32_r5, w_skip, w_reg, w_seq, w_cond, w_block, seqK_n, ckB_b, cbB_b, true_and, x_nil, x_mv, x_as, x_bin, x_len, kx, rvP_ok, okv_some, ev_t, ev_c, getV_some, putD_some, bin_lss, of0, getK_set, Nat.reduceEqDiff, ↓reduceIte, g0, g6, hlen, d0]
    refine W_loop (f32_J h1 v w c Ls[i] M i) (fun j => Ls[i].length - j) ?_ 0 ⟨by omega, Grow.refl _ _, .sn, Sk.nil, Own.sn, by simp (disch := omega) only [getK_set, Nat.reduceEqDiff, ↓reduceIte, g0, g1, g5, g6, and_self, Int.natCast_zero]⟩
    clear g0 g1 g5 g6 fr
    rintro j fr h2 ⟨hj, hG2, u, hu, hou, g0, g1, g5, g6, g7, g8⟩
    have hc2 := hG2.hc hc1
    have hv2 := hv1.grow hc1 hG2
    have hw2 := hw.grow hc (hG.trans (hG2.low hG.nx))
    obtain ⟨p, hp1, hp2⟩ := hv2.out.at i hiu
    have hp2 : loadV h2 p one? = .ok us[i] h2 := hp2
    have hui := hv2.inn i hiu hlt
    generalize us[i] = ui at *
    generalize hl : Ls[i] = l at *
    have hlen2 := hui.len
    have hrr : ∀ hj : j < l.length, renR M (l.take (j + 1)) = renR M (l.take j) ++ [(M.getD l[j].1.toNat 0, M.getD l[j].2.toNat 0)] := fun hj => by unfold renR; rw [List.take_succ_eq_append_getElem hj, List.map_append]; rfl
    have hul : (renR M (l.take j)).length ≤ 1000 := by unfold renR; simp; omega
    unfold f32_l0
    by_cases hlt2 : j < l.length
    · have d1 : decide ((j : Int) < (l.length : Int)) = true := by simpa using hlt2
      obtain ⟨ide, q, hq1, _, hq2, hq3⟩ := hui.at2 hlt2
      obtain ⟨b1, b2, b3, b4⟩ := hIi l[j] (List.getElem_mem hlt2)
      have hrr := hrr hlt2
      obtain ⟨a, ea⟩ : ∃ a : Nat, l[j].1 = (a : Int) := ⟨l[j].1.toNat, by omega⟩
      obtain ⟨b, eb⟩ : ∃ b : Nat, l[j].2 = (b : Int) := ⟨l[j].2.toNat, by omega⟩
      rw [ea] at hq2 hrr
      rw [eb] at hq3 hrr
      have ha : a < M.length := by omega
      have hb : b < M.length := by omega
      obtain ⟨pa, wa1, wa2⟩ := hw2.at a ha
      obtain ⟨pb, wb1, wb2⟩ := hw2.at b hb
      rw [Int.toNat_natCast, Int.toNat_natCast, List.getD_eq_getElem?_getD, List.getD_eq_getElem?_getD, List.getElem?_eq_getElem ha, List.getElem?_eq_getElem hb] at hrr
      simp only [Option.getD_some] at hrr
      obtain ⟨u', h3, a1, s1, o1, gr1, _⟩ := Sk.push qE_len (by omega) (x := (M[a], M[b])) hu hou hG2.nx hc2 (by omega)
      rw [← hrr] at s1
      have a1' : appV 2 (h2.new (.cells (1 * 2) [.i .i64 M[a], .i .i64 M[b]])) u (.sl h2.nx 0 1 2) = .ok u' h3 := a1
      simp (disch := omega) only [f32_r6, f32_r7, w_skip, w_reg, w_draw, w_seq, w_cond, w_block, seqK_n, ckB_b, cbB_b, true_and, x_nil, x_mv, x_ld, x_bin, x_iads, x_len, x_app, kx, kg, xg_nil, xg_mv, xg_build, xg_ld, xg_iadr, xg_iads, xg_bslice, xd_cons, stK_s, stay_nil, rvP_ok, okv_some, ev_t, ev_c, getV_some, putD_some, bin_lss, onP_p, oGet_s, cells1_i, of0, of1, Option.some.injEq, exists_eq_left', getK_set, Nat.reduceEqDiff, ↓reduceIte, fill_2, set_2, ix2_0, ix2_1, cells2, g0, g1, g6, g7, g8, hp1, hp2, hlen2, d1, hq1, hq2, hq3, wa1, wa2, wb1, wb2, iE, hc2.dead, fill_2, set_2, cells2, fill_p2, set_p2]
      refine ⟨fresh_one (n := 1) (sz := 2) (by simp (disch := omega) only [getK_set, ↓reduceIte]), ?_⟩
      simp (disch := omega) only [f32_r8, w_reg, seqK_n, atK_n, loopK_n, true_and, x_nil, x_mv, x_as, x_bin, kx, xg_nil, xd_cons, fresh_nil, stK_n, stK_s, stay_nil, rvP_ok, okv_some, ev_t, ev_c, getV_some, putD_some, bin_add, of1, getK_set, Nat.reduceEqDiff, ↓reduceIte, g8, a1', fw64]
      exact ⟨j + 1, by omega, by omega, hG2.trans gr1, u', s1, o1, by simp (disch := omega) only [getK_set, Nat.reduceEqDiff, ↓reduceIte, g0, g1, g5, g6, and_self, Int.natCast_add, Int.natCast_one]⟩
    · have d1 : decide ((j : Int) < (l.length : Int)) = false := by simpa using hlt2
      have ej : j = l.length := by omega
      subst ej
      rw [List.take_length] at hu
      have hs2 := hs.grow hc1 hG2
      have hclt := hs.out.lt hc1
      have hilt : ∀ x ∈ ws, ∀ id off n sz, x = .sl id off n sz → id.nat < h1.nx.nat := fun x hx => by
        obtain ⟨k, hk, rfl⟩ := List.getElem_of_mem hx
        exact Srk.lt (hs.inn k hk (by rw [← hs.len]; exact hk)) hc1
      obtain ⟨c', h3, a1, s1, o1, gr1⟩ := hs2.push (b := h.nx.nat) ho (by have := hG.nx; have := hG2.nx; omega) hc2 (by omega) hu (fun id off n sz e off' n' sz' e' => by
        have h1' := hou _ _ _ _ e
        have h2' := hclt _ _ _ _ e'
        omega) (fun x hx id off n sz e off' n' sz' e' => by
        have h1' := hou _ _ _ _ e
        have h2' := hilt x hx _ _ _ _ e'
        omega)
      have hcell := hu.srp.cell
      rw [← hrs] at s1
      simp (disch := omega) only [f32_r6, f32_r9, f32_r10, w_reg, w_seq, w_cond, w_exit, seqK_n, seqK_e, atK_n, atK_e, loopK_n, loopK_e, ckB_b, cbB_b, true_and, x_nil, x_mv, x_as, x_bslice, x_ld, x_bin, x_iads, x_len, x_app, kx, rvP_ok, okv_some, ev_t, ev_c, getV_some, putD_some, bin_add, bin_lss, oGet_s, fill_1, set_1, of1, getK_set, Nat.reduceEqDiff, ↓reduceIte, Bool.false_eq_true, g0, g5, g6, g7, g8, hp1, hp2, hlen2, d1, fill_1, hcell, set_1, a1, fw64]
      refine ⟨i + 1, by omega, by omega, (hG.trans (hG2.low hG.nx)).trans gr1, c', _, s1, o1, fun x hx id off n sz e => ?_, by simp (disch := omega) only [getK_set, Nat.reduceEqDiff, ↓reduceIte, g0, g1, and_self, Int.natCast_add, Int.natCast_one]⟩
      rcases List.mem_append.1 hx with hx | hx
      · exact hws x hx _ _ _ _ e
      · rw [List.mem_singleton.1 hx] at e
        exact Nat.le_trans hG.nx (hou _ _ _ _ e)
  · have d0 : decide ((i : Int) < (Ls.length : Int)) = false := by simpa using hlt
    have ei : i = Ls.length := by omega
    subst ei
    rw [List.take_length] at hs
    simp (disch := omega) only [f32_r3, f32_r11, f32_rs, w_reg, w_seq, w_cond, w_exit, w_ret, seqK_n, seqK_e, atK_e, loopK_e, ckB_b, cbB_b, true_and, retK_r, x_nil, x_mv, x_as, x_bin, x_len, kx, rvP_ok, okv_some, ev_t, getV_some, putD_some, bin_lss, oGet_s, readRs_nil, readRs_t, retV_1, Option.some.injEq, exists_eq_left', getK_set, Nat.reduceEqDiff, ↓reduceIte, Bool.false_eq_true, g0, g5, g6, hlen, d0]
    exact ⟨ws, hs, ho, hws, hG⟩
end
end Go.Ev
