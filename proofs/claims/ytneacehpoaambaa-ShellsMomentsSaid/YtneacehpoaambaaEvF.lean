/-
  The evaluator, part F: numbers.
-/
import Derived.Test.YtneacehpoaambaaEvE
namespace Go.Ev
open Go Go.RowKit

theorem wrap_in (k : IntKind) (n : Int) (h1 : -(kmin k : Int) ≤ n) (h2 : n ≤ (kmax k : Int)) : k.wrap n = n := by
  cases k <;> simp [kmin, kmax] at h1 h2 <;> simp [IntKind.wrap, IntKind.bits, IntKind.signed] <;> (try split) <;> omega
theorem fw_eq (k : IntKind) (n : Int) : fw k n = k.wrap n := by
  unfold fw
  cases n with
  | ofNat m =>
    simp only []
    cases h : Nat.ble m (kmax k) with
    | false => rfl
    | true =>
      have := Nat.le_of_ble_eq_true h
      exact (wrap_in k (Int.ofNat m) (by simp only [Int.ofNat_eq_natCast]; omega) (by simp only [Int.ofNat_eq_natCast]; omega)).symm
  | negSucc m =>
    simp only []
    cases h : Nat.blt m (kmin k) with
    | false => rfl
    | true =>
      have : m < kmin k := Nat.le_of_ble_eq_true h
      exact (wrap_in k (Int.negSucc m) (by simp only [Int.negSucc_eq]; omega) (by simp only [Int.negSucc_eq]; omega)).symm
theorem iadd_eq (a b : Int) : iadd a b = a + b := by unfold iadd; cases a <;> cases b <;> rfl
theorem isub_eq (a b : Int) : isub a b = a - b := by
  unfold isub
  cases a <;> cases b <;> simp only [] <;> try rfl
  rename_i m n
  cases h : Nat.ble n m with
  | true =>
    have := Nat.le_of_ble_eq_true h
    simp only [cond_true, Int.ofNat_eq_natCast]
    omega
  | false =>
    have : ¬ n ≤ m := fun hle => by rw [Nat.ble_eq_true_of_le hle] at h; cases h
    simp only [cond_false, Int.ofNat_eq_natCast, Int.negSucc_eq]
    omega
theorem imul_eq (a b : Int) : imul a b = a * b := by unfold imul; cases a <;> cases b <;> rfl
theorem ieq_eq (a b : Int) : ieq a b = (a == b) := by
  unfold ieq
  rw [Bool.eq_iff_iff]
  cases a <;> cases b <;> simp <;> omega
theorem ile_eq (a b : Int) : ile a b = decide (a ≤ b) := by
  unfold ile
  rw [Bool.eq_iff_iff]
  cases a <;> cases b <;> simp <;> omega
theorem ilt_eq (a b : Int) : ilt a b = decide (a < b) := by
  unfold ilt
  rw [Bool.eq_iff_iff]
  cases a <;> cases b <;> simp [Nat.blt] <;> omega

theorem kmax_two (k : IntKind) : ∃ j, kmax k + 1 = 2 ^ j ∧ j ≤ k.bits := by
  cases k
  · exact ⟨7, rfl, by decide⟩
  · exact ⟨15, rfl, by decide⟩
  · exact ⟨31, rfl, by decide⟩
  · exact ⟨63, rfl, by decide⟩
  · exact ⟨8, rfl, by decide⟩
  · exact ⟨16, rfl, by decide⟩
  · exact ⟨32, rfl, by decide⟩
  · exact ⟨64, rfl, by decide⟩
theorem ofInt_toNat {k : IntKind} {m : Nat} (h : m ≤ kmax k) : (BitVec.ofInt k.bits (m : Int)).toNat = m := by
  obtain ⟨j, h1, h2⟩ := kmax_two k
  have : 2 ^ j ≤ 2 ^ k.bits := Nat.pow_le_pow_right (by decide) h2
  rw [BitVec.ofInt_natCast, BitVec.toNat_ofNat]
  exact Nat.mod_eq_of_lt (by omega)
theorem ibits_eq {f : Nat → Nat → Nat} {g : (w : Nat) → BitVec w → BitVec w → BitVec w} (k : IntKind) (hf : ∀ m n, m ≤ kmax k → n ≤ kmax k → (g k.bits (BitVec.ofInt k.bits (m : Int)) (BitVec.ofInt k.bits (n : Int))).toNat = f m n ∧ f m n ≤ kmax k) (a b : Int) :
    ibits f g k a b = k.wrap (g k.bits (BitVec.ofInt k.bits a) (BitVec.ofInt k.bits b)).toNat := by
  unfold ibits
  cases a with
  | negSucc m => rfl
  | ofNat m =>
    cases b with
    | negSucc n => rfl
    | ofNat n =>
      simp only []
      cases h : Nat.ble m (kmax k) && Nat.ble n (kmax k) with
      | false => rfl
      | true =>
        simp only [Bool.and_eq_true] at h
        obtain ⟨e1, e2⟩ := hf m n (Nat.le_of_ble_eq_true h.1) (Nat.le_of_ble_eq_true h.2)
        simp only [Int.ofNat_eq_natCast, cond_true]
        rw [e1, wrap_in k _ (by omega) (by omega)]
theorem land_ok (k : IntKind) (m n : Nat) (hm : m ≤ kmax k) (hn : n ≤ kmax k) : (BitVec.ofInt k.bits (m : Int) &&& BitVec.ofInt k.bits (n : Int)).toNat = Nat.land m n ∧ Nat.land m n ≤ kmax k := by
  rw [BitVec.toNat_and, ofInt_toNat hm, ofInt_toNat hn]
  exact ⟨rfl, Nat.le_trans (Nat.and_le_left (n := m) (m := n)) hm⟩
theorem lor_ok (k : IntKind) (m n : Nat) (hm : m ≤ kmax k) (hn : n ≤ kmax k) : (BitVec.ofInt k.bits (m : Int) ||| BitVec.ofInt k.bits (n : Int)).toNat = Nat.lor m n ∧ Nat.lor m n ≤ kmax k := by
  obtain ⟨j, h1, h2⟩ := kmax_two k
  rw [BitVec.toNat_or, ofInt_toNat hm, ofInt_toNat hn]
  have := Nat.or_lt_two_pow (x := m) (y := n) (n := j) (by omega) (by omega)
  exact ⟨rfl, by show m ||| n ≤ _; omega⟩
theorem xor_ok (k : IntKind) (m n : Nat) (hm : m ≤ kmax k) (hn : n ≤ kmax k) : (BitVec.ofInt k.bits (m : Int) ^^^ BitVec.ofInt k.bits (n : Int)).toNat = Nat.xor m n ∧ Nat.xor m n ≤ kmax k := by
  obtain ⟨j, h1, h2⟩ := kmax_two k
  rw [BitVec.toNat_xor, ofInt_toNat hm, ofInt_toNat hn]
  have := Nat.xor_lt_two_pow (x := m) (y := n) (n := j) (by omega) (by omega)
  exact ⟨rfl, by show m ^^^ n ≤ _; omega⟩
theorem andNot_ok (k : IntKind) (m n : Nat) (hm : m ≤ kmax k) (hn : n ≤ kmax k) : (BitVec.ofInt k.bits (m : Int) &&& ~~~(BitVec.ofInt k.bits (n : Int))).toNat = Nat.xor m (Nat.land m n) ∧ Nat.xor m (Nat.land m n) ≤ kmax k := by
  have e : (BitVec.ofInt k.bits (m : Int) &&& ~~~(BitVec.ofInt k.bits (n : Int))) = BitVec.ofInt k.bits (m : Int) ^^^ (BitVec.ofInt k.bits (m : Int) &&& BitVec.ofInt k.bits (n : Int)) := by
    ext i hi
    simp only [BitVec.getElem_and, BitVec.getElem_not, BitVec.getElem_xor]
    cases (BitVec.ofInt k.bits (m : Int))[i] <;> cases (BitVec.ofInt k.bits (n : Int))[i] <;> rfl
  have h1 := land_ok k m n hm hn
  have h2 := xor_ok k m (Nat.land m n) hm h1.2
  rw [e, BitVec.toNat_xor, h1.1, ofInt_toNat hm]
  exact ⟨rfl, h2.2⟩

section
variable {P : Program} {ι : Io} {w : World}
theorem arith_rel {op : BinOp} {t : TypeId} {k : IntKind} {a b : Int} {v : V} (he : arith op k a b = some v) : ∃ v', (binOp op t (.int k a) (.int k b)).run P w = .ok v' w ∧ VR ι v v' := by
  unfold arith at he
  cases op <;> simp only [Option.some.injEq, reduceCtorEq] at he
  · subst he; exact ⟨.int k (k.wrap (a + b)), by simp [binOp, Op.intArith], by rw [fw_eq, iadd_eq]; exact .i _ _⟩
  · subst he; exact ⟨.int k (k.wrap (a - b)), by simp [binOp, Op.intArith], by rw [fw_eq, isub_eq]; exact .i _ _⟩
  · subst he; exact ⟨.int k (k.wrap (a * b)), by simp [binOp, Op.intArith], by rw [fw_eq, imul_eq]; exact .i _ _⟩
  · unfold iquo at he
    cases h : ieq b 0 with
    | true => rw [h] at he; cases he
    | false =>
      rw [h] at he
      cases he
      rw [ieq_eq] at h
      have hb : b ≠ 0 := by simpa using h
      exact ⟨.int k (k.wrap (a.tdiv b)), by simp [binOp, Op.intDiv, hb], by rw [fw_eq]; exact .i _ _⟩
  · unfold irem at he
    cases h : ieq b 0 with
    | true => rw [h] at he; cases he
    | false =>
      rw [h] at he
      cases he
      rw [ieq_eq] at h
      have hb : b ≠ 0 := by simpa using h
      exact ⟨.int k (a.tmod b), by simp [binOp, Op.intDiv, hb], .i _ _⟩
  · subst he; rw [ibits_eq (g := fun _ x y => x &&& y) k (land_ok k)]; exact ⟨.int k (k.wrap (BitVec.ofInt k.bits a &&& BitVec.ofInt k.bits b).toNat), by simp [binOp, Op.intBits], .i _ _⟩
  · subst he; rw [ibits_eq (g := fun _ x y => x ||| y) k (lor_ok k)]; exact ⟨.int k (k.wrap (BitVec.ofInt k.bits a ||| BitVec.ofInt k.bits b).toNat), by simp [binOp, Op.intBits], .i _ _⟩
  · subst he; rw [ibits_eq (g := fun _ x y => x ^^^ y) k (xor_ok k)]; exact ⟨.int k (k.wrap (BitVec.ofInt k.bits a ^^^ BitVec.ofInt k.bits b).toNat), by simp [binOp, Op.intBits], .i _ _⟩
  · subst he; rw [ibits_eq (g := fun _ x y => x &&& ~~~y) k (andNot_ok k)]; exact ⟨.int k (k.wrap (BitVec.ofInt k.bits a &&& ~~~(BitVec.ofInt k.bits b)).toNat), by simp [binOp, Op.intBits], .i _ _⟩
  · subst he; exact ⟨.bool (a == b), by simp [binOp, Op.intCmp], by rw [ieq_eq]; exact .b _⟩
  · subst he; exact ⟨.bool (a != b), by simp [binOp, Op.intCmp], by rw [ieq_eq]; exact .b _⟩
  · subst he; exact ⟨.bool (decide (a < b)), by simp [binOp, Op.intCmp], by rw [ilt_eq]; exact .b _⟩
  · subst he; exact ⟨.bool (decide (a ≤ b)), by simp [binOp, Op.intCmp], by rw [ile_eq]; exact .b _⟩
  · subst he; exact ⟨.bool (decide (b < a)), by simp [binOp, Op.intCmp], by rw [ilt_eq]; exact .b _⟩
  · subst he; exact ⟨.bool (decide (b ≤ a)), by simp [binOp, Op.intCmp], by rw [ile_eq]; exact .b _⟩

theorem binI_rel {op : BinOp} {t : TypeId} {k k' : IntKind} {a b : Int} {v : V} (he : binI op k k' a b = some v) : ∃ v', (binOp op t (.int k a) (.int k' b)).run P w = .ok v' w ∧ VR ι v v' := by
  have gen : op ≠ .shl → op ≠ .shr → (bif k == k' then arith op k a b else none) = some v → ∃ v', (binOp op t (.int k a) (.int k' b)).run P w = .ok v' w ∧ VR ι v v' := fun _ _ hx => by
    cases hk : (k == k') with
    | false => rw [hk] at hx; cases hx
    | true =>
      rw [hk] at hx
      have : k = k' := by simpa using hk
      subst this
      exact arith_rel hx
  cases op
  case shl =>
    obtain ⟨n, hn, he⟩ := oGet_some (by simp) he
    have hb := nonneg_some hn
    subst hb
    cases he
    refine ⟨.int k (k.wrap (a * 2 ^ (min (n : Int).toNat k.bits))), by simp [binOp, Op.shift, show ¬ (n : Int) < 0 by omega], ?_⟩
    unfold shlV
    rw [fw_eq, imul_eq]
    have e : a * Int.ofNat (2 ^ Nat.min n k.bits) = a * 2 ^ min (n : Int).toNat k.bits := by
      rw [Int.toNat_natCast, Int.ofNat_eq_natCast, Int.natCast_pow]; rfl
    rw [e]
    exact .i _ _
  case shr =>
    obtain ⟨n, hn, he⟩ := oGet_some (by simp) he
    have hb := nonneg_some hn
    subst hb
    cases he
    refine ⟨.int k (a.fdiv (2 ^ (min (n : Int).toNat k.bits))), by simp [binOp, Op.shift, show ¬ (n : Int) < 0 by omega], ?_⟩
    unfold shrV
    cases a with
    | negSucc m =>
      simp only [Int.toNat_natCast]
      exact .i _ _
    | ofNat m =>
      simp only [Int.toNat_natCast]
      have e : Int.fdiv (Int.ofNat m) (2 ^ min n k.bits) = Int.ofNat (m / 2 ^ Nat.min n k.bits) := by
        rw [show ((2 : Int) ^ min n k.bits) = ((2 ^ Nat.min n k.bits : Nat) : Int) by rw [Int.natCast_pow]; rfl]
        rw [Int.ofNat_eq_natCast, Int.fdiv_eq_ediv_of_nonneg _ (Int.natCast_nonneg _)]
        rfl
      rw [e]
      exact .i _ _
  all_goals exact gen (by simp) (by simp) he
end
end Go.Ev
