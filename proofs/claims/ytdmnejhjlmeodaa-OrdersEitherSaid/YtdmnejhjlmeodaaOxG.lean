/-
  OrdersEither, called.
-/
import Derived.Test.YtdmnejhjlmeodaaOxD
import Derived.Test.YtdmnejhjlmeodaaPd
namespace Go.Proofs.Ytdmnejhjlmeodaa
open Go.Ev
open Go.RowKit
theorem get22 : t5.get (K.ofNat 22) = some n22 := by kernel_rfl
theorem callsL : CallsEt t5 where
  n96 := fun n x h P => E96 (fs := t5) (ef := n96) (by kernel_rfl) rfl (n, x) trivial h P
  n77 := fun x h P => E77 (fs := t5) (ef := n77) (by kernel_rfl) rfl x trivial h P
  n78 := fun x h P => E78 (fs := t5) (ef := n78) (by kernel_rfl) rfl x trivial h P
  n56 := fun x h P => E56 (fs := t5) (ef := n56) (by kernel_rfl) rfl x trivial h P
  n70 := fun L h P p1 => E70 (fs := t5) (ef := n70) (by kernel_rfl) rfl L p1 h P
  n81 := fun L M h P p1 p2 => E81 (fs := t5) (ef := n81) (by kernel_rfl) rfl (L, M) ⟨p1, p2⟩ h P
  n85 := fun L x h P p1 => E85 (fs := t5) (ef := n85) (by kernel_rfl) rfl (L, x) p1 h P
  c84 := by kernel_rfl
  c101 := by kernel_rfl
  c69 := by kernel_rfl
  c71 := by kernel_rfl
  n87 := fun L h P p1 => E87 (fs := t5) (ef := n87) (by kernel_rfl) rfl L p1 h P
  n92 := fun L h P p1 => E92 (fs := t5) (ef := n92) (by kernel_rfl) rfl L p1 h P
  n91 := fun L M h P p1 p2 => E91 (fs := t5) (ef := n91) (by kernel_rfl) rfl (L, M) ⟨p1, p2⟩ h P
  n49 := fun L n h P p1 p2 => E49 (fs := t5) (ef := n49) (by kernel_rfl) rfl (L, n) ⟨p1, p2⟩ h P
  n57 := fun L x h P p1 p2 => E57 (fs := t5) (ef := n57) (by kernel_rfl) rfl (L, x) ⟨p1, p2⟩ h P
  n55 := fun L x y h P p1 p2 p3 => E55n (fs := t5) (ef := n55) (by kernel_rfl) rfl L x y p1 p2 p3 h P
  n76 := fun L h P p1 => E76 (fs := t5) (ef := n76) (by kernel_rfl) rfl L p1 h P
  n80 := fun a b h P => E80 (fs := t5) (ef := n80) (by kernel_rfl) rfl (a, b) trivial h P
  c75 := by kernel_rfl
  c47 := by kernel_rfl
  c48 := by kernel_rfl
  c58 := by kernel_rfl
  n60 := fun L h P p1 => E60 (fs := t5) (ef := n60) (by kernel_rfl) rfl L p1 h P
  c86 := by kernel_rfl
  c102 := by kernel_rfl
  c103 := by kernel_rfl
  c89 := by kernel_rfl
  c88 := by kernel_rfl
  c61 := by kernel_rfl
  c40 := by kernel_rfl
  c52 := by kernel_rfl
  c20 := by kernel_rfl
  c53 := by kernel_rfl
  c21 := by kernel_rfl
  n55g := fun L x y h P p1 p2 p3 => E55g (fs := t5) (ef := n55) (by kernel_rfl) rfl (L, (x, y)) ⟨p1, p2, p3⟩ h P
  c63 := by kernel_rfl
  c19 := by kernel_rfl
  c62 := by kernel_rfl
  c11 := by kernel_rfl
  c23 := by kernel_rfl
  c24 := by kernel_rfl
  c25 := by kernel_rfl
  c26 := by kernel_rfl
  c27 := by kernel_rfl
  c14 := by kernel_rfl
  c28 := by kernel_rfl
  c29 := by kernel_rfl
  c30 := by kernel_rfl
  aw := fun h P => callP_flat (g := tabG [([], .b true)]) get22 rfl rfl
theorem law_call {W : World} (x0 : Int) {val1 : Value} {n1 : Nat} {L1 : List Int} (a1 : SlArgK 2 W val1 n1 L1) (_b1 : ∀ z ∈ L1, inR .i64 z = true) {val2 : Value} {n2 : Nat} {L2 : List Int} (a2 : SlArgK 2 W val2 n2 L2) (_b2 : ∀ z ∈ L2, inR .i64 z = true) : Calls Try.prog 4 #[.int .i64 x0, val1, val2] W fun e W' => e = .returned (.bool true) ∧ Below W.heap.size W W' := by
  obtain ⟨ι1, m1, u1, r1, x1_, v1, s1, g1⟩ := (Roms.nil (Y := rig) (W := W)).addK (by omega) a1
  obtain ⟨ι2, m2, u2, r2, x2_, v2, s2, g2⟩ := (r1).addK (by omega) a2
  exact r2.call (k := (.z (.o .e))) (ef := f4) t5_ok (show f4.nv = none ∧ ∃ fn c, FnOk rig (.z (.o .e)) f4 fn c from code4) (VRs.cons (.i _ _) (VRs.cons (v1.mono x2_) (VRs.cons v2 VRs.nil))) (f4_ret callsL (pairs_inI _b2) ((s1.srp a1.le).grow r1.hc g2) (s2.srp a2.le) r2.hc)
end Go.Proofs.Ytdmnejhjlmeodaa
