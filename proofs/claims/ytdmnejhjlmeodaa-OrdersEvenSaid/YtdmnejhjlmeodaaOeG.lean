/-
  OrdersEven, called.
-/
import Derived.Test.YtdmnejhjlmeodaaOeD
import Derived.Test.YtdmnejhjlmeodaaPd
namespace Go.Proofs.Ytdmnejhjlmeodaa
open Go.Ev
open Go.RowKit
theorem get22 : t5.get (K.ofNat 22) = some n22 := by kernel_rfl
theorem callsL : CallsEvn t5 where
  n96 := fun n x h P => E96 (fs := t5) (ef := n96) (by kernel_rfl) rfl (n, x) trivial h P
  n77 := fun x h P => E77 (fs := t5) (ef := n77) (by kernel_rfl) rfl x trivial h P
  n78 := fun x h P => E78 (fs := t5) (ef := n78) (by kernel_rfl) rfl x trivial h P
  n56 := fun x h P => E56 (fs := t5) (ef := n56) (by kernel_rfl) rfl x trivial h P
  n70 := fun L h P p1 => E70 (fs := t5) (ef := n70) (by kernel_rfl) rfl L p1 h P
  n81 := fun L M h P p1 p2 => E81 (fs := t5) (ef := n81) (by kernel_rfl) rfl (L, M) ⟨p1, p2⟩ h P
  n85 := fun L x h P p1 => E85 (fs := t5) (ef := n85) (by kernel_rfl) rfl (L, x) p1 h P
  c84 := by kernel_rfl
  c101 := by kernel_rfl
  c69 := by kernel_rfl
  c71 := by kernel_rfl
  n87 := fun L h P p1 => E87 (fs := t5) (ef := n87) (by kernel_rfl) rfl L p1 h P
  n92 := fun L h P p1 => E92 (fs := t5) (ef := n92) (by kernel_rfl) rfl L p1 h P
  n91 := fun L M h P p1 p2 => E91 (fs := t5) (ef := n91) (by kernel_rfl) rfl (L, M) ⟨p1, p2⟩ h P
  n49 := fun L n h P p1 p2 => E49 (fs := t5) (ef := n49) (by kernel_rfl) rfl (L, n) ⟨p1, p2⟩ h P
  n57 := fun L x h P p1 p2 => E57 (fs := t5) (ef := n57) (by kernel_rfl) rfl (L, x) ⟨p1, p2⟩ h P
  n55 := fun L x y h P p1 p2 p3 => E55 (fs := t5) (ef := n55) (by kernel_rfl) rfl (L, (x, y)) ⟨p1, p2, p3⟩ h P
  n76 := fun L h P p1 => E76 (fs := t5) (ef := n76) (by kernel_rfl) rfl L p1 h P
  n80 := fun a b h P => E80 (fs := t5) (ef := n80) (by kernel_rfl) rfl (a, b) trivial h P
  c75 := by kernel_rfl
  c47 := by kernel_rfl
  c48 := by kernel_rfl
  c58 := by kernel_rfl
  n60 := fun L h P p1 => E60 (fs := t5) (ef := n60) (by kernel_rfl) rfl L p1 h P
  c64 := by kernel_rfl
  c90 := by kernel_rfl
  c40 := by kernel_rfl
  c52 := by kernel_rfl
  c20 := by kernel_rfl
  c53 := by kernel_rfl
  c21 := by kernel_rfl
  c51 := by kernel_rfl
  c98 := by kernel_rfl
  c136 := by kernel_rfl
  c127 := by kernel_rfl
  c111 := by kernel_rfl
  c114 := by kernel_rfl
  c115 := by kernel_rfl
  c116 := by kernel_rfl
  c118 := by kernel_rfl
  c106 := by kernel_rfl
  c107 := by kernel_rfl
  c120 := by kernel_rfl
  c97 := by kernel_rfl
  c45 := by kernel_rfl
  c79 := by kernel_rfl
  c11 := by kernel_rfl
  c31 := by kernel_rfl
  c13 := by kernel_rfl
  c23 := by kernel_rfl
  c46 := by kernel_rfl
  c14 := by kernel_rfl
  aw := fun h P => callP_flat (g := tabG [([], .b true)]) get22 rfl rfl
theorem law_call {W : World} (x0 : Int) {val1 : Value} {n1 : Nat} {L1 : List Int} (a1 : SlArgK 2 W val1 n1 L1) (_b1 : ∀ z ∈ L1, inR .i64 z = true) : Calls Try.prog 10 #[.int .i64 x0, val1] W fun e W' => e = .returned (.bool true) ∧ Below W.heap.size W W' := by
  obtain ⟨ι1, m1, u1, r1, x1_, v1, s1, g1⟩ := (Roms.nil (Y := rig) (W := W)).addK (by omega) a1
  exact r1.call (k := (.z (.z (.o .e)))) (ef := f10) t5_ok (show f10.nv = none ∧ ∃ fn c, FnOk rig (.z (.z (.o .e))) f10 fn c from code10) (VRs.cons (.i _ _) (VRs.cons v1 VRs.nil)) (f10_ret callsL (s1.srp a1.le) r1.hc)
end Go.Proofs.Ytdmnejhjlmeodaa
