/-
  OrdersDraws, called.
-/
import Derived.Test.YtdmnejhjlmeodaaOwD
import Derived.Test.YtdmnejhjlmeodaaPe
namespace Go.Proofs.Ytdmnejhjlmeodaa
open Go.Ev
open Go.RowKit
theorem get22 : t5.get (K.ofNat 22) = some n22 := by kernel_rfl
theorem callsL : CallsDr t5 where
  n96 := fun n x h P => E96 (fs := t5) (ef := n96) (by kernel_rfl) rfl (n, x) trivial h P
  n77 := fun x h P => E77 (fs := t5) (ef := n77) (by kernel_rfl) rfl x trivial h P
  n78 := fun x h P => E78 (fs := t5) (ef := n78) (by kernel_rfl) rfl x trivial h P
  n56 := fun x h P => E56 (fs := t5) (ef := n56) (by kernel_rfl) rfl x trivial h P
  n70 := fun L h P p1 => E70 (fs := t5) (ef := n70) (by kernel_rfl) rfl L p1 h P
  n81 := fun L M h P p1 p2 => E81 (fs := t5) (ef := n81) (by kernel_rfl) rfl (L, M) ⟨p1, p2⟩ h P
  n85 := fun L x h P p1 => E85 (fs := t5) (ef := n85) (by kernel_rfl) rfl (L, x) p1 h P
  c84 := by kernel_rfl
  c101 := by kernel_rfl
  c69 := by kernel_rfl
  c71 := by kernel_rfl
  n87 := fun L h P p1 => E87 (fs := t5) (ef := n87) (by kernel_rfl) rfl L p1 h P
  n92 := fun L h P p1 => E92 (fs := t5) (ef := n92) (by kernel_rfl) rfl L p1 h P
  n91 := fun L M h P p1 p2 => E91 (fs := t5) (ef := n91) (by kernel_rfl) rfl (L, M) ⟨p1, p2⟩ h P
  n49 := fun L n h P p1 p2 => E49 (fs := t5) (ef := n49) (by kernel_rfl) rfl (L, n) ⟨p1, p2⟩ h P
  n57 := fun L x h P p1 p2 => E57 (fs := t5) (ef := n57) (by kernel_rfl) rfl (L, x) ⟨p1, p2⟩ h P
  n55 := fun L x y h P p1 p2 p3 => E55 (fs := t5) (ef := n55) (by kernel_rfl) rfl (L, (x, y)) ⟨p1, p2, p3⟩ h P
  n76 := fun L h P p1 => E76 (fs := t5) (ef := n76) (by kernel_rfl) rfl L p1 h P
  n80 := fun a b h P => E80 (fs := t5) (ef := n80) (by kernel_rfl) rfl (a, b) trivial h P
  c75 := by kernel_rfl
  c47 := by kernel_rfl
  c48 := by kernel_rfl
  c58 := by kernel_rfl
  n60 := fun L h P p1 => E60 (fs := t5) (ef := n60) (by kernel_rfl) rfl L p1 h P
  c105 := by kernel_rfl
  c110 := by kernel_rfl
  c128 := by kernel_rfl
  c120 := by kernel_rfl
  c107 := by kernel_rfl
  c122 := by kernel_rfl
  c109 := by kernel_rfl
  c104 := by kernel_rfl
  c93 := by kernel_rfl
  c66 := by kernel_rfl
  c64 := by kernel_rfl
  c90 := by kernel_rfl
  c94 := by kernel_rfl
  c50 := by kernel_rfl
  c82 := by kernel_rfl
  c83 := by kernel_rfl
  c100 := by kernel_rfl
  c68 := by kernel_rfl
  c40 := by kernel_rfl
  c52 := by kernel_rfl
  c20 := by kernel_rfl
  c53 := by kernel_rfl
  c21 := by kernel_rfl
  c11 := by kernel_rfl
  c33 := by kernel_rfl
  c25 := by kernel_rfl
  c15 := by kernel_rfl
  c14 := by kernel_rfl
  c34 := by kernel_rfl
  c35 := by kernel_rfl
  c38 := by kernel_rfl
  c67 := by kernel_rfl
  c36 := by kernel_rfl
  c37 := by kernel_rfl
  c39 := by kernel_rfl
  aw := fun h P => callP_flat (g := tabG [([], .b true)]) get22 rfl rfl
theorem law_call {W : World} (x0 : Int) {val1 : Value} {n1 : Nat} {L1 : List Int} (a1 : SlArgK 2 W val1 n1 L1) (_b1 : ∀ z ∈ L1, inR .i64 z = true) {val2_0 : Value} {L2_0 : List Int} (a2_0 : SlArg W val2_0 L2_0) (b2_0 : L2_0.length ≤ 9223372036854775807) {val2_1 : Value} {L2_1 : List Int} (a2_1 : SlArg W val2_1 L2_1) (b2_1 : L2_1.length ≤ 9223372036854775807) : Calls Try.prog 6 #[.int .i64 x0, val1, .agg #[val2_0, val2_1]] W fun e W' => e = .returned (.bool true) ∧ Below W.heap.size W W' := by
  obtain ⟨ι1, m1, u1, r1, x1_, v1, s1, g1⟩ := (Roms.nil (Y := rig) (W := W)).addK (by omega) a1
  obtain ⟨ι2_0, m2_0, u2_0, r2_0, x2_0_, v2_0, s2_0, g2_0⟩ := (r1).add a2_0
  obtain ⟨ι2_1, m2_1, u2_1, r2_1, x2_1_, v2_1, s2_1, g2_1⟩ := (r2_0).add a2_1
  exact r2_1.call (k := (.z (.z .e))) (ef := f6) t5_ok (show f6.nv = none ∧ ∃ fn c, FnOk rig (.z (.z .e)) f6 fn c from code6) (VRs.cons (.i _ _) (VRs.cons ((v1.mono x2_0_).mono x2_1_) (VRs.cons (VR.s2 (v2_0.mono x2_1_) v2_1 s2_0.oneT s2_1.oneT) VRs.nil))) (f6_ret callsL (((s1.srp a1.le).grow r1.hc g2_0).grow r2_0.hc g2_1) (s2_0.grow r2_0.hc g2_1) s2_1 b2_0 b2_1 r2_1.hc)
end Go.Proofs.Ytdmnejhjlmeodaa
