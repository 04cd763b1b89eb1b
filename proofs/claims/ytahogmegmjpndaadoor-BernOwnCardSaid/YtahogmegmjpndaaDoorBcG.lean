/-
  BernOwn, called.
-/
import Derived.Test.YtahogmegmjpndaaDoorBcD
import Derived.Test.YtahogmegmjpndaaDoorPe
namespace Go.Proofs.YtahogmegmjpndaaDoor
open Go.Ev
open Go.RowKit
theorem get17 : t0.get (K.ofNat 17) = some n17 := by kernel_rfl
theorem callsL : CallsOw t0 where
  c89 := by kernel_rfl
  c104 := by kernel_rfl
  c94 := by kernel_rfl
  c108 := by kernel_rfl
  c95 := by kernel_rfl
  c87 := by kernel_rfl
  c88 := by kernel_rfl
  c56 := by kernel_rfl
  c14 := by kernel_rfl
  c60 := by kernel_rfl
  c61 := by kernel_rfl
  c62 := by kernel_rfl
  c73 := by kernel_rfl
  c54 := by kernel_rfl
  c75 := by kernel_rfl
  c74 := by kernel_rfl
  c100 := by kernel_rfl
  c76 := by kernel_rfl
  c70 := by kernel_rfl
  c71 := by kernel_rfl
  c72 := by kernel_rfl
  c24 := by kernel_rfl
  c25 := by kernel_rfl
  c30 := by kernel_rfl
  c31 := by kernel_rfl
  c32 := by kernel_rfl
  c33 := by kernel_rfl
  c26 := by kernel_rfl
  c27 := by kernel_rfl
  c28 := by kernel_rfl
  c29 := by kernel_rfl
  c18 := by kernel_rfl
  aw := fun h P => callP_flat (g := tabG [([], .b true)]) get17 rfl rfl
  c101 := by kernel_rfl
  c78 := by kernel_rfl
  c79 := by kernel_rfl
  c65 := by kernel_rfl
  c80 := by kernel_rfl
  c102 := by kernel_rfl
  c103 := by kernel_rfl
  c113 := by kernel_rfl
  c12 := by kernel_rfl
  c39 := by kernel_rfl
  c38 := by kernel_rfl
  c35 := by kernel_rfl
  c43 := by kernel_rfl
  c46 := by kernel_rfl
theorem law_call {W : World} (hG : Glob rig.tab W) {val0 : Value} {L0 : List Int} (a0 : SlArg W val0 L0) (b0 : L0.length ≤ 9223372036854775807) {val1 : Value} {n1 : Nat} {L1 : List Int} (a1 : SlArgK 2 W val1 n1 L1) (_b1 : ∀ z ∈ L1, inR .i64 z = true) : Calls Tryd.prog 11 #[val0, val1] W fun e W' => e = .returned (.bool true) ∧ Below W.heap.size W W' := by
  obtain ⟨ι0, m0, u0, r0, x0_, v0, s0, g0⟩ := (Roms.nil (Y := rig) (W := W) hG).add a0
  obtain ⟨ι1, m1, u1, r1, x1_, v1, s1, g1⟩ := (r0).addK (by omega) a1
  exact r1.call (k := (.o (.o (.z .e)))) (ef := f11) t0_ok (show f11.nv = none ∧ ∃ fn c, FnOk rig (.o (.o (.z .e))) f11 fn c from code11) (VRs.cons (v0.mono x1_) (VRs.cons v1 VRs.nil)) (f11_ret callsL (s0.grow r0.hc g1) (s1.srp a1.le) b0 r1.hc)
end Go.Proofs.YtahogmegmjpndaaDoor
