/-
  BernValues, called.
-/
import Derived.Test.YtahogmegmjpndaaDoorBbD
import Derived.Test.YtahogmegmjpndaaDoorPd
namespace Go.Proofs.YtahogmegmjpndaaDoor
open Go.Ev
open Go.RowKit
theorem get17 : t0.get (K.ofNat 17) = some n17 := by kernel_rfl
theorem callsL : CallsVl t0 where
  c89 := by kernel_rfl
  c104 := by kernel_rfl
  c94 := by kernel_rfl
  c108 := by kernel_rfl
  c95 := by kernel_rfl
  c87 := by kernel_rfl
  c88 := by kernel_rfl
  c56 := by kernel_rfl
  c14 := by kernel_rfl
  c60 := by kernel_rfl
  c61 := by kernel_rfl
  c62 := by kernel_rfl
  c73 := by kernel_rfl
  c54 := by kernel_rfl
  c75 := by kernel_rfl
  c74 := by kernel_rfl
  c100 := by kernel_rfl
  c76 := by kernel_rfl
  c70 := by kernel_rfl
  c71 := by kernel_rfl
  c72 := by kernel_rfl
  c24 := by kernel_rfl
  c25 := by kernel_rfl
  c30 := by kernel_rfl
  c31 := by kernel_rfl
  c32 := by kernel_rfl
  c33 := by kernel_rfl
  c26 := by kernel_rfl
  c27 := by kernel_rfl
  c28 := by kernel_rfl
  c29 := by kernel_rfl
  c18 := by kernel_rfl
  aw := fun h P => callP_flat (g := tabG [([], .b true)]) get17 rfl rfl
theorem law_call {W : World} (hG : Glob rig.tab W) {val0 : Value} {L0 : List Int} (a0 : SlArg W val0 L0) (b0 : L0.length ≤ 9223372036854775807) (x1_0 x1_1 : Int) : Calls Tryd.prog 4 #[val0, .agg #[.int .i64 x1_0, .int .i64 x1_1]] W fun e W' => e = .returned (.bool true) ∧ Below W.heap.size W W' := by
  obtain ⟨ι0, m0, u0, r0, x0_, v0, s0, g0⟩ := (Roms.nil (Y := rig) (W := W) hG).add a0
  exact r0.call (k := (.z (.o .e))) (ef := f4) t0_ok (show f4.nv = none ∧ ∃ fn c, FnOk rig (.z (.o .e)) f4 fn c from code4) (VRs.cons v0 (VRs.cons (VR.a2 _ _) VRs.nil)) (f4_ret callsL s0 b0 r0.hc)
end Go.Proofs.YtahogmegmjpndaaDoor
