/-
  SteadyRouth, called.
-/
import Derived.Test.YtlnkpocijfgikaaDoorSuD
import Derived.Test.YtlnkpocijfgikaaDoorPd
namespace Go.Proofs.YtlnkpocijfgikaaDoor
open Go.Ev
open Go.RowKit
theorem get19 : t0.get (K.ofNat 19) = some n19 := by kernel_rfl
theorem callsL : CallsRo t0 where
  c62 := by kernel_rfl
  c100 := by kernel_rfl
  c101 := by kernel_rfl
  c103 := by kernel_rfl
  c104 := by kernel_rfl
  c105 := by kernel_rfl
  c107 := by kernel_rfl
  c90 := by kernel_rfl
  c91 := by kernel_rfl
  c92 := by kernel_rfl
  c102 := by kernel_rfl
  c97 := by kernel_rfl
  c106 := by kernel_rfl
  c96 := by kernel_rfl
  c84 := by kernel_rfl
  c54 := by kernel_rfl
  c14 := by kernel_rfl
  c59 := by kernel_rfl
  c60 := by kernel_rfl
  c61 := by kernel_rfl
  c93 := by kernel_rfl
  c94 := by kernel_rfl
  c67 := by kernel_rfl
  c79 := by kernel_rfl
  c66 := by kernel_rfl
  c53 := by kernel_rfl
  c56 := by kernel_rfl
  c69 := by kernel_rfl
  c87 := by kernel_rfl
  c99 := by kernel_rfl
  c88 := by kernel_rfl
  c70 := by kernel_rfl
  c71 := by kernel_rfl
  c98 := by kernel_rfl
  c85 := by kernel_rfl
  c86 := by kernel_rfl
  c57 := by kernel_rfl
  c30 := by kernel_rfl
  c55 := by kernel_rfl
  c27 := by kernel_rfl
  c40 := by kernel_rfl
  c25 := by kernel_rfl
  c39 := by kernel_rfl
  c15 := by kernel_rfl
  c17 := by kernel_rfl
  c20 := by kernel_rfl
  c51 := by kernel_rfl
  c52 := by kernel_rfl
  c83 := by kernel_rfl
  aw := fun h P => callP_flat (g := tabG [([], .b true)]) get19 rfl rfl
theorem law_call {W : World} (hG : Glob rig.tab W) {val0 : Value} {L0 : List Int} (a0 : SlArg W val0 L0) (b0 : L0.length ≤ 9223372036854775807) : Calls Tryd.prog 9 #[val0] W fun e W' => e = .returned (.bool true) ∧ Below W.heap.size W W' := by
  obtain ⟨ι0, m0, u0, r0, x0_, v0, s0, g0⟩ := (Roms.nil (Y := rig) (W := W) hG).add a0
  exact r0.call (k := (.o (.z (.o .e)))) (ef := f9) t0_ok (show f9.nv = none ∧ ∃ fn c, FnOk rig (.o (.z (.o .e))) f9 fn c from code9) (VRs.cons v0 VRs.nil) (f9_ret callsL s0 b0 r0.hc)
end Go.Proofs.YtlnkpocijfgikaaDoor
