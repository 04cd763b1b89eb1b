/-
  SteadyTables, called.
-/
import Derived.Test.YtlnkpocijfgikaaDoorSzD
import Derived.Test.YtlnkpocijfgikaaDoorPd
namespace Go.Proofs.YtlnkpocijfgikaaDoor
open Go.Ev
open Go.RowKit
theorem get19 : t0.get (K.ofNat 19) = some n19 := by kernel_rfl
theorem callsL : CallsTb t0 where
  c62 := by kernel_rfl
  c100 := by kernel_rfl
  c101 := by kernel_rfl
  c103 := by kernel_rfl
  c104 := by kernel_rfl
  c105 := by kernel_rfl
  c107 := by kernel_rfl
  c90 := by kernel_rfl
  c91 := by kernel_rfl
  c92 := by kernel_rfl
  c102 := by kernel_rfl
  c97 := by kernel_rfl
  c106 := by kernel_rfl
  c96 := by kernel_rfl
  c84 := by kernel_rfl
  c54 := by kernel_rfl
  c14 := by kernel_rfl
  c59 := by kernel_rfl
  c60 := by kernel_rfl
  c61 := by kernel_rfl
  c93 := by kernel_rfl
  c63 := by kernel_rfl
  c52 := by kernel_rfl
  c72 := by kernel_rfl
  c73 := by kernel_rfl
  c74 := by kernel_rfl
  c83 := by kernel_rfl
  c20 := by kernel_rfl
  c21 := by kernel_rfl
  c25 := by kernel_rfl
  c33 := by kernel_rfl
  c34 := by kernel_rfl
  c35 := by kernel_rfl
  c75 := by kernel_rfl
  aw := fun h P => callP_flat (g := tabG [([], .b true)]) get19 rfl rfl
theorem law_call {W : World} (hG : Glob rig.tab W) {val0 : Value} {L0 : List Int} (a0 : SlArg W val0 L0) (b0 : L0.length ≤ 9223372036854775807) : Calls Tryd.prog 5 #[val0] W fun e W' => e = .returned (.bool true) ∧ Below W.heap.size W W' := by
  obtain ⟨ι0, m0, u0, r0, x0_, v0, s0, g0⟩ := (Roms.nil (Y := rig) (W := W) hG).add a0
  exact r0.call (k := (.o (.z .e))) (ef := f5) t0_ok (show f5.nv = none ∧ ∃ fn c, FnOk rig (.o (.z .e)) f5 fn c from code5) (VRs.cons v0 VRs.nil) (f5_ret callsL s0 b0 r0.hc)
end Go.Proofs.YtlnkpocijfgikaaDoor
