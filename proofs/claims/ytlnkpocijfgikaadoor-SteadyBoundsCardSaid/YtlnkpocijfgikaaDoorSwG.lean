/-
  SteadyBounds, called.
-/
import Derived.Test.YtlnkpocijfgikaaDoorSwD
import Derived.Test.YtlnkpocijfgikaaDoorPd
namespace Go.Proofs.YtlnkpocijfgikaaDoor
open Go.Ev
open Go.RowKit
theorem get19 : t0.get (K.ofNat 19) = some n19 := by kernel_rfl
theorem callsL : CallsB t0 where
  c97 := by kernel_rfl
  c106 := by kernel_rfl
  c96 := by kernel_rfl
  c84 := by kernel_rfl
  c94 := by kernel_rfl
  c67 := by kernel_rfl
  c79 := by kernel_rfl
  c54 := by kernel_rfl
  c14 := by kernel_rfl
  c66 := by kernel_rfl
  c53 := by kernel_rfl
  c56 := by kernel_rfl
  c69 := by kernel_rfl
  c87 := by kernel_rfl
  c99 := by kernel_rfl
  c88 := by kernel_rfl
  c70 := by kernel_rfl
  c71 := by kernel_rfl
  c98 := by kernel_rfl
  c85 := by kernel_rfl
  c86 := by kernel_rfl
  c57 := by kernel_rfl
  c30 := by kernel_rfl
  c55 := by kernel_rfl
  c27 := by kernel_rfl
  c95 := by kernel_rfl
  c80 := by kernel_rfl
  c81 := by kernel_rfl
  c82 := by kernel_rfl
  c46 := by kernel_rfl
  c12 := by kernel_rfl
  c25 := by kernel_rfl
  c31 := by kernel_rfl
  c39 := by kernel_rfl
  c40 := by kernel_rfl
  c42 := by kernel_rfl
  c43 := by kernel_rfl
  c44 := by kernel_rfl
  c45 := by kernel_rfl
  c47 := by kernel_rfl
  c48 := by kernel_rfl
  c49 := by kernel_rfl
  c50 := by kernel_rfl
  aw := fun h P => callP_flat (g := tabG [([], .b true)]) get19 rfl rfl
theorem law_call {W : World} (hG : Glob rig.tab W) {val0 : Value} {L0 : List Int} (a0 : SlArg W val0 L0) (b0 : L0.length ≤ 9223372036854775807) {val1 : Value} {L1 : List Int} (a1 : SlArg W val1 L1) (b1 : L1.length ≤ 9223372036854775807) : Calls Tryd.prog 8 #[val0, val1] W fun e W' => e = .returned (.bool true) ∧ Below W.heap.size W W' := by
  obtain ⟨ι0, m0, u0, r0, x0_, v0, s0, g0⟩ := (Roms.nil (Y := rig) (W := W) hG).add a0
  obtain ⟨ι1, m1, u1, r1, x1_, v1, s1, g1⟩ := (r0).add a1
  exact r1.call (k := (.z (.o (.o .e)))) (ef := f8) t0_ok (show f8.nv = none ∧ ∃ fn c, FnOk rig (.z (.o (.o .e))) f8 fn c from code8) (VRs.cons (v0.mono x1_) (VRs.cons v1 VRs.nil)) (f8_ret callsL (s0.grow r0.hc g1) s1 b0 b1 r1.hc)
end Go.Proofs.YtlnkpocijfgikaaDoor
