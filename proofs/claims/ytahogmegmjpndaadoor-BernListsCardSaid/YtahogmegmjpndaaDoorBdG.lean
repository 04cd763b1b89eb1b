/-
  BernLists, called.
-/
import Derived.Test.YtahogmegmjpndaaDoorBdD
import Derived.Test.YtahogmegmjpndaaDoorPe
namespace Go.Proofs.YtahogmegmjpndaaDoor
open Go.Ev
open Go.RowKit
theorem get17 : t0.get (K.ofNat 17) = some n17 := by kernel_rfl
theorem callsL : CallsLi t0 where
  c89 := by kernel_rfl
  c104 := by kernel_rfl
  c94 := by kernel_rfl
  c108 := by kernel_rfl
  c95 := by kernel_rfl
  c87 := by kernel_rfl
  c88 := by kernel_rfl
  c56 := by kernel_rfl
  c14 := by kernel_rfl
  c60 := by kernel_rfl
  c61 := by kernel_rfl
  c62 := by kernel_rfl
  c73 := by kernel_rfl
  c54 := by kernel_rfl
  c75 := by kernel_rfl
  c74 := by kernel_rfl
  c100 := by kernel_rfl
  c76 := by kernel_rfl
  c70 := by kernel_rfl
  c71 := by kernel_rfl
  c72 := by kernel_rfl
  c24 := by kernel_rfl
  c25 := by kernel_rfl
  c30 := by kernel_rfl
  c31 := by kernel_rfl
  c32 := by kernel_rfl
  c33 := by kernel_rfl
  c26 := by kernel_rfl
  c27 := by kernel_rfl
  c28 := by kernel_rfl
  c29 := by kernel_rfl
  c18 := by kernel_rfl
  aw := fun h P => callP_flat (g := tabG [([], .b true)]) get17 rfl rfl
  c101 := by kernel_rfl
  c78 := by kernel_rfl
  c79 := by kernel_rfl
  c65 := by kernel_rfl
  c80 := by kernel_rfl
  c102 := by kernel_rfl
  c103 := by kernel_rfl
  c113 := by kernel_rfl
  c12 := by kernel_rfl
  c39 := by kernel_rfl
  c38 := by kernel_rfl
  c35 := by kernel_rfl
  c43 := by kernel_rfl
  c46 := by kernel_rfl
  c81 := by kernel_rfl
  c41 := by kernel_rfl
  c40 := by kernel_rfl
  c42 := by kernel_rfl
  c44 := by kernel_rfl
  c45 := by kernel_rfl
  c82 := by kernel_rfl
  c83 := by kernel_rfl
theorem law_call {W : World} (hG : Glob rig.tab W) {val0 : Value} {n0 : Nat} {L0 : List Int} (a0 : SlArgK 2 W val0 n0 L0) (_b0 : ∀ z ∈ L0, inR .i64 z = true) (x1_0 x1_1 : Int) : Calls Tryd.prog 6 #[val0, .agg #[.int .i64 x1_0, .int .i64 x1_1]] W fun e W' => e = .returned (.bool true) ∧ Below W.heap.size W W' := by
  obtain ⟨ι0, m0, u0, r0, x0_, v0, s0, g0⟩ := (Roms.nil (Y := rig) (W := W) hG).addK (by omega) a0
  exact r0.call (k := (.z (.z .e))) (ef := f6) t0_ok (show f6.nv = none ∧ ∃ fn c, FnOk rig (.z (.z .e)) f6 fn c from code6) (VRs.cons v0 (VRs.cons (VR.a2 _ _) VRs.nil)) (f6_ret callsL (s0.srp a0.le) r0.hc)
end Go.Proofs.YtahogmegmjpndaaDoor
