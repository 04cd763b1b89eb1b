/-
  ShellsOrders, called.
-/
import Derived.Test.YtneacehpoaambaaOrE
namespace Go.Proofs.Ytneacehpoaambaa
open Go.Ev
open Go.RowKit
noncomputable def fs2 : T EF := (.node (.node (.node (.node (.node .nil none (.node (.node .nil (some e79) .nil) none .nil)) none (.node (.node (.node .nil (some e71) .nil) (some e39) .nil) (some e23) .nil)) none (.node (.node .nil none (.node (.node .nil (some e83) .nil) none .nil)) none (.node (.node (.node .nil (some n75) .nil) none .nil) none .nil))) none (.node (.node (.node .nil none (.node (.node .nil (some e81) .nil) (some e49) .nil)) none .nil) none (.node (.node (.node .nil (some e37) .nil) none (.node .nil (some n53) .nil)) none (.node .nil (some n29) (.node .nil (some e61) .nil))))) none (.node (.node (.node (.node (.node .nil (some e32) .nil) (some e16) (.node (.node .nil (some e80) .nil) none .nil)) none .nil) none (.node (.node .nil none (.node .nil (some n52) .nil)) none (.node .nil none (.node (.node .nil (some e92) .nil) (some e60) .nil)))) none (.node (.node (.node .nil none (.node (.node .nil (some e82) .nil) none .nil)) none (.node .nil none (.node .nil (some e58) .nil))) (some e6) (.node (.node (.node (.node .nil (some e70) .nil) (some e38) .nil) (some e22) (.node .nil (some n54) .nil)) (some e14) (.node .nil (some e30) .nil)))))
theorem fs2_ok : Fns rig fs2 := fns_of_each ⟨trivial, ⟨trivial, ⟨trivial, ⟨trivial, ⟨trivial, trivial, ⟨trivial, ⟨.inl code79, trivial, trivial⟩, trivial⟩⟩, ⟨.inl code23, ⟨.inl code39, ⟨.inl code71, trivial, trivial⟩, trivial⟩, trivial⟩⟩, ⟨trivial, ⟨trivial, trivial, ⟨trivial, ⟨.inl code83, trivial, trivial⟩, trivial⟩⟩, ⟨trivial, ⟨trivial, ⟨nat75, trivial, trivial⟩, trivial⟩, trivial⟩⟩⟩, ⟨trivial, ⟨trivial, ⟨trivial, trivial, ⟨.inl code49, ⟨.inl code81, trivial, trivial⟩, trivial⟩⟩, trivial⟩, ⟨trivial, ⟨trivial, ⟨.inl code37, trivial, trivial⟩, ⟨nat53, trivial, trivial⟩⟩, ⟨nat29, trivial, ⟨.inl code61, trivial, trivial⟩⟩⟩⟩⟩, ⟨trivial, ⟨trivial, ⟨trivial, ⟨.inl code16, ⟨.inl code32, trivial, trivial⟩, ⟨trivial, ⟨.inl code80, trivial, trivial⟩, trivial⟩⟩, trivial⟩, ⟨trivial, ⟨trivial, trivial, ⟨nat52, trivial, trivial⟩⟩, ⟨trivial, trivial, ⟨.inl code60, ⟨.inl code92, trivial, trivial⟩, trivial⟩⟩⟩⟩, ⟨.inl code6, ⟨trivial, ⟨trivial, trivial, ⟨trivial, ⟨.inl code82, trivial, trivial⟩, trivial⟩⟩, ⟨trivial, trivial, ⟨.inl code58, trivial, trivial⟩⟩⟩, ⟨.inl code14, ⟨.inl code22, ⟨.inl code38, ⟨.inl code70, trivial, trivial⟩, trivial⟩, ⟨nat54, trivial, trivial⟩⟩, ⟨.inl code30, trivial, trivial⟩⟩⟩⟩⟩
theorem popG_at {m : Nat} (hm : m < 64) : popG [.i .i64 (m : Int)] = some (.i .i64 (pop6 m : Int)) := by
  show (bif Nat.blt m 64 then some (V.i .i64 (.ofNat (pop6 m))) else none) = _
  rw [show Nat.blt m 64 = true from Nat.ble_eq_true_of_le hm]; rfl
theorem get52 : fs2.get (K.ofNat 52) = some n52 := by kernel_rfl
theorem get75 : fs2.get (K.ofNat 75) = some n75 := by kernel_rfl
theorem get53 : fs2.get (K.ofNat 53) = some n53 := by kernel_rfl
theorem get54 : fs2.get (K.ofNat 54) = some n54 := by kernel_rfl
theorem get29 : fs2.get (K.ofNat 29) = some n29 := by kernel_rfl
theorem get32 : fs2.get (K.ofNat 32) = some izF := by kernel_rfl
theorem callsL : Calls6 fs2 where
  p54 := fun a b h P => callP_flat (g := partG) get54 rfl rfl
  pt := ⟨_, get54, rfl⟩
  c82 := by kernel_rfl
  c92 := by kernel_rfl
  c83 := by kernel_rfl
  c61 := by kernel_rfl
  c80 := by kernel_rfl
  c79 := by kernel_rfl
  p75 := fun m hm h P => callP_flat (g := popG) get75 rfl (popG_at hm)
  c16 := by kernel_rfl
  c58 := by kernel_rfl
  c60 := by kernel_rfl
  c81 := by kernel_rfl
  p53 := fun a b h P => callP_flat (g := partG) get53 rfl rfl
  p52 := fun m hm h P => callP_flat (g := popG) get52 rfl (popG_at hm)
  aw := fun h P => callP_flat (g := tabG [([], .b true)]) get29 rfl rfl
  c32 := fun h v u L M P h1 h2 h3 h4 => callP_ints get32 h1 h2 h3 h4
  c14 := by kernel_rfl
  c22 := by kernel_rfl
  c23 := by kernel_rfl
  c30 := by kernel_rfl
  c37 := by kernel_rfl
  c38 := by kernel_rfl
  c39 := by kernel_rfl
  c49 := by kernel_rfl
  c70 := by kernel_rfl
  c71 := by kernel_rfl
theorem law_call {W : World} (x0 : Int) {val1 : Value} {L1 : List Int} (a1 : SlArg W val1 L1) {val2 : Value} {L2 : List Int} (a2 : SlArg W val2 L2) : Calls Try.prog 6 #[.int .i64 x0, val1, val2] W fun e W' => e = .returned (.bool true) ∧ Below W.heap.size W W' := by
  obtain ⟨ι1, m1, u1, r1, x1_, v1, s1, g1⟩ := (Roms.nil (Y := rig) (W := W)).add a1
  obtain ⟨ι2, m2, u2, r2, x2_, v2, s2, g2⟩ := (r1).add a2
  exact r2.call (k := (.z (.z .e))) (ef := f6) fs2_ok (show f6.nv = none ∧ ∃ fn c, FnOk rig (.z (.z .e)) f6 fn c from code6) (VRs.cons (.i _ _) (VRs.cons (v1.mono x2_) (VRs.cons v2 VRs.nil))) (f6_ret callsL (s1.grow r1.hc g2) s2 r2.hc)
end Go.Proofs.Ytneacehpoaambaa
