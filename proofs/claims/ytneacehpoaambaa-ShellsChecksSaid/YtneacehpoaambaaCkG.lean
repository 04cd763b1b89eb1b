/-
  ShellsChecks, called.
-/
import Derived.Test.YtneacehpoaambaaCkE
namespace Go.Proofs.Ytneacehpoaambaa
open Go.Ev
open Go.RowKit
noncomputable def fs2 : T EF := (.node (.node (.node (.node (.node (.node (.node .nil (some e63) .nil) none .nil) (some e15) (.node (.node .nil (some e79) .nil) none .nil)) none (.node .nil (some e23) (.node (.node .nil (some e87) .nil) (some e55) .nil))) (some e3) (.node (.node (.node (.node .nil (some e67) .nil) none .nil) (some e19) (.node (.node .nil (some e83) .nil) none .nil)) none (.node (.node (.node .nil (some n75) .nil) none .nil) (some e27) (.node (.node .nil (some e91) .nil) (some e59) .nil)))) none (.node (.node (.node (.node (.node .nil (some e65) .nil) none .nil) (some e17) (.node (.node .nil (some e81) .nil) none .nil)) none (.node .nil (some e25) (.node (.node .nil (some e89) .nil) (some e57) .nil))) none (.node (.node .nil (some e21) (.node (.node .nil (some e85) .nil) (some n53) .nil)) none (.node (.node (.node .nil (some e77) .nil) none .nil) (some n29) (.node (.node .nil (some e93) .nil) (some e61) .nil))))) none (.node (.node (.node (.node (.node (.node .nil (some e64) .nil) none .nil) (some e16) (.node (.node .nil (some e80) .nil) none .nil)) none (.node .nil (some e24) (.node (.node .nil (some e88) .nil) (some e56) .nil))) none (.node (.node (.node (.node .nil (some e68) .nil) none .nil) (some e20) (.node (.node .nil (some e84) .nil) none .nil)) none (.node .nil (some e28) (.node (.node .nil (some e92) .nil) (some e60) .nil)))) none (.node (.node (.node (.node (.node .nil (some e66) .nil) none .nil) (some e18) (.node (.node .nil (some e82) .nil) none .nil)) none (.node .nil (some e26) (.node (.node .nil (some e90) .nil) (some e58) .nil))) none (.node (.node .nil (some e22) (.node (.node .nil (some e86) .nil) (some n54) .nil)) (some e14) (.node (.node (.node .nil (some e78) .nil) none .nil) none (.node (.node .nil (some e94) .nil) (some e62) .nil))))))
theorem fs2_ok : Fns rig fs2 := fns_of_each ⟨trivial, ⟨trivial, ⟨.inl code3, ⟨trivial, ⟨.inl code15, ⟨trivial, ⟨.inl code63, trivial, trivial⟩, trivial⟩, ⟨trivial, ⟨.inl code79, trivial, trivial⟩, trivial⟩⟩, ⟨.inl code23, trivial, ⟨.inl code55, ⟨.inl code87, trivial, trivial⟩, trivial⟩⟩⟩, ⟨trivial, ⟨.inl code19, ⟨trivial, ⟨.inl code67, trivial, trivial⟩, trivial⟩, ⟨trivial, ⟨.inl code83, trivial, trivial⟩, trivial⟩⟩, ⟨.inl code27, ⟨trivial, ⟨nat75, trivial, trivial⟩, trivial⟩, ⟨.inl code59, ⟨.inl code91, trivial, trivial⟩, trivial⟩⟩⟩⟩, ⟨trivial, ⟨trivial, ⟨.inl code17, ⟨trivial, ⟨.inl code65, trivial, trivial⟩, trivial⟩, ⟨trivial, ⟨.inl code81, trivial, trivial⟩, trivial⟩⟩, ⟨.inl code25, trivial, ⟨.inl code57, ⟨.inl code89, trivial, trivial⟩, trivial⟩⟩⟩, ⟨trivial, ⟨.inl code21, trivial, ⟨nat53, ⟨.inl code85, trivial, trivial⟩, trivial⟩⟩, ⟨nat29, ⟨trivial, ⟨.inl code77, trivial, trivial⟩, trivial⟩, ⟨.inl code61, ⟨.inl code93, trivial, trivial⟩, trivial⟩⟩⟩⟩⟩, ⟨trivial, ⟨trivial, ⟨trivial, ⟨.inl code16, ⟨trivial, ⟨.inl code64, trivial, trivial⟩, trivial⟩, ⟨trivial, ⟨.inl code80, trivial, trivial⟩, trivial⟩⟩, ⟨.inl code24, trivial, ⟨.inl code56, ⟨.inl code88, trivial, trivial⟩, trivial⟩⟩⟩, ⟨trivial, ⟨.inl code20, ⟨trivial, ⟨.inl code68, trivial, trivial⟩, trivial⟩, ⟨trivial, ⟨.inl code84, trivial, trivial⟩, trivial⟩⟩, ⟨.inl code28, trivial, ⟨.inl code60, ⟨.inl code92, trivial, trivial⟩, trivial⟩⟩⟩⟩, ⟨trivial, ⟨trivial, ⟨.inl code18, ⟨trivial, ⟨.inl code66, trivial, trivial⟩, trivial⟩, ⟨trivial, ⟨.inl code82, trivial, trivial⟩, trivial⟩⟩, ⟨.inl code26, trivial, ⟨.inl code58, ⟨.inl code90, trivial, trivial⟩, trivial⟩⟩⟩, ⟨.inl code14, ⟨.inl code22, trivial, ⟨nat54, ⟨.inl code86, trivial, trivial⟩, trivial⟩⟩, ⟨trivial, ⟨trivial, ⟨.inl code78, trivial, trivial⟩, trivial⟩, ⟨.inl code62, ⟨.inl code94, trivial, trivial⟩, trivial⟩⟩⟩⟩⟩⟩
theorem popG_at {m : Nat} (hm : m < 64) : popG [.i .i64 (m : Int)] = some (.i .i64 (pop6 m : Int)) := by
  show (bif Nat.blt m 64 then some (V.i .i64 (.ofNat (pop6 m))) else none) = _
  rw [show Nat.blt m 64 = true from Nat.ble_eq_true_of_le hm]; rfl
theorem get75 : fs2.get (K.ofNat 75) = some n75 := by kernel_rfl
theorem get53 : fs2.get (K.ofNat 53) = some n53 := by kernel_rfl
theorem get54 : fs2.get (K.ofNat 54) = some n54 := by kernel_rfl
theorem get29 : fs2.get (K.ofNat 29) = some n29 := by kernel_rfl
theorem callsL : Calls3 fs2 where
  p54 := fun a b h P => callP_flat (g := partG) get54 rfl rfl
  pt := ⟨_, get54, rfl⟩
  c55 := by kernel_rfl
  c78 := by kernel_rfl
  c82 := by kernel_rfl
  c85 := by kernel_rfl
  c86 := by kernel_rfl
  c87 := by kernel_rfl
  c88 := by kernel_rfl
  c91 := by kernel_rfl
  c92 := by kernel_rfl
  p75 := fun m hm h P => callP_flat (g := popG) get75 rfl (popG_at hm)
  c57 := by kernel_rfl
  c62 := by kernel_rfl
  c64 := by kernel_rfl
  c84 := by kernel_rfl
  c89 := by kernel_rfl
  c93 := by kernel_rfl
  c94 := by kernel_rfl
  c16 := by kernel_rfl
  c83 := by kernel_rfl
  c61 := by kernel_rfl
  c80 := by kernel_rfl
  c79 := by kernel_rfl
  c58 := by kernel_rfl
  c60 := by kernel_rfl
  c81 := by kernel_rfl
  p53 := fun a b h P => callP_flat (g := partG) get53 rfl rfl
  aw := fun h P => callP_flat (g := tabG [([], .b true)]) get29 rfl rfl
  c14 := by kernel_rfl
  c15 := by kernel_rfl
  c17 := by kernel_rfl
  c18 := by kernel_rfl
  c19 := by kernel_rfl
  c20 := by kernel_rfl
  c21 := by kernel_rfl
  c22 := by kernel_rfl
  c23 := by kernel_rfl
  c24 := by kernel_rfl
  c25 := by kernel_rfl
  c26 := by kernel_rfl
  c27 := by kernel_rfl
  c28 := by kernel_rfl
  c56 := by kernel_rfl
  c59 := by kernel_rfl
  c63 := by kernel_rfl
  c65 := by kernel_rfl
  c66 := by kernel_rfl
  c67 := by kernel_rfl
  c68 := by kernel_rfl
  c77 := by kernel_rfl
  c90 := by kernel_rfl
theorem law_call {W : World} (x0 : Int) {val1 : Value} {L1 : List Int} (a1 : SlArg W val1 L1) : Calls Try.prog 3 #[.int .i64 x0, val1] W fun e W' => e = .returned (.bool true) ∧ Below W.heap.size W W' := by
  obtain ⟨ι1, m1, u1, r1, x1_, v1, s1, g1⟩ := (Roms.nil (Y := rig) (W := W)).add a1
  exact r1.call (k := (.o (.o .e))) (ef := f3) fs2_ok (show f3.nv = none ∧ ∃ fn c, FnOk rig (.o (.o .e)) f3 fn c from code3) (VRs.cons (.i _ _) (VRs.cons v1 VRs.nil)) (f3_ret callsL s1 r1.hc)
end Go.Proofs.Ytneacehpoaambaa
