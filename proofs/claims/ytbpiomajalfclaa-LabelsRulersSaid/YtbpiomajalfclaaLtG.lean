/-
  LabelsRulers, called.
-/
import Derived.Test.YtbpiomajalfclaaLtE
import Derived.Test.YtbpiomajalfclaaPf
import Derived.Test.YtbpiomajalfclaaPd
namespace Go.Proofs.Ytbpiomajalfclaa
open Go.Ev
open Go.RowKit
noncomputable def fs3 : T EF := (.node (.node (.node (.node (.node .nil (some e15) .nil) none (.node .nil (some n23) .nil)) none (.node .nil none (.node (.node (.node .nil (some e75) .nil) (some e43) .nil) none .nil))) none (.node (.node .nil (some e9) .nil) none (.node (.node .nil none (.node (.node (.node .nil (some e149) .nil) none .nil) none .nil)) none (.node (.node (.node .nil (some e77) .nil) (some e45) .nil) none .nil)))) none (.node (.node .nil none (.node (.node (.node (.node (.node .nil (some e132) .nil) none .nil) none (.node .nil (some e100) .nil)) none .nil) none (.node (.node (.node .nil (some e76) .nil) (some e44) .nil) none .nil))) none (.node (.node .nil none (.node (.node .nil (some e42) .nil) none .nil)) none (.node .nil none (.node (.node (.node .nil (some e78) .nil) none (.node .nil (some e110) .nil)) (some e30) .nil)))))
theorem fs3_ok : Fns rig fs3 := fns_of_each ⟨trivial, ⟨trivial, ⟨trivial, ⟨trivial, ⟨.inl code15, trivial, trivial⟩, ⟨nat23, trivial, trivial⟩⟩, ⟨trivial, trivial, ⟨trivial, ⟨.inl code43, ⟨.inl code75, trivial, trivial⟩, trivial⟩, trivial⟩⟩⟩, ⟨trivial, ⟨.inl code9, trivial, trivial⟩, ⟨trivial, ⟨trivial, trivial, ⟨trivial, ⟨trivial, ⟨.inl code149, trivial, trivial⟩, trivial⟩, trivial⟩⟩, ⟨trivial, ⟨.inl code45, ⟨.inl code77, trivial, trivial⟩, trivial⟩, trivial⟩⟩⟩⟩, ⟨trivial, ⟨trivial, trivial, ⟨trivial, ⟨trivial, ⟨trivial, ⟨trivial, ⟨.inl code132, trivial, trivial⟩, trivial⟩, ⟨.inl code100, trivial, trivial⟩⟩, trivial⟩, ⟨trivial, ⟨.inl code44, ⟨.inl code76, trivial, trivial⟩, trivial⟩, trivial⟩⟩⟩, ⟨trivial, ⟨trivial, trivial, ⟨trivial, ⟨.inl code42, trivial, trivial⟩, trivial⟩⟩, ⟨trivial, trivial, ⟨.inl code30, ⟨trivial, ⟨.inl code78, trivial, trivial⟩, ⟨.inl code110, trivial, trivial⟩⟩, trivial⟩⟩⟩⟩⟩
theorem get23 : fs3.get (K.ofNat 23) = some n23 := by kernel_rfl
theorem callsL : CallsRs fs3 where
  c78 := by kernel_rfl
  c149 := by kernel_rfl
  c132 := by kernel_rfl
  c77 := by kernel_rfl
  c110 := by kernel_rfl
  c100 := by kernel_rfl
  c75 := by kernel_rfl
  c76 := by kernel_rfl
  c44 := by kernel_rfl
  c45 := by kernel_rfl
  c15 := by kernel_rfl
  c30 := by kernel_rfl
  c42 := by kernel_rfl
  c43 := by kernel_rfl
  aw := fun h P => callP_flat (g := tabG [([], .b true)]) get23 rfl rfl
theorem law_call {W : World} {val0 : Value} {L0 : List Int} (a0 : SlArg W val0 L0) (x1 : Int) : Calls Try.prog 9 #[val0, .int .i64 x1] W fun e W' => e = .returned (.bool true) ∧ Below W.heap.size W W' := by
  obtain ⟨ι0, m0, u0, r0, x0_, v0, s0, g0⟩ := (Roms.nil (Y := rig) (W := W)).add a0
  exact r0.call (k := (.o (.z (.o .e)))) (ef := f9) fs3_ok (show f9.nv = none ∧ ∃ fn c, FnOk rig (.o (.z (.o .e))) f9 fn c from code9) (VRs.cons v0 (VRs.cons (.i _ _) VRs.nil)) (f9_ret callsL s0 r0.hc)
end Go.Proofs.Ytbpiomajalfclaa
