/-
  RoundsHomes, called.
-/
import Derived.Test.YthememdeglgnpaaRhE
import Derived.Test.YthememdeglgnpaaPd
namespace Go.Proofs.Ythememdeglgnpaa
open Go.Ev
open Go.RowKit
noncomputable def fs2 : T EF := (.node (.node (.node (.node (.node (.node (.node .nil (some e63) .nil) (some e31) .nil) none .nil) none (.node .nil none (.node (.node .nil (some e87) .nil) none .nil))) none (.node (.node .nil none (.node (.node .nil (some e83) .nil) (some e51) .nil)) none (.node (.node (.node .nil (some e75) .nil) none .nil) (some e27) .nil))) none (.node (.node (.node (.node (.node .nil (some e65) .nil) (some e33) .nil) (some e17) .nil) none (.node (.node (.node .nil (some e73) .nil) (some e41) .nil) (some e25) (.node .nil (some e57) .nil))) none (.node (.node .nil (some e21) (.node .nil (some e53) .nil)) none (.node (.node (.node .nil (some e77) .nil) none .nil) (some e29) (.node .nil (some e61) .nil))))) none (.node (.node (.node (.node (.node (.node .nil (some e64) .nil) (some e32) .nil) (some e16) .nil) none (.node .nil (some e24) .nil)) (some e4) (.node (.node (.node (.node .nil (some e68) .nil) none .nil) none (.node .nil (some e52) .nil)) none (.node (.node (.node .nil (some e76) .nil) none .nil) (some e28) (.node (.node .nil (some e92) .nil) (some e60) .nil)))) none (.node (.node .nil none (.node (.node (.node .nil (some e74) .nil) none .nil) (some e26) (.node .nil (some e58) .nil))) none (.node (.node (.node (.node .nil (some e70) .nil) none .nil) (some n22) .nil) none (.node .nil (some e30) (.node .nil (some e62) .nil))))))
theorem fs2_ok : Fns rig fs2 := fns_of_each ⟨trivial, ⟨trivial, ⟨trivial, ⟨trivial, ⟨trivial, ⟨.inl code31, ⟨.inl code63, trivial, trivial⟩, trivial⟩, trivial⟩, ⟨trivial, trivial, ⟨trivial, ⟨.inl code87, trivial, trivial⟩, trivial⟩⟩⟩, ⟨trivial, ⟨trivial, trivial, ⟨.inl code51, ⟨.inl code83, trivial, trivial⟩, trivial⟩⟩, ⟨.inl code27, ⟨trivial, ⟨.inl code75, trivial, trivial⟩, trivial⟩, trivial⟩⟩⟩, ⟨trivial, ⟨trivial, ⟨.inl code17, ⟨.inl code33, ⟨.inl code65, trivial, trivial⟩, trivial⟩, trivial⟩, ⟨.inl code25, ⟨.inl code41, ⟨.inl code73, trivial, trivial⟩, trivial⟩, ⟨.inl code57, trivial, trivial⟩⟩⟩, ⟨trivial, ⟨.inl code21, trivial, ⟨.inl code53, trivial, trivial⟩⟩, ⟨.inl code29, ⟨trivial, ⟨.inl code77, trivial, trivial⟩, trivial⟩, ⟨.inl code61, trivial, trivial⟩⟩⟩⟩⟩, ⟨trivial, ⟨.inl code4, ⟨trivial, ⟨.inl code16, ⟨.inl code32, ⟨.inl code64, trivial, trivial⟩, trivial⟩, trivial⟩, ⟨.inl code24, trivial, trivial⟩⟩, ⟨trivial, ⟨trivial, ⟨trivial, ⟨.inl code68, trivial, trivial⟩, trivial⟩, ⟨.inl code52, trivial, trivial⟩⟩, ⟨.inl code28, ⟨trivial, ⟨.inl code76, trivial, trivial⟩, trivial⟩, ⟨.inl code60, ⟨.inl code92, trivial, trivial⟩, trivial⟩⟩⟩⟩, ⟨trivial, ⟨trivial, trivial, ⟨.inl code26, ⟨trivial, ⟨.inl code74, trivial, trivial⟩, trivial⟩, ⟨.inl code58, trivial, trivial⟩⟩⟩, ⟨trivial, ⟨nat22, ⟨trivial, ⟨.inl code70, trivial, trivial⟩, trivial⟩, trivial⟩, ⟨.inl code30, trivial, ⟨.inl code62, trivial, trivial⟩⟩⟩⟩⟩⟩
theorem get22 : fs2.get (K.ofNat 22) = some n22 := by kernel_rfl
theorem callsL : CallsHm fs2 where
  c57 := by kernel_rfl
  c76 := by kernel_rfl
  c83 := by kernel_rfl
  c61 := by kernel_rfl
  c68 := by kernel_rfl
  c87 := by kernel_rfl
  c51 := by kernel_rfl
  c65 := by kernel_rfl
  c70 := by kernel_rfl
  c53 := by kernel_rfl
  c73 := by kernel_rfl
  c77 := by kernel_rfl
  c17 := by kernel_rfl
  c26 := by kernel_rfl
  c64 := by kernel_rfl
  c21 := by kernel_rfl
  c28 := by kernel_rfl
  c29 := by kernel_rfl
  c58 := by kernel_rfl
  c16 := by kernel_rfl
  c52 := by kernel_rfl
  c74 := by kernel_rfl
  c75 := by kernel_rfl
  c92 := by kernel_rfl
  c24 := by kernel_rfl
  c60 := by kernel_rfl
  c62 := by kernel_rfl
  c32 := by kernel_rfl
  c33 := by kernel_rfl
  c41 := by kernel_rfl
  c63 := by kernel_rfl
  c25 := by kernel_rfl
  c27 := by kernel_rfl
  c30 := by kernel_rfl
  c31 := by kernel_rfl
  aw := fun h P => callP_flat (g := tabG [([], .b true)]) get22 rfl rfl
theorem law_call {W : World} (x0 : Int) {val1 : Value} {L1 : List Int} (a1 : SlArg W val1 L1) (b1 : L1.length ≤ 9223372036854775807) {val2 : Value} {L2 : List Int} (a2 : SlArg W val2 L2) (b2 : L2.length ≤ 9223372036854775807) : Calls Try.prog 4 #[.int .i64 x0, val1, val2] W fun e W' => e = .returned (.bool true) ∧ Below W.heap.size W W' := by
  obtain ⟨ι1, m1, u1, r1, x1_, v1, s1, g1⟩ := (Roms.nil (Y := rig) (W := W)).add a1
  obtain ⟨ι2, m2, u2, r2, x2_, v2, s2, g2⟩ := (r1).add a2
  exact r2.call (k := (.z (.o .e))) (ef := f4) fs2_ok (show f4.nv = none ∧ ∃ fn c, FnOk rig (.z (.o .e)) f4 fn c from code4) (VRs.cons (.i _ _) (VRs.cons (v1.mono x2_) (VRs.cons v2 VRs.nil))) (f4_ret callsL (s1.grow r1.hc g2) s2 b1 b2 r2.hc)
end Go.Proofs.Ythememdeglgnpaa
