/-
  RoundsRings, called.
-/
import Derived.Test.YthememdeglgnpaaRgE
import Derived.Test.YthememdeglgnpaaPd
namespace Go.Proofs.Ythememdeglgnpaa
open Go.Ev
open Go.RowKit
noncomputable def fs2 : T EF := (.node (.node (.node (.node (.node (.node (.node .nil (some e63) .nil) none .nil) none (.node .nil none (.node .nil (some e111) .nil))) none (.node (.node .nil none (.node .nil (some e103) .nil)) none (.node (.node .nil (some e87) .nil) none (.node .nil (some e119) .nil)))) none (.node (.node (.node .nil none (.node .nil (some e99) .nil)) none (.node (.node .nil (some e83) .nil) (some e51) (.node .nil (some e115) .nil))) none (.node (.node .nil none (.node .nil (some e107) .nil)) none .nil))) none (.node (.node (.node (.node (.node .nil (some e65) .nil) (some e33) .nil) none (.node .nil none (.node .nil (some e113) .nil))) none (.node (.node .nil (some e41) (.node .nil (some e105) .nil)) (some e25) (.node .nil (some e57) .nil))) none (.node (.node (.node (.node .nil (some e69) .nil) (some e37) .nil) none (.node (.node .nil (some e85) .nil) none (.node .nil (some e117) .nil))) (some e13) (.node (.node .nil (some e45) (.node .nil (some e109) .nil)) none (.node .nil (some e61) .nil))))) none (.node (.node (.node (.node (.node (.node .nil (some e64) .nil) (some e32) .nil) none (.node .nil (some e48) (.node .nil (some e112) .nil))) (some e8) (.node (.node .nil none (.node .nil (some e104) .nil)) none (.node .nil none (.node .nil (some e120) .nil)))) none (.node (.node (.node (.node .nil (some e68) .nil) none .nil) none (.node .nil none (.node .nil (some e116) .nil))) none (.node (.node (.node .nil (some e76) .nil) (some e44) (.node .nil (some e108) .nil)) (some e28) (.node (.node .nil (some e92) .nil) none .nil)))) none (.node (.node (.node (.node .nil none (.node .nil (some e98) .nil)) none (.node .nil none (.node .nil (some e114) .nil))) none (.node (.node (.node .nil (some e74) .nil) none (.node .nil (some e106) .nil)) none (.node .nil (some e58) .nil))) none (.node (.node (.node (.node .nil (some e70) .nil) none .nil) (some n22) (.node (.node .nil (some e86) .nil) none (.node .nil (some e118) .nil))) (some e14) (.node (.node .nil (some e46) (.node .nil (some e110) .nil)) none .nil)))))
theorem fs2_ok : Fns rig fs2 := fns_of_each ⟨trivial, ⟨trivial, ⟨trivial, ⟨trivial, ⟨trivial, ⟨trivial, ⟨.inl code63, trivial, trivial⟩, trivial⟩, ⟨trivial, trivial, ⟨.inl code111, trivial, trivial⟩⟩⟩, ⟨trivial, ⟨trivial, trivial, ⟨.inl code103, trivial, trivial⟩⟩, ⟨trivial, ⟨.inl code87, trivial, trivial⟩, ⟨.inl code119, trivial, trivial⟩⟩⟩⟩, ⟨trivial, ⟨trivial, ⟨trivial, trivial, ⟨.inl code99, trivial, trivial⟩⟩, ⟨.inl code51, ⟨.inl code83, trivial, trivial⟩, ⟨.inl code115, trivial, trivial⟩⟩⟩, ⟨trivial, ⟨trivial, trivial, ⟨.inl code107, trivial, trivial⟩⟩, trivial⟩⟩⟩, ⟨trivial, ⟨trivial, ⟨trivial, ⟨.inl code33, ⟨.inl code65, trivial, trivial⟩, trivial⟩, ⟨trivial, trivial, ⟨.inl code113, trivial, trivial⟩⟩⟩, ⟨.inl code25, ⟨.inl code41, trivial, ⟨.inl code105, trivial, trivial⟩⟩, ⟨.inl code57, trivial, trivial⟩⟩⟩, ⟨.inl code13, ⟨trivial, ⟨.inl code37, ⟨.inl code69, trivial, trivial⟩, trivial⟩, ⟨trivial, ⟨.inl code85, trivial, trivial⟩, ⟨.inl code117, trivial, trivial⟩⟩⟩, ⟨trivial, ⟨.inl code45, trivial, ⟨.inl code109, trivial, trivial⟩⟩, ⟨.inl code61, trivial, trivial⟩⟩⟩⟩⟩, ⟨trivial, ⟨trivial, ⟨.inl code8, ⟨trivial, ⟨.inl code32, ⟨.inl code64, trivial, trivial⟩, trivial⟩, ⟨.inl code48, trivial, ⟨.inl code112, trivial, trivial⟩⟩⟩, ⟨trivial, ⟨trivial, trivial, ⟨.inl code104, trivial, trivial⟩⟩, ⟨trivial, trivial, ⟨.inl code120, trivial, trivial⟩⟩⟩⟩, ⟨trivial, ⟨trivial, ⟨trivial, ⟨.inl code68, trivial, trivial⟩, trivial⟩, ⟨trivial, trivial, ⟨.inl code116, trivial, trivial⟩⟩⟩, ⟨.inl code28, ⟨.inl code44, ⟨.inl code76, trivial, trivial⟩, ⟨.inl code108, trivial, trivial⟩⟩, ⟨trivial, ⟨.inl code92, trivial, trivial⟩, trivial⟩⟩⟩⟩, ⟨trivial, ⟨trivial, ⟨trivial, ⟨trivial, trivial, ⟨.inl code98, trivial, trivial⟩⟩, ⟨trivial, trivial, ⟨.inl code114, trivial, trivial⟩⟩⟩, ⟨trivial, ⟨trivial, ⟨.inl code74, trivial, trivial⟩, ⟨.inl code106, trivial, trivial⟩⟩, ⟨.inl code58, trivial, trivial⟩⟩⟩, ⟨.inl code14, ⟨nat22, ⟨trivial, ⟨.inl code70, trivial, trivial⟩, trivial⟩, ⟨trivial, ⟨.inl code86, trivial, trivial⟩, ⟨.inl code118, trivial, trivial⟩⟩⟩, ⟨trivial, ⟨.inl code46, trivial, ⟨.inl code110, trivial, trivial⟩⟩, trivial⟩⟩⟩⟩⟩
theorem get22 : fs2.get (K.ofNat 22) = some n22 := by kernel_rfl
theorem callsL : CallsRr fs2 where
  c57 := by kernel_rfl
  c76 := by kernel_rfl
  c83 := by kernel_rfl
  c_nan := by kernel_rfl
  c_less := by kernel_rfl
  c_ins := by kernel_rfl
  c_l64 := by kernel_rfl
  c_blen := by kernel_rfl
  c_pdq := by kernel_rfl
  c58 := by kernel_rfl
  c74 := by kernel_rfl
  c85 := by kernel_rfl
  c86 := by kernel_rfl
  c92 := by kernel_rfl
  c69 := by kernel_rfl
  c61 := by kernel_rfl
  c68 := by kernel_rfl
  c87 := by kernel_rfl
  c51 := by kernel_rfl
  c65 := by kernel_rfl
  c70 := by kernel_rfl
  c44 := by kernel_rfl
  c14 := by kernel_rfl
  c37 := by kernel_rfl
  c45 := by kernel_rfl
  c48 := by kernel_rfl
  c32 := by kernel_rfl
  c33 := by kernel_rfl
  c41 := by kernel_rfl
  c63 := by kernel_rfl
  c13 := by kernel_rfl
  c25 := by kernel_rfl
  c28 := by kernel_rfl
  c46 := by kernel_rfl
  c64 := by kernel_rfl
  aw := fun h P => callP_flat (g := tabG [([], .b true)]) get22 rfl rfl
theorem law_call {W : World} (x0 : Int) {val1 : Value} {n1 : Nat} {A1 : List NA} (a1 : NArg 2 W val1 n1 A1) {val2 : Value} {L2 : List Int} (a2 : SlArg W val2 L2) (b2 : L2.length ≤ 9223372036854775807) : Calls Try.prog 8 #[.int .i64 x0, val1, val2] W fun e W' => e = .returned (.bool true) ∧ Below W.heap.size W W' := by
  obtain ⟨ι1, m1, u1, us1, r1, x1_, v1, s1, l1, t1, k1, g1⟩ := (Roms.nil (Y := rig) (W := W)).addN (by omega) a1
  obtain ⟨ι2, m2, u2, r2, x2_, v2, s2, g2⟩ := (r1).add a2
  exact r2.call (k := (.z (.o (.o .e)))) (ef := f8) fs2_ok (show f8.nv = none ∧ ∃ fn c, FnOk rig (.z (.o (.o .e))) f8 fn c from code8) (VRs.cons (.i _ _) (VRs.cons (v1.mono x2_) (VRs.cons v2 VRs.nil))) (f8_ret callsL ((nrp_of s1 l1 t1 k1 a1).grow r1.hc g2) s2 b2 r2.hc)
end Go.Proofs.Ythememdeglgnpaa
