/-
  RoundsLeast, called.
-/
import Derived.Test.YthememdeglgnpaaRlE
import Derived.Test.YthememdeglgnpaaPd
namespace Go.Proofs.Ythememdeglgnpaa
open Go.Ev
open Go.RowKit
noncomputable def fs2 : T EF := (.node (.node (.node (.node (.node (.node (.node .nil (some e63) .nil) none (.node .nil (some e95) .nil)) none (.node (.node .nil (some e79) .nil) none (.node .nil (some e111) .nil))) none (.node (.node .nil (some e39) (.node .nil (some e103) .nil)) (some e23) (.node (.node .nil (some e87) .nil) (some e55) (.node .nil (some e119) .nil)))) none (.node (.node (.node (.node .nil (some e67) .nil) (some e35) (.node .nil (some e99) .nil)) (some e19) (.node (.node .nil (some e83) .nil) (some e51) (.node .nil (some e115) .nil))) none (.node (.node (.node .nil (some e75) .nil) (some e43) (.node .nil (some e107) .nil)) (some e27) (.node .nil (some e59) .nil)))) none (.node (.node (.node (.node (.node .nil (some e65) .nil) (some e33) (.node .nil (some e97) .nil)) (some e17) (.node (.node .nil (some e81) .nil) none (.node .nil (some e113) .nil))) none (.node (.node (.node .nil (some e73) .nil) (some e41) (.node .nil (some e105) .nil)) (some e25) (.node .nil (some e57) .nil))) none (.node (.node (.node (.node .nil (some e69) .nil) (some e37) .nil) (some e21) (.node (.node .nil (some e85) .nil) (some e53) (.node .nil (some e117) .nil))) none (.node (.node (.node .nil (some e77) .nil) (some e45) (.node .nil (some e109) .nil)) (some e29) (.node (.node .nil (some e93) .nil) (some e61) .nil))))) none (.node (.node (.node (.node (.node (.node .nil (some e64) .nil) (some e32) (.node .nil (some e96) .nil)) (some e16) (.node (.node .nil (some e80) .nil) (some e48) (.node .nil (some e112) .nil))) none (.node (.node .nil (some e40) (.node .nil (some e104) .nil)) none (.node .nil (some e56) (.node .nil (some e120) .nil)))) none (.node (.node (.node (.node .nil (some e68) .nil) (some e36) .nil) (some e20) (.node (.node .nil (some e84) .nil) (some e52) (.node .nil (some e116) .nil))) none (.node (.node (.node .nil (some e76) .nil) none (.node .nil (some e108) .nil)) (some e28) (.node (.node .nil (some e92) .nil) (some e60) .nil)))) none (.node (.node (.node (.node (.node .nil (some e66) .nil) (some e34) (.node .nil (some e98) .nil)) (some e18) (.node (.node .nil (some e82) .nil) none (.node .nil (some e114) .nil))) none (.node (.node (.node .nil (some e74) .nil) (some e42) (.node .nil (some e106) .nil)) (some e26) (.node .nil (some e58) .nil))) (some e6) (.node (.node (.node (.node .nil (some e70) .nil) (some e38) .nil) (some n22) (.node (.node .nil (some e86) .nil) (some e54) (.node .nil (some e118) .nil))) (some e14) (.node (.node (.node .nil (some e78) .nil) (some e46) (.node .nil (some e110) .nil)) none (.node (.node .nil (some e94) .nil) none .nil))))))
theorem fs2_ok : Fns rig fs2 := fns_of_each ⟨trivial, ⟨trivial, ⟨trivial, ⟨trivial, ⟨trivial, ⟨trivial, ⟨.inl code63, trivial, trivial⟩, ⟨.inl code95, trivial, trivial⟩⟩, ⟨trivial, ⟨.inl code79, trivial, trivial⟩, ⟨.inl code111, trivial, trivial⟩⟩⟩, ⟨.inl code23, ⟨.inl code39, trivial, ⟨.inl code103, trivial, trivial⟩⟩, ⟨.inl code55, ⟨.inl code87, trivial, trivial⟩, ⟨.inl code119, trivial, trivial⟩⟩⟩⟩, ⟨trivial, ⟨.inl code19, ⟨.inl code35, ⟨.inl code67, trivial, trivial⟩, ⟨.inl code99, trivial, trivial⟩⟩, ⟨.inl code51, ⟨.inl code83, trivial, trivial⟩, ⟨.inl code115, trivial, trivial⟩⟩⟩, ⟨.inl code27, ⟨.inl code43, ⟨.inl code75, trivial, trivial⟩, ⟨.inl code107, trivial, trivial⟩⟩, ⟨.inl code59, trivial, trivial⟩⟩⟩⟩, ⟨trivial, ⟨trivial, ⟨.inl code17, ⟨.inl code33, ⟨.inl code65, trivial, trivial⟩, ⟨.inl code97, trivial, trivial⟩⟩, ⟨trivial, ⟨.inl code81, trivial, trivial⟩, ⟨.inl code113, trivial, trivial⟩⟩⟩, ⟨.inl code25, ⟨.inl code41, ⟨.inl code73, trivial, trivial⟩, ⟨.inl code105, trivial, trivial⟩⟩, ⟨.inl code57, trivial, trivial⟩⟩⟩, ⟨trivial, ⟨.inl code21, ⟨.inl code37, ⟨.inl code69, trivial, trivial⟩, trivial⟩, ⟨.inl code53, ⟨.inl code85, trivial, trivial⟩, ⟨.inl code117, trivial, trivial⟩⟩⟩, ⟨.inl code29, ⟨.inl code45, ⟨.inl code77, trivial, trivial⟩, ⟨.inl code109, trivial, trivial⟩⟩, ⟨.inl code61, ⟨.inl code93, trivial, trivial⟩, trivial⟩⟩⟩⟩⟩, ⟨trivial, ⟨trivial, ⟨trivial, ⟨.inl code16, ⟨.inl code32, ⟨.inl code64, trivial, trivial⟩, ⟨.inl code96, trivial, trivial⟩⟩, ⟨.inl code48, ⟨.inl code80, trivial, trivial⟩, ⟨.inl code112, trivial, trivial⟩⟩⟩, ⟨trivial, ⟨.inl code40, trivial, ⟨.inl code104, trivial, trivial⟩⟩, ⟨.inl code56, trivial, ⟨.inl code120, trivial, trivial⟩⟩⟩⟩, ⟨trivial, ⟨.inl code20, ⟨.inl code36, ⟨.inl code68, trivial, trivial⟩, trivial⟩, ⟨.inl code52, ⟨.inl code84, trivial, trivial⟩, ⟨.inl code116, trivial, trivial⟩⟩⟩, ⟨.inl code28, ⟨trivial, ⟨.inl code76, trivial, trivial⟩, ⟨.inl code108, trivial, trivial⟩⟩, ⟨.inl code60, ⟨.inl code92, trivial, trivial⟩, trivial⟩⟩⟩⟩, ⟨.inl code6, ⟨trivial, ⟨.inl code18, ⟨.inl code34, ⟨.inl code66, trivial, trivial⟩, ⟨.inl code98, trivial, trivial⟩⟩, ⟨trivial, ⟨.inl code82, trivial, trivial⟩, ⟨.inl code114, trivial, trivial⟩⟩⟩, ⟨.inl code26, ⟨.inl code42, ⟨.inl code74, trivial, trivial⟩, ⟨.inl code106, trivial, trivial⟩⟩, ⟨.inl code58, trivial, trivial⟩⟩⟩, ⟨.inl code14, ⟨nat22, ⟨.inl code38, ⟨.inl code70, trivial, trivial⟩, trivial⟩, ⟨.inl code54, ⟨.inl code86, trivial, trivial⟩, ⟨.inl code118, trivial, trivial⟩⟩⟩, ⟨trivial, ⟨.inl code46, ⟨.inl code78, trivial, trivial⟩, ⟨.inl code110, trivial, trivial⟩⟩, ⟨trivial, ⟨.inl code94, trivial, trivial⟩, trivial⟩⟩⟩⟩⟩⟩
theorem get22 : fs2.get (K.ofNat 22) = some n22 := by kernel_rfl
theorem callsL : CallsLe fs2 where
  c32 := by kernel_rfl
  c33 := by kernel_rfl
  c41 := by kernel_rfl
  c63 := by kernel_rfl
  c57 := by kernel_rfl
  c76 := by kernel_rfl
  c83 := by kernel_rfl
  c61 := by kernel_rfl
  c68 := by kernel_rfl
  c87 := by kernel_rfl
  c51 := by kernel_rfl
  c65 := by kernel_rfl
  c70 := by kernel_rfl
  c78 := by kernel_rfl
  c79 := by kernel_rfl
  c84 := by kernel_rfl
  c54 := by kernel_rfl
  c18 := by kernel_rfl
  c19 := by kernel_rfl
  c55 := by kernel_rfl
  c_nan := by kernel_rfl
  c_less := by kernel_rfl
  c_ins := by kernel_rfl
  c_l64 := by kernel_rfl
  c_blen := by kernel_rfl
  c_pdq := by kernel_rfl
  c58 := by kernel_rfl
  c74 := by kernel_rfl
  c85 := by kernel_rfl
  c86 := by kernel_rfl
  c92 := by kernel_rfl
  c69 := by kernel_rfl
  c14 := by kernel_rfl
  c37 := by kernel_rfl
  c45 := by kernel_rfl
  c48 := by kernel_rfl
  c34 := by kernel_rfl
  c35 := by kernel_rfl
  c36 := by kernel_rfl
  c60 := by kernel_rfl
  c66 := by kernel_rfl
  c67 := by kernel_rfl
  c20 := by kernel_rfl
  c25 := by kernel_rfl
  c28 := by kernel_rfl
  c38 := by kernel_rfl
  c39 := by kernel_rfl
  c40 := by kernel_rfl
  c46 := by kernel_rfl
  c56 := by kernel_rfl
  c64 := by kernel_rfl
  aw := fun h P => callP_flat (g := tabG [([], .b true)]) get22 rfl rfl
  c53 := by kernel_rfl
  c73 := by kernel_rfl
  c77 := by kernel_rfl
  c17 := by kernel_rfl
  c26 := by kernel_rfl
  c21 := by kernel_rfl
  c29 := by kernel_rfl
  c16 := by kernel_rfl
  c52 := by kernel_rfl
  c75 := by kernel_rfl
  c81 := by kernel_rfl
  c82 := by kernel_rfl
  c95 := by kernel_rfl
  c96 := by kernel_rfl
  c97 := by kernel_rfl
  c103 := by kernel_rfl
  c80 := by kernel_rfl
  c93 := by kernel_rfl
  c94 := by kernel_rfl
  c59 := by kernel_rfl
  w23 := by kernel_rfl
  w26 := by kernel_rfl
  w27 := by kernel_rfl
  w42 := by kernel_rfl
  w43 := by kernel_rfl
  w60 := by kernel_rfl
theorem law_call {W : World} (x0 : Int) {val1 : Value} {L1 : List Int} (a1 : SlArg W val1 L1) (b1 : L1.length ≤ 9223372036854775807) : Calls Try.prog 6 #[.int .i64 x0, val1] W fun e W' => e = .returned (.bool true) ∧ Below W.heap.size W W' := by
  obtain ⟨ι1, m1, u1, r1, x1_, v1, s1, g1⟩ := (Roms.nil (Y := rig) (W := W)).add a1
  exact r1.call (k := (.z (.z .e))) (ef := f6) fs2_ok (show f6.nv = none ∧ ∃ fn c, FnOk rig (.z (.z .e)) f6 fn c from code6) (VRs.cons (.i _ _) (VRs.cons v1 VRs.nil)) (f6_ret callsL s1 b1 r1.hc)
end Go.Proofs.Ythememdeglgnpaa
