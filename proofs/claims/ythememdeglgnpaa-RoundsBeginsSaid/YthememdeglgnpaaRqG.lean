/-
  RoundsBegins, called.
-/
import Derived.Test.YthememdeglgnpaaRqE
import Derived.Test.YthememdeglgnpaaPd
namespace Go.Proofs.Ythememdeglgnpaa
open Go.Ev
open Go.RowKit
noncomputable def fs2 : T EF := (.node (.node (.node (.node (.node (.node (.node .nil (some e63) .nil) (some e31) (.node .nil (some e95) .nil)) none (.node .nil (some e47) .nil)) none (.node (.node (.node .nil (some e71) .nil) none (.node .nil (some e103) .nil)) none (.node (.node .nil (some e87) .nil) none .nil))) none (.node (.node .nil none (.node (.node .nil (some e83) .nil) (some e51) .nil)) none (.node (.node (.node .nil (some e75) .nil) none .nil) none (.node (.node .nil (some e91) .nil) none .nil)))) none (.node (.node (.node (.node (.node .nil (some e65) .nil) (some e33) (.node .nil (some e97) .nil)) (some e17) (.node (.node .nil (some e81) .nil) none .nil)) none (.node (.node (.node .nil (some e73) .nil) (some e41) .nil) (some e25) (.node (.node .nil (some e89) .nil) (some e57) .nil))) none (.node (.node (.node .nil (some e37) (.node .nil (some e101) .nil)) (some e21) (.node .nil (some e53) .nil)) none (.node (.node (.node .nil (some e77) .nil) (some e45) .nil) (some e29) (.node (.node .nil (some e93) .nil) (some e61) .nil))))) none (.node (.node (.node (.node (.node (.node .nil (some e64) .nil) (some e32) (.node .nil (some e96) .nil)) (some e16) (.node (.node .nil (some e80) .nil) (some e48) .nil)) none (.node .nil none (.node (.node .nil (some e88) .nil) none .nil))) none (.node (.node (.node (.node .nil (some e68) .nil) none (.node .nil (some e100) .nil)) none (.node (.node .nil (some e84) .nil) (some e52) .nil)) (some e12) (.node (.node (.node .nil (some e76) .nil) none .nil) (some e28) (.node (.node .nil (some e92) .nil) (some e60) .nil)))) none (.node (.node (.node .nil none (.node (.node .nil (some e82) .nil) none .nil)) none (.node (.node (.node .nil (some e74) .nil) none .nil) (some e26) (.node (.node .nil (some e90) .nil) (some e58) .nil))) none (.node (.node (.node (.node .nil (some e70) .nil) none (.node .nil (some e102) .nil)) (some n22) .nil) (some e14) (.node .nil none (.node (.node .nil (some e94) .nil) none .nil))))))
theorem fs2_ok : Fns rig fs2 := fns_of_each ⟨trivial, ⟨trivial, ⟨trivial, ⟨trivial, ⟨trivial, ⟨.inl code31, ⟨.inl code63, trivial, trivial⟩, ⟨.inl code95, trivial, trivial⟩⟩, ⟨.inl code47, trivial, trivial⟩⟩, ⟨trivial, ⟨trivial, ⟨.inl code71, trivial, trivial⟩, ⟨.inl code103, trivial, trivial⟩⟩, ⟨trivial, ⟨.inl code87, trivial, trivial⟩, trivial⟩⟩⟩, ⟨trivial, ⟨trivial, trivial, ⟨.inl code51, ⟨.inl code83, trivial, trivial⟩, trivial⟩⟩, ⟨trivial, ⟨trivial, ⟨.inl code75, trivial, trivial⟩, trivial⟩, ⟨trivial, ⟨.inl code91, trivial, trivial⟩, trivial⟩⟩⟩⟩, ⟨trivial, ⟨trivial, ⟨.inl code17, ⟨.inl code33, ⟨.inl code65, trivial, trivial⟩, ⟨.inl code97, trivial, trivial⟩⟩, ⟨trivial, ⟨.inl code81, trivial, trivial⟩, trivial⟩⟩, ⟨.inl code25, ⟨.inl code41, ⟨.inl code73, trivial, trivial⟩, trivial⟩, ⟨.inl code57, ⟨.inl code89, trivial, trivial⟩, trivial⟩⟩⟩, ⟨trivial, ⟨.inl code21, ⟨.inl code37, trivial, ⟨.inl code101, trivial, trivial⟩⟩, ⟨.inl code53, trivial, trivial⟩⟩, ⟨.inl code29, ⟨.inl code45, ⟨.inl code77, trivial, trivial⟩, trivial⟩, ⟨.inl code61, ⟨.inl code93, trivial, trivial⟩, trivial⟩⟩⟩⟩⟩, ⟨trivial, ⟨trivial, ⟨trivial, ⟨.inl code16, ⟨.inl code32, ⟨.inl code64, trivial, trivial⟩, ⟨.inl code96, trivial, trivial⟩⟩, ⟨.inl code48, ⟨.inl code80, trivial, trivial⟩, trivial⟩⟩, ⟨trivial, trivial, ⟨trivial, ⟨.inl code88, trivial, trivial⟩, trivial⟩⟩⟩, ⟨.inl code12, ⟨trivial, ⟨trivial, ⟨.inl code68, trivial, trivial⟩, ⟨.inl code100, trivial, trivial⟩⟩, ⟨.inl code52, ⟨.inl code84, trivial, trivial⟩, trivial⟩⟩, ⟨.inl code28, ⟨trivial, ⟨.inl code76, trivial, trivial⟩, trivial⟩, ⟨.inl code60, ⟨.inl code92, trivial, trivial⟩, trivial⟩⟩⟩⟩, ⟨trivial, ⟨trivial, ⟨trivial, trivial, ⟨trivial, ⟨.inl code82, trivial, trivial⟩, trivial⟩⟩, ⟨.inl code26, ⟨trivial, ⟨.inl code74, trivial, trivial⟩, trivial⟩, ⟨.inl code58, ⟨.inl code90, trivial, trivial⟩, trivial⟩⟩⟩, ⟨.inl code14, ⟨nat22, ⟨trivial, ⟨.inl code70, trivial, trivial⟩, ⟨.inl code102, trivial, trivial⟩⟩, trivial⟩, ⟨trivial, trivial, ⟨trivial, ⟨.inl code94, trivial, trivial⟩, trivial⟩⟩⟩⟩⟩⟩
theorem get22 : fs2.get (K.ofNat 22) = some n22 := by kernel_rfl
theorem callsL : CallsBe fs2 where
  c80 := by kernel_rfl
  c84 := by kernel_rfl
  c93 := by kernel_rfl
  c94 := by kernel_rfl
  p74 := by kernel_rfl
  p76 := by kernel_rfl
  p83 := by kernel_rfl
  p92 := by kernel_rfl
  p102 := by kernel_rfl
  p91 := by kernel_rfl
  p101 := by kernel_rfl
  c57 := by kernel_rfl
  c76 := by kernel_rfl
  c83 := by kernel_rfl
  p87 := by kernel_rfl
  p89 := by kernel_rfl
  p90 := by kernel_rfl
  c61 := by kernel_rfl
  c68 := by kernel_rfl
  c87 := by kernel_rfl
  c51 := by kernel_rfl
  c65 := by kernel_rfl
  c70 := by kernel_rfl
  c53 := by kernel_rfl
  c73 := by kernel_rfl
  c77 := by kernel_rfl
  c17 := by kernel_rfl
  c26 := by kernel_rfl
  c64 := by kernel_rfl
  c21 := by kernel_rfl
  c28 := by kernel_rfl
  c29 := by kernel_rfl
  c58 := by kernel_rfl
  c16 := by kernel_rfl
  c52 := by kernel_rfl
  c74 := by kernel_rfl
  c75 := by kernel_rfl
  c92 := by kernel_rfl
  c81 := by kernel_rfl
  c82 := by kernel_rfl
  c95 := by kernel_rfl
  c96 := by kernel_rfl
  c97 := by kernel_rfl
  c103 := by kernel_rfl
  r71 := by kernel_rfl
  r88 := by kernel_rfl
  r100 := by kernel_rfl
  r60 := by kernel_rfl
  s65 := by kernel_rfl
  s70x := by kernel_rfl
  c14 := by kernel_rfl
  c37 := by kernel_rfl
  c45 := by kernel_rfl
  c48 := by kernel_rfl
  c32 := by kernel_rfl
  c33 := by kernel_rfl
  c41 := by kernel_rfl
  c63 := by kernel_rfl
  u25 := by kernel_rfl
  v31 := by kernel_rfl
  v33 := by kernel_rfl
  v47 := by kernel_rfl
  aw := fun h P => callP_flat (g := tabG [([], .b true)]) get22 rfl rfl
theorem law_call {W : World} (x0 : Int) {val1 : Value} {L1 : List Int} (a1 : SlArg W val1 L1) (b1 : L1.length ≤ 9223372036854775807) (x2 : Int) : Calls Try.prog 12 #[.int .i64 x0, val1, .int .i64 x2] W fun e W' => e = .returned (.bool true) ∧ Below W.heap.size W W' := by
  obtain ⟨ι1, m1, u1, r1, x1_, v1, s1, g1⟩ := (Roms.nil (Y := rig) (W := W)).add a1
  exact r1.call (k := (.z (.o (.z .e)))) (ef := f12) fs2_ok (show f12.nv = none ∧ ∃ fn c, FnOk rig (.z (.o (.z .e))) f12 fn c from code12) (VRs.cons (.i _ _) (VRs.cons v1 (VRs.cons (.i _ _) VRs.nil))) (f12_ret callsL s1 b1 r1.hc)
end Go.Proofs.Ythememdeglgnpaa
