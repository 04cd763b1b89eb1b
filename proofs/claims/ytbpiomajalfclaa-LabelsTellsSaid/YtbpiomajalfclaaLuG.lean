/-
  LabelsTells, called.
-/
import Derived.Test.YtbpiomajalfclaaLuE
import Derived.Test.YtbpiomajalfclaaPg
import Derived.Test.YtbpiomajalfclaaPd
namespace Go.Proofs.Ytbpiomajalfclaa
open Go.Ev
open Go.RowKit
noncomputable def fs3 : T EF := (.node (.node (.node (.node (.node (.node (.node .nil (some e63) .nil) none .nil) (some e15) .nil) none (.node .nil (some n23) .nil)) none (.node (.node (.node .nil none (.node .nil (some e99) .nil)) (some e19) (.node (.node (.node .nil (some e147) .nil) none .nil) none .nil)) none .nil)) none (.node (.node (.node (.node (.node (.node .nil (some e129) .nil) none .nil) (some e33) .nil) (some e17) .nil) none .nil) (some e5) (.node (.node (.node .nil none (.node .nil (some e101) .nil)) none .nil) none (.node (.node .nil none (.node .nil (some e109) .nil)) (some e29) (.node .nil (some e61) .nil))))) none (.node (.node (.node (.node (.node (.node .nil (some e64) .nil) (some e32) .nil) none .nil) none .nil) none (.node (.node (.node .nil none (.node .nil (some e100) .nil)) (some e20) .nil) none (.node .nil (some e28) (.node .nil (some e60) .nil)))) none (.node (.node (.node (.node (.node (.node .nil (some e130) .nil) none .nil) (some e34) (.node .nil (some e98) .nil)) (some e18) .nil) none .nil) none (.node (.node (.node (.node .nil (some e70) .nil) none (.node .nil (some e102) .nil)) none .nil) none (.node .nil (some e30) (.node .nil (some e62) .nil))))))
theorem fs3_ok : Fns rig fs3 := fns_of_each ⟨trivial, ⟨trivial, ⟨trivial, ⟨trivial, ⟨.inl code15, ⟨trivial, ⟨.inl code63, trivial, trivial⟩, trivial⟩, trivial⟩, ⟨nat23, trivial, trivial⟩⟩, ⟨trivial, ⟨.inl code19, ⟨trivial, trivial, ⟨.inl code99, trivial, trivial⟩⟩, ⟨trivial, ⟨trivial, ⟨.inl code147, trivial, trivial⟩, trivial⟩, trivial⟩⟩, trivial⟩⟩, ⟨.inl code5, ⟨trivial, ⟨.inl code17, ⟨.inl code33, ⟨trivial, ⟨.inl code129, trivial, trivial⟩, trivial⟩, trivial⟩, trivial⟩, trivial⟩, ⟨trivial, ⟨trivial, ⟨trivial, trivial, ⟨.inl code101, trivial, trivial⟩⟩, trivial⟩, ⟨.inl code29, ⟨trivial, trivial, ⟨.inl code109, trivial, trivial⟩⟩, ⟨.inl code61, trivial, trivial⟩⟩⟩⟩⟩, ⟨trivial, ⟨trivial, ⟨trivial, ⟨trivial, ⟨.inl code32, ⟨.inl code64, trivial, trivial⟩, trivial⟩, trivial⟩, trivial⟩, ⟨trivial, ⟨.inl code20, ⟨trivial, trivial, ⟨.inl code100, trivial, trivial⟩⟩, trivial⟩, ⟨.inl code28, trivial, ⟨.inl code60, trivial, trivial⟩⟩⟩⟩, ⟨trivial, ⟨trivial, ⟨.inl code18, ⟨.inl code34, ⟨trivial, ⟨.inl code130, trivial, trivial⟩, trivial⟩, ⟨.inl code98, trivial, trivial⟩⟩, trivial⟩, trivial⟩, ⟨trivial, ⟨trivial, ⟨trivial, ⟨.inl code70, trivial, trivial⟩, ⟨.inl code102, trivial, trivial⟩⟩, trivial⟩, ⟨.inl code30, trivial, ⟨.inl code62, trivial, trivial⟩⟩⟩⟩⟩⟩
theorem get23 : fs3.get (K.ofNat 23) = some n23 := by kernel_rfl
theorem callsL : CallsTl fs3 where
  c17 := by kernel_rfl
  c60 := by kernel_rfl
  c61 := by kernel_rfl
  c98 := by kernel_rfl
  c129 := by kernel_rfl
  c147 := by kernel_rfl
  c62 := by kernel_rfl
  c99 := by kernel_rfl
  c100 := by kernel_rfl
  c101 := by kernel_rfl
  c102 := by kernel_rfl
  c130 := by kernel_rfl
  c64 := by kernel_rfl
  c63 := by kernel_rfl
  c32 := by kernel_rfl
  c33 := by kernel_rfl
  c70 := by kernel_rfl
  c109 := by kernel_rfl
  c15 := by kernel_rfl
  c18 := by kernel_rfl
  c19 := by kernel_rfl
  c20 := by kernel_rfl
  c28 := by kernel_rfl
  c29 := by kernel_rfl
  c30 := by kernel_rfl
  c34 := by kernel_rfl
  aw := fun h P => callP_flat (g := tabG [([], .b true)]) get23 rfl rfl
theorem law_call {W : World} (x0 : Int) {val1 : Value} {n1 : Nat} {L1 : List Int} (a1 : SlArgK 2 W val1 n1 L1) (b1 : n1 ≤ 9223372036854775807) {val2 : Value} {L2 : List Int} (a2 : SlArg W val2 L2) : Calls Try.prog 5 #[.int .i64 x0, val1, val2] W fun e W' => e = .returned (.bool true) ∧ Below W.heap.size W W' := by
  obtain ⟨ι1, m1, u1, r1, x1_, v1, s1, g1⟩ := (Roms.nil (Y := rig) (W := W)).addK (by omega) a1
  obtain ⟨ι2, m2, u2, r2, x2_, v2, s2, g2⟩ := (r1).add a2
  exact r2.call (k := (.o (.z .e))) (ef := f5) fs3_ok (show f5.nv = none ∧ ∃ fn c, FnOk rig (.o (.z .e)) f5 fn c from code5) (VRs.cons (.i _ _) (VRs.cons (v1.mono x2_) (VRs.cons v2 VRs.nil))) (f5_ret callsL ((s1.srp a1.le).grow r1.hc g2) s2 (pairsOf_le b1) r2.hc)
end Go.Proofs.Ytbpiomajalfclaa
