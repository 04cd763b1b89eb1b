/-
  LabelsRosa, called.
-/
import Derived.Test.YtmnojcnimncbpaaLwE
import Derived.Test.YtmnojcnimncbpaaPg
import Derived.Test.YtmnojcnimncbpaaPd
namespace Go.Proofs.Ytmnojcnimncbpaa
open Go.Ev
open Go.RowKit
noncomputable def fs3 : T EF := (.node (.node (.node (.node (.node (.node (.node .nil (some e63) .nil) none .nil) none .nil) none (.node (.node (.node .nil (some e71) .nil) none (.node .nil (some e103) .nil)) (some n23) .nil)) none (.node (.node (.node .nil none (.node .nil (some e99) .nil)) (some e19) (.node (.node (.node .nil (some e147) .nil) none .nil) none .nil)) (some e11) (.node (.node .nil none (.node .nil (some e107) .nil)) none .nil))) none (.node (.node (.node (.node (.node (.node .nil (some e129) .nil) (some e65) .nil) none .nil) (some e17) .nil) none .nil) none (.node (.node (.node .nil (some e37) (.node .nil (some e101) .nil)) (some e21) .nil) none (.node .nil none (.node .nil (some e61) .nil))))) none (.node (.node (.node (.node (.node (.node .nil (some e64) .nil) none .nil) none .nil) none (.node (.node (.node .nil (some e72) .nil) none (.node .nil (some e104) .nil)) (some e24) .nil)) none (.node (.node (.node (.node .nil (some e68) .nil) none (.node .nil (some e100) .nil)) (some e20) .nil) none (.node (.node (.node .nil (some e76) .nil) none (.node .nil (some e108) .nil)) (some e28) (.node .nil (some e60) .nil)))) none (.node (.node (.node (.node (.node (.node .nil (some e130) .nil) (some e66) .nil) none (.node .nil (some e98) .nil)) (some e18) .nil) none .nil) none (.node (.node (.node .nil none (.node .nil (some e102) .nil)) none .nil) none (.node .nil (some e30) (.node .nil (some e62) .nil))))))
theorem fs3_ok : Fns rig fs3 := fns_of_each ⟨trivial, ⟨trivial, ⟨trivial, ⟨trivial, ⟨trivial, ⟨trivial, ⟨.inl code63, trivial, trivial⟩, trivial⟩, trivial⟩, ⟨nat23, ⟨trivial, ⟨.inl code71, trivial, trivial⟩, ⟨.inl code103, trivial, trivial⟩⟩, trivial⟩⟩, ⟨.inl code11, ⟨.inl code19, ⟨trivial, trivial, ⟨.inl code99, trivial, trivial⟩⟩, ⟨trivial, ⟨trivial, ⟨.inl code147, trivial, trivial⟩, trivial⟩, trivial⟩⟩, ⟨trivial, ⟨trivial, trivial, ⟨.inl code107, trivial, trivial⟩⟩, trivial⟩⟩⟩, ⟨trivial, ⟨trivial, ⟨.inl code17, ⟨trivial, ⟨.inl code65, ⟨.inl code129, trivial, trivial⟩, trivial⟩, trivial⟩, trivial⟩, trivial⟩, ⟨trivial, ⟨.inl code21, ⟨.inl code37, trivial, ⟨.inl code101, trivial, trivial⟩⟩, trivial⟩, ⟨trivial, trivial, ⟨.inl code61, trivial, trivial⟩⟩⟩⟩⟩, ⟨trivial, ⟨trivial, ⟨trivial, ⟨trivial, ⟨trivial, ⟨.inl code64, trivial, trivial⟩, trivial⟩, trivial⟩, ⟨.inl code24, ⟨trivial, ⟨.inl code72, trivial, trivial⟩, ⟨.inl code104, trivial, trivial⟩⟩, trivial⟩⟩, ⟨trivial, ⟨.inl code20, ⟨trivial, ⟨.inl code68, trivial, trivial⟩, ⟨.inl code100, trivial, trivial⟩⟩, trivial⟩, ⟨.inl code28, ⟨trivial, ⟨.inl code76, trivial, trivial⟩, ⟨.inl code108, trivial, trivial⟩⟩, ⟨.inl code60, trivial, trivial⟩⟩⟩⟩, ⟨trivial, ⟨trivial, ⟨.inl code18, ⟨trivial, ⟨.inl code66, ⟨.inl code130, trivial, trivial⟩, trivial⟩, ⟨.inl code98, trivial, trivial⟩⟩, trivial⟩, trivial⟩, ⟨trivial, ⟨trivial, ⟨trivial, trivial, ⟨.inl code102, trivial, trivial⟩⟩, trivial⟩, ⟨.inl code30, trivial, ⟨.inl code62, trivial, trivial⟩⟩⟩⟩⟩⟩
theorem get23 : fs3.get (K.ofNat 23) = some n23 := by kernel_rfl
theorem callsL : CallsRo fs3 where
  c76 := by kernel_rfl
  c99 := by kernel_rfl
  c100 := by kernel_rfl
  c101 := by kernel_rfl
  c102 := by kernel_rfl
  c108 := by kernel_rfl
  c130 := by kernel_rfl
  c17 := by kernel_rfl
  c60 := by kernel_rfl
  c61 := by kernel_rfl
  c98 := by kernel_rfl
  c129 := by kernel_rfl
  c147 := by kernel_rfl
  c68 := by kernel_rfl
  c107 := by kernel_rfl
  c62 := by kernel_rfl
  c64 := by kernel_rfl
  c63 := by kernel_rfl
  c65 := by kernel_rfl
  c66 := by kernel_rfl
  c103 := by kernel_rfl
  c104 := by kernel_rfl
  c37 := by kernel_rfl
  c71 := by kernel_rfl
  c72 := by kernel_rfl
  c18 := by kernel_rfl
  c19 := by kernel_rfl
  c20 := by kernel_rfl
  c21 := by kernel_rfl
  c24 := by kernel_rfl
  c28 := by kernel_rfl
  c30 := by kernel_rfl
  aw := fun h P => callP_flat (g := tabG [([], .b true)]) get23 rfl rfl
theorem law_call {W : World} (x0 : Int) {val1 : Value} {n1 : Nat} {L1 : List Int} (a1 : SlArgK 2 W val1 n1 L1) (b1 : n1 ≤ 9223372036854775807) : Calls Try.prog 11 #[.int .i64 x0, val1] W fun e W' => e = .returned (.bool true) ∧ Below W.heap.size W W' := by
  obtain ⟨ι1, m1, u1, r1, x1_, v1, s1, g1⟩ := (Roms.nil (Y := rig) (W := W)).addK (by omega) a1
  exact r1.call (k := (.o (.o (.z .e)))) (ef := f11) fs3_ok (show f11.nv = none ∧ ∃ fn c, FnOk rig (.o (.o (.z .e))) f11 fn c from code11) (VRs.cons (.i _ _) (VRs.cons v1 VRs.nil)) (f11_ret callsL (s1.srp a1.le) (pairsOf_le b1) r1.hc)
end Go.Proofs.Ytmnojcnimncbpaa
