/-
  LabelsCopies, called.
-/
import Derived.Test.YtmnojcnimncbpaaLkE
import Derived.Test.YtmnojcnimncbpaaPg
import Derived.Test.YtmnojcnimncbpaaPd
namespace Go.Proofs.Ytmnojcnimncbpaa
open Go.Ev
open Go.RowKit
noncomputable def fs3 : T EF := (.node (.node (.node (.node (.node .nil (some e15) .nil) none (.node (.node .nil none (.node .nil (some e103) .nil)) (some n23) .nil)) none (.node (.node (.node .nil (some e35) (.node .nil (some e99) .nil)) none (.node (.node (.node .nil (some e147) .nil) none .nil) none .nil)) none .nil)) none (.node (.node (.node (.node (.node (.node .nil (some e129) .nil) (some e65) .nil) (some e33) .nil) (some e17) .nil) none .nil) none (.node (.node (.node .nil none (.node .nil (some e101) .nil)) (some e21) .nil) none (.node (.node .nil none (.node .nil (some e109) .nil)) (some e29) (.node .nil (some e61) .nil))))) none (.node (.node (.node (.node (.node (.node .nil (some e64) .nil) (some e32) .nil) none .nil) none (.node (.node .nil none (.node .nil (some e104) .nil)) none .nil)) none (.node (.node (.node .nil (some e36) (.node .nil (some e100) .nil)) none .nil) none (.node .nil (some e28) (.node .nil (some e60) .nil)))) none (.node (.node (.node (.node (.node (.node .nil (some e130) .nil) (some e66) .nil) none (.node .nil (some e98) .nil)) none .nil) none .nil) (some e6) (.node (.node (.node (.node .nil (some e70) .nil) none (.node .nil (some e102) .nil)) none .nil) none (.node .nil none (.node .nil (some e62) .nil))))))
theorem fs3_ok : Fns rig fs3 := fns_of_each ⟨trivial, ⟨trivial, ⟨trivial, ⟨trivial, ⟨.inl code15, trivial, trivial⟩, ⟨nat23, ⟨trivial, trivial, ⟨.inl code103, trivial, trivial⟩⟩, trivial⟩⟩, ⟨trivial, ⟨trivial, ⟨.inl code35, trivial, ⟨.inl code99, trivial, trivial⟩⟩, ⟨trivial, ⟨trivial, ⟨.inl code147, trivial, trivial⟩, trivial⟩, trivial⟩⟩, trivial⟩⟩, ⟨trivial, ⟨trivial, ⟨.inl code17, ⟨.inl code33, ⟨.inl code65, ⟨.inl code129, trivial, trivial⟩, trivial⟩, trivial⟩, trivial⟩, trivial⟩, ⟨trivial, ⟨.inl code21, ⟨trivial, trivial, ⟨.inl code101, trivial, trivial⟩⟩, trivial⟩, ⟨.inl code29, ⟨trivial, trivial, ⟨.inl code109, trivial, trivial⟩⟩, ⟨.inl code61, trivial, trivial⟩⟩⟩⟩⟩, ⟨trivial, ⟨trivial, ⟨trivial, ⟨trivial, ⟨.inl code32, ⟨.inl code64, trivial, trivial⟩, trivial⟩, trivial⟩, ⟨trivial, ⟨trivial, trivial, ⟨.inl code104, trivial, trivial⟩⟩, trivial⟩⟩, ⟨trivial, ⟨trivial, ⟨.inl code36, trivial, ⟨.inl code100, trivial, trivial⟩⟩, trivial⟩, ⟨.inl code28, trivial, ⟨.inl code60, trivial, trivial⟩⟩⟩⟩, ⟨.inl code6, ⟨trivial, ⟨trivial, ⟨trivial, ⟨.inl code66, ⟨.inl code130, trivial, trivial⟩, trivial⟩, ⟨.inl code98, trivial, trivial⟩⟩, trivial⟩, trivial⟩, ⟨trivial, ⟨trivial, ⟨trivial, ⟨.inl code70, trivial, trivial⟩, ⟨.inl code102, trivial, trivial⟩⟩, trivial⟩, ⟨trivial, trivial, ⟨.inl code62, trivial, trivial⟩⟩⟩⟩⟩⟩
theorem get23 : fs3.get (K.ofNat 23) = some n23 := by kernel_rfl
theorem callsL : CallsCl fs3 where
  c17 := by kernel_rfl
  c60 := by kernel_rfl
  c61 := by kernel_rfl
  c98 := by kernel_rfl
  c129 := by kernel_rfl
  c147 := by kernel_rfl
  c62 := by kernel_rfl
  c99 := by kernel_rfl
  c100 := by kernel_rfl
  c101 := by kernel_rfl
  c102 := by kernel_rfl
  c130 := by kernel_rfl
  c64 := by kernel_rfl
  c65 := by kernel_rfl
  c66 := by kernel_rfl
  c103 := by kernel_rfl
  c104 := by kernel_rfl
  c32 := by kernel_rfl
  c33 := by kernel_rfl
  c70 := by kernel_rfl
  c109 := by kernel_rfl
  c15 := by kernel_rfl
  c21 := by kernel_rfl
  c28 := by kernel_rfl
  c29 := by kernel_rfl
  c35 := by kernel_rfl
  c36 := by kernel_rfl
  aw := fun h P => callP_flat (g := tabG [([], .b true)]) get23 rfl rfl
theorem law_call {W : World} (x0 : Int) {val1 : Value} {n1 : Nat} {L1 : List Int} (a1 : SlArgK 2 W val1 n1 L1) (b1 : n1 ≤ 9223372036854775807) {val2 : Value} {L2 : List Int} (a2 : SlArg W val2 L2) : Calls Try.prog 6 #[.int .i64 x0, val1, val2] W fun e W' => e = .returned (.bool true) ∧ Below W.heap.size W W' := by
  obtain ⟨ι1, m1, u1, r1, x1_, v1, s1, g1⟩ := (Roms.nil (Y := rig) (W := W)).addK (by omega) a1
  obtain ⟨ι2, m2, u2, r2, x2_, v2, s2, g2⟩ := (r1).add a2
  exact r2.call (k := (.z (.z .e))) (ef := f6) fs3_ok (show f6.nv = none ∧ ∃ fn c, FnOk rig (.z (.z .e)) f6 fn c from code6) (VRs.cons (.i _ _) (VRs.cons (v1.mono x2_) (VRs.cons v2 VRs.nil))) (f6_ret callsL ((s1.srp a1.le).grow r1.hc g2) s2 (pairsOf_le b1) r2.hc)
end Go.Proofs.Ytmnojcnimncbpaa
