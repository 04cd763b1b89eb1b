/-
  LabelsChecks, called.
-/
import Derived.Test.YtmnojcnimncbpaaLcE
import Derived.Test.YtmnojcnimncbpaaPh
import Derived.Test.YtmnojcnimncbpaaPd
namespace Go.Proofs.Ytmnojcnimncbpaa
open Go.Ev
open Go.RowKit
noncomputable def fs3 : T EF := (.node (.node (.node (.node (.node (.node (.node .nil (some e63) .nil) none .nil) (some e15) .nil) none (.node (.node .nil none (.node .nil (some e103) .nil)) (some n23) .nil)) (some e3) (.node (.node (.node (.node (.node .nil (some e131) .nil) (some e67) .nil) none (.node .nil (some e99) .nil)) (some e19) (.node (.node (.node .nil (some e147) .nil) none .nil) none .nil)) none (.node (.node .nil none (.node .nil (some e107) .nil)) (some e27) .nil))) none (.node (.node (.node (.node (.node (.node .nil (some e129) .nil) (some e65) .nil) none .nil) (some e17) .nil) none (.node (.node .nil none (.node .nil (some e105) .nil)) (some e25) .nil)) none (.node (.node (.node (.node .nil (some e69) .nil) none (.node .nil (some e101) .nil)) (some e21) .nil) none (.node .nil none (.node .nil (some e61) .nil))))) none (.node (.node (.node (.node (.node (.node .nil (some e64) .nil) none .nil) (some e16) .nil) none (.node (.node .nil none (.node .nil (some e104) .nil)) (some e24) .nil)) none (.node (.node (.node (.node .nil (some e68) .nil) none (.node .nil (some e100) .nil)) (some e20) (.node (.node (.node .nil (some e148) .nil) none .nil) none .nil)) none (.node (.node (.node .nil (some e76) .nil) none (.node .nil (some e108) .nil)) none (.node .nil (some e60) .nil)))) none (.node (.node (.node (.node (.node (.node .nil (some e130) .nil) (some e66) .nil) none (.node .nil (some e98) .nil)) (some e18) .nil) none (.node (.node .nil none (.node .nil (some e106) .nil)) (some e26) .nil)) none (.node (.node (.node .nil none (.node .nil (some e102) .nil)) (some e22) .nil) (some e14) (.node .nil none (.node .nil (some e62) .nil))))))
theorem fs3_ok : Fns rig fs3 := fns_of_each ⟨trivial, ⟨trivial, ⟨.inl code3, ⟨trivial, ⟨.inl code15, ⟨trivial, ⟨.inl code63, trivial, trivial⟩, trivial⟩, trivial⟩, ⟨nat23, ⟨trivial, trivial, ⟨.inl code103, trivial, trivial⟩⟩, trivial⟩⟩, ⟨trivial, ⟨.inl code19, ⟨trivial, ⟨.inl code67, ⟨.inl code131, trivial, trivial⟩, trivial⟩, ⟨.inl code99, trivial, trivial⟩⟩, ⟨trivial, ⟨trivial, ⟨.inl code147, trivial, trivial⟩, trivial⟩, trivial⟩⟩, ⟨.inl code27, ⟨trivial, trivial, ⟨.inl code107, trivial, trivial⟩⟩, trivial⟩⟩⟩, ⟨trivial, ⟨trivial, ⟨.inl code17, ⟨trivial, ⟨.inl code65, ⟨.inl code129, trivial, trivial⟩, trivial⟩, trivial⟩, trivial⟩, ⟨.inl code25, ⟨trivial, trivial, ⟨.inl code105, trivial, trivial⟩⟩, trivial⟩⟩, ⟨trivial, ⟨.inl code21, ⟨trivial, ⟨.inl code69, trivial, trivial⟩, ⟨.inl code101, trivial, trivial⟩⟩, trivial⟩, ⟨trivial, trivial, ⟨.inl code61, trivial, trivial⟩⟩⟩⟩⟩, ⟨trivial, ⟨trivial, ⟨trivial, ⟨.inl code16, ⟨trivial, ⟨.inl code64, trivial, trivial⟩, trivial⟩, trivial⟩, ⟨.inl code24, ⟨trivial, trivial, ⟨.inl code104, trivial, trivial⟩⟩, trivial⟩⟩, ⟨trivial, ⟨.inl code20, ⟨trivial, ⟨.inl code68, trivial, trivial⟩, ⟨.inl code100, trivial, trivial⟩⟩, ⟨trivial, ⟨trivial, ⟨.inl code148, trivial, trivial⟩, trivial⟩, trivial⟩⟩, ⟨trivial, ⟨trivial, ⟨.inl code76, trivial, trivial⟩, ⟨.inl code108, trivial, trivial⟩⟩, ⟨.inl code60, trivial, trivial⟩⟩⟩⟩, ⟨trivial, ⟨trivial, ⟨.inl code18, ⟨trivial, ⟨.inl code66, ⟨.inl code130, trivial, trivial⟩, trivial⟩, ⟨.inl code98, trivial, trivial⟩⟩, trivial⟩, ⟨.inl code26, ⟨trivial, trivial, ⟨.inl code106, trivial, trivial⟩⟩, trivial⟩⟩, ⟨.inl code14, ⟨.inl code22, ⟨trivial, trivial, ⟨.inl code102, trivial, trivial⟩⟩, trivial⟩, ⟨trivial, trivial, ⟨.inl code62, trivial, trivial⟩⟩⟩⟩⟩⟩
theorem get23 : fs3.get (K.ofNat 23) = some n23 := by kernel_rfl
theorem callsL : CallsCk fs3 where
  c17 := by kernel_rfl
  c60 := by kernel_rfl
  c61 := by kernel_rfl
  c98 := by kernel_rfl
  c129 := by kernel_rfl
  c147 := by kernel_rfl
  c62 := by kernel_rfl
  c99 := by kernel_rfl
  c100 := by kernel_rfl
  c101 := by kernel_rfl
  c102 := by kernel_rfl
  c130 := by kernel_rfl
  c64 := by kernel_rfl
  c63 := by kernel_rfl
  c65 := by kernel_rfl
  c66 := by kernel_rfl
  c103 := by kernel_rfl
  c104 := by kernel_rfl
  c105 := by kernel_rfl
  c106 := by kernel_rfl
  c131 := by kernel_rfl
  c148 := by kernel_rfl
  c14 := by kernel_rfl
  c15 := by kernel_rfl
  c16 := by kernel_rfl
  c18 := by kernel_rfl
  c19 := by kernel_rfl
  c20 := by kernel_rfl
  c21 := by kernel_rfl
  c22 := by kernel_rfl
  c24 := by kernel_rfl
  c25 := by kernel_rfl
  c26 := by kernel_rfl
  c27 := by kernel_rfl
  c67 := by kernel_rfl
  aw := fun h P => callP_flat (g := tabG [([], .b true)]) get23 rfl rfl
theorem law_call {W : World} (x0 : Int) {val1 : Value} {n1 : Nat} {L1 : List Int} (a1 : SlArgK 2 W val1 n1 L1) (b1 : n1 ≤ 9223372036854775807) {val2 : Value} {L2 : List Int} (a2 : SlArg W val2 L2) : Calls Try.prog 3 #[.int .i64 x0, val1, val2] W fun e W' => e = .returned (.bool true) ∧ Below W.heap.size W W' := by
  obtain ⟨ι1, m1, u1, r1, x1_, v1, s1, g1⟩ := (Roms.nil (Y := rig) (W := W)).addK (by omega) a1
  obtain ⟨ι2, m2, u2, r2, x2_, v2, s2, g2⟩ := (r1).add a2
  exact r2.call (k := (.o (.o .e))) (ef := f3) fs3_ok (show f3.nv = none ∧ ∃ fn c, FnOk rig (.o (.o .e)) f3 fn c from code3) (VRs.cons (.i _ _) (VRs.cons (v1.mono x2_) (VRs.cons v2 VRs.nil))) (f3_ret callsL ((s1.srp a1.le).grow r1.hc g2) s2 (pairsOf_le b1) r2.hc)
end Go.Proofs.Ytmnojcnimncbpaa
