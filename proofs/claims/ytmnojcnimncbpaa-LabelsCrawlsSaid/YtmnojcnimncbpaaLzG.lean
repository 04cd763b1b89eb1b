/-
  LabelsCrawls, called.
-/
import Derived.Test.YtmnojcnimncbpaaLzE
import Derived.Test.YtmnojcnimncbpaaPh
import Derived.Test.YtmnojcnimncbpaaPd
namespace Go.Proofs.Ytmnojcnimncbpaa
open Go.Ev
open Go.RowKit
noncomputable def fs3 : T EF := (.node (.node (.node (.node (.node (.node (.node .nil (some e63) .nil) none .nil) none .nil) none (.node .nil (some n23) .nil)) none (.node (.node (.node (.node (.node .nil (some e131) .nil) (some e67) .nil) none (.node .nil (some e99) .nil)) none (.node (.node (.node .nil (some e147) .nil) none .nil) none .nil)) none (.node (.node .nil none (.node .nil (some e107) .nil)) (some e27) .nil))) none (.node (.node (.node (.node (.node (.node .nil (some e129) .nil) none .nil) (some e33) .nil) (some e17) .nil) none (.node (.node (.node .nil (some e73) .nil) (some e41) (.node .nil (some e105) .nil)) none .nil)) none (.node (.node (.node (.node .nil (some e69) .nil) none (.node .nil (some e101) .nil)) none .nil) none (.node .nil none (.node .nil (some e61) .nil))))) none (.node (.node (.node (.node (.node .nil (some e32) .nil) none .nil) (some e8) (.node (.node .nil (some e40) .nil) none .nil)) none (.node (.node (.node (.node .nil (some e68) .nil) none (.node .nil (some e100) .nil)) none (.node (.node (.node .nil (some e148) .nil) none .nil) none .nil)) none (.node (.node (.node .nil (some e76) .nil) none (.node .nil (some e108) .nil)) (some e28) (.node .nil (some e60) .nil)))) none (.node (.node (.node (.node (.node (.node .nil (some e130) .nil) none .nil) none (.node .nil (some e98) .nil)) none .nil) none (.node (.node (.node .nil (some e74) .nil) none (.node .nil (some e106) .nil)) none .nil)) none (.node (.node (.node .nil none (.node .nil (some e102) .nil)) (some e22) .nil) none .nil))))
theorem fs3_ok : Fns rig fs3 := fns_of_each ⟨trivial, ⟨trivial, ⟨trivial, ⟨trivial, ⟨trivial, ⟨trivial, ⟨.inl code63, trivial, trivial⟩, trivial⟩, trivial⟩, ⟨nat23, trivial, trivial⟩⟩, ⟨trivial, ⟨trivial, ⟨trivial, ⟨.inl code67, ⟨.inl code131, trivial, trivial⟩, trivial⟩, ⟨.inl code99, trivial, trivial⟩⟩, ⟨trivial, ⟨trivial, ⟨.inl code147, trivial, trivial⟩, trivial⟩, trivial⟩⟩, ⟨.inl code27, ⟨trivial, trivial, ⟨.inl code107, trivial, trivial⟩⟩, trivial⟩⟩⟩, ⟨trivial, ⟨trivial, ⟨.inl code17, ⟨.inl code33, ⟨trivial, ⟨.inl code129, trivial, trivial⟩, trivial⟩, trivial⟩, trivial⟩, ⟨trivial, ⟨.inl code41, ⟨.inl code73, trivial, trivial⟩, ⟨.inl code105, trivial, trivial⟩⟩, trivial⟩⟩, ⟨trivial, ⟨trivial, ⟨trivial, ⟨.inl code69, trivial, trivial⟩, ⟨.inl code101, trivial, trivial⟩⟩, trivial⟩, ⟨trivial, trivial, ⟨.inl code61, trivial, trivial⟩⟩⟩⟩⟩, ⟨trivial, ⟨trivial, ⟨.inl code8, ⟨trivial, ⟨.inl code32, trivial, trivial⟩, trivial⟩, ⟨trivial, ⟨.inl code40, trivial, trivial⟩, trivial⟩⟩, ⟨trivial, ⟨trivial, ⟨trivial, ⟨.inl code68, trivial, trivial⟩, ⟨.inl code100, trivial, trivial⟩⟩, ⟨trivial, ⟨trivial, ⟨.inl code148, trivial, trivial⟩, trivial⟩, trivial⟩⟩, ⟨.inl code28, ⟨trivial, ⟨.inl code76, trivial, trivial⟩, ⟨.inl code108, trivial, trivial⟩⟩, ⟨.inl code60, trivial, trivial⟩⟩⟩⟩, ⟨trivial, ⟨trivial, ⟨trivial, ⟨trivial, ⟨trivial, ⟨.inl code130, trivial, trivial⟩, trivial⟩, ⟨.inl code98, trivial, trivial⟩⟩, trivial⟩, ⟨trivial, ⟨trivial, ⟨.inl code74, trivial, trivial⟩, ⟨.inl code106, trivial, trivial⟩⟩, trivial⟩⟩, ⟨trivial, ⟨.inl code22, ⟨trivial, trivial, ⟨.inl code102, trivial, trivial⟩⟩, trivial⟩, trivial⟩⟩⟩⟩
theorem get23 : fs3.get (K.ofNat 23) = some n23 := by kernel_rfl
theorem callsL : CallsCw fs3 where
  c76 := by kernel_rfl
  c99 := by kernel_rfl
  c100 := by kernel_rfl
  c101 := by kernel_rfl
  c102 := by kernel_rfl
  c108 := by kernel_rfl
  c130 := by kernel_rfl
  c17 := by kernel_rfl
  c60 := by kernel_rfl
  c61 := by kernel_rfl
  c98 := by kernel_rfl
  c129 := by kernel_rfl
  c147 := by kernel_rfl
  c68 := by kernel_rfl
  c107 := by kernel_rfl
  c63 := by kernel_rfl
  c69 := by kernel_rfl
  c105 := by kernel_rfl
  c106 := by kernel_rfl
  c131 := by kernel_rfl
  c148 := by kernel_rfl
  c73 := by kernel_rfl
  c74 := by kernel_rfl
  c22 := by kernel_rfl
  c27 := by kernel_rfl
  c28 := by kernel_rfl
  c32 := by kernel_rfl
  c33 := by kernel_rfl
  c40 := by kernel_rfl
  c41 := by kernel_rfl
  c67 := by kernel_rfl
  aw := fun h P => callP_flat (g := tabG [([], .b true)]) get23 rfl rfl
theorem law_call {W : World} (x0 : Int) {val1 : Value} {n1 : Nat} {L1 : List Int} (a1 : SlArgK 2 W val1 n1 L1) (b1 : n1 ≤ 9223372036854775807) : Calls Try.prog 8 #[.int .i64 x0, val1] W fun e W' => e = .returned (.bool true) ∧ Below W.heap.size W W' := by
  obtain ⟨ι1, m1, u1, r1, x1_, v1, s1, g1⟩ := (Roms.nil (Y := rig) (W := W)).addK (by omega) a1
  exact r1.call (k := (.z (.o (.o .e)))) (ef := f8) fs3_ok (show f8.nv = none ∧ ∃ fn c, FnOk rig (.z (.o (.o .e))) f8 fn c from code8) (VRs.cons (.i _ _) (VRs.cons v1 VRs.nil)) (f8_ret callsL (s1.srp a1.le) (pairsOf_le b1) r1.hc)
end Go.Proofs.Ytmnojcnimncbpaa
