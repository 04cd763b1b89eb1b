/-
  LabelsCovers, called.
-/
import Derived.Test.YtmnojcnimncbpaaLvE
import Derived.Test.YtmnojcnimncbpaaPg
import Derived.Test.YtmnojcnimncbpaaPd
namespace Go.Proofs.Ytmnojcnimncbpaa
open Go.Ev
open Go.RowKit
noncomputable def fs3 : T EF := (.node (.node (.node (.node .nil (some e7) (.node (.node (.node .nil (some e71) .nil) (some e39) .nil) (some n23) .nil)) none .nil) none (.node .nil none (.node (.node (.node .nil (some e37) .nil) none .nil) none .nil))) none (.node (.node (.node .nil none (.node (.node (.node .nil (some e72) .nil) none .nil) none .nil)) none (.node .nil none (.node .nil none (.node .nil (some e60) .nil)))) none (.node .nil none (.node (.node (.node .nil (some e38) .nil) none .nil) (some e14) .nil))))
theorem fs3_ok : Fns rig fs3 := fns_of_each ⟨trivial, ⟨trivial, ⟨trivial, ⟨.inl code7, trivial, ⟨nat23, ⟨.inl code39, ⟨.inl code71, trivial, trivial⟩, trivial⟩, trivial⟩⟩, trivial⟩, ⟨trivial, trivial, ⟨trivial, ⟨trivial, ⟨.inl code37, trivial, trivial⟩, trivial⟩, trivial⟩⟩⟩, ⟨trivial, ⟨trivial, ⟨trivial, trivial, ⟨trivial, ⟨trivial, ⟨.inl code72, trivial, trivial⟩, trivial⟩, trivial⟩⟩, ⟨trivial, trivial, ⟨trivial, trivial, ⟨.inl code60, trivial, trivial⟩⟩⟩⟩, ⟨trivial, trivial, ⟨.inl code14, ⟨trivial, ⟨.inl code38, trivial, trivial⟩, trivial⟩, trivial⟩⟩⟩⟩
theorem get23 : fs3.get (K.ofNat 23) = some n23 := by kernel_rfl
theorem callsL : CallsCo fs3 where
  c37 := by kernel_rfl
  c60 := by kernel_rfl
  c71 := by kernel_rfl
  c72 := by kernel_rfl
  c14 := by kernel_rfl
  c38 := by kernel_rfl
  c39 := by kernel_rfl
  aw := fun h P => callP_flat (g := tabG [([], .b true)]) get23 rfl rfl
theorem law_call {W : World} (x0 : Int) {val1 : Value} {n1 : Nat} {A1 : List NA} (a1 : NArg 2 W val1 n1 A1) (x2 : Int) : Calls Try.prog 7 #[.int .i64 x0, val1, .int .i64 x2] W fun e W' => e = .returned (.bool true) ∧ Below W.heap.size W W' := by
  obtain ⟨ι1, m1, u1, us1, r1, x1_, v1, s1, l1, t1, k1, g1⟩ := (Roms.nil (Y := rig) (W := W)).addN (by omega) a1
  exact r1.call (k := (.o (.o (.o .e)))) (ef := f7) fs3_ok (show f7.nv = none ∧ ∃ fn c, FnOk rig (.o (.o (.o .e))) f7 fn c from code7) (VRs.cons (.i _ _) (VRs.cons v1 (VRs.cons (.i _ _) VRs.nil))) (f7_ret callsL (nrp_of s1 l1 t1 k1 a1) r1.hc)
end Go.Proofs.Ytmnojcnimncbpaa
