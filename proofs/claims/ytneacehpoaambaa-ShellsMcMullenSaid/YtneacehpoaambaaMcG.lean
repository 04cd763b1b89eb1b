/-
  ShellsMcMullen, called.
-/
import Derived.Test.YtneacehpoaambaaMcE
namespace Go.Proofs.Ytneacehpoaambaa
open Go.Ev
open Go.RowKit
noncomputable def fs2 : T EF := (.node (.node (.node (.node (.node .nil none (.node (.node .nil (some e79) .nil) none .nil)) none (.node .nil (some e23) (.node .nil (some e55) .nil))) none (.node (.node .nil (some e19) (.node (.node .nil (some e83) .nil) none .nil)) none (.node (.node (.node .nil (some n75) .nil) none .nil) none (.node (.node .nil (some e91) .nil) (some e59) .nil)))) none (.node (.node (.node .nil none (.node (.node .nil (some e81) .nil) (some e49) .nil)) none (.node .nil none (.node .nil (some e57) .nil))) none (.node (.node .nil (some e21) (.node .nil (some n53) .nil)) none (.node .nil (some n29) (.node .nil (some e61) .nil))))) none (.node (.node (.node (.node (.node .nil (some e32) .nil) (some e16) (.node (.node .nil (some e80) .nil) none .nil)) none .nil) none (.node (.node .nil none (.node .nil (some n52) .nil)) none (.node .nil none (.node (.node .nil (some e92) .nil) (some e60) .nil)))) none (.node (.node (.node .nil none (.node (.node .nil (some e82) .nil) none .nil)) (some e10) (.node .nil none (.node .nil (some e58) .nil))) none (.node (.node (.node .nil (some e38) .nil) none (.node .nil (some n54) .nil)) none (.node (.node (.node .nil (some e78) .nil) none .nil) (some e30) .nil)))))
theorem fs2_ok : Fns rig fs2 := fns_of_each ⟨trivial, ⟨trivial, ⟨trivial, ⟨trivial, ⟨trivial, trivial, ⟨trivial, ⟨.inl code79, trivial, trivial⟩, trivial⟩⟩, ⟨.inl code23, trivial, ⟨.inl code55, trivial, trivial⟩⟩⟩, ⟨trivial, ⟨.inl code19, trivial, ⟨trivial, ⟨.inl code83, trivial, trivial⟩, trivial⟩⟩, ⟨trivial, ⟨trivial, ⟨nat75, trivial, trivial⟩, trivial⟩, ⟨.inl code59, ⟨.inl code91, trivial, trivial⟩, trivial⟩⟩⟩⟩, ⟨trivial, ⟨trivial, ⟨trivial, trivial, ⟨.inl code49, ⟨.inl code81, trivial, trivial⟩, trivial⟩⟩, ⟨trivial, trivial, ⟨.inl code57, trivial, trivial⟩⟩⟩, ⟨trivial, ⟨.inl code21, trivial, ⟨nat53, trivial, trivial⟩⟩, ⟨nat29, trivial, ⟨.inl code61, trivial, trivial⟩⟩⟩⟩⟩, ⟨trivial, ⟨trivial, ⟨trivial, ⟨.inl code16, ⟨.inl code32, trivial, trivial⟩, ⟨trivial, ⟨.inl code80, trivial, trivial⟩, trivial⟩⟩, trivial⟩, ⟨trivial, ⟨trivial, trivial, ⟨nat52, trivial, trivial⟩⟩, ⟨trivial, trivial, ⟨.inl code60, ⟨.inl code92, trivial, trivial⟩, trivial⟩⟩⟩⟩, ⟨trivial, ⟨.inl code10, ⟨trivial, trivial, ⟨trivial, ⟨.inl code82, trivial, trivial⟩, trivial⟩⟩, ⟨trivial, trivial, ⟨.inl code58, trivial, trivial⟩⟩⟩, ⟨trivial, ⟨trivial, ⟨.inl code38, trivial, trivial⟩, ⟨nat54, trivial, trivial⟩⟩, ⟨.inl code30, ⟨trivial, ⟨.inl code78, trivial, trivial⟩, trivial⟩, trivial⟩⟩⟩⟩⟩
theorem popG_at {m : Nat} (hm : m < 64) : popG [.i .i64 (m : Int)] = some (.i .i64 (pop6 m : Int)) := by
  show (bif Nat.blt m 64 then some (V.i .i64 (.ofNat (pop6 m))) else none) = _
  rw [show Nat.blt m 64 = true from Nat.ble_eq_true_of_le hm]; rfl
theorem get52 : fs2.get (K.ofNat 52) = some n52 := by kernel_rfl
theorem get75 : fs2.get (K.ofNat 75) = some n75 := by kernel_rfl
theorem get53 : fs2.get (K.ofNat 53) = some n53 := by kernel_rfl
theorem get54 : fs2.get (K.ofNat 54) = some n54 := by kernel_rfl
theorem get29 : fs2.get (K.ofNat 29) = some n29 := by kernel_rfl
theorem get32 : fs2.get (K.ofNat 32) = some izF := by kernel_rfl
theorem callsL : Calls10 fs2 where
  p54 := fun a b h P => callP_flat (g := partG) get54 rfl rfl
  pt := ⟨_, get54, rfl⟩
  c82 := by kernel_rfl
  c92 := by kernel_rfl
  c83 := by kernel_rfl
  c61 := by kernel_rfl
  c80 := by kernel_rfl
  c79 := by kernel_rfl
  p75 := fun m hm h P => callP_flat (g := popG) get75 rfl (popG_at hm)
  c16 := by kernel_rfl
  c58 := by kernel_rfl
  c60 := by kernel_rfl
  c81 := by kernel_rfl
  p53 := fun a b h P => callP_flat (g := partG) get53 rfl rfl
  p52 := fun m hm h P => callP_flat (g := popG) get52 rfl (popG_at hm)
  aw := fun h P => callP_flat (g := tabG [([], .b true)]) get29 rfl rfl
  c32 := fun h v u L M P h1 h2 h3 h4 => callP_ints get32 h1 h2 h3 h4
  c19 := by kernel_rfl
  c21 := by kernel_rfl
  c23 := by kernel_rfl
  c30 := by kernel_rfl
  c38 := by kernel_rfl
  c49 := by kernel_rfl
  c55 := by kernel_rfl
  c57 := by kernel_rfl
  c59 := by kernel_rfl
  c78 := by kernel_rfl
  c91 := by kernel_rfl
theorem law_call {W : World} {val : Value} {L : List Int} (ha : SlArg W val L) (n : Int) : Calls Try.prog 10 #[.int .i64 n, val] W fun e W' => e = .returned (.bool true) ∧ Below W.heap.size W W' :=
  call_slice (Y := rig) (k := (.z (.z (.o .e)))) (ef := f10) fs2_ok (show f10.nv = none ∧ ∃ fn c, FnOk rig (.z (.z (.o .e))) f10 fn c from code10) (mk := fun v => [.i .i64 n, v]) (mkV := fun v => [.int .i64 n, v])
    (fun _ _ _ hv => VRs.cons (.i _ _) (VRs.cons hv VRs.nil)) (fun _ _ hc hv => f10_ret callsL hv hc) ha
end Go.Proofs.Ytneacehpoaambaa
