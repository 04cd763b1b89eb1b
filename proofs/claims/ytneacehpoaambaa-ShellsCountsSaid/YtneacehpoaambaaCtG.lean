/-
  ShellsCounts, called.
-/
import Derived.Test.YtneacehpoaambaaCtE
namespace Go.Proofs.Ytneacehpoaambaa
open Go.Ev
open Go.RowKit
noncomputable def fs2 : T EF := (.node (.node (.node (.node (.node (.node .nil (some e31) .nil) none .nil) none (.node .nil none (.node .nil (some e55) .nil))) none (.node (.node (.node .nil (some e35) .nil) (some e19) .nil) none (.node (.node (.node .nil (some n75) .nil) none .nil) none (.node (.node .nil (some e91) .nil) none .nil)))) none (.node (.node (.node (.node .nil (some e33) .nil) (some e17) (.node .nil (some e49) .nil)) none (.node .nil none (.node .nil (some e57) .nil))) none (.node (.node (.node (.node .nil (some n69) .nil) none .nil) none (.node .nil (some n53) .nil)) none (.node (.node (.node .nil (some e77) .nil) (some e45) .nil) (some n29) .nil)))) none (.node (.node (.node (.node (.node .nil (some e32) .nil) (some e16) .nil) none (.node .nil none (.node .nil (some e56) .nil))) (some e4) (.node (.node .nil (some e20) (.node .nil (some n52) .nil)) none .nil)) none (.node (.node (.node (.node .nil (some e34) .nil) (some e18) .nil) none (.node .nil none (.node (.node .nil (some e90) .nil) none .nil))) none (.node (.node .nil none (.node .nil (some n54) .nil)) none (.node (.node (.node .nil (some e78) .nil) none .nil) (some e30) .nil)))))
theorem fs2_ok : Fns rig fs2 := fns_of_each ⟨trivial, ⟨trivial, ⟨trivial, ⟨trivial, ⟨trivial, ⟨.inl code31, trivial, trivial⟩, trivial⟩, ⟨trivial, trivial, ⟨.inl code55, trivial, trivial⟩⟩⟩, ⟨trivial, ⟨.inl code19, ⟨.inl code35, trivial, trivial⟩, trivial⟩, ⟨trivial, ⟨trivial, ⟨nat75, trivial, trivial⟩, trivial⟩, ⟨trivial, ⟨.inl code91, trivial, trivial⟩, trivial⟩⟩⟩⟩, ⟨trivial, ⟨trivial, ⟨.inl code17, ⟨.inl code33, trivial, trivial⟩, ⟨.inl code49, trivial, trivial⟩⟩, ⟨trivial, trivial, ⟨.inl code57, trivial, trivial⟩⟩⟩, ⟨trivial, ⟨trivial, ⟨trivial, ⟨nat69, trivial, trivial⟩, trivial⟩, ⟨nat53, trivial, trivial⟩⟩, ⟨nat29, ⟨.inl code45, ⟨.inl code77, trivial, trivial⟩, trivial⟩, trivial⟩⟩⟩⟩, ⟨trivial, ⟨.inl code4, ⟨trivial, ⟨.inl code16, ⟨.inl code32, trivial, trivial⟩, trivial⟩, ⟨trivial, trivial, ⟨.inl code56, trivial, trivial⟩⟩⟩, ⟨trivial, ⟨.inl code20, trivial, ⟨nat52, trivial, trivial⟩⟩, trivial⟩⟩, ⟨trivial, ⟨trivial, ⟨.inl code18, ⟨.inl code34, trivial, trivial⟩, trivial⟩, ⟨trivial, trivial, ⟨trivial, ⟨.inl code90, trivial, trivial⟩, trivial⟩⟩⟩, ⟨trivial, ⟨trivial, trivial, ⟨nat54, trivial, trivial⟩⟩, ⟨.inl code30, ⟨trivial, ⟨.inl code78, trivial, trivial⟩, trivial⟩, trivial⟩⟩⟩⟩⟩
theorem popG_at {m : Nat} (hm : m < 64) : popG [.i .i64 (m : Int)] = some (.i .i64 (pop6 m : Int)) := by
  show (bif Nat.blt m 64 then some (V.i .i64 (.ofNat (pop6 m))) else none) = _
  rw [show Nat.blt m 64 = true from Nat.ble_eq_true_of_le hm]; rfl
theorem get52 : fs2.get (K.ofNat 52) = some n52 := by kernel_rfl
theorem get75 : fs2.get (K.ofNat 75) = some n75 := by kernel_rfl
theorem get53 : fs2.get (K.ofNat 53) = some n53 := by kernel_rfl
theorem get54 : fs2.get (K.ofNat 54) = some n54 := by kernel_rfl
theorem get69 : fs2.get (K.ofNat 69) = some n69 := by kernel_rfl
theorem get29 : fs2.get (K.ofNat 29) = some n29 := by kernel_rfl
theorem get32 : fs2.get (K.ofNat 32) = some izF := by kernel_rfl
theorem calls4 : Calls4 fs2 where
  p53 := fun a b h P => callP_flat (g := partG) get53 rfl rfl
  p54 := fun a b h P => callP_flat (g := partG) get54 rfl rfl
  p52 := fun m hm h P => callP_flat (g := popG) get52 rfl (popG_at hm)
  p75 := fun m hm h P => callP_flat (g := popG) get75 rfl (popG_at hm)
  ch := fun n k h1 h2 h P => callP_flat (g := tabG chT) get69 rfl (chCase h1 h2)
  aw := fun h P => callP_flat (g := tabG [([], .b true)]) get29 rfl rfl
  c32 := fun h v u L M P h1 h2 h3 h4 => callP_ints get32 h1 h2 h3 h4
  c16 := by kernel_rfl
  c17 := by kernel_rfl
  c18 := by kernel_rfl
  c19 := by kernel_rfl
  c20 := by kernel_rfl
  c30 := by kernel_rfl
  c31 := by kernel_rfl
  c33 := by kernel_rfl
  c34 := by kernel_rfl
  c35 := by kernel_rfl
  c45 := by kernel_rfl
  c49 := by kernel_rfl
  c55 := by kernel_rfl
  c56 := by kernel_rfl
  c57 := by kernel_rfl
  c77 := by kernel_rfl
  c78 := by kernel_rfl
  c90 := by kernel_rfl
  c91 := by kernel_rfl
theorem counts_call {W : World} {val : Value} {L : List Int} (ha : SlArg W val L) (n : Int) : Calls Try.prog 4 #[.int .i64 n, val] W fun e W' => e = .returned (.bool true) ∧ Below W.heap.size W W' :=
  call_slice (Y := rig) (k := (.z (.o .e))) (ef := f4) fs2_ok (show f4.nv = none ∧ ∃ fn c, FnOk rig (.z (.o .e)) f4 fn c from code4) (mk := fun v => [.i .i64 n, v]) (mkV := fun v => [.int .i64 n, v])
    (fun _ _ _ hv => VRs.cons (.i _ _) (VRs.cons hv VRs.nil)) (fun _ _ hc hv => f4_ret calls4 facts4 hv hc) ha
end Go.Proofs.Ytneacehpoaambaa
