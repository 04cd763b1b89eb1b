/-
  ShellsHollows, called.
-/
import Derived.Test.YtneacehpoaambaaHoE
namespace Go.Proofs.Ytneacehpoaambaa
open Go.Ev
open Go.RowKit
noncomputable def fs2 : T EF := (.node (.node (.node (.node (.node (.node .nil (some e31) .nil) none (.node .nil (some e47) .nil)) none (.node .nil none (.node .nil (some e55) .nil))) none (.node (.node (.node (.node .nil (some e67) .nil) none .nil) none (.node (.node .nil (some e83) .nil) none .nil)) none (.node (.node (.node .nil (some n75) .nil) none .nil) (some e27) (.node (.node .nil (some e91) .nil) none .nil)))) none (.node (.node (.node (.node (.node .nil (some e65) .nil) (some e33) .nil) none (.node .nil (some e49) .nil)) none (.node (.node (.node .nil (some e73) .nil) none .nil) none (.node (.node .nil (some e89) .nil) (some e57) .nil))) none (.node (.node .nil none (.node .nil (some n53) .nil)) none (.node (.node .nil (some e45) .nil) (some n29) (.node (.node .nil (some e93) .nil) none .nil))))) none (.node (.node (.node (.node (.node (.node .nil (some e64) .nil) (some e32) .nil) (some e16) .nil) (some e8) .nil) none (.node (.node (.node (.node .nil (some e68) .nil) none .nil) none (.node .nil (some n52) .nil)) none (.node (.node .nil (some e44) .nil) (some e28) (.node (.node .nil (some e92) .nil) none .nil)))) none (.node (.node (.node (.node (.node .nil (some e66) .nil) none .nil) none (.node (.node .nil (some e82) .nil) none .nil)) none (.node (.node (.node .nil (some e74) .nil) none .nil) (some e26) .nil)) none (.node (.node .nil none (.node .nil (some n54) .nil)) none (.node (.node (.node .nil (some e78) .nil) (some e46) .nil) (some e30) (.node (.node .nil (some e94) .nil) none .nil))))))
theorem fs2_ok : Fns rig fs2 := fns_of_each ⟨trivial, ⟨trivial, ⟨trivial, ⟨trivial, ⟨trivial, ⟨.inl code31, trivial, trivial⟩, ⟨.inl code47, trivial, trivial⟩⟩, ⟨trivial, trivial, ⟨.inl code55, trivial, trivial⟩⟩⟩, ⟨trivial, ⟨trivial, ⟨trivial, ⟨.inl code67, trivial, trivial⟩, trivial⟩, ⟨trivial, ⟨.inl code83, trivial, trivial⟩, trivial⟩⟩, ⟨.inl code27, ⟨trivial, ⟨nat75, trivial, trivial⟩, trivial⟩, ⟨trivial, ⟨.inl code91, trivial, trivial⟩, trivial⟩⟩⟩⟩, ⟨trivial, ⟨trivial, ⟨trivial, ⟨.inl code33, ⟨.inl code65, trivial, trivial⟩, trivial⟩, ⟨.inl code49, trivial, trivial⟩⟩, ⟨trivial, ⟨trivial, ⟨.inl code73, trivial, trivial⟩, trivial⟩, ⟨.inl code57, ⟨.inl code89, trivial, trivial⟩, trivial⟩⟩⟩, ⟨trivial, ⟨trivial, trivial, ⟨nat53, trivial, trivial⟩⟩, ⟨nat29, ⟨.inl code45, trivial, trivial⟩, ⟨trivial, ⟨.inl code93, trivial, trivial⟩, trivial⟩⟩⟩⟩⟩, ⟨trivial, ⟨trivial, ⟨.inl code8, ⟨.inl code16, ⟨.inl code32, ⟨.inl code64, trivial, trivial⟩, trivial⟩, trivial⟩, trivial⟩, ⟨trivial, ⟨trivial, ⟨trivial, ⟨.inl code68, trivial, trivial⟩, trivial⟩, ⟨nat52, trivial, trivial⟩⟩, ⟨.inl code28, ⟨.inl code44, trivial, trivial⟩, ⟨trivial, ⟨.inl code92, trivial, trivial⟩, trivial⟩⟩⟩⟩, ⟨trivial, ⟨trivial, ⟨trivial, ⟨trivial, ⟨.inl code66, trivial, trivial⟩, trivial⟩, ⟨trivial, ⟨.inl code82, trivial, trivial⟩, trivial⟩⟩, ⟨.inl code26, ⟨trivial, ⟨.inl code74, trivial, trivial⟩, trivial⟩, trivial⟩⟩, ⟨trivial, ⟨trivial, trivial, ⟨nat54, trivial, trivial⟩⟩, ⟨.inl code30, ⟨.inl code46, ⟨.inl code78, trivial, trivial⟩, trivial⟩, ⟨trivial, ⟨.inl code94, trivial, trivial⟩, trivial⟩⟩⟩⟩⟩⟩
theorem popG_at {m : Nat} (hm : m < 64) : popG [.i .i64 (m : Int)] = some (.i .i64 (pop6 m : Int)) := by
  show (bif Nat.blt m 64 then some (V.i .i64 (.ofNat (pop6 m))) else none) = _
  rw [show Nat.blt m 64 = true from Nat.ble_eq_true_of_le hm]; rfl
theorem get52 : fs2.get (K.ofNat 52) = some n52 := by kernel_rfl
theorem get75 : fs2.get (K.ofNat 75) = some n75 := by kernel_rfl
theorem get53 : fs2.get (K.ofNat 53) = some n53 := by kernel_rfl
theorem get54 : fs2.get (K.ofNat 54) = some n54 := by kernel_rfl
theorem get29 : fs2.get (K.ofNat 29) = some n29 := by kernel_rfl
theorem get32 : fs2.get (K.ofNat 32) = some izF := by kernel_rfl
theorem calls8 : Calls8 fs2 where
  p53 := fun a b h P => callP_flat (g := partG) get53 rfl rfl
  p54 := fun a b h P => callP_flat (g := partG) get54 rfl rfl
  p52 := fun m hm h P => callP_flat (g := popG) get52 rfl (popG_at hm)
  p75 := fun m hm h P => callP_flat (g := popG) get75 rfl (popG_at hm)
  aw := fun h P => callP_flat (g := tabG [([], .b true)]) get29 rfl rfl
  c32 := fun h v u L M P h1 h2 h3 h4 => callP_ints get32 h1 h2 h3 h4
  pt := ⟨_, get54, rfl⟩
  c16 := by kernel_rfl
  c26 := by kernel_rfl
  c27 := by kernel_rfl
  c28 := by kernel_rfl
  c30 := by kernel_rfl
  c31 := by kernel_rfl
  c33 := by kernel_rfl
  c44 := by kernel_rfl
  c45 := by kernel_rfl
  c46 := by kernel_rfl
  c47 := by kernel_rfl
  c49 := by kernel_rfl
  c55 := by kernel_rfl
  c57 := by kernel_rfl
  c64 := by kernel_rfl
  c65 := by kernel_rfl
  c66 := by kernel_rfl
  c67 := by kernel_rfl
  c68 := by kernel_rfl
  c73 := by kernel_rfl
  c74 := by kernel_rfl
  c78 := by kernel_rfl
  c82 := by kernel_rfl
  c83 := by kernel_rfl
  c89 := by kernel_rfl
  c91 := by kernel_rfl
  c92 := by kernel_rfl
  c93 := by kernel_rfl
  c94 := by kernel_rfl
theorem hollows_call {W : World} {val : Value} {L : List Int} (ha : SlArg W val L) (n d : Int) : Calls Try.prog 8 #[.int .i64 n, val, .int .i64 d] W fun e W' => e = .returned (.bool true) ∧ Below W.heap.size W W' :=
  call_slice (Y := rig) (k := (.z (.o (.o .e)))) (ef := f8) fs2_ok (show f8.nv = none ∧ ∃ fn c, FnOk rig (.z (.o (.o .e))) f8 fn c from code8) (mk := fun v => [.i .i64 n, v, .i .i64 d]) (mkV := fun v => [.int .i64 n, v, .int .i64 d])
    (fun _ _ _ hv => VRs.cons (.i _ _) (VRs.cons hv (VRs.cons (.i _ _) VRs.nil))) (fun _ _ hc hv => f8_ret calls8 facts8 hv hc) ha
end Go.Proofs.Ytneacehpoaambaa
