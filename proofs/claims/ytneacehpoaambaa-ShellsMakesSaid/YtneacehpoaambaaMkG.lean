/-
  ShellsMakes, called.
-/
import Derived.Test.YtneacehpoaambaaMkFz
namespace Go.Proofs.Ytneacehpoaambaa
open Go.Ev
open Go.RowKit
noncomputable def fs2 : T EF := (.node (.node (.node (.node .nil none (.node .nil none (.node .nil (some e55) .nil))) none (.node (.node (.node (.node .nil (some e67) .nil) none .nil) none (.node .nil (some n51) .nil)) none (.node .nil none (.node (.node .nil (some e91) .nil) none .nil)))) none (.node (.node (.node .nil none (.node .nil (some e49) .nil)) (some e9) .nil) none (.node (.node .nil none (.node .nil (some n53) .nil)) none (.node .nil (some n29) .nil)))) none (.node (.node (.node (.node (.node .nil (some e32) .nil) none (.node .nil (some e48) .nil)) none .nil) none .nil) none (.node (.node (.node (.node (.node .nil (some e66) .nil) none .nil) none (.node .nil (some n50) .nil)) none .nil) none (.node (.node .nil none (.node .nil (some n54) .nil)) (some e14) (.node (.node (.node .nil (some e78) .nil) none .nil) none .nil)))))
theorem fs2_ok : Fns rig fs2 := fns_of_each ⟨trivial, ⟨trivial, ⟨trivial, ⟨trivial, trivial, ⟨trivial, trivial, ⟨.inl code55, trivial, trivial⟩⟩⟩, ⟨trivial, ⟨trivial, ⟨trivial, ⟨.inl code67, trivial, trivial⟩, trivial⟩, ⟨nat51, trivial, trivial⟩⟩, ⟨trivial, trivial, ⟨trivial, ⟨.inl code91, trivial, trivial⟩, trivial⟩⟩⟩⟩, ⟨trivial, ⟨.inl code9, ⟨trivial, trivial, ⟨.inl code49, trivial, trivial⟩⟩, trivial⟩, ⟨trivial, ⟨trivial, trivial, ⟨nat53, trivial, trivial⟩⟩, ⟨nat29, trivial, trivial⟩⟩⟩⟩, ⟨trivial, ⟨trivial, ⟨trivial, ⟨trivial, ⟨.inl code32, trivial, trivial⟩, ⟨.inl code48, trivial, trivial⟩⟩, trivial⟩, trivial⟩, ⟨trivial, ⟨trivial, ⟨trivial, ⟨trivial, ⟨.inl code66, trivial, trivial⟩, trivial⟩, ⟨nat50, trivial, trivial⟩⟩, trivial⟩, ⟨.inl code14, ⟨trivial, trivial, ⟨nat54, trivial, trivial⟩⟩, ⟨trivial, ⟨trivial, ⟨.inl code78, trivial, trivial⟩, trivial⟩, trivial⟩⟩⟩⟩⟩
theorem getP53 : fs2.get (K.ofNat 53) = some n53 := by kernel_rfl
theorem getP54 : fs2.get (K.ofNat 54) = some n54 := by kernel_rfl
theorem calls9 : Calls9 fs2 momL where
  p53 := fun a b h P => callP_flat (g := partG) getP53 rfl rfl
  p54 := fun a b h P => callP_flat (g := partG) getP54 rfl rfl
  aw := fun h P => callP_flat (g := tabG [([], .b true)]) (show fs2.get (K.ofNat 29) = some n29 by kernel_rfl) rfl rfl
  c32 := fun h v u L M P h1 h2 h3 h4 => callP_ints (show fs2.get (K.ofNat 32) = some izF by kernel_rfl) h1 h2 h3 h4
  c14 := by kernel_rfl
  c48 := by kernel_rfl
  c49 := by kernel_rfl
  c55 := by kernel_rfl
  c66 := by kernel_rfl
  c67 := by kernel_rfl
  c78 := by kernel_rfl
  c91 := by kernel_rfl
  m0 := fun n d h P hok hp => callP_mem (g := momG) (show fs2.get (K.ofNat 50) = some n50 by kernel_rfl) rfl (show (bif okM n d then some (V.tup [.sl h.nx 0 (momL n d).length 1, .i .i64 0], newI h (momL n d)) else some (.tup [.sn, .i .i64 1], h)) = _ by rw [hok]; rfl) hp
  m1 := fun n d h P hc hok hp => callP_mem (g := momG) (show fs2.get (K.ofNat 50) = some n50 by kernel_rfl) rfl (show (bif okM n d then some (V.tup [.sl h.nx 0 (momL n d).length 1, .i .i64 0], newI h (momL n d)) else some (.tup [.sn, .i .i64 1], h)) = _ by rw [hok]; rfl) (hp _ _ sl_newI (Grow.new (Nat.le_refl _) _))
  r1 := fun n d h P hc hok hp => callP_mem (g := rmomG) (show fs2.get (K.ofNat 51) = some n51 by kernel_rfl) rfl (show (bif okM n d then some (V.sl h.nx 0 (momL n d).length 1, newI h (momL n d)) else none) = _ by rw [hok]; rfl) (hp _ _ sl_newI (Grow.new (Nat.le_refl _) _))
  ml := momL_len
theorem makes_call {W : World} {val : Value} {L : List Int} (ha : SlArg W val L) (n d : Int) : Calls Try.prog 9 #[.int .i64 n, val, .int .i64 d] W fun e W' => e = .returned (.bool true) ∧ Below W.heap.size W W' :=
  call_slice (Y := rig) (k := (.o (.z (.o .e)))) (ef := f9) fs2_ok (show f9.nv = none ∧ ∃ fn c, FnOk rig (.o (.z (.o .e))) f9 fn c from code9) (mk := fun v => [.i .i64 n, v, .i .i64 d]) (mkV := fun v => [.int .i64 n, v, .int .i64 d])
    (fun ι v v' hv => VRs.cons (.i _ _) (VRs.cons hv (VRs.cons (.i _ _) VRs.nil))) (fun h v hc hv => f9_ret calls9 made9 hv hc) ha
end Go.Proofs.Ytneacehpoaambaa
