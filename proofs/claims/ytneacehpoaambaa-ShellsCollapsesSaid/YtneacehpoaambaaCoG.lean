/-
  ShellsCollapses, called.
-/
import Derived.Test.YtneacehpoaambaaCoE
namespace Go.Proofs.Ytneacehpoaambaa
open Go.Ev
open Go.RowKit
noncomputable def fs2 : T EF := (.node (.node (.node (.node (.node (.node (.node .nil (some e63) .nil) (some e31) .nil) none .nil) (some e7) (.node .nil none (.node (.node .nil (some e87) .nil) (some e55) .nil))) none (.node .nil none (.node (.node (.node .nil (some n75) .nil) (some e43) .nil) none (.node (.node .nil (some e91) .nil) none .nil)))) none (.node (.node (.node (.node .nil (some e33) .nil) none (.node .nil (some e49) .nil)) none (.node (.node (.node .nil (some e73) .nil) (some e41) .nil) (some e25) (.node (.node .nil (some e89) .nil) (some e57) .nil))) none (.node (.node .nil none (.node (.node .nil (some e85) .nil) (some n53) .nil)) none (.node (.node (.node .nil (some e77) .nil) (some e45) .nil) (some n29) (.node (.node .nil (some e93) .nil) none .nil))))) none (.node (.node (.node (.node (.node (.node .nil (some e64) .nil) (some e32) .nil) (some e16) .nil) none (.node (.node (.node .nil (some e72) .nil) (some e40) .nil) (some e24) (.node (.node .nil (some e88) .nil) (some e56) .nil))) none (.node (.node .nil none (.node (.node .nil (some e84) .nil) (some e52) .nil)) none (.node (.node .nil (some e44) .nil) none (.node (.node .nil (some e92) .nil) none .nil)))) none (.node (.node (.node .nil none (.node (.node .nil (some e82) .nil) none .nil)) none (.node (.node (.node .nil (some e74) .nil) (some e42) .nil) none (.node (.node .nil (some e90) .nil) none .nil))) none (.node (.node .nil none (.node (.node .nil (some e86) .nil) (some n54) .nil)) none (.node (.node (.node .nil (some e78) .nil) none .nil) (some e30) (.node (.node .nil (some e94) .nil) (some e62) .nil))))))
theorem fs2_ok : Fns rig fs2 := fns_of_each ⟨trivial, ⟨trivial, ⟨trivial, ⟨.inl code7, ⟨trivial, ⟨.inl code31, ⟨.inl code63, trivial, trivial⟩, trivial⟩, trivial⟩, ⟨trivial, trivial, ⟨.inl code55, ⟨.inl code87, trivial, trivial⟩, trivial⟩⟩⟩, ⟨trivial, trivial, ⟨trivial, ⟨.inl code43, ⟨nat75, trivial, trivial⟩, trivial⟩, ⟨trivial, ⟨.inl code91, trivial, trivial⟩, trivial⟩⟩⟩⟩, ⟨trivial, ⟨trivial, ⟨trivial, ⟨.inl code33, trivial, trivial⟩, ⟨.inl code49, trivial, trivial⟩⟩, ⟨.inl code25, ⟨.inl code41, ⟨.inl code73, trivial, trivial⟩, trivial⟩, ⟨.inl code57, ⟨.inl code89, trivial, trivial⟩, trivial⟩⟩⟩, ⟨trivial, ⟨trivial, trivial, ⟨nat53, ⟨.inl code85, trivial, trivial⟩, trivial⟩⟩, ⟨nat29, ⟨.inl code45, ⟨.inl code77, trivial, trivial⟩, trivial⟩, ⟨trivial, ⟨.inl code93, trivial, trivial⟩, trivial⟩⟩⟩⟩⟩, ⟨trivial, ⟨trivial, ⟨trivial, ⟨.inl code16, ⟨.inl code32, ⟨.inl code64, trivial, trivial⟩, trivial⟩, trivial⟩, ⟨.inl code24, ⟨.inl code40, ⟨.inl code72, trivial, trivial⟩, trivial⟩, ⟨.inl code56, ⟨.inl code88, trivial, trivial⟩, trivial⟩⟩⟩, ⟨trivial, ⟨trivial, trivial, ⟨.inl code52, ⟨.inl code84, trivial, trivial⟩, trivial⟩⟩, ⟨trivial, ⟨.inl code44, trivial, trivial⟩, ⟨trivial, ⟨.inl code92, trivial, trivial⟩, trivial⟩⟩⟩⟩, ⟨trivial, ⟨trivial, ⟨trivial, trivial, ⟨trivial, ⟨.inl code82, trivial, trivial⟩, trivial⟩⟩, ⟨trivial, ⟨.inl code42, ⟨.inl code74, trivial, trivial⟩, trivial⟩, ⟨trivial, ⟨.inl code90, trivial, trivial⟩, trivial⟩⟩⟩, ⟨trivial, ⟨trivial, trivial, ⟨nat54, ⟨.inl code86, trivial, trivial⟩, trivial⟩⟩, ⟨.inl code30, ⟨trivial, ⟨.inl code78, trivial, trivial⟩, trivial⟩, ⟨.inl code62, ⟨.inl code94, trivial, trivial⟩, trivial⟩⟩⟩⟩⟩⟩
theorem popG_at {m : Nat} (hm : m < 64) : popG [.i .i64 (m : Int)] = some (.i .i64 (pop6 m : Int)) := by
  show (bif Nat.blt m 64 then some (V.i .i64 (.ofNat (pop6 m))) else none) = _
  rw [show Nat.blt m 64 = true from Nat.ble_eq_true_of_le hm]; rfl
theorem get75 : fs2.get (K.ofNat 75) = some n75 := by kernel_rfl
theorem get53 : fs2.get (K.ofNat 53) = some n53 := by kernel_rfl
theorem get54 : fs2.get (K.ofNat 54) = some n54 := by kernel_rfl
theorem get29 : fs2.get (K.ofNat 29) = some n29 := by kernel_rfl
theorem get32 : fs2.get (K.ofNat 32) = some izF := by kernel_rfl
theorem callsL : Calls7 fs2 where
  p54 := fun a b h P => callP_flat (g := partG) get54 rfl rfl
  pt := ⟨_, get54, rfl⟩
  c55 := by kernel_rfl
  c78 := by kernel_rfl
  c82 := by kernel_rfl
  c85 := by kernel_rfl
  c86 := by kernel_rfl
  c87 := by kernel_rfl
  c88 := by kernel_rfl
  c91 := by kernel_rfl
  c92 := by kernel_rfl
  p75 := fun m hm h P => callP_flat (g := popG) get75 rfl (popG_at hm)
  c57 := by kernel_rfl
  c62 := by kernel_rfl
  c64 := by kernel_rfl
  c84 := by kernel_rfl
  c89 := by kernel_rfl
  c93 := by kernel_rfl
  c94 := by kernel_rfl
  c16 := by kernel_rfl
  p53 := fun a b h P => callP_flat (g := partG) get53 rfl rfl
  aw := fun h P => callP_flat (g := tabG [([], .b true)]) get29 rfl rfl
  c32 := fun h v u L M P h1 h2 h3 h4 => callP_ints get32 h1 h2 h3 h4
  c24 := by kernel_rfl
  c25 := by kernel_rfl
  c30 := by kernel_rfl
  c31 := by kernel_rfl
  c33 := by kernel_rfl
  c40 := by kernel_rfl
  c41 := by kernel_rfl
  c42 := by kernel_rfl
  c43 := by kernel_rfl
  c44 := by kernel_rfl
  c45 := by kernel_rfl
  c49 := by kernel_rfl
  c52 := by kernel_rfl
  c56 := by kernel_rfl
  c63 := by kernel_rfl
  c72 := by kernel_rfl
  c73 := by kernel_rfl
  c74 := by kernel_rfl
  c77 := by kernel_rfl
  c90 := by kernel_rfl
theorem law_call {W : World} (x0 : Int) {val1 : Value} {L1 : List Int} (a1 : SlArg W val1 L1) {val2 : Value} {n2 : Nat} {L2 : List Int} (a2 : SlArgK 2 W val2 n2 L2) (b2 : ∀ z ∈ L2, inR .i64 z = true) : Calls Try.prog 7 #[.int .i64 x0, val1, val2] W fun e W' => e = .returned (.bool true) ∧ Below W.heap.size W W' := by
  obtain ⟨ι1, m1, u1, r1, x1_, v1, s1, g1⟩ := (Roms.nil (Y := rig) (W := W)).add a1
  obtain ⟨ι2, m2, u2, r2, x2_, v2, s2, g2⟩ := (r1).addK (by omega) a2
  exact r2.call (k := (.o (.o (.o .e)))) (ef := f7) fs2_ok (show f7.nv = none ∧ ∃ fn c, FnOk rig (.o (.o (.o .e))) f7 fn c from code7) (VRs.cons (.i _ _) (VRs.cons (v1.mono x2_) (VRs.cons v2 VRs.nil))) (f7_ret callsL (s1.grow r1.hc g2) (s2.srp a2.le) (pairsOf_in b2) r2.hc)
end Go.Proofs.Ytneacehpoaambaa
