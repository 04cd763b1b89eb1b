/-
  LabelsRuler, called.
-/
import Derived.Test.YtbpiomajalfclaaLrE
import Derived.Test.YtbpiomajalfclaaPf
import Derived.Test.YtbpiomajalfclaaPd
namespace Go.Proofs.Ytbpiomajalfclaa
open Go.Ev
open Go.RowKit
noncomputable def fs3 : T EF := (.node (.node (.node (.node (.node .nil none (.node .nil (some e47) .nil)) none (.node .nil (some n23) .nil)) none .nil) none (.node .nil none (.node (.node .nil none (.node (.node (.node .nil (some e149) .nil) none .nil) none .nil)) none (.node (.node (.node .nil (some e77) .nil) (some e45) .nil) none .nil)))) none (.node (.node .nil none (.node (.node (.node (.node (.node .nil (some e132) .nil) none .nil) none (.node .nil (some e100) .nil)) none .nil) none (.node (.node .nil (some e44) .nil) none .nil))) none (.node (.node .nil (some e10) .nil) none (.node .nil none (.node (.node (.node .nil (some e78) .nil) (some e46) (.node .nil (some e110) .nil)) (some e30) .nil)))))
theorem fs3_ok : Fns rig fs3 := fns_of_each ⟨trivial, ⟨trivial, ⟨trivial, ⟨trivial, ⟨trivial, trivial, ⟨.inl code47, trivial, trivial⟩⟩, ⟨nat23, trivial, trivial⟩⟩, trivial⟩, ⟨trivial, trivial, ⟨trivial, ⟨trivial, trivial, ⟨trivial, ⟨trivial, ⟨.inl code149, trivial, trivial⟩, trivial⟩, trivial⟩⟩, ⟨trivial, ⟨.inl code45, ⟨.inl code77, trivial, trivial⟩, trivial⟩, trivial⟩⟩⟩⟩, ⟨trivial, ⟨trivial, trivial, ⟨trivial, ⟨trivial, ⟨trivial, ⟨trivial, ⟨.inl code132, trivial, trivial⟩, trivial⟩, ⟨.inl code100, trivial, trivial⟩⟩, trivial⟩, ⟨trivial, ⟨.inl code44, trivial, trivial⟩, trivial⟩⟩⟩, ⟨trivial, ⟨.inl code10, trivial, trivial⟩, ⟨trivial, trivial, ⟨.inl code30, ⟨.inl code46, ⟨.inl code78, trivial, trivial⟩, ⟨.inl code110, trivial, trivial⟩⟩, trivial⟩⟩⟩⟩⟩
theorem get23 : fs3.get (K.ofNat 23) = some n23 := by kernel_rfl
theorem callsL : CallsRl fs3 where
  aw := fun h P => callP_flat (g := tabG [([], .b true)]) get23 rfl rfl
  c78 := by kernel_rfl
  c149 := by kernel_rfl
  c132 := by kernel_rfl
  c77 := by kernel_rfl
  c110 := by kernel_rfl
  c100 := by kernel_rfl
  c44 := by kernel_rfl
  c45 := by kernel_rfl
  c46 := by kernel_rfl
  c47 := by kernel_rfl
  c30 := by kernel_rfl
theorem hc0 : HC ⟨.e, .nil⟩ := fun id _ => by
  show getB (T.get id T.nil) = _
  rw [T.get_nil]; rfl
theorem law_gives (n : Int) : ∃ N, givesB fs3 N e10 [.i .i64 n] (.b true) = true := by
  obtain ⟨N, v, h', he, rfl, _⟩ := f10_ret (fs := fs3) (n := n) callsL hc0
  refine ⟨N, ?_⟩
  have he : callF (eval fs3 N) e10 [.i .i64 n] ⟨.e, .nil⟩ = .ok (.b true) h' := he
  unfold givesB
  rw [he]; rfl
theorem law_call (n : Int) (w : World) : Calls Try.prog 10 #[.int .i64 n] w fun e w' => e = .returned (.bool true) ∧ Below w.heap.size w w' := by
  obtain ⟨N, hN⟩ := law_gives n
  have hg := gives_of_eval fs3_ok code10 rfl rfl hN (fun _ => none) [.int .i64 n] w (VRs.cons (.i _ _) VRs.nil)
  refine (callsIn_wide.1 hg).mono ?_
  rintro e w' ⟨v', rfl, hv, h1, h2, h3, h4, h5⟩
  have := (hv fun _ => none).of_b
  subst this
  exact ⟨rfl, h1, h2, h3, h4, h5⟩
end Go.Proofs.Ytbpiomajalfclaa
