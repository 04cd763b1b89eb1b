/-
  RoundsMakes, called.
-/
import Derived.Test.YtfephkgdccbobaaRmR20
import Derived.Test.YtfephkgdccbobaaRmR21
import Derived.Test.YtfephkgdccbobaaRmR40
import Derived.Test.YtfephkgdccbobaaRmR41
import Derived.Test.YtfephkgdccbobaaRmR60
import Derived.Test.YtfephkgdccbobaaRmR61
import Derived.Test.YtfephkgdccbobaaRmR80
import Derived.Test.YtfephkgdccbobaaRmR81
import Derived.Test.YtfephkgdccbobaaRmR100
import Derived.Test.YtfephkgdccbobaaRmR101
import Derived.Test.YtfephkgdccbobaaPd
namespace Go.Proofs.Ytfephkgdccbobaa
open Go.Ev
open Go.RowKit
theorem get22 : fs2.get (K.ofNat 22) = some n22 := by kernel_rfl
theorem callsL : Calls5 fs2 where
  aw := fun h P => callP_flat (g := tabG [([], .b true)]) get22 rfl rfl
  c34 := by kernel_rfl
  c35 := by kernel_rfl
  c36 := by kernel_rfl
  c37 := by kernel_rfl
  c41 := by kernel_rfl
  c65 := by kernel_rfl
  run := by
    intro n hn r hr fr
    have go : ∀ m q : Nat, outL (eval fs2 3000 none lawLoop (start fr (.ofNat m) (.ofNat q)) ⟨.e, .nil⟩) = true → ∃ N fr' h', eval fs2 N none (.loop f5_l0) (((fr.set (K.ofNat 0) (.i .i64 (m : Int))).set (K.ofNat 2) (.b false)).set (K.ofNat 3) (.i .i64 (q : Int))) ⟨.e, .nil⟩ = .ok (.exit 0) fr' h' := by
      intro m q h
      obtain ⟨fr', h', e⟩ := outL_ex h
      rw [lawLoop_eq] at e
      exact ⟨3000, fr', h', e⟩
    rcases hn with rfl | rfl | rfl | rfl | rfl <;> rcases hr with rfl | rfl
    · exact go 2 0 (run2_0 fr)
    · exact go 2 1 (run2_1 fr)
    · exact go 4 0 (run4_0 fr)
    · exact go 4 1 (run4_1 fr)
    · exact go 6 0 (run6_0 fr)
    · exact go 6 1 (run6_1 fr)
    · exact go 8 0 (run8_0 fr)
    · exact go 8 1 (run8_1 fr)
    · exact go 10 0 (run10_0 fr)
    · exact go 10 1 (run10_1 fr)
theorem law_gives (n : Int) : ∃ N, givesB fs2 N e5 [.i .i64 n] (.b true) = true := by
  obtain ⟨N, v, h', he, rfl⟩ := f5_ret (fs := fs2) (n := n) callsL
  refine ⟨N, ?_⟩
  have he : callF (eval fs2 N) e5 [.i .i64 n] ⟨.e, .nil⟩ = .ok (.b true) h' := he
  unfold givesB
  rw [he]; rfl
theorem law_call (n : Int) (w : World) : Calls Try.prog 5 #[.int .i64 n] w fun e w' => e = .returned (.bool true) ∧ Below w.heap.size w w' := by
  obtain ⟨N, hN⟩ := law_gives n
  have hg := gives_of_eval fs2_ok code5 rfl rfl hN (fun _ => none) [.int .i64 n] w (VRs.cons (.i _ _) VRs.nil)
  refine (callsIn_wide.1 hg).mono ?_
  rintro e w' ⟨v', rfl, hv, h1, h2, h3, h4, h5⟩
  have := (hv fun _ => none).of_b
  subst this
  exact ⟨rfl, h1, h2, h3, h4, h5⟩
end Go.Proofs.Ytfephkgdccbobaa
