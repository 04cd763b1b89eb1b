/-
  The moment complexes.
-/
import Derived.Test.YtneacehpoaambaaMkE
namespace Go.Proofs.Ytneacehpoaambaa
open Go.Ev
noncomputable def mL (n d : Nat) : List Int := match n, d with
  | 3, 2 => [.ofNat 3, .ofNat 5, .ofNat 6]
  | 4, 2 => [.ofNat 3, .ofNat 6, .ofNat 9, .ofNat 12]
  | 4, 3 => [.ofNat 7, .ofNat 11, .ofNat 13, .ofNat 14]
  | 5, 2 => [.ofNat 3, .ofNat 6, .ofNat 12, .ofNat 17, .ofNat 24]
  | 5, 3 => [.ofNat 7, .ofNat 13, .ofNat 19, .ofNat 22, .ofNat 25, .ofNat 28]
  | 5, 4 => [.ofNat 15, .ofNat 23, .ofNat 27, .ofNat 29, .ofNat 30]
  | 6, 2 => [.ofNat 3, .ofNat 6, .ofNat 12, .ofNat 24, .ofNat 33, .ofNat 48]
  | 6, 3 => [.ofNat 7, .ofNat 13, .ofNat 25, .ofNat 35, .ofNat 38, .ofNat 44, .ofNat 49, .ofNat 56]
  | 6, 4 => [.ofNat 15, .ofNat 27, .ofNat 30, .ofNat 39, .ofNat 45, .ofNat 51, .ofNat 54, .ofNat 57, .ofNat 60]
  | 6, 5 => [.ofNat 31, .ofNat 47, .ofNat 55, .ofNat 59, .ofNat 61, .ofNat 62]
  | _, _ => []
noncomputable def momL (n d : Int) : List Int := mL n.toNat d.toNat
theorem mom_cases {n d : Int} (h : okM n d = true) : (n = 3 ∧ d = 2) ∨ (n = 4 ∧ d = 2) ∨ (n = 4 ∧ d = 3) ∨ (n = 5 ∧ d = 2) ∨ (n = 5 ∧ d = 3) ∨ (n = 5 ∧ d = 4) ∨ (n = 6 ∧ d = 2) ∨ (n = 6 ∧ d = 3) ∨ (n = 6 ∧ d = 4) ∨ (n = 6 ∧ d = 5) := by
  unfold okM at h
  simp only [Bool.and_eq_true, decide_eq_true_eq] at h
  omega
end Go.Proofs.Ytneacehpoaambaa
