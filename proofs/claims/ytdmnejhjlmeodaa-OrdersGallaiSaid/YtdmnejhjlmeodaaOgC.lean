/-
  The functions are the program's.
-/
import Derived.Test.YtdmnejhjlmeodaaOgA
namespace Go.Proofs.Ytdmnejhjlmeodaa
open Go.Ev
theorem code7 : e7.nv = none ∧ ∃ fn c, FnOk rig (.o (.o (.o .e))) e7 fn c := entry_code (n := 7) rfl Try.func7 (by kernel_rfl) (by kernel_rfl)
theorem code11 : e11.nv = none ∧ ∃ fn c, FnOk rig (.o (.o (.z .e))) e11 fn c := entry_code (n := 11) rfl Try.func11 (by kernel_rfl) (by kernel_rfl)
theorem code18 : e18.nv = none ∧ ∃ fn c, FnOk rig (.z (.z (.o (.o .e)))) e18 fn c := entry_code (n := 18) rfl Try.func18 (by kernel_rfl) (by kernel_rfl)
theorem code40 : e40.nv = none ∧ ∃ fn c, FnOk rig (.z (.o (.o (.z (.o .e))))) e40 fn c := entry_code (n := 40) rfl Try.func40 (by kernel_rfl) (by kernel_rfl)
theorem code54 : e54.nv = none ∧ ∃ fn c, FnOk rig (.z (.z (.z (.o (.z .e))))) e54 fn c := entry_code (n := 54) rfl Try.func54 (by kernel_rfl) (by kernel_rfl)
theorem code55 : e55.nv = none ∧ ∃ fn c, FnOk rig (.o (.o (.o (.z (.z .e))))) e55 fn c := entry_code (n := 55) rfl Try.func55 (by kernel_rfl) (by kernel_rfl)
theorem code56 : e56.nv = none ∧ ∃ fn c, FnOk rig (.z (.o (.o (.z (.z .e))))) e56 fn c := entry_code (n := 56) rfl Try.func56 (by kernel_rfl) (by kernel_rfl)
theorem code85 : e85.nv = none ∧ ∃ fn c, FnOk rig (.o (.z (.z (.o (.z (.o .e)))))) e85 fn c := entry_code (n := 85) rfl Try.func85 (by kernel_rfl) (by kernel_rfl)
end Go.Proofs.Ytdmnejhjlmeodaa
