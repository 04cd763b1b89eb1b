/-
  The functions are the program's.
-/
import Derived.Test.YtdmnejhjlmeodaaOfA
namespace Go.Proofs.Ytdmnejhjlmeodaa
open Go.Ev
theorem code3 : e3.nv = none ∧ ∃ fn c, FnOk rig (.o (.o .e)) e3 fn c := entry_code (n := 3) rfl Try.func3 (by kernel_rfl) (by kernel_rfl)
theorem code11 : e11.nv = none ∧ ∃ fn c, FnOk rig (.o (.o (.z .e))) e11 fn c := entry_code (n := 11) rfl Try.func11 (by kernel_rfl) (by kernel_rfl)
theorem code12 : e12.nv = none ∧ ∃ fn c, FnOk rig (.z (.o (.z .e))) e12 fn c := entry_code (n := 12) rfl Try.func12 (by kernel_rfl) (by kernel_rfl)
theorem code13 : e13.nv = none ∧ ∃ fn c, FnOk rig (.o (.z (.z .e))) e13 fn c := entry_code (n := 13) rfl Try.func13 (by kernel_rfl) (by kernel_rfl)
theorem code15 : e15.nv = none ∧ ∃ fn c, FnOk rig (.o (.o (.o (.o .e)))) e15 fn c := entry_code (n := 15) rfl Try.func15 (by kernel_rfl) (by kernel_rfl)
theorem code16 : e16.nv = none ∧ ∃ fn c, FnOk rig (.z (.o (.o (.o .e)))) e16 fn c := entry_code (n := 16) rfl Try.func16 (by kernel_rfl) (by kernel_rfl)
theorem code17 : e17.nv = none ∧ ∃ fn c, FnOk rig (.o (.z (.o (.o .e)))) e17 fn c := entry_code (n := 17) rfl Try.func17 (by kernel_rfl) (by kernel_rfl)
theorem code18 : e18.nv = none ∧ ∃ fn c, FnOk rig (.z (.z (.o (.o .e)))) e18 fn c := entry_code (n := 18) rfl Try.func18 (by kernel_rfl) (by kernel_rfl)
theorem code19 : e19.nv = none ∧ ∃ fn c, FnOk rig (.o (.o (.z (.o .e)))) e19 fn c := entry_code (n := 19) rfl Try.func19 (by kernel_rfl) (by kernel_rfl)
theorem code20 : e20.nv = none ∧ ∃ fn c, FnOk rig (.z (.o (.z (.o .e)))) e20 fn c := entry_code (n := 20) rfl Try.func20 (by kernel_rfl) (by kernel_rfl)
theorem code21 : e21.nv = none ∧ ∃ fn c, FnOk rig (.o (.z (.z (.o .e)))) e21 fn c := entry_code (n := 21) rfl Try.func21 (by kernel_rfl) (by kernel_rfl)
theorem code40 : e40.nv = none ∧ ∃ fn c, FnOk rig (.z (.o (.o (.z (.o .e))))) e40 fn c := entry_code (n := 40) rfl Try.func40 (by kernel_rfl) (by kernel_rfl)
theorem code51 : e51.nv = none ∧ ∃ fn c, FnOk rig (.o (.o (.z (.o (.z .e))))) e51 fn c := entry_code (n := 51) rfl Try.func51 (by kernel_rfl) (by kernel_rfl)
theorem code52 : e52.nv = none ∧ ∃ fn c, FnOk rig (.z (.o (.z (.o (.z .e))))) e52 fn c := entry_code (n := 52) rfl Try.func52 (by kernel_rfl) (by kernel_rfl)
theorem code53 : e53.nv = none ∧ ∃ fn c, FnOk rig (.o (.z (.z (.o (.z .e))))) e53 fn c := entry_code (n := 53) rfl Try.func53 (by kernel_rfl) (by kernel_rfl)
theorem code54 : e54.nv = none ∧ ∃ fn c, FnOk rig (.z (.z (.z (.o (.z .e))))) e54 fn c := entry_code (n := 54) rfl Try.func54 (by kernel_rfl) (by kernel_rfl)
theorem code55 : e55.nv = none ∧ ∃ fn c, FnOk rig (.o (.o (.o (.z (.z .e))))) e55 fn c := entry_code (n := 55) rfl Try.func55 (by kernel_rfl) (by kernel_rfl)
theorem code56 : e56.nv = none ∧ ∃ fn c, FnOk rig (.z (.o (.o (.z (.z .e))))) e56 fn c := entry_code (n := 56) rfl Try.func56 (by kernel_rfl) (by kernel_rfl)
theorem code85 : e85.nv = none ∧ ∃ fn c, FnOk rig (.o (.z (.z (.o (.z (.o .e)))))) e85 fn c := entry_code (n := 85) rfl Try.func85 (by kernel_rfl) (by kernel_rfl)
end Go.Proofs.Ytdmnejhjlmeodaa
