/-
  The functions are the program's.
-/
import Derived.Test.YtdmnejhjlmeodaaOcA
namespace Go.Proofs.Ytdmnejhjlmeodaa
open Go.Ev
theorem code5 : e5.nv = none ∧ ∃ fn c, FnOk rig (.o (.z .e)) e5 fn c := entry_code (n := 5) rfl Try.func5 (by kernel_rfl) (by kernel_rfl)
theorem code11 : e11.nv = none ∧ ∃ fn c, FnOk rig (.o (.o (.z .e))) e11 fn c := entry_code (n := 11) rfl Try.func11 (by kernel_rfl) (by kernel_rfl)
theorem code20 : e20.nv = none ∧ ∃ fn c, FnOk rig (.z (.o (.z (.o .e)))) e20 fn c := entry_code (n := 20) rfl Try.func20 (by kernel_rfl) (by kernel_rfl)
theorem code21 : e21.nv = none ∧ ∃ fn c, FnOk rig (.o (.z (.z (.o .e)))) e21 fn c := entry_code (n := 21) rfl Try.func21 (by kernel_rfl) (by kernel_rfl)
theorem code26 : e26.nv = none ∧ ∃ fn c, FnOk rig (.z (.z (.o (.z .e)))) e26 fn c := entry_code (n := 26) rfl Try.func26 (by kernel_rfl) (by kernel_rfl)
theorem code32 : e32.nv = none ∧ ∃ fn c, FnOk rig (.z (.o (.o (.o (.o .e))))) e32 fn c := entry_code (n := 32) rfl Try.func32 (by kernel_rfl) (by kernel_rfl)
theorem code40 : e40.nv = none ∧ ∃ fn c, FnOk rig (.z (.o (.o (.z (.o .e))))) e40 fn c := entry_code (n := 40) rfl Try.func40 (by kernel_rfl) (by kernel_rfl)
theorem code52 : e52.nv = none ∧ ∃ fn c, FnOk rig (.z (.o (.z (.o (.z .e))))) e52 fn c := entry_code (n := 52) rfl Try.func52 (by kernel_rfl) (by kernel_rfl)
theorem code53 : e53.nv = none ∧ ∃ fn c, FnOk rig (.o (.z (.z (.o (.z .e))))) e53 fn c := entry_code (n := 53) rfl Try.func53 (by kernel_rfl) (by kernel_rfl)
theorem code55 : e55.nv = none ∧ ∃ fn c, FnOk rig (.o (.o (.o (.z (.z .e))))) e55 fn c := entry_code (n := 55) rfl Try.func55 (by kernel_rfl) (by kernel_rfl)
theorem code56 : e56.nv = none ∧ ∃ fn c, FnOk rig (.z (.o (.o (.z (.z .e))))) e56 fn c := entry_code (n := 56) rfl Try.func56 (by kernel_rfl) (by kernel_rfl)
theorem code62 : e62.nv = none ∧ ∃ fn c, FnOk rig (.z (.z (.z (.z (.z .e))))) e62 fn c := entry_code (n := 62) rfl Try.func62 (by kernel_rfl) (by kernel_rfl)
theorem code65 : e65.nv = none ∧ ∃ fn c, FnOk rig (.o (.z (.o (.o (.o (.o .e)))))) e65 fn c := entry_code (n := 65) rfl Try.func65 (by kernel_rfl) (by kernel_rfl)
theorem code85 : e85.nv = none ∧ ∃ fn c, FnOk rig (.o (.z (.z (.o (.z (.o .e)))))) e85 fn c := entry_code (n := 85) rfl Try.func85 (by kernel_rfl) (by kernel_rfl)
end Go.Proofs.Ytdmnejhjlmeodaa
