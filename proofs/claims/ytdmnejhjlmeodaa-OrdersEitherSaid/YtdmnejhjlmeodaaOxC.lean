/-
  The functions are the program's.
-/
import Derived.Test.YtdmnejhjlmeodaaOxA
namespace Go.Proofs.Ytdmnejhjlmeodaa
open Go.Ev
theorem code4 : e4.nv = none ∧ ∃ fn c, FnOk rig (.z (.o .e)) e4 fn c := entry_code (n := 4) rfl Try.func4 (by kernel_rfl) (by kernel_rfl)
theorem code11 : e11.nv = none ∧ ∃ fn c, FnOk rig (.o (.o (.z .e))) e11 fn c := entry_code (n := 11) rfl Try.func11 (by kernel_rfl) (by kernel_rfl)
theorem code19 : e19.nv = none ∧ ∃ fn c, FnOk rig (.o (.o (.z (.o .e)))) e19 fn c := entry_code (n := 19) rfl Try.func19 (by kernel_rfl) (by kernel_rfl)
theorem code20 : e20.nv = none ∧ ∃ fn c, FnOk rig (.z (.o (.z (.o .e)))) e20 fn c := entry_code (n := 20) rfl Try.func20 (by kernel_rfl) (by kernel_rfl)
theorem code21 : e21.nv = none ∧ ∃ fn c, FnOk rig (.o (.z (.z (.o .e)))) e21 fn c := entry_code (n := 21) rfl Try.func21 (by kernel_rfl) (by kernel_rfl)
theorem code25 : e25.nv = none ∧ ∃ fn c, FnOk rig (.o (.z (.o (.z .e)))) e25 fn c := entry_code (n := 25) rfl Try.func25 (by kernel_rfl) (by kernel_rfl)
theorem code26 : e26.nv = none ∧ ∃ fn c, FnOk rig (.z (.z (.o (.z .e)))) e26 fn c := entry_code (n := 26) rfl Try.func26 (by kernel_rfl) (by kernel_rfl)
theorem code27 : e27.nv = none ∧ ∃ fn c, FnOk rig (.o (.o (.z (.z .e)))) e27 fn c := entry_code (n := 27) rfl Try.func27 (by kernel_rfl) (by kernel_rfl)
theorem code28 : e28.nv = none ∧ ∃ fn c, FnOk rig (.z (.o (.z (.z .e)))) e28 fn c := entry_code (n := 28) rfl Try.func28 (by kernel_rfl) (by kernel_rfl)
theorem code29 : e29.nv = none ∧ ∃ fn c, FnOk rig (.o (.z (.z (.z .e)))) e29 fn c := entry_code (n := 29) rfl Try.func29 (by kernel_rfl) (by kernel_rfl)
theorem code30 : e30.nv = none ∧ ∃ fn c, FnOk rig (.z (.z (.z (.z .e)))) e30 fn c := entry_code (n := 30) rfl Try.func30 (by kernel_rfl) (by kernel_rfl)
theorem code40 : e40.nv = none ∧ ∃ fn c, FnOk rig (.z (.o (.o (.z (.o .e))))) e40 fn c := entry_code (n := 40) rfl Try.func40 (by kernel_rfl) (by kernel_rfl)
theorem code52 : e52.nv = none ∧ ∃ fn c, FnOk rig (.z (.o (.z (.o (.z .e))))) e52 fn c := entry_code (n := 52) rfl Try.func52 (by kernel_rfl) (by kernel_rfl)
theorem code53 : e53.nv = none ∧ ∃ fn c, FnOk rig (.o (.z (.z (.o (.z .e))))) e53 fn c := entry_code (n := 53) rfl Try.func53 (by kernel_rfl) (by kernel_rfl)
theorem code55 : e55.nv = none ∧ ∃ fn c, FnOk rig (.o (.o (.o (.z (.z .e))))) e55 fn c := entry_code (n := 55) rfl Try.func55 (by kernel_rfl) (by kernel_rfl)
theorem code56 : e56.nv = none ∧ ∃ fn c, FnOk rig (.z (.o (.o (.z (.z .e))))) e56 fn c := entry_code (n := 56) rfl Try.func56 (by kernel_rfl) (by kernel_rfl)
theorem code62 : e62.nv = none ∧ ∃ fn c, FnOk rig (.z (.z (.z (.z (.z .e))))) e62 fn c := entry_code (n := 62) rfl Try.func62 (by kernel_rfl) (by kernel_rfl)
theorem code63 : e63.nv = none ∧ ∃ fn c, FnOk rig (.o (.o (.o (.o (.o (.o .e)))))) e63 fn c := entry_code (n := 63) rfl Try.func63 (by kernel_rfl) (by kernel_rfl)
theorem code85 : e85.nv = none ∧ ∃ fn c, FnOk rig (.o (.z (.z (.o (.z (.o .e)))))) e85 fn c := entry_code (n := 85) rfl Try.func85 (by kernel_rfl) (by kernel_rfl)
end Go.Proofs.Ytdmnejhjlmeodaa
