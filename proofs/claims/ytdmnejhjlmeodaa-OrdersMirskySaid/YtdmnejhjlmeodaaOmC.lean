/-
  The functions are the program's.
-/
import Derived.Test.YtdmnejhjlmeodaaOmA
namespace Go.Proofs.Ytdmnejhjlmeodaa
open Go.Ev
theorem code8 : e8.nv = none ∧ ∃ fn c, FnOk rig (.z (.o (.o .e))) e8 fn c := entry_code (n := 8) rfl Try.func8 (by kernel_rfl) (by kernel_rfl)
theorem code11 : e11.nv = none ∧ ∃ fn c, FnOk rig (.o (.o (.z .e))) e11 fn c := entry_code (n := 11) rfl Try.func11 (by kernel_rfl) (by kernel_rfl)
theorem code40 : e40.nv = none ∧ ∃ fn c, FnOk rig (.z (.o (.o (.z (.o .e))))) e40 fn c := entry_code (n := 40) rfl Try.func40 (by kernel_rfl) (by kernel_rfl)
theorem code41 : e41.nv = none ∧ ∃ fn c, FnOk rig (.o (.z (.o (.z (.o .e))))) e41 fn c := entry_code (n := 41) rfl Try.func41 (by kernel_rfl) (by kernel_rfl)
theorem code43 : e43.nv = none ∧ ∃ fn c, FnOk rig (.o (.o (.z (.z (.o .e))))) e43 fn c := entry_code (n := 43) rfl Try.func43 (by kernel_rfl) (by kernel_rfl)
theorem code52 : e52.nv = none ∧ ∃ fn c, FnOk rig (.z (.o (.z (.o (.z .e))))) e52 fn c := entry_code (n := 52) rfl Try.func52 (by kernel_rfl) (by kernel_rfl)
theorem code55 : e55.nv = none ∧ ∃ fn c, FnOk rig (.o (.o (.o (.z (.z .e))))) e55 fn c := entry_code (n := 55) rfl Try.func55 (by kernel_rfl) (by kernel_rfl)
theorem code56 : e56.nv = none ∧ ∃ fn c, FnOk rig (.z (.o (.o (.z (.z .e))))) e56 fn c := entry_code (n := 56) rfl Try.func56 (by kernel_rfl) (by kernel_rfl)
theorem code72 : e72.nv = none ∧ ∃ fn c, FnOk rig (.z (.o (.o (.z (.o (.o .e)))))) e72 fn c := entry_code (n := 72) rfl Try.func72 (by kernel_rfl) (by kernel_rfl)
theorem code74 : e74.nv = none ∧ ∃ fn c, FnOk rig (.z (.z (.o (.z (.o (.o .e)))))) e74 fn c := entry_code (n := 74) rfl Try.func74 (by kernel_rfl) (by kernel_rfl)
theorem code85 : e85.nv = none ∧ ∃ fn c, FnOk rig (.o (.z (.z (.o (.z (.o .e)))))) e85 fn c := entry_code (n := 85) rfl Try.func85 (by kernel_rfl) (by kernel_rfl)
theorem code95 : e95.nv = none ∧ ∃ fn c, FnOk rig (.o (.o (.o (.o (.o (.z .e)))))) e95 fn c := entry_code (n := 95) rfl Try.func95 (by kernel_rfl) (by kernel_rfl)
end Go.Proofs.Ytdmnejhjlmeodaa
