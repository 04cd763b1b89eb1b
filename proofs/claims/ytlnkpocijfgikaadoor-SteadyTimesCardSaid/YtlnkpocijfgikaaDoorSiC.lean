/-
  The functions are the program's.
-/
import Derived.Test.YtlnkpocijfgikaaDoorSiA
namespace Go.Proofs.YtlnkpocijfgikaaDoor
open Go.Ev
theorem code7 : e7.nv = none ∧ ∃ fn c, FnOk rig (.o (.o (.o .e))) e7 fn c := entry_code (n := 7) rfl Tryd.func7 (by kernel_rfl) (by kernel_rfl)
theorem code23 : e23.nv = none ∧ ∃ fn c, FnOk rig (.o (.o (.o (.z .e)))) e23 fn c := entry_code (n := 23) rfl Tryd.func23 (by kernel_rfl) (by kernel_rfl)
theorem code24 : e24.nv = none ∧ ∃ fn c, FnOk rig (.z (.o (.o (.z .e)))) e24 fn c := entry_code (n := 24) rfl Tryd.func24 (by kernel_rfl) (by kernel_rfl)
theorem code25 : e25.nv = none ∧ ∃ fn c, FnOk rig (.o (.z (.o (.z .e)))) e25 fn c := entry_code (n := 25) rfl Tryd.func25 (by kernel_rfl) (by kernel_rfl)
theorem code31 : e31.nv = none ∧ ∃ fn c, FnOk rig (.o (.o (.o (.o (.o .e))))) e31 fn c := entry_code (n := 31) rfl Tryd.func31 (by kernel_rfl) (by kernel_rfl)
theorem code40 : e40.nv = none ∧ ∃ fn c, FnOk rig (.z (.o (.o (.z (.o .e))))) e40 fn c := entry_code (n := 40) rfl Tryd.func40 (by kernel_rfl) (by kernel_rfl)
theorem code41 : e41.nv = none ∧ ∃ fn c, FnOk rig (.o (.z (.o (.z (.o .e))))) e41 fn c := entry_code (n := 41) rfl Tryd.func41 (by kernel_rfl) (by kernel_rfl)
theorem code53 : e53.nv = none ∧ ∃ fn c, FnOk rig (.o (.z (.z (.o (.z .e))))) e53 fn c := entry_code (n := 53) rfl Tryd.func53 (by kernel_rfl) (by kernel_rfl)
theorem code56 : e56.nv = none ∧ ∃ fn c, FnOk rig (.z (.o (.o (.z (.z .e))))) e56 fn c := entry_code (n := 56) rfl Tryd.func56 (by kernel_rfl) (by kernel_rfl)
theorem code66 : e66.nv = none ∧ ∃ fn c, FnOk rig (.z (.z (.o (.o (.o (.o .e)))))) e66 fn c := entry_code (n := 66) rfl Tryd.func66 (by kernel_rfl) (by kernel_rfl)
theorem code69 : e69.nv = none ∧ ∃ fn c, FnOk rig (.o (.z (.z (.o (.o (.o .e)))))) e69 fn c := entry_code (n := 69) rfl Tryd.func69 (by kernel_rfl) (by kernel_rfl)
theorem code79 : e79.nv = none ∧ ∃ fn c, FnOk rig (.o (.o (.o (.o (.z (.o .e)))))) e79 fn c := entry_code (n := 79) rfl Tryd.func79 (by kernel_rfl) (by kernel_rfl)
end Go.Proofs.YtlnkpocijfgikaaDoor
