/-
  The functions are the program's.
-/
import Derived.Test.YtlnkpocijfgikaaDoorSuA
namespace Go.Proofs.YtlnkpocijfgikaaDoor
open Go.Ev
theorem code9 : e9.nv = none ∧ ∃ fn c, FnOk rig (.o (.z (.o .e))) e9 fn c := entry_code (n := 9) rfl Tryd.func9 (by kernel_rfl) (by kernel_rfl)
theorem code25 : e25.nv = none ∧ ∃ fn c, FnOk rig (.o (.z (.o (.z .e)))) e25 fn c := entry_code (n := 25) rfl Tryd.func25 (by kernel_rfl) (by kernel_rfl)
theorem code27 : e27.nv = none ∧ ∃ fn c, FnOk rig (.o (.o (.z (.z .e)))) e27 fn c := entry_code (n := 27) rfl Tryd.func27 (by kernel_rfl) (by kernel_rfl)
theorem code30 : e30.nv = none ∧ ∃ fn c, FnOk rig (.z (.z (.z (.z .e)))) e30 fn c := entry_code (n := 30) rfl Tryd.func30 (by kernel_rfl) (by kernel_rfl)
theorem code39 : e39.nv = none ∧ ∃ fn c, FnOk rig (.o (.o (.o (.z (.o .e))))) e39 fn c := entry_code (n := 39) rfl Tryd.func39 (by kernel_rfl) (by kernel_rfl)
theorem code40 : e40.nv = none ∧ ∃ fn c, FnOk rig (.z (.o (.o (.z (.o .e))))) e40 fn c := entry_code (n := 40) rfl Tryd.func40 (by kernel_rfl) (by kernel_rfl)
theorem code51 : e51.nv = none ∧ ∃ fn c, FnOk rig (.o (.o (.z (.o (.z .e))))) e51 fn c := entry_code (n := 51) rfl Tryd.func51 (by kernel_rfl) (by kernel_rfl)
theorem code52 : e52.nv = none ∧ ∃ fn c, FnOk rig (.z (.o (.z (.o (.z .e))))) e52 fn c := entry_code (n := 52) rfl Tryd.func52 (by kernel_rfl) (by kernel_rfl)
theorem code53 : e53.nv = none ∧ ∃ fn c, FnOk rig (.o (.z (.z (.o (.z .e))))) e53 fn c := entry_code (n := 53) rfl Tryd.func53 (by kernel_rfl) (by kernel_rfl)
theorem code56 : e56.nv = none ∧ ∃ fn c, FnOk rig (.z (.o (.o (.z (.z .e))))) e56 fn c := entry_code (n := 56) rfl Tryd.func56 (by kernel_rfl) (by kernel_rfl)
theorem code66 : e66.nv = none ∧ ∃ fn c, FnOk rig (.z (.z (.o (.o (.o (.o .e)))))) e66 fn c := entry_code (n := 66) rfl Tryd.func66 (by kernel_rfl) (by kernel_rfl)
theorem code69 : e69.nv = none ∧ ∃ fn c, FnOk rig (.o (.z (.z (.o (.o (.o .e)))))) e69 fn c := entry_code (n := 69) rfl Tryd.func69 (by kernel_rfl) (by kernel_rfl)
theorem code70 : e70.nv = none ∧ ∃ fn c, FnOk rig (.z (.z (.z (.o (.o (.o .e)))))) e70 fn c := entry_code (n := 70) rfl Tryd.func70 (by kernel_rfl) (by kernel_rfl)
theorem code71 : e71.nv = none ∧ ∃ fn c, FnOk rig (.o (.o (.o (.z (.o (.o .e)))))) e71 fn c := entry_code (n := 71) rfl Tryd.func71 (by kernel_rfl) (by kernel_rfl)
theorem code79 : e79.nv = none ∧ ∃ fn c, FnOk rig (.o (.o (.o (.o (.z (.o .e)))))) e79 fn c := entry_code (n := 79) rfl Tryd.func79 (by kernel_rfl) (by kernel_rfl)
theorem code83 : e83.nv = none ∧ ∃ fn c, FnOk rig (.o (.o (.z (.o (.z (.o .e)))))) e83 fn c := entry_code (n := 83) rfl Tryd.func83 (by kernel_rfl) (by kernel_rfl)
end Go.Proofs.YtlnkpocijfgikaaDoor
