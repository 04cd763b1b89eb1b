/-
  The functions are the program's.
-/
import Derived.Test.YtlnkpocijfgikaaDoorSzA
namespace Go.Proofs.YtlnkpocijfgikaaDoor
open Go.Ev
theorem code5 : e5.nv = none ∧ ∃ fn c, FnOk rig (.o (.z .e)) e5 fn c := entry_code (n := 5) rfl Tryd.func5 (by kernel_rfl) (by kernel_rfl)
theorem code25 : e25.nv = none ∧ ∃ fn c, FnOk rig (.o (.z (.o (.z .e)))) e25 fn c := entry_code (n := 25) rfl Tryd.func25 (by kernel_rfl) (by kernel_rfl)
theorem code33 : e33.nv = none ∧ ∃ fn c, FnOk rig (.o (.z (.o (.o (.o .e))))) e33 fn c := entry_code (n := 33) rfl Tryd.func33 (by kernel_rfl) (by kernel_rfl)
theorem code35 : e35.nv = none ∧ ∃ fn c, FnOk rig (.o (.o (.z (.o (.o .e))))) e35 fn c := entry_code (n := 35) rfl Tryd.func35 (by kernel_rfl) (by kernel_rfl)
theorem code52 : e52.nv = none ∧ ∃ fn c, FnOk rig (.z (.o (.z (.o (.z .e))))) e52 fn c := entry_code (n := 52) rfl Tryd.func52 (by kernel_rfl) (by kernel_rfl)
theorem code72 : e72.nv = none ∧ ∃ fn c, FnOk rig (.z (.o (.o (.z (.o (.o .e)))))) e72 fn c := entry_code (n := 72) rfl Tryd.func72 (by kernel_rfl) (by kernel_rfl)
theorem code73 : e73.nv = none ∧ ∃ fn c, FnOk rig (.o (.z (.o (.z (.o (.o .e)))))) e73 fn c := entry_code (n := 73) rfl Tryd.func73 (by kernel_rfl) (by kernel_rfl)
theorem code74 : e74.nv = none ∧ ∃ fn c, FnOk rig (.z (.z (.o (.z (.o (.o .e)))))) e74 fn c := entry_code (n := 74) rfl Tryd.func74 (by kernel_rfl) (by kernel_rfl)
theorem code83 : e83.nv = none ∧ ∃ fn c, FnOk rig (.o (.o (.z (.o (.z (.o .e)))))) e83 fn c := entry_code (n := 83) rfl Tryd.func83 (by kernel_rfl) (by kernel_rfl)
end Go.Proofs.YtlnkpocijfgikaaDoor
