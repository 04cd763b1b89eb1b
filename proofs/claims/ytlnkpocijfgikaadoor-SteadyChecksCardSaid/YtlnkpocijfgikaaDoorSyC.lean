/-
  The functions are the program's.
-/
import Derived.Test.YtlnkpocijfgikaaDoorSyA
namespace Go.Proofs.YtlnkpocijfgikaaDoor
open Go.Ev
theorem code3 : e3.nv = none ∧ ∃ fn c, FnOk rig (.o (.o .e)) e3 fn c := entry_code (n := 3) rfl Tryd.func3 (by kernel_rfl) (by kernel_rfl)
theorem code12 : e12.nv = none ∧ ∃ fn c, FnOk rig (.z (.o (.z .e))) e12 fn c := entry_code (n := 12) rfl Tryd.func12 (by kernel_rfl) (by kernel_rfl)
theorem code13 : e13.nv = none ∧ ∃ fn c, FnOk rig (.o (.z (.z .e))) e13 fn c := entry_code (n := 13) rfl Tryd.func13 (by kernel_rfl) (by kernel_rfl)
theorem code16 : e16.nv = none ∧ ∃ fn c, FnOk rig (.z (.o (.o (.o .e)))) e16 fn c := entry_code (n := 16) rfl Tryd.func16 (by kernel_rfl) (by kernel_rfl)
theorem code18 : e18.nv = none ∧ ∃ fn c, FnOk rig (.z (.z (.o (.o .e)))) e18 fn c := entry_code (n := 18) rfl Tryd.func18 (by kernel_rfl) (by kernel_rfl)
theorem code22 : e22.nv = none ∧ ∃ fn c, FnOk rig (.z (.z (.z (.o .e)))) e22 fn c := entry_code (n := 22) rfl Tryd.func22 (by kernel_rfl) (by kernel_rfl)
theorem code23 : e23.nv = none ∧ ∃ fn c, FnOk rig (.o (.o (.o (.z .e)))) e23 fn c := entry_code (n := 23) rfl Tryd.func23 (by kernel_rfl) (by kernel_rfl)
theorem code24 : e24.nv = none ∧ ∃ fn c, FnOk rig (.z (.o (.o (.z .e)))) e24 fn c := entry_code (n := 24) rfl Tryd.func24 (by kernel_rfl) (by kernel_rfl)
theorem code25 : e25.nv = none ∧ ∃ fn c, FnOk rig (.o (.z (.o (.z .e)))) e25 fn c := entry_code (n := 25) rfl Tryd.func25 (by kernel_rfl) (by kernel_rfl)
theorem code26 : e26.nv = none ∧ ∃ fn c, FnOk rig (.z (.z (.o (.z .e)))) e26 fn c := entry_code (n := 26) rfl Tryd.func26 (by kernel_rfl) (by kernel_rfl)
theorem code27 : e27.nv = none ∧ ∃ fn c, FnOk rig (.o (.o (.z (.z .e)))) e27 fn c := entry_code (n := 27) rfl Tryd.func27 (by kernel_rfl) (by kernel_rfl)
theorem code28 : e28.nv = none ∧ ∃ fn c, FnOk rig (.z (.o (.z (.z .e)))) e28 fn c := entry_code (n := 28) rfl Tryd.func28 (by kernel_rfl) (by kernel_rfl)
theorem code30 : e30.nv = none ∧ ∃ fn c, FnOk rig (.z (.z (.z (.z .e)))) e30 fn c := entry_code (n := 30) rfl Tryd.func30 (by kernel_rfl) (by kernel_rfl)
theorem code31 : e31.nv = none ∧ ∃ fn c, FnOk rig (.o (.o (.o (.o (.o .e))))) e31 fn c := entry_code (n := 31) rfl Tryd.func31 (by kernel_rfl) (by kernel_rfl)
theorem code32 : e32.nv = none ∧ ∃ fn c, FnOk rig (.z (.o (.o (.o (.o .e))))) e32 fn c := entry_code (n := 32) rfl Tryd.func32 (by kernel_rfl) (by kernel_rfl)
theorem code53 : e53.nv = none ∧ ∃ fn c, FnOk rig (.o (.z (.z (.o (.z .e))))) e53 fn c := entry_code (n := 53) rfl Tryd.func53 (by kernel_rfl) (by kernel_rfl)
theorem code56 : e56.nv = none ∧ ∃ fn c, FnOk rig (.z (.o (.o (.z (.z .e))))) e56 fn c := entry_code (n := 56) rfl Tryd.func56 (by kernel_rfl) (by kernel_rfl)
theorem code58 : e58.nv = none ∧ ∃ fn c, FnOk rig (.z (.z (.o (.z (.z .e))))) e58 fn c := entry_code (n := 58) rfl Tryd.func58 (by kernel_rfl) (by kernel_rfl)
theorem code64 : e64.nv = none ∧ ∃ fn c, FnOk rig (.z (.o (.o (.o (.o (.o .e)))))) e64 fn c := entry_code (n := 64) rfl Tryd.func64 (by kernel_rfl) (by kernel_rfl)
theorem code65 : e65.nv = none ∧ ∃ fn c, FnOk rig (.o (.z (.o (.o (.o (.o .e)))))) e65 fn c := entry_code (n := 65) rfl Tryd.func65 (by kernel_rfl) (by kernel_rfl)
theorem code66 : e66.nv = none ∧ ∃ fn c, FnOk rig (.z (.z (.o (.o (.o (.o .e)))))) e66 fn c := entry_code (n := 66) rfl Tryd.func66 (by kernel_rfl) (by kernel_rfl)
theorem code68 : e68.nv = none ∧ ∃ fn c, FnOk rig (.z (.o (.z (.o (.o (.o .e)))))) e68 fn c := entry_code (n := 68) rfl Tryd.func68 (by kernel_rfl) (by kernel_rfl)
theorem code69 : e69.nv = none ∧ ∃ fn c, FnOk rig (.o (.z (.z (.o (.o (.o .e)))))) e69 fn c := entry_code (n := 69) rfl Tryd.func69 (by kernel_rfl) (by kernel_rfl)
theorem code70 : e70.nv = none ∧ ∃ fn c, FnOk rig (.z (.z (.z (.o (.o (.o .e)))))) e70 fn c := entry_code (n := 70) rfl Tryd.func70 (by kernel_rfl) (by kernel_rfl)
theorem code71 : e71.nv = none ∧ ∃ fn c, FnOk rig (.o (.o (.o (.z (.o (.o .e)))))) e71 fn c := entry_code (n := 71) rfl Tryd.func71 (by kernel_rfl) (by kernel_rfl)
theorem code79 : e79.nv = none ∧ ∃ fn c, FnOk rig (.o (.o (.o (.o (.z (.o .e)))))) e79 fn c := entry_code (n := 79) rfl Tryd.func79 (by kernel_rfl) (by kernel_rfl)
theorem code89 : e89.nv = none ∧ ∃ fn c, FnOk rig (.o (.z (.o (.z (.z (.o .e)))))) e89 fn c := entry_code (n := 89) rfl Tryd.func89 (by kernel_rfl) (by kernel_rfl)
end Go.Proofs.YtlnkpocijfgikaaDoor
