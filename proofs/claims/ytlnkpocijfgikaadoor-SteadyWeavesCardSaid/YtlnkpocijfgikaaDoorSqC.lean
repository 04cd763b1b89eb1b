/-
  The functions are the program's.
-/
import Derived.Test.YtlnkpocijfgikaaDoorSqA
namespace Go.Proofs.YtlnkpocijfgikaaDoor
open Go.Ev
theorem code6 : e6.nv = none ∧ ∃ fn c, FnOk rig (.z (.z .e)) e6 fn c := entry_code (n := 6) rfl Tryd.func6 (by kernel_rfl) (by kernel_rfl)
theorem code12 : e12.nv = none ∧ ∃ fn c, FnOk rig (.z (.o (.z .e))) e12 fn c := entry_code (n := 12) rfl Tryd.func12 (by kernel_rfl) (by kernel_rfl)
theorem code25 : e25.nv = none ∧ ∃ fn c, FnOk rig (.o (.z (.o (.z .e)))) e25 fn c := entry_code (n := 25) rfl Tryd.func25 (by kernel_rfl) (by kernel_rfl)
theorem code26 : e26.nv = none ∧ ∃ fn c, FnOk rig (.z (.z (.o (.z .e)))) e26 fn c := entry_code (n := 26) rfl Tryd.func26 (by kernel_rfl) (by kernel_rfl)
theorem code27 : e27.nv = none ∧ ∃ fn c, FnOk rig (.o (.o (.z (.z .e)))) e27 fn c := entry_code (n := 27) rfl Tryd.func27 (by kernel_rfl) (by kernel_rfl)
theorem code30 : e30.nv = none ∧ ∃ fn c, FnOk rig (.z (.z (.z (.z .e)))) e30 fn c := entry_code (n := 30) rfl Tryd.func30 (by kernel_rfl) (by kernel_rfl)
theorem code36 : e36.nv = none ∧ ∃ fn c, FnOk rig (.z (.o (.z (.o (.o .e))))) e36 fn c := entry_code (n := 36) rfl Tryd.func36 (by kernel_rfl) (by kernel_rfl)
theorem code37 : e37.nv = none ∧ ∃ fn c, FnOk rig (.o (.z (.z (.o (.o .e))))) e37 fn c := entry_code (n := 37) rfl Tryd.func37 (by kernel_rfl) (by kernel_rfl)
theorem code38 : e38.nv = none ∧ ∃ fn c, FnOk rig (.z (.z (.z (.o (.o .e))))) e38 fn c := entry_code (n := 38) rfl Tryd.func38 (by kernel_rfl) (by kernel_rfl)
theorem code39 : e39.nv = none ∧ ∃ fn c, FnOk rig (.o (.o (.o (.z (.o .e))))) e39 fn c := entry_code (n := 39) rfl Tryd.func39 (by kernel_rfl) (by kernel_rfl)
theorem code40 : e40.nv = none ∧ ∃ fn c, FnOk rig (.z (.o (.o (.z (.o .e))))) e40 fn c := entry_code (n := 40) rfl Tryd.func40 (by kernel_rfl) (by kernel_rfl)
theorem code53 : e53.nv = none ∧ ∃ fn c, FnOk rig (.o (.z (.z (.o (.z .e))))) e53 fn c := entry_code (n := 53) rfl Tryd.func53 (by kernel_rfl) (by kernel_rfl)
theorem code56 : e56.nv = none ∧ ∃ fn c, FnOk rig (.z (.o (.o (.z (.z .e))))) e56 fn c := entry_code (n := 56) rfl Tryd.func56 (by kernel_rfl) (by kernel_rfl)
theorem code58 : e58.nv = none ∧ ∃ fn c, FnOk rig (.z (.z (.o (.z (.z .e))))) e58 fn c := entry_code (n := 58) rfl Tryd.func58 (by kernel_rfl) (by kernel_rfl)
theorem code64 : e64.nv = none ∧ ∃ fn c, FnOk rig (.z (.o (.o (.o (.o (.o .e)))))) e64 fn c := entry_code (n := 64) rfl Tryd.func64 (by kernel_rfl) (by kernel_rfl)
theorem code65 : e65.nv = none ∧ ∃ fn c, FnOk rig (.o (.z (.o (.o (.o (.o .e)))))) e65 fn c := entry_code (n := 65) rfl Tryd.func65 (by kernel_rfl) (by kernel_rfl)
theorem code66 : e66.nv = none ∧ ∃ fn c, FnOk rig (.z (.z (.o (.o (.o (.o .e)))))) e66 fn c := entry_code (n := 66) rfl Tryd.func66 (by kernel_rfl) (by kernel_rfl)
theorem code68 : e68.nv = none ∧ ∃ fn c, FnOk rig (.z (.o (.z (.o (.o (.o .e)))))) e68 fn c := entry_code (n := 68) rfl Tryd.func68 (by kernel_rfl) (by kernel_rfl)
theorem code69 : e69.nv = none ∧ ∃ fn c, FnOk rig (.o (.z (.z (.o (.o (.o .e)))))) e69 fn c := entry_code (n := 69) rfl Tryd.func69 (by kernel_rfl) (by kernel_rfl)
theorem code70 : e70.nv = none ∧ ∃ fn c, FnOk rig (.z (.z (.z (.o (.o (.o .e)))))) e70 fn c := entry_code (n := 70) rfl Tryd.func70 (by kernel_rfl) (by kernel_rfl)
theorem code71 : e71.nv = none ∧ ∃ fn c, FnOk rig (.o (.o (.o (.z (.o (.o .e)))))) e71 fn c := entry_code (n := 71) rfl Tryd.func71 (by kernel_rfl) (by kernel_rfl)
theorem code76 : e76.nv = none ∧ ∃ fn c, FnOk rig (.z (.o (.z (.z (.o (.o .e)))))) e76 fn c := entry_code (n := 76) rfl Tryd.func76 (by kernel_rfl) (by kernel_rfl)
theorem code77 : e77.nv = none ∧ ∃ fn c, FnOk rig (.o (.z (.z (.z (.o (.o .e)))))) e77 fn c := entry_code (n := 77) rfl Tryd.func77 (by kernel_rfl) (by kernel_rfl)
theorem code78 : e78.nv = none ∧ ∃ fn c, FnOk rig (.z (.z (.z (.z (.o (.o .e)))))) e78 fn c := entry_code (n := 78) rfl Tryd.func78 (by kernel_rfl) (by kernel_rfl)
theorem code79 : e79.nv = none ∧ ∃ fn c, FnOk rig (.o (.o (.o (.o (.z (.o .e)))))) e79 fn c := entry_code (n := 79) rfl Tryd.func79 (by kernel_rfl) (by kernel_rfl)
theorem code89 : e89.nv = none ∧ ∃ fn c, FnOk rig (.o (.z (.o (.z (.z (.o .e)))))) e89 fn c := entry_code (n := 89) rfl Tryd.func89 (by kernel_rfl) (by kernel_rfl)
end Go.Proofs.YtlnkpocijfgikaaDoor
