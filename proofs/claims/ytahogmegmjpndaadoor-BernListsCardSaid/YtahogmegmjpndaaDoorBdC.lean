/-
  The functions are the program's.
-/
import Derived.Test.YtahogmegmjpndaaDoorBdA
namespace Go.Proofs.YtahogmegmjpndaaDoor
open Go.Ev
theorem code6 : e6.nv = none ∧ ∃ fn c, FnOk rig (.z (.z .e)) e6 fn c := entry_code (n := 6) rfl Tryd.func6 (by kernel_rfl) (by kernel_rfl)
theorem code12 : e12.nv = none ∧ ∃ fn c, FnOk rig (.z (.o (.z .e))) e12 fn c := entry_code (n := 12) rfl Tryd.func12 (by kernel_rfl) (by kernel_rfl)
theorem code18 : e18.nv = none ∧ ∃ fn c, FnOk rig (.z (.z (.o (.o .e)))) e18 fn c := entry_code (n := 18) rfl Tryd.func18 (by kernel_rfl) (by kernel_rfl)
theorem code24 : e24.nv = none ∧ ∃ fn c, FnOk rig (.z (.o (.o (.z .e)))) e24 fn c := entry_code (n := 24) rfl Tryd.func24 (by kernel_rfl) (by kernel_rfl)
theorem code25 : e25.nv = none ∧ ∃ fn c, FnOk rig (.o (.z (.o (.z .e)))) e25 fn c := entry_code (n := 25) rfl Tryd.func25 (by kernel_rfl) (by kernel_rfl)
theorem code26 : e26.nv = none ∧ ∃ fn c, FnOk rig (.z (.z (.o (.z .e)))) e26 fn c := entry_code (n := 26) rfl Tryd.func26 (by kernel_rfl) (by kernel_rfl)
theorem code27 : e27.nv = none ∧ ∃ fn c, FnOk rig (.o (.o (.z (.z .e)))) e27 fn c := entry_code (n := 27) rfl Tryd.func27 (by kernel_rfl) (by kernel_rfl)
theorem code28 : e28.nv = none ∧ ∃ fn c, FnOk rig (.z (.o (.z (.z .e)))) e28 fn c := entry_code (n := 28) rfl Tryd.func28 (by kernel_rfl) (by kernel_rfl)
theorem code29 : e29.nv = none ∧ ∃ fn c, FnOk rig (.o (.z (.z (.z .e)))) e29 fn c := entry_code (n := 29) rfl Tryd.func29 (by kernel_rfl) (by kernel_rfl)
theorem code30 : e30.nv = none ∧ ∃ fn c, FnOk rig (.z (.z (.z (.z .e)))) e30 fn c := entry_code (n := 30) rfl Tryd.func30 (by kernel_rfl) (by kernel_rfl)
theorem code31 : e31.nv = none ∧ ∃ fn c, FnOk rig (.o (.o (.o (.o (.o .e))))) e31 fn c := entry_code (n := 31) rfl Tryd.func31 (by kernel_rfl) (by kernel_rfl)
theorem code32 : e32.nv = none ∧ ∃ fn c, FnOk rig (.z (.o (.o (.o (.o .e))))) e32 fn c := entry_code (n := 32) rfl Tryd.func32 (by kernel_rfl) (by kernel_rfl)
theorem code33 : e33.nv = none ∧ ∃ fn c, FnOk rig (.o (.z (.o (.o (.o .e))))) e33 fn c := entry_code (n := 33) rfl Tryd.func33 (by kernel_rfl) (by kernel_rfl)
theorem code38 : e38.nv = none ∧ ∃ fn c, FnOk rig (.z (.z (.z (.o (.o .e))))) e38 fn c := entry_code (n := 38) rfl Tryd.func38 (by kernel_rfl) (by kernel_rfl)
theorem code39 : e39.nv = none ∧ ∃ fn c, FnOk rig (.o (.o (.o (.z (.o .e))))) e39 fn c := entry_code (n := 39) rfl Tryd.func39 (by kernel_rfl) (by kernel_rfl)
theorem code40 : e40.nv = none ∧ ∃ fn c, FnOk rig (.z (.o (.o (.z (.o .e))))) e40 fn c := entry_code (n := 40) rfl Tryd.func40 (by kernel_rfl) (by kernel_rfl)
theorem code42 : e42.nv = none ∧ ∃ fn c, FnOk rig (.z (.z (.o (.z (.o .e))))) e42 fn c := entry_code (n := 42) rfl Tryd.func42 (by kernel_rfl) (by kernel_rfl)
theorem code43 : e43.nv = none ∧ ∃ fn c, FnOk rig (.o (.o (.z (.z (.o .e))))) e43 fn c := entry_code (n := 43) rfl Tryd.func43 (by kernel_rfl) (by kernel_rfl)
theorem code45 : e45.nv = none ∧ ∃ fn c, FnOk rig (.o (.z (.z (.z (.o .e))))) e45 fn c := entry_code (n := 45) rfl Tryd.func45 (by kernel_rfl) (by kernel_rfl)
theorem code46 : e46.nv = none ∧ ∃ fn c, FnOk rig (.z (.z (.z (.z (.o .e))))) e46 fn c := entry_code (n := 46) rfl Tryd.func46 (by kernel_rfl) (by kernel_rfl)
theorem code60 : e60.nv = none ∧ ∃ fn c, FnOk rig (.z (.o (.z (.z (.z .e))))) e60 fn c := entry_code (n := 60) rfl Tryd.func60 (by kernel_rfl) (by kernel_rfl)
theorem code70 : e70.nv = none ∧ ∃ fn c, FnOk rig (.z (.z (.z (.o (.o (.o .e)))))) e70 fn c := entry_code (n := 70) rfl Tryd.func70 (by kernel_rfl) (by kernel_rfl)
theorem code71 : e71.nv = none ∧ ∃ fn c, FnOk rig (.o (.o (.o (.z (.o (.o .e)))))) e71 fn c := entry_code (n := 71) rfl Tryd.func71 (by kernel_rfl) (by kernel_rfl)
theorem code72 : e72.nv = none ∧ ∃ fn c, FnOk rig (.z (.o (.o (.z (.o (.o .e)))))) e72 fn c := entry_code (n := 72) rfl Tryd.func72 (by kernel_rfl) (by kernel_rfl)
theorem code79 : e79.nv = none ∧ ∃ fn c, FnOk rig (.o (.o (.o (.o (.z (.o .e)))))) e79 fn c := entry_code (n := 79) rfl Tryd.func79 (by kernel_rfl) (by kernel_rfl)
theorem code81 : e81.nv = none ∧ ∃ fn c, FnOk rig (.o (.z (.o (.o (.z (.o .e)))))) e81 fn c := entry_code (n := 81) rfl Tryd.func81 (by kernel_rfl) (by kernel_rfl)
theorem code83 : e83.nv = none ∧ ∃ fn c, FnOk rig (.o (.o (.z (.o (.z (.o .e)))))) e83 fn c := entry_code (n := 83) rfl Tryd.func83 (by kernel_rfl) (by kernel_rfl)
end Go.Proofs.YtahogmegmjpndaaDoor
