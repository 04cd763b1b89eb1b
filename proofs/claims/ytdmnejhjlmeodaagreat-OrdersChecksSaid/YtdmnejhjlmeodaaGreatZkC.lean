/-
  The functions are the program's.
-/
import Derived.Test.YtdmnejhjlmeodaaGreatZkA
namespace Go.Proofs.YtdmnejhjlmeodaaGreat
open Go.Ev
theorem code3 : e3.nv = none ∧ ∃ fn c, FnOk rig (.o (.o .e)) e3 fn c := entry_code (n := 3) rfl Tryz.func3 (by kernel_rfl) (by kernel_rfl)
theorem code5 : e5.nv = none ∧ ∃ fn c, FnOk rig (.o (.z .e)) e5 fn c := entry_code (n := 5) rfl Tryz.func5 (by kernel_rfl) (by kernel_rfl)
theorem code6 : e6.nv = none ∧ ∃ fn c, FnOk rig (.z (.z .e)) e6 fn c := entry_code (n := 6) rfl Tryz.func6 (by kernel_rfl) (by kernel_rfl)
theorem code7 : e7.nv = none ∧ ∃ fn c, FnOk rig (.o (.o (.o .e))) e7 fn c := entry_code (n := 7) rfl Tryz.func7 (by kernel_rfl) (by kernel_rfl)
theorem code10 : e10.nv = none ∧ ∃ fn c, FnOk rig (.z (.z (.o .e))) e10 fn c := entry_code (n := 10) rfl Tryz.func10 (by kernel_rfl) (by kernel_rfl)
theorem code11 : e11.nv = none ∧ ∃ fn c, FnOk rig (.o (.o (.z .e))) e11 fn c := entry_code (n := 11) rfl Tryz.func11 (by kernel_rfl) (by kernel_rfl)
theorem code12 : e12.nv = none ∧ ∃ fn c, FnOk rig (.z (.o (.z .e))) e12 fn c := entry_code (n := 12) rfl Tryz.func12 (by kernel_rfl) (by kernel_rfl)
theorem code13 : e13.nv = none ∧ ∃ fn c, FnOk rig (.o (.z (.z .e))) e13 fn c := entry_code (n := 13) rfl Tryz.func13 (by kernel_rfl) (by kernel_rfl)
theorem code16 : e16.nv = none ∧ ∃ fn c, FnOk rig (.z (.o (.o (.o .e)))) e16 fn c := entry_code (n := 16) rfl Tryz.func16 (by kernel_rfl) (by kernel_rfl)
theorem code18 : e18.nv = none ∧ ∃ fn c, FnOk rig (.z (.z (.o (.o .e)))) e18 fn c := entry_code (n := 18) rfl Tryz.func18 (by kernel_rfl) (by kernel_rfl)
theorem code19 : e19.nv = none ∧ ∃ fn c, FnOk rig (.o (.o (.z (.o .e)))) e19 fn c := entry_code (n := 19) rfl Tryz.func19 (by kernel_rfl) (by kernel_rfl)
theorem code20 : e20.nv = none ∧ ∃ fn c, FnOk rig (.z (.o (.z (.o .e)))) e20 fn c := entry_code (n := 20) rfl Tryz.func20 (by kernel_rfl) (by kernel_rfl)
theorem code22 : e22.nv = none ∧ ∃ fn c, FnOk rig (.z (.z (.z (.o .e)))) e22 fn c := entry_code (n := 22) rfl Tryz.func22 (by kernel_rfl) (by kernel_rfl)
theorem code35 : e35.nv = none ∧ ∃ fn c, FnOk rig (.o (.o (.z (.o (.o .e))))) e35 fn c := entry_code (n := 35) rfl Tryz.func35 (by kernel_rfl) (by kernel_rfl)
theorem code36 : e36.nv = none ∧ ∃ fn c, FnOk rig (.z (.o (.z (.o (.o .e))))) e36 fn c := entry_code (n := 36) rfl Tryz.func36 (by kernel_rfl) (by kernel_rfl)
theorem code43 : e43.nv = none ∧ ∃ fn c, FnOk rig (.o (.o (.z (.z (.o .e))))) e43 fn c := entry_code (n := 43) rfl Tryz.func43 (by kernel_rfl) (by kernel_rfl)
theorem code44 : e44.nv = none ∧ ∃ fn c, FnOk rig (.z (.o (.z (.z (.o .e))))) e44 fn c := entry_code (n := 44) rfl Tryz.func44 (by kernel_rfl) (by kernel_rfl)
theorem code45 : e45.nv = none ∧ ∃ fn c, FnOk rig (.o (.z (.z (.z (.o .e))))) e45 fn c := entry_code (n := 45) rfl Tryz.func45 (by kernel_rfl) (by kernel_rfl)
theorem code74 : e74.nv = none ∧ ∃ fn c, FnOk rig (.z (.z (.o (.z (.o (.o .e)))))) e74 fn c := entry_code (n := 74) rfl Tryz.func74 (by kernel_rfl) (by kernel_rfl)
end Go.Proofs.YtdmnejhjlmeodaaGreat
