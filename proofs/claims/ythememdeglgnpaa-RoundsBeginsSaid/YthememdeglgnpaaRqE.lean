/-
  awake gives true.
-/
import Derived.Test.YthememdeglgnpaaRqD
namespace Go.Proofs.Ythememdeglgnpaa
open Go.Ev
theorem awakeEval : givesB fs1 3000 e22 [] (.b true) = true := by kernel_rfl
theorem awakeGives : Gives rig (.z (.z (.z (.o .e)))) [] (.b true) := gives_of_eval fs1_ok code22 rfl rfl awakeEval
noncomputable def n22 : EF := ⟨0, [], .no, some (flatG (tabG [([], .b true)]))⟩
theorem nat22 : EntryOk rig (.z (.z (.z (.o .e)))) n22 := entry_nat (n := 22) rfl Try.func22 (by kernel_rfl) (by kernel_rfl) (tabG_gives ⟨awakeGives, trivial⟩)
end Go.Proofs.Ythememdeglgnpaa
