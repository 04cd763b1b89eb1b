/-
  awake gives true.
-/
import Derived.Test.YtneacehpoaambaaCoD
namespace Go.Proofs.Ytneacehpoaambaa
open Go.Ev
theorem awakeEval : givesB fs1 2000 e29 [] (.b true) = true := by kernel_rfl
theorem awakeGives : Gives rig (.o (.z (.z (.z .e)))) [] (.b true) := gives_of_eval fs1_ok code29 rfl rfl awakeEval
noncomputable def n29 : EF := ⟨0, [], .no, some (flatG (tabG [([], .b true)]))⟩
theorem nat29 : EntryOk rig (.o (.z (.z (.z .e)))) n29 := entry_nat (n := 29) rfl Try.func29 (by kernel_rfl) (by kernel_rfl) (tabG_gives ⟨awakeGives, trivial⟩)
end Go.Proofs.Ytneacehpoaambaa
