/-
  awake gives true.
-/
import Derived.Test.YtmnojcnimncbpaaLvrowL3
import Derived.Test.YtmnojcnimncbpaaLvrowC3
import Derived.Test.YtmnojcnimncbpaaLvrowR5
import Derived.Test.YtmnojcnimncbpaaLvrowE4
import Derived.Test.YtmnojcnimncbpaaLvrowL5
namespace Go.Proofs.Ytmnojcnimncbpaa
open Go.Ev
noncomputable def n24 : EF := ⟨0, [], .no, some (orG (row1G rowL3) (row2G rowL5))⟩
theorem nat24 : EntryOk rig (.z (.o (.o (.z .e)))) n24 := entry_does (n := 24) rfl Try.func24 (by kernel_rfl) (by kernel_rfl) (or_does rowL3_does rowL5_does)
noncomputable def n25 : EF := ⟨0, [], .no, some (row1G rowC3)⟩
theorem nat25 : EntryOk rig (.o (.z (.o (.z .e)))) n25 := entry_does (n := 25) rfl Try.func25 (by kernel_rfl) (by kernel_rfl) (rowC3_does)
noncomputable def n46 : EF := ⟨0, [], .no, some (row0G rowR5)⟩
theorem nat46 : EntryOk rig (.z (.z (.z (.z (.o .e))))) n46 := entry_does (n := 46) rfl Try.func46 (by kernel_rfl) (by kernel_rfl) (rowR5_does)
noncomputable def n43 : EF := ⟨0, [], .no, some (row1G rowE4)⟩
theorem nat43 : EntryOk rig (.o (.o (.z (.z (.o .e))))) n43 := entry_does (n := 43) rfl Try.func43 (by kernel_rfl) (by kernel_rfl) (rowE4_does)
noncomputable def fs2 : T EF := (.node (.node (.node (.node .nil (some e7) (.node (.node (.node .nil (some e71) .nil) (some e39) (.node .nil (some e103) .nil)) (some e23) .nil)) none (.node (.node (.node .nil (some e35) (.node .nil (some n99) .nil)) none (.node (.node (.node .nil (some e147) .nil) none .nil) none .nil)) none (.node (.node (.node .nil (some e75) .nil) (some n43) (.node .nil (some e107) .nil)) none .nil))) none (.node (.node (.node (.node (.node (.node .nil (some e129) .nil) (some e65) .nil) none .nil) (some e17) .nil) none (.node .nil (some n25) .nil)) none (.node (.node (.node .nil (some e37) (.node .nil (some n101) .nil)) (some e21) (.node (.node (.node .nil (some e149) .nil) none .nil) none .nil)) none (.node (.node (.node .nil (some e77) .nil) none .nil) none (.node .nil (some e61) .nil))))) none (.node (.node (.node (.node (.node (.node .nil (some e64) .nil) none .nil) none .nil) none (.node (.node (.node .nil (some e72) .nil) none (.node .nil (some e104) .nil)) (some n24) .nil)) none (.node (.node (.node (.node (.node .nil (some e132) .nil) (some e68) .nil) none (.node .nil (some e100) .nil)) none .nil) none (.node (.node (.node .nil (some e76) .nil) none (.node .nil (some e108) .nil)) none (.node .nil (some e60) .nil)))) none (.node (.node (.node (.node (.node (.node .nil (some e130) .nil) (some e66) .nil) none (.node .nil (some e98) .nil)) none .nil) none .nil) none (.node (.node (.node .nil (some e38) (.node .nil (some e102) .nil)) none .nil) (some e14) (.node (.node (.node .nil (some e78) .nil) (some n46) (.node .nil (some e110) .nil)) (some e30) (.node .nil (some e62) .nil))))))
theorem fs2_ok : Fns rig fs2 := fns_of_each ⟨trivial, ⟨trivial, ⟨trivial, ⟨.inl code7, trivial, ⟨.inl code23, ⟨.inl code39, ⟨.inl code71, trivial, trivial⟩, ⟨.inl code103, trivial, trivial⟩⟩, trivial⟩⟩, ⟨trivial, ⟨trivial, ⟨.inl code35, trivial, ⟨nat99, trivial, trivial⟩⟩, ⟨trivial, ⟨trivial, ⟨.inl code147, trivial, trivial⟩, trivial⟩, trivial⟩⟩, ⟨trivial, ⟨nat43, ⟨.inl code75, trivial, trivial⟩, ⟨.inl code107, trivial, trivial⟩⟩, trivial⟩⟩⟩, ⟨trivial, ⟨trivial, ⟨.inl code17, ⟨trivial, ⟨.inl code65, ⟨.inl code129, trivial, trivial⟩, trivial⟩, trivial⟩, trivial⟩, ⟨nat25, trivial, trivial⟩⟩, ⟨trivial, ⟨.inl code21, ⟨.inl code37, trivial, ⟨nat101, trivial, trivial⟩⟩, ⟨trivial, ⟨trivial, ⟨.inl code149, trivial, trivial⟩, trivial⟩, trivial⟩⟩, ⟨trivial, ⟨trivial, ⟨.inl code77, trivial, trivial⟩, trivial⟩, ⟨.inl code61, trivial, trivial⟩⟩⟩⟩⟩, ⟨trivial, ⟨trivial, ⟨trivial, ⟨trivial, ⟨trivial, ⟨.inl code64, trivial, trivial⟩, trivial⟩, trivial⟩, ⟨nat24, ⟨trivial, ⟨.inl code72, trivial, trivial⟩, ⟨.inl code104, trivial, trivial⟩⟩, trivial⟩⟩, ⟨trivial, ⟨trivial, ⟨trivial, ⟨.inl code68, ⟨.inl code132, trivial, trivial⟩, trivial⟩, ⟨.inl code100, trivial, trivial⟩⟩, trivial⟩, ⟨trivial, ⟨trivial, ⟨.inl code76, trivial, trivial⟩, ⟨.inl code108, trivial, trivial⟩⟩, ⟨.inl code60, trivial, trivial⟩⟩⟩⟩, ⟨trivial, ⟨trivial, ⟨trivial, ⟨trivial, ⟨.inl code66, ⟨.inl code130, trivial, trivial⟩, trivial⟩, ⟨.inl code98, trivial, trivial⟩⟩, trivial⟩, trivial⟩, ⟨.inl code14, ⟨trivial, ⟨.inl code38, trivial, ⟨.inl code102, trivial, trivial⟩⟩, trivial⟩, ⟨.inl code30, ⟨nat46, ⟨.inl code78, trivial, trivial⟩, ⟨.inl code110, trivial, trivial⟩⟩, ⟨.inl code62, trivial, trivial⟩⟩⟩⟩⟩⟩
theorem awakeEval : givesB fs2 3000 e23 [] (.b true) = true := by kernel_rfl
theorem awakeGives : Gives rig (.o (.o (.o (.z .e)))) [] (.b true) := gives_of_eval fs2_ok code23 rfl rfl awakeEval
noncomputable def n23 : EF := ⟨0, [], .no, some (flatG (tabG [([], .b true)]))⟩
theorem nat23 : EntryOk rig (.o (.o (.o (.z .e)))) n23 := entry_nat (n := 23) rfl Try.func23 (by kernel_rfl) (by kernel_rfl) (tabG_gives ⟨awakeGives, trivial⟩)
end Go.Proofs.Ytmnojcnimncbpaa
