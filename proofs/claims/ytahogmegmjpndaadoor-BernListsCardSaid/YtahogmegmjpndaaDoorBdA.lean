/-
  The functions, as the evaluator runs them.
-/
import Derived.Test.YtahogmegmjpndaaDoorPg
import Derived.Test.YtahogmegmjpndaaDoorBaE
import Derived.Test.YtahogmegmjpndaaDoorBaG
import Derived.Test.YtahogmegmjpndaaDoorRows
namespace Go.Proofs.YtahogmegmjpndaaDoor
open Go.Ev
noncomputable def e6 : EF := f6
noncomputable def e12 : EF := f12
noncomputable def e18 : EF := f18
noncomputable def e24 : EF := f24
noncomputable def e25 : EF := f25
noncomputable def e26 : EF := f26
noncomputable def e27 : EF := f27
noncomputable def e28 : EF := f28
noncomputable def e29 : EF := f29
noncomputable def e30 : EF := f30
noncomputable def e31 : EF := f31
noncomputable def e32 : EF := f32
noncomputable def e33 : EF := f33
noncomputable def e38 : EF := f38
noncomputable def e39 : EF := f39
noncomputable def e40 : EF := f40
noncomputable def e42 : EF := f42
noncomputable def e43 : EF := f43
noncomputable def e45 : EF := f45
noncomputable def e46 : EF := f46
noncomputable def e60 : EF := f60
noncomputable def e70 : EF := f70
noncomputable def e71 : EF := f71
noncomputable def e72 : EF := f72
noncomputable def e79 : EF := f79
noncomputable def e81 : EF := f81
noncomputable def e83 : EF := f83
end Go.Proofs.YtahogmegmjpndaaDoor
