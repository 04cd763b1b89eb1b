/-
  The functions, as the evaluator runs them.
-/
import Derived.Test.YtlnkpocijfgikaaDoorPf
import Derived.Test.YtlnkpocijfgikaaDoorSaE
import Derived.Test.YtlnkpocijfgikaaDoorSaG
import Derived.Test.YtlnkpocijfgikaaDoorRows
namespace Go.Proofs.YtlnkpocijfgikaaDoor
open Go.Ev
noncomputable def e3 : EF := f3
noncomputable def e12 : EF := f12
noncomputable def e13 : EF := f13
noncomputable def e16 : EF := f16
noncomputable def e18 : EF := f18
noncomputable def e22 : EF := f22
noncomputable def e23 : EF := f23
noncomputable def e24 : EF := f24
noncomputable def e25 : EF := f25
noncomputable def e26 : EF := f26
noncomputable def e27 : EF := f27
noncomputable def e28 : EF := f28
noncomputable def e30 : EF := f30
noncomputable def e31 : EF := f31
noncomputable def e32 : EF := f32
noncomputable def e53 : EF := f53
noncomputable def e56 : EF := f56
noncomputable def e58 : EF := f58
noncomputable def e64 : EF := f64
noncomputable def e65 : EF := f65
noncomputable def e66 : EF := f66
noncomputable def e68 : EF := f68
noncomputable def e69 : EF := f69
noncomputable def e70 : EF := f70
noncomputable def e71 : EF := f71
noncomputable def e79 : EF := f79
noncomputable def e89 : EF := f89
end Go.Proofs.YtlnkpocijfgikaaDoor
