/-
  The functions, as the evaluator runs them.
-/
import Derived.Test.YtlnkpocijfgikaaDoorPf
import Derived.Test.YtlnkpocijfgikaaDoorSaE
import Derived.Test.YtlnkpocijfgikaaDoorSaG
import Derived.Test.YtlnkpocijfgikaaDoorRows
namespace Go.Proofs.YtlnkpocijfgikaaDoor
open Go.Ev
noncomputable def e8 : EF := f8
noncomputable def e12 : EF := f12
noncomputable def e25 : EF := f25
noncomputable def e27 : EF := f27
noncomputable def e30 : EF := f30
noncomputable def e31 : EF := f31
noncomputable def e39 : EF := f39
noncomputable def e40 : EF := f40
noncomputable def e42 : EF := f42
noncomputable def e43 : EF := f43
noncomputable def e47 : EF := f47
noncomputable def e48 : EF := f48
noncomputable def e49 : EF := f49
noncomputable def e50 : EF := f50
noncomputable def e53 : EF := f53
noncomputable def e56 : EF := f56
noncomputable def e66 : EF := f66
noncomputable def e69 : EF := f69
noncomputable def e70 : EF := f70
noncomputable def e71 : EF := f71
noncomputable def e79 : EF := f79
end Go.Proofs.YtlnkpocijfgikaaDoor
