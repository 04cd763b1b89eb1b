/-
  The functions, as the evaluator runs them.
-/
import Derived.Test.YtlnkpocijfgikaaDoorPg
import Derived.Test.YtlnkpocijfgikaaDoorSaE
import Derived.Test.YtlnkpocijfgikaaDoorSaG
import Derived.Test.YtlnkpocijfgikaaDoorRows
namespace Go.Proofs.YtlnkpocijfgikaaDoor
open Go.Ev
noncomputable def e9 : EF := f9
noncomputable def e25 : EF := f25
noncomputable def e27 : EF := f27
noncomputable def e30 : EF := f30
noncomputable def e39 : EF := f39
noncomputable def e40 : EF := f40
noncomputable def e51 : EF := f51
noncomputable def e52 : EF := f52
noncomputable def e53 : EF := f53
noncomputable def e56 : EF := f56
noncomputable def e66 : EF := f66
noncomputable def e69 : EF := f69
noncomputable def e70 : EF := f70
noncomputable def e71 : EF := f71
noncomputable def e79 : EF := f79
noncomputable def e83 : EF := f83
end Go.Proofs.YtlnkpocijfgikaaDoor
