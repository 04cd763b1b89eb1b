/-
  The functions, as the evaluator runs them.
-/
import Derived.Test.YtlnkpocijfgikaaDoorPe
import Derived.Test.YtlnkpocijfgikaaDoorSaE
import Derived.Test.YtlnkpocijfgikaaDoorSaG
import Derived.Test.YtlnkpocijfgikaaDoorRows
namespace Go.Proofs.YtlnkpocijfgikaaDoor
open Go.Ev
noncomputable def e7 : EF := f7
noncomputable def e23 : EF := f23
noncomputable def e24 : EF := f24
noncomputable def e25 : EF := f25
noncomputable def e31 : EF := f31
noncomputable def e40 : EF := f40
noncomputable def e41 : EF := f41
noncomputable def e53 : EF := f53
noncomputable def e56 : EF := f56
noncomputable def e66 : EF := f66
noncomputable def e69 : EF := f69
noncomputable def e79 : EF := f79
end Go.Proofs.YtlnkpocijfgikaaDoor
