/-
  The functions, as the evaluator runs them.
-/
import Derived.Test.YtlnkpocijfgikaaDoorPg
import Derived.Test.YtlnkpocijfgikaaDoorSaE
import Derived.Test.YtlnkpocijfgikaaDoorSaG
import Derived.Test.YtlnkpocijfgikaaDoorRows
namespace Go.Proofs.YtlnkpocijfgikaaDoor
open Go.Ev
noncomputable def e5 : EF := f5
noncomputable def e25 : EF := f25
noncomputable def e33 : EF := f33
noncomputable def e35 : EF := f35
noncomputable def e52 : EF := f52
noncomputable def e72 : EF := f72
noncomputable def e73 : EF := f73
noncomputable def e74 : EF := f74
noncomputable def e83 : EF := f83
end Go.Proofs.YtlnkpocijfgikaaDoor
