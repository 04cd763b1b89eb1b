/-
  The functions, as the evaluator runs them.
-/
import Derived.Test.YtdmnejhjlmeodaaGreatPg
import Derived.Test.YtdmnejhjlmeodaaGreatZaE
import Derived.Test.YtdmnejhjlmeodaaGreatRows
namespace Go.Proofs.YtdmnejhjlmeodaaGreat
open Go.Ev
noncomputable def e3 : EF := f3
noncomputable def e5 : EF := f5
noncomputable def e6 : EF := f6
noncomputable def e7 : EF := f7
noncomputable def e10 : EF := f10
noncomputable def e11 : EF := f11
noncomputable def e12 : EF := f12
noncomputable def e13 : EF := f13
noncomputable def e16 : EF := f16
noncomputable def e18 : EF := f18
noncomputable def e19 : EF := f19
noncomputable def e20 : EF := f20
noncomputable def e22 : EF := f22
noncomputable def e35 : EF := f35
noncomputable def e36 : EF := f36
noncomputable def e43 : EF := f43
noncomputable def e44 : EF := f44
noncomputable def e45 : EF := f45
noncomputable def e74 : EF := f74
end Go.Proofs.YtdmnejhjlmeodaaGreat
