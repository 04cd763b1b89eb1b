/-
  The functions, as the evaluator runs them.
-/
import Derived.Test.YtdmnejhjlmeodaaPi
import Derived.Test.YtdmnejhjlmeodaaOaE
import Derived.Test.YtdmnejhjlmeodaaRows
namespace Go.Proofs.Ytdmnejhjlmeodaa
open Go.Ev
noncomputable def e4 : EF := f4
noncomputable def e11 : EF := f11
noncomputable def e19 : EF := f19
noncomputable def e20 : EF := f20
noncomputable def e21 : EF := f21
noncomputable def e25 : EF := f25
noncomputable def e26 : EF := f26
noncomputable def e27 : EF := f27
noncomputable def e28 : EF := f28
noncomputable def e29 : EF := f29
noncomputable def e30 : EF := f30
noncomputable def e40 : EF := f40
noncomputable def e52 : EF := f52
noncomputable def e53 : EF := f53
noncomputable def e55 : EF := f55
noncomputable def e56 : EF := f56
noncomputable def e62 : EF := f62
noncomputable def e63 : EF := f63
noncomputable def e85 : EF := f85
end Go.Proofs.Ytdmnejhjlmeodaa
