/-
  RoundsMakes: the loop at n = 10, round 0.
-/
import Derived.Test.YtfephkgdccbobaaRmF
namespace Go.Proofs.Ytfephkgdccbobaa
open Go.Ev
theorem run10_0 (fr : Fr) : outL (eval fs2 3000 none lawLoop (start fr (.ofNat 10) (.ofNat 0)) ⟨.e, .nil⟩) = true := by kernel_rfl
end Go.Proofs.Ytfephkgdccbobaa
