/-
  RoundsMakes: the loop at n = 4, round 1.
-/
import Derived.Test.YtfephkgdccbobaaRmF
namespace Go.Proofs.Ytfephkgdccbobaa
open Go.Ev
theorem run4_1 (fr : Fr) : outL (eval fs2 3000 none lawLoop (start fr (.ofNat 4) (.ofNat 1)) ⟨.e, .nil⟩) = true := by kernel_rfl
end Go.Proofs.Ytfephkgdccbobaa
