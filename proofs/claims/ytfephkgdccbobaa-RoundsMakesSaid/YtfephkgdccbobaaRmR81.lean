/-
  RoundsMakes: the loop at n = 8, round 1.
-/
import Derived.Test.YtfephkgdccbobaaRmF
namespace Go.Proofs.Ytfephkgdccbobaa
open Go.Ev
theorem run8_1 (fr : Fr) : outL (eval fs2 3000 none lawLoop (start fr (.ofNat 8) (.ofNat 1)) ⟨.e, .nil⟩) = true := by kernel_rfl
end Go.Proofs.Ytfephkgdccbobaa
