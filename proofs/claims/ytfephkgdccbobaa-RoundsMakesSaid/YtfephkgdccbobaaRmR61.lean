/-
  RoundsMakes: the loop at n = 6, round 1.
-/
import Derived.Test.YtfephkgdccbobaaRmF
namespace Go.Proofs.Ytfephkgdccbobaa
open Go.Ev
theorem run6_1 (fr : Fr) : outL (eval fs2 3000 none lawLoop (start fr (.ofNat 6) (.ofNat 1)) ⟨.e, .nil⟩) = true := by kernel_rfl
end Go.Proofs.Ytfephkgdccbobaa
