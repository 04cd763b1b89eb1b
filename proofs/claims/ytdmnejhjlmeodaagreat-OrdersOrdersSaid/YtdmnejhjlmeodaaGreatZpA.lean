/-
  The functions, as the evaluator runs them.
-/
import Derived.Test.YtdmnejhjlmeodaaGreatPj
import Derived.Test.YtdmnejhjlmeodaaGreatZaE
import Derived.Test.YtdmnejhjlmeodaaGreatRows
namespace Go.Proofs.YtdmnejhjlmeodaaGreat
open Go.Ev
noncomputable def e4:EF:=f4
noncomputable def e7:EF:=f7
noncomputable def e19:EF:=f19
noncomputable def e20:EF:=f20
noncomputable def e22:EF:=f22
noncomputable def e24:EF:=f24
noncomputable def e25:EF:=f25
noncomputable def e27:EF:=f27
noncomputable def e28:EF:=f28
noncomputable def e30:EF:=f30
noncomputable def e31:EF:=f31
noncomputable def e32:EF:=f32
noncomputable def e33:EF:=f33
noncomputable def e34:EF:=f34
noncomputable def e35:EF:=f35
noncomputable def e36:EF:=f36
noncomputable def e44:EF:=f44
noncomputable def e45:EF:=f45
noncomputable def e53:EF:=f53
noncomputable def e56:EF:=f56
noncomputable def e58:EF:=f58
noncomputable def e62:EF:=f62
noncomputable def e63:EF:=f63
noncomputable def e64:EF:=f64
noncomputable def e65:EF:=f65
noncomputable def e74:EF:=f74
noncomputable def e81:EF:=f81
noncomputable def e82:EF:=f82
noncomputable def e83:EF:=f83
noncomputable def e85:EF:=f85
noncomputable def e87:EF:=f87
noncomputable def e92:EF:=f92
noncomputable def e93:EF:=f93
noncomputable def e94:EF:=f94
noncomputable def e95:EF:=f95
noncomputable def e98:EF:=f98
noncomputable def e99:EF:=f99
noncomputable def e100:EF:=f100
noncomputable def e102:EF:=f102
noncomputable def e103:EF:=f103
noncomputable def e104:EF:=f104
noncomputable def e105:EF:=f105
noncomputable def e107:EF:=f107
noncomputable def e109:EF:=f109
noncomputable def e111:EF:=f111
noncomputable def e113:EF:=f113
noncomputable def e114:EF:=f114
noncomputable def e116:EF:=f116
noncomputable def e117:EF:=f117
noncomputable def e125:EF:=f125
end Go.Proofs.YtdmnejhjlmeodaaGreat
