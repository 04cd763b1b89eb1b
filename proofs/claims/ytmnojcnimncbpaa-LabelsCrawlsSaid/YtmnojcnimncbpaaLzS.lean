/-
  What awake asks.
-/
import Derived.Test.YtmnojcnimncbpaaLzD
namespace Go.Proofs.Ytmnojcnimncbpaa
open Go.Ev
noncomputable def rowL3 : CRow := ⟨fun k => [(.i .i64 (.ofNat 3)), .sl k 0 2 2], [(.i .i64 (.ofNat 0)), (.i .i64 (.ofNat 1)), (.i .i64 (.ofNat 1)), (.i .i64 (.ofNat 2))], [(.i .i64 (.ofNat 0)), (.i .i64 (.ofNat 2)), (.i .i64 (.ofNat 1))], fun k => .tup [.sl k 0 3 1, .b true, (.i .i64 (.ofNat 0))]⟩
noncomputable def rowC3 : CRow := ⟨fun k => [(.i .i64 (.ofNat 3)), .sl k 0 2 2], [(.i .i64 (.ofNat 0)), (.i .i64 (.ofNat 1)), (.i .i64 (.ofNat 1)), (.i .i64 (.ofNat 2))], [(.i .i64 (.ofNat 0)), (.i .i64 (.ofNat 1))], fun _ => .tup [(.i .i64 (.ofNat 4)), (.i .i64 (.ofNat 0))]⟩
noncomputable def rowR5 : CRow := ⟨fun _ => [(.i .i64 (.ofNat 5))], [], [(.i .i64 (.ofNat 0)), (.i .i64 (.ofNat 1)), (.i .i64 (.ofNat 4)), (.i .i64 (.ofNat 9)), (.i .i64 (.ofNat 11))], fun k => .tup [.sl k 0 5 1, (.i .i64 (.ofNat 0))]⟩
noncomputable def rowE4 : CRow := ⟨fun k => [.sl k 0 3 1, (.i .i64 (.ofNat 4))], [(.i .i64 (.ofNat 0)), (.i .i64 (.ofNat 1)), (.i .i64 (.ofNat 3))], [(.i .i64 (.ofNat 0)), (.i .i64 (.ofNat 1)), (.i .i64 (.ofNat 3)), (.i .i64 (.ofNat 7))], fun k => .tup [.sl k 0 4 1, .b true, (.i .i64 (.ofNat 0))]⟩
noncomputable def rowL5 : CRow := ⟨fun k => [(.i .i64 (.ofNat 5)), .sl k 0 5 2], [(.i .i64 (.ofNat 0)), (.i .i64 (.ofNat 1)), (.i .i64 (.ofNat 0)), (.i .i64 (.ofNat 4)), (.i .i64 (.ofNat 1)), (.i .i64 (.ofNat 2)), (.i .i64 (.ofNat 2)), (.i .i64 (.ofNat 3)), (.i .i64 (.ofNat 3)), (.i .i64 (.ofNat 4))], [(.i .i64 (.ofNat 0)), (.i .i64 (.ofNat 1))], fun _ => .tup [.sn, .b false, (.i .i64 (.ofNat 0))]⟩
end Go.Proofs.Ytmnojcnimncbpaa
