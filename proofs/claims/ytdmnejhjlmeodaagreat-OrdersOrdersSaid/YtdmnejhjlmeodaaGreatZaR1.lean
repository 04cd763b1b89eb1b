/-
  awake: Orient.
-/
import Derived.Test.YtdmnejhjlmeodaaGreatZaD
namespace Go.Proofs.YtdmnejhjlmeodaaGreat
open Go.Ev
open Go.RowKit
theorem sn_any {ι ι':Io} {x:Value} (h:VR ι .sn x):VR ι' .sn x:=by cases h; exact .sn
noncomputable def row14:CRow:=⟨fun id => [.i .i64 (.ofNat 5), .sl id 0 5 2], [.i .i64 (.ofNat 0), .i .i64 (.ofNat 1), .i .i64 (.ofNat 0), .i .i64 (.ofNat 4), .i .i64 (.ofNat 1), .i .i64 (.ofNat 2), .i .i64 (.ofNat 2), .i .i64 (.ofNat 3), .i .i64 (.ofNat 3), .i .i64 (.ofNat 4)], [],fun _ => .tup [.sn, .b false, .i .i64 (.ofNat 0)]⟩
noncomputable def chk14:Bool:=match callF (eval fs0 3000) e14 (row14.args .e) (rowH row14) with | .ok v h1=>(match v with | .tup [.sn, .b false, .i .i64 n]=>ieq n (.ofNat 0) | _=>false) && isCells (h1.get .e) row14.cells | .no=>false
theorem run14:chk14=true:=by kernel_rfl
theorem does14:Ret fs0 e14 (row14.args .e) (rowH row14) fun v h1=>v=row14.out .e∧h1.get .e=(rowH row14).get .e:=by
  have h:=run14
  unfold chk14 at h
  split at h
  · rename_i v h1 e
    rw [Bool.and_eq_true] at h
    obtain ⟨h2,h3⟩:=h
    split at h2
    · rename_i n
      have hn:n = .ofNat 0:=by rw [ieq_eq] at h2; exact of_decide_eq_true h2
      subst hn
      exact ⟨3000,_,_,e,rfl,isCells_eq h3⟩
    · cases h2
  · cases h
noncomputable def n14:EF:=⟨0, [], .no,some (row2G row14)⟩
theorem args14:∀ id,CArgs [id] (row14.args id) (row14.args .e):=fun _ => .cons (.flat rfl) (.cons (.sl1 _ _ _) .nil)
theorem outs14:∀ ι ι' x,VR ι (row14.out .e) x→VR ι' (row14.out .e) x:=fun ι ι' x h=>by
  cases h with
  | tup hl h => exact .tup hl (fun i h1 h2 => by
      have:=h i h1 h2
      obtain rfl | rfl | rfl:i=0 ∨ i=1 ∨ i=2:=by have:i < 3:=h1; omega
      · exact sn_any this
      · exact VR.flat rfl this
      · exact VR.flat rfl this)
theorem nat14:EntryOk rig (.z (.z (.z .e))) n14:=entry_does (n:=14) rfl Tryz.func14 (by kernel_rfl) (by kernel_rfl) (row2_does fs0_ok code14 args14 rfl outs14 does14)
end Go.Proofs.YtdmnejhjlmeodaaGreat
