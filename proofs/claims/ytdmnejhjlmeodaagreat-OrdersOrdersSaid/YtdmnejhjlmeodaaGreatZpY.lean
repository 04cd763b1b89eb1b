/-
  OrdersOrders returns true, whatever the input, and what it was given reads as it did. No condition.
-/
import Derived.Test.YtdmnejhjlmeodaaGreatZpG
import Derived.Test.YtdmnejhjlmeodaaGreatPd
namespace Go.Proofs.YtdmnejhjlmeodaaGreat
open Go.Ev
open Go.ChangeShapes Go.WideShapes Go.ChangeAt Go.RowKit

theorem shut_b {H:Type} {enc:TypeId × Value→H} {W:World} {base:Nat} {sp:Nat→Bool} {held:Bool} (b:Bool):DataW.Trod enc Tryz.prog W base sp held 4 (.bool b) (.lit (.bool b)) []:=⟨1,by simp [DataW.trod,Value.cells,Tryz.underlying4]⟩
theorem Tryz.own:ownKnob Tryz.prog.godebug=none:=by kernel_rfl
set_option maxRecDepth 100000 in
theorem ordersOrders_lifted (os : Os) (started : os.Started) (H : Type) (enc : TypeId × Value → H) :
    ReturnsInHanded {} Tryz.checked os 4 .any (Rows.ordersOrdersSpec.pre6 enc Tryz.prog Tryz.f4 Rows.ordersOrdersRow.domain false) (Rows.ordersOrdersSpec.post enc Tryz.prog Tryz.f4 false true false false):=by
  refine returnsInHanded_of_change (C:=Tryz.checked) Tryz.own started (by kernel_rfl) Tryz.func4
    (ChangeSpec.witness6 (enc:=enc) (C:=Tryz.checked) false ⟨#[], #[.int .i64 0, .slice none 0 0, .int .i64 0], []⟩ 8 (by kernel_rfl) (by kernel_rfl) (by kernel_rfl) (by kernel_rfl)) ?_
  intro W base args ds gs before hval0 hW hcnd _
  have hval:∀ (j:Nat) t v,Tryz.f4.params[j]? = some t→args[j]? = some v→Value.okWide Tryz.prog W .any base t v:=hval0
  have hW':=hW
  obtain ⟨p,q,hA0,hV,rfl,hfz,hnd⟩:=hW
  have hA:DataW.TrodAll enc Tryz.prog W 0 (fun _=>true) true Tryz.f4.params.toList args.toList ds p:=hA0
  rw [Tryz.params4] at hA hval
  obtain ⟨v0,v1,v2,d0,d1,d2,p0,p1,p2,rfl,rfl,rfl,h0,h1,h2⟩:=trodAll_three hA
  obtain ⟨rfl,rfl⟩:=trodVars_none hV
  obtain ⟨a0,rfl,rfl,rfl,wa0⟩:=open_int Tryz.underlying3 (hval 0 3 v0 rfl rfl) h0
  obtain ⟨a2,rfl,rfl,rfl,wa2⟩:=open_int Tryz.underlying3 (hval 2 3 v2 rfl rfl) h2
  have c3:Tryz.prog.cellsOf 3=1:=by kernel_rfl
  have c2:Tryz.prog.cellsOf 23=2:=by kernel_rfl
  obtain ⟨L1,z1,hs1,hb1,hback1⟩:=trod_slArg2w Tryz.underlying22 Tryz.underlying23 Tryz.underlying3 c3 c2 (hval 1 22 v1 rfl rfl) h1 (ps:=p1) (fun x hx=>hx) (fun bb off hm=>hfz bb off (by simp [hm]))
  clear hA0 hval0
  simp only [List.append_nil,List.nil_append] at hW'
  refine (law_call a0 hs1 hb1 a2).mono fun e W' ⟨he,hnx⟩=>?_
  subst he
  exact ⟨_,rfl,_,_,_, [],_, [],hW',trodAll_mk1 (shut_b true),trodAll_mk3 (shut_int Tryz.underlying3 wa0) (hback1 W' hnx) (shut_int Tryz.underlying3 wa2),rfl,hnx.frame _,fun h=>by cases h⟩
theorem ordersOrders_holds:Rows.OrdersOrdersSaid :=
  OpenClaim.holds_of_wide 4 Tryz.f4 rfl rfl rfl rfl rfl rfl rfl ⟨rfl,rfl,rfl,rfl,rfl⟩ rfl rfl rfl rfl rfl (by kernel_rfl) Tryz.func4 (by kernel_rfl)
    (of_decide_eq_true (by kernel_rfl)) (by unfold Func.isWrapper; first | (rw [if_pos (by decide +kernel)]; kernel_rfl) | (rw [if_neg (by decide +kernel)]; exact ⟨rfl,rfl⟩))
    (fun os started H enc _=>ordersOrders_lifted os started H enc)
end Go.Proofs.YtdmnejhjlmeodaaGreat
