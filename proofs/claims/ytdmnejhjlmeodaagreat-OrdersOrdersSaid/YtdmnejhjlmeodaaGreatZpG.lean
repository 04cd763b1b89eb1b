/-
  OrdersOrders, called.
-/
import Derived.Test.YtdmnejhjlmeodaaGreatZpD
import Derived.Test.YtdmnejhjlmeodaaGreatPd
namespace Go.Proofs.YtdmnejhjlmeodaaGreat
open Go.Ev
open Go.RowKit
theorem get23:t5.get (K.ofNat 23)=some n23:=by kernel_rfl
theorem callsL:CallsOo t5 where
  n66:=fun n x h P=>E66 (fs:=t5) (ef:=n66) (by kernel_rfl) rfl (n,x) trivial h P
  n54:=fun x h P=>E54 (fs:=t5) (ef:=n54) (by kernel_rfl) rfl x trivial h P
  n55:=fun x h P=>E55 (fs:=t5) (ef:=n55) (by kernel_rfl) rfl x trivial h P
  n45:=fun x h P=>E45 (fs:=t5) (ef:=n45) (by kernel_rfl) rfl x trivial h P
  n70:=fun L h P p1=>E70 (fs:=t5) (ef:=n70) (by kernel_rfl) rfl L p1 h P
  n71:=fun L M h P p1 p2=>E71 (fs:=t5) (ef:=n71) (by kernel_rfl) rfl (L,M) ⟨p1,p2⟩ h P
  n74:=fun L x h P p1=>E74 (fs:=t5) (ef:=n74) (by kernel_rfl) rfl (L,x) p1 h P
  c76:=by kernel_rfl
  c90:=by kernel_rfl
  c69:=by kernel_rfl
  c38:=by kernel_rfl
  n77:=fun L h P p1=>E77 (fs:=t5) (ef:=n77) (by kernel_rfl) rfl L p1 h P
  n68:=fun L h P p1=>E68 (fs:=t5) (ef:=n68) (by kernel_rfl) rfl L p1 h P
  n67:=fun L M h P p1 p2=>E67 (fs:=t5) (ef:=n67) (by kernel_rfl) rfl (L,M) ⟨p1,p2⟩ h P
  n41:=fun L n h P p1 p2=>E41 (fs:=t5) (ef:=n41) (by kernel_rfl) rfl (L,n) ⟨p1,p2⟩ h P
  n46:=fun L x h P p1 p2=>E46 (fs:=t5) (ef:=n46) (by kernel_rfl) rfl (L,x) ⟨p1,p2⟩ h P
  n44:=fun L x y h P p1 p2 p3=>E44 (fs:=t5) (ef:=n44) (by kernel_rfl) rfl (L,(x,y)) ⟨p1,p2,p3⟩ h P
  n39:=fun L h P p1=>E39 (fs:=t5) (ef:=n39) (by kernel_rfl) rfl L p1 h P
  n57:=fun a b h P=>E57 (fs:=t5) (ef:=n57) (by kernel_rfl) rfl (a,b) trivial h P
  c37:=by kernel_rfl
  c8:=by kernel_rfl
  c40:=by kernel_rfl
  c47:=by kernel_rfl
  n49:=fun L h P p1=>E49 (fs:=t5) (ef:=n49) (by kernel_rfl) rfl L p1 h P
  c83:=by kernel_rfl
  c125:=by kernel_rfl
  c116:=by kernel_rfl
  c100:=by kernel_rfl
  c103:=by kernel_rfl
  c104:=by kernel_rfl
  c105:=by kernel_rfl
  c107:=by kernel_rfl
  c94:=by kernel_rfl
  c95:=by kernel_rfl
  c109:=by kernel_rfl
  c82:=by kernel_rfl
  c102:=by kernel_rfl
  c113:=by kernel_rfl
  c114:=by kernel_rfl
  c9:=by kernel_rfl
  c56:=by kernel_rfl
  c59:=by kernel_rfl
  c85:=by kernel_rfl
  c93:=by kernel_rfl
  c99:=by kernel_rfl
  c117:=by kernel_rfl
  c111:=by kernel_rfl
  c98:=by kernel_rfl
  c92:=by kernel_rfl
  c81:=by kernel_rfl
  c53:=by kernel_rfl
  c36:=by kernel_rfl
  c62:=by kernel_rfl
  c87:=by kernel_rfl
  c63:=by kernel_rfl
  c64:=by kernel_rfl
  c35:=by kernel_rfl
  c24:=by kernel_rfl
  c14:=by kernel_rfl
  c7:=by kernel_rfl
  c19:=by kernel_rfl
  c20:=by kernel_rfl
  c21:=by kernel_rfl
  c22:=by kernel_rfl
  c25:=by kernel_rfl
  c26:=by kernel_rfl
  c27:=by kernel_rfl
  c28:=by kernel_rfl
  c29:=by kernel_rfl
  c30:=by kernel_rfl
  c31:=by kernel_rfl
  c32:=by kernel_rfl
  c33:=by kernel_rfl
  c34:=by kernel_rfl
  c58:=by kernel_rfl
  c65:=by kernel_rfl
  aw:=fun h P=>callP_flat (g:=tabG [([], .b true)]) get23 rfl rfl
theorem law_call {W:World} (x0:Int) {val1:Value} {n1:Nat} {L1:List Int} (a1:SlArgK 2 W val1 n1 L1) (_b1:∀ z ∈ L1,inR .i64 z=true) (x2:Int):Calls Tryz.prog 4 #[.int .i64 x0,val1, .int .i64 x2] W fun e W'=>e = .returned (.bool true)∧Below W.heap.size W W':=by
  obtain ⟨ι1,m1,u1,r1,x1_,v1,s1,g1⟩:=(Roms.nil (Y:=rig) (W:=W)).addK (by omega) a1
  exact r1.call (k:=(.z (.o .e))) (ef:=f4) t5_ok (show f4.nv=none ∧ ∃ fn c,FnOk rig (.z (.o .e)) f4 fn c from code4) (VRs.cons (.i _ _) (VRs.cons v1 (VRs.cons (.i _ _) VRs.nil))) (f4_ret callsL (s1.srp a1.le) r1.hc)
end Go.Proofs.YtdmnejhjlmeodaaGreat
