/-
  Rules of the evaluator, as one., and what follows.
-/
import Derived.Test.YtdmnejhjlmeodaaGreatPa
import Derived.Test.YtdmnejhjlmeodaaGreatPb
import Derived.Test.YtdmnejhjlmeodaaGreatPc
import Derived.Test.YtdmnejhjlmeodaaGreatPd
namespace Go.Ev
open Go Go.RowKit
noncomputable def oG (n:Nat) (o:EOp):EOper:=⟨some (K.ofNat n),none,o⟩
noncomputable def tG (n:Nat):EO := .t (K.ofNat n)
noncomputable def cG (n:Nat):EO := .c (.i .i64 (.ofNat n))
noncomputable def fG (n:Nat):EO := .c (.fn (K.ofNat n) [])
noncomputable def gG (n m:Nat) (b:Bool) (o:EOp):EOper:=⟨some (K.ofNat n),some (K.ofNat m,b),o⟩
theorem oG_e {n:Nat} {o:EOp}:oG n o=⟨some (K.ofNat n),none,o⟩:=of_eq_true (eq_self _)
theorem cG_e {n:Nat}:cG n = .c (.i .i64 (.ofNat n)):=of_eq_true (eq_self _)
theorem fG_e {n:Nat}:fG n = .c (.fn (K.ofNat n) []):=of_eq_true (eq_self _)
theorem gG_e {n m:Nat} {b:Bool} {o:EOp}:gG n m b o=⟨some (K.ofNat n),some (K.ofNat m,b),o⟩:=of_eq_true (eq_self _)
theorem tG_e {n:Nat}:tG n = .t (K.ofNat n):=of_eq_true (eq_self _)
theorem bz:type_of% (And.intro @oG_e (And.intro @tG_e (And.intro @gG_e (And.intro @cG_e (And.intro @fG_e (And.intro @w_reg (And.intro @w_seq (And.intro @w_block (And.intro @seqK_n (And.intro @x_nil (And.intro @x_mv (And.intro @x_ldn (And.intro @kx (And.intro @rvP_ok (And.intro @ev_t (And.intro @ev_c (And.intro @getV_some (And.intro @putD_some (And.intro @frame_2 (And.intro @of0 (And.intro @getK_set (And.intro @w_skip (And.intro @w_cond (And.intro @ckB_b (And.intro @cbB_b (And.intro @true_and (And.intro @x_as (And.intro @x_alloc (And.intro @x_st (And.intro @x_bin (And.intro @okv_some (And.intro @putD_none (And.intro @bin_lss (And.intro @of7 (And.intro @okG_b (And.intro @asG_t (And.intro @x_g (And.intro @x_build (And.intro @x_call (And.intro @evs_nil (And.intro @evs_cons (And.intro @oGet_s (And.intro @cells1_i (And.intro @fill_2 (And.intro @set_2 (And.intro @atK_n (And.intro @loopK_n (And.intro @x_pick (And.intro @x_not (And.intro @bin_add (And.intro @pick_b (And.intro @onB_b (And.intro @of1 (And.intro @fw64 (And.intro @w_ret (And.intro @seqK_r (And.intro @atK_r (And.intro @loopK_r (And.intro @retK_r (And.intro @readRs_nil (And.intro @retV_0 (And.intro @w_exit (And.intro @seqK_e (And.intro @atK_e (And.intro @loopK_e (And.intro @retK_n (And.intro @x_box (And.intro @readRs_t (And.intro @retV_1 (And.intro @frame_1 (And.intro @w_draw (And.intro @kg (And.intro @xg_nil (And.intro @xg_ld (And.intro @xg_fadr (And.intro @xg_iadr (And.intro @xd_cons (And.intro @fresh_nil (And.intro @stK_n (And.intro @stK_s (And.intro @stay_nil (And.intro @onP_p (And.intro @idx_n (And.intro @readRs_n (And.intro @bin_geq (And.intro @x_ld (And.intro @x_fadr (And.intro @x_iadr (And.intro @ix2_0 (And.intro @ix2_1 (And.intro @xg_g (And.intro @xg_mv (And.intro @xg_pick (And.intro @x_len (And.intro @x_iads (And.intro @xg_ldn (And.intro @xg_bslice (And.intro @stay_cons (And.intro @stay_ldn (And.intro @fill_0 (And.intro @again_ok (And.intro @xg_eqk (And.intro @bin_neq (And.intro @retV_2 (And.intro @asG_f (And.intro @frame_3 (And.intro @xg_bin (And.intro @xg_not (And.intro @xg_build (And.intro @x_eqk (And.intro @x_bslice (And.intro @bin_gtr (And.intro @bin_eql (And.intro @xg_iads (And.intro @bin_sub (And.intro @x_conv (And.intro @onI_i (And.intro @stay_mv (And.intro @beq_i (And.intro @max_ii (And.intro @x_app (And.intro @x_ext (And.intro @onTup_t (And.intro @nth0 (And.intro @nth1 (And.intro @okG_u (And.intro @asG_u (And.intro @frame_4 (And.intro @frame_5 (And.intro @bin_leq (And.intro @of12 (And.intro @bin_quo (@of2))))))))))))))))))))))))))))))))))))))))))))))))))))))))))))))))))))))))))))))))))))))))))))))))))))))))))))))))))))))))))))))))))))):=And.intro @oG_e (And.intro @tG_e (And.intro @gG_e (And.intro @cG_e (And.intro @fG_e (And.intro @w_reg (And.intro @w_seq (And.intro @w_block (And.intro @seqK_n (And.intro @x_nil (And.intro @x_mv (And.intro @x_ldn (And.intro @kx (And.intro @rvP_ok (And.intro @ev_t (And.intro @ev_c (And.intro @getV_some (And.intro @putD_some (And.intro @frame_2 (And.intro @of0 (And.intro @getK_set (And.intro @w_skip (And.intro @w_cond (And.intro @ckB_b (And.intro @cbB_b (And.intro @true_and (And.intro @x_as (And.intro @x_alloc (And.intro @x_st (And.intro @x_bin (And.intro @okv_some (And.intro @putD_none (And.intro @bin_lss (And.intro @of7 (And.intro @okG_b (And.intro @asG_t (And.intro @x_g (And.intro @x_build (And.intro @x_call (And.intro @evs_nil (And.intro @evs_cons (And.intro @oGet_s (And.intro @cells1_i (And.intro @fill_2 (And.intro @set_2 (And.intro @atK_n (And.intro @loopK_n (And.intro @x_pick (And.intro @x_not (And.intro @bin_add (And.intro @pick_b (And.intro @onB_b (And.intro @of1 (And.intro @fw64 (And.intro @w_ret (And.intro @seqK_r (And.intro @atK_r (And.intro @loopK_r (And.intro @retK_r (And.intro @readRs_nil (And.intro @retV_0 (And.intro @w_exit (And.intro @seqK_e (And.intro @atK_e (And.intro @loopK_e (And.intro @retK_n (And.intro @x_box (And.intro @readRs_t (And.intro @retV_1 (And.intro @frame_1 (And.intro @w_draw (And.intro @kg (And.intro @xg_nil (And.intro @xg_ld (And.intro @xg_fadr (And.intro @xg_iadr (And.intro @xd_cons (And.intro @fresh_nil (And.intro @stK_n (And.intro @stK_s (And.intro @stay_nil (And.intro @onP_p (And.intro @idx_n (And.intro @readRs_n (And.intro @bin_geq (And.intro @x_ld (And.intro @x_fadr (And.intro @x_iadr (And.intro @ix2_0 (And.intro @ix2_1 (And.intro @xg_g (And.intro @xg_mv (And.intro @xg_pick (And.intro @x_len (And.intro @x_iads (And.intro @xg_ldn (And.intro @xg_bslice (And.intro @stay_cons (And.intro @stay_ldn (And.intro @fill_0 (And.intro @again_ok (And.intro @xg_eqk (And.intro @bin_neq (And.intro @retV_2 (And.intro @asG_f (And.intro @frame_3 (And.intro @xg_bin (And.intro @xg_not (And.intro @xg_build (And.intro @x_eqk (And.intro @x_bslice (And.intro @bin_gtr (And.intro @bin_eql (And.intro @xg_iads (And.intro @bin_sub (And.intro @x_conv (And.intro @onI_i (And.intro @stay_mv (And.intro @beq_i (And.intro @max_ii (And.intro @x_app (And.intro @x_ext (And.intro @onTup_t (And.intro @nth0 (And.intro @nth1 (And.intro @okG_u (And.intro @asG_u (And.intro @frame_4 (And.intro @frame_5 (And.intro @bin_leq (And.intro @of12 (And.intro @bin_quo (@of2))))))))))))))))))))))))))))))))))))))))))))))))))))))))))))))))))))))))))))))))))))))))))))))))))))))))))))))))))))))))))))))))))))
end Go.Ev
namespace Go.Ev

/-! ### Forcing -/
inductive Rch (E:Nat→Nat→Prop) (a b:Nat):Nat→Nat→Prop
  | refl:Rch E a b a b
  | out {c d e:Nat}:Rch E a b c d→E c e → ¬ E d e→Rch E a b c e
  | inn {c d e:Nat}:Rch E a b c d→E e d → ¬ E e c→Rch E a b e d
structure Gr (E:Nat→Nat→Prop):Prop where
  sym:∀ a b,E a b→E b a
  irr:∀ a,¬ E a a
section
variable {E:Nat→Nat→Prop}
theorem Rch.edge {a b c d:Nat} (hab:E a b) (h:Rch E a b c d):E c d:=by
  cases h with
  | refl=>exact hab
  | out _ h _=>exact h
  | inn _ h _=>exact h
theorem Rch.trans {a b c d e f:Nat} (h:Rch E a b c d) (k:Rch E c d e f):Rch E a b e f:=by
  induction k with
  | refl=>exact h
  | out _ h1 h2 ih=>exact ih.out h1 h2
  | inn _ h1 h2 ih=>exact ih.inn h1 h2
theorem Rch.symm {a b c d:Nat} (g:Gr E) (hab:E a b) (h:Rch E a b c d):Rch E c d a b:=by
  induction h with
  | refl=>exact .refl
  | @out c d e h0 h1 h2 ih=>exact (Rch.refl.out (h0.edge hab) (fun h=>h2 (g.sym _ _ h))).trans ih
  | @inn c d e h0 h1 h2 ih=>exact (Rch.refl.inn (h0.edge hab) (fun h=>h2 (g.sym _ _ h))).trans ih
theorem Rch.inv {a b c d:Nat} (g:Gr E) (h:Rch E a b c d):Rch E b a d c:=by
  induction h with
  | refl=>exact .refl
  | out _ h1 h2 ih=>exact ih.inn (g.sym _ _ h1) (fun h=>h2 (g.sym _ _ h))
  | inn _ h1 h2 ih=>exact ih.out (g.sym _ _ h1) (fun h=>h2 (g.sym _ _ h))
theorem tri (g : Gr E) {a b c : Nat} (hab : E a b) (hac : E a c) (h1 : ¬ Rch E b c a c) (h2 : ¬ Rch E b c b a) {b' c' : Nat} (h : Rch E b c b' c') :
    E a b'∧E a c'∧Rch E a b a b'∧Rch E a c a c':=by
  induction h with
  | refl=>exact ⟨hab,hac, .refl, .refl⟩
  | @out b1 c1 e h0 hbe hce ih =>
    obtain ⟨i1,i2,i3,i4⟩:=ih
    have hae:E a e:=Classical.byContradiction fun hn=>h2 (((h0.out hbe hce).out (g.sym _ _ i1) (fun h=>hn (g.sym _ _ h))).trans ((i3.inv g).symm g (g.sym _ _ hab)))
    exact ⟨i1,hae,i3,i4.out hae hce⟩
  | @inn b1 c1 e h0 hec heb ih =>
    obtain ⟨i1,i2,i3,i4⟩:=ih
    have hae:E a e:=Classical.byContradiction fun hn=>h1 (((h0.inn hec heb).inn i2 (fun h=>hn h)).trans (i4.symm g hac))
    exact ⟨hae,i2,i3.out hae (fun h=>heb (g.sym _ _ h)),i4⟩
theorem cls_trans (g:Gr E) {x y:Nat} (hxy:E x y) (hno:¬ Rch E x y y x) {a b c:Nat} (h1:Rch E x y a b) (h2:Rch E x y b c):Rch E x y a c:=by
  have hab:=h1.edge hxy
  have hbc:=h2.edge hxy
  have self:∀ {p q:Nat},Rch E x y p q→Rch E x y q p→False:=fun h k=>hno (k.trans ((h.inv g).symm g (g.sym _ _ hxy)))
  by_cases hac:E a c
  · refine Classical.byContradiction fun hn=>?_
    obtain ⟨k,_⟩:=tri g hab hac (fun h=>hn (h2.trans h)) (fun h=>self h1 (h2.trans h)) ((h2.symm g hxy).trans h1)
    exact g.irr _ k
  · exact (self h2 (h1.inn (g.sym _ _ hbc) (fun h=>hac (g.sym _ _ h)))).elim

def CF (E:Nat→Nat→Prop):Prop:=∀ a b,E a b → ¬ Rch E a b b a
def Wo (E:Nat→Nat→Prop) (x y a b:Nat):Prop:=E a b ∧ ¬ Rch E x y a b ∧ ¬ Rch E x y b a
theorem Wo.gr (g:Gr E) {x y:Nat}:Gr (Wo E x y):=⟨fun _a _b h=>⟨g.sym _ _ h.1,h.2.2,h.2.1⟩,fun a h=>g.irr a h.1⟩
structure LkO (E:Nat→Nat→Prop) (x y r s e:Nat):Prop where
  rs:Wo E x y r s
  re:Wo E x y r e
  se:Rch E x y s e
theorem LkO.tri (g:Gr E) {x y r s e:Nat} (hxy:E x y) (l:LkO E x y r s e) {s' e':Nat} (h:Rch E x y s' e'):E r s'∧E r e'∧Rch E r s r s'∧Rch E r e r e' :=
  Go.Ev.tri g l.rs.1 l.re.1 (fun h=>l.re.2.1 (l.se.trans h)) (fun h=>l.rs.2.2 (l.se.trans h)) ((l.se.symm g hxy).trans h)
theorem LkO.tri1 (g:Gr E) {x y r s e:Nat} (hxy:E x y) (l:LkO E x y r s e) (hn:¬ Rch E r s r e) {r' e':Nat} (h:Rch E r e r' e'):E s r'∧E s e'∧Rch E s r s r'∧Rch E s e s e' :=
  Go.Ev.tri g (g.sym _ _ l.rs.1) (l.se.edge hxy) (fun h=>l.re.2.1 (l.se.trans (h.symm g l.re.1))) (fun h=>hn (h.symm g l.re.1)) h
theorem LkO.tri2 (g:Gr E) {x y r s e:Nat} (hxy:E x y) (l:LkO E x y r s e) (hn:¬ Rch E r s r e) {r' s':Nat} (h:Rch E r s r' s'):E e r'∧E e s'∧Rch E e r e r'∧Rch E e s e s' :=
  Go.Ev.tri g (g.sym _ _ l.re.1) (g.sym _ _ (l.se.edge hxy)) (fun h=>l.rs.2.2 (l.se.trans ((h.symm g l.rs.1).inv g))) hn h
theorem lk_back (g : Gr E) {x y r s e a b c : Nat} (hxy : E x y) (l : LkO E x y r s e) (k : LkO E x y a b c) (hn : ¬ Rch E r s r e) :
    ¬ Rch E r e a b∧(Rch E r e a c→Rch E r s a b) ∧ ¬ Rch E e r a b ∧ ¬ Rch E e r a c:=by
  obtain ⟨t1,t2,t3,t4⟩:=k.tri g hxy l.se
  refine ⟨fun h=>?_,fun h=>?_,fun h=>?_,fun h=>?_⟩
  · exact g.irr _ (l.tri1 g hxy hn (h.trans t3)).2.1
  · have:=(l.tri1 g hxy hn (h.trans t4)).2.2.1
    exact (this.inv g).trans (t3.symm g k.rs.1)
  · exact g.irr _ (l.tri1 g hxy hn ((h.trans t3).inv g)).1
  · have h3:=(l.tri1 g hxy hn ((h.trans t4).inv g)).2.2.1
    exact l.rs.2.2 (l.se.trans (h3.symm g (g.sym _ _ l.rs.1)))
theorem lk_self (g:Gr E) (hC:CF E) {x y r s e:Nat} (hxy:E x y) (l:LkO E x y r s e) (h:Rch E r s e r):False:=by
  have hn:¬ Rch E r s r e:=fun h2=>hC _ _ l.re.1 ((h2.symm g l.rs.1).trans h)
  exact g.irr _ (l.tri2 g hxy hn h).1
def Lk (E:Nat→Nat→Prop) (x y p q u v:Nat):Prop:=∃ r s e,(LkO E x y r s e ∨ LkO E y x r s e)∧((Rch E p q r s∧Rch E u v r e) ∨ (Rch E q p r s∧Rch E v u r e))
theorem LkO.turn (g:Gr E) {x y r s e:Nat} (l:LkO E x y r s e):LkO E y x r e s :=
  have f:∀ {a b},Wo E x y a b→Wo E y x a b:=fun w=>⟨w.1,fun h=>w.2.2 (h.inv g),fun h=>w.2.1 (h.inv g)⟩
  ⟨f l.re,f l.rs,l.se.inv g⟩
theorem Lk.flip {x y p q u v:Nat} (h:Lk E x y p q u v):Lk E x y q p v u:=by
  obtain ⟨r,s,e,h1,h2⟩:=h
  exact ⟨r,s,e,h1,h2.symm⟩
theorem lk_two0 (g:Gr E) {x y p q u v w z r s e:Nat} (hxy:E x y) (huv:E u v) (l:LkO E x y r s e) (h1:Rch E p q r s) (h2:Rch E u v r e) (hn:¬ Rch E p q u v) (hk:Lk E x y u v w z):Rch E p q w z ∨ ¬ E w z:=by
  by_cases hwz:E w z
  · refine .inl ?_
    have hn':¬ Rch E r s r e:=fun h=>hn (h1.trans (h.trans (h2.symm g huv)))
    obtain ⟨a,b,c,hl,hc⟩:=hk
    have hre:=h2.symm g huv
    -- the link's arrows,with the class's arrow from x to y
    have key:∀ b c,LkO E x y a b c→((Rch E u v a b∧Rch E w z a c) ∨ (Rch E v u a b∧Rch E z w a c) ∨ (Rch E u v a c∧Rch E w z a b) ∨ (Rch E v u a c∧Rch E z w a b))→Rch E p q w z:=by
      intro b c k hc
      obtain ⟨n1,n2,n3,n4⟩:=lk_back g hxy l k hn'
      rcases hc with ⟨c1,c2⟩ | ⟨c1,c2⟩ | ⟨c1,c2⟩ | ⟨c1,c2⟩
      · exact absurd (hre.trans c1) n1
      · exact absurd ((hre.inv g).trans c1) n3
      · exact h1.trans ((n2 (hre.trans c1)).trans (c2.symm g hwz))
      · exact absurd ((hre.inv g).trans c1) n4
    rcases hl with hl | hl
    · exact key b c hl (hc.elim (fun h => .inl h) (fun h => .inr (.inl h)))
    · exact key c b (hl.turn g) (hc.elim (fun h => .inr (.inr (.inl h))) (fun h => .inr (.inr (.inr h))))
  · exact .inr hwz
theorem Lk.xy {x y p q u v:Nat} (h:Lk E x y p q u v):Lk E y x p q u v:=by
  obtain ⟨r,s,e,h1,h2⟩:=h
  exact ⟨r,s,e,h1.symm,h2⟩
theorem lk_two (g:Gr E) {x y p q u v w z:Nat} (hxy:E x y) (_hpq:E p q) (huv:E u v) (hwz:E w z) (h:Lk E x y p q u v) (hn:¬ Rch E p q u v) (hk:Lk E x y u v w z):Rch E p q w z:=by
  obtain ⟨r,s,e,hl,hc⟩:=h
  have hyx:=g.sym _ _ hxy
  have hn2:¬ Rch E q p v u:=fun h=>hn (h.inv g)
  have done:∀ {P:Prop},P ∨ ¬ E w z→P:=fun h=>h.resolve_right (fun k=>k hwz)
  have done2:∀ {P:Prop},P ∨ ¬ E z w→P:=fun h=>h.resolve_right (fun k=>k (g.sym _ _ hwz))
  rcases hl with hl | hl <;> rcases hc with ⟨c1,c2⟩ | ⟨c1,c2⟩
  · exact done (lk_two0 g hxy huv hl c1 c2 hn hk)
  · exact (done2 (lk_two0 g hxy (g.sym _ _ huv) hl c1 c2 hn2 hk.flip)).inv g
  · exact done (lk_two0 g hyx huv hl c1 c2 hn hk.xy)
  · exact (done2 (lk_two0 g hyx (g.sym _ _ huv) hl c1 c2 hn2 hk.flip.xy)).inv g
theorem lk_inv (g:Gr E) (hC:CF E) {x y p q:Nat} (hxy:E x y) (hpq:E p q) (h:Lk E x y p q q p):False:=by
  obtain ⟨r,s,e,hl,hc⟩:=h
  have go:∀ {x y:Nat},E x y→LkO E x y r s e→False:=fun hxy l=>by
    rcases hc with ⟨c1,c2⟩ | ⟨c1,c2⟩
    · exact lk_self g hC hxy l ((c1.symm g hpq).trans (c2.inv g))
    · exact lk_self g hC hxy l ((c1.symm g (g.sym _ _ hpq)).trans (c2.inv g))
  exact hl.elim (go hxy) (go (g.sym _ _ hxy))
theorem CF.wo (g:Gr E) (hC:CF E) {x y:Nat} (hxy:E x y):CF (Wo E x y):=by
  intro p q hpq h
  -- what is reached is of the first class,or of one that is linked with it
  have key:∀ u v,Rch (Wo E x y) p q u v→E u v∧(Rch E p q u v ∨ Lk E x y p q u v):=by
    intro u v h
    have step:∀ {c d u v:Nat},E c d→E u v→(Rch E p q c d ∨ Lk E x y p q c d)→(Rch E c d u v ∨ Lk E x y c d u v)→(Rch E p q u v ∨ Lk E x y p q u v):=by
      intro c d u v hcd huv h1 h2
      have put:∀ {c d:Nat},E c d→Rch E p q c d→Lk E x y c d u v→Lk E x y p q u v:=by
        rintro c d hcd h ⟨r,s,e,k1,k2⟩
        exact ⟨r,s,e,k1,k2.imp (fun k=>⟨h.trans k.1,k.2⟩) (fun k=>⟨(h.inv g).trans k.1,k.2⟩)⟩
      rcases h1 with h1 | h1
      · rcases h2 with h2 | h2
        · exact .inl (h1.trans h2)
        · exact .inr (put hcd h1 h2)
      · rcases h2 with h2 | h2
        · obtain ⟨r,s,e,k1,k2⟩:=h1
          exact .inr ⟨r,s,e,k1,k2.imp (fun k=>⟨k.1,(h2.symm g hcd).trans k.2⟩) (fun k=>⟨k.1,((h2.symm g hcd).inv g).trans k.2⟩)⟩
        · by_cases hn:Rch E p q c d
          · exact .inr (put hcd hn h2)
          · exact .inl (lk_two g hxy hpq.1 hcd huv h1 hn h2)
    induction h with
    | refl=>exact ⟨hpq.1, .inl .refl⟩
    | @out c d e h0 h1 h2 ih =>
      refine ⟨h1.1,step ih.1 h1.1 ih.2 ?_⟩
      by_cases hde:E d e
      · have w:=h0.edge hpq
        refine .inr ⟨c,d,e,?_, .inl ⟨.refl, .refl⟩⟩
        by_cases hA:Rch E x y d e
        · exact .inl ⟨w,h1,hA⟩
        · have:Rch E x y e d:=Classical.byContradiction fun hB=>h2 ⟨hde,hA,hB⟩
          have f:∀ {a b},Wo E x y a b→Wo E y x a b:=fun w=>⟨w.1,fun h=>w.2.2 (h.inv g),fun h=>w.2.1 (h.inv g)⟩
          exact .inr ⟨f w,f h1,this.inv g⟩
      · exact .inl (Rch.refl.out h1.1 hde)
    | @inn c d e h0 h1 h2 ih =>
      refine ⟨h1.1,step ih.1 h1.1 ih.2 ?_⟩
      by_cases hec:E e c
      · have w:=h0.edge hpq
        have ws:=(Wo.gr g (x:=x) (y:=y)).sym _ _ w
        have hs:=(Wo.gr g (x:=x) (y:=y)).sym _ _ h1
        refine .inr ⟨d,c,e,?_, .inr ⟨.refl, .refl⟩⟩
        by_cases hA:Rch E x y c e
        · exact .inl ⟨ws,hs,hA⟩
        · have:Rch E x y e c:=Classical.byContradiction fun hB=>h2 ⟨hec,hB,hA⟩
          have f:∀ {a b},Wo E x y a b→Wo E y x a b:=fun w=>⟨w.1,fun h=>w.2.2 (h.inv g),fun h=>w.2.1 (h.inv g)⟩
          exact .inr ⟨f ws,f hs,this.inv g⟩
      · exact .inl (Rch.refl.inn h1.1 hec)
  rcases (key q p h).2 with h | h
  · exact hC _ _ hpq.1 h
  · exact lk_inv g hC hxy hpq.1 h

/-! ### Orders -/
structure Ord (E F:Nat→Nat→Prop):Prop where
  sub:∀ a b,F a b→E a b
  all:∀ a b,E a b→F a b ∨ F b a
  one:∀ a b,F a b → ¬ F b a
  tr:∀ a b c,F a b→F b c→F a c
theorem Ord.cls {F:Nat→Nat→Prop} (o:Ord E F) (g:Gr E) {a b c d:Nat} (h:F a b) (k:Rch E a b c d):F c d:=by
  induction k with
  | refl=>exact h
  | @out c d e h0 h1 h2 ih =>
    rcases o.all _ _ h1 with h | h
    · exact h
    · exact absurd (g.sym _ _ (o.sub _ _ (o.tr _ _ _ h ih))) h2
  | @inn c d e h0 h1 h2 ih =>
    rcases o.all _ _ h1 with h | h
    · exact h
    · exact absurd (g.sym _ _ (o.sub _ _ (o.tr _ _ _ ih h))) h2
theorem Ord.cf {F:Nat→Nat→Prop} (o:Ord E F) (g:Gr E):CF E:=by
  intro a b hab h
  rcases o.all _ _ hab with h1 | h1
  · exact o.one _ _ h1 (o.cls g h1 h)
  · exact o.one _ _ h1 (o.cls g h1 (h.inv g))
theorem Ord.add {F:Nat→Nat→Prop} (g:Gr E) {x y:Nat} (hxy:E x y) (hno:¬ Rch E x y y x) (o:Ord (Wo E x y) F):Ord E (fun a b=>Rch E x y a b ∨ F a b):=by
  have self:∀ {p q:Nat},Rch E x y p q→Rch E x y q p→False:=fun h k=>hno (k.trans ((h.inv g).symm g (g.sym _ _ hxy)))
  refine ⟨fun a b h=>?_,fun a b h=>?_,fun a b h k=>?_,fun a b c h k=>?_⟩
  · exact h.elim (fun h=>h.edge hxy) (fun h=>(o.sub _ _ h).1)
  · by_cases h1:Rch E x y a b
    · exact .inl (.inl h1)
    · by_cases h2:Rch E x y b a
      · exact .inr (.inl h2)
      · exact (o.all _ _ ⟨h,h1,h2⟩).imp .inr .inr
  · rcases h with h | h <;> rcases k with k | k
    · exact self h k
    · exact (o.sub _ _ k).2.2 h
    · exact (o.sub _ _ h).2.2 k
    · exact o.one _ _ h k
  · rcases h with h | h <;> rcases k with k | k
    · exact .inl (cls_trans g hxy hno h k)
    · -- a b in the class,b c left
      have w:=o.sub _ _ k
      have hac:E a c:=Classical.byContradiction fun hn=>w.2.2 (h.inn (g.sym _ _ w.1) (fun h=>hn (g.sym _ _ h)))
      by_cases h1:Rch E x y a c
      · exact .inl h1
      · by_cases h2:Rch E x y c a
        · exact absurd (cls_trans g hxy hno h2 h) w.2.2
        · rcases o.all _ _ ⟨hac,h1,h2⟩ with h3 | h3
          · exact .inr h3
          · exact absurd h (o.sub _ _ (o.tr _ _ _ k h3)).2.2
    · have w:=o.sub _ _ h
      have hac:E a c:=Classical.byContradiction fun hn=>w.2.2 (k.out (g.sym _ _ w.1) (fun h=>hn (g.sym _ _ h)))
      by_cases h1:Rch E x y a c
      · exact .inl h1
      · by_cases h2:Rch E x y c a
        · exact absurd (cls_trans g hxy hno k h2) w.2.2
        · rcases o.all _ _ ⟨hac,h1,h2⟩ with h3 | h3
          · exact .inr h3
          · exact absurd k (o.sub _ _ (o.tr _ _ _ h3 h)).2.2
    · exact .inr (o.tr _ _ _ h k)
end
end Go.Ev
namespace Go.Ev
open Go Go.RowKit
end Go.Ev
namespace Go.Ev
open Go Go.RowKit

def rl (f:Nat→Nat→Bool):List Bool:=(List.range 49).map fun i=>f (i / 7) (i % 7)
def rat (L:List Bool) (a b:Nat):Bool:=decide (a < 7) && decide (b < 7) && L.getD (7 * a + b) false
theorem rl_len {f:Nat→Nat→Bool}:(rl f).length=49:=by simp [rl]
theorem rl_getD {f:Nat→Nat→Bool} {i:Nat} (hi:i < 49):(rl f).getD i false=f (i / 7) (i % 7):=by
  rw [List.getD_eq_getElem?_getD,List.getElem?_eq_getElem (by rw [rl_len]; exact hi)]
  simp [rl]
theorem rat_rl {f:Nat→Nat→Bool} {a b:Nat}:rat (rl f) a b=(decide (a < 7) && decide (b < 7) && f a b):=by
  unfold rat
  by_cases ha:a < 7
  · by_cases hb:b < 7
    · rw [rl_getD (by omega),show (7 * a + b) / 7=a by omega,show (7 * a + b) % 7=b by omega]
    · rw [decide_eq_false hb]; simp
  · rw [decide_eq_false ha]; simp
theorem rat_lt {L:List Bool} {a b:Nat} (h:rat L a b=true):a < 7∧b < 7:=by
  unfold rat at h; simp only [Bool.and_eq_true,decide_eq_true_eq] at h; exact h.1
theorem rl_congr {f g:Nat→Nat→Bool} (h:∀ a b,a < 7→b < 7→f a b=g a b):rl f=rl g:=by
  unfold rl
  apply List.map_congr_left
  intro i hi
  rw [List.mem_range] at hi
  exact h _ _ (by omega) (by omega)
theorem rl_rat {L:List Bool} (hL:L.length=49):rl (rat L)=L:=by
  apply List.ext_getElem
  · rw [rl_len,hL]
  · intro i h1 h2
    rw [rl_len] at h1
    have:=rl_getD (f:=rat L) h1
    rw [List.getD_eq_getElem?_getD,List.getElem?_eq_getElem (by rw [rl_len]; exact h1)] at this
    rw [show (rl (rat L))[i]=rat L (i / 7) (i % 7) from this]
    unfold rat
    rw [decide_eq_true (show i / 7 < 7 by omega),decide_eq_true (show i % 7 < 7 by omega),show 7 * (i / 7) + i % 7=i by omega,List.getD_eq_getElem?_getD,List.getElem?_eq_getElem h2]
    rfl
theorem rel_ext {L M:List Bool} (hL:L.length=49) (hM:M.length=49) (h:∀ a b,a < 7→b < 7→rat L a b=rat M a b):L=M:=by
  rw [← rl_rat hL,← rl_rat hM]; exact rl_congr h
theorem rl_set {f:Nat→Nat→Bool} {a b:Nat} {v:Bool} (hb:b < 7):(rl f).set (7 * a + b) v=rl fun x y=>if x=a∧y=b then v else f x y:=by
  apply List.ext_getElem
  · rw [List.length_set,rl_len,rl_len]
  · intro i h1 h2
    rw [rl_len] at h2
    rw [List.getElem_set]
    have e1:∀ g:Nat→Nat→Bool,(rl g)[i]'(by rw [rl_len]; exact h2)=g (i / 7) (i % 7):=fun g=>by simp [rl]
    rw [e1,e1]
    by_cases e:7 * a + b=i
    · rw [if_pos e,if_pos ⟨by omega,by omega⟩]
    · rw [if_neg e,if_neg (fun h=>e (by omega))]
def arw (f:Nat→Nat→Bool):List (Nat × Nat):=((List.range 49).filter fun i=>f (i / 7) (i % 7)).map fun i=>(i / 7,i % 7)
theorem mem_arw {f:Nat→Nat→Bool} {a b:Nat}:(a,b) ∈ arw f ↔ a < 7∧b < 7∧f a b=true:=by
  unfold arw
  simp only [List.mem_map,List.mem_filter,List.mem_range,Prod.mk.injEq]
  constructor
  · rintro ⟨i,⟨h1,h2⟩,rfl,rfl⟩; exact ⟨by omega,by omega,h2⟩
  · rintro ⟨h1,h2,h3⟩
    refine ⟨7 * a + b,⟨by omega,?_⟩,by omega,by omega⟩
    rw [show (7 * a + b) / 7=a by omega,show (7 * a + b) % 7=b by omega]; exact h3
theorem arw_congr {f g:Nat→Nat→Bool} (h:∀ a b,a < 7→b < 7→f a b=g a b):arw f=arw g:=by
  unfold arw
  congr 1
  apply List.filter_congr
  intro i hi
  rw [List.mem_range] at hi
  exact h _ _ (by omega) (by omega)
theorem arw_len {f:Nat→Nat→Bool}:(arw f).length=cntB (fun i=>f (i / 7) (i % 7)) 49:=by simp [arw,cntB]
theorem arw_at {f:Nat→Nat→Bool} {i:Nat} (hi:i < 49) (hf:f (i / 7) (i % 7)=true):(arw f)[cntB (fun i=>f (i / 7) (i % 7)) i]? = some (i / 7,i % 7):=by
  have h1:=filter_at (B:=fun i=>f (i / 7) (i % 7)) hi hf
  unfold arw
  rw [List.getElem?_map,h1]; rfl
theorem arw_lt {f:Nat→Nat→Bool} {x:Nat × Nat} (h:x ∈ arw f):x.1 < 7∧x.2 < 7∧f x.1 x.2=true:=mem_arw.1 h

noncomputable def rV (L:List Bool):V := .agg (L.map V.b)
noncomputable def aV (x:Nat × Nat):V := .agg [.i .i64 (x.1:Int), .i .i64 (x.2:Int)]
noncomputable def rC (L:List Bool):Blk := .cells 49 (L.map V.b)
theorem rV_inj {L M:List Bool} (h:rV L=rV M):L=M:=by
  unfold rV at h
  injection h with h
  exact (List.map_inj_right (fun a b e=>by injection e)).1 h
theorem rV_plain {L:List Bool}:(rV L).plain=true:=by
  show (L.map V.b).all V.flat=true
  rw [List.all_map]; exact List.all_eq_true.2 fun _ _=>rfl
section
variable {h:H} {id:K} {L:List Bool}
theorem rC_cells (hL:L.length=49):cellsN 49 (rV L)=some (L.map V.b):=by
  show (bif Nat.beq (lenL (L.map V.b)) 49 then some (L.map V.b) else none)=_
  rw [lenL_eq,List.length_map,hL]; rfl
theorem rC_ldn (hL:L.length=49) (hb:h.get id=rC L):loadV h (.p id 0) (many? 49) = .ok (rV L) h:=by
  rw [loadn_p (n:=49) hb (by omega),takeN_eq,dropN_eq,List.drop_zero,List.take_of_length_le (by simp [hL])]; rfl
theorem rC_read (hL:L.length=49) (hb:h.get id=rC L):readP h (.p id 0) (many? 49)=some (rV L):=by
  have h1:=rC_ldn hL hb
  unfold loadV okv at h1
  cases e:readP h (.p id 0) (many? 49) with
  | none=>rw [e] at h1; cases h1
  | some v =>
    rw [e] at h1
    have h1:RV.ok v h=RV.ok (rV L) h:=h1
    injection h1 with h1
    rw [h1]
theorem rC_stn {M:List Bool} (hL:L.length=49) (hM:M.length=49) (hb:h.get id=rC M):storeV h 49 (.p id 0) (rV L) = .ok undefV (h.put id (rC L)):=by
  rw [store_p hb (rC_cells hL) (by omega),setMany_eq _ _ _ (by simp [hL,hM])]
  simp only [List.take_zero,List.nil_append,Nat.zero_add]
  rw [List.drop_of_length_le (by simp [hL,hM]),List.append_nil]; rfl
theorem ix_row {a:Nat} (ha:a < 7) (hL:L.length=49):ixV 7 7 true (rV L) (.i .i64 (a:Int)) h = .ok (.agg ((List.range 7).map fun b => .b (rat L a b))) h:=by
  show idxV (.i .i64 (a:Int)) 7 (fun n=>bif true then .ok (.agg (takeN 7 (dropN (n * 7) (L.map V.b)))) h else okv (nth (L.map V.b) (n * 7)) h)=_
  rw [idx_n ha]
  show RV.ok (.agg (takeN 7 (dropN (a * 7) (L.map V.b)))) h=_
  congr 2
  rw [takeN_eq,dropN_eq]
  apply List.ext_getElem
  · simp; omega
  · intro i h1 h2
    have hi:i < 7:=by simpa using h2
    simp only [List.getElem_take,List.getElem_drop,List.getElem_map,List.getElem_range]
    unfold rat
    rw [decide_eq_true ha,decide_eq_true hi,List.getD_eq_getElem?_getD,List.getElem?_eq_getElem (show 7 * a + i < L.length by omega)]
    simp [Nat.mul_comm]
theorem ix_cell {f:Nat→Bool} {b:Nat} (hb:b < 7):ixV 7 1 false (.agg ((List.range 7).map fun b => .b (f b))) (.i .i64 (b:Int)) h = .ok (.b (f b)) h:=by
  show idxV (.i .i64 (b:Int)) 7 (fun n=>bif false then .ok (.agg (takeN 1 (dropN (n * 1) ((List.range 7).map fun b=>V.b (f b))))) h else okv (nth ((List.range 7).map fun b=>V.b (f b)) (n * 1)) h)=_
  rw [idx_n hb]
  show okv (nth ((List.range 7).map fun b=>V.b (f b)) (b * 1)) h=_
  rw [nth_eq,Nat.mul_one,List.getElem?_map,List.getElem?_range hb]; rfl
theorem rC_ld {a b:Nat} (ha:a < 7) (hb:b < 7) (hL:L.length=49) (hg:h.get id=rC L):loadV h (.p id (0 + a * 7 + b * 1)) one? = .ok (.b (rat L a b)) h:=by
  refine load_p hg ?_
  rw [nth_eq,List.getElem?_map,List.getElem?_eq_getElem (show 0 + a * 7 + b * 1 < L.length by omega)]
  unfold rat
  rw [decide_eq_true ha,decide_eq_true hb,List.getD_eq_getElem?_getD,List.getElem?_eq_getElem (show 7 * a + b < L.length by omega)]
  simp [Nat.mul_comm]
theorem rC_st {f:Nat→Nat→Bool} {a b:Nat} {v:Bool} (ha:a < 7) (hb:b < 7) (hg:h.get id=rC (rl f)):storeV h 1 (.p id (0 + a * 7 + b * 1)) (.b v) = .ok undefV (h.put id (rC (rl fun x y=>if x=a∧y=b then v else f x y))):=by
  have hA:Ar V.b h id (rl f):=by unfold Ar; rw [rl_len]; exact hg
  have:=hA.st (i:=7 * a + b) (by rw [rl_len]; omega) (x:=v) (c := .b v) rfl rfl
  rw [show 0 + (7 * a + b) * 1=0 + a * 7 + b * 1 by omega] at this
  rw [this.1,rl_set hb]
  show RV.ok undefV (h.put id (.cells _ _))=_
  rw [rl_len]; rfl
end
end Go.Ev
namespace Go.Ev
open Go Go.RowKit
noncomputable def f76_r0:List EOper := [oG 1 (.box 49 (tG 0)),oG 2 (.as (.c .fnil))]
noncomputable def f76_r1:List EOper := [oG 3 (.mkfn (.ofNat 90) [(tG 1)]),oG 2 (.as (tG 3))]
noncomputable def f76_c:EC:=(.seq (.reg f76_r0) (.seq (.reg f76_r1) .ret))
noncomputable def f76:EF:=⟨4, [.tmp (.ofNat 2)],f76_c,none⟩
theorem f76_rs:f76.rs = [.tmp (.ofNat 2)]:=of_eq_true (eq_self _)
noncomputable def f90_r0:List EOper := [oG 7 (.ldn 49 (tG 1)),oG 8 (.mv (cG 0))]
noncomputable def f90_r1:List EOper := [oG 9 (.bin .lss (tG 8) (cG 7))]
noncomputable def f90_r2:List EOper := [oG 10 (.mv (tG 8)),oG 11 (.ix 7 7 true (tG 7) (tG 8)),oG 4 (.alloc 7 [(.b false),(.b false),(.b false),(.b false),(.b false),(.b false),(.b false)]),oG 3 (.as (tG 10)),⟨none,none, .st 7 (tG 4) (tG 11)⟩]
noncomputable def f90_r3:List EOper := [oG 12 (.ldn 7 (tG 4)),oG 13 (.mv (cG 0))]
noncomputable def f90_r4:List EOper := [oG 14 (.bin .lss (tG 13) (cG 7))]
noncomputable def f90_r5:List EOper := [oG 15 (.mv (tG 13)),oG 16 (.ix 7 1 false (tG 12) (tG 13)),oG 5 (.as (tG 15)),oG 6 (.as (tG 16))]
noncomputable def f90_r6:List EOper := [oG 17 (.mv (tG 6)),oG 18 (.mv (tG 17)),gG 19 18 true (.mv (tG 0)),gG 20 18 true (.mv (tG 3)),gG 21 18 true (.mv (tG 5)),gG 22 18 true (.build [(.i .i64 (.ofNat 0)),(.i .i64 (.ofNat 0))] [(0,1,(tG 20)),(1,1,(tG 21))]),gG 23 18 true (.call (tG 19) [(tG 22)]),gG 24 18 true (.not (tG 23)),oG 25 (.pick (tG 18) (tG 24) (.c (.b false)))]
noncomputable def f90_r7:List EOper := [oG 26 (.bin .add (tG 13) (cG 1)),oG 13 (.mv (tG 26))]
noncomputable def f90_l0:EC:=(.seq (.reg f90_r4) (.seq (.cond (tG 14) .skip (.exit 2)) (.seq (.block 3 (.seq (.reg f90_r5) (.seq (.reg f90_r6) (.cond (tG 25) .ret .skip)))) (.reg f90_r7))))
noncomputable def f90_r8:List EOper := [oG 27 (.bin .add (tG 8) (cG 1)),oG 8 (.mv (tG 27))]
noncomputable def f90_l1:EC:=(.seq (.reg f90_r1) (.seq (.cond (tG 9) .skip (.exit 0)) (.seq (.block 1 (.seq (.reg f90_r2) (.seq (.reg f90_r3) (.block 2 (.loop f90_l0))))) (.reg f90_r8))))
noncomputable def f90_c:EC:=(.seq (.reg f90_r0) (.block 0 (.loop f90_l1)))
noncomputable def f90:EF:=⟨28, [],f90_c,none⟩
theorem f90_rs:f90.rs = []:=of_eq_true (eq_self _)
section
variable {fs:T EF} {h:H}
def cnt (L:List Bool) (i:Nat):Nat:=cntB (fun i=>rat L (i / 7) (i % 7)) i
theorem cnt_succ {L:List Bool} {a b:Nat} (hb:b < 7):cnt L (7 * a + (b + 1))=cnt L (7 * a + b) + (if rat L a b=true then 1 else 0):=by
  unfold cnt
  rw [show 7 * a + (b + 1)=7 * a + b + 1 by omega,cntB_succ,show (7 * a + b) / 7=a by omega,show (7 * a + b) % 7=b by omega]
def BA (_:H) (v:V) (x:Nat × Nat):Prop:=v=aV x
def f90_I (id idp:K) (L:List Bool) (I:Nat→H→Prop) (a:Nat) (fr:Fr) (h1:H):Prop:=a ≤ 7∧(∃ h0,I (cnt L (7 * a)) h0∧Grow h0.nx.nat h0 h1)∧fr.get (K.ofNat 0)=some (.yl id)∧fr.get (K.ofNat 1)=some (.p idp 0)∧fr.get (K.ofNat 7)=some (rV L)∧fr.get (K.ofNat 8)=some (.i .i64 (a:Int))
def f90_J (id idp:K) (L:List Bool) (I:Nat→H→Prop) (a:Nat) (b:Nat) (fr:Fr) (h1:H):Prop:=b ≤ 7∧(∃ h0,I (cnt L (7 * a + b)) h0∧Grow h0.nx.nat h0 h1)∧fr.get (K.ofNat 0)=some (.yl id)∧fr.get (K.ofNat 1)=some (.p idp 0)∧fr.get (K.ofNat 3)=some (.i .i64 (a:Int))∧fr.get (K.ofNat 7)=some (rV L)∧fr.get (K.ofNat 8)=some (.i .i64 (a:Int))∧fr.get (K.ofNat 12)=some (.agg ((List.range 7).map fun b => .b (rat L a b)))∧fr.get (K.ofNat 13)=some (.i .i64 (b:Int))
theorem all_yieldsR {idp:K} {L:List Bool} (hL:L.length=49) (h101:fs.get (K.ofNat 90)=some f90):YieldsM fs (K.ofNat 90) [.p idp 0] (fun h=>h.get idp=rC L) BA (arw (rat L)):=by
  intro id I D h hN h0 round
  refine callP_of (ef:=f90) h101 rfl ?_
  show Ret fs f90 [.yl id, .p idp 0] h _
  apply ret_of rfl
  show W fs none f90_c _ _ _
  unfold f90_c
  have ld:=rC_ldn hL (hN _ _ h0).1
  simp (disch:=omega) only [f90_r0,↓reduceIte,ld,bz]
  refine W_loop (f90_I id idp L I) (fun a=>7 - a) ?_ 0 ⟨by omega,⟨h,h0,Grow.refl _ _⟩,by simp (disch:=omega) only [getK_set,Nat.reduceEqDiff,↓reduceIte,and_self,Int.natCast_zero]⟩
  clear ld
  rintro a fr h1 ⟨ha,⟨h2,hI,hG⟩,g0,g1,g7,g8⟩
  unfold f90_l1
  by_cases hlt:a < 7
  · have d0:decide ((a:Int) < 7)=true:=decide_eq_true (by omega)
    have hx:=fun h=>ix_row (h:=h) hlt hL
    have c7:∀ b:Nat→Bool,cellsN 7 (.agg ((List.range 7).map fun i=>V.b (b i)))=some ((List.range 7).map fun i=>V.b (b i)):=fun b=>rfl
    have hs:∀ cs,storeV (h1.new (.cells 7 cs)) 7 (.p h1.nx 0) (.agg ((List.range 7).map fun b => .b (rat L a b))) = .ok undefV ((h1.new (.cells 7 cs)).put h1.nx (.cells 7 (setMany cs 0 ((List.range 7).map fun b => .b (rat L a b))))):=fun cs=>store_p get_new_same (c7 _) (by omega)
    have nx1:=nx_new h1 (.cells 7 [.b false, .b false, .b false, .b false, .b false, .b false, .b false])
    have gB:∀ x,Grow h1.nx.nat h1 ((h1.new (.cells 7 [.b false, .b false, .b false, .b false, .b false, .b false, .b false])).put h1.nx x):=fun x=>(Grow.new (Nat.le_refl _) _).trans (Grow.put (Nat.le_refl _) (by omega) _)
    have hsm:setMany [.b false, .b false, .b false, .b false, .b false, .b false, .b false] 0 ((List.range 7).map fun b=>V.b (rat L a b))=(List.range 7).map fun b=>V.b (rat L a b):=rfl
    have ld:loadV ((h1.new (.cells 7 [.b false, .b false, .b false, .b false, .b false, .b false, .b false])).put h1.nx (.cells 7 ((List.range 7).map fun b=>V.b (rat L a b)))) (.p h1.nx 0) (many? 7) = .ok (.agg ((List.range 7).map fun b => .b (rat L a b))) _:=loadn_p get_put_same (by omega)
    have gC:=gB (.cells 7 ((List.range 7).map fun b=>V.b (rat L a b)))
    simp (disch:=omega) only [f90_r1,f90_r2,f90_r3,x_ix,Nat.reduceEqDiff,↓reduceIte,g7,g8,d0,hx,hs,hsm,ld,bz]
    generalize (h1.new (.cells 7 [.b false, .b false, .b false, .b false, .b false, .b false, .b false])).put h1.nx (.cells 7 ((List.range 7).map fun b=>V.b (rat L a b)))=h3 at *
    have hG3:=hG.trans (gC.low hG.nx)
    refine W_loop (f90_J id idp L I a) (fun b=>7 - b) ?_ 0 ⟨by omega,⟨h2,hI,hG3⟩,by simp (disch:=omega) only [getK_set,Nat.reduceEqDiff,↓reduceIte,g0,g1,g7,g8,and_self,Int.natCast_zero]⟩
    clear hI hG3 hG gB gC ld hs hx g0 g1 g7 g8 fr nx1
    rintro b fr h1 ⟨hb,⟨h2,hI,hG⟩,g0,g1,g3,g7,g8,g12,g13⟩
    unfold f90_l0
    by_cases hlb:b < 7
    · have d1:decide ((b:Int) < 7)=true:=decide_eq_true (by omega)
      have hx:=fun h=>ix_cell (h:=h) (f:=rat L a) hlb
      have hsu:=cnt_succ (L:=L) (a:=a) hlb
      simp (disch:=omega) only [f90_r4,f90_r5,x_ix,Nat.reduceEqDiff,↓reduceIte,g12,g13,d1,hx,bz]
      cases hr:rat L a b with
      | true =>
        have h3:=arw_at (f:=rat L) (i:=7 * a + b) (by omega) (by rw [show (7 * a + b) / 7=a by omega,show (7 * a + b) % 7=b by omega]; exact hr)
        rw [show (7 * a + b) / 7=a by omega,show (7 * a + b) % 7=b by omega] at h3
        obtain ⟨hi,he⟩:=List.getElem?_eq_some_iff.1 h3
        obtain ⟨r,h',⟨n,hn⟩,hT,hF⟩:=round (cnt L (7 * a + b)) h2 h1 (aV (a,b)) hi hI hG (by show aV (a,b)=aV _; exact congrArg aV he.symm) (fun _ _ _ _ e=>by cases e)
        rw [hr,if_pos rfl] at hsu
        have hav:V.agg [.i .i64 (a:Int), .i .i64 (b:Int)]=aV (a,b):=rfl
        simp (disch:=omega) only [f90_r6,Nat.reduceEqDiff,↓reduceIte,g0,g3,hav,bz]
        refine ⟨n,_,_,hn,?_⟩
        cases r with
        | true =>
          simp (disch:=omega) only [f90_r7,Nat.reduceEqDiff,↓reduceIte,Bool.false_eq_true,Bool.not_true,g13,bz]
          exact ⟨b + 1,by omega,by omega,⟨h',by rw [hsu]; exact hT rfl,Grow.refl _ _⟩,by simp (disch:=omega) only [getK_set,Nat.reduceEqDiff,↓reduceIte,g0,g1,g3,g7,g8,g12,and_self,Int.natCast_add,Int.natCast_one]⟩
        | false =>
          simp (disch:=omega) only [f90_rs,Option.some.injEq,exists_eq_left',Nat.reduceEqDiff,↓reduceIte,Bool.not_false,bz]
          exact .inr (hF rfl)
      | false =>
        rw [hr,if_neg (by simp)] at hsu
        simp (disch:=omega) only [f90_r6,f90_r7,Nat.reduceEqDiff,↓reduceIte,Bool.false_eq_true,g13,bz]
        exact ⟨b + 1,by omega,by omega,⟨h2,by rw [hsu]; exact hI,hG⟩,by simp (disch:=omega) only [getK_set,Nat.reduceEqDiff,↓reduceIte,g0,g1,g3,g7,g8,g12,and_self,Int.natCast_add,Int.natCast_one]⟩
    · have d1:decide ((b:Int) < 7)=false:=decide_eq_false (by omega)
      have e7:b=7:=by omega
      subst e7
      simp (disch:=omega) only [f90_r4,f90_r8,Nat.reduceEqDiff,↓reduceIte,Bool.false_eq_true,g8,g13,d1,bz]
      exact ⟨a + 1,by omega,by omega,⟨h2,hI,hG⟩,by simp (disch:=omega) only [getK_set,Nat.reduceEqDiff,↓reduceIte,g0,g1,g7,and_self,Int.natCast_add,Int.natCast_one]⟩
  · have d0:decide ((a:Int) < 7)=false:=decide_eq_false (by omega)
    have e7:a=7:=by omega
    subst e7
    have hl:(arw (rat L)).length=cnt L (7 * 7):=arw_len
    rw [hl]
    simp (disch:=omega) only [f90_r1,f90_rs,Option.some.injEq,exists_eq_left',↓reduceIte,Bool.false_eq_true,g8,d0,bz]
    exact .inl ⟨h2,hI,hG⟩
theorem f76_ret {L:List Bool} (hL:L.length=49):Ret fs f76 [rV L] h fun r h'=>r = .fn (.ofNat 90) [.p h.nx 0]∧h'=h.new (rC L):=by
  apply ret_of rfl
  show W fs none f76_c _ _ _
  unfold f76_c
  have:=rC_cells hL
  simp (disch:=omega) only [f76_r0,f76_r1,f76_rs,x_mkfn,Option.some.injEq,exists_eq_left',Nat.reduceEqDiff,↓reduceIte,this,bz]
  rfl
end
end Go.Ev
namespace Go.Ev
open Go Go.RowKit
structure Kp (idB:K) (h h1:H):Prop where
  nx:h.nx.nat ≤ h1.nx.nat
  old:∀ id:K,id.nat < h.nx.nat→id ≠ idB→h1.get id=h.get id
  hc:HC h1
section
variable {fs:T EF} {h h1 h2 h3:H} {idB:K}
theorem Kp.refl (hc:HC h):Kp idB h h:=⟨Nat.le_refl _,fun _ _ _=>rfl,hc⟩
theorem Kp.trans (k:Kp idB h h1) (l:Kp idB h1 h2):Kp idB h h2:=⟨Nat.le_trans k.nx l.nx,fun id hi hn=>(l.old id (Nat.lt_of_lt_of_le hi k.nx) hn).trans (k.old id hi hn),l.hc⟩
theorem Kp.grow (k:Kp idB h h1) {b:Nat} (g:Grow b h1 h2) (hb:h.nx.nat ≤ b):Kp idB h h2:=⟨Nat.le_trans k.nx g.nx,fun id hi hn=>(g.old id (by omega)).trans (k.old id hi hn),g.hc k.hc⟩
theorem Kp.of (hc:HC h) {b:Nat} (g:Grow b h h2) (hb:h.nx.nat ≤ b):Kp idB h h2:=(Kp.refl hc).grow g hb
theorem Kp.put (k:Kp idB h h1) (hi:idB.nat < h1.nx.nat) (x:Blk):Kp idB h (h1.put idB x):=⟨k.nx,fun id h2 hn=>by rw [get_put_other hn]; exact k.old id h2 hn,(Grow.put (b:=0) (Nat.zero_le _) hi x).hc k.hc⟩
theorem Kp.putN (k:Kp idB h h1) {id':K} (hi:id'.nat < h1.nx.nat) (hl:h.nx.nat ≤ id'.nat) (x:Blk):Kp idB h (h1.put id' x):=⟨k.nx,fun id h2 hn=>by rw [get_put_other (fun e=>by rw [e] at h2; omega)]; exact k.old id h2 hn,(Grow.put (b:=0) (Nat.zero_le _) hi x).hc k.hc⟩
theorem Kp.toGrow (k:Kp idB h h1) {b:Nat} (hb:b ≤ idB.nat) (hb2:b ≤ h.nx.nat):Grow b h h1:=⟨k.nx,fun id hi=>k.old id (by omega) (fun e=>by rw [e] at hi; omega),fun _=>k.hc⟩
def arrC (idB:K) (Bn:Blk) (h3:H):Ex→Fr→H→Prop:=fun e _ h4=>e = .normal∧h4.get idB=Bn∧Kp idB h3 h4
def arrA (fs:T EF) (lp:K) (c:EC) (idB:K) (Bn:Blk) (h1:H):Ex→Fr→H→Prop:=fun e fr1 h2=>e = .normal∧Grow h1.nx.nat h1 h2 ∧ ∀ h3,h3.nx=h2.nx→HC h3→(∀ id,id ≠ lp→h3.get id=h2.get id)→W fs (some lp) c (arrC idB Bn h3) fr1 h3
theorem arrC_n {Bn:Blk} {fr:Fr} {h4:H}:arrC idB Bn h3 .normal fr h4=(h4.get idB=Bn∧Kp idB h3 h4):=by unfold arrC; rw [eq_self,true_and]
theorem arrA_n {lp:K} {c:EC} {Bn:Blk} {fr1:Fr}:arrA fs lp c idB Bn h1 .normal fr1 h2=(Grow h1.nx.nat h1 h2 ∧ ∀ h3,h3.nx=h2.nx→HC h3→(∀ id,id ≠ lp→h3.get id=h2.get id)→W fs (some lp) c (arrC idB Bn h3) fr1 h3):=by unfold arrA; rw [eq_self,true_and]
theorem G1_mono {d:Option K} {op:EOp} {fr:Fr} {h:H} {P P':Fr→H→Prop} (hq:∀ fr h,P fr h→P' fr h) (hx:G1 fs d op fr h P):G1 fs d op fr h P':=by
  cases op <;> first
    | exact ⟨hx.1,rvP_mono (fun v h h1=>hq _ _ h1) hx.2⟩
    | (obtain ⟨k,cs,h1,h2,h3,h4⟩:=hx; exact ⟨k,cs,h1,h2,h3,hq _ _ h4⟩)
    | (obtain ⟨k,h1,h2,h3⟩:=hx; exact ⟨k,h1,h2,hq _ _ h3⟩)
theorem XG_mono:∀ (l:List EOper) {Q Q':Fr→H→Prop} (fr:Fr) (h:H),(∀ fr h,Q fr h→Q' fr h)→XG fs l Q fr h→XG fs l Q' fr h
  | [],_Q,_Q',fr,h,hq,hx=>hq fr h hx
  | _o :: l,_Q,_Q',_fr,_h,hq,hx=>GP_mono (fun hx=>G1_mono (fun fr h hx=>XG_mono l fr h hq hx) hx) (fun hx=>XG_mono l _ _ hq hx) (show GP _ _ _ from hx)
theorem XD_mono:∀ (l:List Stage) {Q Q':Fr→H→Prop} (fr:Fr) (h:H),(∀ fr h,Q fr h→Q' fr h)→XD fs l Q fr h→XD fs l Q' fr h
  | [],Q,Q',fr,h,hq,hx=>hq fr h hx
  | s :: l,Q,Q',fr,h,hq,hx=>by
    refine XG_mono _ fr h (fun fr1 h1 hx=>⟨hx.1,hx.2.1,?_⟩) (show XG fs s.g _ fr h from hx)
    have:=hx.2.2
    cases hl:s.l with
    | none=>rw [hl] at this; exact hq _ _ this
    | some o=>rw [hl] at this; exact X_mono this (fun fr h hx=>XD_mono l fr h hq hx)
theorem W_mono {ro:Option K}:∀ {c:EC} {Q Q':Ex→Fr→H→Prop} {fr:Fr} {h:H},(∀ e fr h,Q e fr h→Q' e fr h)→W fs ro c Q fr h→W fs ro c Q' fr h:=by
  intro c
  induction c with
  | skip=>exact fun hq hx=>hq _ _ _ hx
  | reg ops=>exact fun hq hx=>X_mono hx (fun fr h hx=>hq _ _ _ hx)
  | draw st=>exact fun hq hx=>XD_mono _ _ _ (fun fr h hx=>hq _ _ _ hx) hx
  | seq a b iha ihb =>
    intro Q Q' fr h hq hx
    refine iha (fun e fr h hx=>?_) (show W fs ro a _ fr h from hx)
    cases e with
    | normal=>exact ihb hq hx
    | exit i=>exact hq _ _ _ hx
    | ret=>exact hq _ _ _ hx
  | cond x a b iha ihb =>
    intro Q Q' fr h hq hx
    have hx:condP (ev fr x) (W fs ro a Q fr h) (W fs ro b Q fr h):=hx
    show condP (ev fr x) (W fs ro a Q' fr h) (W fs ro b Q' fr h)
    cases hv:ev fr x <;> rw [hv] at hx <;> first
      | exact ⟨fun e=>iha hq (hx.1 e),fun e=>ihb hq (hx.2 e)⟩
      | exact hx.elim
  | block id a iha =>
    intro Q Q' fr h hq hx
    refine iha (fun e fr h hx=>?_) (show W fs ro a _ fr h from hx)
    cases e with
    | normal=>exact hq _ _ _ hx
    | exit i=>exact ⟨fun e=>hq _ _ _ (hx.1 e),fun e=>hq _ _ _ (hx.2 e)⟩
    | ret=>exact hq _ _ _ hx
  | scope a iha=>exact fun hq hx=>iha hq hx
  | loop a _=>rintro Q Q' fr h hq ⟨e,fr',h',h1,h2⟩; exact ⟨e,fr',h',h1,hq _ _ _ h2⟩
  | rangeF f ps a c _ _=>rintro Q Q' fr h hq ⟨e,fr',h',h1,h2⟩; exact ⟨e,fr',h',h1,hq _ _ _ h2⟩
  | exit i=>exact fun hq hx=>hq _ _ _ hx
  | ret=>exact fun hq hx=>hq _ _ _ hx
  | no=>exact fun _ hx=>hx
theorem W_arr {ro : Option K} {f : EO} {p : K} {a c : EC} {fr : Fr} {Q : Ex → Fr → H → Prop} {idp : K} {L : List Bool} (hf : ev fr f = .fn (K.ofNat 90) [.p idp 0]) (hL : L.length = 49) (h101 : fs.get (K.ofNat 90) = some f90)
    (hc:HC h) (hp:h.get idp=rC L) (hne:idp ≠ idB) (B:Nat→Blk) (hB:h.get idB=B 0) (hlB:idB.nat < h.nx.nat) (hro:roOk ro h=true)
    (step:∀ i x h1,(arw (rat L))[i]? = some x→x.1 < 7→x.2 < 7→Kp idB h h1→h.nx.nat < h1.nx.nat→h1.get idB=B i→W fs (some h.nx) a (arrA fs h.nx c idB (B (i + 1)) h1) (fr.set p (aV x)) h1)
    (fin:∀ h1,h1.get idB=B (arw (rat L)).length→Kp idB h h1→Q .normal fr h1):W fs ro (.rangeF f [p] a c) Q fr h:=by
  have n1:=nx_new h (rdyB fr [p] a c)
  have g1:Grow h.nx.nat h (h.new (rdyB fr [p] a c)):=Grow.new (Nat.le_refl _) _
  have lp:=hc.cells hp
  have nB:h.nx ≠ idB:=fun e=>by rw [← e] at hlB; omega
  refine W_rangeM hro hf (all_yieldsR hL h101) (fun i h1=>h1.get idB=B i∧Kp idB h h1∧h.nx.nat < h1.nx.nat) (fun _ _=>False) (fun i h1 hi=>⟨(hi.2.1.old _ lp hne).trans hp,hi.2.1.hc,hi.2.2⟩) ⟨(g1.old _ hlB).trans hB,Kp.of hc g1 (Nat.le_refl _),by omega⟩ ?_ ?_ (fun _ _ _ h=>h.elim)
  · rintro i h1 h2 v hi ⟨hI,hk,hn⟩ hG hb hv _
    rw [show v=aV _ from hv]
    have hx:=List.getElem?_eq_getElem hi
    obtain ⟨x1,x2,_⟩:=arw_lt (List.getElem_mem hi)
    have hn2:h.nx.nat < h2.nx.nat:=by have:=hG.nx; omega
    have k2:=hk.grow hG hk.nx
    refine W_mono ?_ (step i _ h2 hx x1 x2 k2 hn2 ((hG.old _ (by omega)).trans hI))
    rintro e fr1 h3 ⟨rfl,g3,hw⟩
    have k3:=k2.grow g3 k2.nx
    have hn3:h.nx.nat < h3.nx.nat:=by have:=g3.nx; omega
    rw [rndA_n]
    refine ⟨(g3.old _ hn2).trans hb,?_⟩
    refine W_mono ?_ (hw (h3.put h.nx (bsyB fr [p] a c)) rfl (k3.putN hn3 (Nat.le_refl _) _).hc (fun id hid=>get_put_other hid))
    rintro e fr2 h4 ⟨rfl,b4,k4⟩
    rw [rndK_n]
    refine ⟨(k4.old _ hn3 nB).trans get_put_same,?_,?_,?_⟩
    · rw [get_put_other nB.symm]; exact b4
    · exact ((k3.putN hn3 (Nat.le_refl _) _).trans k4).putN (Nat.lt_of_lt_of_le hn3 k4.nx) (Nat.le_refl _) _
    · exact Nat.lt_of_lt_of_le hn3 k4.nx
  · rintro h1 h2 ⟨hI,hk,hn⟩ hG
    have hk2:=hk.grow hG hk.nx
    have hn2:h.nx.nat < h2.nx.nat:=by have:=hG.nx; omega
    exact fin _ (by rw [get_put_other nB.symm]; exact (hG.old _ (by omega)).trans hI) (hk2.putN hn2 (Nat.le_refl _) _)
end
end Go.Ev
namespace Go.Ev
open Go Go.RowKit
noncomputable def f70_r0:List EOper := [oG 1 (.box 49 (tG 0)),oG 2 (.alloc 49 (List.replicate 49 (.b false)))]
noncomputable def f70_r1:List EOper := [oG 3 (.alloc 49 (List.replicate 49 (.b false)))]
noncomputable def f70_r2:List EOper := [oG 5 (.ldn 49 (tG 1)),oG 6 (.call (fG 76) [(tG 5)])]
noncomputable def f70_r3:List EOper := [oG 4 (.alloc 2 [(.i .i64 (.ofNat 0)),(.i .i64 (.ofNat 0))]),⟨none,none, .st 2 (tG 4) (tG 7)⟩]
noncomputable def f70_a0:EC:=(.reg f70_r3)
noncomputable def f70_r4:List Stage := [⟨[oG 8 (.fadr 1 (tG 4)),oG 9 (.ld (tG 8)),oG 10 (.fadr 0 (tG 4)),oG 11 (.ld (tG 10)),oG 12 (.iadr 7 7 (tG 3) (tG 9)),oG 13 (.iadr 7 1 (tG 12) (tG 11))], [],(some ⟨none,none, .st 1 (tG 13) (.c (.b true))⟩), []⟩,⟨[], [],none, []⟩]
noncomputable def f70_b0:EC:=(.block 1 (.draw f70_r4))
noncomputable def f70_r5:List EOper := [oG 14 (.ldn 49 (tG 3)),⟨none,none, .st 49 (tG 2) (tG 14)⟩]
noncomputable def f70_c:EC:=(.seq (.reg f70_r0) (.seq (.reg f70_r1) (.seq (.seq (.reg f70_r2) (.block 0 (.rangeF (tG 6) [(.ofNat 7)] f70_a0 f70_b0))) (.seq (.reg f70_r5) .ret))))
noncomputable def f70:EF:=⟨15, [.celln (.ofNat 2) 49],f70_c,none⟩
theorem f70_rs:f70.rs = [.celln (.ofNat 2) 49]:=of_eq_true (eq_self _)
section
variable {fs:T EF} {h:H}
def onF (l:List (Nat × Nat)) (v:Bool) (f:Nat→Nat→Bool) (a b:Nat):Bool:=if (a,b) ∈ l then v else f a b
theorem onF_nil {v:Bool} {f:Nat→Nat→Bool}:onF [] v f=f:=by funext a b; simp [onF]
theorem onF_snoc {l:List (Nat × Nat)} {x:Nat × Nat} {v:Bool} {f:Nat→Nat→Bool}:onF (l ++ [x]) v f=fun a b=>if a=x.1∧b=x.2 then v else onF l v f a b:=by
  funext a b
  unfold onF
  by_cases e:a=x.1∧b=x.2
  · rw [if_pos e,if_pos (by rw [e.1,e.2]; simp)]
  · rw [if_neg e]
    have:(a,b) ∈ l ++ [x] ↔ (a,b) ∈ l:=by
      rw [List.mem_append,List.mem_singleton]
      exact ⟨fun h=>h.resolve_right (fun h=>e (by rw [← h]; exact ⟨rfl,rfl⟩)), .inl⟩
    simp [this]
def swp (x:Nat × Nat):Nat × Nat:=(x.2,x.1)
theorem arr_var {h : H} {x y : Nat} : storeV (h.new (.cells 2 [.i .i64 0, .i .i64 0])) 2 (.p h.nx 0) (aV (x, y)) = .ok undefV ((h.new (.cells 2 [.i .i64 0, .i .i64 0])).put h.nx (.cells 2 [.i .i64 (x : Int), .i .i64 (y : Int)])) ∧
    Grow h.nx.nat h ((h.new (.cells 2 [.i .i64 0, .i .i64 0])).put h.nx (.cells 2 [.i .i64 (x:Int), .i .i64 (y:Int)]))∧((h.new (.cells 2 [.i .i64 0, .i .i64 0])).put h.nx (.cells 2 [.i .i64 (x:Int), .i .i64 (y:Int)])).get h.nx = .cells 2 [.i .i64 (x:Int), .i .i64 (y:Int)] ∧
    ((h.new (.cells 2 [.i .i64 0, .i .i64 0])).put h.nx (.cells 2 [.i .i64 (x:Int), .i .i64 (y:Int)])).nx.nat=h.nx.nat + 1:=by
  have n2:=nx_new h (.cells 2 [.i .i64 0, .i .i64 0])
  exact ⟨st2 (a := .i .i64 0) (b := .i .i64 0) get_new_same,(Grow.new (Nat.le_refl _) _).trans (Grow.put (Nat.le_refl _) (by omega) _),get_put_same,n2⟩
theorem rl_false:rC (rl fun _ _=>false) = .cells 49 (List.replicate 49 (.b false)):=rfl
def turnR (L:List Bool):List Bool:=rl fun a b=>rat L b a
theorem f70_ret {L:List Bool} (hL:L.length=49) (h84:fs.get (.ofNat 76)=some f76) (h101:fs.get (.ofNat 90)=some f90) (hc:HC h):Ret fs f70 [rV L] h fun r h'=>r=rV (turnR L)∧Grow h.nx.nat h h':=by
  apply ret_of rfl
  show W fs none f70_c _ _ _
  unfold f70_c
  have c1:=rC_cells hL
  have n1:=nx_new h (.cells 49 (L.map V.b))
  have g1:Grow h.nx.nat h (h.new (.cells 49 (L.map V.b))):=Grow.new (Nat.le_refl _) _
  have e1:(h.new (.cells 49 (L.map V.b))).get h.nx=rC L:=get_new_same
  simp (disch:=omega) only [f70_r0,↓reduceIte,c1,bz]
  generalize h.new (.cells 49 (L.map V.b))=h1 at *
  have n2:=nx_new h1 (.cells 49 (List.replicate 49 (.b false)))
  have g2:Grow h1.nx.nat h1 (h1.new (.cells 49 (List.replicate 49 (.b false)))):=Grow.new (Nat.le_refl _) _
  have e2:(h1.new (.cells 49 (List.replicate 49 (.b false)))).get h1.nx=rC (rl fun _ _=>false):=by rw [rl_false]; exact get_new_same
  generalize h1.new (.cells 49 (List.replicate 49 (.b false)))=h2 at *
  have n3:=nx_new h2 (.cells 49 (List.replicate 49 (.b false)))
  have g3:Grow h2.nx.nat h2 (h2.new (.cells 49 (List.replicate 49 (.b false)))):=Grow.new (Nat.le_refl _) _
  have e3:(h2.new (.cells 49 (List.replicate 49 (.b false)))).get h2.nx=rC (rl fun _ _=>false):=by rw [rl_false]; exact get_new_same
  simp (disch:=omega) only [f70_r1,bz]
  generalize h2.new (.cells 49 (List.replicate 49 (.b false)))=h3 at *
  have hc3:=g3.hc (g2.hc (g1.hc hc))
  have hl:=rC_ldn hL (h:=h3) (id:=h.nx) ((g3.old _ (by omega)).trans ((g2.old _ (by omega)).trans e1))
  simp (disch:=omega) only [f70_r2,Nat.reduceEqDiff,↓reduceIte,hl,bz]
  refine (callP_0 (ef:=f76) h84 rfl (f76_ret hL)).mono ?_
  rintro r h4 ⟨rfl,rfl⟩
  have n4:=nx_new h3 (rC L)
  have g4:Grow h3.nx.nat h3 (h3.new (rC L)):=Grow.new (Nat.le_refl _) _
  have e4:(h3.new (rC L)).get h3.nx=rC L:=get_new_same
  have hc4:=g4.hc hc3
  have gA:Grow h.nx.nat h (h3.new (rC L)):=g1.trans ((g2.low (by omega)).trans ((g3.low (by omega)).trans (g4.low (by omega))))
  have e2':=(g4.old _ (by omega)).trans ((g3.old h1.nx (by omega)).trans e2)
  have e3':=(g4.old h2.nx (by omega)).trans e3
  simp (disch:=omega) only [bz]
  generalize h3.new (rC L)=h4 at *
  generalize hfr:T.set (K.ofNat 6) _ _=fr
  have g2:fr.get (K.ofNat 2)=some (.p h1.nx 0):=by rw [← hfr]; simp only [getK_set,Nat.reduceEqDiff,↓reduceIte]
  have g3:fr.get (K.ofNat 3)=some (.p h2.nx 0):=by rw [← hfr]; simp only [getK_set,Nat.reduceEqDiff,↓reduceIte]
  have g6:fr.get (K.ofNat 6)=some (.fn (K.ofNat 90) [.p h3.nx 0]):=by rw [← hfr]; simp only [getK_set,↓reduceIte]
  clear hfr
  refine W_arr (idB:=h2.nx) (by simp (disch:=omega) only [ev_t,getV_some,g6]) hL h101 hc4 e4 (kNe (by omega)).symm (fun i=>rC (rl (onF (((arw (rat L)).take i).map swp) true fun _ _=>false))) (by rw [e3',List.take_zero,List.map_nil,onF_nil]) (by omega) rfl ?_ ?_
  · rintro i ⟨x,y⟩ h5 hx hx1 hx2 hk hn hB
    obtain ⟨hst,gB,c7,n5⟩:=arr_var (h:=h5) (x:=x) (y:=y)
    have b6:=(gB.old _ (by omega)).trans hB
    unfold f70_a0
    simp (disch:=omega) only [f70_r3,Nat.reduceEqDiff,↓reduceIte,hst,arrA_n,bz]
    generalize (h5.new (.cells 2 [.i .i64 0, .i .i64 0])).put h5.nx (.cells 2 [.i .i64 (x:Int), .i .i64 (y:Int)])=h6 at *
    refine ⟨gB,fun h7 n7 hc7 o7=>?_⟩
    have l0:=ld20 ((o7 _ (kNe hn).symm).trans c7)
    have l1:=ld21 ((o7 _ (kNe hn).symm).trans c7)
    have b7:=(o7 _ (kNe (show h2.nx.nat < h4.nx.nat by omega))).trans b6
    have hs:=rC_st (v:=true) hx2 hx1 b7
    unfold f70_b0
    simp (disch:=omega) only [f70_r4,Nat.reduceEqDiff,↓reduceIte,g3,l0,l1,hs,arrC_n,bz]
    refine ⟨?_,(Kp.refl hc7).put (by rw [n7]; omega) _⟩
    rw [get_put_same,List.take_add_one,hx]
    simp only [Option.toList_some,List.map_append,List.map_cons,List.map_nil,onF_snoc]
    rfl
  · intro h5 hB hk
    rw [List.take_length] at hB
    have hF:rl (onF ((arw (rat L)).map swp) true fun _ _=>false)=turnR L:=by
      refine rl_congr fun a b ha hb=>?_
      unfold onF
      have:(a,b) ∈ (arw (rat L)).map swp ↔ rat L b a=true:=by
        rw [List.mem_map]
        constructor
        · rintro ⟨⟨p,q⟩,h1,h2⟩
          cases h2
          exact (mem_arw.1 h1).2.2
        · intro h1
          exact ⟨(b,a),mem_arw.2 ⟨hb,ha,h1⟩,rfl⟩
      by_cases e:rat L b a=true
      · rw [if_pos (this.2 e),e]
      · rw [if_neg (fun h=>e (this.1 h))]; simpa using e
    rw [hF] at hB
    have l5:=rC_ldn (L:=turnR L) rl_len hB
    have e25:=(hk.old _ (by omega) (kNe (by omega))).trans e2'
    have hs5:storeV h5 49 (.p h1.nx 0) (rV (turnR L)) = .ok undefV (h5.put h1.nx (rC (turnR L))):=rC_stn rl_len rl_len e25
    have hr5:readP (h5.put h1.nx (rC (turnR L))) (.p h1.nx 0) (many? 49)=some (rV (turnR L)):=rC_read rl_len get_put_same
    simp (disch:=omega) only [f70_r5,f70_rs,Option.some.injEq,exists_eq_left',Nat.reduceEqDiff,↓reduceIte,g2,g3,l5,hs5,hr5,bz]
    exact gA.trans (((hk.toGrow (b:=h.nx.nat) (by omega) (by omega))).trans (Grow.put (k:=h1.nx) (by omega) (by have:=hk.nx; omega) _))
end
end Go.Ev
namespace Go.Ev
open Go Go.RowKit
structure Ks (S:K→Prop) (h h1:H):Prop where
  nx:h.nx.nat ≤ h1.nx.nat
  old:∀ id:K,id.nat < h.nx.nat → ¬ S id→h1.get id=h.get id
  hc:HC h1
structure Kr (S:K→Prop) (lp:K) (h3 h4:H):Prop where
  nx:h3.nx.nat ≤ h4.nx.nat
  old:∀ id:K,id.nat ≤ lp.nat → ¬ S id→h4.get id=h3.get id
  hc:HC h4
section
variable {fs:T EF} {h h1 h2 h3 h4:H} {S:K→Prop} {lp:K}
theorem Ks.refl (hc:HC h):Ks S h h:=⟨Nat.le_refl _,fun _ _ _=>rfl,hc⟩
theorem Ks.grow (k:Ks S h h1) {b:Nat} (g:Grow b h1 h2) (hb:h.nx.nat ≤ b):Ks S h h2:=⟨Nat.le_trans k.nx g.nx,fun id hi hn=>(g.old id (by omega)).trans (k.old id hi hn),g.hc k.hc⟩
theorem Ks.of (hc:HC h) {b:Nat} (g:Grow b h h2) (hb:h.nx.nat ≤ b):Ks S h h2:=(Ks.refl hc).grow g hb
theorem Ks.putN (k:Ks S h h1) {id':K} (hi:id'.nat < h1.nx.nat) (hl:h.nx.nat ≤ id'.nat) (x:Blk):Ks S h (h1.put id' x):=⟨k.nx,fun id h2 hn=>by rw [get_put_other (fun e=>by rw [e] at h2; omega)]; exact k.old id h2 hn,(Grow.put (b:=0) (Nat.zero_le _) hi x).hc k.hc⟩
theorem Ks.toGrow (k:Ks S h h1) {b:Nat} (hb:∀ id,S id→b ≤ id.nat) (hb2:b ≤ h.nx.nat):Grow b h h1:=⟨k.nx,fun id hi=>k.old id (by omega) (fun e=>by have:=hb _ e; omega),fun _=>k.hc⟩
theorem Kr.refl (hc:HC h):Kr S lp h h:=⟨Nat.le_refl _,fun _ _ _=>rfl,hc⟩
theorem Kr.grow (k:Kr S lp h h1) {b:Nat} (g:Grow b h1 h2) (hb:lp.nat < b):Kr S lp h h2:=⟨Nat.le_trans k.nx g.nx,fun id hi hn=>(g.old id (by omega)).trans (k.old id hi hn),g.hc k.hc⟩
theorem Kr.of (hc:HC h) {b:Nat} (g:Grow b h h2) (hb:lp.nat < b):Kr S lp h h2:=(Kr.refl hc).grow g hb
theorem Kr.put (k:Kr S lp h h1) {id':K} (hi:id'.nat < h1.nx.nat) (hl:S id' ∨ lp.nat < id'.nat) (x:Blk):Kr S lp h (h1.put id' x) :=
  ⟨k.nx,fun id h2 hn=>by rw [get_put_other (fun e=>by rcases hl with hl | hl; exact hn (e ▸ hl); rw [e] at h2; omega)]; exact k.old id h2 hn,(Grow.put (b:=0) (Nat.zero_le _) hi x).hc k.hc⟩
theorem Kr.trans (k:Kr S lp h h1) (l:Kr S lp h1 h2):Kr S lp h h2:=⟨Nat.le_trans k.nx l.nx,fun id hi hn=>(l.old id hi hn).trans (k.old id hi hn),l.hc⟩
theorem Ks.kr (k:Ks S h h1) (hl:lp.nat < h.nx.nat):Kr S lp h h1:=⟨k.nx,fun id hi hn=>k.old id (by omega) hn,k.hc⟩
def itC (S:K→Prop) (lp:K) (P:H→Prop) (D:Ex→H→Prop) (h3:H):Ex→Fr→H→Prop:=fun e _ h4=>(e = .normal→P h4)∧(e ≠ .normal→D e h4)∧Kr S lp h3 h4
def itA (fs:T EF) (S:K→Prop) (lp:K) (c:EC) (P:H→Prop) (D:Ex→H→Prop) (h1:H):Ex→Fr→H→Prop:=fun e fr1 h2=>e = .normal∧Grow h1.nx.nat h1 h2 ∧ ∀ h3,h3.nx=h2.nx→HC h3→(∀ id,id ≠ lp→h3.get id=h2.get id)→(h3.get lp).isL=true→W fs (some lp) c (itC S lp P D h3) fr1 h3
section
variable {P:H→Prop} {D:Ex→H→Prop} {fr:Fr} {c:EC} {i:Nat}
theorem itC_n:itC S lp P D h3 .normal fr h4=(P h4∧Kr S lp h3 h4):=by
  apply propext; unfold itC
  exact ⟨fun h=>⟨h.1 rfl,h.2.2⟩,fun h=>⟨fun _=>h.1,fun e=>absurd rfl e,h.2⟩⟩
theorem itC_r:itC S lp P D h3 .ret fr h4=(D .ret h4∧Kr S lp h3 h4):=by
  apply propext; unfold itC
  exact ⟨fun h=>⟨h.2.1 (by simp),h.2.2⟩,fun h=>⟨(fun e=>by cases e),fun _=>h.1,h.2⟩⟩
theorem itA_n:itA fs S lp c P D h1 .normal fr h2=(Grow h1.nx.nat h1 h2 ∧ ∀ h3,h3.nx=h2.nx→HC h3→(∀ id,id ≠ lp→h3.get id=h2.get id)→(h3.get lp).isL=true→W fs (some lp) c (itC S lp P D h3) fr h3):=by unfold itA; rw [eq_self,true_and]
end
theorem W_itr {ro : Option K} {f : EO} {k : K} {caps : List V} {p : K} {a c : EC} {fr : Fr} {Q : Ex → Fr → H → Prop} {N : H → Prop} {Y : List (Nat × Nat)} (hf : ev fr f = .fn k caps) (hy : YieldsM fs k caps N BA Y)
    (S:K→Prop) (P:Nat→H→Prop) (D:Ex→H→Prop) (hc:HC h) (hro:roOk ro h=true) (hS:∀ id,S id→id.nat < h.nx.nat) (hN:∀ h1,Ks S h h1→N h1)
    (hP:∀ i h1 h2,P i h1→HC h1→h.nx.nat < h1.nx.nat→(∀ id:K,id.nat < h1.nx.nat→id ≠ h.nx→h2.get id=h1.get id)→P i h2)
    (hD:∀ e h1 h2,D e h1→HC h1→h.nx.nat < h1.nx.nat→(∀ id:K,id.nat < h1.nx.nat→id ≠ h.nx→h2.get id=h1.get id)→D e h2)
    (hP0:∀ h1,Grow h.nx.nat h h1→P 0 h1)
    (step:∀ i x h1,Y[i]? = some x→Ks S h h1→h.nx.nat < h1.nx.nat→P i h1→W fs (some h.nx) a (itA fs S h.nx c (P (i + 1)) D h1) (fr.set p (aV x)) h1)
    (fin:∀ h1,P Y.length h1→Ks S h h1→h.nx.nat < h1.nx.nat→Q .normal fr h1) (brk:∀ e h1,e ≠ .normal→D e h1→Ks S h h1→h.nx.nat < h1.nx.nat→Q e fr h1):W fs ro (.rangeF f [p] a c) Q fr h:=by
  have n1:=nx_new h (rdyB fr [p] a c)
  have g1:Grow h.nx.nat h (h.new (rdyB fr [p] a c)):=Grow.new (Nat.le_refl _) _
  have nS:¬ S h.nx:=fun e=>by have:=hS _ e; omega
  refine W_rangeM hro hf hy (fun i h1=>P i h1∧Ks S h h1∧h.nx.nat < h1.nx.nat) (fun e h1=>D e h1∧Ks S h h1∧h.nx.nat < h1.nx.nat) (fun i h1 hi=>⟨hN _ hi.2.1,hi.2.1.hc,hi.2.2⟩) ⟨hP0 _ g1,Ks.of hc g1 (Nat.le_refl _),by omega⟩ ?_ ?_ ?_
  · rintro i h1 h2 v hi ⟨hI,hk,hn⟩ hG hb hv _
    rw [show v=aV _ from hv]
    have hn2:h.nx.nat < h2.nx.nat:=by have:=hG.nx; omega
    have k2:=hk.grow hG hk.nx
    refine W_mono ?_ (step i _ h2 (List.getElem?_eq_getElem hi) k2 hn2 (hP _ _ _ hI hk.hc hn fun id h1 _=>hG.old _ h1))
    rintro e fr1 h3 ⟨rfl,g3,hw⟩
    have k3:=k2.grow g3 k2.nx
    have hn3:h.nx.nat < h3.nx.nat:=by have:=g3.nx; omega
    rw [rndA_n]
    refine ⟨(g3.old _ hn2).trans hb,?_⟩
    have k3b:=k3.putN hn3 (Nat.le_refl _) (bsyB fr [p] a c)
    refine W_mono ?_ (hw (h3.put h.nx (bsyB fr [p] a c)) rfl k3b.hc (fun id hid=>get_put_other hid) (by rw [get_put_same]; rfl))
    rintro e fr2 h4 ⟨q1,q2,k4⟩
    have hn4:h.nx.nat < h4.nx.nat:=Nat.lt_of_lt_of_le hn3 k4.nx
    have k5:Ks S h h4:=⟨Nat.le_of_lt hn4,fun id hid hs=>(k4.old id (by omega) hs).trans (k3b.old id hid hs),k4.hc⟩
    have e4:h4.get h.nx=bsyB fr [p] a c:=(k4.old _ (Nat.le_refl _) nS).trans get_put_same
    have pp:∀ x,∀ id:K,id.nat < h4.nx.nat→id ≠ h.nx→(h4.put h.nx x).get id=h4.get id:=fun x id _ hid=>get_put_other hid
    have k6:=fun x=>k5.putN hn4 (Nat.le_refl _) x
    cases e with
    | normal =>
      rw [rndK_n]
      exact ⟨e4,hP _ _ _ (q1 rfl) k4.hc hn4 (pp _),k6 _,hn4⟩
    | exit j =>
      rw [rndK_e]
      exact ⟨e4,hD _ _ _ (q2 (by simp)) k4.hc hn4 (pp _),k6 _,hn4⟩
    | ret =>
      rw [rndK_r]
      exact ⟨e4,hD _ _ _ (q2 (by simp)) k4.hc hn4 (pp _),k6 _,hn4⟩
  · rintro h1 h2 ⟨hI,hk,hn⟩ hG
    have hn2:h.nx.nat < h2.nx.nat:=by have:=hG.nx; omega
    exact fin _ (hP _ _ _ hI hk.hc hn fun id h1 h3=>by rw [get_put_other h3]; exact hG.old _ h1) ((hk.grow hG hk.nx).putN hn2 (Nat.le_refl _) _) hn2
  · rintro e h1 hne ⟨hd,hk,hn⟩
    exact brk e h1 hne hd hk hn
end
end Go.Ev
namespace Go.Ev
open Go Go.RowKit
noncomputable def f66_r0:List EOper := [oG 4 (.as (.c (.b false)))]
noncomputable def f66_r1:List EOper := [oG 5 (.mv (tG 1)),oG 6 (.bin .geq (tG 5) (cG 0)),oG 7 (.mv (tG 6)),gG 8 7 true (.mv (tG 1)),gG 9 7 true (.mv (tG 0)),gG 10 7 true (.bin .lss (tG 8) (tG 9)),oG 11 (.pick (tG 7) (tG 10) (.c (.b false))),oG 4 (.as (tG 11))]
noncomputable def f66_c:EC:=(.seq (.reg f66_r0) (.seq (.reg f66_r1) .ret))
noncomputable def f66:EF:=⟨12, [.tmp (.ofNat 4)],f66_c,none⟩
theorem f66_rs:f66.rs = [.tmp (.ofNat 4)]:=of_eq_true (eq_self _)
noncomputable def f54_r0:List EOper := [oG 1 (.box 2 (tG 0)),oG 2 (.alloc 2 [(.i .i64 (.ofNat 0)),(.i .i64 (.ofNat 0))])]
noncomputable def f54_r1:List EOper := [oG 3 (.fadr 1 (tG 1)),oG 4 (.ld (tG 3)),oG 5 (.fadr 0 (tG 1)),oG 6 (.ld (tG 5)),oG 7 (.build [(.i .i64 (.ofNat 0)),(.i .i64 (.ofNat 0))] [(0,1,(tG 4)),(1,1,(tG 6))]),⟨none,none, .st 2 (tG 2) (tG 7)⟩]
noncomputable def f54_c:EC:=(.seq (.reg f54_r0) (.seq (.reg f54_r1) .ret))
noncomputable def f54:EF:=⟨8, [.celln (.ofNat 2) 2],f54_c,none⟩
theorem f54_rs:f54.rs = [.celln (.ofNat 2) 2]:=of_eq_true (eq_self _)
noncomputable def f55_r0:List EOper := [oG 1 (.box 2 (tG 0)),oG 2 (.alloc 2 [(.i .i64 (.ofNat 0)),(.i .i64 (.ofNat 0))])]
noncomputable def f55_r1:List EOper := [oG 3 (.fadr 0 (tG 1)),oG 4 (.ld (tG 3)),oG 5 (.fadr 1 (tG 1)),oG 6 (.ld (tG 5)),oG 7 (.build [(.i .i64 (.ofNat 0)),(.i .i64 (.ofNat 0))] [(0,1,(tG 4)),(1,1,(tG 6))]),⟨none,none, .st 2 (tG 2) (tG 7)⟩]
noncomputable def f55_c:EC:=(.seq (.reg f55_r0) (.seq (.reg f55_r1) .ret))
noncomputable def f55:EF:=⟨8, [.celln (.ofNat 2) 2],f55_c,none⟩
theorem f55_rs:f55.rs = [.celln (.ofNat 2) 2]:=of_eq_true (eq_self _)
noncomputable def f45_r0:List EOper := [oG 1 (.box 2 (tG 0)),oG 2 (.alloc 2 [(.i .i64 (.ofNat 0)),(.i .i64 (.ofNat 0))])]
noncomputable def f45_r1:List EOper := [oG 3 (.iadr 2 1 (tG 1) (cG 0)),oG 4 (.ld (tG 3)),oG 5 (.iadr 2 1 (tG 1) (cG 1)),oG 6 (.ld (tG 5)),oG 7 (.build [(.i .i64 (.ofNat 0)),(.i .i64 (.ofNat 0))] [(0,1,(tG 4)),(1,1,(tG 6))]),⟨none,none, .st 2 (tG 2) (tG 7)⟩]
noncomputable def f45_c:EC:=(.seq (.reg f45_r0) (.seq (.reg f45_r1) .ret))
noncomputable def f45:EF:=⟨8, [.celln (.ofNat 2) 2],f45_c,none⟩
theorem f45_rs:f45.rs = [.celln (.ofNat 2) 2]:=of_eq_true (eq_self _)
noncomputable def f74_r0:List EOper := [oG 2 (.box 49 (tG 0)),oG 3 (.box 2 (tG 1)),oG 4 (.as (.c (.b false)))]
noncomputable def f74_r1:List Stage := [⟨[oG 5 (.fadr 0 (tG 3)),oG 6 (.ld (tG 5))], [],(some (oG 7 (.call (fG 66) [(cG 7),(tG 6)]))), []⟩,⟨[oG 8 (.mv (tG 7)),gG 9 8 true (.fadr 1 (tG 3)),gG 10 8 true (.ld (tG 9))], [],(some (gG 11 8 true (.call (fG 66) [(cG 7),(tG 10)]))), []⟩,⟨[oG 12 (.pick (tG 8) (tG 11) (.c (.b false))),oG 13 (.mv (tG 12)),gG 14 13 true (.fadr 0 (tG 3)),gG 15 13 true (.ld (tG 14)),gG 16 13 true (.fadr 1 (tG 3)),gG 17 13 true (.ld (tG 16)),gG 18 13 true (.iadr 7 7 (tG 2) (tG 15)),gG 19 13 true (.iadr 7 1 (tG 18) (tG 17)),gG 20 13 true (.ld (tG 19)),oG 21 (.pick (tG 13) (tG 20) (.c (.b false)))], [],(some (oG 4 (.as (tG 21)))), []⟩,⟨[], [],none, []⟩]
noncomputable def f74_c:EC:=(.seq (.reg f74_r0) (.seq (.draw f74_r1) .ret))
noncomputable def f74:EF:=⟨22, [.tmp (.ofNat 4)],f74_c,none⟩
theorem f74_rs:f74.rs = [.tmp (.ofNat 4)]:=of_eq_true (eq_self _)
noncomputable def pV (x:Int × Int):V := .agg [.i .i64 x.1, .i .i64 x.2]
theorem aV_pV {x:Nat × Nat}:aV x=pV ((x.1:Int),(x.2:Int)):=rfl
def nodeB (n x:Int):Bool:=decide (0 ≤ x∧x < n)
def hasR (L:List Bool) (x:Int × Int):Bool:=nodeB 7 x.1 && (nodeB 7 x.2 && rat L x.1.toNat x.2.toNat)
section
variable {fs:T EF} {h:H}
theorem rd2 {id:K} {a b:V} (hb:h.get id = .cells 2 [a,b]):readP h (.p id 0) (many? 2)=some (.agg [a,b]):=by
  have h1:=ldn2 hb
  unfold loadV okv at h1
  cases e:readP h (.p id 0) (many? 2) with
  | none=>rw [e] at h1; cases h1
  | some v=>rw [e] at h1; have h1:RV.ok v h=RV.ok _ h:=h1; injection h1 with h1; rw [h1]
theorem f66_ret {n x:Int}:Ret fs f66 [.i .i64 n, .i .i64 x] h fun r _=>r = .b (nodeB n x):=by
  unfold nodeB
  apply ret_of rfl
  show W fs none f66_c _ _ _
  unfold f66_c
  by_cases h1:0 ≤ x
  · have d1:decide (x ≥ 0)=true:=by simpa using h1
    by_cases h2:x < n
    · have d2:decide (x < n)=true:=by simpa using h2
      have d3:decide (0 ≤ x∧x < n)=true:=by simp; omega
      simp (disch:=omega) only [f66_r0,f66_r1,f66_rs,Option.some.injEq,exists_eq_left',Nat.reduceEqDiff,↓reduceIte,d1,d2,d3,bz]
    · have d2:decide (x < n)=false:=by simpa using h2
      have d3:decide (0 ≤ x∧x < n)=false:=by simp; omega
      simp (disch:=omega) only [f66_r0,f66_r1,f66_rs,Option.some.injEq,exists_eq_left',Nat.reduceEqDiff,↓reduceIte,d1,d2,d3,bz]
  · have d1:decide (x ≥ 0)=false:=by simpa using h1
    have d3:decide (0 ≤ x∧x < n)=false:=by simp; omega
    simp (disch:=omega) only [f66_r0,f66_r1,f66_rs,Option.some.injEq,exists_eq_left',Nat.reduceEqDiff,↓reduceIte,Bool.false_eq_true,d1,d3,bz]
theorem f54_ret {x:Int × Int}:Ret fs f54 [pV x] h fun r _=>r=pV (x.2,x.1):=by
  apply ret_of rfl
  show W fs none f54_c _ _ _
  unfold f54_c
  have c1:cellsN 2 (pV x)=some [.i .i64 x.1, .i .i64 x.2]:=rfl
  have n1:=nx_new h (.cells 2 [.i .i64 x.1, .i .i64 x.2])
  have e1:((h.new (.cells 2 [.i .i64 x.1, .i .i64 x.2])).new (.cells 2 [.i .i64 0, .i .i64 0])).get h.nx = .cells 2 [.i .i64 x.1, .i .i64 x.2]:=by rw [get_new_old (by omega)]; exact get_new_same
  have s1:=st2 (c := .i .i64 x.2) (d := .i .i64 x.1) (get_new_same (h:=h.new (.cells 2 [.i .i64 x.1, .i .i64 x.2])) (x := .cells 2 [.i .i64 0, .i .i64 0]))
  have r1:readP (((h.new (.cells 2 [.i .i64 x.1, .i .i64 x.2])).new (.cells 2 [.i .i64 0, .i .i64 0])).put (h.new (.cells 2 [.i .i64 x.1, .i .i64 x.2])).nx (.cells 2 [.i .i64 x.2, .i .i64 x.1])) (.p (h.new (.cells 2 [.i .i64 x.1, .i .i64 x.2])).nx 0) (many? 2)=some (pV (x.2,x.1)):=rd2 get_put_same
  simp (disch:=omega) only [f54_r0,f54_r1,f54_rs,Option.some.injEq,exists_eq_left',Nat.reduceEqDiff,↓reduceIte,c1,ld20 e1,ld21 e1,s1,r1,bz]
theorem f55_ret {x:Int × Int}:Ret fs f55 [pV x] h fun r _=>r=pV x:=by
  apply ret_of rfl
  show W fs none f55_c _ _ _
  unfold f55_c
  have c1:cellsN 2 (pV x)=some [.i .i64 x.1, .i .i64 x.2]:=rfl
  have n1:=nx_new h (.cells 2 [.i .i64 x.1, .i .i64 x.2])
  have e1:((h.new (.cells 2 [.i .i64 x.1, .i .i64 x.2])).new (.cells 2 [.i .i64 0, .i .i64 0])).get h.nx = .cells 2 [.i .i64 x.1, .i .i64 x.2]:=by rw [get_new_old (by omega)]; exact get_new_same
  have s1:=st2 (c := .i .i64 x.1) (d := .i .i64 x.2) (get_new_same (h:=h.new (.cells 2 [.i .i64 x.1, .i .i64 x.2])) (x := .cells 2 [.i .i64 0, .i .i64 0]))
  have r1:readP (((h.new (.cells 2 [.i .i64 x.1, .i .i64 x.2])).new (.cells 2 [.i .i64 0, .i .i64 0])).put (h.new (.cells 2 [.i .i64 x.1, .i .i64 x.2])).nx (.cells 2 [.i .i64 x.1, .i .i64 x.2])) (.p (h.new (.cells 2 [.i .i64 x.1, .i .i64 x.2])).nx 0) (many? 2)=some (pV x):=rd2 get_put_same
  simp (disch:=omega) only [f55_r0,f55_r1,f55_rs,Option.some.injEq,exists_eq_left',Nat.reduceEqDiff,↓reduceIte,c1,ld20 e1,ld21 e1,s1,r1,bz]
theorem f45_ret {x:Int × Int}:Ret fs f45 [pV x] h fun r _=>r=pV x:=by
  apply ret_of rfl
  show W fs none f45_c _ _ _
  unfold f45_c
  have c1:cellsN 2 (pV x)=some [.i .i64 x.1, .i .i64 x.2]:=rfl
  have n1:=nx_new h (.cells 2 [.i .i64 x.1, .i .i64 x.2])
  have e1:((h.new (.cells 2 [.i .i64 x.1, .i .i64 x.2])).new (.cells 2 [.i .i64 0, .i .i64 0])).get h.nx = .cells 2 [.i .i64 x.1, .i .i64 x.2]:=by rw [get_new_old (by omega)]; exact get_new_same
  have s1:=st2 (c := .i .i64 x.1) (d := .i .i64 x.2) (get_new_same (h:=h.new (.cells 2 [.i .i64 x.1, .i .i64 x.2])) (x := .cells 2 [.i .i64 0, .i .i64 0]))
  have r1:readP (((h.new (.cells 2 [.i .i64 x.1, .i .i64 x.2])).new (.cells 2 [.i .i64 0, .i .i64 0])).put (h.new (.cells 2 [.i .i64 x.1, .i .i64 x.2])).nx (.cells 2 [.i .i64 x.1, .i .i64 x.2])) (.p (h.new (.cells 2 [.i .i64 x.1, .i .i64 x.2])).nx 0) (many? 2)=some (pV x):=rd2 get_put_same
  simp (disch:=omega) only [f45_r0,f45_r1,f45_rs,Option.some.injEq,exists_eq_left',Nat.reduceEqDiff,↓reduceIte,c1,ld20 e1,ld21 e1,s1,r1,bz]
structure Nat1 (fs:T EF):Prop where
  n66:∀ n x h P,CallP fs (.fn (K.ofNat 66) []) [.i .i64 n, .i .i64 x] h P=P (.b (nodeB n x)) h
  n54:∀ x h P,CallP fs (.fn (K.ofNat 54) []) [pV x] h P=P (pV (x.2,x.1)) h
  n55:∀ x h P,CallP fs (.fn (K.ofNat 55) []) [pV x] h P=P (pV x) h
  n45:∀ x h P,CallP fs (.fn (K.ofNat 45) []) [pV x] h P=P (pV x) h
theorem f74_ret {L:List Bool} {x:Int × Int} (k:Nat1 fs) (hL:L.length=49):Ret fs f74 [rV L,pV x] h fun r _=>r = .b (hasR L x):=by
  apply ret_of rfl
  show W fs none f74_c _ _ _
  unfold f74_c
  have c1:=rC_cells hL
  have c2:cellsN 2 (pV x)=some [.i .i64 x.1, .i .i64 x.2]:=rfl
  have n1:=nx_new h (.cells 49 (L.map V.b))
  have e1:((h.new (.cells 49 (L.map V.b))).new (.cells 2 [.i .i64 x.1, .i .i64 x.2])).get h.nx=rC L:=by rw [get_new_old (by omega)]; exact get_new_same
  have e2:=get_new_same (h:=h.new (.cells 49 (L.map V.b))) (x := .cells 2 [.i .i64 x.1, .i .i64 x.2])
  simp (disch:=omega) only [f74_r0,Nat.reduceEqDiff,↓reduceIte,c1,c2,bz]
  generalize (h.new (.cells 49 (L.map V.b))).nx=id2 at *
  generalize (h.new (.cells 49 (L.map V.b))).new (.cells 2 [.i .i64 x.1, .i .i64 x.2])=h2 at *
  have l0:=ld20 e2
  have l1:=ld21 e2
  unfold hasR
  cases h1:nodeB 7 x.1 with
  | false =>
    simp (disch:=omega) only [f74_r1,f74_rs,Option.some.injEq,exists_eq_left',Nat.reduceEqDiff,↓reduceIte,Bool.false_eq_true,l0,k.n66,h1,Bool.false_and,bz]
  | true =>
    cases h2:nodeB 7 x.2 with
    | false =>
      simp (disch:=omega) only [f74_r1,f74_rs,Option.some.injEq,exists_eq_left',Nat.reduceEqDiff,↓reduceIte,Bool.false_eq_true,l0,l1,k.n66,h1,h2,Bool.false_and,Bool.true_and,bz]
    | true =>
      unfold nodeB at h1 h2
      have h1':=of_decide_eq_true h1
      have h2':=of_decide_eq_true h2
      obtain ⟨a,ha⟩:∃ a:Nat,x.1=(a:Int):=⟨x.1.toNat,by omega⟩
      obtain ⟨b,hb⟩:∃ b:Nat,x.2=(b:Int):=⟨x.2.toNat,by omega⟩
      have l2:=rC_ld (a:=a) (b:=b) (by omega) (by omega) hL e1
      rw [ha] at l0 h1
      rw [hb] at l1 h2
      have h1:nodeB 7 (a:Int)=true:=h1
      have h2:nodeB 7 (b:Int)=true:=h2
      rw [ha,hb]
      simp (disch:=omega) only [f74_r1,f74_rs,Option.some.injEq,exists_eq_left',Nat.reduceEqDiff,↓reduceIte,l0,l1,l2,k.n66,h1,h2,Bool.true_and,Int.toNat_natCast,bz]
end
end Go.Ev
namespace Go.Ev
open Go Go.RowKit
noncomputable def f69_r0:List EOper := [oG 2 (.alloc 49 (List.replicate 49 (.b false)))]
noncomputable def f69_r1:List EOper := [oG 3 (.alloc 49 (List.replicate 49 (.b false)))]
noncomputable def f69_r2:List EOper := [oG 7 (.mv (tG 0)),oG 8 (.len (tG 7)),oG 9 (.mv (cG 0))]
noncomputable def f69_r3:List EOper := [oG 10 (.bin .lss (tG 9) (tG 8))]
noncomputable def f69_r4:List EOper := [oG 11 (.iads 49 (tG 7) (tG 9)),oG 12 (.ldn 49 (tG 11)),oG 5 (.alloc 49 (List.replicate 49 (.b false))),⟨none,none, .st 49 (tG 5) (tG 12)⟩]
noncomputable def f69_r5:List EOper := [oG 13 (.ldn 49 (tG 5)),oG 14 (.call (fG 76) [(tG 13)])]
noncomputable def f69_r6:List EOper := [oG 6 (.alloc 2 [(.i .i64 (.ofNat 0)),(.i .i64 (.ofNat 0))]),⟨none,none, .st 2 (tG 6) (tG 15)⟩]
noncomputable def f69_a0:EC:=(.reg f69_r6)
noncomputable def f69_r7:List Stage := [⟨[oG 16 (.fadr 0 (tG 6)),oG 17 (.ld (tG 16)),oG 18 (.fadr 1 (tG 6)),oG 19 (.ld (tG 18)),oG 20 (.iadr 7 7 (tG 3) (tG 17)),oG 21 (.iadr 7 1 (tG 20) (tG 19))], [],(some ⟨none,none, .st 1 (tG 21) (.c (.b true))⟩), []⟩,⟨[], [],none, []⟩]
noncomputable def f69_b0:EC:=(.block 3 (.draw f69_r7))
noncomputable def f69_r8:List EOper := [oG 22 (.bin .add (tG 9) (cG 1)),oG 9 (.mv (tG 22))]
noncomputable def f69_l0:EC:=(.seq (.reg f69_r3) (.seq (.cond (tG 10) .skip (.exit 0)) (.seq (.block 1 (.seq (.reg f69_r4) (.seq (.reg f69_r5) (.block 2 (.rangeF (tG 14) [(.ofNat 15)] f69_a0 f69_b0))))) (.reg f69_r8))))
noncomputable def f69_r9:List EOper := [oG 23 (.ldn 49 (tG 3)),⟨none,none, .st 49 (tG 2) (tG 23)⟩]
noncomputable def f69_c:EC:=(.seq (.reg f69_r0) (.seq (.reg f69_r1) (.seq (.seq (.reg f69_r2) (.block 0 (.loop f69_l0))) (.seq (.reg f69_r9) .ret))))
noncomputable def f69:EF:=⟨24, [.celln (.ofNat 2) 49],f69_c,none⟩
theorem f69_rs:f69.rs = [.celln (.ofNat 2) 49]:=of_eq_true (eq_self _)
noncomputable def f71_r0:List EOper := [oG 2 (.box 49 (tG 0)),oG 3 (.box 49 (tG 1)),oG 4 (.alloc 49 (List.replicate 49 (.b false)))]
noncomputable def f71_r1:List EOper := [oG 6 (.ldn 49 (tG 3)),oG 7 (.call (fG 76) [(tG 6)])]
noncomputable def f71_r2:List EOper := [oG 5 (.alloc 2 [(.i .i64 (.ofNat 0)),(.i .i64 (.ofNat 0))]),⟨none,none, .st 2 (tG 5) (tG 8)⟩]
noncomputable def f71_a0:EC:=(.reg f71_r2)
noncomputable def f71_r3:List Stage := [⟨[oG 9 (.fadr 0 (tG 5)),oG 10 (.ld (tG 9)),oG 11 (.fadr 1 (tG 5)),oG 12 (.ld (tG 11)),oG 13 (.iadr 7 7 (tG 2) (tG 10)),oG 14 (.iadr 7 1 (tG 13) (tG 12))], [],(some ⟨none,none, .st 1 (tG 14) (.c (.b false))⟩), []⟩,⟨[], [],none, []⟩]
noncomputable def f71_b0:EC:=(.block 1 (.draw f71_r3))
noncomputable def f71_r4:List EOper := [oG 15 (.ldn 49 (tG 2)),⟨none,none, .st 49 (tG 4) (tG 15)⟩]
noncomputable def f71_c:EC:=(.seq (.reg f71_r0) (.seq (.seq (.reg f71_r1) (.block 0 (.rangeF (tG 7) [(.ofNat 8)] f71_a0 f71_b0))) (.seq (.reg f71_r4) .ret)))
noncomputable def f71:EF:=⟨16, [.celln (.ofNat 4) 49],f71_c,none⟩
theorem f71_rs:f71.rs = [.celln (.ofNat 4) 49]:=of_eq_true (eq_self _)
noncomputable def f38_r0:List EOper := [oG 2 (.alloc 49 (List.replicate 49 (.b false)))]
noncomputable def f38_r1:List EOper := [oG 3 (.alloc 49 (List.replicate 49 (.b false)))]
noncomputable def f38_r2:List EOper := [oG 6 (.mv (tG 0)),oG 7 (.len (tG 6)),oG 8 (.mv (cG 0))]
noncomputable def f38_r3:List EOper := [oG 9 (.bin .lss (tG 8) (tG 7))]
noncomputable def f38_r4:List EOper := [oG 10 (.iads 2 (tG 6) (tG 8)),oG 11 (.ldn 2 (tG 10)),oG 5 (.alloc 2 [(.i .i64 (.ofNat 0)),(.i .i64 (.ofNat 0))]),⟨none,none, .st 2 (tG 5) (tG 11)⟩]
noncomputable def f38_r5:List Stage := [⟨[oG 12 (.iadr 2 1 (tG 5) (cG 0)),oG 13 (.ld (tG 12)),oG 14 (.iadr 2 1 (tG 5) (cG 1)),oG 15 (.ld (tG 14)),oG 16 (.iadr 7 7 (tG 3) (tG 13)),oG 17 (.iadr 7 1 (tG 16) (tG 15))], [],(some ⟨none,none, .st 1 (tG 17) (.c (.b true))⟩), []⟩,⟨[], [],none, []⟩]
noncomputable def f38_r6:List EOper := [oG 18 (.bin .add (tG 8) (cG 1)),oG 8 (.mv (tG 18))]
noncomputable def f38_l0:EC:=(.seq (.reg f38_r3) (.seq (.cond (tG 9) .skip (.exit 0)) (.seq (.block 1 (.seq (.reg f38_r4) (.draw f38_r5))) (.reg f38_r6))))
noncomputable def f38_r7:List EOper := [oG 19 (.ldn 49 (tG 3)),⟨none,none, .st 49 (tG 2) (tG 19)⟩]
noncomputable def f38_c:EC:=(.seq (.reg f38_r0) (.seq (.reg f38_r1) (.seq (.seq (.reg f38_r2) (.block 0 (.loop f38_l0))) (.seq (.reg f38_r7) .ret))))
noncomputable def f38:EF:=⟨20, [.celln (.ofNat 2) 49],f38_c,none⟩
theorem f38_rs:f38.rs = [.celln (.ofNat 2) 49]:=of_eq_true (eq_self _)
section
variable {fs:T EF} {h h':H}
def Rs (h:H) (v:V) (Ls:List (List Bool)):Prop:=(∀ h1,lenV v h1 = .ok (.i .i64 (Ls.length:Int)) h1) ∧ ∀ i (hi:i < Ls.length),∃ id q m cs,(∀ h1,iadsV 49 v (.i .i64 (i:Int)) h1 = .ok (.p id q) h1)∧h.get id = .cells m cs∧q + 49 ≤ m∧takeN 49 (dropN q cs)=Ls[i].map V.b
theorem Rs.grow {v:V} {Ls:List (List Bool)} (r:Rs h v Ls) (hc:HC h) (g:Grow h.nx.nat h h'):Rs h' v Ls:=⟨r.1,fun i hi=>by
  obtain ⟨id,q,m,cs,h1,h2,h3,h4⟩:=r.2 i hi
  exact ⟨id,q,m,cs,h1,(g.old _ (hc.cells h2)).trans h2,h3,h4⟩⟩
theorem Rs.at {v:V} {Ls:List (List Bool)} (r:Rs h v Ls) {i:Nat} (hi:i < Ls.length):∃ p,(∀ h1,iadsV 49 v (.i .i64 (i:Int)) h1 = .ok p h1)∧loadV h p (many? 49) = .ok (rV Ls[i]) h:=by
  obtain ⟨id,q,m,cs,h1,h2,h3,h4⟩:=r.2 i hi
  exact ⟨_,h1,by rw [loadn_p h2 h3,h4]; rfl⟩
theorem Rs.two {L M:List Bool} (hL:L.length=49) (hM:M.length=49):Rs (h.new (.cells (2 * 49) (L.map V.b ++ M.map V.b))) (.sl h.nx 0 2 49) [L,M]:=by
  refine ⟨fun _=>rfl,fun i hi=>⟨h.nx,0 + i * 49,2 * 49,_,fun h1=>?_,get_new_same,?_,?_⟩⟩
  · rw [iads_sl,idx_n (by simpa using hi)]
  · have:i < 2:=hi; omega
  · rw [takeN_eq,dropN_eq]
    obtain rfl | rfl:i=0 ∨ i=1:=by have:i < 2:=hi; omega
    · rw [show 0 + 0 * 49=0 by omega,List.drop_zero,List.take_append_of_le_length (by simp [hL]),List.take_of_length_le (by simp [hL])]; rfl
    · rw [show 0 + 1 * 49=(L.map V.b).length by simp [hL],List.drop_left,List.take_of_length_le (by simp [hM])]; rfl
def jnF (Ls:List (List Bool)) (i:Nat) (a b:Nat):Bool:=(Ls.take i).any fun L=>rat L a b
def jnR (Ls:List (List Bool)):List Bool:=rl fun a b=>Ls.any fun L=>rat L a b
theorem jnF_succ {Ls:List (List Bool)} {i:Nat} (hi:i < Ls.length):rl (onF (arw (rat Ls[i])) true (jnF Ls i))=rl (jnF Ls (i + 1)):=by
  refine rl_congr fun a b ha hb=>?_
  unfold onF jnF
  rw [List.take_succ_eq_append_getElem hi,List.any_append]
  by_cases e:rat Ls[i] a b=true
  · rw [if_pos (mem_arw.2 ⟨ha,hb,e⟩)]; simp [e]
  · rw [if_neg (fun h=>e (mem_arw.1 h).2.2)]; simp [e]
def f69_I (h0:H) (id2 id3:K) (v:V) (Ls:List (List Bool)) (i:Nat) (fr:Fr) (h1:H):Prop:=i ≤ Ls.length∧Kp id3 h0 h1∧h1.get id3=rC (rl (jnF Ls i))∧fr.get (K.ofNat 2)=some (.p id2 0)∧fr.get (K.ofNat 3)=some (.p id3 0)∧fr.get (K.ofNat 7)=some (v)∧fr.get (K.ofNat 8)=some (.i .i64 (Ls.length:Int))∧fr.get (K.ofNat 9)=some (.i .i64 (i:Int))
theorem f69_ret {v:V} {Ls:List (List Bool)} (h84:fs.get (.ofNat 76)=some f76) (h101:fs.get (.ofNat 90)=some f90) (hv:Rs h v Ls) (hl:∀ L ∈ Ls,L.length=49) (hb:Ls.length ≤ 1000000) (hc:HC h):Ret fs f69 [v] h fun r h'=>r=rV (jnR Ls)∧Grow h.nx.nat h h':=by
  apply ret_of rfl
  show W fs none f69_c _ _ _
  unfold f69_c
  have n1:=nx_new h (.cells 49 (List.replicate 49 (.b false)))
  have gr1:Grow h.nx.nat h (h.new (.cells 49 (List.replicate 49 (.b false)))):=Grow.new (Nat.le_refl _) _
  have e1:(h.new (.cells 49 (List.replicate 49 (.b false)))).get h.nx=rC (rl fun _ _=>false):=by rw [rl_false]; exact get_new_same
  simp (disch:=omega) only [f69_r0,bz]
  generalize h.new (.cells 49 (List.replicate 49 (.b false)))=h1 at *
  have n2:=nx_new h1 (.cells 49 (List.replicate 49 (.b false)))
  have gr2:Grow h1.nx.nat h1 (h1.new (.cells 49 (List.replicate 49 (.b false)))):=Grow.new (Nat.le_refl _) _
  have e2:(h1.new (.cells 49 (List.replicate 49 (.b false)))).get h1.nx=rC (rl fun _ _=>false):=by rw [rl_false]; exact get_new_same
  have hlen:=hv.1
  simp (disch:=omega) only [f69_r1,f69_r2,Nat.reduceEqDiff,↓reduceIte,hlen,bz]
  generalize h1.new (.cells 49 (List.replicate 49 (.b false)))=h2 at *
  have gA:Grow h.nx.nat h h2:=gr1.trans (gr2.low (by omega))
  have hc2:=gA.hc hc
  have e1':=(gr2.old h.nx (by omega)).trans e1
  refine W_loop (f69_I h2 h.nx h1.nx v Ls) (fun i=>Ls.length - i) ?_ 0 ⟨by omega,Kp.refl hc2,e2,by simp (disch:=omega) only [getK_set,Nat.reduceEqDiff,↓reduceIte,and_self,Int.natCast_zero]⟩
  rintro i fr h3 ⟨hi,hk,hB,g2,g3,g7,g8,g9⟩
  unfold f69_l0
  by_cases hlt:i < Ls.length
  · have d0:decide ((i:Int) < (Ls.length:Int))=true:=decide_eq_true (by omega)
    have gB:Grow h.nx.nat h h3:=gA.trans (hk.toGrow (by omega) (by omega))
    obtain ⟨p,p1,p2⟩:=(hv.grow hc gB).at hlt
    have hL:=hl _ (List.getElem_mem hlt)
    have hsu:=jnF_succ hlt
    generalize Ls[i]=L at *
    have c1:=rC_cells hL
    have n4:=nx_new h3 (.cells 49 (List.replicate 49 (.b false)))
    have s4:=rC_stn hL rl_len (M:=rl fun _ _=>false) (h:=h3.new (.cells 49 (List.replicate 49 (.b false)))) (id:=h3.nx) (by rw [rl_false]; exact get_new_same)
    have gr4:Grow h3.nx.nat h3 ((h3.new (.cells 49 (List.replicate 49 (.b false)))).put h3.nx (rC L)):=(Grow.new (Nat.le_refl _) _).trans (Grow.put (Nat.le_refl _) (by omega) _)
    have n4':((h3.new (.cells 49 (List.replicate 49 (.b false)))).put h3.nx (rC L)).nx.nat=h3.nx.nat + 1:=n4
    have e4:((h3.new (.cells 49 (List.replicate 49 (.b false)))).put h3.nx (rC L)).get h3.nx=rC L:=get_put_same
    have l4:=rC_ldn hL e4
    simp (disch:=omega) only [f69_r3,f69_r4,f69_r5,Nat.reduceEqDiff,↓reduceIte,g7,g8,g9,d0,p1,p2,s4,l4,bz]
    generalize (h3.new (.cells 49 (List.replicate 49 (.b false)))).put h3.nx (rC L)=h4 at *
    refine (callP_0 (ef:=f76) h84 rfl (f76_ret hL)).mono ?_
    rintro r h5 ⟨rfl,rfl⟩
    have n5:=nx_new h4 (rC L)
    have gr5:Grow h4.nx.nat h4 (h4.new (rC L)):=Grow.new (Nat.le_refl _) _
    have e5:(h4.new (rC L)).get h4.nx=rC L:=get_new_same
    have k5:=(hk.grow gr4 hk.nx).grow gr5 (by have:=hk.nx; omega)
    have b5:=(gr5.old _ (by have:=hk.nx; omega)).trans ((gr4.old _ (by have:=hk.nx; omega)).trans hB)
    simp (disch:=omega) only [bz]
    generalize h4.new (rC L)=h5 at *
    generalize hfr:T.set (K.ofNat 14) _ _=fr
    have g2:fr.get (K.ofNat 2)=some (.p h.nx 0):=by rw [← hfr]; simp only [getK_set,Nat.reduceEqDiff,↓reduceIte,g2]
    have g3:fr.get (K.ofNat 3)=some (.p h1.nx 0):=by rw [← hfr]; simp only [getK_set,Nat.reduceEqDiff,↓reduceIte,g3]
    have g7:fr.get (K.ofNat 7)=some (v):=by rw [← hfr]; simp only [getK_set,Nat.reduceEqDiff,↓reduceIte,g7]
    have g8:fr.get (K.ofNat 8)=some (.i .i64 (Ls.length:Int)):=by rw [← hfr]; simp only [getK_set,Nat.reduceEqDiff,↓reduceIte,g8]
    have g9:fr.get (K.ofNat 9)=some (.i .i64 (i:Int)):=by rw [← hfr]; simp only [getK_set,Nat.reduceEqDiff,↓reduceIte,g9]
    have g14:fr.get (K.ofNat 14)=some (.fn (K.ofNat 90) [.p h4.nx 0]):=by rw [← hfr]; simp only [getK_set,↓reduceIte]
    clear hfr
    have hkn:=hk.nx
    refine W_arr (idB:=h1.nx) (by simp (disch:=omega) only [ev_t,getV_some,g14]) hL h101 k5.hc e5 (kNe (by omega)).symm (fun j=>rC (rl (onF ((arw (rat L)).take j) true (jnF Ls i)))) (by rw [b5,List.take_zero,onF_nil]) (by omega) rfl ?_ ?_
    · rintro j ⟨x,y⟩ h6 hx hx1 hx2 hk6 hn hB6
      obtain ⟨hst,gB,c7,n6⟩:=arr_var (h:=h6) (x:=x) (y:=y)
      have b6:=(gB.old _ (by omega)).trans hB6
      unfold f69_a0
      simp (disch:=omega) only [f69_r6,Nat.reduceEqDiff,↓reduceIte,hst,arrA_n,bz]
      generalize (h6.new (.cells 2 [.i .i64 0, .i .i64 0])).put h6.nx (.cells 2 [.i .i64 (x:Int), .i .i64 (y:Int)])=h7 at *
      refine ⟨gB,fun h8 n8 hc8 o8=>?_⟩
      have l0:=ld20 ((o8 _ (kNe hn).symm).trans c7)
      have l1:=ld21 ((o8 _ (kNe hn).symm).trans c7)
      have b8:=(o8 _ (kNe (show h1.nx.nat < h5.nx.nat by omega))).trans b6
      have hs:=rC_st (v:=true) hx1 hx2 b8
      unfold f69_b0
      simp (disch:=omega) only [f69_r7,Nat.reduceEqDiff,↓reduceIte,g3,l0,l1,hs,arrC_n,bz]
      refine ⟨?_,(Kp.refl hc8).put (by rw [n8]; omega) _⟩
      rw [get_put_same,List.take_add_one,hx]
      simp only [Option.toList_some,onF_snoc]
    · intro h6 hB6 hk6
      rw [List.take_length,hsu] at hB6
      simp (disch:=omega) only [f69_r8,↓reduceIte,g9,bz]
      exact ⟨i + 1,by omega,by omega,k5.trans hk6,hB6,by simp (disch:=omega) only [getK_set,Nat.reduceEqDiff,↓reduceIte,g2,g3,g7,g8,and_self,Int.natCast_add,Int.natCast_one]⟩
  · have d0:decide ((i:Int) < (Ls.length:Int))=false:=decide_eq_false (by omega)
    have ei:i=Ls.length:=by omega
    subst ei
    have hj:rl (jnF Ls Ls.length)=jnR Ls:=by unfold jnR jnF; rw [List.take_length]
    rw [hj] at hB
    have l5:=rC_ldn (L:=jnR Ls) rl_len hB
    have hs5:=rC_stn (L:=jnR Ls) rl_len rl_len ((hk.old h.nx (by omega) (kNe (by omega))).trans e1')
    have hr5:readP (h3.put h.nx (rC (jnR Ls))) (.p h.nx 0) (many? 49)=some (rV (jnR Ls)):=rC_read rl_len get_put_same
    simp (disch:=omega) only [f69_r3,f69_r9,f69_rs,Option.some.injEq,exists_eq_left',Nat.reduceEqDiff,↓reduceIte,Bool.false_eq_true,g2,g3,g8,g9,d0,l5,hs5,hr5,bz]
    exact gA.trans ((hk.toGrow (b:=h.nx.nat) (by omega) (by omega)).trans (Grow.put (k:=h.nx) (by omega) (by have:=hk.nx; omega) _))
def woR (L M:List Bool):List Bool:=rl fun a b=>rat L a b && !rat M a b
theorem f71_ret {L M:List Bool} (hL:L.length=49) (hM:M.length=49) (h84:fs.get (.ofNat 76)=some f76) (h101:fs.get (.ofNat 90)=some f90) (hc:HC h):Ret fs f71 [rV L,rV M] h fun r _=>r=rV (woR L M):=by
  apply ret_of rfl
  show W fs none f71_c _ _ _
  unfold f71_c
  have c1:=rC_cells hL
  have c2:=rC_cells hM
  have n1:=nx_new h (.cells 49 (L.map V.b))
  have g1:Grow h.nx.nat h (h.new (.cells 49 (L.map V.b))):=Grow.new (Nat.le_refl _) _
  have e1:(h.new (.cells 49 (L.map V.b))).get h.nx=rC L:=get_new_same
  have n2:=nx_new (h.new (.cells 49 (L.map V.b))) (.cells 49 (M.map V.b))
  have g2:Grow (h.new (.cells 49 (L.map V.b))).nx.nat (h.new (.cells 49 (L.map V.b))) ((h.new (.cells 49 (L.map V.b))).new (.cells 49 (M.map V.b))):=Grow.new (Nat.le_refl _) _
  have e2:((h.new (.cells 49 (L.map V.b))).new (.cells 49 (M.map V.b))).get (h.new (.cells 49 (L.map V.b))).nx=rC M:=get_new_same
  have n3:=nx_new ((h.new (.cells 49 (L.map V.b))).new (.cells 49 (M.map V.b))) (.cells 49 (List.replicate 49 (.b false)))
  have g3:Grow ((h.new (.cells 49 (L.map V.b))).new (.cells 49 (M.map V.b))).nx.nat ((h.new (.cells 49 (L.map V.b))).new (.cells 49 (M.map V.b))) (((h.new (.cells 49 (L.map V.b))).new (.cells 49 (M.map V.b))).new (.cells 49 (List.replicate 49 (.b false)))):=Grow.new (Nat.le_refl _) _
  have e3:(((h.new (.cells 49 (L.map V.b))).new (.cells 49 (M.map V.b))).new (.cells 49 (List.replicate 49 (.b false)))).get ((h.new (.cells 49 (L.map V.b))).new (.cells 49 (M.map V.b))).nx=rC (rl fun _ _=>false):=by rw [rl_false]; exact get_new_same
  simp (disch:=omega) only [f71_r0,Nat.reduceEqDiff,↓reduceIte,c1,c2,bz]
  generalize h.new (.cells 49 (L.map V.b))=h1 at *
  generalize h1.new (.cells 49 (M.map V.b))=h2 at *
  generalize h2.new (.cells 49 (List.replicate 49 (.b false)))=h3 at *
  have hc3:=g3.hc (g2.hc (g1.hc hc))
  have hl:=rC_ldn hM (h:=h3) (id:=h1.nx) ((g3.old _ (by omega)).trans e2)
  simp (disch:=omega) only [f71_r1,Nat.reduceEqDiff,↓reduceIte,hl,bz]
  refine (callP_0 (ef:=f76) h84 rfl (f76_ret hM)).mono ?_
  rintro r h4 ⟨rfl,rfl⟩
  have n4:=nx_new h3 (rC M)
  have g4:Grow h3.nx.nat h3 (h3.new (rC M)):=Grow.new (Nat.le_refl _) _
  have e4:(h3.new (rC M)).get h3.nx=rC M:=get_new_same
  have hc4:=g4.hc hc3
  have e1':=(g4.old h.nx (by omega)).trans ((g3.old h.nx (by omega)).trans ((g2.old h.nx (by omega)).trans e1))
  have e3':=(g4.old h2.nx (by omega)).trans e3
  simp (disch:=omega) only [bz]
  generalize h3.new (rC M)=h4 at *
  generalize hfr:T.set (K.ofNat 7) _ _=fr
  have g2:fr.get (K.ofNat 2)=some (.p h.nx 0):=by rw [← hfr]; simp only [getK_set,Nat.reduceEqDiff,↓reduceIte]
  have g4:fr.get (K.ofNat 4)=some (.p h2.nx 0):=by rw [← hfr]; simp only [getK_set,Nat.reduceEqDiff,↓reduceIte]
  have g7:fr.get (K.ofNat 7)=some (.fn (K.ofNat 90) [.p h3.nx 0]):=by rw [← hfr]; simp only [getK_set,↓reduceIte]
  clear hfr
  refine W_arr (idB:=h.nx) (by simp (disch:=omega) only [ev_t,getV_some,g7]) hM h101 hc4 e4 (kNe (by omega)).symm (fun i=>rC (rl (onF ((arw (rat M)).take i) false (rat L)))) (by rw [e1',List.take_zero,onF_nil,rl_rat hL]) (by omega) rfl ?_ ?_
  · rintro i ⟨x,y⟩ h5 hx hx1 hx2 hk hn hB
    obtain ⟨hst,gB,c7,n5⟩:=arr_var (h:=h5) (x:=x) (y:=y)
    have b6:=(gB.old _ (by omega)).trans hB
    unfold f71_a0
    simp (disch:=omega) only [f71_r2,Nat.reduceEqDiff,↓reduceIte,hst,arrA_n,bz]
    generalize (h5.new (.cells 2 [.i .i64 0, .i .i64 0])).put h5.nx (.cells 2 [.i .i64 (x:Int), .i .i64 (y:Int)])=h6 at *
    refine ⟨gB,fun h7 n7 hc7 o7=>?_⟩
    have l0:=ld20 ((o7 _ (kNe hn).symm).trans c7)
    have l1:=ld21 ((o7 _ (kNe hn).symm).trans c7)
    have b7:=(o7 _ (kNe (show h.nx.nat < h4.nx.nat by omega))).trans b6
    have hs:=rC_st (v:=false) hx1 hx2 b7
    unfold f71_b0
    simp (disch:=omega) only [f71_r3,Nat.reduceEqDiff,↓reduceIte,g2,l0,l1,hs,arrC_n,bz]
    refine ⟨?_,(Kp.refl hc7).put (by rw [n7]; omega) _⟩
    rw [get_put_same,List.take_add_one,hx]
    simp only [Option.toList_some,onF_snoc]
  · intro h5 hB hk
    rw [List.take_length] at hB
    have hF:rl (onF (arw (rat M)) false (rat L))=woR L M:=by
      refine rl_congr fun a b ha hb=>?_
      unfold onF
      by_cases e:rat M a b=true
      · rw [if_pos (mem_arw.2 ⟨ha,hb,e⟩),e]; simp
      · rw [if_neg (fun h=>e (mem_arw.1 h).2.2)]; simp [e]
    rw [hF] at hB
    have l5:=rC_ldn (L:=woR L M) rl_len hB
    have hs5:=rC_stn (L:=woR L M) rl_len rl_len ((hk.old h2.nx (by omega) (kNe (by omega)).symm).trans e3')
    have hr5:readP (h5.put h2.nx (rC (woR L M))) (.p h2.nx 0) (many? 49)=some (rV (woR L M)):=rC_read rl_len get_put_same
    simp (disch:=omega) only [f71_r4,f71_rs,Option.some.injEq,exists_eq_left',Nat.reduceEqDiff,↓reduceIte,g2,g4,l5,hs5,hr5,bz]
def relR (L:List (Int × Int)):List Bool:=rl fun a b=>decide (((a:Int),(b:Int)) ∈ L)
def relF (L:List (Int × Int)) (i:Nat) (a b:Nat):Bool:=decide (((a:Int),(b:Int)) ∈ L.take i)
theorem relF_succ {L:List (Int × Int)} {i:Nat} (hi:i < L.length) {x y:Nat} (hx:L[i].1=(x:Int)) (hy:L[i].2=(y:Int)):(fun a b=>if a=x∧b=y then true else relF L i a b)=relF L (i + 1):=by
  funext a b
  unfold relF
  rw [List.take_succ_eq_append_getElem hi]
  have e0:L[i]=((x:Int),(y:Int)):=Prod.ext hx hy
  rw [e0]
  by_cases e:a=x∧b=y
  · rw [if_pos e,e.1,e.2]; simp
  · rw [if_neg e]
    congr 1
    apply propext
    rw [List.mem_append,List.mem_singleton]
    exact ⟨.inl,fun h=>h.resolve_right (fun h=>e (by injection h with h1 h2; omega))⟩
def Nd (L:List (Int × Int)):Prop:=∀ x ∈ L,(0 ≤ x.1∧x.1 < 7)∧(0 ≤ x.2∧x.2 < 7)
def f38_I (h0:H) (id2 id3:K) (v:V) (L:List (Int × Int)) (i:Nat) (fr:Fr) (h1:H):Prop:=i ≤ L.length∧Kp id3 h0 h1∧h1.get id3=rC (rl (relF L i))∧fr.get (K.ofNat 2)=some (.p id2 0)∧fr.get (K.ofNat 3)=some (.p id3 0)∧fr.get (K.ofNat 6)=some (v)∧fr.get (K.ofNat 7)=some (.i .i64 (L.length:Int))∧fr.get (K.ofNat 8)=some (.i .i64 (i:Int))
theorem f38_ret {v:V} {L:List (Int × Int)} (hv:Srp h v L) (hn:Nd L) (hb:L.length ≤ 1000000) (hc:HC h):Ret fs f38 [v] h fun r h'=>r=rV (relR L)∧Grow h.nx.nat h h':=by
  apply ret_of rfl
  show W fs none f38_c _ _ _
  unfold f38_c
  have n1:=nx_new h (.cells 49 (List.replicate 49 (.b false)))
  have gr1:Grow h.nx.nat h (h.new (.cells 49 (List.replicate 49 (.b false)))):=Grow.new (Nat.le_refl _) _
  have e1:(h.new (.cells 49 (List.replicate 49 (.b false)))).get h.nx=rC (rl fun _ _=>false):=by rw [rl_false]; exact get_new_same
  simp (disch:=omega) only [f38_r0,bz]
  generalize h.new (.cells 49 (List.replicate 49 (.b false)))=h1 at *
  have n2:=nx_new h1 (.cells 49 (List.replicate 49 (.b false)))
  have gr2:Grow h1.nx.nat h1 (h1.new (.cells 49 (List.replicate 49 (.b false)))):=Grow.new (Nat.le_refl _) _
  have e2:(h1.new (.cells 49 (List.replicate 49 (.b false)))).get h1.nx=rC (rl fun _ _=>false):=by rw [rl_false]; exact get_new_same
  have hlen:=hv.len
  simp (disch:=omega) only [f38_r1,f38_r2,Nat.reduceEqDiff,↓reduceIte,hlen,bz]
  generalize h1.new (.cells 49 (List.replicate 49 (.b false)))=h2 at *
  have gA:Grow h.nx.nat h h2:=gr1.trans (gr2.low (by omega))
  have hc2:=gA.hc hc
  have e1':=(gr2.old h.nx (by omega)).trans e1
  refine W_loop (f38_I h2 h.nx h1.nx v L) (fun i=>L.length - i) ?_ 0 ⟨by omega,Kp.refl hc2,e2,by simp (disch:=omega) only [getK_set,Nat.reduceEqDiff,↓reduceIte,and_self,Int.natCast_zero]⟩
  rintro i fr h3 ⟨hi,hk,hB,g2,g3,g6,g7,g8⟩
  have hkn:=hk.nx
  unfold f38_l0
  by_cases hlt:i < L.length
  · have d0:decide ((i:Int) < (L.length:Int))=true:=decide_eq_true (by omega)
    have gB:Grow h.nx.nat h h3:=gA.trans (hk.toGrow (by omega) (by omega))
    obtain ⟨id,q,p1,p2,_⟩:=(hv.grow hc gB).at2 hlt
    obtain ⟨hx,hy⟩:=hn _ (List.getElem_mem hlt)
    obtain ⟨x,hx1⟩:∃ x:Nat,L[i].1=(x:Int):=⟨L[i].1.toNat,by omega⟩
    obtain ⟨y,hy1⟩:∃ y:Nat,L[i].2=(y:Int):=⟨L[i].2.toNat,by omega⟩
    have hsu:=relF_succ hlt hx1 hy1
    rw [hx1,hy1] at p2
    rw [hx1] at hx
    rw [hy1] at hy
    obtain ⟨hst,gC,c7,n5⟩:=arr_var (h:=h3) (x:=x) (y:=y)
    have hst:storeV (h3.new (.cells 2 [.i .i64 0, .i .i64 0])) 2 (.p h3.nx 0) (.agg [.i .i64 (x:Int), .i .i64 (y:Int)])=_:=hst
    have b4:=(gC.old _ (by omega)).trans hB
    simp (disch:=omega) only [f38_r3,f38_r4,Nat.reduceEqDiff,↓reduceIte,g6,g7,g8,d0,p1,p2,hst,bz]
    have k4:=hk.grow gC hkn
    generalize (h3.new (.cells 2 [.i .i64 0, .i .i64 0])).put h3.nx (.cells 2 [.i .i64 (x:Int), .i .i64 (y:Int)])=h4 at *
    have l0:=ld20 c7
    have l1:=ld21 c7
    have hs:=rC_st (v:=true) (a:=x) (b:=y) (by omega) (by omega) b4
    have z0:∀ ff:Nat→RV,idxV (.i .i64 0) 2 ff=ff 0:=fun _=>rfl
    have z1:∀ ff:Nat→RV,idxV (.i .i64 1) 2 ff=ff 1:=fun _=>rfl
    simp (disch:=omega) only [f38_r5,f38_r6,Nat.reduceEqDiff,↓reduceIte,g3,g8,z0,z1,l0,l1,hs,bz]
    refine ⟨i + 1,by omega,by omega,k4.put (by omega) _,by rw [get_put_same,hsu],by simp (disch:=omega) only [getK_set,Nat.reduceEqDiff,↓reduceIte,g2,g3,g6,g7,and_self,Int.natCast_add,Int.natCast_one]⟩
  · have d0:decide ((i:Int) < (L.length:Int))=false:=decide_eq_false (by omega)
    have ei:i=L.length:=by omega
    subst ei
    have hj:rl (relF L L.length)=relR L:=by unfold relR relF; rw [List.take_length]
    rw [hj] at hB
    have l5:=rC_ldn (L:=relR L) rl_len hB
    have hs5:=rC_stn (L:=relR L) rl_len rl_len ((hk.old h.nx (by omega) (kNe (by omega))).trans e1')
    have hr5:readP (h3.put h.nx (rC (relR L))) (.p h.nx 0) (many? 49)=some (rV (relR L)):=rC_read rl_len get_put_same
    simp (disch:=omega) only [f38_r3,f38_r7,f38_rs,Option.some.injEq,exists_eq_left',Nat.reduceEqDiff,↓reduceIte,Bool.false_eq_true,g2,g3,g7,g8,d0,l5,hs5,hr5,bz]
    exact gA.trans ((hk.toGrow (b:=h.nx.nat) (by omega) (by omega)).trans (Grow.put (k:=h.nx) (by omega) (by have:=hk.nx; omega) _))
end
end Go.Ev
namespace Go.Ev
open Go Go.RowKit
noncomputable def f40_r0:List EOper := [oG 2 (.alloc 49 (List.replicate 49 (.b false)))]
noncomputable def f40_r1:List EOper := [oG 4 (.mv (tG 0)),oG 5 (.call (fG 38) [(tG 4)]),oG 3 (.alloc 49 (List.replicate 49 (.b false))),⟨none,none, .st 49 (tG 3) (tG 5)⟩]
noncomputable def f40_r2:List Stage := [⟨[oG 6 (.ldn 49 (tG 3)),oG 7 (.ldn 49 (tG 3))], [],(some (oG 8 (.call (fG 70) [(tG 7)]))), []⟩,⟨[oG 9 (.bslice 2 49 (List.replicate 98 (.b false)) [(0,49,(tG 6)),(49,49,(tG 8))])], [oG 6 (.ldn 49 (tG 3))],(some (oG 10 (.call (fG 69) [(tG 9)]))), [(.ofNat 9)]⟩,⟨[], [],(some ⟨none,none, .st 49 (tG 2) (tG 10)⟩), []⟩,⟨[], [],none, []⟩]
noncomputable def f40_c:EC:=(.seq (.reg f40_r0) (.seq (.reg f40_r1) (.seq (.draw f40_r2) .ret)))
noncomputable def f40:EF:=⟨11, [.celln (.ofNat 2) 49],f40_c,none⟩
theorem f40_rs:f40.rs = [.celln (.ofNat 2) 49]:=of_eq_true (eq_self _)
noncomputable def f67_r0:List EOper := [oG 2 (.box 49 (tG 0)),oG 3 (.box 49 (tG 1)),oG 4 (.as (.c (.b false)))]
noncomputable def f67_r1:List Stage := [⟨[oG 5 (.ldn 49 (tG 2)),oG 6 (.ldn 49 (tG 3)),oG 7 (.bslice 2 49 (List.replicate 98 (.b false)) [(0,49,(tG 5)),(49,49,(tG 6))]),oG 9 (.ldn 49 (tG 2))], [],(some (oG 8 (.call (fG 69) [(tG 7)]))), [(.ofNat 7)]⟩,⟨[oG 10 (.eqk (.many (List.replicate 49 none)) false (tG 8) (tG 9))], [oG 9 (.ldn 49 (tG 2))],(some (oG 4 (.as (tG 10)))), []⟩,⟨[], [],none, []⟩]
noncomputable def f67_c:EC:=(.seq (.reg f67_r0) (.seq (.draw f67_r1) .ret))
noncomputable def f67:EF:=⟨11, [.tmp (.ofNat 4)],f67_c,none⟩
theorem f67_rs:f67.rs = [.tmp (.ofNat 4)]:=of_eq_true (eq_self _)
noncomputable def f41_r0:List EOper := [oG 2 (.box 49 (tG 0)),oG 4 (.alloc 49 (List.replicate 49 (.b false)))]
noncomputable def f41_r1:List EOper := [oG 5 (.alloc 49 (List.replicate 49 (.b false)))]
noncomputable def f41_r2:List EOper := [oG 8 (.mv (tG 1)),oG 9 (.mv (cG 0))]
noncomputable def f41_r3:List EOper := [oG 10 (.bin .lss (tG 9) (tG 8))]
noncomputable def f41_r4:List EOper := [oG 11 (.mv (tG 9)),oG 6 (.as (tG 11))]
noncomputable def f41_r5:List EOper := [oG 12 (.mv (tG 1)),oG 13 (.mv (cG 0))]
noncomputable def f41_r6:List EOper := [oG 14 (.bin .lss (tG 13) (tG 12))]
noncomputable def f41_r7:List EOper := [oG 15 (.mv (tG 13)),oG 7 (.as (tG 15))]
noncomputable def f41_r8:List EOper := [oG 16 (.mv (tG 6)),oG 17 (.mv (tG 7)),oG 18 (.mv (tG 6)),oG 19 (.mv (tG 7)),oG 20 (.bin .neq (tG 18) (tG 19)),oG 21 (.iadr 7 7 (tG 5) (tG 16)),oG 22 (.iadr 7 1 (tG 21) (tG 17)),⟨none,none, .st 1 (tG 22) (tG 20)⟩]
noncomputable def f41_r9:List EOper := [oG 23 (.bin .add (tG 13) (cG 1)),oG 13 (.mv (tG 23))]
noncomputable def f41_l0:EC:=(.seq (.reg f41_r6) (.seq (.cond (tG 14) .skip (.exit 2)) (.seq (.block 3 (.seq (.reg f41_r7) (.reg f41_r8))) (.reg f41_r9))))
noncomputable def f41_r10:List EOper := [oG 24 (.bin .add (tG 9) (cG 1)),oG 9 (.mv (tG 24))]
noncomputable def f41_l1:EC:=(.seq (.reg f41_r3) (.seq (.cond (tG 10) .skip (.exit 0)) (.seq (.block 1 (.seq (.reg f41_r4) (.seq (.reg f41_r5) (.block 2 (.loop f41_l0))))) (.reg f41_r10))))
noncomputable def f41_r11:List EOper := [oG 25 (.ldn 49 (tG 5)),oG 26 (.ldn 49 (tG 2)),oG 27 (.call (fG 71) [(tG 25),(tG 26)]),⟨none,none, .st 49 (tG 4) (tG 27)⟩]
noncomputable def f41_c:EC:=(.seq (.reg f41_r0) (.seq (.reg f41_r1) (.seq (.seq (.reg f41_r2) (.block 0 (.loop f41_l1))) (.seq (.reg f41_r11) .ret))))
noncomputable def f41:EF:=⟨28, [.celln (.ofNat 4) 49],f41_c,none⟩
theorem f41_rs:f41.rs = [.celln (.ofNat 4) 49]:=of_eq_true (eq_self _)
section
variable {fs:T EF} {h h':H}
structure Nat2 (fs:T EF):Prop extends Nat1 fs where
  n70:∀ L h P,L.length=49→CallP fs (.fn (K.ofNat 70) []) [rV L] h P=P (rV (turnR L)) h
  n71:∀ L M h P,L.length=49→M.length=49→CallP fs (.fn (K.ofNat 71) []) [rV L,rV M] h P=P (rV (woR L M)) h
  n74:∀ L x h P,L.length=49→CallP fs (.fn (K.ofNat 74) []) [rV L,pV x] h P=P (.b (hasR L x)) h
  c76:fs.get (K.ofNat 76)=some f76
  c90:fs.get (K.ofNat 90)=some f90
  c69:fs.get (K.ofNat 69)=some f69
  c38:fs.get (K.ofNat 38)=some f38
theorem fill_c {fr:Fr} {z:List V} {o n:Nat} {x:EO} {l:List (Nat × Nat × EO)}:fillE fr z ((o,n,x) :: l)=oGet (cellsN n (ev fr x)) none fun cs=>fillE fr (setMany z o cs) l:=of_eq_true (eq_self _)
theorem set98a {L:List Bool} (hL:L.length=49):setMany (List.replicate 98 (.b false)) 0 (L.map V.b)=L.map V.b ++ List.replicate 49 (.b false):=by
  rw [setMany_eq _ _ _ (by simp [hL])]; simp [hL]
theorem set98b {L M:List Bool} (hL:L.length=49) (hM:M.length=49):setMany (L.map V.b ++ List.replicate 49 (.b false)) 49 (M.map V.b)=L.map V.b ++ M.map V.b:=by
  have e49:(L.map V.b).length=49:=by simp [hL]
  have e1:(L.map V.b ++ List.replicate 49 (V.b false)).take 49=L.map V.b:=by rw [← e49]; exact List.take_left
  rw [setMany_eq _ _ _ (by simp [hL,hM]),e1,List.drop_of_length_le (by simp [hL,hM]),List.append_nil]
theorem beqL_b {L:List Bool}:beqL (L.map V.b) (L.map V.b)=true:=by
  induction L with
  | nil=>rfl
  | cons x L ih =>
    show (beq1 (.b x) (.b x) && beqL (L.map V.b) (L.map V.b))=true
    rw [ih,Bool.and_true]
    show (x == x)=true
    simp
theorem beq_rV {L:List Bool}:beqV (rV L) (rV L)=true:=beqL_b
theorem keyEq_rel2 {L M:List Bool} (hL:L.length=49) (hM:M.length=49):keyEq (.many (List.replicate 49 none)) (rV L) (rV M)=some (decide (L=M)):=by
  have key:∀ (n:Nat) (L M:List Bool),L.length=n→M.length=n→eqK (List.replicate n none) (L.map V.b) (M.map V.b)=some (decide (L=M)):=by
    intro n
    induction n with
    | zero =>
      intro L M h1 h2
      rw [List.length_eq_zero_iff.1 h1,List.length_eq_zero_iff.1 h2]; rfl
    | succ n ih =>
      intro L M h1 h2
      cases L with
      | nil=>simp at h1
      | cons x L =>
        cases M with
        | nil=>simp at h2
        | cons y M =>
          show oGet (some (x == y)) none (fun r=>oGet (eqK (List.replicate n none) (L.map V.b) (M.map V.b)) none fun s=>some (r && s))=_
          rw [ih L M (by simpa using h1) (by simpa using h2)]
          show some ((x == y) && decide (L=M))=_
          congr 1
          by_cases e:x=y
          · subst e; simp
          · simp [e]
  exact key 49 L M hL hM
def gR (L:List (Int × Int)):List Bool:=jnR [relR L,turnR (relR L)]
theorem gR_len {L:List (Int × Int)}:(gR L).length=49:=by unfold gR jnR; exact rl_len
theorem f40_ret {v:V} {L:List (Int × Int)} (k:Nat2 fs) (hv:Srp h v L) (hn:Nd L) (hb:L.length ≤ 1000000) (hc:HC h):Ret fs f40 [v] h fun r h'=>r=rV (gR L)∧Grow h.nx.nat h h':=by
  apply ret_of rfl
  show W fs none f40_c _ _ _
  unfold f40_c
  have n1:=nx_new h (.cells 49 (List.replicate 49 (.b false)))
  have gr1:Grow h.nx.nat h (h.new (.cells 49 (List.replicate 49 (.b false)))):=Grow.new (Nat.le_refl _) _
  have e1:(h.new (.cells 49 (List.replicate 49 (.b false)))).get h.nx=rC (rl fun _ _=>false):=by rw [rl_false]; exact get_new_same
  simp (disch:=omega) only [f40_r0,f40_r1,Nat.reduceEqDiff,↓reduceIte,bz]
  generalize h.new (.cells 49 (List.replicate 49 (.b false)))=h1 at *
  have hc1:=gr1.hc hc
  refine (callP_0 (ef:=f38) k.c38 rfl (f38_ret (hv.grow hc gr1) hn hb hc1)).mono ?_
  rintro r h2 ⟨rfl,gr2⟩
  have hR:(relR L).length=49:=rl_len
  have hT:(turnR (relR L)).length=49:=rl_len
  have n3:=nx_new h2 (.cells 49 (List.replicate 49 (.b false)))
  have s3:=rC_stn hR rl_len (M:=rl fun _ _=>false) (h:=h2.new (.cells 49 (List.replicate 49 (.b false)))) (id:=h2.nx) (by rw [rl_false]; exact get_new_same)
  have gr3:Grow h2.nx.nat h2 ((h2.new (.cells 49 (List.replicate 49 (.b false)))).put h2.nx (rC (relR L))):=(Grow.new (Nat.le_refl _) _).trans (Grow.put (Nat.le_refl _) (by omega) _)
  have n3':((h2.new (.cells 49 (List.replicate 49 (.b false)))).put h2.nx (rC (relR L))).nx.nat=h2.nx.nat + 1:=n3
  have e3:((h2.new (.cells 49 (List.replicate 49 (.b false)))).put h2.nx (rC (relR L))).get h2.nx=rC (relR L):=get_put_same
  have l3:=rC_ldn hR e3
  simp (disch:=omega) only [Nat.reduceEqDiff,↓reduceIte,s3,bz]
  generalize (h2.new (.cells 49 (List.replicate 49 (.b false)))).put h2.nx (rC (relR L))=h3 at *
  have gA:Grow h.nx.nat h h3:=gr1.trans ((gr2.low (by omega)).trans (gr3.low (by have:=gr2.nx; omega)))
  have hc3:=gA.hc hc
  have e1':h3.get h.nx=rC (rl fun _ _=>false):=(gr3.old _ (by have:=gr2.nx; omega)).trans ((gr2.old _ (by omega)).trans e1)
  have c1:=rC_cells hR
  have c2:=rC_cells hT
  simp (disch:=omega) only [f40_r2,Option.some.injEq,exists_eq_left',Nat.reduceEqDiff,↓reduceIte,l3,k.n70 _ _ _ hR,fill_c,c1,c2,set98a hR,set98b hR hT,hc3.dead,bz]
  refine ⟨fresh_one (n:=2) (sz:=49) (by simp (disch:=omega) only [getK_set,↓reduceIte]),?_⟩
  have gr4:Grow h3.nx.nat h3 (h3.new (.cells (2 * 49) ((relR L).map V.b ++ (turnR (relR L)).map V.b))):=Grow.new (Nat.le_refl _) _
  have n4:=nx_new h3 (.cells (2 * 49) ((relR L).map V.b ++ (turnR (relR L)).map V.b))
  have hr4:=Rs.two (h:=h3) hR hT
  have l4:=rC_ldn hR ((gr4.old h2.nx (by omega)).trans e3)
  have hc4:=gr4.hc hc3
  have e1'':=(gr4.old h.nx (by have:=gr2.nx; omega)).trans e1'
  simp (disch:=omega) only [true_and,again_ok,l4,beq_rV,and_self]
  generalize h3.new (.cells (2 * 49) ((relR L).map V.b ++ (turnR (relR L)).map V.b))=h4 at *
  have hall:∀ x ∈ [relR L,turnR (relR L)],x.length=49:=fun x hx=>by
    simp only [List.mem_cons,List.not_mem_nil,or_false] at hx
    rcases hx with rfl | rfl
    · exact hR
    · exact hT
  refine (callP_0 (ef:=f69) k.c69 rfl (f69_ret k.c76 k.c90 hr4 hall (by simp) hc4)).mono ?_
  rintro r h5 ⟨rfl,gr5⟩
  have hG:(gR L).length=49:=gR_len
  have s5:=rC_stn hG rl_len (M:=rl fun _ _=>false) ((gr5.old h.nx (by have:=gr2.nx; omega)).trans e1'')
  have hr5:readP (h5.put h.nx (rC (gR L))) (.p h.nx 0) (many? 49)=some (rV (gR L)):=rC_read hG get_put_same
  rw [show jnR [relR L,turnR (relR L)]=gR L from rfl]
  simp (disch:=omega) only [f40_rs,Option.some.injEq,exists_eq_left',Nat.reduceEqDiff,↓reduceIte,s5,hr5,bz]
  have b1:=gA.nx; have b4:=gr4.nx; have b5:=gr5.nx; have b2:=gr2.nx
  exact (gA.trans ((gr4.low b1).trans (gr5.low (by omega)))).trans (Grow.put (k:=h.nx) (Nat.le_refl _) (by omega) _)
def cvB (L M:List Bool):Bool:=decide (jnR [L,M]=L)
theorem cvB_iff {L M:List Bool} (hL:L.length=49):cvB L M=true ↔ ∀ a b,rat M a b=true→rat L a b=true:=by
  unfold cvB
  rw [decide_eq_true_eq]
  have e:∀ a b,rat (jnR [L,M]) a b=(rat L a b || rat M a b):=fun a b=>by
    unfold jnR
    rw [rat_rl]
    cases h:(rat L a b || rat M a b) with
    | false=>simp [h]
    | true =>
      have:a < 7∧b < 7:=by
        rcases Bool.or_eq_true _ _ ▸ h with h | h
        · exact rat_lt h
        · exact rat_lt h
      simp [this.1,this.2,h]
  constructor
  · intro h a b hM
    have:=e a b
    rw [h,hM] at this
    simpa using this
  · intro h
    refine rel_ext rl_len hL fun a b _ _=>?_
    rw [e]
    cases hm:rat M a b with
    | false=>simp
    | true=>rw [h a b hm]; rfl
theorem f67_ret {L M:List Bool} (k:Nat2 fs) (hL:L.length=49) (hM:M.length=49) (hc:HC h):Ret fs f67 [rV L,rV M] h fun r _=>r = .b (cvB L M):=by
  apply ret_of rfl
  show W fs none f67_c _ _ _
  unfold f67_c
  have c1:=rC_cells hL
  have c2:=rC_cells hM
  have n1:=nx_new h (.cells 49 (L.map V.b))
  have gr1:Grow h.nx.nat h (h.new (.cells 49 (L.map V.b))):=Grow.new (Nat.le_refl _) _
  have e1:(h.new (.cells 49 (L.map V.b))).get h.nx=rC L:=get_new_same
  have n2:=nx_new (h.new (.cells 49 (L.map V.b))) (.cells 49 (M.map V.b))
  have gr2:Grow (h.new (.cells 49 (L.map V.b))).nx.nat (h.new (.cells 49 (L.map V.b))) ((h.new (.cells 49 (L.map V.b))).new (.cells 49 (M.map V.b))):=Grow.new (Nat.le_refl _) _
  have e2:((h.new (.cells 49 (L.map V.b))).new (.cells 49 (M.map V.b))).get (h.new (.cells 49 (L.map V.b))).nx=rC M:=get_new_same
  simp (disch:=omega) only [f67_r0,Nat.reduceEqDiff,↓reduceIte,c1,c2,bz]
  generalize h.new (.cells 49 (L.map V.b))=h1 at *
  generalize h1.new (.cells 49 (M.map V.b))=h2 at *
  have hc2:=gr2.hc (gr1.hc hc)
  have e1':=(gr2.old h.nx (by omega)).trans e1
  have l1:=rC_ldn hL e1'
  have l2:=rC_ldn hM e2
  have hr3:=Rs.two (h:=h2) hL hM
  have gr3:Grow h2.nx.nat h2 (h2.new (.cells (2 * 49) (L.map V.b ++ M.map V.b))):=Grow.new (Nat.le_refl _) _
  have l3:=rC_ldn hL ((gr3.old h.nx (by omega)).trans e1')
  have hc3:=gr3.hc hc2
  have n3:=nx_new h2 (.cells (2 * 49) (L.map V.b ++ M.map V.b))
  simp (disch:=omega) only [f67_r1,Option.some.injEq,exists_eq_left',Nat.reduceEqDiff,↓reduceIte,l1,l2,l3,fill_c,c1,c2,set98a hL,set98b hL hM,hc2.dead,bz]
  refine ⟨fresh_one (n:=2) (sz:=49) (by simp (disch:=omega) only [getK_set,Nat.reduceEqDiff,↓reduceIte]),?_⟩
  generalize h2.new (.cells (2 * 49) (L.map V.b ++ M.map V.b))=h3 at *
  have hall:∀ x ∈ [L,M],x.length=49:=fun x hx=>by
    simp only [List.mem_cons,List.not_mem_nil,or_false] at hx
    rcases hx with rfl | rfl
    · exact hL
    · exact hM
  refine (callP_0 (ef:=f69) k.c69 rfl (f69_ret k.c76 k.c90 hr3 hall (by simp) hc3)).mono ?_
  rintro r h5 ⟨rfl,gr5⟩
  have l5:=rC_ldn hL ((gr5.old h.nx (by omega)).trans ((gr3.old h.nx (by omega)).trans e1'))
  have hq:=keyEq_rel2 (L:=jnR [L,M]) (M:=L) rl_len hL
  simp (disch:=omega) only [f67_rs,Option.some.injEq,exists_eq_left',Nat.reduceEqDiff,↓reduceIte,l5,beq_rV,hq,cond_false,bz]
  rfl
def otF (n:Nat) (i:Nat) (a b:Nat):Bool:=decide (a < i∧b < n) && decide (a ≠ b)
def otG (n:Nat) (i k:Nat) (a b:Nat):Bool:=decide ((a < i∧b < n) ∨ (a=i∧b < k)) && decide (a ≠ b)
def otR (n:Nat) (L:List Bool):List Bool:=woR (rl fun a b=>decide (a < n∧b < n) && decide (a ≠ b)) L
theorem otR_len {n:Nat} {L:List Bool}:(otR n L).length=49:=by unfold otR woR; exact rl_len
def f41_I (h0:H) (id2 id4 id5:K) (n:Nat) (i:Nat) (fr:Fr) (h1:H):Prop:=i ≤ n∧Kp id5 h0 h1∧h1.get id5=rC (rl (otF n i))∧fr.get (K.ofNat 1)=some (.i .i64 (n:Int))∧fr.get (K.ofNat 2)=some (.p id2 0)∧fr.get (K.ofNat 4)=some (.p id4 0)∧fr.get (K.ofNat 5)=some (.p id5 0)∧fr.get (K.ofNat 8)=some (.i .i64 (n:Int))∧fr.get (K.ofNat 9)=some (.i .i64 (i:Int))
def f41_J (h0:H) (id2 id4 id5:K) (n:Nat) (i:Nat) (k:Nat) (fr:Fr) (h1:H):Prop:=k ≤ n∧Kp id5 h0 h1∧h1.get id5=rC (rl (otG n i k))∧fr.get (K.ofNat 1)=some (.i .i64 (n:Int))∧fr.get (K.ofNat 2)=some (.p id2 0)∧fr.get (K.ofNat 4)=some (.p id4 0)∧fr.get (K.ofNat 5)=some (.p id5 0)∧fr.get (K.ofNat 6)=some (.i .i64 (i:Int))∧fr.get (K.ofNat 8)=some (.i .i64 (n:Int))∧fr.get (K.ofNat 9)=some (.i .i64 (i:Int))∧fr.get (K.ofNat 12)=some (.i .i64 (n:Int))∧fr.get (K.ofNat 13)=some (.i .i64 (k:Int))
theorem f41_ret {L:List Bool} {n:Nat} (k:Nat2 fs) (hL:L.length=49) (hn:n ≤ 7) (hc:HC h):Ret fs f41 [rV L, .i .i64 (n:Int)] h fun r _=>r=rV (otR n L):=by
  apply ret_of rfl
  show W fs none f41_c _ _ _
  unfold f41_c
  have c1:=rC_cells hL
  have n1:=nx_new h (.cells 49 (L.map V.b))
  have gr1:Grow h.nx.nat h (h.new (.cells 49 (L.map V.b))):=Grow.new (Nat.le_refl _) _
  have e1:(h.new (.cells 49 (L.map V.b))).get h.nx=rC L:=get_new_same
  simp (disch:=omega) only [f41_r0,Nat.reduceEqDiff,↓reduceIte,c1,bz]
  generalize h.new (.cells 49 (L.map V.b))=h1 at *
  have n2:=nx_new h1 (.cells 49 (List.replicate 49 (.b false)))
  have gr2:Grow h1.nx.nat h1 (h1.new (.cells 49 (List.replicate 49 (.b false)))):=Grow.new (Nat.le_refl _) _
  have e2:(h1.new (.cells 49 (List.replicate 49 (.b false)))).get h1.nx=rC (rl fun _ _=>false):=by rw [rl_false]; exact get_new_same
  generalize h1.new (.cells 49 (List.replicate 49 (.b false)))=h2 at *
  have n3:=nx_new h2 (.cells 49 (List.replicate 49 (.b false)))
  have gr3:Grow h2.nx.nat h2 (h2.new (.cells 49 (List.replicate 49 (.b false)))):=Grow.new (Nat.le_refl _) _
  have e3:(h2.new (.cells 49 (List.replicate 49 (.b false)))).get h2.nx=rC (rl fun _ _=>false):=by rw [rl_false]; exact get_new_same
  simp (disch:=omega) only [f41_r1,f41_r2,Nat.reduceEqDiff,↓reduceIte,bz]
  generalize h2.new (.cells 49 (List.replicate 49 (.b false)))=h3 at *
  have hc3:=gr3.hc (gr2.hc (gr1.hc hc))
  have e1':=(gr3.old h.nx (by omega)).trans ((gr2.old h.nx (by omega)).trans e1)
  have e2':=(gr3.old h1.nx (by omega)).trans e2
  have eF0:rl (fun _ _=>false)=rl (otF n 0):=rl_congr fun a b _ _=>by simp [otF]
  refine W_loop (f41_I h3 h.nx h1.nx h2.nx n) (fun i=>n - i) ?_ 0 ⟨by omega,Kp.refl hc3,by rw [← eF0]; exact e3,by simp (disch:=omega) only [getK_set,Nat.reduceEqDiff,↓reduceIte,and_self,Int.natCast_zero]⟩
  rintro i fr h4 ⟨hi,hk,hB,g1,g2,g4,g5,g8,g9⟩
  have hkn:=hk.nx
  unfold f41_l1
  by_cases hlt:i < n
  · have d0:decide ((i:Int) < (n:Int))=true:=decide_eq_true (by omega)
    simp (disch:=omega) only [f41_r3,f41_r4,f41_r5,Nat.reduceEqDiff,↓reduceIte,g1,g8,g9,d0,bz]
    have eG0:rl (otF n i)=rl (otG n i 0):=rl_congr fun a b _ _=>by
      unfold otF otG
      congr 1
      exact decide_eq_decide.2 ⟨.inl,fun h=>h.resolve_right (fun h=>by omega)⟩
    rw [eG0] at hB
    refine W_loop (f41_J h3 h.nx h1.nx h2.nx n i) (fun k=>n - k) ?_ 0 ⟨by omega,hk,hB,by simp (disch:=omega) only [getK_set,Nat.reduceEqDiff,↓reduceIte,g1,g2,g4,g5,g8,g9,and_self,Int.natCast_zero]⟩
    clear hB hk g1 g2 g4 g5 g8 g9 fr hkn
    rintro j fr h5 ⟨hj,hk,hB,g1,g2,g4,g5,g6,g8,g9,g12,g13⟩
    have hkn:=hk.nx
    unfold f41_l0
    by_cases hlt2:j < n
    · have d1:decide ((j:Int) < (n:Int))=true:=decide_eq_true (by omega)
      have hs:=rC_st (v:=decide ((i:Int) ≠ (j:Int))) (a:=i) (b:=j) (by omega) (by omega) hB
      have eS:rl (fun x y=>if x=i∧y=j then decide ((i:Int) ≠ (j:Int)) else otG n i j x y)=rl (otG n i (j + 1)):=rl_congr fun a b _ _=>by
        unfold otG
        by_cases e:a=i∧b=j
        · rw [if_pos e,e.1,e.2,decide_eq_true (show (i < i∧j < n) ∨ (i=i∧j < j + 1) from .inr ⟨rfl,by omega⟩),Bool.true_and]
          exact decide_eq_decide.2 (by omega)
        · rw [if_neg e]
          congr 1
          exact decide_eq_decide.2 ⟨fun h=>h.imp id (fun h=>⟨h.1,by omega⟩),fun h=>h.imp id (fun h=>⟨h.1,by have:b ≠ j:=fun e2=>e ⟨h.1,e2⟩; omega⟩)⟩
      rw [eS] at hs
      simp (disch:=omega) only [f41_r6,f41_r7,f41_r8,f41_r9,Nat.reduceEqDiff,↓reduceIte,g5,g6,g12,g13,d1,hs,bz]
      exact ⟨j + 1,by omega,by omega,hk.put (by omega) _,get_put_same,by simp (disch:=omega) only [getK_set,Nat.reduceEqDiff,↓reduceIte,g1,g2,g4,g5,g6,g8,g9,g12,and_self,Int.natCast_add,Int.natCast_one]⟩
    · have d1:decide ((j:Int) < (n:Int))=false:=decide_eq_false (by omega)
      have ej:j=n:=by omega
      have eE:rl (otG n i j)=rl (otF n (i + 1)):=rl_congr fun a b _ _=>by
        unfold otF otG
        congr 1
        exact decide_eq_decide.2 (by omega)
      rw [eE] at hB
      simp (disch:=omega) only [f41_r6,f41_r10,Nat.reduceEqDiff,↓reduceIte,Bool.false_eq_true,g9,g12,g13,d1,bz]
      exact ⟨i + 1,by omega,by omega,hk,hB,by simp (disch:=omega) only [getK_set,Nat.reduceEqDiff,↓reduceIte,g1,g2,g4,g5,g8,and_self,Int.natCast_add,Int.natCast_one]⟩
  · have d0:decide ((i:Int) < (n:Int))=false:=decide_eq_false (by omega)
    have ei:i=n:=by omega
    subst ei
    have hF:(rl (otF i i)).length=49:=rl_len
    have l3:=rC_ldn hF hB
    have l4:=rC_ldn hL ((hk.old h.nx (by omega) (kNe (by omega))).trans e1')
    have hO:(otR i L).length=49:=otR_len
    have hs5:=rC_stn hO rl_len ((hk.old h1.nx (by omega) (kNe (by omega))).trans e2')
    have hr5:readP (h4.put h1.nx (rC (otR i L))) (.p h1.nx 0) (many? 49)=some (rV (otR i L)):=rC_read hO get_put_same
    have hw:woR (rl (otF i i)) L=otR i L:=rfl
    simp (disch:=omega) only [f41_r3,f41_r11,f41_rs,Option.some.injEq,exists_eq_left',Nat.reduceEqDiff,↓reduceIte,Bool.false_eq_true,g2,g4,g5,g8,g9,d0,l3,l4,k.n71 _ _ _ _ hF hL,hw,hs5,hr5,bz]
end
end Go.Ev
namespace Go.Ev
open Go Go.RowKit
noncomputable def f77_r0:List EOper := [oG 1 (.box 49 (tG 0)),oG 2 (.alloc 2 [(.i .i64 (.ofNat 0)),(.i .i64 (.ofNat 0))]),oG 3 (.alloc 1 [(.b false)])]
noncomputable def f77_r1:List EOper := [oG 5 (.ldn 49 (tG 1)),oG 6 (.call (fG 76) [(tG 5)])]
noncomputable def f77_r2:List EOper := [oG 4 (.alloc 2 [(.i .i64 (.ofNat 0)),(.i .i64 (.ofNat 0))]),⟨none,none, .st 2 (tG 4) (tG 7)⟩]
noncomputable def f77_a0:EC:=(.reg f77_r2)
noncomputable def f77_r3:List EOper := [oG 8 (.ldn 2 (tG 4)),⟨none,none, .st 2 (tG 2) (tG 8)⟩,⟨none,none, .st 1 (tG 3) (.c (.b true))⟩]
noncomputable def f77_b0:EC:=(.block 1 (.seq (.reg f77_r3) .ret))
noncomputable def f77_r4:List EOper := [oG 9 (.build [(.i .i64 (.ofNat 0)),(.i .i64 (.ofNat 0))] []),⟨none,none, .st 2 (tG 2) (tG 9)⟩,⟨none,none, .st 1 (tG 3) (.c (.b false))⟩]
noncomputable def f77_c:EC:=(.seq (.reg f77_r0) (.seq (.seq (.reg f77_r1) (.block 0 (.rangeF (tG 6) [(.ofNat 7)] f77_a0 f77_b0))) (.seq (.reg f77_r4) .ret)))
noncomputable def f77:EF:=⟨10, [.celln (.ofNat 2) 2, .cell (.ofNat 3)],f77_c,none⟩
theorem f77_rs:f77.rs = [.celln (.ofNat 2) 2, .cell (.ofNat 3)]:=of_eq_true (eq_self _)
noncomputable def f68_r0:List EOper := [oG 1 (.box 49 (tG 0)),oG 2 (.alloc 49 (List.replicate 49 (.b false)))]
noncomputable def f68_r1:List EOper := [oG 3 (.alloc 49 (List.replicate 49 (.b false)))]
noncomputable def f68_r2:List EOper := [oG 7 (.ldn 49 (tG 1)),oG 8 (.call (fG 76) [(tG 7)])]
noncomputable def f68_r3:List EOper := [oG 4 (.alloc 2 [(.i .i64 (.ofNat 0)),(.i .i64 (.ofNat 0))]),⟨none,none, .st 2 (tG 4) (tG 9)⟩]
noncomputable def f68_a0:EC:=(.reg f68_r3)
noncomputable def f68_r4:List EOper := [oG 10 (.fadr 1 (tG 4)),oG 11 (.ld (tG 10)),oG 12 (.iadr 7 7 (tG 1) (tG 11)),oG 13 (.ldn 7 (tG 12)),oG 14 (.mv (cG 0))]
noncomputable def f68_r5:List EOper := [oG 15 (.bin .lss (tG 14) (cG 7))]
noncomputable def f68_r6:List EOper := [oG 16 (.mv (tG 14)),oG 17 (.ix 7 1 false (tG 13) (tG 14)),oG 5 (.as (tG 16)),oG 6 (.as (tG 17))]
noncomputable def f68_r7:List Stage := [⟨[oG 18 (.fadr 0 (tG 4)),oG 19 (.ld (tG 18)),oG 20 (.mv (tG 5)),oG 21 (.fadr 0 (tG 4)),oG 22 (.ld (tG 21)),oG 23 (.mv (tG 5)),oG 24 (.iadr 7 7 (tG 3) (tG 22)),oG 25 (.iadr 7 1 (tG 24) (tG 23)),oG 26 (.ld (tG 25)),oG 27 (.mv (tG 26)),gG 28 27 false (.mv (tG 6)),oG 29 (.pick (tG 27) (.c (.b true)) (tG 28)),oG 30 (.iadr 7 7 (tG 3) (tG 19)),oG 31 (.iadr 7 1 (tG 30) (tG 20))], [],(some ⟨none,none, .st 1 (tG 31) (tG 29)⟩), []⟩,⟨[], [],none, []⟩]
noncomputable def f68_r8:List EOper := [oG 32 (.bin .add (tG 14) (cG 1)),oG 14 (.mv (tG 32))]
noncomputable def f68_l0:EC:=(.seq (.reg f68_r5) (.seq (.cond (tG 15) .skip (.exit 2)) (.seq (.block 3 (.seq (.reg f68_r6) (.draw f68_r7))) (.reg f68_r8))))
noncomputable def f68_b0:EC:=(.block 1 (.seq (.reg f68_r4) (.block 2 (.loop f68_l0))))
noncomputable def f68_r9:List EOper := [oG 33 (.ldn 49 (tG 3)),⟨none,none, .st 49 (tG 2) (tG 33)⟩]
noncomputable def f68_c:EC:=(.seq (.reg f68_r0) (.seq (.reg f68_r1) (.seq (.seq (.reg f68_r2) (.block 0 (.rangeF (tG 8) [(.ofNat 9)] f68_a0 f68_b0))) (.seq (.reg f68_r9) .ret))))
noncomputable def f68:EF:=⟨34, [.celln (.ofNat 2) 49],f68_c,none⟩
theorem f68_rs:f68.rs = [.celln (.ofNat 2) 49]:=of_eq_true (eq_self _)
noncomputable def f39_r0:List EOper := [oG 1 (.box 49 (tG 0)),oG 2 (.as (.c (.b false)))]
noncomputable def f39_r1:List Stage := [⟨[oG 3 (.ldn 49 (tG 1)),oG 4 (.ldn 49 (tG 1))], [],(some (oG 5 (.call (fG 68) [(tG 4)]))), []⟩,⟨[], [oG 3 (.ldn 49 (tG 1))],(some (oG 6 (.call (fG 67) [(tG 3),(tG 5)]))), []⟩,⟨[], [],(some (oG 2 (.as (tG 6)))), []⟩,⟨[], [],none, []⟩]
noncomputable def f39_c:EC:=(.seq (.reg f39_r0) (.seq (.draw f39_r1) .ret))
noncomputable def f39:EF:=⟨7, [.tmp (.ofNat 2)],f39_c,none⟩
theorem f39_rs:f39.rs = [.tmp (.ofNat 2)]:=of_eq_true (eq_self _)
section
variable {fs:T EF} {h h':H}
theorem rd1 {id:K} {a:V} (hb:h.get id = .cells 1 [a]):readP h (.p id 0) one? = some a:=by
  have h1:=load_p (v:=a) (off:=0) hb rfl
  unfold loadV okv at h1
  cases e:readP h (.p id 0) one? with
  | none=>rw [e] at h1; cases h1
  | some v=>rw [e] at h1; have h1:RV.ok v h=RV.ok _ h:=h1; injection h1 with h1; rw [h1]
def frO (L:List Bool):Option (Nat × Nat):=(arw (rat L)).head?
noncomputable def frV (L:List Bool):V:=match frO L with
  | some x => .tup [aV x, .b true]
  | none => .tup [aV (0,0), .b false]
theorem f77_ret {L:List Bool} (k:Nat2 fs) (hL:L.length=49) (hc:HC h):Ret fs f77 [rV L] h fun r _=>r=frV L:=by
  apply ret_of rfl
  show W fs none f77_c _ _ _
  unfold f77_c
  have c1:=rC_cells hL
  have n1:=nx_new h (.cells 49 (L.map V.b))
  have gr1:Grow h.nx.nat h (h.new (.cells 49 (L.map V.b))):=Grow.new (Nat.le_refl _) _
  have e1:(h.new (.cells 49 (L.map V.b))).get h.nx=rC L:=get_new_same
  simp (disch:=omega) only [f77_r0,↓reduceIte,c1,bz]
  generalize h.new (.cells 49 (L.map V.b))=h1 at *
  have n2:=nx_new h1 (.cells 2 [.i .i64 0, .i .i64 0])
  have gr2:Grow h1.nx.nat h1 (h1.new (.cells 2 [.i .i64 0, .i .i64 0])):=Grow.new (Nat.le_refl _) _
  have e2:(h1.new (.cells 2 [.i .i64 0, .i .i64 0])).get h1.nx = .cells 2 [.i .i64 0, .i .i64 0]:=get_new_same
  generalize h1.new (.cells 2 [.i .i64 0, .i .i64 0])=h2 at *
  have n3:=nx_new h2 (.cells 1 [.b false])
  have gr3:Grow h2.nx.nat h2 (h2.new (.cells 1 [.b false])):=Grow.new (Nat.le_refl _) _
  have e3:(h2.new (.cells 1 [.b false])).get h2.nx = .cells 1 [.b false]:=get_new_same
  generalize h2.new (.cells 1 [.b false])=h3 at *
  have hc3:=gr3.hc (gr2.hc (gr1.hc hc))
  have l3:=rC_ldn hL ((gr3.old h.nx (by omega)).trans ((gr2.old h.nx (by omega)).trans e1))
  have e2':=(gr3.old h1.nx (by omega)).trans e2
  simp (disch:=omega) only [f77_r1,Nat.reduceEqDiff,↓reduceIte,l3,bz]
  refine (callP_0 (ef:=f76) k.c76 rfl (f76_ret hL)).mono ?_
  rintro r h4 ⟨rfl,rfl⟩
  have n4:=nx_new h3 (rC L)
  have gr4:Grow h3.nx.nat h3 (h3.new (rC L)):=Grow.new (Nat.le_refl _) _
  have e4:(h3.new (rC L)).get h3.nx=rC L:=get_new_same
  have hc4:=gr4.hc hc3
  have e2'':=(gr4.old h1.nx (by omega)).trans e2'
  have e3':=(gr4.old h2.nx (by omega)).trans e3
  simp (disch:=omega) only [bz]
  generalize h3.new (rC L)=h4 at *
  generalize hfr:T.set (K.ofNat 6) _ _=fr
  have g2:fr.get (K.ofNat 2)=some (.p h1.nx 0):=by rw [← hfr]; simp only [getK_set,Nat.reduceEqDiff,↓reduceIte]
  have g3:fr.get (K.ofNat 3)=some (.p h2.nx 0):=by rw [← hfr]; simp only [getK_set,Nat.reduceEqDiff,↓reduceIte]
  have g6:fr.get (K.ofNat 6)=some (.fn (K.ofNat 90) [.p h3.nx 0]):=by rw [← hfr]; simp only [getK_set,↓reduceIte]
  clear hfr
  have ne12:h1.nx ≠ h2.nx:=kNe (by omega)
  refine W_itr (by simp (disch:=omega) only [ev_t,getV_some,g6]) (all_yieldsR hL k.c90) (fun id=>id=h1.nx ∨ id=h2.nx) (fun i h5=>i=0∧h5.get h1.nx = .cells 2 [.i .i64 0, .i .i64 0]∧h5.get h2.nx = .cells 1 [.b false]) (fun e h5=>e = .ret ∧ ∃ x,frO L=some x∧h5.get h1.nx = .cells 2 [.i .i64 (x.1:Int), .i .i64 (x.2:Int)]∧h5.get h2.nx = .cells 1 [.b true]) hc4 rfl (by rintro id (rfl | rfl) <;> omega)
    (fun h5 ks=>(ks.old _ (by omega) (by rintro (e | e) <;> (have:=congrArg K.nat e; omega))).trans e4) ?_ ?_ ?_ ?_ ?_ ?_
  · rintro i h5 h6 ⟨he,q2,q3⟩ _ hn ho
    exact ⟨he,by rw [ho _ (by omega) (kNe (by omega))]; exact q2,by rw [ho _ (by omega) (kNe (by omega))]; exact q3⟩
  · rintro e h5 h6 ⟨he,x,q1,q2,q3⟩ _ hn ho
    exact ⟨he,x,q1,by rw [ho _ (by omega) (kNe (by omega))]; exact q2,by rw [ho _ (by omega) (kNe (by omega))]; exact q3⟩
  · exact fun h5 hg=>⟨rfl,(hg.old _ (by omega)).trans e2'',(hg.old _ (by omega)).trans e3'⟩
  · rintro i ⟨x,y⟩ h5 hx hk hn ⟨rfl,q2,q3⟩
    obtain ⟨hst,gB,c7,n5⟩:=arr_var (h:=h5) (x:=x) (y:=y)
    have b2:=(gB.old h1.nx (by omega)).trans q2
    have b3:=(gB.old h2.nx (by omega)).trans q3
    unfold f77_a0
    simp (disch:=omega) only [f77_r2,Nat.reduceEqDiff,↓reduceIte,hst,itA_n,bz]
    generalize (h5.new (.cells 2 [.i .i64 0, .i .i64 0])).put h5.nx (.cells 2 [.i .i64 (x:Int), .i .i64 (y:Int)])=h6 at *
    refine ⟨gB,fun h7 n7 hc7 o7 _=>?_⟩
    have n7':h7.nx.nat=h6.nx.nat:=congrArg K.nat n7
    have l1:=ldn2 ((o7 _ (kNe hn).symm).trans c7)
    have b2':=(o7 h1.nx (kNe (by omega))).trans b2
    have b3':=(o7 h2.nx (kNe (by omega))).trans b3
    have s1:=st2 (c := .i .i64 (x:Int)) (d := .i .i64 (y:Int)) b2'
    have s2:storeV (h7.put h1.nx (.cells 2 [.i .i64 (x:Int), .i .i64 (y:Int)])) 1 (.p h2.nx 0) (.b true) = .ok undefV ((h7.put h1.nx (.cells 2 [.i .i64 (x:Int), .i .i64 (y:Int)])).put h2.nx (.cells 1 [.b true])):=st1 (a := .b false) (by rw [get_put_other ne12.symm]; exact b3') rfl
    have hf:frO L=some (x,y):=by
      unfold frO
      rw [List.head?_eq_getElem?]; exact hx
    unfold f77_b0
    simp (disch:=omega) only [f77_r3,Nat.reduceEqDiff,↓reduceIte,g2,g3,l1,s1,s2,itC_r,bz]
    refine ⟨⟨(x,y),hf,by rw [get_put_other ne12]; exact get_put_same,get_put_same⟩,?_⟩
    have hk7:Kr (fun id=>id=h1.nx ∨ id=h2.nx) h4.nx h7 h7:=Kr.refl hc7
    exact (hk7.put (by omega) (.inl (.inl rfl)) _).put (by rw [nx_put]; omega) (.inl (.inr rfl)) _
  · rintro h5 ⟨h0,q2,q3⟩ hk hn
    have hf:frO L=none:=by
      unfold frO
      rw [List.length_eq_zero_iff.1 h0]; rfl
    have s1:=st2 (c := .i .i64 0) (d := .i .i64 0) q2
    have s2:storeV (h5.put h1.nx (.cells 2 [.i .i64 0, .i .i64 0])) 1 (.p h2.nx 0) (.b false) = .ok undefV ((h5.put h1.nx (.cells 2 [.i .i64 0, .i .i64 0])).put h2.nx (.cells 1 [.b false])):=st1 (a := .b false) (by rw [get_put_other ne12.symm]; exact q3) rfl
    have r1:readP ((h5.put h1.nx (.cells 2 [.i .i64 0, .i .i64 0])).put h2.nx (.cells 1 [.b false])) (.p h1.nx 0) (many? 2)=some (aV (0,0)):=rd2 (by rw [get_put_other ne12]; exact get_put_same)
    have r2:readP ((h5.put h1.nx (.cells 2 [.i .i64 0, .i .i64 0])).put h2.nx (.cells 1 [.b false])) (.p h2.nx 0) one? = some (.b false):=rd1 get_put_same
    simp (disch:=omega) only [f77_r4,f77_rs,readRs_c,Option.some.injEq,exists_eq_left',Nat.reduceEqDiff,↓reduceIte,g2,g3,s1,s2,r1,r2,bz]
    unfold frV; rw [hf]
  · rintro e h5 _ ⟨rfl,⟨x,y⟩,hf,q2,q3⟩ hk hn
    have r1:readP h5 (.p h1.nx 0) (many? 2)=some (aV (x,y)):=rd2 q2
    have r2:readP h5 (.p h2.nx 0) one? = some (.b true):=rd1 q3
    simp (disch:=omega) only [f77_rs,readRs_c,Option.some.injEq,exists_eq_left',g2,g3,r1,r2,bz]
    unfold frV; rw [hf]
def spB (L:List Bool) (i:Nat) (a c:Nat):Bool:=((arw (rat L)).take i).any fun x=>decide (x.1=a) && rat L x.2 c
def spG (L:List Bool) (i x y t:Nat) (a c:Nat):Bool:=spB L i a c || (decide (a=x∧c < t) && rat L y c)
def spR (L:List Bool):List Bool:=rl (spB L (arw (rat L)).length)
theorem spB_succ {L:List Bool} {i x y:Nat} (hx:(arw (rat L))[i]? = some (x,y)):rl (spG L i x y 7)=rl (spB L (i + 1)):=by
  refine rl_congr fun a c _ hc=>?_
  unfold spG spB
  rw [List.take_add_one,hx]
  simp only [Option.toList_some,List.any_append,List.any_cons,List.any_nil,Bool.or_false]
  congr 2
  exact decide_eq_decide.2 ⟨fun h=>h.1.symm,fun h=>⟨h.symm,hc⟩⟩
theorem spR_iff {L:List Bool} {a c:Nat}:rat (spR L) a c=true ↔ ∃ b,rat L a b=true∧rat L b c=true:=by
  unfold spR spB
  rw [rat_rl,List.take_length]
  simp only [Bool.and_eq_true,decide_eq_true_eq,List.any_eq_true]
  constructor
  · rintro ⟨_,⟨x,y⟩,h1,rfl,h2⟩
    exact ⟨y,(mem_arw.1 h1).2.2,h2⟩
  · rintro ⟨b,h1,h2⟩
    have l1:=rat_lt h1; have l2:=rat_lt h2
    exact ⟨⟨l1.1,l2.2⟩,(a,b),mem_arw.2 ⟨l1.1,l1.2,h1⟩,rfl,h2⟩
def f68_J (h0:H) (idr id2 id3 id4 _lp:K) (L:List Bool) (i x y:Nat) (t:Nat) (fr:Fr) (h1:H):Prop:=t ≤ 7∧Kp id3 h0 h1∧h1.get id3=rC (rl (spG L i x y t))∧fr.get (K.ofNat 1)=some (.p idr 0)∧fr.get (K.ofNat 2)=some (.p id2 0)∧fr.get (K.ofNat 3)=some (.p id3 0)∧fr.get (K.ofNat 4)=some (.p id4 0)∧fr.get (K.ofNat 13)=some (.agg ((List.range 7).map fun b => .b (rat L y b)))∧fr.get (K.ofNat 14)=some (.i .i64 (t:Int))
theorem ld_row {L:List Bool} {id:K} {a:Nat} (ha:a < 7) (hL:L.length=49) (hg:h.get id=rC L):loadV h (.p id (0 + a * 7)) (many? 7) = .ok (.agg ((List.range 7).map fun b => .b (rat L a b))) h:=by
  rw [loadn_p hg (by omega)]
  have:=ix_row (h:=h) ha hL
  have e:ixV 7 7 true (rV L) (.i .i64 (a:Int)) h = .ok (.agg (takeN 7 (dropN (a * 7) (L.map V.b)))) h:=by
    show idxV (.i .i64 (a:Int)) 7 (fun n=>bif true then .ok (.agg (takeN 7 (dropN (n * 7) (L.map V.b)))) h else okv (nth (L.map V.b) (n * 7)) h)=_
    rw [idx_n ha]; rfl
  rw [e] at this
  rw [Nat.zero_add]; exact this
theorem f68_ret {L:List Bool} (k:Nat2 fs) (hL:L.length=49) (hc:HC h):Ret fs f68 [rV L] h fun r _=>r=rV (spR L):=by
  apply ret_of rfl
  show W fs none f68_c _ _ _
  unfold f68_c
  have c1:=rC_cells hL
  have n1:=nx_new h (.cells 49 (L.map V.b))
  have gr1:Grow h.nx.nat h (h.new (.cells 49 (L.map V.b))):=Grow.new (Nat.le_refl _) _
  have e1:(h.new (.cells 49 (L.map V.b))).get h.nx=rC L:=get_new_same
  simp (disch:=omega) only [f68_r0,↓reduceIte,c1,bz]
  generalize h.new (.cells 49 (L.map V.b))=h1 at *
  have n2:=nx_new h1 (.cells 49 (List.replicate 49 (.b false)))
  have gr2:Grow h1.nx.nat h1 (h1.new (.cells 49 (List.replicate 49 (.b false)))):=Grow.new (Nat.le_refl _) _
  have e2:(h1.new (.cells 49 (List.replicate 49 (.b false)))).get h1.nx=rC (rl fun _ _=>false):=by rw [rl_false]; exact get_new_same
  generalize h1.new (.cells 49 (List.replicate 49 (.b false)))=h2 at *
  have n3:=nx_new h2 (.cells 49 (List.replicate 49 (.b false)))
  have gr3:Grow h2.nx.nat h2 (h2.new (.cells 49 (List.replicate 49 (.b false)))):=Grow.new (Nat.le_refl _) _
  have e3:(h2.new (.cells 49 (List.replicate 49 (.b false)))).get h2.nx=rC (rl fun _ _=>false):=by rw [rl_false]; exact get_new_same
  simp (disch:=omega) only [f68_r1,bz]
  generalize h2.new (.cells 49 (List.replicate 49 (.b false)))=h3 at *
  have hc3:=gr3.hc (gr2.hc (gr1.hc hc))
  have e1':=(gr3.old h.nx (by omega)).trans ((gr2.old h.nx (by omega)).trans e1)
  have l3:=rC_ldn hL e1'
  simp (disch:=omega) only [f68_r2,Nat.reduceEqDiff,↓reduceIte,l3,bz]
  refine (callP_0 (ef:=f76) k.c76 rfl (f76_ret hL)).mono ?_
  rintro r h4 ⟨rfl,rfl⟩
  have n4:=nx_new h3 (rC L)
  have gr4:Grow h3.nx.nat h3 (h3.new (rC L)):=Grow.new (Nat.le_refl _) _
  have e4:(h3.new (rC L)).get h3.nx=rC L:=get_new_same
  have hc4:=gr4.hc hc3
  have e1'':=(gr4.old h.nx (by omega)).trans e1'
  have e2':=(gr4.old h1.nx (by omega)).trans ((gr3.old h1.nx (by omega)).trans e2)
  have e3':=(gr4.old h2.nx (by omega)).trans e3
  simp (disch:=omega) only [bz]
  generalize h3.new (rC L)=h4 at *
  generalize hfr:T.set (K.ofNat 8) _ _=fr
  have g1:fr.get (K.ofNat 1)=some (.p h.nx 0):=by rw [← hfr]; simp only [getK_set,Nat.reduceEqDiff,↓reduceIte]
  have g2:fr.get (K.ofNat 2)=some (.p h1.nx 0):=by rw [← hfr]; simp only [getK_set,Nat.reduceEqDiff,↓reduceIte]
  have g3:fr.get (K.ofNat 3)=some (.p h2.nx 0):=by rw [← hfr]; simp only [getK_set,Nat.reduceEqDiff,↓reduceIte]
  have g8:fr.get (K.ofNat 8)=some (.fn (K.ofNat 90) [.p h3.nx 0]):=by rw [← hfr]; simp only [getK_set,↓reduceIte]
  clear hfr
  refine W_arr (idB:=h2.nx) (by simp (disch:=omega) only [ev_t,getV_some,g8]) hL k.c90 hc4 e4 (kNe (by omega)).symm (fun i=>rC (rl (spB L i))) (by rw [e3']; rfl) (by omega) rfl ?_ ?_
  · rintro i ⟨x,y⟩ h5 hx hx1 hx2 hk hn hB
    obtain ⟨hst,gB,c7,n5⟩:=arr_var (h:=h5) (x:=x) (y:=y)
    have b6:=(gB.old _ (by omega)).trans hB
    have r6:=(gB.old h.nx (by omega)).trans ((hk.old h.nx (by omega) (kNe (by omega))).trans e1'')
    unfold f68_a0
    simp (disch:=omega) only [f68_r3,Nat.reduceEqDiff,↓reduceIte,hst,arrA_n,bz]
    generalize (h5.new (.cells 2 [.i .i64 0, .i .i64 0])).put h5.nx (.cells 2 [.i .i64 (x:Int), .i .i64 (y:Int)])=h6 at *
    refine ⟨gB,fun h7 n7 hc7 o7=>?_⟩
    have n7':h7.nx.nat=h6.nx.nat:=congrArg K.nat n7
    have c8:=(o7 _ (kNe hn).symm).trans c7
    have l1:=ld21 c8
    have b7:=(o7 h2.nx (kNe (by omega))).trans b6
    have lr:=ld_row hx2 hL ((o7 h.nx (kNe (by omega))).trans r6)
    have hx2':y < 7:=hx2
    unfold f68_b0
    simp (disch:=omega) only [f68_r4,Nat.reduceEqDiff,↓reduceIte,g1,l1,lr,bz]
    have eG0:rl (spB L i)=rl (spG L i x y 0):=rl_congr fun a c _ _=>by unfold spG; simp
    rw [eG0] at b7
    refine W_loop (f68_J h7 h.nx h1.nx h2.nx h5.nx h4.nx L i x y) (fun t=>7 - t) ?_ 0 ⟨by omega,Kp.refl hc7,b7,by simp (disch:=omega) only [getK_set,Nat.reduceEqDiff,↓reduceIte,g1,g2,g3,and_self,Int.natCast_zero]⟩
    clear g1 g2 g3 g8 fr
    rintro t fr h8 ⟨ht,hk8,b8,g1,g2,g3,g4,g13,g14⟩
    have hkn:=hk8.nx
    unfold f68_l0
    by_cases hlt:t < 7
    · have d0:decide ((t:Int) < 7)=true:=decide_eq_true (by omega)
      have hxc:=fun h=>ix_cell (h:=h) (f:=rat L y) hlt
      have c9:=(hk8.old h5.nx (by omega) (kNe (by omega)).symm).trans c8
      have l0:=ld20 c9
      have lc:=rC_ld hx1 hlt rl_len b8
      have eS:rl (fun p q=>if p=x∧q=t then (rat (rl (spG L i x y t)) x t || rat L y t) else spG L i x y t p q)=rl (spG L i x y (t + 1)):=rl_congr fun a c ha hc=>by
        by_cases e:a=x∧c=t
        · rw [if_pos e,e.1,e.2,rat_rl,decide_eq_true hx1,decide_eq_true hlt]
          unfold spG
          rw [decide_eq_false (show ¬ (x=x∧t < t) by omega),decide_eq_true (show x=x∧t < t + 1 by omega)]
          simp
        · rw [if_neg e]
          unfold spG
          rw [show decide (a=x∧c < t)=decide (a=x∧c < t + 1) from decide_eq_decide.2 ⟨fun h=>⟨h.1,by omega⟩,fun h=>⟨h.1,by have:c ≠ t:=fun e2=>e ⟨h.1,e2⟩; omega⟩⟩]
      have hs:=fun v=>rC_st (v:=v) hx1 hlt b8
      simp (disch:=omega) only [f68_r5,f68_r6,x_ix,Nat.reduceEqDiff,↓reduceIte,g13,g14,d0,hxc,bz]
      cases hq:rat (rl (spG L i x y t)) x t with
      | true =>
        rw [hq,Bool.true_or] at eS
        rw [hq] at lc
        simp (disch:=omega) only [f68_r7,f68_r8,Nat.reduceEqDiff,↓reduceIte,Bool.false_eq_true,Bool.not_true,g3,g4,g14,l0,lc,hs,bz]
        exact ⟨t + 1,by omega,by omega,hk8.put (by omega) _,by rw [get_put_same,eS],by simp (disch:=omega) only [getK_set,Nat.reduceEqDiff,↓reduceIte,g1,g2,g3,g4,g13,and_self,Int.natCast_add,Int.natCast_one]⟩
      | false =>
        rw [hq,Bool.false_or] at eS
        rw [hq] at lc
        simp (disch:=omega) only [f68_r7,f68_r8,Nat.reduceEqDiff,↓reduceIte,Bool.false_eq_true,Bool.not_false,g3,g4,g14,l0,lc,hs,bz]
        exact ⟨t + 1,by omega,by omega,hk8.put (by omega) _,by rw [get_put_same,eS],by simp (disch:=omega) only [getK_set,Nat.reduceEqDiff,↓reduceIte,g1,g2,g3,g4,g13,and_self,Int.natCast_add,Int.natCast_one]⟩
    · have d0:decide ((t:Int) < 7)=false:=decide_eq_false (by omega)
      have et:t=7:=by omega
      subst et
      rw [spB_succ hx] at b8
      simp (disch:=omega) only [f68_r5,↓reduceIte,Bool.false_eq_true,g14,d0,arrC_n,bz]
      exact ⟨b8,hk8⟩
  · intro h5 hB hk
    have hR:(spR L).length=49:=rl_len
    have l5:=rC_ldn (L:=spR L) hR hB
    have hs5:=rC_stn (L:=spR L) hR rl_len ((hk.old h1.nx (by omega) (kNe (by omega))).trans e2')
    have hr5:readP (h5.put h1.nx (rC (spR L))) (.p h1.nx 0) (many? 49)=some (rV (spR L)):=rC_read hR get_put_same
    simp (disch:=omega) only [f68_r9,f68_rs,Option.some.injEq,exists_eq_left',Nat.reduceEqDiff,↓reduceIte,g2,g3,l5,hs5,hr5,bz]
structure Nat3 (fs:T EF):Prop extends Nat2 fs where
  n77:∀ L h P,L.length=49→CallP fs (.fn (K.ofNat 77) []) [rV L] h P=P (frV L) h
  n68:∀ L h P,L.length=49→CallP fs (.fn (K.ofNat 68) []) [rV L] h P=P (rV (spR L)) h
  n67:∀ L M h P,L.length=49→M.length=49→CallP fs (.fn (K.ofNat 67) []) [rV L,rV M] h P=P (.b (cvB L M)) h
  n41:∀ L (n:Nat) h P,L.length=49→n ≤ 7→CallP fs (.fn (K.ofNat 41) []) [rV L, .i .i64 (n:Int)] h P=P (rV (otR n L)) h
def trB (L:List Bool):Bool:=cvB L (spR L)
theorem f39_ret {L:List Bool} (k:Nat3 fs) (hL:L.length=49):Ret fs f39 [rV L] h fun r _=>r = .b (trB L):=by
  apply ret_of rfl
  show W fs none f39_c _ _ _
  unfold f39_c
  have c1:=rC_cells hL
  have e1:(h.new (.cells 49 (L.map V.b))).get h.nx=rC L:=get_new_same
  have l1:=rC_ldn hL e1
  have hS:(spR L).length=49:=rl_len
  simp (disch:=omega) only [f39_r0,f39_r1,f39_rs,Option.some.injEq,exists_eq_left',Nat.reduceEqDiff,↓reduceIte,c1,l1,k.n68 _ _ _ hL,k.n67 _ _ _ _ hL hS,beq_rV,bz]
  rfl
end
end Go.Ev
