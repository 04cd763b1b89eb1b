/-
  The evaluator, part H: slices that are made, cut and appended to; maps., and what follows.
-/
import Derived.Test.YtdmnejhjlmeodaaGreatPa
namespace Go.Ev
open Go Go.RowKit
section ops
variable {Y:Rig} {nt:Nat} {ι:Io} {fr:Fr} {a:Act} {h h':H} {w:World} {v:V} {d:Option Tmp} {ty:TypeId} {pos:String} {aft:Array Edge} {g:Option (Nat × Bool)}

theorem op_mkslice (ha : AR nt ι fr a) (hr : WR Y.tab ι h w) {t e : TypeId} {dt de : TD} {z : List V} {x y : Operand} {x' : EO} (ht : Y.tab t = some dt) (hd : dt.desc = .slice e) (hde : Y.tab e = some de) (hz : zeroOf de = some z) (hp : 0 < de.size) (hl : z.length = de.size) (hb : de.bytes ≤ 1000000)
    (hxy:sameOp x y=true) (hx:eo x=some x') (he:mksV de.size z h (ev fr x') = .ok v h'):OpOk Y h ι a w ⟨d, .makeSlice t x y,ty,pos,aft,g⟩ v h':=by
  obtain ⟨k,m,hm,he1⟩:=V.onI_ok he
  obtain ⟨n,hn,he2⟩:=oGet_ok he1
  obtain ⟨hc,he3⟩:=cond_ok RV.no_ne he2
  have hc:=Nat.le_of_ble_eq_true hc
  have hmn:=nonneg_some hn
  subst hmn
  cases he3
  have hv:=ha.ev hx
  rw [hm] at hv
  have hev:=hv.of_i
  have hevy:a.eval y = .int k (n:Int):=by
    rw [← hev]
    cases x <;> cases y <;> simp only [sameOp] at hxy <;> try cases hxy
    · have : ‹Tmp› = ‹Tmp›:=rfl
      rename_i t1 t2
      have e:t1=t2:=by simpa using hxy
      rw [e]
    · rename_i v1 v2
      cases v1 <;> cases v2 <;> simp only [] at hxy <;> try cases hxy
      simp only [Bool.and_eq_true,beq_iff_eq] at hxy
      rw [hxy.1,hxy.2]
  obtain ⟨h1,h2⟩:=zeros_rel (ι := ι) hz hl hp n
  have hlen:(rep z n).length=n * de.size:=by rw [rep_length,hl]
  obtain ⟨hs,hw⟩:=cells_new (t:=e) hr hlen h1 h2
  obtain ⟨i,hi,hi1,hi2,hi3⟩:=Rig.info hde
  refine ⟨.slice (some ⟨w.heap.size,0,none⟩) n n,_,_, .inl ?_,hs,?_,hw⟩
  · have hw1:IntKind.i64.wrap (n:Int)=n:=wrap_in .i64 _ (by simp only [kmin]; omega) (by simp only [kmax]; omega)
    have hby:de.bytes * n ≤ 1000000000000:=Nat.le_trans (Nat.mul_le_mul hb hc) (by decide)
    have hbi:((de.bytes:Int) * (n:Int)) ≤ 1000000000000:=by rw [← Int.natCast_mul]; omega
    have c1:¬ ((281474976710656:Int) < (de.bytes:Int) * (n:Int)):=by omega
    have c2:¬ ((n:Int) < 0):=by omega
    have c3:¬ (roomBytes < n * de.bytes):=by rw [Nat.mul_comm]; have:roomBytes=140737488355328:=rfl; omega
    have hti:(typeInfo e).run Y.P w = .ok i w:=by simp [typeInfo,hi]
    simp only [execOp,Instr.makeSlice,hev,hevy,Sem.run_bind,Rig.und ht,hd,Result.andThen_ok,asInt,asIntOf,Sem.run_pure,hti,hi2,hw1]
    rw [if_neg (show ¬ ((decide ((n:Int) < 0) || decide ((de.bytes:Int) * (n:Int) > 2 ^ 48) || decide ((n:Int) < 0) || decide ((n:Int) > (n:Int)))=true) by simp only [Bool.or_eq_true,decide_eq_true_eq]; omega)]
    simp only [Int.toNat_natCast,askRoom,if_neg c3,Sem.run_pure,Result.andThen_ok,Sem.run_bind,Rig.size hde]
    by_cases h0:n * de.size=0
    · have hn0:n=0:=by rcases Nat.mul_eq_zero.1 h0 with h | h <;> omega
      subst hn0
      simp [newRow,show Array.range 0 = #[] from rfl]
    · simp [h0,Rig.zero hde,newRow]
  · have:=VR.sl (off:=0) (n:=n) (sz:=de.size) (c:=n) (updI_same ι h.nx ⟨w.heap.size,0,((Array.range (n * de.size)).map fun i=>de.zero.cells[i % de.zero.cells.size]!).size,none⟩) (by simp) (Nat.le_refl _) hp
    simpa using this

theorem op_mkslC (ha : AR nt ι fr a) (hr : WR Y.tab ι h w) {t e : TypeId} {dt de : TD} {z : List V} {x y : Operand} {x' y' : EO} (ht : Y.tab t = some dt) (hd : dt.desc = .slice e) (hde : Y.tab e = some de) (hz : zeroOf de = some z) (hp : 0 < de.size) (hl : z.length = de.size) (hb : de.bytes ≤ 1000000)
    (hx:eo x=some x') (hy:eo y=some y') (he:mksCV de.size z h (ev fr x') (ev fr y') = .ok v h'):OpOk Y h ι a w ⟨d, .makeSlice t x y,ty,pos,aft,g⟩ v h':=by
  obtain ⟨k,m0,hm,he⟩:=V.onI_ok he
  obtain ⟨m,hn,he⟩:=oGet_ok he
  obtain ⟨k2,n0,hm2,he⟩:=V.onI_ok he
  obtain ⟨n,hn2,he⟩:=oGet_ok he
  obtain ⟨hc,he3⟩:=cond_ok RV.no_ne he
  simp only [Bool.and_eq_true] at hc
  have hmn:=Nat.le_of_ble_eq_true hc.1
  have hc:=Nat.le_of_ble_eq_true hc.2
  have e1:=nonneg_some hn
  have e2:=nonneg_some hn2
  subst e1
  subst e2
  cases he3
  have hv:=ha.ev hx
  rw [hm] at hv
  have hev:=hv.of_i
  have hv2:=ha.ev hy
  rw [hm2] at hv2
  have hevy:=hv2.of_i
  obtain ⟨h1,h2⟩:=zeros_rel (ι := ι) hz hl hp n
  have hlen:(rep z n).length=n * de.size:=by rw [rep_length,hl]
  obtain ⟨hs,hw⟩:=cells_new (t:=e) hr hlen h1 h2
  obtain ⟨i,hi,hi1,hi2,hi3⟩:=Rig.info hde
  refine ⟨.slice (some ⟨w.heap.size,0,none⟩) m n,_,_, .inl ?_,hs,?_,hw⟩
  · have hw0:IntKind.i64.wrap (m:Int)=m:=wrap_in .i64 _ (by simp only [kmin]; omega) (by simp only [kmax]; omega)
    have hw1:IntKind.i64.wrap (n:Int)=n:=wrap_in .i64 _ (by simp only [kmin]; omega) (by simp only [kmax]; omega)
    have hby:de.bytes * n ≤ 1000000000000:=Nat.le_trans (Nat.mul_le_mul hb hc) (by decide)
    have hbi:((de.bytes:Int) * (n:Int)) ≤ 1000000000000:=by rw [← Int.natCast_mul]; omega
    have c1:¬ ((281474976710656:Int) < (de.bytes:Int) * (n:Int)):=by omega
    have c3:¬ (roomBytes < n * de.bytes):=by rw [Nat.mul_comm]; have:roomBytes=140737488355328:=rfl; omega
    have hti:(typeInfo e).run Y.P w = .ok i w:=by simp [typeInfo,hi]
    simp only [execOp,Instr.makeSlice,hev,hevy,Sem.run_bind,Rig.und ht,hd,Result.andThen_ok,asInt,asIntOf,Sem.run_pure,hti,hi2,hw1,hw0]
    rw [if_neg (show ¬ ((decide ((n:Int) < 0) || decide ((de.bytes:Int) * (n:Int) > 2 ^ 48) || decide ((m:Int) < 0) || decide ((m:Int) > (n:Int)))=true) by simp only [Bool.or_eq_true,decide_eq_true_eq]; omega)]
    simp only [Int.toNat_natCast,askRoom,if_neg c3,Sem.run_pure,Result.andThen_ok,Sem.run_bind,Rig.size hde]
    by_cases h0:n * de.size=0
    · have hn0:n=0:=by rcases Nat.mul_eq_zero.1 h0 with h | h <;> omega
      subst hn0
      simp [newRow,show Array.range 0 = #[] from rfl]
    · simp [h0,Rig.zero hde,newRow]
  · have:=VR.sl (off:=0) (n:=m) (sz:=de.size) (c:=n) (updI_same ι h.nx ⟨w.heap.size,0,((Array.range (n * de.size)).map fun i=>de.zero.cells[i % de.zero.cells.size]!).size,none⟩) (by simp) hmn hp
    simpa using this

theorem bound_rel (ha:AR nt ι fr a) {o:Option Operand} {o':Option EO} {dflt l:Nat} (ho:optEo o=some o') (hb:bound fr o' dflt=some l):(o=none∧o'=none∧l=dflt) ∨ ∃ x x' k,o=some x∧o'=some x'∧a.eval x = .int k (l:Int):=by
  cases o with
  | none=>cases ho; cases hb; exact .inl ⟨rfl,rfl,rfl⟩
  | some x =>
    unfold optEo at ho
    cases hx:eo x with
    | none=>simp [hx] at ho
    | some x' =>
      simp [hx] at ho
      subst ho
      obtain ⟨k,m,hm,he⟩:=V.onIo_ok (show (ev fr x').onI none (fun _ n=>nonneg n)=some l from hb)
      have:=nonneg_some he
      subst this
      have hv:=ha.ev hx
      rw [hm] at hv
      exact .inr ⟨x,x',k,rfl,rfl,hv.of_i⟩

theorem sb_run {lo hi mx : Option Operand} {n c l u m : Nat} {k1 k2 k3 : IntKind} (hl : (lo = none ∧ l = 0) ∨ ∃ x, lo = some x ∧ a.eval x = .int k1 (l : Int)) (hu : (hi = none ∧ u = n ∧ mx = none) ∨ ∃ x, hi = some x ∧ a.eval x = .int k2 (u : Int)) (hm : (mx = none ∧ m = c) ∨ ∃ x, mx = some x ∧ a.eval x = .int k3 (m : Int))
    (h1:l ≤ u) (h2:u ≤ m) (h3:m ≤ c):(Instr.sliceBounds true n c (lo.map a.eval) (hi.map a.eval) (mx.map a.eval)).run Y.P w = .ok (l,u,m) w:=by
  have i1:(l:Int) ≤ (u:Int):=by omega
  have i2:(u:Int) ≤ (m:Int):=by omega
  have i3:(m:Int) ≤ (c:Int):=by omega
  have p1:(0:Int) ≤ (l:Int):=by omega
  have p2:(0:Int) ≤ (u:Int):=by omega
  have p3:(0:Int) ≤ (m:Int):=by omega
  rcases hl with ⟨rfl,rfl⟩ | ⟨x,rfl,hx⟩ <;> rcases hu with ⟨rfl,rfl,rfl⟩ | ⟨y,rfl,hy⟩ <;> rcases hm with ⟨hm1,hm2⟩ | ⟨z,hm1,hz⟩ <;> (try subst hm1) <;> (try subst hm2) <;> (try cases hm1) <;>
    simp [Instr.sliceBounds,Instr.sliceBound, *,asIntOf]

theorem sbA_run {lo hi : Option Operand} {n l u : Nat} {k1 k2 : IntKind} (hl : (lo = none ∧ l = 0) ∨ ∃ x, lo = some x ∧ a.eval x = .int k1 (l : Int)) (hu : (hi = none ∧ u = n) ∨ ∃ x, hi = some x ∧ a.eval x = .int k2 (u : Int))
    (h1:l ≤ u) (h2:u ≤ n):(Instr.sliceBounds false n n (lo.map a.eval) (hi.map a.eval) none).run Y.P w = .ok (l,u,n) w:=by
  have i1:(l:Int) ≤ (u:Int):=by omega
  have i2:(u:Int) ≤ (n:Int):=by omega
  have p1:(0:Int) ≤ (l:Int):=by omega
  have p2:(0:Int) ≤ (u:Int):=by omega
  rcases hl with ⟨rfl,rfl⟩ | ⟨x,rfl,hx⟩ <;> rcases hu with ⟨rfl,rfl⟩ | ⟨y,rfl,hy⟩ <;> simp [Instr.sliceBounds,Instr.sliceBound, *,asIntOf]
theorem op_slcA (ha : AR nt ι fr a) (hr : WR Y.tab ι h w) {t arr e : TypeId} {dt da de : TD} {n : Nat} {x : Operand} {x' : EO} {lo hi : Option Operand} {lo' hi' : Option EO} (ht : Y.tab t = some dt) (hd : (dt.desc = .pointer arr ∧ Y.tab arr = some da ∧ da.desc = .array n e) ∨ dt.desc = .array n e) (hde : Y.tab e = some de) (hp : 0 < de.size) (hx : eo x = some x') (hlo : optEo lo = some lo') (hhi : optEo hi = some hi')
    (he:slcAV fr n de.size (ev fr x') lo' hi' h = .ok v h'):OpOk Y h ι a w ⟨d, .slice t x lo hi none,ty,pos,aft,g⟩ v h':=by
  have hv:=ha.ev hx
  obtain ⟨id,off,hb,he⟩:=V.onP_ok he
  obtain ⟨m,cs,hc,he⟩:=Blk.onC_ok RV.no_ne he
  obtain ⟨h1,he⟩:=cond_ok RV.no_ne he
  have h1:=Nat.le_of_ble_eq_true h1
  obtain ⟨l,hl,he⟩:=oGet_ok he
  obtain ⟨u,hu,he⟩:=oGet_ok he
  obtain ⟨h4,he⟩:=cond_ok RV.no_ne he
  simp only [Bool.and_eq_true] at h4
  have h5:=Nat.le_of_ble_eq_true h4.1
  have h6:=Nat.le_of_ble_eq_true h4.2
  cases he
  rw [hb] at hv
  generalize hxv:a.eval x=xv at hv
  cases hv with
  | @p _ _ q hq =>
    have hroom:m ≤ q.room:=by
      have:=hr.blk id q hq
      rcases hc with hc | hc <;> rw [hc] at this <;> obtain ⟨_,_,_,_,_,_,h,_⟩:=this <;> exact h
    have b1:∃ k1,(lo=none∧l=0) ∨ ∃ x,lo=some x∧a.eval x = .int k1 (l:Int):=by
      rcases bound_rel ha hlo hl with ⟨h1,_,h2⟩ | ⟨y,_,k,h1,_,h2⟩
      · exact ⟨.i64, .inl ⟨h1,h2⟩⟩
      · exact ⟨k, .inr ⟨y,h1,h2⟩⟩
    have b2:∃ k2,(hi=none∧u=n) ∨ ∃ x,hi=some x∧a.eval x = .int k2 (u:Int):=by
      rcases bound_rel ha hhi hu with ⟨h1,_,h2⟩ | ⟨y,_,k,h1,_,h2⟩
      · exact ⟨.i64, .inl ⟨h1,h2⟩⟩
      · exact ⟨k, .inr ⟨y,h1,h2⟩⟩
    obtain ⟨k1,b1⟩:=b1
    obtain ⟨k2,b2⟩:=b2
    have hrun:=sbA_run (Y:=Y) (w:=w) b1 b2 h5 h6
    refine .pure (v' := .slice (some (if n=l then ⟨q.b,q.base + off,none⟩ else (⟨q.b,q.base + off,none⟩:Addr).add (l * de.size))) (u - l) (n - l)) hr ?_ ?_
    · rcases hd with ⟨hd,hta,hda⟩ | hd
      · simp [execOp,Instr.sliceAt,hxv,Rig.und ht,hd,Rig.und hta,hda,Instr.slice,asAddr,hrun,Rig.size hde]
      · simp [execOp,Instr.sliceAt,hxv,Rig.und ht,hd,Instr.sureAddr,hrun,Rig.size hde]
    · by_cases hnl:n=l
      · have hul:u - l=0:=by omega
        have hnl':n - l=0:=by omega
        rw [if_pos hnl,hul,hnl']
        exact .sl0
      · rw [if_neg hnl]
        have hle:off + l * de.size + (n - l) * de.size ≤ q.room:=by
          rw [Nat.add_assoc,← Nat.add_mul,show l + (n - l)=n by omega]; omega
        have:=VR.sl (off:=off + l * de.size) (n:=u - l) (sz:=de.size) (c:=n - l) hq hle (by omega) hp
        by_cases hz:l * de.size=0
        · simpa [Addr.add,hz] using this
        · simpa [Addr.add,hz,Nat.add_assoc] using this
theorem op_slice (ha : AR nt ι fr a) (hr : WR Y.tab ι h w) {t e : TypeId} {dt de : TD} {x : Operand} {x' : EO} {lo hi mx : Option Operand} {lo' hi' mx' : Option EO} (ht : Y.tab t = some dt) (hd : dt.desc = .slice e) (hde : Y.tab e = some de) (hx : eo x = some x') (hlo : optEo lo = some lo') (hhi : optEo hi = some hi') (hmx : optEo mx = some mx')
    (he:sliceV fr de.size (ev fr x') lo' hi' mx' h = .ok v h') (hmh:mx.isSome=true→hi.isSome=true):OpOk Y h ι a w ⟨d, .slice t x lo hi mx,ty,pos,aft,g⟩ v h':=by
  have hv:=ha.ev hx
  have hmh':mx=none ∨ ∃ y,hi=some y:=by
    cases mx with
    | none=>exact .inl rfl
    | some m=>cases hi with | none=>simp at hmh | some y=>exact .inr ⟨y,rfl⟩
  rcases V.onSl_ok RV.no_ne he with ⟨hb,he1⟩ | ⟨id,off,n,sz',hb,he1⟩
  · rw [hb] at hv
    generalize hxv:a.eval x=xv at hv
    cases hv
    obtain ⟨l,hl,he2⟩:=oGet_ok he1
    obtain ⟨u,hu,he3⟩:=oGet_ok he2
    obtain ⟨m,hm,he4⟩:=oGet_ok he3
    obtain ⟨hc,he5⟩:=cond_ok RV.no_ne he4
    cases he5
    simp only [Bool.and_eq_true,Nat.beq_eq] at hc
    obtain ⟨⟨rfl,rfl⟩,rfl⟩:=hc
    have hrun:(Instr.sliceBounds true 0 0 (lo.map a.eval) (hi.map a.eval) (mx.map a.eval)).run Y.P w = .ok (0,0,0) w:=by
      have b1:=bound_rel ha hlo hl
      have b2:=bound_rel ha hhi hu
      have b3:=bound_rel ha hmx hm
      rcases b1 with ⟨rfl,_,_⟩ | ⟨x1,_,k1,rfl,_,e1⟩ <;> rcases b2 with ⟨rfl,_,_⟩ | ⟨x2,_,k2,rfl,_,e2⟩ <;> rcases b3 with ⟨rfl,_,_⟩ | ⟨x3,_,k3,rfl,_,e3⟩ <;>
        first
          | (simp [Instr.sliceBounds,Instr.sliceBound, *,asIntOf]; done)
          | (simp at hmh; done)
    exact .pure (v' := .slice none 0 0) hr (by simp [execOp,Instr.sliceAt,hxv,Rig.und ht,hd,Instr.slice,hrun,Rig.size hde]) .sn
  · replace hv:=VR.of_sl hb hv
    obtain ⟨hsz,he2⟩:=cond_ok RV.no_ne he1
    have hsz:=Nat.eq_of_beq_eq_true hsz
    subst hsz
    obtain ⟨l,hl,he3⟩:=oGet_ok he2
    obtain ⟨u,hu,he4⟩:=oGet_ok he3
    have b1:=bound_rel ha hlo hl
    have b2:=bound_rel ha hhi hu
    -- the bounds,and what is behind the length
    have key:∃ (mo:Option Nat),cutV id off n de.size h l u mo = .ok v h'∧((mx=none∧mo=none) ∨ ∃ y k m,mx=some y∧mo=some m∧a.eval y = .int k (m:Int)):=by
      cases mx' with
      | none =>
        refine ⟨none,he4, .inl ⟨?_,rfl⟩⟩
        cases mx with
        | none=>rfl
        | some y=>unfold optEo at hmx; cases hy:eo y <;> simp [hy] at hmx
      | some y' =>
        obtain ⟨m,hm,he5⟩:=oGet_ok (show oGet (bound fr (some y') 0) RV.no (fun m=>cutV id off n de.size h l u (some m))=RV.ok v h' from he4)
        rcases bound_rel ha hmx hm with ⟨_,h2,_⟩ | ⟨y,y'',k,h1,h2,h3⟩
        · cases h2
        · exact ⟨some m,he5, .inr ⟨y,k,m,h1,rfl,h3⟩⟩
    obtain ⟨mo,hcut,hmo⟩:=key
    obtain ⟨hc,he5⟩:=cond_ok RV.no_ne hcut
    have hv':v=(oGet mo (.sl id (off + l * de.size) (u - l) de.size) fun m=>bif Nat.beq m u then .slt id (off + l * de.size) (u - l) de.size else .sl id (off + l * de.size) (u - l) de.size)∧h'=h:=by
      cases he5; exact ⟨rfl,rfl⟩
    clear he5 hcut
    obtain ⟨hv',rfl⟩:=hv'
    have shut:∀ {m:Nat} {b:Option Addr},(mo=none ∨ mo=some m)→VR ι (.sl id (off + l * de.size) (u - l) de.size) (.slice b (u - l) (m - l))→VR ι v (.slice b (u - l) (m - l)):=by
      intro m b hm hvr
      rw [hv']
      rcases hm with hm | hm <;> rw [hm]
      · exact hvr
      · show VR ι (bif Nat.beq m u then _ else _) _
        cases hmu:Nat.beq m u with
        | false=>exact hvr
        | true=>have:=Nat.eq_of_beq_eq_true hmu; subst this; exact hvr.tighten
    simp only [Bool.and_eq_true] at hc
    obtain ⟨⟨hc1,hc2⟩,hc3⟩:=hc
    have hc1:=Nat.le_of_ble_eq_true hc1
    have hc2:=Nat.le_of_ble_eq_true hc2
    generalize hxv:a.eval x=xv at hv
    have gen : ∀ (ad : Addr) (c m : Nat), n ≤ c → xv = .slice (some ad) n c → u ≤ m → m ≤ c → ((mx = none ∧ m = c) ∨ ∃ y k, mx = some y ∧ a.eval y = .int k (m : Int)) →
        (execOp a.eval ⟨d, .slice t x lo hi mx,ty,pos,aft,g⟩).run Y.P w = .ok (.value (.slice (some (if m=l then ad else ad.add (l * de.size))) (u - l) (m - l))) w:=by
      intro ad c m hnc hxe hum hmc hmm
      have hlo3:∃ k1,(lo=none∧l=0) ∨ ∃ x,lo=some x∧a.eval x = .int k1 (l:Int):=by
        rcases b1 with ⟨h1,_,h2⟩ | ⟨y,_,k,h1,_,h2⟩
        · exact ⟨.i64, .inl ⟨h1,h2⟩⟩
        · exact ⟨k, .inr ⟨y,h1,h2⟩⟩
      have hhi3:∃ k2,(hi=none∧u=n∧mx=none) ∨ ∃ x,hi=some x∧a.eval x = .int k2 (u:Int):=by
        rcases b2 with ⟨h1,_,h2⟩ | ⟨y,_,k,h1,_,h2⟩
        · refine ⟨.i64, .inl ⟨h1,h2,?_⟩⟩
          rcases hmh' with h | ⟨y,hy⟩
          · exact h
          · rw [h1] at hy; cases hy
        · exact ⟨k, .inr ⟨y,h1,h2⟩⟩
      have hmx3:∃ k3,(mx=none∧m=c) ∨ ∃ x,mx=some x∧a.eval x = .int k3 (m:Int):=by
        rcases hmm with h | ⟨y,k,h1,h2⟩
        · exact ⟨.i64, .inl h⟩
        · exact ⟨k, .inr ⟨y,h1,h2⟩⟩
      obtain ⟨k1,hlo3⟩:=hlo3
      obtain ⟨k2,hhi3⟩:=hhi3
      obtain ⟨k3,hmx3⟩:=hmx3
      have hrun:=sb_run (Y:=Y) (w:=w) (n:=n) (c:=c) hlo3 hhi3 hmx3 hc1 hum hmc
      rw [hxe] at hxv
      by_cases hml:m=l <;> simp [execOp,Instr.sliceAt,hxv,Rig.und ht,hd,Instr.slice,hrun,Rig.size hde,hml]
    have hmval:∀ c,n ≤ c → ∃ m,u ≤ m∧m ≤ c∧((mx=none∧m=c) ∨ ∃ y k,mx=some y∧a.eval y = .int k (m:Int))∧(mo=none ∨ mo=some m):=by
      intro c hnc
      rcases hmo with ⟨h1,h2⟩ | ⟨y,k,m,h1,h2,h3⟩
      · exact ⟨c,by omega,Nat.le_refl _, .inl ⟨h1,rfl⟩, .inl h2⟩
      · subst h2
        simp only [oGet,Bool.and_eq_true] at hc3
        exact ⟨m,Nat.le_of_ble_eq_true hc3.1,Nat.le_trans (Nat.le_of_ble_eq_true hc3.2) hnc, .inr ⟨y,k,h1,h3⟩, .inr rfl⟩
    cases hv with
    | @sl0 _ _ _ adz =>
      obtain ⟨m,hm1,hm2,hm3,hm4⟩:=hmval 0 (Nat.le_refl _)
      have:=gen adz 0 m (Nat.le_refl _) rfl hm1 hm2 hm3
      have e1:u=0:=by omega
      have e2:l=0:=by omega
      have e3:m=0:=by omega
      subst e1; subst e2; subst e3
      exact .pure hr this (shut hm4 (by simpa using VR.sl0))
    | @sl _ _ _ _ c q hq hcap hn h0 =>
      obtain ⟨m,hm1,hm2,hm3,hm4⟩:=hmval c hn
      have:=gen ⟨q.b,q.base + off,none⟩ c m hn rfl hm1 hm2 hm3
      refine .pure hr this (shut hm4 ?_)
      by_cases hml:m=l
      · have e1:u - l=0:=by omega
        have e2:m - l=0:=by omega
        simp only [hml,if_true,e1,Nat.sub_self]
        exact VR.sl0
      · simp only [hml,if_false,add_lit',Nat.add_assoc]
        refine .sl hq ?_ (by omega) h0
        have e1:l * de.size + (m - l) * de.size=m * de.size:=by rw [← Nat.add_mul]; congr 1; omega
        have e2:m * de.size ≤ c * de.size:=Nat.mul_le_mul_right _ hm2
        omega
end ops
end Go.Ev
namespace Go.Ev
open Go Go.RowKit

theorem WR.adopt {tab : Tab} {ι : Io} {h : H} {w w' : World} {b : Blk} {id0 : K} {q0 : Pl} {base room : Nat} (hr : WR tab ι h w) (hq0 : ι id0 = some q0) (hlv : live h id0) (hnr : ¬ isRom (h.get id0)) (hs : w'.heap.size = w.heap.size)
    (hoth:∀ c,c ≠ q0.b→w'.heap[c]? = w.heap[c]?) (hos:w'.os=w.os) (htp:w'.tape=w.tape) (hout:w'.output=w.output) (hb:BR tab (updI ι h.nx ⟨q0.b,base,room,none⟩) ⟨q0.b,base,room,none⟩ w' b) :
    Step h.nx.nat ι w ((h.put id0 .dead).new b).nx.nat (updI ι h.nx ⟨q0.b,base,room,none⟩) w'∧WR tab (updI ι h.nx ⟨q0.b,base,room,none⟩) ((h.put id0 .dead).new b) w':=by
  have hn : ι h.nx=none:=hr.fresh _ (Nat.le_refl _)
  have hext:=updI_ext (q:=⟨q0.b,base,room,none⟩) hn
  have hne0:id0 ≠ h.nx:=fun e=>by rw [e,hn] at hq0; cases hq0
  have hget:∀ k,((h.put id0 .dead).new b).get k=if k=h.nx then b else if k=id0 then .dead else h.get k:=fun k=>by
    rw [H.get_new,H.get_put]; rfl
  refine ⟨⟨hext,fun id q hq hi=>?_,fun c hc ho=>hoth c fun e=>ho id0 q0 hq0 e.symm,hos,htp,hout,Nat.le_of_eq hs.symm,(by have h1:((h.put id0 .dead).new b).nx.nat=h.nx.nat + 1:=K.succ_nat _; omega),fun id hid hi=>(by rw [updI_other _ _ (fun e=>by rw [e] at hid; omega)]; exact hi)⟩,fun id q hq=>?_,fun id q hq=>?_,fun id id' q q' hq hq' hl hl' e=>?_,fun id hid=>?_⟩
  · by_cases e:id=h.nx
    · subst e; rw [updI_same] at hq; cases hq; exact .inr ⟨id0,q0,hq0,rfl⟩
    · rw [updI_other _ _ e,hi] at hq; cases hq
  · rw [hget]
    by_cases e:id=h.nx
    · subst e; rw [updI_same] at hq; cases hq; simpa using hb
    · rw [updI_other _ _ e] at hq
      simp only [e,if_false]
      by_cases e0:id=id0
      · simp only [e0,if_true]; trivial
      · simp only [e0,if_false]
        by_cases hd:h.get id = .dead
        · rw [hd]; trivial
        · exact (hr.blk id q hq).mono hext (hoth _ fun e'=>e0 (hr.inj1 hq hq0 hd hlv hnr e'))
  · rw [hs]
    by_cases e:id=h.nx
    · subst e; rw [updI_same] at hq; cases hq; exact hr.lt id0 q0 hq0
    · rw [updI_other _ _ e] at hq; exact hr.lt id q hq
  · have hl0 : ∀ {k : K}, k ≠ h.nx → live ((h.put id0 .dead).new b) k → k ≠ id0 ∧ live h k := fun {k} hk hlv => by
      unfold live at hlv ⊢
      rw [hget,if_neg hk] at hlv
      by_cases e:k=id0
      · simp [e] at hlv
      · rw [if_neg e] at hlv; exact ⟨e,hlv⟩
    by_cases e1:id=h.nx
    · by_cases e2:id'=h.nx
      · exact .inl (by rw [e1,e2])
      · subst e1; rw [updI_same] at hq; cases hq; rw [updI_other _ _ e2] at hq'
        obtain ⟨h1,h2⟩:=hl0 e2 hl'
        exact absurd (hr.inj1 hq' hq0 h2 hlv hnr e.symm) h1
    · by_cases e2:id'=h.nx
      · subst e2; rw [updI_same] at hq'; cases hq'; rw [updI_other _ _ e1] at hq
        obtain ⟨h1,h2⟩:=hl0 e1 hl
        exact absurd (hr.inj1 hq hq0 h2 hlv hnr e) h1
      · rw [updI_other _ _ e1] at hq; rw [updI_other _ _ e2] at hq'
        rw [hget,if_neg e1,if_neg (hl0 e1 hl).1,hget,if_neg e2,if_neg (hl0 e2 hl').1]
        exact hr.inj id id' q q' hq hq' (hl0 e1 hl).2 (hl0 e2 hl').2 e
  · have h1:((h.put id0 .dead).new b).nx.nat=h.nx.nat + 1:=K.succ_nat _
    rw [h1] at hid
    rw [updI_other _ _ (fun e=>by rw [e] at hid; omega)]
    exact hr.fresh id (by omega)

theorem Step.drew (n:Nat) (ι:Io) (w:World):Step n ι w n ι w.drew:=⟨Ext.refl ι,fun id q h k=>(by rw [h] at k; cases k),fun _ _ _=>rfl,rfl,rfl,rfl,Nat.le_refl _,Nat.le_refl _,fun _ _ h=>h⟩
theorem WR.drew {tab:Tab} {ι:Io} {h:H} {w:World} (hr:WR tab ι h w):WR tab ι h w.drew:=hr.same (fun _ _=>rfl) (Nat.le_refl _)

section ops
variable {Y:Rig} {nt:Nat} {ι:Io} {fr:Fr} {a:Act} {h h':H} {w:World} {v:V} {d:Option Tmp} {ty:TypeId} {pos:String} {aft:Array Edge} {g:Option (Nat × Bool)}

theorem slice_cells (hr : WR Y.tab ι h w) {id : K} {q : Pl} (hq : ι id = some q) {len off n sz : Nat} {cs : List V} (hb : h.get id = .cells len cs ∨ h.get id = .rom len cs) (hle : off + n * sz ≤ len) :
    ∃ vs,VRs ι (takeN (n * sz) (dropN off cs)) vs∧vs.length=n * sz∧(∀ (j:Nat) (u:Value),vs[j]? = some u→w.cell? ((⟨q.b,q.base + off,none⟩:Addr).add j)=some u)∧(∀ c ∈ takeN (n * sz) (dropN off cs),c.one=true)∧(∀ u ∈ vs,u.oneCell'=true):=by
  obtain ⟨cur,t,fz,hh,hn,hsz,hroom,hone,hrel⟩:=BR.cells hr hq hb
  rw [takeN_eq,dropN_eq]
  have h1:=(hrel.drop off).take (n * sz)
  have ho:∀ c ∈ (cs.drop off).take (n * sz),c.one=true:=fun c hc=>hone c (List.mem_of_mem_drop (List.mem_of_mem_take hc))
  refine ⟨_,h1,?_,fun j u hu=>?_,ho,fun u hu=>?_⟩
  · rw [h1.len]; simp; omega
  · rw [add_lit',Nat.add_assoc]
    refine cell_in (n:=len) hh ?_
    rw [List.getElem?_take] at hu
    split at hu
    · rw [List.getElem?_drop] at hu; exact hu
    · cases hu
  · obtain ⟨j,hj,rfl⟩:=List.getElem_of_mem hu
    have hj':j < ((cs.drop off).take (n * sz)).length:=by rw [← h1.len]; exact hj
    exact ((h1.at_ j hj' hj).oneCell (ho _ (List.getElem_mem hj'))).2

theorem addOf_rel (hr : WR Y.tab ι h w) {sz : Nat} {y : V} {y' : Value} {m : Nat} {new : List V} (hy : VR ι y y') (he : addOf sz h y = some (m, new)) :
    ∃ vs,VRs ι new vs∧vs.length=m * sz∧(∀ c ∈ new,c.one=true)∧(∀ u ∈ vs,u.oneCell'=true) ∧
      ((m=0∧(y' = .slice none 0 0 ∨ ∃ ad c,y' = .slice (some ad) 0 c)) ∨ ∃ ad c,y' = .slice (some ad) m c ∧ ∀ (j:Nat) (u:Value),vs[j]? = some u→w.cell? (ad.add j)=some u):=by
  rcases V.onSl_ok (by simp) he with ⟨rfl,he⟩ | ⟨id,off,n,sz',hb0,he⟩
  · cases he
    cases hy
    exact ⟨[],VRs.nil,by simp,by simp,by simp, .inl ⟨rfl, .inl rfl⟩⟩
  · replace hy:=VR.of_sl hb0 hy
    obtain ⟨len,cs,hb,he1⟩:=Blk.onC_ok (by simp) he
    obtain ⟨hc,he2⟩:=cond_ok (by simp) he1
    simp only [Bool.and_eq_true,Nat.beq_eq] at hc
    obtain ⟨rfl,hc2⟩:=hc
    have hc2:=Nat.le_of_ble_eq_true hc2
    cases he2
    cases hy with
    | @sl0 _ _ _ adz =>
      refine ⟨[],?_,by simp,?_,by simp, .inl ⟨rfl, .inr ⟨_,_,rfl⟩⟩⟩
      · rw [Nat.zero_mul]; exact VRs.nil
      · rw [Nat.zero_mul]; intro c hc; cases hc
    | @sl _ _ _ _ c q hq hcap hn h0 =>
      obtain ⟨vs,h1,h2,h3,h4,h5⟩:=slice_cells hr hq hb hc2
      exact ⟨vs,h1,h2,h4,h5, .inr ⟨_,c,rfl,h3⟩⟩

theorem zeroCells_size (z:Array Value) (n:Nat):(Builtin.zeroCells z n).size=n * z.size:=by simp [Builtin.zeroCells]

theorem grow_rel (hr : WR Y.tab ι h w) {sz m : Nat} {cs : List V} {vs : List Value} {z : Array Value} {cap : Nat} {e : TypeId} (hcs : VRs ι cs vs) (hl : vs.length = m * sz) (ho : ∀ c ∈ cs, c.one = true) (hz : z.size = sz) (hcap : m ≤ cap) (h0 : 0 < sz) :
    ∃ ι',Step h.nx.nat ι w (h.new (.cells (m * sz) cs)).nx.nat ι' (w.drew.alloc (.cells (vs.toArray ++ Builtin.zeroCells z (cap - m)) e))∧VR ι' (.sl h.nx 0 m sz) (.slice (some ⟨w.heap.size,0,none⟩) m cap)∧WR Y.tab ι' (h.new (.cells (m * sz) cs)) (w.drew.alloc (.cells (vs.toArray ++ Builtin.zeroCells z (cap - m)) e)):=by
  have hsz:(vs.toArray ++ Builtin.zeroCells z (cap - m)).size=cap * sz:=by
    simp only [Array.size_append,List.size_toArray,zeroCells_size,hz,hl]
    rw [← Nat.add_mul]; congr 1; omega
  have hle:m * sz ≤ cap * sz:=Nat.mul_le_mul_right _ hcap
  have hal:=hr.drew.alloc (b := .cells (m * sz) cs) (o := .cells (vs.toArray ++ Builtin.zeroCells z (cap - m)) e) (base:=0) (room:=cap * sz)
    ⟨_,e,(0,0),heap_alloc_new w.drew _,by rw [← hcs.len,hl],by rw [hsz]; simp,hle,ho,by
      have e1:List.take (m * sz) (List.drop 0 (vs.toArray ++ Builtin.zeroCells z (cap - m)).toList)=vs:=by
        simp [← hl]
      show VRs _ cs (List.take (m * sz) (List.drop 0 _))
      rw [e1]
      exact hcs.mono (updI_ext (hr.fresh _ (Nat.le_refl _))),pinOk_new rfl⟩
  refine ⟨_,(Step.drew _ ι w).trans hal.1,?_,hal.2⟩
  have:=VR.sl (off:=0) (n:=m) (sz:=sz) (c:=cap) (updI_same ι h.nx ⟨w.drew.heap.size,0,cap * sz,none⟩) (by simp) hcap h0
  simpa using this

theorem op_append (ha : AR nt ι fr a) (hr : WR Y.tab ι h w) {t e : TypeId} {dt de : TD} {x y : Operand} {x' y' : EO} (ht : Y.tab t = some dt) (hd : dt.desc = .slice e) (hde : Y.tab e = some de) (hp : 0 < de.size) (hz : de.zero.cells.size = de.size) (hb : de.bytes ≤ 1000000)
    (hx:eo x=some x') (hy:eo y=some y') (he:appV de.size h (ev fr x') (ev fr y') = .ok v h'):OpOk Y h ι a w ⟨d, .call ⟨.builtin .append, #[x,y], #[t,t]⟩,ty,pos,aft,g⟩ v h':=by
  obtain ⟨⟨m,new⟩,hadd,he1⟩:=oGet_ok he
  obtain ⟨vs,g1,g2,g3,g4,g5⟩:=addOf_rel hr (ha.ev hy) hadd
  obtain ⟨i,hi,hi1,hi2,hi3⟩:=Rig.info hde
  have hu:Y.P.underlying t=some (.slice e):=by rw [(Y.htab t dt ht).und,hd]
  have hvx:=ha.ev hx
  have hex:∀ v' w',(Builtin.append_ #[t,t] ty #[a.eval x,a.eval y]).run Y.P w = .ok v' w'→(execOp a.eval ⟨d, .call ⟨.builtin .append, #[x,y], #[t,t]⟩,ty,pos,aft,g⟩).run Y.P w = .ok (.value v') w':=fun v' w' h=>by
    simp [execOp,resolve,invoke,builtin,h]
  have hempty:∀ (base:Option Addr) (n c:Nat),n ≤ c→(a.eval y = .slice none 0 0 ∨ ∃ ad c,a.eval y = .slice (some ad) 0 c)→(Builtin.append_ #[t,t] ty #[.slice base n c,a.eval y]).run Y.P w = .ok (.slice base n c) w:=by
    intro base n c hnc hye
    have hu0:∀ s l:Nat,(Builtin.firstCells s 0 (.slice none 0 0)).run Y.P w = .ok #[] w:=fun s l=>rfl
    rcases hye with h1 | ⟨ad,c',h1⟩
    · rw [h1]
      cases base <;> simp [Builtin.append_,run_underlying hu,sizeOf,typeInfo,hi,Builtin.lenOf,Builtin.firstCells,hnc,storeCells]
    · rw [h1]
      have hf:=run_firstCells_some (P:=Y.P) w i.size 0 ad 0 c' [] (by simp) (by simp)
      cases base <;> simp [Builtin.append_,run_underlying hu,sizeOf,typeInfo,hi,Builtin.lenOf,hnc,hf,storeCells]
  cases ht1:(ev fr x').tight with
  | true =>
    rw [ht1] at he1
    have he1:appT de.size h (ev fr x') m new = .ok v h':=he1
    unfold appT at he1
    obtain ⟨id,off,n,sz',hb1⟩:∃ id off n sz',ev fr x' = .slt id off n sz':=by
      cases hx':ev fr x' <;> rw [hx'] at ht1 <;> first | exact ⟨_,_,_,_,rfl⟩ | cases ht1
    rw [hb1] at hvx he1
    generalize hxv:a.eval x=xv at hvx hex
    cases hm0:Nat.beq m 0 with
    | true =>
      rw [hm0] at he1
      cases he1
      have hm0:=Nat.eq_of_beq_eq_true hm0
      subst hm0
      have hye:a.eval y = .slice none 0 0 ∨ ∃ ad c,a.eval y = .slice (some ad) 0 c:=by
        rcases g5 with ⟨_,h1⟩ | ⟨ad,c,h1,_⟩
        · exact h1
        · exact .inr ⟨ad,c,h1⟩
      cases hvx with
      | slt0=>exact .pure hr (hex _ _ (hempty _ 0 0 (Nat.le_refl _) hye)) .slt0
      | slt hq hcap h0=>exact .pure hr (hex _ _ (hempty _ n n (Nat.le_refl _) hye)) (.slt hq hcap h0)
    | false =>
      rw [hm0] at he1
      obtain ⟨len,cs,hblk,he3⟩:=Blk.onC_ok RV.no_ne he1
      obtain ⟨hc,he4⟩:=cond_ok RV.no_ne he3
      simp only [Bool.and_eq_true,Nat.beq_eq] at hc
      obtain ⟨⟨rfl,hc2⟩,hc3⟩:=hc
      have hc2:=Nat.le_of_ble_eq_true hc2
      have hc3:n + m ≤ 16777216:=Nat.le_of_ble_eq_true hc3
      cases he4
      have hm0:m ≠ 0:=fun e=>by rw [e] at hm0; cases hm0
      rcases g5 with ⟨h1,_⟩ | ⟨ad,c',h1,h2⟩
      · exact absurd h1 hm0
      have hby:(n + m) * i.bytes ≤ 140737488355328:=by
        rw [hi2]; exact Nat.le_trans (Nat.mul_le_mul hc3 hb) (by decide)
      have grow : ∀ (ad0 : Addr) (olds : List Value), xv = .slice (some ad0) n n → VRs ι (takeN (n * de.size) (dropN off cs)) olds → olds.length = n * de.size → (∀ (j : Nat) (u : Value), olds[j]? = some u → w.cell? (ad0.add j) = some u) → (∀ c ∈ takeN (n * de.size) (dropN off cs), c.one = true) →
          OpOk Y h ι a w ⟨d, .call ⟨.builtin .append, #[x,y], #[t,t]⟩,ty,pos,aft,g⟩ (.sl h.nx 0 (n + m) de.size) (h.new (.cells ((n + m) * de.size) (cat (takeN (n * de.size) (dropN off cs)) new))):=by
        intro ad0 olds hxe ho1 ho2 ho3 ho4
        have hx2:=run_append_grow (P:=Y.P) w t ty e i de.zero hu hi hi3 ad0 n n olds (by rw [hi1]; exact ho2) ho3 ad m c' vs (by rw [hi1]; exact g2) h2 (by omega) (by omega) (growslice_fits (by omega) hby)
        have hcat:cat (takeN (n * de.size) (dropN off cs)) new=takeN (n * de.size) (dropN off cs) ++ new:=cat_eq _ _
        rw [hcat]
        obtain ⟨ι',s1,s2,s3⟩:=grow_rel (e:=e) (h:=h) (m:=n + m) (z:=de.zero.cells) (cap:=grownCap w (n + m) n e) hr (ho1.append g1) (by simp [ho2,g2,Nat.add_mul]) (fun c hc=>(List.mem_append.1 hc).elim (ho4 c) (g3 c)) hz (grownCap_ge w (n + m) n e) hp
        have e1:(olds ++ vs).toArray=olds.toArray ++ vs.toArray:=by simp
        rw [e1] at s1 s3
        exact ⟨_,_, ι', .inl (hex _ _ (by rw [hxe,h1]; exact hx2)),s1,s2,s3⟩
      cases hvx with
      | @slt0 _ _ _ adz =>
        refine grow adz [] rfl ?_ (by simp) (by simp) ?_
        · rw [Nat.zero_mul]; exact VRs.nil
        · rw [Nat.zero_mul]; intro c hc; cases hc
      | @slt _ _ _ _ q hq hcap h0 =>
        obtain ⟨olds,o1,o2,o3,o4,o5⟩:=slice_cells hr hq hblk hc2
        exact grow ⟨q.b,q.base + off,none⟩ olds rfl o1 o2 o3 o4
  | false =>
  rw [ht1] at he1
  have he1:(ev fr x').onSl RV.no (bif Nat.ble m 16777216 then app0 de.size h m new else .no) (fun id off n sz'=>(h.get id).onW .no fun len cs=>bif Nat.beq de.size sz' && Nat.ble (off + n * de.size) len && Nat.ble (n + m) 16777216 then app1 de.size h id off n cs m new else .no) = .ok v h':=he1
  rcases V.onSl_ok RV.no_ne he1 with ⟨hb1,he2⟩ | ⟨id,off,n,sz',hb1,he2⟩
  · -- onto nil
    rw [hb1] at hvx
    generalize hxv:a.eval x=xv at hvx hex
    cases hvx
    obtain ⟨hm,he2⟩:=cond_ok RV.no_ne he2
    have hm:=Nat.le_of_ble_eq_true hm
    unfold app0 at he2
    cases hm0:Nat.beq m 0 with
    | true =>
      rw [hm0] at he2
      cases he2
      have hm0:=Nat.eq_of_beq_eq_true hm0
      subst hm0
      refine .pure hr (hex _ _ (hempty none 0 0 (Nat.le_refl _) ?_)) .sn
      rcases g5 with ⟨_,h1⟩ | ⟨ad,c,h1,_⟩
      · exact h1
      · exact .inr ⟨ad,c,h1⟩
    | false =>
      rw [hm0] at he2
      cases he2
      have hm0:m ≠ 0:=fun e=>by rw [e] at hm0; cases hm0
      rcases g5 with ⟨h1,_⟩ | ⟨ad,c,h1,h2⟩
      · exact absurd h1 hm0
      · have hm':m ≤ 16777216:=hm
        have hbm:m * i.bytes ≤ 281474976710656:=by
          rw [hi2]; exact Nat.le_trans (Nat.mul_le_mul hm' hb) (by decide)
        have hx2:=run_append_nil (P:=Y.P) w t ty e i de.zero hu hi hi3 ad m c vs (by rw [hi1]; exact g2) h2 (by omega) (by omega) hbm
        obtain ⟨ι',s1,s2,s3⟩:=grow_rel (e:=e) (z:=de.zero.cells) (cap:=grownCap w m 0 e) hr g1 g2 g3 hz (grownCap_ge w m 0 e) hp
        exact ⟨_,_, ι', .inl (hex _ _ (by rw [h1]; exact hx2)),s1,s2,s3⟩
  · replace hb1:ev fr x' = .sl id off n sz':=hb1.elim (fun h=>h) fun h=>by rw [h] at ht1; cases ht1
    obtain ⟨len,cs,hblk,he3⟩:=Blk.onW_ok RV.no_ne he2
    obtain ⟨hc,he4⟩:=cond_ok RV.no_ne he3
    simp only [Bool.and_eq_true,Nat.beq_eq] at hc
    obtain ⟨⟨rfl,hc2⟩,hc3⟩:=hc
    have hc2:=Nat.le_of_ble_eq_true hc2
    have hc3:n + m ≤ 16777216:=Nat.le_of_ble_eq_true hc3
    rw [hb1] at hvx
    generalize hxv:a.eval x=xv at hvx hex
    unfold app1 at he4
    have hlive:live h id:=by unfold live; rw [hblk]; simp
    cases hm0:Nat.beq m 0 with
    | true =>
      rw [hm0] at he4
      cases he4
      have hm0:=Nat.eq_of_beq_eq_true hm0
      subst hm0
      have hye:a.eval y = .slice none 0 0 ∨ ∃ ad c,a.eval y = .slice (some ad) 0 c:=by
        rcases g5 with ⟨_,h1⟩ | ⟨ad,c,h1,_⟩
        · exact h1
        · exact .inr ⟨ad,c,h1⟩
      cases hvx with
      | sl0=>exact .pure hr (hex _ _ (hempty _ 0 0 (Nat.le_refl _) hye)) .sl0
      | sl hq hcap hn h0=>exact .pure hr (hex _ _ (hempty _ n _ hn hye)) (.sl hq hcap hn h0)
    | false =>
      rw [hm0] at he4
      cases he4
      have hm0:m ≠ 0:=fun e=>by rw [e] at hm0; cases hm0
      rcases g5 with ⟨h1,_⟩ | ⟨ad,c',h1,h2⟩
      · exact absurd h1 hm0
      have hby:(n + m) * i.bytes ≤ 140737488355328:=by
        rw [hi2]; exact Nat.le_trans (Nat.mul_le_mul hc3 hb) (by decide)
      -- the array is left behind
      have grow : ∀ (ad0 : Addr) (cap : Nat) (olds : List Value), cap < n + m → xv = .slice (some ad0) n cap → VRs ι (takeN (n * de.size) (dropN off cs)) olds → olds.length = n * de.size → (∀ (j : Nat) (u : Value), olds[j]? = some u → w.cell? (ad0.add j) = some u) → (∀ c ∈ takeN (n * de.size) (dropN off cs), c.one = true) →
          OpOk Y h ι a w ⟨d, .call ⟨.builtin .append, #[x,y], #[t,t]⟩,ty,pos,aft,g⟩ (.sl h.nx 0 (n + m) de.size) ((h.put id .dead).new (.cells ((n + m) * de.size) (cat (takeN (n * de.size) (dropN off cs)) new))):=by
        intro ad0 cap olds hlt hxe ho1 ho2 ho3 ho4
        have hx2:=run_append_grow (P:=Y.P) w t ty e i de.zero hu hi hi3 ad0 n cap olds (by rw [hi1]; exact ho2) ho3 ad m c' vs (by rw [hi1]; exact g2) h2 hlt (by omega) (growslice_fits hlt hby)
        have hcat:cat (takeN (n * de.size) (dropN off cs)) new=takeN (n * de.size) (dropN off cs) ++ new:=cat_eq _ _
        rw [hcat]
        obtain ⟨ι',s1,s2,s3⟩:=grow_rel (e:=e) (h:=h.put id .dead) (m:=n + m) (z:=de.zero.cells) (cap:=grownCap w (n + m) cap e) (hr.kill id) (ho1.append g1) (by simp [ho2,g2,Nat.add_mul]) (fun c hc=>(List.mem_append.1 hc).elim (ho4 c) (g3 c)) hz (grownCap_ge w (n + m) cap e) hp
        have e1:(olds ++ vs).toArray=olds.toArray ++ vs.toArray:=by simp
        rw [e1] at s1 s3
        exact ⟨_,_, ι', .inl (hex _ _ (by rw [hxe,h1]; exact hx2)),s1,s2,s3⟩
      cases hvx with
      | @sl0 _ _ _ adz =>
        refine grow adz 0 [] (by omega) rfl ?_ (by simp) (by simp) ?_
        · rw [Nat.zero_mul]; exact VRs.nil
        · rw [Nat.zero_mul]; intro c hc; cases hc
      | @sl _ _ _ _ cap q hq hcap hn h0 =>
        obtain ⟨olds,o1,o2,o3,o4,o5⟩:=slice_cells hr hq (.inl hblk) hc2
        by_cases hroom:n + m ≤ cap
        · obtain ⟨cur,t2,fz,hh,hcl,hcsz,hlr,hone,hrel⟩:=BR.cells hr hq (.inl hblk)
          have hfit:(n + m) * de.size ≤ cap * de.size:=Nat.mul_le_mul_right _ hroom
          have hnm:(n + m) * de.size=n * de.size + m * de.size:=Nat.add_mul _ _ _
          have hx2:=run_append_room_cells (P:=Y.P) w t ty e i hu hi q.b (q.base + off) n cap ad m c' vs (by rw [hi1]; exact g2) h2 g4 hroom
            (fun j hj=>by rw [cell_of_row w q.b _ cur t2 _ hh,hi1]; simp; rw [g2] at hj; omega) (fun j hj=>by have:=(BR.pin hr hq hblk hh).1 (q.base + off + n * de.size + j) (by omega) (by rw [g2] at hj; omega); simp only [World.frozen?,hh,hi1]; rw [← Bool.not_eq_true]; simp only [Bool.and_eq_true,decide_eq_true_eq]; exact this)
          rw [hi1] at hx2
          have hrow:=setCells_at (fz:=fz) vs (q.base + off + n * de.size) cur w hh (by rw [g2]; omega)
          have hsame:=setRow_heap w q.b cur (cur.toList.take (q.base + off + n * de.size) ++ vs ++ cur.toList.drop (q.base + off + n * de.size + vs.length)).toArray t2 _ hh
          rw [hrow] at hx2
          have hcat:cat (takeN (n * de.size) (dropN off cs)) new=takeN (n * de.size) (dropN off cs) ++ new:=cat_eq _ _
          rw [hcat]
          obtain ⟨s1,s2⟩:=hr.adopt (b := .cells ((n + m) * de.size) (takeN (n * de.size) (dropN off cs) ++ new)) (base:=q.base + off) (room:=q.room - off) (w':=w.setRow q.b (cur.toList.take (q.base + off + n * de.size) ++ vs ++ cur.toList.drop (q.base + off + n * de.size + vs.length)).toArray) hq hlive (by rw [hblk]; exact fun h=>h) (by simp) (fun c hc=>setRow_other w q.b c _ hc) rfl rfl rfl
            ⟨_,t2,fz,hsame,by rw [List.length_append,← o1.len,← g1.len,o2,g2,hnm],by simp; omega,by show _ ≤ q.room - off; omega,fun c hc=>(List.mem_append.1 hc).elim (o4 c) (g3 c),by
              have holds:olds=(cur.toList.drop (q.base + off)).take (n * de.size):=by
                apply List.ext_getElem?
                intro j
                by_cases hj:j < n * de.size
                · have hjo:j < olds.length:=by rw [o2]; exact hj
                  have:=o3 j olds[j] (by simp [hjo])
                  rw [add_lit',cell_of_row w q.b _ cur t2 _ hh] at this
                  have this':cur.toList[q.base + off + j]? = some olds[j]:=by rw [Array.getElem?_toList]; exact this
                  rw [List.getElem?_take,if_pos hj,List.getElem?_drop,this']
                  simp [hjo]
                · rw [List.getElem?_eq_none (by rw [o2]; omega),List.getElem?_take,if_neg hj]
              have e1:List.take ((n + m) * de.size) (List.drop (q.base + off) (cur.toList.take (q.base + off + n * de.size) ++ vs ++ cur.toList.drop (q.base + off + n * de.size + vs.length)))=olds ++ vs:=by
                rw [List.append_assoc,List.drop_append,List.length_take,Array.length_toList]
                rw [show q.base + off - min (q.base + off + n * de.size) cur.size=0 by omega,List.drop_zero]
                rw [List.drop_take,show q.base + off + n * de.size - (q.base + off)=n * de.size by omega,← holds]
                rw [← List.append_assoc,List.take_append_of_le_length (by simp [o2,g2]; omega),List.take_of_length_le (by simp [o2,g2]; omega)]
              show VRs _ _ (List.take _ (List.drop (q.base + off) _))
              simp only
              rw [e1]
              exact (o1.append g1).mono (updI_ext (hr.fresh _ (Nat.le_refl _))),⟨fun j h1 h2=>(BR.pin hr hq hblk hh).1 j (by have h1:q.base + off ≤ j:=h1; omega) (by have h2:j < q.base + off + (q.room - off):=h2; omega),fun p hp=>by cases hp⟩⟩
          refine ⟨_,_,_, .inl (hex _ _ (by rw [h1]; exact hx2)),s1,?_,s2⟩
          have:=VR.sl (off:=0) (n:=n + m) (sz:=de.size) (c:=cap) (updI_same ι h.nx ⟨q.b,q.base + off,q.room - off,none⟩) (by show 0 + cap * de.size ≤ q.room - off; omega) hroom h0
          simpa using this
        · exact grow ⟨q.b,q.base + off,none⟩ cap olds (by omega) rfl o1 o2 o3 o4

/-! ### Maps -/
theorem op_mkmap (hr:WR Y.tab ι h w) {t kt:TypeId} {dk:TD} {kd:KD} (hdk:Y.tab kt=some dk) (hkd:dk.key=some kd):OpOk Y h ι a w ⟨d, .makeMap t none,ty,pos,aft,g⟩ (.m h.nx) (h.new (.map kt [])):=by
  obtain ⟨hs,hw⟩:=hr.alloc (b := .map kt []) (o := .map #[] 0) (base:=0) (room:=0) ⟨#[],0,heap_alloc_new w _,VRs.nil,VRs.nil,by simp,dk,kd,hdk,hkd,by simp⟩
  refine ⟨.map (some w.heap.size),_,_, .inl ?_,hs, .m (updI_same _ _ _),hw⟩
  simp [execOp,Instr.makeMap]

theorem keyEq_self {ι:Io} {kd:KD} {k:V} {k':Value} {r:Bool} (hk:VR ι k k') (he:keyEq kd k k=some r):fitV kd k':=(keyEq_rel hk hk he).1

theorem findE_rel {kd : KD} {k : V} {k' : Value} (hk : VR ι k k') : ∀ {es : List (V × V)} {ks vs : List Value} {r : Option V}, VRs ι (es.map (·.1)) ks → VRs ι (es.map (·.2)) vs → findE kd k es = some r →
    fitV kd k'∧match r with
      | none=>∀ x ∈ ks,fitV kd x∧x ≠ k'
      | some v=>∃ (i:Nat) (v':Value),ks[i]? = some k'∧vs[i]? = some v'∧VR ι v v'
  | [],ks,vs,r,h1,h2,he=>by
    obtain ⟨b,hb,he⟩:=oGet_some (by simp) (show (oGet (keyEq kd k k) none fun _=>some none)=some r from he)
    cases he
    obtain rfl:=h1.inv_nil
    exact ⟨keyEq_self hk hb,by simp⟩
  | (x,y) :: es,ks,vs,r,h1,h2,he=>by
    obtain ⟨x',ks,rfl,hx,h1'⟩:=VRs.inv_cons (show VRs ι (x :: es.map (·.1)) ks from h1)
    obtain ⟨y',vs,rfl,hy,h2'⟩:=VRs.inv_cons (show VRs ι (y :: es.map (·.2)) vs from h2)
    obtain ⟨b,hb,he⟩:=oGet_some (by simp) (show (oGet (keyEq kd k x) none fun r=>bif r then some (some y) else findE kd k es)=some r from he)
    obtain ⟨f1,f2,f3⟩:=keyEq_rel hk hx hb
    cases b with
    | true =>
      cases he
      have e:=f3.1 rfl
      exact ⟨f1,0,y',by simp [e],by simp,hy⟩
    | false =>
      have hne:x' ≠ k':=fun e=>by have:=f3.2 e.symm; cases this
      have he:findE kd k es=some r:=he
      obtain ⟨g1,g2⟩:=findE_rel hk h1' h2' he
      refine ⟨g1,?_⟩
      cases r with
      | none=>intro z hz; rcases List.mem_cons.1 hz with rfl | hz <;> first | exact ⟨f2,hne⟩ | exact g2 z hz
      | some v =>
        obtain ⟨i,v',p1,p2,p3⟩:=g2
        exact ⟨i + 1,v',by simpa using p1,by simpa using p2,p3⟩

theorem nodup_idx {l:List Value} (h:l.Nodup) {i j:Nat} {x:Value} (hi:l[i]? = some x) (hj:l[j]? = some x):i=j:=by
  obtain ⟨h1,e1⟩:=List.getElem?_eq_some_iff.1 hi
  obtain ⟨h2,e2⟩:=List.getElem?_eq_some_iff.1 hj
  exact (List.getElem_inj h).1 (e1.trans e2.symm)

theorem op_look (ha : AR nt ι fr a) (hr : WR Y.tab ι h w) {t kt e : TypeId} {dt dk de : TD} {kd : KD} {z : V} {m k : Operand} {m' k' : EO} {ok : Bool} (ht : Y.tab t = some dt) (hd : dt.desc = .map kt e) (hdk : Y.tab kt = some dk) (hkd : dk.key = some kd) (hde : Y.tab e = some de) (hz : ofVal de.zero = some z)
    (hm:eo m=some m') (hk:eo k=some k') (he:lookV kt kd z h (ev fr m') (ev fr k') ok = .ok v h') :
    OpOk Y h ι a w ⟨d, .lookup t m k ok,ty,pos,aft,g⟩ v h':=by
  have hvm:=ha.ev hm
  have hvk:=ha.ev hk
  unfold lookV at he
  generalize hmv:ev fr m'=mv at hvm he
  cases mv <;> simp only [V.onM] at he <;> try cases he
  rename_i id
  generalize hxv:a.eval m=xv at hvm
  cases hvm with
  | @m _ q hq =>
    have hblk:=hr.blk id q hq
    generalize h.get id=blk at hblk he
    cases blk <;> simp only [Blk.onM] at he <;> try cases he
    rename_i kt' es
    obtain ⟨hkt,heK⟩:=cond_ok RV.no_ne he
    clear he
    have hkt:=Nat.eq_of_beq_eq_true hkt
    subst hkt
    obtain ⟨ents,clock,hh,r1,r2,r3,dk',kd',r4,r5,hfs⟩:=hblk
    rw [hdk] at r4
    cases r4
    rw [hkd] at r5
    cases r5
    obtain ⟨r,hfind,he2⟩:=oGet_ok heK
    obtain ⟨g1,g2⟩:=findE_rel hvk r1 r2 hfind
    have hko:=(Y.htab kt dk hdk).key kd hkd
    have hF:=hko.find w (a.eval k) ents.toList g1 hfs
    have hgo:(getObj q.b).run Y.P w = .ok (.map ents clock) w:=by simp [getObj,Sem.run,hh]
    have hck:=hko.check w ents.isEmpty (a.eval k) g1
    have hzr:=ofVal_rel (ι := ι) hz
    have fin : ∀ {v1 : V} {v1' : Value} {b : Bool} {fnd : Option (Nat × Value)}, (Instr.findKey kt (a.eval k) ents.toList).run Y.P w = .ok fnd w → VR ι v1 v1' → (match fnd with | some (_, x) => x = v1' ∧ b = true | none => v1' = de.zero ∧ b = false) → (bif ok then RV.ok (.tup [v1, .b b]) h else RV.ok v1 h) = RV.ok v h' →
        OpOk Y h ι a w ⟨d, .lookup t m k ok,ty,pos,aft,g⟩ v h':=by
      intro v1 v1' b fnd hfk hv1 hcase hres
      have hrun:(execOp a.eval ⟨d, .lookup t m k ok,ty,pos,aft,g⟩).run Y.P w = .ok (.value (if ok then .tuple #[v1', .bool b] else v1')) w:=by
        cases fnd with
        | none =>
          obtain ⟨rfl,rfl⟩:=hcase
          simp [execOp,Instr.lookup,Rig.und ht,hd,hxv,hgo,hck,hfk,Rig.zero hde]
        | some p =>
          obtain ⟨j,x⟩:=p
          obtain ⟨rfl,rfl⟩:=hcase
          simp [execOp,Instr.lookup,Rig.und ht,hd,hxv,hgo,hck,hfk]
      cases ok with
      | true =>
        cases hres
        exact .pure hr (by simpa using hrun) (VR.tups (VRs.cons hv1 (VRs.cons (.b _) VRs.nil)))
      | false =>
        cases hres
        exact .pure hr (by simpa using hrun) hv1
    cases r with
    | none =>
      rcases hF with ⟨f1,_⟩ | ⟨j,e1,f1,f2,f3⟩
      · exact fin f1 hzr ⟨rfl,rfl⟩ he2
      · exfalso
        have:e1.key ∈ ents.toList.map (·.key):=List.mem_map_of_mem (List.mem_of_getElem? f2)
        exact (g2 _ this).2 f3
    | some v1 =>
      obtain ⟨i,v1',p1,p2,p3⟩:=g2
      rcases hF with ⟨_,f2⟩ | ⟨j,e1,f1,f2,f3⟩
      · exfalso
        have hmem:=List.mem_of_getElem? p1
        obtain ⟨e2,h1,h2⟩:=List.mem_map.1 hmem
        exact f2 e2 h1 h2
      · have hj:(ents.toList.map (·.key))[j]? = some (a.eval k):=by rw [List.getElem?_map,f2]; simp [f3]
        have hij:=nodup_idx r3 p1 hj
        subst hij
        rw [List.getElem?_map,f2] at p2
        have hval:e1.val=v1':=by simpa using p2
        exact fin f1 (hval ▸ p3) ⟨rfl,rfl⟩ he2

theorem VRs.set {cs:List V} {vs:List Value} (hs:VRs ι cs vs) (i:Nat) {c:V} {x:Value} (hc:VR ι c x):VRs ι (cs.set i c) (vs.set i x):=by
  refine ⟨by simp [hs.len],fun j h1 h2=>?_⟩
  by_cases e:i=j
  · subst e; simp only [List.getElem_set_self]; exact hc
  · rw [List.getElem_set_ne e,List.getElem_set_ne e]; exact hs.at_ j _ _

theorem updE_rel {kd : KD} {k x : V} {k' : Value} (hk : VR ι k k') : ∀ {es es' : List (V × V)} {ks vs : List Value}, VRs ι (es.map (·.1)) ks → VRs ι (es.map (·.2)) vs → updE kd k x es = some es' →
    fitV kd k'∧((es'=es ++ [(k,x)] ∧ ∀ z ∈ ks,fitV kd z∧z ≠ k') ∨ ∃ i,ks[i]? = some k'∧es'.map (·.1)=(es.map (·.1)).set i k∧es'.map (·.2)=(es.map (·.2)).set i x)
  | [],es',ks,vs,h1,h2,he=>by
    obtain ⟨b,hb,he⟩:=oGet_some (by simp) (show (oGet (keyEq kd k k) none fun _=>some [(k,x)])=some es' from he)
    cases he
    obtain rfl:=h1.inv_nil
    exact ⟨keyEq_self hk hb, .inl ⟨rfl,by simp⟩⟩
  | (u,y) :: es,es',ks,vs,h1,h2,he=>by
    obtain ⟨u',ks,rfl,hu,h1'⟩:=VRs.inv_cons (show VRs ι (u :: es.map (·.1)) ks from h1)
    obtain ⟨y',vs,rfl,hy,h2'⟩:=VRs.inv_cons (show VRs ι (y :: es.map (·.2)) vs from h2)
    obtain ⟨b,hb,he⟩:=oGet_some (by simp) (show (oGet (keyEq kd k u) none fun r=>bif r then some ((k,x) :: es) else oGet (updE kd k x es) none fun l=>some ((u,y) :: l))=some es' from he)
    obtain ⟨f1,f2,f3⟩:=keyEq_rel hk hu hb
    cases b with
    | true =>
      cases he
      have e:=f3.1 rfl
      exact ⟨f1, .inr ⟨0,by simp [e],by simp,by simp⟩⟩
    | false =>
      have hne:u' ≠ k':=fun e=>by have:=f3.2 e.symm; cases this
      obtain ⟨l,hl,he⟩:=oGet_some (by simp) (show (oGet (updE kd k x es) none fun l=>some ((u,y) :: l))=some es' from he)
      cases he
      obtain ⟨g1,g2⟩:=updE_rel hk h1' h2' hl
      refine ⟨g1,?_⟩
      rcases g2 with ⟨rfl,g2⟩ | ⟨i,p1,p2,p3⟩
      · exact .inl ⟨rfl,fun z hz=>by rcases List.mem_cons.1 hz with rfl | hz <;> first | exact ⟨f2,hne⟩ | exact g2 z hz⟩
      · exact .inr ⟨i + 1,by simpa using p1,by simp [p2],by simp [p3]⟩

theorem op_mupd (ha : AR nt ι fr a) (hr : WR Y.tab ι h w) {t kt e : TypeId} {dt dk : TD} {kd : KD} {m k x : Operand} {m' k' x' : EO} (ht : Y.tab t = some dt) (hd : dt.desc = .map kt e) (hdk : Y.tab kt = some dk) (hkd : dk.key = some kd)
    (hm:eo m=some m') (hk:eo k=some k') (hx:eo x=some x') (he:mupdV kt kd h (ev fr m') (ev fr k') (ev fr x') = .ok v h') :
    OpOk Y h ι a w ⟨d, .mapUpdate t m k x,ty,pos,aft,g⟩ v h':=by
  have hvm:=ha.ev hm
  have hvk:=ha.ev hk
  have hvx:=ha.ev hx
  unfold mupdV at he
  generalize hmv:ev fr m'=mv at hvm he
  cases mv <;> simp only [V.onM] at he <;> try cases he
  rename_i id
  generalize hxv:a.eval m=xv at hvm
  cases hvm with
  | @m _ q hq =>
    have hblk:=hr.blk id q hq
    have hlive:(∃ kt es,h.get id = .map kt es)→live h id:=fun ⟨_,_,e⟩=>by unfold live; rw [e]; simp
    generalize hbg:h.get id=blk at hblk he hlive
    cases blk <;> simp only [Blk.onM] at he <;> try cases he
    rename_i kt' es
    obtain ⟨hkt,heK⟩:=cond_ok RV.no_ne he
    clear he
    have hkt:=Nat.eq_of_beq_eq_true hkt
    subst hkt
    have hlive:=hlive ⟨_,_,rfl⟩
    obtain ⟨ents,clock,hh,r1,r2,r3,dk',kd',r4,r5,hfs⟩:=hblk
    rw [hdk] at r4
    cases r4
    rw [hkd] at r5
    cases r5
    obtain ⟨es',hupd,he2⟩:=oGet_ok heK
    cases he2
    obtain ⟨g1,g2⟩:=updE_rel hvk r1 r2 hupd
    have hko:=(Y.htab kt dk hdk).key kd hkd
    have hF:=hko.find w (a.eval k) ents.toList g1 hfs
    have hgo:(getObj q.b).run Y.P w = .ok (.map ents clock) w:=by simp [getObj,Sem.run,hh]
    have hck:=hko.check w false (a.eval k) g1
    have hset:∀ o:Obj,(setObj q.b o).run Y.P w = .ok () (w.putObj q.b o):=fun o=>by simp [setObj,Sem.run,hh,World.putObj]
    have hlt:q.b < w.heap.size:=hr.lt id q hq
    have hsame:∀ o:Obj,(w.putObj q.b o).heap[q.b]? = some o:=fun o=>by simp [World.putObj,hlt]
    have hoth:∀ (o:Obj) (c:Nat),c ≠ q.b→(w.putObj q.b o).heap[c]? = w.heap[c]?:=fun o c hc=>by
      simp only [World.putObj]; exact Array.getElem?_setIfInBounds_ne (Ne.symm hc)
    have fin : ∀ (ents' : Array MapEntry) (clock' : Nat), (execOp a.eval ⟨d, .mapUpdate t m k x, ty, pos, aft, g⟩).run Y.P w = .ok .skip (w.putObj q.b (.map ents' clock')) → VRs ι (es'.map (·.1)) (ents'.toList.map (·.key)) → VRs ι (es'.map (·.2)) (ents'.toList.map (·.val)) → (ents'.toList.map (·.key)).Nodup → (∀ x ∈ ents'.toList, fitV kd x.key) →
        OpOk Y h ι a w ⟨d, .mapUpdate t m k x,ty,pos,aft,g⟩ undefV (h.put id (.map kt es')):=by
      intro ents' clock' hrun q1 q2 q3 q4
      obtain ⟨s1,s2⟩:=hr.write (b := .map kt es') (w':=w.putObj q.b (.map ents' clock')) hq hlive (by rw [hbg]; exact fun h=>h) (by simp [World.putObj]) (hoth _) rfl rfl rfl ⟨ents',clock',hsame _,q1,q2,q3,dk,kd,hdk,hkd,q4⟩
      exact ⟨undef,_, ι, .inr ⟨hrun,rfl⟩,s1,VR.undef,s2⟩
    rcases g2 with ⟨rfl,g2⟩ | ⟨i,p1,p2,p3⟩
    · have hfk : (Instr.findKey kt (a.eval k) ents.toList).run Y.P w = .ok none w := by
        rcases hF with ⟨f1,_⟩ | ⟨j,e1,f1,f2,f3⟩
        · exact f1
        · exfalso
          have:e1.key ∈ ents.toList.map (·.key):=List.mem_map_of_mem (List.mem_of_getElem? f2)
          exact (g2 _ this).2 f3
      refine fin (ents.push { key:=a.eval k,val:=a.eval x,born:=clock }) (clock + 1) ?_ ?_ ?_ ?_ ?_
      · simp [execOp,Instr.mapUpdate,Rig.und ht,hd,hxv,hgo,hck,hfk,hset]
      · simpa using r1.append (VRs.cons hvk VRs.nil)
      · simpa using r2.append (VRs.cons hvx VRs.nil)
      · simp only [Array.toList_push,List.map_append,List.map_cons,List.map_nil]
        rw [List.nodup_append]
        refine ⟨r3,by simp,fun b1 h1 b2 h2=>?_⟩
        simp only [List.mem_singleton] at h2
        subst h2
        exact (g2 b1 h1).2
      · intro y hy
        simp only [Array.toList_push,List.mem_append,List.mem_singleton] at hy
        rcases hy with hy | rfl
        · exact hfs y hy
        · exact g1
    · rcases hF with ⟨_,f2⟩ | ⟨j,e1,f1,f2,f3⟩
      · exfalso
        have hmem:=List.mem_of_getElem? p1
        obtain ⟨e2,h1,h2⟩:=List.mem_map.1 hmem
        exact f2 e2 h1 h2
      · have hj:(ents.toList.map (·.key))[j]? = some (a.eval k):=by rw [List.getElem?_map,f2]; simp [f3]
        have hij:=nodup_idx r3 p1 hj
        subst hij
        have hst:=hko.stays w (a.eval k) g1
        have hei:ents[i]? = some e1:=by rw [← Array.getElem?_toList]; exact f2
        have hkk:((ents[i]?).map (·.key)).getD (a.eval k)=a.eval k:=by rw [hei]; simp [f3]
        have hil:i < ents.toList.length:=(List.getElem?_eq_some_iff.1 f2).1
        have hml:(ents.modify i fun e => { e with key:=a.eval k,val:=a.eval x }).toList=ents.toList.set i { e1 with key:=a.eval k,val:=a.eval x }:=by
          rw [Array.toList_modify,List.modify_eq_set]
          rw [f2]
          rfl
        refine fin (ents.modify i fun e => { e with key:=a.eval k,val:=a.eval x }) clock ?_ ?_ ?_ ?_ ?_
        · simp [execOp,Instr.mapUpdate,Rig.und ht,hd,hxv,hgo,hck,f1,hkk,hst,hset]
        · rw [hml,p2,List.map_set]; exact r1.set i hvk
        · rw [hml,p3,List.map_set]; exact r2.set i hvx
        · rw [hml,List.map_set]
          have:(ents.toList.map (·.key)).set i (a.eval k)=ents.toList.map (·.key):=by
            apply List.ext_getElem?
            intro n
            rw [List.getElem?_set]
            split
            · rename_i e; subst e; rw [p1]; simpa using hil
            · rfl
          simpa [this] using r3
        · intro y hy
          rw [hml] at hy
          rcases List.mem_or_eq_of_mem_set hy with hy | rfl
          · exact hfs y hy
          · exact g1
theorem eqs_run {t e:TypeId} {dt:TD} (ht:Y.tab t=some dt) (hd:dt.desc = .slice e) (w:World) (b:Option Addr) (n c:Nat):(Op.equal t (.slice b n c) (.slice none 0 0)).run Y.P w = .ok b.isNone w:=by
  unfold Op.equal
  obtain ⟨m,hm⟩:∃ m,Op.maxDepth=m + 1:=⟨Op.maxDepth - 1,rfl⟩
  rw [hm]
  unfold Op.equalIn
  cases b <;> simp [Rig.und ht,hd]
theorem op_isnil (ha : AR nt ι fr a) (hr : WR Y.tab ι h w) {neg : Bool} {t t' e : TypeId} {dt : TD} {x y : Operand} {x' : EO} (ht : Y.tab t = some dt) (hd : dt.desc = .slice e) (hx : eo x = some x') (hy : eo y = some (.c .sn))
    (he:isnilV neg (ev fr x') h = .ok v h'):OpOk Y h ι a w ⟨d, .binOp (if neg then .neq else .eql) t x y t',ty,pos,aft,g⟩ v h':=by
  have hvx:=ha.ev hx
  have hvy:=ha.ev hy
  change VR ι .sn (a.eval y) at hvy
  generalize hyv:a.eval y=yv at hvy
  cases hvy
  generalize hxv:a.eval x=xv at hvx
  have hb2:∀ b n c,(binOp (if neg then .neq else .eql) t (.slice b n c) (.slice none 0 0)).run Y.P w = .ok (.bool (bif neg then !b.isNone else b.isNone)) w:=fun b n c=>by
    cases neg <;> simp [binOp,eqs_run ht hd]
  have hg2:∀ b n c,(eqGuard (if neg then .neq else .eql) t x y (.slice b n c) (.slice none 0 0)).run Y.P w = .ok () w:=fun b n c=>by
    cases neg <;> simp [eqGuard]
  rcases V.onSl_ok RV.no_ne he with ⟨hb,he⟩ | ⟨id,off,n,sz',hb,he⟩
  · rw [hb] at hvx
    cases hvx
    cases he
    refine .pure (v' := .bool (!neg)) hr ?_ (.b _)
    simp only [execOp,hxv,hyv,Sem.run_bind,hg2,Result.andThen_ok,hb2,Sem.run_pure]
    cases neg <;> rfl
  · replace hvx:=VR.of_sl hb hvx
    cases he
    refine .pure (v' := .bool neg) hr ?_ (.b _)
    cases hvx <;> simp only [execOp,hxv,hyv,Sem.run_bind,hg2,Result.andThen_ok,hb2,Sem.run_pure] <;> cases neg <;> rfl
theorem op_lenM (ha : AR nt ι fr a) (hr : WR Y.tab ι h w) {t kt e : TypeId} {dt : TD} {x : Operand} {x' : EO} (ht : Y.tab t = some dt) (hd : dt.desc = .map kt e) (hx : eo x = some x') (he : lenMV kt (ev fr x') h = .ok v h') :
    OpOk Y h ι a w ⟨d, .call ⟨.builtin .len, #[x], #[t]⟩,ty,pos,aft,g⟩ v h':=by
  have hvm:=ha.ev hx
  unfold lenMV at he
  generalize hmv:ev fr x'=mv at hvm he
  cases mv <;> simp only [V.onM] at he <;> try cases he
  rename_i id
  generalize hxv:a.eval x=xv at hvm
  cases hvm with
  | @m _ q hq =>
    have hblk:=hr.blk id q hq
    generalize h.get id=blk at hblk he
    cases blk <;> simp only [Blk.onM] at he <;> try cases he
    rename_i kt' es
    obtain ⟨_,he⟩:=cond_ok RV.no_ne he
    obtain ⟨ents,clock,hh,r1,r2,_⟩:=hblk
    cases he
    have hl:ents.size=lenL es:=by have:=r1.len; simp at this; rw [lenL_eq]; exact this
    have hgo:(getObj q.b).run Y.P w = .ok (.map ents clock) w:=by simp [getObj,Sem.run,hh]
    refine .pure (v' := .int .i64 (lenL es:Int)) hr ?_ (.i _ _)
    simp [execOp,resolve,hxv,invoke,builtin,Builtin.len_,Rig.und ht,hd,goInt,hgo,hl]
end ops
end Go.Ev
namespace Go.Ev
open Go Go.RowKit
section ops
variable {Y:Rig} {nt:Nat} {ι:Io} {fr:Fr} {a:Act} {h h':H} {w:World} {v:V} {d:Option Tmp} {ty:TypeId} {pos:String} {aft:Array Edge} {g:Option (Nat × Bool)}
theorem op_nilck (ha:AR nt ι fr a) (hr:WR Y.tab ι h w) {x:Operand} {x':EO} (hx:eo x=some x') (he:(ev fr x').onNN (fun v=>RV.ok v h) = .ok v h'):OpOk Y h ι a w ⟨d, .nilCheck x,ty,pos,aft,g⟩ v h':=by
  have hv:=ha.ev hx
  generalize ev fr x'=xv' at he hv
  generalize hxv:a.eval x=xv at hv
  cases hv <;> simp only [V.onNN] at he <;> try cases he
  case p hq=>exact .pure hr (by simp [execOp,hxv]) (.p hq)
  case fn hl hh=>exact .pure hr (by simp [execOp,hxv]) (.fn hl hh)
  case bf a b c e=>exact .pure hr (by simp [execOp,hxv]) (.bf a b c e)
theorem V.onSo_ok {α:Type} {x:V} {f:ByteArray→Option α} {v : α} (e:x.onS none f=some v):∃ b,x = .s b∧f b=some v:=by
  cases x <;> first | exact ⟨_,rfl,e⟩ | cases e
theorem VR.of_s {ι:Io} {b:ByteArray} {v:Value} (h:VR ι (.s b) v):v = .string b:=by cases h; rfl
theorem beqB_eq (a b:UInt8):beqB a b=(a == b):=by
  unfold beqB
  rw [Bool.eq_iff_iff,Nat.beq_eq,beq_iff_eq,UInt8.toNat_inj]
theorem sameB_eq:∀ l m:List UInt8,sameB l m=(l == m)
  | [], []=>rfl
  | [],_ :: _=>rfl
  | _ :: _, []=>rfl
  | x :: l,y :: m=>by
    show (beqB x y && sameB l m)=_
    rw [beqB_eq,sameB_eq l m]; rfl
theorem bytes_len (b:ByteArray):lenL (bytes b)=b.size:=by rw [lenL_eq]; rfl
theorem bytes_cat (a b:ByteArray):(⟨⟨cat (bytes a) (bytes b)⟩⟩:ByteArray)=a ++ b:=by
  rw [cat_eq]
  apply ByteArray.ext
  rw [ByteArray.data_append]
  apply Array.ext'
  simp [bytes]
theorem eqGuard_str (op:BinOp) (t:TypeId) (x y:Operand) (a b:ByteArray) (w:World):(eqGuard op t x y (.string a) (.string b)).run Y.P w = .ok () w:=by
  unfold eqGuard; cases op <;> rfl
theorem toList_bytes (a:ByteArray):a.toList=bytes a:=ByteArray.toList_eq a
theorem op_sbin (ha : AR nt ι fr a) (hr : WR Y.tab ι h w) {op : BinOp} {p : PK} {t t' : TypeId} {dt : TD} {x y : Operand} {x' y' : EO} (_ : Y.tab t = some dt) (_ : dt.desc = .string) (hx : eo x = some x') (hy : eo y = some y')
    (hp:(op = .add∧p = .sadd) ∨ (op = .eql∧p = .seql false) ∨ (op = .neq∧p = .seql true)) (he:okv (prV p (ev fr x') (ev fr y')) h = .ok v h'):OpOk Y h ι a w ⟨d, .binOp op t x y t',ty,pos,aft,g⟩ v h':=by
  obtain ⟨he1,hq⟩:=okv_ok he
  clear he
  subst hq
  have he:=he1
  clear he1
  have hvx:=ha.ev hx
  have hvy:=ha.ev hy
  rcases hp with ⟨rfl,rfl⟩ | ⟨rfl,rfl⟩ | ⟨rfl,rfl⟩
  all_goals
    obtain ⟨b1,e1,he⟩:=V.onSo_ok he
    obtain ⟨b2,e2,he⟩:=V.onSo_ok he
    rw [e1] at hvx
    rw [e2] at hvy
    have hxv:=hvx.of_s
    have hyv:=hvy.of_s
  · obtain ⟨hc,he⟩:=cond_ok (by simp) he
    cases he
    have hc:=Nat.le_of_ble_eq_true hc
    rw [bytes_len,bytes_len] at hc
    rw [bytes_cat]
    refine .pure (v' := .string (b1 ++ b2)) hr ?_ (.s _)
    have c1:¬ (((b1.size + b2.size:Nat):Int) > 9223372036854775807):=by omega
    simp [execOp,hxv,hyv,eqGuard_str,binOp,Op.stringOp]
    omega
  · cases he
    refine .pure (v' := .bool (sameB (bytes b1) (bytes b2))) hr ?_ (.b _)
    simp [execOp,hxv,hyv,eqGuard_str,binOp,Op.stringOp,sameB_eq,toList_bytes]
  · cases he
    refine .pure (v' := .bool (!sameB (bytes b1) (bytes b2))) hr ?_ (.b _)
    simp [execOp,hxv,hyv,eqGuard_str,binOp,Op.stringOp,sameB_eq,toList_bytes]
theorem op_sidx (ha : AR nt ι fr a) (hr : WR Y.tab ι h w) {t : TypeId} {dt : TD} {x i : Operand} {x' i' : EO} (ht : Y.tab t = some dt) (hd : dt.desc = .string) (hx : eo x = some x') (hi : eo i = some i')
    (he:okv (prV .sidx (ev fr x') (ev fr i')) h = .ok v h'):OpOk Y h ι a w ⟨d, .index t x i,ty,pos,aft,g⟩ v h':=by
  obtain ⟨he1,hq⟩:=okv_ok he
  clear he
  subst hq
  have he:=he1
  clear he1
  have hvx:=ha.ev hx
  have hvi:=ha.ev hi
  obtain ⟨b1,e1,he⟩:=V.onSo_ok he
  obtain ⟨k,n,e2,he⟩:=V.onIo_ok he
  obtain ⟨m,hm,he⟩:=oGet_some (by simp) he
  obtain ⟨c,hc,he⟩:=oGet_some (by simp) he
  cases he
  have hmn:=nonneg_some hm
  subst hmn
  rw [e1] at hvx
  rw [e2] at hvi
  have hxv:=hvx.of_s
  have hiv:=hvi.of_i
  rw [nth_eq] at hc
  have hc':b1[m]? = some c:=by
    unfold bytes at hc
    rw [Array.getElem?_toList] at hc
    rw [← hc]
    show (if h:m < b1.size then some b1[m] else none)=_
    by_cases hlt:m < b1.size
    · rw [dif_pos hlt,Array.getElem?_eq_getElem (show m < b1.data.size from hlt)]; rfl
    · rw [dif_neg hlt,Array.getElem?_eq_none (show b1.data.size ≤ m by exact Nat.le_of_not_lt hlt)]
  refine .pure (v' := .int .u8 (c.toNat:Int)) hr ?_ (.i _ _)
  simp [execOp,Instr.index,hxv,hiv,asIntOf,Rig.und ht,hd,hc']
theorem op_slen (ha : AR nt ι fr a) (hr : WR Y.tab ι h w) {t : TypeId} {dt : TD} {x : Operand} {x' : EO} (ht : Y.tab t = some dt) (hd : dt.desc = .string) (hx : eo x = some x') (he : okv (prV .slen (ev fr x') (ev fr x')) h = .ok v h') :
    OpOk Y h ι a w ⟨d, .call ⟨.builtin .len, #[x], #[t]⟩,ty,pos,aft,g⟩ v h':=by
  obtain ⟨he1,hq⟩:=okv_ok he
  clear he
  subst hq
  have he:=he1
  clear he1
  have hvx:=ha.ev hx
  obtain ⟨b1,e1,he⟩:=V.onSo_ok he
  cases he
  rw [e1] at hvx
  have hxv:=hvx.of_s
  rw [bytes_len]
  exact .pure (v' := .int .i64 (b1.size:Int)) hr (by simp [execOp,resolve,hxv,invoke,builtin,Builtin.len_,Rig.und ht,hd,goInt]) (.i _ _)
theorem op_scap (ha : AR nt ι fr a) (hr : WR Y.tab ι h w) {t e : TypeId} {dt : TD} {x : Operand} {x' : EO} (ht : Y.tab t = some dt) (hd : dt.desc = .slice e) (hx : eo x = some x') (he : okv (prV .scap (ev fr x') (ev fr x')) h = .ok v h') :
    OpOk Y h ι a w ⟨d, .call ⟨.builtin .cap, #[x], #[t]⟩,ty,pos,aft,g⟩ v h':=by
  obtain ⟨he1,hq⟩:=okv_ok he
  clear he
  subst hq
  have he:=he1
  clear he1
  have hvx:=ha.ev hx
  unfold prV at he
  generalize ev fr x'=xv' at he hvx
  generalize hxv:a.eval x=xv at hvx
  cases hvx <;> simp only [reduceCtorEq] at he <;> cases he
  case sn=>exact .pure (v' := .int .i64 0) hr (by simp [execOp,resolve,hxv,invoke,builtin,Builtin.cap_,Rig.und ht,hd,goInt]) (.i _ _)
  case slt hq hc h0=>exact .pure (v' := .int .i64 (_:Nat)) hr (by simp [execOp,resolve,hxv,invoke,builtin,Builtin.cap_,Rig.und ht,hd,goInt]) (.i _ _)
  case slt0=>exact .pure (v' := .int .i64 0) hr (by simp [execOp,resolve,hxv,invoke,builtin,Builtin.cap_,Rig.und ht,hd,goInt]) (.i _ _)
theorem op_clr (ha : AR nt ι fr a) (hr : WR Y.tab ι h w) {t e : TypeId} {dt de : TD} {z : List V} {x : Operand} {x' : EO} (ht : Y.tab t = some dt) (hd : dt.desc = .slice e) (hde : Y.tab e = some de) (hzo : zeroOf de = some z) (hp : 0 < de.size) (hl : z.length = de.size)
    (hx:eo x=some x') (he:clrV de.size z h (ev fr x') = .ok v h'):OpOk Y h ι a w ⟨d, .call ⟨.builtin .clear, #[x], #[t]⟩,ty,pos,aft,g⟩ v h':=by
  have hvx:=ha.ev hx
  generalize hxv:a.eval x=xv at hvx
  have hu:Y.P.underlying t=some (.slice e):=by rw [(Y.htab t dt ht).und,hd]
  unfold clrV at he
  have hex:∀ w',(Builtin.clear_ #[t] ty #[xv]).run Y.P w = .ok undef w'→(execOp a.eval ⟨d, .call ⟨.builtin .clear, #[x], #[t]⟩,ty,pos,aft,g⟩).run Y.P w = .ok (.value undef) w':=fun w' h=>by
    simp [execOp,resolve,invoke,builtin,hxv,h]
  have hnil:∀ b c,xv = .slice b 0 c→(Builtin.clear_ #[t] ty #[xv]).run Y.P w = .ok undef w:=fun b c e=>by
    subst e
    cases b <;> simp [Builtin.clear_,run_underlying hu,undef]
  rcases V.onSl_ok RV.no_ne he with ⟨hb,he⟩ | ⟨id,off,n,sz',hb,he⟩
  · rw [hb] at hvx
    cases hvx
    cases he
    exact .pure hr (hex _ (hnil _ _ rfl)) VR.undef
  · replace hvx:=VR.of_sl hb hvx
    cases hn0:Nat.beq n 0 with
    | true =>
      rw [hn0] at he
      cases he
      have hn0:=Nat.eq_of_beq_eq_true hn0
      subst hn0
      refine .pure hr (hex _ ?_) VR.undef
      cases hvx with
      | sl hq hc h1 h0=>exact hnil _ _ rfl
      | sl0=>exact hnil _ _ rfl
    | false =>
      rw [hn0] at he
      have hn0:n ≠ 0:=fun e=>by rw [e] at hn0; cases hn0
      obtain ⟨m,cs,hbk,he⟩:=Blk.onW_ok RV.no_ne he
      obtain ⟨hc,he⟩:=cond_ok RV.no_ne he
      cases he
      rw [Bool.and_eq_true] at hc
      have hsz:=Nat.eq_of_beq_eq_true hc.1
      have hm:=Nat.le_of_ble_eq_true hc.2
      subst hsz
      cases hvx with
      | sl0=>exact absurd rfl hn0
      | @sl _ _ _ _ c q hi hcap hnc h0 =>
        obtain ⟨z1,z2⟩:=zeros_rel (ι := ι) hzo hl hp n
        have hrl:(rep z n).length=n * de.size:=by rw [rep_length,hl]
        obtain ⟨g1,g2,g3⟩:=write_rel (off:=off) hr hi hbk (xs:=rep z n) (by rw [hrl]; exact hm) z1 z2
        have hzs:de.zero.cells.size=de.size:=by
          obtain ⟨q1,_⟩:=ofV1s_rel (ι := ι) hzo
          rw [← Array.length_toList,q1.len,hl]
        refine ⟨undef,_,_, .inl (hex _ ?_),g2,VR.undef,g3⟩
        obtain ⟨k,rfl⟩:∃ k,n=k + 1:=⟨n - 1,by omega⟩
        have hz:=fun w=>Rig.zero hde w
        have hzc:Builtin.zeroCells de.zero.cells (k + 1)=(Array.range ((k + 1) * de.size)).map fun i=>de.zero.cells[i % de.zero.cells.size]!:=by rw [Builtin.zeroCells,hzs]
        rw [← hzc] at g1
        simp only [Builtin.clear_,List.getElem?_toArray,List.getElem?_cons_zero,Sem.run_bind,run_underlying hu,Result.andThen_ok,hz,g1,Sem.run_pure]
        rw [hzc]; rfl
theorem op_appZ (ha : AR nt ι fr a) (hr : WR Y.tab ι h w) {t t' e : TypeId} {k0 : IntKind} {dt du de : TD} {z : List V} {x y : Operand} {x' y' : EO} (ht : Y.tab t = some dt) (hd : dt.desc = .slice e) (hu' : Y.tab t' = some du) (hdu : du.desc = .int k0) (hde : Y.tab e = some de) (hzo : zeroOf de = some z) (hp : 0 < de.size) (hl : z.length = de.size) (hb : de.bytes ≤ 1000000)
    (hx:eo x=some x') (hy:eo y=some y') (he:appZV de.size z h (ev fr x') (ev fr y') = .ok v h'):OpOk Y h ι a w ⟨d, .call ⟨.builtin .append, #[x,y], #[t,t']⟩,ty,pos,aft,g⟩ v h':=by
  have hvx:=ha.ev hx
  have hvy:=ha.ev hy
  unfold appZV at he
  split at he
  · rename_i hxe
    rw [hxe] at hvx
    generalize hxv:a.eval x=xv at hvx
    cases hvx
    obtain ⟨k,m,hm,he1⟩:=V.onI_ok he
    obtain ⟨n,hn,he2⟩:=oGet_ok he1
    obtain ⟨hc,he3⟩:=cond_ok RV.no_ne he2
    have hc:n ≤ 16777216:=Nat.le_of_ble_eq_true hc
    have hmn:=nonneg_some hn
    subst hmn
    rw [hm] at hvy
    have hev:=hvy.of_i
    obtain ⟨i,hi,hi1,hi2,hi3⟩:=Rig.info hde
    have hu:Y.P.underlying t=some (.slice e):=by rw [(Y.htab t dt ht).und,hd]
    have huu:Y.P.underlying t'=some (.int k0):=by rw [(Y.htab t' du hu').und,hdu]
    have hex:∀ v' w',(Builtin.append_ #[t,t'] ty #[.slice none 0 0, .int k (n:Int)]).run Y.P w = .ok v' w'→(execOp a.eval ⟨d, .call ⟨.builtin .append, #[x,y], #[t,t']⟩,ty,pos,aft,g⟩).run Y.P w = .ok (.value v') w':=fun v' w' h=>by
      simp [execOp,resolve,invoke,builtin,hxv,hev,h]
    have hw1:IntKind.i64.wrap (n:Int)=n:=wrap_in .i64 _ (by simp only [kmin]; omega) (by simp only [kmax]; omega)
    have c1:¬ ((n:Int) < 0):=by omega
    have hby:n * i.bytes ≤ 16777216 * 1000000:=by rw [hi2]; exact Nat.mul_le_mul hc hb
    have c2:¬ ((281474976710656:Int) < (n:Int) * (i.bytes:Int)):=by rw [← Int.natCast_mul]; omega
    unfold app0 at he3
    cases hm0:Nat.beq n 0 with
    | true =>
      rw [hm0] at he3
      cases he3
      have hm0:=Nat.eq_of_beq_eq_true hm0
      subst hm0
      refine .pure hr (hex (.slice none 0 0) w ?_) .sn
      have hw0:IntKind.i64.wrap 0=0:=hw1
      simp [Builtin.append_,run_underlying hu,run_underlying huu,sizeOf,typeInfo,hi,asInt,asIntOf,hw0]
    | false =>
      rw [hm0] at he3
      cases he3
      have hm0:n ≠ 0:=fun e=>by rw [e] at hm0; cases hm0
      obtain ⟨h1,h2⟩:=zeros_rel (ι := ι) hzo hl hp n
      have hzl:de.zero.cells.size=de.size:=by
        obtain ⟨h1,h2⟩:=ofV1s_rel (ι := ι) hzo
        rw [← Array.length_toList,h1.len,hl]
      obtain ⟨ι',s1,s2,s3⟩:=grow_rel (e:=e) (z:=de.zero.cells) (cap:=grownCap w n 0 e) hr h1 (by simp) h2 hzl (grownCap_ge w n 0 e) hp
      refine ⟨_,_, ι', .inl (hex _ _ ?_),s1,s2,s3⟩
      have h48':¬ (281474976710656 < Builtin.nextslicecap n 0 * i.bytes):=by rw [nextslicecap_zero (by omega)]; omega
      have h63':¬ (9223372036854775807 < (n:Int)):=by omega
      have hns:n * de.size ≠ 0:=fun e=>by rcases Nat.mul_eq_zero.1 e with h | h <;> omega
      simp [Builtin.append_,run_underlying hu,run_underlying huu,sizeOf,typeInfo,zeroValue,hi,hi1,hi3,asInt,asIntOf,hw1,c1,c2,hm0,h63',h48',Question.forced,run_firstCells_none,newRow,grownCap,hns]
      congr 3
      simp only [Builtin.zeroCells,hzl]
      apply Array.ext'
      simp
  · cases he

end ops
end Go.Ev
namespace Go.Ev
open Go Go.RowKit

section
variable {Y:Rig} {nt:Nat} {ι:Io} {fr:Fr} {a:Act} {h h':H} {w:World} {v:V} {d:Option Tmp} {ty:TypeId} {pos:String} {aft:Array Edge} {g:Option (Nat × Bool)}

def isCall:Op→Bool
  | .call c=>match c.callee with | .value _=>true | _=>false
  | _=>false

theorem evop_rel {fs:T EF} {go:Go} (ha:AR nt ι fr a) (hr:WR Y.tab ι h w) {op:Op} {eop:EOp} (hnc:isCall op=false) (hc:compOp Y.tab op=some eop) (he:evop fs go fr h eop = .ok v h'):OpOk Y h ι a w ⟨d,op,ty,pos,aft,g⟩ v h':=by
  cases op
  case move x =>
    simp only [compOp,Option.map_eq_some_iff] at hc
    obtain ⟨x',hx,rfl⟩:=hc
    cases he
    exact op_move ha hr hx
  case assign x =>
    simp only [compOp,Option.map_eq_some_iff] at hc
    obtain ⟨x',hx,rfl⟩:=hc
    cases he
    exact op_assign ha hr hx
  case pick c x y =>
    simp only [compOp,Option.bind_eq_bind,Option.bind_eq_some_iff,Option.some.injEq] at hc
    obtain ⟨c',h1,x',h2,y',h3,rfl⟩:=hc
    exact op_pick ha hr h1 h2 h3 he
  case alloc t =>
    simp only [compOp,Option.bind_eq_bind,Option.bind_eq_some_iff,Option.some.injEq] at hc
    obtain ⟨dt,h1,z,h2,rfl⟩:=hc
    cases he
    exact op_alloc hr h1 h2
  case box t x =>
    simp only [compOp,Option.bind_eq_bind,Option.bind_eq_some_iff,Option.some.injEq] at hc
    obtain ⟨dt,h1,x',h2,rfl⟩:=hc
    obtain ⟨cs,h3,he⟩:=oGet_ok he
    cases he
    exact op_box ha hr h2 h3
  case build t ps =>
    simp only [compOp,Option.bind_eq_bind,Option.bind_eq_some_iff] at hc
    obtain ⟨dt,h1,hc⟩:=hc
    cases hd:dt.desc <;> rw [hd] at hc <;> simp only [reduceCtorEq] at hc
    case array n e =>
      simp only [Option.bind_eq_some_iff,Option.some.injEq] at hc
      obtain ⟨de,h2,z,h3,qs,h4,rfl⟩:=hc
      obtain ⟨cs,h5,he⟩:=oGet_ok he
      cases he
      exact op_build_arr ha hr h1 hd h2 h3 h4 h5
    case struct fs =>
      simp only [Option.bind_eq_some_iff,Option.some.injEq] at hc
      obtain ⟨z,h2,szs,h3,qs,h4,rfl⟩:=hc
      obtain ⟨cs,h5,he⟩:=oGet_ok he
      cases he
      exact op_build_str ha hr h1 hd h2 h3 h4 h5
  case buildSlice t n ps =>
    simp only [compOp,Option.bind_eq_bind,Option.bind_eq_some_iff] at hc
    obtain ⟨dt,h1,hc⟩:=hc
    cases hd:dt.desc <;> rw [hd] at hc <;> simp only [reduceCtorEq] at hc
    case slice e =>
      simp only [Option.bind_eq_some_iff] at hc
      obtain ⟨de,h2,z,h3,hc⟩:=hc
      split at hc
      · rename_i hcond
        obtain ⟨c1,c2,c3⟩:=hcond
        simp only [Option.bind_eq_some_iff,Option.some.injEq] at hc
        obtain ⟨qs,h4,rfl⟩:=hc
        obtain ⟨cs,h5,he⟩:=oGet_ok he
        cases he
        exact op_buildSlice ha hr h1 hd h2 h3 c1 c2 c3 h4 h5
      · cases hc
  case load t p =>
    simp only [compOp,Option.bind_eq_bind,Option.bind_eq_some_iff] at hc
    obtain ⟨dt,h1,hc⟩:=hc
    split at hc
    · rename_i hg
      simp only [Option.bind_eq_some_iff,Option.some.injEq] at hc
      obtain ⟨p',h2,rfl⟩:=hc
      exact op_loadn ha hr h1 hg h2 he
    · rename_i hg
      simp only [Option.bind_eq_some_iff,Option.some.injEq] at hc
      obtain ⟨p',h2,rfl⟩:=hc
      exact op_load ha hr h1 (by simpa using hg) h2 he
  case store t p x =>
    simp only [compOp,Option.bind_eq_bind,Option.bind_eq_some_iff,Option.some.injEq] at hc
    obtain ⟨dt,h1,p',h2,x',h3,rfl⟩:=hc
    exact op_store ha hr h1 h2 h3 he
  case binOp op t x y t' =>
    simp only [compOp,Option.bind_eq_bind,Option.bind_eq_some_iff] at hc
    obtain ⟨dt,h1,hc⟩:=hc
    split at hc
    · simp only [Option.bind_eq_some_iff,Option.some.injEq] at hc
      obtain ⟨x',h2,y',h3,rfl⟩:=hc
      exact op_bin ha hr h2 h3 he
    · rename_i hd
      simp only [Option.bind_eq_some_iff,Option.some.injEq] at hc
      obtain ⟨p,hp,x',h2,y',h3,rfl⟩:=hc
      refine op_sbin ha hr h1 hd h2 h3 ?_ he
      cases op <;> simp [strK] at hp ⊢ <;> exact hp.symm
    · rename_i e hd
      split at hc
      · rename_i hy
        simp only [Option.map_eq_some_iff] at hc
        obtain ⟨x',hx,rfl⟩:=hc
        exact op_isnil (neg:=false) ha hr h1 hd hx hy he
      · rename_i hy
        simp only [Option.map_eq_some_iff] at hc
        obtain ⟨x',hx,rfl⟩:=hc
        exact op_isnil (neg:=true) ha hr h1 hd hx hy he
      · cases hc
    · simp only [Option.bind_eq_some_iff] at hc
      obtain ⟨kd,h2,hc⟩:=hc
      cases op <;> simp only [reduceCtorEq] at hc
      · simp only [Option.bind_eq_some_iff,Option.some.injEq] at hc
        obtain ⟨x',h3,y',h4,rfl⟩:=hc
        exact op_eqk (neg:=false) ha hr h1 h2 h3 h4 he
      · simp only [Option.bind_eq_some_iff,Option.some.injEq] at hc
        obtain ⟨x',h3,y',h4,rfl⟩:=hc
        exact op_eqk (neg:=true) ha hr h1 h2 h3 h4 he
  case nilCheck x =>
    simp only [compOp,Option.map_eq_some_iff] at hc
    obtain ⟨x',hx,rfl⟩:=hc
    exact op_nilck ha hr hx he
  case unOp op t x =>
    cases op <;> simp only [compOp,Option.map_eq_some_iff,reduceCtorEq] at hc
    · obtain ⟨x',hx,rfl⟩:=hc
      exact op_neg ha hr hx he
    · simp only [Option.bind_eq_bind,Option.bind_eq_some_iff] at hc
      obtain ⟨dt,h1,hc⟩:=hc
      split at hc
      · simp only [Option.bind_eq_some_iff,Option.some.injEq] at hc
        obtain ⟨x',hx,rfl⟩:=hc
        exact op_xor1 ha hr hx he
      · cases hc
    · obtain ⟨x',hx,rfl⟩:=hc
      exact op_not ha hr hx he
  case convert s t x =>
    simp only [compOp,Option.bind_eq_bind,Option.bind_eq_some_iff] at hc
    obtain ⟨ds,h1,dt,h2,hc⟩:=hc
    split at hc
    · rename_i k0 k hd1 hd2
      simp only [Option.map_eq_some_iff] at hc
      obtain ⟨x',hx,rfl⟩:=hc
      exact op_conv ha hr h1 h2 hd1 hd2 hx he
    · cases hc
  case makeFunc fn fs cs =>
    cases fn <;> simp only [compOp,reduceCtorEq] at hc
    split at hc
    · rename_i hf
      simp only [Option.map_eq_some_iff] at hc
      obtain ⟨cs',h1,rfl⟩:=hc
      cases he
      exact op_mkfn ha hr hf h1
    · simp only [Option.bind_eq_bind,Option.bind_eq_some_iff,Option.some.injEq] at hc
      obtain ⟨fs',h1,cs',h2,rfl⟩:=hc
      cases he
      exact op_mkbf ha hr h1 h2
  case makeMap t r =>
    cases r <;> simp only [compOp,reduceCtorEq] at hc
    simp only [Option.bind_eq_bind,Option.bind_eq_some_iff] at hc
    obtain ⟨dt,h1,hc⟩:=hc
    split at hc
    · simp only [Option.bind_eq_some_iff,Option.some.injEq] at hc
      obtain ⟨dk,h2,kd,h3,rfl⟩:=hc
      cases he
      exact op_mkmap hr h2 h3
    · cases hc
  case makeSlice t l c =>
    simp only [compOp] at hc
    split at hc
    · rename_i hs
      simp only [Option.bind_eq_bind,Option.bind_eq_some_iff] at hc
      obtain ⟨dt,h1,hc⟩:=hc
      split at hc
      · rename_i e hd
        simp only [Option.bind_eq_some_iff] at hc
        obtain ⟨de,h2,z,h3,hc⟩:=hc
        split at hc
        · rename_i hcond
          simp only [Option.bind_eq_some_iff,Option.some.injEq] at hc
          obtain ⟨l',h4,rfl⟩:=hc
          exact op_mkslice ha hr h1 hd h2 h3 hcond.1 hcond.2.1 hcond.2.2 hs h4 he
        · cases hc
      · cases hc
    · simp only [Option.bind_eq_bind,Option.bind_eq_some_iff] at hc
      obtain ⟨dt,h1,hc⟩:=hc
      split at hc
      · rename_i e hd
        simp only [Option.bind_eq_some_iff] at hc
        obtain ⟨de,h2,z,h3,hc⟩:=hc
        split at hc
        · rename_i hcond
          simp only [Option.bind_eq_some_iff,Option.some.injEq] at hc
          obtain ⟨l',h4,c',h5,rfl⟩:=hc
          exact op_mkslC ha hr h1 hd h2 h3 hcond.1 hcond.2.1 hcond.2.2 h4 h5 he
        · cases hc
      · cases hc
  case slice t x lo hi mx =>
    simp only [compOp,Option.bind_eq_bind,Option.bind_eq_some_iff] at hc
    obtain ⟨dt,h1,hc⟩:=hc
    split at hc
    · rename_i e hd
      split at hc
      · rename_i hmh
        simp only [Option.bind_eq_some_iff,Option.some.injEq] at hc
        obtain ⟨de,h2,x',h3,lo',h4,hi',h5,mx',h6,rfl⟩:=hc
        exact op_slice ha hr h1 hd h2 h3 h4 h5 h6 he hmh
      · cases hc
    · rename_i arr hd
      split at hc
      · rename_i hmx
        subst hmx
        simp only [Option.bind_eq_some_iff] at hc
        obtain ⟨da,h2,hc⟩:=hc
        split at hc
        · rename_i n e hda
          simp only [Option.bind_eq_some_iff] at hc
          obtain ⟨de,h3,hc⟩:=hc
          split at hc
          · rename_i hp
            simp only [Option.bind_eq_some_iff,Option.some.injEq] at hc
            obtain ⟨x',h4,lo',h5,hi',h6,rfl⟩:=hc
            exact op_slcA ha hr h1 (.inl ⟨hd,h2,hda⟩) h3 hp h4 h5 h6 he
          · cases hc
        · cases hc
      · cases hc
    · rename_i n e hd
      split at hc
      · rename_i hmx
        subst hmx
        simp only [Option.bind_eq_some_iff] at hc
        obtain ⟨de,h3,hc⟩:=hc
        split at hc
        · rename_i hp
          simp only [Option.bind_eq_some_iff,Option.some.injEq] at hc
          obtain ⟨x',h4,lo',h5,hi',h6,rfl⟩:=hc
          exact op_slcA (arr:=0) (da:=dt) ha hr h1 (.inr hd) h3 hp h4 h5 h6 he
        · cases hc
      · cases hc
    · cases hc
  case fieldAddr t x f =>
    simp only [compOp,Option.bind_eq_bind,Option.bind_eq_some_iff] at hc
    obtain ⟨dt,h1,hc⟩:=hc
    split at hc
    · rename_i fs hd
      simp only [Option.bind_eq_some_iff] at hc
      obtain ⟨fd,h2,df,h3,hc⟩:=hc
      split at hc
      · cases hc
      · rename_i h0
        simp only [Option.bind_eq_some_iff,Option.some.injEq] at hc
        obtain ⟨x',h4,rfl⟩:=hc
        exact op_fadr ha hr h1 hd h2 h3 h0 h4 he
    · cases hc
  case field t x f =>
    simp only [compOp,Option.bind_eq_bind,Option.bind_eq_some_iff] at hc
    obtain ⟨dt,h1,hc⟩:=hc
    split at hc
    · rename_i fs hd
      simp only [Option.bind_eq_some_iff,Option.some.injEq] at hc
      obtain ⟨fd,h2,df,h3,x',h4,rfl⟩:=hc
      exact op_fld ha hr h1 hd h2 h3 h4 he
    · cases hc
  case indexAddr t x i =>
    simp only [compOp,Option.bind_eq_bind,Option.bind_eq_some_iff] at hc
    obtain ⟨dt,h1,hc⟩:=hc
    split at hc
    · rename_i n e hd
      simp only [Option.bind_eq_some_iff,Option.some.injEq] at hc
      obtain ⟨de,h2,x',h3,i',h4,rfl⟩:=hc
      exact op_iadr ha hr h1 hd h2 h3 h4 he
    · rename_i e hd
      simp only [Option.bind_eq_some_iff,Option.some.injEq] at hc
      obtain ⟨de,h2,x',h3,i',h4,rfl⟩:=hc
      exact op_iads ha hr h1 hd h2 h3 h4 he
    · cases hc
  case index t x i =>
    simp only [compOp,Option.bind_eq_bind,Option.bind_eq_some_iff] at hc
    obtain ⟨dt,h1,hc⟩:=hc
    split at hc
    · rename_i n e hd
      simp only [Option.bind_eq_some_iff,Option.some.injEq] at hc
      obtain ⟨de,h2,x',h3,i',h4,rfl⟩:=hc
      exact op_ix ha hr h1 hd h2 h3 h4 he
    · rename_i hd
      simp only [Option.bind_eq_some_iff,Option.some.injEq] at hc
      obtain ⟨x',h3,i',h4,rfl⟩:=hc
      exact op_sidx ha hr h1 hd h3 h4 he
    · cases hc
  case lookup t m k ok =>
    simp only [compOp,Option.bind_eq_bind,Option.bind_eq_some_iff] at hc
    obtain ⟨dt,h1,hc⟩:=hc
    split at hc
    · rename_i kt e hd
      simp only [Option.bind_eq_some_iff,Option.some.injEq] at hc
      obtain ⟨dk,h2,kd,h3,de,h4,z,h5,m',h6,k',h7,rfl⟩:=hc
      exact op_look ha hr h1 hd h2 h3 h4 h5 h6 h7 he
    · cases hc
  case mapUpdate t m k x =>
    simp only [compOp,Option.bind_eq_bind,Option.bind_eq_some_iff] at hc
    obtain ⟨dt,h1,hc⟩:=hc
    split at hc
    · rename_i kt e hd
      simp only [Option.bind_eq_some_iff,Option.some.injEq] at hc
      obtain ⟨dk,h2,kd,h3,m',h6,k',h7,x',h8,rfl⟩:=hc
      have:=op_mupd (d:=d) (ty:=ty) (pos:=pos) (aft:=aft) (g:=g) ha hr h1 hd h2 h3 h6 h7 h8 he
      exact this
    · cases hc
  case insert t m k x =>
    simp only [compOp,Option.bind_eq_bind,Option.bind_eq_some_iff] at hc
    obtain ⟨dt,h1,hc⟩:=hc
    split at hc
    · rename_i kt e hd
      simp only [Option.bind_eq_some_iff,Option.some.injEq] at hc
      obtain ⟨dk,h2,kd,h3,m',h6,k',h7,x',h8,rfl⟩:=hc
      have:=op_mupd (d:=d) (ty:=ty) (pos:=pos) (aft:=aft) (g:=g) ha hr h1 hd h2 h3 h6 h7 h8 he
      exact this
    · cases hc
  case extract x i =>
    simp only [compOp,Option.bind_eq_bind,Option.bind_eq_some_iff,Option.some.injEq] at hc
    obtain ⟨x',h1,rfl⟩:=hc
    exact op_ext ha hr h1 he
  case call c =>
    obtain ⟨callee,args,tys⟩:=c
    obtain ⟨al,rfl⟩:∃ al:List Operand,args=al.toArray:=⟨args.toList,by simp⟩
    obtain ⟨tl,rfl⟩:∃ tl:List TypeId,tys=tl.toArray:=⟨tys.toList,by simp⟩
    cases callee with
    | value f=>simp [isCall] at hnc
    | invoke r m=>simp [compOp] at hc
    | builtin b =>
      cases b <;> simp only [compOp,reduceCtorEq] at hc
      case len =>
        split at hc
        · simp only [Option.bind_eq_bind,Option.bind_eq_some_iff] at hc
          obtain ⟨dt,h1,hc⟩:=hc
          split at hc
          · rename_i e hd
            simp only [Option.map_eq_some_iff] at hc
            obtain ⟨x',hx,rfl⟩:=hc
            exact op_len ha hr h1 hd hx he
          · rename_i kt e hd
            simp only [Option.map_eq_some_iff] at hc
            obtain ⟨x',hx,rfl⟩:=hc
            exact op_lenM ha hr h1 hd hx he
          · rename_i hd
            simp only [Option.map_eq_some_iff] at hc
            obtain ⟨x',hx,rfl⟩:=hc
            exact op_slen ha hr h1 hd hx he
          · cases hc
        · cases hc
      case cap =>
        split at hc
        · simp only [Option.bind_eq_bind,Option.bind_eq_some_iff] at hc
          obtain ⟨dt,h1,hc⟩:=hc
          split at hc
          · rename_i e hd
            simp only [Option.map_eq_some_iff] at hc
            obtain ⟨x',hx,rfl⟩:=hc
            exact op_scap ha hr h1 hd hx he
          · cases hc
        · cases hc
      case append =>
        split at hc
        · simp only [Option.bind_eq_bind,Option.bind_eq_some_iff] at hc
          obtain ⟨dt,h1,hc⟩:=hc
          split at hc
          · rename_i e hd
            split at hc
            · rename_i htt
              subst htt
              simp only [Option.bind_eq_some_iff] at hc
              obtain ⟨de,h2,hc⟩:=hc
              split at hc
              · rename_i hcond
                simp only [Option.bind_eq_some_iff,Option.some.injEq] at hc
                obtain ⟨x',h3,y',h4,rfl⟩:=hc
                exact op_append ha hr h1 hd h2 hcond.1 hcond.2.1 hcond.2.2 h3 h4 he
              · cases hc
            · simp only [Option.bind_eq_some_iff] at hc
              obtain ⟨du,h2,hc⟩:=hc
              split at hc
              · rename_i k0 hdu
                simp only [Option.bind_eq_some_iff] at hc
                obtain ⟨de,h3,z,h4,hc⟩:=hc
                split at hc
                · rename_i hcond
                  simp only [Option.bind_eq_some_iff,Option.some.injEq] at hc
                  obtain ⟨x',h5,y',h6,rfl⟩:=hc
                  exact op_appZ ha hr h1 hd h2 hdu h3 h4 hcond.1 hcond.2.1 hcond.2.2 h5 h6 he
                · cases hc
              · cases hc
          · cases hc
        · cases hc
      case clear =>
        split at hc
        · simp only [Option.bind_eq_bind,Option.bind_eq_some_iff] at hc
          obtain ⟨dt,h1,hc⟩:=hc
          split at hc
          · rename_i e hd
            simp only [Option.bind_eq_some_iff] at hc
            obtain ⟨de,h3,z,h4,hc⟩:=hc
            split at hc
            · rename_i hcond
              simp only [Option.bind_eq_some_iff,Option.some.injEq] at hc
              obtain ⟨x',h5,rfl⟩:=hc
              exact op_clr ha hr h1 hd h3 h4 hcond.1 hcond.2 h5 he
            · cases hc
          · cases hc
        · cases hc
      case min =>
        split at hc
        · simp only [Option.bind_eq_bind,Option.bind_eq_some_iff,Option.some.injEq] at hc
          obtain ⟨x',h3,y',h4,rfl⟩:=hc
          exact op_min ha hr h3 h4 he
        · cases hc
      case max =>
        split at hc
        · simp only [Option.bind_eq_bind,Option.bind_eq_some_iff,Option.some.injEq] at hc
          obtain ⟨x',h3,y',h4,rfl⟩:=hc
          exact op_max ha hr h3 h4 he
        · cases hc
  all_goals (simp only [compOp,reduceCtorEq] at hc)
end
end Go.Ev
namespace Go.Ev
open Go Go.RowKit

def Mk (base:Nat) (ι:Io) (w:World) (ds:List Deferred):Prop:=base ≤ w.heap.size ∧ ∃ l:List Nat,ds=l.map (fun D => { target := .collected D,args := #[] })∧l.Nodup ∧ ∀ D ∈ l,base ≤ D∧w.heap[D]? = some (Obj.deferred (some [])) ∧ ∀ id q, ι id=some q→q.b ≠ D
theorem lt_of_heap {w:World} {b:Nat} {o:Obj} (h:w.heap[b]? = some o):b < w.heap.size:=(Array.getElem?_eq_some_iff.1 h).1
theorem Mk.step {base n n':Nat} {ι ι':Io} {w w':World} {ds:List Deferred} (h:Mk base ι w ds) (hs:Step n ι w n' ι' w'):Mk base ι' w' ds:=by
  obtain ⟨h0,l,h1,h2,h3⟩:=h
  refine ⟨Nat.le_trans h0 hs.size,l,h1,h2,fun D hD=>?_⟩
  obtain ⟨g1,g2,g3⟩:=h3 D hD
  have hlt:=lt_of_heap g2
  exact ⟨g1,(hs.keep D hlt g3).trans g2,hs.out hlt g3⟩
theorem Mk.nil (ι:Io) (w:World):Mk w.heap.size ι w []:=⟨Nat.le_refl _, [],rfl,List.nodup_nil,fun D h=>absurd h (by simp)⟩

def Ex.of:Ex→Exit
  | .normal => .normal
  | .exit id => .exit id
  | .ret => .ret

def RO (F:Fence) (ro:Option K) (ι:Io):Prop:=match ro with
  | none=>F=Fence.wide
  | some id=>∃ q, ι id=some q∧F=Fence.wide.inRound q.b
theorem RO.mono {F:Fence} {ro:Option K} {ι ι':Io} (he:Ext ι ι') (h:RO F ro ι):RO F ro ι':=by
  cases ro with
  | none=>exact h
  | some id=>obtain ⟨q,h1,h2⟩:=h; exact ⟨q,he _ _ h1,h2⟩
def FW (F:Fence):Prop:=F=Fence.wide ∨ ∃ l,F=Fence.wide.inRound l
theorem RO.fw {F:Fence} {ro:Option K} {ι:Io} (h:RO F ro ι):FW F:=by
  cases ro with
  | none=>exact .inl h
  | some id=>obtain ⟨q,_,h2⟩:=h; exact .inr ⟨_,h2⟩
theorem FW.fn {F:Fence} (h:FW F) (f:FuncId):F.fn f:=by rcases h with rfl | ⟨l,rfl⟩ <;> trivial
theorem FW.depth {F:Fence} (h:FW F):F.depth=none:=by rcases h with rfl | ⟨l,rfl⟩ <;> rfl
theorem FW.into {F:Fence} (h:FW F) (l:Nat):F.inRound l=Fence.wide.inRound l:=by rcases h with rfl | ⟨l,rfl⟩ <;> rfl
theorem FW.calls {F:Fence} (h:FW F) {P:Program} {f:FuncId} {args:Array Value} {w:World} {R:Ending→World→Prop} (hc:CallsIn Fence.wide 0 P f args w R):CallsIn F 0 P f args w R:=by
  rcases h with rfl | ⟨l,rfl⟩ <;> exact hc

structure FnOk (Y:Rig) (k:K) (ef:EF) (fn:Func) (c:Code):Prop where
  def_:Y.P.funcs[k.nat]? = some fn
  body:fn.body=some c
  name : (fn.name == "runtime.NumGoroutine") = false
  nt:ef.nt=fn.ntmps
  rs:mapO (compR Y.tab) fn.results.toList=some ef.rs
  code:ef.body=comp Y.tab fn.ntmps c
def Gives (Y:Rig) (k:K) (args:List V) (v:V):Prop:=∀ (ι:Io) (vals:List Value) (w:World),VRs ι args vals→CallsIn Fence.wide 0 Y.P k.nat vals.toArray w fun e w' =>
  ∃ v',e = .returned v'∧(∀ ι,VR ι v v')∧w'.os=w.os∧w'.tape=w.tape∧w'.output=w.output∧w.heap.size ≤ w'.heap.size ∧ ∀ b,b < w.heap.size→w'.heap[b]? = w.heap[b]?
def Post (Y:Rig) (h:H) (ι:Io) (w:World) (v:V) (h':H):Ending→World→Prop:=fun e w'=>∃ ι' v',e = .returned v'∧Step h.nx.nat ι w h'.nx.nat ι' w'∧VR ι' v v'∧WR Y.tab ι' h' w'
def Does (Y:Rig) (k:K) (args:List V) (h:H) (v:V) (h':H):Prop:=∀ (ι:Io) (vals:List Value) (w:World),VRs ι args vals→WR Y.tab ι h w→CallsIn Fence.wide 0 Y.P k.nat vals.toArray w (Post Y h ι w v h')
theorem Gives.does {Y:Rig} {k:K} {args:List V} {v:V} (hg:Gives Y k args v) (h:H):Does Y k args h v h:=fun ι vals w hv hr=>by
  refine (hg ι vals w hv).mono ?_
  rintro e w' ⟨v',rfl,g1,g2,g3,g4,g5,g6⟩
  exact ⟨ι,v',rfl,⟨Ext.refl ι,fun id q h k=>(by rw [h] at k; cases k),fun b hb _=>g6 b hb,g2,g3,g4,g5,Nat.le_refl _,fun _ _ h=>h⟩,g1 ι,hr.same g6 g5⟩
structure NatOk (Y:Rig) (k:K) (g:List V→H→Option (V × H)):Prop where
  fn : ∃ fn, Y.P.funcs[k.nat]? = some fn ∧ fn.body ≠ none ∧ (fn.name == "runtime.NumGoroutine") = false
  does:∀ args h v h',g args h=some (v,h')→Does Y k args h v h'
def Fns (Y:Rig) (fs:T EF):Prop:=∀ k ef,fs.get k=some ef→(ef.nv=none ∧ ∃ fn c,FnOk Y k ef fn c) ∨ ∃ g,ef.nv=some g∧NatOk Y k g

def CQ (Y:Rig) (nt base:Nat) (h:H) (ι:Io) (w:World) (e:Ex) (fr':Fr) (h':H):Exit→Act→World→Prop:=fun ex a' w' =>
  ex=e.of ∧ ∃ ι',Step h.nx.nat ι w h'.nx.nat ι' w'∧AR nt ι' fr' a'∧WR Y.tab ι' h' w'∧Mk base ι' w' a'.defers
def GoOk (Y:Rig) (go:Go):Prop:=∀ (ro:Option K) (nt base:Nat) (code:Code) (fr:Fr) (h:H) (e:Ex) (fr':Fr) (h':H),go ro (comp Y.tab nt code) fr h = .ok e fr' h' →
  ∀ (F:Fence) (ι:Io) (a:Act) (w:World),RO F ro ι → AR nt ι fr a→WR Y.tab ι h w→Mk base ι w a.defers→code.wpIn F 0 Y.P (CQ Y nt base h ι w e fr' h') a w
/-! ### A function's results -/
def rvSem (tmps:Array Value):ResultVar→Sem Value
  | .tmp t=>pure (tmps.getD t undef)
  | .cell a t=>do loadVar t (← asAddr (tmps.getD a undef))
theorem results_eq (fn : Func) (tmps : Array Value) : results fn tmps = (do
    let vs ← fn.results.mapM (rvSem tmps)
    pure (if h:vs.size=1 then vs[0] else .tuple vs)):=by
  unfold results
  congr 1
def retVal:List Value→Value
  | [v]=>v
  | l => .tuple l.toArray
theorem retV_rel {ι:Io} {vs:List V} {us:List Value} (h:VRs ι vs us):VR ι (retV vs) (retVal us):=by
  cases vs with
  | nil=>obtain rfl:=h.inv_nil; exact VR.tups VRs.nil
  | cons v vs =>
    obtain ⟨u,us,rfl,h1,h2⟩:=h.inv_cons
    cases vs with
    | nil=>obtain rfl:=h2.inv_nil; exact h1
    | cons v2 vs =>
      obtain ⟨u2,us,rfl,h3,h4⟩:=h2.inv_cons
      exact VR.tups (VRs.cons h1 (VRs.cons h3 h4))

section
variable {Y:Rig} {nt:Nat} {ι:Io} {fr:Fr} {a:Act} {h h':H} {w:World} {v:V}

theorem readR_rel (hf:FR ι fr a.tmps) (hr:WR Y.tab ι h w) {r:ResultVar} {er:ER} (hc:compR Y.tab r=some er) (he:readR fr h er=some v):∃ v',(rvSem a.tmps r).run Y.P w = .ok v' w∧VR ι v v':=by
  have hslot:∀ t:Tmp,VR ι (ev fr (.t (K.ofNat t))) (a.tmps.getD t undef):=fun t=>by
    have:=hf (K.ofNat t)
    rw [K.ofNat_nat] at this
    exact this
  cases r with
  | tmp t =>
    cases hc
    cases he
    exact ⟨_,rfl,hslot t⟩
  | cell t ty =>
    unfold compR at hc
    simp only at hc
    split at hc
    · rename_i d hd
      split at hc
      · rename_i hg
        cases hc
        obtain ⟨b,off,vs,cs,h1,h2,h3,h4,h5,rfl⟩:=many?_rel hr (hslot t) he
        refine ⟨.agg vs.toArray,?_,VR.aggs h4 h5⟩
        have hl:=run_loadCells_list (P:=Y.P) w ⟨b,off,none⟩ vs h3
        rw [h2] at hl
        simp [rvSem,h1,asAddr,loadVar,Rig.isAgg hd,hg,Rig.size hd,hl]
      · rename_i hg
        cases hc
        obtain ⟨b,off,v',h1,h2,h3⟩:=one?_rel hr (hslot t) he
        refine ⟨v',?_,h3⟩
        have hg':d.agg=false:=by simpa using hg
        simp [rvSem,h1,asAddr,loadVar,Rig.isAgg hd,hg',h2]
    · cases hc
theorem readRs_rel (hf:FR ι fr a.tmps) (hr:WR Y.tab ι h w):∀ {rs:List ResultVar} {ers:List ER} {vs:List V},mapO (compR Y.tab) rs=some ers→readRs fr h ers=some vs → ∃ us,(rs.mapM (rvSem a.tmps)).run Y.P w = .ok us w∧VRs ι vs us
  | [],ers,vs,hc,he=>by
    cases hc
    cases he
    exact ⟨[],rfl,VRs.nil⟩
  | r :: rs,ers,vs,hc,he=>by
    unfold mapO at hc
    split at hc
    · rename_i y hy
      cases hm:mapO (compR Y.tab) rs with
      | none=>rw [hm] at hc; cases hc
      | some m =>
        rw [hm] at hc
        cases hc
        obtain ⟨v,h1,he⟩:=oGet_some (by simp) (show (oGet (readR fr h y) none fun v=>oGet (readRs fr h m) none fun l=>some (v :: l))=some vs from he)
        obtain ⟨l,h2,he⟩:=oGet_some (by simp) he
        cases he
        obtain ⟨v',g1,g2⟩:=readR_rel hf hr hy h1
        obtain ⟨us,g3,g4⟩:=readRs_rel hf hr hm h2
        refine ⟨v' :: us,?_,VRs.cons g2 g4⟩
        simp only [List.mapM_cons,Sem.run_bind,g1,Result.andThen_ok,g3,Sem.run_pure]
    · cases hc
theorem results_rel (hf:FR ι fr a.tmps) (hr:WR Y.tab ι h w) {fn:Func} {ers:List ER} {vs:List V} (hc:mapO (compR Y.tab) fn.results.toList=some ers) (he:readRs fr h ers=some vs):∃ v',(results fn a.tmps).run Y.P w = .ok v' w∧VR ι (retV vs) v':=by
  obtain ⟨us,h1,h2⟩:=readRs_rel hf hr hc he
  refine ⟨retVal us,?_,retV_rel h2⟩
  obtain ⟨rl,hrl⟩:∃ rl:List ResultVar,fn.results=rl.toArray:=⟨fn.results.toList,by simp⟩
  rw [hrl] at h1
  simp only at h1
  rw [results_eq,Sem.run_bind,hrl,List.mapM_toArray,Sem.run_map]
  rw [h1]
  simp only [Result.andThen_ok,Sem.run_pure]
  match us with
  | []=>rfl
  | [v]=>rfl
  | v1 :: v2 :: vs=>simp [retVal]

theorem frame_get:∀ (vs:List V) (k0:K) (fr:Fr) (k:K),(frame k0 vs fr).get k=if k0.nat ≤ k.nat∧k.nat < k0.nat + vs.length then vs[k.nat - k0.nat]? else fr.get k
  | [],k0,fr,k=>by rw [if_neg (by simp)]; rfl
  | v :: vs,k0,fr,k=>by
    have:(frame k0 (v :: vs) fr).get k=(frame k0.succ vs (fr.set k0 v)).get k:=rfl
    rw [this,frame_get vs,K.succ_nat,T.get_set]
    by_cases h1:k0.nat + 1 ≤ k.nat∧k.nat < k0.nat + 1 + vs.length
    · rw [if_pos h1,if_pos (by simp; omega)]
      have:k.nat - k0.nat=(k.nat - (k0.nat + 1)) + 1:=by omega
      rw [this,List.getElem?_cons_succ]
    · rw [if_neg h1]
      by_cases h2:k=k0
      · subst h2; rw [if_pos rfl,if_pos (by simp)]; simp
      · have:k.nat ≠ k0.nat:=fun e=>h2 (K.nat_inj e)
        rw [if_neg h2,if_neg (by simp; omega)]

theorem frame_rel {args:List V} {vals:List Value} (hv:VRs ι args vals) {n:Nat} (hn:args.length ≤ n):AR n ι (frame .e args .nil) { tmps:=vals.toArray ++ Array.replicate (n - vals.toArray.size) undef,defers := [] }:=by
  have hl:=hv.len
  refine ⟨by simp; omega,fun k=>?_⟩
  rw [frame_get,T.get_nil]
  simp only [K.nat,Nat.zero_le,true_and,Nat.zero_add,Nat.sub_zero]
  simp only [Array.getD_eq_getD_getElem?]
  by_cases h1:k.nat < args.length
  · rw [if_pos h1,Array.getElem?_append_left (by simp; omega)]
    have h2:k.nat < vals.length:=by omega
    simp only [List.getElem?_toArray,List.getElem?_eq_getElem h1,List.getElem?_eq_getElem h2,getV,Option.getD_some]
    exact hv.at_ _ _ _
  · rw [if_neg h1]; exact .un _

theorem Step.put_out {n n':Nat} {ι:Io} {w0 w:World} {ι1:Io} {D:Nat} {o:Obj} (hs:Step n ι w0 n' ι1 w) (hD:w0.heap.size ≤ D):Step n ι w0 n' ι1 (w.putObj D o) :=
  ⟨hs.ext,hs.new,fun b hb ho=>(World.putObj_heap_other (by omega)).trans (hs.keep b hb ho),hs.os,hs.tape,hs.output,by simpa using hs.size,hs.mono,hs.low⟩
theorem WR.put_out {tab:Tab} {ι:Io} {h:H} {w:World} {D:Nat} {o:Obj} (hr:WR tab ι h w) (hD:∀ id q, ι id=some q→q.b ≠ D):WR tab ι h (w.putObj D o) :=
  ⟨fun id q hq=>(hr.blk id q hq).mono (Ext.refl _) (World.putObj_heap_other (hD id q hq)),fun id q hq=>by simpa using hr.lt id q hq,hr.inj,hr.fresh⟩

theorem callF_rel {go : Go} (hgo : GoOk Y go) {k : K} {ef : EF} {fn : Func} {c : Code} (hf : FnOk Y k ef fn c) {args : List V} {vals : List Value} (he : callF go ef args h = .ok v h') (hv : VRs ι args vals) (hr : WR Y.tab ι h w) :
    CallsIn Fence.wide 0 Y.P k.nat vals.toArray w (Post Y h ι w v h'):=by
  obtain ⟨hc,he1⟩:=cond_ok RV.no_ne he
  have hc:=Nat.le_of_ble_eq_true hc
  rw [lenL_eq,hf.nt] at hc
  rw [hf.code] at he1
  cases hres:go none (comp Y.tab fn.ntmps c) (frame .e args .nil) h with
  | no=>rw [hres] at he1; cases he1
  | ok e fr1 h1 =>
    rw [hres] at he1
    have he2:leave ef e fr1 h1 = .ok v h':=he1
    have hvs:(e = .normal ∨ e = .ret) ∧ ∃ vs,readRs fr1 h1 ef.rs=some vs∧v=retV vs∧h'=h1:=by
      cases e with
      | exit id=>cases he2
      | normal =>
        obtain ⟨vs,h2,h3⟩:=oGet_ok (show (oGet (readRs fr1 h1 ef.rs) .no fun vs => .ok (retV vs) h1)=RV.ok v h' from he2)
        cases h3
        exact ⟨.inl rfl,vs,h2,rfl,rfl⟩
      | ret =>
        obtain ⟨vs,h2,h3⟩:=oGet_ok (show (oGet (readRs fr1 h1 ef.rs) .no fun vs => .ok (retV vs) h1)=RV.ok v h' from he2)
        cases h3
        exact ⟨.inr rfl,vs,h2,rfl,rfl⟩
    obtain ⟨hee,vs,hread,rfl,rfl⟩:=hvs
    refine callsIn_of_wp_marks hf.def_ hf.body trivial (wpIn_mono (hgo none fn.ntmps w.heap.size c _ h e fr1 h' hres Fence.wide ι _ w rfl (frame_rel hv hc) hr (Mk.nil ι w)) ?_)
    rintro ex a' w' ⟨rfl, ι',hs,har,hwr,hmk⟩
    have out : ∀ (l : List Nat) (ds : List Deferred) (w' : World), ds = l.map (fun D => { target := .collected D, args := #[] }) → l.Nodup → (∀ D ∈ l, w.heap.size ≤ D ∧ w'.heap[D]? = some (Obj.deferred (some [])) ∧ ∀ id q, ι' id = some q → q.b ≠ D) → Step h.nx.nat ι w h'.nx.nat ι' w' → WR Y.tab ι' h' w' →
        LeavesInM Fence.wide 0 Y.P fn a'.tmps (Post Y h ι w (retV vs) h') ds .returning w':=by
      intro l
      induction l with
      | nil =>
        intro ds w' hd _ _ hs hwr
        rw [hd]
        obtain ⟨v',h2,h3⟩:=results_rel (fn:=fn) har.fr hwr hf.rs hread
        exact ⟨v',h2, ι',v',rfl,hs,h3,hwr⟩
      | cons D l ih =>
        intro ds w' hd hnd hl hs hwr
        rw [hd]
        obtain ⟨d1,d2,d3⟩:=hl D List.mem_cons_self
        refine ⟨by simp, .inl ⟨D,_,rfl,run_takeDeferred d2,?_⟩⟩
        refine ih _ (w'.putObj D (.deferred none)) rfl (List.nodup_cons.1 hnd).2 (fun E hE=>?_) (hs.put_out d1) (hwr.put_out d3)
        have hne:E ≠ D:=fun e=>(List.nodup_cons.1 hnd).1 (e ▸ hE)
        obtain ⟨e1,e2,e3⟩:=hl E (List.mem_cons_of_mem _ hE)
        exact ⟨e1,(World.putObj_heap_other hne).trans e2,e3⟩
    obtain ⟨_,l,h2,h3,h4⟩:=hmk
    have:=out l a'.defers w' h2 h3 h4 hs hwr
    rcases hee with rfl | rfl <;> exact this
end
end Go.Ev
namespace Go.Ev
open Go Go.RowKit

theorem RV.all_ok {r:Res} {f:Ex→Fr→H→RV} {v:V} {h:H} (he:r.all f = .ok v h):∃ e fr h1,r = .ok e fr h1∧f e fr h1 = .ok v h:=by
  cases r with
  | no=>cases he
  | ok e fr h1=>exact ⟨e,fr,h1,rfl,he⟩
theorem Blk.onL_ok {b:Blk} {f:LS→Option Ex→T V→List K→EC→EC→RV} {v:V} {h:H} (he:b.onL f = .ok v h):∃ s j fr ps a c,b = .loop s j fr ps a c∧f s j fr ps a c = .ok v h:=by
  cases b <;> first | exact ⟨_,_,_,_,_,_,rfl,he⟩ | cases he
theorem isReady_ok {s:LS} {x:RV} {v:V} {h:H} (he:isReady s x = .ok v h):s = .ready∧x = .ok v h:=by cases s <;> first | exact ⟨rfl,he⟩ | cases he
theorem isBusy_ok {s:LS} {x:RV} {v:V} {h:H} (he:isBusy s x = .ok v h):s = .busy∧x = .ok v h:=by cases s <;> first | exact ⟨rfl,he⟩ | cases he
theorem isN_ok {e:Ex} {x:RV} {v:V} {h:H} (he:isN e x = .ok v h):e = .normal∧x = .ok v h:=by cases e <;> first | exact ⟨rfl,he⟩ | cases he

section
variable {Y:Rig} {nt:Nat} {ι:Io} {fr:Fr} {a:Act} {h h':H} {w:World} {v:V}

theorem bind_rel {ps : List K} {args : List V} {tps : List Tmp} {vals : List Value} : ∀ {fr : Fr} {tmps : Array Value}, FR ι fr tmps → tmps.size = nt → (∀ p ∈ ps, p.nat < nt) → tps = ps.map K.nat → VRs ι args vals → args.length = ps.length →
    FR ι (bindK fr ps args) ((tps.zip vals).foldl (fun tmps (t,a)=>tmps.setIfInBounds t a) tmps)∧((tps.zip vals).foldl (fun tmps (t,a)=>tmps.setIfInBounds t a) tmps).size=nt:=by
  induction ps generalizing args tps vals with
  | nil =>
    intro fr tmps hf hsz _ htp hv hl
    subst htp
    exact ⟨hf,hsz⟩
  | cons p ps ih =>
    intro fr tmps hf hsz hp htp hv hl
    subst htp
    cases args with
    | nil=>simp at hl
    | cons x args =>
      obtain ⟨x',vals,rfl,h1,h2⟩:=hv.inv_cons
      have hput:=AR.put (a := { tmps:=tmps,defers := [] }) ⟨hsz,hf⟩ (t:=p.nat) (hp p List.mem_cons_self) h1
      have hk:K.ofNat p.nat=p:=K.nat_inj (K.ofNat_nat _)
      rw [hk] at hput
      have h3:FR ι (fr.set p x) (tmps.setIfInBounds p.nat x'):=hput.fr
      have h4:(tmps.setIfInBounds p.nat x').size=nt:=hput.nt
      have key:=ih (fr:=fr.set p x) (tmps:=tmps.setIfInBounds p.nat x') h3 h4 (fun q hq=>hp q (List.mem_cons_of_mem _ hq)) rfl h2 (by simpa using hl)
      exact key

theorem round_rel {go : Go} (hgo : GoOk Y go) {id : K} {q : Pl} {args : List V} {vals : List Value} (hq : ι id = some q) (hv : VRs ι args vals) (hr : WR Y.tab ι h w)
    (he:((h.get id).onL fun s _ fr ps a c=>roundA go id args h s fr ps a c) = .ok v h') :
    ∃ fn tmps assign body,(Instr.yield q.b vals.toArray).run Y.P w = .ok (.round q.b fn tmps assign body) w ∧ ∀ F,FW F→RoundIn F 0 Y.P q.b fn tmps assign body w (Post Y h ι w v h'):=by
  obtain ⟨s,j,fr0,ps,a0,c0,hb,he1⟩:=Blk.onL_ok he
  obtain ⟨hlen,he2⟩:=cond_ok RV.no_ne he1
  have hlen:=Nat.eq_of_beq_eq_true hlen
  rw [lenL_eq,lenL_eq] at hlen
  obtain ⟨rfl,he3⟩:=isReady_ok he2
  obtain ⟨e1,fr1,h1,hres1,he4⟩:=RV.all_ok he3
  obtain ⟨rfl,he5⟩:=isN_ok he4
  have hblk:=hr.blk id q hq
  rw [hb] at hblk
  obtain ⟨L,nt,hh,l1,l2,l3,l4,l5,l6,l7,l8⟩:=hblk
  have hpsz:L.params.size=ps.length:=by rw [← Array.length_toList,l5]; simp
  have hvl:=hv.len
  have hy:=run_yield (P:=Y.P) (args:=vals.toArray) hh (by simp; omega)
  have hbind:=bind_rel (nt:=nt) (tps:=L.params.toList) l3 l4 l6 l5 hv hlen
  have htm:(L.params.zip vals.toArray).foldl (fun tmps (t,a)=>tmps.setIfInBounds t a) L.tmps=(L.params.toList.zip vals).foldl (fun tmps (t,a)=>tmps.setIfInBounds t a) L.tmps:=by
    rw [← Array.foldl_toList]; simp
  refine ⟨L.fn,_,L.assign,L.body,hy,fun F hF=>roundIn_of_wpIn (hF.fn _) ?_⟩
  rw [htm,hF.into]
  subst l7
  have hst1:=hgo (some id) nt w.heap.size L.assign _ h .normal fr1 h1 hres1 (Fence.wide.inRound q.b) ι { tmps:=(L.params.toList.zip vals).foldl (fun tmps (t,a)=>tmps.setIfInBounds t a) L.tmps,defers := [] } w ⟨q,hq,rfl⟩ ⟨hbind.2,hbind.1⟩ hr (Mk.nil ι w)
  refine wpIn_mono hst1 ?_
  rintro ex a1 w1 ⟨rfl, ι1,s1,har1,hwr1,hmk1⟩
  obtain ⟨s2,j2,fr2,ps2,aa2,cc2,hb2,he6⟩:=Blk.onL_ok he5
  obtain ⟨rfl,he7⟩:=isReady_ok he6
  obtain ⟨e3,fr3,h3,hres3,he8⟩:=RV.all_ok he7
  obtain ⟨s4,j4,fr4,ps4,aa4,cc4,hb4,he9⟩:=Blk.onL_ok he8
  obtain ⟨rfl,he10⟩:=isBusy_ok he9
  have hq1:=s1.ext _ _ hq
  have hblk1:=hwr1.blk id q hq1
  rw [hb2] at hblk1
  obtain ⟨L1,nt1,hh1,m1,m2,m3,m4,m5,m6,m7,m8⟩:=hblk1
  have hlt1:=lt_of_heap hh1
  have hlive1:live h1 id:=by unfold live; rw [hb2]; simp
  refine ⟨_,run_beginRound hh1 m1,?_⟩
  obtain ⟨sb,wrb⟩:=hwr1.write (b := .loop .busy j2 fr2 ps2 aa2 cc2) (w':=w1.putObj q.b (.loop { L1 with state := .busy })) hq1 hlive1 (by rw [hb2]; exact fun h=>h) (by simp) (fun c hc=>World.putObj_heap_other hc) rfl rfl rfl
    ⟨{ L1 with state := .busy },nt1,World.putObj_heap_same hlt1,rfl,m2,m3,m4,m5,m6,m7,m8⟩
  have hst2:=hgo (some id) nt 0 L.body _ _ e3 fr3 h3 (by rw [l8]; exact hres3) (Fence.wide.inRound q.b) ι1 a1 (w1.putObj q.b (.loop { L1 with state := .busy })) ⟨q,hq1,rfl⟩ har1 wrb ?_
  · refine wpIn_mono hst2 ?_
    rintro ex a3 w3 ⟨rfl, ι3,s3,har3,hwr3,hmk3⟩
    have hq3:=s3.ext _ _ hq1
    have hblk3:=hwr3.blk id q hq3
    rw [hb4] at hblk3
    obtain ⟨L3,nt3,hh3,n1,n2,n3,n4,n5,n6,n7,n8⟩:=hblk3
    have hlt3:=lt_of_heap hh3
    have hlive3:live h3 id:=by unfold live; rw [hb4]; simp
    have hall:=(s1.trans sb).trans s3
    have fin : ∀ (jump : Option Code) (s' : LS) (j' : Option Ex), s'.of = (if jump.isNone then LoopState.ready else LoopState.done) → j'.bind Ex.code = jump → endR id e3 fr4 ps4 aa4 cc4 h3 = .ok (.b jump.isNone) (h3.put id (.loop s' j' fr4 ps4 aa4 cc4)) →
        ∃ u w',(Instr.endRound q.b jump).run Y.P w3 = .ok u w'∧Post Y h ι w v h' (.returned u) w':=by
      intro jump s' j' e1 e2 e3
      rw [e3] at he10
      cases he10
      obtain ⟨sc,wrc⟩:=hwr3.write (b := .loop s' j' fr4 ps4 aa4 cc4) (w':=w3.putObj q.b (.loop { L3 with state:=if jump.isNone then .ready else .done,pending:=jump })) hq3 hlive3 (by rw [hb4]; exact fun h=>h) (by simp) (fun c hc=>World.putObj_heap_other hc) rfl rfl rfl
        ⟨{ L3 with state:=if jump.isNone then .ready else .done,pending:=jump },nt3,World.putObj_heap_same hlt3,e1.symm,e2.symm,n3,n4,n5,n6,n7,n8⟩
      exact ⟨_,_,run_endRound jump hh3, ι3,_,rfl,hall.trans sc, .b _,wrc⟩
    cases e3 with
    | normal=>exact fin none .ready none rfl rfl rfl
    | ret=>exact fin (some .ret) .done (some .ret) rfl rfl rfl
    | exit i=>exact fin (some (.exit i)) .done (some (.exit i)) rfl rfl rfl
  · obtain ⟨g1,g2⟩:=hmk1.step sb
    exact ⟨Nat.zero_le _,by
      obtain ⟨l,g3,g4,g5⟩:=g2
      exact ⟨l,g3,g4,fun D hD=>⟨Nat.zero_le _,(g5 D hD).2⟩⟩⟩

theorem callE_rel {fs : T EF} (hfs : Fns Y fs) {go : Go} (hgo : GoOk Y go) {k : K} {ef : EF} (h1 : fs.get k = some ef) {args : List V} {vals : List Value} (he1 : callE go ef args h = .ok v h') (hv : VRs ι args vals) (hr : WR Y.tab ι h w) :
    (callFunc k.nat vals.toArray).run Y.P w = .ok (.enter k.nat vals.toArray) w∧CallsIn Fence.wide 0 Y.P k.nat vals.toArray w (Post Y h ι w v h'):=by
  rcases hfs k ef h1 with ⟨hnv,fn,c,hfn⟩ | ⟨g,hnv,⟨fn,hf1,hf2,hf3⟩,hg⟩
  · have he1:oGet ef.nv (callF go ef args h) (fun g=>oGet (g args h) .no fun p => .ok p.1 p.2) = .ok v h':=he1
    rw [hnv] at he1
    have he1:callF go ef args h = .ok v h':=he1
    refine ⟨?_,callF_rel hgo hfn he1 hv hr⟩
    have hn' : ¬ fn.name = "runtime.NumGoroutine" := by simpa using hfn.name
    have hb':¬ fn.body=none:=fun e=>by rw [hfn.body] at e; cases e
    simp [callFunc,hfn.def_,hb',hn']
  · have he1:oGet ef.nv (callF go ef args h) (fun g=>oGet (g args h) .no fun p => .ok p.1 p.2) = .ok v h':=he1
    rw [hnv] at he1
    obtain ⟨⟨v1,h1'⟩,he2,he3⟩:=oGet_ok (show (oGet (g args h) .no fun p => .ok p.1 p.2)=RV.ok v h' from he1)
    cases he3
    refine ⟨?_,hg _ _ _ _ he2 ι _ w hv hr⟩
    have hn' : ¬ fn.name = "runtime.NumGoroutine" := by simpa using hf3
    simp [callFunc,hf1,hf2,hn']
theorem call_rel {fs : T EF} (hfs : Fns Y fs) {go : Go} (hgo : GoOk Y go) {f : V} {fv : Value} {args : List V} {vals : List Value} (he : callV fs go f args h = .ok v h') (hf : VR ι f fv) (hv : VRs ι args vals) (hr : WR Y.tab ι h w) :
    (∃ g fst caps,fv = .func (.func g) fst caps∧(f.isF=true→fst = #[])∧(callFunc g (fst ++ vals.toArray ++ caps)).run Y.P w = .ok (.enter g (fst ++ vals.toArray ++ caps)) w∧CallsIn Fence.wide 0 Y.P g (fst ++ vals.toArray ++ caps) w (Post Y h ι w v h')) ∨
    (∃ l,fv = .func (.yield l) #[] #[] ∧ ∃ fn tmps assign body,(Instr.yield l vals.toArray).run Y.P w = .ok (.round l fn tmps assign body) w ∧ ∀ F,FW F→RoundIn F 0 Y.P l fn tmps assign body w (Post Y h ι w v h')):=by
  unfold callV at he
  cases f <;> simp only [] at he <;> try cases he
  case fn k caps =>
    obtain ⟨ef,h1,he1⟩:=oGet_ok he
    cases hf with
    | @fn _ _ us hl hc =>
     left
     rw [cat_eq] at he1
     obtain ⟨g1,g2⟩:=callE_rel hfs hgo h1 he1 (hv.append ⟨hl,hc⟩) hr
     have e2:(vals ++ us).toArray = #[] ++ vals.toArray ++ us.toArray:=by simp
     rw [e2] at g1 g2
     exact ⟨k.nat, #[],us.toArray,rfl,fun _=>rfl,g1,g2⟩
  case bf k fst caps =>
    obtain ⟨ef,h1,he1⟩:=oGet_ok he
    cases hf with
    | @bf _ _ _ us ws hl1 hc1 hl hc =>
     left
     rw [cat_eq,cat_eq] at he1
     obtain ⟨g1,g2⟩:=callE_rel hfs hgo h1 he1 ((VRs.of hl1 hc1).append (hv.append ⟨hl,hc⟩)) hr
     have e2:(us ++ (vals ++ ws)).toArray=us.toArray ++ vals.toArray ++ ws.toArray:=by simp
     rw [e2] at g1 g2
     exact ⟨k.nat,us.toArray,ws.toArray,rfl,fun h=>(by cases h),g1,g2⟩
  case yl id =>
    cases hf with
    | @yl _ q hq =>
      right
      exact ⟨q.b,rfl,round_rel hgo hq hv hr he⟩
end
end Go.Ev
namespace Go.Ev
open Go Go.RowKit

theorem notDefer {tab:Tab} {op:Op} {eop:EOp} (hc:compOp tab op=some eop):∀ c,op ≠ .defer c:=fun c e=>by subst e; simp [compOp] at hc

section
variable {Y:Rig} {nt:Nat} {ι:Io} {fr:Fr} {a:Act} {h h':H} {w:World} {v:V}

theorem oper_rel {fs : T EF} (hfs : Fns Y fs) {go : Go} (hgo : GoOk Y go) {F : Fence} (hF : FW F) {o : Oper} {eop : EOp} (ha : AR nt ι fr a) (hr : WR Y.tab ι h w) (hc : compOp Y.tab o.op = some eop) (he : evop fs go fr h eop = .ok v h') {K : Act → World → Prop} {Q : Exit → Act → World → Prop}
    (hk:∀ ι' v' w',Step h.nx.nat ι w h'.nx.nat ι' w'→VR ι' v v'→WR Y.tab ι' h' w'→K (a.put o.dst v') w'):o.wpIn F 0 Y.P a w K Q:=by
  refine ⟨fun f _=>hF.fn f,?_⟩
  rw [Oper.semAt_eq _ _ _ (notDefer hc)]
  obtain ⟨d,op,ty,pos,aft,g⟩:=o
  by_cases hcall:isCall op=true
  · cases op <;> simp only [isCall] at hcall <;> try cases hcall
    rename_i c
    obtain ⟨callee,args,tys⟩:=c
    cases callee <;> simp only [] at hcall <;> try cases hcall
    rename_i f
    simp only [compOp,Option.bind_eq_bind,Option.bind_eq_some_iff,Option.some.injEq] at hc
    obtain ⟨f',h1,as',h2,rfl⟩:=hc
    have hvf:=ha.ev h1
    have hvs:=ha.evs h2
    have hmap:args.map a.eval=(args.toList.map a.eval).toArray:=by apply Array.ext'; simp
    have hdep:(F.depth.isSome=true→1 ≤ 0):=fun e=>by rw [hF.depth] at e; cases e
    rcases call_rel hfs hgo he hvf hvs hr with ⟨g',fst,caps,e1,_,e2,e3⟩ | ⟨l,e1,fn,tmps,assign,body,e2,e3⟩
    · have hrun : (execOp a.eval ⟨d, .call ⟨.value f, args, tys⟩, ty, pos, aft, g⟩).run Y.P w = .ok (.enter g' (fst ++ (args.toList.map a.eval).toArray ++ caps)) w := by
        simp only [execOp,resolve,e1,Deferred.ofValue,Sem.run_bind,Sem.run_pure,Result.andThen_ok,invoke,hmap]
        exact e2
      rw [hrun]
      refine ⟨hdep,hF.calls (e3.mono ?_)⟩
      rintro e w' ⟨ι',v',rfl,s1,s2,s3⟩
      exact hk ι' v' w' s1 s2 s3
    · have hrun : (execOp a.eval ⟨d, .call ⟨.value f, args, tys⟩, ty, pos, aft, g⟩).run Y.P w = .ok (.round l fn tmps assign body) w := by
        simp only [execOp,resolve,e1,Deferred.ofValue,Sem.run_bind,Sem.run_pure,Result.andThen_ok,invoke,hmap,Array.empty_append]
        exact e2
      rw [hrun]
      refine ⟨hdep,(e3 F hF).mono ?_⟩
      rintro e w' ⟨ι',v',rfl,s1,s2,s3⟩
      exact hk ι' v' w' s1 s2 s3
  · have hcall':isCall op=false:=by simpa using hcall
    obtain ⟨v',w', ι',hrun,s1,s2,s3⟩:=evop_rel (d:=d) (ty:=ty) (pos:=pos) (aft:=aft) (g:=g) ha hr hcall' hc he
    rcases hrun with hrun | ⟨hrun,rfl⟩
    · rw [hrun]; exact hk ι' v' w' s1 s2 s3
    · rw [hrun]; exact hk ι' undef w' s1 s2 s3

/-! ### Lists of operations -/
def dstIn (nt:Nat) (o:Oper):Prop:=match o.dst with | some d=>d < nt | none=>True
theorem AR.putD (ha:AR nt ι fr a) {o:Oper} (hd:dstIn nt o) {v':Value} (hv:VR ι v v'):AR nt ι (putD fr (o.dst.map K.ofNat) v) (a.put o.dst v'):=by
  unfold dstIn at hd
  cases ho:o.dst with
  | none=>exact ha
  | some d=>rw [ho] at hd; exact ha.put hd hv

theorem compOper_ok {tab : Tab} {nt : Nat} {all : List Oper} {o : Oper} {eo : EOper} (hn : compOper? tab nt all o = some eo) :
    dstIn nt o∧eo.dst=o.dst.map K.ofNat∧compOp tab o.op=some eo.op ∧
      ((o.guard=none∧eo.g=none) ∨ ∃ j b t,o.guard=some (j,b)∧(all[j]?).bind (·.dst)=some t∧eo.g=some (K.ofNat t,b)):=by
  unfold compOper? at hn
  split at hn
  · rename_i op g h1 h2
    split at hn
    · rename_i hd
      cases hn
      refine ⟨?_,rfl,h1,?_⟩
      · unfold dstIn
        cases ho:o.dst with
        | none=>trivial
        | some d=>rw [ho] at hd; simpa [dstB] using hd
      · cases hg:o.guard with
        | none=>rw [hg] at h2; cases h2; exact .inl ⟨rfl,rfl⟩
        | some p =>
          obtain ⟨j,b⟩:=p
          rw [hg] at h2
          simp only [guardOf] at h2
          split at h2
          · rename_i t ht
            cases h2
            exact .inr ⟨j,b,t,rfl,ht,rfl⟩
          · cases h2
    · cases hn
  · cases hn

def asB (v:Value):Option Bool:=match v with | .bool b=>some b | _=>none
theorem guardV_rel {x:V} {x':Value} {want r:Bool} (hx:VR ι x x') (h:guardV x want=some r):(asB x' == some want)=r:=by
  cases x <;> simp only [guardV] at h <;> cases h
  · cases hx; rename_i x; cases x <;> cases want <;> rfl
  · obtain ⟨vs,rfl,_⟩:=hx.of_tup; rfl
theorem wants_rel {all:List Oper} {o:Oper} {eo:EOper} {r:Bool} (ha:AR nt ι fr a) (hn:compOper? Y.tab nt all o=some eo) (hw:wants fr eo.g=some r):Region.wanted o (yielded all.toArray a.tmps)=r:=by
  obtain ⟨_,_,_,h⟩:=compOper_ok hn
  rcases h with ⟨h1,h2⟩ | ⟨j,b,t,h1,h2,h3⟩
  · rw [h2] at hw; cases hw; simp only [Region.wanted,h1]
  · rw [h3] at hw
    have hv:=ha.fr (K.ofNat t)
    rw [K.ofNat_nat] at hv
    have h2':(all.toArray[j]?).bind (·.dst)=some t:=by simpa using h2
    have:=guardV_rel hv (show guardV (getV (fr.get (K.ofNat t))) b=some r from hw)
    simp only [Region.wanted,h1,yielded,h2',Option.bind_some]
    rw [← this]
    have e:a.tmps.getD t undef=(a.tmps[t]?).getD undef:=by simp [Array.getD_eq_getD_getElem?]
    rw [e]
    cases hx:a.tmps[t]? with
    | none=>rfl
    | some y=>cases y <;> rfl


theorem runOps_rel {fs : T EF} (hfs : Fns Y fs) {go : Go} (hgo : GoOk Y go) {F : Fence} (hF : FW F) {base : Nat} {all : List Oper} {e : Ex} {fr' : Fr} {h0 : H} {ι0 : Io} {w0 : World} :
    ∀ (l:List Oper) {ι:Io} {fr:Fr} {h:H} {a:Act} {w:World},runOps fs go (l.map (compOper Y.tab nt all)) fr h = .ok e fr' h'→Step h0.nx.nat ι0 w0 h.nx.nat ι w→AR nt ι fr a→WR Y.tab ι h w→Mk base ι w a.defers →
      wpListIn F 0 Y.P all.toArray (CQ Y nt base h0 ι0 w0 e fr' h') l a w
  | [], ι,fr,h,a,w,he,hs,ha,hr,hm=>by
    cases he
    exact ⟨rfl, ι,hs,ha,hr,hm⟩
  | o :: l, ι,fr,h,a,w,he,hs,ha,hr,hm=>by
    have he0:runOp fs go (compOper Y.tab nt all o) (runOps fs go (l.map (compOper Y.tab nt all))) fr h = .ok e fr' h':=he
    unfold runOp at he0
    have hdef:∀ (d:Option Tmp) (v':Value),(a.put d v').defers=a.defers:=fun d v'=>by cases d <;> rfl
    cases hno:compOper? Y.tab nt all o with
    | none =>
      have e:compOper Y.tab nt all o=⟨none,none, .no⟩:=by simp [compOper,hno]
      rw [e] at he0
      cases he0
    | some eo =>
      have e:compOper Y.tab nt all o=eo:=by simp [compOper,hno]
      rw [e] at he0
      obtain ⟨c1,c2,c3,_⟩:=compOper_ok hno
      refine wpListIn_step fun K hK=>?_
      obtain ⟨r,hw,he0⟩:=oGet_some (by simp) he0
      rw [wants_rel ha hno hw]
      rw [c2] at he0
      cases r with
      | false =>
        simp only [Bool.false_eq_true,if_false]
        refine ⟨fun f _=>hF.fn f,hK _ _ ?_⟩
        exact runOps_rel hfs hgo hF l he0 hs (ha.putD c1 VR.undef) hr (by rw [hdef]; exact hm)
      | true =>
        simp only [if_true]
        cases hev:evop fs go fr h eo.op with
        | no=>rw [hev] at he0; cases he0
        | ok v1 h1 =>
          rw [hev] at he0
          refine oper_rel hfs hgo hF ha hr c3 hev fun ι' v' w' s1 s2 s3=>hK _ _ ?_
          exact runOps_rel hfs hgo hF l he0 (hs.trans s1) ((ha.mono s1.ext).putD c1 s2) s3 (by rw [hdef]; exact hm.step s1)
end
end Go.Ev
namespace Go.Ev
open Go Go.RowKit

theorem wpIn_loop_ghost {F : Fence} {n : Nat} {P : Program} {Q : Exit → Act → World → Prop} {a : Act} {w : World} {c : Code} {σ : Type} (I : σ → Act → World → Prop) (μ : σ → Nat) (s₀ : σ) (h₀ : I s₀ a w)
    (round:∀ s a w,I s a w→c.wpIn F n P (Exit.then (fun a' w'=>∃ s',I s' a' w' ∧ μ s' < μ s) Q) a w):(Code.loop c).wpIn F n P Q a w:=by
  intro b k cs hro hb hr
  have key : ∀ j s a w, μ s = j → I s a w →
      ∃ e a' w',Q e a' w'∧ArrivesIn (Machine.fenced P F) P (lone (b.atR a (.code c :: .inLoop c :: k)) cs w) b k cs e a' w':=by
    intro j
    induction j using Nat.strongRecOn with
    | _ j ih =>
      intro s a w hn hI
      obtain ⟨e,a₁,w₁,hq,harr⟩:=round s a w hI b (.inLoop c :: k) cs hro hb hr
      cases e with
      | normal =>
        obtain ⟨s₁,hI₁,hlt⟩:=hq
        obtain ⟨e₂,a₂,w₂,hq₂,harr₂⟩:=ih (μ s₁) (hn ▸ hlt) s₁ a₁ w₁ rfl hI₁
        exact ⟨e₂,a₂,w₂,hq₂, .of_steps (StepsIn.trans harr (.one (fenced_calm hb hr rfl) stepR_inLoop)) harr₂⟩
      | exit id=>exact ⟨_,a₁,w₁,hq, .pass (x := .inLoop c) rfl (fun _ _ => .inl (by simp)) harr⟩
      | goto l=>exact ⟨_,a₁,w₁,hq, .pass (x := .inLoop c) rfl (fun _ _ => .inl (by simp)) harr⟩
      | ret=>exact ⟨_,a₁,w₁,hq, .pass (x := .inLoop c) rfl (fun _ _ => .inl (by simp)) harr⟩
      | panic ch=>exact ⟨_,a₁,w₁,hq, .pass (x := .inLoop c) rfl (fun _ _ => .inl (by simp)) harr⟩
      | outgrown=>exact ⟨_,a₁,w₁,hq, .pass (x := .inLoop c) rfl (fun _ _ => .inl (by simp)) harr⟩
  obtain ⟨e,a',w',hq,harr⟩:=key _ s₀ a w rfl h₀
  exact ⟨e,a',w',hq, .of_steps (.one (fenced_calm hb hr rfl) stepR_loop) harr⟩

section
variable {P:Program} {b:Frame} {a:Act} {k:List Item} {cs:List Frame} {w:World}
theorem stepR_scope {c:Code}:step P (lone (b.atR a (.code (.scope c) :: k)) cs w) = .next (lone (b.atR a (.code c :: .inScope c :: k)) cs w) :=
  step_lone_go (by simp [stepG,stepG.exec,Frame.atR])
theorem stepR_inScope {c:Code}:step P (lone (b.atR a (.inScope c :: k)) cs w) = .next (lone (b.atR a k) cs w) :=
  step_lone_go (by simp [stepG,stepG.exec,Frame.atR])
end
theorem wpIn_scope {F:Fence} {n:Nat} {P:Program} {Q:Exit→Act→World→Prop} {a:Act} {w:World} {c:Code} (hQ:∀ l a w,¬ Q (.goto l) a w) (h:c.wpIn F n P Q a w):(Code.scope c).wpIn F n P Q a w:=by
  intro b k cs hro hb hr
  have h0:(lone (b.atR a (.code (.scope c) :: k)) cs w).fenced P F:=fenced_calm hb hr rfl
  obtain ⟨e,a₁,w₁,hq,harr⟩:=h b (.inScope c :: k) cs hro hb hr
  cases e with
  | normal=>exact ⟨.normal,a₁,w₁,hq, .head h0 stepR_scope (StepsIn.trans harr (.one (fenced_calm hb hr rfl) stepR_inScope))⟩
  | exit id =>
    have hx:exitTo id (.inScope c :: k)=exitTo id k:=by simp [exitTo]
    exact ⟨.exit id, a₁, w₁, hq, fun k' hk => .head h0 stepR_scope (harr.1 k' (by rw [hx]; exact hk)),
        fun hr' hk=>let ⟨k₁,h1,h2⟩:=harr.2 hr' (by rw [hx]; exact hk); ⟨k₁,h1, .head h0 stepR_scope h2⟩⟩
  | goto l=>exact absurd hq (hQ l a₁ w₁)
  | ret=>exact ⟨_,a₁,w₁,hq, .of_steps (.one h0 stepR_scope) harr⟩
  | panic ch=>exact ⟨_,a₁,w₁,hq, .of_steps (.one h0 stepR_scope) harr⟩
  | outgrown=>exact ⟨_,a₁,w₁,hq, .of_steps (.one h0 stepR_scope) harr⟩

theorem Step.world {n:Nat} {ι:Io} {w w':World} (hb:∀ b,b < w.heap.size→w'.heap[b]? = w.heap[b]?) (hs:w.heap.size ≤ w'.heap.size) (hos:w'.os=w.os) (htp:w'.tape=w.tape) (hout:w'.output=w.output):Step n ι w n ι w' :=
  ⟨Ext.refl ι,fun id q h k=>(by rw [h] at k; cases k),fun b h _=>hb b h,hos,htp,hout,hs,Nat.le_refl _,fun _ _ h=>h⟩

section
variable {Y:Rig} {nt base:Nat} {ι:Io} {fr fr':Fr} {a:Act} {h h':H} {w:World} {e:Ex}

theorem CQ.trans {h1:H} {ι1:Io} {w1:World} (hs:Step h.nx.nat ι w h1.nx.nat ι1 w1) {ex:Exit} {a':Act} {w':World} (hq:CQ Y nt base h1 ι1 w1 e fr' h' ex a' w'):CQ Y nt base h ι w e fr' h' ex a' w':=by
  obtain ⟨h1, ι',h2,h3⟩:=hq
  exact ⟨h1, ι',hs.trans h2,h3⟩

theorem Res.go_ok {r:Res} {f:Fr→H→Res} (he:r.go f = .ok e fr' h'):(∃ fr1 h1,r = .ok .normal fr1 h1∧f fr1 h1 = .ok e fr' h') ∨ (e ≠ .normal∧r = .ok e fr' h'):=by
  cases r with
  | no=>cases he
  | ok e1 fr1 h1 =>
    cases e1 with
    | normal=>exact .inl ⟨fr1,h1,rfl,he⟩
    | exit i =>
      have:Res.ok (.exit i) fr1 h1 = .ok e fr' h':=he
      cases this
      exact .inr ⟨by simp,rfl⟩
    | ret =>
      have:Res.ok .ret fr1 h1 = .ok e fr' h':=he
      cases this
      exact .inr ⟨by simp,rfl⟩
theorem Res.at_ok {r:Res} {id:Nat} (he:r.at id = .ok e fr' h'):∃ e1,r = .ok e1 fr' h'∧((e1 = .exit id∧e = .normal) ∨ (e1 ≠ .exit id∧e=e1)):=by
  cases r with
  | no=>cases he
  | ok e1 fr1 h1 =>
    cases e1 with
    | normal =>
      have:Res.ok .normal fr1 h1 = .ok e fr' h':=he
      cases this
      exact ⟨.normal,rfl, .inr ⟨by simp,rfl⟩⟩
    | ret =>
      have:Res.ok .ret fr1 h1 = .ok e fr' h':=he
      cases this
      exact ⟨.ret,rfl, .inr ⟨by simp,rfl⟩⟩
    | exit i =>
      have he':(bif Nat.beq i id then Res.ok .normal fr1 h1 else Res.ok (.exit i) fr1 h1) = .ok e fr' h':=he
      cases hb:Nat.beq i id with
      | true =>
        rw [hb] at he'
        cases he'
        have:=Nat.eq_of_beq_eq_true hb
        subst this
        exact ⟨_,rfl, .inl ⟨rfl,rfl⟩⟩
      | false =>
        rw [hb] at he'
        cases he'
        have:i ≠ id:=fun e=>by rw [e] at hb; simp at hb
        exact ⟨_,rfl, .inr ⟨by simpa using this,rfl⟩⟩
theorem RV.to_ok {r:RV} {f:V→H→Res} (he:r.to f = .ok e fr' h'):∃ v h1,r = .ok v h1∧f v h1 = .ok e fr' h':=by
  cases r with
  | no=>cases he
  | ok v h1=>exact ⟨v,h1,rfl,he⟩

theorem rangeL_rel {fs : T EF} (hfs : Fns Y fs) {go : Go} (hgo : GoOk Y go) {ro : Option K} {F : Fence} {f : Operand} {f' : EO} {ps : Array Tmp} {as bd : Code} (hf : eo f = some f') (hps : ps.toList.all (fun p => decide (p < nt)) = true)
    (he:rangeL fs go ro (ev fr f') (ps.toList.map K.ofNat) (comp Y.tab nt as) (comp Y.tab nt bd) fr h = .ok e fr' h') (hro:RO F ro ι) (ha:AR nt ι fr a) (hr:WR Y.tab ι h w) (hm:Mk base ι w a.defers) :
    (Code.rangeFunc f ps as bd).wpIn F 0 Y.P (CQ Y nt base h ι w e fr' h') a w:=by
  have hF:=hro.fw
  obtain ⟨hc,he1⟩:=cond_ok (by simp) he
  simp only [Bool.and_eq_true] at hc
  obtain ⟨v1,h1,hcall,he2⟩:=RV.to_ok he1
  have hvf:=ha.ev hf
  have hps':∀ p ∈ ps.toList,p < nt:=fun p hp=>by simpa using List.all_eq_true.1 hps p hp
  refine wpIn_rangeFunc fun fn _=>?_
  -- the record
  have enter : ∃ (w0 : World) (mark : List Deferred) (dfs : Nat), (Instr.enterLoop fn a.tmps ps as bd F.round).run Y.P w = .ok (w0.heap.size, mark) (w0.alloc (.loop { state := .ready, pending := none, fn, tmps := a.tmps, params := ps, assign := as, body := bd, defers := dfs })) ∧
      Step h.nx.nat ι w h.nx.nat ι w0∧WR Y.tab ι h w0∧Mk base ι w0 (mark ++ a.defers):=by
    cases ro with
    | none =>
      have hF0:F=Fence.wide:=hro
      subst hF0
      have hold:∀ b,b < w.heap.size→(w.alloc (.deferred (some []))).heap[b]? = w.heap[b]?:=fun b hb=>heap_alloc_old w _ hb
      have hst:Step h.nx.nat ι w h.nx.nat ι (w.alloc (.deferred (some []))):=Step.world hold (by simp) rfl rfl rfl
      refine ⟨w.alloc (.deferred (some [])), [{ target := .collected w.heap.size,args := #[] }],w.heap.size,?_,hst,hr.same hold (by simp),?_⟩
      · have:=run_enterLoop_outer (w:=w) (P:=Y.P) fn a.tmps ps as bd
        simpa using this
      · obtain ⟨g0,l,g1,g2,g3⟩:=hm.step hst
        refine ⟨g0,w.heap.size :: l,by simp [g1],List.nodup_cons.2 ⟨fun hin=>?_,g2⟩,fun D hD=>?_⟩
        · obtain ⟨_,l',k1,_,k3⟩:=hm
          have hll:l=l':=by
            have:=g1.symm.trans k1
            have hinj:∀ (l l':List Nat),l.map (fun D=>({ target := .collected D,args := #[] }:Deferred))=l'.map (fun D=>({ target := .collected D,args := #[] }:Deferred))→l=l':=by
              intro l
              induction l with
              | nil=>intro l' h; cases l' with | nil=>rfl | cons x l'=>simp at h
              | cons x l ih=>intro l' h; cases l' with | nil=>simp at h | cons y l'=>simp only [List.map_cons,List.cons.injEq,Deferred.mk.injEq,Target.collected.injEq,and_true] at h; rw [h.1,ih l' h.2]
            exact hinj _ _ this
          subst hll
          have:=lt_of_heap (k3 _ hin).2.1
          omega
        · rcases List.mem_cons.1 hD with rfl | hD
          · exact ⟨hm.1,heap_alloc_new w _,fun id q hq e=>by have:=hr.lt id q hq; omega⟩
          · exact g3 D hD
    | some id0 =>
      obtain ⟨q0,hq0,hF0⟩:=hro
      have hl:(h.get id0).isL=true:=hc.1
      have hblk:=hr.blk id0 q0 hq0
      cases hb:h.get id0 <;> rw [hb] at hl <;> simp only [Blk.isL] at hl <;> try cases hl
      rw [hb] at hblk
      obtain ⟨L0,_,hh0,_⟩:=hblk
      refine ⟨w, [],L0.defers,?_,Step.refl _ _ _,hr,by simpa using hm⟩
      have hrd:F.round=some q0.b:=by rw [hF0]; rfl
      rw [hrd]
      exact run_enterLoop_inner hh0 fn a.tmps ps as bd
  obtain ⟨w0,mark,dfs,hent,s0,wr0,mk0⟩:=enter
  obtain ⟨L,hL⟩:∃ L:Loop,L = { state := .ready,pending:=none,fn,tmps:=a.tmps,params:=ps,assign:=as,body:=bd,defers:=dfs }:=⟨_,rfl⟩
  rw [← hL] at hent
  obtain ⟨s1,wr1⟩:=wr0.alloc (b := .loop .ready none fr (ps.toList.map K.ofNat) (comp Y.tab nt as) (comp Y.tab nt bd)) (o := .loop L) (base:=0) (room:=0)
    ⟨L,nt,heap_alloc_new w0 _,by rw [hL]; rfl,by rw [hL]; rfl,by rw [hL]; exact ha.fr.mono (updI_ext (wr0.fresh _ (Nat.le_refl _))),by rw [hL]; exact ha.nt,by
      rw [hL]; simp only [List.map_map]
      have:(K.nat ∘ K.ofNat)=id:=by funext n; simp [K.ofNat_nat]
      rw [this]; simp,fun p hp=>by
      obtain ⟨t,ht,rfl⟩:=List.mem_map.1 hp
      rw [K.ofNat_nat]; exact hps' t ht,by rw [hL],by rw [hL]⟩
  generalize hι1:updI ι h.nx ⟨w0.heap.size,0,0,none⟩ = ι1 at s1 wr1
  have hid : ι1 h.nx=some ⟨w0.heap.size,0,0,none⟩:=by rw [← hι1]; exact updI_same _ _ _
  have hargs:VRs ι1 [.yl h.nx] [.func (.yield w0.heap.size) #[] #[]]:=VRs.cons (.yl hid) VRs.nil
  have hF2:F.depth.isSome=true→1 ≤ 0:=fun e=>by rw [hF.depth] at e; cases e
  rcases call_rel hfs hgo hcall ((hvf.mono s0.ext).mono s1.ext) hargs wr1 with ⟨g,fst,caps,e1,e0,e2,e3⟩ | ⟨l,e1,_⟩
  · obtain rfl:=e0 hc.2
    simp only [Array.empty_append] at e2 e3
    refine ⟨w0.heap.size,mark,w0.alloc (.loop L), { target := .fn (.func g) caps,args := #[.func (.yield w0.heap.size) #[] #[]] },w0.alloc (.loop L),g, #[.func (.yield w0.heap.size) #[] #[]] ++ caps,w0.alloc (.loop L),hent,?_,fun f' _=>hF.fn f',?_,hF2,?_⟩
    · simp only [resolve,e1,Deferred.ofValue]
      simp [Act.eval]
    · show (callFunc g (#[.func (.yield w0.heap.size) #[] #[]] ++ caps)).run Y.P _=_
      simpa using e2
    · have e3':CallsIn F 0 Y.P g (#[.func (.yield w0.heap.size) #[] #[]] ++ caps) (w0.alloc (.loop L)) (Post Y (h.new (.loop .ready none fr (ps.toList.map K.ofNat) (comp Y.tab nt as) (comp Y.tab nt bd))) ι1 (w0.alloc (.loop L)) v1 h1):=hF.calls e3
      show CallsIn F 0 Y.P g _ _ _
      refine CallsIn.mono e3' ?_
      rintro en w2 ⟨ι2,v2,rfl,s2,_,wr2⟩
      have hid2:=s2.ext _ _ hid
      have he3:(h1.get h.nx).onL' (fun s j=>endL s j h.nx fr h1) = .ok e fr' h':=he2
      cases hb:h1.get h.nx <;> rw [hb] at he3 <;> simp only [Blk.onL'] at he3 <;> try cases he3
      rename_i st j fr2 ps2 aa2 cc2
      have hblk2:=wr2.blk h.nx _ hid2
      rw [hb] at hblk2
      obtain ⟨L2,nt2,hh2,m1,m2,_⟩:=hblk2
      have hlt2:=lt_of_heap hh2
      have hlive:live h1 h.nx:=by unfold live; rw [hb]; simp
      obtain ⟨s3,wr3⟩:=wr2.write (b := .dead) (w':=w2.putObj w0.heap.size (.loop { L2 with state := .exhausted })) hid2 hlive (by rw [hb]; exact fun h=>h) (by simp) (fun c hc=>World.putObj_heap_other hc) rfl rfl rfl trivial
      have hall:=((s0.trans s1).trans s2).trans s3
      have hmk3:=(((mk0.step s1).step s2).step s3)
      have fin:∀ ex:Exit,ex=e.of→fr'=fr→h'=h1.put h.nx .dead→CQ Y nt base h ι w e fr' h' ex { a with defers:=mark ++ a.defers } (w2.putObj w0.heap.size (.loop { L2 with state := .exhausted })):=by
        intro ex h4 h5 h6
        subst h5; subst h6
        exact ⟨h4, ι2,hall,⟨ha.nt,ha.fr.mono hall.ext⟩,wr3,hmk3⟩
      cases st <;> simp only [endL] at he3 <;> try cases he3
      · cases j with
        | some _=>cases he3
        | none =>
          have he4:Res.ok .normal fr (h1.put h.nx .dead) = .ok e fr' h':=he3
          cases he4
          refine ⟨none,_,?_,fin _ rfl rfl rfl⟩
          rw [run_endLoop hh2 (by rw [m1]; simp [LS.of]),m2]
          rfl
      · cases j with
        | none=>cases he3
        | some e0 =>
          have he4:Res.ok e0 fr (h1.put h.nx .dead) = .ok e fr' h':=he3
          cases he4
          have hrun:(Instr.endLoop w0.heap.size).run Y.P w2 = .ok ((some e).bind Ex.code) (w2.putObj w0.heap.size (.loop { L2 with state := .exhausted })) :=
            (run_endLoop (P:=Y.P) hh2 (by rw [m1]; simp [LS.of])).trans (congrArg (fun p=>Result.ok p (w2.putObj w0.heap.size (.loop { L2 with state := .exhausted }))) m2)
          cases e with
          | normal=>exact ⟨none,_,hrun,fin _ rfl rfl rfl⟩
          | ret=>exact ⟨some .ret,_,hrun,wpIn_ret (fin _ rfl rfl rfl)⟩
          | exit i=>exact ⟨some (.exit i),_,hrun,wpIn_exit (fin _ rfl rfl rfl)⟩
  · exfalso
    have hisF:(ev fr f').isF=true:=hc.2
    cases hev:ev fr f' <;> rw [hev] at hisF hvf <;> simp only [V.isF] at hisF <;> try cases hisF
    rw [e1] at hvf
    cases hvf

theorem eval_succ (fs:T EF) (n:Nat) (ro:Option K) (c:EC) (fr:Fr) (h:H):eval fs (n + 1) ro c fr h=evStep fs (eval fs n) ro c fr h:=rfl

def DrawOk (Y:Rig) (fs:T EF):Prop:=∀ (go:Go),GoOk Y go → ∀ (ro:Option K) (nt base id:Nat) (ops:Array Oper) (fr:Fr) (h:H) (e:Ex) (fr':Fr) (h':H),evStep fs go ro (comp Y.tab nt (.region id ops true)) fr h = .ok e fr' h' →
  ∀ (F:Fence) (ι:Io) (a:Act) (w:World),FW F→AR nt ι fr a→WR Y.tab ι h w→Mk base ι w a.defers→(Code.region id ops true).wpIn F 0 Y.P (CQ Y nt base h ι w e fr' h') a w

theorem goOk {fs:T EF} (hfs:Fns Y fs) (hdr:DrawOk Y fs):∀ n,GoOk Y (eval fs n):=by
  intro n
  induction n using Nat.strongRecOn with
  | _ n ih =>
    intro ro nt base code fr h e fr' h' he F ι a w hro ha hr hm
    have hF:=hro.fw
    cases n with
    | zero=>cases he
    | succ n =>
      have hgo:=ih n (Nat.lt_succ_self n)
      rw [eval_succ] at he
      cases code with
      | skip =>
        have he:Res.ok .normal fr h = .ok e fr' h':=he
        cases he
        exact wpIn_skip ⟨rfl, ι,Step.refl _ _ _,ha,hr,hm⟩
      | label l =>
        have he:Res.ok .normal fr h = .ok e fr' h':=he
        cases he
        exact wpIn_label ⟨rfl, ι,Step.refl _ _ _,ha,hr,hm⟩
      | ret =>
        have he:Res.ok .ret fr h = .ok e fr' h':=he
        cases he
        exact wpIn_ret ⟨rfl, ι,Step.refl _ _ _,ha,hr,hm⟩
      | exit id =>
        have he:Res.ok (.exit id) fr h = .ok e fr' h':=he
        cases he
        exact wpIn_exit ⟨rfl, ι,Step.refl _ _ _,ha,hr,hm⟩
      | goto l=>cases he
      | refuse s=>cases he
      | scope c =>
        have he:eval fs n ro (comp Y.tab nt c) fr h = .ok e fr' h':=he
        refine wpIn_scope (fun l a1 w1 hq=>?_) (hgo ro nt base c fr h e fr' h' he F ι a w hro ha hr hm)
        have:=hq.1
        cases e <;> cases this
      | region id ops draw =>
        cases draw with
        | false =>
          have he:runOps fs (eval fs n) (ops.toList.map (compOper Y.tab nt ops.toList)) fr h = .ok e fr' h':=he
          refine wpIn_region_list ?_
          have:=runOps_rel hfs hgo hF (base:=base) (all:=ops.toList) ops.toList he (Step.refl _ ι w) ha hr hm
          simpa using this
        | true=>exact hdr _ hgo ro nt base id ops fr h e fr' h' he F ι a w hF ha hr hm
      | seq c1 c2 =>
        have he:(eval fs n ro (comp Y.tab nt c1) fr h).go (fun fr h=>eval fs n ro (comp Y.tab nt c2) fr h) = .ok e fr' h':=he
        rcases Res.go_ok he with ⟨fr1,h1,e1,e2⟩ | ⟨hne,e1⟩
        · refine wpIn_seq (wpIn_mono (hgo ro nt base c1 fr h .normal fr1 h1 e1 F ι a w hro ha hr hm) ?_)
          rintro ex a1 w1 ⟨rfl, ι1,s1,ha1,hr1,hm1⟩
          exact wpIn_mono (hgo ro nt base c2 fr1 h1 e fr' h' e2 F ι1 a1 w1 (hro.mono s1.ext) ha1 hr1 hm1) fun ex a2 w2 hq=>hq.trans s1
        · refine wpIn_seq (wpIn_mono (hgo ro nt base c1 fr h e fr' h' e1 F ι a w hro ha hr hm) ?_)
          rintro ex a1 w1 ⟨rfl,hq⟩
          cases e <;> first | exact absurd rfl hne | exact ⟨rfl,hq⟩
      | cond c x y =>
        unfold comp at he
        cases hc:eo c with
        | none=>rw [hc] at he; cases he
        | some c' =>
          rw [hc] at he
          have he:condC (eval fs n) ro (ev fr c') (comp Y.tab nt x) (comp Y.tab nt y) fr h = .ok e fr' h':=he
          have hv:=ha.ev hc
          unfold condC at he
          generalize hcv:ev fr c'=cv at he hv
          cases cv <;> simp only [V.onB] at he <;> try cases he
          rename_i b
          have hb:=hv.of_b
          cases b with
          | true=>exact wpIn_cond_true hb (hgo ro nt base x fr h e fr' h' he F ι a w hro ha hr hm)
          | false=>exact wpIn_cond_false hb (hgo ro nt base y fr h e fr' h' he F ι a w hro ha hr hm)
      | block id c =>
        have he:(eval fs n ro (comp Y.tab nt c) fr h).at id = .ok e fr' h':=he
        obtain ⟨e1,e2,e3⟩:=Res.at_ok he
        refine wpIn_block (wpIn_mono (hgo ro nt base c fr h e1 fr' h' e2 F ι a w hro ha hr hm) ?_)
        rintro ex a1 w1 ⟨rfl,hq⟩
        rcases e3 with ⟨rfl,rfl⟩ | ⟨hne,rfl⟩
        · simp only [Ex.of,Exit.inBlock,if_true]; exact ⟨rfl,hq⟩
        · cases e with
          | exit i =>
            have:i ≠ id:=fun e=>hne (by rw [e])
            simp only [Ex.of,Exit.inBlock,this,if_false]
            exact ⟨rfl,hq⟩
          | normal=>exact ⟨rfl,hq⟩
          | ret=>exact ⟨rfl,hq⟩
      | loop c =>
        refine wpIn_loop_ghost (σ:=Nat × Fr × H × Io × World) (fun s a1 w1=>s.1 ≤ n + 1∧eval fs s.1 ro (.loop (comp Y.tab nt c)) s.2.1 s.2.2.1 = .ok e fr' h'∧s.2.2.2.2=w1∧Step h.nx.nat ι w s.2.2.1.nx.nat s.2.2.2.1 w1∧AR nt s.2.2.2.1 s.2.1 a1∧WR Y.tab s.2.2.2.1 s.2.2.1 w1∧Mk base s.2.2.2.1 w1 a1.defers) (fun s=>s.1) (n + 1,fr,h, ι,w)
          ⟨Nat.le_refl _,he,rfl,Step.refl _ _ _,ha,hr,hm⟩ ?_
        rintro ⟨m,fr1,h1, ι1,w1⟩ a1 w1' ⟨hle,he1,rfl,s1,ha1,hr1,hm1⟩
        simp only at hle he1 s1 ha1 hr1 hm1
        cases m with
        | zero=>cases he1
        | succ m =>
          have hgm:=ih m (by omega)
          have he2:(eval fs m ro (comp Y.tab nt c) fr1 h1).go (fun fr h=>eval fs m ro (.loop (comp Y.tab nt c)) fr h) = .ok e fr' h':=he1
          rcases Res.go_ok he2 with ⟨fr2,h2,e1,e2⟩ | ⟨hne,e1⟩
          · refine wpIn_mono (hgm ro nt base c fr1 h1 .normal fr2 h2 e1 F ι1 a1 _ (hro.mono s1.ext) ha1 hr1 hm1) ?_
            rintro ex a2 w2 ⟨rfl, ι2,s2,ha2,hr2,hm2⟩
            exact ⟨(m,fr2,h2, ι2,w2),⟨by omega,e2,rfl,s1.trans s2,ha2,hr2,hm2⟩,Nat.lt_succ_self m⟩
          · refine wpIn_mono (hgm ro nt base c fr1 h1 e fr' h' e1 F ι1 a1 _ (hro.mono s1.ext) ha1 hr1 hm1) ?_
            rintro ex a2 w2 hq
            have hq2:=CQ.trans s1 hq
            clear hq
            obtain ⟨rfl,hq2⟩:=hq2
            cases e <;> first | exact absurd rfl hne | exact ⟨rfl,hq2⟩
      | rangeFunc f ps as bd =>
        unfold comp at he
        cases hf:eo f with
        | none=>rw [hf] at he; cases he
        | some f' =>
          rw [hf] at he
          simp only at he
          split at he
          · rename_i hps
            exact rangeL_rel hfs hgo hf hps he hro ha hr hm
          · cases he
end
end Go.Ev
