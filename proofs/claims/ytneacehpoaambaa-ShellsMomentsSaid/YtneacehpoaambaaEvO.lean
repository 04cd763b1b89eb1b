/-
  The evaluator, part O: statements whose order is open: what they rest on.
-/
import Derived.Test.YtneacehpoaambaaEvN
namespace Go.Ev
open Go Go.RowKit

/-! ### An operation reads its keys, and no more -/
def Same (l : List K) (fr fr' : Fr) : Prop := ∀ k, k ∈ l → fr.get k = fr'.get k
theorem Same.left {l m : List K} {fr fr' : Fr} (h : Same (l ++ m) fr fr') : Same l fr fr' := fun k hk => h k (List.mem_append_left _ hk)
theorem Same.right {l m : List K} {fr fr' : Fr} (h : Same (l ++ m) fr fr') : Same m fr fr' := fun k hk => h k (List.mem_append_right _ hk)
section
variable {fr fr' : Fr}
theorem ev_same {x : EO} (h : Same x.key fr fr') : ev fr x = ev fr' x := by
  cases x with
  | t k => exact congrArg getV (h k (by simp [EO.key]))
  | c v => rfl
theorem evs_same : ∀ {l : List EO}, Same (l.flatMap EO.key) fr fr' → evs fr l = evs fr' l
  | [], _ => rfl
  | x :: l, h => by
    rw [List.flatMap_cons] at h
    have e1 : evs fr (x :: l) = ev fr x :: evs fr l := rfl
    have e2 : evs fr' (x :: l) = ev fr' x :: evs fr' l := rfl
    rw [e1, e2, ev_same h.left, evs_same h.right]
theorem fill_same : ∀ {l : List (Nat × Nat × EO)} {z : List V}, Same (l.flatMap fun p => p.2.2.key) fr fr' → fillE fr z l = fillE fr' z l
  | [], _, _ => rfl
  | p :: l, z, h => by
    rw [List.flatMap_cons] at h
    have e1 : fillE fr z (p :: l) = oGet (cellsN p.2.1 (ev fr p.2.2)) none fun cs => fillE fr (setMany z p.1 cs) l := rfl
    have e2 : fillE fr' z (p :: l) = oGet (cellsN p.2.1 (ev fr' p.2.2)) none fun cs => fillE fr' (setMany z p.1 cs) l := rfl
    rw [e1, e2, ev_same h.left]
    congr 1
    funext cs
    exact fill_same h.right
theorem bound_same {o : Option EO} {d : Nat} (h : Same (okey o) fr fr') : bound fr o d = bound fr' o d := by
  cases o with
  | none => rfl
  | some x =>
    unfold bound
    simp only [oGet]
    rw [ev_same h]
theorem slice_same {sz : Nat} {v : V} {lo hi mx : Option EO} {h0 : H} (h1 : Same (okey lo) fr fr') (h2 : Same (okey hi) fr fr') (h3 : Same (okey mx) fr fr') : sliceV fr sz v lo hi mx h0 = sliceV fr' sz v lo hi mx h0 := by
  unfold sliceV
  simp only [bound_same h1, bound_same h2, bound_same h3]
theorem evop_same {fs : T EF} {go : Go} {h : H} {o : EOp} (hs : Same o.keys fr fr') : evop fs go fr h o = evop fs go fr' h o := by
  cases o <;> simp only [EOp.keys] at hs <;> simp only [evop]
  case mv x => rw [ev_same hs]
  case pick c a b => rw [ev_same hs.left, ev_same hs.right.left, ev_same hs.right.right]
  case box n x => rw [ev_same hs]
  case build z ps => rw [fill_same hs]
  case bslice n sz z ps => rw [fill_same hs]
  case ld x => rw [ev_same hs]
  case ldn n x => rw [ev_same hs]
  case st n x y => rw [ev_same hs.left, ev_same hs.right]
  case bin op x y => rw [ev_same hs.left, ev_same hs.right]
  case eqk kd ng x y => rw [ev_same hs.left, ev_same hs.right]
  case not x => rw [ev_same hs]
  case neg x => rw [ev_same hs]
  case conv k x => rw [ev_same hs]
  case mkfn f cs => rw [evs_same hs]
  case look kt kd z m k ok => rw [ev_same hs.left, ev_same hs.right]
  case mupd kt kd m k v => rw [ev_same hs.left, ev_same hs.right.left, ev_same hs.right.right]
  case mkslice sz z l => rw [ev_same hs]
  case slice sz x a b c => rw [ev_same hs.left]; exact slice_same hs.right.left hs.right.right.left hs.right.right.right
  case fadr off x => rw [ev_same hs]
  case fld off sz x => rw [ev_same hs]
  case iadr len sz x i => rw [ev_same hs.left, ev_same hs.right]
  case iads sz x i => rw [ev_same hs.left, ev_same hs.right]
  case ix len sz agg x i => rw [ev_same hs.left, ev_same hs.right]
  case ext x i => rw [ev_same hs]
  case call f args => rw [ev_same hs.left, evs_same hs.right]
  case len x => rw [ev_same hs]
  case app sz x y => rw [ev_same hs.left, ev_same hs.right]
  case min x y => rw [ev_same hs.left, ev_same hs.right]
  case max x y => rw [ev_same hs.left, ev_same hs.right]
theorem wants_same {g : Option (K × Bool)} (h : Same (match g with | some p => [p.1] | none => []) fr fr') : wants fr g = wants fr' g := by
  cases g with
  | none => rfl
  | some p =>
    have := h p.1 (by simp)
    unfold wants
    simp only [oGet, this]
end

/-! ### What is quiet turns no memory -/
theorem onSl_no {x : V} {n : RV} {f : K → Nat → Nat → Nat → RV} {v : V} {h : H} (e : x.onSl .no n f = .ok v h) : n = .ok v h ∨ ∃ id off m sz, f id off m sz = .ok v h := by
  rcases V.onSl_ok RV.no_ne e with ⟨_, h⟩ | ⟨a, b, c, d, _, h⟩
  · exact .inl h
  · exact .inr ⟨a, b, c, d, h⟩
theorem idxV_out {i : V} {len : Nat} {f : Nat → RV} {v : V} {h : H} (e : idxV i len f = .ok v h) : ∃ n, f n = .ok v h := by
  obtain ⟨k, n, _, e⟩ := V.onI_ok e
  obtain ⟨m, _, e⟩ := oGet_ok e
  exact ⟨m, (cond_ok RV.no_ne e).2⟩
theorem quiet_same {fs : T EF} {go : Go} {fr : Fr} {h h' : H} {o : EOp} {v : V} (hq : o.quiet = true) (he : evop fs go fr h o = .ok v h') : h' = h := by
  cases o <;> simp only [EOp.quiet, reduceCtorEq] at hq <;> simp only [evop] at he
  case mv x => cases he; rfl
  case pick c a b => obtain ⟨b, _, he⟩ := V.onB_ok he; cases he; rfl
  case build z ps => obtain ⟨cs, _, he⟩ := oGet_ok he; cases he; rfl
  case ld p => exact (okv_ok he).2
  case ldn n p => exact (okv_ok he).2
  case bin op x y => exact (okv_ok he).2
  case eqk kd ng x y => exact (okv_ok he).2
  case not x => obtain ⟨b, _, he⟩ := V.onB_ok he; cases he; rfl
  case neg x => obtain ⟨k, n, _, he⟩ := V.onI_ok he; cases he; rfl
  case conv k x => obtain ⟨k, n, _, he⟩ := V.onI_ok he; cases he; rfl
  case mkfn f cs => cases he; rfl
  case look kt kd z m k ok =>
    unfold lookV at he
    generalize ev fr m = mv at he
    cases mv <;> simp only [V.onM] at he <;> try cases he
    rename_i id
    generalize h.get id = blk at he
    cases blk <;> simp only [Blk.onM] at he <;> try cases he
    obtain ⟨_, he⟩ := cond_ok RV.no_ne he
    obtain ⟨r, _, he⟩ := oGet_ok he
    cases ok <;> cases he <;> rfl
  case slice sz x lo hi mx =>
    unfold sliceV at he
    rcases onSl_no he with he | ⟨id, off, m, sz', he⟩
    · obtain ⟨_, _, he⟩ := oGet_ok he
      obtain ⟨_, _, he⟩ := oGet_ok he
      obtain ⟨_, _, he⟩ := oGet_ok he
      obtain ⟨_, he⟩ := cond_ok RV.no_ne he
      cases he; rfl
    · obtain ⟨_, he⟩ := cond_ok RV.no_ne he
      obtain ⟨_, _, he⟩ := oGet_ok he
      obtain ⟨_, _, he⟩ := oGet_ok he
      cases mx with
      | none =>
        simp only [oGet, cutV] at he
        obtain ⟨_, he⟩ := cond_ok RV.no_ne he
        cases he; rfl
      | some y =>
        have he : (oGet (bound fr (some y) 0) .no fun m => cutV id off _ sz h _ _ (some m)) = .ok v h' := he
        obtain ⟨_, _, he⟩ := oGet_ok he
        unfold cutV at he
        obtain ⟨_, he⟩ := cond_ok RV.no_ne he
        cases he; rfl
  case fadr off x => obtain ⟨_, _, _, he⟩ := V.onP_ok he; cases he; rfl
  case fld off sz x =>
    unfold fldV at he
    obtain ⟨cs, _, he⟩ := V.onAgg_ok he
    cases sz with
    | none => exact (okv_ok he).2
    | some n => cases he; rfl
  case iadr len sz x i =>
    obtain ⟨_, _, _, he⟩ := V.onP_ok he
    obtain ⟨_, he⟩ := idxV_out he
    cases he; rfl
  case iads sz x i =>
    rcases onSl_no he with he | ⟨id, off, m, sz', he⟩
    · cases he
    · obtain ⟨_, he⟩ := cond_ok RV.no_ne he
      obtain ⟨_, he⟩ := idxV_out he
      cases he; rfl
  case ix len sz agg x i =>
    unfold ixV at he
    obtain ⟨cs, _, he⟩ := V.onAgg_ok he
    obtain ⟨n, he⟩ := idxV_out he
    cases agg with
    | true => cases he; rfl
    | false => exact (okv_ok he).2
  case ext x i => obtain ⟨l, _, he⟩ := V.onTup_ok he; exact (okv_ok he).2
  case len x =>
    unfold lenV at he
    rcases onSl_no he with he | ⟨id, off, m, sz', he⟩ <;> cases he <;> rfl
  case min x y =>
    obtain ⟨_, _, _, he⟩ := V.onI_ok he
    obtain ⟨_, _, _, he⟩ := V.onI_ok he
    cases he; rfl
  case max x y =>
    obtain ⟨_, _, _, he⟩ := V.onI_ok he
    obtain ⟨_, _, _, he⟩ := V.onI_ok he
    cases he; rfl

/-! ### The same value -/
theorem K.beq_eq : ∀ {a b : K}, K.beq a b = true → a = b
  | .e, b, h => by cases b <;> first | rfl | cases h
  | .o a, b, h => by
    cases b with
    | o b => exact congrArg K.o (K.beq_eq (a := a) (b := b) h)
    | e => cases h
    | z b => cases h
  | .z a, b, h => by
    cases b with
    | z b => exact congrArg K.z (K.beq_eq (a := a) (b := b) h)
    | e => cases h
    | o b => cases h
theorem K.beq_refl : ∀ (a : K), K.beq a a = true
  | .e => rfl
  | .o a => K.beq_refl a
  | .z a => K.beq_refl a
theorem beq1_eq {x y : V} (h : beq1 x y = true) : x = y := by
  cases x <;> simp only [beq1, reduceCtorEq] at h
  case b a => cases y <;> simp only [V.onB, reduceCtorEq] at h; simp at h; rw [h]
  case i k n =>
    cases y <;> simp only [V.onI, reduceCtorEq] at h
    simp only [Bool.and_eq_true, beq_iff_eq] at h
    obtain ⟨rfl, h2⟩ := h
    rw [ieq_eq] at h2
    simp at h2
    rw [h2]
  case p id off =>
    cases y <;> simp only [reduceCtorEq] at h
    simp only [Bool.and_eq_true] at h
    rw [K.beq_eq h.1, Nat.eq_of_beq_eq_true h.2]
  case sl id off n sz =>
    cases y <;> simp only [V.onSl, reduceCtorEq] at h
    simp only [Bool.and_eq_true] at h
    obtain ⟨⟨⟨h1, h2⟩, h3⟩, h4⟩ := h
    rw [K.beq_eq h1, Nat.eq_of_beq_eq_true h2, Nat.eq_of_beq_eq_true h3, Nat.eq_of_beq_eq_true h4]
  case m id =>
    cases y <;> simp only [reduceCtorEq] at h
    rw [K.beq_eq h]
  all_goals (cases y <;> simp only [reduceCtorEq] at h <;> rfl)
theorem beqL_eq : ∀ {l m : List V}, beqL l m = true → l = m
  | [], [], _ => rfl
  | [], _ :: _, h => by cases h
  | _ :: _, [], h => by cases h
  | x :: l, y :: m, h => by
    have h : (beq1 x y && beqL l m) = true := h
    simp only [Bool.and_eq_true] at h
    rw [beq1_eq h.1, beqL_eq h.2]
theorem beqV_eq {x y : V} (h : beqV x y = true) : x = y := by
  unfold beqV at h
  split at h
  · cases y <;> simp only [reduceCtorEq] at h
    rw [beqL_eq h]
  · cases y <;> simp only [reduceCtorEq] at h
    simp only [Bool.and_eq_true] at h
    rw [K.beq_eq h.1, beqL_eq h.2]
  · exact beq1_eq h
theorem isU_eq {v : V} (h : isU v = true) : v = .tup [] := by
  cases v <;> simp only [isU, reduceCtorEq] at h
  rename_i l
  cases l with
  | nil => rfl
  | cons x l => cases h

/-! ### A stage's first part -/
def HX (h h' : H) : Prop := h.nx.nat ≤ h'.nx.nat ∧ ∀ id : K, id.nat < h.nx.nat → h'.get id = h.get id
theorem HX.refl (h : H) : HX h h := ⟨Nat.le_refl _, fun _ _ => rfl⟩
theorem HX.trans {a b c : H} (h : HX a b) (k : HX b c) : HX a c := ⟨Nat.le_trans h.1 k.1, fun id hid => (k.2 id (Nat.lt_of_lt_of_le hid h.1)).trans (h.2 id hid)⟩
theorem HX.new (h : H) (b : Blk) : HX h (h.new b) := ⟨by have : (h.new b).nx.nat = h.nx.nat + 1 := K.succ_nat _; omega, fun id hid => by
  rw [H.get_new, if_neg (fun e => by rw [e] at hid; omega)]⟩
theorem WR.more {tab : Tab} {ι : Io} {h h' : H} {w : World} (hr : WR tab ι h w) (hx : HX h h') : WR tab ι h' w := by
  have key : ∀ id q, ι id = some q → h'.get id = h.get id := fun id q hq => hx.2 id (by
    rcases Nat.lt_or_ge id.nat h.nx.nat with hlt | hge
    · exact hlt
    · rw [hr.fresh id hge] at hq; cases hq)
  refine ⟨fun id q hq => ?_, hr.lt, fun id id' q q' hq hq' hl hl' e => hr.inj id id' q q' hq hq' ?_ ?_ e, fun id hid => hr.fresh id (Nat.le_trans hx.1 hid)⟩
  · rw [key id q hq]; exact hr.blk id q hq
  · unfold live at hl ⊢; rwa [key id q hq] at hl
  · unfold live at hl' ⊢; rwa [key id' q' hq'] at hl'
theorem putD_other {fr : Fr} {d : Option K} {v : V} {k : K} (h : d ≠ some k) : (putD fr d v).get k = fr.get k := by
  cases d with
  | none => rfl
  | some k' =>
    show (fr.set k' v).get k = fr.get k
    rw [T.get_set, if_neg (fun e => h (by rw [e]))]
theorem putD_same {fr : Fr} {v : V} {k : K} : (putD fr (some k) v).get k = some v := by
  show (fr.set k v).get k = some v
  rw [T.get_set, if_pos rfl]
theorem oGet_res {α : Type} {o : Option α} {f : α → Res} {e : Ex} {fr : Fr} {h : H} (he : oGet o .no f = .ok e fr h) : ∃ x, o = some x ∧ f x = .ok e fr h := by
  cases o with
  | none => cases he
  | some x => exact ⟨x, rfl, he⟩
theorem gRun_ok {fs : T EF} {go : Go} {e : Ex} {fr' : Fr} {h' : H} {f : Fr → H → Res} : ∀ (l : List EOper) {fr : Fr} {h : H}, gRun fs go l f fr h = .ok e fr' h' →
    ∃ fr1 h1, f fr1 h1 = .ok e fr' h' ∧ HX h h1 ∧ ∀ k, (∀ o ∈ l, o.dst ≠ some k) → fr1.get k = fr.get k
  | [], fr, h, he => ⟨fr, h, he, HX.refl h, fun _ _ => rfl⟩
  | o :: l, fr, h, he => by
    have he : (oGet (wants fr o.g) .no fun r => bif r then gDo fs go o.dst o.op (gRun fs go l f) fr h else gRun fs go l f (putD fr o.dst undefV) h) = .ok e fr' h' := he
    obtain ⟨r, _, he⟩ := oGet_res he
    have fin : ∀ (v : V) (h0 : H), HX h h0 → gRun fs go l f (putD fr o.dst v) h0 = .ok e fr' h' → ∃ fr1 h1, f fr1 h1 = .ok e fr' h' ∧ HX h h1 ∧ ∀ k, (∀ o' ∈ o :: l, o'.dst ≠ some k) → fr1.get k = fr.get k := by
      intro v h0 hx he
      obtain ⟨fr1, h1, e1, e2, e3⟩ := gRun_ok l he
      exact ⟨fr1, h1, e1, hx.trans e2, fun k hk => (e3 k fun o' ho' => hk o' (List.mem_cons_of_mem _ ho')).trans (putD_other (hk o List.mem_cons_self))⟩
    cases r with
    | false => exact fin _ _ (HX.refl h) he
    | true =>
      have he : gDo fs go o.dst o.op (gRun fs go l f) fr h = .ok e fr' h' := he
      unfold gDo at he
      split at he
      · obtain ⟨cs, _, he⟩ := oGet_res he
        exact fin _ _ (HX.new _ _) he
      · obtain ⟨v, h1, _, he⟩ := RV.to_ok he
        exact fin _ _ (HX.refl h) he

theorem slId_some {v : V} {id : K} (h : slId v = some id) : ∃ off n sz, v = .sl id off n sz := by cases v <;> cases h; exact ⟨_, _, _, rfl⟩
theorem notIn_spec : ∀ {k : K} {l : List K}, notIn k l = true → k ∉ l
  | k, [], _ => by simp
  | k, x :: l, h => by
    have h : (!(k.beq x) && notIn k l) = true := h
    simp only [Bool.and_eq_true, Bool.not_eq_true'] at h
    intro hm
    rcases List.mem_cons.1 hm with rfl | hm
    · rw [K.beq_refl] at h; cases h.1
    · exact notIn_spec h.2 hm
theorem freshL_spec {lo hi : Nat} : ∀ {l : List K}, freshL lo hi l = true → l.Nodup ∧ ∀ k ∈ l, lo ≤ k.nat ∧ k.nat < hi
  | [], _ => ⟨List.nodup_nil, fun k h => absurd h (by simp)⟩
  | x :: l, h => by
    have h : (Nat.ble lo x.nat && Nat.blt x.nat hi && notIn x l && freshL lo hi l) = true := h
    simp only [Bool.and_eq_true] at h
    obtain ⟨⟨⟨h1, h2⟩, h3⟩, h4⟩ := h
    obtain ⟨g1, g2⟩ := freshL_spec h4
    refine ⟨List.nodup_cons.2 ⟨notIn_spec h3, g1⟩, fun k hk => ?_⟩
    rcases List.mem_cons.1 hk with rfl | hk
    · exact ⟨Nat.le_of_ble_eq_true h1, Nat.lt_of_lt_of_le (Nat.lt_succ_self _) (Nat.le_of_ble_eq_true h2)⟩
    · exact g2 k hk
theorem idsOf_cons (fr : Fr) (k : K) (b : List K) : idsOf fr (k :: b) = oGet (slId (getV (fr.get k))) (idsOf fr b) fun id => id :: idsOf fr b := rfl
theorem idsOf_mem {fr : Fr} : ∀ {b : List K} {k id : K}, k ∈ b → slId (getV (fr.get k)) = some id → id ∈ idsOf fr b
  | [], k, id, hk, _ => absurd hk (by simp)
  | x :: b, k, id, hk, hi => by
    rw [idsOf_cons]
    rcases List.mem_cons.1 hk with rfl | hk
    · rw [hi]; exact List.mem_cons_self
    · have := idsOf_mem hk hi
      cases slId (getV (fr.get x)) with
      | none => exact this
      | some y => exact List.mem_cons_of_mem _ this
/-- Two of the keys have two names. -/
theorem idsOf_ne {fr : Fr} {g : Nat → Option K} : ∀ {l : List Nat} {i j : Nat} {k k' id id' : K}, (idsOf fr (l.filterMap g)).Nodup → i ∈ l → j ∈ l → i ≠ j → g i = some k → g j = some k' → slId (getV (fr.get k)) = some id → slId (getV (fr.get k')) = some id' → id ≠ id'
  | [], i, j, k, k', id, id', _, hi, _, _, _, _, _, _ => absurd hi (by simp)
  | x :: l, i, j, k, k', id, id', hn, hi, hj, hij, h1, h2, h3, h4 => by
    have tl : (idsOf fr (l.filterMap g)).Nodup := by
      rw [List.filterMap_cons] at hn
      split at hn
      · exact hn
      · rename_i y hy
        rw [idsOf_cons] at hn
        cases hx : slId (getV (fr.get y)) with
        | none => rw [hx] at hn; exact hn
        | some z => rw [hx] at hn; exact (List.nodup_cons.1 (show (z :: idsOf fr (l.filterMap g)).Nodup from hn)).2
    have hd : ∀ {y : K} {a : K}, g x = some y → slId (getV (fr.get y)) = some a → a ∉ idsOf fr (l.filterMap g) := fun {y a} hy ha => by
      rw [List.filterMap_cons, hy] at hn
      simp only [idsOf_cons, ha] at hn
      exact (List.nodup_cons.1 (show (a :: idsOf fr (l.filterMap g)).Nodup from hn)).1
    rcases List.mem_cons.1 hi with rfl | hi'
    · rcases List.mem_cons.1 hj with rfl | hj'
      · exact absurd rfl hij
      · intro e
        subst e
        exact hd h1 h3 (idsOf_mem (List.mem_filterMap.2 ⟨j, hj', h2⟩) h4)
    · rcases List.mem_cons.1 hj with rfl | hj'
      · intro e
        subst e
        exact hd h2 h4 (idsOf_mem (List.mem_filterMap.2 ⟨i, hi', h1⟩) h3)
      · exact idsOf_ne tl hi' hj' hij h1 h2 h3 h4
end Go.Ev
