/-
  The evaluator, part I: append; maps.
-/
import Derived.Test.YtneacehpoaambaaEvH
namespace Go.Ev
open Go Go.RowKit

/-- A block goes on under a new name. -/
theorem WR.adopt {tab : Tab} {ι : Io} {h : H} {w w' : World} {b : Blk} {id0 : K} {q0 : Pl} {base room : Nat} (hr : WR tab ι h w) (hq0 : ι id0 = some q0) (hlv : live h id0) (hs : w'.heap.size = w.heap.size)
    (hoth : ∀ c, c ≠ q0.b → w'.heap[c]? = w.heap[c]?) (hos : w'.os = w.os) (htp : w'.tape = w.tape) (hout : w'.output = w.output) (hb : BR tab (updI ι h.nx ⟨q0.b, base, room⟩) ⟨q0.b, base, room⟩ w' b) :
    Step h.nx.nat ι w ((h.put id0 .dead).new b).nx.nat (updI ι h.nx ⟨q0.b, base, room⟩) w' ∧ WR tab (updI ι h.nx ⟨q0.b, base, room⟩) ((h.put id0 .dead).new b) w' := by
  have hn : ι h.nx = none := hr.fresh _ (Nat.le_refl _)
  have hext := updI_ext (q := ⟨q0.b, base, room⟩) hn
  have hne0 : id0 ≠ h.nx := fun e => by rw [e, hn] at hq0; cases hq0
  have hget : ∀ k, ((h.put id0 .dead).new b).get k = if k = h.nx then b else if k = id0 then .dead else h.get k := fun k => by
    rw [H.get_new, H.get_put]; rfl
  refine ⟨⟨hext, fun id q hq hi => ?_, fun c hc ho => hoth c fun e => ho id0 q0 hq0 e.symm, hos, htp, hout, Nat.le_of_eq hs.symm, (by have h1 : ((h.put id0 .dead).new b).nx.nat = h.nx.nat + 1 := K.succ_nat _; omega), fun id hid hi => (by rw [updI_other _ _ (fun e => by rw [e] at hid; omega)]; exact hi)⟩, fun id q hq => ?_, fun id q hq => ?_, fun id id' q q' hq hq' hl hl' e => ?_, fun id hid => ?_⟩
  · by_cases e : id = h.nx
    · subst e; rw [updI_same] at hq; cases hq; exact .inr ⟨id0, q0, hq0, rfl⟩
    · rw [updI_other _ _ e, hi] at hq; cases hq
  · rw [hget]
    by_cases e : id = h.nx
    · subst e; rw [updI_same] at hq; cases hq; simpa using hb
    · rw [updI_other _ _ e] at hq
      simp only [e, if_false]
      by_cases e0 : id = id0
      · simp only [e0, if_true]; trivial
      · simp only [e0, if_false]
        by_cases hd : h.get id = .dead
        · rw [hd]; trivial
        · exact (hr.blk id q hq).mono hext (hoth _ fun e' => e0 (hr.inj id id0 q q0 hq hq0 hd hlv e'))
  · rw [hs]
    by_cases e : id = h.nx
    · subst e; rw [updI_same] at hq; cases hq; exact hr.lt id0 q0 hq0
    · rw [updI_other _ _ e] at hq; exact hr.lt id q hq
  · have hl0 : ∀ {k : K}, k ≠ h.nx → live ((h.put id0 .dead).new b) k → k ≠ id0 ∧ live h k := fun {k} hk hlv => by
      unfold live at hlv ⊢
      rw [hget, if_neg hk] at hlv
      by_cases e : k = id0
      · simp [e] at hlv
      · rw [if_neg e] at hlv; exact ⟨e, hlv⟩
    by_cases e1 : id = h.nx
    · by_cases e2 : id' = h.nx
      · rw [e1, e2]
      · subst e1; rw [updI_same] at hq; cases hq; rw [updI_other _ _ e2] at hq'
        obtain ⟨h1, h2⟩ := hl0 e2 hl'
        exact absurd (hr.inj id0 id' q0 q' hq0 hq' hlv h2 e) (Ne.symm h1)
    · by_cases e2 : id' = h.nx
      · subst e2; rw [updI_same] at hq'; cases hq'; rw [updI_other _ _ e1] at hq
        obtain ⟨h1, h2⟩ := hl0 e1 hl
        exact absurd (hr.inj id id0 q q0 hq hq0 h2 hlv e) h1
      · rw [updI_other _ _ e1] at hq; rw [updI_other _ _ e2] at hq'
        exact hr.inj id id' q q' hq hq' (hl0 e1 hl).2 (hl0 e2 hl').2 e
  · have h1 : ((h.put id0 .dead).new b).nx.nat = h.nx.nat + 1 := K.succ_nat _
    rw [h1] at hid
    rw [updI_other _ _ (fun e => by rw [e] at hid; omega)]
    exact hr.fresh id (by omega)

theorem Step.drew (n : Nat) (ι : Io) (w : World) : Step n ι w n ι w.drew := ⟨Ext.refl ι, fun id q h k => (by rw [h] at k; cases k), fun _ _ _ => rfl, rfl, rfl, rfl, Nat.le_refl _, Nat.le_refl _, fun _ _ h => h⟩
theorem WR.drew {tab : Tab} {ι : Io} {h : H} {w : World} (hr : WR tab ι h w) : WR tab ι h w.drew := hr.same (fun _ _ => rfl) (Nat.le_refl _)

theorem setCells_row {P : Program} {w : World} {b o : Nat} {vs : List Value} {cur : Array Value} {t : TypeId} (hh : w.heap[b]? = some (.cells cur t (0, 0))) (hle : o + vs.length ≤ cur.size) (h1 : ∀ u ∈ vs, u.oneCell' = true) :
    w.setCells b o vs = w.setRow b (cur.toList.take o ++ vs ++ cur.toList.drop (o + vs.length)).toArray := by
  have hst := run_storeCells_at P b o t vs 0 cur w hh (by simpa using hle) h1
  have hcell : ∀ j, j < vs.length → (w.cell? ⟨b, o + 0 + j, none⟩).isSome = true := fun j hj => by
    rw [cell_of_row w b _ cur t _ hh]; simp; omega
  have hfz : ∀ j, j < vs.length → w.frozen? ⟨b, o + 0 + j, none⟩ = false := fun j hj => by simp [World.frozen?, hh]
  have hst2 := run_storeCells_cells (P := P) b o vs 0 w hcell hfz h1
  simp only [Nat.add_zero] at hst hst2
  rw [hst2] at hst
  injection hst

section ops
variable {Y : Rig} {nt : Nat} {ι : Io} {fr : Fr} {a : Act} {h h' : H} {w : World} {v : V} {d : Option Tmp} {ty : TypeId} {pos : String} {aft : Array Edge} {g : Option (Nat × Bool)}

/-- The cells of a slice. -/
theorem slice_cells (hr : WR Y.tab ι h w) {id : K} {q : Pl} (hq : ι id = some q) {len off n sz : Nat} {cs : List V} (hb : h.get id = .cells len cs) (hle : off + n * sz ≤ len) :
    ∃ vs, VRs ι (takeN (n * sz) (dropN off cs)) vs ∧ vs.length = n * sz ∧ (∀ (j : Nat) (u : Value), vs[j]? = some u → w.cell? ((⟨q.b, q.base + off, none⟩ : Addr).add j) = some u) ∧ (∀ c ∈ takeN (n * sz) (dropN off cs), c.one = true) ∧ (∀ u ∈ vs, u.oneCell' = true) := by
  obtain ⟨cur, t, hh, hn, hsz, hroom, hone, hrel⟩ := BR.cells hr hq hb
  rw [takeN_eq, dropN_eq]
  have h1 := (hrel.drop off).take (n * sz)
  have ho : ∀ c ∈ (cs.drop off).take (n * sz), c.one = true := fun c hc => hone c (List.mem_of_mem_drop (List.mem_of_mem_take hc))
  refine ⟨_, h1, ?_, fun j u hu => ?_, ho, fun u hu => ?_⟩
  · rw [h1.len]; simp; omega
  · rw [add_lit', Nat.add_assoc]
    refine cell_in (n := len) hh ?_
    rw [List.getElem?_take] at hu
    split at hu
    · rw [List.getElem?_drop] at hu; exact hu
    · cases hu
  · obtain ⟨j, hj, rfl⟩ := List.getElem_of_mem hu
    have hj' : j < ((cs.drop off).take (n * sz)).length := by rw [← h1.len]; exact hj
    exact ((h1.at_ j hj' hj).oneCell (ho _ (List.getElem_mem hj'))).2

/-- What is appended. -/
theorem addOf_rel (hr : WR Y.tab ι h w) {sz : Nat} {y : V} {y' : Value} {m : Nat} {new : List V} (hy : VR ι y y') (he : addOf sz h y = some (m, new)) :
    ∃ vs, VRs ι new vs ∧ vs.length = m * sz ∧ (∀ c ∈ new, c.one = true) ∧ (∀ u ∈ vs, u.oneCell' = true) ∧
      ((m = 0 ∧ (y' = .slice none 0 0 ∨ ∃ ad c, y' = .slice (some ad) 0 c)) ∨ ∃ ad c, y' = .slice (some ad) m c ∧ ∀ (j : Nat) (u : Value), vs[j]? = some u → w.cell? (ad.add j) = some u) := by
  rcases V.onSl_ok (by simp) he with ⟨rfl, he⟩ | ⟨id, off, n, sz', rfl, he⟩
  · cases he
    cases hy
    exact ⟨[], VRs.nil, by simp, by simp, by simp, .inl ⟨rfl, .inl rfl⟩⟩
  · obtain ⟨len, cs, hb, he1⟩ := Blk.onC_ok (by simp) he
    obtain ⟨hc, he2⟩ := cond_ok (by simp) he1
    simp only [Bool.and_eq_true, Nat.beq_eq] at hc
    obtain ⟨rfl, hc2⟩ := hc
    have hc2 := Nat.le_of_ble_eq_true hc2
    cases he2
    cases hy with
    | @sl0 _ _ _ b o =>
      refine ⟨[], ?_, by simp, ?_, by simp, .inl ⟨rfl, .inr ⟨_, _, rfl⟩⟩⟩
      · rw [Nat.zero_mul]; exact VRs.nil
      · rw [Nat.zero_mul]; intro c hc; cases hc
    | @sl _ _ _ _ c q hq hcap hn h0 =>
      obtain ⟨vs, h1, h2, h3, h4, h5⟩ := slice_cells hr hq hb hc2
      exact ⟨vs, h1, h2, h4, h5, .inr ⟨_, c, rfl, h3⟩⟩

theorem zeroCells_size (z : Array Value) (n : Nat) : (Builtin.zeroCells z n).size = n * z.size := by simp [Builtin.zeroCells]

/-- The new block of a slice that has grown. -/
theorem grow_rel (hr : WR Y.tab ι h w) {sz m : Nat} {cs : List V} {vs : List Value} {z : Array Value} {cap : Nat} {e : TypeId} (hcs : VRs ι cs vs) (hl : vs.length = m * sz) (ho : ∀ c ∈ cs, c.one = true) (hz : z.size = sz) (hcap : m ≤ cap) (h0 : 0 < sz) :
    ∃ ι', Step h.nx.nat ι w (h.new (.cells (m * sz) cs)).nx.nat ι' (w.drew.alloc (.cells (vs.toArray ++ Builtin.zeroCells z (cap - m)) e)) ∧ VR ι' (.sl h.nx 0 m sz) (.slice (some ⟨w.heap.size, 0, none⟩) m cap) ∧ WR Y.tab ι' (h.new (.cells (m * sz) cs)) (w.drew.alloc (.cells (vs.toArray ++ Builtin.zeroCells z (cap - m)) e)) := by
  have hsz : (vs.toArray ++ Builtin.zeroCells z (cap - m)).size = cap * sz := by
    simp only [Array.size_append, List.size_toArray, zeroCells_size, hz, hl]
    rw [← Nat.add_mul]; congr 1; omega
  have hle : m * sz ≤ cap * sz := Nat.mul_le_mul_right _ hcap
  have hal := hr.drew.alloc (b := .cells (m * sz) cs) (o := .cells (vs.toArray ++ Builtin.zeroCells z (cap - m)) e) (base := 0) (room := cap * sz)
    ⟨_, e, heap_alloc_new w.drew _, by rw [← hcs.len, hl], by simpa using hsz, hle, ho, by
      have e1 : List.take (m * sz) (List.drop 0 (vs.toArray ++ Builtin.zeroCells z (cap - m)).toList) = vs := by
        simp [← hl]
      show VRs _ cs (List.take (m * sz) (List.drop 0 _))
      rw [e1]
      exact hcs.mono (updI_ext (hr.fresh _ (Nat.le_refl _)))⟩
  refine ⟨_, (Step.drew _ ι w).trans hal.1, ?_, hal.2⟩
  have := VR.sl (off := 0) (n := m) (sz := sz) (c := cap) (updI_same ι h.nx ⟨w.drew.heap.size, 0, cap * sz⟩) (by simp) hcap h0
  simpa using this

theorem op_append (ha : AR nt ι fr a) (hr : WR Y.tab ι h w) {t e : TypeId} {dt de : TD} {x y : Operand} {x' y' : EO} (ht : Y.tab t = some dt) (hd : dt.desc = .slice e) (hde : Y.tab e = some de) (hp : 0 < de.size) (hz : de.zero.cells.size = de.size) (hb : de.bytes ≤ 1000000)
    (hx : eo x = some x') (hy : eo y = some y') (he : appV de.size h (ev fr x') (ev fr y') = .ok v h') : OpOk Y h ι a w ⟨d, .call ⟨.builtin .append, #[x, y], #[t, t]⟩, ty, pos, aft, g⟩ v h' := by
  obtain ⟨⟨m, new⟩, hadd, he1⟩ := oGet_ok he
  obtain ⟨vs, g1, g2, g3, g4, g5⟩ := addOf_rel hr (ha.ev hy) hadd
  obtain ⟨i, hi, hi1, hi2, hi3⟩ := Rig.info hde
  have hu : Y.P.underlying t = some (.slice e) := by rw [(Y.htab t dt ht).und, hd]
  have hvx := ha.ev hx
  have hex : ∀ v' w', (Builtin.append_ #[t, t] ty #[a.eval x, a.eval y]).run Y.P w = .ok v' w' → (execOp a.eval ⟨d, .call ⟨.builtin .append, #[x, y], #[t, t]⟩, ty, pos, aft, g⟩).run Y.P w = .ok (.value v') w' := fun v' w' h => by
    simp [execOp, resolve, invoke, builtin, h]
  have hempty : ∀ (base : Option Addr) (n c : Nat), n ≤ c → (a.eval y = .slice none 0 0 ∨ ∃ ad c, a.eval y = .slice (some ad) 0 c) → (Builtin.append_ #[t, t] ty #[.slice base n c, a.eval y]).run Y.P w = .ok (.slice base n c) w := by
    intro base n c hnc hye
    have hu0 : ∀ s l : Nat, (Builtin.firstCells s 0 (.slice none 0 0)).run Y.P w = .ok #[] w := fun s l => rfl
    rcases hye with h1 | ⟨ad, c', h1⟩
    · rw [h1]
      cases base <;> simp [Builtin.append_, run_underlying hu, sizeOf, typeInfo, hi, Builtin.lenOf, Builtin.firstCells, hnc, storeCells]
    · rw [h1]
      have hf := run_firstCells_some (P := Y.P) w i.size 0 ad 0 c' [] (by simp) (by simp)
      cases base <;> simp [Builtin.append_, run_underlying hu, sizeOf, typeInfo, hi, Builtin.lenOf, hnc, hf, storeCells]
  rcases V.onSl_ok RV.no_ne he1 with ⟨hb1, he2⟩ | ⟨id, off, n, sz', hb1, he2⟩
  · -- onto nil
    rw [hb1] at hvx
    generalize hxv : a.eval x = xv at hvx hex
    cases hvx
    obtain ⟨hm, he2⟩ := cond_ok RV.no_ne he2
    have hm := Nat.le_of_ble_eq_true hm
    unfold app0 at he2
    cases hm0 : Nat.beq m 0 with
    | true =>
      rw [hm0] at he2
      cases he2
      have hm0 := Nat.eq_of_beq_eq_true hm0
      subst hm0
      refine .pure hr (hex _ _ (hempty none 0 0 (Nat.le_refl _) ?_)) .sn
      rcases g5 with ⟨_, h1⟩ | ⟨ad, c, h1, _⟩
      · exact h1
      · exact .inr ⟨ad, c, h1⟩
    | false =>
      rw [hm0] at he2
      cases he2
      have hm0 : m ≠ 0 := fun e => by rw [e] at hm0; cases hm0
      rcases g5 with ⟨h1, _⟩ | ⟨ad, c, h1, h2⟩
      · exact absurd h1 hm0
      · have hm' : m ≤ 16777216 := hm
        have hbm : m * i.bytes ≤ 281474976710656 := by
          rw [hi2]; exact Nat.le_trans (Nat.mul_le_mul hm' hb) (by decide)
        have hx2 := run_append_nil (P := Y.P) w t ty e i de.zero hu hi hi3 ad m c vs (by rw [hi1]; exact g2) h2 (by omega) (by omega) hbm
        obtain ⟨ι', s1, s2, s3⟩ := grow_rel (e := e) (z := de.zero.cells) (cap := grownCap w m 0 e) hr g1 g2 g3 hz (grownCap_ge w m 0 e) hp
        exact ⟨_, _, ι', .inl (hex _ _ (by rw [h1]; exact hx2)), s1, s2, s3⟩
  · obtain ⟨len, cs, hblk, he3⟩ := Blk.onC_ok RV.no_ne he2
    obtain ⟨hc, he4⟩ := cond_ok RV.no_ne he3
    simp only [Bool.and_eq_true, Nat.beq_eq] at hc
    obtain ⟨⟨rfl, hc2⟩, hc3⟩ := hc
    have hc2 := Nat.le_of_ble_eq_true hc2
    have hc3 : n + m ≤ 16777216 := Nat.le_of_ble_eq_true hc3
    rw [hb1] at hvx
    generalize hxv : a.eval x = xv at hvx hex
    unfold app1 at he4
    have hlive : live h id := by unfold live; rw [hblk]; simp
    cases hm0 : Nat.beq m 0 with
    | true =>
      rw [hm0] at he4
      cases he4
      have hm0 := Nat.eq_of_beq_eq_true hm0
      subst hm0
      have hye : a.eval y = .slice none 0 0 ∨ ∃ ad c, a.eval y = .slice (some ad) 0 c := by
        rcases g5 with ⟨_, h1⟩ | ⟨ad, c, h1, _⟩
        · exact h1
        · exact .inr ⟨ad, c, h1⟩
      cases hvx with
      | sl0 => exact .pure hr (hex _ _ (hempty _ 0 0 (Nat.le_refl _) hye)) .sl0
      | sl hq hcap hn h0 => exact .pure hr (hex _ _ (hempty _ n _ hn hye)) (.sl hq hcap hn h0)
    | false =>
      rw [hm0] at he4
      cases he4
      have hm0 : m ≠ 0 := fun e => by rw [e] at hm0; cases hm0
      rcases g5 with ⟨h1, _⟩ | ⟨ad, c', h1, h2⟩
      · exact absurd h1 hm0
      have hby : (n + m) * i.bytes ≤ 140737488355328 := by
        rw [hi2]; exact Nat.le_trans (Nat.mul_le_mul hc3 hb) (by decide)
      -- the array is left behind
      have grow : ∀ (ad0 : Addr) (cap : Nat) (olds : List Value), cap < n + m → xv = .slice (some ad0) n cap → VRs ι (takeN (n * de.size) (dropN off cs)) olds → olds.length = n * de.size → (∀ (j : Nat) (u : Value), olds[j]? = some u → w.cell? (ad0.add j) = some u) → (∀ c ∈ takeN (n * de.size) (dropN off cs), c.one = true) →
          OpOk Y h ι a w ⟨d, .call ⟨.builtin .append, #[x, y], #[t, t]⟩, ty, pos, aft, g⟩ (.sl h.nx 0 (n + m) de.size) ((h.put id .dead).new (.cells ((n + m) * de.size) (cat (takeN (n * de.size) (dropN off cs)) new))) := by
        intro ad0 cap olds hlt hxe ho1 ho2 ho3 ho4
        have hx2 := run_append_grow (P := Y.P) w t ty e i de.zero hu hi hi3 ad0 n cap olds (by rw [hi1]; exact ho2) ho3 ad m c' vs (by rw [hi1]; exact g2) h2 hlt (by omega) (growslice_fits hlt hby)
        have hcat : cat (takeN (n * de.size) (dropN off cs)) new = takeN (n * de.size) (dropN off cs) ++ new := cat_eq _ _
        rw [hcat]
        obtain ⟨ι', s1, s2, s3⟩ := grow_rel (e := e) (h := h.put id .dead) (m := n + m) (z := de.zero.cells) (cap := grownCap w (n + m) cap e) (hr.kill id) (ho1.append g1) (by simp [ho2, g2, Nat.add_mul]) (fun c hc => (List.mem_append.1 hc).elim (ho4 c) (g3 c)) hz (grownCap_ge w (n + m) cap e) hp
        have e1 : (olds ++ vs).toArray = olds.toArray ++ vs.toArray := by simp
        rw [e1] at s1 s3
        exact ⟨_, _, ι', .inl (hex _ _ (by rw [hxe, h1]; exact hx2)), s1, s2, s3⟩
      cases hvx with
      | @sl0 _ _ _ b o =>
        refine grow ⟨b, o, none⟩ 0 [] (by omega) rfl ?_ (by simp) (by simp) ?_
        · rw [Nat.zero_mul]; exact VRs.nil
        · rw [Nat.zero_mul]; intro c hc; cases hc
      | @sl _ _ _ _ cap q hq hcap hn h0 =>
        obtain ⟨olds, o1, o2, o3, o4, o5⟩ := slice_cells hr hq hblk hc2
        by_cases hroom : n + m ≤ cap
        · obtain ⟨cur, t2, hh, hcl, hcsz, hlr, hone, hrel⟩ := BR.cells hr hq hblk
          have hfit : (n + m) * de.size ≤ cap * de.size := Nat.mul_le_mul_right _ hroom
          have hnm : (n + m) * de.size = n * de.size + m * de.size := Nat.add_mul _ _ _
          have hx2 := run_append_room_cells (P := Y.P) w t ty e i hu hi q.b (q.base + off) n cap ad m c' vs (by rw [hi1]; exact g2) h2 g4 hroom
            (fun j hj => by rw [cell_of_row w q.b _ cur t2 _ hh, hi1]; simp; rw [g2] at hj; omega) (fun j hj => by simp [World.frozen?, hh])
          rw [hi1] at hx2
          have hrow := setCells_row (P := Y.P) (o := q.base + off + n * de.size) hh (by rw [g2]; omega) g4
          have hsame := setRow_heap w q.b cur (cur.toList.take (q.base + off + n * de.size) ++ vs ++ cur.toList.drop (q.base + off + n * de.size + vs.length)).toArray t2 _ hh
          rw [hrow] at hx2
          have hcat : cat (takeN (n * de.size) (dropN off cs)) new = takeN (n * de.size) (dropN off cs) ++ new := cat_eq _ _
          rw [hcat]
          obtain ⟨s1, s2⟩ := hr.adopt (b := .cells ((n + m) * de.size) (takeN (n * de.size) (dropN off cs) ++ new)) (base := q.base + off) (room := q.room - off) (w' := w.setRow q.b (cur.toList.take (q.base + off + n * de.size) ++ vs ++ cur.toList.drop (q.base + off + n * de.size + vs.length)).toArray) hq hlive (by simp) (fun c hc => setRow_other w q.b c _ hc) rfl rfl rfl
            ⟨_, t2, hsame, by rw [List.length_append, ← o1.len, ← g1.len, o2, g2, hnm], by simp; omega, by show _ ≤ q.room - off; omega, fun c hc => (List.mem_append.1 hc).elim (o4 c) (g3 c), by
              have holds : olds = (cur.toList.drop (q.base + off)).take (n * de.size) := by
                apply List.ext_getElem?
                intro j
                by_cases hj : j < n * de.size
                · have hjo : j < olds.length := by rw [o2]; exact hj
                  have := o3 j olds[j] (by simp [hjo])
                  rw [add_lit', cell_of_row w q.b _ cur t2 _ hh] at this
                  have this' : cur.toList[q.base + off + j]? = some olds[j] := by rw [Array.getElem?_toList]; exact this
                  rw [List.getElem?_take, if_pos hj, List.getElem?_drop, this']
                  simp [hjo]
                · rw [List.getElem?_eq_none (by rw [o2]; omega), List.getElem?_take, if_neg hj]
              have e1 : List.take ((n + m) * de.size) (List.drop (q.base + off) (cur.toList.take (q.base + off + n * de.size) ++ vs ++ cur.toList.drop (q.base + off + n * de.size + vs.length))) = olds ++ vs := by
                rw [List.append_assoc, List.drop_append, List.length_take, Array.length_toList]
                rw [show q.base + off - min (q.base + off + n * de.size) cur.size = 0 by omega, List.drop_zero]
                rw [List.drop_take, show q.base + off + n * de.size - (q.base + off) = n * de.size by omega, ← holds]
                rw [← List.append_assoc, List.take_append_of_le_length (by simp [o2, g2]; omega), List.take_of_length_le (by simp [o2, g2]; omega)]
              show VRs _ _ (List.take _ (List.drop (q.base + off) _))
              simp only
              rw [e1]
              exact (o1.append g1).mono (updI_ext (hr.fresh _ (Nat.le_refl _)))⟩
          refine ⟨_, _, _, .inl (hex _ _ (by rw [h1]; exact hx2)), s1, ?_, s2⟩
          have := VR.sl (off := 0) (n := n + m) (sz := de.size) (c := cap) (updI_same ι h.nx ⟨q.b, q.base + off, q.room - off⟩) (by show 0 + cap * de.size ≤ q.room - off; omega) hroom h0
          simpa using this
        · exact grow ⟨q.b, q.base + off, none⟩ cap olds (by omega) rfl o1 o2 o3 o4

/-! ### Maps -/
theorem op_mkmap (hr : WR Y.tab ι h w) {t kt : TypeId} {dk : TD} {kd : KD} (hdk : Y.tab kt = some dk) (hkd : dk.key = some kd) : OpOk Y h ι a w ⟨d, .makeMap t none, ty, pos, aft, g⟩ (.m h.nx) (h.new (.map kt [])) := by
  obtain ⟨hs, hw⟩ := hr.alloc (b := .map kt []) (o := .map #[] 0) (base := 0) (room := 0) ⟨#[], 0, heap_alloc_new w _, VRs.nil, VRs.nil, by simp, dk, kd, hdk, hkd, by simp⟩
  refine ⟨.map (some w.heap.size), _, _, .inl ?_, hs, .m (updI_same _ _ _), hw⟩
  simp [execOp, Instr.makeMap]

theorem keyEq_self {ι : Io} {kd : KD} {k : V} {k' : Value} {r : Bool} (hk : VR ι k k') (he : keyEq kd k k = some r) : fitV kd k' := (keyEq_rel hk hk he).1

theorem findE_rel {kd : KD} {k : V} {k' : Value} (hk : VR ι k k') : ∀ {es : List (V × V)} {ks vs : List Value} {r : Option V}, VRs ι (es.map (·.1)) ks → VRs ι (es.map (·.2)) vs → findE kd k es = some r →
    fitV kd k' ∧ match r with
      | none => ∀ x ∈ ks, fitV kd x ∧ x ≠ k'
      | some v => ∃ (i : Nat) (v' : Value), ks[i]? = some k' ∧ vs[i]? = some v' ∧ VR ι v v'
  | [], ks, vs, r, h1, h2, he => by
    obtain ⟨b, hb, he⟩ := oGet_some (by simp) (show (oGet (keyEq kd k k) none fun _ => some none) = some r from he)
    cases he
    obtain rfl := h1.inv_nil
    exact ⟨keyEq_self hk hb, by simp⟩
  | (x, y) :: es, ks, vs, r, h1, h2, he => by
    obtain ⟨x', ks, rfl, hx, h1'⟩ := VRs.inv_cons (show VRs ι (x :: es.map (·.1)) ks from h1)
    obtain ⟨y', vs, rfl, hy, h2'⟩ := VRs.inv_cons (show VRs ι (y :: es.map (·.2)) vs from h2)
    obtain ⟨b, hb, he⟩ := oGet_some (by simp) (show (oGet (keyEq kd k x) none fun r => bif r then some (some y) else findE kd k es) = some r from he)
    obtain ⟨f1, f2, f3⟩ := keyEq_rel hk hx hb
    cases b with
    | true =>
      cases he
      have e := f3.1 rfl
      exact ⟨f1, 0, y', by simp [e], by simp, hy⟩
    | false =>
      have hne : x' ≠ k' := fun e => by have := f3.2 e.symm; cases this
      have he : findE kd k es = some r := he
      obtain ⟨g1, g2⟩ := findE_rel hk h1' h2' he
      refine ⟨g1, ?_⟩
      cases r with
      | none => intro z hz; rcases List.mem_cons.1 hz with rfl | hz <;> first | exact ⟨f2, hne⟩ | exact g2 z hz
      | some v =>
        obtain ⟨i, v', p1, p2, p3⟩ := g2
        exact ⟨i + 1, v', by simpa using p1, by simpa using p2, p3⟩

theorem nodup_idx {l : List Value} (h : l.Nodup) {i j : Nat} {x : Value} (hi : l[i]? = some x) (hj : l[j]? = some x) : i = j := by
  obtain ⟨h1, e1⟩ := List.getElem?_eq_some_iff.1 hi
  obtain ⟨h2, e2⟩ := List.getElem?_eq_some_iff.1 hj
  exact (List.getElem_inj h).1 (e1.trans e2.symm)

theorem op_look (ha : AR nt ι fr a) (hr : WR Y.tab ι h w) {t kt e : TypeId} {dt dk de : TD} {kd : KD} {z : V} {m k : Operand} {m' k' : EO} {ok : Bool} (ht : Y.tab t = some dt) (hd : dt.desc = .map kt e) (hdk : Y.tab kt = some dk) (hkd : dk.key = some kd) (hde : Y.tab e = some de) (hz : ofVal de.zero = some z)
    (hm : eo m = some m') (hk : eo k = some k') (he : lookV kt kd z h (ev fr m') (ev fr k') ok = .ok v h') :
    OpOk Y h ι a w ⟨d, .lookup t m k ok, ty, pos, aft, g⟩ v h' := by
  have hvm := ha.ev hm
  have hvk := ha.ev hk
  unfold lookV at he
  generalize hmv : ev fr m' = mv at hvm he
  cases mv <;> simp only [V.onM] at he <;> try cases he
  rename_i id
  generalize hxv : a.eval m = xv at hvm
  cases hvm with
  | @m _ q hq =>
    have hblk := hr.blk id q hq
    generalize h.get id = blk at hblk he
    cases blk <;> simp only [Blk.onM] at he <;> try cases he
    rename_i kt' es
    obtain ⟨hkt, heK⟩ := cond_ok RV.no_ne he
    clear he
    have hkt := Nat.eq_of_beq_eq_true hkt
    subst hkt
    obtain ⟨ents, clock, hh, r1, r2, r3, dk', kd', r4, r5, hfs⟩ := hblk
    rw [hdk] at r4
    cases r4
    rw [hkd] at r5
    cases r5
    obtain ⟨r, hfind, he2⟩ := oGet_ok heK
    obtain ⟨g1, g2⟩ := findE_rel hvk r1 r2 hfind
    have hko := (Y.htab kt dk hdk).key kd hkd
    have hF := hko.find w (a.eval k) ents.toList g1 hfs
    have hgo : (getObj q.b).run Y.P w = .ok (.map ents clock) w := by simp [getObj, Sem.run, hh]
    have hck := hko.check w ents.isEmpty (a.eval k) g1
    have hzr := ofVal_rel (ι := ι) hz
    have fin : ∀ {v1 : V} {v1' : Value} {b : Bool} {fnd : Option (Nat × Value)}, (Instr.findKey kt (a.eval k) ents.toList).run Y.P w = .ok fnd w → VR ι v1 v1' → (match fnd with | some (_, x) => x = v1' ∧ b = true | none => v1' = de.zero ∧ b = false) → (bif ok then RV.ok (.tup [v1, .b b]) h else RV.ok v1 h) = RV.ok v h' →
        OpOk Y h ι a w ⟨d, .lookup t m k ok, ty, pos, aft, g⟩ v h' := by
      intro v1 v1' b fnd hfk hv1 hcase hres
      have hrun : (execOp a.eval ⟨d, .lookup t m k ok, ty, pos, aft, g⟩).run Y.P w = .ok (.value (if ok then .tuple #[v1', .bool b] else v1')) w := by
        cases fnd with
        | none =>
          obtain ⟨rfl, rfl⟩ := hcase
          simp [execOp, Instr.lookup, Rig.und ht, hd, hxv, hgo, hck, hfk, Rig.zero hde]
        | some p =>
          obtain ⟨j, x⟩ := p
          obtain ⟨rfl, rfl⟩ := hcase
          simp [execOp, Instr.lookup, Rig.und ht, hd, hxv, hgo, hck, hfk]
      cases ok with
      | true =>
        cases hres
        exact .pure hr (by simpa using hrun) (VR.tups (VRs.cons hv1 (VRs.cons (.b _) VRs.nil)))
      | false =>
        cases hres
        exact .pure hr (by simpa using hrun) hv1
    cases r with
    | none =>
      rcases hF with ⟨f1, _⟩ | ⟨j, e1, f1, f2, f3⟩
      · exact fin f1 hzr ⟨rfl, rfl⟩ he2
      · exfalso
        have : e1.key ∈ ents.toList.map (·.key) := List.mem_map_of_mem (List.mem_of_getElem? f2)
        exact (g2 _ this).2 f3
    | some v1 =>
      obtain ⟨i, v1', p1, p2, p3⟩ := g2
      rcases hF with ⟨_, f2⟩ | ⟨j, e1, f1, f2, f3⟩
      · exfalso
        have hmem := List.mem_of_getElem? p1
        obtain ⟨e2, h1, h2⟩ := List.mem_map.1 hmem
        exact f2 e2 h1 h2
      · have hj : (ents.toList.map (·.key))[j]? = some (a.eval k) := by rw [List.getElem?_map, f2]; simp [f3]
        have hij := nodup_idx r3 p1 hj
        subst hij
        rw [List.getElem?_map, f2] at p2
        have hval : e1.val = v1' := by simpa using p2
        exact fin f1 (hval ▸ p3) ⟨rfl, rfl⟩ he2

theorem VRs.set {cs : List V} {vs : List Value} (hs : VRs ι cs vs) (i : Nat) {c : V} {x : Value} (hc : VR ι c x) : VRs ι (cs.set i c) (vs.set i x) := by
  refine ⟨by simp [hs.len], fun j h1 h2 => ?_⟩
  by_cases e : i = j
  · subst e; simp only [List.getElem_set_self]; exact hc
  · rw [List.getElem_set_ne e, List.getElem_set_ne e]; exact hs.at_ j _ _

theorem updE_rel {kd : KD} {k x : V} {k' : Value} (hk : VR ι k k') : ∀ {es es' : List (V × V)} {ks vs : List Value}, VRs ι (es.map (·.1)) ks → VRs ι (es.map (·.2)) vs → updE kd k x es = some es' →
    fitV kd k' ∧ ((es' = es ++ [(k, x)] ∧ ∀ z ∈ ks, fitV kd z ∧ z ≠ k') ∨ ∃ i, ks[i]? = some k' ∧ es'.map (·.1) = (es.map (·.1)).set i k ∧ es'.map (·.2) = (es.map (·.2)).set i x)
  | [], es', ks, vs, h1, h2, he => by
    obtain ⟨b, hb, he⟩ := oGet_some (by simp) (show (oGet (keyEq kd k k) none fun _ => some [(k, x)]) = some es' from he)
    cases he
    obtain rfl := h1.inv_nil
    exact ⟨keyEq_self hk hb, .inl ⟨rfl, by simp⟩⟩
  | (u, y) :: es, es', ks, vs, h1, h2, he => by
    obtain ⟨u', ks, rfl, hu, h1'⟩ := VRs.inv_cons (show VRs ι (u :: es.map (·.1)) ks from h1)
    obtain ⟨y', vs, rfl, hy, h2'⟩ := VRs.inv_cons (show VRs ι (y :: es.map (·.2)) vs from h2)
    obtain ⟨b, hb, he⟩ := oGet_some (by simp) (show (oGet (keyEq kd k u) none fun r => bif r then some ((k, x) :: es) else oGet (updE kd k x es) none fun l => some ((u, y) :: l)) = some es' from he)
    obtain ⟨f1, f2, f3⟩ := keyEq_rel hk hu hb
    cases b with
    | true =>
      cases he
      have e := f3.1 rfl
      exact ⟨f1, .inr ⟨0, by simp [e], by simp, by simp⟩⟩
    | false =>
      have hne : u' ≠ k' := fun e => by have := f3.2 e.symm; cases this
      obtain ⟨l, hl, he⟩ := oGet_some (by simp) (show (oGet (updE kd k x es) none fun l => some ((u, y) :: l)) = some es' from he)
      cases he
      obtain ⟨g1, g2⟩ := updE_rel hk h1' h2' hl
      refine ⟨g1, ?_⟩
      rcases g2 with ⟨rfl, g2⟩ | ⟨i, p1, p2, p3⟩
      · exact .inl ⟨rfl, fun z hz => by rcases List.mem_cons.1 hz with rfl | hz <;> first | exact ⟨f2, hne⟩ | exact g2 z hz⟩
      · exact .inr ⟨i + 1, by simpa using p1, by simp [p2], by simp [p3]⟩

theorem op_mupd (ha : AR nt ι fr a) (hr : WR Y.tab ι h w) {t kt e : TypeId} {dt dk : TD} {kd : KD} {m k x : Operand} {m' k' x' : EO} (ht : Y.tab t = some dt) (hd : dt.desc = .map kt e) (hdk : Y.tab kt = some dk) (hkd : dk.key = some kd)
    (hm : eo m = some m') (hk : eo k = some k') (hx : eo x = some x') (he : mupdV kt kd h (ev fr m') (ev fr k') (ev fr x') = .ok v h') :
    OpOk Y h ι a w ⟨d, .mapUpdate t m k x, ty, pos, aft, g⟩ v h' := by
  have hvm := ha.ev hm
  have hvk := ha.ev hk
  have hvx := ha.ev hx
  unfold mupdV at he
  generalize hmv : ev fr m' = mv at hvm he
  cases mv <;> simp only [V.onM] at he <;> try cases he
  rename_i id
  generalize hxv : a.eval m = xv at hvm
  cases hvm with
  | @m _ q hq =>
    have hblk := hr.blk id q hq
    have hlive : (∃ kt es, h.get id = .map kt es) → live h id := fun ⟨_, _, e⟩ => by unfold live; rw [e]; simp
    generalize hbg : h.get id = blk at hblk he hlive
    cases blk <;> simp only [Blk.onM] at he <;> try cases he
    rename_i kt' es
    obtain ⟨hkt, heK⟩ := cond_ok RV.no_ne he
    clear he
    have hkt := Nat.eq_of_beq_eq_true hkt
    subst hkt
    have hlive := hlive ⟨_, _, rfl⟩
    obtain ⟨ents, clock, hh, r1, r2, r3, dk', kd', r4, r5, hfs⟩ := hblk
    rw [hdk] at r4
    cases r4
    rw [hkd] at r5
    cases r5
    obtain ⟨es', hupd, he2⟩ := oGet_ok heK
    cases he2
    obtain ⟨g1, g2⟩ := updE_rel hvk r1 r2 hupd
    have hko := (Y.htab kt dk hdk).key kd hkd
    have hF := hko.find w (a.eval k) ents.toList g1 hfs
    have hgo : (getObj q.b).run Y.P w = .ok (.map ents clock) w := by simp [getObj, Sem.run, hh]
    have hck := hko.check w false (a.eval k) g1
    have hset : ∀ o : Obj, (setObj q.b o).run Y.P w = .ok () (w.putObj q.b o) := fun o => by simp [setObj, Sem.run, hh, World.putObj]
    have hlt : q.b < w.heap.size := hr.lt id q hq
    have hsame : ∀ o : Obj, (w.putObj q.b o).heap[q.b]? = some o := fun o => by simp [World.putObj, hlt]
    have hoth : ∀ (o : Obj) (c : Nat), c ≠ q.b → (w.putObj q.b o).heap[c]? = w.heap[c]? := fun o c hc => by
      simp only [World.putObj]; exact Array.getElem?_setIfInBounds_ne (Ne.symm hc)
    have fin : ∀ (ents' : Array MapEntry) (clock' : Nat), (execOp a.eval ⟨d, .mapUpdate t m k x, ty, pos, aft, g⟩).run Y.P w = .ok .skip (w.putObj q.b (.map ents' clock')) → VRs ι (es'.map (·.1)) (ents'.toList.map (·.key)) → VRs ι (es'.map (·.2)) (ents'.toList.map (·.val)) → (ents'.toList.map (·.key)).Nodup → (∀ x ∈ ents'.toList, fitV kd x.key) →
        OpOk Y h ι a w ⟨d, .mapUpdate t m k x, ty, pos, aft, g⟩ undefV (h.put id (.map kt es')) := by
      intro ents' clock' hrun q1 q2 q3 q4
      obtain ⟨s1, s2⟩ := hr.write (b := .map kt es') (w' := w.putObj q.b (.map ents' clock')) hq hlive (by simp [World.putObj]) (hoth _) rfl rfl rfl ⟨ents', clock', hsame _, q1, q2, q3, dk, kd, hdk, hkd, q4⟩
      exact ⟨undef, _, ι, .inr ⟨hrun, rfl⟩, s1, VR.undef, s2⟩
    rcases g2 with ⟨rfl, g2⟩ | ⟨i, p1, p2, p3⟩
    · have hfk : (Instr.findKey kt (a.eval k) ents.toList).run Y.P w = .ok none w := by
        rcases hF with ⟨f1, _⟩ | ⟨j, e1, f1, f2, f3⟩
        · exact f1
        · exfalso
          have : e1.key ∈ ents.toList.map (·.key) := List.mem_map_of_mem (List.mem_of_getElem? f2)
          exact (g2 _ this).2 f3
      refine fin (ents.push { key := a.eval k, val := a.eval x, born := clock }) (clock + 1) ?_ ?_ ?_ ?_ ?_
      · simp [execOp, Instr.mapUpdate, Rig.und ht, hd, hxv, hgo, hck, hfk, hset]
      · simpa using r1.append (VRs.cons hvk VRs.nil)
      · simpa using r2.append (VRs.cons hvx VRs.nil)
      · simp only [Array.toList_push, List.map_append, List.map_cons, List.map_nil]
        rw [List.nodup_append]
        refine ⟨r3, by simp, fun b1 h1 b2 h2 => ?_⟩
        simp only [List.mem_singleton] at h2
        subst h2
        exact (g2 b1 h1).2
      · intro y hy
        simp only [Array.toList_push, List.mem_append, List.mem_singleton] at hy
        rcases hy with hy | rfl
        · exact hfs y hy
        · exact g1
    · rcases hF with ⟨_, f2⟩ | ⟨j, e1, f1, f2, f3⟩
      · exfalso
        have hmem := List.mem_of_getElem? p1
        obtain ⟨e2, h1, h2⟩ := List.mem_map.1 hmem
        exact f2 e2 h1 h2
      · have hj : (ents.toList.map (·.key))[j]? = some (a.eval k) := by rw [List.getElem?_map, f2]; simp [f3]
        have hij := nodup_idx r3 p1 hj
        subst hij
        have hst := hko.stays w (a.eval k) g1
        have hei : ents[i]? = some e1 := by rw [← Array.getElem?_toList]; exact f2
        have hkk : ((ents[i]?).map (·.key)).getD (a.eval k) = a.eval k := by rw [hei]; simp [f3]
        have hil : i < ents.toList.length := (List.getElem?_eq_some_iff.1 f2).1
        have hml : (ents.modify i fun e => { e with key := a.eval k, val := a.eval x }).toList = ents.toList.set i { e1 with key := a.eval k, val := a.eval x } := by
          rw [Array.toList_modify, List.modify_eq_set]
          rw [f2]
          rfl
        refine fin (ents.modify i fun e => { e with key := a.eval k, val := a.eval x }) clock ?_ ?_ ?_ ?_ ?_
        · simp [execOp, Instr.mapUpdate, Rig.und ht, hd, hxv, hgo, hck, f1, hkk, hst, hset]
        · rw [hml, p2, List.map_set]; exact r1.set i hvk
        · rw [hml, p3, List.map_set]; exact r2.set i hvx
        · rw [hml, List.map_set]
          have : (ents.toList.map (·.key)).set i (a.eval k) = ents.toList.map (·.key) := by
            apply List.ext_getElem?
            intro n
            rw [List.getElem?_set]
            split
            · rename_i e; subst e; rw [p1]; simpa using hil
            · rfl
          simpa [this] using r3
        · intro y hy
          rw [hml] at hy
          rcases List.mem_or_eq_of_mem_set hy with hy | rfl
          · exact hfs y hy
          · exact g1
end ops
end Go.Ev
