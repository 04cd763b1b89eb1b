/-
  The evaluator, part E: more operations.
-/
import Derived.Test.YtneacehpoaambaaEvD
namespace Go.Ev
open Go Go.RowKit
section ops
variable {Y : Rig} {nt : Nat} {ι : Io} {fr : Fr} {a : Act} {h h' : H} {w : World} {v : V} {d : Option Tmp} {ty : TypeId} {pos : String} {aft : Array Edge} {g : Option (Nat × Bool)}


theorem op_build_arr (ha : AR nt ι fr a) (hr : WR Y.tab ι h w) {t e : TypeId} {dt de : TD} {n : Nat} {z : List V} {ps : Array (Nat × Operand)} {qs : List (Nat × Nat × EO)} {cs : List V} (ht : Y.tab t = some dt) (hd : dt.desc = .array n e) (he : Y.tab e = some de) (hz : zeroOf dt = some z)
    (hq : partsAt z.length (fun i => some (i * de.size, de.size)) ps.toList = some qs) (hf : fillE fr z qs = some cs) : OpOk Y h ι a w ⟨d, .build t ps, ty, pos, aft, g⟩ (.agg cs) h := by
  obtain ⟨h1, h2⟩ := ofV1s_rel (ι := ι) hz
  obtain ⟨vs, g1, g2, g3, g4⟩ := fill_rel ha hq h1 h2 rfl hf
  refine .pure hr ?_ (VR.aggs g2 g3)
  simp only [Array.toArray_toList] at g1
  have hmap : (ps.map fun (p : Nat × Operand) => (p.1, a.eval p.2)).toList = ps.toList.map fun p => (p.1, a.eval p.2) := by simp
  simp only [execOp, Instr.build, Sem.run_bind, Rig.zero ht, Result.andThen_ok, Rig.und ht, hd, Rig.size he, hmap, g1, Sem.run_pure]

theorem run_mapM_sizes {fs : List Field} {szs : List (Nat × Nat)} (hs : mapO (fun f : Field => (Y.tab f.type).map fun d => (f.offset, d.size)) fs = some szs) (w : World) :
    (fs.mapM (fun f : Field => (do pure (f.offset, ← sizeOf f.type) : Sem (Nat × Nat)))).run Y.P w = .ok szs w := by
  induction fs generalizing szs with
  | nil => cases hs; rfl
  | cons f fs ih =>
    unfold mapO at hs
    split at hs
    · rename_i y hy
      cases hm : mapO (fun f : Field => (Y.tab f.type).map fun d => (f.offset, d.size)) fs with
      | none => rw [hm] at hs; cases hs
      | some m =>
        rw [hm] at hs
        cases hs
        cases htf : Y.tab f.type with
        | none => rw [htf] at hy; cases hy
        | some df =>
          rw [htf] at hy
          cases hy
          simp only [List.mapM_cons, Sem.run_bind, Rig.size htf, Result.andThen_ok, Sem.run_pure, ih hm]
    · cases hs

theorem op_build_str (ha : AR nt ι fr a) (hr : WR Y.tab ι h w) {t : TypeId} {dt : TD} {fs : Array Field} {z : List V} {szs : List (Nat × Nat)} {ps : Array (Nat × Operand)} {qs : List (Nat × Nat × EO)} {cs : List V} (ht : Y.tab t = some dt) (hd : dt.desc = .struct fs) (hz : zeroOf dt = some z)
    (hs : mapO (fun f : Field => (Y.tab f.type).map fun d => (f.offset, d.size)) fs.toList = some szs)
    (hq : partsAt z.length (fun i => szs[i]?) ps.toList = some qs) (hf : fillE fr z qs = some cs) : OpOk Y h ι a w ⟨d, .build t ps, ty, pos, aft, g⟩ (.agg cs) h := by
  obtain ⟨h1, h2⟩ := ofV1s_rel (ι := ι) hz
  obtain ⟨vs, g1, g2, g3, g4⟩ := fill_rel ha hq h1 h2 rfl hf
  refine .pure hr ?_ (VR.aggs g2 g3)
  simp only [Array.toArray_toList] at g1
  have hmap : (ps.map fun (p : Nat × Operand) => (p.1, a.eval p.2)).toList = ps.toList.map fun p => (p.1, a.eval p.2) := by simp
  have hm : (fs.mapM (fun f : Field => (do pure (f.offset, ← sizeOf f.type) : Sem (Nat × Nat)))).run Y.P w = .ok szs.toArray w := by
    have := run_mapM_sizes hs w
    obtain ⟨l, rfl⟩ : ∃ l : List Field, fs = l.toArray := ⟨fs.toList, by simp⟩
    rw [List.mapM_toArray, Sem.run_map, this]
    rfl
  have hpl : (fun i : Nat => szs.toArray[i]?) = fun i : Nat => szs[i]? := by funext i; simp
  simp only [execOp, Instr.build, Sem.run_bind, Rig.zero ht, Result.andThen_ok, Rig.und ht, hd, hm, hmap, hpl, g1, Sem.run_pure]

theorem rep_succ (z : List V) (n : Nat) : rep z (n + 1) = z ++ rep z n := cat_eq z _
theorem rep_zero (z : List V) : rep z 0 = [] := rfl
theorem rep_length (z : List V) : ∀ n, (rep z n).length = n * z.length
  | 0 => by simp [rep_zero]
  | n + 1 => by rw [rep_succ, List.length_append, rep_length z n, Nat.succ_mul, Nat.add_comm]
theorem rep_one {z : List V} (ho : ∀ c ∈ z, c.one = true) : ∀ n, ∀ c ∈ rep z n, c.one = true
  | 0, c, hc => by simp [rep_zero] at hc
  | n + 1, c, hc => by
    rw [rep_succ] at hc
    rcases List.mem_append.1 hc with hc | hc
    · exact ho c hc
    · exact rep_one ho n c hc
theorem rep_rel {z : List V} {zs : List Value} (hz : VRs ι z zs) (_ : 0 < zs.length) (n : Nat) : VRs ι (rep z n) ((List.range (n * zs.length)).map fun i => zs[i % zs.length]!) := by
  induction n with
  | zero => simpa [rep_zero] using VRs.nil
  | succ n ih =>
    rw [rep_succ, Nat.succ_mul, Nat.add_comm (n * zs.length), List.range_add, List.map_append, List.map_map]
    have e1 : List.map (fun i => zs[i % zs.length]!) (List.range zs.length) = zs := by
      apply List.ext_getElem
      · simp
      · intro i h1 h2
        simp only [List.getElem_map, List.getElem_range, Nat.mod_eq_of_lt h2]
        simp [h2]
    have e2 : List.map ((fun i => zs[i % zs.length]!) ∘ (zs.length + ·)) (List.range (n * zs.length)) = List.map (fun i => zs[i % zs.length]!) (List.range (n * zs.length)) := by
      apply List.map_congr_left
      intro i _
      simp
    rw [e1, e2]
    exact hz.append ih

theorem zeros_rel {de : TD} {z : List V} (hz : zeroOf de = some z) (hl : z.length = de.size) (hp : 0 < de.size) (n : Nat) :
    VRs ι (rep z n) ((Array.range (n * de.size)).map fun i => de.zero.cells[i % de.zero.cells.size]!).toList ∧ ∀ c ∈ rep z n, c.one = true := by
  obtain ⟨h1, h2⟩ := ofV1s_rel (ι := ι) hz
  have hsz : de.zero.cells.size = de.size := by rw [← Array.length_toList, h1.len, hl]
  have := rep_rel h1 (by simp [hsz, hp]) n
  refine ⟨?_, rep_one h2 n⟩
  have e : ((Array.range (n * de.size)).map fun i => de.zero.cells[i % de.zero.cells.size]!).toList = (List.range (n * de.zero.cells.toList.length)).map fun i => de.zero.cells.toList[i % de.zero.cells.toList.length]! := by
    simp only [Array.toList_map, Array.toList_range, Array.length_toList, hsz]
    apply List.map_congr_left
    intro i _
    rw [getElem!_def, getElem!_def, Array.getElem?_toList]
  rw [e]
  exact this

theorem op_buildSlice (ha : AR nt ι fr a) (hr : WR Y.tab ι h w) {t e : TypeId} {dt de : TD} {n : Nat} {z : List V} {ps : Array (Nat × Operand)} {qs : List (Nat × Nat × EO)} {cs : List V} (ht : Y.tab t = some dt) (hd : dt.desc = .slice e) (he : Y.tab e = some de) (hz : zeroOf de = some z)
    (hp : 0 < de.size) (hl : z.length = de.size) (hn : n * de.size ≤ 16777216)
    (hq : partsAt (n * de.size) (fun i => some (i * de.size, de.size)) ps.toList = some qs) (hf : fillE fr (rep z n) qs = some cs) :
    OpOk Y h ι a w ⟨d, .buildSlice t n ps, ty, pos, aft, g⟩ (.sl h.nx 0 n de.size) (h.new (.cells (n * de.size) cs)) := by
  obtain ⟨h1, h2⟩ := zeros_rel (ι := ι) hz hl hp n
  have hlen : (rep z n).length = n * de.size := by rw [rep_length, hl]
  obtain ⟨vs, g1, g2, g3, g4⟩ := fill_rel ha hq h1 h2 hlen hf
  obtain ⟨hs, hw⟩ := cells_new (vs := vs.toArray) (t := e) hr g4 (by simpa using g2) g3
  have hvl : vs.length = n * de.size := by rw [g2.len, g4]
  refine ⟨.slice (some ⟨w.heap.size, 0, none⟩) n n, _, _, .inl ?_, hs, ?_, hw⟩
  · simp only [Array.toArray_toList] at g1
    have hmap : (ps.map fun (p : Nat × Operand) => (p.1, a.eval p.2)).toList = ps.toList.map fun p => (p.1, a.eval p.2) := by simp
    simp only [execOp, Instr.buildSlice, Sem.run_bind, Rig.und ht, hd, Result.andThen_ok, Rig.size he]
    rw [if_neg (by simpa using hn)]
    by_cases h0 : n * de.size = 0
    · have hn0 : n = 0 := by rcases Nat.mul_eq_zero.1 h0 with h | h <;> omega
      subst hn0
      simp only [Nat.zero_mul, if_true, Sem.run_bind, Sem.run_pure, Result.andThen_ok, hmap]
      simp only [Nat.zero_mul] at g1
      have : (Array.map (fun i => (#[] : Array Value)[i % (#[] : Array Value).size]!) (Array.range 0)) = Array.map (fun i => de.zero.cells[i % de.zero.cells.size]!) (Array.range 0) := by simp
      simp only [this, g1, newRow, Sem.run_bind, run_newObj, Sem.run_pure, Result.andThen_ok, World.alloc_eq]
    · simp only [h0, if_false, Sem.run_bind, Rig.zero he, Sem.run_pure, Result.andThen_ok, hmap]
      simp only [g1, newRow, Sem.run_bind, run_newObj, Sem.run_pure, Result.andThen_ok, World.alloc_eq]
  · have := VR.sl (off := 0) (n := n) (sz := de.size) (c := n) (updI_same ι h.nx ⟨w.heap.size, 0, vs.toArray.size⟩) (by simp [hvl]) (Nat.le_refl _) hp
    simpa using this

/-- What a pointer leads to. -/
theorem BR.cells (hr : WR Y.tab ι h w) {id : K} {q : Pl} (hi : ι id = some q) {n : Nat} {cs : List V} (hb : h.get id = .cells n cs) :
    ∃ (cur : Array Value) (t : TypeId), w.heap[q.b]? = some (.cells cur t (0, 0)) ∧ cs.length = n ∧ cur.size = q.base + q.room ∧ n ≤ q.room ∧ (∀ c ∈ cs, c.one = true) ∧ VRs ι cs ((cur.toList.drop q.base).take n) := by
  have := hr.blk id q hi
  rw [hb] at this
  exact this
theorem cell_in {b base off n : Nat} {cur : Array Value} {t : TypeId} {fz : Nat × Nat} (hh : w.heap[b]? = some (.cells cur t fz)) {x : Value} (hx : ((cur.toList.drop base).take n)[off]? = some x) : w.cell? ⟨b, base + off, none⟩ = some x := by
  rw [cell_of_row w b _ cur t fz hh]
  rw [List.getElem?_take] at hx
  split at hx
  · rw [List.getElem?_drop] at hx
    simpa using hx
  · cases hx

theorem one?_rel (hr : WR Y.tab ι h w) {x : V} {x' : Value} (hx : VR ι x x') (he : readP h x one? = some v) : ∃ q off v', x' = .pointer (some ⟨q, off, none⟩) ∧ w.cell? ⟨q, off, none⟩ = some v' ∧ VR ι v v' := by
  unfold readP at he
  split at he
  · rename_i id off
    obtain ⟨n, cs, hb, he⟩ := Blk.onC_ok (by simp) he
    obtain ⟨q, hi, rfl⟩ := hx.of_p
    obtain ⟨cur, t, hh, hn, hsz, hle, ho, hrel⟩ := BR.cells hr hi hb
    simp only [one?, nth_eq] at he
    obtain ⟨v', h1, h2⟩ := hrel.get? he
    exact ⟨_, _, v', rfl, cell_in hh h1, h2⟩
  · cases he

theorem many?_rel (hr : WR Y.tab ι h w) {x : V} {x' : Value} {k : Nat} (hx : VR ι x x') (he : readP h x (many? k) = some v) :
    ∃ b off vs cs, x' = .pointer (some ⟨b, off, none⟩) ∧ vs.length = k ∧ (∀ (j : Nat) (u : Value), vs[j]? = some u → w.cell? ((⟨b, off, none⟩ : Addr).add j) = some u) ∧ VRs ι cs vs ∧ (∀ c ∈ cs, c.one = true) ∧ v = .agg cs := by
  unfold readP at he
  split at he
  · rename_i id off
    obtain ⟨n, cs, hb, he⟩ := Blk.onC_ok (by simp) he
    obtain ⟨q, hi, rfl⟩ := hx.of_p
    obtain ⟨cur, t, hh, hn, hsz, hle, ho, hrel⟩ := BR.cells hr hi hb
    simp only [many?] at he
    obtain ⟨hc, he⟩ := cond_ok (by simp) he
    have hc := Nat.le_of_ble_eq_true hc
    cases he
    rw [takeN_eq, dropN_eq]
    have h1 := (hrel.drop off).take k
    refine ⟨q.b, q.base + off, _, _, rfl, ?_, fun j u hu => ?_, h1, fun c hc => ho c (List.mem_of_mem_drop (List.mem_of_mem_take hc)), rfl⟩
    · rw [h1.len]; simp; omega
    · rw [add_lit', Nat.add_assoc]
      refine cell_in (n := n) hh ?_
      rw [List.getElem?_take] at hu
      split at hu
      · rw [List.getElem?_drop] at hu; exact hu
      · cases hu
  · cases he

theorem op_load (ha : AR nt ι fr a) (hr : WR Y.tab ι h w) {t : TypeId} {dt : TD} {p : Operand} {p' : EO} (ht : Y.tab t = some dt) (hg : dt.agg = false) (hp : eo p = some p') (he : loadV h (ev fr p') one? = .ok v h') :
    OpOk Y h ι a w ⟨d, .load t p, ty, pos, aft, g⟩ v h' := by
  obtain ⟨he, rfl⟩ := okv_ok he
  obtain ⟨b, off, v', h1, h2, h3⟩ := one?_rel hr (ha.ev hp) he
  refine .pure hr ?_ h3
  simp [execOp, Instr.loadAt, Instr.sureAddr, h1, loadVar, Rig.isAgg ht, hg, h2]
theorem op_loadn (ha : AR nt ι fr a) (hr : WR Y.tab ι h w) {t : TypeId} {dt : TD} {p : Operand} {p' : EO} (ht : Y.tab t = some dt) (hg : dt.agg = true) (hp : eo p = some p') (he : loadV h (ev fr p') (many? dt.size) = .ok v h') :
    OpOk Y h ι a w ⟨d, .load t p, ty, pos, aft, g⟩ v h' := by
  obtain ⟨he, rfl⟩ := okv_ok he
  obtain ⟨b, off, vs, cs, h1, h2, h3, h4, h5, rfl⟩ := many?_rel hr (ha.ev hp) he
  refine .pure hr ?_ (VR.aggs h4 h5)
  have hl := run_loadCells_list (P := Y.P) w ⟨b, off, none⟩ vs h3
  rw [h2] at hl
  simp [execOp, Instr.loadAt, Instr.sureAddr, h1, loadVar, Rig.isAgg ht, hg, Rig.size ht, hl]

/-- Cells are written. -/
theorem write_rel (hr : WR Y.tab ι h w) {id : K} {q : Pl} (hi : ι id = some q) {n off : Nat} {cs xs : List V} {vs : List Value} (hb : h.get id = .cells n cs) (hle : off + xs.length ≤ n) (hx : VRs ι xs vs) (ho : ∀ c ∈ xs, c.one = true) :
    (storeCells ⟨q.b, q.base + off, none⟩ vs 0).run Y.P w = .ok () (w.setCells q.b (q.base + off) vs) ∧ Step h.nx.nat ι w h.nx.nat ι (w.setCells q.b (q.base + off) vs) ∧ WR Y.tab ι (h.put id (.cells n (setMany cs off xs))) (w.setCells q.b (q.base + off) vs) := by
  obtain ⟨cur, t, hh, hn, hsz, hroom, hone, hrel⟩ := BR.cells hr hi hb
  have hvl : vs.length = xs.length := hx.len
  have h1 : ∀ u ∈ vs, u.oneCell' = true := fun u hu => by
    obtain ⟨j, hj, rfl⟩ := List.getElem_of_mem hu
    have hj' : j < xs.length := by omega
    exact ((hx.at_ j hj' hj).oneCell (ho _ (List.getElem_mem hj'))).2
  have hst := run_storeCells_at Y.P q.b (q.base + off) t vs 0 cur w hh (by simp; omega) h1
  simp only [Nat.add_zero] at hst
  have hcell : ∀ j, j < vs.length → (w.cell? ⟨q.b, q.base + off + 0 + j, none⟩).isSome = true := fun j hj => by
    rw [cell_of_row w q.b _ cur t _ hh]; simp; omega
  have hfz : ∀ j, j < vs.length → w.frozen? ⟨q.b, q.base + off + 0 + j, none⟩ = false := fun j hj => by
    simp [World.frozen?, hh]
  have hst2 := run_storeCells_cells (P := Y.P) q.b (q.base + off) vs 0 w hcell hfz h1
  simp only [Nat.add_zero] at hst2
  have hweq : w.setCells q.b (q.base + off) vs = w.setRow q.b (cur.toList.take (q.base + off) ++ vs ++ cur.toList.drop (q.base + off + vs.length)).toArray := by
    rw [hst2] at hst; injection hst
  refine ⟨hst2, ?_⟩
  rw [hweq]
  have hsame := setRow_heap w q.b cur (cur.toList.take (q.base + off) ++ vs ++ cur.toList.drop (q.base + off + vs.length)).toArray t _ hh
  refine hr.write hi (by unfold live; rw [hb]; simp) (by simp) (fun c hc => setRow_other w q.b c _ hc) rfl rfl rfl ?_
  have e1 := setMany_eq cs off xs (by omega)
  refine ⟨_, t, hsame, ?_, ?_, hroom, ?_, ?_⟩
  · rw [e1]; simp; omega
  · simp; omega
  · rw [e1]
    intro c hc
    rcases List.mem_append.1 hc with hc | hc
    · rcases List.mem_append.1 hc with hc | hc
      · exact hone c (List.mem_of_mem_take hc)
      · exact ho c hc
    · exact hone c (List.mem_of_mem_drop hc)
  · rw [e1]
    have e2 : List.take n (List.drop q.base (cur.toList.take (q.base + off) ++ vs ++ cur.toList.drop (q.base + off + vs.length))) = ((cur.toList.drop q.base).take n).take off ++ vs ++ ((cur.toList.drop q.base).take n).drop (off + xs.length) := by
      rw [List.append_assoc, List.drop_append, List.length_take, Array.length_toList]
      rw [show q.base - min (q.base + off) cur.size = 0 by omega, List.drop_zero]
      rw [List.drop_take, show q.base + off - q.base = off by omega]
      rw [List.take_append, List.take_take, List.length_take, List.length_drop, Array.length_toList, Nat.min_eq_left (show off ≤ cur.size - q.base by omega)]
      rw [List.take_append, List.take_take, List.drop_take, List.drop_drop, hvl]
      rw [Nat.min_comm off n, List.append_assoc]
      have e3 : vs.take (n - off) = vs := List.take_of_length_le (by omega)
      rw [e3, show n - off - xs.length = n - (off + xs.length) by omega, show q.base + (off + xs.length) = q.base + off + xs.length by omega]
    rw [e2]
    exact ((hrel.take off).append hx).append (hrel.drop (off + xs.length))

theorem op_store (ha : AR nt ι fr a) (hr : WR Y.tab ι h w) {t : TypeId} {dt : TD} {p x : Operand} {p' x' : EO} (ht : Y.tab t = some dt) (hp : eo p = some p') (hx : eo x = some x') (he : storeV h dt.size (ev fr p') (ev fr x') = .ok v h') :
    OpOk Y h ι a w ⟨d, .store t p x, ty, pos, aft, g⟩ v h' := by
  obtain ⟨id, off, hpe, he⟩ := V.onP_ok he
  obtain ⟨m, cs, hb, he⟩ := Blk.onC_ok RV.no_ne he
  obtain ⟨xs, hxs, he⟩ := oGet_ok he
  obtain ⟨hc, he⟩ := cond_ok RV.no_ne he
  have hc := Nat.le_of_ble_eq_true hc
  cases he
  have hpv := ha.ev hp
  rw [hpe] at hpv
  obtain ⟨q, hi, hpq⟩ := hpv.of_p
  obtain ⟨vs, h1, h2, h3, h4⟩ := cellsN_rel (ha.ev hx) hxs
  obtain ⟨g1, g2, g3⟩ := write_rel (off := off) hr hi hb (by omega) h2 h4
  refine ⟨undef, _, _, .inr ⟨?_, rfl⟩, g2, VR.undef, g3⟩
  have hsz : (a.eval x).cells.size = dt.size := by rw [← Array.length_toList, h1, h2.len, h3]
  simp [execOp, Instr.storeAt, Instr.sureAddr, hpq, storeVar, Rig.size ht, hsz, h1, g1]
end ops
end Go.Ev
