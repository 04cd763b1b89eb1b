/-
  What the package-level variables hold.
-/
import Derived.Test.YtlnkpocijfgikaaDoorSaB
import Derived.LaidMore
import Derived.OpenShut
import Derived.ChangeSame
import Derived.ChangeArms
namespace Go.Proofs.YtlnkpocijfgikaaDoor
open Go.Ev
open Go Go.RowKit Go.ChangeShapes
def laidL : List (String × DataW Unit) := [("girouette/steady.patterns", Rows.laid_girouette_steady_patterns), ("girouette/steady.zero", Rows.laid_girouette_steady_zero)]
theorem var_heap {P : Program} {W : World} {n : String} {g : Nat} {cs : Array Value} (hg : P.globalNamed n = some g) (hv : W.var? P n = some cs) : ∃ ty fz, W.heap[g]? = some (.cells cs ty fz) := by
  unfold World.var? at hv
  rw [hg] at hv
  simp only [Option.bind_some] at hv
  split at hv
  · rename_i c t f e
    cases hv
    exact ⟨t, f, e⟩
  · cases hv
theorem str_of {s : ByteArray} {l : List UInt8} (h : s.data.toList = l) : s = ⟨l.toArray⟩ := by
  apply ByteArray.ext
  apply Array.ext'
  rw [h]
set_option maxRecDepth 100000 in
theorem vars {W : World} (h : laidMetH Tryd.prog laidL W) : (∃ ty fz, W.heap[1]? = some (.cells #[.string ⟨#[108, 108, 104, 104, 108, 108]⟩, .string ⟨#[104, 104, 108, 108, 104, 104]⟩, .string ⟨#[108, 104, 104, 108, 108, 104]⟩, .string ⟨#[104, 108, 108, 104, 104, 108]⟩] ty fz)) ∧ ∃ ty fz, W.heap[0]? = some (.cells #[.int .i64 0, .int .i64 1] ty fz) := by
  rw [MakeChecks.laidMetH_plain _ _ _ (by kernel_rfl)] at h
  obtain ⟨ps, ⟨g, t, cs, fuel, p, q, hg, ht, hv, hd, ⟨g2, t2, cs2, fuel2, p2, q2, hg2, ht2, hv2, hd2, _, _⟩, _⟩, _, _⟩ := h
  obtain rfl := Option.some.inj ((show Tryd.prog.globalNamed "girouette/steady.patterns" = some 1 by kernel_rfl).symm.trans hg)
  obtain rfl := Option.some.inj ((show (Tryd.prog.globals[1]?).map (·.type) = some 114 by kernel_rfl).symm.trans ht)
  obtain rfl := Option.some.inj ((show Tryd.prog.globalNamed "girouette/steady.zero" = some 0 by kernel_rfl).symm.trans hg2)
  obtain rfl := Option.some.inj ((show (Tryd.prog.globals[0]?).map (·.type) = some 79 by kernel_rfl).symm.trans ht2)
  have c9 : Tryd.prog.cellsOf 9 = 1 := by kernel_rfl
  have c2 : Tryd.prog.cellsOf 2 = 1 := by kernel_rfl
  have c114 : Tryd.prog.cellsOf 114 = 4 := by kernel_rfl
  have c79 : Tryd.prog.cellsOf 79 = 2 := by kernel_rfl
  constructor
  · obtain ⟨xs, m, _, ex, hlen, hl, hel⟩ := DataW.trod_array Tryd.underlying114 hd
    rw [c114] at hlen
    obtain ⟨l⟩ := cs
    match l, hlen with
    | [a, b, c, d], _ =>
      match xs, hl with
      | [x0, x1, x2, x3], _ =>
        have e3 := (DataW.agg.inj (Prod.mk.inj ex).1)
        simp only [List.map_cons, List.map_nil, List.cons.injEq, and_true] at e3
        have k0 := hel 0 (by omega); have k1 := hel 1 (by omega); have k2 := hel 2 (by omega); have k3 := hel 3 (by omega)
        rw [c9] at k0 k1 k2 k3
        obtain ⟨s0, a0, b0, _⟩ := DataW.trod_string Tryd.underlying9 k0
        obtain ⟨s1, a1, b1, _⟩ := DataW.trod_string Tryd.underlying9 k1
        obtain ⟨s2, a2, b2, _⟩ := DataW.trod_string Tryd.underlying9 k2
        obtain ⟨s3, a3, b3, _⟩ := DataW.trod_string Tryd.underlying9 k3
        simp only [List.drop_zero, List.drop_succ_cons, List.take_succ_cons, List.take_zero, List.cons.injEq, and_true, Nat.mul_one] at a0 a1 a2 a3
        subst a0 a1 a2 a3 b0 b1 b2 b3
        obtain ⟨r0, r1, r2, r3⟩ := e3
        have r0 := str_of (Lit.string.inj (DataW.lit.inj r0)).symm
        have r1 := str_of (Lit.string.inj (DataW.lit.inj r1)).symm
        have r2 := str_of (Lit.string.inj (DataW.lit.inj r2)).symm
        have r3 := str_of (Lit.string.inj (DataW.lit.inj r3)).symm
        subst r0 r1 r2 r3
        exact var_heap hg hv
  · obtain ⟨y0, y1, n, ex, hlen, k0, k1⟩ := trod_struct2 Tryd.underlying79 hd2
    rw [c79] at hlen
    obtain ⟨l⟩ := cs2
    match l, hlen with
    | [a, b], _ =>
      have e3 := (DataW.agg.inj (Prod.mk.inj ex).1)
      simp only [List.cons.injEq, and_true] at e3
      rw [c2] at k0 k1
      obtain ⟨z0, a0, b0, _⟩ := DataW.trod_int Tryd.underlying2 k0
      obtain ⟨z1, a1, b1, _⟩ := DataW.trod_int Tryd.underlying2 k1
      simp only [List.drop_zero, List.drop_succ_cons, List.take_succ_cons, List.take_zero, List.cons.injEq, and_true] at a0 a1
      subst a0 a1 b0 b1
      obtain ⟨r0, r1⟩ := e3
      have r0 := (Lit.int.inj (DataW.lit.inj r0)).2
      have r1 := (Lit.int.inj (DataW.lit.inj r1)).2
      subst r0 r1
      exact var_heap hg2 hv2
set_option maxRecDepth 100000 in
theorem glob {W : World} (h : laidMetH Tryd.prog laidL W) : Glob rig.tab W := glob_rows (l := rows) ⟨(fun _ h => by cases h), (fun _ h => by cases h), (fun _ h => by cases h), (fun _ h => by cases h), (fun _ h => by cases h), (fun _ h => by cases h), (fun _ h => by cases h), (fun _ h => by cases h), (fun _ h => by cases h), (fun _ h => by cases h), (fun _ h => by cases h), (fun _ h => by cases h), (fun _ h => by cases h), (fun _ h => by cases h), (fun _ h => by cases h), (fun _ h => by cases h), (fun _ h => by cases h), (fun _ h => by cases h), (fun _ h => by cases h), (fun _ h => by cases h), (fun _ h => by cases h), (fun _ h => by cases h), (fun _ h => by cases h), (fun _ h => by cases h), (fun _ h => by cases h), (fun _ h => by cases h), (fun _ h => by cases h), (fun _ h => by cases h), (fun _ h => by cases h), (fun _ h => by cases h), (fun _ h => by cases h), (fun _ h => by cases h), (fun _ h => by cases h), (fun _ h => by cases h), (fun _ h => by cases h), (fun _ h => by cases h), (fun _ h => by cases h), (fun _ h => by cases h), (fun _ h => by cases h), (fun _ h => by cases h), (fun _ h => by cases h), (fun _ h => by cases h), (fun _ h => by cases h), (fun _ h => by cases h), (fun _ h => by cases h), (fun _ h => by cases h), (fun _ h => by cases h), (fun _ h => by cases h), (fun _ h => by cases h), (fun _ h => by cases h), (fun _ h => by cases h), (fun _ h => by cases h), (fun _ h => by cases h), (fun _ h => by cases h), (fun _ h => by cases h), (fun _ h => by cases h), (fun _ h => by cases h), (fun _ h => by cases h), (fun _ h => by cases h), (fun _ h => by cases h), (fun _ h => by cases h), (fun _ h => by cases h), (fun _ h => by cases h), (fun _ h => by cases h), (fun _ h => by cases h), (fun _ h => by cases h), (fun _ h => by cases h), (fun _ h => by cases h), (fun _ h => by cases h), (fun _ h => by cases h), (fun q hq => by rw [List.mem_singleton.1 hq]; exact (vars h).2), (fun _ h => by cases h), (fun _ h => by cases h), (fun _ h => by cases h), (fun _ h => by cases h), (fun _ h => by cases h), (fun _ h => by cases h), (fun _ h => by cases h), (fun _ h => by cases h), (fun _ h => by cases h), (fun _ h => by cases h), (fun _ h => by cases h), (fun _ h => by cases h), (fun _ h => by cases h), (fun _ h => by cases h), (fun _ h => by cases h), (fun _ h => by cases h), (fun _ h => by cases h), (fun _ h => by cases h), (fun _ h => by cases h), (fun _ h => by cases h), (fun _ h => by cases h), (fun _ h => by cases h), (fun _ h => by cases h), (fun _ h => by cases h), (fun _ h => by cases h), (fun _ h => by cases h), (fun _ h => by cases h), (fun _ h => by cases h), (fun _ h => by cases h), (fun _ h => by cases h), (fun _ h => by cases h), (fun _ h => by cases h), (fun _ h => by cases h), (fun _ h => by cases h), (fun q hq => by rw [List.mem_singleton.1 hq]; exact (vars h).1), (fun _ h => by cases h), (fun _ h => by cases h), (fun _ h => by cases h), (fun _ h => by cases h), (fun _ h => by cases h), (fun _ h => by cases h), (fun _ h => by cases h), (fun _ h => by cases h), (fun _ h => by cases h), (fun _ h => by cases h), (fun _ h => by cases h), (fun _ h => by cases h), (fun _ h => by cases h), (fun _ h => by cases h), (fun _ h => by cases h), (fun _ h => by cases h), (fun _ h => by cases h), (fun _ h => by cases h), trivial⟩
end Go.Proofs.YtlnkpocijfgikaaDoor
