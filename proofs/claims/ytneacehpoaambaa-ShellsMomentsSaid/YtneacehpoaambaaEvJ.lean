/-
  The evaluator, part J: which operation is which; lists of operations.
-/
import Derived.Test.YtneacehpoaambaaEvI
namespace Go.Ev
open Go Go.RowKit

section
variable {Y : Rig} {nt : Nat} {ι : Io} {fr : Fr} {a : Act} {h h' : H} {w : World} {v : V} {d : Option Tmp} {ty : TypeId} {pos : String} {aft : Array Edge} {g : Option (Nat × Bool)}

def isCall : Op → Bool
  | .call c => match c.callee with | .value _ => true | _ => false
  | _ => false

theorem evop_rel {fs : T EF} {go : Go} (ha : AR nt ι fr a) (hr : WR Y.tab ι h w) {op : Op} {eop : EOp} (hnc : isCall op = false) (hc : compOp Y.tab op = some eop) (he : evop fs go fr h eop = .ok v h') : OpOk Y h ι a w ⟨d, op, ty, pos, aft, g⟩ v h' := by
  cases op
  case move x =>
    simp only [compOp, Option.map_eq_some_iff] at hc
    obtain ⟨x', hx, rfl⟩ := hc
    cases he
    exact op_move ha hr hx
  case assign x =>
    simp only [compOp, Option.map_eq_some_iff] at hc
    obtain ⟨x', hx, rfl⟩ := hc
    cases he
    exact op_assign ha hr hx
  case pick c x y =>
    simp only [compOp, Option.bind_eq_bind, Option.bind_eq_some_iff, Option.some.injEq] at hc
    obtain ⟨c', h1, x', h2, y', h3, rfl⟩ := hc
    exact op_pick ha hr h1 h2 h3 he
  case alloc t =>
    simp only [compOp, Option.bind_eq_bind, Option.bind_eq_some_iff, Option.some.injEq] at hc
    obtain ⟨dt, h1, z, h2, rfl⟩ := hc
    cases he
    exact op_alloc hr h1 h2
  case box t x =>
    simp only [compOp, Option.bind_eq_bind, Option.bind_eq_some_iff, Option.some.injEq] at hc
    obtain ⟨dt, h1, x', h2, rfl⟩ := hc
    obtain ⟨cs, h3, he⟩ := oGet_ok he
    cases he
    exact op_box ha hr h2 h3
  case build t ps =>
    simp only [compOp, Option.bind_eq_bind, Option.bind_eq_some_iff] at hc
    obtain ⟨dt, h1, hc⟩ := hc
    cases hd : dt.desc <;> rw [hd] at hc <;> simp only [reduceCtorEq] at hc
    case array n e =>
      simp only [Option.bind_eq_some_iff, Option.some.injEq] at hc
      obtain ⟨de, h2, z, h3, qs, h4, rfl⟩ := hc
      obtain ⟨cs, h5, he⟩ := oGet_ok he
      cases he
      exact op_build_arr ha hr h1 hd h2 h3 h4 h5
    case struct fs =>
      simp only [Option.bind_eq_some_iff, Option.some.injEq] at hc
      obtain ⟨z, h2, szs, h3, qs, h4, rfl⟩ := hc
      obtain ⟨cs, h5, he⟩ := oGet_ok he
      cases he
      exact op_build_str ha hr h1 hd h2 h3 h4 h5
  case buildSlice t n ps =>
    simp only [compOp, Option.bind_eq_bind, Option.bind_eq_some_iff] at hc
    obtain ⟨dt, h1, hc⟩ := hc
    cases hd : dt.desc <;> rw [hd] at hc <;> simp only [reduceCtorEq] at hc
    case slice e =>
      simp only [Option.bind_eq_some_iff] at hc
      obtain ⟨de, h2, z, h3, hc⟩ := hc
      split at hc
      · rename_i hcond
        obtain ⟨c1, c2, c3⟩ := hcond
        simp only [Option.bind_eq_some_iff, Option.some.injEq] at hc
        obtain ⟨qs, h4, rfl⟩ := hc
        obtain ⟨cs, h5, he⟩ := oGet_ok he
        cases he
        exact op_buildSlice ha hr h1 hd h2 h3 c1 c2 c3 h4 h5
      · cases hc
  case load t p =>
    simp only [compOp, Option.bind_eq_bind, Option.bind_eq_some_iff] at hc
    obtain ⟨dt, h1, hc⟩ := hc
    split at hc
    · rename_i hg
      simp only [Option.bind_eq_some_iff, Option.some.injEq] at hc
      obtain ⟨p', h2, rfl⟩ := hc
      exact op_loadn ha hr h1 hg h2 he
    · rename_i hg
      simp only [Option.bind_eq_some_iff, Option.some.injEq] at hc
      obtain ⟨p', h2, rfl⟩ := hc
      exact op_load ha hr h1 (by simpa using hg) h2 he
  case store t p x =>
    simp only [compOp, Option.bind_eq_bind, Option.bind_eq_some_iff, Option.some.injEq] at hc
    obtain ⟨dt, h1, p', h2, x', h3, rfl⟩ := hc
    exact op_store ha hr h1 h2 h3 he
  case binOp op t x y t' =>
    simp only [compOp, Option.bind_eq_bind, Option.bind_eq_some_iff] at hc
    obtain ⟨dt, h1, hc⟩ := hc
    split at hc
    · simp only [Option.bind_eq_some_iff, Option.some.injEq] at hc
      obtain ⟨x', h2, y', h3, rfl⟩ := hc
      exact op_bin ha hr h2 h3 he
    · simp only [Option.bind_eq_some_iff] at hc
      obtain ⟨kd, h2, hc⟩ := hc
      cases op <;> simp only [reduceCtorEq] at hc
      · simp only [Option.bind_eq_some_iff, Option.some.injEq] at hc
        obtain ⟨x', h3, y', h4, rfl⟩ := hc
        exact op_eqk (neg := false) ha hr h1 h2 h3 h4 he
      · simp only [Option.bind_eq_some_iff, Option.some.injEq] at hc
        obtain ⟨x', h3, y', h4, rfl⟩ := hc
        exact op_eqk (neg := true) ha hr h1 h2 h3 h4 he
  case unOp op t x =>
    cases op <;> simp only [compOp, Option.map_eq_some_iff, reduceCtorEq] at hc
    · obtain ⟨x', hx, rfl⟩ := hc
      exact op_neg ha hr hx he
    · obtain ⟨x', hx, rfl⟩ := hc
      exact op_not ha hr hx he
  case convert s t x =>
    simp only [compOp, Option.bind_eq_bind, Option.bind_eq_some_iff] at hc
    obtain ⟨ds, h1, dt, h2, hc⟩ := hc
    split at hc
    · rename_i k0 k hd1 hd2
      simp only [Option.map_eq_some_iff] at hc
      obtain ⟨x', hx, rfl⟩ := hc
      exact op_conv ha hr h1 h2 hd1 hd2 hx he
    · cases hc
  case makeFunc fn fs cs =>
    cases fn <;> simp only [compOp, reduceCtorEq] at hc
    split at hc
    · rename_i hf
      simp only [Option.map_eq_some_iff] at hc
      obtain ⟨cs', h1, rfl⟩ := hc
      cases he
      exact op_mkfn ha hr hf h1
    · cases hc
  case makeMap t r =>
    cases r <;> simp only [compOp, reduceCtorEq] at hc
    simp only [Option.bind_eq_bind, Option.bind_eq_some_iff] at hc
    obtain ⟨dt, h1, hc⟩ := hc
    split at hc
    · simp only [Option.bind_eq_some_iff, Option.some.injEq] at hc
      obtain ⟨dk, h2, kd, h3, rfl⟩ := hc
      cases he
      exact op_mkmap hr h2 h3
    · cases hc
  case makeSlice t l c =>
    simp only [compOp] at hc
    split at hc
    · rename_i hs
      simp only [Option.bind_eq_bind, Option.bind_eq_some_iff] at hc
      obtain ⟨dt, h1, hc⟩ := hc
      split at hc
      · rename_i e hd
        simp only [Option.bind_eq_some_iff] at hc
        obtain ⟨de, h2, z, h3, hc⟩ := hc
        split at hc
        · rename_i hcond
          simp only [Option.bind_eq_some_iff, Option.some.injEq] at hc
          obtain ⟨l', h4, rfl⟩ := hc
          exact op_mkslice ha hr h1 hd h2 h3 hcond.1 hcond.2.1 hcond.2.2 hs h4 he
        · cases hc
      · cases hc
    · cases hc
  case slice t x lo hi mx =>
    simp only [compOp, Option.bind_eq_bind, Option.bind_eq_some_iff] at hc
    obtain ⟨dt, h1, hc⟩ := hc
    split at hc
    · rename_i e hd
      split at hc
      · rename_i hmh
        simp only [Option.bind_eq_some_iff, Option.some.injEq] at hc
        obtain ⟨de, h2, x', h3, lo', h4, hi', h5, mx', h6, rfl⟩ := hc
        exact op_slice ha hr h1 hd h2 h3 h4 h5 h6 he hmh
      · cases hc
    · cases hc
  case fieldAddr t x f =>
    simp only [compOp, Option.bind_eq_bind, Option.bind_eq_some_iff] at hc
    obtain ⟨dt, h1, hc⟩ := hc
    split at hc
    · rename_i fs hd
      simp only [Option.bind_eq_some_iff] at hc
      obtain ⟨fd, h2, df, h3, hc⟩ := hc
      split at hc
      · cases hc
      · rename_i h0
        simp only [Option.bind_eq_some_iff, Option.some.injEq] at hc
        obtain ⟨x', h4, rfl⟩ := hc
        exact op_fadr ha hr h1 hd h2 h3 h0 h4 he
    · cases hc
  case field t x f =>
    simp only [compOp, Option.bind_eq_bind, Option.bind_eq_some_iff] at hc
    obtain ⟨dt, h1, hc⟩ := hc
    split at hc
    · rename_i fs hd
      simp only [Option.bind_eq_some_iff, Option.some.injEq] at hc
      obtain ⟨fd, h2, df, h3, x', h4, rfl⟩ := hc
      exact op_fld ha hr h1 hd h2 h3 h4 he
    · cases hc
  case indexAddr t x i =>
    simp only [compOp, Option.bind_eq_bind, Option.bind_eq_some_iff] at hc
    obtain ⟨dt, h1, hc⟩ := hc
    split at hc
    · rename_i n e hd
      simp only [Option.bind_eq_some_iff, Option.some.injEq] at hc
      obtain ⟨de, h2, x', h3, i', h4, rfl⟩ := hc
      exact op_iadr ha hr h1 hd h2 h3 h4 he
    · rename_i e hd
      simp only [Option.bind_eq_some_iff, Option.some.injEq] at hc
      obtain ⟨de, h2, x', h3, i', h4, rfl⟩ := hc
      exact op_iads ha hr h1 hd h2 h3 h4 he
    · cases hc
  case index t x i =>
    simp only [compOp, Option.bind_eq_bind, Option.bind_eq_some_iff] at hc
    obtain ⟨dt, h1, hc⟩ := hc
    split at hc
    · rename_i n e hd
      simp only [Option.bind_eq_some_iff, Option.some.injEq] at hc
      obtain ⟨de, h2, x', h3, i', h4, rfl⟩ := hc
      exact op_ix ha hr h1 hd h2 h3 h4 he
    · cases hc
  case lookup t m k ok =>
    simp only [compOp, Option.bind_eq_bind, Option.bind_eq_some_iff] at hc
    obtain ⟨dt, h1, hc⟩ := hc
    split at hc
    · rename_i kt e hd
      simp only [Option.bind_eq_some_iff, Option.some.injEq] at hc
      obtain ⟨dk, h2, kd, h3, de, h4, z, h5, m', h6, k', h7, rfl⟩ := hc
      exact op_look ha hr h1 hd h2 h3 h4 h5 h6 h7 he
    · cases hc
  case mapUpdate t m k x =>
    simp only [compOp, Option.bind_eq_bind, Option.bind_eq_some_iff] at hc
    obtain ⟨dt, h1, hc⟩ := hc
    split at hc
    · rename_i kt e hd
      simp only [Option.bind_eq_some_iff, Option.some.injEq] at hc
      obtain ⟨dk, h2, kd, h3, m', h6, k', h7, x', h8, rfl⟩ := hc
      have := op_mupd (d := d) (ty := ty) (pos := pos) (aft := aft) (g := g) ha hr h1 hd h2 h3 h6 h7 h8 he
      exact this
    · cases hc
  case extract x i =>
    simp only [compOp, Option.bind_eq_bind, Option.bind_eq_some_iff, Option.some.injEq] at hc
    obtain ⟨x', h1, rfl⟩ := hc
    exact op_ext ha hr h1 he
  case call c =>
    obtain ⟨callee, args, tys⟩ := c
    obtain ⟨al, rfl⟩ : ∃ al : List Operand, args = al.toArray := ⟨args.toList, by simp⟩
    obtain ⟨tl, rfl⟩ : ∃ tl : List TypeId, tys = tl.toArray := ⟨tys.toList, by simp⟩
    cases callee with
    | value f => simp [isCall] at hnc
    | invoke r m => simp [compOp] at hc
    | builtin b =>
      cases b <;> simp only [compOp, reduceCtorEq] at hc
      case len =>
        split at hc
        · simp only [Option.bind_eq_bind, Option.bind_eq_some_iff] at hc
          obtain ⟨dt, h1, hc⟩ := hc
          split at hc
          · rename_i e hd
            simp only [Option.map_eq_some_iff] at hc
            obtain ⟨x', hx, rfl⟩ := hc
            exact op_len ha hr h1 hd hx he
          · cases hc
        · cases hc
      case append =>
        split at hc
        · simp only [Option.bind_eq_bind, Option.bind_eq_some_iff] at hc
          obtain ⟨dt, h1, hc⟩ := hc
          split at hc
          · rename_i e hd
            split at hc
            · rename_i htt
              subst htt
              simp only [Option.bind_eq_some_iff] at hc
              obtain ⟨de, h2, hc⟩ := hc
              split at hc
              · rename_i hcond
                simp only [Option.bind_eq_some_iff, Option.some.injEq] at hc
                obtain ⟨x', h3, y', h4, rfl⟩ := hc
                exact op_append ha hr h1 hd h2 hcond.1 hcond.2.1 hcond.2.2 h3 h4 he
              · cases hc
            · cases hc
          · cases hc
        · cases hc
      case min =>
        split at hc
        · simp only [Option.bind_eq_bind, Option.bind_eq_some_iff, Option.some.injEq] at hc
          obtain ⟨x', h3, y', h4, rfl⟩ := hc
          exact op_min ha hr h3 h4 he
        · cases hc
      case max =>
        split at hc
        · simp only [Option.bind_eq_bind, Option.bind_eq_some_iff, Option.some.injEq] at hc
          obtain ⟨x', h3, y', h4, rfl⟩ := hc
          exact op_max ha hr h3 h4 he
        · cases hc
  all_goals (simp only [compOp, reduceCtorEq] at hc)
end
end Go.Ev
