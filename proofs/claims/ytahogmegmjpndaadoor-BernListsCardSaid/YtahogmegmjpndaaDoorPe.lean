/-
  Slices of slices of pairs, of numbers: how they are read, and that they read behind the call as before., and what follows.
-/
import Derived.Test.YtahogmegmjpndaaDoorPd
import Derived.Test.YtahogmegmjpndaaDoorPa
import Derived.Test.YtahogmegmjpndaaDoorPb
import Derived.Test.YtahogmegmjpndaaDoorPc
namespace Go.Ev
open Go Go.RowKit Go.ChangeShapes Go.WideShapes Go.ChangeAt
def SameR (H : Type) (enc : TypeId × Value → H) (P : Program) (W W' : World) (e : TypeId) : Prop := ∀ n cs y, DataW.trod enc P W 0 (fun _ => true) true n e cs = some y → DataW.trod enc P W' 0 (fun b => decide (b < W.heap.size)) true n e cs = some y
theorem Plain.sameR {H : Type} {enc : TypeId × Value → H} {P : Program} {W W' : World} {e : TypeId} (pe : Plain P e) : SameR H enc P W W' e := fun n cs y h => by rw [← h]; exact pe enc W' W 0 _ _ true n cs
theorem SameR.trod {H : Type} {enc : TypeId × Value → H} {P : Program} {W W' : World} {t : TypeId} (s : SameR H enc P W W' t) {v : Value} {d : DataW H} {p : List MemPlace} (h : DataW.Trod enc P W 0 (fun _ => true) true t v d p) : DataW.Trod enc P W' 0 (fun b => decide (b < W.heap.size)) true t v d p := by
  obtain ⟨fuel, hf⟩ := h
  exact ⟨fuel, s _ _ _ hf⟩
end Go.Ev
namespace Go.Ev
open Go Go.RowKit
section
variable {fs : T EF} {fr : Fr} {h : H}
theorem of1000 : Int.ofNat 1000 = 1000 := of_eq_true (eq_self _)
end
end Go.Ev
namespace Go.Ev
open Go Go.RowKit
section
variable {α : Type} {e : α → V} {h h' : H} {w v u : V} {xs us : List V} {Q Ls : List (List α)} {L : List α} {b : Nat}
structure Nr (e : α → V) (h : H) (v : V) (us : List V) (Ls : List (List α)) : Prop where
  len : us.length = Ls.length
  out : Sr vE h v us
  inn : ∀ i (h1 : i < us.length) (h2 : i < Ls.length), Sr e h us[i] Ls[i]
theorem Nr.grow (s : Nr e h v us Ls) (hc : HC h) (hg : Grow h.nx.nat h h') : Nr e h' v us Ls := ⟨s.len, s.out.grow hc hg, fun i h1 h2 => (s.inn i h1 h2).grow hc hg⟩
structure Nw (e : α → V) (h : H) (v : V) (us : List V) (Ls : List (List α)) : Prop where
  len : us.length = Ls.length
  out : Sl vE h v us
  inn : ∀ i (h1 : i < us.length) (h2 : i < Ls.length), Sl e h us[i] Ls[i]
  sep : ∀ u ∈ us, ∀ id off n sz, u = .sl id off n sz → NotIn id v
  dis : ∀ i j (hi : i < us.length) (hj : j < us.length), i ≠ j → ∀ id off n sz, us[i] = .sl id off n sz → NotIn id us[j]
theorem Nw.grow (s : Nw e h v us Ls) (hc : HC h) (hg : Grow h.nx.nat h h') : Nw e h' v us Ls := ⟨s.len, s.out.grow hc hg, fun i h1 h2 => (s.inn i h1 h2).grow hc hg, s.sep, s.dis⟩
end
end Go.Ev
namespace Go.Ev
open Go Go.RowKit
def pZ (x : Int × Int) : V := .agg [.i .i64 x.1, .i .i64 x.2]
def in2 (x : Int × Int) : Prop := inR .i64 x.1 = true ∧ inR .i64 x.2 = true
def entZ (M : List ((Int × Int) × Int)) : List (V × V) := M.map fun e => (pZ e.1, .i .i64 e.2)
def lookZ : List ((Int × Int) × Int) → Int × Int → Option Int
  | [], _ => none
  | e :: M, x => if x = e.1 then some e.2 else lookZ M x
def putZ : List ((Int × Int) × Int) → Int × Int → Int → List ((Int × Int) × Int)
  | [], x, v => [(x, v)]
  | e :: M, x, v => if x = e.1 then (x, v) :: M else e :: putZ M x v
theorem keyEq_z {x y : Int × Int} (hx : in2 x) (hy : in2 y) : keyEq (.many [some .i64, some .i64]) (pZ x) (pZ y) = some (decide (x = y)) := by
  have := keyEq_2 hx.1 hx.2 hy.1 hy.2
  have e : (decide (x.1 = y.1) && decide (x.2 = y.2)) = decide (x = y) := by
    rw [Bool.eq_iff_iff, Bool.and_eq_true, decide_eq_true_eq, decide_eq_true_eq, decide_eq_true_eq]
    exact ⟨fun h => Prod.ext h.1 h.2, fun h => by rw [h]; exact ⟨rfl, rfl⟩⟩
  rw [e] at this
  exact this
theorem upd_z {x : Int × Int} {v : Int} (hx : in2 x) : ∀ (M : List ((Int × Int) × Int)), (∀ e ∈ M, in2 e.1) → updE (.many [some .i64, some .i64]) (pZ x) (.i .i64 v) (entZ M) = some (entZ (putZ M x v))
  | [], _ => by
    show (oGet (keyEq (.many [some .i64, some .i64]) (pZ x) (pZ x)) none fun _ => some [(pZ x, V.i .i64 v)]) = _
    rw [keyEq_z hx hx]; rfl
  | y :: M, hM => by
    have ih := upd_z (v := v) hx M fun z hz => hM z (List.mem_cons_of_mem _ hz)
    show (oGet (keyEq (.many [some .i64, some .i64]) (pZ x) (pZ y.1)) none fun r => bif r then some ((pZ x, .i .i64 v) :: entZ M) else oGet (updE (.many [some .i64, some .i64]) (pZ x) (.i .i64 v) (entZ M)) none fun l => some ((pZ y.1, .i .i64 y.2) :: l)) = _
    rw [keyEq_z hx (hM y (by simp)), ih]
    show (bif decide (x = y.1) then _ else _) = some (entZ (if x = y.1 then (x, v) :: M else y :: putZ M x v))
    by_cases e : x = y.1
    · rw [decide_eq_true e, if_pos e]; rfl
    · rw [decide_eq_false e, if_neg e]; rfl
theorem look_put {x y : Int × Int} {v : Int} : ∀ (M : List ((Int × Int) × Int)), lookZ (putZ M x v) y = if y = x then some v else lookZ M y
  | [] => rfl
  | e :: M => by
    have ih := look_put (x := x) (y := y) (v := v) M
    show lookZ (if x = e.1 then (x, v) :: M else e :: putZ M x v) y = _
    by_cases h : x = e.1
    · rw [if_pos h]
      show (if y = x then some v else lookZ M y) = if y = x then some v else if y = e.1 then some e.2 else lookZ M y
      by_cases h2 : y = x
      · rw [if_pos h2, if_pos h2]
      · rw [if_neg h2, if_neg h2, if_neg (by rw [← h]; exact h2)]
    · rw [if_neg h]
      show (if y = e.1 then some e.2 else lookZ (putZ M x v) y) = if y = x then some v else if y = e.1 then some e.2 else lookZ M y
      rw [ih]
      by_cases h2 : y = e.1
      · rw [if_pos h2, if_pos h2, if_neg (fun h3 => h (h3.symm.trans h2))]
      · rw [if_neg h2, if_neg h2]
theorem in_put {x : Int × Int} {v : Int} (hx : in2 x) : ∀ (M : List ((Int × Int) × Int)), (∀ e ∈ M, in2 e.1) → ∀ e ∈ putZ M x v, in2 e.1
  | [], _, e, he => by rw [List.mem_singleton.1 he]; exact hx
  | y :: M, hM, e, he => by
    unfold putZ at he
    split at he
    · rcases List.mem_cons.1 he with rfl | he
      · exact hx
      · exact hM e (List.mem_cons_of_mem _ he)
    · rcases List.mem_cons.1 he with rfl | he
      · exact hM _ (by simp)
      · exact in_put hx M (fun z hz => hM z (List.mem_cons_of_mem _ hz)) e he
def MapF (h : H) (id : K) (kt : Nat) (f : Int × Int → Option Int) : Prop := ∃ M, h.get id = .map kt (entZ M) ∧ (∀ e ∈ M, in2 e.1) ∧ ∀ x, lookZ M x = f x
theorem MapF.put {h : H} {id : K} {kt : Nat} {f : Int × Int → Option Int} {x : Int × Int} {v : Int} (hm : MapF h id kt f) (hx : in2 x) : ∃ es, mupdV kt (.many [some .i64, some .i64]) h (.m id) (pZ x) (.i .i64 v) = .ok undefV (h.put id (.map kt es)) ∧ MapF (h.put id (.map kt es)) id kt fun y => if y = x then some v else f y := by
  obtain ⟨M, e1, e2, e3⟩ := hm
  refine ⟨entZ (putZ M x v), ?_, putZ M x v, get_put_same, in_put hx M e2, fun y => by rw [look_put, e3]⟩
  show ((h.get id).onM kt fun es => oGet (updE (.many [some .i64, some .i64]) (pZ x) (.i .i64 v) es) RV.no fun es => RV.ok undefV (h.put id (.map kt es))) = _
  rw [e1]
  show (bif Nat.beq kt kt then (oGet (updE (.many [some .i64, some .i64]) (pZ x) (.i .i64 v) (entZ M)) RV.no fun es => RV.ok undefV (h.put id (.map kt es))) else _) = _
  rw [Nat.beq_same, upd_z hx M e2]; rfl
theorem MapF.same {h h' : H} {id : K} {kt : Nat} {f : Int × Int → Option Int} (hm : MapF h id kt f) (e : h'.get id = h.get id) : MapF h' id kt f := by
  obtain ⟨M, e1, e2, e3⟩ := hm
  exact ⟨M, e.trans e1, e2, e3⟩
end Go.Ev
namespace Go.Ev
open Go Go.RowKit
end Go.Ev
namespace Go.Ev
open Go Go.RowKit
section
variable {fs : T EF} {α : Type}
def In (S : K → Prop) (v : V) : Prop := ∀ id off n sz, v = .sl id off n sz → S id
theorem In.notIn {S : K → Prop} {v w : V} (h : In S v) (hw : ∀ id, S id → NotIn id w) : ∀ id off n sz, v = .sl id off n sz → NotIn id w := fun _id _off _n _sz e => hw _ (h _ _ _ _ e)
end
end Go.Ev
namespace Go.Ev
open Go Go.RowKit
end Go.Ev
namespace Go.Ev
open Go Go.RowKit
theorem VR.a2 {ι : Io} (a b : Int) : VR ι (.agg [.i .i64 a, .i .i64 b]) (.agg #[.int .i64 a, .int .i64 b]) :=
  VR.aggs (cs := [.i .i64 a, .i .i64 b]) (vs := [.int .i64 a, .int .i64 b]) (.cons (.i _ _) (.cons (.i _ _) .nil)) fun x hx => by
    simp only [List.mem_cons, List.not_mem_nil, or_false] at hx
    rcases hx with rfl | rfl <;> rfl
theorem open_a2 {H : Type} {enc : TypeId × Value → H} {P : Program} {w : World} {t i : TypeId} {b0 : Nat} {r : Reach} {v : Value} {d : DataW H} {ps : List MemPlace} (ht : P.underlying t = some (.array 2 i)) (hi : P.underlying i = some (.int .i64)) (hci : P.cellsOf i = 1) (hct : P.cellsOf t = 2)
    (hval : Value.okWide P w r b0 t v) (hd : DataW.Trod enc P w 0 (fun _ => true) true t v d ps) : ∃ a b : Int, v = .agg #[.int .i64 a, .int .i64 b] := by
  unfold Value.okWide at hval
  rw [ht] at hval
  obtain ⟨cs, rfl, hsz, _⟩ := hval
  rw [hct] at hsz
  obtain ⟨fuel, hf⟩ := hd
  obtain ⟨l⟩ := cs
  have hl : l.length = 2 := hsz
  match l, hl with
  | [c0, c1], _ =>
    have hf : DataW.trod enc P w 0 (fun _ => true) true fuel t [c0, c1] = some (d, ps) := hf
    obtain ⟨_, _, _, p0, p1⟩ := trod_array2 ht hci hf
    obtain ⟨a, rfl, _⟩ := trod_iw hi p0
    obtain ⟨b, rfl, _⟩ := trod_iw hi p1
    exact ⟨a, b, rfl⟩
end Go.Ev
namespace Go.Ev
open Go Go.RowKit
noncomputable def oG (n : Nat) (o : EOp) : EOper := ⟨some (K.ofNat n), none, o⟩
noncomputable def tG (n : Nat) : EO := .t (K.ofNat n)
noncomputable def cG (n : Nat) : EO := .c (.i .i64 (.ofNat n))
noncomputable def fG (n : Nat) : EO := .c (.fn (K.ofNat n) [])
noncomputable def gG (n m : Nat) (b : Bool) (o : EOp) : EOper := ⟨some (K.ofNat n), some (K.ofNat m, b), o⟩
theorem oG_e {n : Nat} {o : EOp} : oG n o = ⟨some (K.ofNat n), none, o⟩ := of_eq_true (eq_self _)
theorem cG_e {n : Nat} : cG n = .c (.i .i64 (.ofNat n)) := of_eq_true (eq_self _)
theorem fG_e {n : Nat} : fG n = .c (.fn (K.ofNat n) []) := of_eq_true (eq_self _)
theorem gG_e {n m : Nat} {b : Bool} {o : EOp} : gG n m b o = ⟨some (K.ofNat n), some (K.ofNat m, b), o⟩ := of_eq_true (eq_self _)
theorem tG_e {n : Nat} : tG n = .t (K.ofNat n) := of_eq_true (eq_self _)
theorem bz : type_of% (And.intro @oG_e (And.intro @tG_e (And.intro @gG_e (And.intro @cG_e (And.intro @fG_e (And.intro @w_reg (And.intro @w_seq (And.intro @w_block (And.intro @seqK_n (And.intro @x_nil (And.intro @x_as (And.intro @ev_c (And.intro @putD_some (And.intro @frame_2 (And.intro @of0 (And.intro @getK_set (And.intro @w_cond (And.intro @w_exit (And.intro @w_ret (And.intro @seqK_e (And.intro @atK_e (And.intro @loopK_e (And.intro @ckB_b (And.intro @cbB_b (And.intro @retK_r (And.intro @x_mv (And.intro @x_bin (And.intro @kx (And.intro @rvP_ok (And.intro @okv_some (And.intro @ev_t (And.intro @getV_some (And.intro @bin_neq (And.intro @oGet_s (And.intro @readRs_nil (And.intro @readRs_t (And.intro @retV_1 (And.intro @w_skip (And.intro @w_draw (And.intro @atK_n (And.intro @loopK_n (And.intro @true_and (And.intro @kg (And.intro @xg_nil (And.intro @xg_mv (And.intro @xg_bin (And.intro @xd_cons (And.intro @fresh_nil (And.intro @stK_n (And.intro @stK_s (And.intro @stay_nil (And.intro @stay_cons (And.intro @again_ok (And.intro @stay_mv (And.intro @beq_i (And.intro @bin_rem (And.intro @of1 (And.intro @x_alloc (And.intro @x_st (And.intro @x_call (And.intro @xg_build (And.intro @evs_nil (And.intro @evs_cons (And.intro @putD_none (And.intro @readRs_n (And.intro @cells1_i (And.intro @fill_2 (And.intro @set_2 (And.intro @x_box (And.intro @cells2 (And.intro @xg_ld (And.intro @xg_iadr (And.intro @stay_ld (And.intro @beq_p (And.intro @bin_mul (And.intro @onP_p (And.intro @stay_iadr (And.intro @ix2_0 (And.intro @ix2_1 (And.intro @x_ld (And.intro @x_iadr (And.intro @bin_add (And.intro @x_len (And.intro @frame_1 (And.intro @x_iads (And.intro @bin_lss (And.intro @x_build (And.intro @x_fadr (And.intro @okG_b (And.intro @asG_t (And.intro @x_g (And.intro @x_pick (And.intro @bin_eql (And.intro @bin_leq (And.intro @bin_geq (And.intro @pick_b (And.intro @seqK_r (And.intro @asG_f (And.intro @retV_2 (And.intro @fill_0 (And.intro @bin_gtr (And.intro @xg_ldn (And.intro @xg_fadr (And.intro @x_ldn (And.intro @stay_ldn (And.intro @bin_sub (And.intro @of7 (And.intro @atK_r (And.intro @loopK_r (And.intro @x_not (And.intro @onB_b (And.intro @xg_iads (And.intro @x_ext (And.intro @onTup_t (And.intro @nth0 (And.intro @nth1 (And.intro @of2 (And.intro @x_bslice (And.intro @x_app (And.intro @xg_g (@xg_pick))))))))))))))))))))))))))))))))))))))))))))))))))))))))))))))))))))))))))))))))))))))))))))))))))))))))))))))))))))))))) := And.intro @oG_e (And.intro @tG_e (And.intro @gG_e (And.intro @cG_e (And.intro @fG_e (And.intro @w_reg (And.intro @w_seq (And.intro @w_block (And.intro @seqK_n (And.intro @x_nil (And.intro @x_as (And.intro @ev_c (And.intro @putD_some (And.intro @frame_2 (And.intro @of0 (And.intro @getK_set (And.intro @w_cond (And.intro @w_exit (And.intro @w_ret (And.intro @seqK_e (And.intro @atK_e (And.intro @loopK_e (And.intro @ckB_b (And.intro @cbB_b (And.intro @retK_r (And.intro @x_mv (And.intro @x_bin (And.intro @kx (And.intro @rvP_ok (And.intro @okv_some (And.intro @ev_t (And.intro @getV_some (And.intro @bin_neq (And.intro @oGet_s (And.intro @readRs_nil (And.intro @readRs_t (And.intro @retV_1 (And.intro @w_skip (And.intro @w_draw (And.intro @atK_n (And.intro @loopK_n (And.intro @true_and (And.intro @kg (And.intro @xg_nil (And.intro @xg_mv (And.intro @xg_bin (And.intro @xd_cons (And.intro @fresh_nil (And.intro @stK_n (And.intro @stK_s (And.intro @stay_nil (And.intro @stay_cons (And.intro @again_ok (And.intro @stay_mv (And.intro @beq_i (And.intro @bin_rem (And.intro @of1 (And.intro @x_alloc (And.intro @x_st (And.intro @x_call (And.intro @xg_build (And.intro @evs_nil (And.intro @evs_cons (And.intro @putD_none (And.intro @readRs_n (And.intro @cells1_i (And.intro @fill_2 (And.intro @set_2 (And.intro @x_box (And.intro @cells2 (And.intro @xg_ld (And.intro @xg_iadr (And.intro @stay_ld (And.intro @beq_p (And.intro @bin_mul (And.intro @onP_p (And.intro @stay_iadr (And.intro @ix2_0 (And.intro @ix2_1 (And.intro @x_ld (And.intro @x_iadr (And.intro @bin_add (And.intro @x_len (And.intro @frame_1 (And.intro @x_iads (And.intro @bin_lss (And.intro @x_build (And.intro @x_fadr (And.intro @okG_b (And.intro @asG_t (And.intro @x_g (And.intro @x_pick (And.intro @bin_eql (And.intro @bin_leq (And.intro @bin_geq (And.intro @pick_b (And.intro @seqK_r (And.intro @asG_f (And.intro @retV_2 (And.intro @fill_0 (And.intro @bin_gtr (And.intro @xg_ldn (And.intro @xg_fadr (And.intro @x_ldn (And.intro @stay_ldn (And.intro @bin_sub (And.intro @of7 (And.intro @atK_r (And.intro @loopK_r (And.intro @x_not (And.intro @onB_b (And.intro @xg_iads (And.intro @x_ext (And.intro @onTup_t (And.intro @nth0 (And.intro @nth1 (And.intro @of2 (And.intro @x_bslice (And.intro @x_app (And.intro @xg_g (@xg_pick))))))))))))))))))))))))))))))))))))))))))))))))))))))))))))))))))))))))))))))))))))))))))))))))))))))))))))))))))))))))
end Go.Ev
namespace Go.Ev
open Go Go.RowKit
structure Rd (h : H) (v : V) (L : List Int) : Prop where
  len : ∀ h1, lenV v h1 = .ok (.i .i64 (L.length : Int)) h1
  now : ∀ i (hi : i < L.length), ∃ p, (∀ k h1, iadsV 1 v (.i k (i : Int)) h1 = .ok p h1) ∧ loadV h p one? = .ok (iE L[i]) h
  gr : HC h → ∀ h', Grow h.nx.nat h h' → ∀ i (hi : i < L.length), ∃ p, (∀ k h1, iadsV 1 v (.i k (i : Int)) h1 = .ok p h1) ∧ loadV h' p one? = .ok (iE L[i]) h'
theorem Rd.grow {h h' : H} {v : V} {L : List Int} (s : Rd h v L) (hc : HC h) (hG : Grow h.nx.nat h h') : Rd h' v L := ⟨s.len, s.gr hc h' hG, fun _ h2 hG2 => s.gr hc h2 (hG.trans (hG2.low hG.nx))⟩
end Go.Ev
namespace Go.Ev
open Go Go.RowKit
def sg (f : Nat → Int) : Nat → Int
  | 0 => 0
  | n + 1 => sg f n + f n
end Go.Ev
namespace Go.Ev
open Go Go.RowKit
def frL (q : Rat) : List V := [.i .i64 q.num, .i .i64 (q.den : Int)]
theorem fr_div {a b : Int} (hb : b ≠ 0) : (Rat.divInt a b).num = a.tdiv (if b < 0 then -(Int.gcd a b : Int) else (Int.gcd a b : Int)) ∧ ((Rat.divInt a b).den : Int) = b.tdiv (if b < 0 then -(Int.gcd a b : Int) else (Int.gcd a b : Int)) := by
  have h1 : ((Int.gcd a b : Nat) : Int) ∣ a := Int.gcd_dvd_left a b
  have h2 : ((Int.gcd a b : Nat) : Int) ∣ b := Int.gcd_dvd_right a b
  rw [Rat.num_divInt, Rat.den_divInt, if_neg hb, Int.gcd_comm b a]
  by_cases hn : b < 0
  · rw [if_pos hn, Int.tdiv_neg, Int.tdiv_neg, Int.tdiv_eq_ediv_of_dvd h1, Int.tdiv_eq_ediv_of_dvd h2, Int.sign_eq_neg_one_of_neg hn]
    refine ⟨by rw [Int.neg_one_mul, Int.neg_ediv_of_dvd h1], ?_⟩
    rw [← Int.neg_ediv_of_dvd h2, Int.natCast_ediv, Int.ofNat_natAbs_of_nonpos (by omega)]
  · rw [if_neg hn, Int.tdiv_eq_ediv_of_dvd h1, Int.tdiv_eq_ediv_of_dvd h2, Int.sign_eq_one_of_pos (by omega), Int.one_mul]
    exact ⟨rfl, by rw [Int.natCast_ediv, Int.natAbs_of_nonneg (by omega)]⟩
theorem gcd_step {a b : Int} : Int.gcd b (a.tmod b) = Int.gcd a b := by
  show Nat.gcd b.natAbs (a.tmod b).natAbs = Nat.gcd a.natAbs b.natAbs
  rw [Int.natAbs_tmod, Nat.gcd_comm, ← Nat.gcd_rec, Nat.gcd_comm]
theorem rat_eq (q : Rat) : Rat.divInt q.num (q.den : Int) = q := Rat.num_divInt_den q
theorem rat_mul {p q : Rat} : Rat.divInt (p.num * q.num) ((p.den : Int) * (q.den : Int)) = p * q := by
  rw [← Rat.divInt_mul_divInt, rat_eq, rat_eq]
theorem rat_den {q : Rat} : (q.den : Int) ≠ 0 := by have := q.den_nz; omega
theorem rat_add {p q : Rat} : Rat.divInt (p.num * (q.den : Int) + q.num * (p.den : Int)) ((p.den : Int) * (q.den : Int)) = p + q := by
  rw [← Rat.divInt_add_divInt _ _ rat_den rat_den, rat_eq, rat_eq]
theorem div_left {c n d : Int} (h : c ≠ 0) : Rat.divInt (c * n) (c * d) = Rat.divInt n d := Rat.divInt_mul_left h
theorem rat_mul' {p q : Rat} {g k : Int} (hg : g ≠ 0) (hk : k ≠ 0) (h1 : g ∣ p.num) (h2 : g ∣ (q.den : Int)) (h3 : k ∣ q.num) (h4 : k ∣ (p.den : Int)) : Rat.divInt (p.num / g * (q.num / k)) ((p.den : Int) / k * ((q.den : Int) / g)) = p * q := by
  rw [← rat_mul]
  obtain ⟨a, ha⟩ := h1
  obtain ⟨b, hb⟩ := h2
  obtain ⟨c, hc⟩ := h3
  obtain ⟨d, hd⟩ := h4
  rw [ha, hb, hc, hd, Int.mul_ediv_cancel_left _ hg, Int.mul_ediv_cancel_left _ hg, Int.mul_ediv_cancel_left _ hk, Int.mul_ediv_cancel_left _ hk, show g * a * (k * c) = (g * k) * (a * c) by grind, show k * d * (g * b) = (g * k) * (d * b) by grind, div_left (by intro h; rcases Int.mul_eq_zero.1 h with h | h; exact hg h; exact hk h)]
theorem rat_add' {p q : Rat} {g : Int} (hg : g ≠ 0) (h1 : g ∣ (p.den : Int)) (h2 : g ∣ (q.den : Int)) : Rat.divInt (p.num * ((q.den : Int) / g) + q.num * ((p.den : Int) / g)) ((p.den : Int) / g * (q.den : Int)) = p + q := by
  rw [← rat_add]
  obtain ⟨a, ha⟩ := h1
  obtain ⟨b, hb⟩ := h2
  rw [ha, hb, Int.mul_ediv_cancel_left _ hg, Int.mul_ediv_cancel_left _ hg, show p.num * (g * b) + q.num * (g * a) = g * (p.num * b + q.num * a) by grind, show g * a * (g * b) = g * (a * (g * b)) by grind, div_left hg]
end Go.Ev
namespace Go.Ev
open Go Go.RowKit
def M63 : Nat := 9223372036854775807
theorem gL {a b : Int} : ((Int.gcd a b : Nat) : Int) ∣ a := Int.gcd_dvd_left a b
theorem gR {a b : Int} : ((Int.gcd a b : Nat) : Int) ∣ b := Int.gcd_dvd_right a b
def Fr' (q : Rat) (M N : Nat) : Prop := q.num.natAbs ≤ M ∧ q.den ≤ N
theorem div_le {a b : Int} (hb : b ≠ 0) : (Rat.divInt a b).num.natAbs ≤ a.natAbs ∧ (Rat.divInt a b).den ≤ b.natAbs := by
  obtain ⟨h1, h2⟩ := fr_div (a := a) hb
  constructor
  · rw [h1, Int.natAbs_tdiv]; exact Nat.div_le_self _ _
  · have : ((Rat.divInt a b).den : Int).natAbs ≤ b.natAbs := by rw [h2, Int.natAbs_tdiv]; exact Nat.div_le_self _ _
    simpa using this
theorem nm {a b : Int} {M N : Nat} (ha : a.natAbs ≤ M) (hb : b.natAbs ≤ N) : (a * b).natAbs ≤ M * N := by rw [Int.natAbs_mul]; exact Nat.mul_le_mul ha hb
theorem nadd {a b : Int} {M N : Nat} (ha : a.natAbs ≤ M) (hb : b.natAbs ≤ N) : (a + b).natAbs ≤ M + N := by omega
theorem nden {q : Rat} {N : Nat} (h : q.den ≤ N) : (q.den : Int).natAbs ≤ N := by simpa using h
theorem ed_le {a g : Int} {M : Nat} (ha : a.natAbs ≤ M) (hg : g ∣ a) : (a / g).natAbs ≤ M := by
  rw [← Int.tdiv_eq_ediv_of_dvd hg, Int.natAbs_tdiv]; exact Nat.le_trans (Nat.div_le_self _ _) ha
structure MlB (p q : Rat) : Prop where
  p1 : p.num.natAbs ≤ M63
  p2 : (p.den : Int).natAbs ≤ M63
  q1 : q.num.natAbs ≤ M63
  q2 : (q.den : Int).natAbs ≤ M63
  b1 : (p.num / (Int.gcd p.num (q.den : Int) : Int) * (q.num / (Int.gcd q.num (p.den : Int) : Int))).natAbs ≤ M63
  b2 : ((p.den : Int) / (Int.gcd q.num (p.den : Int) : Int) * ((q.den : Int) / (Int.gcd p.num (q.den : Int) : Int))).natAbs ≤ M63
structure AdB (p q : Rat) : Prop where
  p2 : (p.den : Int).natAbs ≤ M63
  q2 : (q.den : Int).natAbs ≤ M63
  b1 : (p.num * ((q.den : Int) / (Int.gcd (p.den : Int) (q.den : Int) : Int)) + q.num * ((p.den : Int) / (Int.gcd (p.den : Int) (q.den : Int) : Int))).natAbs ≤ M63
  b2 : ((p.den : Int) / (Int.gcd (p.den : Int) (q.den : Int) : Int) * (q.den : Int)).natAbs ≤ M63
  b3 : (p.num * ((q.den : Int) / (Int.gcd (p.den : Int) (q.den : Int) : Int))).natAbs ≤ M63
  b4 : (q.num * ((p.den : Int) / (Int.gcd (p.den : Int) (q.den : Int) : Int))).natAbs ≤ M63
theorem mlb_of {p q : Rat} {M N M' N' : Nat} (h : Fr' p M N) (h' : Fr' q M' N') (k1 : M ≤ M63) (k2 : N ≤ M63) (k3 : M' ≤ M63) (k4 : N' ≤ M63) (k5 : M * M' ≤ M63) (k6 : N * N' ≤ M63) : MlB p q :=
  ⟨Nat.le_trans h.1 k1, Nat.le_trans (nden h.2) k2, Nat.le_trans h'.1 k3, Nat.le_trans (nden h'.2) k4, Nat.le_trans (nm (ed_le h.1 gL) (ed_le h'.1 gL)) k5, Nat.le_trans (nm (ed_le (nden h.2) gR) (ed_le (nden h'.2) gR)) k6⟩
theorem dv_add {a b d : Int} : Rat.divInt a d + Rat.divInt b d = Rat.divInt (a + b) d := by
  rw [Rat.divInt_eq_div, Rat.divInt_eq_div, Rat.divInt_eq_div, Rat.intCast_add]; grind
theorem den_dvd' {a b : Int} (hb : 0 < b) : ((Rat.divInt a b).den : Int) ∣ b := by
  obtain ⟨_, h2⟩ := fr_div (a := a) (b := b) (by omega)
  rw [if_neg (by omega), Int.tdiv_eq_ediv_of_dvd gR] at h2
  exact ⟨((Int.gcd a b : Nat) : Int), by rw [h2, Int.ediv_mul_cancel gR]⟩
def Ov (q : Rat) (D M : Nat) : Prop := 0 < D ∧ ∃ a : Int, a.natAbs ≤ M ∧ q = Rat.divInt a (D : Int)
theorem Ov.fr {q : Rat} {D M : Nat} (h : Ov q D M) : Fr' q M D := by
  obtain ⟨h0, a, ha, rfl⟩ := h
  obtain ⟨h1, h2⟩ := div_le (a := a) (b := (D : Int)) (by omega)
  exact ⟨Nat.le_trans h1 ha, by simpa using h2⟩
theorem Ov.ex {q : Rat} {D M : Nat} (h : Ov q D M) : ∃ k : Nat, 0 < k ∧ D = q.den * k ∧ (q.num * (k : Int)).natAbs ≤ M := by
  obtain ⟨h0, a, ha, e⟩ := h
  have hd : (q.den : Int) ∣ (D : Int) := by rw [e]; exact den_dvd' (by omega)
  obtain ⟨k, hk⟩ := hd
  have hq0 : (q.den : Int) ≠ 0 := rat_den
  have hD0 : (D : Int) ≠ 0 := by omega
  have hqp : 0 < (q.den : Int) := by have := q.den_pos; omega
  have hkp : 0 < k := by
    rcases Int.lt_or_le 0 k with h1 | h1
    · exact h1
    · have := Int.mul_nonpos_of_nonneg_of_nonpos (Int.le_of_lt hqp) h1; omega
  have hc : q.num * (D : Int) = a * (q.den : Int) := by
    have : Rat.divInt q.num (q.den : Int) = Rat.divInt a (D : Int) := by rw [rat_eq]; exact e
    exact (Rat.divInt_eq_divInt_iff hq0 hD0).1 this
  have ha' : q.num * k = a := by
    have : (q.num * k) * (q.den : Int) = a * (q.den : Int) := by rw [← hc, hk]; grind
    exact Int.eq_of_mul_eq_mul_right hq0 this
  refine ⟨k.toNat, by omega, ?_, by rw [Int.toNat_of_nonneg (by omega), ha']; exact ha⟩
  have : (D : Int) = ((q.den * k.toNat : Nat) : Int) := by rw [hk, Int.natCast_mul, Int.toNat_of_nonneg (by omega)]
  exact Int.ofNat.inj this
theorem Ov.add {p q : Rat} {D M N : Nat} (hp : Ov p D M) (hq : Ov q D N) : Ov (p + q) D (M + N) := by
  obtain ⟨h0, a, ha, rfl⟩ := hp
  obtain ⟨_, b, hb, rfl⟩ := hq
  exact ⟨h0, a + b, nadd ha hb, dv_add⟩
theorem Ov.mul {p q : Rat} {D E M N : Nat} (hp : Ov p D M) (hq : Ov q E N) : Ov (p * q) (D * E) (M * N) := by
  obtain ⟨h0, a, ha, rfl⟩ := hp
  obtain ⟨h1, b, hb, rfl⟩ := hq
  exact ⟨Nat.mul_pos h0 h1, a * b, nm ha hb, by rw [Rat.divInt_mul_divInt, Int.natCast_mul]⟩
theorem Ov.le {q : Rat} {D M N : Nat} (h : Ov q D M) (hn : M ≤ N) : Ov q D N := ⟨h.1, h.2.elim fun a ha => ⟨a, Nat.le_trans ha.1 hn, ha.2⟩⟩
theorem adb_ov {p q : Rat} {D M N : Nat} (hp : Ov p D M) (hq : Ov q D N) (hD : D ≤ M63) (hM : M + N ≤ M63) : AdB p q := by
  obtain ⟨k, k0, k1, k2⟩ := hp.ex
  obtain ⟨j, j0, j1, j2⟩ := hq.ex
  have hg0 : Int.gcd (p.den : Int) (q.den : Int) ≠ 0 := fun e => by have := (Int.gcd_eq_zero_iff.1 e).1; exact rat_den this
  have hpd := p.den_pos
  have hqd := q.den_pos
  generalize hg : Int.gcd (p.den : Int) (q.den : Int) = g at *
  have g1 : (g : Int) ∣ (p.den : Int) := hg ▸ gL
  have g2 : (g : Int) ∣ (q.den : Int) := hg ▸ gR
  obtain ⟨x, hx⟩ := g1
  obtain ⟨y, hy⟩ := g2
  have gp : 0 < (g : Int) := by omega
  have gi : (g : Int) ≠ 0 := by omega
  have cop : Int.gcd x y = 1 := by
    have e : Int.gcd (g * x) (g * y) = g * Int.gcd x y := by rw [Int.gcd_mul_left]; simp
    rw [← hx, ← hy, hg] at e
    have : g * 1 = g * Int.gcd x y := by omega
    exact (Nat.eq_of_mul_eq_mul_left (by omega) this).symm
  have ex : (p.den : Int) / (g : Int) = x := by rw [hx, Int.mul_ediv_cancel_left _ gi]
  have ey : (q.den : Int) / (g : Int) = y := by rw [hy, Int.mul_ediv_cancel_left _ gi]
  have xp : 0 < x := by
    rcases Int.lt_or_le 0 x with h1 | h1
    · exact h1
    · have := Int.mul_nonpos_of_nonneg_of_nonpos (Int.le_of_lt gp) h1; omega
  have yp : 0 < y := by
    rcases Int.lt_or_le 0 y with h1 | h1
    · exact h1
    · have := Int.mul_nonpos_of_nonneg_of_nonpos (Int.le_of_lt gp) h1; omega
  -- D = g x k = g y j, so that y divides k
  have kk : x * (k : Int) = y * (j : Int) := by
    have e1 : (D : Int) = (p.den : Int) * (k : Int) := by rw [k1, Int.natCast_mul]
    have e2 : (D : Int) = (q.den : Int) * (j : Int) := by rw [j1, Int.natCast_mul]
    have : (g : Int) * (x * (k : Int)) = (g : Int) * (y * (j : Int)) := by rw [← Int.mul_assoc, ← Int.mul_assoc, ← hx, ← hy, ← e1, ← e2]
    exact Int.eq_of_mul_eq_mul_left gi this
  have yk : y ∣ (k : Int) := by
    have : y ∣ x * (k : Int) := ⟨(j : Int), kk⟩
    have h2 : y.natAbs ∣ x.natAbs * (k : Int).natAbs := by rw [← Int.natAbs_mul]; exact Int.natAbs_dvd_natAbs.2 this
    exact Int.natAbs_dvd_natAbs.1 (Nat.Coprime.dvd_of_dvd_mul_left (show Nat.gcd y.natAbs x.natAbs = 1 by rw [Nat.gcd_comm]; exact cop) h2)
  obtain ⟨c, hc⟩ := yk
  have cp : 0 < c := by
    rcases Int.lt_or_le 0 c with h1 | h1
    · exact h1
    · have := Int.mul_nonpos_of_nonneg_of_nonpos (Int.le_of_lt yp) h1; omega
  have hj : (j : Int) = x * c := by
    have : y * (j : Int) = y * (x * c) := by rw [← kk, hc]; grind
    exact Int.eq_of_mul_eq_mul_left (by omega) this
  have le_of : ∀ {u : Int} {m : Nat}, (u * c).natAbs ≤ m → u.natAbs ≤ m := fun {u m} h => by
    rw [Int.natAbs_mul] at h
    have : u.natAbs * 1 ≤ u.natAbs * c.natAbs := Nat.mul_le_mul_left _ (by omega)
    omega
  have b3 : (p.num * y).natAbs ≤ M := le_of (by rw [Int.mul_assoc, ← hc]; exact k2)
  have b4 : (q.num * x).natAbs ≤ N := le_of (by rw [Int.mul_assoc, ← hj]; exact j2)
  have b2 : (x * (q.den : Int)).natAbs ≤ D := by
    refine le_of (Nat.le_of_eq ?_)
    have : x * (q.den : Int) * c = (D : Int) := by rw [j1, Int.natCast_mul, hj]; grind
    rw [this]; rfl
  refine ⟨Nat.le_trans (nden hp.fr.2) hD, Nat.le_trans (nden hq.fr.2) hD, ?_, ?_, ?_, ?_⟩
  · rw [hg, ex, ey]; exact Nat.le_trans (nadd b3 b4) hM
  · rw [hg, ex]; exact Nat.le_trans b2 hD
  · rw [hg, ey]; omega
  · rw [hg, ex]; omega
theorem mlb_ov {p q : Rat} {D E M N : Nat} (hp : Ov p D M) (hq : Ov q E N) (k1 : M ≤ M63) (k2 : D ≤ M63) (k3 : N ≤ M63) (k4 : E ≤ M63) (k5 : M * N ≤ M63) (k6 : D * E ≤ M63) : MlB p q := mlb_of hp.fr hq.fr k1 k2 k3 k4 k5 k6
def rq (l : Nat → Rat) (x : Rat) : Nat → Nat → Rat
  | 0, i => l i
  | r + 1, i => rq l x r i * (1 - x) + rq l x r (i + 1) * x
def ri (l : Nat → Int) (o u : Int) : Nat → Nat → Int
  | 0, i => l i
  | r + 1, i => (u - o) * ri l o u r i + o * ri l o u r (i + 1)
theorem ri_le {l : Nat → Int} {o u M : Nat} (ho : o ≤ u) (hl : ∀ i, (l i).natAbs ≤ M) : ∀ r i, (ri l (o : Int) (u : Int) r i).natAbs ≤ M * u ^ r
  | 0, i => by show (l i).natAbs ≤ M * 1; have := hl i; omega
  | r + 1, i => by
    have a := nm (a := (u : Int) - (o : Int)) (M := u - o) (by omega) (ri_le ho hl r i)
    have b := nm (a := (o : Int)) (M := o) (by omega) (ri_le ho hl r (i + 1))
    have := nadd a b
    rw [← Nat.add_mul, Nat.sub_add_cancel ho] at this
    rw [Nat.pow_succ, show M * (u ^ r * u) = u * (M * u ^ r) by rw [Nat.mul_comm (u ^ r) u, Nat.mul_left_comm]]
    exact this
theorem rq_ri {l : Nat → Int} {D o u : Nat} (hD : 0 < D) (hu : 0 < u) : ∀ r i, rq (fun i => Rat.divInt (l i) (D : Int)) (Rat.divInt (o : Int) (u : Int)) r i = Rat.divInt (ri l (o : Int) (u : Int) r i) ((D * u ^ r : Nat) : Int)
  | 0, i => by show Rat.divInt (l i) (D : Int) = Rat.divInt (l i) ((D * 1 : Nat) : Int); rw [Nat.mul_one]
  | r + 1, i => by
    have hu0 : (u : Int) ≠ 0 := by omega
    have h1 : (1 : Rat) - Rat.divInt (o : Int) (u : Int) = Rat.divInt ((u : Int) - (o : Int)) (u : Int) := by
      rw [Rat.divInt_eq_div, Rat.divInt_eq_div, Rat.intCast_sub]
      have : ((u : Int) : Rat) ≠ 0 := by intro e; exact hu0 (Rat.intCast_eq_zero_iff.1 e)
      grind
    have e1 : ((D * u ^ (r + 1) : Nat) : Int) = ((D * u ^ r : Nat) : Int) * (u : Int) := by rw [← Int.natCast_mul, Nat.pow_succ, Nat.mul_assoc]
    show rq _ _ r i * (1 - _) + rq _ _ r (i + 1) * _ = Rat.divInt (((u : Int) - o) * ri l o u r i + o * ri l o u r (i + 1)) _
    rw [rq_ri hD hu r i, rq_ri hD hu r (i + 1), h1, Rat.divInt_mul_divInt, Rat.divInt_mul_divInt, e1, Int.mul_comm (ri l (o : Int) (u : Int) r i), Int.mul_comm (ri l (o : Int) (u : Int) r (i + 1)), dv_add]
theorem rq_ov {l : Nat → Int} {D o u M : Nat} (hD : 0 < D) (hu : 0 < u) (ho : o ≤ u) (hl : ∀ i, (l i).natAbs ≤ M) (r i : Nat) : Ov (rq (fun i => Rat.divInt (l i) (D : Int)) (Rat.divInt (o : Int) (u : Int)) r i) (D * u ^ r) (M * u ^ r) :=
  ⟨Nat.mul_pos hD (Nat.pow_pos hu), _, ri_le ho hl r i, rq_ri hD hu r i⟩
end Go.Ev
namespace Go.Ev
open Go Go.RowKit
section
variable {p : List Int} {n i k : Nat}
end
end Go.Ev
namespace Go.Ev
open Go Go.RowKit
noncomputable def f73_r0 : List EOper := [oG 4 (.as (cG 0))]
noncomputable def f73_r1 : List EOper := [oG 5 (.mv (tG 1)), oG 6 (.bin .neq (tG 5) (cG 0))]
noncomputable def f73_r2 : List Stage := [⟨[oG 7 (.mv (tG 1)), oG 8 (.mv (tG 0)), oG 9 (.mv (tG 1)), oG 10 (.bin .rem (tG 8) (tG 9))], [], (some (oG 0 (.as (tG 7)))), []⟩, ⟨[], [oG 9 (.mv (tG 1)), oG 10 (.bin .rem (tG 8) (tG 9))], (some (oG 1 (.as (tG 10)))), []⟩, ⟨[], [], none, []⟩]
noncomputable def f73_l0 : EC := (.seq (.seq (.reg f73_r1) (.cond (tG 6) .skip (.exit 0))) (.block 1 (.draw f73_r2)))
noncomputable def f73_r3 : List EOper := [oG 11 (.mv (tG 0)), oG 12 (.mv (tG 0)), oG 13 (.neg (tG 12)), oG 14 (.mx3 (tG 11) (tG 13) (cG 1)), oG 4 (.as (tG 14))]
noncomputable def f73_c : EC := (.seq (.reg f73_r0) (.seq (.block 0 (.loop f73_l0)) (.seq (.reg f73_r3) .ret)))
noncomputable def f73 : EF := ⟨15, [.tmp (.ofNat 4)], f73_c, none⟩
theorem f73_rs : f73.rs = [.tmp (.ofNat 4)] := of_eq_true (eq_self _)
noncomputable def f104_r0 : List EOper := [oG 4 (.as (cG 0))]
noncomputable def f104_r1 : List EOper := [oG 5 (.mv (tG 1)), oG 6 (.bin .neq (tG 5) (cG 0))]
noncomputable def f104_r2 : List Stage := [⟨[oG 7 (.mv (tG 1)), oG 8 (.mv (tG 0)), oG 9 (.mv (tG 1)), oG 10 (.bin .rem (tG 8) (tG 9))], [], (some (oG 0 (.as (tG 7)))), []⟩, ⟨[], [oG 9 (.mv (tG 1)), oG 10 (.bin .rem (tG 8) (tG 9))], (some (oG 1 (.as (tG 10)))), []⟩, ⟨[], [], none, []⟩]
noncomputable def f104_l0 : EC := (.seq (.seq (.reg f104_r1) (.cond (tG 6) .skip (.exit 0))) (.block 1 (.draw f104_r2)))
noncomputable def f104_r3 : List EOper := [oG 11 (.mv (tG 0)), oG 12 (.mv (tG 0)), oG 13 (.neg (tG 12)), oG 14 (.max (tG 11) (tG 13)), oG 4 (.as (tG 14))]
noncomputable def f104_c : EC := (.seq (.reg f104_r0) (.seq (.block 0 (.loop f104_l0)) (.seq (.reg f104_r3) .ret)))
noncomputable def f104 : EF := ⟨15, [.tmp (.ofNat 4)], f104_c, none⟩
theorem f104_rs : f104.rs = [.tmp (.ofNat 4)] := of_eq_true (eq_self _)
noncomputable def f54_r0 : List EOper := [oG 4 (.alloc 2 [(.i .i64 (.ofNat 0)), (.i .i64 (.ofNat 0))])]
noncomputable def f54_r1 : List EOper := [oG 6 (.mv (tG 0)), oG 7 (.mv (tG 1)), oG 8 (.call (fG 73) [(tG 6), (tG 7)]), oG 5 (.as (tG 8))]
noncomputable def f54_r2 : List Stage := [⟨[oG 9 (.mv (tG 0)), oG 10 (.mv (tG 5)), oG 11 (.bin .quo (tG 9) (tG 10)), oG 12 (.mv (tG 1)), oG 13 (.mv (tG 5)), oG 14 (.bin .quo (tG 12) (tG 13)), oG 15 (.build [(.i .i64 (.ofNat 0)), (.i .i64 (.ofNat 0))] [(0, 1, (tG 11)), (1, 1, (tG 14))])], [], (some ⟨none, none, .st 2 (tG 4) (tG 15)⟩), []⟩, ⟨[], [], none, []⟩]
noncomputable def f54_c : EC := (.seq (.reg f54_r0) (.seq (.reg f54_r1) (.seq (.draw f54_r2) .ret)))
noncomputable def f54 : EF := ⟨16, [.celln (.ofNat 4) 2], f54_c, none⟩
theorem f54_rs : f54.rs = [.celln (.ofNat 4) 2] := of_eq_true (eq_self _)
noncomputable def f75_r0 : List EOper := [oG 2 (.box 2 (tG 0)), oG 3 (.box 2 (tG 1)), oG 4 (.alloc 2 [(.i .i64 (.ofNat 0)), (.i .i64 (.ofNat 0))])]
noncomputable def f75_r1 : List Stage := [⟨[oG 7 (.iadr 2 1 (tG 2) (cG 0)), oG 8 (.ld (tG 7)), oG 9 (.iadr 2 1 (tG 3) (cG 1)), oG 10 (.ld (tG 9)), oG 12 (.iadr 2 1 (tG 3) (cG 0)), oG 13 (.ld (tG 12)), oG 14 (.iadr 2 1 (tG 2) (cG 1)), oG 15 (.ld (tG 14))], [], (some (oG 11 (.call (fG 73) [(tG 8), (tG 10)]))), []⟩, ⟨[], [oG 12 (.iadr 2 1 (tG 3) (cG 0)), oG 13 (.ld (tG 12)), oG 14 (.iadr 2 1 (tG 2) (cG 1)), oG 15 (.ld (tG 14))], (some (oG 16 (.call (fG 73) [(tG 13), (tG 15)]))), []⟩, ⟨[], [], (some (oG 5 (.as (tG 11)))), []⟩, ⟨[], [], (some (oG 6 (.as (tG 16)))), []⟩, ⟨[], [], none, []⟩]
noncomputable def f75_r2 : List Stage := [⟨[oG 17 (.iadr 2 1 (tG 2) (cG 0)), oG 18 (.ld (tG 17)), oG 19 (.mv (tG 5)), oG 20 (.bin .quo (tG 18) (tG 19)), oG 21 (.iadr 2 1 (tG 3) (cG 0)), oG 22 (.ld (tG 21)), oG 23 (.mv (tG 6)), oG 24 (.bin .quo (tG 22) (tG 23)), oG 25 (.bin .mul (tG 20) (tG 24)), oG 26 (.iadr 2 1 (tG 2) (cG 1)), oG 27 (.ld (tG 26)), oG 28 (.mv (tG 6)), oG 29 (.bin .quo (tG 27) (tG 28)), oG 30 (.iadr 2 1 (tG 3) (cG 1)), oG 31 (.ld (tG 30)), oG 32 (.mv (tG 5)), oG 33 (.bin .quo (tG 31) (tG 32)), oG 34 (.bin .mul (tG 29) (tG 33))], [], (some (oG 35 (.call (fG 54) [(tG 25), (tG 34)]))), []⟩, ⟨[], [], (some ⟨none, none, .st 2 (tG 4) (tG 35)⟩), []⟩, ⟨[], [], none, []⟩]
noncomputable def f75_c : EC := (.seq (.reg f75_r0) (.seq (.draw f75_r1) (.seq (.draw f75_r2) .ret)))
noncomputable def f75 : EF := ⟨36, [.celln (.ofNat 4) 2], f75_c, none⟩
theorem f75_rs : f75.rs = [.celln (.ofNat 4) 2] := of_eq_true (eq_self _)
noncomputable def f74_r0 : List EOper := [oG 2 (.box 2 (tG 0)), oG 3 (.box 2 (tG 1)), oG 4 (.alloc 2 [(.i .i64 (.ofNat 0)), (.i .i64 (.ofNat 0))])]
noncomputable def f74_r1 : List EOper := [oG 6 (.iadr 2 1 (tG 2) (cG 1)), oG 7 (.ld (tG 6)), oG 8 (.iadr 2 1 (tG 3) (cG 1)), oG 9 (.ld (tG 8)), oG 10 (.call (fG 73) [(tG 7), (tG 9)]), oG 5 (.as (tG 10))]
noncomputable def f74_r2 : List Stage := [⟨[oG 11 (.iadr 2 1 (tG 2) (cG 0)), oG 12 (.ld (tG 11)), oG 13 (.iadr 2 1 (tG 3) (cG 1)), oG 14 (.ld (tG 13)), oG 15 (.mv (tG 5)), oG 16 (.bin .quo (tG 14) (tG 15)), oG 17 (.bin .mul (tG 12) (tG 16)), oG 18 (.iadr 2 1 (tG 3) (cG 0)), oG 19 (.ld (tG 18)), oG 20 (.iadr 2 1 (tG 2) (cG 1)), oG 21 (.ld (tG 20)), oG 22 (.mv (tG 5)), oG 23 (.bin .quo (tG 21) (tG 22)), oG 24 (.bin .mul (tG 19) (tG 23)), oG 25 (.bin .add (tG 17) (tG 24)), oG 26 (.iadr 2 1 (tG 2) (cG 1)), oG 27 (.ld (tG 26)), oG 28 (.mv (tG 5)), oG 29 (.bin .quo (tG 27) (tG 28)), oG 30 (.iadr 2 1 (tG 3) (cG 1)), oG 31 (.ld (tG 30)), oG 32 (.bin .mul (tG 29) (tG 31))], [], (some (oG 33 (.call (fG 54) [(tG 25), (tG 32)]))), []⟩, ⟨[], [], (some ⟨none, none, .st 2 (tG 4) (tG 33)⟩), []⟩, ⟨[], [], none, []⟩]
noncomputable def f74_c : EC := (.seq (.reg f74_r0) (.seq (.reg f74_r1) (.seq (.draw f74_r2) .ret)))
noncomputable def f74 : EF := ⟨34, [.celln (.ofNat 4) 2], f74_c, none⟩
theorem f74_rs : f74.rs = [.celln (.ofNat 4) 2] := of_eq_true (eq_self _)
noncomputable def f89_r0 : List EOper := [oG 4 (.alloc 2 [(.i .i64 (.ofNat 0)), (.i .i64 (.ofNat 0))])]
noncomputable def f89_r1 : List EOper := [oG 6 (.mv (tG 0)), oG 7 (.mv (tG 1)), oG 8 (.call (fG 104) [(tG 6), (tG 7)]), oG 5 (.as (tG 8))]
noncomputable def f89_r2 : List Stage := [⟨[oG 9 (.mv (tG 0)), oG 10 (.mv (tG 5)), oG 11 (.bin .quo (tG 9) (tG 10)), oG 12 (.mv (tG 1)), oG 13 (.mv (tG 5)), oG 14 (.bin .quo (tG 12) (tG 13)), oG 15 (.build [(.i .i64 (.ofNat 0)), (.i .i64 (.ofNat 0))] [(0, 1, (tG 11)), (1, 1, (tG 14))])], [], (some ⟨none, none, .st 2 (tG 4) (tG 15)⟩), []⟩, ⟨[], [], none, []⟩]
noncomputable def f89_c : EC := (.seq (.reg f89_r0) (.seq (.reg f89_r1) (.seq (.draw f89_r2) .ret)))
noncomputable def f89 : EF := ⟨16, [.celln (.ofNat 4) 2], f89_c, none⟩
theorem f89_rs : f89.rs = [.celln (.ofNat 4) 2] := of_eq_true (eq_self _)
section
variable {fs : T EF} {h : H} {v w u : V} {a b : Int} {p q : Rat}
theorem callP_eq2 {f : V} {args : List V} {u : V} {P : V → H → Prop} (hr : CallP fs f args h fun r h' => r = u ∧ h' = h) : CallP fs f args h P = P u h := by
  apply propext
  obtain ⟨n, v, h', e, rfl, rfl⟩ := hr
  constructor
  · rintro ⟨n2, v2, h2, e2, hp⟩
    have a1 := callV_le (eval_le fs (Nat.le_max_left n n2)) _ _ _ _ _ e
    have a2 := callV_le (eval_le fs (Nat.le_max_right n n2)) _ _ _ _ _ e2
    rw [a1] at a2
    cases a2; exact hp
  · intro hp; exact ⟨n, _, _, e, hp⟩
theorem isub_0 {x : Int} : isub 0 x = -x := by rw [isub_eq]; omega
theorem neg63 {x : Int} (hx : x.natAbs ≤ M63) : fw .i64 (isub 0 x) = -x := by
  unfold M63 at hx
  rw [isub_0, fw64 (by omega) (by omega)]
def f104_I (a b : Int) (h0 : H) (s : Int × Int) (fr : Fr) (h1 : H) : Prop := Int.gcd s.1 s.2 = Int.gcd a b ∧ s.1.natAbs ≤ M63 ∧ s.2.natAbs ≤ M63 ∧ h1 = h0 ∧ fr.get (K.ofNat 0) = some (.i .i64 s.1) ∧ fr.get (K.ofNat 1) = some (.i .i64 s.2)
theorem f104_ret (ha : a.natAbs ≤ M63) (hb : b.natAbs ≤ M63) : Ret fs f104 [.i .i64 a, .i .i64 b] h fun r h' => r = .i .i64 (Int.gcd a b : Int) ∧ h' = h := by
  apply ret_of rfl
  show W fs none f104_c _ _ _
  unfold f104_c
  simp (disch := omega) only [f104_r0, bz]
  refine W_loop (f104_I a b h) (fun s => s.2.natAbs) ?_ (a, b) ⟨rfl, ha, hb, rfl, by simp (disch := omega) only [getK_set, Nat.reduceEqDiff, ↓reduceIte, and_self]⟩
  rintro ⟨x, y⟩ fr h1 ⟨hg, hx, hy, rfl, g0, g1⟩
  have hg : Int.gcd x y = Int.gcd a b := hg
  have hx : x.natAbs ≤ M63 := hx
  have hy : y.natAbs ≤ M63 := hy
  have g0 : fr.get (K.ofNat 0) = some (.i .i64 x) := g0
  have g1 : fr.get (K.ofNat 1) = some (.i .i64 y) := g1
  unfold f104_l0
  by_cases h0 : y = 0
  · have d1 : decide (y ≠ 0) = false := decide_eq_false (fun e => e h0)
    have en := neg63 hx
    have em : max x (-x) = ((Int.gcd a b : Nat) : Int) := by
      rw [← hg, h0, Int.gcd_zero_right]; omega
    simp (disch := omega) only [f104_r1, f104_r3, f104_rs, x_neg, x_max, onI_i, max_ii, Option.some.injEq, exists_eq_left', Nat.reduceEqDiff, ↓reduceIte, Bool.false_eq_true, g0, g1, d1, en, em, and_self, bz]
  · have d1 : decide (y ≠ 0) = true := decide_eq_true h0
    have d2 : decide (y = 0) = false := decide_eq_false h0
    simp (disch := omega) only [f104_r1, f104_r2, stay_bin, Nat.reduceEqDiff, ↓reduceIte, g0, g1, d1, bz]
    have hm : (x.tmod y).natAbs < y.natAbs := by rw [Int.natAbs_tmod]; exact Nat.mod_lt _ (by omega)
    exact ⟨(y, x.tmod y), hm, gcd_step.trans hg, hy, by show (x.tmod y).natAbs ≤ M63; omega, rfl, by simp (disch := omega) only [getK_set, Nat.reduceEqDiff, ↓reduceIte, and_self]⟩
theorem f104_eq (k : fs.get (.ofNat 104) = some f104) (ha : a.natAbs ≤ M63) (hb : b.natAbs ≤ M63) {P : V → H → Prop} : CallP fs (.fn (.ofNat 104) []) [.i .i64 a, .i .i64 b] h P = P (.i .i64 (Int.gcd a b : Int)) h := callP_eq2 (callP_0 k rfl (f104_ret ha hb))
theorem mx3_i {k : IntKind} {a b c : Int} : mx3V (.i k a) (.i k b) (.i k c) h = .ok (.i k (max (max a b) c)) h := by
  show RV.ok (.i k (bif ilt (bif ilt a b then b else a) c then c else (bif ilt a b then b else a))) h = _
  rw [ilt_eq, ilt_eq]
  congr 2
  by_cases h1 : a < b
  · rw [decide_eq_true h1]
    by_cases h2 : b < c
    · rw [cond_true, decide_eq_true h2]; show c = _; omega
    · rw [cond_true, decide_eq_false h2]; show b = _; omega
  · rw [decide_eq_false h1]
    by_cases h2 : a < c
    · rw [cond_false, decide_eq_true h2]; show c = _; omega
    · rw [cond_false, decide_eq_false h2]; show a = _; omega
theorem f73_ret (ha : a.natAbs ≤ M63) (hb : b.natAbs ≤ M63) : Ret fs f73 [.i .i64 a, .i .i64 b] h fun r h' => r = .i .i64 (max (Int.gcd a b : Int) 1) ∧ h' = h := by
  apply ret_of rfl
  show W fs none f73_c _ _ _
  unfold f73_c
  simp (disch := omega) only [f73_r0, bz]
  refine W_loop (f104_I a b h) (fun s => s.2.natAbs) ?_ (a, b) ⟨rfl, ha, hb, rfl, by simp (disch := omega) only [getK_set, Nat.reduceEqDiff, ↓reduceIte, and_self]⟩
  rintro ⟨x, y⟩ fr h1 ⟨hg, hx, hy, rfl, g0, g1⟩
  have hg : Int.gcd x y = Int.gcd a b := hg
  have hx : x.natAbs ≤ M63 := hx
  have hy : y.natAbs ≤ M63 := hy
  have g0 : fr.get (K.ofNat 0) = some (.i .i64 x) := g0
  have g1 : fr.get (K.ofNat 1) = some (.i .i64 y) := g1
  unfold f73_l0
  by_cases h0 : y = 0
  · have d1 : decide (y ≠ 0) = false := decide_eq_false (fun e => e h0)
    have en := neg63 hx
    have em : max (max x (-x)) 1 = max ((Int.gcd a b : Nat) : Int) 1 := by
      rw [← hg, h0, Int.gcd_zero_right]; omega
    simp (disch := omega) only [f73_r1, f73_r3, f73_rs, x_neg, onI_i, Option.some.injEq, exists_eq_left', Nat.reduceEqDiff, ↓reduceIte, Bool.false_eq_true, x_mx3, g0, g1, d1, en, mx3_i, em, and_self, bz]
  · have d1 : decide (y ≠ 0) = true := decide_eq_true h0
    have d2 : decide (y = 0) = false := decide_eq_false h0
    simp (disch := omega) only [f73_r1, f73_r2, stay_bin, Nat.reduceEqDiff, ↓reduceIte, g0, g1, d1, bz]
    have hm : (x.tmod y).natAbs < y.natAbs := by rw [Int.natAbs_tmod]; exact Nat.mod_lt _ (by omega)
    exact ⟨(y, x.tmod y), hm, gcd_step.trans hg, hy, by show (x.tmod y).natAbs ≤ M63; omega, rfl, by simp (disch := omega) only [getK_set, Nat.reduceEqDiff, ↓reduceIte, and_self]⟩
theorem f73_eq (k : fs.get (.ofNat 73) = some f73) (ha : a.natAbs ≤ M63) (hb : b.natAbs ≤ M63) (h0 : a ≠ 0 ∨ b ≠ 0) {P : V → H → Prop} : CallP fs (.fn (.ofNat 73) []) [.i .i64 a, .i .i64 b] h P = P (.i .i64 (Int.gcd a b : Int)) h := by
  rw [callP_eq2 (callP_0 k rfl (f73_ret ha hb))]
  have : Int.gcd a b ≠ 0 := fun e => by
    have := Int.gcd_eq_zero_iff.1 e
    omega
  rw [show max ((Int.gcd a b : Nat) : Int) 1 = ((Int.gcd a b : Nat) : Int) by omega]
theorem tdiv63 {a c : Int} (ha : a.natAbs ≤ M63) : fw .i64 (a.tdiv c) = a.tdiv c := by
  have : (a.tdiv c).natAbs ≤ a.natAbs := by rw [Int.natAbs_tdiv]; exact Nat.div_le_self _ _
  unfold M63 at ha
  exact fw64 (by omega) (by omega)
theorem store2 {id : K} {c1 c2 x y : V} (hb : h.get id = .cells 2 [c1, c2]) : storeV h 2 (.p id 0) (.agg [x, y]) = .ok undefV (h.put id (.cells 2 [x, y])) := by
  rw [store_p (m := 2) (cs := [c1, c2]) (xs := [x, y]) hb rfl (by omega)]; rfl
theorem read2 {id : K} {x y : V} (hb : h.get id = .cells 2 [x, y]) : readP h (.p id 0) (many? 2) = some (.agg [x, y]) := by
  show (h.get id).onC none (fun n cs => many? 2 cs n 0) = _
  rw [hb]; rfl
theorem f89_ret (k104 : fs.get (.ofNat 104) = some f104) (ha : a.natAbs ≤ M63) (hb : b.natAbs ≤ M63) (h0 : 0 < b) : Ret fs f89 [.i .i64 a, .i .i64 b] h fun r h' => r = .agg (frL (Rat.divInt a b)) ∧ Grow h.nx.nat h h' := by
  apply ret_of rfl
  show W fs none f89_c _ _ _
  unfold f89_c
  have gA := Grow.new (Nat.le_refl h.nx.nat) (.cells 2 [.i .i64 0, .i .i64 0])
  have a1 : (h.new (.cells 2 [.i .i64 0, .i .i64 0])).get h.nx = .cells 2 [.i .i64 0, .i .i64 0] := get_new_same
  have n1 := nx_new h (.cells 2 [.i .i64 0, .i .i64 0])
  have e1 := fun h P => f104_eq (h := h) (P := P) k104 ha hb
  have hg : Int.gcd a b ≠ 0 := fun e => by have := (Int.gcd_eq_zero_iff.1 e).2; omega
  have hr := fr_div (a := a) (b := b) (by omega)
  rw [if_neg (by omega)] at hr
  have hst := fun x y => store2 (x := x) (y := y) a1
  have d2 : decide ((Int.gcd a b : Int) = 0) = false := decide_eq_false (by omega)
  have q1 := tdiv63 (c := (Int.gcd a b : Int)) ha
  have q2 := tdiv63 (c := (Int.gcd a b : Int)) hb
  have rd := read2 (h := (h.new (.cells 2 [.i .i64 0, .i .i64 0])).put h.nx (.cells 2 [.i .i64 (a.tdiv (Int.gcd a b : Int)), .i .i64 (b.tdiv (Int.gcd a b : Int))])) (id := h.nx) get_put_same
  simp (disch := omega) only [f89_r0, f89_r1, f89_r2, f89_rs, bin_quo, Option.some.injEq, exists_eq_left', Nat.reduceEqDiff, ↓reduceIte, e1, q1, q2, hst, rd, bz]
  exact ⟨by unfold frL; rw [hr.1, hr.2], gA.trans (Grow.put (Nat.le_refl _) (by omega) _)⟩
theorem fw_63 {x : Int} (hx : x.natAbs ≤ M63) : fw .i64 x = x := by
  unfold M63 at hx
  exact fw64 (by omega) (by omega)
theorem cell2_agg {x y : V} : cellsN 2 (.agg [x, y]) = some [x, y] := of_eq_true (eq_self _)
theorem f54_ret (k73 : fs.get (.ofNat 73) = some f73) (ha : a.natAbs ≤ M63) (hb : b.natAbs ≤ M63) (h0 : 0 < b) : Ret fs f54 [.i .i64 a, .i .i64 b] h fun r h' => r = .agg (frL (Rat.divInt a b)) ∧ Grow h.nx.nat h h' := by
  apply ret_of rfl
  show W fs none f54_c _ _ _
  unfold f54_c
  have gA := Grow.new (Nat.le_refl h.nx.nat) (.cells 2 [.i .i64 0, .i .i64 0])
  have a1 : (h.new (.cells 2 [.i .i64 0, .i .i64 0])).get h.nx = .cells 2 [.i .i64 0, .i .i64 0] := get_new_same
  have n1 := nx_new h (.cells 2 [.i .i64 0, .i .i64 0])
  have e1 := fun h P => f73_eq (h := h) (P := P) k73 ha hb (.inr (by omega))
  have hg : Int.gcd a b ≠ 0 := fun e => by have := (Int.gcd_eq_zero_iff.1 e).2; omega
  have hr := fr_div (a := a) (b := b) (by omega)
  rw [if_neg (by omega)] at hr
  have hst := fun x y => store2 (x := x) (y := y) a1
  have d2 : decide ((Int.gcd a b : Int) = 0) = false := decide_eq_false (by omega)
  have q1 := tdiv63 (c := (Int.gcd a b : Int)) ha
  have q2 := tdiv63 (c := (Int.gcd a b : Int)) hb
  have rd := read2 (h := (h.new (.cells 2 [.i .i64 0, .i .i64 0])).put h.nx (.cells 2 [.i .i64 (a.tdiv (Int.gcd a b : Int)), .i .i64 (b.tdiv (Int.gcd a b : Int))])) (id := h.nx) get_put_same
  simp (disch := omega) only [f54_r0, f54_r1, f54_r2, f54_rs, bin_quo, Option.some.injEq, exists_eq_left', Nat.reduceEqDiff, ↓reduceIte, e1, q1, q2, hst, rd, bz]
  exact ⟨by unfold frL; rw [hr.1, hr.2], gA.trans (Grow.put (Nat.le_refl _) (by omega) _)⟩
theorem tdv {x g : Int} (hx : x.natAbs ≤ M63) (hg : g ∣ x) : fw .i64 (x.tdiv g) = x / g := by rw [tdiv63 hx, Int.tdiv_eq_ediv_of_dvd hg]
theorem gN {a b : Int} (h : b ≠ 0) : ((Int.gcd a b : Nat) : Int) ≠ 0 := fun e => h (Int.gcd_eq_zero_iff.1 (Int.natCast_eq_zero.1 e)).2
theorem ed_pos {x g : Int} (hx : 0 < x) (hg : 0 ≤ g) (hd : g ∣ x) : 0 < x / g := by
  obtain ⟨c, rfl⟩ := hd
  have hg0 : g ≠ 0 := fun e => by rw [e, Int.zero_mul] at hx; omega
  rw [Int.mul_ediv_cancel_left _ hg0]
  rcases Int.lt_trichotomy c 0 with h | h | h
  · have := Int.mul_nonpos_of_nonneg_of_nonpos hg (Int.le_of_lt h); omega
  · rw [h, Int.mul_zero] at hx; omega
  · exact h
theorem den_pos {q : Rat} : (0 : Int) < (q.den : Int) := by have := q.den_nz; omega
theorem f75_ret (k54 : fs.get (.ofNat 54) = some f54) (k73 : fs.get (.ofNat 73) = some f73) (hp1 : p.num.natAbs ≤ M63) (hp2 : (p.den : Int).natAbs ≤ M63) (hq1 : q.num.natAbs ≤ M63) (hq2 : (q.den : Int).natAbs ≤ M63) (hb1 : (p.num / (Int.gcd p.num (q.den : Int) : Int) * (q.num / (Int.gcd q.num (p.den : Int) : Int))).natAbs ≤ M63) (hb2 : ((p.den : Int) / (Int.gcd q.num (p.den : Int) : Int) * ((q.den : Int) / (Int.gcd p.num (q.den : Int) : Int))).natAbs ≤ M63) : Ret fs f75 [.agg (frL p), .agg (frL q)] h fun r h' => r = .agg (frL (p * q)) ∧ Grow h.nx.nat h h' := by
  apply ret_of rfl
  show W fs none f75_c _ _ _
  unfold f75_c frL
  have gA := Grow.new (Nat.le_refl h.nx.nat) (.cells 2 [.i .i64 p.num, .i .i64 (p.den : Int)])
  have n1 := nx_new h (.cells 2 [.i .i64 p.num, .i .i64 (p.den : Int)])
  have b1 : (h.new (.cells 2 [.i .i64 p.num, .i .i64 (p.den : Int)])).get h.nx = .cells 2 [.i .i64 p.num, .i .i64 (p.den : Int)] := get_new_same
  simp (disch := omega) only [f75_r0, Nat.reduceEqDiff, ↓reduceIte, bz]
  generalize h.new (.cells 2 [.i .i64 p.num, .i .i64 (p.den : Int)]) = hA at *
  have gB := Grow.new (Nat.le_refl hA.nx.nat) (.cells 2 [.i .i64 q.num, .i .i64 (q.den : Int)])
  have n2 := nx_new hA (.cells 2 [.i .i64 q.num, .i .i64 (q.den : Int)])
  have c1 : (hA.new (.cells 2 [.i .i64 q.num, .i .i64 (q.den : Int)])).get h.nx = .cells 2 [.i .i64 p.num, .i .i64 (p.den : Int)] := (get_new_old (by omega)).trans b1
  have c2 : (hA.new (.cells 2 [.i .i64 q.num, .i .i64 (q.den : Int)])).get hA.nx = .cells 2 [.i .i64 q.num, .i .i64 (q.den : Int)] := get_new_same
  have hB2 : hA.nx.nat < (hA.new (.cells 2 [.i .i64 q.num, .i .i64 (q.den : Int)])).nx.nat := by omega
  have GB := gA.trans (gB.low gA.nx)
  generalize hA.nx = i2 at *
  generalize hA.new (.cells 2 [.i .i64 q.num, .i .i64 (q.den : Int)]) = hB at *
  have gC := Grow.new (Nat.le_refl hB.nx.nat) (.cells 2 [.i .i64 0, .i .i64 0])
  have n3 := nx_new hB (.cells 2 [.i .i64 0, .i .i64 0])
  have d1 : (hB.new (.cells 2 [.i .i64 0, .i .i64 0])).get h.nx = .cells 2 [.i .i64 p.num, .i .i64 (p.den : Int)] := (get_new_old (by omega)).trans c1
  have d2 : (hB.new (.cells 2 [.i .i64 0, .i .i64 0])).get i2 = .cells 2 [.i .i64 q.num, .i .i64 (q.den : Int)] := (get_new_old (by omega)).trans c2
  have d3 : (hB.new (.cells 2 [.i .i64 0, .i .i64 0])).get hB.nx = .cells 2 [.i .i64 0, .i .i64 0] := get_new_same
  have GC := GB.trans (gC.low GB.nx)
  generalize hB.nx = i3 at *
  generalize hB.new (.cells 2 [.i .i64 0, .i .i64 0]) = hC at *
  have l1 : loadV hC (.p h.nx 0) one? = .ok (.i .i64 p.num) hC := load_p d1 rfl
  have l2 : loadV hC (.p h.nx 1) one? = .ok (.i .i64 (p.den : Int)) hC := load_p d1 rfl
  have l3 : loadV hC (.p i2 0) one? = .ok (.i .i64 q.num) hC := load_p d2 rfl
  have l4 : loadV hC (.p i2 1) one? = .ok (.i .i64 (q.den : Int)) hC := load_p d2 rfl
  have hw2 : 0 < (p.den : Int) / (Int.gcd q.num (p.den : Int) : Int) * ((q.den : Int) / (Int.gcd p.num (q.den : Int) : Int)) := Int.mul_pos (ed_pos den_pos (by omega) gR) (ed_pos den_pos (by omega) gR)
  have e1 := fun h P => f73_eq (h := h) (P := P) k73 hp1 hq2 (.inr rat_den)
  have e2 := fun h P => f73_eq (h := h) (P := P) k73 hq1 hp2 (.inr rat_den)
  have z1 : ((Int.gcd p.num (q.den : Int) : Nat) : Int) ≠ 0 := gN rat_den
  have z2 : ((Int.gcd q.num (p.den : Int) : Nat) : Int) ≠ 0 := gN rat_den
  have t1 := tdv hp1 (gL (a := p.num) (b := (q.den : Int)))
  have t2 := tdv hq1 (gL (a := q.num) (b := (p.den : Int)))
  have t3 := tdv hp2 (gR (a := q.num) (b := (p.den : Int)))
  have t4 := tdv hq2 (gR (a := p.num) (b := (q.den : Int)))
  have m1 := fw_63 hb1
  have m2 := fw_63 hb2
  simp (disch := omega) only [f75_r1, f75_r2, bin_quo, Nat.reduceEqDiff, ↓reduceIte, l1, l2, l3, l4, e1, e2, t1, t2, t3, t4, m1, m2, bz]
  refine (callP_0 (ef := f54) k54 rfl (f54_ret k73 hb1 hb2 hw2)).mono ?_
  rintro r h' ⟨rfl, g⟩
  have st := store2 (h := h') (id := i3) (x := .i .i64 (Rat.divInt (p.num / (Int.gcd p.num (q.den : Int) : Int) * (q.num / (Int.gcd q.num (p.den : Int) : Int))) ((p.den : Int) / (Int.gcd q.num (p.den : Int) : Int) * ((q.den : Int) / (Int.gcd p.num (q.den : Int) : Int)))).num) (y := .i .i64 ((Rat.divInt (p.num / (Int.gcd p.num (q.den : Int) : Int) * (q.num / (Int.gcd q.num (p.den : Int) : Int))) ((p.den : Int) / (Int.gcd q.num (p.den : Int) : Int) * ((q.den : Int) / (Int.gcd p.num (q.den : Int) : Int)))).den : Int)) ((g.old _ (by omega)).trans d3)
  have rd := read2 (h := h'.put i3 (.cells 2 [.i .i64 (Rat.divInt (p.num / (Int.gcd p.num (q.den : Int) : Int) * (q.num / (Int.gcd q.num (p.den : Int) : Int))) ((p.den : Int) / (Int.gcd q.num (p.den : Int) : Int) * ((q.den : Int) / (Int.gcd p.num (q.den : Int) : Int)))).num, .i .i64 ((Rat.divInt (p.num / (Int.gcd p.num (q.den : Int) : Int) * (q.num / (Int.gcd q.num (p.den : Int) : Int))) ((p.den : Int) / (Int.gcd q.num (p.den : Int) : Int) * ((q.den : Int) / (Int.gcd p.num (q.den : Int) : Int)))).den : Int)])) (id := i3) get_put_same
  have := g.nx
  unfold frL
  simp (disch := omega) only [f75_rs, Option.some.injEq, exists_eq_left', Nat.reduceEqDiff, ↓reduceIte, st, rd, bz]
  exact ⟨by rw [rat_mul' (gN rat_den) (gN rat_den) gL gR gL gR], (GC.trans (g.low (by omega))).trans (Grow.put (by omega) (by omega) _)⟩
theorem f74_ret (k54 : fs.get (.ofNat 54) = some f54) (k73 : fs.get (.ofNat 73) = some f73) (hp2 : (p.den : Int).natAbs ≤ M63) (hq2 : (q.den : Int).natAbs ≤ M63) (hb1 : (p.num * ((q.den : Int) / (Int.gcd (p.den : Int) (q.den : Int) : Int)) + q.num * ((p.den : Int) / (Int.gcd (p.den : Int) (q.den : Int) : Int))).natAbs ≤ M63) (hb2 : ((p.den : Int) / (Int.gcd (p.den : Int) (q.den : Int) : Int) * (q.den : Int)).natAbs ≤ M63) (hb3 : (p.num * ((q.den : Int) / (Int.gcd (p.den : Int) (q.den : Int) : Int))).natAbs ≤ M63) (hb4 : (q.num * ((p.den : Int) / (Int.gcd (p.den : Int) (q.den : Int) : Int))).natAbs ≤ M63) : Ret fs f74 [.agg (frL p), .agg (frL q)] h fun r h' => r = .agg (frL (p + q)) ∧ Grow h.nx.nat h h' := by
  apply ret_of rfl
  show W fs none f74_c _ _ _
  unfold f74_c frL
  have gA := Grow.new (Nat.le_refl h.nx.nat) (.cells 2 [.i .i64 p.num, .i .i64 (p.den : Int)])
  have n1 := nx_new h (.cells 2 [.i .i64 p.num, .i .i64 (p.den : Int)])
  have b1 : (h.new (.cells 2 [.i .i64 p.num, .i .i64 (p.den : Int)])).get h.nx = .cells 2 [.i .i64 p.num, .i .i64 (p.den : Int)] := get_new_same
  simp (disch := omega) only [f74_r0, Nat.reduceEqDiff, ↓reduceIte, bz]
  generalize h.new (.cells 2 [.i .i64 p.num, .i .i64 (p.den : Int)]) = hA at *
  have gB := Grow.new (Nat.le_refl hA.nx.nat) (.cells 2 [.i .i64 q.num, .i .i64 (q.den : Int)])
  have n2 := nx_new hA (.cells 2 [.i .i64 q.num, .i .i64 (q.den : Int)])
  have c1 : (hA.new (.cells 2 [.i .i64 q.num, .i .i64 (q.den : Int)])).get h.nx = .cells 2 [.i .i64 p.num, .i .i64 (p.den : Int)] := (get_new_old (by omega)).trans b1
  have c2 : (hA.new (.cells 2 [.i .i64 q.num, .i .i64 (q.den : Int)])).get hA.nx = .cells 2 [.i .i64 q.num, .i .i64 (q.den : Int)] := get_new_same
  have hB2 : hA.nx.nat < (hA.new (.cells 2 [.i .i64 q.num, .i .i64 (q.den : Int)])).nx.nat := by omega
  have GB := gA.trans (gB.low gA.nx)
  generalize hA.nx = i2 at *
  generalize hA.new (.cells 2 [.i .i64 q.num, .i .i64 (q.den : Int)]) = hB at *
  have gC := Grow.new (Nat.le_refl hB.nx.nat) (.cells 2 [.i .i64 0, .i .i64 0])
  have n3 := nx_new hB (.cells 2 [.i .i64 0, .i .i64 0])
  have d1 : (hB.new (.cells 2 [.i .i64 0, .i .i64 0])).get h.nx = .cells 2 [.i .i64 p.num, .i .i64 (p.den : Int)] := (get_new_old (by omega)).trans c1
  have d2 : (hB.new (.cells 2 [.i .i64 0, .i .i64 0])).get i2 = .cells 2 [.i .i64 q.num, .i .i64 (q.den : Int)] := (get_new_old (by omega)).trans c2
  have d3 : (hB.new (.cells 2 [.i .i64 0, .i .i64 0])).get hB.nx = .cells 2 [.i .i64 0, .i .i64 0] := get_new_same
  have GC := GB.trans (gC.low GB.nx)
  generalize hB.nx = i3 at *
  generalize hB.new (.cells 2 [.i .i64 0, .i .i64 0]) = hC at *
  have l1 : loadV hC (.p h.nx 0) one? = .ok (.i .i64 p.num) hC := load_p d1 rfl
  have l2 : loadV hC (.p h.nx 1) one? = .ok (.i .i64 (p.den : Int)) hC := load_p d1 rfl
  have l3 : loadV hC (.p i2 0) one? = .ok (.i .i64 q.num) hC := load_p d2 rfl
  have l4 : loadV hC (.p i2 1) one? = .ok (.i .i64 (q.den : Int)) hC := load_p d2 rfl
  have hw2 : 0 < (p.den : Int) / (Int.gcd (p.den : Int) (q.den : Int) : Int) * (q.den : Int) := Int.mul_pos (ed_pos den_pos (by omega) gL) den_pos
  have e1 := fun h P => f73_eq (h := h) (P := P) k73 hp2 hq2 (.inr rat_den)
  have z1 : ((Int.gcd (p.den : Int) (q.den : Int) : Nat) : Int) ≠ 0 := gN rat_den
  have t1 := tdv hp2 (gL (a := (p.den : Int)) (b := (q.den : Int)))
  have t2 := tdv hq2 (gR (a := (p.den : Int)) (b := (q.den : Int)))
  have m1 := fw_63 hb1
  have m2 := fw_63 hb2
  have m3 := fw_63 hb3
  have m4 := fw_63 hb4
  simp (disch := omega) only [f74_r1, f74_r2, bin_quo, Nat.reduceEqDiff, ↓reduceIte, l1, l2, l3, l4, e1, t1, t2, m1, m2, m3, m4, bz]
  refine (callP_0 (ef := f54) k54 rfl (f54_ret k73 hb1 hb2 hw2)).mono ?_
  rintro r h' ⟨rfl, g⟩
  have st := store2 (h := h') (id := i3) (x := .i .i64 (Rat.divInt (p.num * ((q.den : Int) / (Int.gcd (p.den : Int) (q.den : Int) : Int)) + q.num * ((p.den : Int) / (Int.gcd (p.den : Int) (q.den : Int) : Int))) ((p.den : Int) / (Int.gcd (p.den : Int) (q.den : Int) : Int) * (q.den : Int))).num) (y := .i .i64 ((Rat.divInt (p.num * ((q.den : Int) / (Int.gcd (p.den : Int) (q.den : Int) : Int)) + q.num * ((p.den : Int) / (Int.gcd (p.den : Int) (q.den : Int) : Int))) ((p.den : Int) / (Int.gcd (p.den : Int) (q.den : Int) : Int) * (q.den : Int))).den : Int)) ((g.old _ (by omega)).trans d3)
  have rd := read2 (h := h'.put i3 (.cells 2 [.i .i64 (Rat.divInt (p.num * ((q.den : Int) / (Int.gcd (p.den : Int) (q.den : Int) : Int)) + q.num * ((p.den : Int) / (Int.gcd (p.den : Int) (q.den : Int) : Int))) ((p.den : Int) / (Int.gcd (p.den : Int) (q.den : Int) : Int) * (q.den : Int))).num, .i .i64 ((Rat.divInt (p.num * ((q.den : Int) / (Int.gcd (p.den : Int) (q.den : Int) : Int)) + q.num * ((p.den : Int) / (Int.gcd (p.den : Int) (q.den : Int) : Int))) ((p.den : Int) / (Int.gcd (p.den : Int) (q.den : Int) : Int) * (q.den : Int))).den : Int)])) (id := i3) get_put_same
  have := g.nx
  unfold frL
  simp (disch := omega) only [f74_rs, Option.some.injEq, exists_eq_left', Nat.reduceEqDiff, ↓reduceIte, st, rd, bz]
  exact ⟨by rw [rat_add' (gN rat_den) gL gR], (GC.trans (g.low (by omega))).trans (Grow.put (by omega) (by omega) _)⟩
end
end Go.Ev
namespace Go.Ev
open Go Go.RowKit
noncomputable def f32_r0 : List EOper := [oG 2 (.as (.c (.b false)))]
noncomputable def f32_r1 : List EOper := [oG 3 (.as (cG 0))]
noncomputable def f32_r2 : List EOper := [oG 4 (.mv (tG 3)), oG 5 (.mv (tG 0)), oG 6 (.len (tG 5)), oG 7 (.bin .lss (tG 4) (tG 6))]
noncomputable def f32_r3 : List EOper := [oG 10 (.mv (tG 0)), oG 11 (.mv (tG 3)), oG 12 (.iads 1 (tG 10) (tG 11)), oG 13 (.ld (tG 12)), oG 14 (.bin .lss (tG 13) (.c (.i .i64 (.negSucc 99)))), oG 15 (.mv (tG 14)), gG 16 15 false (.mv (tG 0)), gG 17 15 false (.mv (tG 3)), gG 18 15 false (.iads 1 (tG 16) (tG 17)), gG 19 15 false (.ld (tG 18)), gG 20 15 false (.bin .gtr (tG 19) (cG 100)), oG 21 (.pick (tG 15) (.c (.b true)) (tG 20))]
noncomputable def f32_r4 : List EOper := [oG 2 (.as (.c (.b false)))]
noncomputable def f32_r5 : List EOper := [oG 8 (.mv (tG 3)), oG 9 (.bin .add (tG 8) (cG 1)), oG 3 (.as (tG 9))]
noncomputable def f32_l0 : EC := (.seq (.seq (.reg f32_r2) (.cond (tG 7) .skip (.exit 0))) (.seq (.block 1 (.seq (.reg f32_r3) (.cond (tG 21) (.seq (.reg f32_r4) .ret) .skip))) (.reg f32_r5)))
noncomputable def f32_r6 : List EOper := [oG 2 (.as (.c (.b true)))]
noncomputable def f32_c : EC := (.seq (.reg f32_r0) (.seq (.seq (.reg f32_r1) (.block 0 (.loop f32_l0))) (.seq (.reg f32_r6) .ret)))
noncomputable def f32 : EF := ⟨22, [.tmp (.ofNat 2)], f32_c, none⟩
noncomputable def f87_r0 : List EOper := [oG 2 (.as (cG 0))]
noncomputable def f87_r1 : List EOper := [oG 5 (.mv (tG 0)), oG 6 (.len (tG 5)), oG 7 (.bin .lss (tG 6) (cG 1))]
noncomputable def f87_r2 : List EOper := [⟨none, none, .no⟩, ⟨none, none, .no⟩]
noncomputable def f87_r3 : List EOper := [oG 9 (.mv (tG 0)), oG 10 (.iads 1 (tG 9) (cG 0)), oG 11 (.ld (tG 10)), oG 3 (.as (tG 11))]
noncomputable def f87_r4 : List EOper := [oG 4 (.as (cG 1))]
noncomputable def f87_r5 : List EOper := [oG 12 (.mv (tG 4)), oG 13 (.mv (tG 0)), oG 14 (.len (tG 13)), oG 15 (.bin .lss (tG 12) (tG 14))]
noncomputable def f87_r6 : List EOper := [oG 18 (.mv (tG 3)), oG 19 (.mv (tG 0)), oG 20 (.mv (tG 4)), oG 21 (.iads 1 (tG 19) (tG 20)), oG 22 (.ld (tG 21)), oG 23 (.min (tG 18) (tG 22)), oG 3 (.as (tG 23))]
noncomputable def f87_r7 : List EOper := [oG 16 (.mv (tG 4)), oG 17 (.bin .add (tG 16) (cG 1)), oG 4 (.as (tG 17))]
noncomputable def f87_l0 : EC := (.seq (.seq (.reg f87_r5) (.cond (tG 15) .skip (.exit 0))) (.seq (.block 1 (.reg f87_r6)) (.reg f87_r7)))
noncomputable def f87_r8 : List EOper := [oG 24 (.mv (tG 3)), oG 2 (.as (tG 24))]
noncomputable def f87_c : EC := (.seq (.reg f87_r0) (.seq (.seq (.reg f87_r1) (.cond (tG 7) (.reg f87_r2) .skip)) (.seq (.reg f87_r3) (.seq (.seq (.reg f87_r4) (.block 0 (.loop f87_l0))) (.seq (.reg f87_r8) .ret)))))
noncomputable def f87 : EF := ⟨25, [.tmp (.ofNat 2)], f87_c, none⟩
noncomputable def f88_r0 : List EOper := [oG 2 (.as (cG 0))]
noncomputable def f88_r1 : List EOper := [oG 5 (.mv (tG 0)), oG 6 (.len (tG 5)), oG 7 (.bin .lss (tG 6) (cG 1))]
noncomputable def f88_r2 : List EOper := [⟨none, none, .no⟩, ⟨none, none, .no⟩]
noncomputable def f88_r3 : List EOper := [oG 9 (.mv (tG 0)), oG 10 (.iads 1 (tG 9) (cG 0)), oG 11 (.ld (tG 10)), oG 3 (.as (tG 11))]
noncomputable def f88_r4 : List EOper := [oG 4 (.as (cG 1))]
noncomputable def f88_r5 : List EOper := [oG 12 (.mv (tG 4)), oG 13 (.mv (tG 0)), oG 14 (.len (tG 13)), oG 15 (.bin .lss (tG 12) (tG 14))]
noncomputable def f88_r6 : List EOper := [oG 18 (.mv (tG 3)), oG 19 (.mv (tG 0)), oG 20 (.mv (tG 4)), oG 21 (.iads 1 (tG 19) (tG 20)), oG 22 (.ld (tG 21)), oG 23 (.max (tG 18) (tG 22)), oG 3 (.as (tG 23))]
noncomputable def f88_r7 : List EOper := [oG 16 (.mv (tG 4)), oG 17 (.bin .add (tG 16) (cG 1)), oG 4 (.as (tG 17))]
noncomputable def f88_l0 : EC := (.seq (.seq (.reg f88_r5) (.cond (tG 15) .skip (.exit 0))) (.seq (.block 1 (.reg f88_r6)) (.reg f88_r7)))
noncomputable def f88_r8 : List EOper := [oG 24 (.mv (tG 3)), oG 2 (.as (tG 24))]
noncomputable def f88_c : EC := (.seq (.reg f88_r0) (.seq (.seq (.reg f88_r1) (.cond (tG 7) (.reg f88_r2) .skip)) (.seq (.reg f88_r3) (.seq (.seq (.reg f88_r4) (.block 0 (.loop f88_l0))) (.seq (.reg f88_r8) .ret)))))
noncomputable def f88 : EF := ⟨25, [.tmp (.ofNat 2)], f88_c, none⟩
noncomputable def f56_r0 : List EOper := [oG 2 (.as (.c (.b false)))]
noncomputable def f56_r1 : List EOper := [oG 3 (.mv (tG 0)), oG 4 (.len (tG 3)), oG 5 (.bin .lss (tG 4) (cG 1)), oG 6 (.mv (tG 5)), gG 7 6 false (.mv (tG 0)), gG 8 6 false (.len (tG 7)), gG 9 6 false (.bin .gtr (tG 8) (cG 7)), oG 10 (.pick (tG 6) (.c (.b true)) (tG 9))]
noncomputable def f56_r2 : List EOper := [oG 2 (.as (.c (.b false)))]
noncomputable def f56_r3 : List EOper := [oG 11 (.mv (tG 0)), oG 12 (.call (fG 87) [(tG 11)]), oG 13 (.bin .geq (tG 12) (.c (.i .i64 (.negSucc 99)))), oG 14 (.mv (tG 13)), gG 15 14 true (.mv (tG 0)), gG 16 14 true (.call (fG 88) [(tG 15)]), gG 17 14 true (.bin .leq (tG 16) (cG 100)), oG 18 (.pick (tG 14) (tG 17) (.c (.b false))), oG 2 (.as (tG 18))]
noncomputable def f56_c : EC := (.seq (.reg f56_r0) (.seq (.seq (.reg f56_r1) (.cond (tG 10) (.seq (.reg f56_r2) .ret) .skip)) (.seq (.reg f56_r3) .ret)))
noncomputable def f56 : EF := ⟨19, [.tmp (.ofNat 2)], f56_c, none⟩
noncomputable def f14_r0 : List EOper := [oG 2 (.as (cG 0))]
noncomputable def f14_r1 : List EOper := [oG 3 (.mv (tG 0)), oG 4 (.call (fG 56) [(tG 3)]), oG 5 (.not (tG 4))]
noncomputable def f14_r2 : List EOper := [oG 2 (.as (cG 80))]
noncomputable def f14_r3 : List EOper := [oG 2 (.as (cG 0))]
noncomputable def f14_c : EC := (.seq (.reg f14_r0) (.seq (.seq (.reg f14_r1) (.cond (tG 5) (.seq (.reg f14_r2) .ret) .skip)) (.seq (.reg f14_r3) .ret)))
noncomputable def f14 : EF := ⟨6, [.tmp (.ofNat 2)], f14_c, none⟩
noncomputable def f12_r0 : List EOper := [oG 4 (.as (.c .sn))]
noncomputable def f12_r1 : List EOper := [oG 5 (.as (.c .sn))]
noncomputable def f12_r2 : List EOper := [oG 6 (.mv (tG 5)), oG 7 (.mv (tG 0)), oG 8 (.mv (tG 0)), oG 9 (.len (tG 8)), oG 10 (.mv (tG 1)), oG 11 (.min (tG 9) (tG 10)), oG 12 (.slice 1 (tG 7) none (some (tG 11)) none), oG 13 (.app 1 (tG 6) (tG 12)), oG 4 (.as (tG 13))]
noncomputable def f12_c : EC := (.seq (.reg f12_r0) (.seq (.reg f12_r1) (.seq (.reg f12_r2) .ret)))
noncomputable def f12 : EF := ⟨14, [.tmp (.ofNat 4)], f12_c, none⟩
noncomputable def f33_r0 : List EOper := [oG 4 (.as (.c (.b false)))]
noncomputable def f33_r1 : List EOper := [oG 6 (.mv (tG 0)), oG 7 (.len (tG 6)), oG 8 (.mv (tG 1)), oG 9 (.len (tG 8)), oG 10 (.bin .neq (tG 7) (tG 9))]
noncomputable def f33_r2 : List EOper := [oG 4 (.as (.c (.b false)))]
noncomputable def f33_r3 : List EOper := [oG 5 (.as (cG 0))]
noncomputable def f33_r4 : List EOper := [oG 11 (.mv (tG 5)), oG 12 (.mv (tG 0)), oG 13 (.len (tG 12)), oG 14 (.bin .lss (tG 11) (tG 13))]
noncomputable def f33_r5 : List Stage := [⟨[oG 17 (.mv (tG 0)), oG 18 (.mv (tG 5)), oG 19 (.iads 1 (tG 17) (tG 18)), oG 20 (.ld (tG 19)), oG 21 (.mv (tG 1)), oG 22 (.mv (tG 5)), oG 23 (.iads 1 (tG 21) (tG 22)), oG 24 (.ld (tG 23)), oG 25 (.bin .neq (tG 20) (tG 24))], [], none, []⟩]
noncomputable def f33_r6 : List EOper := [oG 4 (.as (.c (.b false)))]
noncomputable def f33_r7 : List EOper := [oG 15 (.mv (tG 5)), oG 16 (.bin .add (tG 15) (cG 1)), oG 5 (.as (tG 16))]
noncomputable def f33_l0 : EC := (.seq (.seq (.reg f33_r4) (.cond (tG 14) .skip (.exit 0))) (.seq (.block 1 (.seq (.draw f33_r5) (.cond (tG 25) (.seq (.reg f33_r6) .ret) .skip))) (.reg f33_r7)))
noncomputable def f33_r8 : List EOper := [oG 4 (.as (.c (.b true)))]
noncomputable def f33_c : EC := (.seq (.reg f33_r0) (.seq (.seq (.reg f33_r1) (.cond (tG 10) (.seq (.reg f33_r2) .ret) .skip)) (.seq (.seq (.reg f33_r3) (.block 0 (.loop f33_l0))) (.seq (.reg f33_r8) .ret))))
noncomputable def f33 : EF := ⟨26, [.tmp (.ofNat 4)], f33_c, none⟩
noncomputable def f26_r0 : List EOper := [oG 2 (.as (.c .sn))]
noncomputable def f26_r1 : List EOper := [oG 5 (.bslice 0 1 [] []), oG 3 (.as (tG 5))]
noncomputable def f26_r2 : List EOper := [oG 4 (.as (cG 0))]
noncomputable def f26_r3 : List EOper := [oG 6 (.mv (tG 4)), oG 7 (.mv (tG 0)), oG 8 (.len (tG 7)), oG 9 (.bin .lss (tG 6) (tG 8)), oG 10 (.mv (tG 9)), gG 11 10 true (.mv (tG 4)), gG 12 10 true (.bin .lss (tG 11) (cG 7)), oG 13 (.pick (tG 10) (tG 12) (.c (.b false)))]
noncomputable def f26_r4 : List EOper := [oG 16 (.mv (tG 3)), oG 17 (.mv (tG 0)), oG 18 (.mv (tG 4)), oG 19 (.iads 1 (tG 17) (tG 18)), oG 20 (.ld (tG 19)), oG 21 (.conv .u64 (tG 20)), oG 22 (.bin .rem (tG 21) (.c (.i .u64 (.ofNat 201)))), oG 23 (.conv .i64 (tG 22)), oG 24 (.bin .sub (tG 23) (cG 100)), oG 25 (.bslice 1 1 [(.i .i64 (.ofNat 0))] [(0, 1, (tG 24))]), oG 26 (.app 1 (tG 16) (tG 25)), oG 3 (.as (tG 26))]
noncomputable def f26_r5 : List EOper := [oG 14 (.mv (tG 4)), oG 15 (.bin .add (tG 14) (cG 1)), oG 4 (.as (tG 15))]
noncomputable def f26_l0 : EC := (.seq (.seq (.reg f26_r3) (.cond (tG 13) .skip (.exit 0))) (.seq (.block 1 (.reg f26_r4)) (.reg f26_r5)))
noncomputable def f26_r6 : List EOper := [oG 27 (.mv (tG 3)), oG 28 (.len (tG 27)), oG 29 (.bin .eql (tG 28) (cG 0))]
noncomputable def f26_r7 : List EOper := [oG 30 (.mv (tG 3)), oG 31 (.bslice 1 1 [(.i .i64 (.ofNat 0))] [(0, 1, (cG 1))]), oG 32 (.app 1 (tG 30) (tG 31)), oG 3 (.as (tG 32))]
noncomputable def f26_r8 : List EOper := [oG 33 (.mv (tG 3)), oG 2 (.as (tG 33))]
noncomputable def f26_c : EC := (.seq (.reg f26_r0) (.seq (.reg f26_r1) (.seq (.seq (.reg f26_r2) (.block 0 (.loop f26_l0))) (.seq (.seq (.reg f26_r6) (.cond (tG 29) (.reg f26_r7) .skip)) (.seq (.reg f26_r8) .ret)))))
noncomputable def f26 : EF := ⟨34, [.tmp (.ofNat 2)], f26_c, none⟩
section
variable {fs : T EF} {h : H} {v : V} {L : List Int}
structure CSm (fs : T EF) : Prop where
  c87 : fs.get (K.ofNat 87) = some f87
  c88 : fs.get (K.ofNat 88) = some f88
  c56 : fs.get (K.ofNat 56) = some f56
  c14 : fs.get (K.ofNat 14) = some f14
theorem u64_bd (x : Int) : 0 ≤ fw .u64 x ∧ fw .u64 x ≤ 18446744073709551615 := by
  rw [fw_eq]
  simp [IntKind.wrap, IntKind.bits, IntKind.signed]
  omega
end
end Go.Ev
namespace Go.Ev
open Go Go.RowKit
section
variable {fs : T EF} {h h1 h2 h3 : H} {idB : K}
end
section
variable {fs : T EF} {fr fr1 fr2 : Fr} {h h1 h2 : H} {id : K} {v v' : V} {ps : List K} {a c : EC} {e : Ex}
end
structure Ks (S : K → Prop) (h h1 : H) : Prop where
  nx : h.nx.nat ≤ h1.nx.nat
  old : ∀ id : K, id.nat < h.nx.nat → ¬ S id → h1.get id = h.get id
  hc : HC h1
structure Kr (S : K → Prop) (lp : K) (h3 h4 : H) : Prop where
  nx : h3.nx.nat ≤ h4.nx.nat
  old : ∀ id : K, id.nat ≤ lp.nat → ¬ S id → h4.get id = h3.get id
  hc : HC h4
section
variable {fs : T EF} {h h1 h2 h3 h4 : H} {S : K → Prop} {lp : K}
theorem Ks.refl (hc : HC h) : Ks S h h := ⟨Nat.le_refl _, fun _ _ _ => rfl, hc⟩
theorem Ks.grow (k : Ks S h h1) {b : Nat} (g : Grow b h1 h2) (hb : h.nx.nat ≤ b) : Ks S h h2 := ⟨Nat.le_trans k.nx g.nx, fun id hi hn => (g.old id (by omega)).trans (k.old id hi hn), g.hc k.hc⟩
theorem Ks.of (hc : HC h) {b : Nat} (g : Grow b h h2) (hb : h.nx.nat ≤ b) : Ks S h h2 := (Ks.refl hc).grow g hb
theorem Ks.toGrow (k : Ks S h h1) {b : Nat} (hb : ∀ id, S id → b ≤ id.nat) (hb2 : b ≤ h.nx.nat) : Grow b h h1 := ⟨k.nx, fun id hi => k.old id (by omega) (fun e => by have := hb _ e; omega), fun _ => k.hc⟩
theorem Kr.grow (k : Kr S lp h h1) {b : Nat} (g : Grow b h1 h2) (hb : lp.nat < b) : Kr S lp h h2 := ⟨Nat.le_trans k.nx g.nx, fun id hi hn => (g.old id (by omega)).trans (k.old id hi hn), g.hc k.hc⟩
theorem Kr.put (k : Kr S lp h h1) {id' : K} (hi : id'.nat < h1.nx.nat) (hl : S id' ∨ lp.nat < id'.nat) (x : Blk) : Kr S lp h (h1.put id' x) :=
  ⟨k.nx, fun id h2 hn => by rw [get_put_other (fun e => by rcases hl with hl | hl; exact hn (e ▸ hl); rw [e] at h2; omega)]; exact k.old id h2 hn, (Grow.put (b := 0) (Nat.zero_le _) hi x).hc k.hc⟩
theorem Kr.trans (k : Kr S lp h h1) (l : Kr S lp h1 h2) : Kr S lp h h2 := ⟨Nat.le_trans k.nx l.nx, fun id hi hn => (l.old id hi hn).trans (k.old id hi hn), l.hc⟩
section
variable {P : H → Prop} {D : Ex → H → Prop} {fr : Fr} {c : EC} {i : Nat}
end
end
end Go.Ev
namespace Go.Ev
open Go Go.RowKit
section
variable {L : List Int} {o u : Nat}
theorem pow_le7 (hu : u ≤ 64) {j : Nat} (hj : j ≤ 7) : u ^ j ≤ 4398046511104 := by
  have a : u ^ j ≤ 64 ^ j := Nat.pow_le_pow_left hu j
  have b : 64 ^ j ≤ 64 ^ 7 := Nat.pow_le_pow_right (by decide) hj
  have c : (64 : Nat) ^ 7 = 4398046511104 := by decide
  omega
end
def ptB (a b m : Int) : Bool := decide (b ≥ 1) && (decide (b ≤ m) && (decide (a ≥ 0) && (decide (a ≤ b) && decide ((Int.gcd a b : Int) = 1))))
theorem ptB_iff {a b m : Int} : ptB a b m = true ↔ 1 ≤ b ∧ b ≤ m ∧ 0 ≤ a ∧ a ≤ b ∧ Int.gcd a b = 1 := by
  unfold ptB
  simp only [Bool.and_eq_true, decide_eq_true_eq]
  omega
theorem low_iff {a b : Int} (hb : 0 < b) : (a = (Rat.divInt a b).num ∧ b = ((Rat.divInt a b).den : Int)) ↔ Int.gcd a b = 1 := by
  obtain ⟨h1, h2⟩ := fr_div (a := a) (b := b) (by omega)
  rw [if_neg (by omega)] at h1 h2
  constructor
  · rintro ⟨_, e2⟩
    rw [h2, Int.tdiv_eq_ediv_of_dvd gR] at e2
    have hg : Int.gcd a b ≠ 0 := fun e => by have := (Int.gcd_eq_zero_iff.1 e).2; omega
    have h3 : b / ((Int.gcd a b : Nat) : Int) * ((Int.gcd a b : Nat) : Int) = b := Int.ediv_mul_cancel gR
    rw [← e2] at h3
    have : b * (((Int.gcd a b : Nat) : Int)) = b * 1 := by omega
    have := Int.eq_of_mul_eq_mul_left (by omega) this
    omega
  · intro e
    rw [e] at h1 h2
    rw [h1, h2]
    simp
end Go.Ev
namespace Go.Ev
open Go Go.RowKit
noncomputable def f94_r0 : List EOper := [oG 1 (.box 1 (tG 0)), oG 2 (.as (.c .fnil))]
noncomputable def f94_r1 : List EOper := [oG 3 (.mkfn (.ofNat 108) [(tG 1)]), oG 2 (.as (tG 3))]
noncomputable def f94_c : EC := (.seq (.reg f94_r0) (.seq (.reg f94_r1) .ret))
noncomputable def f94 : EF := ⟨4, [.tmp (.ofNat 2)], f94_c, none⟩
noncomputable def f108_r0 : List EOper := [oG 4 (.ld (tG 1)), oG 5 (.len (tG 4)), oG 6 (.bin .sub (tG 5) (cG 1)), oG 3 (.as (tG 6))]
noncomputable def f108_r1 : List EOper := [oG 7 (.mv (tG 3)), oG 8 (.bin .geq (tG 7) (cG 0))]
noncomputable def f108_r2 : List EOper := [oG 11 (.mv (tG 0)), oG 12 (.mv (tG 3)), oG 13 (.ld (tG 1)), oG 14 (.mv (tG 3)), oG 15 (.iads 1 (tG 13) (tG 14)), oG 16 (.ld (tG 15)), oG 17 (.call (tG 11) [(tG 12), (tG 16)]), oG 18 (.not (tG 17))]
noncomputable def f108_r3 : List EOper := [oG 9 (.mv (tG 3)), oG 10 (.bin .sub (tG 9) (cG 1)), oG 3 (.as (tG 10))]
noncomputable def f108_l0 : EC := (.seq (.seq (.reg f108_r1) (.cond (tG 8) .skip (.exit 0))) (.seq (.block 1 (.seq (.reg f108_r2) (.cond (tG 18) .ret .skip))) (.reg f108_r3)))
noncomputable def f108_c : EC := (.seq (.reg f108_r0) (.block 0 (.loop f108_l0)))
noncomputable def f108 : EF := ⟨19, [], f108_c, none⟩
noncomputable def f95_r0 : List EOper := [oG 2 (.as (cG 0))]
noncomputable def f95_r1 : List EOper := [oG 3 (.as (cG 0))]
noncomputable def f95_r2 : List EOper := [oG 6 (.mv (tG 0)), oG 7 (.len (tG 6)), oG 8 (.mv (cG 0))]
noncomputable def f95_r3 : List EOper := [oG 9 (.bin .lss (tG 8) (tG 7))]
noncomputable def f95_r4 : List EOper := [oG 10 (.iads 1 (tG 6) (tG 8)), oG 11 (.ld (tG 10)), oG 5 (.as (tG 11))]
noncomputable def f95_r5 : List EOper := [oG 12 (.mv (tG 3)), oG 13 (.mv (tG 5)), oG 14 (.bin .add (tG 12) (tG 13)), oG 3 (.as (tG 14))]
noncomputable def f95_r6 : List EOper := [oG 15 (.bin .add (tG 8) (cG 1)), oG 8 (.mv (tG 15))]
noncomputable def f95_l0 : EC := (.seq (.reg f95_r3) (.seq (.cond (tG 9) .skip (.exit 0)) (.seq (.block 1 (.seq (.reg f95_r4) (.reg f95_r5))) (.reg f95_r6))))
noncomputable def f95_r7 : List EOper := [oG 16 (.mv (tG 3)), oG 2 (.as (tG 16))]
noncomputable def f95_c : EC := (.seq (.reg f95_r0) (.seq (.reg f95_r1) (.seq (.seq (.reg f95_r2) (.block 0 (.loop f95_l0))) (.seq (.reg f95_r7) .ret))))
noncomputable def f95 : EF := ⟨17, [.tmp (.ofNat 2)], f95_c, none⟩
theorem f95_rs : f95.rs = [.tmp (.ofNat 2)] := of_eq_true (eq_self _)
noncomputable def f62_r0 : List EOper := [oG 1 (.box 2 (tG 0)), oG 2 (.alloc 2 [(.i .i64 (.ofNat 0)), (.i .i64 (.ofNat 0))])]
noncomputable def f62_r1 : List EOper := [oG 3 (.fadr 0 (tG 1)), oG 4 (.ld (tG 3)), oG 5 (.fadr 1 (tG 1)), oG 6 (.ld (tG 5)), oG 7 (.build [(.i .i64 (.ofNat 0)), (.i .i64 (.ofNat 0))] [(0, 1, (tG 4)), (1, 1, (tG 6))]), ⟨none, none, .st 2 (tG 2) (tG 7)⟩]
noncomputable def f62_c : EC := (.seq (.reg f62_r0) (.seq (.reg f62_r1) .ret))
noncomputable def f62 : EF := ⟨8, [.celln (.ofNat 2) 2], f62_c, none⟩
theorem f62_rs : f62.rs = [.celln (.ofNat 2) 2] := of_eq_true (eq_self _)
section
variable {fs : T EF} {h : H} {v w : V} {L : List Int} {a b m : Int}
def sumF (L : List Int) : Int := L.foldl (fun s x => fw .i64 (s + x)) 0
def f95_I (h0 : H) (v : V) (L : List Int) (j : Nat) (fr : Fr) (h1 : H) : Prop := j ≤ L.length ∧ h1 = h0 ∧ fr.get (K.ofNat 3) = some (.i .i64 (sumF (L.take j))) ∧ fr.get (K.ofNat 6) = some (v) ∧ fr.get (K.ofNat 7) = some (.i .i64 (L.length : Int)) ∧ fr.get (K.ofNat 8) = some (.i .i64 (j : Int))
theorem f95_ret (hv : Sr iE h v L) (hL : L.length ≤ 1000000) : Ret fs f95 [v] h fun r h' => r = .i .i64 (sumF L) ∧ h' = h := by
  apply ret_of rfl
  show W fs none f95_c _ _ _
  unfold f95_c
  have e1 := hv.len
  simp (disch := omega) only [f95_r0, f95_r1, f95_r2, Nat.reduceEqDiff, ↓reduceIte, e1, bz]
  refine W_loop (f95_I h v L) (fun j => L.length - j) ?_ 0 ⟨by omega, rfl, by simp (disch := omega) only [getK_set, Nat.reduceEqDiff, ↓reduceIte, and_self, Int.natCast_zero, List.take_zero, sumF, List.foldl]⟩
  rintro j fr h1 ⟨hj, rfl, g3, g6, g7, g8⟩
  unfold f95_l0
  by_cases hlt : j < L.length
  · have d1 : decide ((j : Int) < (L.length : Int)) = true := decide_eq_true (by omega)
    have e4 : fw .i64 ((j : Int) + 1) = ((j + 1 : Nat) : Int) := by rw [fw64 (by omega) (by omega)]; rfl
    obtain ⟨p, p1, p2⟩ := hv.at j hlt
    have p2 : loadV h1 p one? = .ok (.i .i64 L[j]) h1 := p2
    have hs : sumF (L.take (j + 1)) = fw .i64 (sumF (L.take j) + L[j]) := by
      unfold sumF; rw [List.take_succ_eq_append_getElem hlt, List.foldl_append]; rfl
    simp (disch := omega) only [f95_r3, f95_r4, f95_r5, f95_r6, Nat.reduceEqDiff, ↓reduceIte, g3, g6, g7, g8, d1, p1, p2, e4, bz]
    exact ⟨j + 1, by omega, by omega, rfl, by simp (disch := omega) only [getK_set, Nat.reduceEqDiff, ↓reduceIte, g6, g7, and_self, hs]⟩
  · have d1 : decide ((j : Int) < (L.length : Int)) = false := decide_eq_false (by omega)
    rw [List.take_of_length_le (by omega)] at g3
    simp (disch := omega) only [f95_r3, f95_r7, f95_rs, Option.some.injEq, exists_eq_left', Nat.reduceEqDiff, ↓reduceIte, Bool.false_eq_true, g3, g7, g8, d1, and_self, bz]
theorem f95_eq (k : fs.get (.ofNat 95) = some f95) (hv : Sr iE h v L) (hL : L.length ≤ 1000000) {P : V → H → Prop} : CallP fs (.fn (.ofNat 95) []) [v] h P = P (.i .i64 (sumF L)) h := callP_eq2 (callP_0 k rfl (f95_ret hv hL))
theorem f62_ret : Ret fs f62 [.agg [.i .i64 a, .i .i64 b]] h fun r h' => r = .agg [.i .i64 a, .i .i64 b] ∧ Grow h.nx.nat h h' := by
  apply ret_of rfl
  show W fs none f62_c _ _ _
  unfold f62_c
  have gA := Grow.new (Nat.le_refl h.nx.nat) (.cells 2 [.i .i64 a, .i .i64 b])
  have n1 := nx_new h (.cells 2 [.i .i64 a, .i .i64 b])
  have b1 : (h.new (.cells 2 [.i .i64 a, .i .i64 b])).get h.nx = .cells 2 [.i .i64 a, .i .i64 b] := get_new_same
  simp (disch := omega) only [f62_r0, ↓reduceIte, bz]
  generalize h.new (.cells 2 [.i .i64 a, .i .i64 b]) = hA at *
  have gB := Grow.new (Nat.le_refl hA.nx.nat) (.cells 2 [.i .i64 0, .i .i64 0])
  have n2 := nx_new hA (.cells 2 [.i .i64 0, .i .i64 0])
  have c1 : (hA.new (.cells 2 [.i .i64 0, .i .i64 0])).get h.nx = .cells 2 [.i .i64 a, .i .i64 b] := (get_new_old (by omega)).trans b1
  have c2 : (hA.new (.cells 2 [.i .i64 0, .i .i64 0])).get hA.nx = .cells 2 [.i .i64 0, .i .i64 0] := get_new_same
  have GB := gA.trans (gB.low gA.nx)
  generalize hA.nx = i2 at *
  generalize hA.new (.cells 2 [.i .i64 0, .i .i64 0]) = hB at *
  have l1 : loadV hB (.p h.nx 0) one? = .ok (.i .i64 a) hB := load_p c1 rfl
  have l2 : loadV hB (.p h.nx 1) one? = .ok (.i .i64 b) hB := load_p c1 rfl
  have st := store2 (x := .i .i64 a) (y := .i .i64 b) c2
  have rd := read2 (h := hB.put i2 (.cells 2 [.i .i64 a, .i .i64 b])) (id := i2) get_put_same
  simp (disch := omega) only [f62_r1, f62_rs, Option.some.injEq, exists_eq_left', Nat.reduceEqDiff, ↓reduceIte, l1, l2, st, rd, bz]
  exact GB.trans (Grow.put (by omega) (by omega) _)
end
end Go.Ev
namespace Go.Ev
open Go Go.RowKit
noncomputable def f60_r0 : List EOper := [oG 2 (.box 2 (tG 0)), oG 4 (.alloc 2 [(.i .i64 (.ofNat 0)), (.i .i64 (.ofNat 0))]), oG 5 (.as (.c (.b false)))]
noncomputable def f60_r1 : List EOper := [oG 7 (.iadr 2 1 (tG 2) (cG 0)), oG 8 (.ld (tG 7)), oG 9 (.iadr 2 1 (tG 2) (cG 1)), oG 10 (.ld (tG 9)), oG 11 (.build [(.i .i64 (.ofNat 0)), (.i .i64 (.ofNat 0))] [(0, 1, (tG 8)), (1, 1, (tG 10))]), oG 6 (.alloc 2 [(.i .i64 (.ofNat 0)), (.i .i64 (.ofNat 0))]), ⟨none, none, .st 2 (tG 6) (tG 11)⟩]
noncomputable def f60_r2 : List EOper := [oG 12 (.fadr 1 (tG 6)), oG 13 (.ld (tG 12)), oG 14 (.bin .lss (tG 13) (cG 1)), oG 15 (.mv (tG 14)), gG 16 15 false (.fadr 1 (tG 6)), gG 17 15 false (.ld (tG 16)), gG 18 15 false (.mv (tG 1)), gG 19 15 false (.bin .gtr (tG 17) (tG 18)), oG 20 (.pick (tG 15) (.c (.b true)) (tG 19)), oG 21 (.mv (tG 20)), gG 22 21 false (.fadr 0 (tG 6)), gG 23 21 false (.ld (tG 22)), gG 24 21 false (.bin .lss (tG 23) (cG 0)), oG 25 (.pick (tG 21) (.c (.b true)) (tG 24)), oG 26 (.mv (tG 25)), gG 27 26 false (.fadr 0 (tG 6)), gG 28 26 false (.ld (tG 27)), gG 29 26 false (.fadr 1 (tG 6)), gG 30 26 false (.ld (tG 29)), gG 31 26 false (.bin .gtr (tG 28) (tG 30)), oG 32 (.pick (tG 26) (.c (.b true)) (tG 31))]
noncomputable def f60_r3 : List EOper := [oG 33 (.build [(.i .i64 (.ofNat 0)), (.i .i64 (.ofNat 0))] []), ⟨none, none, .st 2 (tG 4) (tG 33)⟩, oG 5 (.as (.c (.b false)))]
noncomputable def f60_r4 : List Stage := [⟨[oG 34 (.ldn 2 (tG 6)), oG 35 (.fadr 0 (tG 6)), oG 36 (.ld (tG 35)), oG 37 (.fadr 1 (tG 6)), oG 38 (.ld (tG 37))], [], (some (oG 39 (.call (fG 89) [(tG 36), (tG 38)]))), []⟩, ⟨[oG 40 (.eqk (.many [(some .i64), (some .i64)]) true (tG 34) (tG 39))], [oG 34 (.ldn 2 (tG 6))], none, []⟩]
noncomputable def f60_r5 : List EOper := [oG 41 (.build [(.i .i64 (.ofNat 0)), (.i .i64 (.ofNat 0))] []), ⟨none, none, .st 2 (tG 4) (tG 41)⟩, oG 5 (.as (.c (.b false)))]
noncomputable def f60_r6 : List EOper := [oG 42 (.ldn 2 (tG 6)), ⟨none, none, .st 2 (tG 4) (tG 42)⟩, oG 5 (.as (.c (.b true)))]
noncomputable def f60_c : EC := (.seq (.reg f60_r0) (.seq (.reg f60_r1) (.seq (.seq (.reg f60_r2) (.cond (tG 32) (.seq (.reg f60_r3) .ret) .skip)) (.seq (.seq (.draw f60_r4) (.cond (tG 40) (.seq (.reg f60_r5) .ret) .skip)) (.seq (.reg f60_r6) .ret)))))
noncomputable def f60 : EF := ⟨43, [.celln (.ofNat 4) 2, .tmp (.ofNat 5)], f60_c, none⟩
theorem f60_rs : f60.rs = [.celln (.ofNat 4) 2, .tmp (.ofNat 5)] := of_eq_true (eq_self _)
noncomputable def f27_r0 : List EOper := [oG 2 (.box 2 (tG 0)), oG 4 (.as (.c (.b false)))]
noncomputable def f27_r1 : List EOper := [oG 5 (.iadr 2 1 (tG 2) (cG 1)), oG 6 (.ld (tG 5)), oG 7 (.bin .geq (tG 6) (cG 1)), oG 8 (.mv (tG 7)), gG 9 8 true (.iadr 2 1 (tG 2) (cG 1)), gG 10 8 true (.ld (tG 9)), gG 11 8 true (.mv (tG 1)), gG 12 8 true (.bin .leq (tG 10) (tG 11)), oG 13 (.pick (tG 8) (tG 12) (.c (.b false))), oG 14 (.mv (tG 13)), gG 15 14 true (.iadr 2 1 (tG 2) (cG 0)), gG 16 14 true (.ld (tG 15)), gG 17 14 true (.bin .geq (tG 16) (cG 0)), oG 18 (.pick (tG 14) (tG 17) (.c (.b false))), oG 19 (.mv (tG 18)), gG 20 19 true (.iadr 2 1 (tG 2) (cG 0)), gG 21 19 true (.ld (tG 20)), gG 22 19 true (.iadr 2 1 (tG 2) (cG 1)), gG 23 19 true (.ld (tG 22)), gG 24 19 true (.bin .leq (tG 21) (tG 23)), oG 25 (.pick (tG 19) (tG 24) (.c (.b false))), oG 26 (.mv (tG 25)), gG 27 26 true (.iadr 2 1 (tG 2) (cG 0)), gG 28 26 true (.ld (tG 27)), gG 29 26 true (.iadr 2 1 (tG 2) (cG 1)), gG 30 26 true (.ld (tG 29)), gG 31 26 true (.call (fG 73) [(tG 28), (tG 30)]), gG 32 26 true (.bin .eql (tG 31) (cG 1)), oG 33 (.pick (tG 26) (tG 32) (.c (.b false))), oG 4 (.as (tG 33))]
noncomputable def f27_c : EC := (.seq (.reg f27_r0) (.seq (.reg f27_r1) .ret))
noncomputable def f27 : EF := ⟨34, [.tmp (.ofNat 4)], f27_c, none⟩
theorem f27_rs : f27.rs = [.tmp (.ofNat 4)] := of_eq_true (eq_self _)
noncomputable def f61_r0 : List EOper := [oG 3 (.box 2 (tG 1)), oG 4 (.alloc 2 [(.i .i64 (.ofNat 0)), (.i .i64 (.ofNat 0))])]
noncomputable def f61_r1 : List EOper := [oG 5 (.alloc 1 [(.i .i64 (.ofNat 0))]), oG 6 (.alloc 1 [(.i .i64 (.ofNat 0))]), ⟨none, none, .st 1 (tG 5) (cG 0)⟩, ⟨none, none, .st 1 (tG 6) (cG 1)⟩]
noncomputable def f61_r2 : List EOper := [oG 9 (.mv (tG 0)), oG 10 (.call (fG 94) [(tG 9)])]
noncomputable def f61_r3 : List EOper := [oG 8 (.as (tG 12))]
noncomputable def f61_a0 : EC := (.reg f61_r3)
noncomputable def f61_r4 : List EOper := [oG 13 (.ld (tG 6)), oG 14 (.fadr 1 (tG 3)), oG 15 (.ld (tG 14)), oG 16 (.bin .mul (tG 13) (tG 15)), ⟨none, none, .st 1 (tG 6) (tG 16)⟩]
noncomputable def f61_r5 : List EOper := [oG 17 (.ld (tG 5)), oG 18 (.fadr 0 (tG 3)), oG 19 (.ld (tG 18)), oG 20 (.bin .mul (tG 17) (tG 19)), oG 21 (.mv (tG 8)), oG 22 (.ld (tG 6)), oG 23 (.bin .mul (tG 21) (tG 22)), oG 24 (.bslice 2 1 [(.i .i64 (.ofNat 0)), (.i .i64 (.ofNat 0))] [(0, 1, (tG 20)), (1, 1, (tG 23))]), oG 25 (.call (fG 95) [(tG 24)]), ⟨none, none, .st 1 (tG 5) (tG 25)⟩]
noncomputable def f61_b0 : EC := (.block 1 (.seq (.reg f61_r4) (.reg f61_r5)))
noncomputable def f61_r6 : List EOper := [oG 26 (.ld (tG 5)), oG 27 (.ld (tG 6)), oG 28 (.call (fG 89) [(tG 26), (tG 27)]), ⟨none, none, .st 2 (tG 4) (tG 28)⟩]
noncomputable def f61_c : EC := (.seq (.reg f61_r0) (.seq (.reg f61_r1) (.seq (.seq (.reg f61_r2) (.block 0 (.rangeF (tG 10) [(.ofNat 11), (.ofNat 12)] f61_a0 f61_b0))) (.seq (.reg f61_r6) .ret))))
noncomputable def f61 : EF := ⟨29, [.celln (.ofNat 4) 2], f61_c, none⟩
section
variable {fs : T EF} {h : H} {v w : V} {L : List Int} {a b m : Int}
theorem load2 {id : K} {x y : V} (hb : h.get id = .cells 2 [x, y]) : loadV h (.p id 0) (many? 2) = .ok (.agg [x, y]) h := by
  show okv (readP h (.p id 0) (many? 2)) h = _
  rw [read2 hb]; rfl
theorem in63 {x : Int} (h1 : -9223372036854775808 ≤ x) (h2 : x ≤ 9223372036854775807) : inR .i64 x = true := by
  cases x with
  | ofNat m => exact Nat.ble_eq_true_of_le (show m ≤ 9223372036854775807 by simp at h2; omega)
  | negSucc m => exact Nat.ble_eq_true_of_le (show m + 1 ≤ 9223372036854775808 by omega)
theorem f27_ret (k73 : fs.get (.ofNat 73) = some f73) (hm : m ≤ 1000000) : Ret fs f27 [.agg [.i .i64 a, .i .i64 b], .i .i64 m] h fun r h' => r = .b (ptB a b m) ∧ Grow h.nx.nat h h' := by
  apply ret_of rfl
  show W fs none f27_c _ _ _
  unfold f27_c ptB
  have gA := Grow.new (Nat.le_refl h.nx.nat) (.cells 2 [.i .i64 a, .i .i64 b])
  have b1 : (h.new (.cells 2 [.i .i64 a, .i .i64 b])).get h.nx = .cells 2 [.i .i64 a, .i .i64 b] := get_new_same
  simp (disch := omega) only [f27_r0, Nat.reduceEqDiff, ↓reduceIte, bz]
  generalize h.new (.cells 2 [.i .i64 a, .i .i64 b]) = hA at *
  have l1 : loadV hA (.p h.nx 0) one? = .ok (.i .i64 a) hA := load_p b1 rfl
  have l2 : loadV hA (.p h.nx 1) one? = .ok (.i .i64 b) hA := load_p b1 rfl
  by_cases c1 : b ≥ 1
  · have d1 : decide (b ≥ 1) = true := decide_eq_true c1
    by_cases c2 : b ≤ m
    · have d2 : decide (b ≤ m) = true := decide_eq_true c2
      by_cases c3 : a ≥ 0
      · have d3 : decide (a ≥ 0) = true := decide_eq_true c3
        by_cases c4 : a ≤ b
        · have d4 : decide (a ≤ b) = true := decide_eq_true c4
          have eg := fun P => f73_eq (h := hA) (P := P) k73 (a := a) (b := b) (by unfold M63; omega) (by unfold M63; omega) (.inr (by omega))
          simp (disch := omega) only [f27_r1, f27_rs, Option.some.injEq, exists_eq_left', Nat.reduceEqDiff, ↓reduceIte, l1, l2, d1, d2, d3, d4, eg, Bool.true_and, bz]
          exact gA
        · have d4 : decide (a ≤ b) = false := decide_eq_false c4
          simp (disch := omega) only [f27_r1, f27_rs, Option.some.injEq, exists_eq_left', Nat.reduceEqDiff, ↓reduceIte, Bool.false_eq_true, l1, l2, d1, d2, d3, d4, Bool.true_and, Bool.false_and, bz]
          exact gA
      · have d3 : decide (a ≥ 0) = false := decide_eq_false c3
        simp (disch := omega) only [f27_r1, f27_rs, Option.some.injEq, exists_eq_left', Nat.reduceEqDiff, ↓reduceIte, Bool.false_eq_true, l1, l2, d1, d2, d3, Bool.true_and, Bool.false_and, bz]
        exact gA
    · have d2 : decide (b ≤ m) = false := decide_eq_false c2
      simp (disch := omega) only [f27_r1, f27_rs, Option.some.injEq, exists_eq_left', Nat.reduceEqDiff, ↓reduceIte, Bool.false_eq_true, l2, d1, d2, Bool.true_and, Bool.false_and, bz]
      exact gA
  · have d1 : decide (b ≥ 1) = false := decide_eq_false c1
    simp (disch := omega) only [f27_r1, f27_rs, Option.some.injEq, exists_eq_left', Nat.reduceEqDiff, ↓reduceIte, Bool.false_eq_true, l2, d1, Bool.false_and, bz]
    exact gA
def shV (a b m : Int) : V := if ptB a b m = true then .tup [.agg [.i .i64 a, .i .i64 b], .b true] else .tup [.agg [.i .i64 0, .i .i64 0], .b false]
theorem f60_ret (k89 : fs.get (.ofNat 89) = some f89) (k104 : fs.get (.ofNat 104) = some f104) (hm : m ≤ 1000000) : Ret fs f60 [.agg [.i .i64 a, .i .i64 b], .i .i64 m] h fun r h' => r = shV a b m ∧ Grow h.nx.nat h h' := by
  apply ret_of rfl
  show W fs none f60_c _ _ _
  unfold f60_c
  have gA := Grow.new (Nat.le_refl h.nx.nat) (.cells 2 [.i .i64 a, .i .i64 b])
  have n1 := nx_new h (.cells 2 [.i .i64 a, .i .i64 b])
  have b1 : (h.new (.cells 2 [.i .i64 a, .i .i64 b])).get h.nx = .cells 2 [.i .i64 a, .i .i64 b] := get_new_same
  simp (disch := omega) only [f60_r0, Nat.reduceEqDiff, ↓reduceIte, bz]
  generalize h.new (.cells 2 [.i .i64 a, .i .i64 b]) = hA at *
  have gB := Grow.new (Nat.le_refl hA.nx.nat) (.cells 2 [.i .i64 0, .i .i64 0])
  have n2 := nx_new hA (.cells 2 [.i .i64 0, .i .i64 0])
  have c1 : (hA.new (.cells 2 [.i .i64 0, .i .i64 0])).get h.nx = .cells 2 [.i .i64 a, .i .i64 b] := (get_new_old (by omega)).trans b1
  have c2 : (hA.new (.cells 2 [.i .i64 0, .i .i64 0])).get hA.nx = .cells 2 [.i .i64 0, .i .i64 0] := get_new_same
  have GB := gA.trans (gB.low gA.nx)
  have hi2 : h.nx.nat < hA.nx.nat := by omega
  generalize hA.nx = i2 at *
  generalize hA.new (.cells 2 [.i .i64 0, .i .i64 0]) = hB at *
  have l1 : loadV hB (.p h.nx 0) one? = .ok (.i .i64 a) hB := load_p c1 rfl
  have l2 : loadV hB (.p h.nx 1) one? = .ok (.i .i64 b) hB := load_p c1 rfl
  have gC := Grow.new (Nat.le_refl hB.nx.nat) (.cells 2 [.i .i64 0, .i .i64 0])
  have n3 := nx_new hB (.cells 2 [.i .i64 0, .i .i64 0])
  have d2 : (hB.new (.cells 2 [.i .i64 0, .i .i64 0])).get i2 = .cells 2 [.i .i64 0, .i .i64 0] := (get_new_old (by omega)).trans c2
  have d3 : (hB.new (.cells 2 [.i .i64 0, .i .i64 0])).get hB.nx = .cells 2 [.i .i64 0, .i .i64 0] := get_new_same
  have st := store2 (x := .i .i64 a) (y := .i .i64 b) d3
  have GC := (GB.trans (gC.low GB.nx)).trans (Grow.put (b := h.nx.nat) (k := hB.nx) (by have := GB.nx; omega) (by omega) (.cells 2 [.i .i64 a, .i .i64 b]))
  simp (disch := omega) only [f60_r1, Nat.reduceEqDiff, ↓reduceIte, l1, l2, st, bz]
  have e2 : ((hB.new (.cells 2 [.i .i64 0, .i .i64 0])).put hB.nx (.cells 2 [.i .i64 a, .i .i64 b])).get i2 = .cells 2 [.i .i64 0, .i .i64 0] := (get_put_other (fun e => by rw [e] at n2; omega)).trans d2
  have e3 : ((hB.new (.cells 2 [.i .i64 0, .i .i64 0])).put hB.nx (.cells 2 [.i .i64 a, .i .i64 b])).get hB.nx = .cells 2 [.i .i64 a, .i .i64 b] := get_put_same
  have nD : ((hB.new (.cells 2 [.i .i64 0, .i .i64 0])).put hB.nx (.cells 2 [.i .i64 a, .i .i64 b])).nx.nat = hB.nx.nat + 1 := by rw [nx_put, nx_new]
  generalize (hB.new (.cells 2 [.i .i64 0, .i .i64 0])).put hB.nx (.cells 2 [.i .i64 a, .i .i64 b]) = hD at *
  have hi3 : i2.nat < hD.nx.nat := by omega
  have hi4 : hB.nx.nat < hD.nx.nat := by omega
  have hi5 : i2.nat ≠ hB.nx.nat := by omega
  clear st gC d2 d3 n3 l1 l2 c1 c2 n2 gB b1
  generalize hB.nx = i3 at *
  have m1 : loadV hD (.p i3 0) one? = .ok (.i .i64 a) hD := load_p e3 rfl
  have m2 : loadV hD (.p i3 1) one? = .ok (.i .i64 b) hD := load_p e3 rfl
  have m3 : loadV hD (.p i3 0) (many? 2) = .ok (.agg [.i .i64 a, .i .i64 b]) hD := load2 e3
  have st0 := store2 (x := .i .i64 0) (y := .i .i64 0) e2
  have rd0 := read2 (h := hD.put i2 (.cells 2 [.i .i64 0, .i .i64 0])) (id := i2) get_put_same
  have G0 : Grow h.nx.nat h (hD.put i2 (.cells 2 [.i .i64 0, .i .i64 0])) := GC.trans (Grow.put (by omega) (by omega) _)
  have sF : ptB a b m = false → shV a b m = .tup [.agg [.i .i64 0, .i .i64 0], .b false] := fun e => by unfold shV; rw [e]; rfl
  have sT : ptB a b m = true → shV a b m = .tup [.agg [.i .i64 a, .i .i64 b], .b true] := fun e => by unfold shV; rw [e]; rfl
  have bF : (¬ (1 ≤ b ∧ b ≤ m ∧ 0 ≤ a ∧ a ≤ b ∧ Int.gcd a b = 1)) → ptB a b m = false := fun hn => Bool.eq_false_iff.2 fun e => hn (ptB_iff.1 e)
  by_cases c1 : b < 1
  · have d1 : decide (b < 1) = true := decide_eq_true c1
    have e := sF (bF (by omega))
    simp (disch := omega) only [f60_r2, f60_r3, f60_rs, Option.some.injEq, exists_eq_left', Nat.reduceEqDiff, ↓reduceIte, Bool.false_eq_true, Bool.not_true, m2, d1, st0, rd0, e, bz]
    exact G0
  have d1 : decide (b < 1) = false := decide_eq_false c1
  by_cases c2 : b > m
  · have d2 : decide (b > m) = true := decide_eq_true c2
    have e := sF (bF (by omega))
    simp (disch := omega) only [f60_r2, f60_r3, f60_rs, Option.some.injEq, exists_eq_left', Nat.reduceEqDiff, ↓reduceIte, Bool.false_eq_true, Bool.not_true, Bool.not_false, m2, d1, d2, st0, rd0, e, bz]
    exact G0
  have d2 : decide (b > m) = false := decide_eq_false c2
  by_cases c3 : a < 0
  · have d3 : decide (a < 0) = true := decide_eq_true c3
    have e := sF (bF (by omega))
    simp (disch := omega) only [f60_r2, f60_r3, f60_rs, Option.some.injEq, exists_eq_left', Nat.reduceEqDiff, ↓reduceIte, Bool.false_eq_true, Bool.not_true, Bool.not_false, m1, m2, d1, d2, d3, st0, rd0, e, bz]
    exact G0
  have d3 : decide (a < 0) = false := decide_eq_false c3
  by_cases c4 : a > b
  · have d4 : decide (a > b) = true := decide_eq_true c4
    have e := sF (bF (by omega))
    simp (disch := omega) only [f60_r2, f60_r3, f60_rs, Option.some.injEq, exists_eq_left', Nat.reduceEqDiff, ↓reduceIte, Bool.false_eq_true, Bool.not_false, m1, m2, d1, d2, d3, d4, st0, rd0, e, bz]
    exact G0
  have d4 : decide (a > b) = false := decide_eq_false c4
  simp (disch := omega) only [f60_r2, f60_r4, Nat.reduceEqDiff, ↓reduceIte, Bool.false_eq_true, Bool.not_false, m1, m2, m3, d1, d2, d3, d4, bz]
  refine (callP_0 (ef := f89) k89 rfl (f89_ret k104 (by unfold M63; omega) (by unfold M63; omega) (by omega))).mono ?_
  rintro r h' ⟨rfl, g⟩
  have hle := div_le (a := a) (b := b) (by omega)
  have kq := keyEq_2 (a := a) (b := b) (c := (Rat.divInt a b).num) (d := ((Rat.divInt a b).den : Int)) (in63 (by omega) (by omega)) (in63 (by omega) (by omega)) (in63 (by omega) (by omega)) (in63 (by omega) (by omega))
  have e3' : h'.get i3 = .cells 2 [.i .i64 a, .i .i64 b] := (g.old _ hi4).trans e3
  have e2' : h'.get i2 = .cells 2 [.i .i64 0, .i .i64 0] := (g.old _ hi3).trans e2
  have m3' : loadV h' (.p i3 0) (many? 2) = .ok (.agg [.i .i64 a, .i .i64 b]) h' := load2 e3'
  have st1 := store2 (x := .i .i64 a) (y := .i .i64 b) e2'
  have rd1 := read2 (h := h'.put i2 (.cells 2 [.i .i64 a, .i .i64 b])) (id := i2) get_put_same
  have st2 := store2 (x := .i .i64 0) (y := .i .i64 0) e2'
  have rd2 := read2 (h := h'.put i2 (.cells 2 [.i .i64 0, .i .i64 0])) (id := i2) get_put_same
  have gn := g.nx
  have GE := GC.trans (g.low (by have := GC.nx; omega))
  have GP : ∀ x, Grow h.nx.nat h (h'.put i2 x) := fun x => GE.trans (Grow.put (by omega) (by omega) _)
  unfold frL
  by_cases cg : Int.gcd a b = 1
  · have hl := (low_iff (a := a) (b := b) (by omega)).2 cg
    have dq : (decide (a = (Rat.divInt a b).num) && decide (b = ((Rat.divInt a b).den : Int))) = true := by rw [decide_eq_true hl.1, decide_eq_true hl.2]; rfl
    rw [dq] at kq
    have e := sT (ptB_iff.2 ⟨by omega, by omega, by omega, by omega, cg⟩)
    simp (disch := omega) only [f60_r6, f60_rs, xg_eqk, Option.some.injEq, exists_eq_left', Nat.reduceEqDiff, ↓reduceIte, Bool.false_eq_true, Bool.not_true, beq_2, kq, m3', beq_2, st1, rd1, cond_true, e, bz]
    exact GP _
  · have dq : (decide (a = (Rat.divInt a b).num) && decide (b = ((Rat.divInt a b).den : Int))) = false := by
      rw [Bool.eq_false_iff]
      intro hh
      rw [Bool.and_eq_true, decide_eq_true_eq, decide_eq_true_eq] at hh
      exact cg ((low_iff (by omega)).1 hh)
    rw [dq] at kq
    have e := sF (bF (by omega))
    simp (disch := omega) only [f60_r5, f60_rs, xg_eqk, Option.some.injEq, exists_eq_left', Nat.reduceEqDiff, ↓reduceIte, Bool.not_false, beq_2, kq, m3', beq_2, st2, rd2, cond_true, e, bz]
    exact GP _
structure CallsV (fs : T EF) : Prop where
  c89 : fs.get (K.ofNat 89) = some f89
  c104 : fs.get (K.ofNat 104) = some f104
  c94 : fs.get (K.ofNat 94) = some f94
  c108 : fs.get (K.ofNat 108) = some f108
  c95 : fs.get (K.ofNat 95) = some f95
theorem lit2 {x y : Int} : Sl iE (h.new (.cells (2 * 1) [.i .i64 x, .i .i64 y])) (.sl h.nx 0 2 1) [x, y] := by
  refine .inr ⟨h.nx, 0, 2, [.i .i64 x, .i .i64 y], rfl, get_new_same, rfl, by simp, fun i hi => ?_⟩
  match i, hi with
  | 0, _ => rfl
  | 1, _ => rfl
  | i + 2, hi => simp at hi; omega
end
end Go.Ev
namespace Go.Ev
open Go Go.RowKit
noncomputable def f28_r0 : List EOper := [oG 3 (.box 2 (tG 1)), oG 4 (.alloc 2 [(.i .i64 (.ofNat 0)), (.i .i64 (.ofNat 0))])]
noncomputable def f28_r1 : List EOper := [oG 7 (.build [(.i .i64 (.ofNat 0)), (.i .i64 (.ofNat 0))] [(0, 1, (cG 0)), (1, 1, (cG 1))]), oG 5 (.alloc 2 [(.i .i64 (.ofNat 0)), (.i .i64 (.ofNat 0))]), ⟨none, none, .st 2 (tG 5) (tG 7)⟩]
noncomputable def f28_r2 : List EOper := [oG 8 (.mv (tG 0)), oG 9 (.len (tG 8)), oG 10 (.bin .sub (tG 9) (cG 1)), oG 6 (.as (tG 10))]
noncomputable def f28_r3 : List EOper := [oG 11 (.mv (tG 6)), oG 12 (.bin .geq (tG 11) (cG 0))]
noncomputable def f28_r4 : List Stage := [⟨[oG 15 (.ldn 2 (tG 5)), oG 16 (.ldn 2 (tG 3)), oG 18 (.mv (tG 0)), oG 19 (.mv (tG 6)), oG 20 (.iads 1 (tG 18) (tG 19)), oG 21 (.ld (tG 20)), oG 22 (.build [(.i .i64 (.ofNat 0)), (.i .i64 (.ofNat 0))] [(0, 1, (tG 21)), (1, 1, (cG 1))])], [], (some (oG 17 (.call (fG 75) [(tG 15), (tG 16)]))), []⟩, ⟨[], [oG 18 (.mv (tG 0)), oG 19 (.mv (tG 6)), oG 20 (.iads 1 (tG 18) (tG 19)), oG 21 (.ld (tG 20)), oG 22 (.build [(.i .i64 (.ofNat 0)), (.i .i64 (.ofNat 0))] [(0, 1, (tG 21)), (1, 1, (cG 1))])], (some (oG 23 (.call (fG 74) [(tG 17), (tG 22)]))), []⟩, ⟨[], [], (some ⟨none, none, .st 2 (tG 5) (tG 23)⟩), []⟩, ⟨[], [], none, []⟩]
noncomputable def f28_r5 : List EOper := [oG 13 (.mv (tG 6)), oG 14 (.bin .sub (tG 13) (cG 1)), oG 6 (.as (tG 14))]
noncomputable def f28_l0 : EC := (.seq (.seq (.reg f28_r3) (.cond (tG 12) .skip (.exit 0))) (.seq (.block 1 (.draw f28_r4)) (.reg f28_r5)))
noncomputable def f28_r6 : List EOper := [oG 24 (.ldn 2 (tG 5)), ⟨none, none, .st 2 (tG 4) (tG 24)⟩]
noncomputable def f28_c : EC := (.seq (.reg f28_r0) (.seq (.reg f28_r1) (.seq (.seq (.reg f28_r2) (.block 0 (.loop f28_l0))) (.seq (.reg f28_r6) .ret))))
noncomputable def f28 : EF := ⟨25, [.celln (.ofNat 4) 2], f28_c, none⟩
noncomputable def f29_r0 : List EOper := [oG 2 (.box 2 (tG 0)), oG 4 (.alloc 2 [(.i .i64 (.ofNat 0)), (.i .i64 (.ofNat 0))])]
noncomputable def f29_r1 : List EOper := [oG 6 (.iadr 2 1 (tG 2) (cG 1)), oG 7 (.ld (tG 6)), oG 8 (.conv .u64 (tG 7)), oG 9 (.mv (tG 1)), oG 10 (.conv .u64 (tG 9)), oG 11 (.bin .rem (tG 8) (tG 10)), oG 12 (.conv .i64 (tG 11)), oG 13 (.bin .add (cG 1) (tG 12)), oG 5 (.as (tG 13))]
noncomputable def f29_r2 : List EOper := [oG 14 (.iadr 2 1 (tG 2) (cG 0)), oG 15 (.ld (tG 14)), oG 16 (.conv .u64 (tG 15)), oG 17 (.mv (tG 5)), oG 18 (.bin .add (tG 17) (cG 1)), oG 19 (.conv .u64 (tG 18)), oG 20 (.bin .rem (tG 16) (tG 19)), oG 21 (.conv .i64 (tG 20)), oG 22 (.mv (tG 5)), oG 23 (.call (fG 54) [(tG 21), (tG 22)]), ⟨none, none, .st 2 (tG 4) (tG 23)⟩]
noncomputable def f29_c : EC := (.seq (.reg f29_r0) (.seq (.reg f29_r1) (.seq (.reg f29_r2) .ret)))
noncomputable def f29 : EF := ⟨24, [.celln (.ofNat 4) 2], f29_c, none⟩
theorem f29_rs : f29.rs = [.celln (.ofNat 4) 2] := of_eq_true (eq_self _)
noncomputable def f18_r0 : List EOper := [oG 3 (.box 2 (tG 1)), oG 4 (.alloc 2 [(.i .i64 (.ofNat 0)), (.i .i64 (.ofNat 0))]), oG 5 (.as (cG 0))]
noncomputable def f18_r1 : List EOper := [oG 9 (.mv (tG 0)), oG 10 (.call (fG 14) [(tG 9)]), oG 6 (.as (tG 10))]
noncomputable def f18_r2 : List EOper := [oG 11 (.mv (tG 6)), oG 12 (.bin .neq (tG 11) (cG 0))]
noncomputable def f18_r3 : List EOper := [oG 13 (.build [(.i .i64 (.ofNat 0)), (.i .i64 (.ofNat 0))] []), oG 14 (.mv (tG 6)), ⟨none, none, .st 2 (tG 4) (tG 13)⟩, oG 5 (.as (tG 14))]
noncomputable def f18_r4 : List EOper := [oG 16 (.ldn 2 (tG 3)), oG 17 (.call (fG 60) [(tG 16), (cG 64)]), oG 15 (.mv (tG 17)), oG 18 (.ext (tG 15) 0), oG 19 (.ext (tG 15) 1), oG 7 (.alloc 2 [(.i .i64 (.ofNat 0)), (.i .i64 (.ofNat 0))]), ⟨none, none, .st 2 (tG 7) (tG 18)⟩, oG 8 (.as (tG 19))]
noncomputable def f18_r5 : List EOper := [oG 20 (.mv (tG 8)), oG 21 (.not (tG 20))]
noncomputable def f18_r6 : List EOper := [oG 22 (.build [(.i .i64 (.ofNat 0)), (.i .i64 (.ofNat 0))] []), ⟨none, none, .st 2 (tG 4) (tG 22)⟩, oG 5 (.as (cG 1))]
noncomputable def f18_r7 : List EOper := [oG 23 (.mv (tG 0)), oG 24 (.ldn 2 (tG 7)), oG 25 (.call (fG 61) [(tG 23), (tG 24)]), oG 26 (.call (fG 62) [(tG 25)]), ⟨none, none, .st 2 (tG 4) (tG 26)⟩, oG 5 (.as (cG 0))]
noncomputable def f18_c : EC := (.seq (.reg f18_r0) (.seq (.seq (.reg f18_r1) (.seq (.reg f18_r2) (.cond (tG 12) (.seq (.reg f18_r3) .ret) .skip))) (.seq (.reg f18_r4) (.seq (.seq (.reg f18_r5) (.cond (tG 21) (.seq (.reg f18_r6) .ret) .skip)) (.seq (.reg f18_r7) .ret)))))
noncomputable def f18 : EF := ⟨27, [.celln (.ofNat 4) 2, .tmp (.ofNat 5)], f18_c, none⟩
section
variable {fs : T EF} {h : H} {v w : V} {L : List Int} {a b m : Int}
structure CallsF (fs : T EF) : Prop where
  c73 : fs.get (K.ofNat 73) = some f73
  c54 : fs.get (K.ofNat 54) = some f54
  c75 : fs.get (K.ofNat 75) = some f75
  c74 : fs.get (K.ofNat 74) = some f74
theorem mul_ret {p q : Rat} (k : CallsF fs) (b : MlB p q) : Ret fs f75 [.agg (frL p), .agg (frL q)] h fun r h' => r = .agg (frL (p * q)) ∧ Grow h.nx.nat h h' := f75_ret k.c54 k.c73 b.p1 b.p2 b.q1 b.q2 b.b1 b.b2
theorem add_ret {p q : Rat} (k : CallsF fs) (b : AdB p q) : Ret fs f74 [.agg (frL p), .agg (frL q)] h fun r h' => r = .agg (frL (p + q)) ∧ Grow h.nx.nat h h' := f74_ret k.c54 k.c73 b.p2 b.q2 b.b1 b.b2 b.b3 b.b4
theorem frL_low {a b : Int} (hb : 0 < b) (hg : Int.gcd a b = 1) : [V.i .i64 a, .i .i64 b] = frL (Rat.divInt a b) := by
  obtain ⟨e1, e2⟩ := (low_iff hb).2 hg
  unfold frL
  rw [← e1, ← e2]
theorem fr_beq {q : Rat} : beqV (.agg (frL q)) (.agg (frL q)) = true := beq_2
theorem fr_load {id : K} {q : Rat} (hb : h.get id = .cells 2 (frL q)) : loadV h (.p id 0) (many? 2) = .ok (.agg (frL q)) h := load2 hb
theorem fr_store {id : K} {cs : List V} {c1 c2 : V} {q : Rat} (hb : h.get id = .cells 2 cs) (hcs : cs = [c1, c2]) : storeV h 2 (.p id 0) (.agg (frL q)) = .ok undefV (h.put id (.cells 2 (frL q))) := by subst hcs; exact store2 hb
theorem fr_cells {q : Rat} : cellsN 2 (.agg (frL q)) = some (frL q) := cell2_agg
theorem f29_ret {m : Nat} (k : CallsF fs) (hm : 0 < m) (hm64 : m ≤ 64) : Ret fs f29 [.agg [.i .i64 a, .i .i64 b], .i .i64 (m : Int)] h fun r h' => (∃ o u : Nat, 0 < u ∧ u ≤ m ∧ o ≤ u ∧ r = .agg (frL (Rat.divInt (o : Int) (u : Int)))) ∧ Grow h.nx.nat h h' := by
  apply ret_of rfl
  show W fs none f29_c _ _ _
  unfold f29_c
  have gA := Grow.new (Nat.le_refl h.nx.nat) (.cells 2 [.i .i64 a, .i .i64 b])
  have n1 := nx_new h (.cells 2 [.i .i64 a, .i .i64 b])
  have b1 : (h.new (.cells 2 [.i .i64 a, .i .i64 b])).get h.nx = .cells 2 [.i .i64 a, .i .i64 b] := get_new_same
  simp (disch := omega) only [f29_r0, Nat.reduceEqDiff, ↓reduceIte, bz]
  generalize h.new (.cells 2 [.i .i64 a, .i .i64 b]) = hA at *
  have gB := Grow.new (Nat.le_refl hA.nx.nat) (.cells 2 [.i .i64 0, .i .i64 0])
  have n2 := nx_new hA (.cells 2 [.i .i64 0, .i .i64 0])
  have c1 : (hA.new (.cells 2 [.i .i64 0, .i .i64 0])).get h.nx = .cells 2 [.i .i64 a, .i .i64 b] := (get_new_old (by omega)).trans b1
  have c2 : (hA.new (.cells 2 [.i .i64 0, .i .i64 0])).get hA.nx = .cells 2 [.i .i64 0, .i .i64 0] := get_new_same
  have GB := gA.trans (gB.low gA.nx)
  generalize hA.nx = i2 at *
  generalize hA.new (.cells 2 [.i .i64 0, .i .i64 0]) = hB at *
  have l1 : loadV hB (.p h.nx 0) one? = .ok (.i .i64 a) hB := load_p c1 rfl
  have l2 : loadV hB (.p h.nx 1) one? = .ok (.i .i64 b) hB := load_p c1 rfl
  have ua := u64_bd a
  have ub := u64_bd b
  have um : fw .u64 (m : Int) = (m : Int) := fwu64 (by omega) (by omega)
  have d0 : decide ((m : Int) = 0) = false := decide_eq_false (by omega)
  have hr := Int.emod_lt_of_pos (fw .u64 b) (show (0 : Int) < (m : Int) by omega)
  have hr0 := Int.emod_nonneg (fw .u64 b) (show (m : Int) ≠ 0 by omega)
  obtain ⟨u, hu⟩ : ∃ u : Nat, (u : Int) = 1 + (fw .u64 b) % (m : Int) := ⟨(1 + (fw .u64 b) % (m : Int)).toNat, by omega⟩
  have ed : fw .i64 (1 + fw .i64 ((fw .u64 b).tmod (m : Int))) = (u : Int) := by
    rw [Int.tmod_eq_emod_of_nonneg ub.1, fw64 (a := (fw .u64 b) % (m : Int)) (by omega) (by omega), fw64 (by omega) (by omega), hu]
  have e1 : fw .u64 (fw .i64 ((u : Int) + 1)) = ((u : Int) + 1) := by rw [fw64 (by omega) (by omega), fwu64 (by omega) (by omega)]
  have hq := Int.emod_lt_of_pos (fw .u64 a) (show (0 : Int) < (u : Int) + 1 by omega)
  have hq0 := Int.emod_nonneg (fw .u64 a) (show (u : Int) + 1 ≠ 0 by omega)
  obtain ⟨o, ho⟩ : ∃ o : Nat, (o : Int) = (fw .u64 a) % ((u : Int) + 1) := ⟨((fw .u64 a) % ((u : Int) + 1)).toNat, by omega⟩
  have eo : fw .i64 ((fw .u64 a).tmod ((u : Int) + 1)) = (o : Int) := by
    rw [Int.tmod_eq_emod_of_nonneg ua.1, fw64 (by omega) (by omega), ho]
  have d1 : decide ((u : Int) + 1 = 0) = false := decide_eq_false (by omega)
  simp (disch := omega) only [f29_r1, f29_r2, x_conv, onI_i, Nat.reduceEqDiff, ↓reduceIte, l1, l2, um, ed, e1, eo, bz]
  refine (callP_0 (ef := f54) k.c54 rfl (f54_ret k.c73 (by unfold M63; omega) (by unfold M63; omega) (by omega))).mono ?_
  rintro r h' ⟨rfl, g⟩
  have st := fr_store (q := Rat.divInt (o : Int) (u : Int)) ((g.old i2 (by omega)).trans c2) rfl
  have rd : readP (h'.put i2 (.cells 2 (frL (Rat.divInt (o : Int) (u : Int))))) (.p i2 0) (many? 2) = some (.agg (frL (Rat.divInt (o : Int) (u : Int)))) := read2 get_put_same
  have gn := g.nx
  simp (disch := omega) only [f29_rs, Option.some.injEq, exists_eq_left', Nat.reduceEqDiff, ↓reduceIte, st, rd, bz]
  exact ⟨⟨o, u, by omega, by omega, by omega, rfl⟩, (GB.trans (g.low GB.nx)).trans (Grow.put (by omega) (by omega) _)⟩
structure CallsVa (fs : T EF) : Prop extends CallsV fs, CSm fs where
  c60 : fs.get (K.ofNat 60) = some f60
  c61 : fs.get (K.ofNat 61) = some f61
  c62 : fs.get (K.ofNat 62) = some f62
end
end Go.Ev
namespace Go.Ev
open Go Go.RowKit
noncomputable def f76_r0 : List EOper := [oG 4 (.as (cG 0))]
noncomputable def f76_r1 : List EOper := [oG 5 (.as (cG 1))]
noncomputable def f76_r2 : List EOper := [oG 6 (.as (cG 1))]
noncomputable def f76_r3 : List EOper := [oG 7 (.mv (tG 6)), oG 8 (.mv (tG 1)), oG 9 (.bin .leq (tG 7) (tG 8))]
noncomputable def f76_r4 : List EOper := [oG 12 (.mv (tG 5)), oG 13 (.mv (tG 0)), oG 14 (.mv (tG 6)), oG 15 (.bin .sub (tG 13) (tG 14)), oG 16 (.bin .add (tG 15) (cG 1)), oG 17 (.bin .mul (tG 12) (tG 16)), oG 18 (.mv (tG 6)), oG 19 (.bin .quo (tG 17) (tG 18)), oG 5 (.as (tG 19))]
noncomputable def f76_r5 : List EOper := [oG 10 (.mv (tG 6)), oG 11 (.bin .add (tG 10) (cG 1)), oG 6 (.as (tG 11))]
noncomputable def f76_l0 : EC := (.seq (.seq (.reg f76_r3) (.cond (tG 9) .skip (.exit 0))) (.seq (.block 1 (.reg f76_r4)) (.reg f76_r5)))
noncomputable def f76_r6 : List EOper := [oG 20 (.mv (tG 5)), oG 4 (.as (tG 20))]
noncomputable def f76_c : EC := (.seq (.reg f76_r0) (.seq (.reg f76_r1) (.seq (.seq (.reg f76_r2) (.block 0 (.loop f76_l0))) (.seq (.reg f76_r6) .ret))))
noncomputable def f76 : EF := ⟨21, [.tmp (.ofNat 4)], f76_c, none⟩
noncomputable def f100_r0 : List EOper := [oG 4 (.as (cG 0))]
noncomputable def f100_r1 : List EOper := [oG 5 (.as (cG 1))]
noncomputable def f100_r2 : List EOper := [oG 7 (.mv (tG 1)), oG 8 (.mv (cG 0))]
noncomputable def f100_r3 : List EOper := [oG 9 (.bin .lss (tG 8) (tG 7))]
noncomputable def f100_r4 : List EOper := [oG 10 (.mv (tG 8)), oG 6 (.as (tG 10))]
noncomputable def f100_r5 : List EOper := [oG 11 (.mv (tG 5)), oG 12 (.mv (tG 0)), oG 13 (.mv (tG 6)), oG 14 (.bin .sub (tG 12) (tG 13)), oG 15 (.bin .mul (tG 11) (tG 14)), oG 16 (.mv (tG 6)), oG 17 (.bin .add (tG 16) (cG 1)), oG 18 (.bin .quo (tG 15) (tG 17)), oG 5 (.as (tG 18))]
noncomputable def f100_r6 : List EOper := [oG 19 (.bin .add (tG 8) (cG 1)), oG 8 (.mv (tG 19))]
noncomputable def f100_l0 : EC := (.seq (.reg f100_r3) (.seq (.cond (tG 9) .skip (.exit 0)) (.seq (.block 1 (.seq (.reg f100_r4) (.reg f100_r5))) (.reg f100_r6))))
noncomputable def f100_r7 : List EOper := [oG 20 (.mv (tG 5)), oG 4 (.as (tG 20))]
noncomputable def f100_c : EC := (.seq (.reg f100_r0) (.seq (.reg f100_r1) (.seq (.seq (.reg f100_r2) (.block 0 (.loop f100_l0))) (.seq (.reg f100_r7) .ret))))
noncomputable def f100 : EF := ⟨21, [.tmp (.ofNat 4)], f100_c, none⟩
noncomputable def f30_r0 : List EOper := [oG 2 (.as (.c .sn))]
noncomputable def f30_r1 : List EOper := [oG 6 (.mv (tG 0)), oG 7 (.len (tG 6)), oG 8 (.mkslice 1 [(.i .i64 (.ofNat 0))] (tG 7)), oG 3 (.as (tG 8))]
noncomputable def f30_r2 : List EOper := [oG 4 (.as (cG 0))]
noncomputable def f30_r3 : List EOper := [oG 9 (.mv (tG 4)), oG 10 (.mv (tG 0)), oG 11 (.len (tG 10)), oG 12 (.bin .lss (tG 9) (tG 11))]
noncomputable def f30_r4 : List EOper := [oG 5 (.as (cG 0))]
noncomputable def f30_r5 : List EOper := [oG 15 (.mv (tG 5)), oG 16 (.mv (tG 4)), oG 17 (.bin .leq (tG 15) (tG 16))]
noncomputable def f30_r6 : List Stage := [⟨[oG 20 (.mv (tG 3)), oG 21 (.mv (tG 5)), oG 22 (.mv (tG 3)), oG 23 (.mv (tG 5)), oG 24 (.iads 1 (tG 22) (tG 23)), oG 25 (.ld (tG 24)), oG 26 (.mv (tG 0)), oG 27 (.mv (tG 4)), oG 28 (.iads 1 (tG 26) (tG 27)), oG 29 (.ld (tG 28)), oG 30 (.mv (tG 4)), oG 31 (.mv (tG 5)), oG 34 (.mv (tG 5)), oG 35 (.bin .rem (tG 34) (cG 2)), oG 36 (.bin .mul (cG 2) (tG 35)), oG 37 (.bin .sub (cG 1) (tG 36))], [], (some (oG 32 (.call (fG 76) [(tG 30), (tG 31)]))), []⟩, ⟨[oG 33 (.bin .mul (tG 29) (tG 32)), oG 38 (.bin .mul (tG 33) (tG 37)), oG 39 (.bin .add (tG 25) (tG 38)), oG 40 (.iads 1 (tG 20) (tG 21))], [oG 20 (.mv (tG 3)), oG 21 (.mv (tG 5)), oG 22 (.mv (tG 3)), oG 23 (.mv (tG 5)), oG 24 (.iads 1 (tG 22) (tG 23)), oG 25 (.ld (tG 24)), oG 26 (.mv (tG 0)), oG 27 (.mv (tG 4)), oG 28 (.iads 1 (tG 26) (tG 27)), oG 29 (.ld (tG 28)), oG 34 (.mv (tG 5)), oG 35 (.bin .rem (tG 34) (cG 2)), oG 36 (.bin .mul (cG 2) (tG 35)), oG 37 (.bin .sub (cG 1) (tG 36))], (some ⟨none, none, .st 1 (tG 40) (tG 39)⟩), []⟩, ⟨[], [], none, []⟩]
noncomputable def f30_r7 : List EOper := [oG 18 (.mv (tG 5)), oG 19 (.bin .add (tG 18) (cG 1)), oG 5 (.as (tG 19))]
noncomputable def f30_l0 : EC := (.seq (.seq (.reg f30_r5) (.cond (tG 17) .skip (.exit 2))) (.seq (.block 3 (.draw f30_r6)) (.reg f30_r7)))
noncomputable def f30_r8 : List EOper := [oG 13 (.mv (tG 4)), oG 14 (.bin .add (tG 13) (cG 1)), oG 4 (.as (tG 14))]
noncomputable def f30_l1 : EC := (.seq (.seq (.reg f30_r3) (.cond (tG 12) .skip (.exit 0))) (.seq (.block 1 (.seq (.reg f30_r4) (.block 2 (.loop f30_l0)))) (.reg f30_r8)))
noncomputable def f30_r9 : List EOper := [oG 41 (.mv (tG 3)), oG 2 (.as (tG 41))]
noncomputable def f30_c : EC := (.seq (.reg f30_r0) (.seq (.reg f30_r1) (.seq (.seq (.reg f30_r2) (.block 0 (.loop f30_l1))) (.seq (.reg f30_r9) .ret))))
noncomputable def f30 : EF := ⟨42, [.tmp (.ofNat 2)], f30_c, none⟩
noncomputable def f71_r0 : List EOper := [oG 2 (.as (.c .sn))]
noncomputable def f71_r1 : List EOper := [oG 8 (.mv (tG 0)), oG 9 (.len (tG 8)), oG 10 (.mkslice 1 [(.i .i64 (.ofNat 0))] (tG 9)), oG 3 (.as (tG 10))]
noncomputable def f71_r2 : List EOper := [oG 11 (.mv (tG 0)), oG 12 (.len (tG 11)), oG 13 (.mv (cG 0))]
noncomputable def f71_r3 : List EOper := [oG 14 (.bin .lss (tG 13) (tG 12))]
noncomputable def f71_r4 : List EOper := [oG 15 (.mv (tG 13)), oG 16 (.iads 1 (tG 11) (tG 13)), oG 17 (.ld (tG 16)), oG 4 (.as (tG 15)), oG 5 (.as (tG 17))]
noncomputable def f71_r5 : List EOper := [oG 18 (.mv (tG 4)), oG 19 (.bin .add (tG 18) (cG 1)), oG 20 (.mv (cG 0))]
noncomputable def f71_r6 : List EOper := [oG 21 (.bin .lss (tG 20) (tG 19))]
noncomputable def f71_r7 : List EOper := [oG 22 (.mv (tG 20)), oG 6 (.as (tG 22))]
noncomputable def f71_r8 : List EOper := [oG 23 (.mv (tG 6)), oG 24 (.bin .rem (tG 23) (cG 2)), oG 25 (.bin .mul (cG 2) (tG 24)), oG 26 (.bin .sub (cG 1) (tG 25)), oG 7 (.as (tG 26))]
noncomputable def f71_r9 : List Stage := [⟨[oG 27 (.mv (tG 3)), oG 28 (.mv (tG 6)), oG 29 (.iads 1 (tG 27) (tG 28)), oG 30 (.ld (tG 29)), oG 31 (.mv (tG 7)), oG 32 (.mv (tG 4)), oG 33 (.mv (tG 6)), oG 36 (.mv (tG 5))], [], (some (oG 34 (.call (fG 100) [(tG 32), (tG 33)]))), []⟩, ⟨[oG 35 (.bin .mul (tG 31) (tG 34)), oG 37 (.bin .mul (tG 35) (tG 36)), oG 38 (.bin .add (tG 30) (tG 37)), oG 39 (.iads 1 (tG 27) (tG 28))], [oG 27 (.mv (tG 3)), oG 28 (.mv (tG 6)), oG 29 (.iads 1 (tG 27) (tG 28)), oG 30 (.ld (tG 29)), oG 31 (.mv (tG 7)), oG 36 (.mv (tG 5))], (some ⟨none, none, .st 1 (tG 39) (tG 38)⟩), []⟩, ⟨[], [], none, []⟩]
noncomputable def f71_r10 : List EOper := [oG 40 (.bin .add (tG 20) (cG 1)), oG 20 (.mv (tG 40))]
noncomputable def f71_l0 : EC := (.seq (.reg f71_r6) (.seq (.cond (tG 21) .skip (.exit 2)) (.seq (.block 3 (.seq (.reg f71_r7) (.seq (.reg f71_r8) (.draw f71_r9)))) (.reg f71_r10))))
noncomputable def f71_r11 : List EOper := [oG 41 (.bin .add (tG 13) (cG 1)), oG 13 (.mv (tG 41))]
noncomputable def f71_l1 : EC := (.seq (.reg f71_r3) (.seq (.cond (tG 14) .skip (.exit 0)) (.seq (.block 1 (.seq (.reg f71_r4) (.seq (.reg f71_r5) (.block 2 (.loop f71_l0))))) (.reg f71_r11))))
noncomputable def f71_r12 : List EOper := [oG 42 (.mv (tG 3)), oG 2 (.as (tG 42))]
noncomputable def f71_c : EC := (.seq (.reg f71_r0) (.seq (.reg f71_r1) (.seq (.seq (.reg f71_r2) (.block 0 (.loop f71_l1))) (.seq (.reg f71_r12) .ret))))
noncomputable def f71 : EF := ⟨43, [.tmp (.ofNat 2)], f71_c, none⟩
noncomputable def f31_r0 : List EOper := [oG 2 (.as (.c .sn))]
noncomputable def f31_r1 : List EOper := [oG 5 (.mv (tG 0)), oG 6 (.len (tG 5)), oG 7 (.bin .eql (tG 6) (cG 1))]
noncomputable def f31_r2 : List EOper := [oG 8 (.bslice 1 1 [(.i .i64 (.ofNat 0))] [(0, 1, (cG 0))]), oG 2 (.as (tG 8))]
noncomputable def f31_r3 : List EOper := [oG 3 (.as (.c .sn))]
noncomputable def f31_r4 : List EOper := [oG 4 (.as (cG 1))]
noncomputable def f31_r5 : List EOper := [oG 9 (.mv (tG 4)), oG 10 (.mv (tG 0)), oG 11 (.len (tG 10)), oG 12 (.bin .lss (tG 9) (tG 11))]
noncomputable def f31_r6 : List EOper := [oG 15 (.mv (tG 3)), oG 16 (.mv (tG 4)), oG 17 (.mv (tG 0)), oG 18 (.mv (tG 4)), oG 19 (.iads 1 (tG 17) (tG 18)), oG 20 (.ld (tG 19)), oG 21 (.bin .mul (tG 16) (tG 20)), oG 22 (.bslice 1 1 [(.i .i64 (.ofNat 0))] [(0, 1, (tG 21))]), oG 23 (.app 1 (tG 15) (tG 22)), oG 3 (.as (tG 23))]
noncomputable def f31_r7 : List EOper := [oG 13 (.mv (tG 4)), oG 14 (.bin .add (tG 13) (cG 1)), oG 4 (.as (tG 14))]
noncomputable def f31_l0 : EC := (.seq (.seq (.reg f31_r5) (.cond (tG 12) .skip (.exit 0))) (.seq (.block 1 (.reg f31_r6)) (.reg f31_r7)))
noncomputable def f31_r8 : List EOper := [oG 24 (.mv (tG 3)), oG 2 (.as (tG 24))]
noncomputable def f31_c : EC := (.seq (.reg f31_r0) (.seq (.seq (.reg f31_r1) (.cond (tG 7) (.seq (.reg f31_r2) .ret) .skip)) (.seq (.reg f31_r3) (.seq (.seq (.reg f31_r4) (.block 0 (.loop f31_l0))) (.seq (.reg f31_r8) .ret)))))
noncomputable def f31 : EF := ⟨25, [.tmp (.ofNat 2)], f31_c, none⟩
noncomputable def f72_r0 : List EOper := [oG 2 (.as (.c .sn))]
noncomputable def f72_r1 : List EOper := [oG 5 (.mv (tG 0)), oG 6 (.len (tG 5)), oG 7 (.bin .eql (tG 6) (cG 1))]
noncomputable def f72_r2 : List EOper := [oG 8 (.bslice 1 1 [(.i .i64 (.ofNat 0))] [(0, 1, (cG 0))]), oG 2 (.as (tG 8))]
noncomputable def f72_r3 : List EOper := [oG 9 (.mv (tG 0)), oG 10 (.len (tG 9)), oG 11 (.bin .sub (tG 10) (cG 1)), oG 12 (.mkslice 1 [(.i .i64 (.ofNat 0))] (tG 11)), oG 3 (.as (tG 12))]
noncomputable def f72_r4 : List EOper := [oG 13 (.mv (tG 3)), oG 14 (.len (tG 13)), oG 15 (.mv (cG 0))]
noncomputable def f72_r5 : List EOper := [oG 16 (.bin .lss (tG 15) (tG 14))]
noncomputable def f72_r6 : List EOper := [oG 17 (.mv (tG 15)), oG 4 (.as (tG 17))]
noncomputable def f72_r7 : List EOper := [oG 18 (.mv (tG 3)), oG 19 (.mv (tG 4)), oG 20 (.mv (tG 4)), oG 21 (.bin .add (tG 20) (cG 1)), oG 22 (.mv (tG 0)), oG 23 (.mv (tG 4)), oG 24 (.bin .add (tG 23) (cG 1)), oG 25 (.iads 1 (tG 22) (tG 24)), oG 26 (.ld (tG 25)), oG 27 (.bin .mul (tG 21) (tG 26)), oG 28 (.iads 1 (tG 18) (tG 19)), ⟨none, none, .st 1 (tG 28) (tG 27)⟩]
noncomputable def f72_r8 : List EOper := [oG 29 (.bin .add (tG 15) (cG 1)), oG 15 (.mv (tG 29))]
noncomputable def f72_l0 : EC := (.seq (.reg f72_r5) (.seq (.cond (tG 16) .skip (.exit 0)) (.seq (.block 1 (.seq (.reg f72_r6) (.reg f72_r7))) (.reg f72_r8))))
noncomputable def f72_r9 : List EOper := [oG 30 (.mv (tG 3)), oG 2 (.as (tG 30))]
noncomputable def f72_c : EC := (.seq (.reg f72_r0) (.seq (.seq (.reg f72_r1) (.cond (tG 7) (.seq (.reg f72_r2) .ret) .skip)) (.seq (.reg f72_r3) (.seq (.seq (.reg f72_r4) (.block 0 (.loop f72_l0))) (.seq (.reg f72_r9) .ret)))))
noncomputable def f72 : EF := ⟨31, [.tmp (.ofNat 2)], f72_c, none⟩
section
variable {fs : T EF} {h : H} {v w : V} {L M : List Int} {n k : Nat}
end
end Go.Ev
namespace Go.Ev
open Go Go.RowKit
noncomputable def f70_r0 : List EOper := [oG 4 (.as (.c .sn)), oG 5 (.as (cG 0))]
noncomputable def f70_r1 : List EOper := [oG 8 (.mv (tG 0)), oG 9 (.call (fG 14) [(tG 8)]), oG 6 (.as (tG 9))]
noncomputable def f70_r2 : List EOper := [oG 10 (.mv (tG 6)), oG 11 (.bin .neq (tG 10) (cG 0))]
noncomputable def f70_r3 : List EOper := [oG 12 (.mv (tG 6)), oG 4 (.as (.c .sn)), oG 5 (.as (tG 12))]
noncomputable def f70_r4 : List EOper := [oG 13 (.mv (tG 1)), oG 14 (.mv (tG 0)), oG 15 (.call (tG 13) [(tG 14)]), oG 7 (.as (tG 15))]
noncomputable def f70_r5 : List EOper := [oG 16 (.mv (tG 7)), oG 17 (.call (fG 56) [(tG 16)]), oG 18 (.not (tG 17))]
noncomputable def f70_r6 : List EOper := [oG 4 (.as (.c .sn)), oG 5 (.as (cG 8))]
noncomputable def f70_r7 : List EOper := [oG 19 (.mv (tG 7)), oG 4 (.as (tG 19)), oG 5 (.as (cG 0))]
noncomputable def f70_c : EC := (.seq (.reg f70_r0) (.seq (.seq (.reg f70_r1) (.seq (.reg f70_r2) (.cond (tG 11) (.seq (.reg f70_r3) .ret) .skip))) (.seq (.reg f70_r4) (.seq (.seq (.reg f70_r5) (.cond (tG 18) (.seq (.reg f70_r6) .ret) .skip)) (.seq (.reg f70_r7) .ret)))))
noncomputable def f70 : EF := ⟨20, [.tmp (.ofNat 4), .tmp (.ofNat 5)], f70_c, none⟩
noncomputable def f24_r0 : List EOper := [oG 2 (.as (.c .sn)), oG 3 (.as (cG 0))]
noncomputable def f24_r1 : List EOper := [oG 4 (.mv (tG 0)), oG 5 (.call (fG 70) [(tG 4), (fG 71)]), oG 6 (.ext (tG 5) 0), oG 7 (.ext (tG 5) 1), oG 2 (.as (tG 6)), oG 3 (.as (tG 7))]
noncomputable def f24_c : EC := (.seq (.reg f24_r0) (.seq (.reg f24_r1) .ret))
noncomputable def f24 : EF := ⟨8, [.tmp (.ofNat 2), .tmp (.ofNat 3)], f24_c, none⟩
noncomputable def f25_r0 : List EOper := [oG 2 (.as (.c .sn)), oG 3 (.as (cG 0))]
noncomputable def f25_r1 : List EOper := [oG 4 (.mv (tG 0)), oG 5 (.call (fG 70) [(tG 4), (fG 72)]), oG 6 (.ext (tG 5) 0), oG 7 (.ext (tG 5) 1), oG 2 (.as (tG 6)), oG 3 (.as (tG 7))]
noncomputable def f25_c : EC := (.seq (.reg f25_r0) (.seq (.reg f25_r1) .ret))
noncomputable def f25 : EF := ⟨8, [.tmp (.ofNat 2), .tmp (.ofNat 3)], f25_c, none⟩
noncomputable def f4_r0 : List EOper := [oG 3 (.box 2 (tG 1)), oG 4 (.as (.c (.b false)))]
noncomputable def f4_r1 : List EOper := [oG 15 (.mv (tG 0)), oG 16 (.call (fG 26) [(tG 15)]), oG 5 (.as (tG 16))]
noncomputable def f4_r2 : List EOper := [oG 6 (.as (cG 0))]
noncomputable def f4_r3 : List EOper := [oG 17 (.mv (tG 6)), oG 18 (.bin .lss (tG 17) (cG 2))]
noncomputable def f4_r4 : List EOper := [oG 22 (.mv (tG 5)), oG 23 (.ldn 2 (tG 3)), oG 24 (.call (fG 18) [(tG 22), (tG 23)]), oG 21 (.mv (tG 24)), oG 25 (.ext (tG 21) 0), oG 26 (.ext (tG 21) 1), oG 7 (.alloc 2 [(.i .i64 (.ofNat 0)), (.i .i64 (.ofNat 0))]), ⟨none, none, .st 2 (tG 7) (tG 25)⟩, oG 8 (.as (tG 26))]
noncomputable def f4_r5 : List EOper := [oG 27 (.ldn 2 (tG 3)), oG 28 (.call (fG 27) [(tG 27), (cG 64)]), oG 29 (.not (tG 28))]
noncomputable def f4_r6 : List EOper := [oG 30 (.mv (tG 8)), oG 31 (.bin .neq (tG 30) (cG 1)), oG 32 (.mv (tG 31)), gG 33 32 false (.ldn 2 (tG 7)), gG 34 32 false (.build [(.i .i64 (.ofNat 0)), (.i .i64 (.ofNat 0))] []), gG 35 32 false (.eqk (.many [(some .i64), (some .i64)]) true (tG 33) (tG 34)), oG 36 (.pick (tG 32) (.c (.b true)) (tG 35))]
noncomputable def f4_r7 : List EOper := [oG 4 (.as (.c (.b false)))]
noncomputable def f4_r8 : List Stage := [⟨[oG 37 (.mv (tG 8)), oG 38 (.bin .neq (tG 37) (cG 0)), oG 39 (.mv (tG 38)), gG 40 39 false (.ldn 2 (tG 7)), gG 41 39 false (.mv (tG 5)), gG 42 39 false (.ldn 2 (tG 3))], [], (some (gG 43 39 false (.call (fG 28) [(tG 41), (tG 42)]))), []⟩, ⟨[gG 44 39 false (.eqk (.many [(some .i64), (some .i64)]) true (tG 40) (tG 43)), oG 45 (.pick (tG 39) (.c (.b true)) (tG 44))], [gG 40 39 false (.ldn 2 (tG 7))], none, []⟩]
noncomputable def f4_r9 : List EOper := [oG 4 (.as (.c (.b false)))]
noncomputable def f4_r10 : List EOper := [oG 46 (.ldn 2 (tG 3)), oG 47 (.call (fG 29) [(tG 46), (cG 64)]), ⟨none, none, .st 2 (tG 3) (tG 47)⟩]
noncomputable def f4_r11 : List EOper := [oG 19 (.mv (tG 6)), oG 20 (.bin .add (tG 19) (cG 1)), oG 6 (.as (tG 20))]
noncomputable def f4_l0 : EC := (.seq (.seq (.reg f4_r3) (.cond (tG 18) .skip (.exit 0))) (.seq (.block 1 (.seq (.reg f4_r4) (.seq (.seq (.reg f4_r5) (.cond (tG 29) (.seq (.reg f4_r6) (.cond (tG 36) (.seq (.reg f4_r7) .ret) .skip)) (.seq (.draw f4_r8) (.cond (tG 45) (.seq (.reg f4_r9) .ret) .skip)))) (.reg f4_r10)))) (.reg f4_r11)))
noncomputable def f4_r12 : List EOper := [oG 49 (.mv (tG 5)), oG 50 (.call (fG 24) [(tG 49)]), oG 48 (.mv (tG 50)), oG 51 (.ext (tG 48) 0), oG 52 (.ext (tG 48) 1), oG 9 (.as (tG 51)), oG 10 (.as (tG 52))]
noncomputable def f4_r13 : List EOper := [oG 54 (.mv (tG 5)), oG 55 (.call (fG 25) [(tG 54)]), oG 53 (.mv (tG 55)), oG 56 (.ext (tG 53) 0), oG 57 (.ext (tG 53) 1), oG 11 (.as (tG 56)), oG 12 (.as (tG 57))]
noncomputable def f4_r14 : List EOper := [oG 58 (.mv (tG 5)), oG 59 (.call (fG 30) [(tG 58)]), oG 60 (.mv (tG 5)), oG 61 (.call (fG 31) [(tG 60)]), oG 13 (.as (tG 59)), oG 14 (.as (tG 61))]
noncomputable def f4_r15 : List EOper := [oG 62 (.mv (tG 13)), oG 63 (.call (fG 32) [(tG 62)]), oG 64 (.mv (tG 63)), gG 65 64 true (.mv (tG 10)), gG 66 64 true (.bin .neq (tG 65) (cG 0)), gG 67 64 true (.mv (tG 66)), gG 68 67 false (.mv (tG 9)), gG 69 67 false (.mv (tG 13)), gG 70 67 false (.call (fG 33) [(tG 68), (tG 69)]), gG 71 67 false (.not (tG 70)), gG 72 64 true (.pick (tG 67) (.c (.b true)) (tG 71)), oG 73 (.pick (tG 64) (tG 72) (.c (.b false))), oG 74 (.mv (tG 73)), gG 75 74 false (.mv (tG 13)), gG 76 74 false (.call (fG 32) [(tG 75)]), gG 77 74 false (.not (tG 76)), gG 78 74 false (.mv (tG 77)), gG 79 78 true (.mv (tG 10)), gG 80 78 true (.bin .neq (tG 79) (cG 8)), gG 81 78 true (.mv (tG 80)), gG 82 81 false (.mv (tG 9)), gG 83 81 false (.len (tG 82)), gG 84 81 false (.bin .neq (tG 83) (cG 0)), gG 85 78 true (.pick (tG 81) (.c (.b true)) (tG 84)), gG 86 74 false (.pick (tG 78) (tG 85) (.c (.b false))), oG 87 (.pick (tG 74) (.c (.b true)) (tG 86))]
noncomputable def f4_r16 : List EOper := [oG 4 (.as (.c (.b false)))]
noncomputable def f4_r17 : List EOper := [oG 88 (.mv (tG 14)), oG 89 (.call (fG 32) [(tG 88)]), oG 90 (.mv (tG 89)), gG 91 90 true (.mv (tG 12)), gG 92 90 true (.bin .eql (tG 91) (cG 0)), oG 93 (.pick (tG 90) (tG 92) (.c (.b false))), oG 94 (.mv (tG 93)), gG 95 94 true (.mv (tG 11)), gG 96 94 true (.mv (tG 14)), gG 97 94 true (.call (fG 33) [(tG 95), (tG 96)]), oG 98 (.pick (tG 94) (tG 97) (.c (.b false))), oG 99 (.mv (tG 98)), gG 100 99 false (.mv (tG 14)), gG 101 99 false (.call (fG 32) [(tG 100)]), gG 102 99 false (.not (tG 101)), gG 103 99 false (.mv (tG 102)), gG 104 103 true (.mv (tG 12)), gG 105 103 true (.bin .eql (tG 104) (cG 8)), gG 106 99 false (.pick (tG 103) (tG 105) (.c (.b false))), gG 107 99 false (.mv (tG 106)), gG 108 107 true (.mv (tG 11)), gG 109 107 true (.len (tG 108)), gG 110 107 true (.bin .eql (tG 109) (cG 0)), gG 111 99 false (.pick (tG 107) (tG 110) (.c (.b false))), oG 112 (.pick (tG 99) (.c (.b true)) (tG 111)), oG 113 (.mv (tG 112)), gG 114 113 true (.call (fG 17) []), oG 115 (.pick (tG 113) (tG 114) (.c (.b false))), oG 4 (.as (tG 115))]
noncomputable def f4_c : EC := (.seq (.reg f4_r0) (.seq (.reg f4_r1) (.seq (.seq (.reg f4_r2) (.block 0 (.loop f4_l0))) (.seq (.reg f4_r12) (.seq (.reg f4_r13) (.seq (.reg f4_r14) (.seq (.seq (.reg f4_r15) (.cond (tG 87) (.seq (.reg f4_r16) .ret) .skip)) (.seq (.reg f4_r17) .ret))))))))
noncomputable def f4 : EF := ⟨116, [.tmp (.ofNat 4)], f4_c, none⟩
section
variable {fs : T EF} {h : H} {v w : V} {L M : List Int} {a b : Int}
structure CallsVl (fs : T EF) : Prop extends CallsVa fs, CallsF fs where
  c100 : fs.get (K.ofNat 100) = some f100
  c76 : fs.get (K.ofNat 76) = some f76
  c70 : fs.get (K.ofNat 70) = some f70
  c71 : fs.get (K.ofNat 71) = some f71
  c72 : fs.get (K.ofNat 72) = some f72
  c24 : fs.get (K.ofNat 24) = some f24
  c25 : fs.get (K.ofNat 25) = some f25
  c30 : fs.get (K.ofNat 30) = some f30
  c31 : fs.get (K.ofNat 31) = some f31
  c32 : fs.get (K.ofNat 32) = some f32
  c33 : fs.get (K.ofNat 33) = some f33
  c26 : fs.get (K.ofNat 26) = some f26
  c27 : fs.get (K.ofNat 27) = some f27
  c28 : fs.get (K.ofNat 28) = some f28
  c29 : fs.get (K.ofNat 29) = some f29
  c18 : fs.get (K.ofNat 18) = some f18
  aw : ∀ (h : H) (P : V → H → Prop), CallP fs (.fn (K.ofNat 17) []) [] h P = P (.b true) h
theorem key_00 : keyEq (.many [some .i64, some .i64]) (.agg [.i .i64 0, .i .i64 0]) (.agg [.i .i64 0, .i .i64 0]) = some true := rfl
theorem fr_key {q : Rat} {M N : Nat} (h : Fr' q M N) (hM : M ≤ M63) (hN : N ≤ M63) : keyEq (.many [some .i64, some .i64]) (.agg (frL q)) (.agg (frL q)) = some true := by
  have a := h.1
  have b := h.2
  unfold M63 at hM hN
  unfold frL
  rw [keyEq_2 (in63 (by omega) (by omega)) (in63 (by omega) (by omega)) (in63 (by omega) (by omega)) (in63 (by omega) (by omega))]
  simp
end
end Go.Ev
