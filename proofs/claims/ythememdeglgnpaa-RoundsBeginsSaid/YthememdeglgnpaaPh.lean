/-
  Rounds: the rounds that are left, searched: the recursion.
  Rounds: lists of schedules; the one with the fewest breaks.
  Rounds: all games in a row (slices.Concat), the whole schedule (completed).
  Rounds: the whole schedule (completed), Complete.
  Rounds: R.Can; Complete.
  Rounds: what the search finds is a schedule (plain).
  Rounds: both searches find alike (plain).
  Rounds: the fewest breaks, version by version.
  Rounds: a schedule with the fewest breaks of all that play alike.
  Rounds: at least n - 2 breaks; with just these, another team plays the other way round.
  Rounds: the fewest breaks (Least), the other way round (exchanged), numbers of teams.
  Rounds: the law RoundsWerra.
  Rounds: the law RoundsCompletes.
  Rounds: beginnings in slices that are only read, tight ones too.
  Rounds: Complete, of a tight slice too.
-/
import Derived.Test.YthememdeglgnpaaPg
import Derived.Test.YthememdeglgnpaaPf
import Derived.Test.YthememdeglgnpaaPe
import Derived.Test.YthememdeglgnpaaPd
namespace Go.Ev
open Go Go.RowKit
theorem ld1_r {id : K} {v : V} {h : H} (hb : h.get id = .cells 1 [v]) : readP h (.p id 0) one? = some v := by
  show (h.get id).onC none (fun n cs => one? cs n 0) = _
  rw [hb]; rfl
theorem st10 {h : H} {id : K} {cs0 : List V} {T : List Nat} (hb : h.get id = .cells 10 cs0) (hl : cs0.length = 10) (hT : T.length = 10) : storeV h 10 (.p id 0) (.agg (T.map uE)) = .ok undefV (h.put id (.cells 10 (T.map uE))) := by
  rw [store_p hb (cells10 hT) (by omega), setMany_eq _ _ _ (by simp; omega)]
  congr 3
  simp [hl, hT]
theorem findSome_at {α β : Type} {g : α → Option β} {b : β} : ∀ {Y : List α} {i : Nat} (hi : i < Y.length), (∀ j (hj : j < Y.length), j < i → g Y[j] = none) → g Y[i] = some b → Y.findSome? g = some b
  | [], i, hi, _, _ => absurd hi (by simp)
  | y :: Y, 0, _, _, h => by
    have h : g y = some b := h
    rw [List.findSome?_cons, h]
  | y :: Y, i + 1, hi, hn, h => by
    have h0 : g y = none := hn 0 (by simp) (by omega)
    rw [List.findSome?_cons, h0]
    exact findSome_at (i := i) (by simpa using hi) (fun j hj hji => hn (j + 1) (by simpa using hj) (by omega)) h
structure CallsCm (fs : T EF) : Prop extends CallsPn fs, CallsAa fs where
  p87 : fs.get (K.ofNat 87) = some f87
  p89 : fs.get (K.ofNat 89) = some f89
  p90 : fs.get (K.ofNat 90) = some f90
def f89_J (h4 : H) (idn idW idC id4 id5 id6 id9 : K) (v : V) (T : List Nat) (r : List (Int × Int)) (k : Nat) (fr : Fr) (h1 : H) : Prop :=
  k ≤ r.length ∧ h4.nx.nat ≤ h1.nx.nat ∧ HC h1 ∧ (∀ x : K, x.nat < h4.nx.nat → x ≠ id9 → h1.get x = h4.get x) ∧ ∃ T', addR T r = addR T' (r.drop k) ∧ MT T' ∧ Ar uE h1 id9 T' ∧
    fr.get (K.ofNat 1) = some (.p idn 0) ∧ fr.get (K.ofNat 2) = some (.p idW 0) ∧ fr.get (K.ofNat 3) = some (.p idC 0) ∧ fr.get (K.ofNat 4) = some (.p id4 0) ∧ fr.get (K.ofNat 5) = some (.p id5 0) ∧ fr.get (K.ofNat 6) = some (.p id6 0) ∧ fr.get (K.ofNat 8) = some (v) ∧ fr.get (K.ofNat 9) = some (.p id9 0) ∧ fr.get (K.ofNat 29) = some (v) ∧ fr.get (K.ofNat 30) = some (.i .i64 (r.length : Int)) ∧ fr.get (K.ofNat 31) = some (.i .i64 (k : Int))
/-- What a call leaves. -/
def CPost (idn idW idC : K) (n : Nat) (h : H) (wv : V) (us : List V) (Q : List (List (Int × Int))) (o : Option (List (List (Int × Int)))) (h' : H) : Prop :=
  ∃ wv' us', CS idn idW idC n h' wv' us' (Q ++ o.getD []) ∧ KC idW h wv h' wv' ∧ ∀ x, Bo idn idW idC wv' us' x → Bo idn idW idC wv us x ∨ h.nx.nat ≤ x.nat
def f89_L (idn idW idC : K) (n f a : Nat) (M : List Nat) (Y : List (List (Int × Int))) (hD : H) (wv : V) (us : List V) (Q : List (List (Int × Int))) (idp lp : K) (i : Nat) (S : K → Prop) (h1 : H) : Prop :=
  ∃ wv1 us1, CS idn idW idC n h1 wv1 us1 Q ∧ idp.nat ≤ h1.nx.nat ∧ (∀ x : K, x.nat < idp.nat → x ≠ idW → NotIn x wv → h1.get x = hD.get x ∧ NotIn x wv1) ∧ (∀ x, S x → idp.nat ≤ x.nat) ∧ (∀ x, Bo idn idW idC wv1 us1 x → ¬ S x ∧ x ≠ lp) ∧ (∀ x, Bo idn idW idC wv1 us1 x → Bo idn idW idC wv us x ∨ idp.nat ≤ x.nat) ∧ ∀ j (hj : j < Y.length), j < i → tryC a (cmp n Y f) M Y[j] = none
def f89_D (idn idW idC : K) (n f : Nat) (M : List Nat) (Y : List (List (Int × Int))) (h : H) (wv : V) (us : List V) (Q : List (List (Int × Int))) (id5 : K) (e : Ex) (h1 : H) : Prop :=
  e = .ret ∧ h1.get id5 = .cells 1 [.b true] ∧ ∃ R, cmp n Y (f + 1) M = some R ∧ CPost idn idW idC n h wv us Q (some R) h1
section
variable {fs : T EF}
theorem complete_call {n : Nat} {idn idW idC : K} (kk : CallsCm fs) (hn2 : 2 ≤ n) (hn : n ≤ 10) (he : n % 2 = 0) :
    ∀ (f : Nat) (T : List Nat) (Q : List (List (Int × Int))) (h : H) (wv : V) (us : List V), MT T → unm n (T.getD 0 0) ≤ f → Q.length + f ≤ 100 → CS idn idW idC n h wv us Q →
      CallP fs (cmpV idn idW idC) [.agg (T.map uE)] h fun r h' => r = .b (cmp n (prE n (n / 2) [] 0) f T).isSome ∧ CPost idn idW idC n h wv us Q (cmp n (prE n (n / 2) [] 0) f T) h' := by
  have hYm : ∀ r ∈ prE n (n / 2) [] 0, Gm n r ∧ r ≠ [] ∧ r.length ≤ 5 := fun r hr => by
    obtain ⟨m', s⟩ := prE_mem (st_0 hn he) r hr
    have hs := s.sum
    refine ⟨s.gm, fun e => ?_, by omega⟩
    subst e
    simp at hs
    omega
  intro f
  induction f using Nat.strongRecOn with
  | _ f ih =>
    intro T Q h wv us hT hu hQ C
    refine callP_of (ef := f89) kk.p89 rfl ?_
    show Ret fs f89 [.agg (T.map uE), .p idn 0, .p idW 0, .p idC 0] h _
    apply ret_of rfl
    show W fs none f89_c _ _ _
    unfold f89_c
    have hcs := cells10 hT.len
    have gA : Grow h.nx.nat h (h.new (.cells 10 (T.map uE))) := Grow.new (Nat.le_refl _) _
    have nA := nx_new h (.cells 10 (T.map uE))
    have eA : (h.new (.cells 10 (T.map uE))).get h.nx = .cells 10 (T.map uE) := get_new_same
    generalize hhA : h.new (.cells 10 (T.map uE)) = hA at *
    have gB : Grow hA.nx.nat hA (hA.new (.cells 1 [.b false])) := Grow.new (Nat.le_refl _) _
    have nB := nx_new hA (.cells 1 [.b false])
    have eB : (hA.new (.cells 1 [.b false])).get hA.nx = .cells 1 [.b false] := get_new_same
    simp (disch := omega) only [f89_r0, w_reg, w_seq, w_scope, seqK_n, x_nil, x_alloc, x_box, kx, rvP_ok, ev_t, getV_some, putD_some, oGet_s, frame_4, getK_set, Nat.reduceEqDiff, ↓reduceIte, hcs, hhA]
    generalize hA.new (.cells 1 [.b false]) = hB at *
    have gAB : Grow h.nx.nat h hB := gA.trans (gB.low (by omega))
    have hcB := gAB.hc C.hc
    have l4 : loadV hB (.p h.nx 0) (many? 10) = .ok (.agg (T.map uE)) hB := Ar.ldn (e := uE) (L := T) (by unfold Ar; rw [hT.len]; exact (gB.old _ (by omega)).trans eA) hT.len.symm
    have ln : loadV hB (.p idn 0) one? = .ok (.i .i64 (n : Int)) hB := load_p ((gAB.old _ (C.lt (.inl rfl))).trans C.eN) rfl
    simp (disch := omega) only [f89_r1, x_ld, x_ldn, x_call, kx, rvP_ok, ev_t, ev_c, evs_nil, evs_cons, getV_some, putD_some, of0, getK_set, Nat.reduceEqDiff, ↓reduceIte, l4, ln]
    refine (callP_0 (ef := f90) kk.p90 rfl (f90_ret kk.p76 hT (by omega) hn)).mono ?_
    rintro r hC ⟨rfl, gC⟩
    have hcC := gC.hc hcB
    have c2 : cellsN 2 (msG (mss n (T.getD 0 0))) = some (match mss n (T.getD 0 0) with | none => [.i .i64 0, .i .i64 0] | some a => [.i .i64 0, .i .i64 (a : Int)]) := by
      cases mss n (T.getD 0 0) <;> rfl
    have gD : Grow hC.nx.nat hC ((hC.new (.cells 2 [.i .i64 0, .i .i64 0])).put hC.nx (.cells 2 (match mss n (T.getD 0 0) with | none => [.i .i64 0, .i .i64 0] | some a => [.i .i64 0, .i .i64 (a : Int)]))) := (Grow.new (Nat.le_refl _) _).trans (Grow.put (Nat.le_refl _) (by have := nx_new hC (.cells 2 [.i .i64 0, .i .i64 0]); omega) _)
    have nD : ((hC.new (.cells 2 [.i .i64 0, .i .i64 0])).put hC.nx (.cells 2 (match mss n (T.getD 0 0) with | none => [.i .i64 0, .i .i64 0] | some a => [.i .i64 0, .i .i64 (a : Int)]))).nx.nat = hC.nx.nat + 1 := nx_new hC (.cells 2 [.i .i64 0, .i .i64 0])
    have eD : ((hC.new (.cells 2 [.i .i64 0, .i .i64 0])).put hC.nx (.cells 2 (match mss n (T.getD 0 0) with | none => [.i .i64 0, .i .i64 0] | some a => [.i .i64 0, .i .i64 (a : Int)]))).get hC.nx = .cells 2 (match mss n (T.getD 0 0) with | none => [.i .i64 0, .i .i64 0] | some a => [.i .i64 0, .i .i64 (a : Int)]) := get_put_same
    have sD : storeV (hC.new (.cells 2 [.i .i64 0, .i .i64 0])) 2 (.p hC.nx 0) (msG (mss n (T.getD 0 0))) = .ok undefV ((hC.new (.cells 2 [.i .i64 0, .i .i64 0])).put hC.nx (.cells 2 (match mss n (T.getD 0 0) with | none => [.i .i64 0, .i .i64 0] | some a => [.i .i64 0, .i .i64 (a : Int)]))) := by
      rw [store_p get_new_same c2 (Nat.le_refl 2)]
      cases mss n (T.getD 0 0) <;> rfl
    simp (disch := omega) only [f89_r2, w_skip, w_reg, w_seq, w_cond, seqK_n, ckB_b, cbB_b, true_and, x_nil, x_mv, x_as, x_alloc, x_st, x_not, x_ext, kx, rvP_ok, okv_some, ev_t, getV_some, putD_some, putD_none, onB_b, onTup_t, nth0, nth1, getK_set, Nat.reduceEqDiff, ↓reduceIte, sD]
    have hBC := gC.nx
    generalize hid6 : hC.nx = id6 at *
    generalize (hC.new (.cells 2 [.i .i64 0, .i .i64 0])).put id6 (.cells 2 (match mss n (T.getD 0 0) with | none => [.i .i64 0, .i .i64 0] | some a => [.i .i64 0, .i .i64 (a : Int)])) = hD at *
    have gE : Grow h.nx.nat h hD := (gAB.trans (gC.low (by omega))).trans (gD.low (by omega))
    have e4D : hD.get h.nx = .cells 10 (T.map uE) := by rw [gD.old _ (by omega), gC.old _ (by omega), gB.old _ (by omega)]; exact eA
    have e5D : hD.get hA.nx = .cells 1 [.b false] := by rw [gD.old _ (by omega), gC.old _ (by omega)]; exact eB
    have CD := C.grow gE
    have KD : KC idW h wv hD wv := KC.same gE.nx fun x hx => gE.old x hx
    have hcD := gE.hc C.hc
    have h45 : h.nx.nat < hA.nx.nat := by omega
    have h56 : hA.nx.nat < id6.nat := by omega
    have hltB : ∀ x, Bo idn idW idC wv us x → x.nat < h.nx.nat := fun x hx => C.lt hx
    generalize hid4 : h.nx = id4 at *
    generalize hid5 : hA.nx = id5 at *
    cases hm : mss n (T.getD 0 0) with
    | none =>
      have hcm : cmp n (prE n (n / 2) [] 0) f T = some [] := by
        cases f with
        | zero =>
          show (match mss n (T.getD 0 0) with | none => some [] | some _ => none) = _
          rw [hm]
        | succ f =>
          show (match mss n (T.getD 0 0) with | none => some [] | some a => _) = _
          rw [hm]
      rw [hcm]
      have s5 := st1 (h := hD) (id := id5) (a := .b false) (c := .b true) e5D rfl
      have r5 : readP (hD.put id5 (.cells 1 [.b true])) (.p id5 0) one? = some (.b true) := ld1_r get_put_same
      simp (disch := omega) only [f89_r3, f89_rs, w_ret, seqK_n, seqK_r, retK_r, x_nil, x_st, kx, rvP_ok, ev_t, ev_c, getV_some, putD_none, oGet_s, readRs_nil, readRs_c, retV_1, Option.some.injEq, exists_eq_left', getK_set, Nat.reduceEqDiff, ↓reduceIte, s5, r5]
      have gP : Grow id4.nat hD (hD.put id5 (.cells 1 [.b true])) := Grow.put (by omega) (by omega) _
      refine ⟨rfl, wv, us, ?_, KC.same (gE.trans gP).nx fun x hx => (gE.trans gP).old x (by rw [hid4] at hx; exact hx), fun x hx => .inl hx⟩
      rw [show Q ++ (some ([] : List (List (Int × Int)))).getD [] = Q from List.append_nil Q]
      exact C.keep (gP.hc hcD) fun x hx => (gE.trans gP).old x (hltB x hx)
    | some a =>
      rw [hm] at eD
      obtain ⟨f, rfl⟩ : ∃ f', f = f' + 1 := ⟨f - 1, by have := unm_pos hm; omega⟩
      have hcm : cmp n (prE n (n / 2) [] 0) (f + 1) T = (prE n (n / 2) [] 0).findSome? (tryC a (cmp n (prE n (n / 2) [] 0) f) T) := by
        show (match mss n (T.getD 0 0) with | none => some [] | some a => _) = _
        rw [hm]
      have hyl := pair_yields (fs := fs) (idn := hD.nx) (n := n) kk.toCallsPn hn2 hn he
      obtain ⟨ma1, ma2, _, _⟩ := mss_some hm
      generalize prE n (n / 2) [] 0 = Y at *
      have lnD : loadV hD (.p idn 0) one? = .ok (.i .i64 (n : Int)) hD := load_p CD.eN rfl
      simp (disch := omega) only [f89_r4, x_ld, x_call, kx, rvP_ok, ev_t, ev_c, evs_nil, evs_cons, getV_some, putD_some, getK_set, Nat.reduceEqDiff, ↓reduceIte, Bool.false_eq_true, Bool.not_true, Option.isSome_some, lnD]
      refine (callP_0 (ef := f91) kk.p91 rfl (f91_ret hcD)).mono ?_
      rintro r hE ⟨rfl, eE, nE, gE'⟩
      have hcE := gE'.hc hcD
      generalize hidp : hD.nx = idp at *
      simp (disch := omega) only [w_block, seqK_n, x_nil, kx, putD_some]
      generalize hfr : Go.Ev.T.set (K.ofNat 21) _ _ = fr6
      have f21' : fr6.get (K.ofNat 21) = some (.fn (K.ofNat 101) [.p idp 0]) := by rw [← hfr]; simp (disch := omega) only [getK_set, ↓reduceIte]
      have q1 : fr6.get (K.ofNat 1) = some (.p idn 0) := by rw [← hfr]; simp (disch := omega) only [getK_set, Nat.reduceEqDiff, ↓reduceIte]
      have q2 : fr6.get (K.ofNat 2) = some (.p idW 0) := by rw [← hfr]; simp (disch := omega) only [getK_set, Nat.reduceEqDiff, ↓reduceIte]
      have q3 : fr6.get (K.ofNat 3) = some (.p idC 0) := by rw [← hfr]; simp (disch := omega) only [getK_set, Nat.reduceEqDiff, ↓reduceIte]
      have q4 : fr6.get (K.ofNat 4) = some (.p id4 0) := by rw [← hfr]; simp (disch := omega) only [getK_set, Nat.reduceEqDiff, ↓reduceIte]
      have q5 : fr6.get (K.ofNat 5) = some (.p id5 0) := by rw [← hfr]; simp (disch := omega) only [getK_set, Nat.reduceEqDiff, ↓reduceIte]
      have q6 : fr6.get (K.ofNat 6) = some (.p id6 0) := by rw [← hfr]; simp (disch := omega) only [getK_set, Nat.reduceEqDiff, ↓reduceIte]
      clear hfr
      have CE : CS idn idW idC n hE wv us Q := CD.keep hcE fun x hx => gE'.old x (by have := CD.lt hx; rw [hidp] at this; exact this)
      have n1 := nx_new hE (rdyB fr6 [(K.ofNat 22)] f89_a0 f89_b0)
      have g1 : Grow hE.nx.nat hE (hE.new (rdyB fr6 [(K.ofNat 22)] f89_a0 f89_b0)) := Grow.new (Nat.le_refl _) _
      have h6p : id6.nat < idp.nat := by omega
      have hWlt : idW.nat < id4.nat := hltB _ (.inr (.inl rfl))
      have hwvlt : ∀ x : K, id4.nat ≤ x.nat → NotIn x wv := fun x hx => by
        apply Classical.byContradiction
        intro hno
        have := hltB x (.inr (.inr (.inr (.inl hno))))
        omega
      have hidE : hE.nx.nat = idp.nat + 1 := nE
      have hDE : ∀ x : K, x.nat < idp.nat → hE.get x = hD.get x := fun x hx => gE'.old x hx
      refine W_rangeP (n := n) (idn := idp) (Y := Y) rfl (by simp (disch := omega) only [ev_t, getV_some, f21']) hyl hcE eE
        (f89_L idn idW idC n f a T Y hD wv us Q idp hE.nx) (f89_D idn idW idC n f T Y h wv us Q id5) ?_ ?_ ?_ ?_ ?_
      · rintro i S S' h1 h2 ⟨wv1, us1, C1, k0, k1, k2, k3, k4, k5⟩ w1 w2 w3 w4
        refine ⟨wv1, us1, C1.keep w2 fun x hx => w3 x (C1.lt hx) (k3 x hx).1, by omega, fun x hx hx2 hx3 => ?_, fun x hx => ?_, fun x hx => ⟨fun hs => ?_, (k3 x hx).2⟩, k4, k5⟩
        · obtain ⟨p1, p2⟩ := k1 x hx hx2 hx3
          exact ⟨(w3 x (by omega) (fun hs => by have := k2 x hs; omega)).trans p1, p2⟩
        · rcases w4 x hx with w | w
          · exact k2 x w
          · omega
        · rcases w4 x hs with w | w
          · exact (k3 x hx).1 w
          · have := C1.lt hx; omega
      · refine ⟨wv, us, CE.grow g1, by omega, fun x hx hx2 hx3 => ⟨(g1.old x (by omega)).trans (hDE x hx), hx3⟩, fun x hx => by have hx : x = idp := hx; rw [hx]; exact Nat.le_refl _, fun x hx => ⟨fun hs => ?_, fun e => ?_⟩, fun x hx => .inl hx, fun j hj hj2 => by omega⟩
        · have hs : x = idp := hs
          have := hltB x hx
          rw [hs] at this; omega
        · have := hltB x hx
          rw [e] at this; omega
      · rintro i S h1 h2 v hi ⟨wv1, us1, C1, k0, k1, k2, k3, k4, k5⟩ hc1 hG hlp hb hSl hSlp sv ov
        obtain ⟨yg, yne, yl⟩ := hYm _ (List.getElem_mem hi)
        have C2 := C1.grow hG
        have hG2 := hG.nx
        rw [show ∀ Q fr h, W fs (some hE.nx) f89_a0 Q fr h = Go.Ev.X fs f89_r5 (Q .normal) fr h from fun _ _ _ => rfl]
        simp (disch := omega) only [f89_r5, rndA_n, x_nil, x_as, ev_t, getV_some, putD_some, getK_set, ↓reduceIte]
        refine ⟨hb, ?_⟩
        generalize hlpE : hE.nx = lp at *
        have hlp2 : lp.nat < h2.nx.nat := by omega
        have b3 : (h2.put lp (bsyB fr6 [(K.ofNat 22)] f89_a0 f89_b0)).get lp = bsyB fr6 [(K.ofNat 22)] f89_a0 f89_b0 := get_put_same
        have p3 : ∀ x : K, x ≠ lp → (h2.put lp (bsyB fr6 [(K.ofNat 22)] f89_a0 f89_b0)).get x = h2.get x := fun x e => get_put_other e
        have g3 : Grow lp.nat h2 (h2.put lp (bsyB fr6 [(K.ofNat 22)] f89_a0 f89_b0)) := Grow.put (Nat.le_refl _) hlp2 _
        have n3 : (h2.put lp (bsyB fr6 [(K.ofNat 22)] f89_a0 f89_b0)).nx.nat = h2.nx.nat := rfl
        generalize h2.put lp (bsyB fr6 [(K.ofNat 22)] f89_a0 f89_b0) = h3 at *
        have hc3 := g3.hc C2.hc
        have C3 := C2.keep hc3 fun x hx => p3 x (k3 x hx).2
        have hB1 : ∀ x, Bo idn idW idC wv1 us1 x → x.nat < h1.nx.nat := fun x hx => C1.lt hx
        have h13 : ∀ x : K, x.nat < h1.nx.nat → x ≠ lp → h3.get x = h1.get x := fun x hx e => (p3 x e).trans (hG.old x hx)
        have lpe : lp.nat = idp.nat + 1 := nE
        have kx3 : ∀ x : K, x.nat < idp.nat → x ≠ idW → NotIn x wv → h3.get x = hD.get x ∧ NotIn x wv1 := fun x hx hx2 hx3 => by
          obtain ⟨w1, w2⟩ := k1 x hx hx2 hx3
          exact ⟨(h13 x (by omega) (kNe (by omega))).trans w1, w2⟩
        have vge : ∀ id off m sz, v = .sl id off m sz → h1.nx.nat ≤ id.nat ∧ id.nat < h2.nx.nat := fun id off m sz e => ⟨ov _ _ _ _ e, sv.lt C2.hc _ _ _ _ e⟩
        have sv3 : Srp h3 v Y[i] := sv.srp.old fun id off m sz e => p3 id (kNe (by have := (vge _ _ _ _ e).1; omega)).symm
        have e4 : h3.get id4 = .cells 10 (T.map uE) := (kx3 id4 (by omega) (kNe hWlt).symm (hwvlt _ (Nat.le_refl _))).1.trans e4D
        have e5 : h3.get id5 = .cells 1 [.b false] := (kx3 id5 (by omega) (kNe (by omega)).symm (hwvlt _ (by omega))).1.trans e5D
        have e6 : h3.get id6 = .cells 2 [.i .i64 0, .i .i64 (a : Int)] := (kx3 id6 (by omega) (kNe (by omega)).symm (hwvlt _ (by omega))).1.trans eD
        have lpB : lp ≠ idW ∧ NotIn lp wv1 := by
          refine ⟨fun e => (k3 idW (.inr (.inl rfl))).2 e.symm, ?_⟩
          apply Classical.byContradiction
          intro hno
          exact (k3 lp (.inr (.inr (.inr (.inl hno))))).2 rfl
        have hSB : ∀ x, S x → x.nat < h1.nx.nat ∧ x ≠ idW ∧ NotIn x wv1 ∧ x ≠ lp := fun x hx => by
          refine ⟨hSl x hx, fun e => (k3 x (.inr (.inl e))).1 hx, ?_, fun e => hSlp (by rw [← e]; exact hx)⟩
          apply Classical.byContradiction
          intro hno
          exact (k3 x (.inr (.inr (.inr (.inl hno))))).1 hx
        have back : ∀ h5 wv5 us5, CS idn idW idC n h5 wv5 us5 Q → h3.nx.nat ≤ h5.nx.nat → (∀ x : K, x.nat < h3.nx.nat → x ≠ idW → NotIn x wv1 → h5.get x = h3.get x ∧ NotIn x wv5) → (∀ x, Bo idn idW idC wv5 us5 x → Bo idn idW idC wv1 us1 x ∨ h1.nx.nat ≤ x.nat) → tryC a (cmp n Y f) T Y[i] = none →
            h5.get lp = bsyB fr6 [(K.ofNat 22)] f89_a0 f89_b0 ∧ f89_L idn idW idC n f a T Y hD wv us Q idp lp (i + 1) S (h5.put lp (rdyB fr6 [(K.ofNat 22)] f89_a0 f89_b0)) ∧ Lv S h2 (h5.put lp (rdyB fr6 [(K.ofNat 22)] f89_a0 f89_b0)) := by
          intro h5 wv5 us5 C5 nx5 hk hBo htr
          have hBo2 : ∀ x, Bo idn idW idC wv5 us5 x → ¬ S x ∧ x ≠ lp := fun x hx => by
            rcases hBo x hx with w | w
            · exact k3 x w
            · exact ⟨fun hs => by have := hSl x hs; omega, (kNe (by omega)).symm⟩
          have hlp5 : lp.nat < h5.nx.nat := by omega
          have gP : Grow lp.nat h5 (h5.put lp (rdyB fr6 [(K.ofNat 22)] f89_a0 f89_b0)) := Grow.put (Nat.le_refl _) hlp5 _
          have hcP := gP.hc C5.hc
          refine ⟨(hk lp (by omega) lpB.1 lpB.2).1.trans b3, ⟨wv5, us5, C5.keep hcP fun x hx => get_put_other (hBo2 x hx).2, ?_, fun x hx hx2 hx3 => ?_, k2, hBo2, fun x hx => ?_, fun j hj hj2 => ?_⟩, ?_, hcP, fun x hx => ?_⟩
          · show idp.nat ≤ h5.nx.nat
            omega
          · obtain ⟨w1, w2⟩ := kx3 x hx hx2 hx3
            obtain ⟨w3, w4⟩ := hk x (by omega) hx2 w2
            exact ⟨by rw [get_put_other (kNe (by omega)), w3, w1], w4⟩
          · rcases hBo x hx with w | w
            · exact k4 x w
            · exact .inr (by omega)
          · by_cases e : j = i
            · subst e; exact htr
            · exact k5 j hj (by omega)
          · show h2.nx.nat ≤ h5.nx.nat
            omega
          · obtain ⟨w1, w2, w3, w4⟩ := hSB x hx
            rw [get_put_other w4, (hk x (by omega) w2 w3).1, p3 x w4]
        generalize hrr : Y[i] = rr at *
        have hpos : 0 < rr.length := List.length_pos_iff.2 yne
        have gnat : ∀ k (hk : k < rr.length), ∃ x y : Nat, rr[k].1 = (x : Int) ∧ rr[k].2 = (y : Int) ∧ x < n ∧ y < n ∧ x ≠ y := fun k hk => by
          obtain ⟨w1, w2, w3⟩ := yg _ (List.getElem_mem hk)
          exact ⟨rr[k].1.toNat, rr[k].2.toNat, by omega, by omega, by omega, by omega, by omega⟩
        obtain ⟨idq, q, u1, u2, _, _⟩ := sv3.at2 (i := 0) hpos
        have u1 : ∀ (k : IntKind) (h1 : H), iadsV 2 v (.i k 0) h1 = .ok (.p idq q) h1 := u1
        obtain ⟨x0, y0, hx0, hy0, lx0, ly0, _⟩ := gnat 0 hpos
        rw [hx0, hy0] at u2
        have hge0 : rr.getD 0 (0, 0) = ((x0 : Int), (y0 : Int)) := by rw [getD_at hpos, ← hx0, ← hy0]
        have l6 : loadV h3 (.p id6 0) (many? 2) = .ok (.agg [.i .i64 0, .i .i64 (a : Int)]) h3 := ldn2 e6
        have kq0 : keyEq (.many [some .i64, some .i64]) (.agg [.i .i64 (x0 : Int), .i .i64 (y0 : Int)]) (.agg [.i .i64 0, .i .i64 (a : Int)]) = some (decide (x0 = 0) && decide (y0 = a)) := kq (a := x0) (b := y0) (c := 0) (d := a) (by omega) (by omega) (by omega) (by omega)
        rw [show ∀ Q fr h, W fs (some lp) f89_b0 Q fr h = W fs (some lp) (.block 1 (.seq (.seq (.draw f89_r6) (.cond (.t (K.ofNat 27)) (.exit 1) .skip)) (.seq (.reg f89_r7) (.seq (.seq (.reg f89_r8) (.block 2 (.loop f89_l0))) (.seq (.reg f89_r13) (.seq (.seq (.reg f89_r14) (.cond (.t (K.ofNat 45)) (.seq (.reg f89_r15) .ret) .skip)) (.reg f89_r16))))))) Q fr h from fun _ _ _ => rfl]
        by_cases e0 : rr.getD 0 (0, 0) = (0, (a : Int))
        · have kb : (decide (x0 = 0) && decide (y0 = a)) = true := by
            rw [hge0] at e0
            injection e0 with z1 z2
            rw [decide_eq_true (by omega), decide_eq_true (by omega)]; rfl
          rw [kb] at kq0
          have l4 : loadV h3 (.p id4 0) (many? 10) = .ok (.agg (T.map uE)) h3 := Ar.ldn (e := uE) (L := T) (by unfold Ar; rw [hT.len]; exact e4) hT.len.symm
          have n4 := nx_new h3 (.cells 10 (List.replicate 10 (.i .u16 0)))
          have s10 := st10 (h := h3.new (.cells 10 (List.replicate 10 (.i .u16 0)))) (id := h3.nx) (T := T) get_new_same (by simp) hT.len
          have gF : Grow h3.nx.nat h3 ((h3.new (.cells 10 (List.replicate 10 (.i .u16 0)))).put h3.nx (.cells 10 (T.map uE))) := (Grow.new (Nat.le_refl _) _).trans (Grow.put (Nat.le_refl _) (by omega) _)
          have e9 : ((h3.new (.cells 10 (List.replicate 10 (.i .u16 0)))).put h3.nx (.cells 10 (T.map uE))).get h3.nx = .cells 10 (T.map uE) := get_put_same
          have n4' : ((h3.new (.cells 10 (List.replicate 10 (.i .u16 0)))).put h3.nx (.cells 10 (T.map uE))).nx.nat = h3.nx.nat + 1 := n4
          have lv : ∀ h1, lenV v h1 = .ok (.i .i64 (rr.length : Int)) h1 := sv3.len
          have hlt3 : ∀ x, Bo idn idW idC wv1 us1 x → x.nat < h3.nx.nat := fun x hx => C3.lt hx
          simp (disch := omega) only [f89_r6, f89_r7, f89_r8, w_skip, w_reg, w_draw, w_seq, w_cond, w_block, seqK_n, ckB_b, cbB_b, true_and, x_nil, x_mv, x_alloc, x_ldn, x_st, x_len, kx, kg, xg_nil, xg_mv, xg_ldn, xg_eqk, xg_iads, xd_cons, fresh_nil, stK_n, stay_nil, rvP_ok, okv_some, ev_t, ev_c, getV_some, putD_some, putD_none, oGet_s, of0, getK_set, Nat.reduceEqDiff, ↓reduceIte, Bool.false_eq_true, Bool.not_true, q4, q6, u1, u2, l6, kq0, cond_true, Bool.not_true, l4, s10, lv]
          generalize hid9 : h3.nx = id9 at *
          generalize (h3.new (.cells 10 (List.replicate 10 (.i .u16 0)))).put id9 (.cells 10 (T.map uE)) = h4 at *
          refine W_loop (f89_J h4 idn idW idC id4 id5 id6 id9 v T rr) (fun k => rr.length - k) ?_ 0 ⟨Nat.zero_le _, Nat.le_refl _, gF.hc hc3, fun _ _ _ => rfl, T, by rw [List.drop_zero], hT, by unfold Ar; rw [hT.len]; exact e9, by simp (disch := omega) only [getK_set, Nat.reduceEqDiff, ↓reduceIte, q1, q2, q3, q4, q5, q6, and_self, Int.natCast_zero]⟩
          rintro k fr hh ⟨hk, nxh, hch, hold, T', hadd, hT', hAr, g1, g2, g3, g4, g5, g6, g8, g9, g29, g30, g31⟩
          have hold3 : ∀ x : K, x.nat < id9.nat → hh.get x = h3.get x := fun x hx => (hold x (by omega) (kNe hx)).trans (gF.old x hx)
          have svh : Srp hh v rr := sv3.old fun id off m sz e => hold3 id (by have := (vge _ _ _ _ e).2; omega)
          unfold f89_l0
          by_cases hlt : k < rr.length
          · have d0 : decide ((k : Int) < (rr.length : Int)) = true := decide_eq_true (by omega)
            obtain ⟨idk, qk, w1, w2, _, _⟩ := svh.at2 hlt
            obtain ⟨x, y, hx, hy, lx, ly, lne⟩ := gnat k hlt
            rw [hx, hy] at w2
            have n5 := nx_new hh (.cells 2 [.i .i64 0, .i .i64 0])
            have s2 : storeV (hh.new (.cells 2 [.i .i64 0, .i .i64 0])) 2 (.p hh.nx 0) (.agg [.i .i64 (x : Int), .i .i64 (y : Int)]) = .ok undefV ((hh.new (.cells 2 [.i .i64 0, .i .i64 0])).put hh.nx (.cells 2 [.i .i64 (x : Int), .i .i64 (y : Int)])) := by
              rw [store_p (xs := [.i .i64 (x : Int), .i .i64 (y : Int)]) get_new_same rfl (Nat.le_refl 2)]; rfl
            have gG : Grow hh.nx.nat hh ((hh.new (.cells 2 [.i .i64 0, .i .i64 0])).put hh.nx (.cells 2 [.i .i64 (x : Int), .i .i64 (y : Int)])) := (Grow.new (Nat.le_refl _) _).trans (Grow.put (Nat.le_refl _) (by omega) _)
            have e11 : ((hh.new (.cells 2 [.i .i64 0, .i .i64 0])).put hh.nx (.cells 2 [.i .i64 (x : Int), .i .i64 (y : Int)])).get hh.nx = .cells 2 [.i .i64 (x : Int), .i .i64 (y : Int)] := get_put_same
            simp (disch := omega) only [f89_r9, f89_r10, w_skip, w_reg, w_seq, w_cond, w_block, seqK_n, ckB_b, cbB_b, true_and, x_nil, x_alloc, x_ldn, x_st, x_bin, x_iads, kx, rvP_ok, okv_some, ev_t, getV_some, putD_some, putD_none, bin_lss, of0, getK_set, Nat.reduceEqDiff, ↓reduceIte, g29, g30, g31, d0, w1, w2, s2]
            generalize hid11 : hh.nx = id11 at *
            generalize (hh.new (.cells 2 [.i .i64 0, .i .i64 0])).put id11 (.cells 2 [.i .i64 (x : Int), .i .i64 (y : Int)]) = hh2 at *
            have l11 : loadV hh2 (.p id11 0) (many? 2) = .ok (.agg [.i .i64 (x : Int), .i .i64 (y : Int)]) hh2 := ldn2 e11
            have hAr2 : Ar uE hh2 id9 T' := hAr.same (gG.old id9 (by omega))
            have gGn := gG.nx
            rw [hid11] at gGn
            simp (disch := omega) only [f89_r11, x_ldn, x_call, kx, rvP_ok, ev_t, ev_c, evs_nil, evs_cons, getV_some, putD_some, getK_set, Nat.reduceEqDiff, ↓reduceIte, g9, l11]
            refine (callP_0 (ef := f87) kk.p87 rfl (f87_ret (a := x) (b := y) kk.toCallsAa hAr2 hT'.len hT'.le (by omega) (by omega) lne (gG.hc hch))).mono ?_
            rintro r h5 ⟨rfl, hA5, nx5, old5, hc5⟩
            have hdr : rr.drop k = ((x : Int), (y : Int)) :: rr.drop (k + 1) := by
              rw [List.drop_eq_getElem_cons hlt, show rr[k] = ((x : Int), (y : Int)) from Prod.ext hx hy]
            rw [hdr] at hadd
            have hadd : addR T rr = if (T'.getD x 0).testBit y = true then none else addR (metT T' x y) (rr.drop (k + 1)) := hadd
            have kold4 : ∀ z : K, z.nat < h4.nx.nat → z ≠ id9 → h5.get z = h4.get z := fun z hz hz2 => (old5 z (by omega) hz2).trans ((gG.old z (by omega)).trans (hold z hz hz2))
            have kold : ∀ z : K, z.nat < id9.nat → h5.get z = h3.get z := fun z hz => (kold4 z (by omega) (kNe hz)).trans (gF.old z hz)
            cases hb : (T'.getD x 0).testBit y with
            | true =>
              rw [if_pos hb] at hadd
              simp (disch := omega) only [w_cond, w_exit, seqK_n, seqK_e, atK_e, loopK_e, ckB_b, cbB_b, true_and, rndK_n, x_nil, x_not, kx, rvP_ok, ev_t, getV_some, putD_some, onB_b, getK_set, Nat.reduceEqDiff, ↓reduceIte, Bool.not_true, Bool.not_false, Bool.not_true, Bool.not_false]
              exact back h5 wv1 us1 (C3.keep hc5 fun z hz => kold z (hlt3 z hz)) (by omega) (fun z hz _ hz3 => ⟨kold z hz, hz3⟩) (fun z hz => .inl hz) (by unfold tryC; rw [if_pos e0, hadd])
            | false =>
              rw [if_neg (by rw [hb]; simp)] at hadd hA5
              simp (disch := omega) only [f89_r12, w_skip, w_reg, w_cond, seqK_n, atK_n, loopK_n, ckB_b, cbB_b, true_and, x_nil, x_mv, x_bin, x_not, kx, rvP_ok, okv_some, ev_t, ev_c, getV_some, putD_some, bin_add, onB_b, of1, getK_set, Nat.reduceEqDiff, ↓reduceIte, Bool.false_eq_true, Bool.not_true, Bool.not_false, g31, Bool.not_true, Bool.not_false, fw64]
              exact ⟨k + 1, by omega, by omega, by omega, hc5, kold4, metT T' x y, hadd, hT'.add (by omega) (by omega), hA5, by simp (disch := omega) only [getK_set, Nat.reduceEqDiff, ↓reduceIte, g1, g2, g3, g4, g5, g6, g8, g9, g29, g30, and_self, Int.natCast_add, Int.natCast_one]⟩
          · have d0 : decide ((k : Int) < (rr.length : Int)) = false := decide_eq_false (by omega)
            have ek : k = rr.length := by omega
            rw [ek, List.drop_length] at hadd
            have hadd : addR T rr = some T' := hadd
            have Ch := C3.keep hch fun z hz => hold3 z (hlt3 z hz)
            have hnW : ∀ z : K, h1.nx.nat ≤ z.nat → NotIn z wv1 ∧ z ≠ idW := fun z hz => by
              refine ⟨?_, fun e => by have := hB1 idW (.inr (.inl rfl)); rw [e] at hz; omega⟩
              apply Classical.byContradiction
              intro hno
              have := hB1 z (.inr (.inr (.inr (.inl hno))))
              omega
            obtain ⟨wv5, h5, a1, s1, C5, K5, B5⟩ := Ch.push (by omega) svh (fun id off m sz e => hnW id (vge _ _ _ _ e).1)
            have lW : loadV hh (.p idW 0) one? = .ok wv1 hh := load_p Ch.eW rfl
            have hid9g : h1.nx.nat ≤ id9.nat := by omega
            have l9g := (K5.old id9 (by omega) (hnW id9 hid9g).2 (hnW id9 hid9g).1).1
            simp (disch := omega) only [f89_r9, f89_r13, w_reg, w_seq, w_cond, w_exit, seqK_n, seqK_e, atK_e, loopK_e, ckB_b, cbB_b, true_and, x_nil, x_mv, x_bslice, x_ld, x_st, x_bin, x_app, kx, rvP_ok, okv_some, ev_t, getV_some, putD_some, putD_none, bin_lss, oGet_s, fill_1, set_1, getK_set, Nat.reduceEqDiff, ↓reduceIte, Bool.false_eq_true, g2, g8, g30, g31, d0, lW, fill_1, set_1, sv3.cell, a1, s1]
            generalize h5.put idW (.cells 1 [wv5]) = h6 at *
            have lC : loadV h6 (.p idC 0) one? = .ok (cmpV idn idW idC) h6 := load_p C5.eC rfl
            have l9 : loadV h6 (.p id9 0) (many? 10) = .ok (.agg (T'.map uE)) h6 := Ar.ldn (e := uE) (L := T') (hAr.same l9g) hT'.len.symm
            simp (disch := omega) only [f89_r14, x_ld, x_ldn, x_call, kx, rvP_ok, ev_t, evs_nil, evs_cons, getV_some, putD_some, getK_set, Nat.reduceEqDiff, ↓reduceIte, g3, g9, lC, l9]
            refine (ih f (by omega) T' (Q ++ [rr]) h6 wv5 (us1 ++ [v]) hT' (by have := unm_step hn hT yg hm e0 yne hadd; omega) (by simp; omega) C5).mono ?_
            rintro r h7 ⟨rfl, wv7, us7, C7, K7, B7⟩
            have nx67 := K7.nx
            have nxh6 := K5.nx
            have K37 : ∀ z : K, z.nat < id9.nat → z ≠ idW → NotIn z wv1 → h7.get z = h3.get z ∧ NotIn z wv7 := fun z hz hz2 hz3 => by
              obtain ⟨w1, w2⟩ := K5.old z (by omega) hz2 hz3
              obtain ⟨w3, w4⟩ := K7.old z (by omega) hz2 w2
              exact ⟨(w3.trans w1).trans (hold3 z hz), w4⟩
            have B37 : ∀ z, Bo idn idW idC wv7 us7 z → Bo idn idW idC wv1 us1 z ∨ h1.nx.nat ≤ z.nat := fun z hz => by
              rcases B7 z hz with w | w
              · rcases B5 z w with w | w | w
                · exact .inl w
                · right
                  apply Classical.byContradiction
                  intro hno
                  exact w fun off m sz e => hno (vge _ _ _ _ e).1
                · exact .inr (by omega)
              · exact .inr (by omega)
            cases hcf : cmp n Y f T' with
            | none =>
              rw [hcf, show (Q ++ [rr]) ++ (none : Option (List (List (Int × Int)))).getD [] = Q ++ [rr] from List.append_nil _] at C7
              obtain ⟨wv8, c1, s8, C8, K8, B8⟩ := C7.cut
              have lW7 : loadV h7 (.p idW 0) one? = .ok wv7 h7 := load_p C7.eW rfl
              have hl7 : ∀ h1, lenV wv7 h1 = .ok (.i .i64 ((Q.length + 1 : Nat) : Int)) h1 := fun h1 => by rw [C7.out.len, C7.len]; simp
              have hsb : ((Q.length + 1 : Nat) : Int) - 1 = (Q.length : Int) := by omega
              simp (disch := omega) only [f89_r16, w_skip, w_reg, w_cond, seqK_n, atK_n, ckB_b, cbB_b, true_and, rndK_n, x_nil, x_ld, x_st, x_bin, x_slice, sliceV_eq, Option.map_none, Option.map_some, x_len, kx, rvP_ok, okv_some, ev_t, ev_c, getV_some, putD_some, putD_none, bin_sub, of1, getK_set, Nat.reduceEqDiff, ↓reduceIte, Bool.false_eq_true, g2, Option.isSome_none, lW7, hl7, hsb, c1, s8, fw64]
              refine back (h7.put idW (.cells 1 [wv8])) wv8 (us7.take Q.length) C8 ?_ (fun z hz hz2 hz3 => ?_) (fun z hz => B37 z (B8 z hz)) ?_
              · show id9.nat ≤ h7.nx.nat
                omega
              · obtain ⟨w1, w2⟩ := K37 z hz hz2 hz3
                obtain ⟨w3, w4⟩ := K8.old z (by omega) hz2 w2
                exact ⟨w3.trans w1, w4⟩
              · unfold tryC
                rw [if_pos e0, hadd]
                show (cmp n Y f T').map _ = none
                rw [hcf]; rfl
            | some R =>
              rw [hcf, show (Q ++ [rr]) ++ (some R).getD [] = Q ++ (rr :: R) from by simp] at C7
              have h5W := hnW
              have h5lt : id5.nat < idp.nat := by omega
              obtain ⟨k51, k52⟩ := kx3 id5 h5lt (kNe (by omega)).symm (hwvlt _ (by omega))
              obtain ⟨k53, k54⟩ := K37 id5 (by omega) (kNe (by omega)).symm k52
              have s5 := st1 (h := h7) (id := id5) (a := .b false) (c := .b true) (k53.trans e5) rfl
              have htr : tryC a (cmp n Y f) T rr = some (rr :: R) := by
                unfold tryC
                rw [if_pos e0, hadd]
                show (cmp n Y f T').map _ = _
                rw [hcf]; rfl
              have hfin : cmp n Y (f + 1) T = some (rr :: R) := by
                rw [hcm]
                exact findSome_at hi k5 (by rw [hrr]; exact htr)
              simp (disch := omega) only [f89_r15, w_reg, w_seq, w_cond, w_ret, seqK_n, seqK_r, atK_r, ckB_b, cbB_b, true_and, rndK_r, x_nil, x_st, kx, rvP_ok, ev_t, ev_c, getV_some, putD_some, putD_none, getK_set, Nat.reduceEqDiff, ↓reduceIte, g5, Option.isSome_some, s5]
              have lp5 : lp ≠ id5 := (kNe (by omega)).symm
              have n5B : ∀ x, Bo idn idW idC wv7 us7 x → x ≠ id5 ∧ x ≠ lp := fun x hx => by
                rcases B37 x hx with w | w
                · refine ⟨fun e => ?_, (k3 x w).2⟩
                  rcases k4 x w with w' | w'
                  · have := hltB x w'; rw [e] at this; omega
                  · rw [e] at w'; omega
                · exact ⟨(kNe (by omega)).symm, (kNe (by omega)).symm⟩
              have l57 : id5.nat < h7.nx.nat := by omega
              have gX : Grow id5.nat h7 (h7.put id5 (.cells 1 [.b true])) := Grow.put (Nat.le_refl _) l57 _
              have gY : Grow lp.nat (h7.put id5 (.cells 1 [.b true])) ((h7.put id5 (.cells 1 [.b true])).put lp .dead) := Grow.put (Nat.le_refl _) (by rw [nx_put]; omega) _
              have hcY := gY.hc (gX.hc C7.hc)
              refine ⟨by rw [get_put_other lp5, (K37 lp (by omega) lpB.1 lpB.2).1]; exact b3, ⟨rfl, by rw [get_put_other lp5.symm]; exact get_put_same, rr :: R, hfin, wv7, us7, C7.keep hcY fun x hx => by rw [get_put_other (n5B x hx).2, get_put_other (n5B x hx).1], ⟨?_, fun x hx hx2 hx3 => ?_⟩, fun x hx => ?_⟩, ?_, hcY, fun x hx => ?_⟩
              · show h.nx.nat ≤ h7.nx.nat
                rw [hid4]; omega
              · rw [hid4] at hx
                obtain ⟨w1, w2⟩ := kx3 x (by omega) hx2 hx3
                obtain ⟨w3, w4⟩ := K37 x (by omega) hx2 w2
                exact ⟨by rw [get_put_other (kNe (by omega)), get_put_other (kNe (by omega)), w3, w1]; exact gE.old x (by omega), w4⟩
              · rw [hid4]
                rcases B37 x hx with w | w
                · rcases k4 x w with w' | w'
                  · exact .inl w'
                  · exact .inr (by omega)
                · exact .inr (by omega)
              · show h2.nx.nat ≤ h7.nx.nat
                omega
              · obtain ⟨w1, w2, w3, w4⟩ := hSB x hx
                have hxp := k2 x hx
                rw [get_put_other w4, get_put_other (kNe (by omega)).symm, (K37 x (by omega) w2 w3).1, p3 x w4]
        · have kb : (decide (x0 = 0) && decide (y0 = a)) = false := by
            apply Bool.eq_false_iff.2
            intro hh
            simp only [Bool.and_eq_true, decide_eq_true_eq] at hh
            exact e0 (by rw [hge0, hh.1, hh.2]; rfl)
          rw [kb] at kq0
          simp (disch := omega) only [f89_r6, w_draw, w_seq, w_cond, w_block, w_exit, seqK_n, seqK_e, atK_e, ckB_b, cbB_b, true_and, rndK_n, kg, xg_nil, xg_mv, xg_ldn, xg_eqk, xg_iads, xd_cons, fresh_nil, stK_n, stay_nil, rvP_ok, okv_some, ev_t, ev_c, getV_some, putD_some, oGet_s, of0, getK_set, Nat.reduceEqDiff, ↓reduceIte, Bool.not_false, q6, u1, u2, l6, kq0, cond_true, Bool.not_false]
          exact back h3 wv1 us1 C3 (Nat.le_refl _) (fun x _ _ hx => ⟨rfl, hx⟩) (fun x hx => .inl hx) (by unfold tryC; rw [if_neg e0])
      · rintro S h1 ⟨wv1, us1, C1, k0, k1, k2, k3, k4, k5⟩ hc1 hlp hSlp
        have gP : Grow hE.nx.nat h1 (h1.put hE.nx .dead) := Grow.put (Nat.le_refl _) hlp _
        have e5 : (h1.put hE.nx .dead).get id5 = .cells 1 [.b false] := by
          rw [get_put_other (kNe (by omega))]
          exact (k1 id5 (by omega) (kNe (by omega)).symm (hwvlt _ (by omega))).1.trans e5D
        have C2 := C1.keep (gP.hc hc1) fun x hx => get_put_other (k3 x hx).2
        have kp : ∀ x : K, x.nat < id4.nat → x ≠ idW → NotIn x wv → (h1.put hE.nx .dead).get x = h.get x ∧ NotIn x wv1 := fun x hx hx2 hx3 => by
          obtain ⟨w1, w2⟩ := k1 x (by omega) hx2 hx3
          exact ⟨by rw [get_put_other (kNe (by omega)), w1]; exact gE.old x (by omega), w2⟩
        have nxP : (h1.put hE.nx .dead).nx = h1.nx := rfl
        generalize h1.put hE.nx .dead = h2 at *
        have s5 := st1 (h := h2) (id := id5) (a := .b false) (c := .b false) e5 rfl
        have r5 : readP (h2.put id5 (.cells 1 [.b false])) (.p id5 0) one? = some (.b false) := ld1_r get_put_same
        have hno : cmp n Y (f + 1) T = none := by
          rw [hcm, List.findSome?_eq_none_iff]
          intro x hx
          obtain ⟨j, hj, rfl⟩ := List.getElem_of_mem hx
          exact k5 j hj hj
        rw [hno]
        simp (disch := omega) only [f89_r17, f89_rs, w_reg, w_seq, w_ret, seqK_n, atK_n, retK_r, x_nil, x_st, kx, rvP_ok, ev_t, ev_c, getV_some, putD_none, oGet_s, readRs_nil, readRs_c, retV_1, Option.some.injEq, exists_eq_left', q5, s5, r5]
        have l52 : id5.nat < h2.nx.nat := by rw [nxP]; omega
        have gQ : Grow id5.nat h2 (h2.put id5 (.cells 1 [.b false])) := Grow.put (Nat.le_refl _) l52 _
        have n5B : ∀ x, Bo idn idW idC wv1 us1 x → x ≠ id5 := fun x hx e => by
          rcases k4 x hx with w | w
          · have := hltB x w; rw [e] at this; omega
          · rw [e] at w; omega
        refine ⟨rfl, wv1, us1, ?_, ⟨?_, fun x hx hx2 hx3 => ?_⟩, fun x hx => ?_⟩
        · rw [show Q ++ (none : Option (List (List (Int × Int)))).getD [] = Q from List.append_nil Q]
          exact C2.keep (gQ.hc C2.hc) fun x hx => get_put_other (n5B x hx)
        · show h.nx.nat ≤ h2.nx.nat
          rw [nxP, hid4]; omega
        · rw [hid4] at hx
          obtain ⟨w1, w2⟩ := kp x hx hx2 hx3
          exact ⟨by rw [get_put_other (kNe (by omega)), w1], w2⟩
        · rw [hid4]
          rcases k4 x hx with w | w
          · exact .inl w
          · exact .inr (by omega)
      · rintro e h1 hne ⟨rfl, e5, R, hR, hP⟩
        have r5 : readP h1 (.p id5 0) one? = some (.b true) := ld1_r e5
        rw [hR]
        simp (disch := omega) only [f89_rs, seqK_r, atK_r, retK_r, getV_some, oGet_s, readRs_nil, readRs_c, retV_1, Option.some.injEq, exists_eq_left', q5, r5]
        exact ⟨rfl, hP⟩
end
end Go.Ev
namespace Go.Ev
open Go Go.RowKit
noncomputable def f97_r0 : List EOper := [⟨(some (K.ofNat 4)), none, .as (.c (.i .i64 (.ofNat 0)))⟩]
noncomputable def f97_r1 : List EOper := [⟨(some (K.ofNat 7)), none, .mv (.t (K.ofNat 0))⟩, ⟨(some (K.ofNat 8)), none, .call (.c (.fn (K.ofNat 103) [])) [(.t (K.ofNat 7))]⟩, ⟨(some (K.ofNat 5)), none, .as (.t (K.ofNat 8))⟩]
noncomputable def f97_r2 : List EOper := [⟨(some (K.ofNat 9)), none, .mv (.t (K.ofNat 1))⟩, ⟨(some (K.ofNat 10)), none, .call (.c (.fn (K.ofNat 103) [])) [(.t (K.ofNat 9))]⟩, ⟨(some (K.ofNat 6)), none, .as (.t (K.ofNat 10))⟩]
noncomputable def f97_r3 : List EOper := [⟨(some (K.ofNat 11)), none, .mv (.t (K.ofNat 5))⟩]
noncomputable def f97_r4 : List EOper := [⟨(some (K.ofNat 12)), none, .mv (.t (K.ofNat 6))⟩]
noncomputable def f97_r5 : List EOper := [⟨(some (K.ofNat 4)), none, .as (.c (.i .i64 (.ofNat 0)))⟩]
noncomputable def f97_r6 : List EOper := [⟨(some (K.ofNat 4)), none, .as (.c (.i .i64 (.negSucc 0)))⟩]
noncomputable def f97_r7 : List EOper := [⟨(some (K.ofNat 13)), none, .mv (.t (K.ofNat 6))⟩]
noncomputable def f97_r8 : List EOper := [⟨(some (K.ofNat 4)), none, .as (.c (.i .i64 (.ofNat 1)))⟩]
noncomputable def f97_r9 : List EOper := [⟨(some (K.ofNat 14)), none, .mv (.t (K.ofNat 0))⟩, ⟨(some (K.ofNat 15)), none, .mv (.t (K.ofNat 1))⟩, ⟨(some (K.ofNat 16)), none, .bin .lss (.t (K.ofNat 14)) (.t (K.ofNat 15))⟩]
noncomputable def f97_r10 : List EOper := [⟨(some (K.ofNat 4)), none, .as (.c (.i .i64 (.negSucc 0)))⟩]
noncomputable def f97_r11 : List EOper := [⟨(some (K.ofNat 17)), none, .mv (.t (K.ofNat 0))⟩, ⟨(some (K.ofNat 18)), none, .mv (.t (K.ofNat 1))⟩, ⟨(some (K.ofNat 19)), none, .bin .gtr (.t (K.ofNat 17)) (.t (K.ofNat 18))⟩]
noncomputable def f97_r12 : List EOper := [⟨(some (K.ofNat 4)), none, .as (.c (.i .i64 (.ofNat 1)))⟩]
noncomputable def f97_r13 : List EOper := [⟨(some (K.ofNat 4)), none, .as (.c (.i .i64 (.ofNat 0)))⟩]
noncomputable def f97_c : EC := (.seq (.reg f97_r0) (.seq (.reg f97_r1) (.seq (.reg f97_r2) (.seq (.seq (.reg f97_r3) (.cond (.t (K.ofNat 11)) (.seq (.seq (.reg f97_r4) (.cond (.t (K.ofNat 12)) (.seq (.reg f97_r5) .ret) .skip)) (.seq (.reg f97_r6) .ret)) .skip)) (.seq (.seq (.reg f97_r7) (.cond (.t (K.ofNat 13)) (.seq (.reg f97_r8) .ret) .skip)) (.seq (.seq (.reg f97_r9) (.cond (.t (K.ofNat 16)) (.seq (.reg f97_r10) .ret) .skip)) (.seq (.seq (.reg f97_r11) (.cond (.t (K.ofNat 19)) (.seq (.reg f97_r12) .ret) .skip)) (.seq (.reg f97_r13) .ret))))))))
noncomputable def f97 : EF := ⟨20, [.tmp (K.ofNat 4)], f97_c, none⟩
noncomputable def f96_r0 : List EOper := [⟨(some (K.ofNat 5)), none, .as (.c (.i .i64 (.ofNat 0)))⟩]
noncomputable def f96_r1 : List Stage := [⟨[⟨(some (K.ofNat 6)), none, .mv (.t (K.ofNat 0))⟩, ⟨(some (K.ofNat 7)), none, .ld (.t (K.ofNat 2))⟩, ⟨(some (K.ofNat 9)), none, .mv (.t (K.ofNat 1))⟩, ⟨(some (K.ofNat 10)), none, .ld (.t (K.ofNat 2))⟩], [], (some ⟨(some (K.ofNat 8)), none, .call (.c (.fn (K.ofNat 52) [])) [(.t (K.ofNat 6)), (.t (K.ofNat 7))]⟩), []⟩, ⟨[], [⟨(some (K.ofNat 9)), none, .mv (.t (K.ofNat 1))⟩, ⟨(some (K.ofNat 10)), none, .ld (.t (K.ofNat 2))⟩], (some ⟨(some (K.ofNat 11)), none, .call (.c (.fn (K.ofNat 52) [])) [(.t (K.ofNat 9)), (.t (K.ofNat 10))]⟩), []⟩, ⟨[], [], (some ⟨(some (K.ofNat 12)), none, .call (.c (.fn (K.ofNat 97) [])) [(.t (K.ofNat 8)), (.t (K.ofNat 11))]⟩), []⟩, ⟨[], [], (some ⟨(some (K.ofNat 5)), none, .as (.t (K.ofNat 12))⟩), []⟩, ⟨[], [], none, []⟩]
noncomputable def f96_c : EC := (.seq (.reg f96_r0) (.seq (.draw f96_r1) .ret))
noncomputable def f96 : EF := ⟨13, [.tmp (K.ofNat 5)], f96_c, none⟩
noncomputable def f95_r0 : List EOper := [⟨(some (K.ofNat 4)), none, .as (.c .sn)⟩]
noncomputable def f95_r1 : List EOper := [⟨(some (K.ofNat 7)), none, .mv (.t (K.ofNat 0))⟩, ⟨(some (K.ofNat 8)), none, .len (.t (K.ofNat 7))⟩, ⟨(some (K.ofNat 9)), none, .bin .lss (.t (K.ofNat 8)) (.c (.i .i64 (.ofNat 1)))⟩]
noncomputable def f95_r2 : List EOper := [⟨none, none, .no⟩, ⟨none, none, .no⟩]
noncomputable def f95_r3 : List EOper := [⟨(some (K.ofNat 11)), none, .mv (.t (K.ofNat 0))⟩, ⟨(some (K.ofNat 12)), none, .iads 1 (.t (K.ofNat 11)) (.c (.i .i64 (.ofNat 0)))⟩, ⟨(some (K.ofNat 13)), none, .ld (.t (K.ofNat 12))⟩, ⟨(some (K.ofNat 5)), none, .as (.t (K.ofNat 13))⟩]
noncomputable def f95_r4 : List EOper := [⟨(some (K.ofNat 6)), none, .as (.c (.i .i64 (.ofNat 1)))⟩]
noncomputable def f95_r5 : List EOper := [⟨(some (K.ofNat 14)), none, .mv (.t (K.ofNat 6))⟩, ⟨(some (K.ofNat 15)), none, .mv (.t (K.ofNat 0))⟩, ⟨(some (K.ofNat 16)), none, .len (.t (K.ofNat 15))⟩, ⟨(some (K.ofNat 17)), none, .bin .lss (.t (K.ofNat 14)) (.t (K.ofNat 16))⟩]
noncomputable def f95_r6 : List EOper := [⟨(some (K.ofNat 20)), none, .mv (.t (K.ofNat 1))⟩, ⟨(some (K.ofNat 21)), none, .mv (.t (K.ofNat 0))⟩, ⟨(some (K.ofNat 22)), none, .mv (.t (K.ofNat 6))⟩, ⟨(some (K.ofNat 23)), none, .iads 1 (.t (K.ofNat 21)) (.t (K.ofNat 22))⟩, ⟨(some (K.ofNat 24)), none, .ld (.t (K.ofNat 23))⟩, ⟨(some (K.ofNat 25)), none, .mv (.t (K.ofNat 5))⟩, ⟨(some (K.ofNat 26)), none, .call (.t (K.ofNat 20)) [(.t (K.ofNat 24)), (.t (K.ofNat 25))]⟩, ⟨(some (K.ofNat 27)), none, .bin .lss (.t (K.ofNat 26)) (.c (.i .i64 (.ofNat 0)))⟩]
noncomputable def f95_r7 : List EOper := [⟨(some (K.ofNat 28)), none, .mv (.t (K.ofNat 0))⟩, ⟨(some (K.ofNat 29)), none, .mv (.t (K.ofNat 6))⟩, ⟨(some (K.ofNat 30)), none, .iads 1 (.t (K.ofNat 28)) (.t (K.ofNat 29))⟩, ⟨(some (K.ofNat 31)), none, .ld (.t (K.ofNat 30))⟩, ⟨(some (K.ofNat 5)), none, .as (.t (K.ofNat 31))⟩]
noncomputable def f95_r8 : List EOper := [⟨(some (K.ofNat 18)), none, .mv (.t (K.ofNat 6))⟩, ⟨(some (K.ofNat 19)), none, .bin .add (.t (K.ofNat 18)) (.c (.i .i64 (.ofNat 1)))⟩, ⟨(some (K.ofNat 6)), none, .as (.t (K.ofNat 19))⟩]
noncomputable def f95_l0 : EC := (.seq (.seq (.reg f95_r5) (.cond (.t (K.ofNat 17)) .skip (.exit 0))) (.seq (.block 1 (.seq (.reg f95_r6) (.cond (.t (K.ofNat 27)) (.reg f95_r7) .skip))) (.reg f95_r8)))
noncomputable def f95_r9 : List EOper := [⟨(some (K.ofNat 32)), none, .mv (.t (K.ofNat 5))⟩, ⟨(some (K.ofNat 4)), none, .as (.t (K.ofNat 32))⟩]
noncomputable def f95_c : EC := (.seq (.reg f95_r0) (.seq (.seq (.reg f95_r1) (.cond (.t (K.ofNat 9)) (.reg f95_r2) .skip)) (.seq (.reg f95_r3) (.seq (.seq (.reg f95_r4) (.block 0 (.loop f95_l0))) (.seq (.reg f95_r9) .ret)))))
noncomputable def f95 : EF := ⟨33, [.tmp (K.ofNat 4)], f95_c, none⟩
noncomputable def f82_r0 : List EOper := [⟨(some (K.ofNat 2)), none, .box 1 (.t (K.ofNat 0))⟩, ⟨(some (K.ofNat 4)), none, .as (.c .sn)⟩]
noncomputable def f82_r1 : List EOper := [⟨(some (K.ofNat 5)), none, .mv (.t (K.ofNat 1))⟩, ⟨(some (K.ofNat 6)), none, .mkfn (K.ofNat 96) [(.t (K.ofNat 2))]⟩, ⟨(some (K.ofNat 7)), none, .call (.c (.fn (K.ofNat 95) [])) [(.t (K.ofNat 5)), (.t (K.ofNat 6))]⟩, ⟨(some (K.ofNat 4)), none, .as (.t (K.ofNat 7))⟩]
noncomputable def f82_c : EC := (.seq (.reg f82_r0) (.seq (.reg f82_r1) .ret))
noncomputable def f82 : EF := ⟨8, [.tmp (K.ofNat 4)], f82_c, none⟩
noncomputable def f81_r0 : List EOper := [⟨(some (K.ofNat 2)), none, .as (.c .sn)⟩]
noncomputable def f81_r1 : List EOper := [⟨(some (K.ofNat 3)), none, .mv (.t (K.ofNat 0))⟩, ⟨(some (K.ofNat 4)), none, .isnil false (.t (K.ofNat 3))⟩]
noncomputable def f81_r2 : List EOper := [⟨(some (K.ofNat 2)), none, .as (.c .sn)⟩]
noncomputable def f81_r3 : List EOper := [⟨(some (K.ofNat 5)), none, .bslice 0 1 [] []⟩, ⟨(some (K.ofNat 6)), none, .mv (.t (K.ofNat 0))⟩, ⟨(some (K.ofNat 7)), none, .app 1 (.t (K.ofNat 5)) (.t (K.ofNat 6))⟩, ⟨(some (K.ofNat 2)), none, .as (.t (K.ofNat 7))⟩]
noncomputable def f81_c : EC := (.seq (.reg f81_r0) (.seq (.seq (.reg f81_r1) (.cond (.t (K.ofNat 4)) (.seq (.reg f81_r2) .ret) .skip)) (.seq (.reg f81_r3) .ret)))
noncomputable def f81 : EF := ⟨8, [.tmp (K.ofNat 2)], f81_c, none⟩
theorem f81_rs : f81.rs = [.tmp (K.ofNat 2)] := of_eq_true (eq_self _)
section
variable {fs : T EF} {h h' : H} {v u : V} {us : List V} {B : List (List (Int × Int))} {Bs : List (List (List (Int × Int)))} {S S' : K → Prop} {bad : List K} {b : Nat}
/-- Its breaks. -/
def brk (n : Nat) (B : List (List (Int × Int))) : Int := smI (bkL n B (B.length - 1))
structure CallsFe (fs : T EF) : Prop extends CallsBk fs where
  c81 : fs.get (K.ofNat 81) = some f81
  c82 : fs.get (K.ofNat 82) = some f82
  c95 : fs.get (K.ofNat 95) = some f95
  c96 : fs.get (K.ofNat 96) = some f96
  c97 : fs.get (K.ofNat 97) = some f97
  c103 : fs.get (K.ofNat 103) = some f103
/-- slices.Clone of rounds. -/
theorem f81_ret {us : List V} (hv : Sr vE h v us) (hl : us.length ≤ 1000) (hc : HC h) : Ret fs f81 [v] h fun r h' => Sl vE h' r us ∧ Own h.nx.nat r ∧ Grow h.nx.nat h h' := by
  apply ret_of rfl
  show W fs none f81_c _ _ _
  unfold f81_c
  have g1 := Grow.new (Nat.le_refl h.nx.nat) (.cells (0 * 1) [])
  have nx1 := nx_new h (.cells (0 * 1) [])
  have hc1 := g1.hc hc
  have hlit : Sl vE (h.new (.cells (0 * 1) [])) (.sl h.nx 0 0 1) [] := .inr ⟨h.nx, 0, 0 * 1, [], rfl, get_new_same, rfl, by simp, fun i hi => absurd hi (by simp)⟩
  rcases hv with ⟨rfl, rfl⟩ | ⟨id, off, m, cs, rfl, hb, hll, hm, hx⟩
  · simp (disch := omega) only [f81_r0, f81_r1, f81_r2, f81_rs, w_reg, w_seq, w_cond, w_ret, seqK_n, seqK_r, ckB_b, cbB_b, true_and, retK_r, x_nil, x_mv, x_as, x_isnil, kx, rvP_ok, ev_t, ev_c, getV_some, putD_some, oGet_s, isnil_sn, readRs_nil, readRs_t, retV_1, frame_1, Option.some.injEq, exists_eq_left', getK_set, Nat.reduceEqDiff, ↓reduceIte, Bool.not_false]
    exact ⟨Sl.nil, Own.sn, Grow.refl _ _⟩
  · have hv : Sr vE h (.sl id off us.length 1) us := .inr ⟨id, off, m, cs, rfl, hb, hll, hm, hx⟩
    obtain ⟨r, h2, a1, a2, a3, a4, _⟩ := Sl.appR (b := h.nx.nat) hlit (fun _ _ _ _ e => by cases e; exact Nat.le_refl _) (by omega) (hv.grow hc g1) hc1 (by simp; omega)
    simp (disch := omega) only [f81_r0, f81_r1, f81_r3, f81_rs, w_skip, w_reg, w_seq, w_cond, w_ret, seqK_n, ckB_b, cbB_b, true_and, retK_r, x_nil, x_mv, x_as, x_bslice, x_app, x_isnil, kx, rvP_ok, ev_t, ev_c, getV_some, putD_some, oGet_s, isnil_sl, readRs_nil, readRs_t, retV_1, frame_1, Option.some.injEq, exists_eq_left', getK_set, Nat.reduceEqDiff, ↓reduceIte, Bool.false_eq_true, fill_0, fill_0, a1]
    exact ⟨a2, a3, g1.trans a4⟩
end
end Go.Ev
namespace Go.Ev
open Go Go.RowKit
noncomputable def f100_r0 : List EOper := [⟨(some (K.ofNat 4)), none, .as (.c .sn)⟩]
noncomputable def f100_r1 : List EOper := [⟨(some (K.ofNat 5)), none, .mv (.t (K.ofNat 1))⟩, ⟨(some (K.ofNat 6)), none, .bin .lss (.t (K.ofNat 5)) (.c (.i .i64 (.ofNat 0)))⟩]
noncomputable def f100_r2 : List EOper := [⟨none, none, .no⟩, ⟨none, none, .no⟩]
noncomputable def f100_r3 : List EOper := [⟨(some (K.ofNat 8)), none, .mv (.t (K.ofNat 1))⟩, ⟨(some (K.ofNat 9)), none, .mv (.t (K.ofNat 0))⟩, ⟨(some (K.ofNat 10)), none, .pr .scap (.t (K.ofNat 9)) (.t (K.ofNat 9))⟩, ⟨(some (K.ofNat 11)), none, .mv (.t (K.ofNat 0))⟩, ⟨(some (K.ofNat 12)), none, .len (.t (K.ofNat 11))⟩, ⟨(some (K.ofNat 13)), none, .bin .sub (.t (K.ofNat 10)) (.t (K.ofNat 12))⟩, ⟨(some (K.ofNat 14)), none, .bin .sub (.t (K.ofNat 8)) (.t (K.ofNat 13))⟩, ⟨(some (K.ofNat 1)), none, .as (.t (K.ofNat 14))⟩]
noncomputable def f100_r4 : List EOper := [⟨(some (K.ofNat 15)), none, .mv (.t (K.ofNat 1))⟩, ⟨(some (K.ofNat 16)), none, .bin .gtr (.t (K.ofNat 15)) (.c (.i .i64 (.ofNat 0)))⟩]
noncomputable def f100_r5 : List EOper := [⟨(some (K.ofNat 17)), none, .mv (.t (K.ofNat 0))⟩, ⟨(some (K.ofNat 18)), none, .mv (.t (K.ofNat 0))⟩, ⟨(some (K.ofNat 19)), none, .pr .scap (.t (K.ofNat 18)) (.t (K.ofNat 18))⟩, ⟨(some (K.ofNat 20)), none, .slice 2 (.t (K.ofNat 17)) none (some (.t (K.ofNat 19))) none⟩, ⟨(some (K.ofNat 21)), none, .mv (.t (K.ofNat 1))⟩, ⟨(some (K.ofNat 22)), none, .appZ 2 [(.i .i64 (.ofNat 0)), (.i .i64 (.ofNat 0))] (.t (K.ofNat 20)) (.t (K.ofNat 21))⟩, ⟨(some (K.ofNat 23)), none, .mv (.t (K.ofNat 0))⟩, ⟨(some (K.ofNat 24)), none, .len (.t (K.ofNat 23))⟩, ⟨(some (K.ofNat 25)), none, .slice 2 (.t (K.ofNat 22)) none (some (.t (K.ofNat 24))) none⟩, ⟨(some (K.ofNat 0)), none, .as (.t (K.ofNat 25))⟩]
noncomputable def f100_r6 : List EOper := [⟨(some (K.ofNat 26)), none, .mv (.t (K.ofNat 0))⟩, ⟨(some (K.ofNat 4)), none, .as (.t (K.ofNat 26))⟩]
noncomputable def f100_c : EC := (.seq (.reg f100_r0) (.seq (.seq (.reg f100_r1) (.cond (.t (K.ofNat 6)) (.reg f100_r2) .skip)) (.seq (.seq (.reg f100_r3) (.seq (.reg f100_r4) (.cond (.t (K.ofNat 16)) (.reg f100_r5) .skip))) (.seq (.reg f100_r6) .ret))))
noncomputable def f100 : EF := ⟨27, [.tmp (K.ofNat 4)], f100_c, none⟩
theorem f100_rs : f100.rs = [.tmp (K.ofNat 4)] := of_eq_true (eq_self _)
noncomputable def f88_r0 : List EOper := [⟨(some (K.ofNat 2)), none, .as (.c .sn)⟩]
noncomputable def f88_r1 : List EOper := [⟨(some (K.ofNat 3)), none, .as (.c (.i .i64 (.ofNat 0)))⟩]
noncomputable def f88_r2 : List EOper := [⟨(some (K.ofNat 9)), none, .mv (.t (K.ofNat 0))⟩, ⟨(some (K.ofNat 10)), none, .len (.t (K.ofNat 9))⟩, ⟨(some (K.ofNat 11)), none, .mv (.c (.i .i64 (.ofNat 0)))⟩]
noncomputable def f88_r3 : List EOper := [⟨(some (K.ofNat 12)), none, .bin .lss (.t (K.ofNat 11)) (.t (K.ofNat 10))⟩]
noncomputable def f88_r4 : List EOper := [⟨(some (K.ofNat 13)), none, .iads 1 (.t (K.ofNat 9)) (.t (K.ofNat 11))⟩, ⟨(some (K.ofNat 14)), none, .ld (.t (K.ofNat 13))⟩, ⟨(some (K.ofNat 5)), none, .as (.t (K.ofNat 14))⟩]
noncomputable def f88_r5 : List EOper := [⟨(some (K.ofNat 15)), none, .mv (.t (K.ofNat 3))⟩, ⟨(some (K.ofNat 16)), none, .mv (.t (K.ofNat 5))⟩, ⟨(some (K.ofNat 17)), none, .len (.t (K.ofNat 16))⟩, ⟨(some (K.ofNat 18)), none, .bin .add (.t (K.ofNat 15)) (.t (K.ofNat 17))⟩, ⟨(some (K.ofNat 3)), none, .as (.t (K.ofNat 18))⟩]
noncomputable def f88_r6 : List EOper := [⟨(some (K.ofNat 19)), none, .mv (.t (K.ofNat 3))⟩, ⟨(some (K.ofNat 20)), none, .bin .lss (.t (K.ofNat 19)) (.c (.i .i64 (.ofNat 0)))⟩]
noncomputable def f88_r7 : List EOper := [⟨none, none, .no⟩, ⟨none, none, .no⟩]
noncomputable def f88_r8 : List EOper := [⟨(some (K.ofNat 22)), none, .bin .add (.t (K.ofNat 11)) (.c (.i .i64 (.ofNat 1)))⟩, ⟨(some (K.ofNat 11)), none, .mv (.t (K.ofNat 22))⟩]
noncomputable def f88_l0 : EC := (.seq (.reg f88_r3) (.seq (.cond (.t (K.ofNat 12)) .skip (.exit 0)) (.seq (.block 1 (.seq (.reg f88_r4) (.seq (.reg f88_r5) (.seq (.reg f88_r6) (.cond (.t (K.ofNat 20)) (.reg f88_r7) .skip))))) (.reg f88_r8))))
noncomputable def f88_r9 : List EOper := [⟨(some (K.ofNat 23)), none, .mv (.t (K.ofNat 3))⟩, ⟨(some (K.ofNat 24)), none, .call (.c (.fn (K.ofNat 100) [])) [(.c .sn), (.t (K.ofNat 23))]⟩, ⟨(some (K.ofNat 6)), none, .as (.t (K.ofNat 24))⟩]
noncomputable def f88_r10 : List EOper := [⟨(some (K.ofNat 25)), none, .mv (.t (K.ofNat 0))⟩, ⟨(some (K.ofNat 26)), none, .len (.t (K.ofNat 25))⟩, ⟨(some (K.ofNat 27)), none, .mv (.c (.i .i64 (.ofNat 0)))⟩]
noncomputable def f88_r11 : List EOper := [⟨(some (K.ofNat 28)), none, .bin .lss (.t (K.ofNat 27)) (.t (K.ofNat 26))⟩]
noncomputable def f88_r12 : List EOper := [⟨(some (K.ofNat 29)), none, .iads 1 (.t (K.ofNat 25)) (.t (K.ofNat 27))⟩, ⟨(some (K.ofNat 30)), none, .ld (.t (K.ofNat 29))⟩, ⟨(some (K.ofNat 8)), none, .as (.t (K.ofNat 30))⟩]
noncomputable def f88_r13 : List EOper := [⟨(some (K.ofNat 31)), none, .mv (.t (K.ofNat 6))⟩, ⟨(some (K.ofNat 32)), none, .mv (.t (K.ofNat 8))⟩, ⟨(some (K.ofNat 33)), none, .app 2 (.t (K.ofNat 31)) (.t (K.ofNat 32))⟩, ⟨(some (K.ofNat 6)), none, .as (.t (K.ofNat 33))⟩]
noncomputable def f88_r14 : List EOper := [⟨(some (K.ofNat 34)), none, .bin .add (.t (K.ofNat 27)) (.c (.i .i64 (.ofNat 1)))⟩, ⟨(some (K.ofNat 27)), none, .mv (.t (K.ofNat 34))⟩]
noncomputable def f88_l1 : EC := (.seq (.reg f88_r11) (.seq (.cond (.t (K.ofNat 28)) .skip (.exit 2)) (.seq (.block 3 (.seq (.reg f88_r12) (.reg f88_r13))) (.reg f88_r14))))
noncomputable def f88_r15 : List EOper := [⟨(some (K.ofNat 35)), none, .mv (.t (K.ofNat 6))⟩, ⟨(some (K.ofNat 2)), none, .as (.t (K.ofNat 35))⟩]
noncomputable def f88_c : EC := (.seq (.reg f88_r0) (.seq (.reg f88_r1) (.seq (.seq (.reg f88_r2) (.block 0 (.loop f88_l0))) (.seq (.reg f88_r9) (.seq (.seq (.reg f88_r10) (.block 2 (.loop f88_l1))) (.seq (.reg f88_r15) .ret))))))
noncomputable def f88 : EF := ⟨36, [.tmp (K.ofNat 2)], f88_c, none⟩
theorem f88_rs : f88.rs = [.tmp (K.ofNat 2)] := of_eq_true (eq_self _)
noncomputable def f71_r0 : List EOper := [⟨(some (K.ofNat 3)), none, .box 1 (.t (K.ofNat 1))⟩, ⟨(some (K.ofNat 4)), none, .as (.c .sn)⟩, ⟨(some (K.ofNat 5)), none, .as (.c (.b false))⟩]
noncomputable def f71_r1 : List EOper := [⟨(some (K.ofNat 11)), none, .mv (.t (K.ofNat 0))⟩, ⟨(some (K.ofNat 12)), none, .call (.c (.fn (K.ofNat 81) [])) [(.t (K.ofNat 11))]⟩, ⟨(some (K.ofNat 6)), none, .alloc 1 [.sn]⟩, ⟨none, none, .st 1 (.t (K.ofNat 6)) (.t (K.ofNat 12))⟩]
noncomputable def f71_r2 : List EOper := [⟨(some (K.ofNat 7)), none, .alloc 10 (List.replicate 10 (.i .u16 (.ofNat 0)))⟩]
noncomputable def f71_r3 : List EOper := [⟨(some (K.ofNat 13)), none, .mv (.t (K.ofNat 0))⟩, ⟨(some (K.ofNat 14)), none, .call (.c (.fn (K.ofNat 88) [])) [(.t (K.ofNat 13))]⟩, ⟨(some (K.ofNat 15)), none, .len (.t (K.ofNat 14))⟩, ⟨(some (K.ofNat 16)), none, .mv (.c (.i .i64 (.ofNat 0)))⟩]
noncomputable def f71_r4 : List EOper := [⟨(some (K.ofNat 17)), none, .bin .lss (.t (K.ofNat 16)) (.t (K.ofNat 15))⟩]
noncomputable def f71_r5 : List EOper := [⟨(some (K.ofNat 18)), none, .iads 2 (.t (K.ofNat 14)) (.t (K.ofNat 16))⟩, ⟨(some (K.ofNat 19)), none, .ldn 2 (.t (K.ofNat 18))⟩, ⟨(some (K.ofNat 9)), none, .alloc 2 [(.i .i64 (.ofNat 0)), (.i .i64 (.ofNat 0))]⟩, ⟨none, none, .st 2 (.t (K.ofNat 9)) (.t (K.ofNat 19))⟩]
noncomputable def f71_r6 : List EOper := [⟨(some (K.ofNat 20)), none, .ldn 2 (.t (K.ofNat 9))⟩, ⟨(some (K.ofNat 21)), none, .call (.c (.fn (K.ofNat 87) [])) [(.t (K.ofNat 7)), (.t (K.ofNat 20))]⟩]
noncomputable def f71_r7 : List EOper := [⟨(some (K.ofNat 22)), none, .bin .add (.t (K.ofNat 16)) (.c (.i .i64 (.ofNat 1)))⟩, ⟨(some (K.ofNat 16)), none, .mv (.t (K.ofNat 22))⟩]
noncomputable def f71_l0 : EC := (.seq (.reg f71_r4) (.seq (.cond (.t (K.ofNat 17)) .skip (.exit 0)) (.seq (.block 1 (.seq (.reg f71_r5) (.reg f71_r6))) (.reg f71_r7))))
noncomputable def f71_r8 : List EOper := [⟨(some (K.ofNat 10)), none, .alloc 1 [.fnil]⟩]
noncomputable def f71_r9 : List EOper := [⟨(some (K.ofNat 23)), none, .mkfn (K.ofNat 89) [(.t (K.ofNat 3)), (.t (K.ofNat 6)), (.t (K.ofNat 10))]⟩, ⟨none, none, .st 1 (.t (K.ofNat 10)) (.t (K.ofNat 23))⟩]
noncomputable def f71_r10 : List EOper := [⟨(some (K.ofNat 24)), none, .ld (.t (K.ofNat 10))⟩, ⟨(some (K.ofNat 25)), none, .ldn 10 (.t (K.ofNat 7))⟩, ⟨(some (K.ofNat 26)), none, .call (.t (K.ofNat 24)) [(.t (K.ofNat 25))]⟩, ⟨(some (K.ofNat 27)), none, .not (.t (K.ofNat 26))⟩]
noncomputable def f71_r11 : List EOper := [⟨(some (K.ofNat 4)), none, .as (.c .sn)⟩, ⟨(some (K.ofNat 5)), none, .as (.c (.b false))⟩]
noncomputable def f71_r12 : List EOper := [⟨(some (K.ofNat 28)), none, .ld (.t (K.ofNat 6))⟩, ⟨(some (K.ofNat 4)), none, .as (.t (K.ofNat 28))⟩, ⟨(some (K.ofNat 5)), none, .as (.c (.b true))⟩]
noncomputable def f71_c : EC := (.seq (.reg f71_r0) (.seq (.reg f71_r1) (.seq (.reg f71_r2) (.seq (.seq (.reg f71_r3) (.block 0 (.loop f71_l0))) (.seq (.reg f71_r8) (.seq (.reg f71_r9) (.seq (.seq (.reg f71_r10) (.cond (.t (K.ofNat 27)) (.seq (.reg f71_r11) .ret) .skip)) (.seq (.reg f71_r12) .ret))))))))
noncomputable def f71 : EF := ⟨29, [.tmp (K.ofNat 4), .tmp (K.ofNat 5)], f71_c, none⟩
theorem f71_rs : f71.rs = [.tmp (K.ofNat 4), .tmp (K.ofNat 5)] := of_eq_true (eq_self _)
section
variable {fs : T EF} {h : H} {v u : V} {us : List V} {L M : List (Int × Int)} {Q : List (List (Int × Int))} {b : Nat}
theorem Srp.addOf2 (hs : Srp h u M) : Go.Ev.addOf 2 h u = some (M.length, M.flatMap qE) := by
  rcases hs with ⟨rfl, h0, h1⟩ | ⟨id, off, m, cs, rfl, hb, hll, hm, hx⟩
  · rw [h1, h0]; rfl
  · show (h.get id).onC none (fun len cs => bif Nat.beq 2 2 && Nat.ble (off + M.length * 2) len then some (M.length, takeN (M.length * 2) (dropN off cs)) else none) = _
    have e0 : (h.get id).onC none (fun len cs => bif Nat.beq 2 2 && Nat.ble (off + M.length * 2) len then some (M.length, takeN (M.length * 2) (dropN off cs)) else none) = (bif Nat.beq 2 2 && Nat.ble (off + M.length * 2) m then some (M.length, takeN (M.length * 2) (dropN off cs)) else none) := by
      rcases hb with hb | hb <;> rw [hb] <;> rfl
    rw [e0, Nat.ble_eq_true_of_le hm, takeN_eq, dropN_eq, hx]; rfl
/-- append(v, u...) of pairs. -/
theorem Sk.appP (hs : Sk 2 qE h v L) (ho : Own b v) (hb : b ≤ h.nx.nat) (hu : Srp h u M) (hc : HC h) (hn : L.length + M.length ≤ 16777216) : ∃ v' h', appV 2 h v u = .ok v' h' ∧ Sk 2 qE h' v' (L ++ M) ∧ Own b v' ∧ Grow b h h' := by
  have ht : v.tight = false := by rcases hs with ⟨rfl, _⟩ | ⟨_, _, _, _, rfl, _⟩ <;> rfl
  unfold appV
  rw [hu.addOf2]
  simp only [oGet, ht, cond_false]
  rcases hs with ⟨rfl, rfl⟩ | ⟨id, off, m, cs, rfl, hb', hl, hm, hx⟩
  · show ∃ v' h', (bif Nat.ble M.length 16777216 then app0 2 h M.length (M.flatMap qE) else RV.no) = .ok v' h' ∧ _
    rw [Nat.ble_eq_true_of_le (by simp at hn; omega)]
    show ∃ v' h', app0 2 h M.length (M.flatMap qE) = .ok v' h' ∧ _
    unfold app0
    by_cases hz : M.length = 0
    · have : M = [] := List.length_eq_zero_iff.1 hz
      subst this
      exact ⟨.sn, h, rfl, Sk.nil, Own.sn, Grow.refl _ _⟩
    · rw [show Nat.beq M.length 0 = false by rw [← Bool.not_eq_true]; intro h; exact hz (Nat.eq_of_beq_eq_true h)]
      exact ⟨_, _, rfl, .inr ⟨h.nx, 0, M.length * 2, M.flatMap qE, rfl, get_new_same, flat_len qE_len M, by simp, by rw [List.drop_zero, List.nil_append, List.take_of_length_le (by rw [flat_len qE_len]; omega)]⟩, fun _ _ _ _ h => by cases h; exact hb, Grow.new hb _⟩
  · have hid := hc.cells hb'
    show ∃ v' h', (h.get id).onW RV.no (fun len cs => bif Nat.beq 2 2 && Nat.ble (off + L.length * 2) len && Nat.ble (L.length + M.length) 16777216 then app1 2 h id off L.length cs M.length (M.flatMap qE) else .no) = .ok v' h' ∧ _
    rw [hb']
    show ∃ v' h', (bif Nat.beq 2 2 && Nat.ble (off + L.length * 2) m && Nat.ble (L.length + M.length) 16777216 then app1 2 h id off L.length cs M.length (M.flatMap qE) else .no) = .ok v' h' ∧ _
    rw [show (Nat.beq 2 2 && Nat.ble (off + L.length * 2) m && Nat.ble (L.length + M.length) 16777216) = true by rw [Nat.beq_refl, Nat.ble_eq_true_of_le hm, Nat.ble_eq_true_of_le hn]; rfl]
    show ∃ v' h', app1 2 h id off L.length cs M.length (M.flatMap qE) = .ok v' h' ∧ _
    unfold app1
    by_cases hz : M.length = 0
    · have : M = [] := List.length_eq_zero_iff.1 hz
      subst this
      refine ⟨_, h, rfl, ?_, ho, Grow.refl _ _⟩
      rw [List.append_nil]
      exact .inr ⟨id, off, m, cs, rfl, hb', hl, hm, hx⟩
    · rw [show Nat.beq M.length 0 = false by rw [← Bool.not_eq_true]; intro h; exact hz (Nat.eq_of_beq_eq_true h)]
      refine ⟨_, _, rfl, .inr ⟨h.nx, 0, (L.length + M.length) * 2, cat (takeN (L.length * 2) (dropN off cs)) (M.flatMap qE), by simp, get_new_same, ?_, by simp, ?_⟩, fun _ _ _ _ h => by cases h; exact hb, (Grow.put (ho _ _ _ _ rfl) hid _).trans (Grow.new (by rw [nx_put]; exact hb) _)⟩
      · rw [cat_eq, takeN_eq, dropN_eq, hx, List.length_append, flat_len qE_len, flat_len qE_len, Nat.add_mul]
      · rw [cat_eq, takeN_eq, dropN_eq, hx, List.drop_zero, List.flatMap_append, List.take_of_length_le (by rw [List.length_append, flat_len qE_len, flat_len qE_len]; simp [Nat.add_mul])]
/-- slices.Grow of nothing. -/
theorem f100_ret {n : Nat} (hn : n ≤ 1000000) (hc : HC h) : Ret fs f100 [.sn, .i .i64 (n : Int)] h fun r h' => Sk 2 qE h' r [] ∧ Own h.nx.nat r ∧ Grow h.nx.nat h h' := by
  have _ := hc
  have d0 : decide ((n : Int) < 0) = false := decide_eq_false (by omega)
  have sc : prV .scap .sn .sn = some (.i .i64 0) := rfl
  have z0 : (n : Int) - 0 = (n : Int) := by omega
  apply ret_of rfl
  show W fs none f100_c _ _ _
  unfold f100_c
  have zz : fw .i64 ((0 : Int) - 0) = 0 := rfl
  by_cases hz : 0 < n
  · have d1 : decide ((n : Int) > 0) = true := decide_eq_true (by omega)
    have sb : ∀ h1, sliceB 2 .sn none (some (.i .i64 0)) none h1 = .ok .sn h1 := fun _ => rfl
    have az : appZV 2 [.i .i64 0, .i .i64 0] h .sn (.i .i64 (n : Int)) = .ok (.sl h.nx 0 n 2) (h.new (.cells (n * 2) (rep [.i .i64 0, .i .i64 0] n))) := by
      show (bif Nat.ble n 16777216 then app0 2 h n (rep [.i .i64 0, .i .i64 0] n) else .no) = _
      rw [Nat.ble_eq_true_of_le (by omega)]
      show app0 2 h n _ = _
      unfold app0
      rw [show Nat.beq n 0 = false by rw [← Bool.not_eq_true]; intro h; have := Nat.eq_of_beq_eq_true h; omega]; rfl
    have sb2 : ∀ h1, sliceB 2 (.sl h.nx 0 n 2) none (some (.i .i64 0)) none h1 = .ok (.sl h.nx 0 0 2) h1 := fun h1 => by
      show cutV h.nx 0 n 2 h1 0 0 none = _
      unfold cutV
      rw [Nat.ble_eq_true_of_le (Nat.le_refl 0), Nat.ble_eq_true_of_le (Nat.zero_le n)]; rfl
    simp (disch := omega) only [f100_r0, f100_r1, f100_r3, f100_r4, f100_r5, f100_r6, f100_rs, w_skip, w_reg, w_seq, w_cond, w_ret, seqK_n, ckB_b, cbB_b, true_and, retK_r, x_nil, x_mv, x_as, x_bin, x_slice, sliceV_eq, Option.map_none, Option.map_some, x_len, kx, rvP_ok, okv_some, ev_t, ev_c, getV_some, putD_some, bin_sub, bin_lss, bin_gtr, oGet_s, len_sn, readRs_nil, readRs_t, retV_1, frame_2, of0, Option.some.injEq, exists_eq_left', getK_set, Nat.reduceEqDiff, ↓reduceIte, Bool.false_eq_true, x_pr, x_appZ, d0, sc, zz, z0, d1, sb, az, sb2, fw64]
    refine ⟨.inr ⟨h.nx, 0, n * 2, _, rfl, get_new_same, by rw [rep_length]; rfl, by simp, by simp⟩, fun _ _ _ _ e => by cases e; exact Nat.le_refl _, Grow.new (Nat.le_refl _) _⟩
  · have d1 : decide ((n : Int) > 0) = false := decide_eq_false (by omega)
    simp (disch := omega) only [f100_r0, f100_r1, f100_r3, f100_r4, f100_r6, f100_rs, w_skip, w_reg, w_seq, w_cond, w_ret, seqK_n, ckB_b, cbB_b, true_and, retK_r, x_nil, x_mv, x_as, x_bin, x_len, kx, rvP_ok, okv_some, ev_t, ev_c, getV_some, putD_some, bin_sub, bin_lss, bin_gtr, oGet_s, len_sn, readRs_nil, readRs_t, retV_1, frame_2, of0, Option.some.injEq, exists_eq_left', getK_set, Nat.reduceEqDiff, ↓reduceIte, Bool.false_eq_true, x_pr, d0, sc, zz, z0, d1, fw64]
    exact ⟨Sk.nil, Own.sn, Grow.refl _ _⟩
def f88_I (h : H) (v : V) (Q : List (List (Int × Int))) (i : Nat) (fr : Fr) (h1 : H) : Prop := i ≤ Q.length ∧ h1 = h ∧ fr.get (K.ofNat 0) = some (v) ∧ fr.get (K.ofNat 3) = some (.i .i64 ((Q.take i).flatten.length : Int)) ∧ fr.get (K.ofNat 9) = some (v) ∧ fr.get (K.ofNat 10) = some (.i .i64 (Q.length : Int)) ∧ fr.get (K.ofNat 11) = some (.i .i64 (i : Int))
def f88_J (h : H) (h2 : H) (v : V) (Q : List (List (Int × Int))) (i : Nat) (fr : Fr) (h1 : H) : Prop := i ≤ Q.length ∧ Grow h.nx.nat h2 h1 ∧ ∃ w, Sk 2 qE h1 w (Q.take i).flatten ∧ Own h.nx.nat w ∧ fr.get (K.ofNat 6) = some (w) ∧ fr.get (K.ofNat 25) = some (v) ∧ fr.get (K.ofNat 26) = some (.i .i64 (Q.length : Int)) ∧ fr.get (K.ofNat 27) = some (.i .i64 (i : Int))
theorem flat_le {Q : List (List (Int × Int))} {m : Nat} (hF : ∀ l ∈ Q, l.length ≤ m) : Q.flatten.length ≤ Q.length * m := by
  induction Q with
  | nil => simp
  | cons l Q ih =>
    have h1 := hF l (by simp)
    have h2 := ih fun l hl => hF l (by simp [hl])
    rw [List.flatten_cons, List.length_append, List.length_cons, Nat.add_mul]
    omega
theorem f88_ret (k100 : fs.get (K.ofNat 100) = some f100) (hv : Nrp h v us Q) (hF : Q.length ≤ 100 ∧ ∀ l ∈ Q, l.length ≤ 100) (hc : HC h) : Ret fs f88 [v] h fun r h' => Sk 2 qE h' r Q.flatten ∧ Own h.nx.nat r ∧ Grow h.nx.nat h h' := by
  have hlen : ∀ h1, lenV v h1 = .ok (.i .i64 (Q.length : Int)) h1 := fun h1 => by rw [hv.out.len, hv.len]
  have tk : ∀ i (hi : i < Q.length), (Q.take (i + 1)).flatten = (Q.take i).flatten ++ Q[i] := fun i hi => by rw [List.take_succ_eq_append_getElem hi, List.flatten_append]; simp
  have fl : ∀ i, (Q.take i).flatten.length ≤ 10000 := fun i => by
    have h1 := flat_le (Q := Q.take i) (m := 100) fun l hl => hF.2 l (List.mem_of_mem_take hl)
    have h2 : (Q.take i).length ≤ 100 := by simp; omega
    have h3 : (Q.take i).length * 100 ≤ 100 * 100 := Nat.mul_le_mul_right 100 h2
    omega
  apply ret_of rfl
  show W fs none f88_c _ _ _
  unfold f88_c
  simp (disch := omega) only [f88_r0, f88_r1, f88_r2, w_reg, w_seq, w_block, seqK_n, x_nil, x_mv, x_as, x_len, kx, rvP_ok, ev_t, ev_c, getV_some, putD_some, frame_1, of0, getK_set, Nat.reduceEqDiff, ↓reduceIte, hlen]
  refine W_loop (f88_I h v Q) (fun i => Q.length - i) ?_ 0 ⟨by omega, rfl, by simp (disch := omega) only [getK_set, Nat.reduceEqDiff, ↓reduceIte, List.take_zero, List.flatten_nil, List.length_nil, and_self, Int.natCast_zero]⟩
  rintro i fr h1 ⟨hi, rfl, g0, g3, g9, g10, g11⟩
  unfold f88_l0
  by_cases hlt : i < Q.length
  · have d0 : decide ((i : Int) < (Q.length : Int)) = true := decide_eq_true (by omega)
    have hiu : i < us.length := by rw [hv.len]; exact hlt
    obtain ⟨p, p1, p2⟩ := hv.out.at i hiu
    have p2 : loadV h1 p one? = .ok us[i] h1 := p2
    have hul := (hv.inn i hiu hlt).len
    have f1 := fl i
    have f2 := hF.2 _ (List.getElem_mem hlt)
    have e1 : ((Q.take i).flatten.length : Int) + (Q[i].length : Int) = ((Q.take (i + 1)).flatten.length : Int) := by rw [tk i hlt, List.length_append]; omega
    have d1 : decide (((Q.take (i + 1)).flatten.length : Int) < 0) = false := decide_eq_false (by omega)
    have f3 := fl (i + 1)
    simp (disch := omega) only [f88_r3, f88_r4, f88_r5, f88_r6, f88_r8, w_skip, w_reg, w_seq, w_cond, w_block, seqK_n, atK_n, loopK_n, ckB_b, cbB_b, true_and, x_nil, x_mv, x_as, x_ld, x_bin, x_iads, x_len, kx, rvP_ok, okv_some, ev_t, ev_c, getV_some, putD_some, bin_add, bin_lss, of0, of1, getK_set, Nat.reduceEqDiff, ↓reduceIte, Bool.false_eq_true, g3, g9, g10, g11, d0, p1, p2, hul, e1, d1, fw64]
    exact ⟨i + 1, by omega, by omega, rfl, by simp (disch := omega) only [getK_set, Nat.reduceEqDiff, ↓reduceIte, g0, g9, g10, and_self, Int.natCast_add, Int.natCast_one]⟩
  · have d0 : decide ((i : Int) < (Q.length : Int)) = false := decide_eq_false (by omega)
    have ei : i = Q.length := by omega
    have f1 := fl i
    simp (disch := omega) only [f88_r3, f88_r9, w_reg, w_seq, w_cond, w_exit, seqK_n, seqK_e, atK_e, loopK_e, ckB_b, cbB_b, true_and, x_nil, x_mv, x_bin, x_call, kx, rvP_ok, okv_some, ev_t, ev_c, evs_nil, evs_cons, getV_some, putD_some, bin_lss, getK_set, Nat.reduceEqDiff, ↓reduceIte, Bool.false_eq_true, g3, g10, g11, d0]
    refine (callP_0 (ef := f100) k100 rfl (f100_ret (by omega) hc)).mono ?_
    rintro w h2 ⟨hw, how, hG⟩
    have hc2 := hG.hc hc
    simp (disch := omega) only [f88_r10, w_reg, w_seq, w_block, seqK_n, x_nil, x_mv, x_as, x_len, kx, rvP_ok, ev_t, ev_c, getV_some, putD_some, of0, getK_set, Nat.reduceEqDiff, ↓reduceIte, g0, hlen]
    refine W_loop (f88_J h1 h2 v Q) (fun i => Q.length - i) ?_ 0 ⟨by omega, Grow.refl _ _, w, by simpa using hw, how, by simp (disch := omega) only [getK_set, Nat.reduceEqDiff, ↓reduceIte, and_self, Int.natCast_zero]⟩
    clear g0 g3 g9 g10 g11 fr
    rintro j fr h3 ⟨hj, hG3, w3, hw3, how3, g6, g25, g26, g27⟩
    have hc3 := hG3.hc hc2
    have hv3 := hv.grow hc (hG.trans hG3)
    unfold f88_l1
    by_cases hlt2 : j < Q.length
    · have d1 : decide ((j : Int) < (Q.length : Int)) = true := decide_eq_true (by omega)
      have hju : j < us.length := by rw [hv.len]; exact hlt2
      obtain ⟨p, p1, p2⟩ := hv3.out.at j hju
      have p2 : loadV h3 p one? = .ok us[j] h3 := p2
      have f2 := hF.2 _ (List.getElem_mem hlt2)
      have f3 := fl j
      have hnx := hG.nx
      have hnx3 := hG3.nx
      obtain ⟨w4, h4, a1, a2, a3, a4⟩ := hw3.appP how3 (by omega) (hv3.inn j hju hlt2) hc3 (by omega)
      rw [← tk j hlt2] at a2
      simp (disch := omega) only [f88_r11, f88_r12, f88_r13, f88_r14, w_skip, w_reg, w_seq, w_cond, w_block, seqK_n, atK_n, loopK_n, ckB_b, cbB_b, true_and, x_nil, x_mv, x_as, x_ld, x_bin, x_iads, x_app, kx, rvP_ok, okv_some, ev_t, ev_c, getV_some, putD_some, bin_add, bin_lss, of1, getK_set, Nat.reduceEqDiff, ↓reduceIte, g6, g25, g26, g27, d1, p1, p2, a1, fw64]
      exact ⟨j + 1, by omega, by omega, hG3.trans a4, w4, a2, a3, by simp (disch := omega) only [getK_set, Nat.reduceEqDiff, ↓reduceIte, g25, g26, and_self, Int.natCast_add, Int.natCast_one]⟩
    · have d1 : decide ((j : Int) < (Q.length : Int)) = false := decide_eq_false (by omega)
      have ej : j = Q.length := by omega
      rw [ej, List.take_length] at hw3
      simp (disch := omega) only [f88_r11, f88_r15, f88_rs, w_reg, w_seq, w_cond, w_exit, w_ret, seqK_n, seqK_e, atK_e, loopK_e, ckB_b, cbB_b, true_and, retK_r, x_nil, x_mv, x_as, x_bin, kx, rvP_ok, okv_some, ev_t, getV_some, putD_some, bin_lss, oGet_s, readRs_nil, readRs_t, retV_1, Option.some.injEq, exists_eq_left', getK_set, Nat.reduceEqDiff, ↓reduceIte, Bool.false_eq_true, g6, g26, g27, d1]
      exact ⟨hw3, how3, hG.trans hG3⟩
end
end Go.Ev
namespace Go.Ev
open Go Go.RowKit
noncomputable def f47_r0 : List EOper := [⟨(some (K.ofNat 4)), none, .as (.c .sn)⟩, ⟨(some (K.ofNat 5)), none, .as (.c (.b false))⟩, ⟨(some (K.ofNat 6)), none, .as (.c (.i .i64 (.ofNat 0)))⟩]
noncomputable def f47_r1 : List EOper := [⟨(some (K.ofNat 10)), none, .mv (.t (K.ofNat 0))⟩, ⟨(some (K.ofNat 11)), none, .call (.c (.fn (K.ofNat 65) [])) [(.t (K.ofNat 10))]⟩, ⟨(some (K.ofNat 12)), none, .not (.t (K.ofNat 11))⟩, ⟨(some (K.ofNat 13)), none, .mv (.t (K.ofNat 12))⟩, ⟨(some (K.ofNat 14)), (some ((K.ofNat 13), false)), .mv (.t (K.ofNat 0))⟩, ⟨(some (K.ofNat 15)), (some ((K.ofNat 13), false)), .bin .gtr (.t (K.ofNat 14)) (.c (.i .i64 (.ofNat 8)))⟩, ⟨(some (K.ofNat 16)), none, .pick (.t (K.ofNat 13)) (.c (.b true)) (.t (K.ofNat 15))⟩]
noncomputable def f47_r2 : List EOper := [⟨(some (K.ofNat 4)), none, .as (.c .sn)⟩, ⟨(some (K.ofNat 5)), none, .as (.c (.b false))⟩, ⟨(some (K.ofNat 6)), none, .as (.c (.i .i64 (.ofNat 1)))⟩]
noncomputable def f47_r3 : List EOper := [⟨(some (K.ofNat 18)), none, .mv (.t (K.ofNat 0))⟩, ⟨(some (K.ofNat 19)), none, .mv (.t (K.ofNat 1))⟩, ⟨(some (K.ofNat 20)), none, .call (.c (.fn (K.ofNat 70) [])) [(.t (K.ofNat 18)), (.t (K.ofNat 19))]⟩, ⟨(some (K.ofNat 17)), none, .mv (.t (K.ofNat 20))⟩, ⟨(some (K.ofNat 21)), none, .ext (.t (K.ofNat 17)) 0⟩, ⟨(some (K.ofNat 22)), none, .ext (.t (K.ofNat 17)) 1⟩, ⟨(some (K.ofNat 7)), none, .as (.t (K.ofNat 21))⟩, ⟨(some (K.ofNat 8)), none, .as (.t (K.ofNat 22))⟩]
noncomputable def f47_r4 : List EOper := [⟨(some (K.ofNat 23)), none, .mv (.t (K.ofNat 8))⟩, ⟨(some (K.ofNat 24)), none, .not (.t (K.ofNat 23))⟩]
noncomputable def f47_r5 : List EOper := [⟨(some (K.ofNat 4)), none, .as (.c .sn)⟩, ⟨(some (K.ofNat 5)), none, .as (.c (.b false))⟩, ⟨(some (K.ofNat 6)), none, .as (.c (.i .i64 (.ofNat 40)))⟩]
noncomputable def f47_r6 : List EOper := [⟨(some (K.ofNat 26)), none, .mv (.t (K.ofNat 7))⟩, ⟨(some (K.ofNat 27)), none, .mv (.t (K.ofNat 0))⟩, ⟨(some (K.ofNat 28)), none, .call (.c (.fn (K.ofNat 71) [])) [(.t (K.ofNat 26)), (.t (K.ofNat 27))]⟩, ⟨(some (K.ofNat 25)), none, .mv (.t (K.ofNat 28))⟩, ⟨(some (K.ofNat 29)), none, .ext (.t (K.ofNat 25)) 0⟩, ⟨(some (K.ofNat 30)), none, .ext (.t (K.ofNat 25)) 1⟩, ⟨(some (K.ofNat 9)), none, .as (.t (K.ofNat 29))⟩, ⟨(some (K.ofNat 8)), none, .as (.t (K.ofNat 30))⟩]
noncomputable def f47_r7 : List EOper := [⟨(some (K.ofNat 31)), none, .mv (.t (K.ofNat 9))⟩, ⟨(some (K.ofNat 32)), none, .call (.c (.fn (K.ofNat 60) [])) [(.t (K.ofNat 31))]⟩, ⟨(some (K.ofNat 33)), none, .mv (.t (K.ofNat 8))⟩, ⟨(some (K.ofNat 4)), none, .as (.t (K.ofNat 32))⟩, ⟨(some (K.ofNat 5)), none, .as (.t (K.ofNat 33))⟩, ⟨(some (K.ofNat 6)), none, .as (.c (.i .i64 (.ofNat 0)))⟩]
noncomputable def f47_c : EC := (.seq (.reg f47_r0) (.seq (.seq (.reg f47_r1) (.cond (.t (K.ofNat 16)) (.seq (.reg f47_r2) .ret) .skip)) (.seq (.reg f47_r3) (.seq (.seq (.reg f47_r4) (.cond (.t (K.ofNat 24)) (.seq (.reg f47_r5) .ret) .skip)) (.seq (.reg f47_r6) (.seq (.reg f47_r7) .ret))))))
noncomputable def f47 : EF := ⟨34, [.tmp (K.ofNat 4), .tmp (K.ofNat 5), .tmp (K.ofNat 6)], f47_c, none⟩
theorem f47_rs : f47.rs = [.tmp (K.ofNat 4), .tmp (K.ofNat 5), .tmp (K.ofNat 6)] := of_eq_true (eq_self _)
structure CallsCp (fs : T EF) : Prop extends CallsCm fs, CallsFe fs, CallsBg fs where
  r71 : fs.get (K.ofNat 71) = some f71
  r88 : fs.get (K.ofNat 88) = some f88
  r100 : fs.get (K.ofNat 100) = some f100
  r60 : fs.get (K.ofNat 60) = some f60
section
variable {fs : T EF} {h : H} {v : V} {us : List V} {n : Nat} {Q : List (List (Int × Int))}
def f71_I (h5 : H) (idn idW id7 : K) (pv : V) (P : List (Int × Int)) (k : Nat) (fr : Fr) (h1 : H) : Prop :=
  k ≤ P.length ∧ h5.nx.nat ≤ h1.nx.nat ∧ HC h1 ∧ (∀ x : K, x.nat < h5.nx.nat → x ≠ id7 → h1.get x = h5.get x) ∧ ∃ B, Met B (P.take k) ∧ Ar uE h1 id7 B ∧ fr.get (K.ofNat 3) = some (.p idn 0) ∧ fr.get (K.ofNat 6) = some (.p idW 0) ∧ fr.get (K.ofNat 7) = some (.p id7 0) ∧ fr.get (K.ofNat 14) = some (pv) ∧ fr.get (K.ofNat 15) = some (.i .i64 (P.length : Int)) ∧ fr.get (K.ofNat 16) = some (.i .i64 (k : Int))
theorem f71_ret (k : CallsCp fs) (hn2 : 2 ≤ n) (hn : n ≤ 10) (he : n % 2 = 0) (hv : Nrp h v us Q) (hbg : bgB n Q = true) (hc : HC h) :
    Ret fs f71 [v, .i .i64 (n : Int)] h fun r h' => ∃ B, Met B Q.flatten ∧ (match cmp n (prE n (n / 2) [] 0) n B with | none => r = .tup [.sn, .b false] | some R => ∃ u xs, r = .tup [u, .b true] ∧ Nrp h' u xs (Q ++ R)) ∧ Grow h.nx.nat h h' := by
  unfold bgB at hbg
  simp only [Bool.and_eq_true, decide_eq_true_iff, List.all_eq_true] at hbg
  obtain ⟨hl, hrn, hpw⟩ := hbg
  have hrl : ∀ l ∈ Q, l.length ≤ 5 := fun l hll => by
    have := hrn l hll
    unfold rndB at this
    simp only [Bool.and_eq_true, decide_eq_true_iff] at this
    omega
  have hfl : Q.flatten.length ≤ 100 := by
    have h1 := flat_le (Q := Q) (m := 5) hrl
    have h2 : Q.length * 5 ≤ 9 * 5 := Nat.mul_le_mul_right 5 (by omega)
    omega
  have hge : ∀ e ∈ Q.flatten, (0 ≤ e.1 ∧ e.1 < (n : Int)) ∧ (0 ≤ e.2 ∧ e.2 < (n : Int)) ∧ e.1 ≠ e.2 := fun e he => by
    obtain ⟨l, h1, h2⟩ := List.mem_flatten.1 he
    exact rnd_e (hrn l h1) e h2
  apply ret_of rfl
  show W fs none f71_c _ _ _
  unfold f71_c
  have gA : Grow h.nx.nat h (h.new (.cells 1 [.i .i64 (n : Int)])) := Grow.new (Nat.le_refl _) _
  have nA := nx_new h (.cells 1 [.i .i64 (n : Int)])
  have eA : (h.new (.cells 1 [.i .i64 (n : Int)])).get h.nx = .cells 1 [.i .i64 (n : Int)] := get_new_same
  simp (disch := omega) only [f71_r0, f71_r1, w_reg, w_seq, seqK_n, x_nil, x_mv, x_as, x_box, x_call, kx, rvP_ok, ev_t, ev_c, evs_nil, evs_cons, getV_some, putD_some, oGet_s, frame_2, cells1_i, getK_set, Nat.reduceEqDiff, ↓reduceIte]
  generalize h.new (.cells 1 [.i .i64 (n : Int)]) = hA at *
  have hcA := gA.hc hc
  refine (callP_0 (ef := f81) k.c81 rfl (f81_ret (hv.grow hc gA).out (by rw [hv.len]; omega) hcA)).mono ?_
  rintro wv hB ⟨hw, how, gB⟩
  have hcB := gB.hc hcA
  have n1 := nx_new hB (.cells 1 [.sn])
  have s1 := st1 (h := hB.new (.cells 1 [.sn])) (id := hB.nx) (a := .sn) (c := wv) get_new_same hw.one
  have gC : Grow hB.nx.nat hB ((hB.new (.cells 1 [.sn])).put hB.nx (.cells 1 [wv])) := (Grow.new (Nat.le_refl _) _).trans (Grow.put (Nat.le_refl _) (by omega) _)
  have eW : ((hB.new (.cells 1 [.sn])).put hB.nx (.cells 1 [wv])).get hB.nx = .cells 1 [wv] := get_put_same
  have nC : ((hB.new (.cells 1 [.sn])).put hB.nx (.cells 1 [wv])).nx.nat = hB.nx.nat + 1 := n1
  simp (disch := omega) only [f71_r2, w_reg, w_seq, seqK_n, x_nil, x_alloc, x_st, kx, rvP_ok, ev_t, getV_some, putD_some, putD_none, of0, getK_set, Nat.reduceEqDiff, ↓reduceIte, s1]
  generalize (hB.new (.cells 1 [.sn])).put hB.nx (.cells 1 [wv]) = hC at *
  have hcC := gC.hc hcB
  have gD : Grow hC.nx.nat hC (hC.new (.cells 10 (List.replicate 10 (.i .u16 0)))) := Grow.new (Nat.le_refl _) _
  have nD := nx_new hC (.cells 10 (List.replicate 10 (.i .u16 0)))
  have e7 : (hC.new (.cells 10 (List.replicate 10 (.i .u16 0)))).get hC.nx = .cells 10 (List.replicate 10 (.i .u16 0)) := get_new_same
  simp (disch := omega) only [f71_r3, x_mv, x_call, ev_t, ev_c, evs_nil, evs_cons, getV_some, putD_some, of0, getK_set, Nat.reduceEqDiff, ↓reduceIte]
  generalize hC.new (.cells 10 (List.replicate 10 (.i .u16 0))) = hD at *
  have hcD := gD.hc hcC
  have hvD : Nrp hD v us Q := ((hv.grow hc gA).grow hcA gB).grow hcB (gC.trans (gD.low (by omega)))
  refine (callP_0 (ef := f88) k.r88 rfl (f88_ret k.r100 hvD ⟨by omega, fun l hl => by have := hrl l hl; omega⟩ hcD)).mono ?_
  rintro pv hE ⟨hp, hpo, gE⟩
  have hcE := gE.hc hcD
  have nAB := gB.nx
  have nDE := gE.nx
  generalize hidn : h.nx = idn at *
  generalize hidW : hB.nx = idW at *
  generalize hid7 : hC.nx = id7 at *
  have hpl := hp.len
  simp (disch := omega) only [w_block, seqK_n, x_nil, x_mv, x_len, kx, rvP_ok, ev_t, ev_c, getV_some, putD_some, getK_set, ↓reduceIte, hpl]
  have e7E : hE.get id7 = .cells 10 (List.replicate 10 (.i .u16 0)) := (gE.old _ (by omega)).trans e7
  refine W_loop (f71_I hE idn idW id7 pv Q.flatten) (fun k => Q.flatten.length - k) ?_ 0 ⟨Nat.zero_le _, Nat.le_refl _, hcE, fun _ _ _ => rfl, List.replicate 10 0, by rw [List.take_zero]; exact Met.nil, by unfold Ar; rw [e7E]; rfl, by simp (disch := omega) only [getK_set, Nat.reduceEqDiff, ↓reduceIte, and_self, Int.natCast_zero]⟩
  rintro j fr hh ⟨hj, nxh, hch, hold, B, hM, hAr, g3, g6, g7, g14, g15, g16⟩
  have svh : Srp hh pv Q.flatten := hp.srp.old fun id off m sz e => hold id (hp.lt hcE _ _ _ _ e) (kNe (by have := hpo _ _ _ _ e; omega)).symm
  unfold f71_l0
  by_cases hlt : j < Q.flatten.length
  · have d0 : decide ((j : Int) < (Q.flatten.length : Int)) = true := decide_eq_true (by omega)
    obtain ⟨idk, qk, w1, w2, _, _⟩ := svh.at2 hlt
    obtain ⟨z1, z2, z3⟩ := hge _ (List.getElem_mem hlt)
    have hds : (Q.flatten.take (j + 1)).Pairwise dsR := hpw.sublist (List.take_sublist _ _)
    have htk := List.take_succ_eq_append_getElem hlt
    rw [htk, ds_snoc (hpw.sublist (List.take_sublist _ _))] at hds
    obtain ⟨x, hx⟩ := Int.eq_ofNat_of_zero_le z1.1
    obtain ⟨y, hy⟩ := Int.eq_ofNat_of_zero_le z2.1
    have hxy : Q.flatten[j] = ((x : Int), (y : Int)) := Prod.ext hx hy
    rw [hxy] at hds htk w2 z1 z2 z3
    have w2 : loadV hh (.p idk qk) (many? 2) = .ok (.agg [.i .i64 (x : Int), .i .i64 (y : Int)]) hh := w2
    have hz : (B.getD x 0).testBit y = false := by
      cases hb : (B.getD x 0).testBit y with
      | false => rfl
      | true => exact absurd ((hM.bit x y (by have := z1.2; simp at this; omega) (by have := z2.2; simp at this; omega)).1 hb) hds
    have n5 := nx_new hh (.cells 2 [.i .i64 0, .i .i64 0])
    have s2 : storeV (hh.new (.cells 2 [.i .i64 0, .i .i64 0])) 2 (.p hh.nx 0) (.agg [.i .i64 (x : Int), .i .i64 (y : Int)]) = .ok undefV ((hh.new (.cells 2 [.i .i64 0, .i .i64 0])).put hh.nx (.cells 2 [.i .i64 (x : Int), .i .i64 (y : Int)])) := by
      rw [store_p (xs := [.i .i64 (x : Int), .i .i64 (y : Int)]) get_new_same rfl (Nat.le_refl 2)]; rfl
    have gG : Grow hh.nx.nat hh ((hh.new (.cells 2 [.i .i64 0, .i .i64 0])).put hh.nx (.cells 2 [.i .i64 (x : Int), .i .i64 (y : Int)])) := (Grow.new (Nat.le_refl _) _).trans (Grow.put (Nat.le_refl _) (by omega) _)
    have e11 : ((hh.new (.cells 2 [.i .i64 0, .i .i64 0])).put hh.nx (.cells 2 [.i .i64 (x : Int), .i .i64 (y : Int)])).get hh.nx = .cells 2 [.i .i64 (x : Int), .i .i64 (y : Int)] := get_put_same
    simp (disch := omega) only [f71_r4, f71_r5, w_skip, w_reg, w_seq, w_cond, w_block, seqK_n, ckB_b, cbB_b, true_and, x_nil, x_alloc, x_ldn, x_st, x_bin, x_iads, kx, rvP_ok, okv_some, ev_t, getV_some, putD_some, putD_none, bin_lss, of0, getK_set, Nat.reduceEqDiff, ↓reduceIte, g14, g15, g16, d0, w1, w2, s2]
    generalize hid11 : hh.nx = id11 at *
    generalize (hh.new (.cells 2 [.i .i64 0, .i .i64 0])).put id11 (.cells 2 [.i .i64 (x : Int), .i .i64 (y : Int)]) = hh2 at *
    have l11 : loadV hh2 (.p id11 0) (many? 2) = .ok (.agg [.i .i64 (x : Int), .i .i64 (y : Int)]) hh2 := ldn2 e11
    have hAr2 : Ar uE hh2 id7 B := hAr.same (gG.old id7 (by omega))
    have gGn := gG.nx
    rw [hid11] at gGn
    simp (disch := omega) only [f71_r6, x_ldn, x_call, kx, rvP_ok, ev_t, ev_c, evs_nil, evs_cons, getV_some, putD_some, getK_set, Nat.reduceEqDiff, ↓reduceIte, g7, l11]
    refine (callP_0 (ef := f87) k.p87 rfl (f87_ret (a := x) (b := y) k.toCallsAa hAr2 hM.len hM.le (by have := z1.2; simp at this; omega) (by have := z2.2; simp at this; omega) (by intro e; exact z3 (by simp [e])) (gG.hc hch))).mono ?_
    rintro r h5 ⟨_, hA5, nx5, old5, hc5⟩
    rw [if_neg (by rw [hz]; simp)] at hA5
    have hM2 := hM.add (a := x) (b := y) (by have := z1.2; simp at this; omega) (by have := z2.2; simp at this; omega) (by intro e; exact z3 (by simp [e]))
    rw [← htk] at hM2
    simp (disch := omega) only [f71_r7, w_reg, seqK_n, atK_n, loopK_n, x_nil, x_mv, x_bin, kx, rvP_ok, okv_some, ev_t, ev_c, getV_some, putD_some, bin_add, of1, getK_set, Nat.reduceEqDiff, ↓reduceIte, g16, fw64]
    exact ⟨j + 1, by omega, by omega, by omega, hc5, fun z hz hz2 => (old5 z (by omega) hz2).trans ((gG.old z (by omega)).trans (hold z hz hz2)), _, hM2, hA5, by simp (disch := omega) only [getK_set, Nat.reduceEqDiff, ↓reduceIte, g3, g6, g7, g14, g15, and_self, Int.natCast_add, Int.natCast_one]⟩
  · have d0 : decide ((j : Int) < (Q.flatten.length : Int)) = false := decide_eq_false (by omega)
    have ej : j = Q.flatten.length := by omega
    rw [ej, List.take_length] at hM
    have n8 := nx_new hh (.cells 1 [.fnil])
    have s8 := st1 (h := hh.new (.cells 1 [.fnil])) (id := hh.nx) (a := .fnil) (c := cmpV idn idW hh.nx) get_new_same rfl
    have g8 : Grow hh.nx.nat hh ((hh.new (.cells 1 [.fnil])).put hh.nx (.cells 1 [cmpV idn idW hh.nx])) := (Grow.new (Nat.le_refl _) _).trans (Grow.put (Nat.le_refl _) (by omega) _)
    have e8 : ((hh.new (.cells 1 [.fnil])).put hh.nx (.cells 1 [cmpV idn idW hh.nx])).get hh.nx = .cells 1 [cmpV idn idW hh.nx] := get_put_same
    have n8' : ((hh.new (.cells 1 [.fnil])).put hh.nx (.cells 1 [cmpV idn idW hh.nx])).nx.nat = hh.nx.nat + 1 := n8
    have hfv : V.fn (K.ofNat 89) [.p idn 0, .p idW 0, .p hh.nx 0] = cmpV idn idW hh.nx := rfl
    simp (disch := omega) only [f71_r4, f71_r8, f71_r9, w_reg, w_seq, w_cond, w_exit, seqK_n, seqK_e, atK_e, loopK_e, ckB_b, cbB_b, true_and, x_nil, x_alloc, x_st, x_bin, x_mkfn, kx, rvP_ok, okv_some, ev_t, evs_nil, evs_cons, getV_some, putD_some, putD_none, bin_lss, getK_set, Nat.reduceEqDiff, ↓reduceIte, Bool.false_eq_true, g3, g6, g15, g16, d0, hfv, s8]
    generalize (hh.new (.cells 1 [.fnil])).put hh.nx (.cells 1 [cmpV idn idW hh.nx]) = hF at *
    generalize hidC : hh.nx = idC at *
    have lC : loadV hF (.p idC 0) one? = .ok (cmpV idn idW idC) hF := load_p e8 rfl
    have hcF := g8.hc hch
    have l7 : loadV hF (.p id7 0) (many? 10) = .ok (.agg (B.map uE)) hF := Ar.ldn (e := uE) (L := B) (hAr.same (g8.old id7 (by omega))) hM.len.symm
    -- what is there
    have kE : ∀ x : K, x.nat < hE.nx.nat → x ≠ id7 → hF.get x = hE.get x := fun x hx hx2 => (g8.old x (by omega)).trans (hold x hx hx2)
    have kC : ∀ x : K, x.nat < id7.nat → hF.get x = hC.get x := fun x hx => (kE x (by omega) (kNe hx)).trans ((gE.old x (by omega)).trans (gD.old x hx))
    have hwB : ∀ id off m sz, wv = .sl id off m sz → id.nat < idW.nat := fun id off m sz e => by have := hw.lt hcB _ _ _ _ e; rw [hidW] at this; exact this
    have nwv : ∀ x : K, (x.nat < hA.nx.nat ∨ idW.nat ≤ x.nat) → NotIn x wv := fun x hx off m sz e => by
      have h1 := hwB _ _ _ _ e
      have h2 := how _ _ _ _ e
      omega
    have hwF : Sl vE hF wv us := hw.same fun id off m sz e => by
      have := hwB _ _ _ _ e
      rw [kC id (by omega), gC.old id this]
    have hvA := hv.grow hc (by rw [hidn]; exact gA)
    have kA : ∀ x : K, x.nat < hA.nx.nat → hF.get x = hA.get x := fun x hx => (kC x (by omega)).trans ((gC.old x (by omega)).trans (gB.old x hx))
    have ult : ∀ i (hi : i < us.length), ∀ id off m sz, us[i] = .sl id off m sz → id.nat < idn.nat := fun i hi id off m sz e => by
      have := (hv.inn i hi (by rw [← hv.len]; exact hi)).lt hc _ _ _ _ e
      rw [hidn] at this; exact this
    have C : CS idn idW idC n hF wv us Q := by
      refine ⟨hcF, (kA idn (by omega)).trans eA, e8, (kC idW (by omega)).trans eW, hv.len, hwF, fun i h1 h2 => (hvA.inn i h1 h2).old fun id off m sz e => kA id (by have := ult i h1 _ _ _ _ e; omega), fun x hx id off m sz e => ?_, nwv idn (.inl (by omega)), nwv idC (.inr (by omega)), nwv idW (.inr (Nat.le_refl _)), kNe (by omega), (kNe (by omega)).symm⟩
      obtain ⟨i, hi, rfl⟩ := List.getElem_of_mem hx
      have := ult i hi _ _ _ _ e
      exact ⟨nwv id (.inl (by omega)), kNe (by omega)⟩
    have hunm : unm n (B.getD 0 0) ≤ n := by
      unfold unm
      have := List.length_filter_le (fun a => decide (1 ≤ a) && !(B.getD 0 0).testBit a) (List.range n)
      simpa using this
    simp (disch := omega) only [f71_r10, x_ld, x_ldn, x_call, kx, rvP_ok, ev_t, evs_nil, evs_cons, getV_some, putD_some, getK_set, Nat.reduceEqDiff, ↓reduceIte, g7, lC, l7]
    refine (complete_call k.toCallsCm hn2 hn he n B Q hF wv us ⟨hM.len, hM.le⟩ hunm (by omega) C).mono ?_
    rintro r hG ⟨rfl, wv', us', C', K', _⟩
    have gAll : Grow idn.nat h hG := ⟨by have := K'.nx; rw [hidn]; omega, fun x hx => by
      rw [(K'.old x (by omega) (kNe (by omega)) (nwv x (.inl (by omega)))).1, kA x (by omega)]
      exact gA.old x hx, fun _ => C'.hc⟩
    refine ?_
    cases hcm : cmp n (prE n (n / 2) [] 0) n B with
    | none =>
      simp (disch := omega) only [f71_r11, f71_rs, w_reg, w_seq, w_cond, w_ret, seqK_n, seqK_r, ckB_b, cbB_b, true_and, retK_r, x_nil, x_as, x_not, kx, rvP_ok, ev_t, ev_c, getV_some, putD_some, onB_b, oGet_s, readRs_nil, readRs_t, retV_2, Option.some.injEq, exists_eq_left', getK_set, Nat.reduceEqDiff, ↓reduceIte, Bool.not_false, Option.isSome_none]
      exact ⟨B, hM, by rw [hcm]; trivial, gAll⟩
    | some R =>
      rw [hcm, show (some R).getD [] = R from rfl] at C'
      have lW : loadV hG (.p idW 0) one? = .ok wv' hG := load_p C'.eW rfl
      simp (disch := omega) only [f71_r12, f71_rs, w_skip, w_reg, w_seq, w_cond, w_ret, seqK_n, ckB_b, cbB_b, true_and, retK_r, x_nil, x_as, x_ld, x_not, kx, rvP_ok, ev_t, ev_c, getV_some, putD_some, onB_b, oGet_s, readRs_nil, readRs_t, retV_2, Option.some.injEq, exists_eq_left', getK_set, Nat.reduceEqDiff, ↓reduceIte, Bool.false_eq_true, Bool.not_true, g6, Option.isSome_some, lW]
      refine ⟨B, hM, ?_, gAll⟩
      rw [hcm]
      exact ⟨wv', us', rfl, ⟨C'.len, C'.out.sr, C'.inn⟩⟩
end
end Go.Ev
namespace Go.Ev
open Go Go.RowKit
section
variable {fs : T EF} {h : H} {v : V} {us : List V} {n : Nat} {Q : List (List (Int × Int))}
/-! ### Complete -/
theorem tryC_some {a : Nat} {g : List Nat → Option (List (List (Int × Int)))} {B : List Nat} {r : List (Int × Int)} {R : List (List (Int × Int))} (h : tryC a g B r = some R) : r.getD 0 (0, 0) = (0, (a : Int)) ∧ ∃ B' R', addR B r = some B' ∧ g B' = some R' ∧ R = r :: R' := by
  unfold tryC at h
  split at h
  · rename_i e
    refine ⟨e, ?_⟩
    cases ha : addR B r with
    | none => rw [ha] at h; cases h
    | some B' =>
      rw [ha] at h
      have h : (g B').map (fun R => r :: R) = some R := h
      cases hg : g B' with
      | none => rw [hg] at h; cases h
      | some R' =>
        rw [hg] at h
        injection h with h
        exact ⟨B', R', rfl, hg, h.symm⟩
  · cases h
theorem cmp_mem {Y : List (List (Int × Int))} : ∀ {f : Nat} {B : List Nat} {R : List (List (Int × Int))}, cmp n Y f B = some R → R.length ≤ f ∧ ∀ r ∈ R, r ∈ Y
  | 0, B, R, h => by
    have h : (match mss n (B.getD 0 0) with | none => some [] | some _ => none) = some R := h
    split at h
    · injection h with h; subst h; exact ⟨Nat.le_refl _, fun r hr => by cases hr⟩
    · cases h
  | f + 1, B, R, h => by
    have h : (match mss n (B.getD 0 0) with | none => some [] | some a => Y.findSome? (tryC a (cmp n Y f) B)) = some R := h
    split at h
    · injection h with h; subst h; exact ⟨Nat.zero_le _, fun r hr => by cases hr⟩
    · obtain ⟨r, hr, e⟩ := List.exists_of_findSome?_eq_some h
      obtain ⟨_, B', R', _, h2, rfl⟩ := tryC_some e
      obtain ⟨h3, h4⟩ := cmp_mem h2
      refine ⟨by rw [List.length_cons]; omega, fun x hx => ?_⟩
      rcases List.mem_cons.1 hx with rfl | hx
      · exact hr
      · exact h4 x hx
structure CallsC4 (fs : T EF) : Prop extends CallsCp fs where
  s65 : fs.get (K.ofNat 65) = some f65
  s70x : fs.get (K.ofNat 70) = some f70
theorem f47_no {n : Int} (k : CallsC4 fs) (hn : ¬ (ok5 n ∧ n ≤ 8)) : Ret fs f47 [.i .i64 n, v] h fun r h' => r = .tup [.sn, .b false, .i .i64 1] ∧ h' = h := by
  apply ret_of rfl
  show W fs none f47_c _ _ _
  unfold f47_c
  by_cases ho : ok5 n
  · have d1 : decide (n > 8) = true := decide_eq_true (by
      have : ¬ n ≤ 8 := fun h => hn ⟨ho, h⟩
      omega)
    simp (disch := omega) only [f47_r0, f47_r1, w_reg, w_seq, seqK_n, x_nil, x_mv, x_as, x_call, ev_t, ev_c, evs_nil, evs_cons, getV_some, putD_some, frame_2, of0, of8, getK_set, Nat.reduceEqDiff, ↓reduceIte]
    refine (callP_0 (ef := f65) k.s65 rfl (f65_ok ho)).mono ?_
    rintro r h1 ⟨rfl, e⟩
    rw [e]
    simp (disch := omega) only [f47_r2, f47_rs, w_reg, w_seq, w_cond, w_ret, seqK_n, seqK_r, ckB_b, cbB_b, okG_b, asG_f, retK_r, x_nil, x_g, x_mv, x_as, x_pick, x_bin, x_not, kx, rvP_ok, okv_some, ev_t, ev_c, getV_some, putD_some, bin_gtr, pick_b, onB_b, oGet_s, readRs_nil, readRs_t, retV_2, of1, Option.some.injEq, exists_eq_left', getK_set, Nat.reduceEqDiff, ↓reduceIte, Bool.false_eq_true, Bool.not_true, Bool.not_false, Bool.not_true, d1, and_self]
  · simp (disch := omega) only [f47_r0, f47_r1, w_reg, w_seq, seqK_n, x_nil, x_mv, x_as, x_call, ev_t, ev_c, evs_nil, evs_cons, getV_some, putD_some, frame_2, of0, of8, getK_set, Nat.reduceEqDiff, ↓reduceIte]
    refine (callP_0 (ef := f65) k.s65 rfl (f65_no ho)).mono ?_
    rintro r h1 ⟨rfl, e⟩
    rw [e]
    simp (disch := omega) only [f47_r2, f47_rs, w_reg, w_seq, w_cond, w_ret, seqK_n, seqK_r, ckB_b, cbB_b, okG_b, asG_f, retK_r, x_nil, x_g, x_mv, x_as, x_pick, x_not, kx, rvP_ok, ev_t, ev_c, getV_some, putD_some, pick_b, onB_b, oGet_s, readRs_nil, readRs_t, retV_2, of1, Option.some.injEq, exists_eq_left', getK_set, Nat.reduceEqDiff, ↓reduceIte, Bool.false_eq_true, Bool.not_true, Bool.not_false, Bool.not_false, and_self]
theorem f47_ret (k : CallsC4 fs) (ho : ok5 (n : Int)) (hn8 : n ≤ 8) (hv : Nrp h v us Q) (hL2 : ∀ l ∈ Q, l.length ≤ 9223372036854775807) (hc : HC h) : Ret fs f47 [.i .i64 (n : Int), v] h fun r h' =>
    (bgB n Q = false → r = .tup [.sn, .b false, .i .i64 40]) ∧ (bgB n Q = true → ∃ B u xs, Met B Q.flatten ∧ r = .tup [u, .b (cmp n (prE n (n / 2) [] 0) n B).isSome, .i .i64 0] ∧ Nrp h' u xs (match cmp n (prE n (n / 2) [] 0) n B with | none => [] | some R => Q ++ R)) ∧ Grow h.nx.nat h h' := by
  have ho' := ho
  unfold ok5 at ho'
  have d1 : decide ((n : Int) > 8) = false := decide_eq_false (by omega)
  apply ret_of rfl
  show W fs none f47_c _ _ _
  unfold f47_c
  simp (disch := omega) only [f47_r0, f47_r1, w_reg, w_seq, seqK_n, x_nil, x_mv, x_as, x_call, ev_t, ev_c, evs_nil, evs_cons, getV_some, putD_some, frame_2, of0, of8, getK_set, Nat.reduceEqDiff, ↓reduceIte]
  refine (callP_0 (ef := f65) k.s65 rfl (f65_ok ho)).mono ?_
  rintro r h1 ⟨rfl, e⟩
  rw [e]
  clear e h1
  simp (disch := omega) only [f47_r3, w_skip, w_reg, w_seq, w_cond, seqK_n, ckB_b, cbB_b, okG_b, asG_f, true_and, x_nil, x_g, x_mv, x_pick, x_bin, x_not, x_call, kx, rvP_ok, okv_some, ev_t, ev_c, evs_nil, evs_cons, getV_some, putD_some, bin_gtr, pick_b, onB_b, getK_set, Nat.reduceEqDiff, ↓reduceIte, Bool.false_eq_true, Bool.not_true, Bool.not_false, Bool.not_true, d1]
  refine (callP_0 (ef := f70) k.s70x rfl (f70_ret k.toCallsBg (by omega) hv hL2 hc)).mono ?_
  rintro r h2 ⟨c, ws, rfl, hs, hG⟩
  cases hb : bgB n Q with
  | false =>
    simp (disch := omega) only [f47_r4, f47_r5, f47_rs, w_reg, w_seq, w_cond, w_ret, seqK_n, seqK_r, ckB_b, cbB_b, true_and, retK_r, x_nil, x_mv, x_as, x_not, x_ext, kx, rvP_ok, okv_some, ev_t, ev_c, getV_some, putD_some, onB_b, onTup_t, oGet_s, nth0, nth1, readRs_nil, readRs_t, retV_2, Option.some.injEq, exists_eq_left', getK_set, Nat.reduceEqDiff, ↓reduceIte, Bool.false_eq_true, Bool.not_false, of40, Bool.not_false]
    exact ⟨fun _ => trivial, fun h => (by cases h), hG⟩
  | true =>
    obtain ⟨hs, _⟩ := hs hb
    have hc2 := hG.hc hc
    simp (disch := omega) only [f47_r4, f47_r6, w_skip, w_reg, w_seq, w_cond, seqK_n, ckB_b, cbB_b, true_and, x_nil, x_mv, x_as, x_not, x_ext, x_call, kx, rvP_ok, okv_some, ev_t, ev_c, evs_nil, evs_cons, getV_some, putD_some, onB_b, onTup_t, nth0, nth1, getK_set, Nat.reduceEqDiff, ↓reduceIte, Bool.false_eq_true, Bool.not_true, Bool.not_true]
    refine (callP_0 (ef := f71) k.r71 rfl (f71_ret k.toCallsCp (by omega) (by omega) (by omega) hs.nrp hb hc2)).mono ?_
    rintro r h3 ⟨B, hM, hr, hG3⟩
    have hc3 := hG3.hc hc2
    have hG13 := hG.trans (hG3.low hG.nx)
    have hb' := hb
    unfold bgB at hb'
    simp only [Bool.and_eq_true, decide_eq_true_iff, List.all_eq_true] at hb'
    cases hcm : cmp n (prE n (n / 2) [] 0) n B with
    | none =>
      rw [hcm] at hr
      have hr : r = .tup [.sn, .b false] := hr
      subst hr
      simp (disch := omega) only [f47_r7, w_reg, w_seq, seqK_n, x_nil, x_mv, x_as, x_ext, x_call, kx, rvP_ok, okv_some, ev_t, ev_c, evs_nil, evs_cons, getV_some, putD_some, onTup_t, nth0, nth1, of0, getK_set, Nat.reduceEqDiff, ↓reduceIte]
      refine (callP_0 (ef := f60) k.r60 rfl (f60_ret (us := []) (Ls := []) ⟨rfl, Sr.nil, fun i h1 => absurd h1 (by simp)⟩ ⟨by simp, fun l hl => absurd hl (by simp)⟩ hc3)).mono ?_
      rintro u h4 ⟨xs, hx, hG4⟩
      simp (disch := omega) only [f47_rs, w_ret, seqK_n, retK_r, x_nil, x_mv, x_as, kx, ev_t, ev_c, getV_some, putD_some, oGet_s, readRs_nil, readRs_t, retV_2, Option.some.injEq, exists_eq_left', getK_set, Nat.reduceEqDiff, ↓reduceIte]
      exact ⟨fun h => (by cases h), fun _ => ⟨B, u, xs, hM, by rw [hcm]; rfl, by rw [hcm]; exact hx⟩, hG13.trans (hG4.low hG13.nx)⟩
    | some R =>
      rw [hcm] at hr
      obtain ⟨u1, xs1, rfl, hN⟩ := hr
      obtain ⟨m1, m2⟩ := cmp_mem hcm
      have hrl : ∀ l ∈ Q ++ R, l.length ≤ 1000 := fun l hl => by
        rcases List.mem_append.1 hl with hl | hl
        · have := hb'.2.1 l hl
          unfold rndB at this
          simp only [Bool.and_eq_true, decide_eq_true_iff] at this
          omega
        · obtain ⟨m', s⟩ := prE_mem (st_0 (by omega) (by omega)) l (m2 l hl)
          have := s.sum
          omega
      simp (disch := omega) only [f47_r7, w_reg, w_seq, seqK_n, x_nil, x_mv, x_as, x_ext, x_call, kx, rvP_ok, okv_some, ev_t, ev_c, evs_nil, evs_cons, getV_some, putD_some, onTup_t, nth0, nth1, of0, getK_set, Nat.reduceEqDiff, ↓reduceIte]
      refine (callP_0 (ef := f60) k.r60 rfl (f60_ret hN ⟨by rw [List.length_append]; omega, hrl⟩ hc3)).mono ?_
      rintro u h4 ⟨xs, hx, hG4⟩
      simp (disch := omega) only [f47_rs, w_ret, seqK_n, retK_r, x_nil, x_mv, x_as, kx, ev_t, ev_c, getV_some, putD_some, oGet_s, readRs_nil, readRs_t, retV_2, Option.some.injEq, exists_eq_left', getK_set, Nat.reduceEqDiff, ↓reduceIte]
      exact ⟨fun h => (by cases h), fun _ => ⟨B, u, xs, hM, by rw [hcm]; rfl, by rw [hcm]; exact hx⟩, hG13.trans (hG4.low hG13.nx)⟩
end
end Go.Ev
namespace Go.Ev
open Go Go.RowKit
section
variable {n m f a : Nat} {B B' : List Nat} {P r : List (Int × Int)} {Q R : List (List (Int × Int))}
theorem rnd_of_st (s : St n r m 0) : rndB n r = true := by
  have hs := s.sum
  unfold rndB aaB
  simp only [Bool.and_eq_true, decide_eq_true_iff]
  exact ⟨by omega, by rw [pl_len]; omega, s.rg, s.nd⟩
theorem addR_met (hn : n ≤ 10) : ∀ {r : List (Int × Int)} {B : List Nat} {P : List (Int × Int)}, Met B P → P.Pairwise dsR → Gm n r → (∀ B', addR B r = some B' → Met B' (P ++ r) ∧ (P ++ r).Pairwise dsR) ∧ ((P ++ r).Pairwise dsR → ∃ B', addR B r = some B')
  | [], B, P, hM, hP, _ => ⟨fun B' e => by
      obtain rfl : B = B' := by injection e
      rw [List.append_nil]; exact ⟨hM, hP⟩, fun _ => ⟨B, rfl⟩⟩
  | g :: r, B, P, hM, hP, hg => by
    obtain ⟨z1, z2, z3⟩ := hg g (by simp)
    obtain ⟨x, hx⟩ := Int.eq_ofNat_of_zero_le z1.1
    obtain ⟨y, hy⟩ := Int.eq_ofNat_of_zero_le z2.1
    have hxy : g = ((x : Int), (y : Int)) := Prod.ext hx hy
    subst hxy
    have z1 : 0 ≤ (x : Int) ∧ (x : Int) < (n : Int) := z1
    have z2 : 0 ≤ (y : Int) ∧ (y : Int) < (n : Int) := z2
    have z3 : (x : Int) ≠ (y : Int) := z3
    have hbit := hM.bit x y (by omega) (by omega)
    have hds := ds_snoc (e := ((x : Int), (y : Int))) hP
    have hadd : addR B (((x : Int), (y : Int)) :: r) = if (B.getD x 0).testBit y = true then none else addR (metT B x y) r := rfl
    have happ : P ++ ((x : Int), (y : Int)) :: r = (P ++ [((x : Int), (y : Int))]) ++ r := by simp
    rw [happ]
    cases hb : (B.getD x 0).testBit y with
    | true =>
      rw [hb] at hadd
      refine ⟨fun B' e => (by rw [hadd] at e; cases e), fun hp => ?_⟩
      have h1 := (List.pairwise_append.1 hp).1
      exact absurd (hbit.1 hb) (hds.1 h1)
    | false =>
      rw [hb] at hadd
      rw [if_neg (by simp)] at hadd
      have hno : ¬ (((x : Int), (y : Int)) ∈ P ∨ ((y : Int), (x : Int)) ∈ P) := fun h => by rw [hbit.2 h] at hb; cases hb
      obtain ⟨h1, h2⟩ := addR_met hn (hM.add (a := x) (b := y) (by omega) (by omega) (by omega)) (hds.2 hno) (fun e hem => hg e (List.mem_cons_of_mem _ hem))
      rw [hadd]
      exact ⟨h1, h2⟩
theorem unm_eq (hn1 : 1 ≤ n) (hn : n ≤ 10) (hM : Met B Q.flatten) (hr : ∀ l ∈ Q, rndB n l = true) (hp : Q.flatten.Pairwise dsR) : unm n (B.getD 0 0) + Q.length = n - 1 := by
  have hin : ∀ l ∈ Q, ∃ u : Nat, opF l 0 = (u : Int) ∧ 1 ≤ u ∧ u < n ∧ ((0, (u : Int)) ∈ l ∨ ((u : Int), 0) ∈ l) := fun l hl => by
    have h1 := op_mem (rnd_all (hr l hl) (t := 0) ⟨Int.le_refl _, by omega⟩)
    have key : 0 ≤ opF l 0 ∧ opF l 0 < (n : Int) ∧ opF l 0 ≠ 0 := by
      rcases h1 with h | h
      · obtain ⟨_, q2, q3⟩ := rnd_e (hr l hl) _ h
        exact ⟨q2.1, q2.2, fun e => q3 e.symm⟩
      · obtain ⟨q1, _, q3⟩ := rnd_e (hr l hl) _ h
        exact ⟨q1.1, q1.2, q3⟩
    refine ⟨(opF l 0).toNat, by omega, by omega, by omega, ?_⟩
    rw [show (((opF l 0).toNat : Nat) : Int) = opF l 0 by omega]
    exact h1
  have hO : (Q.map fun l => opF l 0).Nodup := by
    rw [List.nodup_iff_pairwise_ne, List.pairwise_map]
    rw [List.pairwise_flatten] at hp
    refine hp.2.imp_of_mem fun {l l'} hl hl' h e => ?_
    obtain ⟨u, hu, _, _, h1⟩ := hin l hl
    obtain ⟨u', hu', _, _, h2⟩ := hin l' hl'
    have eu : (u : Int) = (u' : Int) := by rw [← hu, ← hu', e]
    rw [← eu] at h2
    rcases h1 with h1 | h1 <;> rcases h2 with h2 | h2
    · exact (h _ h1 _ h2).1 rfl
    · exact (h _ h1 _ h2).2 rfl
    · exact (h _ h1 _ h2).2 rfl
    · exact (h _ h1 _ h2).1 rfl
  have hbit : ∀ x : Nat, 1 ≤ x → x < n → ((B.getD 0 0).testBit x = true ↔ (x : Int) ∈ Q.map fun l => opF l 0) := fun x hx1 hx2 => by
    rw [hM.bit 0 x (by omega) (by omega), List.mem_map]
    constructor
    · intro h
      have : ∃ l ∈ Q, (((0 : Nat) : Int), (x : Int)) ∈ l ∨ ((x : Int), ((0 : Nat) : Int)) ∈ l := by
        rcases h with h | h
        · obtain ⟨l, h1, h2⟩ := List.mem_flatten.1 h; exact ⟨l, h1, .inl h2⟩
        · obtain ⟨l, h1, h2⟩ := List.mem_flatten.1 h; exact ⟨l, h1, .inr h2⟩
      obtain ⟨l, hl, h⟩ := this
      exact ⟨l, hl, op_of (rnd_nd (hr l hl)) h⟩
    · rintro ⟨l, hl, e⟩
      obtain ⟨u, hu, _, _, h1⟩ := hin l hl
      rw [hu] at e
      rw [← e]
      rcases h1 with h1 | h1
      · exact .inl (List.mem_flatten.2 ⟨l, hl, h1⟩)
      · exact .inr (List.mem_flatten.2 ⟨l, hl, h1⟩)
  have hF : (((List.range n).filter fun a => decide (1 ≤ a) && !(B.getD 0 0).testBit a).map fun (k : Nat) => (k : Int)).Nodup := by
    rw [List.nodup_iff_pairwise_ne, List.pairwise_map]
    exact (List.nodup_iff_pairwise_ne.1 (List.nodup_range.filter _)).imp fun h => by omega
  have hmemF : ∀ x : Int, x ∈ (((List.range n).filter fun a => decide (1 ≤ a) && !(B.getD 0 0).testBit a).map fun (k : Nat) => (k : Int)) ↔ ∃ k : Nat, x = (k : Int) ∧ k < n ∧ 1 ≤ k ∧ (B.getD 0 0).testBit k = false := fun x => by
    rw [List.mem_map]
    constructor
    · rintro ⟨k, hk, rfl⟩
      obtain ⟨h1, h2⟩ := List.mem_filter.1 hk
      simp only [Bool.and_eq_true, Bool.not_eq_true', decide_eq_true_eq] at h2
      exact ⟨k, rfl, by simpa using h1, h2.1, h2.2⟩
    · rintro ⟨k, rfl, h1, h2, h3⟩
      exact ⟨k, List.mem_filter.2 ⟨by simpa using h1, by rw [h3, decide_eq_true h2]; rfl⟩, rfl⟩
  have hA : ((((List.range n).filter fun a => decide (1 ≤ a) && !(B.getD 0 0).testBit a).map fun (k : Nat) => (k : Int)) ++ Q.map fun l => opF l 0).Nodup := by
    rw [List.nodup_append]
    refine ⟨hF, hO, fun x hx y hy e => ?_⟩
    subst e
    obtain ⟨k, rfl, h1, h2, h3⟩ := (hmemF x).1 hx
    rw [(hbit k h2 h1).2 hy] at h3
    cases h3
  have hU : ((List.range (n - 1)).map fun (k : Nat) => ((k + 1 : Nat) : Int)).Nodup := by
    rw [List.nodup_iff_pairwise_ne, List.pairwise_map]
    exact (List.nodup_iff_pairwise_ne.1 List.nodup_range).imp fun h => by omega
  have i1 := nodup_le hA (m := (List.range (n - 1)).map fun (k : Nat) => ((k + 1 : Nat) : Int)) fun x hx => by
    rcases List.mem_append.1 hx with hx | hx
    · obtain ⟨k, rfl, h1, h2, _⟩ := (hmemF x).1 hx
      exact List.mem_map.2 ⟨k - 1, by simp; omega, by omega⟩
    · obtain ⟨l, hl, rfl⟩ := List.mem_map.1 hx
      obtain ⟨u, hu, h1, h2, _⟩ := hin l hl
      exact List.mem_map.2 ⟨u - 1, by simp; omega, by omega⟩
  have i2 := nodup_le hU (m := (((List.range n).filter fun a => decide (1 ≤ a) && !(B.getD 0 0).testBit a).map fun (k : Nat) => (k : Int)) ++ Q.map fun l => opF l 0) fun x hx => by
    obtain ⟨k, hk, rfl⟩ := List.mem_map.1 hx
    have hk : k < n - 1 := by simpa using hk
    rw [List.mem_append]
    cases hb : (B.getD 0 0).testBit (k + 1) with
    | true => exact .inr ((hbit (k + 1) (by omega) (by omega)).1 hb)
    | false => exact .inl ((hmemF _).2 ⟨k + 1, rfl, by omega, by omega, hb⟩)
  rw [List.length_append, List.length_map, List.length_map, List.length_map, List.length_range] at i1 i2
  unfold unm
  omega
theorem unm_none {t : Nat} (h : mss n t = none) : unm n t = 0 := by
  unfold unm
  rw [List.length_eq_zero_iff, List.filter_eq_nil_iff]
  intro x hx hh
  have hx : x < n := by simpa using hx
  simp only [Bool.and_eq_true, Bool.not_eq_true', decide_eq_true_eq] at hh
  rw [mss_none h x hh.1 hx] at hh
  cases hh.2
/-- What is found goes on to a schedule. -/
theorem cmp_sound (hn1 : 2 ≤ n) (hn : n ≤ 10) (he : n % 2 = 0) : ∀ {f : Nat} {B : List Nat} {Q R : List (List (Int × Int))}, Met B Q.flatten → (∀ l ∈ Q, rndB n l = true) → Q.flatten.Pairwise dsR → cmp n (prE n (n / 2) [] 0) f B = some R → (∀ l ∈ Q ++ R, rndB n l = true) ∧ (Q ++ R).flatten.Pairwise dsR ∧ (Q ++ R).length = n - 1
  | 0, B, Q, R, hM, hr, hp, h => by
    have h : (match mss n (B.getD 0 0) with | none => some [] | some _ => none) = some R := h
    split at h
    · rename_i hm
      injection h with h; subst h
      have := unm_eq (by omega) hn hM hr hp
      rw [unm_none hm] at this
      rw [List.append_nil]
      exact ⟨hr, hp, by omega⟩
    · cases h
  | f + 1, B, Q, R, hM, hr, hp, h => by
    have h : (match mss n (B.getD 0 0) with | none => some [] | some a => (prE n (n / 2) [] 0).findSome? (tryC a (cmp n (prE n (n / 2) [] 0) f) B)) = some R := h
    split at h
    · rename_i hm
      injection h with h; subst h
      have := unm_eq (by omega) hn hM hr hp
      rw [unm_none hm] at this
      rw [List.append_nil]
      exact ⟨hr, hp, by omega⟩
    · obtain ⟨r, hrY, e⟩ := List.exists_of_findSome?_eq_some h
      obtain ⟨_, B', R', h1, h2, rfl⟩ := tryC_some e
      obtain ⟨m', s⟩ := prE_mem (st_0 hn he) r hrY
      obtain ⟨w1, w2⟩ := (addR_met hn hM hp s.gm).1 B' h1
      have hfl : (Q ++ [r]).flatten = Q.flatten ++ r := by simp
      rw [← hfl] at w1 w2
      have := cmp_sound hn1 hn he w1 (fun l hl => by
        rcases List.mem_append.1 hl with hl | hl
        · exact hr l hl
        · rw [List.mem_singleton.1 hl]; exact rnd_of_st s) w2 h2
      rw [List.append_assoc] at this
      exact this
theorem cmp_sh (hn1 : 2 ≤ n) (hn : n ≤ 10) (he : n % 2 = 0) (hM : Met B Q.flatten) (hb : bgB n Q = true) (h : cmp n (prE n (n / 2) [] 0) f B = some R) : shB n (Q ++ R) = true := by
  unfold bgB at hb
  simp only [Bool.and_eq_true, decide_eq_true_iff, List.all_eq_true] at hb
  obtain ⟨h1, h2, h3⟩ := cmp_sound hn1 hn he hM hb.2.1 hb.2.2 h
  unfold shB bgB
  simp only [Bool.and_eq_true, decide_eq_true_iff, List.all_eq_true]
  exact ⟨⟨by omega, h1, h2⟩, h3⟩
end
end Go.Ev
namespace Go.Ev
open Go Go.RowKit
section
variable {n m f a c : Nat} {B B' : List Nat} {P r L : List (Int × Int)} {Q R : List (List (Int × Int))} {g sk : Nat → Bool}
theorem prE_pre : ∀ {f : Nat} {L : List (Int × Int)} {m : Nat}, ∀ r ∈ prE n f L m, ∃ s, r = L ++ s
  | 0, L, m, r, hr => by
    have hr : r ∈ [L] := hr
    exact ⟨[], by rw [List.mem_singleton.1 hr, List.append_nil]⟩
  | f + 1, L, m, r, hr => by
    obtain ⟨x, _, hr⟩ := List.mem_flatMap.1 hr
    unfold prG at hr
    split at hr
    · cases hr
    · obtain ⟨s, e⟩ := prE_pre r hr
      exact ⟨[((hm n m : Int), (x : Int))] ++ s, by rw [e, List.append_assoc]⟩
end
end Go.Ev
namespace Go.Ev
open Go Go.RowKit
section
variable {n : Nat} {Ls Q : List (List (Int × Int))} {r : List (Int × Int)} {i s : Nat}
end
end Go.Ev
namespace Go.Ev
open Go Go.RowKit
section
variable {fs : T EF} {h : H} {v : V} {vs : List V} {Ls : List (List (Int × Int))}
end
end Go.Ev
namespace Go.Ev
open Go Go.RowKit
section
variable {n : Nat} {Q : List (List (Int × Int))} {l : List (Int × Int)} {t u j : Nat}
theorem hm_not {a b : Int} : ∀ {l : List (Int × Int)}, (plL l).Nodup → (a, b) ∈ l → b ∉ hmL l
  | [], _, h => by simp at h
  | e :: l, hn, h => by
    have hn : (e.1 :: e.2 :: plL l).Nodup := hn
    obtain ⟨n1, n2⟩ := List.nodup_cons.1 hn
    obtain ⟨n3, n4⟩ := List.nodup_cons.1 n2
    intro hb
    have hb : b ∈ e.1 :: hmL l := hb
    rcases List.mem_cons.1 h with h | h
    · have eb : e.2 = b := by rw [← h]
      rcases List.mem_cons.1 hb with hb | hb
      · exact n1 (by rw [← hb, ← eb]; simp)
      · exact n3 (by rw [eb]; exact hm_pl hb)
    · rcases List.mem_cons.1 hb with hb | hb
      · exact n1 (by rw [← hb]; exact List.mem_cons_of_mem _ (pl_mem h).2)
      · exact hm_not n4 h hb
theorem mem_hm {a b : Int} (h : (a, b) ∈ l) : a ∈ hmL l := List.mem_map.2 ⟨_, h, rfl⟩
/-- Of two that play each other one is at home. -/
theorem ho_op (hr : rndB n l = true) (ht : t < n) (h : opF l (t : Int) = (u : Int)) : hoB l t ≠ hoB l u := by
  have hd := rnd_nd hr
  have := op_mem (rnd_all hr (t := (t : Int)) ⟨by omega, by omega⟩)
  rw [h] at this
  unfold hoB
  rcases this with h1 | h1
  · rw [decide_eq_true (mem_hm h1), decide_eq_false (hm_not hd h1)]; simp
  · rw [decide_eq_true (mem_hm h1), decide_eq_false (hm_not hd h1)]; simp
/-- Any two teams play in some round. -/
theorem meet_all (s : Sched n Q) (ht : t < n) (hu : u < n) (hne : t ≠ u) : ∃ r, r < Q.length ∧ opF (Q.getD r []) (t : Int) = (u : Int) := by
  have hlen := s.len
  have hbd := s.bd.2
  have hnd : ((t : Int) :: (List.range (n - 1)).map fun r => opF (Q.getD r []) (t : Int)).Nodup := by
    refine List.nodup_cons.2 ⟨fun hm => ?_, ?_⟩
    · obtain ⟨r, hr, e⟩ := List.mem_map.1 hm
      have hr : r < n - 1 := by simpa using hr
      have := ho_op (s.vd.rnd (Q.getD r []) (by rw [getD_at (show r < Q.length by omega)]; exact List.getElem_mem _)) ht e
      exact this rfl
    · rw [List.nodup_iff_pairwise_ne, List.pairwise_map]
      refine List.Pairwise.imp_of_mem ?_ List.pairwise_lt_range
      intro a b ha hb hab e
      have ha : a < n - 1 := by simpa using ha
      have hb : b < n - 1 := by simpa using hb
      have w1 := (wh_op s.vd ht (j := t) (r := a) (by omega))
      obtain ⟨c, hc, ec⟩ := op_in s.vd (show a < Q.length by omega) ht
      have w1 := (wh_op s.vd ht (j := c) (r := a) (by omega)).2 ec
      have w2 := (wh_op s.vd ht (j := c) (r := b) (by omega)).2 (by rw [← ec]; exact e.symm)
      rw [w1] at w2
      injection w2 with w2
      omega
  obtain ⟨r, hr, e⟩ := onto (n := n) (by simp; omega) (fun x hx => by
    rcases List.mem_cons.1 hx with rfl | hx
    · exact ⟨by omega, by omega⟩
    · obtain ⟨r, hr, rfl⟩ := List.mem_map.1 hx
      have hr : r < n - 1 := by simpa using hr
      obtain ⟨c, hc, ec⟩ := op_in s.vd (show r < Q.length by omega) ht
      rw [ec]; omega) hnd hu
  cases r with
  | zero => rw [List.getD_cons_zero] at e; omega
  | succ r =>
    rw [List.getD_cons_succ, getD_at (by simp; omega)] at e
    exact ⟨r, by omega, by simpa using e⟩
end
end Go.Ev
namespace Go.Ev
open Go Go.RowKit
section
variable {fs : T EF} {h : H} {v : V} {us : List V} {n : Nat} {Q Ls : List (List (Int × Int))}
end
end Go.Ev
namespace Go.Ev
open Go Go.RowKit
section
variable {fs : T EF}
end
end Go.Ev
namespace Go.Ev
open Go Go.RowKit
section
variable {fs : T EF} {h : H} {v v2 : V} {us : List V} {B : List Int} {Ls : List (List (Int × Int))}
end
end Go.Ev
namespace Go.Ev
open Go Go.RowKit
/-- A slice that is only read, of any elements of one cell: whether there is room behind it or not. -/
structure RdE {α : Type} (e : α → V) (h : H) (v : V) (L : List α) : Prop where
  len : ∀ h1, lenV v h1 = .ok (.i .i64 (L.length : Int)) h1
  now : ∀ i (hi : i < L.length), ∃ p, (∀ k h1, iadsV 1 v (.i k (i : Int)) h1 = .ok p h1) ∧ loadV h p one? = .ok (e L[i]) h
  gr : HC h → ∀ h', Grow h.nx.nat h h' → ∀ i (hi : i < L.length), ∃ p, (∀ k h1, iadsV 1 v (.i k (i : Int)) h1 = .ok p h1) ∧ loadV h' p one? = .ok (e L[i]) h'
theorem RdE.at {α : Type} {e : α → V} {h : H} {v : V} {L : List α} (s : RdE e h v L) (i : Nat) (hi : i < L.length) : ∃ p, (∀ k h1, iadsV 1 v (.i k (i : Int)) h1 = .ok p h1) ∧ loadV h p one? = .ok (e L[i]) h := s.now i hi
theorem RdE.grow {α : Type} {e : α → V} {h h' : H} {v : V} {L : List α} (s : RdE e h v L) (hc : HC h) (hG : Grow h.nx.nat h h') : RdE e h' v L := ⟨s.len, s.gr hc h' hG, fun _ h2 hG2 => s.gr hc h2 (hG.trans (hG2.low hG.nx))⟩
theorem Sr.rdE {α : Type} {e : α → V} {h : H} {v : V} {L : List α} (s : Sr e h v L) : RdE e h v L := ⟨s.len, s.at, fun hc _ hG => (s.grow hc hG).at⟩
/-- x[:m:m]. -/
theorem Sr.cutE {α : Type} {e : α → V} {h : H} {v : V} {L : List α} (hs : Sr e h v L) {m : Nat} (hm : m ≤ L.length) :
    ∃ v', (∀ k k' h1, sliceB 1 v none (some (.i k (m : Int))) (some (.i k' (m : Int))) h1 = .ok v' h1) ∧ RdE e h v' (L.take m) := by
  rcases hs with ⟨rfl, rfl⟩ | ⟨id, off, mm, cs, rfl, hb, hll, hmm, hx⟩
  · have hu0 : m = 0 := by simpa using hm
    subst hu0
    exact ⟨.sn, fun _ _ _ => rfl, (Sr.rdE (L := []) (.inl ⟨rfl, rfl⟩))⟩
  · have hl : (L.take m).length = m := by simp; omega
    have at' : ∀ h' : H, (h'.get id = .cells mm cs ∨ h'.get id = .rom mm cs) → ∀ i (hi : i < (L.take m).length), ∃ p, (∀ k h1, iadsV 1 (.slt id off m 1) (.i k (i : Int)) h1 = .ok p h1) ∧ loadV h' p one? = .ok (e (L.take m)[i]) h' := by
      intro h' hb' i hi
      have hi' : i < m := by omega
      refine ⟨.p id (off + i * 1), fun k h1 => ?_, ?_⟩
      · show iadsV 1 (.slt id off m 1) (.i k (i : Int)) h1 = _
        show (bif Nat.beq 1 1 then idxV (.i k (i : Int)) m fun q => RV.ok (.p id (off + q * 1)) h1 else RV.no) = _
        rw [Nat.beq_refl]
        show idxV (.i k (i : Int)) m (fun q => RV.ok (.p id (off + q * 1)) h1) = _
        rw [idx_n hi']
      · exact load_r hb' (by rw [nth_eq, Nat.mul_one, hx i (by omega)]; simp)
    refine ⟨.slt id off m 1, fun k k' h1 => ?_, fun h1 => by rw [hl]; rfl, at' h hb, fun hc h' hG => at' h' ?_⟩
    · show (bif Nat.beq 1 1 then cutV id off L.length 1 h1 0 m (some m) else RV.no) = _
      rw [Nat.beq_refl]
      show cutV id off L.length 1 h1 0 m (some m) = _
      unfold cutV
      rw [Nat.ble_eq_true_of_le (Nat.zero_le m), Nat.ble_eq_true_of_le hm]
      show (bif true && (Nat.ble m m && Nat.ble m L.length) then RV.ok (bif Nat.beq m m then V.slt id (off + 0 * 1) (m - 0) 1 else _) h1 else RV.no) = _
      rw [Nat.ble_eq_true_of_le (Nat.le_refl m), Nat.ble_eq_true_of_le hm, Nat.beq_refl]
      show RV.ok (V.slt id (off + 0 * 1) (m - 0) 1) h1 = _
      rw [Nat.zero_mul, Nat.add_zero, Nat.sub_zero]
    · have hlt : id.nat < h.nx.nat := by
        rcases hb with hb | hb
        · exact hc.cells hb
        · exact hc.lt (by rw [hb]; simp)
      rw [hG.old id hlt]; exact hb
/-- A slice of slices of pairs that is only read. -/
structure NrT (h : H) (v : V) (us : List V) (Ls : List (List (Int × Int))) : Prop where
  len : us.length = Ls.length
  out : RdE vE h v us
  inn : ∀ i (h1 : i < us.length) (h2 : i < Ls.length), Srp h us[i] Ls[i]
theorem NrT.grow {h h' : H} {v : V} {us : List V} {Ls : List (List (Int × Int))} (s : NrT h v us Ls) (hc : HC h) (hg : Grow h.nx.nat h h') : NrT h' v us Ls := ⟨s.len, s.out.grow hc hg, fun i h1 h2 => (s.inn i h1 h2).grow hc hg⟩
section
variable {fs : T EF} {h : H} {v : V} {us : List V} {Ls : List (List (Int × Int))}
theorem f70t_ret {n : Nat} (k : CallsBg fs) (hn : 1 ≤ n ∧ n ≤ 10) (hv : NrT h v us Ls) (hL2 : ∀ l ∈ Ls, l.length ≤ 9223372036854775807) (hc : HC h) : Ret fs f70 [.i .i64 (n : Int), v] h fun r h' => ∃ c ws, r = .tup [c, .b (bgB n Ls)] ∧ (bgB n Ls = true → Sll h' c ws Ls ∧ Own h.nx.nat c) ∧ Grow h.nx.nat h h' := by
  have en1 : (n : Int) - 1 = ((n - 1 : Nat) : Int) := by omega
  have hlen : ∀ h1, lenV v h1 = .ok (.i .i64 (Ls.length : Int)) h1 := fun h1 => by rw [hv.out.len, hv.len]
  apply ret_of rfl
  show W fs none f70_c _ _ _
  unfold f70_c
  by_cases hl : Ls.length ≤ n - 1
  · have d0 : decide ((Ls.length : Int) > ((n - 1 : Nat) : Int)) = false := by simp; omega
    have hbg : bgB n Ls = (Ls.all (rndB n) && decide (Ls.flatten.Pairwise dsR)) := by unfold bgB; rw [decide_eq_true hl, Bool.true_and]
    have gA : Grow h.nx.nat h (h.new (.cells 10 ((List.replicate 10 0).map uE))) := Grow.new (Nat.le_refl _) _
    have n1 := nx_new h (.cells 10 ((List.replicate 10 0).map uE))
    have hA : Ar uE (h.new (.cells 10 ((List.replicate 10 0).map uE))) h.nx (List.replicate 10 0) := get_new_same
    simp (disch := omega) only [f70_r0, f70_r1, f70_r3, f70_r4, f70_r5, w_skip, w_reg, w_seq, w_cond, w_block, seqK_n, ckB_b, cbB_b, true_and, x_nil, x_mv, x_as, x_alloc, x_bin, x_len, kx, rvP_ok, okv_some, ev_t, ev_c, getV_some, putD_some, bin_sub, bin_gtr, frame_2, of0, of1, getK_set, Nat.reduceEqDiff, ↓reduceIte, Bool.false_eq_true, hlen, en1, fw64, d0, rep10]
    generalize h.new (.cells 10 ((List.replicate 10 0).map uE)) = h0 at *
    refine W_loop (f70_I h n v Ls) (fun i => Ls.length - i) ?_ 0 ⟨by omega, .sn, [], _, ⟨gA, by omega, Sll.nil, Own.sn, fun x hx => absurd hx (by simp), rfl, List.Pairwise.nil⟩, hA, Met.nil, by simp (disch := omega) only [getK_set, Nat.reduceEqDiff, ↓reduceIte, and_self, Int.natCast_zero]⟩
    clear gA n1 hA h0
    rintro i fr h1 ⟨hi, c, ws, T, hB, hA, hM, g0, g1, g6, g7, g19, g20, g21⟩
    have hc1 := hB.gr.hc hc
    have hv1 := hv.grow hc hB.gr
    unfold f70_l1
    by_cases hlt : i < Ls.length
    · have d1 : decide ((i : Int) < (Ls.length : Int)) = true := by simpa using hlt
      have hiu : i < us.length := by rw [hv.len]; exact hlt
      obtain ⟨p, hp1, hp2'⟩ := hv1.out.at i hiu
      have hp2 : loadV h1 p one? = .ok us[i] h1 := hp2'
      clear hp2'
      have hui := hv1.inn i hiu hlt
      have htk := List.take_succ_eq_append_getElem hlt
      have hmem : Ls[i] ∈ Ls := List.getElem_mem hlt
      have hL := hL2 _ hmem
      have hflat : (Ls.take (i + 1)).flatten = (Ls.take i).flatten ++ Ls[i] := by rw [htk, List.flatten_append]; simp
      have hsubl : ((Ls.take (i + 1)).flatten).Sublist Ls.flatten := by
        have e : Ls.flatten = (Ls.take (i + 1)).flatten ++ (Ls.drop (i + 1)).flatten := by rw [← List.flatten_append, List.take_append_drop]
        rw [e]
        exact List.sublist_append_left _ _
      generalize us[i] = w at *
      generalize Ls[i] = l at *
      simp (disch := omega) only [f70_r6, f70_r7, f70_r8, w_skip, w_reg, w_seq, w_cond, w_block, seqK_n, ckB_b, cbB_b, true_and, x_nil, x_mv, x_as, x_ld, x_bin, x_iads, x_call, kx, rvP_ok, okv_some, ev_t, ev_c, evs_nil, evs_cons, getV_some, putD_some, bin_lss, getK_set, Nat.reduceEqDiff, ↓reduceIte, g0, g19, g20, g21, d1, hp1, hp2]
      refine (callP_0 (ef := f68) k.c68 rfl (f68_ret k.toCallsAa k.c61 (by omega) hui hL hc1)).mono ?_
      rintro r h2 ⟨u, rfl, hu, hG2⟩
      cases hrnd : rndB n l with
      | false =>
        have hno : bgB n Ls = false := by
          rw [hbg]
          have : Ls.all (rndB n) = false := by
            rw [Bool.eq_false_iff]
            intro hh
            have := List.all_eq_true.1 hh l hmem
            rw [hrnd] at this; cases this
          rw [this, Bool.false_and]
        simp (disch := omega) only [f70_r9, f70_r10, f70_rs, w_reg, w_seq, w_cond, w_ret, seqK_n, seqK_r, atK_r, loopK_r, ckB_b, cbB_b, true_and, retK_r, x_nil, x_mv, x_as, x_not, x_ext, kx, rvP_ok, okv_some, ev_t, ev_c, getV_some, putD_some, onB_b, onTup_t, oGet_s, nth0, nth1, readRs_nil, readRs_t, retV_2, Option.some.injEq, exists_eq_left', getK_set, Nat.reduceEqDiff, ↓reduceIte, Bool.not_false, Bool.not_false]
        exact ⟨.sn, [], by rw [hno], (fun e => (by rw [hno] at e; cases e)), hB.gr.trans (hG2.low hB.gr.nx)⟩
      | true =>
        obtain ⟨hu, hou⟩ := hu hrnd
        have hc2 := hG2.hc hc1
        have hGa := hB.gr.trans (hG2.low hB.gr.nx)
        have hre := rnd_e hrnd
        have hll : l.length ≤ 5 := by
          unfold rndB at hrnd
          rw [Bool.and_eq_true, decide_eq_true_iff] at hrnd
          omega
        have hlu : ∀ h1, lenV u h1 = .ok (.i .i64 (l.length : Int)) h1 := fun h1 => by rw [hu.len]
        have hnn : h.nx.nat < h1.nx.nat := by have := hB.nx; omega
        have hA2 := hA.same (hG2.old _ hnn)
        simp (disch := omega) only [f70_r9, f70_r11, w_skip, w_reg, w_seq, w_cond, w_block, seqK_n, ckB_b, cbB_b, true_and, x_nil, x_mv, x_as, x_not, x_ext, x_len, kx, rvP_ok, okv_some, ev_t, ev_c, getV_some, putD_some, onB_b, onTup_t, nth0, nth1, of0, getK_set, Nat.reduceEqDiff, ↓reduceIte, Bool.false_eq_true, Bool.not_true, Bool.not_true, hlu]
        refine W_loop (f70_J h h2 n v c u Ls (Ls.take i).flatten l i) (fun j => l.length - j) ?_ 0 ⟨by omega, Nat.le_refl _, hc2, fun _ _ _ => rfl, by rw [List.take_zero, List.append_nil]; exact hB.pw, T, hA2, by rw [List.take_zero, List.append_nil]; exact hM, by simp (disch := omega) only [getK_set, Nat.reduceEqDiff, ↓reduceIte, g0, g1, g6, g7, g19, g20, g21, and_self, Int.natCast_zero]⟩
        clear g0 g1 g6 g7 g19 g20 g21 fr hA hA2 hM hp1 hp2
        clear T p
        rintro j fr h3 ⟨hj, hnx3, hc3, hold, hpw, T, hA, hM, g0, g1, g6, g7, g10, g19, g20, g21, g33, g34, g35⟩
        have hult := hu.lt hc2
        have hune : ∀ id off n sz, u = .sl id off n sz → id ≠ h.nx := fun id off n sz e e2 => by have := hou _ _ _ _ e; rw [e2] at this; omega
        have hu3 : Sk 2 qE h3 u l := hu.same fun id off n sz e => hold id (hult _ _ _ _ e) (hune _ _ _ _ e)
        have hgr3 : Grow h.nx.nat h h3 := ⟨Nat.le_trans hGa.nx hnx3, fun id hid => by
          rw [hold id (by have := hGa.nx; omega) (fun e => by rw [e] at hid; omega)]; exact hGa.old id hid, fun _ => hc3⟩
        unfold f70_l0
        by_cases hlt2 : j < l.length
        · have d2 : decide ((j : Int) < (l.length : Int)) = true := by simpa using hlt2
          obtain ⟨ida, q, hq1, hq2, _, _⟩ := hu3.srp.at2 hlt2
          have htk2 := List.take_succ_eq_append_getElem hlt2
          have hme : l[j] ∈ l := List.getElem_mem hlt2
          obtain ⟨b1, b2, b3⟩ := hre _ hme
          obtain ⟨a, ea⟩ : ∃ a : Nat, l[j].1 = (a : Int) := ⟨l[j].1.toNat, by omega⟩
          obtain ⟨b, eb⟩ : ∃ b : Nat, l[j].2 = (b : Int) := ⟨l[j].2.toNat, by omega⟩
          have hej : l[j] = ((a : Int), (b : Int)) := Prod.ext ea eb
          rw [hej] at htk2
          have hsub2 : ((Ls.take i).flatten ++ l.take (j + 1)).Sublist (Ls.take (i + 1)).flatten := by
            rw [hflat]; exact (List.Sublist.refl _).append (List.take_sublist _ _)
          have hsnoc : (Ls.take i).flatten ++ l.take (j + 1) = ((Ls.take i).flatten ++ l.take j) ++ [((a : Int), (b : Int))] := by rw [htk2, List.append_assoc]
          have hst2 : storeV (h3.new (.cells 2 zz)) 2 (.p h3.nx 0) (.agg [.i .i64 l[j].1, .i .i64 l[j].2]) = .ok undefV ((h3.new (.cells 2 zz)).put h3.nx (.cells 2 [.i .i64 l[j].1, .i .i64 l[j].2])) := st2 (a := .i .i64 (.ofNat 0)) (b := .i .i64 (.ofNat 0)) get_new_same
          have nx1 := nx_new h3 (.cells 2 zz)
          have gB : Grow h3.nx.nat h3 ((h3.new (.cells 2 zz)).put h3.nx (.cells 2 [.i .i64 l[j].1, .i .i64 l[j].2])) := (Grow.new (Nat.le_refl _) _).trans (Grow.put (Nat.le_refl _) (by omega) _)
          have c7 : ((h3.new (.cells 2 zz)).put h3.nx (.cells 2 [.i .i64 l[j].1, .i .i64 l[j].2])).get h3.nx = .cells 2 [.i .i64 l[j].1, .i .i64 l[j].2] := get_put_same
          have hzz : ([.i .i64 0, .i .i64 0] : List V) = zz := rfl
          rw [ea, eb] at hst2 gB c7 hq2
          generalize (h3.new (.cells 2 zz)).put h3.nx (.cells 2 [.i .i64 (a : Int), .i .i64 (b : Int)]) = h4 at *
          have hc4 := gB.hc hc3
          have hl4 : loadV h4 (.p h3.nx 0) (many? 2) = .ok (.agg [.i .i64 (a : Int), .i .i64 (b : Int)]) h4 := ldn2 c7
          have hA4 := hA.same (gB.old _ (by have := hG2.nx; omega))
          simp (disch := omega) only [f70_r12, f70_r13, f70_r14, w_skip, w_reg, w_seq, w_cond, w_block, seqK_n, ckB_b, cbB_b, true_and, x_nil, x_alloc, x_ldn, x_st, x_bin, x_iads, x_call, kx, rvP_ok, okv_some, ev_t, ev_c, evs_nil, evs_cons, getV_some, putD_some, putD_none, bin_lss, of0, getK_set, Nat.reduceEqDiff, ↓reduceIte, g7, g33, g34, g35, d2, hq1, hq2, hzz, hst2, hl4]
          refine (callP_0 (ef := f87) k.c87 rfl (f87_ret k.toCallsAa hA4 hM.len hM.le (by omega) (by omega) (by omega) hc4)).mono ?_
          rintro r h5 ⟨rfl, hA5, hnx5, hold5, hc5⟩
          have hbit := hM.bit a b (by omega) (by omega)
          have hgr5 : Grow h.nx.nat h h5 := ⟨by have := hgr3.nx; have := gB.nx; omega, fun id hid => by
            rw [hold5 id (by have := hgr3.nx; have := gB.nx; omega) (fun e => by rw [e] at hid; omega), gB.old id (by have := hgr3.nx; omega)]; exact hgr3.old id hid, fun _ => hc5⟩
          cases hb : (T.getD a 0).testBit b with
          | true =>
            have hin := hbit.1 hb
            have hno : bgB n Ls = false := by
              rw [hbg]
              have : ¬ Ls.flatten.Pairwise dsR := fun hh => by
                have h1 := List.Pairwise.sublist (hsub2.trans hsubl) hh
                rw [hsnoc, ds_snoc hpw] at h1
                exact h1 hin
              rw [decide_eq_false this, Bool.and_false]
            simp (disch := omega) only [f70_r15, f70_rs, w_reg, w_seq, w_cond, w_ret, seqK_n, seqK_r, atK_r, loopK_r, ckB_b, cbB_b, true_and, retK_r, x_nil, x_as, x_not, kx, rvP_ok, ev_t, ev_c, getV_some, putD_some, onB_b, oGet_s, readRs_nil, readRs_t, retV_2, Option.some.injEq, exists_eq_left', getK_set, Nat.reduceEqDiff, ↓reduceIte, Bool.not_true, Bool.not_false, Bool.not_false, Bool.not_true]
            exact ⟨.sn, [], by rw [hno], (fun e => (by rw [hno] at e; cases e)), hgr5⟩
          | false =>
            rw [hb, if_neg (by simp)] at hA5
            have hnin : ¬ (((a : Int), (b : Int)) ∈ (Ls.take i).flatten ++ l.take j ∨ ((b : Int), (a : Int)) ∈ (Ls.take i).flatten ++ l.take j) := fun hh => by
              have := hbit.2 hh
              rw [hb] at this; cases this
            simp (disch := omega) only [f70_r16, w_skip, w_reg, w_cond, seqK_n, atK_n, loopK_n, ckB_b, cbB_b, true_and, x_nil, x_mv, x_bin, x_not, kx, rvP_ok, okv_some, ev_t, ev_c, getV_some, putD_some, bin_add, onB_b, of1, getK_set, Nat.reduceEqDiff, ↓reduceIte, Bool.false_eq_true, Bool.not_true, Bool.not_false, g35, Bool.not_false, Bool.not_true, fw64]
            refine ⟨j + 1, by omega, by omega, by have := gB.nx; omega, hc5, fun id h6 h7 => ?_, ?_, metT T a b, hA5, ?_, by simp (disch := omega) only [getK_set, Nat.reduceEqDiff, ↓reduceIte, g0, g1, g6, g7, g10, g19, g20, g21, g33, g34, and_self, Int.natCast_add, Int.natCast_one]⟩
            · rw [hold5 id (by have := gB.nx; omega) h7, gB.old id (by omega)]; exact hold id h6 h7
            · rw [hsnoc, ds_snoc hpw]; exact hnin
            · rw [hsnoc]; exact hM.add (by omega) (by omega) (by omega)
        · have d2 : decide ((j : Int) < (l.length : Int)) = false := by simpa using hlt2
          have ej : j = l.length := by omega
          rw [ej, List.take_length, ← hflat] at hpw hM
          have hs2 := hB.sl.grow hc1 hG2
          have hclt := hs2.out.lt hc2
          have hs3 : Sll h3 c ws (Ls.take i) := ⟨hs2.len, hs2.out.same fun id off n sz e => hold id (hclt _ _ _ _ e) (fun e2 => by have := hB.oc _ _ _ _ e; rw [e2] at this; omega), fun x h4 h5 => (hs2.inn x h4 h5).old fun id off n sz e => hold id (Srk.lt (hs2.inn x h4 h5) hc2 _ _ _ _ e) (fun e2 => by have := hB.ow _ (List.getElem_mem h4) _ _ _ _ e; rw [e2] at this; omega), hs2.sep⟩
          have hc1lt := hB.sl.out.lt hc1
          obtain ⟨c', h4, a1, s1, o1, gr1, k1⟩ := hs3.push (b := h.nx.nat + 1) hB.oc (by have := hB.nx; have := hG2.nx; omega) hc3 (by simp; omega) hu3.srp (fun id off n sz e off' n' sz' e' => by
            have q1 := hou _ _ _ _ e
            have q2 := hc1lt _ _ _ _ e'
            omega)
          rw [← htk] at s1
          have hcell := hu3.srp.cell
          have hA4 := hA.same ((k1 h.nx (by have := hG2.nx; omega) (fun off n sz e => by have := hB.oc _ _ _ _ e; omega)).1)
          simp (disch := omega) only [f70_r12, f70_r17, f70_r18, w_reg, w_seq, w_cond, w_exit, seqK_n, seqK_e, atK_n, atK_e, loopK_n, loopK_e, ckB_b, cbB_b, true_and, x_nil, x_mv, x_as, x_bslice, x_bin, x_app, kx, rvP_ok, okv_some, ev_t, ev_c, getV_some, putD_some, bin_add, bin_lss, oGet_s, fill_1, set_1, of1, getK_set, Nat.reduceEqDiff, ↓reduceIte, Bool.false_eq_true, g6, g10, g21, g34, g35, d2, fill_1, hcell, set_1, a1, fw64]
          refine ⟨i + 1, by omega, by omega, c', _, T, ⟨hgr3.trans (gr1.low (by omega)), by have := gr1.nx; have := hB.nx; have := hG2.nx; omega, s1, o1, fun x hx => ?_, ?_, hpw⟩, hA4, hM, by simp (disch := omega) only [getK_set, Nat.reduceEqDiff, ↓reduceIte, g0, g1, g7, g19, g20, and_self, Int.natCast_add, Int.natCast_one]⟩
          · rcases List.mem_append.1 hx with hx | hx
            · exact hB.ow x hx
            · rw [List.mem_singleton.1 hx]
              exact fun id off n sz e => by have := hou _ _ _ _ e; omega
          · rw [htk, List.all_append, hB.all]
            simp [hrnd]
    · have d1 : decide ((i : Int) < (Ls.length : Int)) = false := by simpa using hlt
      have ei : i = Ls.length := by omega
      have hall := hB.all
      have hpw := hB.pw
      have hsl := hB.sl
      rw [ei, List.take_length] at hall hpw hsl
      have hyes : bgB n Ls = true := by rw [hbg, hall, decide_eq_true hpw]; rfl
      simp (disch := omega) only [f70_r6, f70_r19, f70_rs, w_reg, w_seq, w_cond, w_exit, w_ret, seqK_n, seqK_e, atK_e, loopK_e, ckB_b, cbB_b, true_and, retK_r, x_nil, x_mv, x_as, x_bin, kx, rvP_ok, okv_some, ev_t, ev_c, getV_some, putD_some, bin_lss, oGet_s, readRs_nil, readRs_t, retV_2, Option.some.injEq, exists_eq_left', getK_set, Nat.reduceEqDiff, ↓reduceIte, Bool.false_eq_true, g6, g20, g21, d1]
      exact ⟨c, ws, by rw [hyes], fun _ => ⟨hsl, fun id off n sz e => by have := hB.oc _ _ _ _ e; omega⟩, hB.gr⟩
  · have d0 : decide ((Ls.length : Int) > ((n - 1 : Nat) : Int)) = true := by simp; omega
    have hno : bgB n Ls = false := by unfold bgB; rw [decide_eq_false hl, Bool.false_and]
    simp (disch := omega) only [f70_r0, f70_r1, f70_r2, f70_rs, w_reg, w_seq, w_cond, w_ret, seqK_n, seqK_r, ckB_b, cbB_b, true_and, retK_r, x_nil, x_mv, x_as, x_bin, x_len, kx, rvP_ok, okv_some, ev_t, ev_c, getV_some, putD_some, bin_sub, bin_gtr, oGet_s, readRs_nil, readRs_t, retV_2, frame_2, of1, Option.some.injEq, exists_eq_left', getK_set, Nat.reduceEqDiff, ↓reduceIte, hlen, en1, fw64, d0]
    exact ⟨.sn, [], by rw [hno], (fun e => (by rw [hno] at e; cases e)), Grow.refl _ _⟩
end
end Go.Ev
namespace Go.Ev
open Go Go.RowKit
section
variable {fs : T EF} {h : H} {v : V} {us : List V} {n : Nat} {Q : List (List (Int × Int))}
theorem f47t_ret (k : CallsC4 fs) (ho : ok5 (n : Int)) (hn8 : n ≤ 8) (hv : NrT h v us Q) (hL2 : ∀ l ∈ Q, l.length ≤ 9223372036854775807) (hc : HC h) : Ret fs f47 [.i .i64 (n : Int), v] h fun r h' =>
    (bgB n Q = false → r = .tup [.sn, .b false, .i .i64 40]) ∧ (bgB n Q = true → ∃ B u xs, Met B Q.flatten ∧ r = .tup [u, .b (cmp n (prE n (n / 2) [] 0) n B).isSome, .i .i64 0] ∧ Nrp h' u xs (match cmp n (prE n (n / 2) [] 0) n B with | none => [] | some R => Q ++ R)) ∧ Grow h.nx.nat h h' := by
  have ho' := ho
  unfold ok5 at ho'
  have d1 : decide ((n : Int) > 8) = false := decide_eq_false (by omega)
  apply ret_of rfl
  show W fs none f47_c _ _ _
  unfold f47_c
  simp (disch := omega) only [f47_r0, f47_r1, w_reg, w_seq, seqK_n, x_nil, x_mv, x_as, x_call, ev_t, ev_c, evs_nil, evs_cons, getV_some, putD_some, frame_2, of0, of8, getK_set, Nat.reduceEqDiff, ↓reduceIte]
  refine (callP_0 (ef := f65) k.s65 rfl (f65_ok ho)).mono ?_
  rintro r h1 ⟨rfl, e⟩
  rw [e]
  clear e h1
  simp (disch := omega) only [f47_r3, w_skip, w_reg, w_seq, w_cond, seqK_n, ckB_b, cbB_b, okG_b, asG_f, true_and, x_nil, x_g, x_mv, x_pick, x_bin, x_not, x_call, kx, rvP_ok, okv_some, ev_t, ev_c, evs_nil, evs_cons, getV_some, putD_some, bin_gtr, pick_b, onB_b, getK_set, Nat.reduceEqDiff, ↓reduceIte, Bool.false_eq_true, Bool.not_true, Bool.not_false, Bool.not_true, d1]
  refine (callP_0 (ef := f70) k.s70x rfl (f70t_ret k.toCallsBg (by omega) hv hL2 hc)).mono ?_
  rintro r h2 ⟨c, ws, rfl, hs, hG⟩
  cases hb : bgB n Q with
  | false =>
    simp (disch := omega) only [f47_r4, f47_r5, f47_rs, w_reg, w_seq, w_cond, w_ret, seqK_n, seqK_r, ckB_b, cbB_b, true_and, retK_r, x_nil, x_mv, x_as, x_not, x_ext, kx, rvP_ok, okv_some, ev_t, ev_c, getV_some, putD_some, onB_b, onTup_t, oGet_s, nth0, nth1, readRs_nil, readRs_t, retV_2, Option.some.injEq, exists_eq_left', getK_set, Nat.reduceEqDiff, ↓reduceIte, Bool.false_eq_true, Bool.not_false, of40, Bool.not_false]
    exact ⟨fun _ => trivial, fun h => (by cases h), hG⟩
  | true =>
    obtain ⟨hs, _⟩ := hs hb
    have hc2 := hG.hc hc
    simp (disch := omega) only [f47_r4, f47_r6, w_skip, w_reg, w_seq, w_cond, seqK_n, ckB_b, cbB_b, true_and, x_nil, x_mv, x_as, x_not, x_ext, x_call, kx, rvP_ok, okv_some, ev_t, ev_c, evs_nil, evs_cons, getV_some, putD_some, onB_b, onTup_t, nth0, nth1, getK_set, Nat.reduceEqDiff, ↓reduceIte, Bool.false_eq_true, Bool.not_true, Bool.not_true]
    refine (callP_0 (ef := f71) k.r71 rfl (f71_ret k.toCallsCp (by omega) (by omega) (by omega) hs.nrp hb hc2)).mono ?_
    rintro r h3 ⟨B, hM, hr, hG3⟩
    have hc3 := hG3.hc hc2
    have hG13 := hG.trans (hG3.low hG.nx)
    have hb' := hb
    unfold bgB at hb'
    simp only [Bool.and_eq_true, decide_eq_true_iff, List.all_eq_true] at hb'
    cases hcm : cmp n (prE n (n / 2) [] 0) n B with
    | none =>
      rw [hcm] at hr
      have hr : r = .tup [.sn, .b false] := hr
      subst hr
      simp (disch := omega) only [f47_r7, w_reg, w_seq, seqK_n, x_nil, x_mv, x_as, x_ext, x_call, kx, rvP_ok, okv_some, ev_t, ev_c, evs_nil, evs_cons, getV_some, putD_some, onTup_t, nth0, nth1, of0, getK_set, Nat.reduceEqDiff, ↓reduceIte]
      refine (callP_0 (ef := f60) k.r60 rfl (f60_ret (us := []) (Ls := []) ⟨rfl, Sr.nil, fun i h1 => absurd h1 (by simp)⟩ ⟨by simp, fun l hl => absurd hl (by simp)⟩ hc3)).mono ?_
      rintro u h4 ⟨xs, hx, hG4⟩
      simp (disch := omega) only [f47_rs, w_ret, seqK_n, retK_r, x_nil, x_mv, x_as, kx, ev_t, ev_c, getV_some, putD_some, oGet_s, readRs_nil, readRs_t, retV_2, Option.some.injEq, exists_eq_left', getK_set, Nat.reduceEqDiff, ↓reduceIte]
      exact ⟨fun h => (by cases h), fun _ => ⟨B, u, xs, hM, by rw [hcm]; rfl, by rw [hcm]; exact hx⟩, hG13.trans (hG4.low hG13.nx)⟩
    | some R =>
      rw [hcm] at hr
      obtain ⟨u1, xs1, rfl, hN⟩ := hr
      obtain ⟨m1, m2⟩ := cmp_mem hcm
      have hrl : ∀ l ∈ Q ++ R, l.length ≤ 1000 := fun l hl => by
        rcases List.mem_append.1 hl with hl | hl
        · have := hb'.2.1 l hl
          unfold rndB at this
          simp only [Bool.and_eq_true, decide_eq_true_iff] at this
          omega
        · obtain ⟨m', s⟩ := prE_mem (st_0 (by omega) (by omega)) l (m2 l hl)
          have := s.sum
          omega
      simp (disch := omega) only [f47_r7, w_reg, w_seq, seqK_n, x_nil, x_mv, x_as, x_ext, x_call, kx, rvP_ok, okv_some, ev_t, ev_c, evs_nil, evs_cons, getV_some, putD_some, onTup_t, nth0, nth1, of0, getK_set, Nat.reduceEqDiff, ↓reduceIte]
      refine (callP_0 (ef := f60) k.r60 rfl (f60_ret hN ⟨by rw [List.length_append]; omega, hrl⟩ hc3)).mono ?_
      rintro u h4 ⟨xs, hx, hG4⟩
      simp (disch := omega) only [f47_rs, w_ret, seqK_n, retK_r, x_nil, x_mv, x_as, kx, ev_t, ev_c, getV_some, putD_some, oGet_s, readRs_nil, readRs_t, retV_2, Option.some.injEq, exists_eq_left', getK_set, Nat.reduceEqDiff, ↓reduceIte]
      exact ⟨fun h => (by cases h), fun _ => ⟨B, u, xs, hM, by rw [hcm]; rfl, by rw [hcm]; exact hx⟩, hG13.trans (hG4.low hG13.nx)⟩
end
end Go.Ev
