/-
  Rounds: where a schedule goes on, the search finds one (plain).
  Rounds: what RoundsBegins says of 6 and of 4 teams (plain).
  Rounds: the law RoundsBegins.
-/
import Derived.Test.YthememdeglgnpaaPh
import Derived.Test.YthememdeglgnpaaPf
namespace Go.Ev
open Go Go.RowKit
section
variable {n m f a c : Nat} {B B' : List Nat} {P r q L : List (Int × Int)} {Q R : List (List (Int × Int))}
/-- The same pairs, turned or not. -/
def InP (r q : List (Int × Int)) : Prop := ∀ e ∈ r, e ∈ q ∨ (e.2, e.1) ∈ q
theorem op_inP (hq : rndB n q = true) {x y : Int} (h : (x, y) ∈ q ∨ (y, x) ∈ q) : opF q x = y ∧ opF q y = x := by
  have hd := rnd_nd hq
  exact ⟨op_of hd h, op_of hd h.symm⟩
/-- Each round has its like among the pairings. -/
theorem canon (hq : rndB n q = true) (hn : n ≤ 10) : ∀ (f : Nat) (L : List (Int × Int)) (m : Nat), St n L m f → InP L q → ∃ r ∈ prE n f L m, InP r q
  | 0, L, m, _, hL => ⟨L, List.mem_singleton.2 rfl, hL⟩
  | f + 1, L, m, s, hL => by
    obtain ⟨f1, f2, f3⟩ := ft_prop (n := n) (m := m)
    have hft : ft n m < n := by
      obtain ⟨t0, ht0, hf0⟩ := s.free
      apply Classical.byContradiction
      intro hno
      rw [f2 t0 (by omega)] at hf0
      cases hf0
    have hbt := f3 hft
    have hall := rnd_all hq (t := (ft n m : Int)) ⟨by omega, by omega⟩
    have hmem := op_mem hall
    obtain ⟨u, hu, hun, hut⟩ : ∃ u : Nat, opF q (ft n m : Int) = (u : Int) ∧ u < n ∧ u ≠ ft n m := by
      have key : 0 ≤ opF q (ft n m : Int) ∧ opF q (ft n m : Int) < (n : Int) ∧ opF q (ft n m : Int) ≠ (ft n m : Int) := by
        rcases hmem with h | h
        · obtain ⟨_, q2, q3⟩ := rnd_e hq _ h
          exact ⟨q2.1, q2.2, fun e => q3 e.symm⟩
        · obtain ⟨q1, _, q3⟩ := rnd_e hq _ h
          exact ⟨q1.1, q1.2, q3⟩
      exact ⟨(opF q (ft n m : Int)).toNat, by omega, by omega, by omega⟩
    rw [hu] at hmem
    have hoff := s.off hft hbt
    have hbu : m.testBit u = false := by
      cases hb : m.testBit u with
      | false => rfl
      | true =>
        exfalso
        rw [s.msk.2 u (by omega)] at hb
        have hin := of_decide_eq_true hb
        obtain ⟨e, he, hz⟩ := List.mem_flatMap.1 hin
        have ou := (op_inP hq hmem).2
        rcases List.mem_cons.1 hz with hz | hz
        · have h1 := hL e he
          have h2 := (op_inP hq (x := e.1) (y := e.2) h1).1
          rw [← hz, ou] at h2
          exact hoff (by rw [h2]; exact (pl_mem he).2)
        · have hz := List.mem_singleton.1 hz
          have h1 := hL e he
          have h2 := (op_inP hq (x := e.1) (y := e.2) h1).2
          rw [← hz, ou] at h2
          exact hoff (by rw [h2]; exact (pl_mem he).1)
    obtain ⟨r, hr, hI⟩ := canon hq hn f (L ++ [((ft n m : Int), (u : Int))]) _ (s.on hft hun hbt hbu (fun e => hut e.symm)) (fun e he => by
      rcases List.mem_append.1 he with he | he
      · exact hL e he
      · rw [List.mem_singleton.1 he]; exact hmem)
    refine ⟨r, List.mem_flatMap.2 ⟨u, by simpa using hun, ?_⟩, hI⟩
    unfold prG
    rw [show hm n m = ft n m from rfl, if_neg (by rw [hbu]; rintro (h | h); cases h; exact hut h)]
    exact hr
theorem st_pw (s : St n r m 0) : r.Pairwise dsR := by
  have := s.nd
  have key : ∀ l : List (Int × Int), (plL l).Nodup → l.Pairwise dsR := fun l => by
    induction l with
    | nil => intro _; exact List.Pairwise.nil
    | cons g l ih =>
      intro hn
      have hn : (g.1 :: g.2 :: plL l).Nodup := hn
      obtain ⟨n1, n2⟩ := List.nodup_cons.1 hn
      obtain ⟨n3, n4⟩ := List.nodup_cons.1 n2
      refine List.pairwise_cons.2 ⟨fun e he => ⟨fun h => ?_, fun h => ?_⟩, ih n4⟩
      · subst h; exact n1 (List.mem_cons_of_mem _ (pl_mem he).1)
      · subst h; exact n1 (List.mem_cons_of_mem _ (pl_mem he).2)
  exact key r this
theorem ds_inP {e x g : Int × Int} (h : e = g ∨ (e.2, e.1) = g) (hd : dsR g x) : dsR e x := by
  rcases h with h | h
  · rw [h]; exact hd
  · obtain ⟨h1, h2⟩ := hd
    rw [← h] at h1 h2
    refine ⟨fun q => h2 ?_, fun q => h1 ?_⟩
    · rw [q]
    · rw [q]
/-- The search finds a way where there is one. -/
theorem cmp_complete (hn1 : 2 ≤ n) (hn : n ≤ 10) (he : n % 2 = 0) : ∀ (f : Nat) (B : List Nat) (Q R : List (List (Int × Int))), Met B Q.flatten → ok5 (n : Int) → shB n (Q ++ R) = true → R.length ≤ f → (cmp n (prE n (n / 2) [] 0) f B).isSome = true := by
  intro f
  induction f with
  | zero =>
    intro B Q R hM ho hs hf
    have hR : R = [] := List.length_eq_zero_iff.1 (by omega)
    subst hR
    rw [List.append_nil] at hs
    have s := Sched.of ho hs
    have hu := unm_eq (by omega) hn hM s.vd.rnd s.vd.pw
    have hl := s.len
    have hms : mss n (B.getD 0 0) = none := by
      cases hm : mss n (B.getD 0 0) with
      | none => rfl
      | some a => have := unm_pos hm; omega
    show (match mss n (B.getD 0 0) with | none => some [] | some _ => none).isSome = true
    rw [hms]; rfl
  | succ f ih =>
    intro B Q R hM ho hs hf
    have s := Sched.of ho hs
    have hl := s.len
    show (match mss n (B.getD 0 0) with | none => some [] | some a => (prE n (n / 2) [] 0).findSome? (tryC a (cmp n (prE n (n / 2) [] 0) f) B)).isSome = true
    cases hms : mss n (B.getD 0 0) with
    | none => rfl
    | some a =>
      obtain ⟨a1, a2, a3, _⟩ := mss_some hms
      obtain ⟨i, hi, hop⟩ := meet_all s (t := 0) (u := a) (by omega) a2 (by omega)
      rw [getD_at hi] at hop
      have hpw := s.vd.pw
      rw [List.flatten_append] at hpw
      have hpQ := (List.pairwise_append.1 hpw).1
      have hgame : ∀ l ∈ Q ++ R, opF l ((0 : Nat) : Int) = (a : Int) → ((0, (a : Int)) ∈ l ∨ ((a : Int), 0) ∈ l) := fun l hl h => by
        have := op_mem (rnd_all (s.vd.rnd l hl) (t := ((0 : Nat) : Int)) ⟨by omega, by omega⟩)
        rw [h] at this
        exact this
      have hiQ : Q.length ≤ i := by
        apply Classical.byContradiction
        intro hno
        have hiq : i < Q.length := by omega
        have hg := hgame _ (List.getElem_mem hi) hop
        rw [List.getElem_append_left hiq] at hg
        have : (B.getD 0 0).testBit a = true := (hM.bit 0 a (by omega) (by omega)).2 (by
          rcases hg with hg | hg
          · exact .inl (List.mem_flatten.2 ⟨_, List.getElem_mem hiq, hg⟩)
          · exact .inr (List.mem_flatten.2 ⟨_, List.getElem_mem hiq, hg⟩))
        rw [this] at a3; cases a3
      rw [List.getElem_append_right hiQ] at hop
      obtain ⟨j, hj, hjr⟩ : ∃ j, ∃ hj : j < R.length, opF R[j] ((0 : Nat) : Int) = (a : Int) := ⟨i - Q.length, by rw [List.length_append] at hi; omega, hop⟩
      have hsplit : R = R.take j ++ R[j] :: R.drop (j + 1) := by
        rw [← List.drop_eq_getElem_cons hj, List.take_append_drop]
      generalize R[j] = q at *
      generalize R.take j = R1 at *
      generalize R.drop (j + 1) = R2 at *
      subst hsplit
      have hqr : rndB n q = true := s.vd.rnd q (by simp)
      have hq0 := hgame q (by simp) hjr
      obtain ⟨g, hg⟩ : ∃ g, n / 2 = g + 1 := ⟨n / 2 - 1, by omega⟩
      have s0 := st_0 hn he
      rw [hg] at s0
      have s1 := s0.on (x := 0) (y := a) (by omega) a2 (by simp) (by simp) (by omega)
      obtain ⟨r, hr, hI⟩ := canon hqr hn g _ _ s1 (fun e he => by
        have he : e ∈ [(((0 : Nat) : Int), (a : Int))] := he
        rw [List.mem_singleton.1 he]; exact hq0)
      obtain ⟨m', sr⟩ := prE_mem s1 r hr
      obtain ⟨w, hw⟩ := prE_pre r hr
      have hf0 : hm n 0 = 0 := by
        show hmF 0 n 0 = 0
        obtain ⟨k, hk⟩ : ∃ k, n = k + 1 := ⟨n - 1, by omega⟩
        rw [hk]
        show (if (0 : Nat).testBit 0 then _ else 0) = 0
        rfl
      have hrY : r ∈ prE n (n / 2) [] 0 := by
        rw [hg]
        refine List.mem_flatMap.2 ⟨a, by simpa using a2, ?_⟩
        unfold prG
        rw [hf0, if_neg (by simp; omega)]
        exact hr
      -- its games are new
      have hold : ∀ e ∈ r, ∀ x ∈ Q.flatten ++ (R1.flatten ++ R2.flatten), dsR e x := fun e he x hx => by
        have hfl : (R1 ++ q :: R2).flatten = R1.flatten ++ (q ++ R2.flatten) := by simp
        rw [hfl] at hpw
        obtain ⟨_, p2, p3⟩ := List.pairwise_append.1 hpw
        obtain ⟨_, p5, p6⟩ := List.pairwise_append.1 p2
        obtain ⟨_, _, p9⟩ := List.pairwise_append.1 p5
        obtain ⟨g', hg', hin⟩ : ∃ g', (e = g' ∨ (e.2, e.1) = g') ∧ g' ∈ q := by
          rcases hI e he with h | h
          · exact ⟨e, .inl rfl, h⟩
          · exact ⟨_, .inr rfl, h⟩
        refine ds_inP hg' ?_
        rcases List.mem_append.1 hx with hx | hx
        · exact ds_symm (p3 x hx g' (by simp [hin]))
        · rcases List.mem_append.1 hx with hx | hx
          · exact ds_symm (p6 x hx g' (by simp [hin]))
          · exact p9 g' hin x hx
      have hpr : (Q.flatten ++ r).Pairwise dsR := List.pairwise_append.2 ⟨hpQ, st_pw sr, fun x hx e he => ds_symm (hold e he x (List.mem_append_left _ hx))⟩
      obtain ⟨B', hB'⟩ := (addR_met hn hM hpQ sr.gm).2 hpr
      obtain ⟨m1, _⟩ := (addR_met hn hM hpQ sr.gm).1 B' hB'
      have hfl2 : (Q ++ [r]).flatten = Q.flatten ++ r := by simp
      rw [← hfl2] at m1
      have hsh2 : shB n ((Q ++ [r]) ++ (R1 ++ R2)) = true := by
        unfold shB bgB
        simp only [Bool.and_eq_true, decide_eq_true_iff, List.all_eq_true]
        have hlen : ((Q ++ [r]) ++ (R1 ++ R2)).length = n - 1 := by
          simp at hl ⊢
          omega
        refine ⟨⟨by omega, fun l hl => ?_, ?_⟩, hlen⟩
        · rcases List.mem_append.1 hl with hl | hl
          · rcases List.mem_append.1 hl with hl | hl
            · exact s.vd.rnd l (List.mem_append_left _ hl)
            · rw [List.mem_singleton.1 hl]; exact rnd_of_st sr
          · rcases List.mem_append.1 hl with hl | hl
            · exact s.vd.rnd l (by simp [hl])
            · exact s.vd.rnd l (by simp [hl])
        · have hfl : (R1 ++ q :: R2).flatten = R1.flatten ++ (q ++ R2.flatten) := by simp
          rw [hfl] at hpw
          obtain ⟨_, p2, p3⟩ := List.pairwise_append.1 hpw
          obtain ⟨p4, p5, p6⟩ := List.pairwise_append.1 p2
          obtain ⟨_, p8, _⟩ := List.pairwise_append.1 p5
          rw [List.flatten_append, hfl2, List.flatten_append]
          refine List.pairwise_append.2 ⟨hpr, List.pairwise_append.2 ⟨p4, p8, fun x hx y hy => p6 x hx y (List.mem_append_right _ hy)⟩, fun x hx y hy => ?_⟩
          rcases List.mem_append.1 hx with hx | hx
          · refine p3 x hx y ?_
            rcases List.mem_append.1 hy with hy | hy
            · exact List.mem_append_left _ hy
            · exact List.mem_append_right _ (List.mem_append_right _ hy)
          · exact hold x hx y (List.mem_append_right _ hy)
      have hrec := ih B' (Q ++ [r]) (R1 ++ R2) m1 ho hsh2 (by simp at hf ⊢; omega)
      show ((prE n (n / 2) [] 0).findSome? _).isSome = true
      rw [List.isSome_findSome?, List.any_eq_true]
      refine ⟨r, hrY, ?_⟩
      unfold tryC
      rw [if_pos (by rw [hw]; rfl), hB']
      show ((cmp n _ f B').map _).isSome = true
      rw [Option.isSome_map]
      exact hrec
end
end Go.Ev
namespace Go.Ev
open Go Go.RowKit
def six0 : List (List (Int × Int)) := [[(0, 3), (1, 4), (2, 5)], [(0, 4), (1, 5), (2, 3)], [(0, 5), (1, 3), (2, 4)]]
def four0 : List (List (Int × Int)) := [[(0, 1), (2, 3)]]
def four1 : List (List (Int × Int)) := [[(0, 2), (1, 3)], [(0, 3), (1, 2)]]
section
variable {n f : Nat} {B : List Nat} {M B' : List Int} {Q R : List (List (Int × Int))}
theorem bg_vld (h : bgB n Q = true) : Vld n Q ∧ Q.length ≤ n - 1 := by
  unfold bgB at h
  simp only [Bool.and_eq_true, decide_eq_true_iff, List.all_eq_true] at h
  exact ⟨⟨h.2.1, h.2.2⟩, h.1⟩
theorem vld_bg (v : Vld n Q) (h : Q.length ≤ n - 1) : bgB n Q = true := by
  unfold bgB
  simp only [Bool.and_eq_true, decide_eq_true_iff, List.all_eq_true]
  exact ⟨h, v.rnd, v.pw⟩
theorem renS_app : renS M (Q ++ R) = renS M Q ++ renS M R := by unfold renS; rw [List.map_append]
theorem six_bg : bgB 6 (renS (nmL B' 6) six0) = true := by
  have v : Vld 6 six0 := (bg_vld (n := 6) (Q := six0) (by decide)).1
  exact vld_bg (v.ren nmL_nodup nmL_len fun x hx => nmL_mem.1 hx) (by simp [renS, six0])
theorem four_bg : bgB 4 (renS (nmL B' 4) four0) = true := by
  have v : Vld 4 four0 := (bg_vld (n := 4) (Q := four0) (by decide)).1
  exact vld_bg (v.ren nmL_nodup nmL_len fun x hx => nmL_mem.1 hx) (by simp [renS, four0])
theorem four_can (hM : Met B (renS (nmL B' 4) four0).flatten) : (cmp 4 (prE 4 (4 / 2) [] 0) 4 B).isSome = true := by
  refine cmp_complete (by omega) (by omega) rfl 4 B _ (renS (nmL B' 4) four1) hM (by unfold ok5; omega) ?_ (by simp [renS, four1])
  rw [← renS_app]
  exact ren_sh (by unfold ok5; omega) (by decide)
/-- What is left of six teams in two halves of three. -/
theorem six_no (hM : Met B (renS (nmL B' 6) six0).flatten) : cmp 6 (prE 6 (6 / 2) [] 0) f B = none := by
  cases hcm : cmp 6 (prE 6 (6 / 2) [] 0) f B with
  | none => rfl
  | some R =>
    exfalso
    have hsh := cmp_sh (by omega) (by omega) rfl hM six_bg hcm
    obtain ⟨v, hl⟩ := sh_vld hsh
    have hlen := nmL_len (B := B') (t := 6)
    have hnd := nmL_nodup (B := B') (t := 6)
    have hmem : ∀ x ∈ nmL B' 6, 0 ≤ x ∧ x < 6 := fun x hx => nmL_mem.1 hx
    generalize nmL B' 6 = M at *
    obtain ⟨a0, a1, a2, a3, a4, a5, rfl⟩ : ∃ a0 a1 a2 a3 a4 a5, M = [a0, a1, a2, a3, a4, a5] := by
      rcases M with _ | ⟨a0, _ | ⟨a1, _ | ⟨a2, _ | ⟨a3, _ | ⟨a4, _ | ⟨a5, _ | ⟨a6, M⟩⟩⟩⟩⟩⟩⟩ <;> simp at hlen
      exact ⟨a0, a1, a2, a3, a4, a5, rfl⟩
    have hren : renS [a0, a1, a2, a3, a4, a5] six0 = [[(a0, a3), (a1, a4), (a2, a5)], [(a0, a4), (a1, a5), (a2, a3)], [(a0, a5), (a1, a3), (a2, a4)]] := rfl
    rw [hren] at v hl
    have hR : R.length = 2 := by simp at hl; omega
    obtain ⟨r, R', rfl⟩ : ∃ r R', R = r :: R' := by
      cases R with
      | nil => simp at hR
      | cons r R' => exact ⟨r, R', rfl⟩
    have hr : rndB 6 r = true := v.rnd r (by simp)
    have hpw := v.pw
    rw [List.flatten_append] at hpw
    have hds := (List.pairwise_append.1 hpw).2.2
    have hold : ∀ x ∈ [[(a0, a3), (a1, a4), (a2, a5)], [(a0, a4), (a1, a5), (a2, a3)], [(a0, a5), (a1, a3), (a2, a4)]].flatten, ∀ e ∈ r, dsR x e := fun x hx e he => hds x hx e (by simp [he])
    -- whom each may play
    have opp : ∀ a, (0 ≤ a ∧ a < 6) → a ∈ [a0, a1, a2] → opF r a ∈ [a0, a1, a2] ∧ opF r a ≠ a ∧ ((a, opF r a) ∈ r ∨ (opF r a, a) ∈ r) := fun a ha hin => by
      have hm := op_mem (rnd_all hr (t := a) ha)
      have hne : (0 ≤ opF r a ∧ opF r a < 6) ∧ opF r a ≠ a := by
        rcases hm with h | h
        · obtain ⟨_, q2, q3⟩ := rnd_e hr _ h
          exact ⟨q2, fun e => q3 e.symm⟩
        · obtain ⟨q1, _, q3⟩ := rnd_e hr _ h
          exact ⟨q1, q3⟩
      refine ⟨?_, hne.2, hm⟩
      obtain ⟨t, ht, et⟩ := onto (M := [a0, a1, a2, a3, a4, a5]) (n := 6) rfl hmem hnd (u := (opF r a).toNat) (by omega)
      rw [show (((opF r a).toNat : Nat) : Int) = opF r a by omega] at et
      have no : ∀ b, (a, b) ∈ [[(a0, a3), (a1, a4), (a2, a5)], [(a0, a4), (a1, a5), (a2, a3)], [(a0, a5), (a1, a3), (a2, a4)]].flatten → opF r a ≠ b := fun b hb e => by
        rw [e] at hm
        rcases hm with h | h
        · exact (hold _ hb _ h).1 rfl
        · exact (hold _ hb _ h).2 rfl
      have hcase : a = a0 ∨ a = a1 ∨ a = a2 := by simpa using hin
      have no3 : opF r a ≠ a3 ∧ opF r a ≠ a4 ∧ opF r a ≠ a5 := by
        rcases hcase with rfl | rfl | rfl
        · exact ⟨no _ (by simp), no _ (by simp), no _ (by simp)⟩
        · exact ⟨no _ (by simp), no _ (by simp), no _ (by simp)⟩
        · exact ⟨no _ (by simp), no _ (by simp), no _ (by simp)⟩
      obtain rfl | rfl | rfl | rfl | rfl | rfl : t = 0 ∨ t = 1 ∨ t = 2 ∨ t = 3 ∨ t = 4 ∨ t = 5 := by omega
      · simp at et; rw [← et]; simp
      · simp at et; rw [← et]; simp
      · simp at et; rw [← et]; simp
      · exact absurd et.symm no3.1
      · exact absurd et.symm no3.2.1
      · exact absurd et.symm no3.2.2
    have back : ∀ a b, (a, b) ∈ r ∨ (b, a) ∈ r → opF r b = a := fun a b h => op_of (rnd_nd hr) h.symm
    have r0 := hmem a0 (by simp)
    have r1 := hmem a1 (by simp)
    have r2 := hmem a2 (by simp)
    obtain ⟨p0, q0, s0⟩ := opp a0 r0 (by simp)
    obtain ⟨p1, q1, s1⟩ := opp a1 r1 (by simp)
    obtain ⟨p2, q2, s2⟩ := opp a2 r2 (by simp)
    have d01 : a0 ≠ a1 := fun e => by subst e; simp at hnd
    have d02 : a0 ≠ a2 := fun e => by subst e; simp at hnd
    have d12 : a1 ≠ a2 := fun e => by subst e; simp at hnd
    have b0 := back _ _ s0
    have b1 := back _ _ s1
    have b2 := back _ _ s2
    simp at p0 p1 p2
    rcases p0 with p0 | p0 | p0
    · exact q0 p0
    · rw [p0] at b0
      rcases p2 with p2 | p2 | p2
      · rw [p2] at b2; exact d12 (p0.symm.trans b2)
      · rw [p2] at b2; exact d02 (b0.symm.trans b2)
      · exact q2 p2
    · rw [p0] at b0
      rcases p1 with p1 | p1 | p1
      · rw [p1] at b1; exact d12 (p0.symm.trans b1).symm
      · exact q1 p1
      · rw [p1] at b1; exact d01 (b0.symm.trans b1)
end
end Go.Ev
namespace Go.Ev
open Go Go.RowKit
noncomputable def f12_r0 : List EOper := [⟨(some (K.ofNat 6)), none, .as (.c (.b false))⟩]
noncomputable def f12_r1 : List EOper := [⟨(some (K.ofNat 26)), none, .mv (.t (K.ofNat 0))⟩, ⟨(some (K.ofNat 27)), none, .mv (.t (K.ofNat 1))⟩, ⟨(some (K.ofNat 28)), none, .call (.c (.fn (K.ofNat 25) [])) [(.t (K.ofNat 26)), (.t (K.ofNat 27))]⟩, ⟨(some (K.ofNat 25)), none, .mv (.t (K.ofNat 28))⟩, ⟨(some (K.ofNat 29)), none, .ext (.t (K.ofNat 25)) 0⟩, ⟨(some (K.ofNat 30)), none, .ext (.t (K.ofNat 25)) 1⟩, ⟨(some (K.ofNat 7)), none, .as (.t (K.ofNat 29))⟩, ⟨(some (K.ofNat 8)), none, .as (.t (K.ofNat 30))⟩]
noncomputable def f12_r2 : List EOper := [⟨(some (K.ofNat 31)), none, .mv (.t (K.ofNat 2))⟩, ⟨(some (K.ofNat 32)), none, .conv .u64 (.t (K.ofNat 31))⟩, ⟨(some (K.ofNat 33)), none, .mv (.t (K.ofNat 7))⟩, ⟨(some (K.ofNat 34)), none, .conv .u64 (.t (K.ofNat 33))⟩, ⟨(some (K.ofNat 35)), none, .bin .rem (.t (K.ofNat 32)) (.t (K.ofNat 34))⟩, ⟨(some (K.ofNat 36)), none, .conv .i64 (.t (K.ofNat 35))⟩, ⟨(some (K.ofNat 9)), none, .as (.t (K.ofNat 36))⟩]
noncomputable def f12_r3 : List EOper := [⟨(some (K.ofNat 38)), none, .mv (.t (K.ofNat 7))⟩, ⟨(some (K.ofNat 39)), none, .mv (.t (K.ofNat 8))⟩, ⟨(some (K.ofNat 40)), none, .mv (.t (K.ofNat 9))⟩, ⟨(some (K.ofNat 41)), none, .mv (.t (K.ofNat 9))⟩, ⟨(some (K.ofNat 42)), none, .slice 1 (.t (K.ofNat 39)) none (some (.t (K.ofNat 40))) (some (.t (K.ofNat 41)))⟩, ⟨(some (K.ofNat 43)), none, .call (.c (.fn (K.ofNat 47) [])) [(.t (K.ofNat 38)), (.t (K.ofNat 42))]⟩, ⟨(some (K.ofNat 37)), none, .mv (.t (K.ofNat 43))⟩, ⟨(some (K.ofNat 44)), none, .ext (.t (K.ofNat 37)) 0⟩, ⟨(some (K.ofNat 45)), none, .ext (.t (K.ofNat 37)) 1⟩, ⟨(some (K.ofNat 46)), none, .ext (.t (K.ofNat 37)) 2⟩, ⟨(some (K.ofNat 10)), none, .as (.t (K.ofNat 44))⟩, ⟨(some (K.ofNat 11)), none, .as (.t (K.ofNat 45))⟩, ⟨(some (K.ofNat 12)), none, .as (.t (K.ofNat 46))⟩]
noncomputable def f12_r4 : List EOper := [⟨(some (K.ofNat 47)), none, .mv (.t (K.ofNat 7))⟩, ⟨(some (K.ofNat 48)), none, .bin .gtr (.t (K.ofNat 47)) (.c (.i .i64 (.ofNat 8)))⟩]
noncomputable def f12_r5 : List EOper := [⟨(some (K.ofNat 49)), none, .mv (.t (K.ofNat 12))⟩, ⟨(some (K.ofNat 50)), none, .bin .neq (.t (K.ofNat 49)) (.c (.i .i64 (.ofNat 1)))⟩, ⟨(some (K.ofNat 51)), none, .mv (.t (K.ofNat 50))⟩, ⟨(some (K.ofNat 52)), (some ((K.ofNat 51), false)), .mv (.t (K.ofNat 11))⟩, ⟨(some (K.ofNat 53)), none, .pick (.t (K.ofNat 51)) (.c (.b true)) (.t (K.ofNat 52))⟩]
noncomputable def f12_r6 : List EOper := [⟨(some (K.ofNat 6)), none, .as (.c (.b false))⟩]
noncomputable def f12_r7 : List Stage := [⟨[⟨(some (K.ofNat 54)), none, .mv (.t (K.ofNat 12))⟩, ⟨(some (K.ofNat 55)), none, .bin .neq (.t (K.ofNat 54)) (.c (.i .i64 (.ofNat 0)))⟩, ⟨(some (K.ofNat 56)), none, .mv (.t (K.ofNat 55))⟩, ⟨(some (K.ofNat 57)), (some ((K.ofNat 56), false)), .mv (.t (K.ofNat 11))⟩, ⟨(some (K.ofNat 58)), (some ((K.ofNat 56), false)), .not (.t (K.ofNat 57))⟩, ⟨(some (K.ofNat 59)), none, .pick (.t (K.ofNat 56)) (.c (.b true)) (.t (K.ofNat 58))⟩, ⟨(some (K.ofNat 60)), none, .mv (.t (K.ofNat 59))⟩, ⟨(some (K.ofNat 61)), (some ((K.ofNat 60), false)), .mv (.t (K.ofNat 7))⟩, ⟨(some (K.ofNat 62)), (some ((K.ofNat 60), false)), .mv (.t (K.ofNat 10))⟩], [], (some ⟨(some (K.ofNat 63)), (some ((K.ofNat 60), false)), .call (.c (.fn (K.ofNat 14) [])) [(.t (K.ofNat 61)), (.t (K.ofNat 62))]⟩), []⟩, ⟨[⟨(some (K.ofNat 64)), (some ((K.ofNat 60), false)), .bin .neq (.t (K.ofNat 63)) (.c (.i .i64 (.ofNat 0)))⟩, ⟨(some (K.ofNat 65)), none, .pick (.t (K.ofNat 60)) (.c (.b true)) (.t (K.ofNat 64))⟩, ⟨(some (K.ofNat 66)), none, .mv (.t (K.ofNat 65))⟩, ⟨(some (K.ofNat 67)), (some ((K.ofNat 66), false)), .mv (.t (K.ofNat 10))⟩, ⟨(some (K.ofNat 68)), (some ((K.ofNat 66), false)), .mv (.t (K.ofNat 9))⟩, ⟨(some (K.ofNat 69)), (some ((K.ofNat 66), false)), .slice 1 (.t (K.ofNat 67)) none (some (.t (K.ofNat 68))) none⟩, ⟨(some (K.ofNat 70)), (some ((K.ofNat 66), false)), .mv (.t (K.ofNat 8))⟩, ⟨(some (K.ofNat 71)), (some ((K.ofNat 66), false)), .mv (.t (K.ofNat 9))⟩, ⟨(some (K.ofNat 72)), (some ((K.ofNat 66), false)), .slice 1 (.t (K.ofNat 70)) none (some (.t (K.ofNat 71))) none⟩], [], (some ⟨(some (K.ofNat 73)), (some ((K.ofNat 66), false)), .call (.c (.fn (K.ofNat 31) [])) [(.t (K.ofNat 69)), (.t (K.ofNat 72))]⟩), []⟩, ⟨[⟨(some (K.ofNat 74)), (some ((K.ofNat 66), false)), .not (.t (K.ofNat 73))⟩, ⟨(some (K.ofNat 75)), none, .pick (.t (K.ofNat 66)) (.c (.b true)) (.t (K.ofNat 74))⟩], [], none, []⟩]
noncomputable def f12_r8 : List EOper := [⟨(some (K.ofNat 6)), none, .as (.c (.b false))⟩]
noncomputable def f12_r9 : List EOper := [⟨(some (K.ofNat 76)), none, .mv (.t (K.ofNat 1))⟩, ⟨(some (K.ofNat 77)), none, .call (.c (.fn (K.ofNat 33) [])) [(.c (.i .i64 (.ofNat 6))), (.t (K.ofNat 76))]⟩, ⟨(some (K.ofNat 13)), none, .as (.t (K.ofNat 77))⟩]
noncomputable def f12_r10 : List EOper := [⟨(some (K.ofNat 14)), none, .as (.c .sn)⟩]
noncomputable def f12_r11 : List EOper := [⟨(some (K.ofNat 15)), none, .as (.c (.i .i64 (.ofNat 0)))⟩]
noncomputable def f12_r12 : List EOper := [⟨(some (K.ofNat 78)), none, .mv (.t (K.ofNat 15))⟩, ⟨(some (K.ofNat 79)), none, .bin .lss (.t (K.ofNat 78)) (.c (.i .i64 (.ofNat 3)))⟩]
noncomputable def f12_r13 : List EOper := [⟨(some (K.ofNat 16)), none, .as (.c .sn)⟩]
noncomputable def f12_r14 : List EOper := [⟨(some (K.ofNat 17)), none, .as (.c (.i .i64 (.ofNat 0)))⟩]
noncomputable def f12_r15 : List EOper := [⟨(some (K.ofNat 82)), none, .mv (.t (K.ofNat 17))⟩, ⟨(some (K.ofNat 83)), none, .bin .lss (.t (K.ofNat 82)) (.c (.i .i64 (.ofNat 3)))⟩]
noncomputable def f12_r16 : List Stage := [⟨[⟨(some (K.ofNat 86)), none, .mv (.t (K.ofNat 16))⟩, ⟨(some (K.ofNat 87)), none, .mv (.t (K.ofNat 13))⟩, ⟨(some (K.ofNat 88)), none, .mv (.t (K.ofNat 17))⟩, ⟨(some (K.ofNat 89)), none, .iads 1 (.t (K.ofNat 87)) (.t (K.ofNat 88))⟩, ⟨(some (K.ofNat 90)), none, .ld (.t (K.ofNat 89))⟩, ⟨(some (K.ofNat 91)), none, .mv (.t (K.ofNat 13))⟩, ⟨(some (K.ofNat 92)), none, .mv (.t (K.ofNat 15))⟩, ⟨(some (K.ofNat 93)), none, .mv (.t (K.ofNat 17))⟩, ⟨(some (K.ofNat 94)), none, .bin .add (.t (K.ofNat 92)) (.t (K.ofNat 93))⟩, ⟨(some (K.ofNat 95)), none, .bin .rem (.t (K.ofNat 94)) (.c (.i .i64 (.ofNat 3)))⟩, ⟨(some (K.ofNat 96)), none, .bin .add (.c (.i .i64 (.ofNat 3))) (.t (K.ofNat 95))⟩, ⟨(some (K.ofNat 97)), none, .iads 1 (.t (K.ofNat 91)) (.t (K.ofNat 96))⟩, ⟨(some (K.ofNat 98)), none, .ld (.t (K.ofNat 97))⟩, ⟨(some (K.ofNat 99)), none, .build [(.i .i64 (.ofNat 0)), (.i .i64 (.ofNat 0))] [(0, 1, (.t (K.ofNat 90))), (1, 1, (.t (K.ofNat 98)))]⟩, ⟨(some (K.ofNat 100)), none, .bslice 1 2 [(.i .i64 (.ofNat 0)), (.i .i64 (.ofNat 0))] [(0, 2, (.t (K.ofNat 99)))]⟩], [], (some ⟨(some (K.ofNat 101)), none, .app 2 (.t (K.ofNat 86)) (.t (K.ofNat 100))⟩), [(K.ofNat 100)]⟩, ⟨[], [], (some ⟨(some (K.ofNat 16)), none, .as (.t (K.ofNat 101))⟩), []⟩, ⟨[], [], none, []⟩]
noncomputable def f12_r17 : List EOper := [⟨(some (K.ofNat 84)), none, .mv (.t (K.ofNat 17))⟩, ⟨(some (K.ofNat 85)), none, .bin .add (.t (K.ofNat 84)) (.c (.i .i64 (.ofNat 1)))⟩, ⟨(some (K.ofNat 17)), none, .as (.t (K.ofNat 85))⟩]
noncomputable def f12_l0 : EC := (.seq (.seq (.reg f12_r15) (.cond (.t (K.ofNat 83)) .skip (.exit 2))) (.seq (.block 3 (.draw f12_r16)) (.reg f12_r17)))
noncomputable def f12_r18 : List EOper := [⟨(some (K.ofNat 102)), none, .mv (.t (K.ofNat 14))⟩, ⟨(some (K.ofNat 103)), none, .mv (.t (K.ofNat 16))⟩, ⟨(some (K.ofNat 104)), none, .bslice 1 1 [.sn] [(0, 1, (.t (K.ofNat 103)))]⟩, ⟨(some (K.ofNat 105)), none, .app 1 (.t (K.ofNat 102)) (.t (K.ofNat 104))⟩, ⟨(some (K.ofNat 14)), none, .as (.t (K.ofNat 105))⟩]
noncomputable def f12_r19 : List EOper := [⟨(some (K.ofNat 80)), none, .mv (.t (K.ofNat 15))⟩, ⟨(some (K.ofNat 81)), none, .bin .add (.t (K.ofNat 80)) (.c (.i .i64 (.ofNat 1)))⟩, ⟨(some (K.ofNat 15)), none, .as (.t (K.ofNat 81))⟩]
noncomputable def f12_l1 : EC := (.seq (.seq (.reg f12_r12) (.cond (.t (K.ofNat 79)) .skip (.exit 0))) (.seq (.block 1 (.seq (.reg f12_r13) (.seq (.seq (.reg f12_r14) (.block 2 (.loop f12_l0))) (.reg f12_r18)))) (.reg f12_r19)))
noncomputable def f12_r20 : List EOper := [⟨(some (K.ofNat 107)), none, .mv (.t (K.ofNat 14))⟩, ⟨(some (K.ofNat 108)), none, .call (.c (.fn (K.ofNat 47) [])) [(.c (.i .i64 (.ofNat 6))), (.t (K.ofNat 107))]⟩, ⟨(some (K.ofNat 106)), none, .mv (.t (K.ofNat 108))⟩, ⟨(some (K.ofNat 109)), none, .ext (.t (K.ofNat 106)) 0⟩, ⟨(some (K.ofNat 110)), none, .ext (.t (K.ofNat 106)) 1⟩, ⟨(some (K.ofNat 111)), none, .ext (.t (K.ofNat 106)) 2⟩, ⟨(some (K.ofNat 18)), none, .as (.t (K.ofNat 109))⟩, ⟨(some (K.ofNat 19)), none, .as (.t (K.ofNat 110))⟩, ⟨(some (K.ofNat 20)), none, .as (.t (K.ofNat 111))⟩]
noncomputable def f12_r21 : List EOper := [⟨(some (K.ofNat 112)), none, .mv (.t (K.ofNat 1))⟩, ⟨(some (K.ofNat 113)), none, .call (.c (.fn (K.ofNat 33) [])) [(.c (.i .i64 (.ofNat 4))), (.t (K.ofNat 112))]⟩, ⟨(some (K.ofNat 21)), none, .as (.t (K.ofNat 113))⟩]
noncomputable def f12_r22 : List Stage := [⟨[⟨(some (K.ofNat 115)), none, .mv (.t (K.ofNat 21))⟩, ⟨(some (K.ofNat 116)), none, .iads 1 (.t (K.ofNat 115)) (.c (.i .i64 (.ofNat 0)))⟩, ⟨(some (K.ofNat 117)), none, .ld (.t (K.ofNat 116))⟩, ⟨(some (K.ofNat 118)), none, .mv (.t (K.ofNat 21))⟩, ⟨(some (K.ofNat 119)), none, .iads 1 (.t (K.ofNat 118)) (.c (.i .i64 (.ofNat 1)))⟩, ⟨(some (K.ofNat 120)), none, .ld (.t (K.ofNat 119))⟩, ⟨(some (K.ofNat 121)), none, .build [(.i .i64 (.ofNat 0)), (.i .i64 (.ofNat 0))] [(0, 1, (.t (K.ofNat 117))), (1, 1, (.t (K.ofNat 120)))]⟩, ⟨(some (K.ofNat 122)), none, .mv (.t (K.ofNat 21))⟩, ⟨(some (K.ofNat 123)), none, .iads 1 (.t (K.ofNat 122)) (.c (.i .i64 (.ofNat 2)))⟩, ⟨(some (K.ofNat 124)), none, .ld (.t (K.ofNat 123))⟩, ⟨(some (K.ofNat 125)), none, .mv (.t (K.ofNat 21))⟩, ⟨(some (K.ofNat 126)), none, .iads 1 (.t (K.ofNat 125)) (.c (.i .i64 (.ofNat 3)))⟩, ⟨(some (K.ofNat 127)), none, .ld (.t (K.ofNat 126))⟩, ⟨(some (K.ofNat 128)), none, .build [(.i .i64 (.ofNat 0)), (.i .i64 (.ofNat 0))] [(0, 1, (.t (K.ofNat 124))), (1, 1, (.t (K.ofNat 127)))]⟩, ⟨(some (K.ofNat 129)), none, .bslice 2 2 [(.i .i64 (.ofNat 0)), (.i .i64 (.ofNat 0)), (.i .i64 (.ofNat 0)), (.i .i64 (.ofNat 0))] [(0, 2, (.t (K.ofNat 121))), (2, 2, (.t (K.ofNat 128)))]⟩, ⟨(some (K.ofNat 130)), none, .bslice 1 1 [.sn] [(0, 1, (.t (K.ofNat 129)))]⟩], [], (some ⟨(some (K.ofNat 131)), none, .call (.c (.fn (K.ofNat 47) [])) [(.c (.i .i64 (.ofNat 4))), (.t (K.ofNat 130))]⟩), [(K.ofNat 129), (K.ofNat 130)]⟩, ⟨[⟨(some (K.ofNat 114)), none, .mv (.t (K.ofNat 131))⟩, ⟨(some (K.ofNat 132)), none, .ext (.t (K.ofNat 114)) 0⟩, ⟨(some (K.ofNat 133)), none, .ext (.t (K.ofNat 114)) 1⟩, ⟨(some (K.ofNat 134)), none, .ext (.t (K.ofNat 114)) 2⟩], [], (some ⟨(some (K.ofNat 22)), none, .as (.t (K.ofNat 132))⟩), []⟩, ⟨[], [⟨(some (K.ofNat 133)), none, .ext (.t (K.ofNat 114)) 1⟩, ⟨(some (K.ofNat 134)), none, .ext (.t (K.ofNat 114)) 2⟩], (some ⟨(some (K.ofNat 23)), none, .as (.t (K.ofNat 133))⟩), []⟩, ⟨[], [⟨(some (K.ofNat 134)), none, .ext (.t (K.ofNat 114)) 2⟩], (some ⟨(some (K.ofNat 24)), none, .as (.t (K.ofNat 134))⟩), []⟩, ⟨[], [], none, []⟩]
noncomputable def f12_r23 : List EOper := [⟨(some (K.ofNat 135)), none, .mv (.t (K.ofNat 20))⟩, ⟨(some (K.ofNat 136)), none, .bin .eql (.t (K.ofNat 135)) (.c (.i .i64 (.ofNat 0)))⟩, ⟨(some (K.ofNat 137)), none, .mv (.t (K.ofNat 136))⟩, ⟨(some (K.ofNat 138)), (some ((K.ofNat 137), true)), .mv (.t (K.ofNat 19))⟩, ⟨(some (K.ofNat 139)), (some ((K.ofNat 137), true)), .not (.t (K.ofNat 138))⟩, ⟨(some (K.ofNat 140)), none, .pick (.t (K.ofNat 137)) (.t (K.ofNat 139)) (.c (.b false))⟩, ⟨(some (K.ofNat 141)), none, .mv (.t (K.ofNat 140))⟩, ⟨(some (K.ofNat 142)), (some ((K.ofNat 141), true)), .mv (.t (K.ofNat 18))⟩, ⟨(some (K.ofNat 143)), (some ((K.ofNat 141), true)), .len (.t (K.ofNat 142))⟩, ⟨(some (K.ofNat 144)), (some ((K.ofNat 141), true)), .bin .eql (.t (K.ofNat 143)) (.c (.i .i64 (.ofNat 0)))⟩, ⟨(some (K.ofNat 145)), none, .pick (.t (K.ofNat 141)) (.t (K.ofNat 144)) (.c (.b false))⟩, ⟨(some (K.ofNat 146)), none, .mv (.t (K.ofNat 145))⟩, ⟨(some (K.ofNat 147)), (some ((K.ofNat 146), true)), .mv (.t (K.ofNat 24))⟩, ⟨(some (K.ofNat 148)), (some ((K.ofNat 146), true)), .bin .eql (.t (K.ofNat 147)) (.c (.i .i64 (.ofNat 0)))⟩, ⟨(some (K.ofNat 149)), none, .pick (.t (K.ofNat 146)) (.t (K.ofNat 148)) (.c (.b false))⟩, ⟨(some (K.ofNat 150)), none, .mv (.t (K.ofNat 149))⟩, ⟨(some (K.ofNat 151)), (some ((K.ofNat 150), true)), .mv (.t (K.ofNat 23))⟩, ⟨(some (K.ofNat 152)), none, .pick (.t (K.ofNat 150)) (.t (K.ofNat 151)) (.c (.b false))⟩, ⟨(some (K.ofNat 153)), none, .mv (.t (K.ofNat 152))⟩, ⟨(some (K.ofNat 154)), (some ((K.ofNat 153), true)), .mv (.t (K.ofNat 22))⟩, ⟨(some (K.ofNat 155)), (some ((K.ofNat 153), true)), .call (.c (.fn (K.ofNat 14) [])) [(.c (.i .i64 (.ofNat 4))), (.t (K.ofNat 154))]⟩, ⟨(some (K.ofNat 156)), (some ((K.ofNat 153), true)), .bin .eql (.t (K.ofNat 155)) (.c (.i .i64 (.ofNat 0)))⟩, ⟨(some (K.ofNat 157)), none, .pick (.t (K.ofNat 153)) (.t (K.ofNat 156)) (.c (.b false))⟩, ⟨(some (K.ofNat 158)), none, .mv (.t (K.ofNat 157))⟩, ⟨(some (K.ofNat 159)), (some ((K.ofNat 158), true)), .call (.c (.fn (K.ofNat 22) [])) []⟩, ⟨(some (K.ofNat 160)), none, .pick (.t (K.ofNat 158)) (.t (K.ofNat 159)) (.c (.b false))⟩, ⟨(some (K.ofNat 6)), none, .as (.t (K.ofNat 160))⟩]
noncomputable def f12_c : EC := (.seq (.reg f12_r0) (.seq (.reg f12_r1) (.seq (.reg f12_r2) (.seq (.reg f12_r3) (.seq (.seq (.reg f12_r4) (.cond (.t (K.ofNat 48)) (.seq (.reg f12_r5) (.cond (.t (K.ofNat 53)) (.seq (.reg f12_r6) .ret) .skip)) (.seq (.draw f12_r7) (.cond (.t (K.ofNat 75)) (.seq (.reg f12_r8) .ret) .skip)))) (.seq (.reg f12_r9) (.seq (.reg f12_r10) (.seq (.seq (.reg f12_r11) (.block 0 (.loop f12_l1))) (.seq (.reg f12_r20) (.seq (.reg f12_r21) (.seq (.draw f12_r22) (.seq (.reg f12_r23) .ret))))))))))))
noncomputable def f12 : EF := ⟨161, [.tmp (K.ofNat 6)], f12_c, none⟩
theorem f12_rs : f12.rs = [.tmp (K.ofNat 6)] := of_eq_true (eq_self _)
structure CallsBe (fs : T EF) : Prop extends CallsC4 fs, CallsRc fs, CallsTm fs where
  u25 : fs.get (K.ofNat 25) = some f25
  v31 : fs.get (K.ofNat 31) = some f31
  v33 : fs.get (K.ofNat 33) = some f33
  v47 : fs.get (K.ofNat 47) = some f47
  aw : ∀ h P, CallP fs (.fn (K.ofNat 22) []) [] h P = P (.b true) h
section
variable {fs : T EF} {h : H} {v : V} {B : List Int}
def rowX (M : List Int) (i j : Nat) : List (Int × Int) := (List.range j).map fun j => (M.getD j 0, M.getD (3 + (i + j) % 3) 0)
theorem rowX_succ {M : List Int} {i j : Nat} : rowX M i (j + 1) = rowX M i j ++ [(M.getD j 0, M.getD (3 + (i + j) % 3) 0)] := by
  unfold rowX; rw [List.range_succ, List.map_append]; rfl
def outX (M : List Int) (i : Nat) : List (List (Int × Int)) := (List.range i).map fun i => rowX M i 3
theorem outX_succ {M : List Int} {i : Nat} : outX M (i + 1) = outX M i ++ [rowX M i 3] := by
  unfold outX; rw [List.range_succ, List.map_append]; rfl
theorem outX_six {M : List Int} : outX M 3 = renS M six0 := rfl
theorem four_eq {M : List Int} : renS M four0 = [[(M.getD 0 0, M.getD 1 0), (M.getD 2 0, M.getD 3 0)]] := rfl
def f12_O (h : H) (v u : V) (M : List Int) (i : Nat) (fr : Fr) (h1 : H) : Prop := i ≤ 3 ∧ Grow h.nx.nat h h1 ∧ ∃ x xs, Rows h h1 x xs (outX M i) ∧ fr.get (K.ofNat 1) = some (v) ∧ fr.get (K.ofNat 13) = some (u) ∧ fr.get (K.ofNat 14) = some (x) ∧ fr.get (K.ofNat 15) = some (.i .i64 (i : Int))
def f12_R (h : H) (v u x : V) (M : List Int) (i : Nat) (j : Nat) (fr : Fr) (h1 : H) : Prop := j ≤ 3 ∧ Grow h.nx.nat h h1 ∧ ∃ w, Sk 2 qE h1 w (rowX M i j) ∧ Own h.nx.nat w ∧ fr.get (K.ofNat 1) = some (v) ∧ fr.get (K.ofNat 13) = some (u) ∧ fr.get (K.ofNat 14) = some (x) ∧ fr.get (K.ofNat 15) = some (.i .i64 (i : Int)) ∧ fr.get (K.ofNat 16) = some (w) ∧ fr.get (K.ofNat 17) = some (.i .i64 (j : Int))
/-- The example of six teams. -/
theorem f12_six {Qk : Ex → Fr → H → Prop} {fr : Fr} {u : V} {M : List Int} (hM : M.length = 6) (hu : Sl iE h u M) (hc : HC h) (hfr : fr.get (K.ofNat 1) = some (v) ∧ fr.get (K.ofNat 13) = some (u) ∧ fr.get (K.ofNat 14) = some (.sn) ∧ fr.get (K.ofNat 15) = some (.i .i64 0))
    (hq : ∀ fr h', Grow h.nx.nat h h' → (∃ x xs, Nrp h' x xs (renS M six0) ∧ fr.get (K.ofNat 1) = some (v) ∧ fr.get (K.ofNat 14) = some (x)) → Qk (.exit 0) fr h') : W fs none (.loop f12_l1) Qk fr h := by
  obtain ⟨g1, g13, g14, g15⟩ := hfr
  refine W_loop (f12_O h v u M) (fun i => 3 - i) ?_ 0 ⟨by omega, Grow.refl _ _, .sn, [], ⟨Sld.nil, Own.sn, fun x hx => absurd hx (by simp), Grow.refl _ _⟩, by simp (disch := omega) only [g1, g13, g14, g15, and_self, Int.natCast_zero]⟩
  clear g1 g13 g14 g15 fr
  rintro i fr h1 ⟨hi, hG, x, xs, hR, g1, g13, g14, g15⟩
  have hc1 := hG.hc hc
  unfold f12_l1
  by_cases hlt : i < 3
  · have d0 : decide ((i : Int) < 3) = true := decide_eq_true (by omega)
    have hol : (outX M i).length = i := by simp [outX]
    simp (disch := omega) only [f12_r12, f12_r13, f12_r14, w_skip, w_reg, w_seq, w_cond, w_block, seqK_n, ckB_b, cbB_b, true_and, x_nil, x_mv, x_as, x_bin, kx, rvP_ok, okv_some, ev_t, ev_c, getV_some, putD_some, bin_lss, of0, of3, getK_set, ↓reduceIte, g15, d0]
    refine W_loop (f12_R h1 v u x M i) (fun j => 3 - j) ?_ 0 ⟨by omega, Grow.refl _ _, .sn, Sk.nil, Own.sn, by simp (disch := omega) only [getK_set, Nat.reduceEqDiff, ↓reduceIte, g1, g13, g14, g15, and_self, Int.natCast_zero]⟩
    clear g1 g13 g14 g15 fr
    rintro j fr h2 ⟨hj, hG2, w, hw, how, g1, g13, g14, g15, g16, g17⟩
    have hc2 := hG2.hc hc1
    unfold f12_l0
    by_cases hlt2 : j < 3
    · have d1 : decide ((j : Int) < 3) = true := decide_eq_true (by omega)
      have hu2 := hu.grow hc (hG.trans (hG2.low hG.nx))
      obtain ⟨pa, pa1, pa2⟩ := hu2.at j (by omega)
      obtain ⟨pb, pb1, pb2⟩ := hu2.at (3 + (i + j) % 3) (by omega)
      rw [← getD_at (d := 0) (show j < M.length by omega)] at pa2
      rw [← getD_at (d := 0) (show 3 + (i + j) % 3 < M.length by omega)] at pb2
      have e1 : (i : Int) + (j : Int) = ((i + j : Nat) : Int) := by omega
      have e2 : ((i + j : Nat) : Int).tmod 3 = (((i + j) % 3 : Nat) : Int) := rfl
      have e3 : (3 : Int) + (((i + j) % 3 : Nat) : Int) = ((3 + (i + j) % 3 : Nat) : Int) := by omega
      have hsu := rowX_succ (M := M) (i := i) (j := j)
      have hrl : (rowX M i j).length = j := by simp [rowX]
      generalize M.getD j 0 = xa at *
      generalize M.getD (3 + (i + j) % 3) 0 = xb at *
      obtain ⟨w', h3, b1, b2, b3, b4, _⟩ := Sk.push qE_len (by omega) (x := (xa, xb)) hw how hG2.nx hc2 (by omega)
      have b1 : appV 2 (h2.new (.cells (1 * 2) [.i .i64 xa, .i .i64 xb])) w (.sl h2.nx 0 1 2) = .ok w' h3 := b1
      rw [← hsu] at b2
      simp (disch := omega) only [f12_r15, f12_r16, w_skip, w_reg, w_draw, w_seq, w_cond, w_block, seqK_n, ckB_b, cbB_b, true_and, x_nil, x_mv, x_bin, x_app, kx, kg, xg_nil, xg_mv, xg_build, xg_ld, xg_bin, xg_iads, xg_bslice, xd_cons, stK_s, stay_nil, rvP_ok, okv_some, ev_t, ev_c, getV_some, putD_some, bin_add, bin_lss, bin_rem, oGet_s, cells1_i, of0, of3, Option.some.injEq, exists_eq_left', getK_set, Nat.reduceEqDiff, ↓reduceIte, fill_2, set_2, cells2, g13, g15, g16, g17, e1, e2, e3, d1, pa1, pa2, pb1, pb2, iE, fill_2, set_2, fill_p2, set_p2, cells2, hc2.dead, fw64]
      refine ⟨fresh_one (n := 1) (sz := 2) (by simp (disch := omega) only [getK_set, ↓reduceIte]), ?_⟩
      simp (disch := omega) only [f12_r17, w_reg, seqK_n, atK_n, loopK_n, true_and, x_nil, x_mv, x_as, x_bin, kx, xg_nil, xd_cons, fresh_nil, stK_n, stK_s, stay_nil, rvP_ok, okv_some, ev_t, ev_c, getV_some, putD_some, bin_add, of1, getK_set, Nat.reduceEqDiff, ↓reduceIte, g17, b1, fw64]
      exact ⟨j + 1, by omega, by omega, hG2.trans b4, w', b2, b3, by simp (disch := omega) only [getK_set, Nat.reduceEqDiff, ↓reduceIte, g1, g13, g14, g15, and_self, Int.natCast_add, Int.natCast_one]⟩
    · have d1 : decide ((j : Int) < 3) = false := decide_eq_false (by omega)
      have ej : j = 3 := by omega
      rw [ej] at hw
      have hxl := hR.sd.out.lt hc1
      have hil : ∀ z ∈ xs, ∀ id off m sz, z = .sl id off m sz → id.nat < h1.nx.nat := fun z hz => by
        obtain ⟨q, hq, rfl⟩ := List.getElem_of_mem hz
        exact (hR.sd.inn q hq (by rw [← hR.sd.len]; exact hq)).lt hc1
      have hGa := hG.trans (hG2.low hG.nx)
      have hS2 := hR.sd.kept (b := h1.nx.nat) (fun id hid => hG2.old id hid) hxl hil
      obtain ⟨y, h3, a1, a2, a3, a4⟩ := hS2.push hR.ow hGa.nx hc2 (by omega) hw (fun id off m sz e off' m' sz' e' => by have := how _ _ _ _ e; have := hxl _ _ _ _ e'; omega) (fun z hz id off m sz e off' m' sz' e' => by have := how _ _ _ _ e; have := hil z hz _ _ _ _ e'; omega)
      simp (disch := omega) only [f12_r15, f12_r18, f12_r19, w_reg, w_seq, w_cond, w_exit, seqK_n, seqK_e, atK_n, atK_e, loopK_n, loopK_e, ckB_b, cbB_b, true_and, x_nil, x_mv, x_as, x_bslice, x_bin, x_app, kx, rvP_ok, okv_some, ev_t, ev_c, getV_some, putD_some, bin_add, bin_lss, oGet_s, fill_1, set_1, of1, of3, getK_set, Nat.reduceEqDiff, ↓reduceIte, Bool.false_eq_true, g14, g15, g16, g17, d1, fill_1, set_1, hw.one, a1, fw64]
      refine ⟨i + 1, by omega, by omega, hGa.trans a4, y, xs ++ [w], ⟨by rw [outX_succ]; exact a2, a3, fun z hz => ?_, hGa.trans a4⟩, by simp (disch := omega) only [getK_set, Nat.reduceEqDiff, ↓reduceIte, g1, g13, and_self, Int.natCast_add, Int.natCast_one]⟩
      rcases List.mem_append.1 hz with hz | hz
      · exact hR.ox z hz
      · rw [List.mem_singleton.1 hz]; exact how.low hG.nx
  · have d0 : decide ((i : Int) < 3) = false := decide_eq_false (by omega)
    have ei : i = 3 := by omega
    have hN := hR.sd.nrp
    rw [ei, outX_six] at hN
    simp (disch := omega) only [f12_r12, w_reg, w_seq, w_cond, w_exit, seqK_n, seqK_e, loopK_e, ckB_b, cbB_b, true_and, x_nil, x_mv, x_bin, kx, rvP_ok, okv_some, ev_t, ev_c, getV_some, putD_some, bin_lss, of3, getK_set, ↓reduceIte, Bool.false_eq_true, g15, d0]
    exact hq _ _ hG ⟨x, xs, hN, by simp (disch := omega) only [getK_set, Nat.reduceEqDiff, ↓reduceIte, g1, g14, and_self]⟩
theorem fresh_2 {h0 : H} {fr : Fr} {k k2 : K} {n sz n2 sz2 : Nat} {x y : Blk} (hg : fr.get k = some (.sl h0.nx 0 n sz)) (hg2 : fr.get k2 = some (.sl (h0.new x).nx 0 n2 sz2)) : isFresh h0 ((h0.new x).new y) fr [k, k2] = true := by
  have n1 := nx_new h0 x
  have n2 := nx_new (h0.new x) y
  show freshL h0.nx.nat ((h0.new x).new y).nx.nat (oGet (slId (getV (fr.get k))) (oGet (slId (getV (fr.get k2))) [] fun id => [id]) fun id => id :: oGet (slId (getV (fr.get k2))) [] fun id => [id]) = true
  rw [hg, hg2]
  show (Nat.ble h0.nx.nat h0.nx.nat && Nat.blt h0.nx.nat ((h0.new x).new y).nx.nat && (!(h0.nx.beq (h0.new x).nx) && true) && (Nat.ble h0.nx.nat (h0.new x).nx.nat && Nat.blt (h0.new x).nx.nat ((h0.new x).new y).nx.nat && true && true)) = true
  have hb : h0.nx.beq (h0.new x).nx = false := by
    cases e : h0.nx.beq (h0.new x).nx
    · rfl
    · have := K.beq_eq e
      exact absurd this (kNe (by omega))
  rw [hb, Nat.ble_eq_true_of_le (Nat.le_refl _), Nat.ble_eq_true_of_le (show h0.nx.nat ≤ (h0.new x).nx.nat by omega), show Nat.blt h0.nx.nat ((h0.new x).new y).nx.nat = true from Nat.ble_eq_true_of_le (by omega), show Nat.blt (h0.new x).nx.nat ((h0.new x).new y).nx.nat = true from Nat.ble_eq_true_of_le (by omega)]
  rfl
theorem fill_22 {fr : Fr} {z a b c d : V} {x y : EO} (h1 : ev fr x = .agg [a, b]) (h2 : ev fr y = .agg [c, d]) : fillE fr [z, z, z, z] [(0, 2, x), (2, 2, y)] = some [a, b, c, d] := by
  show oGet (cellsN 2 (ev fr x)) none (fun cs => oGet (cellsN 2 (ev fr y)) none fun cs' => some (setMany (setMany [z, z, z, z] 0 cs) 2 cs')) = _
  rw [h1, h2]; rfl
theorem f12_end {fr : Fr} {Pk : V → H → Prop} (k : CallsBe fs) (hv : Sr iE h v B) (hB : B.length ≤ 9223372036854775807) (hc : HC h) (hfr : fr.get (K.ofNat 1) = some (v)) (hq : ∀ h', Grow h.nx.nat h h' → Pk (.b true) h') :
    Go.Ev.X fs f12_r9 (seqK (W fs none (.seq (.reg f12_r10) (.seq (.seq (.reg f12_r11) (.block 0 (.loop f12_l1))) (.seq (.reg f12_r20) (.seq (.reg f12_r21) (.seq (.draw f12_r22) (.seq (.reg f12_r23) .ret))))))) (retK f12 Pk) .normal) fr h := by
  have aw := k.aw
  have ee : ∀ x : Int, decide (x = x) = true := fun x => by simp
  have g1 := hfr
  simp (disch := omega) only [f12_r9, x_mv, x_call, ev_t, ev_c, evs_nil, evs_cons, getV_some, putD_some, of6, getK_set, ↓reduceIte, g1]
  refine (callP_0 (ef := f33) k.v33 rfl (f33_ret (n := 6) (by omega) hv hB hc)).mono ?_
  rintro u h1 ⟨hu, _, hG1⟩
  have hc1 := hG1.hc hc
  simp (disch := omega) only [f12_r10, f12_r11, w_reg, w_seq, w_block, seqK_n, x_nil, x_as, kx, ev_t, ev_c, getV_some, putD_some, of0, getK_set, ↓reduceIte]
  refine f12_six (v := v) nmL_len hu hc1 (by simp (disch := omega) only [getK_set, Nat.reduceEqDiff, ↓reduceIte, g1, and_self]) ?_
  clear g1 hfr fr
  rintro fr h2 hG2 ⟨x, xs, hN, g1, g14⟩
  have hc2 := hG2.hc hc1
  have hGa := hG1.trans (hG2.low hG1.nx)
  have hrl : ∀ l ∈ renS (nmL B 6) six0, l.length ≤ 9223372036854775807 := fun l hl => by
    obtain ⟨l', hl', rfl⟩ := List.mem_map.1 hl
    have : l'.length = 3 := by simp [six0] at hl'; rcases hl' with rfl | rfl | rfl <;> rfl
    simp [renR, this]
  simp (disch := omega) only [f12_r20, w_reg, w_seq, seqK_n, atK_e, x_mv, x_call, ev_t, ev_c, evs_nil, evs_cons, getV_some, putD_some, of6, getK_set, ↓reduceIte, g14]
  refine (callP_0 (ef := f47) k.v47 rfl (f47_ret (n := 6) k.toCallsC4 (by unfold ok5; omega) (by omega) hN hrl hc2)).mono ?_
  rintro r h3 ⟨_, hr1, hG3⟩
  obtain ⟨A, y, ys, hM, rfl, hy⟩ := hr1 six_bg
  rw [six_no hM] at hy ⊢
  have hc3 := hG3.hc hc2
  have hGb := hGa.trans (hG3.low hGa.nx)
  have hly : ∀ h1, lenV y h1 = .ok (.i .i64 0) h1 := fun h1 => by rw [hy.out.len, hy.len]; rfl
  simp (disch := omega) only [f12_r21, w_reg, w_seq, seqK_n, x_nil, x_mv, x_as, x_ext, x_call, kx, rvP_ok, okv_some, ev_t, ev_c, evs_nil, evs_cons, getV_some, putD_some, onTup_t, nth0, nth1, nth2, of4, getK_set, Nat.reduceEqDiff, ↓reduceIte, g1]
  refine (callP_0 (ef := f33) k.v33 rfl (f33_ret (n := 4) (by omega) (hv.grow hc hGb) hB hc3)).mono ?_
  rintro u4 h4 ⟨hu4, _, hG4⟩
  have hc4 := hG4.hc hc3
  have hGc := hGb.trans (hG4.low hGb.nx)
  have hl4 := nmL_len (B := B) (t := 4)
  obtain ⟨pa, pa1, pa2⟩ := hu4.at 0 (by omega)
  obtain ⟨pb, pb1, pb2⟩ := hu4.at 1 (by omega)
  obtain ⟨pc, pc1, pc2⟩ := hu4.at 2 (by omega)
  obtain ⟨pd, pd1, pd2⟩ := hu4.at 3 (by omega)
  rw [← getD_at (d := 0)] at pa2 pb2 pc2 pd2
  have pa1 : ∀ (k : IntKind) (h1 : H), iadsV 1 u4 (.i k 0) h1 = .ok pa h1 := pa1
  have pb1 : ∀ (k : IntKind) (h1 : H), iadsV 1 u4 (.i k 1) h1 = .ok pb h1 := pb1
  have pc1 : ∀ (k : IntKind) (h1 : H), iadsV 1 u4 (.i k 2) h1 = .ok pc h1 := pc1
  have pd1 : ∀ (k : IntKind) (h1 : H), iadsV 1 u4 (.i k 3) h1 = .ok pd h1 := pd1
  simp (disch := omega) only [f12_r22, w_draw, w_seq, seqK_n, true_and, x_nil, x_as, x_call, kx, kg, xg_nil, xg_mv, xg_build, xg_ld, xg_iads, xg_bslice, xd_cons, stK_s, stay_nil, rvP_ok, ev_t, ev_c, evs_nil, evs_cons, getV_some, putD_some, oGet_s, cells1_i, cells1_sl, fill_1, set_1, of0, of1, of2, of3, of4, Option.some.injEq, exists_eq_left', getK_set, Nat.reduceEqDiff, ↓reduceIte, fill_2, set_2, pa1, pa2, pb1, pb2, pc1, pc2, pd1, pd2, iE, hc4.dead]
  have h4eq : renS (nmL B 4) four0 = [[((nmL B 4).getD 0 0, (nmL B 4).getD 1 0), ((nmL B 4).getD 2 0, (nmL B 4).getD 3 0)]] := four_eq
  have hbg4 := four_bg (B' := B)
  have hcan := fun A => four_can (B := A) (B' := B)
  rw [h4eq] at hbg4 hcan
  generalize (nmL B 4).getD 0 0 = wa at *
  generalize (nmL B 4).getD 1 0 = wb at *
  generalize (nmL B 4).getD 2 0 = wc at *
  generalize (nmL B 4).getD 3 0 = wd at *
  refine ⟨[.i .i64 wa, .i .i64 wb, .i .i64 wc, .i .i64 wd], fill_22 (by simp (disch := omega) only [ev_t, getV_some, getK_set, Nat.reduceEqDiff, ↓reduceIte]) (by simp (disch := omega) only [ev_t, getV_some, getK_set, ↓reduceIte]), ?_⟩
  have gN : Grow h4.nx.nat h4 (h4.new (.cells (2 * 2) [.i .i64 wa, .i .i64 wb, .i .i64 wc, .i .i64 wd])) := Grow.new (Nat.le_refl _) _
  have hcN := gN.hc hc4
  simp (disch := omega) only [true_and, hcN.dead]
  refine ⟨fresh_2 (n := 2) (sz := 2) (n2 := 1) (sz2 := 1) (by simp (disch := omega) only [getK_set, Nat.reduceEqDiff, ↓reduceIte]) (by simp (disch := omega) only [getK_set, ↓reduceIte]), ?_⟩
  have eN : (h4.new (.cells (2 * 2) [.i .i64 wa, .i .i64 wb, .i .i64 wc, .i .i64 wd])).get h4.nx = .cells (2 * 2) [.i .i64 wa, .i .i64 wb, .i .i64 wc, .i .i64 wd] := get_new_same
  have nN := nx_new h4 (.cells (2 * 2) [.i .i64 wa, .i .i64 wb, .i .i64 wc, .i .i64 wd])
  generalize h4.new (.cells (2 * 2) [.i .i64 wa, .i .i64 wb, .i .i64 wc, .i .i64 wd]) = hN' at *
  have gP : Grow hN'.nx.nat hN' (hN'.new (.cells (1 * 1) [.sl h4.nx 0 2 2])) := Grow.new (Nat.le_refl _) _
  have eP : (hN'.new (.cells (1 * 1) [.sl h4.nx 0 2 2])).get hN'.nx = .cells (1 * 1) [.sl h4.nx 0 2 2] := get_new_same
  have hcP := gP.hc hcN
  generalize hN'.new (.cells (1 * 1) [.sl h4.nx 0 2 2]) = hP at *
  have hNr : Nrp hP (.sl hN'.nx 0 1 1) [.sl h4.nx 0 2 2] [[(wa, wb), (wc, wd)]] := by
    refine ⟨rfl, .inr ⟨hN'.nx, 0, 1 * 1, _, rfl, .inl eP, rfl, by simp, fun i hi => ?_⟩, fun i h1 h2 => ?_⟩
    · obtain rfl : i = 0 := by simpa using hi
      rfl
    · obtain rfl : i = 0 := by simpa using h1
      exact Sk.srp (.inr ⟨h4.nx, 0, 2 * 2, _, rfl, (gP.old _ (by omega)).trans eN, rfl, by simp, rfl⟩)
  have hGd : Grow h.nx.nat h hP := hGc.trans ((gN.trans (gP.low (by omega))).low hGc.nx)
  refine (callP_0 (ef := f47) k.v47 rfl (f47_ret (n := 4) k.toCallsC4 (by unfold ok5; omega) (by omega) hNr (fun l hl => by rw [List.mem_singleton.1 hl]; simp) hcP)).mono ?_
  rintro r h5 ⟨_, hr1, hG5⟩
  obtain ⟨A4, z, zs, hM4, rfl, hz⟩ := hr1 hbg4
  have hsome := hcan A4 hM4
  obtain ⟨R, hR⟩ := Option.isSome_iff_exists.1 hsome
  rw [hR] at hz ⊢
  have hz : Nrp h5 z zs ([[(wa, wb), (wc, wd)]] ++ R) := hz
  have hsh := cmp_sh (n := 4) (by omega) (by omega) rfl hM4 hbg4 hR
  have s4 : Sched 4 ([[(wa, wb), (wc, wd)]] ++ R) := Sched.of (by unfold ok5; omega) hsh
  have hsl := s4.len
  have hck : ckI 4 ([[(wa, wb), (wc, wd)]] ++ R) = 0 := by unfold ckI; rw [if_pos hsh]
  have hc5 := hG5.hc hcP
  have hGe := hGd.trans (hG5.low hGd.nx)
  simp (disch := omega) only [f12_r23, w_reg, w_seq, seqK_n, okG_b, asG_t, true_and, x_nil, x_g, x_mv, x_as, x_pick, x_bin, x_not, x_call, x_len, kx, kg, xg_nil, xg_mv, xg_ext, xd_cons, fresh_nil, stK_n, stK_s, stay_nil, stay_cons, again_ok, beq_i, beq_b, rvP_ok, okv_some, ev_t, ev_c, evs_nil, evs_cons, getV_some, putD_some, bin_eql, pick_b, onB_b, onTup_t, nth0, nth1, nth2, of0, of4, getK_set, Nat.reduceEqDiff, ↓reduceIte, decide_eq_true_eq, Bool.not_false, stay_ext, hly, Option.isSome_none, Option.isSome_some, Bool.not_false]
  refine (callP_0 (ef := f14) k.c14 rfl (f14_ret (n := 4) k.toCallsRc s4.ok hz (by omega) s4.big hc5)).mono ?_
  rintro r h6 ⟨rfl, hG6⟩
  rw [hck]
  simp (disch := omega) only [f12_rs, w_ret, seqK_n, okG_b, asG_t, true_and, retK_r, x_nil, x_g, x_mv, x_as, x_pick, x_bin, x_call, kx, rvP_ok, okv_some, ev_t, ev_c, evs_nil, getV_some, putD_some, bin_eql, pick_b, oGet_s, readRs_nil, readRs_t, retV_1, Option.some.injEq, exists_eq_left', getK_set, Nat.reduceEqDiff, ↓reduceIte, decide_eq_true_eq, aw]
  exact hq _ (hGe.trans (hG6.low hGe.nx))
theorem f12_ret {n many : Int} (k : CallsBe fs) (hv : Sr iE h v B) (hB : B.length ≤ 9223372036854775807) (hc : HC h) : Ret fs f12 [.i .i64 n, v, .i .i64 many] h fun r h' => r = .b true ∧ Grow h.nx.nat h h' := by
  have ne0 : decide ((0 : Int) ≠ 0) = false := rfl
  have ne1 : decide ((1 : Int) ≠ 1) = false := rfl
  apply ret_of rfl
  show W fs none f12_c _ _ _
  unfold f12_c
  simp (disch := omega) only [f12_r0, f12_r1, w_reg, w_seq, seqK_n, x_nil, x_mv, x_as, x_call, ev_t, ev_c, evs_nil, evs_cons, getV_some, putD_some, frame_3, getK_set, Nat.reduceEqDiff, ↓reduceIte]
  refine (callP_0 (ef := f25) k.u25 rfl (f25_ret (n := n) k.toCallsTm hv hB hc)).mono ?_
  rintro r h1 ⟨m, c, ws, rfl, hm, hS, hG1⟩
  have hc1 := hG1.hc hc
  have ho := teams_nat hm
  have ho' := ho
  unfold ok5 at ho'
  have s : Sched m (tameL m B) := Sched.of ho (tame_sh ho)
  have hsl := s.len
  obtain ⟨w, hw⟩ : ∃ w : Nat, fw .u64 many = (w : Int) := by
    rw [fw_eq]
    exact Int.eq_ofNat_of_zero_le (Int.emod_nonneg _ (by decide))
  have e1 : fw .u64 (m : Int) = (m : Int) := by rw [fw_eq]; exact wrap_in .u64 _ (by simp only [kmin]; omega) (by simp only [kmax]; omega)
  have e2 : ((w : Int)).tmod (m : Int) = ((w % m : Nat) : Int) := rfl
  have hkm : w % m < m := Nat.mod_lt _ (by omega)
  have e3 : fw .i64 ((w % m : Nat) : Int) = ((w % m : Nat) : Int) := fw64 (by omega) (by omega)
  have hul := hS.len
  obtain ⟨v3, c1, c2⟩ := hS.out.cutE (m := w % m) (by omega)
  have hQ : NrT h1 v3 (ws.take (w % m)) ((tameL m B).take (w % m)) := by
    refine ⟨by rw [List.length_take, List.length_take, hul], c2, fun i h1' h2 => ?_⟩
    have h3 : i < ws.length := by rw [List.length_take] at h1'; omega
    have := hS.inn i h3 (by omega)
    rw [List.getElem_take, List.getElem_take]
    exact this
  generalize hkk : w % m = kk at *
  have happ : (tameL m B).take kk ++ (tameL m B).drop kk = tameL m B := List.take_append_drop _ _
  have hrow : ∀ l ∈ (tameL m B).take kk, l.length ≤ 9223372036854775807 := fun l hl => s.big l (List.mem_of_mem_take hl)
  simp (disch := omega) only [f12_r2, f12_r3, w_reg, w_seq, seqK_n, x_nil, x_mv, x_as, x_bin, x_conv, x_slice, sliceV_eq, Option.map_none, Option.map_some, x_ext, x_call, kx, rvP_ok, okv_some, ev_t, ev_c, evs_nil, evs_cons, getV_some, putD_some, bin_rem, onI_i, onTup_t, nth0, nth1, getK_set, Nat.reduceEqDiff, ↓reduceIte, hw, e1, e2, e3, c1]
  by_cases h8 : m ≤ 8
  · have d8 : decide ((m : Int) > 8) = false := decide_eq_false (by omega)
    refine (callP_0 (ef := f47) k.v47 rfl (f47t_ret (n := m) k.toCallsC4 ho h8 hQ hrow hc1)).mono ?_
    rintro r h2 ⟨_, hr1, hG2⟩
    have hc2 := hG2.hc hc1
    have hGa := hG1.trans (hG2.low hG1.nx)
    have hpw := s.vd.pw
    rw [← happ, List.flatten_append] at hpw
    have hlk : ((tameL m B).take kk).length = kk := by rw [List.length_take]; omega
    have hbk : bgB m ((tameL m B).take kk) = true := vld_bg ⟨fun l hl => s.vd.rnd l (List.mem_of_mem_take hl), (List.pairwise_append.1 hpw).1⟩ (by omega)
    obtain ⟨A, x, xs, hM, rfl, hx⟩ := hr1 hbk
    have hcan := cmp_complete (n := m) (by omega) (by omega) (by omega) m A _ ((tameL m B).drop kk) hM ho (by rw [happ]; exact s.sh) (by rw [List.length_drop]; omega)
    obtain ⟨R, hR⟩ := Option.isSome_iff_exists.1 hcan
    rw [hR] at hx ⊢
    have hx : Nrp h2 x xs ((tameL m B).take kk ++ R) := hx
    have hsh := cmp_sh (n := m) (by omega) (by omega) (by omega) hM hbk hR
    have s' : Sched m ((tameL m B).take kk ++ R) := Sched.of ho hsh
    have hsl' := s'.len
    have hck : ckI m ((tameL m B).take kk ++ R) = 0 := by unfold ckI; rw [if_pos hsh]
    have hS2 := hS.grow hc1 hG2
    simp (disch := omega) only [f12_r4, f12_r7, w_reg, w_draw, w_seq, w_cond, seqK_n, ckB_b, cbB_b, okG_b, asG_f, true_and, x_nil, x_g, x_mv, x_as, x_bin, x_ext, x_call, kx, kg, xg_nil, xg_g, xg_mv, xg_pick, xg_bin, xg_not, xd_cons, fresh_nil, stK_s, stay_nil, rvP_ok, okv_some, ev_t, ev_c, evs_nil, evs_cons, getV_some, putD_some, bin_neq, bin_gtr, pick_b, onB_b, onTup_t, nth0, nth1, nth2, of0, of8, getK_set, Nat.reduceEqDiff, ↓reduceIte, Bool.false_eq_true, Bool.not_true, Bool.not_false, d8, ne0, Option.isSome_some, Bool.not_true, Bool.not_false]
    refine (callP_0 (ef := f14) k.c14 rfl (f14_ret k.toCallsRc ho hx (by omega) s'.big hc2)).mono ?_
    rintro r h3 ⟨rfl, hG3⟩
    rw [hck]
    have hc3 := hG3.hc hc2
    have hGb := hGa.trans (hG3.low hGa.nx)
    have hx3 := hx.grow hc2 hG3
    have hS3 := hS2.grow hc2 hG3
    have hxl := hx3.len
    have hSl := hS3.len
    obtain ⟨y1, b1, b2, _, _⟩ := hx3.out.cut (lo := none) (hi := some (.i .i64 (kk : Int))) (l := 0) (u := kk) bnd_none bnd_i (Nat.zero_le _) (by rw [hxl, List.length_append]; omega)
    obtain ⟨y2, b3, b4, _, _⟩ := hS3.out.cut (lo := none) (hi := some (.i .i64 (kk : Int))) (l := 0) (u := kk) bnd_none bnd_i (Nat.zero_le _) (by rw [hSl]; omega)
    rw [List.drop_zero] at b2 b4
    have n1 : Nrp h3 y1 (xs.take kk) ((tameL m B).take kk) := by
      refine ⟨by rw [List.length_take, hxl, List.length_append]; omega, b2, fun i q1 q2 => ?_⟩
      have q3 : i < xs.length := by rw [List.length_take] at q1; omega
      have := hx3.inn i q3 (by rw [List.length_append]; omega)
      rw [List.getElem_append_left q2] at this
      rw [show (xs.take kk)[i]'q1 = xs[i]'q3 by simp]
      exact this
    have n2 : Nrp h3 y2 (ws.take kk) ((tameL m B).take kk) := by
      refine ⟨by rw [List.length_take, hSl]; omega, b4, fun i q1 q2 => ?_⟩
      have q3 : i < ws.length := by rw [List.length_take] at q1; omega
      have := hS3.inn i q3 (by omega)
      rw [List.getElem_take, List.getElem_take]
      exact this
    have hI : ∀ l ∈ (tameL m B).take kk, ∀ e ∈ l, inR .i64 e.1 = true ∧ inR .i64 e.2 = true := fun l hl e he => by
      obtain ⟨q1, q2, _⟩ := rnd_e (s.vd.rnd l (List.mem_of_mem_take hl)) e he
      obtain ⟨a, ha⟩ := Int.eq_ofNat_of_zero_le q1.1
      obtain ⟨b, hb2⟩ := Int.eq_ofNat_of_zero_le q2.1
      rw [ha, hb2]
      refine ⟨?_, ?_⟩
      · show Nat.ble a 9223372036854775807 = true
        exact Nat.ble_eq_true_of_le (by omega)
      · show Nat.ble b 9223372036854775807 = true
        exact Nat.ble_eq_true_of_le (by omega)
    simp (disch := omega) only [okG_b, asG_f, true_and, x_nil, x_g, sliceV_eq, Option.map_none, Option.map_some, x_call, kx, kg, xg_nil, xg_g, xg_mv, xg_pick, xg_bin, xg_slice, xd_cons, fresh_nil, stK_s, stay_nil, rvP_ok, okv_some, ev_t, ev_c, evs_nil, evs_cons, getV_some, putD_some, bin_neq, pick_b, getK_set, Nat.reduceEqDiff, ↓reduceIte, Bool.false_eq_true, Bool.not_false, ne0, b1, b3, Bool.not_false]
    refine (callP_0 (ef := f31) k.v31 rfl (f31_same n1 n2 ⟨by omega, fun l hl => by have := s.row l (List.mem_of_mem_take hl); omega⟩ hI)).mono ?_
    rintro r h4 ⟨rfl, e⟩
    rw [e]
    clear e h4
    simp (disch := omega) only [w_skip, w_reg, w_seq, w_cond, seqK_n, ckB_b, cbB_b, okG_b, asG_f, true_and, x_nil, kx, kg, xg_nil, xg_g, xg_pick, xg_not, xd_cons, fresh_nil, stK_n, stay_nil, rvP_ok, ev_t, ev_c, getV_some, putD_some, pick_b, onB_b, getK_set, Nat.reduceEqDiff, ↓reduceIte, Bool.false_eq_true, Bool.not_true, Bool.not_false, Bool.not_true, Bool.not_false]
    exact f12_end k (hv.grow hc hGb) hB hc3 (by simp (disch := omega) only [getK_set, Nat.reduceEqDiff, ↓reduceIte]) fun h' hG' => ⟨rfl, hGb.trans (hG'.low hGb.nx)⟩
  · have d8 : decide ((m : Int) > 8) = true := decide_eq_true (by omega)
    refine (callP_0 (ef := f47) k.v47 rfl (f47_no k.toCallsC4 (fun hh => h8 (by have := hh.2; omega)))).mono ?_
    rintro r h2 ⟨rfl, e⟩
    rw [e]
    clear e h2
    simp (disch := omega) only [f12_r4, f12_r5, w_skip, w_reg, w_seq, w_cond, seqK_n, ckB_b, cbB_b, okG_b, asG_f, true_and, x_nil, x_g, x_mv, x_as, x_pick, x_bin, x_ext, kx, rvP_ok, okv_some, ev_t, ev_c, getV_some, putD_some, bin_neq, bin_gtr, pick_b, onTup_t, nth0, nth1, nth2, of1, of8, getK_set, Nat.reduceEqDiff, ↓reduceIte, Bool.false_eq_true, Bool.not_false, d8, ne1]
    exact f12_end k (hv.grow hc hG1) hB hc1 (by simp (disch := omega) only [getK_set, Nat.reduceEqDiff, ↓reduceIte]) fun h' hG' => ⟨rfl, hG1.trans (hG'.low hG1.nx)⟩
end
end Go.Ev
