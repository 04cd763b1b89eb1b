/-
  Labels: is a graph connected, for the reference.
  Labels: Caterpillar of the reference.
  Labels: the trees that the laws try.
  Labels: the law LabelsCrawls.
-/
import Derived.Test.YtmnojcnimncbpaaPg
namespace Go.Ev
open Go Go.RowKit
noncomputable def f74_r0 : List EOper := [⟨(some (K.ofNat 4)), none, .as (.c (.b false))⟩]
noncomputable def f74_r1 : List EOper := [⟨(some (K.ofNat 11)), none, .mv (.t (K.ofNat 0))⟩, ⟨(some (K.ofNat 12)), none, .mkslice 1 [(.b false)] (.t (K.ofNat 11))⟩, ⟨(some (K.ofNat 5)), none, .as (.t (K.ofNat 12))⟩]
noncomputable def f74_r2 : List EOper := [⟨(some (K.ofNat 13)), none, .mv (.t (K.ofNat 5))⟩, ⟨(some (K.ofNat 14)), none, .iads 1 (.t (K.ofNat 13)) (.c (.i .i64 (.ofNat 0)))⟩, ⟨none, none, .st 1 (.t (K.ofNat 14)) (.c (.b true))⟩]
noncomputable def f74_r3 : List EOper := [⟨(some (K.ofNat 6)), none, .as (.c (.i .i64 (.ofNat 0)))⟩]
noncomputable def f74_r4 : List EOper := [⟨(some (K.ofNat 15)), none, .mv (.t (K.ofNat 6))⟩, ⟨(some (K.ofNat 16)), none, .mv (.t (K.ofNat 0))⟩, ⟨(some (K.ofNat 17)), none, .bin .lss (.t (K.ofNat 15)) (.t (K.ofNat 16))⟩]
noncomputable def f74_r5 : List EOper := [⟨(some (K.ofNat 7)), none, .as (.c (.i .i64 (.ofNat 0)))⟩]
noncomputable def f74_r6 : List EOper := [⟨(some (K.ofNat 20)), none, .mv (.t (K.ofNat 7))⟩, ⟨(some (K.ofNat 21)), none, .mv (.t (K.ofNat 1))⟩, ⟨(some (K.ofNat 22)), none, .len (.t (K.ofNat 21))⟩, ⟨(some (K.ofNat 23)), none, .bin .lss (.t (K.ofNat 20)) (.t (K.ofNat 22))⟩]
noncomputable def f74_r7 : List Stage := [⟨[⟨(some (K.ofNat 26)), none, .mv (.t (K.ofNat 1))⟩, ⟨(some (K.ofNat 27)), none, .mv (.t (K.ofNat 7))⟩, ⟨(some (K.ofNat 28)), none, .iads 2 (.t (K.ofNat 26)) (.t (K.ofNat 27))⟩, ⟨(some (K.ofNat 29)), none, .iadr 2 1 (.t (K.ofNat 28)) (.c (.i .i64 (.ofNat 0)))⟩, ⟨(some (K.ofNat 30)), none, .ld (.t (K.ofNat 29))⟩, ⟨(some (K.ofNat 31)), none, .mv (.t (K.ofNat 1))⟩, ⟨(some (K.ofNat 32)), none, .mv (.t (K.ofNat 7))⟩, ⟨(some (K.ofNat 33)), none, .iads 2 (.t (K.ofNat 31)) (.t (K.ofNat 32))⟩, ⟨(some (K.ofNat 34)), none, .iadr 2 1 (.t (K.ofNat 33)) (.c (.i .i64 (.ofNat 1)))⟩, ⟨(some (K.ofNat 35)), none, .ld (.t (K.ofNat 34))⟩], [], (some ⟨(some (K.ofNat 8)), none, .as (.t (K.ofNat 30))⟩), []⟩, ⟨[], [⟨(some (K.ofNat 31)), none, .mv (.t (K.ofNat 1))⟩, ⟨(some (K.ofNat 32)), none, .mv (.t (K.ofNat 7))⟩, ⟨(some (K.ofNat 33)), none, .iads 2 (.t (K.ofNat 31)) (.t (K.ofNat 32))⟩, ⟨(some (K.ofNat 34)), none, .iadr 2 1 (.t (K.ofNat 33)) (.c (.i .i64 (.ofNat 1)))⟩, ⟨(some (K.ofNat 35)), none, .ld (.t (K.ofNat 34))⟩], (some ⟨(some (K.ofNat 9)), none, .as (.t (K.ofNat 35))⟩), []⟩, ⟨[], [], none, []⟩]
noncomputable def f74_r8 : List EOper := [⟨(some (K.ofNat 36)), none, .mv (.t (K.ofNat 5))⟩, ⟨(some (K.ofNat 37)), none, .mv (.t (K.ofNat 8))⟩, ⟨(some (K.ofNat 38)), none, .iads 1 (.t (K.ofNat 36)) (.t (K.ofNat 37))⟩, ⟨(some (K.ofNat 39)), none, .ld (.t (K.ofNat 38))⟩, ⟨(some (K.ofNat 40)), none, .mv (.t (K.ofNat 39))⟩, ⟨(some (K.ofNat 41)), (some ((K.ofNat 40), false)), .mv (.t (K.ofNat 5))⟩, ⟨(some (K.ofNat 42)), (some ((K.ofNat 40), false)), .mv (.t (K.ofNat 9))⟩, ⟨(some (K.ofNat 43)), (some ((K.ofNat 40), false)), .iads 1 (.t (K.ofNat 41)) (.t (K.ofNat 42))⟩, ⟨(some (K.ofNat 44)), (some ((K.ofNat 40), false)), .ld (.t (K.ofNat 43))⟩, ⟨(some (K.ofNat 45)), none, .pick (.t (K.ofNat 40)) (.c (.b true)) (.t (K.ofNat 44))⟩]
noncomputable def f74_r9 : List EOper := [⟨(some (K.ofNat 46)), none, .mv (.t (K.ofNat 5))⟩, ⟨(some (K.ofNat 47)), none, .mv (.t (K.ofNat 8))⟩, ⟨(some (K.ofNat 48)), none, .iads 1 (.t (K.ofNat 46)) (.t (K.ofNat 47))⟩, ⟨none, none, .st 1 (.t (K.ofNat 48)) (.c (.b true))⟩]
noncomputable def f74_r10 : List EOper := [⟨(some (K.ofNat 49)), none, .mv (.t (K.ofNat 5))⟩, ⟨(some (K.ofNat 50)), none, .mv (.t (K.ofNat 9))⟩, ⟨(some (K.ofNat 51)), none, .iads 1 (.t (K.ofNat 49)) (.t (K.ofNat 50))⟩, ⟨none, none, .st 1 (.t (K.ofNat 51)) (.c (.b true))⟩]
noncomputable def f74_r11 : List EOper := [⟨(some (K.ofNat 24)), none, .mv (.t (K.ofNat 7))⟩, ⟨(some (K.ofNat 25)), none, .bin .add (.t (K.ofNat 24)) (.c (.i .i64 (.ofNat 1)))⟩, ⟨(some (K.ofNat 7)), none, .as (.t (K.ofNat 25))⟩]
noncomputable def f74_l0 : EC := (.seq (.seq (.reg f74_r6) (.cond (.t (K.ofNat 23)) .skip (.exit 2))) (.seq (.block 3 (.seq (.draw f74_r7) (.seq (.reg f74_r8) (.cond (.t (K.ofNat 45)) (.seq (.reg f74_r9) (.reg f74_r10)) .skip)))) (.reg f74_r11)))
noncomputable def f74_r12 : List EOper := [⟨(some (K.ofNat 18)), none, .mv (.t (K.ofNat 6))⟩, ⟨(some (K.ofNat 19)), none, .bin .add (.t (K.ofNat 18)) (.c (.i .i64 (.ofNat 1)))⟩, ⟨(some (K.ofNat 6)), none, .as (.t (K.ofNat 19))⟩]
noncomputable def f74_l1 : EC := (.seq (.seq (.reg f74_r4) (.cond (.t (K.ofNat 17)) .skip (.exit 0))) (.seq (.block 1 (.seq (.reg f74_r5) (.block 2 (.loop f74_l0)))) (.reg f74_r12)))
noncomputable def f74_r13 : List EOper := [⟨(some (K.ofNat 10)), none, .as (.c (.i .i64 (.ofNat 0)))⟩]
noncomputable def f74_r14 : List EOper := [⟨(some (K.ofNat 52)), none, .mv (.t (K.ofNat 10))⟩, ⟨(some (K.ofNat 53)), none, .mv (.t (K.ofNat 0))⟩, ⟨(some (K.ofNat 54)), none, .bin .lss (.t (K.ofNat 52)) (.t (K.ofNat 53))⟩]
noncomputable def f74_r15 : List EOper := [⟨(some (K.ofNat 57)), none, .mv (.t (K.ofNat 5))⟩, ⟨(some (K.ofNat 58)), none, .mv (.t (K.ofNat 10))⟩, ⟨(some (K.ofNat 59)), none, .iads 1 (.t (K.ofNat 57)) (.t (K.ofNat 58))⟩, ⟨(some (K.ofNat 60)), none, .ld (.t (K.ofNat 59))⟩, ⟨(some (K.ofNat 61)), none, .not (.t (K.ofNat 60))⟩]
noncomputable def f74_r16 : List EOper := [⟨(some (K.ofNat 4)), none, .as (.c (.b false))⟩]
noncomputable def f74_r17 : List EOper := [⟨(some (K.ofNat 55)), none, .mv (.t (K.ofNat 10))⟩, ⟨(some (K.ofNat 56)), none, .bin .add (.t (K.ofNat 55)) (.c (.i .i64 (.ofNat 1)))⟩, ⟨(some (K.ofNat 10)), none, .as (.t (K.ofNat 56))⟩]
noncomputable def f74_l2 : EC := (.seq (.seq (.reg f74_r14) (.cond (.t (K.ofNat 54)) .skip (.exit 4))) (.seq (.block 5 (.seq (.reg f74_r15) (.cond (.t (K.ofNat 61)) (.seq (.reg f74_r16) .ret) .skip))) (.reg f74_r17)))
noncomputable def f74_r18 : List EOper := [⟨(some (K.ofNat 4)), none, .as (.c (.b true))⟩]
noncomputable def f74_c : EC := (.seq (.reg f74_r0) (.seq (.reg f74_r1) (.seq (.reg f74_r2) (.seq (.seq (.reg f74_r3) (.block 0 (.loop f74_l1))) (.seq (.seq (.reg f74_r13) (.block 4 (.loop f74_l2))) (.seq (.reg f74_r18) .ret))))))
noncomputable def f74 : EF := ⟨62, [.tmp (K.ofNat 4)], f74_c, none⟩
theorem f74_rs : f74.rs = [.tmp (K.ofNat 4)] := of_eq_true (eq_self _)
def oneN (n : Nat) : List Bool := (List.replicate n false).set 0 true
theorem mk1_take {m : Nat} {A : List Bool} {e : Int × Int} (h1 : e.1.toNat < m) (h2 : e.2.toNat < m) : mk1 (A.take m) e = (mk1 A e).take m := by
  have g : ∀ i, i < m → (A.take m).getD i false = A.getD i false := fun i hi => by
    rw [List.getD_eq_getElem?_getD, List.getD_eq_getElem?_getD, List.getElem?_take, if_pos hi]
  unfold mk1
  rw [g _ h1, g _ h2]
  split
  · rw [List.take_set, List.take_set]
  · rfl
theorem mkR_take {m : Nat} : ∀ {F : List (Int × Int)} {A : List Bool}, (∀ e ∈ F, e.1.toNat < m ∧ e.2.toNat < m) → mkR F (A.take m) = (mkR F A).take m
  | [], _, _ => rfl
  | e :: F, A, h => by
    show mkR F (mk1 (A.take m) e) = (mkR F (mk1 A e)).take m
    rw [mk1_take (h e (by simp)).1 (h e (by simp)).2, mkR_take fun e he => h e (by simp [he])]
theorem mkN_take {m : Nat} {E : List (Int × Int)} {A : List Bool} (h : ∀ e ∈ E, e.1.toNat < m ∧ e.2.toNat < m) : ∀ t, mkN E (A.take m) t = (mkN E A t).take m
  | 0 => rfl
  | t + 1 => by
    show mkR E (mkN E (A.take m) t) = (mkR E (mkN E A t)).take m
    rw [mkN_take h t, mkR_take h]
theorem oneN_eq {n : Nat} (h : n ≤ 7) : oneN n = one7.take n := by
  obtain rfl | rfl | rfl | rfl | rfl | rfl | rfl | rfl : n = 0 ∨ n = 1 ∨ n = 2 ∨ n = 3 ∨ n = 4 ∨ n = 5 ∨ n = 6 ∨ n = 7 := by omega
  all_goals rfl
section
variable {fs : T EF} {h : H} {v : V} {n : Nat} {E : List (Int × Int)}
theorem con_of (hE : EdgesOk n E) : conB n E = !decide (false ∈ mkN E (oneN n) n) := by
  unfold conB
  rw [oneN_eq hE.2.1, mkN_take fun e he => by have := hE.2.2 e he; omega]
def f74_I (h : H) (n : Nat) (v : V) (E : List (Int × Int)) (t : Nat) (fr : Fr) (h1 : H) : Prop := t ≤ n ∧ Grow h.nx.nat h h1 ∧ ∃ d, Sl V.b h1 d (mkN E (oneN n) t) ∧ Own h.nx.nat d ∧ fr.get (K.ofNat 0) = some (.i .i64 (n : Int)) ∧ fr.get (K.ofNat 1) = some (v) ∧ fr.get (K.ofNat 5) = some (d) ∧ fr.get (K.ofNat 6) = some (.i .i64 (t : Int))
def f74_J (h : H) (n : Nat) (v : V) (E : List (Int × Int)) (t : Nat) (j : Nat) (fr : Fr) (h1 : H) : Prop := j ≤ E.length ∧ Grow h.nx.nat h h1 ∧ ∃ d, Sl V.b h1 d (mkR (E.take j) (mkN E (oneN n) t)) ∧ Own h.nx.nat d ∧ fr.get (K.ofNat 0) = some (.i .i64 (n : Int)) ∧ fr.get (K.ofNat 1) = some (v) ∧ fr.get (K.ofNat 5) = some (d) ∧ fr.get (K.ofNat 6) = some (.i .i64 (t : Int)) ∧ fr.get (K.ofNat 7) = some (.i .i64 (j : Int))
def f74_V (hb : H) (n : Nat) (d : V) (A : List Bool) (i : Nat) (fr : Fr) (h1 : H) : Prop := i ≤ n ∧ h1 = hb ∧ (∀ x (hx : x < A.length), x < i → A[x] = true) ∧ fr.get (K.ofNat 0) = some (.i .i64 (n : Int)) ∧ fr.get (K.ofNat 5) = some (d) ∧ fr.get (K.ofNat 10) = some (.i .i64 (i : Int))
theorem f74_ret (h1n : 1 ≤ n) (hv : Srp h v E) (hc : HC h) (hE : EdgesOk n E) : Ret fs f74 [.i .i64 (n : Int), v] h fun r h' => r = .b (conB n E) ∧ Grow h.nx.nat h h' := by
  have hE10 := hE.1
  have hn7 := hE.2.1
  apply ret_of rfl
  show W fs none f74_c _ _ _
  unfold f74_c
  have hmk := mks_b (h := h) (k := .i64) (n := n) (by omega)
  have hsl0 := mksb_sl (h := h) (n := n)
  have gD := Grow.new (Nat.le_refl h.nx.nat) (.cells (n * 1) (rep [.b false] n))
  generalize h.new (.cells (n * 1) (rep [.b false] n)) = h0 at *
  have hc0 := gD.hc hc
  have hod0 : Own h.nx.nat (.sl h.nx 0 n 1) := fun _ _ _ _ e => by cases e; exact Nat.le_refl _
  obtain ⟨p0, id0, m0, cs0, s1, s2, s3, ⟨off0, n0, sz0, s4⟩, s5⟩ := hsl0.st (i := 0) (by simp; omega) (x := true) (c := .b true) rfl rfl hc0
  have s1 : ∀ k h1, iadsV 1 (.sl h.nx 0 n 1) (.i k 0) h1 = .ok p0 h1 := s1
  have gE := gD.trans (Grow.put (hod0 _ _ _ _ s4) s5 (.cells m0 cs0))
  simp (disch := omega) only [f74_r0, f74_r1, f74_r2, f74_r3, w_reg, w_seq, w_block, seqK_n, x_nil, x_mv, x_as, x_st, x_mks, x_iads, kx, rvP_ok, ev_t, ev_c, getV_some, putD_some, putD_none, frame_2, of0, getK_set, Nat.reduceEqDiff, ↓reduceIte, hmk, s1, s2]
  generalize h0.put id0 (.cells m0 cs0) = hs at *
  refine W_loop (f74_I h n v E) (fun t => n - t) ?_ 0 ⟨by omega, gE, .sl h.nx 0 n 1, s3, hod0, by simp (disch := omega) only [getK_set, Nat.reduceEqDiff, ↓reduceIte, and_self, Int.natCast_zero]⟩
  clear hmk hsl0 gD s1 s2 s3 gE hc0 s5 s4
  rintro t fr hx ⟨ht, hGx, d, hd, hod, g0, g1, g5, g6⟩
  unfold f74_l1
  by_cases hlt : t < n
  · have d0 : decide ((t : Int) < (n : Int)) = true := by simpa using hlt
    simp (disch := omega) only [f74_r4, f74_r5, w_skip, w_reg, w_seq, w_cond, w_block, seqK_n, ckB_b, cbB_b, true_and, x_nil, x_mv, x_as, x_bin, kx, rvP_ok, okv_some, ev_t, ev_c, getV_some, putD_some, bin_lss, of0, getK_set, Nat.reduceEqDiff, ↓reduceIte, g0, g6, d0]
    refine W_loop (f74_J h n v E t) (fun j => E.length - j) ?_ 0 ⟨by omega, hGx, d, hd, hod, by simp (disch := omega) only [getK_set, Nat.reduceEqDiff, ↓reduceIte, g0, g1, g5, g6, and_self, Int.natCast_zero]⟩
    clear g0 g1 g5 g6 fr hd hod hGx
    clear d hx
    rintro j fr hx ⟨hj, hGx, d, hd, hod, g0, g1, g5, g6, g7⟩
    have hcx := hGx.hc hc
    have hvx := hv.grow hc hGx
    have hub := hvx.beq
    have hlen := hvx.len
    unfold f74_l0
    by_cases hlt2 : j < E.length
    · have d1 : decide ((j : Int) < (E.length : Int)) = true := by simpa using hlt2
      obtain ⟨ide, q, hp1, _, hp2, hp3⟩ := hvx.at2 hlt2
      obtain ⟨e0, e1, e2⟩ := hE.2.2 E[j] (List.getElem_mem hlt2)
      have hsn : mkR (E.take (j + 1)) (mkN E (oneN n) t) = mk1 (mkR (E.take j) (mkN E (oneN n) t)) E[j] := by
        unfold mkR; rw [List.take_succ_eq_append_getElem hlt2, List.foldl_append]; rfl
      have hlA : (mkR (E.take j) (mkN E (oneN n) t)).length = n := by rw [mkR_len, mkN_len]; simp [oneN]
      generalize mkR (E.take j) (mkN E (oneN n) t) = A at *
      obtain ⟨a, ea⟩ : ∃ a : Nat, E[j].1 = (a : Int) := ⟨E[j].1.toNat, by omega⟩
      obtain ⟨b, eb⟩ : ∃ b : Nat, E[j].2 = (b : Int) := ⟨E[j].2.toNat, by omega⟩
      have ha : a < A.length := by omega
      have hb : b < A.length := by omega
      have hmk : mk1 A E[j] = if (A[a] || A[b]) = true then (A.set a true).set b true else A := by
        unfold mk1
        rw [ea, eb]
        simp only [Int.toNat_natCast, List.getD_eq_getElem?_getD, List.getElem?_eq_getElem ha, List.getElem?_eq_getElem hb, Option.getD_some]
      rw [ea] at hp2
      rw [eb] at hp3
      obtain ⟨pb, wb1, wb2⟩ := hd.at b hb
      obtain ⟨p, hpa, hpb⟩ := hd.at a ha
      obtain ⟨p', id', m', cs', s1, s2, s3, ⟨off', n', sz', s4⟩, s5⟩ := hd.st (i := a) ha (x := true) (c := .b true) rfl rfl hcx
      obtain rfl : p = p' := by have := (hpa .i64 hx).symm.trans (s1 .i64 hx); injection this
      have gP := Grow.put (hod _ _ _ _ s4) s5 (.cells m' cs')
      have hcy := gP.hc hcx
      have hGy := hGx.trans gP
      generalize hx.put id' (.cells m' cs') = hy at *
      obtain ⟨p2, id2, m2, cs2, u1, u2, u3, ⟨off2, n2, sz2, u4⟩, u5⟩ := s3.st (i := b) (by rw [List.length_set]; exact hb) (x := true) (c := .b true) rfl rfl hcy
      have gP2 := Grow.put (hod _ _ _ _ u4) u5 (.cells m2 cs2)
      obtain ⟨bA, hbA⟩ : ∃ x, A[a] = x := ⟨_, rfl⟩
      obtain ⟨bB, hbB⟩ : ∃ x, A[b] = x := ⟨_, rfl⟩
      rw [hbA] at hmk hpb
      rw [hbB] at hmk wb2
      cases bA with
      | true =>
        rw [Bool.true_or, if_pos rfl, ← hsn] at hmk
        rw [← hmk] at u3
        simp (disch := omega) only [f74_r6, f74_r7, f74_r8, w_skip, w_reg, w_draw, w_seq, w_cond, w_block, seqK_n, ckB_b, cbB_b, okG_b, asG_f, true_and, x_nil, x_g, x_mv, x_as, x_pick, x_ld, x_bin, x_iads, x_len, kx, kg, xg_nil, xg_mv, xg_ld, xg_iadr, xg_iads, xd_cons, fresh_nil, stK_n, stK_s, stay_nil, stay_cons, again_ok, stay_mv, beq_i, stay_iads, stay_ld, beq_p, rvP_ok, okv_some, ev_t, ev_c, getV_some, putD_some, bin_lss, pick_b, onP_p, of0, of1, getK_set, Nat.reduceEqDiff, ↓reduceIte, Bool.false_eq_true, Bool.not_true, stay_iadr, ix2_0, ix2_1, g1, g5, g7, hlen, d1, hp1, hp2, hp3, hub, hpa, hpb, Bool.not_true]
        simp (disch := omega) only [f74_r9, f74_r10, f74_r11, w_reg, seqK_n, atK_n, loopK_n, x_nil, x_mv, x_as, x_st, x_bin, x_iads, kx, rvP_ok, okv_some, ev_t, ev_c, getV_some, putD_some, putD_none, bin_add, of1, getK_set, Nat.reduceEqDiff, ↓reduceIte, g5, g7, hpa, s2, u1, u2, fw64]
        exact ⟨j + 1, by omega, by omega, hGy.trans gP2, d, u3, hod, by simp (disch := omega) only [getK_set, Nat.reduceEqDiff, ↓reduceIte, g0, g1, g5, g6, and_self, Int.natCast_add, Int.natCast_one]⟩
      | false =>
      cases bB with
      | true =>
        rw [Bool.false_or, if_pos rfl, ← hsn] at hmk
        rw [← hmk] at u3
        simp (disch := omega) only [f74_r6, f74_r7, f74_r8, w_skip, w_reg, w_draw, w_seq, w_cond, w_block, seqK_n, ckB_b, cbB_b, okG_b, asG_f, true_and, x_nil, x_g, x_mv, x_as, x_pick, x_ld, x_bin, x_iads, x_len, kx, kg, xg_nil, xg_mv, xg_ld, xg_iadr, xg_iads, xd_cons, fresh_nil, stK_n, stK_s, stay_nil, stay_cons, again_ok, stay_mv, beq_i, stay_iads, stay_ld, beq_p, rvP_ok, okv_some, ev_t, ev_c, getV_some, putD_some, bin_lss, pick_b, onP_p, of0, of1, getK_set, Nat.reduceEqDiff, ↓reduceIte, Bool.false_eq_true, Bool.not_false, stay_iadr, ix2_0, ix2_1, g1, g5, g7, hlen, d1, hp1, hp2, hp3, hub, hpa, hpb, wb1, wb2, Bool.not_false]
        simp (disch := omega) only [f74_r9, f74_r10, f74_r11, w_reg, seqK_n, atK_n, loopK_n, x_nil, x_mv, x_as, x_st, x_bin, x_iads, kx, rvP_ok, okv_some, ev_t, ev_c, getV_some, putD_some, putD_none, bin_add, of1, getK_set, Nat.reduceEqDiff, ↓reduceIte, g5, g7, hpa, s2, u1, u2, fw64]
        exact ⟨j + 1, by omega, by omega, hGy.trans gP2, d, u3, hod, by simp (disch := omega) only [getK_set, Nat.reduceEqDiff, ↓reduceIte, g0, g1, g5, g6, and_self, Int.natCast_add, Int.natCast_one]⟩
      | false =>
        rw [Bool.false_or, if_neg (by simp), ← hsn] at hmk
        rw [← hmk] at hd
        simp (disch := omega) only [f74_r6, f74_r7, f74_r8, w_skip, w_reg, w_draw, w_seq, w_cond, w_block, seqK_n, atK_n, ckB_b, cbB_b, okG_b, asG_f, true_and, x_nil, x_g, x_mv, x_as, x_pick, x_ld, x_bin, x_iads, x_len, kx, kg, xg_nil, xg_mv, xg_ld, xg_iadr, xg_iads, xd_cons, fresh_nil, stK_n, stK_s, stay_nil, stay_cons, again_ok, stay_mv, beq_i, stay_iads, stay_ld, beq_p, rvP_ok, okv_some, ev_t, ev_c, getV_some, putD_some, bin_lss, pick_b, onP_p, of0, of1, getK_set, Nat.reduceEqDiff, ↓reduceIte, Bool.false_eq_true, Bool.not_false, stay_iadr, ix2_0, ix2_1, g1, g5, g7, hlen, d1, hp1, hp2, hp3, hub, hpa, hpb, wb1, wb2, Bool.not_false]
        simp (disch := omega) only [f74_r11, loopK_n, x_nil, x_mv, x_as, x_bin, kx, rvP_ok, okv_some, ev_t, ev_c, getV_some, putD_some, bin_add, of1, getK_set, Nat.reduceEqDiff, ↓reduceIte, g7, fw64]
        exact ⟨j + 1, by omega, by omega, hGx, d, hd, hod, by simp (disch := omega) only [getK_set, Nat.reduceEqDiff, ↓reduceIte, g0, g1, g5, g6, and_self, Int.natCast_add, Int.natCast_one]⟩
    · have d1 : decide ((j : Int) < (E.length : Int)) = false := by simpa using hlt2
      have ej : j = E.length := by omega
      rw [ej, List.take_length] at hd
      simp (disch := omega) only [f74_r6, f74_r12, w_reg, w_seq, w_cond, w_exit, seqK_n, seqK_e, atK_n, atK_e, loopK_n, loopK_e, ckB_b, cbB_b, true_and, x_nil, x_mv, x_as, x_bin, x_len, kx, rvP_ok, okv_some, ev_t, ev_c, getV_some, putD_some, bin_add, bin_lss, of1, getK_set, Nat.reduceEqDiff, ↓reduceIte, Bool.false_eq_true, g1, g6, g7, hlen, d1, fw64]
      exact ⟨t + 1, by omega, by omega, hGx, d, hd, hod, by simp (disch := omega) only [getK_set, Nat.reduceEqDiff, ↓reduceIte, g0, g1, g5, and_self, Int.natCast_add, Int.natCast_one]⟩
  · have d0 : decide ((t : Int) < (n : Int)) = false := by simpa using hlt
    have et : t = n := by omega
    rw [et] at hd
    have hlA : (mkN E (oneN n) n).length = n := by rw [mkN_len]; simp [oneN]
    have hcon := con_of hE
    generalize mkN E (oneN n) n = A at *
    simp (disch := omega) only [f74_r4, f74_r13, w_reg, w_seq, w_cond, w_block, w_exit, seqK_n, seqK_e, atK_e, loopK_e, ckB_b, cbB_b, true_and, x_nil, x_mv, x_as, x_bin, kx, rvP_ok, okv_some, ev_t, ev_c, getV_some, putD_some, bin_lss, of0, getK_set, Nat.reduceEqDiff, ↓reduceIte, Bool.false_eq_true, g0, g6, d0]
    refine W_loop (f74_V hx n d A) (fun i => n - i) ?_ 0 ⟨by omega, rfl, fun x _ hx => absurd hx (by omega), by simp (disch := omega) only [getK_set, Nat.reduceEqDiff, ↓reduceIte, g0, g5, and_self, Int.natCast_zero]⟩
    clear g0 g1 g5 g6 fr
    rintro i fr hz ⟨hi, rfl, hall, g0, g5, g10⟩
    unfold f74_l2
    by_cases hlt3 : i < n
    · have d1 : decide ((i : Int) < (n : Int)) = true := by simpa using hlt3
      have hiA : i < A.length := by omega
      obtain ⟨p, hpa, hpb⟩ := hd.at i hiA
      obtain ⟨bA, hbA⟩ : ∃ x, A[i] = x := ⟨_, rfl⟩
      rw [hbA] at hpb
      cases bA with
      | true =>
        simp (disch := omega) only [f74_r14, f74_r15, f74_r17, w_skip, w_reg, w_seq, w_cond, w_block, seqK_n, atK_n, loopK_n, ckB_b, cbB_b, true_and, x_nil, x_mv, x_as, x_ld, x_bin, x_not, x_iads, kx, rvP_ok, okv_some, ev_t, ev_c, getV_some, putD_some, bin_add, bin_lss, onB_b, of1, getK_set, Nat.reduceEqDiff, ↓reduceIte, Bool.false_eq_true, Bool.not_true, g0, g5, g10, d1, hpa, hpb, Bool.not_true, fw64]
        refine ⟨i + 1, by omega, by omega, rfl, fun x hx1 hx2 => ?_, by simp (disch := omega) only [getK_set, Nat.reduceEqDiff, ↓reduceIte, g0, g5, and_self, Int.natCast_add, Int.natCast_one]⟩
        rcases Nat.lt_or_eq_of_le (Nat.le_of_lt_succ hx2) with h | h
        · exact hall x hx1 h
        · subst h; exact hbA
      | false =>
        have hm : false ∈ A := List.mem_iff_getElem.2 ⟨i, hiA, hbA⟩
        rw [decide_eq_true hm] at hcon
        simp (disch := omega) only [f74_r14, f74_r15, f74_r16, f74_rs, w_skip, w_reg, w_seq, w_cond, w_block, w_ret, seqK_n, seqK_r, atK_r, loopK_r, ckB_b, cbB_b, true_and, retK_r, x_nil, x_mv, x_as, x_ld, x_bin, x_not, x_iads, kx, rvP_ok, okv_some, ev_t, ev_c, getV_some, putD_some, bin_lss, onB_b, oGet_s, readRs_nil, readRs_t, retV_1, Option.some.injEq, exists_eq_left', getK_set, Nat.reduceEqDiff, ↓reduceIte, Bool.not_true, Bool.not_false, g0, g5, g10, d1, hpa, hpb, hcon, Bool.not_false, Bool.not_true, true_and]
        exact hGx
    · have d1 : decide ((i : Int) < (n : Int)) = false := by simpa using hlt3
      have hm : false ∉ A := fun hm => by
        obtain ⟨x, hx, hxe⟩ := List.mem_iff_getElem.1 hm
        rw [hall x hx (by omega)] at hxe; cases hxe
      rw [decide_eq_false hm] at hcon
      simp (disch := omega) only [f74_r14, f74_r18, f74_rs, w_reg, w_seq, w_cond, w_exit, w_ret, seqK_n, seqK_e, atK_e, loopK_e, ckB_b, cbB_b, true_and, retK_r, x_nil, x_mv, x_as, x_bin, kx, rvP_ok, okv_some, ev_t, ev_c, getV_some, putD_some, bin_lss, oGet_s, readRs_nil, readRs_t, retV_1, Option.some.injEq, exists_eq_left', getK_set, Nat.reduceEqDiff, ↓reduceIte, Bool.false_eq_true, Bool.not_false, g0, g10, d1, hcon, Bool.not_false, true_and]
      exact hGx
end
end Go.Ev
namespace Go.Ev
open Go Go.RowKit
noncomputable def f40_r0 : List EOper := [⟨(some (K.ofNat 4)), none, .as (.c (.b false))⟩]
noncomputable def f40_r1 : List EOper := [⟨(some (K.ofNat 10)), none, .mv (.t (K.ofNat 0))⟩, ⟨(some (K.ofNat 11)), none, .mkslice 1 [(.b false)] (.t (K.ofNat 10))⟩, ⟨(some (K.ofNat 5)), none, .as (.t (K.ofNat 11))⟩]
noncomputable def f40_r2 : List EOper := [⟨(some (K.ofNat 6)), none, .as (.c (.i .i64 (.ofNat 0)))⟩]
noncomputable def f40_r3 : List EOper := [⟨(some (K.ofNat 12)), none, .mv (.t (K.ofNat 6))⟩, ⟨(some (K.ofNat 13)), none, .mv (.t (K.ofNat 0))⟩, ⟨(some (K.ofNat 14)), none, .bin .lss (.t (K.ofNat 12)) (.t (K.ofNat 13))⟩]
noncomputable def f40_r4 : List EOper := [⟨(some (K.ofNat 17)), none, .mv (.t (K.ofNat 5))⟩, ⟨(some (K.ofNat 18)), none, .mv (.t (K.ofNat 6))⟩, ⟨(some (K.ofNat 19)), none, .iads 1 (.t (K.ofNat 17)) (.t (K.ofNat 18))⟩, ⟨none, none, .st 1 (.t (K.ofNat 19)) (.c (.b true))⟩]
noncomputable def f40_r5 : List EOper := [⟨(some (K.ofNat 15)), none, .mv (.t (K.ofNat 6))⟩, ⟨(some (K.ofNat 16)), none, .bin .add (.t (K.ofNat 15)) (.c (.i .i64 (.ofNat 1)))⟩, ⟨(some (K.ofNat 6)), none, .as (.t (K.ofNat 16))⟩]
noncomputable def f40_l0 : EC := (.seq (.seq (.reg f40_r3) (.cond (.t (K.ofNat 14)) .skip (.exit 0))) (.seq (.block 1 (.reg f40_r4)) (.reg f40_r5)))
noncomputable def f40_r6 : List EOper := [⟨(some (K.ofNat 20)), none, .mv (.t (K.ofNat 0))⟩, ⟨(some (K.ofNat 21)), none, .mv (.t (K.ofNat 1))⟩, ⟨(some (K.ofNat 22)), none, .mv (.t (K.ofNat 5))⟩, ⟨(some (K.ofNat 23)), none, .call (.c (.fn (K.ofNat 73) [])) [(.t (K.ofNat 20)), (.t (K.ofNat 21)), (.t (K.ofNat 22))]⟩, ⟨(some (K.ofNat 7)), none, .as (.t (K.ofNat 23))⟩]
noncomputable def f40_r7 : List EOper := [⟨(some (K.ofNat 8)), none, .as (.c (.i .i64 (.ofNat 0)))⟩]
noncomputable def f40_r8 : List EOper := [⟨(some (K.ofNat 24)), none, .mv (.t (K.ofNat 8))⟩, ⟨(some (K.ofNat 25)), none, .mv (.t (K.ofNat 0))⟩, ⟨(some (K.ofNat 26)), none, .bin .lss (.t (K.ofNat 24)) (.t (K.ofNat 25))⟩]
noncomputable def f40_r9 : List EOper := [⟨(some (K.ofNat 29)), none, .mv (.t (K.ofNat 5))⟩, ⟨(some (K.ofNat 30)), none, .mv (.t (K.ofNat 8))⟩, ⟨(some (K.ofNat 31)), none, .mv (.t (K.ofNat 7))⟩, ⟨(some (K.ofNat 32)), none, .mv (.t (K.ofNat 8))⟩, ⟨(some (K.ofNat 33)), none, .iads 1 (.t (K.ofNat 31)) (.t (K.ofNat 32))⟩, ⟨(some (K.ofNat 34)), none, .ld (.t (K.ofNat 33))⟩, ⟨(some (K.ofNat 35)), none, .bin .gtr (.t (K.ofNat 34)) (.c (.i .i64 (.ofNat 1)))⟩, ⟨(some (K.ofNat 36)), none, .iads 1 (.t (K.ofNat 29)) (.t (K.ofNat 30))⟩, ⟨none, none, .st 1 (.t (K.ofNat 36)) (.t (K.ofNat 35))⟩]
noncomputable def f40_r10 : List EOper := [⟨(some (K.ofNat 27)), none, .mv (.t (K.ofNat 8))⟩, ⟨(some (K.ofNat 28)), none, .bin .add (.t (K.ofNat 27)) (.c (.i .i64 (.ofNat 1)))⟩, ⟨(some (K.ofNat 8)), none, .as (.t (K.ofNat 28))⟩]
noncomputable def f40_l1 : EC := (.seq (.seq (.reg f40_r8) (.cond (.t (K.ofNat 26)) .skip (.exit 2))) (.seq (.block 3 (.reg f40_r9)) (.reg f40_r10)))
noncomputable def f40_r11 : List EOper := [⟨(some (K.ofNat 37)), none, .mv (.t (K.ofNat 0))⟩, ⟨(some (K.ofNat 38)), none, .mv (.t (K.ofNat 1))⟩, ⟨(some (K.ofNat 39)), none, .mv (.t (K.ofNat 5))⟩, ⟨(some (K.ofNat 40)), none, .call (.c (.fn (K.ofNat 73) [])) [(.t (K.ofNat 37)), (.t (K.ofNat 38)), (.t (K.ofNat 39))]⟩, ⟨(some (K.ofNat 7)), none, .as (.t (K.ofNat 40))⟩]
noncomputable def f40_r12 : List EOper := [⟨(some (K.ofNat 9)), none, .as (.c (.i .i64 (.ofNat 0)))⟩]
noncomputable def f40_r13 : List EOper := [⟨(some (K.ofNat 41)), none, .mv (.t (K.ofNat 9))⟩, ⟨(some (K.ofNat 42)), none, .mv (.t (K.ofNat 0))⟩, ⟨(some (K.ofNat 43)), none, .bin .lss (.t (K.ofNat 41)) (.t (K.ofNat 42))⟩]
noncomputable def f40_r14 : List EOper := [⟨(some (K.ofNat 46)), none, .mv (.t (K.ofNat 7))⟩, ⟨(some (K.ofNat 47)), none, .mv (.t (K.ofNat 9))⟩, ⟨(some (K.ofNat 48)), none, .iads 1 (.t (K.ofNat 46)) (.t (K.ofNat 47))⟩, ⟨(some (K.ofNat 49)), none, .ld (.t (K.ofNat 48))⟩, ⟨(some (K.ofNat 50)), none, .bin .gtr (.t (K.ofNat 49)) (.c (.i .i64 (.ofNat 2)))⟩]
noncomputable def f40_r15 : List EOper := [⟨(some (K.ofNat 4)), none, .as (.c (.b false))⟩]
noncomputable def f40_r16 : List EOper := [⟨(some (K.ofNat 44)), none, .mv (.t (K.ofNat 9))⟩, ⟨(some (K.ofNat 45)), none, .bin .add (.t (K.ofNat 44)) (.c (.i .i64 (.ofNat 1)))⟩, ⟨(some (K.ofNat 9)), none, .as (.t (K.ofNat 45))⟩]
noncomputable def f40_l2 : EC := (.seq (.seq (.reg f40_r13) (.cond (.t (K.ofNat 43)) .skip (.exit 4))) (.seq (.block 5 (.seq (.reg f40_r14) (.cond (.t (K.ofNat 50)) (.seq (.reg f40_r15) .ret) .skip))) (.reg f40_r16)))
noncomputable def f40_r17 : List EOper := [⟨(some (K.ofNat 51)), none, .mv (.t (K.ofNat 1))⟩, ⟨(some (K.ofNat 52)), none, .len (.t (K.ofNat 51))⟩, ⟨(some (K.ofNat 53)), none, .mv (.t (K.ofNat 0))⟩, ⟨(some (K.ofNat 54)), none, .bin .sub (.t (K.ofNat 53)) (.c (.i .i64 (.ofNat 1)))⟩, ⟨(some (K.ofNat 55)), none, .bin .eql (.t (K.ofNat 52)) (.t (K.ofNat 54))⟩, ⟨(some (K.ofNat 56)), none, .mv (.t (K.ofNat 55))⟩, ⟨(some (K.ofNat 57)), (some ((K.ofNat 56), true)), .mv (.t (K.ofNat 0))⟩, ⟨(some (K.ofNat 58)), (some ((K.ofNat 56), true)), .mv (.t (K.ofNat 1))⟩, ⟨(some (K.ofNat 59)), (some ((K.ofNat 56), true)), .call (.c (.fn (K.ofNat 74) [])) [(.t (K.ofNat 57)), (.t (K.ofNat 58))]⟩, ⟨(some (K.ofNat 60)), none, .pick (.t (K.ofNat 56)) (.t (K.ofNat 59)) (.c (.b false))⟩, ⟨(some (K.ofNat 4)), none, .as (.t (K.ofNat 60))⟩]
noncomputable def f40_c : EC := (.seq (.reg f40_r0) (.seq (.reg f40_r1) (.seq (.seq (.reg f40_r2) (.block 0 (.loop f40_l0))) (.seq (.reg f40_r6) (.seq (.seq (.reg f40_r7) (.block 2 (.loop f40_l1))) (.seq (.reg f40_r11) (.seq (.seq (.reg f40_r12) (.block 4 (.loop f40_l2))) (.seq (.reg f40_r17) .ret))))))))
noncomputable def f40 : EF := ⟨61, [.tmp (K.ofNat 4)], f40_c, none⟩
theorem f40_rs : f40.rs = [.tmp (K.ofNat 4)] := of_eq_true (eq_self _)
section
variable {n : Nat} {E : List (Int × Int)}
theorem dg_out {F : List (Int × Int)} {v : Nat} : (∀ e ∈ F, e.1.toNat ≠ v ∧ e.2.toNat ≠ v) → dgE F v = 0 := by
  induction F with
  | nil => intro _; rfl
  | cons e F ih =>
    intro h
    obtain ⟨h1, h2⟩ := h e (by simp)
    rw [dgE_cons, ih fun e he => h e (by simp [he])]
    unfold dg1
    rw [if_neg fun e => h1 e.symm, if_neg fun e => h2 e.symm]; rfl
theorem mx_iff {F : List (Int × Int)} (hn : n ≤ 7) (hF : ∀ e ∈ F, e.1.toNat < n ∧ e.2.toNat < n) : maxL 0 (dgL 7 F) ≤ 2 ↔ ∀ v, v < n → dgE F v ≤ 2 := by
  rw [maxL_le]
  constructor
  · rintro ⟨_, h⟩ v hv
    exact h _ (List.mem_iff_getElem.2 ⟨v, by rw [dgL_len]; omega, dgL_at _⟩)
  · refine fun h => ⟨by omega, fun y hy => ?_⟩
    obtain ⟨v, hv, rfl⟩ := List.getElem_of_mem hy
    rw [dgL_at]
    by_cases hvn : v < n
    · exact h v hvn
    · rw [dg_out fun e he => by have := hF e he; omega]; omega
theorem fl_all {I : List Bool} (hI : I.length = n) (hE : EdgesOk n E) (h : ∀ x (hx : x < I.length), I[x] = true) : flI I E = E := by
  unfold flI
  refine List.filter_eq_self.2 fun e he => ?_
  have := hE.2.2 e he
  unfold bnB
  rw [List.getD_eq_getElem?_getD, List.getD_eq_getElem?_getD, List.getElem?_eq_getElem (by omega), List.getElem?_eq_getElem (by omega)]
  simp only [Option.getD_some]
  rw [h, h]; rfl
theorem fl_in {I : List Bool} (hI : I.length = n) (hE : EdgesOk n E) (h : ∀ x (hx : x < I.length), I[x] = decide (1 < dgE E x)) : flI I E = inE E := by
  unfold flI inE inE'
  refine List.filter_congr fun e he => ?_
  have := hE.2.2 e he
  unfold bnB inP
  rw [List.getD_eq_getElem?_getD, List.getD_eq_getElem?_getD, List.getElem?_eq_getElem (by omega), List.getElem?_eq_getElem (by omega)]
  simp only [Option.getD_some]
  rw [h, h]
end
structure CallsRc (fs : T EF) : Prop where
  c73 : fs.get (K.ofNat 73) = some f73
  c74 : fs.get (K.ofNat 74) = some f74
section
variable {fs : T EF} {h : H} {v : V} {n : Nat} {E : List (Int × Int)}
def f40_A (h : H) (n : Nat) (v : V) (i : Nat) (fr : Fr) (h1 : H) : Prop := i ≤ n ∧ Grow h.nx.nat h h1 ∧ ∃ w I, Sl V.b h1 w I ∧ I.length = n ∧ Own h.nx.nat w ∧ (∀ x (hx : x < I.length), x < i → I[x] = true) ∧ fr.get (K.ofNat 0) = some (.i .i64 (n : Int)) ∧ fr.get (K.ofNat 1) = some (v) ∧ fr.get (K.ofNat 5) = some (w) ∧ fr.get (K.ofNat 6) = some (.i .i64 (i : Int))
def f40_B (h hb : H) (n : Nat) (v w : V) (E : List (Int × Int)) (i : Nat) (fr : Fr) (h1 : H) : Prop := i ≤ n ∧ Grow h.nx.nat h h1 ∧ hb.nx.nat ≤ h1.nx.nat ∧ ∃ I d, Sl V.b h1 w I ∧ I.length = n ∧ Sl iE h1 d (dgL n E) ∧ Own hb.nx.nat d ∧ (∀ x (hx : x < I.length), x < i → I[x] = decide (1 < dgE E x)) ∧ fr.get (K.ofNat 0) = some (.i .i64 (n : Int)) ∧ fr.get (K.ofNat 1) = some (v) ∧ fr.get (K.ofNat 5) = some (w) ∧ fr.get (K.ofNat 7) = some (d) ∧ fr.get (K.ofNat 8) = some (.i .i64 (i : Int))
def f40_C (hb : H) (n : Nat) (v d : V) (E : List (Int × Int)) (i : Nat) (fr : Fr) (h1 : H) : Prop := i ≤ n ∧ h1 = hb ∧ (∀ x, x < i → dgE (inE E) x ≤ 2) ∧ fr.get (K.ofNat 0) = some (.i .i64 (n : Int)) ∧ fr.get (K.ofNat 1) = some (v) ∧ fr.get (K.ofNat 7) = some (d) ∧ fr.get (K.ofNat 9) = some (.i .i64 (i : Int))
theorem f40_ret (k : CallsRc fs) (h1n : 1 ≤ n) (hv : Srp h v E) (hc : HC h) (hE : EdgesOk n E) : Ret fs f40 [.i .i64 (n : Int), v] h fun r h' => r = .b (catB n E) ∧ Grow h.nx.nat h h' := by
  have hE10 := hE.1
  have hn7 := hE.2.1
  apply ret_of rfl
  show W fs none f40_c _ _ _
  unfold f40_c
  have hmk := mks_b (h := h) (k := .i64) (n := n) (by omega)
  have hsl0 := mksb_sl (h := h) (n := n)
  have gD := Grow.new (Nat.le_refl h.nx.nat) (.cells (n * 1) (rep [.b false] n))
  generalize h.new (.cells (n * 1) (rep [.b false] n)) = h0 at *
  have hod0 : Own h.nx.nat (.sl h.nx 0 n 1) := fun _ _ _ _ e => by cases e; exact Nat.le_refl _
  simp (disch := omega) only [f40_r0, f40_r1, f40_r2, w_reg, w_seq, w_block, seqK_n, x_nil, x_mv, x_as, x_mks, kx, rvP_ok, ev_t, ev_c, getV_some, putD_some, frame_2, of0, getK_set, Nat.reduceEqDiff, ↓reduceIte, hmk]
  refine W_loop (f40_A h n v) (fun i => n - i) ?_ 0 ⟨by omega, gD, .sl h.nx 0 n 1, _, hsl0, by simp, hod0, fun x _ hx => absurd hx (by omega), by simp (disch := omega) only [getK_set, Nat.reduceEqDiff, ↓reduceIte, and_self, Int.natCast_zero]⟩
  clear hmk hsl0 gD hod0
  clear h0
  rintro i fr hx ⟨hi, hGx, w, I, hw, hI, how, hall, g0, g1, g5, g6⟩
  have hcx := hGx.hc hc
  unfold f40_l0
  by_cases hlt : i < n
  · have d0 : decide ((i : Int) < (n : Int)) = true := by simpa using hlt
    obtain ⟨p', id', m', cs', s1, s2, s3, ⟨off', n', sz', s4⟩, s5⟩ := hw.st (i := i) (by omega) (x := true) (c := .b true) rfl rfl hcx
    have gP := Grow.put (how _ _ _ _ s4) s5 (.cells m' cs')
    simp (disch := omega) only [f40_r3, f40_r4, f40_r5, w_skip, w_reg, w_seq, w_cond, w_block, seqK_n, atK_n, loopK_n, ckB_b, cbB_b, true_and, x_nil, x_mv, x_as, x_st, x_bin, x_iads, kx, rvP_ok, okv_some, ev_t, ev_c, getV_some, putD_some, putD_none, bin_add, bin_lss, of1, getK_set, Nat.reduceEqDiff, ↓reduceIte, g0, g5, g6, d0, s1, s2, fw64]
    refine ⟨i + 1, by omega, by omega, hGx.trans gP, w, _, s3, by simpa using hI, how, fun x hx1 hx2 => ?_, by simp (disch := omega) only [getK_set, Nat.reduceEqDiff, ↓reduceIte, g0, g1, g5, and_self, Int.natCast_add, Int.natCast_one]⟩
    rw [List.getElem_set]
    split
    · rfl
    · exact hall x (by simpa using hx1) (by omega)
  · have d0 : decide ((i : Int) < (n : Int)) = false := by simpa using hlt
    have hfl := fl_all hI hE fun x hx => hall x hx (by omega)
    simp (disch := omega) only [f40_r3, f40_r6, w_reg, w_seq, w_cond, w_exit, seqK_n, seqK_e, atK_e, loopK_e, ckB_b, cbB_b, true_and, x_nil, x_mv, x_bin, x_call, kx, rvP_ok, okv_some, ev_t, ev_c, evs_nil, evs_cons, getV_some, putD_some, bin_lss, getK_set, Nat.reduceEqDiff, ↓reduceIte, Bool.false_eq_true, g0, g1, g5, g6, d0]
    refine (callP_0 (ef := f73) k.c73 rfl (f73_ret (hv.grow hc hGx) hw.sr hI hcx hE)).mono ?_
    rintro d h2 ⟨hd, hod, hG2⟩
    rw [hfl] at hd
    have hw2 := hw.grow hcx hG2
    simp (disch := omega) only [f40_r7, w_reg, w_seq, w_block, seqK_n, x_nil, x_as, kx, ev_t, ev_c, getV_some, putD_some, of0, getK_set, ↓reduceIte]
    refine W_loop (f40_B h hx n v w E) (fun i => n - i) ?_ 0 ⟨by omega, hGx.trans (hG2.low hGx.nx), hG2.nx, I, d, hw2, hI, hd, hod, fun x _ hx => absurd hx (by omega), by simp (disch := omega) only [getK_set, Nat.reduceEqDiff, ↓reduceIte, g0, g1, g5, and_self, Int.natCast_zero]⟩
    have hwlt := hw.lt hcx
    clear hfl hw hall g0 g1 g5 g6 fr hd hod hG2 hw2 hI
    clear d h2 I
    rintro i fr h2 ⟨hi, hG2, hnx2, I, d, hw, hI, hd, hod, hall, g0, g1, g5, g7, g8⟩
    have hc2 := hG2.hc hc
    unfold f40_l1
    by_cases hlt2 : i < n
    · have d1 : decide ((i : Int) < (n : Int)) = true := by simpa using hlt2
      obtain ⟨q, hq1, hq2⟩ := hd.at i (by rw [dgL_len]; exact hlt2)
      rw [dgL_at] at hq2
      obtain ⟨p', id', m', cs', s1, s2, s3, ⟨off', n', sz', s4⟩, s5⟩ := hw.st (i := i) (by omega) (x := decide (1 < dgE E i)) (c := .b (decide (1 < dgE E i))) rfl rfl hc2
      have hidlt := hwlt _ _ _ _ s4
      have gP := Grow.put (how _ _ _ _ s4) s5 (.cells m' cs')
      have hd' : Sl iE (h2.put id' (.cells m' cs')) d (dgL n E) := hd.same fun id off n sz e => get_put_other (kNe (Nat.lt_of_lt_of_le hidlt (hod _ _ _ _ e))).symm
      simp (disch := omega) only [f40_r8, f40_r9, f40_r10, w_skip, w_reg, w_seq, w_cond, w_block, seqK_n, atK_n, loopK_n, ckB_b, cbB_b, true_and, x_nil, x_mv, x_as, x_ld, x_st, x_bin, x_iads, kx, rvP_ok, okv_some, ev_t, ev_c, getV_some, putD_some, putD_none, bin_add, bin_lss, bin_gtr, of1, getK_set, Nat.reduceEqDiff, ↓reduceIte, g0, g5, g7, g8, d1, hq1, hq2, s1, s2, iE, fw64]
      refine ⟨i + 1, by omega, by omega, hG2.trans gP, hnx2, _, d, s3, by simpa using hI, hd', hod, fun x hx1 hx2 => ?_, by simp (disch := omega) only [getK_set, Nat.reduceEqDiff, ↓reduceIte, g0, g1, g5, g7, and_self, Int.natCast_add, Int.natCast_one]⟩
      rw [List.getElem_set]
      split
      · rename_i e; subst e; rfl
      · exact hall x (by simpa using hx1) (by omega)
    · have d1 : decide ((i : Int) < (n : Int)) = false := by simpa using hlt2
      have hfl := fl_in hI hE fun x hx => hall x hx (by omega)
      simp (disch := omega) only [f40_r8, f40_r11, w_reg, w_seq, w_cond, w_exit, seqK_n, seqK_e, atK_e, loopK_e, ckB_b, cbB_b, true_and, x_nil, x_mv, x_bin, x_call, kx, rvP_ok, okv_some, ev_t, ev_c, evs_nil, evs_cons, getV_some, putD_some, bin_lss, getK_set, Nat.reduceEqDiff, ↓reduceIte, Bool.false_eq_true, g0, g1, g5, g8, d1]
      refine (callP_0 (ef := f73) k.c73 rfl (f73_ret (hv.grow hc hG2) hw.sr hI hc2 hE)).mono ?_
      rintro d2 h3 ⟨hd3, _, hG3⟩
      rw [hfl] at hd3
      have hGa := hG2.trans (hG3.low hG2.nx)
      have hc3 := hGa.hc hc
      have hmx := mx_iff (n := n) (F := inE E) hn7 fun e he => by have := hE.2.2 e (List.mem_filter.1 he).1; omega
      simp (disch := omega) only [f40_r12, w_reg, w_seq, w_block, seqK_n, x_nil, x_as, kx, ev_t, ev_c, getV_some, putD_some, of0, getK_set, ↓reduceIte]
      refine W_loop (f40_C h3 n v d2 E) (fun i => n - i) ?_ 0 ⟨by omega, rfl, fun x hx => absurd hx (by omega), by simp (disch := omega) only [getK_set, Nat.reduceEqDiff, ↓reduceIte, g0, g1, and_self, Int.natCast_zero]⟩
      clear g0 g1 g5 g7 g8 fr
      rintro i fr h4 ⟨hi, rfl, hall, g0, g1, g7, g9⟩
      unfold f40_l2
      by_cases hlt3 : i < n
      · have d2 : decide ((i : Int) < (n : Int)) = true := by simpa using hlt3
        obtain ⟨q, hq1, hq2⟩ := hd3.at i (by rw [dgL_len]; exact hlt3)
        rw [dgL_at] at hq2
        by_cases h2 : 2 < dgE (inE E) i
        · have d3 : decide (2 < dgE (inE E) i) = true := by simpa using h2
          have hno : decide (maxL 0 (dgL 7 (inE E)) ≤ 2) = false := by
            rw [decide_eq_false_iff_not, hmx]
            intro hh
            have := hh i hlt3
            omega
          have hcat : catB n E = false := by unfold catB; rw [hno, Bool.and_false, Bool.and_false]
          simp (disch := omega) only [f40_r13, f40_r14, f40_r15, f40_rs, w_skip, w_reg, w_seq, w_cond, w_block, w_ret, seqK_n, seqK_r, atK_r, loopK_r, ckB_b, cbB_b, true_and, retK_r, x_nil, x_mv, x_as, x_ld, x_bin, x_iads, kx, rvP_ok, okv_some, ev_t, ev_c, getV_some, putD_some, bin_lss, bin_gtr, oGet_s, readRs_nil, readRs_t, retV_1, of2, Option.some.injEq, exists_eq_left', getK_set, Nat.reduceEqDiff, ↓reduceIte, g0, g7, g9, d2, d3, hq1, hq2, iE, hcat, true_and]
          exact hGa
        · have d3 : decide (2 < dgE (inE E) i) = false := by simpa using h2
          simp (disch := omega) only [f40_r13, f40_r14, f40_r16, w_skip, w_reg, w_seq, w_cond, w_block, seqK_n, atK_n, loopK_n, ckB_b, cbB_b, true_and, x_nil, x_mv, x_as, x_ld, x_bin, x_iads, kx, rvP_ok, okv_some, ev_t, ev_c, getV_some, putD_some, bin_add, bin_lss, bin_gtr, of1, of2, getK_set, Nat.reduceEqDiff, ↓reduceIte, Bool.false_eq_true, g0, g7, g9, d2, d3, hq1, hq2, iE, fw64]
          refine ⟨i + 1, by omega, by omega, rfl, fun x hx => ?_, by simp (disch := omega) only [getK_set, Nat.reduceEqDiff, ↓reduceIte, g0, g1, g7, and_self, Int.natCast_add, Int.natCast_one]⟩
          rcases Nat.lt_or_eq_of_le (Nat.le_of_lt_succ hx) with h | h
          · exact hall x h
          · subst h; omega
      · have d2 : decide ((i : Int) < (n : Int)) = false := by simpa using hlt3
        have hyes : decide (maxL 0 (dgL 7 (inE E)) ≤ 2) = true := by
          rw [decide_eq_true_iff, hmx]
          exact fun v hv => hall v (by omega)
        have hv4 := hv.grow hc hGa
        have hlen := hv4.len
        have hcat : catB n E = (decide (E.length + 1 = n) && conB n E) := by unfold catB; rw [hyes, Bool.and_true]
        cases hl : decide (E.length + 1 = n) with
        | true =>
          rw [hl, Bool.true_and] at hcat
          have hl : E.length + 1 = n := by simpa using hl
          have d4 : decide ((E.length : Int) = (n : Int) - 1) = true := by simp; omega
          simp (disch := omega) only [f40_r13, f40_r17, w_reg, w_seq, w_cond, w_exit, seqK_n, seqK_e, atK_e, loopK_e, ckB_b, cbB_b, okG_b, asG_t, true_and, x_nil, x_g, x_mv, x_bin, x_call, x_len, kx, rvP_ok, okv_some, ev_t, ev_c, evs_nil, evs_cons, getV_some, putD_some, bin_sub, bin_eql, bin_lss, of1, getK_set, Nat.reduceEqDiff, ↓reduceIte, Bool.false_eq_true, g0, g1, g9, d2, d4, hlen, fw64]
          refine (callP_0 (ef := f74) k.c74 rfl (f74_ret h1n hv4 hc3 hE)).mono ?_
          rintro r h5 ⟨rfl, hG5⟩
          simp (disch := omega) only [f40_rs, w_ret, seqK_n, true_and, retK_r, x_nil, x_as, x_pick, kx, rvP_ok, ev_t, ev_c, getV_some, putD_some, pick_b, oGet_s, readRs_nil, readRs_t, retV_1, Option.some.injEq, exists_eq_left', getK_set, Nat.reduceEqDiff, ↓reduceIte, hcat, true_and]
          exact hGa.trans (hG5.low hGa.nx)
        | false =>
          rw [hl, Bool.false_and] at hcat
          have hl : ¬ E.length + 1 = n := by simpa using hl
          have d4 : decide ((E.length : Int) = (n : Int) - 1) = false := by simp; omega
          simp (disch := omega) only [f40_r13, f40_r17, f40_rs, w_reg, w_seq, w_cond, w_exit, w_ret, seqK_n, seqK_e, atK_e, loopK_e, ckB_b, cbB_b, okG_b, asG_t, true_and, retK_r, x_nil, x_g, x_mv, x_as, x_pick, x_bin, x_len, kx, rvP_ok, okv_some, ev_t, ev_c, getV_some, putD_some, bin_sub, bin_eql, bin_lss, pick_b, oGet_s, readRs_nil, readRs_t, retV_1, of1, Option.some.injEq, exists_eq_left', getK_set, Nat.reduceEqDiff, ↓reduceIte, Bool.false_eq_true, g0, g1, g9, d2, d4, hlen, fw64, hcat, true_and]
          exact hGa
end
end Go.Ev
namespace Go.Ev
open Go Go.RowKit
noncomputable def f41_r0 : List EOper := [⟨(some (K.ofNat 4)), none, .as (.c (.i .i64 (.ofNat 0)))⟩, ⟨(some (K.ofNat 5)), none, .as (.c .sn)⟩]
noncomputable def f41_r1 : List EOper := [⟨(some (K.ofNat 10)), none, .mv (.t (K.ofNat 0))⟩, ⟨(some (K.ofNat 11)), none, .conv .u64 (.t (K.ofNat 10))⟩, ⟨(some (K.ofNat 12)), none, .bin .rem (.t (K.ofNat 11)) (.c (.i .u64 (.ofNat 6)))⟩, ⟨(some (K.ofNat 13)), none, .conv .i64 (.t (K.ofNat 12))⟩, ⟨(some (K.ofNat 14)), none, .bin .add (.c (.i .i64 (.ofNat 2))) (.t (K.ofNat 13))⟩, ⟨(some (K.ofNat 0)), none, .as (.t (K.ofNat 14))⟩]
noncomputable def f41_r2 : List EOper := [⟨(some (K.ofNat 6)), none, .as (.c .sn)⟩]
noncomputable def f41_r3 : List EOper := [⟨(some (K.ofNat 7)), none, .as (.c (.i .i64 (.ofNat 0)))⟩]
noncomputable def f41_r4 : List EOper := [⟨(some (K.ofNat 15)), none, .mv (.t (K.ofNat 7))⟩, ⟨(some (K.ofNat 16)), none, .mv (.t (K.ofNat 0))⟩, ⟨(some (K.ofNat 17)), none, .bin .lss (.t (K.ofNat 15)) (.t (K.ofNat 16))⟩]
noncomputable def f41_r5 : List EOper := [⟨(some (K.ofNat 20)), none, .mv (.t (K.ofNat 7))⟩, ⟨(some (K.ofNat 21)), none, .bin .add (.t (K.ofNat 20)) (.c (.i .i64 (.ofNat 1)))⟩, ⟨(some (K.ofNat 8)), none, .as (.t (K.ofNat 21))⟩]
noncomputable def f41_r6 : List EOper := [⟨(some (K.ofNat 22)), none, .mv (.t (K.ofNat 8))⟩, ⟨(some (K.ofNat 23)), none, .mv (.t (K.ofNat 0))⟩, ⟨(some (K.ofNat 24)), none, .bin .lss (.t (K.ofNat 22)) (.t (K.ofNat 23))⟩]
noncomputable def f41_r7 : List EOper := [⟨(some (K.ofNat 27)), none, .mv (.t (K.ofNat 8))⟩, ⟨(some (K.ofNat 28)), none, .bin .sub (.t (K.ofNat 27)) (.c (.i .i64 (.ofNat 1)))⟩, ⟨(some (K.ofNat 9)), none, .as (.t (K.ofNat 28))⟩]
noncomputable def f41_r8 : List EOper := [⟨(some (K.ofNat 29)), none, .mv (.t (K.ofNat 8))⟩, ⟨(some (K.ofNat 30)), none, .bin .sub (.t (K.ofNat 29)) (.c (.i .i64 (.ofNat 1)))⟩, ⟨(some (K.ofNat 31)), none, .mv (.t (K.ofNat 1))⟩, ⟨(some (K.ofNat 32)), none, .len (.t (K.ofNat 31))⟩, ⟨(some (K.ofNat 33)), none, .bin .lss (.t (K.ofNat 30)) (.t (K.ofNat 32))⟩]
noncomputable def f41_r9 : List EOper := [⟨(some (K.ofNat 34)), none, .mv (.t (K.ofNat 1))⟩, ⟨(some (K.ofNat 35)), none, .mv (.t (K.ofNat 8))⟩, ⟨(some (K.ofNat 36)), none, .bin .sub (.t (K.ofNat 35)) (.c (.i .i64 (.ofNat 1)))⟩, ⟨(some (K.ofNat 37)), none, .iads 2 (.t (K.ofNat 34)) (.t (K.ofNat 36))⟩, ⟨(some (K.ofNat 38)), none, .iadr 2 1 (.t (K.ofNat 37)) (.c (.i .i64 (.ofNat 0)))⟩, ⟨(some (K.ofNat 39)), none, .ld (.t (K.ofNat 38))⟩, ⟨(some (K.ofNat 40)), none, .conv .u64 (.t (K.ofNat 39))⟩, ⟨(some (K.ofNat 41)), none, .mv (.t (K.ofNat 8))⟩, ⟨(some (K.ofNat 42)), none, .conv .u64 (.t (K.ofNat 41))⟩, ⟨(some (K.ofNat 43)), none, .bin .rem (.t (K.ofNat 40)) (.t (K.ofNat 42))⟩, ⟨(some (K.ofNat 44)), none, .conv .i64 (.t (K.ofNat 43))⟩, ⟨(some (K.ofNat 9)), none, .as (.t (K.ofNat 44))⟩]
noncomputable def f41_r10 : List EOper := [⟨(some (K.ofNat 45)), none, .mv (.t (K.ofNat 9))⟩, ⟨(some (K.ofNat 46)), none, .mv (.t (K.ofNat 7))⟩, ⟨(some (K.ofNat 47)), none, .bin .eql (.t (K.ofNat 45)) (.t (K.ofNat 46))⟩]
noncomputable def f41_r11 : List EOper := [⟨(some (K.ofNat 48)), none, .mv (.t (K.ofNat 6))⟩, ⟨(some (K.ofNat 49)), none, .mv (.t (K.ofNat 7))⟩, ⟨(some (K.ofNat 50)), none, .mv (.t (K.ofNat 8))⟩, ⟨(some (K.ofNat 51)), none, .build [(.i .i64 (.ofNat 0)), (.i .i64 (.ofNat 0))] [(0, 1, (.t (K.ofNat 49))), (1, 1, (.t (K.ofNat 50)))]⟩, ⟨(some (K.ofNat 52)), none, .bslice 1 2 [(.i .i64 (.ofNat 0)), (.i .i64 (.ofNat 0))] [(0, 2, (.t (K.ofNat 51)))]⟩, ⟨(some (K.ofNat 53)), none, .app 2 (.t (K.ofNat 48)) (.t (K.ofNat 52))⟩, ⟨(some (K.ofNat 6)), none, .as (.t (K.ofNat 53))⟩]
noncomputable def f41_r12 : List EOper := [⟨(some (K.ofNat 25)), none, .mv (.t (K.ofNat 8))⟩, ⟨(some (K.ofNat 26)), none, .bin .add (.t (K.ofNat 25)) (.c (.i .i64 (.ofNat 1)))⟩, ⟨(some (K.ofNat 8)), none, .as (.t (K.ofNat 26))⟩]
noncomputable def f41_l0 : EC := (.seq (.seq (.reg f41_r6) (.cond (.t (K.ofNat 24)) .skip (.exit 2))) (.seq (.block 3 (.seq (.reg f41_r7) (.seq (.seq (.reg f41_r8) (.cond (.t (K.ofNat 33)) (.reg f41_r9) .skip)) (.seq (.reg f41_r10) (.cond (.t (K.ofNat 47)) (.reg f41_r11) .skip))))) (.reg f41_r12)))
noncomputable def f41_r13 : List EOper := [⟨(some (K.ofNat 18)), none, .mv (.t (K.ofNat 7))⟩, ⟨(some (K.ofNat 19)), none, .bin .add (.t (K.ofNat 18)) (.c (.i .i64 (.ofNat 1)))⟩, ⟨(some (K.ofNat 7)), none, .as (.t (K.ofNat 19))⟩]
noncomputable def f41_l1 : EC := (.seq (.seq (.reg f41_r4) (.cond (.t (K.ofNat 17)) .skip (.exit 0))) (.seq (.block 1 (.seq (.reg f41_r5) (.block 2 (.loop f41_l0)))) (.reg f41_r13)))
noncomputable def f41_r14 : List EOper := [⟨(some (K.ofNat 54)), none, .mv (.t (K.ofNat 0))⟩, ⟨(some (K.ofNat 55)), none, .mv (.t (K.ofNat 6))⟩, ⟨(some (K.ofNat 4)), none, .as (.t (K.ofNat 54))⟩, ⟨(some (K.ofNat 5)), none, .as (.t (K.ofNat 55))⟩]
noncomputable def f41_c : EC := (.seq (.reg f41_r0) (.seq (.reg f41_r1) (.seq (.reg f41_r2) (.seq (.seq (.reg f41_r3) (.block 0 (.loop f41_l1))) (.seq (.reg f41_r14) .ret)))))
noncomputable def f41 : EF := ⟨56, [.tmp (K.ofNat 4), .tmp (K.ofNat 5)], f41_c, none⟩
theorem f41_rs : f41.rs = [.tmp (K.ofNat 4), .tmp (K.ofNat 5)] := of_eq_true (eq_self _)
/-- The node that another one hangs from. -/
def upF (l : List (Int × Int)) (b : Nat) : Int := if h : b - 1 < l.length then fw .i64 ((fw .u64 l[b - 1].1).tmod (b : Int)) else ((b - 1 : Nat) : Int)
theorem upF_nat {l : List (Int × Int)} {b : Nat} (h0 : 0 < b) (h7 : b ≤ 7) : ∃ q : Nat, q < b ∧ upF l b = (q : Int) := by
  unfold upF
  split
  · exact rem_k _ h0 (by omega)
  · exact ⟨b - 1, by omega, rfl⟩
def Hng (l : List (Int × Int)) (m : Nat) (E : List (Int × Int)) : Prop := ∀ e ∈ E, e.1 = upF l e.2.toNat ∧ 0 ≤ e.2 ∧ e.2 < (m : Int)
theorem Hng.len {l : List (Int × Int)} {m : Nat} {E : List (Int × Int)} {N : Int} (h : Hng l m E) (hr : risB N E = true) : E.length ≤ m := by
  have := nodup_le (l := E.map fun e => e.2.toNat) (m := List.range m) ?_ fun x hx => ?_
  · rw [List.length_map, List.length_range] at this; exact this
  · unfold List.Nodup
    rw [List.pairwise_map]
    refine List.Pairwise.imp_of_mem (fun {a b} ha hb hab he => hab ?_) (ris_nodup hr)
    obtain ⟨a1, a2, _⟩ := h a ha
    obtain ⟨b1, b2, _⟩ := h b hb
    have h2 : a.2 = b.2 := by omega
    have h1 : a.1 = b.1 := by rw [a1, b1, he]
    exact Prod.ext h1 h2
  · obtain ⟨e, he, rfl⟩ := List.mem_map.1 hx
    have := h e he
    rw [List.mem_range]; omega
section
variable {fs : T EF} {h : H} {v : V} {l : List (Int × Int)}
def f41_C (h : H) (v : V) (m : Nat) (l : List (Int × Int)) (a : Nat) (fr : Fr) (h1 : H) : Prop := a ≤ m ∧ ∃ u E, Sk 2 qE h1 u E ∧ Own h.nx.nat u ∧ Grow h.nx.nat h h1 ∧ TmOk (m : Int) E (a : Int) 0 ∧ Hng l m E ∧ (1 ≤ a → E ≠ []) ∧ fr.get (K.ofNat 0) = some (.i .i64 (m : Int)) ∧ fr.get (K.ofNat 1) = some (v) ∧ fr.get (K.ofNat 6) = some (u) ∧ fr.get (K.ofNat 7) = some (.i .i64 (a : Int))
def f41_B (h : H) (v : V) (m : Nat) (l : List (Int × Int)) (a : Nat) (b : Nat) (fr : Fr) (h1 : H) : Prop := a < b ∧ b ≤ m ∧ ∃ u E, Sk 2 qE h1 u E ∧ Own h.nx.nat u ∧ Grow h.nx.nat h h1 ∧ TmOk (m : Int) E (a : Int) (b : Int) ∧ Hng l m E ∧ (1 ≤ a ∨ 2 ≤ b → E ≠ []) ∧ fr.get (K.ofNat 0) = some (.i .i64 (m : Int)) ∧ fr.get (K.ofNat 1) = some (v) ∧ fr.get (K.ofNat 6) = some (u) ∧ fr.get (K.ofNat 7) = some (.i .i64 (a : Int)) ∧ fr.get (K.ofNat 8) = some (.i .i64 (b : Int))
theorem f41_ret {n : Int} (hv : Srp h v l) (hc : HC h) (hL : l.length ≤ 9223372036854775807) : Ret fs f41 [.i .i64 n, v] h fun r h' => ∃ (m : Nat) (u : V) (E : List (Int × Int)), r = .tup [.i .i64 (m : Int), u] ∧ Srp h' u E ∧ chkI (m : Int) E = 0 ∧ Grow h.nx.nat h h' := by
  apply ret_of rfl
  show W fs none f41_c _ _ _
  unfold f41_c
  obtain ⟨q, hq6, hqe⟩ := rem_k n (k := 6) (by omega) (by omega)
  have hqe : fw .i64 ((fw .u64 n).tmod 6) = (q : Int) := hqe
  obtain ⟨m, hm⟩ : ∃ m : Nat, m = 2 + q := ⟨_, rfl⟩
  have em : 2 + (q : Int) = (m : Int) := by omega
  simp (disch := omega) only [f41_r0, f41_r1, f41_r2, f41_r3, w_reg, w_seq, w_block, seqK_n, x_nil, x_mv, x_as, x_bin, x_conv, kx, rvP_ok, okv_some, ev_t, ev_c, getV_some, putD_some, bin_add, bin_rem, onI_i, frame_2, of0, of2, of6, getK_set, Nat.reduceEqDiff, ↓reduceIte, hqe, fw64, em]
  refine W_loop (f41_C h v m l) (fun a => m - a) ?_ 0 ⟨by omega, .sn, [], Sk.nil, Own.sn, Grow.refl _ _, ⟨rfl, by simp, fun e he => by cases he⟩, fun e he => absurd he (by simp), fun h => absurd h (by omega), by simp (disch := omega) only [getK_set, Nat.reduceEqDiff, ↓reduceIte, and_self, Int.natCast_zero]⟩
  rintro a fr h1 ⟨ha, u, E, hs, ho, hG, hT, hH, hN, g0, g1, g6, g7⟩
  unfold f41_l1
  by_cases hlt : a < m
  · have d0 : decide ((a : Int) < (m : Int)) = true := by simp; omega
    simp (disch := omega) only [f41_r4, f41_r5, w_skip, w_reg, w_seq, w_cond, w_block, seqK_n, ckB_b, cbB_b, true_and, x_nil, x_mv, x_as, x_bin, kx, rvP_ok, okv_some, ev_t, ev_c, getV_some, putD_some, bin_add, bin_lss, of1, getK_set, Nat.reduceEqDiff, ↓reduceIte, g0, g7, d0, fw64]
    refine W_loop (f41_B h v m l a) (fun b => m + 1 - b) ?_ (a + 1) ⟨by omega, by omega, u, E, hs, ho, hG, hT.next (.inr ⟨rfl, by omega⟩), hH, fun h => hN (by omega), by simp (disch := omega) only [getK_set, Nat.reduceEqDiff, ↓reduceIte, g0, g1, g6, g7, and_self, Int.natCast_add, Int.natCast_one]⟩
    clear hs ho hG hT g0 g1 g6 g7 hH hN fr
    clear u E h1
    rintro b fr h2 ⟨hab, hb, u, E, hs, ho, hG, hT, hH, hN, g0, g1, g6, g7, g8⟩
    unfold f41_l0
    by_cases hlt2 : b < m
    · have d1 : decide ((b : Int) < (m : Int)) = true := by simp; omega
      have hc2 := hG.hc hc
      have hv2 := hv.grow hc hG
      have hlen := hv2.len
      have eb : (b : Int) - 1 = ((b - 1 : Nat) : Int) := by omega
      have eb1 : ((b : Int) + 1) = ((b + 1 : Nat) : Int) := by omega
      have hEl := hH.len hT.ris
      obtain ⟨up, hup, hue⟩ := upF_nat (l := l) (b := b) (by omega) (by omega)
      have hbw : fw .u64 (b : Int) = (b : Int) := fwu64 (by omega) (by omega)
      have hrem : ∀ a, binV .rem (.i .u64 a) (.i .u64 (b : Int)) = some (.i .u64 (a.tmod (b : Int))) := fun a => bin_rem (by omega)
      obtain ⟨u', h4, a1, s1, o1, gr1, _⟩ := Sk.push qE_len (by omega) (x := ((a : Int), (b : Int))) hs ho hG.nx hc2 (by omega)
      have a1' : appV 2 (h2.new (.cells (1 * 2) [.i .i64 (a : Int), .i .i64 (b : Int)])) u (.sl h2.nx 0 1 2) = .ok u' h4 := a1
      have hne : (up : Int) ≠ (a : Int) → (1 ≤ a ∨ 2 ≤ b + 1 → E ≠ []) := fun h1 h2 => by
        refine hN ?_
        rcases Nat.lt_or_ge b 2 with h3 | h3
        · have : b = 1 := by omega
          subst this
          exact absurd (by omega : (up : Int) = (a : Int)) h1
        · exact .inr h3
      have hH' : (up : Int) = (a : Int) → Hng l m (E ++ [((a : Int), (b : Int))]) := fun h1 e he => by
        rcases List.mem_append.1 he with he | he
        · exact hH e he
        · rw [List.mem_singleton.1 he]
          refine ⟨?_, by simp only; omega, by simp only; omega⟩
          show (a : Int) = upF l b
          rw [hue, h1]
      by_cases hin : b - 1 < l.length
      · have d2 : decide (((b - 1 : Nat) : Int) < (l.length : Int)) = true := by simpa using hin
        obtain ⟨ide, qq, hp1, _, hp2, _⟩ := hv2.at2 hin
        have hue' : fw .i64 ((fw .u64 l[b - 1].1).tmod (b : Int)) = (up : Int) := by
          unfold upF at hue
          rw [dif_pos hin] at hue; exact hue
        cases d3 : decide ((up : Int) = (a : Int)) with
        | true =>
          have d3' : (up : Int) = (a : Int) := by simpa using d3
          simp (disch := omega) only [f41_r6, f41_r7, f41_r8, f41_r9, f41_r10, w_skip, w_reg, w_seq, w_cond, w_block, seqK_n, ckB_b, cbB_b, true_and, x_nil, x_mv, x_as, x_ld, x_bin, x_conv, x_iadr, x_iads, x_len, kx, rvP_ok, okv_some, ev_t, ev_c, getV_some, putD_some, bin_sub, bin_eql, bin_lss, onI_i, onP_p, of0, of1, getK_set, Nat.reduceEqDiff, ↓reduceIte, ix2_0, g0, g1, g7, g8, d1, eb, fw64, hlen, d2, hp1, hp2, hbw, hrem, hue', d3]
          simp (disch := omega) only [f41_r11, f41_r12, w_reg, seqK_n, atK_n, loopK_n, x_nil, x_mv, x_as, x_build, x_bslice, x_bin, x_app, kx, rvP_ok, okv_some, ev_t, ev_c, getV_some, putD_some, bin_add, oGet_s, cells1_i, of0, of1, getK_set, Nat.reduceEqDiff, ↓reduceIte, fill_2, set_2, cells2, g6, g7, g8, fill_2, set_2, cells2, fill_p2, set_p2, a1', fw64, eb1]
          exact ⟨b + 1, by omega, by omega, by omega, u', _, s1, o1, hG.trans gr1, hT.snoc (by omega) (by omega) (by omega) (by omega), hH' d3', fun _ => by simp, by simp (disch := omega) only [getK_set, Nat.reduceEqDiff, ↓reduceIte, g0, g1, g7, and_self]⟩
        | false =>
          have d3' : (up : Int) ≠ (a : Int) := by simpa using d3
          simp (disch := omega) only [f41_r6, f41_r7, f41_r8, f41_r9, f41_r10, w_skip, w_reg, w_seq, w_cond, w_block, seqK_n, atK_n, ckB_b, cbB_b, true_and, x_nil, x_mv, x_as, x_ld, x_bin, x_conv, x_iadr, x_iads, x_len, kx, rvP_ok, okv_some, ev_t, ev_c, getV_some, putD_some, bin_sub, bin_eql, bin_lss, onI_i, onP_p, of0, of1, getK_set, Nat.reduceEqDiff, ↓reduceIte, Bool.false_eq_true, ix2_0, g0, g1, g7, g8, d1, eb, fw64, hlen, d2, hp1, hp2, hbw, hrem, hue', d3]
          simp (disch := omega) only [f41_r12, loopK_n, x_nil, x_mv, x_as, x_bin, kx, rvP_ok, okv_some, ev_t, ev_c, getV_some, putD_some, bin_add, of1, getK_set, Nat.reduceEqDiff, ↓reduceIte, g8, fw64, eb1]
          exact ⟨b + 1, by omega, by omega, by omega, u, E, hs, ho, hG, hT.next (.inr ⟨rfl, by omega⟩), hH, hne d3', by simp (disch := omega) only [getK_set, Nat.reduceEqDiff, ↓reduceIte, g0, g1, g6, g7, and_self]⟩
      · have d2 : decide (((b - 1 : Nat) : Int) < (l.length : Int)) = false := by simpa using hin
        have hue' : ((b - 1 : Nat) : Int) = (up : Int) := by
          unfold upF at hue
          rw [dif_neg hin] at hue; exact hue
        cases d3 : decide (((b - 1 : Nat) : Int) = (a : Int)) with
        | true =>
          have d3' : ((b - 1 : Nat) : Int) = (a : Int) := by simpa using d3
          simp (disch := omega) only [f41_r6, f41_r7, f41_r8, f41_r10, w_skip, w_reg, w_seq, w_cond, w_block, seqK_n, ckB_b, cbB_b, true_and, x_nil, x_mv, x_as, x_bin, x_len, kx, rvP_ok, okv_some, ev_t, ev_c, getV_some, putD_some, bin_sub, bin_eql, bin_lss, of1, getK_set, Nat.reduceEqDiff, ↓reduceIte, Bool.false_eq_true, g0, g1, g7, g8, d1, eb, fw64, hlen, d2, d3]
          simp (disch := omega) only [f41_r11, f41_r12, w_reg, seqK_n, atK_n, loopK_n, x_nil, x_mv, x_as, x_build, x_bslice, x_bin, x_app, kx, rvP_ok, okv_some, ev_t, ev_c, getV_some, putD_some, bin_add, oGet_s, cells1_i, of0, of1, getK_set, Nat.reduceEqDiff, ↓reduceIte, fill_2, set_2, cells2, g6, g7, g8, fill_2, set_2, cells2, fill_p2, set_p2, a1', fw64, eb1]
          exact ⟨b + 1, by omega, by omega, by omega, u', _, s1, o1, hG.trans gr1, hT.snoc (by omega) (by omega) (by omega) (by omega), hH' (by omega), fun _ => by simp, by simp (disch := omega) only [getK_set, Nat.reduceEqDiff, ↓reduceIte, g0, g1, g7, and_self]⟩
        | false =>
          have d3' : ((b - 1 : Nat) : Int) ≠ (a : Int) := by simpa using d3
          simp (disch := omega) only [f41_r6, f41_r7, f41_r8, f41_r10, w_skip, w_reg, w_seq, w_cond, w_block, seqK_n, atK_n, ckB_b, cbB_b, true_and, x_nil, x_mv, x_as, x_bin, x_len, kx, rvP_ok, okv_some, ev_t, ev_c, getV_some, putD_some, bin_sub, bin_eql, bin_lss, of1, getK_set, Nat.reduceEqDiff, ↓reduceIte, Bool.false_eq_true, g0, g1, g7, g8, d1, eb, fw64, hlen, d2, d3]
          simp (disch := omega) only [f41_r12, loopK_n, x_nil, x_mv, x_as, x_bin, kx, rvP_ok, okv_some, ev_t, ev_c, getV_some, putD_some, bin_add, of1, getK_set, Nat.reduceEqDiff, ↓reduceIte, g8, fw64, eb1]
          exact ⟨b + 1, by omega, by omega, by omega, u, E, hs, ho, hG, hT.next (.inr ⟨rfl, by omega⟩), hH, hne (by omega), by simp (disch := omega) only [getK_set, Nat.reduceEqDiff, ↓reduceIte, g0, g1, g6, g7, and_self]⟩
    · have d1 : decide ((b : Int) < (m : Int)) = false := by simp; omega
      simp (disch := omega) only [f41_r6, f41_r13, w_reg, w_seq, w_cond, w_exit, seqK_n, seqK_e, atK_n, atK_e, loopK_n, loopK_e, ckB_b, cbB_b, true_and, x_nil, x_mv, x_as, x_bin, kx, rvP_ok, okv_some, ev_t, ev_c, getV_some, putD_some, bin_add, bin_lss, of1, getK_set, Nat.reduceEqDiff, ↓reduceIte, Bool.false_eq_true, g0, g7, g8, d1, fw64]
      exact ⟨a + 1, by omega, by omega, u, E, hs, ho, hG, hT.next (.inl (by omega)), hH, fun _ => hN (by omega), by simp (disch := omega) only [getK_set, Nat.reduceEqDiff, ↓reduceIte, g0, g1, g6, and_self, Int.natCast_add, Int.natCast_one]⟩
  · have d0 : decide ((a : Int) < (m : Int)) = false := by simp; omega
    simp (disch := omega) only [f41_r4, f41_r14, f41_rs, w_reg, w_seq, w_cond, w_exit, w_ret, seqK_n, seqK_e, atK_e, loopK_e, ckB_b, cbB_b, true_and, retK_r, x_nil, x_mv, x_as, x_bin, kx, rvP_ok, okv_some, ev_t, getV_some, putD_some, bin_lss, oGet_s, readRs_nil, readRs_t, retV_2, Option.some.injEq, exists_eq_left', getK_set, Nat.reduceEqDiff, ↓reduceIte, Bool.false_eq_true, g0, g6, g7, d0]
    exact ⟨m, u, E, rfl, hs.srp, hT.chk (by omega) (by omega) (hN (by omega)), hG⟩
end
end Go.Ev
namespace Go.Ev
open Go Go.RowKit
noncomputable def f8_r0 : List EOper := [⟨(some (K.ofNat 4)), none, .as (.c (.b false))⟩]
noncomputable def f8_r1 : List EOper := [⟨(some (K.ofNat 16)), none, .mv (.t (K.ofNat 0))⟩, ⟨(some (K.ofNat 17)), none, .mv (.t (K.ofNat 1))⟩, ⟨(some (K.ofNat 18)), none, .call (.c (.fn (K.ofNat 28) [])) [(.t (K.ofNat 16)), (.t (K.ofNat 17)), (.c (.i .i64 (.ofNat 10)))]⟩, ⟨(some (K.ofNat 15)), none, .mv (.t (K.ofNat 18))⟩, ⟨(some (K.ofNat 19)), none, .ext (.t (K.ofNat 15)) 0⟩, ⟨(some (K.ofNat 20)), none, .ext (.t (K.ofNat 15)) 1⟩, ⟨(some (K.ofNat 5)), none, .as (.t (K.ofNat 19))⟩, ⟨(some (K.ofNat 6)), none, .as (.t (K.ofNat 20))⟩]
noncomputable def f8_r2 : List EOper := [⟨(some (K.ofNat 7)), none, .as (.c (.i .i64 (.ofNat 0)))⟩]
noncomputable def f8_r3 : List EOper := [⟨(some (K.ofNat 21)), none, .mv (.t (K.ofNat 7))⟩, ⟨(some (K.ofNat 22)), none, .bin .lss (.t (K.ofNat 21)) (.c (.i .i64 (.ofNat 2)))⟩]
noncomputable def f8_r4 : List EOper := [⟨(some (K.ofNat 25)), none, .mv (.t (K.ofNat 5))⟩, ⟨(some (K.ofNat 26)), none, .mv (.t (K.ofNat 6))⟩, ⟨(some (K.ofNat 27)), none, .call (.c (.fn (K.ofNat 40) [])) [(.t (K.ofNat 25)), (.t (K.ofNat 26))]⟩, ⟨(some (K.ofNat 8)), none, .as (.t (K.ofNat 27))⟩]
noncomputable def f8_r5 : List EOper := [⟨(some (K.ofNat 29)), none, .mv (.t (K.ofNat 5))⟩, ⟨(some (K.ofNat 30)), none, .mv (.t (K.ofNat 6))⟩, ⟨(some (K.ofNat 31)), none, .call (.c (.fn (K.ofNat 22) [])) [(.t (K.ofNat 29)), (.t (K.ofNat 30))]⟩, ⟨(some (K.ofNat 28)), none, .mv (.t (K.ofNat 31))⟩, ⟨(some (K.ofNat 32)), none, .ext (.t (K.ofNat 28)) 0⟩, ⟨(some (K.ofNat 33)), none, .ext (.t (K.ofNat 28)) 1⟩, ⟨(some (K.ofNat 9)), none, .as (.t (K.ofNat 32))⟩, ⟨(some (K.ofNat 10)), none, .as (.t (K.ofNat 33))⟩]
noncomputable def f8_r6 : List EOper := [⟨(some (K.ofNat 35)), none, .mv (.t (K.ofNat 5))⟩, ⟨(some (K.ofNat 36)), none, .mv (.t (K.ofNat 6))⟩, ⟨(some (K.ofNat 37)), none, .call (.c (.fn (K.ofNat 27) [])) [(.t (K.ofNat 35)), (.t (K.ofNat 36))]⟩, ⟨(some (K.ofNat 34)), none, .mv (.t (K.ofNat 37))⟩, ⟨(some (K.ofNat 38)), none, .ext (.t (K.ofNat 34)) 0⟩, ⟨(some (K.ofNat 39)), none, .ext (.t (K.ofNat 34)) 1⟩, ⟨(some (K.ofNat 11)), none, .as (.t (K.ofNat 38))⟩, ⟨(some (K.ofNat 12)), none, .as (.t (K.ofNat 39))⟩]
noncomputable def f8_r7 : List EOper := [⟨(some (K.ofNat 40)), none, .mv (.t (K.ofNat 10))⟩, ⟨(some (K.ofNat 41)), none, .bin .neq (.t (K.ofNat 40)) (.c (.i .i64 (.ofNat 0)))⟩, ⟨(some (K.ofNat 42)), none, .mv (.t (K.ofNat 41))⟩, ⟨(some (K.ofNat 43)), (some ((K.ofNat 42), false)), .mv (.t (K.ofNat 9))⟩, ⟨(some (K.ofNat 44)), (some ((K.ofNat 42), false)), .mv (.t (K.ofNat 8))⟩, ⟨(some (K.ofNat 45)), (some ((K.ofNat 42), false)), .eqk (.one none) true (.t (K.ofNat 43)) (.t (K.ofNat 44))⟩, ⟨(some (K.ofNat 46)), none, .pick (.t (K.ofNat 42)) (.c (.b true)) (.t (K.ofNat 45))⟩]
noncomputable def f8_r8 : List EOper := [⟨(some (K.ofNat 4)), none, .as (.c (.b false))⟩]
noncomputable def f8_r9 : List EOper := [⟨(some (K.ofNat 47)), none, .mv (.t (K.ofNat 8))⟩, ⟨(some (K.ofNat 48)), none, .not (.t (K.ofNat 47))⟩]
noncomputable def f8_r10 : List EOper := [⟨(some (K.ofNat 49)), none, .mv (.t (K.ofNat 12))⟩, ⟨(some (K.ofNat 50)), none, .bin .neq (.t (K.ofNat 49)) (.c (.i .i64 (.ofNat 4)))⟩, ⟨(some (K.ofNat 51)), none, .mv (.t (K.ofNat 50))⟩, ⟨(some (K.ofNat 52)), (some ((K.ofNat 51), false)), .mv (.t (K.ofNat 11))⟩, ⟨(some (K.ofNat 53)), (some ((K.ofNat 51), false)), .len (.t (K.ofNat 52))⟩, ⟨(some (K.ofNat 54)), (some ((K.ofNat 51), false)), .bin .neq (.t (K.ofNat 53)) (.c (.i .i64 (.ofNat 0)))⟩, ⟨(some (K.ofNat 55)), none, .pick (.t (K.ofNat 51)) (.c (.b true)) (.t (K.ofNat 54))⟩]
noncomputable def f8_r11 : List EOper := [⟨(some (K.ofNat 4)), none, .as (.c (.b false))⟩]
noncomputable def f8_r12 : List EOper := [⟨(some (K.ofNat 56)), none, .mv (.t (K.ofNat 12))⟩, ⟨(some (K.ofNat 57)), none, .bin .neq (.t (K.ofNat 56)) (.c (.i .i64 (.ofNat 0)))⟩, ⟨(some (K.ofNat 58)), none, .mv (.t (K.ofNat 57))⟩, ⟨(some (K.ofNat 59)), (some ((K.ofNat 58), false)), .mv (.t (K.ofNat 5))⟩, ⟨(some (K.ofNat 60)), (some ((K.ofNat 58), false)), .mv (.t (K.ofNat 6))⟩, ⟨(some (K.ofNat 61)), (some ((K.ofNat 58), false)), .mv (.t (K.ofNat 11))⟩, ⟨(some (K.ofNat 62)), (some ((K.ofNat 58), false)), .call (.c (.fn (K.ofNat 32) [])) [(.t (K.ofNat 59)), (.t (K.ofNat 60)), (.t (K.ofNat 61))]⟩, ⟨(some (K.ofNat 63)), (some ((K.ofNat 58), false)), .not (.t (K.ofNat 62))⟩, ⟨(some (K.ofNat 64)), none, .pick (.t (K.ofNat 58)) (.c (.b true)) (.t (K.ofNat 63))⟩]
noncomputable def f8_r13 : List EOper := [⟨(some (K.ofNat 4)), none, .as (.c (.b false))⟩]
noncomputable def f8_r14 : List EOper := [⟨(some (K.ofNat 66)), none, .mv (.t (K.ofNat 6))⟩, ⟨(some (K.ofNat 67)), none, .mv (.t (K.ofNat 11))⟩, ⟨(some (K.ofNat 68)), none, .call (.c (.fn (K.ofNat 33) [])) [(.t (K.ofNat 66)), (.t (K.ofNat 67))]⟩, ⟨(some (K.ofNat 65)), none, .mv (.t (K.ofNat 68))⟩, ⟨(some (K.ofNat 69)), none, .ext (.t (K.ofNat 65)) 0⟩, ⟨(some (K.ofNat 70)), none, .ext (.t (K.ofNat 65)) 1⟩, ⟨(some (K.ofNat 13)), none, .as (.t (K.ofNat 69))⟩, ⟨(some (K.ofNat 14)), none, .as (.t (K.ofNat 70))⟩]
noncomputable def f8_r15 : List EOper := [⟨(some (K.ofNat 71)), none, .mv (.t (K.ofNat 14))⟩, ⟨(some (K.ofNat 72)), none, .not (.t (K.ofNat 71))⟩]
noncomputable def f8_r16 : List EOper := [⟨(some (K.ofNat 4)), none, .as (.c (.b false))⟩]
noncomputable def f8_r17 : List EOper := [⟨(some (K.ofNat 74)), none, .mv (.t (K.ofNat 0))⟩, ⟨(some (K.ofNat 75)), none, .mv (.t (K.ofNat 1))⟩, ⟨(some (K.ofNat 76)), none, .call (.c (.fn (K.ofNat 41) [])) [(.t (K.ofNat 74)), (.t (K.ofNat 75))]⟩, ⟨(some (K.ofNat 73)), none, .mv (.t (K.ofNat 76))⟩, ⟨(some (K.ofNat 77)), none, .ext (.t (K.ofNat 73)) 0⟩, ⟨(some (K.ofNat 78)), none, .ext (.t (K.ofNat 73)) 1⟩, ⟨(some (K.ofNat 5)), none, .as (.t (K.ofNat 77))⟩, ⟨(some (K.ofNat 6)), none, .as (.t (K.ofNat 78))⟩]
noncomputable def f8_r18 : List EOper := [⟨(some (K.ofNat 23)), none, .mv (.t (K.ofNat 7))⟩, ⟨(some (K.ofNat 24)), none, .bin .add (.t (K.ofNat 23)) (.c (.i .i64 (.ofNat 1)))⟩, ⟨(some (K.ofNat 7)), none, .as (.t (K.ofNat 24))⟩]
noncomputable def f8_l0 : EC := (.seq (.seq (.reg f8_r3) (.cond (.t (K.ofNat 22)) .skip (.exit 0))) (.seq (.block 1 (.seq (.reg f8_r4) (.seq (.reg f8_r5) (.seq (.reg f8_r6) (.seq (.seq (.reg f8_r7) (.cond (.t (K.ofNat 46)) (.seq (.reg f8_r8) .ret) .skip)) (.seq (.seq (.reg f8_r9) (.cond (.t (K.ofNat 48)) (.seq (.reg f8_r10) (.cond (.t (K.ofNat 55)) (.seq (.reg f8_r11) .ret) .skip)) (.seq (.seq (.reg f8_r12) (.cond (.t (K.ofNat 64)) (.seq (.reg f8_r13) .ret) .skip)) (.seq (.reg f8_r14) (.seq (.reg f8_r15) (.cond (.t (K.ofNat 72)) (.seq (.reg f8_r16) .ret) .skip)))))) (.reg f8_r17))))))) (.reg f8_r18)))
noncomputable def f8_r19 : List EOper := [⟨(some (K.ofNat 79)), none, .call (.c (.fn (K.ofNat 23) [])) []⟩, ⟨(some (K.ofNat 4)), none, .as (.t (K.ofNat 79))⟩]
noncomputable def f8_c : EC := (.seq (.reg f8_r0) (.seq (.reg f8_r1) (.seq (.seq (.reg f8_r2) (.block 0 (.loop f8_l0))) (.seq (.reg f8_r19) .ret))))
noncomputable def f8 : EF := ⟨80, [.tmp (K.ofNat 4)], f8_c, none⟩
theorem f8_rs : f8.rs = [.tmp (K.ofNat 4)] := of_eq_true (eq_self _)
structure CallsCw (fs : T EF) : Prop extends CallsPa fs, CallsCt fs, CallsRc fs where
  c22 : fs.get (K.ofNat 22) = some f22
  c27 : fs.get (K.ofNat 27) = some f27
  c28 : fs.get (K.ofNat 28) = some f28
  c32 : fs.get (K.ofNat 32) = some f32
  c33 : fs.get (K.ofNat 33) = some f33
  c40 : fs.get (K.ofNat 40) = some f40
  c41 : fs.get (K.ofNat 41) = some f41
  c67 : fs.get (K.ofNat 67) = some f67
  aw : ∀ h P, CallP fs (.fn (K.ofNat 23) []) [] h P = P (.b true) h
section
variable {fs : T EF} {h : H} {v : V} {m : Nat} {E l : List (Int × Int)}
def crO (m : Nat) (E : List (Int × Int)) : Option (List Int) := if catB m E = true then pFirst m E else none
theorem f27_ok (k : CallsCw fs) (hv : Srp h v E) (hc : HC h) (hn : chkI (m : Int) E = 0) : Ret fs f27 [.i .i64 (m : Int), v] h fun r h' => ∃ w, r = .tup [w, .i .i64 (if catB m E = true then 0 else 4)] ∧ OSr h' w (crO m E) ∧ Grow h.nx.nat h h' := by
  obtain ⟨m', hm, hm2, hE⟩ := chkI_ok hn
  obtain rfl : m = m' := by omega
  apply ret_of rfl
  show W fs none f27_c _ _ _
  unfold f27_c
  have hE6 : E.length ≤ 1000000 := by have := hE.1; omega
  simp (disch := omega) only [f27_r0, f27_r1, w_reg, w_seq, seqK_n, x_nil, x_mv, x_as, x_call, ev_t, ev_c, evs_nil, evs_cons, getV_some, putD_some, frame_2, of0, getK_set, Nat.reduceEqDiff, ↓reduceIte]
  refine (callP_0 (ef := f17) k.toCallsL.toCallsC.c17 rfl (f17_ret (n := (m : Int)) k.toCallsL.toCallsC hv hc hE6)).mono ?_
  rintro r h4 ⟨rfl, gB⟩
  rw [hn]
  have d : decide ((0 : Int) ≠ 0) = false := rfl
  simp (disch := omega) only [f27_r2, f27_r4, w_skip, w_reg, w_seq, w_cond, seqK_n, ckB_b, cbB_b, true_and, x_nil, x_mv, x_as, x_bin, x_call, kx, rvP_ok, okv_some, ev_t, ev_c, evs_nil, evs_cons, getV_some, putD_some, bin_neq, of0, getK_set, Nat.reduceEqDiff, ↓reduceIte, Bool.false_eq_true, d]
  refine (callP_0 (ef := f67) k.c67 rfl (f67_ret k.toCallsCt (hv.grow hc gB) (gB.hc hc) hE)).mono ?_
  rintro r h5 ⟨rfl, gC⟩
  have hGc := gB.trans (gC.low gB.nx)
  unfold crO
  cases hcat : catB m E with
  | false =>
    simp (disch := omega) only [f27_r5, f27_rs, w_reg, w_seq, w_cond, w_ret, seqK_n, seqK_r, ckB_b, cbB_b, true_and, retK_r, x_nil, x_as, x_not, kx, rvP_ok, ev_t, ev_c, getV_some, putD_some, onB_b, oGet_s, readRs_nil, readRs_t, retV_2, of4, Option.some.injEq, exists_eq_left', getK_set, Nat.reduceEqDiff, ↓reduceIte, Bool.false_eq_true, Bool.not_false, Bool.not_false]
    exact ⟨.sn, rfl, rfl, hGc⟩
  | true =>
    simp (disch := omega) only [f27_r6, w_skip, w_reg, w_seq, w_cond, seqK_n, ckB_b, cbB_b, true_and, x_nil, x_mv, x_not, x_call, kx, rvP_ok, ev_t, ev_c, evs_nil, evs_cons, getV_some, putD_some, onB_b, getK_set, Nat.reduceEqDiff, ↓reduceIte, Bool.false_eq_true, Bool.not_true, Bool.not_true]
    refine (callP_0 (ef := f69) k.c69 rfl (f69_ret k.toCallsPa (hv.grow hc hGc) (hGc.hc hc) hE (chkI_ne hn) (by omega))).mono ?_
    rintro r h6 ⟨⟨w, rfl, hw⟩, gD⟩
    simp (disch := omega) only [f27_r7, f27_rs, w_reg, w_seq, w_ret, seqK_n, retK_r, x_nil, x_mv, x_as, x_ext, kx, rvP_ok, okv_some, ev_t, ev_c, getV_some, putD_some, onTup_t, oGet_s, nth0, nth1, readRs_nil, readRs_t, retV_2, of0, Option.some.injEq, exists_eq_left', getK_set, Nat.reduceEqDiff, ↓reduceIte]
    exact ⟨w, rfl, hw, hGc.trans (gD.low hGc.nx)⟩
def f8_I (h : H) (n : Int) (v : V) (i : Nat) (fr : Fr) (h1 : H) : Prop := i ≤ 2 ∧ Grow h.nx.nat h h1 ∧ ∃ (m : Nat) (u : V) (E : List (Int × Int)), Srp h1 u E ∧ chkI (m : Int) E = 0 ∧ fr.get (K.ofNat 0) = some (.i .i64 n) ∧ fr.get (K.ofNat 1) = some (v) ∧ fr.get (K.ofNat 5) = some (.i .i64 (m : Int)) ∧ fr.get (K.ofNat 6) = some (u) ∧ fr.get (K.ofNat 7) = some (.i .i64 (i : Int))
theorem f8_ret {n : Int} (k : CallsCw fs) (hv : Srp h v l) (hL : l.length ≤ 9223372036854775807) (hc : HC h) : Ret fs f8 [.i .i64 n, v] h fun r h' => r = .b true ∧ Grow h.nx.nat h h' := by
  have aw := k.aw
  have kb : ∀ a b, keyEq (.one none) (.b a) (.b b) = some (a == b) := fun _ _ => rfl
  have ne0 : decide ((0 : Int) ≠ 0) = false := rfl
  have ne4 : decide ((4 : Int) ≠ 4) = false := rfl
  have l0 : ∀ h, lenV .sn h = .ok (.i .i64 0) h := fun _ => rfl
  apply ret_of rfl
  show W fs none f8_c _ _ _
  unfold f8_c
  simp (disch := omega) only [f8_r0, f8_r1, w_reg, w_seq, seqK_n, x_nil, x_mv, x_as, x_call, ev_t, ev_c, evs_nil, evs_cons, getV_some, putD_some, frame_2, of10, getK_set, Nat.reduceEqDiff, ↓reduceIte]
  refine (callP_0 (ef := f28) k.c28 rfl (f28_ret (n := n) hv hc hL)).mono ?_
  rintro r h1 ⟨m, u, E, rfl, hu, hchk, hG1⟩
  simp (disch := omega) only [f8_r2, w_reg, w_seq, w_block, seqK_n, x_nil, x_mv, x_as, x_ext, kx, rvP_ok, okv_some, ev_t, ev_c, getV_some, putD_some, onTup_t, nth0, nth1, of0, getK_set, Nat.reduceEqDiff, ↓reduceIte]
  refine W_loop (f8_I h n v) (fun i => 2 - i) ?_ 0 ⟨by omega, hG1, m, u, E, hu, hchk, by simp (disch := omega) only [getK_set, Nat.reduceEqDiff, ↓reduceIte, and_self, Int.natCast_zero]⟩
  clear hu hchk hG1
  clear m u E h1
  rintro i fr h1 ⟨hi, hG1, m, u, E, hu, hchk, g0, g1, g5, g6, g7⟩
  have hc1 := hG1.hc hc
  unfold f8_l0
  by_cases hlt : i < 2
  · have d0 : decide ((i : Int) < 2) = true := by simp; omega
    obtain ⟨m', hm, hm2, hE⟩ := chkI_ok hchk
    obtain rfl : m = m' := by omega
    simp (disch := omega) only [f8_r3, f8_r4, w_skip, w_reg, w_seq, w_cond, w_block, seqK_n, ckB_b, cbB_b, true_and, x_nil, x_mv, x_bin, x_call, kx, rvP_ok, okv_some, ev_t, ev_c, evs_nil, evs_cons, getV_some, putD_some, bin_lss, of2, getK_set, Nat.reduceEqDiff, ↓reduceIte, g5, g6, g7, d0]
    refine (callP_0 (ef := f40) k.c40 rfl (f40_ret k.toCallsRc (by omega) hu hc1 hE)).mono ?_
    rintro r h2 ⟨rfl, hG2⟩
    have hc2 := hG2.hc hc1
    have hu2 := hu.grow hc1 hG2
    have hGa := hG1.trans (hG2.low hG1.nx)
    simp (disch := omega) only [f8_r5, w_reg, w_seq, seqK_n, x_nil, x_mv, x_as, x_call, kx, ev_t, ev_c, evs_nil, evs_cons, getV_some, putD_some, getK_set, Nat.reduceEqDiff, ↓reduceIte, g5, g6]
    refine (callP_0 (ef := f22) k.c22 rfl (f22_ok k.toCallsL.toCallsC k.toCallsCt k.c67 hu2 hc2 hchk)).mono ?_
    rintro r h3 ⟨rfl, hG3⟩
    have hc3 := hG3.hc hc2
    have hu3 := hu2.grow hc2 hG3
    have hGb := hGa.trans (hG3.low hGa.nx)
    simp (disch := omega) only [f8_r6, w_reg, w_seq, seqK_n, x_nil, x_mv, x_as, x_ext, x_call, kx, rvP_ok, okv_some, ev_t, ev_c, evs_nil, evs_cons, getV_some, putD_some, onTup_t, nth0, nth1, getK_set, Nat.reduceEqDiff, ↓reduceIte, g5, g6]
    refine (callP_0 (ef := f27) k.c27 rfl (f27_ok k hu3 hc3 hchk)).mono ?_
    rintro r h4 ⟨w, rfl, hw, hG4⟩
    have hc4 := hG4.hc hc3
    have hu4 := hu3.grow hc3 hG4
    have hGc := hGb.trans (hG4.low hGb.nx)
    have hv4 := hv.grow hc hGc
    have hfirst := fun hcat => cat_first hE (ris_nodup (N := (m : Int)) (E := E) (by
      unfold chkI at hchk
      split at hchk
      · cases hchk
      · split at hchk
        · cases hchk
        · split at hchk
          · assumption
          · cases hchk)) hm2 hcat
    unfold crO at hw
    generalize hcat : catB m E = cB at *
    cases cB with
    | false =>
      have hw : w = .sn := hw
      subst hw
      simp (disch := omega) only [f8_r7, f8_r9, f8_r10, f8_r17, w_skip, w_reg, w_seq, w_cond, seqK_n, ckB_b, cbB_b, okG_b, asG_f, true_and, x_nil, x_g, x_mv, x_as, x_pick, x_bin, x_eqk, x_not, x_ext, x_call, x_len, kx, rvP_ok, okv_some, ev_t, ev_c, evs_nil, evs_cons, getV_some, putD_some, bin_neq, pick_b, onB_b, onTup_t, oGet_s, nth0, nth1, of0, of4, getK_set, Nat.reduceEqDiff, ↓reduceIte, Bool.false_eq_true, Bool.not_true, Bool.not_false, g0, g1, ne0, ne4, kb, beq_self_eq_true, Bool.not_true, Bool.not_false, l0, Bool.false_eq_true]
      refine (callP_0 (ef := f41) k.c41 rfl (f41_ret (n := n) hv4 hc4 hL)).mono ?_
      rintro r h5 ⟨m2, u2, E2, rfl, hu5, hchk5, hG5⟩
      simp (disch := omega) only [f8_r18, w_reg, seqK_n, atK_n, loopK_n, x_nil, x_mv, x_as, x_bin, x_ext, kx, rvP_ok, okv_some, ev_t, ev_c, getV_some, putD_some, bin_add, onTup_t, nth0, nth1, of1, getK_set, Nat.reduceEqDiff, ↓reduceIte, g7, fw64]
      exact ⟨i + 1, by omega, by omega, hGc.trans (hG5.low hGc.nx), m2, u2, E2, hu5, hchk5, by simp (disch := omega) only [getK_set, Nat.reduceEqDiff, ↓reduceIte, g0, g1, and_self, Int.natCast_add, Int.natCast_one]⟩
    | true =>
      rw [if_pos rfl] at hw
      obtain ⟨M, hM⟩ := Option.ne_none_iff_exists'.1 (hfirst rfl)
      rw [hM] at hw
      obtain ⟨hw, _⟩ := hw
      have hmem := List.mem_filter.1 (List.mem_of_mem_head? hM)
      obtain ⟨hgr, _, hMl, _⟩ := labsL_gr hE hmem.1
      have hprt := hmem.2
      rw [okM_t] at hprt
      simp (disch := omega) only [f8_r7, f8_r9, f8_r12, w_skip, w_reg, w_seq, w_cond, seqK_n, ckB_b, cbB_b, okG_b, asG_f, true_and, x_nil, x_g, x_mv, x_as, x_pick, x_bin, x_eqk, x_not, x_ext, x_call, kx, rvP_ok, okv_some, ev_t, ev_c, evs_nil, evs_cons, getV_some, putD_some, bin_neq, pick_b, onB_b, onTup_t, oGet_s, nth0, nth1, of0, getK_set, Nat.reduceEqDiff, ↓reduceIte, Bool.false_eq_true, Bool.not_true, Bool.not_false, g5, g6, ne0, kb, beq_self_eq_true, Bool.not_true, Bool.not_false]
      refine (callP_0 (ef := f32) k.c32 rfl (f32_ret hu4 hw hc4 hE (by have := hE.2.1; omega))).mono ?_
      rintro r h5 ⟨rfl, hG5⟩
      have hc5 := hG5.hc hc4
      have hu5 := hu4.grow hc4 hG5
      have hw5 := hw.grow hc4 hG5
      have hGd := hGc.trans (hG5.low hGc.nx)
      rw [hgr]
      simp (disch := omega) only [f8_r14, w_skip, w_reg, w_seq, w_cond, seqK_n, ckB_b, cbB_b, okG_b, asG_f, true_and, x_nil, x_g, x_mv, x_pick, x_not, x_call, kx, rvP_ok, ev_t, ev_c, evs_nil, evs_cons, getV_some, putD_some, pick_b, onB_b, getK_set, Nat.reduceEqDiff, ↓reduceIte, Bool.false_eq_true, Bool.not_true, Bool.not_false, g6, Bool.not_true, Bool.not_false]
      refine (callP_0 (ef := f33) k.c33 rfl (f33_ret hu5 hw5 hE hMl)).mono ?_
      rintro r h6 ⟨rfl, rfl⟩
      rw [hprt]
      have hv6 := hv.grow hc hGd
      simp (disch := omega) only [f8_r15, f8_r17, w_skip, w_reg, w_seq, w_cond, seqK_n, ckB_b, cbB_b, true_and, x_nil, x_mv, x_as, x_not, x_ext, x_call, kx, rvP_ok, okv_some, ev_t, ev_c, evs_nil, evs_cons, getV_some, putD_some, onB_b, onTup_t, nth0, nth1, getK_set, Nat.reduceEqDiff, ↓reduceIte, Bool.false_eq_true, Bool.not_true, g0, g1, Bool.not_true]
      refine (callP_0 (ef := f41) k.c41 rfl (f41_ret (n := n) hv6 hc5 hL)).mono ?_
      rintro r h7 ⟨m2, u2, E2, rfl, hu7, hchk7, hG7⟩
      simp (disch := omega) only [f8_r18, w_reg, seqK_n, atK_n, loopK_n, x_nil, x_mv, x_as, x_bin, x_ext, kx, rvP_ok, okv_some, ev_t, ev_c, getV_some, putD_some, bin_add, onTup_t, nth0, nth1, of1, getK_set, Nat.reduceEqDiff, ↓reduceIte, g7, fw64]
      exact ⟨i + 1, by omega, by omega, hGd.trans (hG7.low hGd.nx), m2, u2, E2, hu7, hchk7, by simp (disch := omega) only [getK_set, Nat.reduceEqDiff, ↓reduceIte, g0, g1, and_self, Int.natCast_add, Int.natCast_one]⟩
  · have d0 : decide ((i : Int) < 2) = false := by simp; omega
    simp (disch := omega) only [f8_r3, f8_r19, f8_rs, w_reg, w_seq, w_cond, w_exit, w_ret, seqK_n, seqK_e, atK_e, loopK_e, ckB_b, cbB_b, true_and, retK_r, x_nil, x_mv, x_as, x_bin, x_call, kx, rvP_ok, okv_some, ev_t, ev_c, evs_nil, getV_some, putD_some, bin_lss, oGet_s, readRs_nil, readRs_t, retV_1, of2, Option.some.injEq, exists_eq_left', getK_set, ↓reduceIte, Bool.false_eq_true, g7, d0, aw, true_and]
    exact hG1
end
end Go.Ev
