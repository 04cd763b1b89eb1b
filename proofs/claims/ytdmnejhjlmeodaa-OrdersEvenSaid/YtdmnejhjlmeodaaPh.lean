/-
  Orders: arrows sorted in place: a part is parted at a pivot., and what follows.
-/
import Derived.Test.YtdmnejhjlmeodaaPd
import Derived.Test.YtdmnejhjlmeodaaPg
namespace Go.Ev
open Go Go.RowKit
noncomputable def f118_r0 : List EOper := [oG 10 (.as (cG 0)), oG 11 (.as (.c (.b false)))]
noncomputable def f118_r1 : List Stage := [⟨[oG 14 (.mv (tG 0)), oG 15 (.mv (tG 1)), oG 16 (.mv (tG 0)), oG 17 (.mv (tG 3)), oG 18 (.mv (tG 0)), oG 19 (.mv (tG 3)), oG 20 (.iads 2 (tG 18) (tG 19)), oG 21 (.ldn 2 (tG 20)), oG 22 (.mv (tG 0)), oG 23 (.mv (tG 1)), oG 24 (.iads 2 (tG 22) (tG 23)), oG 25 (.ldn 2 (tG 24)), oG 26 (.iads 2 (tG 14) (tG 15))], [], (some ⟨none, none, .st 2 (tG 26) (tG 21)⟩), []⟩, ⟨[oG 27 (.iads 2 (tG 16) (tG 17))], [oG 16 (.mv (tG 0)), oG 17 (.mv (tG 3))], (some ⟨none, none, .st 2 (tG 27) (tG 25)⟩), []⟩, ⟨[], [], none, []⟩]
noncomputable def f118_r2 : List EOper := [oG 28 (.mv (tG 1)), oG 29 (.bin .add (tG 28) (cG 1)), oG 30 (.mv (tG 2)), oG 31 (.bin .sub (tG 30) (cG 1)), oG 12 (.as (tG 29)), oG 13 (.as (tG 31))]
noncomputable def f118_r3 : List Stage := [⟨[oG 32 (.mv (tG 12)), oG 33 (.mv (tG 13)), oG 34 (.bin .leq (tG 32) (tG 33)), oG 35 (.mv (tG 34)), gG 36 35 true (.mv (tG 4)), gG 37 35 true (.mv (tG 0)), gG 38 35 true (.mv (tG 12)), gG 39 35 true (.iads 2 (tG 37) (tG 38)), gG 40 35 true (.ldn 2 (tG 39)), gG 41 35 true (.mv (tG 0)), gG 42 35 true (.mv (tG 1)), gG 43 35 true (.iads 2 (tG 41) (tG 42)), gG 44 35 true (.ldn 2 (tG 43))], [], (some (gG 45 35 true (.call (tG 36) [(tG 40), (tG 44)]))), []⟩, ⟨[gG 46 35 true (.bin .lss (tG 45) (cG 0)), oG 47 (.pick (tG 35) (tG 46) (.c (.b false)))], [], none, []⟩]
noncomputable def f118_r4 : List EOper := [oG 48 (.mv (tG 12)), oG 49 (.bin .add (tG 48) (cG 1)), oG 12 (.as (tG 49))]
noncomputable def f118_l0 : EC := (.seq (.seq (.draw f118_r3) (.cond (tG 47) .skip (.exit 0))) (.block 1 (.reg f118_r4)))
noncomputable def f118_r5 : List Stage := [⟨[oG 50 (.mv (tG 12)), oG 51 (.mv (tG 13)), oG 52 (.bin .leq (tG 50) (tG 51)), oG 53 (.mv (tG 52)), gG 54 53 true (.mv (tG 4)), gG 55 53 true (.mv (tG 0)), gG 56 53 true (.mv (tG 13)), gG 57 53 true (.iads 2 (tG 55) (tG 56)), gG 58 53 true (.ldn 2 (tG 57)), gG 59 53 true (.mv (tG 0)), gG 60 53 true (.mv (tG 1)), gG 61 53 true (.iads 2 (tG 59) (tG 60)), gG 62 53 true (.ldn 2 (tG 61))], [], (some (gG 63 53 true (.call (tG 54) [(tG 58), (tG 62)]))), []⟩, ⟨[gG 64 53 true (.bin .lss (tG 63) (cG 0)), gG 65 53 true (.not (tG 64)), oG 66 (.pick (tG 53) (tG 65) (.c (.b false)))], [], none, []⟩]
noncomputable def f118_r6 : List EOper := [oG 67 (.mv (tG 13)), oG 68 (.bin .sub (tG 67) (cG 1)), oG 13 (.as (tG 68))]
noncomputable def f118_l1 : EC := (.seq (.seq (.draw f118_r5) (.cond (tG 66) .skip (.exit 2))) (.block 3 (.reg f118_r6)))
noncomputable def f118_r7 : List EOper := [oG 69 (.mv (tG 12)), oG 70 (.mv (tG 13)), oG 71 (.bin .gtr (tG 69) (tG 70))]
noncomputable def f118_r8 : List Stage := [⟨[oG 72 (.mv (tG 0)), oG 73 (.mv (tG 13)), oG 74 (.mv (tG 0)), oG 75 (.mv (tG 1)), oG 76 (.mv (tG 0)), oG 77 (.mv (tG 1)), oG 78 (.iads 2 (tG 76) (tG 77)), oG 79 (.ldn 2 (tG 78)), oG 80 (.mv (tG 0)), oG 81 (.mv (tG 13)), oG 82 (.iads 2 (tG 80) (tG 81)), oG 83 (.ldn 2 (tG 82)), oG 84 (.iads 2 (tG 72) (tG 73))], [], (some ⟨none, none, .st 2 (tG 84) (tG 79)⟩), []⟩, ⟨[oG 85 (.iads 2 (tG 74) (tG 75))], [oG 74 (.mv (tG 0)), oG 75 (.mv (tG 1))], (some ⟨none, none, .st 2 (tG 85) (tG 83)⟩), []⟩, ⟨[], [], none, []⟩]
noncomputable def f118_r9 : List EOper := [oG 86 (.mv (tG 13)), oG 10 (.as (tG 86)), oG 11 (.as (.c (.b true)))]
noncomputable def f118_r10 : List Stage := [⟨[oG 87 (.mv (tG 0)), oG 88 (.mv (tG 12)), oG 89 (.mv (tG 0)), oG 90 (.mv (tG 13)), oG 91 (.mv (tG 0)), oG 92 (.mv (tG 13)), oG 93 (.iads 2 (tG 91) (tG 92)), oG 94 (.ldn 2 (tG 93)), oG 95 (.mv (tG 0)), oG 96 (.mv (tG 12)), oG 97 (.iads 2 (tG 95) (tG 96)), oG 98 (.ldn 2 (tG 97)), oG 99 (.iads 2 (tG 87) (tG 88))], [], (some ⟨none, none, .st 2 (tG 99) (tG 94)⟩), []⟩, ⟨[oG 100 (.iads 2 (tG 89) (tG 90))], [oG 89 (.mv (tG 0)), oG 90 (.mv (tG 13))], (some ⟨none, none, .st 2 (tG 100) (tG 98)⟩), []⟩, ⟨[], [], none, []⟩]
noncomputable def f118_r11 : List EOper := [oG 101 (.mv (tG 12)), oG 102 (.bin .add (tG 101) (cG 1)), oG 12 (.as (tG 102))]
noncomputable def f118_r12 : List EOper := [oG 103 (.mv (tG 13)), oG 104 (.bin .sub (tG 103) (cG 1)), oG 13 (.as (tG 104))]
noncomputable def f118_r13 : List Stage := [⟨[oG 105 (.mv (tG 12)), oG 106 (.mv (tG 13)), oG 107 (.bin .leq (tG 105) (tG 106)), oG 108 (.mv (tG 107)), gG 109 108 true (.mv (tG 4)), gG 110 108 true (.mv (tG 0)), gG 111 108 true (.mv (tG 12)), gG 112 108 true (.iads 2 (tG 110) (tG 111)), gG 113 108 true (.ldn 2 (tG 112)), gG 114 108 true (.mv (tG 0)), gG 115 108 true (.mv (tG 1)), gG 116 108 true (.iads 2 (tG 114) (tG 115)), gG 117 108 true (.ldn 2 (tG 116))], [], (some (gG 118 108 true (.call (tG 109) [(tG 113), (tG 117)]))), []⟩, ⟨[gG 119 108 true (.bin .lss (tG 118) (cG 0)), oG 120 (.pick (tG 108) (tG 119) (.c (.b false)))], [], none, []⟩]
noncomputable def f118_r14 : List EOper := [oG 121 (.mv (tG 12)), oG 122 (.bin .add (tG 121) (cG 1)), oG 12 (.as (tG 122))]
noncomputable def f118_l2 : EC := (.seq (.seq (.draw f118_r13) (.cond (tG 120) .skip (.exit 6))) (.block 7 (.reg f118_r14)))
noncomputable def f118_r15 : List Stage := [⟨[oG 123 (.mv (tG 12)), oG 124 (.mv (tG 13)), oG 125 (.bin .leq (tG 123) (tG 124)), oG 126 (.mv (tG 125)), gG 127 126 true (.mv (tG 4)), gG 128 126 true (.mv (tG 0)), gG 129 126 true (.mv (tG 13)), gG 130 126 true (.iads 2 (tG 128) (tG 129)), gG 131 126 true (.ldn 2 (tG 130)), gG 132 126 true (.mv (tG 0)), gG 133 126 true (.mv (tG 1)), gG 134 126 true (.iads 2 (tG 132) (tG 133)), gG 135 126 true (.ldn 2 (tG 134))], [], (some (gG 136 126 true (.call (tG 127) [(tG 131), (tG 135)]))), []⟩, ⟨[gG 137 126 true (.bin .lss (tG 136) (cG 0)), gG 138 126 true (.not (tG 137)), oG 139 (.pick (tG 126) (tG 138) (.c (.b false)))], [], none, []⟩]
noncomputable def f118_r16 : List EOper := [oG 140 (.mv (tG 13)), oG 141 (.bin .sub (tG 140) (cG 1)), oG 13 (.as (tG 141))]
noncomputable def f118_l3 : EC := (.seq (.seq (.draw f118_r15) (.cond (tG 139) .skip (.exit 8))) (.block 9 (.reg f118_r16)))
noncomputable def f118_r17 : List EOper := [oG 142 (.mv (tG 12)), oG 143 (.mv (tG 13)), oG 144 (.bin .gtr (tG 142) (tG 143))]
noncomputable def f118_r18 : List Stage := [⟨[oG 145 (.mv (tG 0)), oG 146 (.mv (tG 12)), oG 147 (.mv (tG 0)), oG 148 (.mv (tG 13)), oG 149 (.mv (tG 0)), oG 150 (.mv (tG 13)), oG 151 (.iads 2 (tG 149) (tG 150)), oG 152 (.ldn 2 (tG 151)), oG 153 (.mv (tG 0)), oG 154 (.mv (tG 12)), oG 155 (.iads 2 (tG 153) (tG 154)), oG 156 (.ldn 2 (tG 155)), oG 157 (.iads 2 (tG 145) (tG 146))], [], (some ⟨none, none, .st 2 (tG 157) (tG 152)⟩), []⟩, ⟨[oG 158 (.iads 2 (tG 147) (tG 148))], [oG 147 (.mv (tG 0)), oG 148 (.mv (tG 13))], (some ⟨none, none, .st 2 (tG 158) (tG 156)⟩), []⟩, ⟨[], [], none, []⟩]
noncomputable def f118_r19 : List EOper := [oG 159 (.mv (tG 12)), oG 160 (.bin .add (tG 159) (cG 1)), oG 12 (.as (tG 160))]
noncomputable def f118_r20 : List EOper := [oG 161 (.mv (tG 13)), oG 162 (.bin .sub (tG 161) (cG 1)), oG 13 (.as (tG 162))]
noncomputable def f118_l4 : EC := (.block 5 (.seq (.block 6 (.loop f118_l2)) (.seq (.block 8 (.loop f118_l3)) (.seq (.seq (.reg f118_r17) (.cond (tG 144) (.exit 4) .skip)) (.seq (.draw f118_r18) (.seq (.reg f118_r19) (.reg f118_r20)))))))
noncomputable def f118_r21 : List Stage := [⟨[oG 163 (.mv (tG 0)), oG 164 (.mv (tG 13)), oG 165 (.mv (tG 0)), oG 166 (.mv (tG 1)), oG 167 (.mv (tG 0)), oG 168 (.mv (tG 1)), oG 169 (.iads 2 (tG 167) (tG 168)), oG 170 (.ldn 2 (tG 169)), oG 171 (.mv (tG 0)), oG 172 (.mv (tG 13)), oG 173 (.iads 2 (tG 171) (tG 172)), oG 174 (.ldn 2 (tG 173)), oG 175 (.iads 2 (tG 163) (tG 164))], [], (some ⟨none, none, .st 2 (tG 175) (tG 170)⟩), []⟩, ⟨[oG 176 (.iads 2 (tG 165) (tG 166))], [oG 165 (.mv (tG 0)), oG 166 (.mv (tG 1))], (some ⟨none, none, .st 2 (tG 176) (tG 174)⟩), []⟩, ⟨[], [], none, []⟩]
noncomputable def f118_r22 : List EOper := [oG 177 (.mv (tG 13)), oG 10 (.as (tG 177)), oG 11 (.as (.c (.b false)))]
noncomputable def f118_c : EC := (.seq (.reg f118_r0) (.seq (.draw f118_r1) (.seq (.reg f118_r2) (.seq (.block 0 (.loop f118_l0)) (.seq (.block 2 (.loop f118_l1)) (.seq (.seq (.reg f118_r7) (.cond (tG 71) (.seq (.draw f118_r8) (.seq (.reg f118_r9) .ret)) .skip)) (.seq (.draw f118_r10) (.seq (.reg f118_r11) (.seq (.reg f118_r12) (.seq (.block 4 (.loop f118_l4)) (.seq (.draw f118_r21) (.seq (.reg f118_r22) .ret))))))))))))
noncomputable def f118 : EF := ⟨178, [.tmp (.ofNat 10), .tmp (.ofNat 11)], f118_c, none⟩
theorem f118_rs : f118.rs = [.tmp (.ofNat 10), .tmp (.ofNat 11)] := of_eq_true (eq_self _)
structure Par (Z : List (Int × Int)) (a b p : Nat) (W1 : List (Int × Int)) (i j : Nat) : Prop where
  ai : a < i
  ij : i ≤ j + 1
  aj : a ≤ j
  jb : j < b
  bl : b ≤ Z.length
  nd : Z.Nodup
  pm : Pm a b Z W1
  pv : gW W1 a = gW Z p
  less : ∀ t, a < t → t < i → bfB (gW W1 t) (gW Z p) = true
  more : ∀ t, j < t → t < b → bfB (gW Z p) (gW W1 t) = true
section
variable {Z W1 : List (Int × Int)} {a b p i j : Nat}
theorem Par.ne (q : Par Z a b p W1 i j) {t : Nat} (h1 : a < t) (h2 : t < b) (h : bfB (gW W1 t) (gW Z p) = false) : bfB (gW Z p) (gW W1 t) = true := by
  refine bfB_tot (fun e => ?_) h
  have hl := q.pm.len
  have hb := q.bl
  have := gW_inj (q.pm.nodup q.nd) (i := t) (j := a) (by omega) (by omega) (e.trans q.pv.symm)
  omega
theorem Par.up (q : Par Z a b p W1 i j) (h : i ≤ j) (h1 : bfB (gW W1 i) (gW Z p) = true) : Par Z a b p W1 (i + 1) j := { q with
  ai := by have := q.ai; omega
  ij := by omega
  less := fun t t1 t2 => by
    by_cases e : t = i
    · rw [e]; exact h1
    · exact q.less t t1 (by omega) }
theorem Par.down (q : Par Z a b p W1 i j) (h : i ≤ j) (h1 : bfB (gW W1 j) (gW Z p) = false) : Par Z a b p W1 i (j - 1) := { q with
  ij := by have := q.ai; omega
  aj := by have := q.ai; omega
  jb := by have := q.jb; omega
  more := fun t t1 t2 => by
    have := q.ai
    by_cases e : t = j
    · rw [e]; exact q.ne (by omega) q.jb h1
    · exact q.more t (by omega) t2 }
theorem Par.ex (q : Par Z a b p W1 i j) (h : i ≤ j) (h1 : bfB (gW W1 i) (gW Z p) = false) (h2 : bfB (gW W1 j) (gW Z p) = true) : i < j ∧ Par Z a b p (xch W1 i j) (i + 1) (j - 1) := by
  have hij : i < j := by
    by_cases e : i = j
    · rw [e, h2] at h1; cases h1
    · omega
  have := q.ai
  have := q.jb
  have := q.bl
  have hl := q.pm.len
  refine ⟨hij, { q with ai := by omega, ij := by omega, aj := by omega, jb := by omega, pm := q.pm.trans (Pm.ex (by omega) (by omega) (by omega) (by omega) (by omega)), pv := ?_, less := fun t t1 t2 => ?_, more := fun t t1 t2 => ?_ }⟩
  · rw [gW_xch (by omega) (by omega), if_neg (by omega), if_neg (by omega)]; exact q.pv
  · rw [gW_xch (by omega) (by omega), if_neg (by omega)]
    by_cases e : t = i
    · rw [if_pos e]; exact h2
    · rw [if_neg e]; exact q.less t t1 (by omega)
  · rw [gW_xch (by omega) (by omega)]
    by_cases e : t = j
    · rw [if_pos e]; exact q.ne (by omega) (by omega) h1
    · rw [if_neg e, if_neg (by omega)]; exact q.more t (by omega) t2
theorem Par.fin (q : Par Z a b p W1 i j) (h : j < i) : Pm a b Z (xch W1 j a) ∧ Cut a b j (xch W1 j a) ∧ gW (xch W1 j a) j = gW Z p := by
  have := q.ij
  have := q.aj
  have := q.jb
  have := q.bl
  have hl := q.pm.len
  have ej : gW (xch W1 j a) j = gW Z p := by
    rw [gW_xch (by omega) (by omega)]
    by_cases e : j = a
    · rw [if_pos e, e]; exact q.pv
    · rw [if_neg e, if_pos rfl]; exact q.pv
  refine ⟨q.pm.trans (Pm.ex (by omega) (by omega) (by omega) (by omega) (by omega)), ⟨q.aj, q.jb, fun t t1 t2 => ?_, fun t t1 t2 => ?_⟩, ej⟩
  · rw [ej, gW_xch (by omega) (by omega)]
    by_cases e : t = a
    · rw [if_pos e]; exact q.less j (by omega) (by omega)
    · rw [if_neg e, if_neg (by omega)]; exact q.less t (by omega) (by omega)
  · rw [ej, gW_xch (by omega) (by omega), if_neg (by omega), if_neg (by omega)]
    exact q.more t t1 t2
theorem Par.start (hn : Z.Nodup) (hb : b ≤ Z.length) (h1 : a ≤ p) (h2 : p < b) (h3 : a + 1 < b) : Par Z a b p (xch Z a p) (a + 1) (b - 1) := ⟨by omega, by omega, by omega, by omega, hb, hn, Pm.ex hb (Nat.le_refl _) (by omega) h1 h2, by
  rw [gW_xch (by omega) (by omega)]
  by_cases e : a = p
  · rw [if_pos e, e]
  · rw [if_neg e, if_pos rfl], fun t t1 t2 => by omega, fun t t1 t2 => by omega⟩
end
section
variable {fs : T EF} {h : H} {v : V} {Z W1 : List (Int × Int)} {idb : K} {a b p : Nat} {fr : Fr}
structure Mem (h : H) (v : V) (idb : K) (W1 : List (Int × Int)) (h1 : H) : Prop where
  sk : Sk 2 qE h1 v W1
  o : Onl v h h1
  s : SoT idb v h1
def Sl8 (v : V) (idb : K) (a b i j : Nat) (fr : Fr) : Prop := fr.get (K.ofNat 0) = some (v) ∧ fr.get (K.ofNat 1) = some (.i .i64 (a : Int)) ∧ fr.get (K.ofNat 2) = some (.i .i64 (b : Int)) ∧ fr.get (K.ofNat 4) = some (cmV idb) ∧ fr.get (K.ofNat 12) = some (.i .i64 (i : Int)) ∧ fr.get (K.ofNat 13) = some (.i .i64 (j : Int))

def f118_up0I (h : H) (v : V) (idb : K) (Z W1 : List (Int × Int)) (a b p j : Nat) (i : Nat) (fr : Fr) (h1 : H) : Prop := Par Z a b p W1 i j ∧ Mem h v idb W1 h1 ∧ Sl8 v idb a b i j fr
theorem f118_up0 {i j : Nat} {h1 : H} {Q : Ex → Fr → H → Prop} (k : CallsTv fs) (hW : Z.length ≤ 1000) (q : Par Z a b p W1 i j) (m : Mem h v idb W1 h1) (g : Sl8 v idb a b i j fr)
    (hQ : ∀ i fr h1, Par Z a b p W1 i j → Mem h v idb W1 h1 → Sl8 v idb a b i j fr → (j < i ∨ bfB (gW W1 i) (gW Z p) = false) → Q (.exit 0) fr h1) : W fs none (.loop f118_l0) Q fr h1 := by
  refine W_loop (f118_up0I h v idb Z W1 a b p j) (fun i => b - i) ?_ i ⟨q, m, g⟩
  clear q m g
  rintro i fr h1 ⟨q, m, g0, g1, g2, g4, g12, g13⟩
  have := q.ai
  have := q.jb
  have := q.bl
  have hl := q.pm.len
  unfold f118_l0
  by_cases hlt : i ≤ j
  · have d0 : decide ((i : Int) ≤ (j : Int)) = true := decide_eq_true (by omega)
    obtain ⟨p1, a1, a2⟩ := m.sk.atp (i := i) (by omega)
    obtain ⟨p0, b1, b2⟩ := m.sk.atp (i := a) (by omega)
    simp (disch := omega) only [f118_r3, Nat.reduceEqDiff, ↓reduceIte, g0, g1, g4, g12, g13, d0, a1, a2, b1, b2, bz]
    refine cm_call k.toCallsTs m.s m.sk ?_
    intro h4 hs4 o4 s4
    rw [q.pv]
    cases d2 : bfB (gW W1 i) (gW Z p) with
    | true =>
      simp (disch := omega) only [f118_r4, Nat.reduceEqDiff, ↓reduceIte, g12, cmP_lt, d2, bz]
      exact ⟨i + 1, by omega, q.up hlt d2, ⟨hs4, m.o.trans o4, s4⟩, by unfold Sl8; simp (disch := omega) only [getK_set, Nat.reduceEqDiff, ↓reduceIte, g0, g1, g2, g4, g13, and_self, Int.natCast_add, Int.natCast_one]⟩
    | false =>
      simp (disch := omega) only [f118_r4, Nat.reduceEqDiff, ↓reduceIte, Bool.false_eq_true, cmP_lt, d2, bz]
      exact hQ i _ _ q ⟨hs4, m.o.trans o4, s4⟩ (by unfold Sl8; simp (disch := omega) only [getK_set, Nat.reduceEqDiff, ↓reduceIte, g0, g1, g2, g4, g12, g13, and_self]) (.inr d2)
  · have d0 : decide ((i : Int) ≤ (j : Int)) = false := decide_eq_false (by omega)
    simp (disch := omega) only [f118_r3, f118_r4, Nat.reduceEqDiff, ↓reduceIte, Bool.false_eq_true, g12, g13, d0, bz]
    exact hQ i _ _ q m (by unfold Sl8; simp (disch := omega) only [getK_set, Nat.reduceEqDiff, ↓reduceIte, g0, g1, g2, g4, g12, g13, and_self]) (.inl (by omega))

def f118_dn0I (h : H) (v : V) (idb : K) (Z W1 : List (Int × Int)) (a b p i j0 : Nat) (j : Nat) (fr : Fr) (h1 : H) : Prop := j ≤ j0 ∧ Par Z a b p W1 i j ∧ Mem h v idb W1 h1 ∧ Sl8 v idb a b i j fr
theorem f118_dn0 {i j : Nat} {h1 : H} {Q : Ex → Fr → H → Prop} (k : CallsTv fs) (hW : Z.length ≤ 1000) (q : Par Z a b p W1 i j) (m : Mem h v idb W1 h1) (g : Sl8 v idb a b i j fr)
    (hQ : ∀ j' fr h1, j' ≤ j → Par Z a b p W1 i j' → Mem h v idb W1 h1 → Sl8 v idb a b i j' fr → (j' < i ∨ bfB (gW W1 j') (gW Z p) = true) → Q (.exit 2) fr h1) : W fs none (.loop f118_l1) Q fr h1 := by
  refine W_loop (f118_dn0I h v idb Z W1 a b p i j) (fun j => j) ?_ j ⟨Nat.le_refl _, q, m, g⟩
  clear q m g
  rintro j' fr h1 ⟨hj, q, m, g0, g1, g2, g4, g12, g13⟩
  have := q.ai
  have := q.jb
  have := q.bl
  have hl := q.pm.len
  unfold f118_l1
  by_cases hlt : i ≤ j'
  · have d0 : decide ((i : Int) ≤ (j' : Int)) = true := decide_eq_true (by omega)
    have ej : (j' : Int) - 1 = ((j' - 1 : Nat) : Int) := by omega
    obtain ⟨p1, a1, a2⟩ := m.sk.atp (i := j') (by omega)
    obtain ⟨p0, b1, b2⟩ := m.sk.atp (i := a) (by omega)
    simp (disch := omega) only [f118_r5, Nat.reduceEqDiff, ↓reduceIte, g0, g1, g4, g12, g13, d0, a1, a2, b1, b2, bz]
    refine cm_call k.toCallsTs m.s m.sk ?_
    intro h4 hs4 o4 s4
    rw [q.pv]
    cases d2 : bfB (gW W1 j') (gW Z p) with
    | false =>
      simp (disch := omega) only [f118_r6, Nat.reduceEqDiff, ↓reduceIte, Bool.not_false, g13, ej, cmP_lt, d2, bz]
      exact ⟨j' - 1, by omega, by omega, q.down hlt d2, ⟨hs4, m.o.trans o4, s4⟩, by unfold Sl8; simp (disch := omega) only [getK_set, Nat.reduceEqDiff, ↓reduceIte, g0, g1, g2, g4, g12, and_self]⟩
    | true =>
      simp (disch := omega) only [f118_r6, Nat.reduceEqDiff, ↓reduceIte, Bool.false_eq_true, Bool.not_true, cmP_lt, d2, bz]
      exact hQ j' _ _ hj q ⟨hs4, m.o.trans o4, s4⟩ (by unfold Sl8; simp (disch := omega) only [getK_set, Nat.reduceEqDiff, ↓reduceIte, g0, g1, g2, g4, g12, g13, and_self]) (.inr d2)
  · have d0 : decide ((i : Int) ≤ (j' : Int)) = false := decide_eq_false (by omega)
    simp (disch := omega) only [f118_r5, f118_r6, Nat.reduceEqDiff, ↓reduceIte, Bool.false_eq_true, g12, g13, d0, bz]
    exact hQ j' _ _ hj q m (by unfold Sl8; simp (disch := omega) only [getK_set, Nat.reduceEqDiff, ↓reduceIte, g0, g1, g2, g4, g12, g13, and_self]) (.inl (by omega))

def f118_up1I (h : H) (v : V) (idb : K) (Z W1 : List (Int × Int)) (a b p j : Nat) (i : Nat) (fr : Fr) (h1 : H) : Prop := Par Z a b p W1 i j ∧ Mem h v idb W1 h1 ∧ Sl8 v idb a b i j fr
theorem f118_up1 {i j : Nat} {h1 : H} {Q : Ex → Fr → H → Prop} (k : CallsTv fs) (hW : Z.length ≤ 1000) (q : Par Z a b p W1 i j) (m : Mem h v idb W1 h1) (g : Sl8 v idb a b i j fr)
    (hQ : ∀ i fr h1, Par Z a b p W1 i j → Mem h v idb W1 h1 → Sl8 v idb a b i j fr → (j < i ∨ bfB (gW W1 i) (gW Z p) = false) → Q (.exit 6) fr h1) : W fs none (.loop f118_l2) Q fr h1 := by
  refine W_loop (f118_up1I h v idb Z W1 a b p j) (fun i => b - i) ?_ i ⟨q, m, g⟩
  clear q m g
  rintro i fr h1 ⟨q, m, g0, g1, g2, g4, g12, g13⟩
  have := q.ai
  have := q.jb
  have := q.bl
  have hl := q.pm.len
  unfold f118_l2
  by_cases hlt : i ≤ j
  · have d0 : decide ((i : Int) ≤ (j : Int)) = true := decide_eq_true (by omega)
    obtain ⟨p1, a1, a2⟩ := m.sk.atp (i := i) (by omega)
    obtain ⟨p0, b1, b2⟩ := m.sk.atp (i := a) (by omega)
    simp (disch := omega) only [f118_r13, Nat.reduceEqDiff, ↓reduceIte, g0, g1, g4, g12, g13, d0, a1, a2, b1, b2, bz]
    refine cm_call k.toCallsTs m.s m.sk ?_
    intro h4 hs4 o4 s4
    rw [q.pv]
    cases d2 : bfB (gW W1 i) (gW Z p) with
    | true =>
      simp (disch := omega) only [f118_r14, Nat.reduceEqDiff, ↓reduceIte, g12, cmP_lt, d2, bz]
      exact ⟨i + 1, by omega, q.up hlt d2, ⟨hs4, m.o.trans o4, s4⟩, by unfold Sl8; simp (disch := omega) only [getK_set, Nat.reduceEqDiff, ↓reduceIte, g0, g1, g2, g4, g13, and_self, Int.natCast_add, Int.natCast_one]⟩
    | false =>
      simp (disch := omega) only [f118_r14, Nat.reduceEqDiff, ↓reduceIte, Bool.false_eq_true, cmP_lt, d2, bz]
      exact hQ i _ _ q ⟨hs4, m.o.trans o4, s4⟩ (by unfold Sl8; simp (disch := omega) only [getK_set, Nat.reduceEqDiff, ↓reduceIte, g0, g1, g2, g4, g12, g13, and_self]) (.inr d2)
  · have d0 : decide ((i : Int) ≤ (j : Int)) = false := decide_eq_false (by omega)
    simp (disch := omega) only [f118_r13, f118_r14, Nat.reduceEqDiff, ↓reduceIte, Bool.false_eq_true, g12, g13, d0, bz]
    exact hQ i _ _ q m (by unfold Sl8; simp (disch := omega) only [getK_set, Nat.reduceEqDiff, ↓reduceIte, g0, g1, g2, g4, g12, g13, and_self]) (.inl (by omega))

def f118_dn1I (h : H) (v : V) (idb : K) (Z W1 : List (Int × Int)) (a b p i j0 : Nat) (j : Nat) (fr : Fr) (h1 : H) : Prop := j ≤ j0 ∧ Par Z a b p W1 i j ∧ Mem h v idb W1 h1 ∧ Sl8 v idb a b i j fr
theorem f118_dn1 {i j : Nat} {h1 : H} {Q : Ex → Fr → H → Prop} (k : CallsTv fs) (hW : Z.length ≤ 1000) (q : Par Z a b p W1 i j) (m : Mem h v idb W1 h1) (g : Sl8 v idb a b i j fr)
    (hQ : ∀ j' fr h1, j' ≤ j → Par Z a b p W1 i j' → Mem h v idb W1 h1 → Sl8 v idb a b i j' fr → (j' < i ∨ bfB (gW W1 j') (gW Z p) = true) → Q (.exit 8) fr h1) : W fs none (.loop f118_l3) Q fr h1 := by
  refine W_loop (f118_dn1I h v idb Z W1 a b p i j) (fun j => j) ?_ j ⟨Nat.le_refl _, q, m, g⟩
  clear q m g
  rintro j' fr h1 ⟨hj, q, m, g0, g1, g2, g4, g12, g13⟩
  have := q.ai
  have := q.jb
  have := q.bl
  have hl := q.pm.len
  unfold f118_l3
  by_cases hlt : i ≤ j'
  · have d0 : decide ((i : Int) ≤ (j' : Int)) = true := decide_eq_true (by omega)
    have ej : (j' : Int) - 1 = ((j' - 1 : Nat) : Int) := by omega
    obtain ⟨p1, a1, a2⟩ := m.sk.atp (i := j') (by omega)
    obtain ⟨p0, b1, b2⟩ := m.sk.atp (i := a) (by omega)
    simp (disch := omega) only [f118_r15, Nat.reduceEqDiff, ↓reduceIte, g0, g1, g4, g12, g13, d0, a1, a2, b1, b2, bz]
    refine cm_call k.toCallsTs m.s m.sk ?_
    intro h4 hs4 o4 s4
    rw [q.pv]
    cases d2 : bfB (gW W1 j') (gW Z p) with
    | false =>
      simp (disch := omega) only [f118_r16, Nat.reduceEqDiff, ↓reduceIte, Bool.not_false, g13, ej, cmP_lt, d2, bz]
      exact ⟨j' - 1, by omega, by omega, q.down hlt d2, ⟨hs4, m.o.trans o4, s4⟩, by unfold Sl8; simp (disch := omega) only [getK_set, Nat.reduceEqDiff, ↓reduceIte, g0, g1, g2, g4, g12, and_self]⟩
    | true =>
      simp (disch := omega) only [f118_r16, Nat.reduceEqDiff, ↓reduceIte, Bool.false_eq_true, Bool.not_true, cmP_lt, d2, bz]
      exact hQ j' _ _ hj q ⟨hs4, m.o.trans o4, s4⟩ (by unfold Sl8; simp (disch := omega) only [getK_set, Nat.reduceEqDiff, ↓reduceIte, g0, g1, g2, g4, g12, g13, and_self]) (.inr d2)
  · have d0 : decide ((i : Int) ≤ (j' : Int)) = false := decide_eq_false (by omega)
    simp (disch := omega) only [f118_r15, f118_r16, Nat.reduceEqDiff, ↓reduceIte, Bool.false_eq_true, g12, g13, d0, bz]
    exact hQ j' _ _ hj q m (by unfold Sl8; simp (disch := omega) only [getK_set, Nat.reduceEqDiff, ↓reduceIte, g0, g1, g2, g4, g12, g13, and_self]) (.inl (by omega))

def f118_M (h : H) (v : V) (idb : K) (Z : List (Int × Int)) (a b p : Nat) (s : Nat × Nat) (fr : Fr) (h1 : H) : Prop := ∃ W1, Par Z a b p W1 s.1 s.2 ∧ Mem h v idb W1 h1 ∧ Sl8 v idb a b s.1 s.2 fr
theorem Mem.ex {h1 : H} {i j : Nat} (m : Mem h v idb W1 h1) (hi : i < W1.length) (hj : j < W1.length) : ∃ pi pj h2 h3, (∀ k h', iadsV 2 v (.i k (i : Int)) h' = .ok pi h') ∧ (∀ k h', iadsV 2 v (.i k (j : Int)) h' = .ok pj h') ∧ loadV h1 pi (many? 2) = .ok (pV (gW W1 i)) h1 ∧ loadV h1 pj (many? 2) = .ok (pV (gW W1 j)) h1 ∧ storeV h1 2 pi (pV (gW W1 j)) = .ok undefV h2 ∧ storeV h2 2 pj (pV (gW W1 i)) = .ok undefV h3 ∧ Mem h v idb (xch W1 i j) h3 := by
  obtain ⟨pi, pj, h5, h6, x1, x2, x3, x4, x5, x6, x7, x8, x9⟩ := m.sk.xch m.s.hc hi hj
  exact ⟨pi, pj, h5, h6, x1, x2, x3, x4, x5, x6, x7, m.o.trans x8, m.s.onl x8⟩
theorem f118_ret (k : CallsTv fs) (s : SoT idb v h) (hv : Sk 2 qE h v Z) (hn : Z.Nodup) (h1 : a ≤ p) (h2 : p < b) (h3 : a + 1 < b) (hb : b ≤ Z.length) (hW : Z.length ≤ 1000) : Ret fs f118 [v, .i .i64 (a : Int), .i .i64 (b : Int), .i .i64 (p : Int), cmV idb] h fun r h' => ∃ (m : Nat) (q : Bool), r = .tup [.i .i64 (m : Int), .b q] ∧ ∃ W1, Mem h v idb W1 h' ∧ Pm a b Z W1 ∧ Cut a b m W1 ∧ gW W1 m = gW Z p := by
  apply ret_of rfl
  show W fs none f118_c _ _ _
  unfold f118_c
  have ea : (a : Int) + 1 = ((a + 1 : Nat) : Int) := by omega
  have eb : (b : Int) - 1 = ((b - 1 : Nat) : Int) := by omega
  have m0 : Mem h v idb Z h := ⟨hv, Onl.refl, s⟩
  have hvb := hv.beq
  obtain ⟨pi, pj, h5, h6, x1, x2, x3, x4, x5, x6, m1⟩ := m0.ex (i := a) (j := p) (by omega) (by omega)
  have q1 := Par.start hn hb h1 h2 h3
  simp (disch := omega) only [f118_r0, f118_r1, f118_r2, Nat.reduceEqDiff, ↓reduceIte, frame_5, ea, eb, x1, x2, x3, x4, x5, x6, hvb, bz]
  clear x1 x2 x3 x4 x5 x6 m0
  refine f118_up0 k hW q1 m1 (by unfold Sl8; simp (disch := omega) only [getK_set, Nat.reduceEqDiff, ↓reduceIte, and_self]) ?_
  clear q1 m1
  intro i fr h7 q m g hu
  simp (disch := omega) only [↓reduceIte, bz]
  refine f118_dn0 k hW q m g ?_
  clear q m g fr h7
  intro j fr h7 hj q m g hd
  obtain ⟨g0, g1, g2, g4, g12, g13⟩ := g
  replace hu : j < i ∨ bfB (gW (xch Z a p) i) (gW Z p) = false := hu.imp (fun e => by omega) id
  generalize xch Z a p = W1 at *
  have hl := q.pm.len
  have hjb := q.jb
  have hai := q.ai
  by_cases hij : j < i
  · have d0 : decide ((i : Int) > (j : Int)) = true := decide_eq_true (by omega)
    obtain ⟨pi, pj, h8, h9, x1, x2, x3, x4, x5, x6, m2⟩ := m.ex (i := j) (j := a) (by omega) (by omega)
    obtain ⟨f1, f2, f3⟩ := q.fin hij
    simp (disch := omega) only [f118_r7, f118_r8, f118_r9, f118_rs, Option.some.injEq, exists_eq_left', Nat.reduceEqDiff, ↓reduceIte, g0, g1, g12, g13, d0, x1, x2, x3, x4, x5, x6, hvb, bz]
    exact ⟨j, true, rfl, _, m2, f1, f2, f3⟩
  · have d0 : decide ((i : Int) > (j : Int)) = false := decide_eq_false (by omega)
    have ej : (j : Int) - 1 = ((j - 1 : Nat) : Int) := by omega
    obtain ⟨pi, pj, h8, h9, x1, x2, x3, x4, x5, x6, m2⟩ := m.ex (i := i) (j := j) (by omega) (by omega)
    obtain ⟨f1, f2⟩ := q.ex (by omega) (hu.resolve_left hij) (hd.resolve_left hij)
    simp (disch := omega) only [f118_r7, f118_r10, f118_r11, f118_r12, Nat.reduceEqDiff, ↓reduceIte, Bool.false_eq_true, g0, g12, g13, d0, ej, x1, x2, x3, x4, x5, x6, hvb, bz]
    clear x1 x2 x3 x4 x5 x6
    refine W_loop (f118_M h v idb Z a b p) (fun s => s.2) ?_ (i + 1, j - 1) ⟨_, f2, m2, by unfold Sl8; simp (disch := omega) only [getK_set, Nat.reduceEqDiff, ↓reduceIte, g0, g1, g2, g4, and_self, Int.natCast_add, Int.natCast_one]⟩
    clear g0 g1 g2 g4 g12 g13 f1 f2 m2 q m hu hd hij d0 ej hl hjb hai fr hj W1 ea eb
    rintro ⟨i, j⟩ fr h7 ⟨W1, q, m, g⟩
    unfold f118_l4
    simp (disch := omega) only [w_seq, w_block]
    refine f118_up1 k hW q m g ?_
    clear q m g fr h7
    intro i fr h7 q m g hu
    simp (disch := omega) only [↓reduceIte, bz]
    refine f118_dn1 k hW q m g ?_
    clear q m g fr h7
    intro j' fr h7 hj q m g hd
    obtain ⟨g0, g1, g2, g4, g12, g13⟩ := g
    replace hu : j' < i ∨ bfB (gW W1 i) (gW Z p) = false := hu.imp (fun e => Nat.lt_of_le_of_lt hj e) id
    have hl := q.pm.len
    have hjb := q.jb
    have hai := q.ai
    by_cases hij : j' < i
    · have d0 : decide ((i : Int) > (j' : Int)) = true := decide_eq_true (by omega)
      obtain ⟨pi, pj, h8, h9, x1, x2, x3, x4, x5, x6, m2⟩ := m.ex (i := j') (j := a) (by omega) (by omega)
      obtain ⟨f1, f2, f3⟩ := q.fin hij
      simp (disch := omega) only [f118_r17, f118_r21, f118_r22, f118_rs, Option.some.injEq, exists_eq_left', Nat.reduceEqDiff, ↓reduceIte, g0, g1, g12, g13, d0, x1, x2, x3, x4, x5, x6, hvb, bz]
      exact ⟨j', false, rfl, _, m2, f1, f2, f3⟩
    · have d0 : decide ((i : Int) > (j' : Int)) = false := decide_eq_false (by omega)
      have ej : (j' : Int) - 1 = ((j' - 1 : Nat) : Int) := by omega
      obtain ⟨pi, pj, h8, h9, x1, x2, x3, x4, x5, x6, m2⟩ := m.ex (i := i) (j := j') (by omega) (by omega)
      obtain ⟨f1, f2⟩ := q.ex (by omega) (hu.resolve_left hij) (hd.resolve_left hij)
      have hj : j' ≤ j := hj
      simp (disch := omega) only [f118_r17, f118_r18, f118_r19, f118_r20, Nat.reduceEqDiff, ↓reduceIte, Bool.false_eq_true, g0, g12, g13, d0, ej, x1, x2, x3, x4, x5, x6, hvb, bz]
      refine ⟨(i + 1, j' - 1), ?_, _, f2, m2, by unfold Sl8; simp (disch := omega) only [getK_set, Nat.reduceEqDiff, ↓reduceIte, g0, g1, g2, g4, and_self, Int.natCast_add, Int.natCast_one]⟩
      show j' - 1 < j
      omega
end
end Go.Ev
namespace Go.Ev
open Go Go.RowKit
noncomputable def f106_r0 : List EOper := [oG 10 (.as (.c (.b true)))]
noncomputable def f106_r1 : List EOper := [oG 11 (.as (.c (.b true)))]
noncomputable def f106_r2 : List EOper := [oG 21 (.mv (tG 2)), oG 22 (.mv (tG 1)), oG 23 (.bin .sub (tG 21) (tG 22)), oG 12 (.as (tG 23))]
noncomputable def f106_r3 : List EOper := [oG 24 (.mv (tG 12)), oG 25 (.bin .leq (tG 24) (cG 12))]
noncomputable def f106_r4 : List EOper := [oG 26 (.mv (tG 0)), oG 27 (.mv (tG 1)), oG 28 (.mv (tG 2)), oG 29 (.mv (tG 4)), oG 30 (.call (fG 111) [(tG 26), (tG 27), (tG 28), (tG 29)])]
noncomputable def f106_r5 : List EOper := [oG 31 (.mv (tG 3)), oG 32 (.bin .eql (tG 31) (cG 0))]
noncomputable def f106_r6 : List EOper := [oG 33 (.mv (tG 0)), oG 34 (.mv (tG 1)), oG 35 (.mv (tG 2)), oG 36 (.mv (tG 4)), oG 37 (.call (fG 112) [(tG 33), (tG 34), (tG 35), (tG 36)])]
noncomputable def f106_r7 : List EOper := [oG 38 (.mv (tG 10)), oG 39 (.not (tG 38))]
noncomputable def f106_r8 : List EOper := [oG 40 (.mv (tG 0)), oG 41 (.mv (tG 1)), oG 42 (.mv (tG 2)), oG 43 (.mv (tG 4)), oG 44 (.call (fG 113) [(tG 40), (tG 41), (tG 42), (tG 43)])]
noncomputable def f106_r9 : List EOper := [oG 45 (.mv (tG 3)), oG 46 (.bin .sub (tG 45) (cG 1)), oG 3 (.as (tG 46))]
noncomputable def f106_r10 : List EOper := [oG 48 (.mv (tG 0)), oG 49 (.mv (tG 1)), oG 50 (.mv (tG 2)), oG 51 (.mv (tG 4)), oG 52 (.call (fG 114) [(tG 48), (tG 49), (tG 50), (tG 51)]), oG 47 (.mv (tG 52)), oG 53 (.ext (tG 47) 0), oG 54 (.ext (tG 47) 1), oG 13 (.as (tG 53)), oG 14 (.as (tG 54))]
noncomputable def f106_r11 : List EOper := [oG 55 (.mv (tG 14)), oG 56 (.bin .eql (tG 55) (cG 2))]
noncomputable def f106_r12 : List EOper := [oG 57 (.mv (tG 0)), oG 58 (.mv (tG 1)), oG 59 (.mv (tG 2)), oG 60 (.mv (tG 4)), oG 61 (.call (fG 115) [(tG 57), (tG 58), (tG 59), (tG 60)])]
noncomputable def f106_r13 : List EOper := [oG 62 (.mv (tG 2)), oG 63 (.bin .sub (tG 62) (cG 1)), oG 64 (.mv (tG 13)), oG 65 (.mv (tG 1)), oG 66 (.bin .sub (tG 64) (tG 65)), oG 67 (.bin .sub (tG 63) (tG 66)), oG 13 (.as (tG 67))]
noncomputable def f106_r14 : List EOper := [oG 14 (.as (cG 1))]
noncomputable def f106_r15 : List EOper := [oG 68 (.mv (tG 10)), oG 69 (.mv (tG 68)), gG 70 69 true (.mv (tG 11)), oG 71 (.pick (tG 69) (tG 70) (.c (.b false))), oG 72 (.mv (tG 71)), gG 73 72 true (.mv (tG 14)), gG 74 72 true (.bin .eql (tG 73) (cG 1)), oG 75 (.pick (tG 72) (tG 74) (.c (.b false)))]
noncomputable def f106_r16 : List EOper := [oG 76 (.mv (tG 0)), oG 77 (.mv (tG 1)), oG 78 (.mv (tG 2)), oG 79 (.mv (tG 4)), oG 80 (.call (fG 116) [(tG 76), (tG 77), (tG 78), (tG 79)])]
noncomputable def f106_r17 : List Stage := [⟨[oG 81 (.mv (tG 1)), oG 82 (.bin .gtr (tG 81) (cG 0)), oG 83 (.mv (tG 82)), gG 84 83 true (.mv (tG 4)), gG 85 83 true (.mv (tG 0)), gG 86 83 true (.mv (tG 1)), gG 87 83 true (.bin .sub (tG 86) (cG 1)), gG 88 83 true (.iads 2 (tG 85) (tG 87)), gG 89 83 true (.ldn 2 (tG 88)), gG 90 83 true (.mv (tG 0)), gG 91 83 true (.mv (tG 13)), gG 92 83 true (.iads 2 (tG 90) (tG 91)), gG 93 83 true (.ldn 2 (tG 92))], [], (some (gG 94 83 true (.call (tG 84) [(tG 89), (tG 93)]))), []⟩, ⟨[gG 95 83 true (.bin .lss (tG 94) (cG 0)), gG 96 83 true (.not (tG 95)), oG 97 (.pick (tG 83) (tG 96) (.c (.b false)))], [], none, []⟩]
noncomputable def f106_r18 : List EOper := [oG 98 (.mv (tG 0)), oG 99 (.mv (tG 1)), oG 100 (.mv (tG 2)), oG 101 (.mv (tG 13)), oG 102 (.mv (tG 4)), oG 103 (.call (fG 117) [(tG 98), (tG 99), (tG 100), (tG 101), (tG 102)]), oG 15 (.as (tG 103))]
noncomputable def f106_r19 : List EOper := [oG 104 (.mv (tG 15)), oG 1 (.as (tG 104))]
noncomputable def f106_r20 : List EOper := [oG 106 (.mv (tG 0)), oG 107 (.mv (tG 1)), oG 108 (.mv (tG 2)), oG 109 (.mv (tG 13)), oG 110 (.mv (tG 4)), oG 111 (.call (fG 118) [(tG 106), (tG 107), (tG 108), (tG 109), (tG 110)]), oG 105 (.mv (tG 111)), oG 112 (.ext (tG 105) 0), oG 113 (.ext (tG 105) 1), oG 16 (.as (tG 112)), oG 17 (.as (tG 113))]
noncomputable def f106_r21 : List EOper := [oG 114 (.mv (tG 17)), oG 11 (.as (tG 114))]
noncomputable def f106_r22 : List EOper := [oG 115 (.mv (tG 16)), oG 116 (.mv (tG 1)), oG 117 (.bin .sub (tG 115) (tG 116)), oG 118 (.mv (tG 2)), oG 119 (.mv (tG 16)), oG 120 (.bin .sub (tG 118) (tG 119)), oG 18 (.as (tG 117)), oG 19 (.as (tG 120))]
noncomputable def f106_r23 : List EOper := [oG 121 (.mv (tG 12)), oG 122 (.bin .quo (tG 121) (cG 8)), oG 20 (.as (tG 122))]
noncomputable def f106_r24 : List EOper := [oG 123 (.mv (tG 18)), oG 124 (.mv (tG 19)), oG 125 (.bin .lss (tG 123) (tG 124))]
noncomputable def f106_r25 : List EOper := [oG 126 (.mv (tG 18)), oG 127 (.mv (tG 20)), oG 128 (.bin .geq (tG 126) (tG 127)), oG 10 (.as (tG 128))]
noncomputable def f106_r26 : List EOper := [oG 129 (.mv (tG 0)), oG 130 (.mv (tG 1)), oG 131 (.mv (tG 16)), oG 132 (.mv (tG 3)), oG 133 (.mv (tG 4)), oG 134 (.call (fG 106) [(tG 129), (tG 130), (tG 131), (tG 132), (tG 133)])]
noncomputable def f106_r27 : List EOper := [oG 135 (.mv (tG 16)), oG 136 (.bin .add (tG 135) (cG 1)), oG 1 (.as (tG 136))]
noncomputable def f106_r28 : List EOper := [oG 137 (.mv (tG 19)), oG 138 (.mv (tG 20)), oG 139 (.bin .geq (tG 137) (tG 138)), oG 10 (.as (tG 139))]
noncomputable def f106_r29 : List EOper := [oG 140 (.mv (tG 0)), oG 141 (.mv (tG 16)), oG 142 (.bin .add (tG 141) (cG 1)), oG 143 (.mv (tG 2)), oG 144 (.mv (tG 3)), oG 145 (.mv (tG 4)), oG 146 (.call (fG 106) [(tG 140), (tG 142), (tG 143), (tG 144), (tG 145)])]
noncomputable def f106_r30 : List EOper := [oG 147 (.mv (tG 16)), oG 2 (.as (tG 147))]
noncomputable def f106_l0 : EC := (.block 1 (.seq (.reg f106_r2) (.seq (.seq (.reg f106_r3) (.cond (tG 25) (.seq (.reg f106_r4) .ret) .skip)) (.seq (.seq (.reg f106_r5) (.cond (tG 32) (.seq (.reg f106_r6) .ret) .skip)) (.seq (.seq (.reg f106_r7) (.cond (tG 39) (.seq (.reg f106_r8) (.reg f106_r9)) .skip)) (.seq (.reg f106_r10) (.seq (.seq (.reg f106_r11) (.cond (tG 56) (.seq (.reg f106_r12) (.seq (.reg f106_r13) (.reg f106_r14))) .skip)) (.seq (.seq (.reg f106_r15) (.cond (tG 75) (.seq (.reg f106_r16) (.cond (tG 80) .ret .skip)) .skip)) (.seq (.seq (.draw f106_r17) (.cond (tG 97) (.seq (.reg f106_r18) (.seq (.reg f106_r19) (.exit 1))) .skip)) (.seq (.reg f106_r20) (.seq (.reg f106_r21) (.seq (.reg f106_r22) (.seq (.reg f106_r23) (.seq (.reg f106_r24) (.cond (tG 125) (.seq (.reg f106_r25) (.seq (.reg f106_r26) (.reg f106_r27))) (.seq (.reg f106_r28) (.seq (.reg f106_r29) (.reg f106_r30))))))))))))))))))
noncomputable def f106_c : EC := (.seq (.reg f106_r0) (.seq (.reg f106_r1) (.block 0 (.loop f106_l0))))
noncomputable def f106 : EF := ⟨148, [], f106_c, none⟩
theorem f106_rs : f106.rs = [] := of_eq_true (eq_self _)
noncomputable def f97_r0 : List EOper := [oG 5 (.mv (tG 0)), oG 6 (.len (tG 5)), oG 4 (.as (tG 6))]
noncomputable def f97_r1 : List EOper := [oG 7 (.mv (tG 0)), oG 8 (.mv (tG 4)), oG 9 (.mv (tG 4)), oG 10 (.conv .u64 (tG 9)), oG 11 (.call (fG 107) [(tG 10)]), oG 12 (.mv (tG 1)), oG 13 (.call (fG 106) [(tG 7), (cG 0), (tG 8), (tG 11), (tG 12)])]
noncomputable def f97_c : EC := (.seq (.reg f97_r0) (.reg f97_r1))
noncomputable def f97 : EF := ⟨14, [], f97_c, none⟩
theorem f97_rs : f97.rs = [] := of_eq_true (eq_self _)
noncomputable def f79_r0 : List EOper := [oG 3 (.box 1 (tG 1))]
noncomputable def f79_r1 : List EOper := [oG 4 (.mv (tG 0)), oG 5 (.mkfn (.ofNat 98) [(tG 3)]), oG 6 (.call (fG 97) [(tG 4), (tG 5)])]
noncomputable def f79_c : EC := (.seq (.reg f79_r0) (.reg f79_r1))
noncomputable def f79 : EF := ⟨7, [], f79_c, none⟩
theorem f79_rs : f79.rs = [] := of_eq_true (eq_self _)
noncomputable def f106_R3 : EC := (.seq (.reg f106_r20) (.seq (.reg f106_r21) (.seq (.reg f106_r22) (.seq (.reg f106_r23) (.seq (.reg f106_r24) (.cond (.t (.ofNat 125)) (.seq (.reg f106_r25) (.seq (.reg f106_r26) (.reg f106_r27))) (.seq (.reg f106_r28) (.seq (.reg f106_r29) (.reg f106_r30)))))))))
noncomputable def f106_R2 : EC := (.seq (.seq (.draw f106_r17) (.cond (.t (.ofNat 97)) (.seq (.reg f106_r18) (.seq (.reg f106_r19) (.exit 1))) .skip)) f106_R3)
noncomputable def f106_R1 : EC := (.seq (.seq (.reg f106_r15) (.cond (.t (.ofNat 75)) (.seq (.reg f106_r16) (.cond (.t (.ofNat 80)) .ret .skip)) .skip)) f106_R2)
theorem f106_l0_e : f106_l0 = (.block 1 (.seq (.reg f106_r2) (.seq (.seq (.reg f106_r3) (.cond (.t (.ofNat 25)) (.seq (.reg f106_r4) .ret) .skip)) (.seq (.seq (.reg f106_r5) (.cond (.t (.ofNat 32)) (.seq (.reg f106_r6) .ret) .skip)) (.seq (.seq (.reg f106_r7) (.cond (.t (.ofNat 39)) (.seq (.reg f106_r8) (.reg f106_r9)) .skip)) (.seq (.reg f106_r10) (.seq (.seq (.reg f106_r11) (.cond (.t (.ofNat 56)) (.seq (.reg f106_r12) (.seq (.reg f106_r13) (.reg f106_r14))) .skip)) f106_R1))))))) := rfl
structure CallsTq (fs : T EF) : Prop extends CallsTv fs where
  c111 : fs.get (K.ofNat 111) = some f111
  c114 : fs.get (K.ofNat 114) = some f114
  c115 : fs.get (K.ofNat 115) = some f115
  c116 : fs.get (K.ofNat 116) = some f116
  c118 : fs.get (K.ofNat 118) = some f118
  c106 : fs.get (K.ofNat 106) = some f106
  c107 : fs.get (K.ofNat 107) = some f107
  c120 : fs.get (K.ofNat 120) = some f120
  c97 : fs.get (K.ofNat 97) = some f97
section
variable {fs : T EF} {h : H} {v : V} {Z W1 W2 : List (Int × Int)} {idb : K} {a b a' b' : Nat} {fr : Fr} {h1 h2 : H}
theorem Mem.tr (m : Mem h v idb W1 h1) (n : Mem h1 v idb W2 h2) : Mem h v idb W2 h2 := ⟨n.sk, m.o.trans n.o, n.s⟩
theorem f111e_ret (hv : Sk 2 qE h v []) : Ret fs f111 [v, .i .i64 0, .i .i64 0, cmV idb] h fun r h' => r = .tup [] ∧ h' = h := by
  apply ret_of rfl
  show W fs none f111_c _ _ _
  unfold f111_c
  have d0 : decide ((1 : Int) < 0) = false := rfl
  simp (disch := omega) only [f111_r0, Nat.reduceEqDiff, ↓reduceIte, Int.zero_add, bz]
  refine W_loop (fun (_ : Unit) fr h1 => h1 = h ∧ fr.get (K.ofNat 0) = some (v) ∧ fr.get (K.ofNat 1) = some (.i .i64 0) ∧ fr.get (K.ofNat 2) = some (.i .i64 0) ∧ fr.get (K.ofNat 3) = some (cmV idb) ∧ fr.get (K.ofNat 8) = some (.i .i64 1)) (fun _ => 0) ?_ () ⟨rfl, by simp (disch := omega) only [getK_set, Nat.reduceEqDiff, ↓reduceIte, and_self]⟩
  rintro _ fr h2 ⟨rfl, g0, g1, g2, g3, g8⟩
  unfold f111_l1
  simp (disch := omega) only [f111_r1, f111_rs, Option.some.injEq, exists_eq_left', Nat.reduceEqDiff, ↓reduceIte, Bool.false_eq_true, g2, g8, d0, and_self, bz]
theorem f106s_ret {n : Int} (k : CallsTq fs) (s : SoT idb v h) (hv : Sk 2 qE h v Z) (hn : Z.Nodup) (hab : a < b) (hl : b ≤ a + 12) (hb : b ≤ Z.length) (hW : Z.length ≤ 40) : Ret fs f106 [v, .i .i64 (a : Int), .i .i64 (b : Int), .i .i64 n, cmV idb] h fun r h' => r = .tup [] ∧ ∃ W1, Mem h v idb W1 h' ∧ Pm a b Z W1 ∧ Srd a b W1 := by
  apply ret_of rfl
  show W fs none f106_c _ _ _
  unfold f106_c
  have d0 : decide ((b : Int) - (a : Int) ≤ 12) = true := decide_eq_true (by omega)
  simp (disch := omega) only [f106_r0, f106_r1, frame_5, bz]
  refine W_loop (fun (_ : Unit) fr h1 => h1 = h ∧ fr.get (K.ofNat 0) = some (v) ∧ fr.get (K.ofNat 1) = some (.i .i64 (a : Int)) ∧ fr.get (K.ofNat 2) = some (.i .i64 (b : Int)) ∧ fr.get (K.ofNat 4) = some (cmV idb)) (fun _ => 0) ?_ () ⟨rfl, by simp (disch := omega) only [getK_set, Nat.reduceEqDiff, ↓reduceIte, and_self]⟩
  rintro _ fr h2 ⟨rfl, g0, g1, g2, g4⟩
  rw [f106_l0_e]
  simp (disch := omega) only [f106_r2, f106_r3, f106_r4, Nat.reduceEqDiff, ↓reduceIte, g0, g1, g2, g4, d0, bz]
  refine (callP_0 (ef := f111) k.c111 rfl (f111_ret k.toCallsTs s hv hn hab hb (by omega))).mono ?_
  rintro r h3 ⟨rfl, W1, hs, pm, sr, ho, s3⟩
  simp (disch := omega) only [f106_rs, Option.some.injEq, exists_eq_left', bz]
  exact ⟨W1, ⟨hs, ho, s3⟩, pm, sr⟩
structure Wst (h : H) (v : V) (idb : K) (Z : List (Int × Int)) (a b a' b' : Nat) (W1 : List (Int × Int)) (h1 : H) : Prop where
  aa : a ≤ a'
  ab : a' < b'
  bb : b' ≤ b
  bl : b ≤ Z.length
  nd : Z.Nodup
  l : b' ≤ a' + 15
  mem : Mem h v idb W1 h1
  pm : Pm a b Z W1
  win : Win a b a' b' W1
  lo : 0 < a' → ∀ t, a' ≤ t → t < b' → bfB (gW W1 (a' - 1)) (gW W1 t) = true
theorem Wst.pm2 (w : Wst h v idb Z a b a' b' W1 h1) (m : Mem h1 v idb W2 h2) (p : Pm a' b' W1 W2) : Wst h v idb Z a b a' b' W2 h2 := by
  have h1 := w.aa
  have h2 := w.bb
  have h3 := w.bl
  have h4 := w.pm.len
  have hn := w.pm.nodup w.nd
  refine { w with mem := w.mem.tr m, pm := w.pm.trans (p.mono h1 h2), win := w.win.pm p hn h1 h2 (by omega), lo := fun z t t1 t2 => ?_ }
  obtain ⟨k, k1, k2, k3⟩ := p.src hn (by omega) t1 t2
  rw [p.out _ (by omega), k3]
  exact w.lo z k k1 k2
def f106_I (h : H) (v : V) (idb : K) (Z : List (Int × Int)) (a b lim : Nat) (s : Nat × Nat) (fr : Fr) (h1 : H) : Prop := ∃ (W1 : List (Int × Int)) (q : Bool), Wst h v idb Z a b s.1 s.2 W1 h1 ∧ fr.get (K.ofNat 0) = some (v) ∧ fr.get (K.ofNat 1) = some (.i .i64 (s.1 : Int)) ∧ fr.get (K.ofNat 2) = some (.i .i64 (s.2 : Int)) ∧ fr.get (K.ofNat 3) = some (.i .i64 (lim : Int)) ∧ fr.get (K.ofNat 4) = some (cmV idb) ∧ fr.get (K.ofNat 10) = some (.b true) ∧ fr.get (K.ofNat 11) = some (.b q)
def f106_P (v : V) (idb : K) (a' b' lim p : Nat) (fr : Fr) : Prop := fr.get (K.ofNat 0) = some (v) ∧ fr.get (K.ofNat 1) = some (.i .i64 (a' : Int)) ∧ fr.get (K.ofNat 2) = some (.i .i64 (b' : Int)) ∧ fr.get (K.ofNat 3) = some (.i .i64 (lim : Int)) ∧ fr.get (K.ofNat 4) = some (cmV idb) ∧ fr.get (K.ofNat 10) = some (.b true) ∧ fr.get (K.ofNat 12) = some (.i .i64 ((b' - a' : Nat) : Int)) ∧ fr.get (K.ofNat 13) = some (.i .i64 (p : Int))
theorem f106_R3_w {lim p : Nat} {Q : Ex → Fr → H → Prop} (k : CallsTq fs) (hW : Z.length ≤ 40) (w : Wst h v idb Z a b a' b' W1 h1) (h12 : a' + 12 < b') (p1 : a' ≤ p) (p2 : p < b') (md : Mid a' b' p W1) (g : f106_P v idb a' b' lim p fr)
    (hQ : ∀ (s : Nat × Nat) fr h2, s.2 - s.1 < b' - a' → f106_I h v idb Z a b lim s fr h2 → Q .normal fr h2) : W fs none f106_R3 Q fr h1 := by
  obtain ⟨g0, g1, g2, g3, g4, g10, g12, g13⟩ := g
  have aa := w.aa
  have bb := w.bb
  have bl := w.bl
  have hl := w.pm.len
  have hn := w.pm.nodup w.nd
  have wl := w.l
  unfold f106_R3
  simp (disch := omega) only [f106_r20, Nat.reduceEqDiff, ↓reduceIte, g0, g1, g2, g4, g13, bz]
  refine (callP_0 (ef := f118) k.c118 rfl (f118_ret k.toCallsTv w.mem.s w.mem.sk hn p1 p2 (by omega) (by omega) (by omega))).mono ?_
  rintro r h3 ⟨m, q, rfl, W2, m2, pm2, cut, em⟩
  obtain ⟨c1, c2⟩ := cut.in pm2 em md hn (by omega)
  have w2 := w.pm2 m2 pm2
  have hn2 := pm2.nodup hn
  have hl2 := pm2.len
  have e1 : (m : Int) - (a' : Int) = ((m - a' : Nat) : Int) := by omega
  have e2 : (b' : Int) - (m : Int) = ((b' - m : Nat) : Int) := by omega
  have e3 : ((b' - a' : Nat) : Int).tdiv 8 = 1 := by
    have : (b' - a') / 8 = 1 := by omega
    have e : ((b' - a' : Nat) : Int).tdiv 8 = (((b' - a') / 8 : Nat) : Int) := rfl
    rw [e, this]; rfl
  have d1 : decide (((m - a' : Nat) : Int) ≥ 1) = true := decide_eq_true (by omega)
  have d2 : decide (((b' - m : Nat) : Int) ≥ 1) = true := decide_eq_true (by omega)
  have em1 : (m : Int) + 1 = ((m + 1 : Nat) : Int) := by omega
  clear md em p1 p2 w
  by_cases hs : m - a' < b' - m
  · have d0 : decide (((m - a' : Nat) : Int) < ((b' - m : Nat) : Int)) = true := decide_eq_true (by omega)
    simp (disch := omega) only [f106_r21, f106_r22, f106_r23, f106_r24, f106_r25, f106_r26, bin_quo, of8, Nat.reduceEqDiff, ↓reduceIte, g0, g1, g2, g3, g4, g12, e1, e2, e3, d0, d1, bz]
    refine (callP_0 (ef := f106) k.c106 rfl (f106s_ret (n := (lim : Int)) (a := a') (b := m) k w2.mem.s w2.mem.sk hn2 (by omega) (by omega) (by omega) (by omega))).mono ?_
    rintro r h4 ⟨rfl, W3, m3, pm3, sr⟩
    have cut3 := cut.pmL pm3 hn2 (by omega)
    have pm3' : Pm a' b' W2 W3 := pm3.mono (Nat.le_refl _) (by omega)
    have w3 := w2.pm2 m3 pm3'
    simp (disch := omega) only [f106_r27, Nat.reduceEqDiff, ↓reduceIte, em1, bz]
    refine hQ (m + 1, b') _ _ (show b' - (m + 1) < b' - a' by omega) ⟨W3, q, ?_, by simp (disch := omega) only [getK_set, Nat.reduceEqDiff, ↓reduceIte, g0, g2, g3, g4, and_self]⟩
    exact { w3 with aa := by omega, ab := by show m + 1 < b'; omega, l := by show b' ≤ m + 1 + 15; omega, win := w3.win.right cut3 sr, lo := fun _ t (t1 : m + 1 ≤ t) t2 => cut3.more t (by omega) t2 }
  · have d0 : decide (((m - a' : Nat) : Int) < ((b' - m : Nat) : Int)) = false := decide_eq_false (by omega)
    simp (disch := omega) only [f106_r21, f106_r22, f106_r23, f106_r24, f106_r28, f106_r29, bin_quo, of8, Nat.reduceEqDiff, ↓reduceIte, Bool.false_eq_true, g0, g1, g2, g3, g4, g12, e1, e2, e3, d0, d2, em1, bz]
    refine (callP_0 (ef := f106) k.c106 rfl (f106s_ret (n := (lim : Int)) (a := m + 1) (b := b') k w2.mem.s w2.mem.sk hn2 (by omega) (by omega) (by omega) (by omega))).mono ?_
    rintro r h4 ⟨rfl, W3, m3, pm3, sr⟩
    have cut3 := cut.pmR pm3 hn2 (by omega)
    have pm3' : Pm a' b' W2 W3 := pm3.mono (by omega) (Nat.le_refl _)
    have w3 := w2.pm2 m3 pm3'
    simp (disch := omega) only [f106_r30, Nat.reduceEqDiff, ↓reduceIte, bz]
    refine hQ (a', m) _ _ (show m - a' < b' - a' by omega) ⟨W3, q, ?_, by simp (disch := omega) only [getK_set, Nat.reduceEqDiff, ↓reduceIte, g0, g1, g3, g4, and_self]⟩
    exact { w3 with ab := by show a' < m; omega, bb := by show m ≤ b; omega, l := by show m ≤ a' + 15; omega, win := w3.win.left cut3 sr, lo := fun z t t1 (t2 : t < m) => w3.lo z t t1 (show t < b' by omega) }
theorem f106_R2_w {lim p : Nat} {Q : Ex → Fr → H → Prop} (k : CallsTq fs) (hW : Z.length ≤ 40) (w : Wst h v idb Z a b a' b' W1 h1) (h12 : a' + 12 < b') (p1 : a' ≤ p) (p2 : p < b') (md : Mid a' b' p W1) (g : f106_P v idb a' b' lim p fr)
    (hQ : ∀ (s : Nat × Nat) fr h2, s.2 - s.1 < b' - a' → f106_I h v idb Z a b lim s fr h2 → Q .normal fr h2) : W fs none f106_R2 Q fr h1 := by
  obtain ⟨g0, g1, g2, g3, g4, g10, g12, g13⟩ := g
  have bb := w.bb
  have bl := w.bl
  have hl := w.pm.len
  unfold f106_R2
  by_cases hz : 0 < a'
  · have d0 : decide ((a' : Int) > 0) = true := decide_eq_true (by omega)
    have ea : (a' : Int) - 1 = ((a' - 1 : Nat) : Int) := by omega
    obtain ⟨q1, a1, a2⟩ := w.mem.sk.atp (i := a' - 1) (by omega)
    obtain ⟨q0, b1, b2⟩ := w.mem.sk.atp (i := p) (by omega)
    simp (disch := omega) only [f106_r17, Nat.reduceEqDiff, ↓reduceIte, g0, g1, g4, g13, d0, ea, a1, a2, b1, b2, bz]
    refine cm_call k.toCallsTs w.mem.s w.mem.sk ?_
    intro h4 hs4 o4 s4
    have dlt := w.lo hz p p1 p2
    simp (disch := omega) only [Nat.reduceEqDiff, ↓reduceIte, Bool.false_eq_true, Bool.not_true, cmP_lt, dlt, bz]
    exact f106_R3_w k hW (w.pm2 ⟨hs4, o4, s4⟩ Pm.refl) h12 p1 p2 md (by unfold f106_P; simp (disch := omega) only [getK_set, Nat.reduceEqDiff, ↓reduceIte, g0, g1, g2, g3, g4, g10, g12, g13, and_self]) hQ
  · have d0 : decide ((a' : Int) > 0) = false := decide_eq_false (by omega)
    simp (disch := omega) only [f106_r17, Nat.reduceEqDiff, ↓reduceIte, Bool.false_eq_true, g1, d0, bz]
    exact f106_R3_w k hW w h12 p1 p2 md (by unfold f106_P; simp (disch := omega) only [getK_set, Nat.reduceEqDiff, ↓reduceIte, g0, g1, g2, g3, g4, g10, g12, g13, and_self]) hQ
theorem f106_R1_w {lim p e : Nat} {q : Bool} {Q : Ex → Fr → H → Prop} (k : CallsTq fs) (hW : Z.length ≤ 40) (w : Wst h v idb Z a b a' b' W1 h1) (h12 : a' + 12 < b') (p1 : a' ≤ p) (p2 : p < b') (md : Mid a' b' p W1) (g : f106_P v idb a' b' lim p fr) (g11 : fr.get (.ofNat 11) = some (.b q)) (g14 : fr.get (.ofNat 14) = some (.i .i64 (e : Int)))
    (hR : ∀ fr h2, Mem h v idb W1 h2 → Srd a b W1 → Q .ret fr h2)
    (hQ : ∀ (s : Nat × Nat) fr h2, s.2 - s.1 < b' - a' → f106_I h v idb Z a b lim s fr h2 → Q .normal fr h2) : W fs none f106_R1 Q fr h1 := by
  have g' := g
  obtain ⟨g0, g1, g2, g3, g4, g10, g12, g13⟩ := g
  have ab := w.ab
  have bb := w.bb
  have bl := w.bl
  have hl := w.pm.len
  have hn := w.pm.nodup w.nd
  unfold f106_R1
  by_cases hq : q = true ∧ e = 1
  · obtain ⟨rfl, rfl⟩ := hq
    have d0 : decide (((1 : Nat) : Int) = 1) = true := rfl
    simp (disch := omega) only [f106_r15, f106_r16, Nat.reduceEqDiff, ↓reduceIte, g0, g1, g2, g4, g10, g11, g14, d0, bz]
    refine (callP_0 (ef := f116) k.c116 rfl (f116_ret k.toCallsTs w.mem.s w.mem.sk hn ab (by omega) (by omega))).mono ?_
    rintro r h4 ⟨⟨t, rfl, ht⟩, hs4, o4, s4⟩
    have m4 : Mem h1 v idb W1 h4 := ⟨hs4, o4, s4⟩
    cases t with
    | true =>
      simp (disch := omega) only [↓reduceIte, bz]
      exact hR _ _ (w.mem.tr m4) (w.win.srd (ht rfl))
    | false =>
      simp (disch := omega) only [↓reduceIte, Bool.false_eq_true, bz]
      exact f106_R2_w k hW (w.pm2 m4 Pm.refl) h12 p1 p2 md (by unfold f106_P; simp (disch := omega) only [getK_set, Nat.reduceEqDiff, ↓reduceIte, g0, g1, g2, g3, g4, g10, g12, g13, and_self]) hQ
  · cases q with
    | false =>
      simp (disch := omega) only [f106_r15, Nat.reduceEqDiff, ↓reduceIte, Bool.false_eq_true, g10, g11, bz]
      exact f106_R2_w k hW w h12 p1 p2 md (by unfold f106_P; simp (disch := omega) only [getK_set, Nat.reduceEqDiff, ↓reduceIte, g0, g1, g2, g3, g4, g10, g12, g13, and_self]) hQ
    | true =>
      have d0 : decide ((e : Int) = 1) = false := decide_eq_false (fun q => hq ⟨rfl, by omega⟩)
      simp (disch := omega) only [f106_r15, Nat.reduceEqDiff, ↓reduceIte, Bool.false_eq_true, g10, g11, g14, d0, bz]
      exact f106_R2_w k hW w h12 p1 p2 md (by unfold f106_P; simp (disch := omega) only [getK_set, Nat.reduceEqDiff, ↓reduceIte, g0, g1, g2, g3, g4, g10, g12, g13, and_self]) hQ
theorem f106_ret {lim : Nat} (k : CallsTq fs) (s : SoT idb v h) (hv : Sk 2 qE h v Z) (hn : Z.Nodup) (hW : Z.length ≤ 15) (h0 : 0 < Z.length) (hlim : 12 < Z.length → 0 < lim) : Ret fs f106 [v, .i .i64 0, .i .i64 (Z.length : Int), .i .i64 (lim : Int), cmV idb] h fun r h' => r = .tup [] ∧ ∃ W1, Mem h v idb W1 h' ∧ Pm 0 Z.length Z W1 ∧ Srd 0 Z.length W1 := by
  by_cases hsm : Z.length ≤ 12
  · exact f106s_ret (a := 0) k s hv hn h0 (by omega) (Nat.le_refl _) (by omega)
  have hlim := hlim (by omega)
  apply ret_of rfl
  show W fs none f106_c _ _ _
  unfold f106_c
  simp (disch := omega) only [f106_r0, f106_r1, frame_5, bz]
  refine W_loop (f106_I h v idb Z 0 Z.length lim) (fun s => s.2 - s.1) ?_ (0, Z.length) ⟨Z, true, ⟨Nat.le_refl _, h0, Nat.le_refl _, Nat.le_refl _, hn, by simpa using hW, ⟨hv, Onl.refl, s⟩, Pm.refl, Win.all, fun z => absurd z (Nat.lt_irrefl _)⟩, by simp (disch := omega) only [getK_set, Nat.reduceEqDiff, ↓reduceIte, and_self, Int.natCast_zero]⟩
  rintro ⟨a', b'⟩ fr h1 ⟨W1, q, w, g0, g1, g2, g3, g4, g10, g11⟩
  have ab : a' < b' := w.ab
  have bb : b' ≤ Z.length := w.bb
  have wl : b' ≤ a' + 15 := w.l
  have hl := w.pm.len
  have hn1 := w.pm.nodup w.nd
  rw [f106_l0_e]
  have el : (b' : Int) - (a' : Int) = ((b' - a' : Nat) : Int) := by omega
  by_cases h12 : b' ≤ a' + 12
  · have d0 : decide (((b' - a' : Nat) : Int) ≤ 12) = true := decide_eq_true (by omega)
    simp (disch := omega) only [f106_r2, f106_r3, f106_r4, Nat.reduceEqDiff, ↓reduceIte, g0, g1, g2, g4, el, d0, bz]
    refine (callP_0 (ef := f111) k.c111 rfl (f111_ret k.toCallsTs w.mem.s w.mem.sk hn1 ab (by omega) (by omega))).mono ?_
    rintro r h3 ⟨rfl, W2, hs, pm, sr, ho, s3⟩
    have w2 := w.pm2 ⟨hs, ho, s3⟩ pm
    simp (disch := omega) only [f106_rs, Option.some.injEq, exists_eq_left', bz]
    exact ⟨W2, w2.mem, w2.pm, w2.win.srd sr⟩
  · have d0 : decide (((b' - a' : Nat) : Int) ≤ 12) = false := decide_eq_false (by omega)
    have d1 : decide ((lim : Int) = 0) = false := decide_eq_false (by omega)
    simp (disch := omega) only [f106_r2, f106_r3, f106_r5, f106_r7, f106_r10, Nat.reduceEqDiff, ↓reduceIte, Bool.false_eq_true, Bool.not_true, g0, g1, g2, g3, g4, g10, el, d0, d1, bz]
    refine (callP_0 (ef := f114) k.c114 rfl (f114_ret k.toCallsTv w.mem.s w.mem.sk hn1 (by omega) (by omega) (by omega))).mono ?_
    rintro r h3 ⟨⟨p, e, rfl, e2, p1, p2, md⟩, hs3, o3, s3⟩
    have w3 := w.pm2 ⟨hs3, o3, s3⟩ Pm.refl
    by_cases he : e = 2
    · subst he
      have d2 : decide (((2 : Nat) : Int) = 2) = true := rfl
      have eb : (b' : Int) - 1 = ((b' - 1 : Nat) : Int) := by omega
      have ep : (p : Int) - (a' : Int) = ((p - a' : Nat) : Int) := by omega
      have ex : ((b' - 1 : Nat) : Int) - ((p - a' : Nat) : Int) = ((b' - 1 - (p - a') : Nat) : Int) := by omega
      simp (disch := omega) only [f106_r11, f106_r12, Nat.reduceEqDiff, ↓reduceIte, g0, g1, g2, g4, d2, bz]
      refine (callP_0 (ef := f115) k.c115 rfl (f115_ret w3.mem.s w3.mem.sk ab (by omega) (by omega))).mono ?_
      rintro r h4 ⟨rfl, W2, hs4, pm4, rv, o4, s4⟩
      have w4 := w3.pm2 ⟨hs4, o4, s4⟩ pm4
      have epv : gW W2 (b' - 1 - (p - a')) = gW W1 p := by
        rw [rv _ (by omega) (by omega)]; congr 1; omega
      have md4 : Mid a' b' (b' - 1 - (p - a')) W2 := by
        obtain ⟨⟨i, i1, i2, i3⟩, ⟨j, j1, j2, j3⟩⟩ := md
        obtain ⟨i', k1, k2, k3⟩ := pm4.symm.src (pm4.nodup hn1) (by rw [pm4.len]; omega) i1 i2
        obtain ⟨j', l1, l2, l3⟩ := pm4.symm.src (pm4.nodup hn1) (by rw [pm4.len]; omega) j1 j2
        exact ⟨⟨i', k1, k2, by rw [epv, ← k3]; exact i3⟩, j', l1, l2, by rw [epv, ← l3]; exact j3⟩
      simp (disch := omega) only [f106_r13, f106_r14, Nat.reduceEqDiff, ↓reduceIte, g1, g2, eb, ep, ex, bz]
      exact f106_R1_w (lim := lim) (p := b' - 1 - (p - a')) (e := 1) (q := q) k (by omega) w4 (by omega) (by omega) (by omega) md4 (by unfold f106_P; simp (disch := omega) only [getK_set, Nat.reduceEqDiff, ↓reduceIte, g0, g1, g2, g3, g4, g10, and_self]) (by simp (disch := omega) only [getK_set, Nat.reduceEqDiff, ↓reduceIte, g11]) (by simp (disch := omega) only [getK_set, ↓reduceIte, Int.natCast_one])
        (fun fr h2 m sr => by simp (disch := omega) only [f106_rs, Option.some.injEq, exists_eq_left', bz]; exact ⟨W2, m, w4.pm, sr⟩) (fun s fr h2 hs hI => by simp (disch := omega) only [atK_n, loopK_n]; exact ⟨s, hs, hI⟩)
    · have d2 : decide ((e : Int) = 2) = false := decide_eq_false (by omega)
      simp (disch := omega) only [f106_r11, Nat.reduceEqDiff, ↓reduceIte, Bool.false_eq_true, d2, bz]
      exact f106_R1_w (lim := lim) (p := p) (e := e) (q := q) k (by omega) w3 (by omega) p1 p2 md (by unfold f106_P; simp (disch := omega) only [getK_set, Nat.reduceEqDiff, ↓reduceIte, g0, g1, g2, g3, g4, g10, and_self]) (by simp (disch := omega) only [getK_set, Nat.reduceEqDiff, ↓reduceIte, g11]) (by simp (disch := omega) only [getK_set, Nat.reduceEqDiff, ↓reduceIte])
        (fun fr h2 m sr => by simp (disch := omega) only [f106_rs, Option.some.injEq, exists_eq_left', bz]; exact ⟨W1, m, w3.pm, sr⟩) (fun s fr h2 hs hI => by simp (disch := omega) only [atK_n, loopK_n]; exact ⟨s, hs, hI⟩)
theorem f120w_ret {n : Nat} (hn : n ≤ 15) : Ret fs f120 [.i .u64 (n : Int)] h fun r h' => (∃ b : Nat, r = .i .i64 (b : Int) ∧ (12 < n → 0 < b)) ∧ h' = h := by
  rcases (show n = 0 ∨ n = 1 ∨ n = 2 ∨ n = 3 ∨ n = 4 ∨ n = 5 ∨ n = 6 ∨ n = 7 ∨ n = 8 ∨ n = 9 ∨ n = 10 ∨ n = 11 ∨ n = 12 ∨ n = 13 ∨ n = 14 ∨ n = 15 by omega) with rfl | rfl | rfl | rfl | rfl | rfl | rfl | rfl | rfl | rfl | rfl | rfl | rfl | rfl | rfl | rfl
  · exact ⟨20, _, _, rfl, ⟨0, rfl, by omega⟩, rfl⟩
  · exact ⟨20, _, _, rfl, ⟨1, rfl, by omega⟩, rfl⟩
  · exact ⟨20, _, _, rfl, ⟨2, rfl, by omega⟩, rfl⟩
  · exact ⟨20, _, _, rfl, ⟨2, rfl, by omega⟩, rfl⟩
  · exact ⟨20, _, _, rfl, ⟨3, rfl, by omega⟩, rfl⟩
  · exact ⟨20, _, _, rfl, ⟨3, rfl, by omega⟩, rfl⟩
  · exact ⟨20, _, _, rfl, ⟨3, rfl, by omega⟩, rfl⟩
  · exact ⟨20, _, _, rfl, ⟨3, rfl, by omega⟩, rfl⟩
  · exact ⟨20, _, _, rfl, ⟨4, rfl, by omega⟩, rfl⟩
  · exact ⟨20, _, _, rfl, ⟨4, rfl, by omega⟩, rfl⟩
  · exact ⟨20, _, _, rfl, ⟨4, rfl, by omega⟩, rfl⟩
  · exact ⟨20, _, _, rfl, ⟨4, rfl, by omega⟩, rfl⟩
  · exact ⟨20, _, _, rfl, ⟨4, rfl, by omega⟩, rfl⟩
  · exact ⟨20, _, _, rfl, ⟨4, rfl, by omega⟩, rfl⟩
  · exact ⟨20, _, _, rfl, ⟨4, rfl, by omega⟩, rfl⟩
  · exact ⟨20, _, _, rfl, ⟨4, rfl, by omega⟩, rfl⟩
theorem f107w_ret {n : Nat} (k : CallsTq fs) (hn : n ≤ 15) : Ret fs f107 [.i .u64 (n : Int)] h fun r h' => (∃ b : Nat, r = .i .i64 (b : Int) ∧ (12 < n → 0 < b)) ∧ h' = h := by
  apply ret_of rfl
  show W fs none f107_c _ _ _
  unfold f107_c
  simp (disch := omega) only [f107_r0, f107_r2, Nat.reduceEqDiff, ↓reduceIte, Bool.false_eq_true, bz]
  refine (callP_0 (ef := f120) k.c120 rfl (f120w_ret hn)).mono ?_
  rintro r h1 ⟨⟨b, rfl, hb⟩, rfl⟩
  simp (disch := omega) only [f107_rs, Option.some.injEq, exists_eq_left', ↓reduceIte, and_true, bz]
  exact ⟨b, rfl, hb⟩
theorem f97_ret (k : CallsTq fs) (s : SoT idb v h) (hv : Sk 2 qE h v Z) (hn : Z.Nodup) (hW : Z.length ≤ 15) : Ret fs f97 [v, cmV idb] h fun r h' => r = .tup [] ∧ ∃ W1, Mem h v idb W1 h' ∧ W1.Perm Z ∧ W1.Pairwise fun x y => bfB x y = true := by
  apply ret_of rfl
  show W fs none f97_c _ _ _
  unfold f97_c
  have hl := hv.len
  have fu : fw .u64 (Z.length : Int) = (Z.length : Int) := by
    show (bif Nat.ble Z.length (kmax .u64) then Int.ofNat Z.length else _) = _
    rw [Nat.ble_eq_true_of_le (show Z.length ≤ kmax .u64 from by show Z.length ≤ 18446744073709551615; omega)]; rfl
  simp (disch := omega) only [f97_r0, f97_r1, x_conv, onI_i, Nat.reduceEqDiff, ↓reduceIte, hl, fu, bz]
  refine (callP_0 (ef := f107) k.c107 rfl (f107w_ret k hW)).mono ?_
  rintro r h2 ⟨⟨b, rfl, hb⟩, rfl⟩
  simp (disch := omega) only [Nat.reduceEqDiff, ↓reduceIte, bz]
  by_cases h0 : 0 < Z.length
  · refine (callP_0 (ef := f106) k.c106 rfl (f106_ret k s hv hn hW h0 hb)).mono ?_
    rintro r h3 ⟨rfl, W1, m, pm, sr⟩
    simp (disch := omega) only [f97_rs, Option.some.injEq, exists_eq_left', bz]
    refine ⟨W1, m, pm.perm, Srd.pair ?_⟩
    rw [pm.len]; exact sr
  · have hz : Z = [] := List.length_eq_zero_iff.1 (by omega)
    subst hz
    refine (callP_0 (ef := f106) k.c106 rfl (P := fun r h' => r = .tup [] ∧ h' = h2) ?_).mono ?_
    · apply ret_of rfl
      show W fs none f106_c _ _ _
      unfold f106_c
      have d0 : decide ((0 : Int) ≤ 12) = true := rfl
      simp (disch := omega) only [f106_r0, f106_r1, frame_5, List.length_nil, Int.natCast_zero, bz]
      refine W_loop (fun (_ : Unit) fr h1 => h1 = h2 ∧ fr.get (K.ofNat 0) = some (v) ∧ fr.get (K.ofNat 1) = some (.i .i64 0) ∧ fr.get (K.ofNat 2) = some (.i .i64 0) ∧ fr.get (K.ofNat 4) = some (cmV idb)) (fun _ => 0) ?_ () ⟨rfl, by simp (disch := omega) only [getK_set, Nat.reduceEqDiff, ↓reduceIte, and_self]⟩
      rintro _ fr h2 ⟨rfl, g0, g1, g2, g4⟩
      rw [f106_l0_e]
      simp (disch := omega) only [f106_r2, f106_r3, f106_r4, Nat.reduceEqDiff, ↓reduceIte, g0, g1, g2, g4, Int.sub_self, d0, bz]
      refine (callP_0 (ef := f111) k.c111 rfl (f111e_ret hv)).mono ?_
      rintro r h3 ⟨rfl, rfl⟩
      simp (disch := omega) only [f106_rs, Option.some.injEq, exists_eq_left', and_self, bz]
    · rintro r h3 ⟨rfl, rfl⟩
      simp (disch := omega) only [f97_rs, Option.some.injEq, exists_eq_left', bz]
      exact ⟨[], ⟨hv, Onl.refl, s⟩, .refl _, .nil⟩
theorem f79_ret {bd : Nat} (k : CallsTq fs) (hv : Sk 2 qE h v Z) (hn : Z.Nodup) (hW : Z.length ≤ 15) (ho : Own bd v) (hb : bd ≤ h.nx.nat) (hc : HC h) : Ret fs f79 [v, .fn (.ofNat 80) []] h fun r h' => r = .tup [] ∧ ∃ W1, Sk 2 qE h' v W1 ∧ W1.Perm Z ∧ (W1.Pairwise fun x y => bfB x y = true) ∧ Grow bd h h' := by
  apply ret_of rfl
  show W fs none f79_c _ _ _
  unfold f79_c
  have cf : cellsN 1 (.fn (K.ofNat 80) []) = some [.fn (K.ofNat 80) []] := rfl
  have gr1 : Grow h.nx.nat h (h.new (.cells 1 [.fn (K.ofNat 80) []])) := Grow.new (Nat.le_refl _) _
  have e1 : (h.new (.cells 1 [.fn (K.ofNat 80) []])).get h.nx = .cells 1 [.fn (K.ofNat 80) []] := get_new_same
  simp (disch := omega) only [f79_r0, f79_r1, x_mkfn, Nat.reduceEqDiff, ↓reduceIte, cf, bz]
  generalize h.new (.cells 1 [.fn (K.ofNat 80) []]) = h2 at *
  have hlt := hv.lt hc
  refine (callP_0 (ef := f97) k.c97 rfl (f97_ret (idb := h.nx) k ⟨e1, fun off n sz e => by have := hlt _ _ _ _ e; omega, gr1.hc hc⟩ (hv.grow hc gr1) hn hW)).mono ?_
  rintro r h3 ⟨rfl, W1, m, pm, pw⟩
  simp (disch := omega) only [f79_rs, Option.some.injEq, exists_eq_left', bz]
  exact ⟨W1, m.sk, pm, pw, (gr1.low hb).trans (m.o.grow ho (Nat.le_trans hb gr1.nx))⟩
end
end Go.Ev
namespace Go.Ev
open Go Go.RowKit
section
variable {fs : T EF} {h h' : H}
/-! ### Plain -/
noncomputable def newB (G : List Bool) (i : Nat) (x : Nat × Nat) : Bool := !((arw (rat G)).take i).any fun y => rat (clsR G y) x.1 x.2
noncomputable def cnN (G : List Bool) : Nat → Nat
  | 0 => 0
  | i + 1 => cnN G i + (match (arw (rat G))[i]? with | some x => if newB G i x = true then 1 else 0 | none => 0)
theorem cnN_le {G : List Bool} : ∀ i, cnN G i ≤ i
  | 0 => Nat.le_refl _
  | i + 1 => by
    have := cnN_le (G := G) i
    show cnN G i + _ ≤ i + 1
    split
    · split <;> omega
    · omega
noncomputable def seenB (G : List Bool) (i : Nat) (a b : Nat) : Bool := ((arw (rat G)).take i).any fun y => rat (clsR G y) a b
theorem seen_succ {G : List Bool} {i : Nat} {x : Nat × Nat} (hx : (arw (rat G))[i]? = some x) (a b : Nat) : seenB G (i + 1) a b = (seenB G i a b || rat (clsR G x) a b) := by
  unfold seenB
  rw [List.take_add_one, hx, List.any_append]
  simp
theorem seen_old {G : List Bool} {i : Nat} {x : Nat × Nat} (hx : (arw (rat G))[i]? = some x) (hn : newB G i x = false) : rl (seenB G (i + 1)) = rl (seenB G i) := by
  refine rl_congr fun a b _ _ => ?_
  rw [seen_succ hx, Bool.eq_iff_iff, Bool.or_eq_true]
  refine ⟨fun h => h.elim id fun h => ?_, .inl⟩
  unfold newB at hn
  rw [Bool.not_eq_false', List.any_eq_true] at hn
  obtain ⟨y, hy, hyx⟩ := hn
  unfold seenB
  rw [List.any_eq_true]
  refine ⟨y, hy, ?_⟩
  have hyl := arw_lt (List.mem_of_mem_take hy)
  have hxl := arw_lt (List.mem_of_getElem? hx)
  exact (clsR_iff ⟨hyl.1, hyl.2.1⟩).2 (((clsR_iff ⟨hyl.1, hyl.2.1⟩).1 hyx).trans ((clsR_iff ⟨hxl.1, hxl.2.1⟩).1 h))
theorem seen_new {G : List Bool} {i : Nat} {x : Nat × Nat} (hx : (arw (rat G))[i]? = some x) : jnR [rl (seenB G i), clsR G x] = rl (seenB G (i + 1)) := by
  have l1 : (jnR [rl (seenB G i), clsR G x]).length = 49 := rl_len
  refine rel_ext l1 rl_len fun a b ha hb => ?_
  rw [Bool.eq_iff_iff, rat_rl, decide_eq_true ha, decide_eq_true hb, Bool.true_and, Bool.true_and, seen_succ hx, Bool.or_eq_true]
  show rat (jn2 (rl (seenB G i)) (clsR G x)) a b = true ↔ _
  rw [jn2_iff, rat_rl, decide_eq_true ha, decide_eq_true hb, Bool.true_and, Bool.true_and]
end
end Go.Ev
namespace Go.Ev
open Go Go.RowKit
noncomputable def f51_r0 : List EOper := [oG 1 (.box 49 (tG 0)), oG 2 (.as (cG 0))]
noncomputable def f51_r1 : List EOper := [oG 3 (.alloc 1 [(.i .i64 (.ofNat 0))]), ⟨none, none, .st 1 (tG 3) (cG 0)⟩]
noncomputable def f51_r2 : List EOper := [oG 4 (.alloc 49 (List.replicate 49 (.b false)))]
noncomputable def f51_r3 : List EOper := [oG 6 (.ldn 49 (tG 1)), oG 7 (.call (fG 84) [(tG 6)])]
noncomputable def f51_r4 : List EOper := [oG 5 (.alloc 2 [(.i .i64 (.ofNat 0)), (.i .i64 (.ofNat 0))]), ⟨none, none, .st 2 (tG 5) (tG 8)⟩]
noncomputable def f51_a0 : EC := (.reg f51_r4)
noncomputable def f51_r5 : List EOper := [oG 9 (.ldn 49 (tG 4)), oG 10 (.ldn 2 (tG 5)), oG 11 (.call (fG 85) [(tG 9), (tG 10)]), oG 12 (.not (tG 11))]
noncomputable def f51_r6 : List Stage := [⟨[oG 13 (.ldn 49 (tG 4)), oG 14 (.ldn 49 (tG 1)), oG 15 (.ldn 2 (tG 5))], [], (some (oG 16 (.call (fG 57) [(tG 14), (tG 15)]))), []⟩, ⟨[oG 17 (.bslice 2 49 (List.replicate 98 (.b false)) [(0, 49, (tG 13)), (49, 49, (tG 16))])], [oG 13 (.ldn 49 (tG 4))], (some (oG 18 (.call (fG 69) [(tG 17)]))), [(.ofNat 17)]⟩, ⟨[], [], (some ⟨none, none, .st 49 (tG 4) (tG 18)⟩), []⟩, ⟨[], [], none, []⟩]
noncomputable def f51_r7 : List EOper := [oG 19 (.ld (tG 3)), oG 20 (.bin .add (tG 19) (cG 1)), ⟨none, none, .st 1 (tG 3) (tG 20)⟩]
noncomputable def f51_b0 : EC := (.block 1 (.seq (.reg f51_r5) (.cond (tG 12) (.seq (.draw f51_r6) (.reg f51_r7)) .skip)))
noncomputable def f51_r8 : List EOper := [oG 21 (.ld (tG 3)), oG 2 (.as (tG 21))]
noncomputable def f51_c : EC := (.seq (.reg f51_r0) (.seq (.reg f51_r1) (.seq (.reg f51_r2) (.seq (.seq (.reg f51_r3) (.block 0 (.rangeF (tG 7) [(.ofNat 8)] f51_a0 f51_b0))) (.seq (.reg f51_r8) .ret)))))
noncomputable def f51 : EF := ⟨22, [.tmp (.ofNat 2)], f51_c, none⟩
theorem f51_rs : f51.rs = [.tmp (.ofNat 2)] := of_eq_true (eq_self _)
noncomputable def f13_r0 : List EOper := [oG 4 (.as (cG 0)), oG 5 (.as (cG 0))]
noncomputable def f13_r1 : List EOper := [oG 7 (.mv (tG 0)), oG 8 (.mv (tG 1)), oG 9 (.call (fG 47) [(tG 7), (tG 8)]), oG 6 (.as (tG 9))]
noncomputable def f13_r2 : List EOper := [oG 10 (.mv (tG 6)), oG 11 (.bin .neq (tG 10) (cG 0))]
noncomputable def f13_r3 : List EOper := [oG 12 (.mv (tG 6)), oG 4 (.as (cG 0)), oG 5 (.as (tG 12))]
noncomputable def f13_r4 : List EOper := [oG 13 (.mv (tG 1)), oG 14 (.call (fG 48) [(tG 13)]), oG 15 (.call (fG 51) [(tG 14)]), oG 4 (.as (tG 15)), oG 5 (.as (cG 0))]
noncomputable def f13_c : EC := (.seq (.reg f13_r0) (.seq (.seq (.reg f13_r1) (.seq (.reg f13_r2) (.cond (tG 11) (.seq (.reg f13_r3) .ret) .skip))) (.seq (.reg f13_r4) .ret)))
noncomputable def f13 : EF := ⟨16, [.tmp (.ofNat 4), .tmp (.ofNat 5)], f13_c, none⟩
theorem f13_rs : f13.rs = [.tmp (.ofNat 4), .tmp (.ofNat 5)] := of_eq_true (eq_self _)
section
variable {fs : T EF} {h h' : H}
structure CallsCn (fs : T EF) : Prop extends CallsNo fs, CallsCs fs where
  c21 : fs.get (K.ofNat 21) = some f21
  c51 : fs.get (K.ofNat 51) = some f51
theorem f51_ret {L : List Bool} (k : CallsNo fs) (hS : SymR L) (hc : HC h) : Ret fs f51 [rV L] h fun r h' => r = .i .i64 (cnN L (arw (rat L)).length : Int) ∧ Grow h.nx.nat h h' := by
  have hL := hS.len
  have h49 : (arw (rat L)).length ≤ 49 := by
    have := arI_len (g := rat L)
    unfold arI at this
    rw [List.length_map] at this; exact this
  apply ret_of rfl
  show W fs none f51_c _ _ _
  unfold f51_c
  have c1 := rC_cells hL
  have n1 := nx_new h (.cells 49 (L.map V.b))
  have gr1 : Grow h.nx.nat h (h.new (.cells 49 (L.map V.b))) := Grow.new (Nat.le_refl _) _
  have e1 : (h.new (.cells 49 (L.map V.b))).get h.nx = rC L := get_new_same
  simp (disch := omega) only [f51_r0, ↓reduceIte, c1, bz]
  generalize h.new (.cells 49 (L.map V.b)) = h1 at *
  have n2 := nx_new h1 (.cells 1 [.i .i64 0])
  have s2 : storeV (h1.new (.cells 1 [.i .i64 0])) 1 (.p h1.nx 0) (.i .i64 0) = .ok undefV ((h1.new (.cells 1 [.i .i64 0])).put h1.nx (.cells 1 [.i .i64 0])) := st1 get_new_same rfl
  have gr2 : Grow h1.nx.nat h1 ((h1.new (.cells 1 [.i .i64 0])).put h1.nx (.cells 1 [.i .i64 0])) := (Grow.new (Nat.le_refl _) _).trans (Grow.put (Nat.le_refl _) (by omega) _)
  have e2 : ((h1.new (.cells 1 [.i .i64 0])).put h1.nx (.cells 1 [.i .i64 0])).get h1.nx = .cells 1 [.i .i64 0] := get_put_same
  have n2' : ((h1.new (.cells 1 [.i .i64 0])).put h1.nx (.cells 1 [.i .i64 0])).nx.nat = h1.nx.nat + 1 := n2
  simp (disch := omega) only [f51_r1, ↓reduceIte, s2, bz]
  generalize (h1.new (.cells 1 [.i .i64 0])).put h1.nx (.cells 1 [.i .i64 0]) = h2 at *
  have n3 := nx_new h2 (.cells 49 (List.replicate 49 (.b false)))
  have gr3 : Grow h2.nx.nat h2 (h2.new (.cells 49 (List.replicate 49 (.b false)))) := Grow.new (Nat.le_refl _) _
  have e3 : (h2.new (.cells 49 (List.replicate 49 (.b false)))).get h2.nx = rC (rl fun _ _ => false) := by rw [rl_false]; exact get_new_same
  have l1 := rC_ldn hL ((gr3.old h.nx (by omega)).trans ((gr2.old h.nx (by omega)).trans e1))
  simp (disch := omega) only [f51_r2, f51_r3, Nat.reduceEqDiff, ↓reduceIte, l1, bz]
  generalize h2.new (.cells 49 (List.replicate 49 (.b false))) = h3 at *
  have hc3 := gr3.hc (gr2.hc (gr1.hc hc))
  refine (callP_0 (ef := f84) k.c84 rfl (f84_ret hL)).mono ?_
  rintro r h4 ⟨rfl, rfl⟩
  have n4 := nx_new h3 (rC L)
  have gr4 : Grow h3.nx.nat h3 (h3.new (rC L)) := Grow.new (Nat.le_refl _) _
  have e4 : (h3.new (rC L)).get h3.nx = rC L := get_new_same
  have hc4 := gr4.hc hc3
  have b1 := (gr4.old h.nx (by omega)).trans ((gr3.old h.nx (by omega)).trans ((gr2.old h.nx (by omega)).trans e1))
  have b2 := (gr4.old h1.nx (by omega)).trans ((gr3.old h1.nx (by omega)).trans e2)
  have b3 := (gr4.old h2.nx (by omega)).trans e3
  have gA : Grow h.nx.nat h (h3.new (rC L)) := gr1.trans ((gr2.low (by omega)).trans ((gr3.low (by omega)).trans (gr4.low (by omega))))
  simp (disch := omega) only [bz]
  generalize h3.new (rC L) = h4 at *
  generalize hfr : T.set (K.ofNat 7) _ _ = fr
  have g1 : fr.get (K.ofNat 1) = some (.p h.nx 0) := by rw [← hfr]; simp only [getK_set, Nat.reduceEqDiff, ↓reduceIte]
  have g3 : fr.get (K.ofNat 3) = some (.p h1.nx 0) := by rw [← hfr]; simp only [getK_set, Nat.reduceEqDiff, ↓reduceIte]
  have g4 : fr.get (K.ofNat 4) = some (.p h2.nx 0) := by rw [← hfr]; simp only [getK_set, Nat.reduceEqDiff, ↓reduceIte]
  have g7 : fr.get (K.ofNat 7) = some (.fn (K.ofNat 101) [.p h3.nx 0]) := by rw [← hfr]; simp only [getK_set, ↓reduceIte]
  clear hfr
  have ne12 : h1.nx ≠ h2.nx := kNe (by omega)
  refine W_itr (by simp (disch := omega) only [ev_t, getV_some, g7]) (all_yieldsR hL k.c101) (fun id => id = h1.nx ∨ id = h2.nx) (fun i h5 => h5.get h1.nx = .cells 1 [.i .i64 (cnN L i : Int)] ∧ h5.get h2.nx = rC (rl (seenB L i))) (fun _ _ => False) hc4 rfl (by rintro id (rfl | rfl) <;> omega)
    (fun h5 ks => (ks.old _ (by omega) (by rintro (e | e) <;> (have := congrArg K.nat e; omega))).trans e4) ?_ (fun _ _ _ h _ _ _ => h.elim) ?_ ?_ ?_ (fun _ _ _ h => h.elim)
  · rintro i h5 h6 ⟨q1, q2⟩ hc5 hn ho
    exact ⟨by rw [ho _ (by omega) (kNe (by omega))]; exact q1, by rw [ho _ (by omega) (kNe (by omega))]; exact q2⟩
  · intro h5 hg
    refine ⟨(hg.old _ (by omega)).trans b2, ?_⟩
    rw [hg.old _ (by omega), b3]
    congr 1
  · rintro i ⟨x, y⟩ h5 hx hk hn ⟨q1, q2⟩
    obtain ⟨hst, gB, c7, n5⟩ := arr_var (h := h5) (x := x) (y := y)
    have hxm := List.mem_of_getElem? hx
    obtain ⟨m1, m2, m3⟩ := arw_lt hxm
    have m1 : x < 7 := m1
    have m2 : y < 7 := m2
    have hil := get_lt hx
    have ne : ∀ {id : K}, id.nat < h1.nx.nat → ¬ (id = h1.nx ∨ id = h2.nx) := fun h e => by rcases e with e | e <;> (have := congrArg K.nat e; omega)
    have d1 := (gB.old h.nx (by omega)).trans ((hk.old h.nx (by omega) (ne (by omega))).trans b1)
    have d2 := (gB.old h1.nx (by omega)).trans q1
    have d3 := (gB.old h2.nx (by omega)).trans q2
    unfold f51_a0
    simp (disch := omega) only [f51_r4, Nat.reduceEqDiff, ↓reduceIte, hst, itA_n, bz]
    generalize (h5.new (.cells 2 [.i .i64 0, .i .i64 0])).put h5.nx (.cells 2 [.i .i64 (x : Int), .i .i64 (y : Int)]) = h6 at *
    refine ⟨gB, fun h7 n7 hc7 o7 lp7 => ?_⟩
    have n7' : h7.nx.nat = h6.nx.nat := congrArg K.nat n7
    have z1 := (o7 h.nx (kNe (by omega))).trans d1
    have z2 := (o7 h1.nx (kNe (by omega))).trans d2
    have z3 := (o7 h2.nx (kNe (by omega))).trans d3
    have hSn : (rl (seenB L i)).length = 49 := rl_len
    have lS := rC_ldn hSn z3
    have lL := rC_ldn hL z1
    have l6 := ldn2 ((o7 _ (kNe hn).symm).trans c7)
    have hav : V.agg [.i .i64 (x : Int), .i .i64 (y : Int)] = aV (x, y) := rfl
    have hhas : hasR (rl (seenB L i)) ((x : Int), (y : Int)) = !newB L i (x, y) := by
      rw [hasR_nat m1 m2, rat_rl, decide_eq_true m1, decide_eq_true m2, Bool.true_and, Bool.true_and]
      unfold newB seenB
      rw [Bool.not_not]
    have k85 : ∀ h P, (rl (seenB L i)).length = 49 → CallP fs (.fn (K.ofNat 85) []) [rV (rl (seenB L i)), aV (x, y)] h P = P (.b (hasR (rl (seenB L i)) ((x : Int), (y : Int)))) h := k.n85 (rl (seenB L i)) ((x : Int), (y : Int))
    have kr7 : Kr (fun id => id = h1.nx ∨ id = h2.nx) h4.nx h7 h7 := Kr.refl hc7
    have hcn : cnN L (i + 1) = cnN L i + (if newB L i (x, y) = true then 1 else 0) := by
      show cnN L i + (match (arw (rat L))[i]? with | some x => if newB L i x = true then 1 else 0 | none => 0) = _
      rw [hx]
    unfold f51_b0
    cases hnew : newB L i (x, y) with
    | false =>
      rw [hnew] at hhas
      rw [hnew, if_neg (by simp), Nat.add_zero] at hcn
      simp (disch := omega) only [f51_r5, Nat.reduceEqDiff, ↓reduceIte, Bool.false_eq_true, Bool.not_true, Bool.not_false, g4, lS, l6, hav, k85 _ _ hSn, hhas, itC_n, bz]
      exact ⟨⟨by rw [hcn]; exact z2, by rw [seen_old hx hnew]; exact z3⟩, kr7⟩
    | true =>
      rw [hnew] at hhas
      rw [hnew, if_pos rfl] at hcn
      have hcl := cnN_le (G := L) i
      have hK : (clsR L (x, y)).length = 49 := clsR_len
      have k57 := k.n57 L (x, y)
      have cS := rC_cells hSn
      have cK := rC_cells hK
      simp (disch := omega) only [f51_r5, f51_r6, Option.some.injEq, exists_eq_left', Nat.reduceEqDiff, ↓reduceIte, Bool.not_true, Bool.not_false, g1, g4, lS, l6, lL, hav, k85 _ _ hSn, hhas, k57 _ _ hL ⟨m1, m2⟩, fill_c, cS, cK, set98a hSn, set98b hSn hK, hc7.dead, bz]
      refine ⟨fresh_one (n := 2) (sz := 49) (by simp (disch := omega) only [getK_set, ↓reduceIte]), ?_⟩
      have gL : Grow h7.nx.nat h7 (h7.new (.cells (2 * 49) ((rl (seenB L i)).map V.b ++ (clsR L (x, y)).map V.b))) := Grow.new (Nat.le_refl _) _
      have hr8 := Rs.two (h := h7) hSn hK
      have n8 := nx_new h7 (.cells (2 * 49) ((rl (seenB L i)).map V.b ++ (clsR L (x, y)).map V.b))
      have hc8 := gL.hc hc7
      have lS8 := rC_ldn hSn ((gL.old h2.nx (by omega)).trans z3)
      simp (disch := omega) only [true_and, again_ok, lS8, beq_rV]
      generalize h7.new (.cells (2 * 49) ((rl (seenB L i)).map V.b ++ (clsR L (x, y)).map V.b)) = h8 at *
      have hall : ∀ z ∈ [rl (seenB L i), clsR L (x, y)], z.length = 49 := fun z hz => by
        simp only [List.mem_cons, List.not_mem_nil, or_false] at hz
        rcases hz with rfl | rfl
        · exact hSn
        · exact hK
      refine (callP_0 (ef := f69) k.c69 rfl (f69_ret k.c84 k.c101 hr8 hall (by simp) hc8)).mono ?_
      rintro r h9 ⟨rfl, g9⟩
      have hc9 := g9.hc hc8
      have g79 : Grow h7.nx.nat h7 h9 := gL.trans (g9.low (by omega))
      rw [seen_new hx]
      have hSn2 : (rl (seenB L (i + 1))).length = 49 := rl_len
      have z3' := (g79.old h2.nx (by omega)).trans z3
      have z2' := (g79.old h1.nx (by omega)).trans z2
      have s9 := rC_stn hSn2 hSn z3'
      have g79n := g79.nx
      have z2'' : (h9.put h2.nx (rC (rl (seenB L (i + 1))))).get h1.nx = .cells 1 [.i .i64 (cnN L i : Int)] := (get_put_other ne12).trans z2'
      have l10 := load_p (off := 0) z2'' (show nth [V.i .i64 (cnN L i : Int)] 0 = some _ from rfl)
      have s10 : storeV (h9.put h2.nx (rC (rl (seenB L (i + 1))))) 1 (.p h1.nx 0) (.i .i64 ((cnN L i : Int) + 1)) = .ok undefV ((h9.put h2.nx (rC (rl (seenB L (i + 1))))).put h1.nx (.cells 1 [.i .i64 ((cnN L i : Int) + 1)])) := st1 z2'' rfl
      simp (disch := omega) only [f51_r7, Nat.reduceEqDiff, ↓reduceIte, g3, g4, s9, l10, s10, itC_n, bz]
      refine ⟨⟨?_, ?_⟩, ?_⟩
      · rw [get_put_same, hcn]; rfl
      · rw [get_put_other ne12.symm]; exact get_put_same
      · exact (((kr7.grow g79 (by omega)).put (by omega) (.inl (.inr rfl)) _).put (by rw [nx_put]; omega) (.inl (.inl rfl)) _)
  · rintro h5 ⟨q1, q2⟩ hk hn
    have l5 := load_p (off := 0) q1 (show nth [V.i .i64 (cnN L (arw (rat L)).length : Int)] 0 = some _ from rfl)
    simp (disch := omega) only [f51_r8, f51_rs, Option.some.injEq, exists_eq_left', ↓reduceIte, g3, l5, bz]
    exact gA.trans (hk.toGrow (by rintro id (rfl | rfl) <;> omega) (by omega))
theorem f13_ret {n : Nat} {v : V} {g : Nat → Nat → Bool} (k : CallsCn fs) (hg : Gph n g) (hv : Srp h v (arI g)) (hc : HC h) : Ret fs f13 [.i .i64 (n : Int), v] h fun r h' => r = .tup [.i .i64 (cnN (gR (arI g)) (arw (rat (gR (arI g)))).length : Int), .i .i64 0] ∧ Grow h.nx.nat h h' := by
  have hlb := arI_len (g := g)
  apply ret_of rfl
  show W fs none f13_c _ _ _
  unfold f13_c
  simp (disch := omega) only [f13_r0, f13_r1, Nat.reduceEqDiff, ↓reduceIte, bz]
  refine (callP_0 (ef := f47) k.c47 rfl (f47_ret k.toCallsCk hv (by omega) hc)).mono ?_
  rintro r h1 ⟨rfl, gr1⟩
  rw [chkG_g hg]
  have ne0 : decide ((0 : Int) ≠ 0) = false := rfl
  have hc1 := gr1.hc hc
  simp (disch := omega) only [f13_r2, f13_r4, Nat.reduceEqDiff, ↓reduceIte, Bool.false_eq_true, ne0, bz]
  refine (callP_0 (ef := f48) k.c48 rfl (f48_ret k.toNat2 (hv.grow hc gr1) nd_arI (by omega) hc1)).mono ?_
  rintro r h2 ⟨rfl, gr2⟩
  have hc2 := gr2.hc hc1
  simp (disch := omega) only [↓reduceIte, bz]
  refine (callP_0 (ef := f51) k.c51 rfl (f51_ret k.toCallsNo (symR_g hg) hc2)).mono ?_
  rintro r h3 ⟨rfl, gr3⟩
  simp (disch := omega) only [f13_rs, Option.some.injEq, exists_eq_left', Nat.reduceEqDiff, ↓reduceIte, bz]
  exact gr1.trans ((gr2.low gr1.nx).trans (gr3.low (by have := gr1.nx; have := gr2.nx; omega)))
end
end Go.Ev
namespace Go.Ev
open Go Go.RowKit
noncomputable def f19_r0 : List EOper := [oG 5 (.box 2 (tG 2)), oG 6 (.as (.c (.b false)))]
noncomputable def f19_r1 : List EOper := [oG 7 (.iadr 2 1 (tG 5) (cG 0)), oG 8 (.ld (tG 7)), oG 9 (.bin .geq (tG 8) (cG 0)), oG 10 (.mv (tG 9)), gG 11 10 true (.iadr 2 1 (tG 5) (cG 1)), gG 12 10 true (.ld (tG 11)), gG 13 10 true (.bin .geq (tG 12) (cG 0)), oG 14 (.pick (tG 10) (tG 13) (.c (.b false))), oG 15 (.mv (tG 14)), gG 16 15 true (.iadr 2 1 (tG 5) (cG 0)), gG 17 15 true (.ld (tG 16)), gG 18 15 true (.mv (tG 0)), gG 19 15 true (.bin .lss (tG 17) (tG 18)), oG 20 (.pick (tG 15) (tG 19) (.c (.b false))), oG 21 (.mv (tG 20)), gG 22 21 true (.iadr 2 1 (tG 5) (cG 1)), gG 23 21 true (.ld (tG 22)), gG 24 21 true (.mv (tG 0)), gG 25 21 true (.bin .lss (tG 23) (tG 24)), oG 26 (.pick (tG 21) (tG 25) (.c (.b false))), oG 27 (.mv (tG 26)), gG 28 27 true (.iadr 2 1 (tG 5) (cG 0)), gG 29 27 true (.ld (tG 28)), gG 30 27 true (.iadr 2 1 (tG 5) (cG 1)), gG 31 27 true (.ld (tG 30)), gG 32 27 true (.bin .neq (tG 29) (tG 31)), oG 33 (.pick (tG 27) (tG 32) (.c (.b false))), oG 34 (.mv (tG 33)), gG 35 34 true (.mv (tG 1)), gG 36 34 true (.iadr 2 1 (tG 5) (cG 0)), gG 37 34 true (.ld (tG 36)), gG 38 34 true (.iadr 2 1 (tG 5) (cG 1)), gG 39 34 true (.ld (tG 38)), gG 40 34 true (.call (fG 52) [(tG 35), (tG 37), (tG 39)]), oG 41 (.pick (tG 34) (tG 40) (.c (.b false))), oG 6 (.as (tG 41))]
noncomputable def f19_c : EC := (.seq (.reg f19_r0) (.seq (.reg f19_r1) .ret))
noncomputable def f19 : EF := ⟨42, [.tmp (.ofNat 6)], f19_c, none⟩
section
variable {fs : T EF} {h h' : H}
end
end Go.Ev
namespace Go.Ev
open Go Go.RowKit
end Go.Ev
namespace Go.Ev
open Go Go.RowKit
section
variable {fs : T EF} {h h' : H}
end
end Go.Ev
namespace Go.Ev
open Go Go.RowKit
section
variable {fs : T EF} {h h' : H}
end
end Go.Ev
namespace Go.Ev
open Go Go.RowKit
section
variable {fs : T EF} {h : H}
end
end Go.Ev
namespace Go.Ev
open Go Go.RowKit
section
variable {fs : T EF} {h : H}
end
end Go.Ev
namespace Go.Ev
open Go Go.RowKit
theorem OrdN.turn {n : Nat} {B : List Bool} (o : OrdN n B) : OrdN n (turnR B) where
  len := rl_len
  lt := fun a b h => by rw [turnR_iff] at h; exact (o.lt _ _ h).symm
  irr := fun a h => by rw [turnR_iff] at h; exact o.irr a h
  tr := fun a b c h1 h2 => by rw [turnR_iff] at *; exact o.tr _ _ _ h2 h1
theorem OrdN.one {n : Nat} {B : List Bool} (o : OrdN n B) {a b : Nat} (h : rat B a b = true) : ¬ rat B b a = true := fun h2 => o.irr a (o.tr _ _ _ h h2)
end Go.Ev
namespace Go.Ev
open Go Go.RowKit
section
variable {G : List Bool} {C : Nat → Nat → Prop}
theorem turnR_two {F : List Bool} (hF : F.length = 49) : turnR (turnR F) = F := by
  refine rel_ext rl_len hF fun a b _ _ => ?_
  rw [Bool.eq_iff_iff, turnR_iff, turnR_iff]
theorem Ord.turn {F : List Bool} (g : Gr (Er G)) (o : Ord (Er G) (Er F)) : Ord (Er G) (Er (turnR F)) where
  sub := fun _ _ h => g.sym _ _ (o.sub _ _ (turnR_iff.1 h))
  all := fun _ _ h => (o.all _ _ h).symm.imp turnR_iff.2 turnR_iff.2
  one := fun _ _ h h2 => o.one _ _ (turnR_iff.1 h) (turnR_iff.1 h2)
  tr := fun _ _ _ h h2 => turnR_iff.2 (o.tr _ _ _ (turnR_iff.1 h2) (turnR_iff.1 h))
theorem nOrd_turn_le (g : Gr (Er G)) : nOrd G C ≤ nOrd G (fun a b => C b a) := by
  unfold nOrd
  have nd : (((allL 49).filter (hasB G C)).map turnR).Nodup := by
    rw [List.Nodup, List.pairwise_map]
    refine List.Pairwise.imp_of_mem (fun {x y} hx hy hxy e => hxy ?_) (List.Pairwise.filter _ (allL_nd 49))
    have lx := mem_allL.1 (List.mem_filter.1 hx).1
    have ly := mem_allL.1 (List.mem_filter.1 hy).1
    rw [← turnR_two lx, ← turnR_two ly, e]
  have := nodup_leO nd (m := (allL 49).filter (hasB G fun a b => C b a)) (fun x hx => by
    obtain ⟨y, hy, rfl⟩ := List.mem_map.1 hx
    obtain ⟨h1, h2⟩ := List.mem_filter.1 hy
    obtain ⟨h3, h4⟩ := hasB_iff.1 h2
    exact List.mem_filter.2 ⟨mem_allL.2 rl_len, hasB_iff.2 ⟨h3.turn g, fun a b h => turnR_iff.2 (h4 _ _ h)⟩⟩)
  rwa [List.length_map] at this
theorem nOrd_turn (g : Gr (Er G)) : nOrd G (fun a b => C b a) = nOrd G C := Nat.le_antisymm (nOrd_turn_le g) (nOrd_turn_le g)
theorem nOrd_even (g : Gr (Er G)) {a b : Nat} (hab : Er G a b) : nOrd G (fun _ _ => False) = 2 * nOrd G (fun c d => Rch (Er G) a b c d) := by
  rw [nOrd_split g hab]
  have e1 : nOrd G (fun c d => False ∨ Rch (Er G) a b c d) = nOrd G (fun c d => Rch (Er G) a b c d) := nOrd_congr fun c d => by rw [false_or]
  have e2 : nOrd G (fun c d => False ∨ Rch (Er G) b a c d) = nOrd G (fun c d => Rch (Er G) a b c d) := by
    rw [← nOrd_turn g]
    refine nOrd_congr fun c d => ?_
    rw [false_or]
    exact ⟨fun h => h.inv g, fun h => h.inv g⟩
  rw [e1, e2]; omega
theorem nOrd_pos {F : List Bool} (hF : F.length = 49) (o : Ord (Er G) (Er F)) : 0 < nOrd G (fun _ _ => False) := by
  unfold nOrd
  exact List.length_pos_of_mem (List.mem_filter.2 ⟨mem_allL.2 hF, hasB_iff.2 ⟨o, fun _ _ h => h.elim⟩⟩)
theorem nOrd_no (g : Gr (Er G)) (h : ¬ CF (Er G)) : nOrd G C = 0 := nOrd_zero fun _ o _ => h (o.cf g)
theorem nOrd_empty (h : ∀ a b, ¬ Er G a b) : nOrd G (fun _ _ => False) = 1 := by
  have no : ∀ a b, ¬ Er (rl fun _ _ => false) a b := fun a b e => by unfold Er at e; rw [rat_rl] at e; simp at e
  exact nOrd_one (D := rl fun _ _ => false) rl_len ⟨fun a b e => absurd e (no a b), fun a b e => absurd e (h a b), fun a b e => absurd e (no a b), fun a b c e => absurd e (no a b)⟩ fun a b => ⟨False.elim, fun e => no a b e⟩
theorem filter_or {α : Type} {p q : α → Bool} : ∀ l : List α, (l.filter fun x => p x || q x).length ≤ (l.filter p).length + (l.filter q).length
  | [] => Nat.le_refl _
  | x :: l => by
    have := filter_or (p := p) (q := q) l
    rw [List.filter_cons, List.filter_cons, List.filter_cons]
    cases p x <;> cases q x <;> simp <;> omega
theorem cn_ge (sy : SymR G) {R : List (Nat × Nat)} (hR : ∀ x ∈ R, Er G x.1 x.2) (hd : R.Pairwise fun x y => ¬ Rch (Er G) x.1 x.2 y.1 y.2) : ∀ i, (R.filter fun r => seenB G i r.1 r.2).length ≤ cnN G i
  | 0 => by
    have : (R.filter fun r => seenB G 0 r.1 r.2) = [] := List.filter_eq_nil_iff.2 fun x _ => by unfold seenB; simp
    rw [this]; exact Nat.zero_le _
  | i + 1 => by
    have ih := cn_ge sy hR hd i
    cases hx : (arw (rat G))[i]? with
    | none =>
      have : ∀ a b, seenB G (i + 1) a b = seenB G i a b := fun a b => by unfold seenB; rw [List.take_add_one, hx]; simp
      simp only [this]
      exact Nat.le_trans ih (Nat.le_add_right _ _)
    | some x =>
      have hxl := arw_lt (List.mem_of_getElem? hx)
      have e1 : cnN G (i + 1) = cnN G i + if newB G i x = true then 1 else 0 := by
        show cnN G i + (match (arw (rat G))[i]? with | some x => if newB G i x = true then 1 else 0 | none => 0) = _
        rw [hx]
      rw [e1]
      by_cases hn : newB G i x = true
      · rw [if_pos hn]
        have h1 : (R.filter fun r => seenB G (i + 1) r.1 r.2) = R.filter fun r => seenB G i r.1 r.2 || rat (clsR G x) r.1 r.2 := List.filter_congr fun r _ => seen_succ hx r.1 r.2
        rw [h1]
        refine Nat.le_trans (filter_or R) (Nat.add_le_add ih ?_)
        have h2 : (R.filter fun r => rat (clsR G x) r.1 r.2).Pairwise fun y z => ¬ Rch (Er G) y.1 y.2 z.1 z.2 := hd.filter _
        have h3 : ∀ y ∈ (R.filter fun r => rat (clsR G x) r.1 r.2), Rch (Er G) x.1 x.2 y.1 y.2 := fun y hy => (clsR_iff ⟨hxl.1, hxl.2.1⟩).1 (List.mem_filter.1 hy).2
        generalize (R.filter fun r => rat (clsR G x) r.1 r.2) = S at *
        match S, h2, h3 with
        | [], _, _ => exact Nat.zero_le _
        | [_], _, _ => exact Nat.le_refl _
        | y :: z :: S, h2, h3 =>
          rw [List.pairwise_cons] at h2
          exact absurd (((h3 y (by simp)).symm sy.gr hxl.2.2).trans (h3 z (by simp))) (h2.1 z (by simp))
      · rw [if_neg hn]
        have e2 : newB G i x = false := by cases e : newB G i x with | true => exact absurd e hn | false => rfl
        have e3 := seen_old hx e2
        have : ∀ r ∈ R, seenB G (i + 1) r.1 r.2 = seenB G i r.1 r.2 := fun r hr => by
          have hl := rat_lt (hR r hr)
          have e4 := congrArg (fun L => rat L r.1 r.2) e3
          simp only [rat_rl, decide_eq_true hl.1, decide_eq_true hl.2, Bool.true_and] at e4
          exact e4
        rw [List.filter_congr this]
        exact ih
theorem cn_len (sy : SymR G) {R : List (Nat × Nat)} (hR : ∀ x ∈ R, Er G x.1 x.2) (hd : R.Pairwise fun x y => ¬ Rch (Er G) x.1 x.2 y.1 y.2) : R.length ≤ cnN G (arw (rat G)).length := by
  have h := cn_ge sy hR hd (arw (rat G)).length
  have e : (R.filter fun r => seenB G (arw (rat G)).length r.1 r.2) = R := List.filter_eq_self.2 fun r hr => by
    have hl := rat_lt (hR r hr)
    unfold seenB
    rw [List.take_length, List.any_eq_true]
    exact ⟨r, mem_arw.2 ⟨hl.1, hl.2, hR r hr⟩, (clsR_iff hl).2 .refl⟩
  rwa [e] at h
theorem nOrd_le1 {a b : Nat} (hC : ∀ c d, Er G c d → Rch (Er G) a b c d ∨ Rch (Er G) a b d c) : nOrd G (fun c d => Rch (Er G) a b c d) ≤ 1 := by
  unfold nOrd
  have nd : ((allL 49).filter (hasB G fun c d => Rch (Er G) a b c d)).Nodup := List.Pairwise.filter _ (allL_nd 49)
  have hm : ∀ F ∈ (allL 49).filter (hasB G fun c d => Rch (Er G) a b c d), F.length = 49 ∧ ∀ c d, Er F c d ↔ Er G c d ∧ Rch (Er G) a b c d := fun F hF => by
    obtain ⟨h1, h2⟩ := List.mem_filter.1 hF
    obtain ⟨o, h4⟩ := hasB_iff.1 h2
    refine ⟨mem_allL.1 h1, fun c d => ⟨fun h => ⟨o.sub _ _ h, ?_⟩, fun h => h4 _ _ h.2⟩⟩
    rcases hC c d (o.sub _ _ h) with h5 | h5
    · exact h5
    · exact absurd (h4 _ _ h5) (o.one _ _ h)
  generalize (allL 49).filter (hasB G fun c d => Rch (Er G) a b c d) = S at *
  match S, nd, hm with
  | [], _, _ => exact Nat.zero_le _
  | [_], _, _ => exact Nat.le_refl _
  | y :: z :: S, nd, hm =>
    rw [List.nodup_cons] at nd
    obtain ⟨l1, m1⟩ := hm y (by simp)
    obtain ⟨l2, m2⟩ := hm z (by simp)
    refine absurd ?_ nd.1
    have : y = z := rel_ext l1 l2 fun c d _ _ => by
      rw [Bool.eq_iff_iff]
      exact (m1 c d).trans (m2 c d).symm
    rw [this]; simp
theorem nOrd_le2 (sy : SymR G) (h : cnN G (arw (rat G)).length ≤ 2) : nOrd G (fun _ _ => False) ≤ 2 := by
  by_cases he : ∀ a b, ¬ Er G a b
  · rw [nOrd_empty he]; omega
  · obtain ⟨a, b, hab⟩ : ∃ a b, Er G a b := Classical.byContradiction fun hn => he fun a b h => hn ⟨a, b, h⟩
    by_cases h0 : nOrd G (fun _ _ => False) = 0
    · rw [h0]; omega
    · have hcf : CF (Er G) := Classical.byContradiction fun hn => h0 (nOrd_no sy.gr hn)
      rw [nOrd_even sy.gr hab]
      have hC : ∀ c d, Er G c d → Rch (Er G) a b c d ∨ Rch (Er G) a b d c := fun c d hcd => Classical.byContradiction fun hn => by
        have hba := sy.gr.sym _ _ hab
        have := cn_len sy (R := [(a, b), (b, a), (c, d)]) (fun x hx => by simp at hx; rcases hx with rfl | rfl | rfl; exact hab; exact hba; exact hcd) (by
          rw [List.pairwise_cons, List.pairwise_cons]
          refine ⟨fun y hy => ?_, fun y hy => ?_, List.pairwise_singleton _ _⟩
          · simp at hy
            rcases hy with rfl | rfl
            · exact hcf a b hab
            · exact fun q => hn (.inl q)
          · simp at hy
            subst hy
            exact fun q => hn (.inr (q.inv sy.gr)))
        simp at this
        omega
      have := nOrd_le1 hC
      omega
end
theorem ordN_len {n : Nat} {F : List Bool} (hn : n ≤ 6) (o : OrdN n F) : (arI (rat F)).length ≤ 15 := by
  have e : (arI (rat F)).length = (arw (rat F)).length := by unfold arI; rw [List.length_map]
  rw [e]
  have inj : ∀ x y : Nat × Nat, swN x = swN y → x = y := fun x y h => by
    have h1 := congrArg Prod.fst h
    have h2 := congrArg Prod.snd h
    exact Prod.ext h2 h1
  have nd : (arw (rat F) ++ (arw (rat F)).map swN).Nodup := by
    rw [List.nodup_append]
    refine ⟨arw_nd, ?_, fun x hx y hy e => ?_⟩
    · rw [List.Nodup, List.pairwise_map]
      exact (arw_nd (f := rat F)).imp fun {x y} hxy e => hxy (inj _ _ e)
    · obtain ⟨z, hz, rfl⟩ := List.mem_map.1 hy
      subst e
      exact o.one (arw_lt hz).2.2 (arw_lt hx).2.2
  have := nodup_leO nd (m := arw fun a b => decide (a < 6) && (decide (b < 6) && !decide (a = b))) (fun x hx => by
    have key : ∀ a b, rat F a b = true → (a, b) ∈ arw (fun a b => decide (a < 6) && (decide (b < 6) && !decide (a = b))) ∧ (b, a) ∈ arw fun a b => decide (a < 6) && (decide (b < 6) && !decide (a = b)) := fun a b h => by
      obtain ⟨h1, h2⟩ := o.lt _ _ h
      have h3 : a ≠ b := fun e => o.irr a (by rw [← e] at h; exact h)
      rw [mem_arw, mem_arw]
      simp
      omega
    rcases List.mem_append.1 hx with hx | hx
    · exact (key x.1 x.2 (arw_lt hx).2.2).1
    · obtain ⟨z, hz, rfl⟩ := List.mem_map.1 hx
      exact (key z.1 z.2 (arw_lt hz).2.2).2)
  rw [List.length_append, List.length_map] at this
  have e30 : (arw fun a b => decide (a < 6) && (decide (b < 6) && !decide (a = b))).length = 30 := rfl
  omega
theorem arI_pw {f : Nat → Nat → Bool} : (arI f).Pairwise fun x y => bfB x y = true := by
  rw [List.pairwise_iff_getElem]
  intro i j hi hj hij
  have key : Srd 0 (arI f).length (arI f) := Srd.of fun t t1 t2 => by
    have hl : (arI f).length = (arw f).length := by unfold arI; rw [List.length_map]
    have hs := arw_sorted (g := f) (i := t - 1) (by omega)
    have ge : ∀ k (hk : k < (arI f).length), gW (arI f) k = toI ((arw f)[k]'(by omega)) := fun k hk => (gW_lt hk).trans (List.getElem_map toI)
    rw [ge _ (by omega), ge _ t2, bfB_iff]
    have b1 := arw_lt (List.getElem_mem (show t - 1 < (arw f).length by omega))
    have b2 := arw_lt (List.getElem_mem (show t - 1 + 1 < (arw f).length by omega))
    have e : t - 1 + 1 = t := by omega
    simp only [e] at hs b2
    unfold toI
    simp only
    omega
  rw [← gW_lt hi, ← gW_lt hj]
  exact key i j (Nat.zero_le _) hij hj
def swI (x : Int × Int) : Int × Int := (x.2, x.1)
theorem arI_turn {F : List Bool} {W : List (Int × Int)} (p : W.Perm ((arI (rat F)).map swI)) (hw : W.Pairwise fun x y => bfB x y = true) : W = arI (rat (turnR F)) := by
  refine srd_uniq ?_ hw arI_pw
  have inj : ∀ x y : Int × Int, swI x = swI y → x = y := fun x y h => Prod.ext (congrArg Prod.snd h) (congrArg Prod.fst h)
  have nd1 : ((arI (rat F)).map swI).Nodup := by
    rw [List.Nodup, List.pairwise_map]
    exact (arI_pw (f := rat F)).imp fun {x y} hxy e => bfB_ne hxy (inj _ _ e)
  have nd2 : (arI (rat (turnR F))).Nodup := (arI_pw (f := rat (turnR F))).imp fun {x y} hxy => bfB_ne hxy
  refine p.trans ((List.perm_ext_iff_of_nodup nd1 nd2).2 fun x => ?_)
  rw [List.mem_map, mem_arI]
  constructor
  · rintro ⟨y, hy, rfl⟩
    obtain ⟨a, b, ha, hb, h, rfl⟩ := mem_arI.1 hy
    exact ⟨b, a, hb, ha, turnR_iff.2 h, rfl⟩
  · rintro ⟨a, b, ha, hb, h, rfl⟩
    exact ⟨((b : Int), (a : Int)), mem_arI.2 ⟨b, a, hb, ha, turnR_iff.1 h, rfl⟩, rfl⟩
end Go.Ev
namespace Go.Ev
open Go Go.RowKit
noncomputable def f46_r0 : List EOper := [oG 4 (.as (.c .sn)), oG 5 (.as (cG 0))]
noncomputable def f46_r1 : List EOper := [oG 10 (.mv (tG 0)), oG 11 (.mv (tG 1)), oG 12 (.call (fG 45) [(tG 10), (tG 11)]), oG 6 (.as (tG 12))]
noncomputable def f46_r2 : List EOper := [oG 13 (.mv (tG 6)), oG 14 (.bin .neq (tG 13) (cG 0))]
noncomputable def f46_r3 : List EOper := [oG 15 (.mv (tG 6)), oG 4 (.as (.c .sn)), oG 5 (.as (tG 15))]
noncomputable def f46_r4 : List EOper := [oG 16 (.mv (tG 1)), oG 17 (.len (tG 16)), oG 18 (.mkslice 2 [(.i .i64 (.ofNat 0)), (.i .i64 (.ofNat 0))] (tG 17)), oG 7 (.as (tG 18))]
noncomputable def f46_r5 : List EOper := [oG 19 (.mv (tG 1)), oG 20 (.len (tG 19)), oG 21 (.mv (cG 0))]
noncomputable def f46_r6 : List EOper := [oG 22 (.bin .lss (tG 21) (tG 20))]
noncomputable def f46_r7 : List EOper := [oG 23 (.mv (tG 21)), oG 24 (.iads 2 (tG 19) (tG 21)), oG 25 (.ldn 2 (tG 24)), oG 9 (.alloc 2 [(.i .i64 (.ofNat 0)), (.i .i64 (.ofNat 0))]), oG 8 (.as (tG 23)), ⟨none, none, .st 2 (tG 9) (tG 25)⟩]
noncomputable def f46_r8 : List EOper := [oG 26 (.mv (tG 7)), oG 27 (.mv (tG 8)), oG 28 (.ldn 2 (tG 9)), oG 29 (.call (fG 56) [(tG 28)]), oG 30 (.call (fG 77) [(tG 29)]), oG 31 (.call (fG 78) [(tG 30)]), oG 32 (.iads 2 (tG 26) (tG 27)), ⟨none, none, .st 2 (tG 32) (tG 31)⟩]
noncomputable def f46_r9 : List EOper := [oG 33 (.bin .add (tG 21) (cG 1)), oG 21 (.mv (tG 33))]
noncomputable def f46_l0 : EC := (.seq (.reg f46_r6) (.seq (.cond (tG 22) .skip (.exit 0)) (.seq (.block 1 (.seq (.reg f46_r7) (.reg f46_r8))) (.reg f46_r9))))
noncomputable def f46_r10 : List EOper := [oG 34 (.mv (tG 7)), oG 35 (.call (fG 79) [(tG 34), (fG 80)])]
noncomputable def f46_r11 : List EOper := [oG 36 (.mv (tG 7)), oG 4 (.as (tG 36)), oG 5 (.as (cG 0))]
noncomputable def f46_c : EC := (.seq (.reg f46_r0) (.seq (.seq (.reg f46_r1) (.seq (.reg f46_r2) (.cond (tG 14) (.seq (.reg f46_r3) .ret) .skip))) (.seq (.reg f46_r4) (.seq (.seq (.reg f46_r5) (.block 0 (.loop f46_l0))) (.seq (.reg f46_r10) (.seq (.reg f46_r11) .ret))))))
noncomputable def f46 : EF := ⟨37, [.tmp (.ofNat 4), .tmp (.ofNat 5)], f46_c, none⟩
theorem f46_rs : f46.rs = [.tmp (.ofNat 4), .tmp (.ofNat 5)] := of_eq_true (eq_self _)
noncomputable def f10_r0 : List EOper := [oG 4 (.as (.c (.b false)))]
noncomputable def f10_r1 : List EOper := [oG 19 (.mv (tG 0)), oG 20 (.mv (tG 1)), oG 21 (.call (fG 11) [(tG 19), (tG 20), (cG 6)]), oG 18 (.mv (tG 21)), oG 22 (.ext (tG 18) 0), oG 23 (.ext (tG 18) 1), oG 5 (.as (tG 22)), oG 6 (.as (tG 23))]
noncomputable def f10_r2 : List EOper := [oG 25 (.mv (tG 5)), oG 26 (.mv (tG 6)), oG 27 (.call (fG 31) [(tG 25), (tG 26)]), oG 24 (.mv (tG 27)), oG 28 (.ext (tG 24) 0), oG 29 (.ext (tG 24) 1), oG 7 (.as (tG 28)), oG 8 (.as (tG 29))]
noncomputable def f10_r3 : List EOper := [oG 31 (.mv (tG 5)), oG 32 (.mv (tG 6)), oG 33 (.call (fG 13) [(tG 31), (tG 32)]), oG 30 (.mv (tG 33)), oG 34 (.ext (tG 30) 0), oG 35 (.ext (tG 30) 1), oG 9 (.as (tG 34)), oG 10 (.as (tG 35))]
noncomputable def f10_r4 : List EOper := [oG 37 (.mv (tG 5)), oG 38 (.mv (tG 6)), oG 39 (.call (fG 23) [(tG 37), (tG 38)]), oG 36 (.mv (tG 39)), oG 40 (.ext (tG 36) 0), oG 41 (.ext (tG 36) 1), oG 42 (.ext (tG 36) 2), oG 11 (.as (tG 40)), oG 12 (.as (tG 41)), oG 13 (.as (tG 42))]
noncomputable def f10_r5 : List EOper := [oG 43 (.mv (tG 8)), oG 44 (.bin .neq (tG 43) (cG 0)), oG 45 (.mv (tG 44)), gG 46 45 false (.mv (tG 10)), gG 47 45 false (.bin .neq (tG 46) (cG 0)), oG 48 (.pick (tG 45) (.c (.b true)) (tG 47)), oG 49 (.mv (tG 48)), gG 50 49 false (.mv (tG 13)), gG 51 49 false (.bin .neq (tG 50) (cG 0)), oG 52 (.pick (tG 49) (.c (.b true)) (tG 51)), oG 53 (.mv (tG 52)), gG 54 53 false (.mv (tG 12)), gG 55 53 false (.mv (tG 7)), gG 56 53 false (.bin .gtr (tG 55) (cG 0)), gG 57 53 false (.eqk (.one none) true (tG 54) (tG 56)), oG 58 (.pick (tG 53) (.c (.b true)) (tG 57)), oG 59 (.mv (tG 58)), gG 60 59 false (.mv (tG 6)), gG 61 59 false (.len (tG 60)), gG 62 59 false (.bin .gtr (tG 61) (cG 0)), gG 63 59 false (.mv (tG 62)), gG 64 63 true (.mv (tG 7)), gG 65 63 true (.bin .rem (tG 64) (cG 2)), gG 66 63 true (.bin .neq (tG 65) (cG 0)), gG 67 59 false (.pick (tG 63) (tG 66) (.c (.b false))), oG 68 (.pick (tG 59) (.c (.b true)) (tG 67)), oG 69 (.mv (tG 68)), gG 70 69 false (.mv (tG 6)), gG 71 69 false (.len (tG 70)), gG 72 69 false (.bin .eql (tG 71) (cG 0)), gG 73 69 false (.mv (tG 72)), gG 74 73 true (.mv (tG 7)), gG 75 73 true (.bin .neq (tG 74) (cG 1)), gG 76 73 true (.mv (tG 75)), gG 77 76 false (.mv (tG 9)), gG 78 76 false (.bin .neq (tG 77) (cG 0)), gG 79 73 true (.pick (tG 76) (.c (.b true)) (tG 78)), gG 80 69 false (.pick (tG 73) (tG 79) (.c (.b false))), oG 81 (.pick (tG 69) (.c (.b true)) (tG 80)), oG 82 (.mv (tG 81)), gG 83 82 false (.mv (tG 9)), gG 84 82 false (.bin .leq (tG 83) (cG 2)), gG 85 82 false (.mv (tG 84)), gG 86 85 true (.mv (tG 7)), gG 87 85 true (.bin .gtr (tG 86) (cG 2)), gG 88 82 false (.pick (tG 85) (tG 87) (.c (.b false))), oG 89 (.pick (tG 82) (.c (.b true)) (tG 88))]
noncomputable def f10_r6 : List EOper := [oG 4 (.as (.c (.b false)))]
noncomputable def f10_r7 : List EOper := [oG 90 (.mv (tG 12)), oG 91 (.not (tG 90))]
noncomputable def f10_r8 : List EOper := [oG 92 (.call (fG 22) []), oG 4 (.as (tG 92))]
noncomputable def f10_r9 : List EOper := [oG 94 (.mv (tG 5)), oG 95 (.mv (tG 11)), oG 96 (.call (fG 46) [(tG 94), (tG 95)]), oG 93 (.mv (tG 96)), oG 97 (.ext (tG 93) 0), oG 98 (.ext (tG 93) 1), oG 14 (.as (tG 97)), oG 15 (.as (tG 98))]
noncomputable def f10_r10 : List EOper := [oG 100 (.mv (tG 5)), oG 101 (.mv (tG 14)), oG 102 (.call (fG 46) [(tG 100), (tG 101)]), oG 99 (.mv (tG 102)), oG 103 (.ext (tG 99) 0), oG 104 (.ext (tG 99) 1), oG 16 (.as (tG 103)), oG 17 (.as (tG 104))]
noncomputable def f10_r11 : List EOper := [oG 105 (.mv (tG 15)), oG 106 (.bin .eql (tG 105) (cG 0)), oG 107 (.mv (tG 106)), gG 108 107 true (.mv (tG 17)), gG 109 107 true (.bin .eql (tG 108) (cG 0)), oG 110 (.pick (tG 107) (tG 109) (.c (.b false))), oG 111 (.mv (tG 110)), gG 112 111 true (.mv (tG 5)), gG 113 111 true (.mv (tG 14)), gG 114 111 true (.call (fG 45) [(tG 112), (tG 113)]), gG 115 111 true (.bin .eql (tG 114) (cG 0)), oG 116 (.pick (tG 111) (tG 115) (.c (.b false))), oG 117 (.mv (tG 116)), gG 118 117 true (.mv (tG 16)), gG 119 117 true (.mv (tG 11)), gG 120 117 true (.call (fG 14) [(tG 118), (tG 119)]), oG 121 (.pick (tG 117) (tG 120) (.c (.b false))), oG 122 (.mv (tG 121)), gG 123 122 true (.call (fG 22) []), oG 124 (.pick (tG 122) (tG 123) (.c (.b false))), oG 4 (.as (tG 124))]
noncomputable def f10_c : EC := (.seq (.reg f10_r0) (.seq (.reg f10_r1) (.seq (.reg f10_r2) (.seq (.reg f10_r3) (.seq (.reg f10_r4) (.seq (.seq (.reg f10_r5) (.cond (tG 89) (.seq (.reg f10_r6) .ret) .skip)) (.seq (.seq (.reg f10_r7) (.cond (tG 91) (.seq (.reg f10_r8) .ret) .skip)) (.seq (.reg f10_r9) (.seq (.reg f10_r10) (.seq (.reg f10_r11) .ret))))))))))
noncomputable def f10 : EF := ⟨125, [.tmp (.ofNat 4)], f10_c, none⟩
theorem f10_rs : f10.rs = [.tmp (.ofNat 4)] := of_eq_true (eq_self _)
section
variable {fs : T EF} {h h' : H}
theorem swI_inj {x y : Int × Int} (h : swI x = swI y) : x = y := Prod.ext (congrArg Prod.snd h) (congrArg Prod.fst h)
theorem fill_step {A : List (Int × Int)} {z : Int × Int} {i : Nat} (hi : i < A.length) : ((A.take i).map swI ++ List.replicate (A.length - i) z).set i (swI A[i]) = (A.take (i + 1)).map swI ++ List.replicate (A.length - (i + 1)) z := by
  have e1 : A.length - i = (A.length - (i + 1)) + 1 := by omega
  have l1 : ((A.take i).map swI).length = i := by simp; omega
  rw [e1, List.replicate_succ, List.take_succ_eq_append_getElem hi, List.map_append, List.set_append_right _ _ (by omega), l1, Nat.sub_self, List.set_cons_zero, List.append_assoc]
  rfl
structure CallsTu (fs : T EF) : Prop extends CallsCn fs, CallsTq fs where
  c45 : fs.get (K.ofNat 45) = some f45
  c79 : fs.get (K.ofNat 79) = some f79
def f46_I (h : H) (v u : V) (A : List (Int × Int)) (i : Nat) (fr : Fr) (h1 : H) : Prop := i ≤ A.length ∧ Grow h.nx.nat h h1 ∧ Sk 2 qE h1 u ((A.take i).map swI ++ List.replicate (A.length - i) (0, 0)) ∧ fr.get (K.ofNat 7) = some (u) ∧ fr.get (K.ofNat 19) = some (v) ∧ fr.get (K.ofNat 20) = some (.i .i64 (A.length : Int)) ∧ fr.get (K.ofNat 21) = some (.i .i64 (i : Int))
theorem f46_ret {n : Nat} {v : V} {F : List Bool} (k : CallsTu fs) (o : OrdN n F) (h1 : 1 ≤ n) (hn : n ≤ 6) (hv : Srp h v (arI (rat F))) (hc : HC h) : Ret fs f46 [.i .i64 (n : Int), v] h fun r h' => ∃ u, r = .tup [u, .i .i64 0] ∧ Sk 2 qE h' u (arI (rat (turnR F))) ∧ Own h.nx.nat u ∧ Grow h.nx.nat h h' := by
  have l15 := ordN_len hn o
  apply ret_of rfl
  show W fs none f46_c _ _ _
  unfold f46_c
  simp (disch := omega) only [f46_r0, f46_r1, Nat.reduceEqDiff, ↓reduceIte, bz]
  refine (callP_0 (ef := f45) k.c45 rfl (f45_ret k.toCallsCk hv (by omega) hc)).mono ?_
  rintro r h2 ⟨rfl, g2⟩
  rw [ckO_o h1 (by omega) o]
  have hc2 := g2.hc hc
  have hv2 := hv.grow hc g2
  have d0 : decide ((0 : Int) ≠ 0) = false := rfl
  generalize hA : arI (rat F) = A at *
  have hmk : ∀ {k : IntKind}, mksV 2 [.i .i64 0, .i .i64 0] h2 (.i k (A.length : Int)) = .ok (.sl h2.nx 0 A.length 2) (h2.new (.cells (A.length * 2) (rep (qE (0, 0)) A.length))) := mks_p (by omega)
  have hs0 := mksp_sl (h := h2) (n := A.length)
  have gl := Grow.new g2.nx (.cells (A.length * 2) (rep (qE (0, 0)) A.length))
  have n3 := nx_new h2 (.cells (A.length * 2) (rep (qE (0, 0)) A.length))
  have gA := g2.trans gl
  have ho : Own h.nx.nat (.sl h2.nx 0 A.length 2) := fun id off m sz e => by cases e; exact g2.nx
  have hlen := hv2.len
  simp (disch := omega) only [f46_r2, f46_r4, f46_r5, x_mks, Nat.reduceEqDiff, ↓reduceIte, Bool.false_eq_true, d0, hlen, hmk, bz]
  generalize (V.sl h2.nx 0 A.length 2) = u at *
  generalize h2.new (.cells (A.length * 2) (rep (qE (0, 0)) A.length)) = h3 at *
  refine W_loop (f46_I h v u A) (fun i => A.length - i) ?_ 0 ⟨by omega, gA, by simpa using hs0, by simp (disch := omega) only [getK_set, Nat.reduceEqDiff, ↓reduceIte, and_self, Int.natCast_zero]⟩
  rintro i fr h4 ⟨hi, hG, hs, g7, g19, g20, g21⟩
  have hc4 := hG.hc hc
  unfold f46_l0
  by_cases hlt : i < A.length
  · have d1 : decide ((i : Int) < (A.length : Int)) = true := decide_eq_true (by omega)
    obtain ⟨id, q, p1, p2, _⟩ := (hv.grow hc hG).at2 hlt
    have p2' : loadV h4 (.p id q) (many? 2) = .ok (pV A[i]) h4 := p2
    have hst : storeV (h4.new (.cells 2 [.i .i64 0, .i .i64 0])) 2 (.p h4.nx 0) (pV A[i]) = .ok undefV ((h4.new (.cells 2 [.i .i64 0, .i .i64 0])).put h4.nx (.cells 2 [.i .i64 A[i].1, .i .i64 A[i].2])) := st2 (a := .i .i64 0) (b := .i .i64 0) get_new_same
    have n1 := nx_new h4 (.cells 2 [.i .i64 0, .i .i64 0])
    have gB : Grow h4.nx.nat h4 ((h4.new (.cells 2 [.i .i64 0, .i .i64 0])).put h4.nx (.cells 2 [.i .i64 A[i].1, .i .i64 A[i].2])) := (Grow.new (Nat.le_refl _) _).trans (Grow.put (Nat.le_refl _) (by omega) _)
    have c7 : ((h4.new (.cells 2 [.i .i64 0, .i .i64 0])).put h4.nx (.cells 2 [.i .i64 A[i].1, .i .i64 A[i].2])).get h4.nx = .cells 2 [.i .i64 A[i].1, .i .i64 A[i].2] := get_put_same
    have l7 : loadV ((h4.new (.cells 2 [.i .i64 0, .i .i64 0])).put h4.nx (.cells 2 [.i .i64 A[i].1, .i .i64 A[i].2])) (.p h4.nx 0) (many? 2) = .ok (pV A[i]) ((h4.new (.cells 2 [.i .i64 0, .i .i64 0])).put h4.nx (.cells 2 [.i .i64 A[i].1, .i .i64 A[i].2])) := ldn2 c7
    have hs5 := hs.grow hc4 gB
    have hc5 := gB.hc hc4
    have hG5 := hG.trans (gB.low hG.nx)
    obtain ⟨p, id', m', cs', x1, x2, x3, x4, x5⟩ := hs5.st2 (i := i) (by simp; omega) (x := swI A[i]) hc5
    rw [fill_step hlt] at x3
    have x2' : storeV ((h4.new (.cells 2 [.i .i64 0, .i .i64 0])).put h4.nx (.cells 2 [.i .i64 A[i].1, .i .i64 A[i].2])) 2 p (pV (A[i].2, A[i].1)) = .ok undefV _ := x2
    have gC := Grow.put (b := h.nx.nat) (by obtain ⟨off, m, sz, e⟩ := x4; exact ho _ _ _ _ e) x5 (.cells m' cs')
    simp (disch := omega) only [f46_r6, f46_r7, f46_r8, f46_r9, Nat.reduceEqDiff, ↓reduceIte, g7, g19, g20, g21, d1, p1, p2', hst, l7, k.n56, k.n77, k.n78, x1, x2', bz]
    exact ⟨i + 1, by omega, by omega, hG5.trans gC, x3, by simp (disch := omega) only [getK_set, Nat.reduceEqDiff, ↓reduceIte, g7, g19, g20, and_self, Int.natCast_add, Int.natCast_one]⟩
  · have d1 : decide ((i : Int) < (A.length : Int)) = false := decide_eq_false (by omega)
    have ei : i = A.length := by omega
    rw [ei, List.take_length, Nat.sub_self, List.replicate_zero, List.append_nil] at hs
    have nd : (A.map swI).Nodup := by
      rw [List.Nodup, List.pairwise_map, ← hA]
      exact (arI_pw (f := rat F)).imp fun {x y} hxy e => bfB_ne hxy (swI_inj e)
    simp (disch := omega) only [f46_r6, f46_r10, Nat.reduceEqDiff, ↓reduceIte, Bool.false_eq_true, g7, g20, g21, d1, bz]
    refine (callP_0 (ef := f79) k.c79 rfl (f79_ret (bd := h.nx.nat) k.toCallsTq hs nd (by simpa using l15) ho hG.nx hc4)).mono ?_
    rintro r h5 ⟨rfl, W1, hs5, pm, pw, g5⟩
    simp (disch := omega) only [f46_r11, f46_rs, Option.some.injEq, exists_eq_left', Nat.reduceEqDiff, ↓reduceIte, g7, bz]
    rw [← hA] at pm
    have e := arI_turn pm pw
    subst e
    exact ⟨u, rfl, hs5, ho, hG.trans g5⟩
structure CallsEvn (fs : T EF) : Prop extends CallsTu fs where
  c11 : fs.get (K.ofNat 11) = some f11
  c31 : fs.get (K.ofNat 31) = some f31
  c13 : fs.get (K.ofNat 13) = some f13
  c23 : fs.get (K.ofNat 23) = some f23
  c46 : fs.get (K.ofNat 46) = some f46
  c14 : fs.get (K.ofNat 14) = some f14
  aw : ∀ h P, CallP fs (.fn (K.ofNat 22) []) [] h P = P (.b true) h
noncomputable def f10_R : EC := (.seq (.seq (.reg f10_r7) (.cond (.t (.ofNat 91)) (.seq (.reg f10_r8) .ret) .skip)) (.seq (.reg f10_r9) (.seq (.reg f10_r10) (.seq (.reg f10_r11) .ret))))
theorem f10_c_e : f10_c = (.seq (.reg f10_r0) (.seq (.reg f10_r1) (.seq (.reg f10_r2) (.seq (.reg f10_r3) (.seq (.reg f10_r4) (.seq (.seq (.reg f10_r5) (.cond (.t (.ofNat 89)) (.seq (.reg f10_r6) .ret) .skip)) f10_R)))))) := rfl
theorem f10_R_w {m : Nat} {u : V} {F : List Bool} {b : Bool} {fr : Fr} {h0 : H} (k : CallsEvn fs) (h1 : 1 ≤ m) (hm : m ≤ 6) (o : b = true → OrdN m F) (hu : Sk 2 qE h u (arI (rat F))) (hc : HC h) (hG : Grow h0.nx.nat h0 h) (g5 : fr.get (.ofNat 5) = some (.i .i64 (m : Int))) (g11 : fr.get (.ofNat 11) = some u) (g12 : fr.get (.ofNat 12) = some (.b b)) :
    W fs none f10_R (retK f10 fun r h' => r = .b true ∧ Grow h0.nx.nat h0 h') fr h := by
  unfold f10_R
  cases b with
  | false =>
    simp (disch := omega) only [f10_r7, f10_r8, f10_rs, Option.some.injEq, exists_eq_left', ↓reduceIte, Bool.not_false, g12, k.aw, bz]
    exact hG
  | true =>
    have o := o rfl
    simp (disch := omega) only [f10_r7, f10_r9, Nat.reduceEqDiff, ↓reduceIte, Bool.false_eq_true, Bool.not_true, g5, g11, g12, bz]
    refine (callP_0 (ef := f46) k.c46 rfl (f46_ret k.toCallsTu o h1 hm hu.srpo hc)).mono ?_
    rintro r h2 ⟨u2, rfl, hu2, ho2, g2⟩
    have hc2 := g2.hc hc
    simp (disch := omega) only [f10_r10, Nat.reduceEqDiff, ↓reduceIte, g5, bz]
    refine (callP_0 (ef := f46) k.c46 rfl (f46_ret k.toCallsTu o.turn h1 hm hu2.srpo hc2)).mono ?_
    rintro r h3 ⟨u3, rfl, hu3, ho3, g3⟩
    rw [turnR_two o.len] at hu3
    have hc3 := g3.hc hc2
    have hu2' := hu2.grow hc2 g3
    have e0 : decide ((0 : Int) = 0) = true := rfl
    have hl := arI_len (g := rat (turnR F))
    have hl2 := arI_len (g := rat F)
    simp (disch := omega) only [f10_r11, Nat.reduceEqDiff, ↓reduceIte, decide_eq_true_eq, g5, bz]
    refine (callP_0 (ef := f45) k.c45 rfl (f45_ret k.toCallsCk hu2'.srpo (by omega) hc3)).mono ?_
    rintro r h4 ⟨rfl, g4⟩
    rw [ckO_o h1 (by omega) o.turn]
    have hu4 := (hu.grow hc (g2.trans (g3.low g2.nx))).grow hc3 g4
    have hu34 := hu3.grow hc3 g4
    simp (disch := omega) only [Nat.reduceEqDiff, ↓reduceIte, decide_eq_true_eq, g11, bz]
    refine (callP_0 (ef := f14) k.c14 rfl (f14_ret hu34.srpo hu4.srpo inI_arI (by omega))).mono ?_
    rintro r h5 ⟨rfl, rfl⟩
    simp (disch := omega) only [f10_rs, Option.some.injEq, exists_eq_left', Nat.reduceEqDiff, ↓reduceIte, decide_eq_true_eq, k.aw, bz]
    exact ((hG.trans (g2.low hG.nx)).trans (g3.low (Nat.le_trans hG.nx g2.nx))).trans (g4.low (Nat.le_trans hG.nx (Nat.le_trans g2.nx g3.nx)))
theorem f10_ret {n : Int} {v : V} {l : List (Int × Int)} (k : CallsEvn fs) (hv : Srp h v l) (hc : HC h) : Ret fs f10 [.i .i64 n, v] h fun r h' => r = .b true ∧ Grow h.nx.nat h h' := by
  apply ret_of rfl
  show W fs none f10_c _ _ _
  rw [f10_c_e]
  have o6 : Int.ofNat 6 = ((6 : Nat) : Int) := rfl
  simp (disch := omega) only [f10_r0, f10_r1, of6, Nat.reduceEqDiff, ↓reduceIte, bz]
  refine (callP_0 (ef := f11) k.c11 rfl (f11_ret (n := n) (w := 6) hv (by omega) (by omega) hc)).mono ?_
  rintro r h1 ⟨m, e, g, rfl, hm6, hg, he, hoe, gr1⟩
  have hc1 := gr1.hc hc
  simp (disch := omega) only [f10_r2, Nat.reduceEqDiff, ↓reduceIte, bz]
  refine (callP_0 (ef := f31) k.c31 rfl (f31_ret k.toCallsNo hg he.srpo hc1)).mono ?_
  rintro r h2 ⟨rfl, gr2⟩
  rw [if_pos hm6]
  have hc2 := gr2.hc hc1
  have gA := gr1.trans (gr2.low gr1.nx)
  have he2 := he.grow hc1 gr2
  simp (disch := omega) only [f10_r3, Nat.reduceEqDiff, ↓reduceIte, bz]
  refine (callP_0 (ef := f13) k.c13 rfl (f13_ret k.toCallsCn hg he2.srpo hc2)).mono ?_
  rintro r h3 ⟨rfl, gr3⟩
  have hc3 := gr3.hc hc2
  have gB := gA.trans (gr3.low gA.nx)
  have he3 := he2.grow hc2 gr3
  simp (disch := omega) only [f10_r4, Nat.reduceEqDiff, ↓reduceIte, bz]
  refine (callP_0 (ef := f23) k.c23 rfl (f23_ret k.toCallsOr hg he3.srpo hc3)).mono ?_
  rintro r h4 ⟨b, F, u, rfl, hF, hu, huo, gr4⟩
  have hc4 := gr4.hc hc3
  have gC := gB.trans (gr4.low gB.nx)
  have he4 := he3.grow hc3 gr4
  have hlen := he4.len
  have sG := symR_g hg
  have ne0 : decide ((0 : Int) ≠ 0) = false := rfl
  generalize hN : nOrd (gR (arI g)) (fun _ _ => False) = N at *
  generalize hM : cnN (gR (arI g)) (arw (rat (gR (arI g)))).length = M at *
  have f1 : decide ((N : Int) > 0) = b := by
    cases b with
    | true => have := nOrd_pos hF.len (hF.yes rfl); exact decide_eq_true (by omega)
    | false => have := nOrd_no (C := fun _ _ => False) sG.gr (hF.no rfl).2; exact decide_eq_false (by omega)
  have ho : b = true → OrdN m F := fun e => ord_n hg hF.len (hF.yes e)
  have hfin : ∀ fr : Fr, fr.get (K.ofNat 5) = some (.i .i64 (m : Int)) → fr.get (K.ofNat 11) = some u → fr.get (K.ofNat 12) = some (.b b) → W fs none f10_R (retK f10 fun r h' => r = .b true ∧ Grow h.nx.nat h h') fr h4 := fun fr a1 a2 a3 => f10_R_w k hg.n1 hm6 ho hu hc4 gC a1 a2 a3
  have kb : keyEq (.one none) (.b b) (.b b) = some true := by cases b <;> rfl
  by_cases hz : (arI g).length = 0
  · have hno : ∀ a c, ¬ Er (gR (arI g)) a c := fun a c hac => by
      have h1 := (gR_arI hg).1 hac
      have l7 := rat_lt hac
      unfold sy at h1
      rw [Bool.or_eq_true] at h1
      have nil := List.length_eq_zero_iff.1 hz
      rcases h1 with h1 | h1
      · have := mem_arI.2 ⟨a, c, l7.1, l7.2, h1, rfl⟩
        rw [nil] at this; cases this
      · have := mem_arI.2 ⟨c, a, l7.2, l7.1, h1, rfl⟩
        rw [nil] at this; cases this
    have e1 := nOrd_empty hno
    have e2 : arw (rat (gR (arI g))) = [] := List.eq_nil_iff_forall_not_mem.2 fun x hx => hno x.1 x.2 (arw_lt hx).2.2
    rw [e2] at hM
    have e3 : M = 0 := hM.symm
    have hN1 : N = 1 := by rw [← hN]; exact e1
    subst e3
    subst hN1
    have d1 : decide (((arI g).length : Int) > 0) = false := decide_eq_false (by omega)
    have d2 : decide (((arI g).length : Int) = 0) = true := decide_eq_true (by omega)
    have d3 : decide (((1 : Nat) : Int) ≠ 1) = false := rfl
    have d4 : decide (((0 : Nat) : Int) ≠ 0) = false := rfl
    have d5 : decide (((0 : Nat) : Int) ≤ 2) = true := rfl
    have d6 : decide (((1 : Nat) : Int) > 2) = false := rfl
    simp (disch := omega) only [f10_r5, nth2, Nat.reduceEqDiff, ↓reduceIte, Bool.false_eq_true, Bool.not_true, Bool.not_false, ne0, f1, kb, cond_true, hlen, d1, d2, d3, d4, d5, d6, bz]
    refine hfin _ ?_ ?_ ?_ <;> simp (disch := omega) only [getK_set, Nat.reduceEqDiff, ↓reduceIte]
  · obtain ⟨x, hx⟩ : ∃ x, x ∈ arI g := List.exists_mem_of_length_pos (by omega)
    obtain ⟨a, c, _, _, hac, _⟩ := mem_arI.1 hx
    have hE : Er (gR (arI g)) a c := (gR_arI hg).2 (by unfold sy; rw [hac]; rfl)
    have hev := nOrd_even sG.gr hE
    have d1 : decide (((arI g).length : Int) > 0) = true := decide_eq_true (by omega)
    have d2 : decide (((arI g).length : Int) = 0) = false := decide_eq_false (by omega)
    have d3 : decide ((N : Int).tmod 2 ≠ 0) = false := by
      have h2 : N % 2 = 0 := by rw [← hN, hev]; omega
      have h3 : (N : Int).tmod 2 = ((N % 2 : Nat) : Int) := rfl
      rw [h3, h2]; rfl
    by_cases hz2 : M ≤ 2
    · have := nOrd_le2 sG (by rw [hM]; exact hz2)
      have d5 : decide ((M : Int) ≤ 2) = true := decide_eq_true (by omega)
      have d6 : decide ((N : Int) > 2) = false := decide_eq_false (by omega)
      simp (disch := omega) only [f10_r5, okG_u, asG_u, bin_rem, nth2, Nat.reduceEqDiff, ↓reduceIte, Bool.false_eq_true, Bool.not_true, Bool.not_false, ne0, f1, kb, cond_true, hlen, d1, d2, d3, d5, d6, bz]
      refine hfin _ ?_ ?_ ?_ <;> simp (disch := omega) only [getK_set, Nat.reduceEqDiff, ↓reduceIte]
    · have d5 : decide ((M : Int) ≤ 2) = false := decide_eq_false (by omega)
      simp (disch := omega) only [f10_r5, okG_u, asG_u, bin_rem, nth2, Nat.reduceEqDiff, ↓reduceIte, Bool.false_eq_true, Bool.not_true, Bool.not_false, ne0, f1, kb, cond_true, hlen, d1, d2, d3, d5, bz]
      refine hfin _ ?_ ?_ ?_ <;> simp (disch := omega) only [getK_set, Nat.reduceEqDiff, ↓reduceIte]
end
end Go.Ev
