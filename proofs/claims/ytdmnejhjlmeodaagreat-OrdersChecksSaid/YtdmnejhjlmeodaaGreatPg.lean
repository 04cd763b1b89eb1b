/-
  Orders (the other seat): the law OrdersChecks., and what follows.
-/
import Derived.Test.YtdmnejhjlmeodaaGreatPd
import Derived.Test.YtdmnejhjlmeodaaGreatPf
namespace Go.Ev
open Go Go.RowKit
noncomputable def f3_r0 : List EOper := [oG 5 (.box 2 (tG 2)), oG 6 (.as (.c (.b false)))]
noncomputable def f3_r1 : List EOper := [oG 40 (.mv (tG 1)), oG 41 (.call (fG 5) [(tG 40), (cG 25)]), oG 7 (.as (tG 41))]
noncomputable def f3_r2 : List EOper := [oG 42 (.mv (tG 0)), oG 43 (.mv (tG 7)), oG 44 (.call (fG 6) [(tG 42), (tG 43)]), oG 8 (.as (tG 44)), oG 9 (.as (cG 0))]
noncomputable def f3_r3 : List EOper := [oG 46 (.mv (tG 0)), oG 47 (.bin .lss (tG 46) (cG 1)), oG 48 (.mv (tG 47)), gG 49 48 false (.mv (tG 0)), gG 50 48 false (.bin .gtr (tG 49) (cG 7)), oG 51 (.pick (tG 48) (.c (.b true)) (tG 50)), oG 45 (.as (tG 51))]
noncomputable def f3_r4 : List EOper := [oG 9 (.as (cG 1))]
noncomputable def f3_r5 : List EOper := [oG 53 (.mv (tG 0)), oG 54 (.mv (tG 7)), oG 55 (.call (fG 7) [(tG 53), (tG 54)]), oG 56 (.not (tG 55)), oG 52 (.as (tG 56))]
noncomputable def f3_r6 : List EOper := [oG 9 (.as (cG 30))]
noncomputable def f3_r7 : List EOper := [oG 57 (.mv (tG 0)), oG 58 (.mv (tG 7)), oG 59 (.call (fG 8) [(tG 57), (tG 58)]), oG 60 (.mv (tG 8)), oG 61 (.bin .neq (tG 59) (tG 60)), oG 62 (.mv (tG 61)), gG 63 62 false (.mv (tG 0)), gG 64 62 false (.mv (tG 7)), gG 65 62 false (.call (fG 9) [(tG 63), (tG 64)]), gG 66 62 false (.mv (tG 9)), gG 67 62 false (.bin .neq (tG 65) (tG 66)), oG 68 (.pick (tG 62) (.c (.b true)) (tG 67))]
noncomputable def f3_r8 : List EOper := [oG 6 (.as (.c (.b false)))]
noncomputable def f3_r9 : List EOper := [oG 69 (.mv (tG 8)), oG 70 (.bin .neq (tG 69) (cG 0))]
noncomputable def f3_r10 : List EOper := [oG 72 (.mv (tG 0)), oG 73 (.mv (tG 7)), oG 74 (.call (fG 10) [(tG 72), (tG 73)]), oG 71 (.mv (tG 74)), oG 75 (.ext (tG 71) 0), oG 76 (.ext (tG 71) 1), oG 10 (.as (tG 75)), oG 11 (.as (tG 76))]
noncomputable def f3_r11 : List EOper := [oG 78 (.mv (tG 0)), oG 79 (.mv (tG 7)), oG 80 (.ldn 2 (tG 5)), oG 81 (.ldn 2 (tG 5)), oG 82 (.call (fG 11) [(tG 78), (tG 79), (tG 80), (tG 81)]), oG 77 (.mv (tG 82)), oG 83 (.ext (tG 77) 0), oG 84 (.ext (tG 77) 1), oG 12 (.as (tG 83)), oG 13 (.as (tG 84))]
noncomputable def f3_r12 : List EOper := [oG 86 (.mv (tG 0)), oG 87 (.mv (tG 7)), oG 88 (.ldn 2 (tG 5)), oG 89 (.call (fG 12) [(tG 86), (tG 87), (tG 88)]), oG 85 (.mv (tG 89)), oG 90 (.ext (tG 85) 0), oG 91 (.ext (tG 85) 1), oG 14 (.as (tG 90)), oG 15 (.as (tG 91))]
noncomputable def f3_r13 : List EOper := [oG 93 (.mv (tG 0)), oG 94 (.mv (tG 7)), oG 95 (.call (fG 13) [(tG 93), (tG 94)]), oG 92 (.mv (tG 95)), oG 96 (.ext (tG 92) 0), oG 97 (.ext (tG 92) 1), oG 16 (.as (tG 96)), oG 17 (.as (tG 97))]
noncomputable def f3_r14 : List EOper := [oG 99 (.mv (tG 0)), oG 100 (.mv (tG 7)), oG 101 (.call (fG 14) [(tG 99), (tG 100)]), oG 98 (.mv (tG 101)), oG 102 (.ext (tG 98) 0), oG 103 (.ext (tG 98) 1), oG 104 (.ext (tG 98) 2), oG 18 (.as (tG 102)), oG 19 (.as (tG 103)), oG 20 (.as (tG 104))]
noncomputable def f3_r15 : List EOper := [oG 106 (.mv (tG 0)), oG 107 (.mv (tG 7)), oG 108 (.call (fG 15) [(tG 106), (tG 107)]), oG 105 (.mv (tG 108)), oG 109 (.ext (tG 105) 0), oG 110 (.ext (tG 105) 1), oG 111 (.ext (tG 105) 2), oG 21 (.as (tG 109)), oG 22 (.as (tG 110)), oG 23 (.as (tG 111))]
noncomputable def f3_r16 : List EOper := [oG 113 (.mv (tG 0)), oG 114 (.mv (tG 7)), oG 115 (.mv (tG 7)), oG 116 (.call (fG 16) [(tG 113), (tG 114), (tG 115)]), oG 112 (.mv (tG 116)), oG 117 (.ext (tG 112) 0), oG 118 (.ext (tG 112) 1), oG 24 (.as (tG 117)), oG 25 (.as (tG 118))]
noncomputable def f3_r17 : List EOper := [oG 120 (.mv (tG 0)), oG 121 (.mv (tG 7)), oG 122 (.call (fG 17) [(tG 120), (tG 121)]), oG 119 (.mv (tG 122)), oG 123 (.ext (tG 119) 0), oG 124 (.ext (tG 119) 1), oG 26 (.as (tG 123)), oG 27 (.as (tG 124))]
noncomputable def f3_r18 : List EOper := [oG 126 (.mv (tG 0)), oG 127 (.mv (tG 7)), oG 128 (.call (fG 18) [(tG 126), (tG 127)]), oG 125 (.mv (tG 128)), oG 129 (.ext (tG 125) 0), oG 130 (.ext (tG 125) 1), oG 131 (.ext (tG 125) 2), oG 28 (.alloc 2 [.sn, .sn]), ⟨none, none, .st 2 (tG 28) (tG 129)⟩, oG 29 (.as (tG 130)), oG 30 (.as (tG 131))]
noncomputable def f3_r19 : List EOper := [oG 132 (.mv (tG 11)), oG 133 (.mv (tG 8)), oG 134 (.bin .neq (tG 132) (tG 133)), oG 135 (.mv (tG 134)), gG 136 135 false (.mv (tG 13)), gG 137 135 false (.mv (tG 8)), gG 138 135 false (.bin .neq (tG 136) (tG 137)), oG 139 (.pick (tG 135) (.c (.b true)) (tG 138)), oG 140 (.mv (tG 139)), gG 141 140 false (.mv (tG 15)), gG 142 140 false (.mv (tG 8)), gG 143 140 false (.bin .neq (tG 141) (tG 142)), oG 144 (.pick (tG 140) (.c (.b true)) (tG 143)), oG 145 (.mv (tG 144)), gG 146 145 false (.mv (tG 17)), gG 147 145 false (.mv (tG 8)), gG 148 145 false (.bin .neq (tG 146) (tG 147)), oG 149 (.pick (tG 145) (.c (.b true)) (tG 148)), oG 150 (.mv (tG 149)), gG 151 150 false (.mv (tG 20)), gG 152 150 false (.mv (tG 8)), gG 153 150 false (.bin .neq (tG 151) (tG 152)), oG 154 (.pick (tG 150) (.c (.b true)) (tG 153)), oG 155 (.mv (tG 154)), gG 156 155 false (.mv (tG 23)), gG 157 155 false (.mv (tG 8)), gG 158 155 false (.bin .neq (tG 156) (tG 157)), oG 159 (.pick (tG 155) (.c (.b true)) (tG 158)), oG 160 (.mv (tG 159)), gG 161 160 false (.mv (tG 25)), gG 162 160 false (.mv (tG 8)), gG 163 160 false (.bin .neq (tG 161) (tG 162)), oG 164 (.pick (tG 160) (.c (.b true)) (tG 163)), oG 165 (.mv (tG 164)), gG 166 165 false (.mv (tG 27)), gG 167 165 false (.mv (tG 8)), gG 168 165 false (.bin .neq (tG 166) (tG 167)), oG 169 (.pick (tG 165) (.c (.b true)) (tG 168)), oG 170 (.mv (tG 169)), gG 171 170 false (.mv (tG 30)), gG 172 170 false (.mv (tG 8)), gG 173 170 false (.bin .neq (tG 171) (tG 172)), oG 174 (.pick (tG 170) (.c (.b true)) (tG 173)), oG 175 (.mv (tG 174)), gG 176 175 false (.mv (tG 12)), oG 177 (.pick (tG 175) (.c (.b true)) (tG 176)), oG 178 (.mv (tG 177)), gG 179 178 false (.mv (tG 19)), oG 180 (.pick (tG 178) (.c (.b true)) (tG 179)), oG 181 (.mv (tG 180)), gG 182 181 false (.mv (tG 22)), oG 183 (.pick (tG 181) (.c (.b true)) (tG 182)), oG 184 (.mv (tG 183)), gG 185 184 false (.mv (tG 24)), oG 186 (.pick (tG 184) (.c (.b true)) (tG 185)), oG 187 (.mv (tG 186)), gG 188 187 false (.mv (tG 29)), oG 189 (.pick (tG 187) (.c (.b true)) (tG 188)), oG 190 (.mv (tG 189)), gG 191 190 false (.mv (tG 10)), gG 192 190 false (.len (tG 191)), gG 193 190 false (.mv (tG 14)), gG 194 190 false (.len (tG 193)), gG 195 190 false (.bin .add (tG 192) (tG 194)), gG 196 190 false (.mv (tG 16)), gG 197 190 false (.bin .add (tG 195) (tG 196)), gG 198 190 false (.mv (tG 18)), gG 199 190 false (.len (tG 198)), gG 200 190 false (.bin .add (tG 197) (tG 199)), gG 201 190 false (.mv (tG 21)), gG 202 190 false (.len (tG 201)), gG 203 190 false (.bin .add (tG 200) (tG 202)), gG 204 190 false (.mv (tG 26)), gG 205 190 false (.bin .add (tG 203) (tG 204)), gG 206 190 false (.iadr 2 1 (tG 28) (cG 0)), gG 207 190 false (.ld (tG 206)), gG 208 190 false (.len (tG 207)), gG 209 190 false (.bin .add (tG 205) (tG 208)), gG 210 190 false (.iadr 2 1 (tG 28) (cG 1)), gG 211 190 false (.ld (tG 210)), gG 212 190 false (.len (tG 211)), gG 213 190 false (.bin .add (tG 209) (tG 212)), gG 214 190 false (.bin .neq (tG 213) (cG 0)), oG 215 (.pick (tG 190) (.c (.b true)) (tG 214))]
noncomputable def f3_r20 : List EOper := [oG 6 (.as (.c (.b false)))]
noncomputable def f3_r21 : List EOper := [oG 216 (.mv (tG 9)), oG 217 (.bin .neq (tG 216) (cG 0))]
noncomputable def f3_r22 : List EOper := [oG 219 (.mv (tG 0)), oG 220 (.mv (tG 7)), oG 221 (.call (fG 19) [(tG 219), (tG 220)]), oG 218 (.mv (tG 221)), oG 222 (.ext (tG 218) 0), oG 223 (.ext (tG 218) 1), oG 31 (.as (tG 222)), oG 32 (.as (tG 223))]
noncomputable def f3_r23 : List EOper := [oG 225 (.mv (tG 0)), oG 226 (.mv (tG 7)), oG 227 (.call (fG 20) [(tG 225), (tG 226)]), oG 224 (.mv (tG 227)), oG 228 (.ext (tG 224) 0), oG 229 (.ext (tG 224) 1), oG 33 (.as (tG 228)), oG 34 (.as (tG 229))]
noncomputable def f3_r24 : List EOper := [oG 231 (.mv (tG 0)), oG 232 (.mv (tG 7)), oG 233 (.call (fG 21) [(tG 231), (tG 232)]), oG 230 (.mv (tG 233)), oG 234 (.ext (tG 230) 0), oG 235 (.ext (tG 230) 1), oG 35 (.as (tG 234)), oG 36 (.as (tG 235))]
noncomputable def f3_r25 : List EOper := [oG 237 (.mv (tG 0)), oG 238 (.mv (tG 7)), oG 239 (.call (fG 22) [(tG 237), (tG 238)]), oG 236 (.mv (tG 239)), oG 240 (.ext (tG 236) 0), oG 241 (.ext (tG 236) 1), oG 242 (.ext (tG 236) 2), oG 37 (.alloc 2 [.sn, .sn]), ⟨none, none, .st 2 (tG 37) (tG 240)⟩, oG 38 (.as (tG 241)), oG 39 (.as (tG 242))]
noncomputable def f3_r26 : List EOper := [oG 243 (.mv (tG 32)), oG 244 (.mv (tG 9)), oG 245 (.bin .neq (tG 243) (tG 244)), oG 246 (.mv (tG 245)), gG 247 246 false (.mv (tG 34)), gG 248 246 false (.mv (tG 9)), gG 249 246 false (.bin .neq (tG 247) (tG 248)), oG 250 (.pick (tG 246) (.c (.b true)) (tG 249)), oG 251 (.mv (tG 250)), gG 252 251 false (.mv (tG 36)), gG 253 251 false (.mv (tG 9)), gG 254 251 false (.bin .neq (tG 252) (tG 253)), oG 255 (.pick (tG 251) (.c (.b true)) (tG 254)), oG 256 (.mv (tG 255)), gG 257 256 false (.mv (tG 39)), gG 258 256 false (.mv (tG 9)), gG 259 256 false (.bin .neq (tG 257) (tG 258)), oG 260 (.pick (tG 256) (.c (.b true)) (tG 259)), oG 261 (.mv (tG 260)), gG 262 261 false (.mv (tG 38)), oG 263 (.pick (tG 261) (.c (.b true)) (tG 262)), oG 264 (.mv (tG 263)), gG 265 264 false (.mv (tG 31)), gG 266 264 false (.len (tG 265)), gG 267 264 false (.mv (tG 33)), gG 268 264 false (.len (tG 267)), gG 269 264 false (.bin .add (tG 266) (tG 268)), gG 270 264 false (.mv (tG 35)), gG 271 264 false (.len (tG 270)), gG 272 264 false (.bin .add (tG 269) (tG 271)), gG 273 264 false (.iadr 2 1 (tG 37) (cG 0)), gG 274 264 false (.ld (tG 273)), gG 275 264 false (.len (tG 274)), gG 276 264 false (.bin .add (tG 272) (tG 275)), gG 277 264 false (.iadr 2 1 (tG 37) (cG 1)), gG 278 264 false (.ld (tG 277)), gG 279 264 false (.len (tG 278)), gG 280 264 false (.bin .add (tG 276) (tG 279)), gG 281 264 false (.bin .neq (tG 280) (cG 0)), oG 282 (.pick (tG 264) (.c (.b true)) (tG 281))]
noncomputable def f3_r27 : List EOper := [oG 6 (.as (.c (.b false)))]
noncomputable def f3_r28 : List EOper := [oG 283 (.call (fG 23) []), oG 6 (.as (tG 283))]
noncomputable def f3_c : EC := (.seq (.reg f3_r0) (.seq (.reg f3_r1) (.seq (.reg f3_r2) (.seq (.block 0 (.seq (.reg f3_r3) (.cond (tG 45) (.reg f3_r4) (.seq (.reg f3_r5) (.cond (tG 52) (.reg f3_r6) .skip))))) (.seq (.seq (.reg f3_r7) (.cond (tG 68) (.seq (.reg f3_r8) .ret) .skip)) (.seq (.seq (.reg f3_r9) (.cond (tG 70) (.seq (.reg f3_r10) (.seq (.reg f3_r11) (.seq (.reg f3_r12) (.seq (.reg f3_r13) (.seq (.reg f3_r14) (.seq (.reg f3_r15) (.seq (.reg f3_r16) (.seq (.reg f3_r17) (.seq (.reg f3_r18) (.seq (.reg f3_r19) (.cond (tG 215) (.seq (.reg f3_r20) .ret) .skip))))))))))) .skip)) (.seq (.seq (.reg f3_r21) (.cond (tG 217) (.seq (.reg f3_r22) (.seq (.reg f3_r23) (.seq (.reg f3_r24) (.seq (.reg f3_r25) (.seq (.reg f3_r26) (.cond (tG 282) (.seq (.reg f3_r27) .ret) .skip)))))) .skip)) (.seq (.reg f3_r28) .ret))))))))
noncomputable def f3 : EF := ⟨284, [.tmp (.ofNat 6)], f3_c, none⟩
theorem f3_rs : f3.rs = [.tmp (.ofNat 6)] := of_eq_true (eq_self _)
structure CallsKs (fs : T EF) : Prop extends CallsEr fs, CallsRk fs where
  c5 : fs.get (K.ofNat 5) = some f5
  c6 : fs.get (K.ofNat 6) = some f6
  c7 : fs.get (K.ofNat 7) = some f7
  c10 : fs.get (K.ofNat 10) = some f10
  c11 : fs.get (K.ofNat 11) = some f11
  c12 : fs.get (K.ofNat 12) = some f12
  c13 : fs.get (K.ofNat 13) = some f13
  c14 : fs.get (K.ofNat 14) = some f14
  c15 : fs.get (K.ofNat 15) = some f15
  c16 : fs.get (K.ofNat 16) = some f16
  c17 : fs.get (K.ofNat 17) = some f17
  c18 : fs.get (K.ofNat 18) = some f18
  c19 : fs.get (K.ofNat 19) = some f19
  c20 : fs.get (K.ofNat 20) = some f20
  c21 : fs.get (K.ofNat 21) = some f21
  c22 : fs.get (K.ofNat 22) = some f22
  aw : ∀ h P, CallP fs (.fn (K.ofNat 23) []) [] h P = P (.b true) h
theorem pairs_inI {n : Nat} {L : List Int} (hb : ∀ z ∈ L, inR .i64 z = true) : ∀ y ∈ pairsOf n L, inI y := fun y hy => by
  unfold pairsOf at hy
  obtain ⟨i, _, rfl⟩ := List.mem_map.1 hy
  have gd : ∀ k : Nat, inR .i64 (L.getD k 0) = true := fun k => by
    rw [List.getD_eq_getElem?_getD]
    cases e : L[k]? with
    | none => rfl
    | some z => exact hb z (List.mem_of_getElem? e)
  exact ⟨gd _, gd _⟩
section
variable {fs : T EF} {h : H}
theorem f3_t2 {Q : V → H → Prop} (k : CallsKs fs) (hQ : Q (.b true) h) {fr : Fr} : W fs none (.reg f3_r28) (seqK (W fs none .ret) (retK f3 Q)) fr h := by
  simp (disch := omega) only [f3_r28, f3_rs, Option.some.injEq, exists_eq_left', ↓reduceIte, k.aw, bz]
  exact hQ
theorem two_var : storeV (h.new (.cells 2 [.sn, .sn])) 2 (.p h.nx 0) (.agg [.sn, .sn]) = .ok undefV ((h.new (.cells 2 [.sn, .sn])).put h.nx (.cells 2 [.sn, .sn])) ∧ Grow h.nx.nat h ((h.new (.cells 2 [.sn, .sn])).put h.nx (.cells 2 [.sn, .sn])) ∧ ((h.new (.cells 2 [.sn, .sn])).put h.nx (.cells 2 [.sn, .sn])).get h.nx = .cells 2 [.sn, .sn] := by
  have n1 := nx_new h (.cells 2 [.sn, .sn])
  exact ⟨store_p get_new_same (show cellsN 2 (.agg [.sn, .sn]) = some [.sn, .sn] from rfl) (by omega), (Grow.new (Nat.le_refl _) _).trans (Grow.put (Nat.le_refl _) (by omega) _), get_put_same⟩
set_option maxRecDepth 100000 in
theorem f3_t1 {n : Int} {v : V} {P : List (Int × Int)} {Q : V → H → Prop} (k : CallsKs fs) (hQ : ∀ h', Grow h.nx.nat h h' → Q (.b true) h') (hv : Srp h v P) (hl : P.length ≤ 1000) (hc : HC h) {fr : Fr} (g0 : fr.get (.ofNat 0) = some (.i .i64 n)) (g7 : fr.get (.ofNat 7) = some v) (g9 : fr.get (.ofNat 9) = some (.i .i64 (ckO n P))) :
    W fs none (.reg f3_r21) (seqK (W fs none (.cond (.t (K.ofNat 217)) (.seq (.reg f3_r22) (.seq (.reg f3_r23) (.seq (.reg f3_r24) (.seq (.reg f3_r25) (.seq (.reg f3_r26) (.cond (.t (K.ofNat 282)) (.seq (.reg f3_r27) .ret) .skip)))))) .skip)) (seqK (W fs none (.seq (.reg f3_r28) .ret)) (retK f3 Q))) fr h := by
  by_cases hw : ckO n P = 0
  · have d : decide (ckO n P ≠ 0) = false := decide_eq_false (fun h => h hw)
    simp (disch := omega) only [f3_r21, ↓reduceIte, Bool.false_eq_true, g9, d, bz]
    exact f3_t2 k (hQ _ (Grow.refl _ _))
  · have d : decide (ckO n P ≠ 0) = true := decide_eq_true hw
    have kE := k.toCallsEr
    simp (disch := omega) only [f3_r21, f3_r22, Nat.reduceEqDiff, ↓reduceIte, g0, g7, g9, d, bz]
    refine (callP_0 (ef := f19) k.c19 rfl (f19_e kE hv hl hw hc)).mono ?_
    rintro r h1 ⟨rfl, g1⟩
    have hc1 := g1.hc hc
    have hv1 := hv.grow hc g1
    simp (disch := omega) only [f3_r23, Nat.reduceEqDiff, ↓reduceIte, g0, g7, bz]
    refine (callP_0 (ef := f20) k.c20 rfl (f20_e kE hv1 hl hw hc1)).mono ?_
    rintro r h2 ⟨rfl, g2⟩
    have hc2 := g2.hc hc1
    have hv2 := hv1.grow hc1 g2
    simp (disch := omega) only [f3_r24, Nat.reduceEqDiff, ↓reduceIte, g0, g7, bz]
    refine (callP_0 (ef := f21) k.c21 rfl (f21_e kE hv2 hl hw hc2)).mono ?_
    rintro r h3 ⟨rfl, g3⟩
    have hc3 := g3.hc hc2
    have hv3 := hv2.grow hc2 g3
    simp (disch := omega) only [f3_r25, Nat.reduceEqDiff, ↓reduceIte, g0, g7, bz]
    refine (callP_0 (ef := f22) k.c22 rfl (f22_e kE hv3 hl hw hc3)).mono ?_
    rintro r h4 ⟨rfl, g4⟩
    have hc4 := g4.hc hc3
    obtain ⟨s5, g5, e5⟩ := two_var (h := h4)
    simp (disch := omega) only [nth2, Nat.reduceEqDiff, ↓reduceIte, s5, bz]
    generalize (h4.new (.cells 2 [.sn, .sn])).put h4.nx (.cells 2 [.sn, .sn]) = h5 at *
    have gA := g1.trans ((g2.low g1.nx).trans ((g3.low (by have := g1.nx; have := g2.nx; omega)).trans ((g4.low (by have := g1.nx; have := g2.nx; have := g3.nx; omega)).trans (g5.low (by have := g1.nx; have := g2.nx; have := g3.nx; have := g4.nx; omega)))))
    have l0 := ld20 e5
    have l1 := ld21 e5
    have dd : decide (ckO n P ≠ ckO n P) = false := by simp
    have z0 : decide ((0 : Int) ≠ 0) = false := rfl
    generalize ckO n P = w at *
    simp (disch := omega) only [f3_r26, len_sn, Nat.reduceEqDiff, ↓reduceIte, Bool.false_eq_true, Bool.not_false, g9, dd, l0, l1, z0, Int.add_zero, bz]
    exact f3_t2 k (hQ _ gA)
set_option maxRecDepth 100000 in
theorem f3_ret {n x1 x2 : Int} {v : V} {A : List (Int × Int)} (k : CallsKs fs) (hA : ∀ y ∈ A, inI y) (ha : Srp h v A) (hc : HC h) : Ret fs f3 [.i .i64 n, v, .agg [.i .i64 x1, .i .i64 x2]] h fun r h' => r = .b true ∧ Grow h.nx.nat h h' := by
  apply ret_of rfl
  show W fs none f3_c _ _ _
  unfold f3_c
  have o25 : Int.ofNat 25 = ((25 : Nat) : Int) := rfl
  have cx : cellsN 2 (.agg [.i .i64 x1, .i .i64 x2]) = some [.i .i64 x1, .i .i64 x2] := rfl
  have n1 := nx_new h (.cells 2 [.i .i64 x1, .i .i64 x2])
  have g1_ : Grow h.nx.nat h (h.new (.cells 2 [.i .i64 x1, .i .i64 x2])) := Grow.new (Nat.le_refl _) _
  have e1 : (h.new (.cells 2 [.i .i64 x1, .i .i64 x2])).get h.nx = .cells 2 [.i .i64 x1, .i .i64 x2] := get_new_same
  simp (disch := omega) only [f3_r0, f3_r1, Nat.reduceEqDiff, ↓reduceIte, of25, cx, bz]
  generalize h.new (.cells 2 [.i .i64 x1, .i .i64 x2]) = h1 at *
  have hc1 := g1_.hc hc
  refine (callP_0 (ef := f5) k.c5 rfl (f5_ret (m := 25) (by omega) (ha.grow hc g1_) hc1)).mono ?_
  rintro u h2 ⟨hu, _, g2_⟩
  have hc2 := g2_.hc hc1
  have hP : ∀ y ∈ A.take (min A.length 25), inI y := fun y hy => hA y (List.mem_of_mem_take hy)
  have hl : (A.take (min A.length 25)).length ≤ 1000 := by rw [List.length_take]; omega
  generalize A.take (min A.length 25) = P at *
  have hv2 := hu.srpo
  simp (disch := omega) only [f3_r2, Nat.reduceEqDiff, ↓reduceIte, bz]
  refine (callP_0 (ef := f6) k.c6 rfl (f6_ret (n := n) k.toCallsRk hv2 hl hc2)).mono ?_
  rintro r h3 ⟨rfl, g3_⟩
  have hc3 := g3_.hc hc2
  have hv3 := hv2.grow hc2 g3_
  have g13 : Grow h1.nx.nat h1 h3 := g2_.trans (g3_.low g2_.nx)
  have dw : decide (chkG n P ≠ chkG n P) = false := by simp
  have dk : decide (ckO n P ≠ ckO n P) = false := by simp
  have kE := k.toCallsEr
  -- behind the first switch
  have main : ∀ (fr : Fr) (hh : H), Grow h1.nx.nat h1 hh → HC hh → Srp hh u P → fr.get (K.ofNat 0) = some (.i .i64 n) ∧ fr.get (K.ofNat 5) = some (.p h.nx 0) ∧ fr.get (K.ofNat 7) = some (u) ∧ fr.get (K.ofNat 8) = some (.i .i64 (chkG n P)) ∧ fr.get (K.ofNat 9) = some (.i .i64 (ckO n P)) →
      W fs none (.reg f3_r7) (seqK (W fs none (.cond (.t (K.ofNat 68)) (.seq (.reg f3_r8) .ret) .skip)) (seqK (W fs none (.seq (.seq (.reg f3_r9) (.cond (.t (K.ofNat 70)) (.seq (.reg f3_r10) (.seq (.reg f3_r11) (.seq (.reg f3_r12) (.seq (.reg f3_r13) (.seq (.reg f3_r14) (.seq (.reg f3_r15) (.seq (.reg f3_r16) (.seq (.reg f3_r17) (.seq (.reg f3_r18) (.seq (.reg f3_r19) (.cond (.t (K.ofNat 215)) (.seq (.reg f3_r20) .ret) .skip))))))))))) .skip)) (.seq (.seq (.reg f3_r21) (.cond (.t (K.ofNat 217)) (.seq (.reg f3_r22) (.seq (.reg f3_r23) (.seq (.reg f3_r24) (.seq (.reg f3_r25) (.seq (.reg f3_r26) (.cond (.t (K.ofNat 282)) (.seq (.reg f3_r27) .ret) .skip)))))) .skip)) (.seq (.reg f3_r28) .ret)))) (retK f3 fun r h' => r = .b true ∧ Grow h.nx.nat h h'))) fr hh := by
    rintro fr hh gH hcH hvH ⟨g0, g5, g7, g8, g9⟩
    simp (disch := omega) only [f3_r7, Nat.reduceEqDiff, ↓reduceIte, g0, g7, bz]
    refine (callP_0 (ef := f8) k.c8 rfl (f8_ret k.toCallsCk hvH (by omega) hcH)).mono ?_
    rintro r h4 ⟨rfl, g4⟩
    have hc4 := g4.hc hcH
    have hv4 := hvH.grow hcH g4
    have gH4 := gH.trans (g4.low gH.nx)
    simp (disch := omega) only [Nat.reduceEqDiff, ↓reduceIte, Bool.not_false, g0, g7, g8, dw, bz]
    refine (callP_0 (ef := f9) k.c9 rfl (f9_ret k.toCallsCk hv4 (by omega) hc4)).mono ?_
    rintro r h5 ⟨rfl, g5_⟩
    have hc5 := g5_.hc hc4
    have hv5 := hv4.grow hc4 g5_
    have gH5 := gH4.trans (g5_.low gH4.nx)
    have hQ : ∀ {hh : H}, Grow h1.nx.nat h1 hh → ∀ h', Grow hh.nx.nat hh h' → (V.b true = .b true ∧ Grow h.nx.nat h h') := fun {hh} g h' g' => ⟨rfl, (g1_.trans (g.low g1_.nx)).trans (g'.low (by have := g1_.nx; have := g.nx; omega))⟩
    by_cases hw : chkG n P = 0
    · have d : decide (chkG n P ≠ 0) = false := decide_eq_false (fun h => h hw)
      simp (disch := omega) only [f3_r9, Nat.reduceEqDiff, ↓reduceIte, Bool.false_eq_true, Bool.not_false, g8, g9, dk, d, bz]
      exact f3_t1 (n := n) k (hQ gH5) hv5 hl hc5 (by simp (disch := omega) only [getK_set, Nat.reduceEqDiff, ↓reduceIte, g0]) (by simp (disch := omega) only [getK_set, Nat.reduceEqDiff, ↓reduceIte, g7]) (by simp (disch := omega) only [getK_set, Nat.reduceEqDiff, ↓reduceIte, g9])
    · have d : decide (chkG n P ≠ 0) = true := decide_eq_true hw
      have hax : V.agg [.i .i64 x1, .i .i64 x2] = pV (x1, x2) := rfl
      have lx : ∀ {h' : H}, Grow h1.nx.nat h1 h' → loadV h' (.p h.nx 0) (many? 2) = .ok (.agg [.i .i64 x1, .i .i64 x2]) h' := fun {h'} g => ldn2 ((g.old h.nx (by omega)).trans e1)
      simp (disch := omega) only [f3_r9, f3_r10, Nat.reduceEqDiff, ↓reduceIte, Bool.false_eq_true, Bool.not_false, g0, g7, g8, g9, dk, d, bz]
      refine (callP_0 (ef := f10) k.c10 rfl (f10_e kE hv5 hl hw hc5)).mono ?_
      rintro r h6 ⟨rfl, g6⟩
      have hc6 := g6.hc hc5
      have hv6 := hv5.grow hc5 g6
      have gH6 := gH5.trans (g6.low gH5.nx)
      simp (disch := omega) only [f3_r11, Nat.reduceEqDiff, ↓reduceIte, g0, g5, g7, lx gH6, hax, bz]
      refine (callP_0 (ef := f11) k.c11 rfl (f11_e kE hv6 hl hw hc6)).mono ?_
      rintro r h7 ⟨rfl, g7_⟩
      have hc7 := g7_.hc hc6
      have hv7 := hv6.grow hc6 g7_
      have gH7 := gH6.trans (g7_.low gH6.nx)
      simp (disch := omega) only [f3_r12, Nat.reduceEqDiff, ↓reduceIte, g0, g5, g7, lx gH7, hax, bz]
      refine (callP_0 (ef := f12) k.c12 rfl (f12_e kE hv7 hl hw hc7)).mono ?_
      rintro r h8 ⟨rfl, g8_⟩
      have hc8 := g8_.hc hc7
      have hv8 := hv7.grow hc7 g8_
      have gH8 := gH7.trans (g8_.low gH7.nx)
      simp (disch := omega) only [f3_r13, Nat.reduceEqDiff, ↓reduceIte, g0, g7, bz]
      refine (callP_0 (ef := f13) k.c13 rfl (f13_e kE hv8 hl hw hc8)).mono ?_
      rintro r h9 ⟨rfl, g9_⟩
      have hc9 := g9_.hc hc8
      have hv9 := hv8.grow hc8 g9_
      have gH9 := gH8.trans (g9_.low gH8.nx)
      simp (disch := omega) only [f3_r14, Nat.reduceEqDiff, ↓reduceIte, g0, g7, bz]
      refine (callP_0 (ef := f14) k.c14 rfl (f14_e kE hv9 hl hw hc9)).mono ?_
      rintro r ha ⟨rfl, ga⟩
      have hca := ga.hc hc9
      have hva := hv9.grow hc9 ga
      have gHa := gH9.trans (ga.low gH9.nx)
      simp (disch := omega) only [f3_r15, nth2, Nat.reduceEqDiff, ↓reduceIte, g0, g7, bz]
      refine (callP_0 (ef := f15) k.c15 rfl (f15_e kE hva hl hw hca)).mono ?_
      rintro r hb ⟨rfl, gb⟩
      have hcb := gb.hc hca
      have hvb := hva.grow hca gb
      have gHb := gHa.trans (gb.low gHa.nx)
      simp (disch := omega) only [f3_r16, nth2, Nat.reduceEqDiff, ↓reduceIte, g0, g7, bz]
      refine (callP_0 (ef := f16) k.c16 rfl (f16_e kE hvb hl hw hcb)).mono ?_
      rintro r hd ⟨rfl, gd⟩
      have hcd := gd.hc hcb
      have hvd := hvb.grow hcb gd
      have gHd := gHb.trans (gd.low gHb.nx)
      simp (disch := omega) only [f3_r17, Nat.reduceEqDiff, ↓reduceIte, g0, g7, bz]
      refine (callP_0 (ef := f17) k.c17 rfl (f17_e kE hvd hl hw hcd)).mono ?_
      rintro r he ⟨rfl, ge⟩
      have hce := ge.hc hcd
      have hve := hvd.grow hcd ge
      have gHe := gHd.trans (ge.low gHd.nx)
      simp (disch := omega) only [f3_r18, Nat.reduceEqDiff, ↓reduceIte, g0, g7, bz]
      refine (callP_0 (ef := f18) k.c18 rfl (f18_e kE hve hl hw hce)).mono ?_
      rintro r hf ⟨rfl, gf⟩
      have hcf := gf.hc hce
      have hvf := hve.grow hce gf
      have gHf := gHe.trans (gf.low gHe.nx)
      obtain ⟨sg, gg, eg⟩ := two_var (h := hf)
      simp (disch := omega) only [nth2, Nat.reduceEqDiff, ↓reduceIte, sg, bz]
      generalize (hf.new (.cells 2 [.sn, .sn])).put hf.nx (.cells 2 [.sn, .sn]) = hg at *
      have hvg := hvf.grow hcf gg
      have gHg := gHf.trans (gg.low gHf.nx)
      have l0 := ld20 eg
      have l1 := ld21 eg
      have z0 : decide ((0 : Int) ≠ 0) = false := rfl
      generalize chkG n P = w at *
      simp (disch := omega) only [f3_r19, len_sn, Nat.reduceEqDiff, ↓reduceIte, Bool.false_eq_true, Bool.not_false, g8, dw, l0, l1, z0, Int.add_zero, bz]
      exact f3_t1 (n := n) k (hQ gHg) hvg hl (gg.hc hcf) (by simp (disch := omega) only [getK_set, Nat.reduceEqDiff, ↓reduceIte, g0]) (by simp (disch := omega) only [getK_set, Nat.reduceEqDiff, ↓reduceIte, g7]) (by simp (disch := omega) only [getK_set, Nat.reduceEqDiff, ↓reduceIte, g9])
  by_cases hn1 : n < 1
  · have d1 : decide (n < 1) = true := decide_eq_true hn1
    have hk : ckO n P = 1 := by unfold ckO; rw [if_pos (.inl hn1)]
    simp (disch := omega) only [f3_r3, f3_r4, Nat.reduceEqDiff, ↓reduceIte, Bool.false_eq_true, Bool.not_true, d1, bz]
    exact main _ _ g13 hc3 hv3 (by rw [hk]; simp (disch := omega) only [getK_set, Nat.reduceEqDiff, ↓reduceIte, and_self])
  · have d1 : decide (n < 1) = false := decide_eq_false hn1
    by_cases hn7 : 7 < n
    · have d2 : decide (7 < n) = true := decide_eq_true hn7
      have hk : ckO n P = 1 := by unfold ckO; rw [if_pos (.inr hn7)]
      simp (disch := omega) only [f3_r3, f3_r4, Nat.reduceEqDiff, ↓reduceIte, Bool.false_eq_true, Bool.not_false, d1, d2, bz]
      exact main _ _ g13 hc3 hv3 (by rw [hk]; simp (disch := omega) only [getK_set, Nat.reduceEqDiff, ↓reduceIte, and_self])
    · have d2 : decide (7 < n) = false := decide_eq_false hn7
      simp (disch := omega) only [f3_r3, f3_r5, Nat.reduceEqDiff, ↓reduceIte, Bool.false_eq_true, Bool.not_false, d1, d2, bz]
      refine (callP_0 (ef := f7) k.c7 rfl (f7_ret k.toCallsRk (by omega) hv3 hP hl hc3)).mono ?_
      rintro r h4 ⟨b, rfl, hb, g4⟩
      have hc4 := g4.hc hc3
      have hv4 := hv3.grow hc3 g4
      have g14 := g13.trans (g4.low g13.nx)
      cases b with
      | true =>
        have hk : ckO n P = 0 := by unfold ckO; rw [if_neg (by omega), if_pos (hb.1 rfl)]
        simp (disch := omega) only [↓reduceIte, Bool.false_eq_true, Bool.not_true, bz]
        exact main _ _ g14 hc4 hv4 (by rw [hk]; simp (disch := omega) only [getK_set, Nat.reduceEqDiff, ↓reduceIte, and_self])
      | false =>
        have hk : ckO n P = 30 := by unfold ckO; rw [if_neg (by omega), if_neg (fun h => by have := hb.2 h; cases this)]
        simp (disch := omega) only [f3_r6, ↓reduceIte, Bool.not_false, of30, bz]
        exact main _ _ g14 hc4 hv4 (by rw [hk]; simp (disch := omega) only [getK_set, Nat.reduceEqDiff, ↓reduceIte, and_self])
end
end Go.Ev
