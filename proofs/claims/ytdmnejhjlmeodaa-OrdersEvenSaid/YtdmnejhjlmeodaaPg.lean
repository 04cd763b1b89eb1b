/-
  Orders: functions of plain values as natives., and what follows.
-/
import Derived.Test.YtdmnejhjlmeodaaPd
import Derived.Test.YtdmnejhjlmeodaaPf
namespace Go.Ev
open Go Go.RowKit
theorem HC.empty : HC ⟨.e, .nil⟩ := fun _ _ => by show getB (T.get _ .nil) = _; rw [T.get_nil]; rfl
theorem pV_inj {x y : Int × Int} (h : pV x = pV y) : x = y := by
  unfold pV at h
  injection h with h
  injection h with h1 h
  injection h with h2 _
  injection h1 with _ h1
  injection h2 with _ h2
  exact Prod.ext h1 h2
theorem aV_inj {x y : Nat × Nat} (h : aV x = aV y) : x = y := by
  rw [aV_pV, aV_pV] at h
  have := pV_inj h
  injection this with h1 h2
  exact Prod.ext (by omega) (by omega)
theorem iV_inj {k : IntKind} {a b : Int} (h : V.i k a = V.i k b) : a = b := by injection h
section
variable {Y : Rig} {fs : T EF}
theorem frV_plain {L : List Bool} : (frV L).plainT = true := by unfold frV; split <;> rfl
theorem orV_plain {L : List Bool} : (orV L).plainT = true := by
  unfold orV
  split
  · show ([rV _, V.b true].all V.plain) = true
    simp only [List.all_cons, List.all_nil, rV_plain, Bool.true_and]; rfl
  · show ([rV _, V.b false].all V.plain) = true
    simp only [List.all_cons, List.all_nil, rV_plain, Bool.true_and]; rfl
theorem rV_plainT {L : List Bool} : (rV L).plainT = true := rV_plain (L := L)
def D96 : Type := {_x : Int × Int // True}
noncomputable def A96 : D96 → List V := fun ⟨x, _⟩ => [V.i .i64 x.1, V.i .i64 x.2]
noncomputable def F96 : D96 → V := fun ⟨x, _⟩ => V.b (nodeB x.1 x.2)
theorem I96 : ∀ x y, A96 x = A96 y → F96 x = F96 y := by
  rintro ⟨x, p⟩ ⟨y, q⟩ h
  have h : [V.i .i64 x.1, V.i .i64 x.2] = [V.i .i64 y.1, V.i .i64 y.2] := h
  injection h with h0 h
  have e0 := iV_inj h0
  injection h with h1 h
  have e1 := iV_inj h1
  have e : x = y := by
    exact Prod.ext e0 e1
  subst e
  rfl
theorem P96 : ∀ x, (A96 x).all V.plain = true := by
  rintro ⟨x, p⟩
  show ([V.i .i64 x.1, V.i .i64 x.2].all V.plain) = true
  first | rfl | (simp only [List.all_cons, List.all_nil, rV_plain, Bool.true_and, Bool.and_true]; done) | (simp only [List.all_cons, List.all_nil, rV_plain, Bool.true_and, Bool.and_true]; rfl)
theorem Q96 : ∀ x, (F96 x).plainT = true := fun ⟨_, _⟩ => rfl
theorem G96 (hfs : Fns Y fs) (hf : f96.nv = none ∧ ∃ fn c, FnOk Y (K.ofNat 96) f96 fn c) : ∀ args v, dataG A96 F96 args = some v → Gives Y (K.ofNat 96) args v := dataG_gives hfs hf P96 Q96 fun ⟨_, p⟩ => by have _ := p; exact f96_ret
theorem E96 {ef : EF} (hf : fs.get (K.ofNat 96) = some ef) (hn : ef.nv = some (flatG (dataG A96 F96))) (x : Int × Int) (p : True) (h : H) (P : V → H → Prop) : CallP fs (.fn (K.ofNat 96) []) (A96 ⟨x, p⟩) h P = P (F96 ⟨x, p⟩) h := callP_data hf hn I96 _ h P
def D77 : Type := {_x : Int × Int // True}
noncomputable def A77 : D77 → List V := fun ⟨x, _⟩ => [pV x]
noncomputable def F77 : D77 → V := fun ⟨x, _⟩ => pV (x.2, x.1)
theorem I77 : ∀ x y, A77 x = A77 y → F77 x = F77 y := by
  rintro ⟨x, p⟩ ⟨y, q⟩ h
  have h : [pV x] = [pV y] := h
  injection h with h0 h
  have e0 := pV_inj h0
  have e : x = y := by
    exact e0
  subst e
  rfl
theorem P77 : ∀ x, (A77 x).all V.plain = true := by
  rintro ⟨x, p⟩
  show ([pV x].all V.plain) = true
  first | rfl | (simp only [List.all_cons, List.all_nil, rV_plain, Bool.true_and, Bool.and_true]; done) | (simp only [List.all_cons, List.all_nil, rV_plain, Bool.true_and, Bool.and_true]; rfl)
theorem Q77 : ∀ x, (F77 x).plainT = true := fun ⟨_, _⟩ => rfl
theorem G77 (hfs : Fns Y fs) (hf : f77.nv = none ∧ ∃ fn c, FnOk Y (K.ofNat 77) f77 fn c) : ∀ args v, dataG A77 F77 args = some v → Gives Y (K.ofNat 77) args v := dataG_gives hfs hf P77 Q77 fun ⟨_, p⟩ => by have _ := p; exact f77_ret
theorem E77 {ef : EF} (hf : fs.get (K.ofNat 77) = some ef) (hn : ef.nv = some (flatG (dataG A77 F77))) (x : Int × Int) (p : True) (h : H) (P : V → H → Prop) : CallP fs (.fn (K.ofNat 77) []) (A77 ⟨x, p⟩) h P = P (F77 ⟨x, p⟩) h := callP_data hf hn I77 _ h P
def D78 : Type := {_x : Int × Int // True}
noncomputable def A78 : D78 → List V := fun ⟨x, _⟩ => [pV x]
noncomputable def F78 : D78 → V := fun ⟨x, _⟩ => pV x
theorem I78 : ∀ x y, A78 x = A78 y → F78 x = F78 y := by
  rintro ⟨x, p⟩ ⟨y, q⟩ h
  have h : [pV x] = [pV y] := h
  injection h with h0 h
theorem P78 : ∀ x, (A78 x).all V.plain = true := by
  rintro ⟨x, p⟩
  show ([pV x].all V.plain) = true
  first | rfl | (simp only [List.all_cons, List.all_nil, rV_plain, Bool.true_and, Bool.and_true]; done) | (simp only [List.all_cons, List.all_nil, rV_plain, Bool.true_and, Bool.and_true]; rfl)
theorem Q78 : ∀ x, (F78 x).plainT = true := fun ⟨_, _⟩ => rfl
theorem G78 (hfs : Fns Y fs) (hf : f78.nv = none ∧ ∃ fn c, FnOk Y (K.ofNat 78) f78 fn c) : ∀ args v, dataG A78 F78 args = some v → Gives Y (K.ofNat 78) args v := dataG_gives hfs hf P78 Q78 fun ⟨_, p⟩ => by have _ := p; exact f78_ret
theorem E78 {ef : EF} (hf : fs.get (K.ofNat 78) = some ef) (hn : ef.nv = some (flatG (dataG A78 F78))) (x : Int × Int) (p : True) (h : H) (P : V → H → Prop) : CallP fs (.fn (K.ofNat 78) []) (A78 ⟨x, p⟩) h P = P (F78 ⟨x, p⟩) h := callP_data hf hn I78 _ h P
def D56 : Type := {_x : Int × Int // True}
noncomputable def A56 : D56 → List V := fun ⟨x, _⟩ => [pV x]
noncomputable def F56 : D56 → V := fun ⟨x, _⟩ => pV x
theorem I56 : ∀ x y, A56 x = A56 y → F56 x = F56 y := by
  rintro ⟨x, p⟩ ⟨y, q⟩ h
  have h : [pV x] = [pV y] := h
  injection h with h0 h
theorem P56 : ∀ x, (A56 x).all V.plain = true := by
  rintro ⟨x, p⟩
  show ([pV x].all V.plain) = true
  first | rfl | (simp only [List.all_cons, List.all_nil, rV_plain, Bool.true_and, Bool.and_true]; done) | (simp only [List.all_cons, List.all_nil, rV_plain, Bool.true_and, Bool.and_true]; rfl)
theorem Q56 : ∀ x, (F56 x).plainT = true := fun ⟨_, _⟩ => rfl
theorem G56 (hfs : Fns Y fs) (hf : f56.nv = none ∧ ∃ fn c, FnOk Y (K.ofNat 56) f56 fn c) : ∀ args v, dataG A56 F56 args = some v → Gives Y (K.ofNat 56) args v := dataG_gives hfs hf P56 Q56 fun ⟨_, p⟩ => by have _ := p; exact f56_ret
theorem E56 {ef : EF} (hf : fs.get (K.ofNat 56) = some ef) (hn : ef.nv = some (flatG (dataG A56 F56))) (x : Int × Int) (p : True) (h : H) (P : V → H → Prop) : CallP fs (.fn (K.ofNat 56) []) (A56 ⟨x, p⟩) h P = P (F56 ⟨x, p⟩) h := callP_data hf hn I56 _ h P
def D70 : Type := {x : List Bool // x.length = 49}
noncomputable def A70 : D70 → List V := fun ⟨x, _⟩ => [rV x]
noncomputable def F70 : D70 → V := fun ⟨x, _⟩ => rV (turnR x)
theorem I70 : ∀ x y, A70 x = A70 y → F70 x = F70 y := by
  rintro ⟨x, p⟩ ⟨y, q⟩ h
  have h : [rV x] = [rV y] := h
  injection h with h0 h
  have e0 := rV_inj h0
  have e : x = y := by
    exact e0
  subst e
  rfl
theorem P70 : ∀ x, (A70 x).all V.plain = true := by
  rintro ⟨x, p⟩
  show ([rV x].all V.plain) = true
  first | rfl | (simp only [List.all_cons, List.all_nil, rV_plain, Bool.and_true]; done) | (simp only [List.all_cons, List.all_nil, rV_plain, Bool.true_and, Bool.and_true]; rfl)
theorem Q70 : ∀ x, (F70 x).plainT = true := fun ⟨_, _⟩ => rV_plainT
theorem G70 (h84 : fs.get (K.ofNat 84) = some f84) (h101 : fs.get (K.ofNat 101) = some f101) (hfs : Fns Y fs) (hf : f70.nv = none ∧ ∃ fn c, FnOk Y (K.ofNat 70) f70 fn c) : ∀ args v, dataG A70 F70 args = some v → Gives Y (K.ofNat 70) args v := dataG_gives hfs hf P70 Q70 fun ⟨_, p⟩ => by have _ := p; exact (f70_ret p h84 h101 HC.empty).mono fun _ _ h => h.1
theorem E70 {ef : EF} (hf : fs.get (K.ofNat 70) = some ef) (hn : ef.nv = some (flatG (dataG A70 F70))) (x : List Bool) (p : x.length = 49) (h : H) (P : V → H → Prop) : CallP fs (.fn (K.ofNat 70) []) (A70 ⟨x, p⟩) h P = P (F70 ⟨x, p⟩) h := callP_data hf hn I70 _ h P
def D81 : Type := {x : List Bool × List Bool // x.1.length = 49 ∧ x.2.length = 49}
noncomputable def A81 : D81 → List V := fun ⟨x, _⟩ => [rV x.1, rV x.2]
noncomputable def F81 : D81 → V := fun ⟨x, _⟩ => rV (woR x.1 x.2)
theorem I81 : ∀ x y, A81 x = A81 y → F81 x = F81 y := by
  rintro ⟨x, p⟩ ⟨y, q⟩ h
  have h : [rV x.1, rV x.2] = [rV y.1, rV y.2] := h
  injection h with h0 h
  have e0 := rV_inj h0
  injection h with h1 h
  have e1 := rV_inj h1
  have e : x = y := by
    exact Prod.ext e0 e1
  subst e
  rfl
theorem P81 : ∀ x, (A81 x).all V.plain = true := by
  rintro ⟨x, p⟩
  show ([rV x.1, rV x.2].all V.plain) = true
  first | rfl | (simp only [List.all_cons, List.all_nil, rV_plain, Bool.and_true]; done) | (simp only [List.all_cons, List.all_nil, rV_plain, Bool.true_and, Bool.and_true]; rfl)
theorem Q81 : ∀ x, (F81 x).plainT = true := fun ⟨_, _⟩ => rV_plainT
theorem G81 (h84 : fs.get (K.ofNat 84) = some f84) (h101 : fs.get (K.ofNat 101) = some f101) (hfs : Fns Y fs) (hf : f81.nv = none ∧ ∃ fn c, FnOk Y (K.ofNat 81) f81 fn c) : ∀ args v, dataG A81 F81 args = some v → Gives Y (K.ofNat 81) args v := dataG_gives hfs hf P81 Q81 fun ⟨_, p⟩ => by have _ := p; exact f81_ret p.1 p.2 h84 h101 HC.empty
theorem E81 {ef : EF} (hf : fs.get (K.ofNat 81) = some ef) (hn : ef.nv = some (flatG (dataG A81 F81))) (x : List Bool × List Bool) (p : x.1.length = 49 ∧ x.2.length = 49) (h : H) (P : V → H → Prop) : CallP fs (.fn (K.ofNat 81) []) (A81 ⟨x, p⟩) h P = P (F81 ⟨x, p⟩) h := callP_data hf hn I81 _ h P
def D85 : Type := {x : List Bool × (Int × Int) // x.1.length = 49}
noncomputable def A85 : D85 → List V := fun ⟨x, _⟩ => [rV x.1, pV x.2]
noncomputable def F85 : D85 → V := fun ⟨x, _⟩ => V.b (hasR x.1 x.2)
theorem I85 : ∀ x y, A85 x = A85 y → F85 x = F85 y := by
  rintro ⟨x, p⟩ ⟨y, q⟩ h
  have h : [rV x.1, pV x.2] = [rV y.1, pV y.2] := h
  injection h with h0 h
  have e0 := rV_inj h0
  injection h with h1 h
  have e1 := pV_inj h1
  have e : x = y := by
    exact Prod.ext e0 e1
  subst e
  rfl
theorem P85 : ∀ x, (A85 x).all V.plain = true := by
  rintro ⟨x, p⟩
  show ([rV x.1, pV x.2].all V.plain) = true
  first | rfl | (simp only [List.all_cons, List.all_nil, rV_plain, Bool.true_and, Bool.and_true]; done) | (simp only [List.all_cons, List.all_nil, rV_plain, Bool.true_and, Bool.and_true]; rfl)
theorem Q85 : ∀ x, (F85 x).plainT = true := fun ⟨_, _⟩ => rfl
theorem G85 (k : Nat1 fs) (hfs : Fns Y fs) (hf : f85.nv = none ∧ ∃ fn c, FnOk Y (K.ofNat 85) f85 fn c) : ∀ args v, dataG A85 F85 args = some v → Gives Y (K.ofNat 85) args v := dataG_gives hfs hf P85 Q85 fun ⟨_, p⟩ => by have _ := p; exact f85_ret k p
theorem E85 {ef : EF} (hf : fs.get (K.ofNat 85) = some ef) (hn : ef.nv = some (flatG (dataG A85 F85))) (x : List Bool × (Int × Int)) (p : x.1.length = 49) (h : H) (P : V → H → Prop) : CallP fs (.fn (K.ofNat 85) []) (A85 ⟨x, p⟩) h P = P (F85 ⟨x, p⟩) h := callP_data hf hn I85 _ h P
def D87 : Type := {x : List Bool // x.length = 49}
noncomputable def A87 : D87 → List V := fun ⟨x, _⟩ => [rV x]
noncomputable def F87 : D87 → V := fun ⟨x, _⟩ => frV x
theorem I87 : ∀ x y, A87 x = A87 y → F87 x = F87 y := by
  rintro ⟨x, p⟩ ⟨y, q⟩ h
  have h : [rV x] = [rV y] := h
  injection h with h0 h
  have e0 := rV_inj h0
  have e : x = y := by
    exact e0
  subst e
  rfl
theorem P87 : ∀ x, (A87 x).all V.plain = true := by
  rintro ⟨x, p⟩
  show ([rV x].all V.plain) = true
  first | rfl | (simp only [List.all_cons, List.all_nil, rV_plain, Bool.and_true]; done) | (simp only [List.all_cons, List.all_nil, rV_plain, Bool.true_and, Bool.and_true]; rfl)
theorem Q87 : ∀ x, (F87 x).plainT = true := fun ⟨_, _⟩ => frV_plain
theorem G87 (k : Nat2 fs) (hfs : Fns Y fs) (hf : f87.nv = none ∧ ∃ fn c, FnOk Y (K.ofNat 87) f87 fn c) : ∀ args v, dataG A87 F87 args = some v → Gives Y (K.ofNat 87) args v := dataG_gives hfs hf P87 Q87 fun ⟨_, p⟩ => by have _ := p; exact f87_ret k p HC.empty
theorem E87 {ef : EF} (hf : fs.get (K.ofNat 87) = some ef) (hn : ef.nv = some (flatG (dataG A87 F87))) (x : List Bool) (p : x.length = 49) (h : H) (P : V → H → Prop) : CallP fs (.fn (K.ofNat 87) []) (A87 ⟨x, p⟩) h P = P (F87 ⟨x, p⟩) h := callP_data hf hn I87 _ h P
def D92 : Type := {x : List Bool // x.length = 49}
noncomputable def A92 : D92 → List V := fun ⟨x, _⟩ => [rV x]
noncomputable def F92 : D92 → V := fun ⟨x, _⟩ => rV (spR x)
theorem I92 : ∀ x y, A92 x = A92 y → F92 x = F92 y := by
  rintro ⟨x, p⟩ ⟨y, q⟩ h
  have h : [rV x] = [rV y] := h
  injection h with h0 h
  have e0 := rV_inj h0
  have e : x = y := by
    exact e0
  subst e
  rfl
theorem P92 : ∀ x, (A92 x).all V.plain = true := by
  rintro ⟨x, p⟩
  show ([rV x].all V.plain) = true
  first | rfl | (simp only [List.all_cons, List.all_nil, rV_plain, Bool.and_true]; done) | (simp only [List.all_cons, List.all_nil, rV_plain, Bool.true_and, Bool.and_true]; rfl)
theorem Q92 : ∀ x, (F92 x).plainT = true := fun ⟨_, _⟩ => rV_plainT
theorem G92 (k : Nat2 fs) (hfs : Fns Y fs) (hf : f92.nv = none ∧ ∃ fn c, FnOk Y (K.ofNat 92) f92 fn c) : ∀ args v, dataG A92 F92 args = some v → Gives Y (K.ofNat 92) args v := dataG_gives hfs hf P92 Q92 fun ⟨_, p⟩ => by have _ := p; exact f92_ret k p HC.empty
theorem E92 {ef : EF} (hf : fs.get (K.ofNat 92) = some ef) (hn : ef.nv = some (flatG (dataG A92 F92))) (x : List Bool) (p : x.length = 49) (h : H) (P : V → H → Prop) : CallP fs (.fn (K.ofNat 92) []) (A92 ⟨x, p⟩) h P = P (F92 ⟨x, p⟩) h := callP_data hf hn I92 _ h P
def D91 : Type := {x : List Bool × List Bool // x.1.length = 49 ∧ x.2.length = 49}
noncomputable def A91 : D91 → List V := fun ⟨x, _⟩ => [rV x.1, rV x.2]
noncomputable def F91 : D91 → V := fun ⟨x, _⟩ => V.b (cvB x.1 x.2)
theorem I91 : ∀ x y, A91 x = A91 y → F91 x = F91 y := by
  rintro ⟨x, p⟩ ⟨y, q⟩ h
  have h : [rV x.1, rV x.2] = [rV y.1, rV y.2] := h
  injection h with h0 h
  have e0 := rV_inj h0
  injection h with h1 h
  have e1 := rV_inj h1
  have e : x = y := by
    exact Prod.ext e0 e1
  subst e
  rfl
theorem P91 : ∀ x, (A91 x).all V.plain = true := by
  rintro ⟨x, p⟩
  show ([rV x.1, rV x.2].all V.plain) = true
  first | rfl | (simp only [List.all_cons, List.all_nil, rV_plain, Bool.and_true]; done) | (simp only [List.all_cons, List.all_nil, rV_plain, Bool.true_and, Bool.and_true]; rfl)
theorem Q91 : ∀ x, (F91 x).plainT = true := fun ⟨_, _⟩ => rfl
theorem G91 (k : Nat2 fs) (hfs : Fns Y fs) (hf : f91.nv = none ∧ ∃ fn c, FnOk Y (K.ofNat 91) f91 fn c) : ∀ args v, dataG A91 F91 args = some v → Gives Y (K.ofNat 91) args v := dataG_gives hfs hf P91 Q91 fun ⟨_, p⟩ => by have _ := p; exact f91_ret k p.1 p.2 HC.empty
theorem E91 {ef : EF} (hf : fs.get (K.ofNat 91) = some ef) (hn : ef.nv = some (flatG (dataG A91 F91))) (x : List Bool × List Bool) (p : x.1.length = 49 ∧ x.2.length = 49) (h : H) (P : V → H → Prop) : CallP fs (.fn (K.ofNat 91) []) (A91 ⟨x, p⟩) h P = P (F91 ⟨x, p⟩) h := callP_data hf hn I91 _ h P
def D49 : Type := {x : List Bool × Nat // x.1.length = 49 ∧ x.2 ≤ 7}
noncomputable def A49 : D49 → List V := fun ⟨x, _⟩ => [rV x.1, V.i .i64 (x.2 : Int)]
noncomputable def F49 : D49 → V := fun ⟨x, _⟩ => rV (otR x.2 x.1)
theorem I49 : ∀ x y, A49 x = A49 y → F49 x = F49 y := by
  rintro ⟨x, p⟩ ⟨y, q⟩ h
  have h : [rV x.1, V.i .i64 (x.2 : Int)] = [rV y.1, V.i .i64 (y.2 : Int)] := h
  injection h with h0 h
  have e0 := rV_inj h0
  injection h with h1 h
  have e1 := iV_inj h1
  have e : x = y := by
    exact Prod.ext e0 (by omega)
  subst e
  rfl
theorem P49 : ∀ x, (A49 x).all V.plain = true := by
  rintro ⟨x, p⟩
  show ([rV x.1, V.i .i64 (x.2 : Int)].all V.plain) = true
  first | rfl | (simp only [List.all_cons, List.all_nil, rV_plain, Bool.true_and, Bool.and_true]; done) | (simp only [List.all_cons, List.all_nil, rV_plain, Bool.true_and, Bool.and_true]; rfl)
theorem Q49 : ∀ x, (F49 x).plainT = true := fun ⟨_, _⟩ => rV_plainT
theorem G49 (k : Nat2 fs) (hfs : Fns Y fs) (hf : f49.nv = none ∧ ∃ fn c, FnOk Y (K.ofNat 49) f49 fn c) : ∀ args v, dataG A49 F49 args = some v → Gives Y (K.ofNat 49) args v := dataG_gives hfs hf P49 Q49 fun ⟨_, p⟩ => by have _ := p; exact f49_ret k p.1 p.2 HC.empty
theorem E49 {ef : EF} (hf : fs.get (K.ofNat 49) = some ef) (hn : ef.nv = some (flatG (dataG A49 F49))) (x : List Bool × Nat) (p : x.1.length = 49 ∧ x.2 ≤ 7) (h : H) (P : V → H → Prop) : CallP fs (.fn (K.ofNat 49) []) (A49 ⟨x, p⟩) h P = P (F49 ⟨x, p⟩) h := callP_data hf hn I49 _ h P
def D57 : Type := {x : List Bool × (Nat × Nat) // x.1.length = 49 ∧ (x.2.1 < 7 ∧ x.2.2 < 7)}
noncomputable def A57 : D57 → List V := fun ⟨x, _⟩ => [rV x.1, aV x.2]
noncomputable def F57 : D57 → V := fun ⟨x, _⟩ => rV (clsR x.1 x.2)
theorem I57 : ∀ x y, A57 x = A57 y → F57 x = F57 y := by
  rintro ⟨x, p⟩ ⟨y, q⟩ h
  have h : [rV x.1, aV x.2] = [rV y.1, aV y.2] := h
  injection h with h0 h
  have e0 := rV_inj h0
  injection h with h1 h
  have e1 := aV_inj h1
  have e : x = y := by
    exact Prod.ext e0 e1
  subst e
  rfl
theorem P57 : ∀ x, (A57 x).all V.plain = true := by
  rintro ⟨x, p⟩
  show ([rV x.1, aV x.2].all V.plain) = true
  first | rfl | (simp only [List.all_cons, List.all_nil, rV_plain, Bool.true_and, Bool.and_true]; done) | (simp only [List.all_cons, List.all_nil, rV_plain, Bool.true_and, Bool.and_true]; rfl)
theorem Q57 : ∀ x, (F57 x).plainT = true := fun ⟨_, _⟩ => rV_plainT
theorem G57 (k : Nat3 fs) (h86 : fs.get (K.ofNat 86) = some f86) (h102 : fs.get (K.ofNat 102) = some f102) (hfs : Fns Y fs) (hf : f57.nv = none ∧ ∃ fn c, FnOk Y (K.ofNat 57) f57 fn c) : ∀ args v, dataG A57 F57 args = some v → Gives Y (K.ofNat 57) args v := dataG_gives hfs hf P57 Q57 fun ⟨_, p⟩ => by have _ := p; exact f57_ret k h86 h102 p.1 p.2 HC.empty
theorem E57 {ef : EF} (hf : fs.get (K.ofNat 57) = some ef) (hn : ef.nv = some (flatG (dataG A57 F57))) (x : List Bool × (Nat × Nat)) (p : x.1.length = 49 ∧ (x.2.1 < 7 ∧ x.2.2 < 7)) (h : H) (P : V → H → Prop) : CallP fs (.fn (K.ofNat 57) []) (A57 ⟨x, p⟩) h P = P (F57 ⟨x, p⟩) h := callP_data hf hn I57 _ h P
def D55 : Type := {x : List Bool × ((Nat × Nat) × (Nat × Nat)) // x.1.length = 49 ∧ ((x.2.1.1 < 7 ∧ x.2.1.2 < 7) ∧ (x.2.2.1 < 7 ∧ x.2.2.2 < 7))}
noncomputable def A55 : D55 → List V := fun ⟨x, _⟩ => [rV x.1, aV x.2.1, aV x.2.2]
noncomputable def F55 : D55 → V := fun ⟨x, _⟩ => V.b (decide (x.2.2 ∈ fcY x.1 x.2.1.1 x.2.1.2))
theorem I55 : ∀ x y, A55 x = A55 y → F55 x = F55 y := by
  rintro ⟨x, p⟩ ⟨y, q⟩ h
  have h : [rV x.1, aV x.2.1, aV x.2.2] = [rV y.1, aV y.2.1, aV y.2.2] := h
  injection h with h0 h
  have e0 := rV_inj h0
  injection h with h1 h
  have e1 := aV_inj h1
  injection h with h2 h
  have e2 := aV_inj h2
  have e : x = y := by
    exact Prod.ext e0 (Prod.ext e1 e2)
  subst e
  rfl
theorem P55 : ∀ x, (A55 x).all V.plain = true := by
  rintro ⟨x, p⟩
  show ([rV x.1, aV x.2.1, aV x.2.2].all V.plain) = true
  first | rfl | (simp only [List.all_cons, List.all_nil, rV_plain, Bool.true_and, Bool.and_true]; done) | (simp only [List.all_cons, List.all_nil, rV_plain, Bool.true_and, Bool.and_true]; rfl)
theorem Q55 : ∀ x, (F55 x).plainT = true := fun ⟨_, _⟩ => rfl
theorem G55 (h86 : fs.get (K.ofNat 86) = some f86) (h102 : fs.get (K.ofNat 102) = some f102) (hfs : Fns Y fs) (hf : f55.nv = none ∧ ∃ fn c, FnOk Y (K.ofNat 55) f55 fn c) : ∀ args v, dataG A55 F55 args = some v → Gives Y (K.ofNat 55) args v := dataG_gives hfs hf P55 Q55 fun ⟨_, p⟩ => by have _ := p; exact f55_ret h86 h102 p.1 p.2.1 p.2.2 HC.empty
theorem E55 {ef : EF} (hf : fs.get (K.ofNat 55) = some ef) (hn : ef.nv = some (flatG (dataG A55 F55))) (x : List Bool × ((Nat × Nat) × (Nat × Nat))) (p : x.1.length = 49 ∧ ((x.2.1.1 < 7 ∧ x.2.1.2 < 7) ∧ (x.2.2.1 < 7 ∧ x.2.2.2 < 7))) (h : H) (P : V → H → Prop) : CallP fs (.fn (K.ofNat 55) []) (A55 ⟨x, p⟩) h P = P (F55 ⟨x, p⟩) h := callP_data hf hn I55 _ h P
def D76 : Type := {x : List Bool // x.length = 49}
noncomputable def A76 : D76 → List V := fun ⟨x, _⟩ => [rV x]
noncomputable def F76 : D76 → V := fun ⟨x, _⟩ => V.b (trB x)
theorem I76 : ∀ x y, A76 x = A76 y → F76 x = F76 y := by
  rintro ⟨x, p⟩ ⟨y, q⟩ h
  have h : [rV x] = [rV y] := h
  injection h with h0 h
  have e0 := rV_inj h0
  have e : x = y := by
    exact e0
  subst e
  rfl
theorem P76 : ∀ x, (A76 x).all V.plain = true := by
  rintro ⟨x, p⟩
  show ([rV x].all V.plain) = true
  first | rfl | (simp only [List.all_cons, List.all_nil, rV_plain, Bool.and_true]; done) | (simp only [List.all_cons, List.all_nil, rV_plain, Bool.true_and, Bool.and_true]; rfl)
theorem Q76 : ∀ x, (F76 x).plainT = true := fun ⟨_, _⟩ => rfl
theorem G76 (k : Nat3 fs) (hfs : Fns Y fs) (hf : f76.nv = none ∧ ∃ fn c, FnOk Y (K.ofNat 76) f76 fn c) : ∀ args v, dataG A76 F76 args = some v → Gives Y (K.ofNat 76) args v := dataG_gives hfs hf P76 Q76 fun ⟨_, p⟩ => by have _ := p; exact f76_ret k p
theorem E76 {ef : EF} (hf : fs.get (K.ofNat 76) = some ef) (hn : ef.nv = some (flatG (dataG A76 F76))) (x : List Bool) (p : x.length = 49) (h : H) (P : V → H → Prop) : CallP fs (.fn (K.ofNat 76) []) (A76 ⟨x, p⟩) h P = P (F76 ⟨x, p⟩) h := callP_data hf hn I76 _ h P
def D80 : Type := {_x : (Int × Int) × (Int × Int) // True}
noncomputable def A80 : D80 → List V := fun ⟨x, _⟩ => [pV x.1, pV x.2]
noncomputable def F80 : D80 → V := fun ⟨x, _⟩ => V.b (bfB x.1 x.2)
theorem I80 : ∀ x y, A80 x = A80 y → F80 x = F80 y := by
  rintro ⟨x, p⟩ ⟨y, q⟩ h
  have h : [pV x.1, pV x.2] = [pV y.1, pV y.2] := h
  injection h with h0 h
  have e0 := pV_inj h0
  injection h with h1 h
  have e1 := pV_inj h1
  have e : x = y := by
    exact Prod.ext e0 e1
  subst e
  rfl
theorem P80 : ∀ x, (A80 x).all V.plain = true := by
  rintro ⟨x, p⟩
  show ([pV x.1, pV x.2].all V.plain) = true
  first | rfl | (simp only [List.all_cons, List.all_nil, rV_plain, Bool.true_and, Bool.and_true]; done) | (simp only [List.all_cons, List.all_nil, rV_plain, Bool.true_and, Bool.and_true]; rfl)
theorem Q80 : ∀ x, (F80 x).plainT = true := fun ⟨_, _⟩ => rfl
theorem G80 (h99 : fs.get (K.ofNat 99) = some f99) (h108 : fs.get (K.ofNat 108) = some f108) (h121 : fs.get (K.ofNat 121) = some f121) (hfs : Fns Y fs) (hf : f80.nv = none ∧ ∃ fn c, FnOk Y (K.ofNat 80) f80 fn c) : ∀ args v, dataG A80 F80 args = some v → Gives Y (K.ofNat 80) args v := dataG_gives hfs hf P80 Q80 fun ⟨_, p⟩ => by have _ := p; exact f80_ret h99 h108 h121
theorem E80 {ef : EF} (hf : fs.get (K.ofNat 80) = some ef) (hn : ef.nv = some (flatG (dataG A80 F80))) (x : (Int × Int) × (Int × Int)) (p : True) (h : H) (P : V → H → Prop) : CallP fs (.fn (K.ofNat 80) []) (A80 ⟨x, p⟩) h P = P (F80 ⟨x, p⟩) h := callP_data hf hn I80 _ h P
def D60 : Type := {x : List Bool // SymR x}
noncomputable def A60 : D60 → List V := fun ⟨x, _⟩ => [rV x]
noncomputable def F60 : D60 → V := fun ⟨x, _⟩ => orV x
theorem I60 : ∀ x y, A60 x = A60 y → F60 x = F60 y := by
  rintro ⟨x, p⟩ ⟨y, q⟩ h
  have h : [rV x] = [rV y] := h
  injection h with h0 h
  have e0 := rV_inj h0
  have e : x = y := by
    exact e0
  subst e
  rfl
theorem P60 : ∀ x, (A60 x).all V.plain = true := by
  rintro ⟨x, p⟩
  show ([rV x].all V.plain) = true
  first | rfl | (simp only [List.all_cons, List.all_nil, rV_plain, Bool.and_true]; done) | (simp only [List.all_cons, List.all_nil, rV_plain, Bool.true_and, Bool.and_true]; rfl)
theorem Q60 : ∀ x, (F60 x).plainT = true := fun ⟨_, _⟩ => orV_plain
theorem G60 (k : Nat4 fs) (hfs : Fns Y fs) (hf : f60.nv = none ∧ ∃ fn c, FnOk Y (K.ofNat 60) f60 fn c) : ∀ args v, dataG A60 F60 args = some v → Gives Y (K.ofNat 60) args v := dataG_gives hfs hf P60 Q60 fun ⟨_, p⟩ => by have _ := p; exact f60_ret k p HC.empty
theorem E60 {ef : EF} (hf : fs.get (K.ofNat 60) = some ef) (hn : ef.nv = some (flatG (dataG A60 F60))) (x : List Bool) (p : SymR x) (h : H) (P : V → H → Prop) : CallP fs (.fn (K.ofNat 60) []) (A60 ⟨x, p⟩) h P = P (F60 ⟨x, p⟩) h := callP_data hf hn I60 _ h P
end
end Go.Ev
namespace Go.Ev
open Go Go.RowKit
def in7 (x : Nat × Nat) : Prop := x.1 < 7 ∧ x.2 < 7
end Go.Ev
namespace Go.Ev
open Go Go.RowKit
section
variable {fs : T EF} {h h' : H}
end
end Go.Ev
namespace Go.Ev
open Go Go.RowKit
section
variable {fs : T EF} {h h' : H}
def swN (x : Nat × Nat) : Nat × Nat := (x.2, x.1)
end
end Go.Ev
namespace Go.Ev
open Go Go.RowKit
noncomputable def f20_r0 : List EOper := [oG 4 (.box 2 (tG 1)), oG 5 (.box 2 (tG 2)), oG 6 (.as (.c (.b false)))]
noncomputable def f20_r1 : List EOper := [oG 7 (.ldn 2 (tG 4)), oG 8 (.ldn 2 (tG 5)), oG 9 (.eqk (.many [(some .i64), (some .i64)]) false (tG 7) (tG 8))]
noncomputable def f20_r2 : List EOper := [oG 6 (.as (.c (.b true)))]
noncomputable def f20_r3 : List EOper := [oG 10 (.iadr 2 1 (tG 4) (cG 0)), oG 11 (.ld (tG 10)), oG 12 (.iadr 2 1 (tG 5) (cG 0)), oG 13 (.ld (tG 12)), oG 14 (.bin .eql (tG 11) (tG 13))]
noncomputable def f20_r4 : List EOper := [oG 15 (.mv (tG 0)), oG 16 (.iadr 2 1 (tG 4) (cG 1)), oG 17 (.ld (tG 16)), oG 18 (.iadr 2 1 (tG 5) (cG 1)), oG 19 (.ld (tG 18)), oG 20 (.call (fG 52) [(tG 15), (tG 17), (tG 19)]), oG 21 (.not (tG 20)), oG 6 (.as (tG 21))]
noncomputable def f20_r5 : List EOper := [oG 22 (.iadr 2 1 (tG 4) (cG 1)), oG 23 (.ld (tG 22)), oG 24 (.iadr 2 1 (tG 5) (cG 1)), oG 25 (.ld (tG 24)), oG 26 (.bin .eql (tG 23) (tG 25)), oG 27 (.mv (tG 26)), gG 28 27 true (.mv (tG 0)), gG 29 27 true (.iadr 2 1 (tG 4) (cG 0)), gG 30 27 true (.ld (tG 29)), gG 31 27 true (.iadr 2 1 (tG 5) (cG 0)), gG 32 27 true (.ld (tG 31)), gG 33 27 true (.call (fG 52) [(tG 28), (tG 30), (tG 32)]), gG 34 27 true (.not (tG 33)), oG 35 (.pick (tG 27) (tG 34) (.c (.b false))), oG 6 (.as (tG 35))]
noncomputable def f20_c : EC := (.seq (.reg f20_r0) (.seq (.seq (.reg f20_r1) (.cond (tG 9) (.seq (.reg f20_r2) .ret) .skip)) (.seq (.seq (.reg f20_r3) (.cond (tG 14) (.seq (.reg f20_r4) .ret) .skip)) (.seq (.reg f20_r5) .ret))))
noncomputable def f20 : EF := ⟨36, [.tmp (.ofNat 6)], f20_c, none⟩
noncomputable def f53_r0 : List EOper := [oG 4 (.as (.c .sn))]
noncomputable def f53_r1 : List EOper := [oG 5 (.as (.c .sn))]
noncomputable def f53_r2 : List EOper := [oG 6 (.as (cG 0))]
noncomputable def f53_r3 : List EOper := [oG 8 (.mv (tG 6)), oG 9 (.mv (tG 0)), oG 10 (.bin .lss (tG 8) (tG 9))]
noncomputable def f53_r4 : List EOper := [oG 7 (.as (cG 0))]
noncomputable def f53_r5 : List EOper := [oG 13 (.mv (tG 7)), oG 14 (.mv (tG 0)), oG 15 (.bin .lss (tG 13) (tG 14))]
noncomputable def f53_r6 : List EOper := [oG 18 (.mv (tG 6)), oG 19 (.mv (tG 7)), oG 20 (.bin .neq (tG 18) (tG 19)), oG 21 (.mv (tG 20)), gG 22 21 true (.mv (tG 1)), gG 23 21 true (.mv (tG 6)), gG 24 21 true (.mv (tG 7)), gG 25 21 true (.call (fG 52) [(tG 22), (tG 23), (tG 24)]), oG 26 (.pick (tG 21) (tG 25) (.c (.b false)))]
noncomputable def f53_r7 : List EOper := [oG 27 (.mv (tG 5)), oG 28 (.mv (tG 6)), oG 29 (.mv (tG 7)), oG 30 (.build [(.i .i64 (.ofNat 0)), (.i .i64 (.ofNat 0))] [(0, 1, (tG 28)), (1, 1, (tG 29))]), oG 31 (.bslice 1 2 [(.i .i64 (.ofNat 0)), (.i .i64 (.ofNat 0))] [(0, 2, (tG 30))]), oG 32 (.app 2 (tG 27) (tG 31)), oG 5 (.as (tG 32))]
noncomputable def f53_r8 : List EOper := [oG 16 (.mv (tG 7)), oG 17 (.bin .add (tG 16) (cG 1)), oG 7 (.as (tG 17))]
noncomputable def f53_l0 : EC := (.seq (.seq (.reg f53_r5) (.cond (tG 15) .skip (.exit 2))) (.seq (.block 3 (.seq (.reg f53_r6) (.cond (tG 26) (.reg f53_r7) .skip))) (.reg f53_r8)))
noncomputable def f53_r9 : List EOper := [oG 11 (.mv (tG 6)), oG 12 (.bin .add (tG 11) (cG 1)), oG 6 (.as (tG 12))]
noncomputable def f53_l1 : EC := (.seq (.seq (.reg f53_r3) (.cond (tG 10) .skip (.exit 0))) (.seq (.block 1 (.seq (.reg f53_r4) (.block 2 (.loop f53_l0)))) (.reg f53_r9)))
noncomputable def f53_r10 : List EOper := [oG 33 (.mv (tG 5)), oG 4 (.as (tG 33))]
noncomputable def f53_c : EC := (.seq (.reg f53_r0) (.seq (.reg f53_r1) (.seq (.seq (.reg f53_r2) (.block 0 (.loop f53_l1))) (.seq (.reg f53_r10) .ret))))
noncomputable def f53 : EF := ⟨34, [.tmp (.ofNat 4)], f53_c, none⟩
section
variable {fs : T EF} {h h' : H}
structure CallsJn (fs : T EF) : Prop where
  c40 : fs.get (K.ofNat 40) = some f40
  c52 : fs.get (K.ofNat 52) = some f52
end
end Go.Ev
namespace Go.Ev
open Go Go.RowKit
section
variable {fs : T EF} {h h' : H} {b : Nat}
end
end Go.Ev
namespace Go.Ev
open Go Go.RowKit
noncomputable def f14_r0 : List EOper := [oG 4 (.as (.c (.b false)))]
noncomputable def f14_r1 : List EOper := [oG 6 (.mv (tG 0)), oG 7 (.len (tG 6)), oG 8 (.mv (tG 1)), oG 9 (.len (tG 8)), oG 10 (.bin .neq (tG 7) (tG 9))]
noncomputable def f14_r2 : List EOper := [oG 4 (.as (.c (.b false)))]
noncomputable def f14_r3 : List EOper := [oG 5 (.as (cG 0))]
noncomputable def f14_r4 : List EOper := [oG 11 (.mv (tG 5)), oG 12 (.mv (tG 0)), oG 13 (.len (tG 12)), oG 14 (.bin .lss (tG 11) (tG 13))]
noncomputable def f14_r5 : List Stage := [⟨[oG 17 (.mv (tG 0)), oG 18 (.mv (tG 5)), oG 19 (.iads 2 (tG 17) (tG 18)), oG 20 (.ldn 2 (tG 19)), oG 21 (.mv (tG 1)), oG 22 (.mv (tG 5)), oG 23 (.iads 2 (tG 21) (tG 22)), oG 24 (.ldn 2 (tG 23)), oG 25 (.eqk (.many [(some .i64), (some .i64)]) true (tG 20) (tG 24))], [], none, []⟩]
noncomputable def f14_r6 : List EOper := [oG 4 (.as (.c (.b false)))]
noncomputable def f14_r7 : List EOper := [oG 15 (.mv (tG 5)), oG 16 (.bin .add (tG 15) (cG 1)), oG 5 (.as (tG 16))]
noncomputable def f14_l0 : EC := (.seq (.seq (.reg f14_r4) (.cond (tG 14) .skip (.exit 0))) (.seq (.block 1 (.seq (.draw f14_r5) (.cond (tG 25) (.seq (.reg f14_r6) .ret) .skip))) (.reg f14_r7)))
noncomputable def f14_r8 : List EOper := [oG 4 (.as (.c (.b true)))]
noncomputable def f14_c : EC := (.seq (.reg f14_r0) (.seq (.seq (.reg f14_r1) (.cond (tG 10) (.seq (.reg f14_r2) .ret) .skip)) (.seq (.seq (.reg f14_r3) (.block 0 (.loop f14_l0))) (.seq (.reg f14_r8) .ret))))
noncomputable def f14 : EF := ⟨26, [.tmp (.ofNat 4)], f14_c, none⟩
theorem f14_rs : f14.rs = [.tmp (.ofNat 4)] := of_eq_true (eq_self _)
section
variable {fs : T EF} {h h' : H} {b : Nat}
end
end Go.Ev
namespace Go.Ev
open Go Go.RowKit
section
variable {fs : T EF} {h h' : H} {b : Nat}
def f14_I (h0 : H) (v w : V) (A : List (Int × Int)) (i : Nat) (fr : Fr) (h1 : H) : Prop := i ≤ A.length ∧ h1 = h0 ∧ fr.get (K.ofNat 0) = some (v) ∧ fr.get (K.ofNat 1) = some (w) ∧ fr.get (K.ofNat 5) = some (.i .i64 (i : Int))
theorem f14_ret {v w : V} {A : List (Int × Int)} (hv : Srp h v A) (hw : Srp h w A) (hA : ∀ x ∈ A, inI x) (hl : A.length ≤ 1000000) : Ret fs f14 [v, w] h fun r h' => r = .b true ∧ h' = h := by
  apply ret_of rfl
  show W fs none f14_c _ _ _
  unfold f14_c
  have hlv := hv.len
  have hlw := hw.len
  have nel : decide ((A.length : Int) ≠ (A.length : Int)) = false := by simp
  simp (disch := omega) only [f14_r0, f14_r1, f14_r3, Nat.reduceEqDiff, ↓reduceIte, Bool.false_eq_true, hlv, hlw, nel, bz]
  refine W_loop (f14_I h v w A) (fun i => A.length - i) ?_ 0 ⟨by omega, rfl, by simp (disch := omega) only [getK_set, Nat.reduceEqDiff, ↓reduceIte, and_self, Int.natCast_zero]⟩
  rintro i fr h1 ⟨hi, rfl, g0, g1, g5⟩
  unfold f14_l0
  by_cases hlt : i < A.length
  · have d0 : decide ((i : Int) < (A.length : Int)) = true := decide_eq_true (by omega)
    obtain ⟨id, q, p1, p2, _⟩ := hv.at2 hlt
    obtain ⟨id2, q2, w1, w2, _⟩ := hw.at2 hlt
    have hav : V.agg [.i .i64 A[i].1, .i .i64 A[i].2] = pV A[i] := rfl
    have hq := keyEq_pVO (hA _ (List.getElem_mem hlt)) (hA _ (List.getElem_mem hlt))
    have dt : decide (A[i] = A[i]) = true := by simp
    rw [dt] at hq
    have hvb := hv.beq
    have hwb := hw.beq
    simp (disch := omega) only [f14_r4, f14_r5, f14_r7, xg_eqk, Nat.reduceEqDiff, ↓reduceIte, Bool.false_eq_true, Bool.not_true, g0, g1, g5, hlv, d0, p1, p2, w1, w2, hav, hq, cond_true, bz]
    exact ⟨i + 1, by omega, hlt, rfl, by simp (disch := omega) only [getK_set, Nat.reduceEqDiff, ↓reduceIte, g0, g1, and_self, Int.natCast_add, Int.natCast_one]⟩
  · have d0 : decide ((i : Int) < (A.length : Int)) = false := decide_eq_false (by omega)
    simp (disch := omega) only [f14_r4, f14_r8, f14_rs, Option.some.injEq, exists_eq_left', Nat.reduceEqDiff, ↓reduceIte, Bool.false_eq_true, g0, g5, hlv, d0, and_self, bz]
end
end Go.Ev
namespace Go.Ev
open Go Go.RowKit
section
variable {fs : T EF} {h h' : H}
end
end Go.Ev
namespace Go.Ev
open Go Go.RowKit
noncomputable def f21_r0 : List EOper := [oG 5 (.box 2 (tG 2)), oG 6 (.as (.c .sn)), oG 7 (.as (.c .sn))]
noncomputable def f21_r1 : List EOper := [oG 20 (.mv (tG 0)), oG 21 (.mv (tG 1)), oG 22 (.call (fG 53) [(tG 20), (tG 21)]), oG 8 (.as (tG 22))]
noncomputable def f21_r2 : List EOper := [oG 23 (.mkmap 23), oG 24 (.ldn 2 (tG 5)), ⟨none, none, .mupd 23 (.many [(some .i64), (some .i64)]) (tG 23) (tG 24) (cG 0)⟩, oG 25 (.mv (tG 23)), oG 9 (.as (tG 25))]
noncomputable def f21_r3 : List EOper := [oG 26 (.ldn 2 (tG 5)), oG 27 (.bslice 1 2 [(.i .i64 (.ofNat 0)), (.i .i64 (.ofNat 0))] [(0, 2, (tG 26))]), oG 10 (.as (tG 27))]
noncomputable def f21_r4 : List EOper := [oG 11 (.as (cG 0))]
noncomputable def f21_r5 : List EOper := [oG 28 (.mv (tG 11)), oG 29 (.mv (tG 10)), oG 30 (.len (tG 29)), oG 31 (.bin .lss (tG 28) (tG 30))]
noncomputable def f21_r6 : List EOper := [oG 12 (.as (cG 0))]
noncomputable def f21_r7 : List EOper := [oG 34 (.mv (tG 12)), oG 35 (.mv (tG 8)), oG 36 (.len (tG 35)), oG 37 (.bin .lss (tG 34) (tG 36))]
noncomputable def f21_r8 : List EOper := [oG 41 (.mv (tG 9)), oG 42 (.mv (tG 8)), oG 43 (.mv (tG 12)), oG 44 (.iads 2 (tG 42) (tG 43)), oG 45 (.ldn 2 (tG 44)), oG 46 (.look 23 (.many [(some .i64), (some .i64)]) (.i .i64 (.ofNat 0)) (tG 41) (tG 45) true), oG 40 (.mv (tG 46)), oG 47 (.ext (tG 40) 0), oG 48 (.ext (tG 40) 1), oG 13 (.as (tG 47)), oG 14 (.as (tG 48))]
noncomputable def f21_r9 : List Stage := [⟨[oG 49 (.mv (tG 14)), oG 50 (.not (tG 49)), oG 51 (.mv (tG 50)), gG 52 51 true (.mv (tG 1)), gG 53 51 true (.mv (tG 10)), gG 54 51 true (.mv (tG 11)), gG 55 51 true (.iads 2 (tG 53) (tG 54)), gG 56 51 true (.ldn 2 (tG 55)), gG 57 51 true (.mv (tG 8)), gG 58 51 true (.mv (tG 12)), gG 59 51 true (.iads 2 (tG 57) (tG 58)), gG 60 51 true (.ldn 2 (tG 59))], [], (some (gG 61 51 true (.call (fG 20) [(tG 52), (tG 56), (tG 60)]))), []⟩, ⟨[oG 62 (.pick (tG 51) (tG 61) (.c (.b false)))], [], none, []⟩]
noncomputable def f21_r10 : List Stage := [⟨[oG 63 (.mv (tG 9)), oG 64 (.mv (tG 8)), oG 65 (.mv (tG 12)), oG 66 (.iads 2 (tG 64) (tG 65)), oG 67 (.ldn 2 (tG 66)), oG 68 (.mv (tG 9)), oG 69 (.mv (tG 10)), oG 70 (.mv (tG 11)), oG 71 (.iads 2 (tG 69) (tG 70)), oG 72 (.ldn 2 (tG 71)), oG 73 (.look 23 (.many [(some .i64), (some .i64)]) (.i .i64 (.ofNat 0)) (tG 68) (tG 72) false), oG 74 (.bin .add (tG 73) (cG 1))], [], (some ⟨none, none, .mupd 23 (.many [(some .i64), (some .i64)]) (tG 63) (tG 67) (tG 74)⟩), []⟩, ⟨[], [], none, []⟩]
noncomputable def f21_r11 : List EOper := [oG 75 (.mv (tG 10)), oG 76 (.mv (tG 8)), oG 77 (.mv (tG 12)), oG 78 (.iads 2 (tG 76) (tG 77)), oG 79 (.ldn 2 (tG 78)), oG 80 (.bslice 1 2 [(.i .i64 (.ofNat 0)), (.i .i64 (.ofNat 0))] [(0, 2, (tG 79))]), oG 81 (.app 2 (tG 75) (tG 80)), oG 10 (.as (tG 81))]
noncomputable def f21_r12 : List EOper := [oG 38 (.mv (tG 12)), oG 39 (.bin .add (tG 38) (cG 1)), oG 12 (.as (tG 39))]
noncomputable def f21_l0 : EC := (.seq (.seq (.reg f21_r7) (.cond (tG 37) .skip (.exit 2))) (.seq (.block 3 (.seq (.reg f21_r8) (.seq (.draw f21_r9) (.cond (tG 62) (.seq (.draw f21_r10) (.reg f21_r11)) .skip)))) (.reg f21_r12)))
noncomputable def f21_r13 : List EOper := [oG 32 (.mv (tG 11)), oG 33 (.bin .add (tG 32) (cG 1)), oG 11 (.as (tG 33))]
noncomputable def f21_l1 : EC := (.seq (.seq (.reg f21_r5) (.cond (tG 31) .skip (.exit 0))) (.seq (.block 1 (.seq (.reg f21_r6) (.block 2 (.loop f21_l0)))) (.reg f21_r13)))
noncomputable def f21_r14 : List EOper := [oG 15 (.as (.c .sn))]
noncomputable def f21_r15 : List EOper := [oG 16 (.as (.c .sn))]
noncomputable def f21_r16 : List EOper := [oG 17 (.as (cG 0))]
noncomputable def f21_r17 : List EOper := [oG 82 (.mv (tG 17)), oG 83 (.mv (tG 8)), oG 84 (.len (tG 83)), oG 85 (.bin .lss (tG 82) (tG 84))]
noncomputable def f21_r18 : List EOper := [oG 89 (.mv (tG 9)), oG 90 (.mv (tG 8)), oG 91 (.mv (tG 17)), oG 92 (.iads 2 (tG 90) (tG 91)), oG 93 (.ldn 2 (tG 92)), oG 94 (.look 23 (.many [(some .i64), (some .i64)]) (.i .i64 (.ofNat 0)) (tG 89) (tG 93) true), oG 88 (.mv (tG 94)), oG 95 (.ext (tG 88) 0), oG 96 (.ext (tG 88) 1), oG 18 (.as (tG 95)), oG 19 (.as (tG 96))]
noncomputable def f21_r19 : List EOper := [oG 97 (.mv (tG 19))]
noncomputable def f21_r20 : List EOper := [oG 98 (.mv (tG 15)), oG 99 (.mv (tG 8)), oG 100 (.mv (tG 17)), oG 101 (.iads 2 (tG 99) (tG 100)), oG 102 (.ldn 2 (tG 101)), oG 103 (.bslice 1 2 [(.i .i64 (.ofNat 0)), (.i .i64 (.ofNat 0))] [(0, 2, (tG 102))]), oG 104 (.app 2 (tG 98) (tG 103)), oG 15 (.as (tG 104))]
noncomputable def f21_r21 : List EOper := [oG 105 (.mv (tG 16)), oG 106 (.mv (tG 18)), oG 107 (.bslice 1 1 [(.i .i64 (.ofNat 0))] [(0, 1, (tG 106))]), oG 108 (.app 1 (tG 105) (tG 107)), oG 16 (.as (tG 108))]
noncomputable def f21_r22 : List EOper := [oG 86 (.mv (tG 17)), oG 87 (.bin .add (tG 86) (cG 1)), oG 17 (.as (tG 87))]
noncomputable def f21_l2 : EC := (.seq (.seq (.reg f21_r17) (.cond (tG 85) .skip (.exit 4))) (.seq (.block 5 (.seq (.reg f21_r18) (.seq (.reg f21_r19) (.cond (tG 97) (.seq (.reg f21_r20) (.reg f21_r21)) .skip)))) (.reg f21_r22)))
noncomputable def f21_r23 : List EOper := [oG 109 (.mv (tG 15)), oG 110 (.mv (tG 16)), oG 6 (.as (tG 109)), oG 7 (.as (tG 110))]
noncomputable def f21_c : EC := (.seq (.reg f21_r0) (.seq (.reg f21_r1) (.seq (.reg f21_r2) (.seq (.reg f21_r3) (.seq (.seq (.reg f21_r4) (.block 0 (.loop f21_l1))) (.seq (.reg f21_r14) (.seq (.reg f21_r15) (.seq (.seq (.reg f21_r16) (.block 4 (.loop f21_l2))) (.seq (.reg f21_r23) .ret)))))))))
noncomputable def f21 : EF := ⟨111, [.tmp (.ofNat 6), .tmp (.ofNat 7)], f21_c, none⟩
theorem get_lt {α : Type} {M : List α} {x : α} {j : Nat} (h : M[j]? = some x) : j < M.length := by
  by_cases e : j < M.length
  · exact e
  · rw [List.getElem?_eq_none (by omega)] at h; cases h
section
variable {fs : T EF} {h h' : H}
structure CallsCs (fs : T EF) : Prop extends CallsJn fs where
  c20 : fs.get (K.ofNat 20) = some f20
  c53 : fs.get (K.ofNat 53) = some f53
end
end Go.Ev
namespace Go.Ev
open Go Go.RowKit
def allL : Nat → List (List Bool)
  | 0 => [[]]
  | n + 1 => (allL n).flatMap fun l => [true :: l, false :: l]
theorem mem_allL : ∀ {n : Nat} {l : List Bool}, l ∈ allL n ↔ l.length = n
  | 0, l => by simp [allL]
  | n + 1, l => by
    unfold allL
    rw [List.mem_flatMap]
    constructor
    · rintro ⟨m, hm, hl⟩
      have := mem_allL.1 hm
      simp at hl
      rcases hl with rfl | rfl <;> simp [this]
    · intro h
      match l, h with
      | b :: m, h =>
        refine ⟨m, mem_allL.2 (by simpa using h), ?_⟩
        cases b <;> simp
theorem allL_len : ∀ n, (allL n).length = 2 ^ n
  | 0 => rfl
  | n + 1 => by
    have : ∀ M : List (List Bool), (M.flatMap fun l => [true :: l, false :: l]).length = M.length * 2 := fun M => by
      induction M with
      | nil => rfl
      | cons x M ih => rw [List.flatMap_cons, List.length_append, ih, List.length_cons]; simp; omega
    show ((allL n).flatMap _).length = _
    rw [this, allL_len n]; omega
theorem allL_nd : ∀ n, (allL n).Nodup
  | 0 => by simp [allL]
  | n + 1 => by
    have : ∀ M : List (List Bool), M.Nodup → (M.flatMap fun l => [true :: l, false :: l]).Nodup := fun M => by
      induction M with
      | nil => simp
      | cons x M ih =>
        intro h
        rw [List.nodup_cons] at h
        rw [List.flatMap_cons, List.nodup_append]
        refine ⟨by simp, ih h.2, fun a ha b hb e => h.1 ?_⟩
        subst e
        rw [List.mem_flatMap] at hb
        obtain ⟨y, hy, hb⟩ := hb
        simp at ha hb
        rcases ha with rfl | rfl <;> simp at hb <;> rw [hb] <;> exact hy
    exact this _ (allL_nd n)
theorem filter_two {α : Type} {p q r : α → Bool} : ∀ {l : List α}, (∀ x ∈ l, (p x = true ↔ q x = true ∨ r x = true) ∧ ¬ (q x = true ∧ r x = true)) → (l.filter p).length = (l.filter q).length + (l.filter r).length
  | [], _ => rfl
  | x :: l, h => by
    have ih := filter_two (p := p) (q := q) (r := r) (l := l) fun y hy => h y (List.mem_cons_of_mem _ hy)
    obtain ⟨h1, h2⟩ := h x (by simp)
    cases hq : q x <;> cases hr : r x <;> cases hp : p x <;> simp_all <;> omega
open Classical in
noncomputable def hasB (G : List Bool) (C : Nat → Nat → Prop) (F : List Bool) : Bool := decide (Ord (Er G) (Er F) ∧ ∀ a b, C a b → Er F a b)
open Classical in
theorem hasB_iff {G : List Bool} {C : Nat → Nat → Prop} {F : List Bool} : hasB G C F = true ↔ Ord (Er G) (Er F) ∧ ∀ a b, C a b → Er F a b := by unfold hasB; exact decide_eq_true_iff
noncomputable def nOrd (G : List Bool) (C : Nat → Nat → Prop) : Nat := ((allL 49).filter (hasB G C)).length
section
variable {G : List Bool} {C C' : Nat → Nat → Prop}
theorem nOrd_le : nOrd G C ≤ 2 ^ 49 := by
  unfold nOrd
  rw [← allL_len]
  exact List.length_filter_le _ _
theorem nOrd_congr (h : ∀ a b, C a b ↔ C' a b) : nOrd G C = nOrd G C' := by
  have : C = C' := funext fun a => funext fun b => propext (h a b)
  rw [this]
theorem nOrd_zero (h : ∀ F : List Bool, Ord (Er G) (Er F) → (∀ a b, C a b → Er F a b) → False) : nOrd G C = 0 := by
  unfold nOrd
  rw [List.length_eq_zero_iff, List.filter_eq_nil_iff]
  intro F _ hF
  obtain ⟨h1, h2⟩ := hasB_iff.1 hF
  exact h F h1 h2
theorem nOrd_one {D : List Bool} (hD : D.length = 49) (o : Ord (Er G) (Er D)) (hC : ∀ a b, C a b ↔ Er D a b) : nOrd G C = 1 := by
  unfold nOrd
  have key : ∀ F, F ∈ (allL 49).filter (hasB G C) ↔ F ∈ [D] := fun F => by
    rw [List.mem_filter, List.mem_singleton, mem_allL]
    constructor
    · rintro ⟨h1, h2⟩
      obtain ⟨h3, h4⟩ := hasB_iff.1 h2
      refine rel_ext h1 hD fun a b _ _ => ?_
      rw [Bool.eq_iff_iff]
      constructor
      · intro h
        rcases o.all _ _ (h3.sub _ _ h) with h5 | h5
        · exact h5
        · exact absurd h (h3.one _ _ (h4 _ _ ((hC _ _).2 h5)))
      · exact fun h => h4 _ _ ((hC _ _).2 h)
    · rintro rfl
      exact ⟨hD, hasB_iff.2 ⟨o, fun a b h => (hC a b).1 h⟩⟩
  have nd : ((allL 49).filter (hasB G C)).Nodup := List.Pairwise.filter _ (allL_nd 49)
  have h1 := nodup_leO nd (fun x hx => (key x).1 hx)
  have h2 := nodup_leO (l := [D]) (by simp) (fun x hx => (key x).2 hx)
  exact Nat.le_antisymm (by simpa using h1) (by simpa using h2)
theorem nOrd_split (g : Gr (Er G)) {a b : Nat} (hab : Er G a b) : nOrd G C = nOrd G (fun c d => C c d ∨ Rch (Er G) a b c d) + nOrd G (fun c d => C c d ∨ Rch (Er G) b a c d) := by
  unfold nOrd
  refine filter_two fun F _ => ?_
  simp only [hasB_iff]
  constructor
  · constructor
    · rintro ⟨o, h⟩
      rcases o.all _ _ hab with h1 | h1
      · exact .inl ⟨o, fun c d h2 => h2.elim (h c d) fun h2 => o.cls g h1 h2⟩
      · exact .inr ⟨o, fun c d h2 => h2.elim (h c d) fun h2 => o.cls g h1 h2⟩
    · rintro (⟨o, h⟩ | ⟨o, h⟩) <;> exact ⟨o, fun c d h2 => h c d (.inl h2)⟩
  · rintro ⟨⟨o, h⟩, ⟨_, h'⟩⟩
    exact o.one _ _ (h a b (.inr .refl)) (h' b a (.inr .refl))
structure CtI (G C D : List Bool) : Prop where
  lc : C.length = 49
  ld : D.length = 49
  sub : ∀ a b, Er C a b → Er G a b
  sd : ∀ a b, Er D a b → Er G a b
  all : ∀ a b, Er G a b → Er D a b ∨ Er C a b ∨ Er C b a
theorem CtI.zero {C : List Bool} (_hG : G.length = 49) (hcv : cvB (woR G (turnR C)) (spR C) = false) : nOrd G (Er C) = 0 := by
  refine nOrd_zero fun F o h => ?_
  have hn : ¬ cvB (woR G (turnR C)) (spR C) = true := by rw [hcv]; simp
  have hwl : (woR G (turnR C)).length = 49 := rl_len
  rw [cvB_iff hwl] at hn
  refine hn fun a c hac => ?_
  obtain ⟨b, h1, h2⟩ := spR_iff.1 hac
  have hF : Er F a c := o.tr _ _ _ (h _ _ h1) (h _ _ h2)
  exact woR_iff.2 ⟨o.sub _ _ hF, fun h3 => o.one _ _ hF (h _ _ (turnR_iff.1 h3))⟩
theorem CtI.one {C D : List Bool} (k : CtI G C D) (g : Gr (Er G)) (hcv : cvB (woR G (turnR C)) (spR C) = true) (hf : frO D = none) : nOrd G (Er C) = 1 := by
  have hD := frO_none hf
  have hwl : (woR G (turnR C)).length = 49 := rl_len
  rw [cvB_iff hwl] at hcv
  have st : ∀ a b c, Er C a b → Er C b c → Er G a c ∧ ¬ Er C c a := fun a b c h1 h2 => by
    have := woR_iff.1 (hcv a c (spR_iff.2 ⟨b, h1, h2⟩))
    exact ⟨this.1, fun h => this.2 (turnR_iff.2 h)⟩
  have all : ∀ a b, Er G a b → Er C a b ∨ Er C b a := fun a b h => (k.all a b h).elim (fun h => absurd h (hD a b)) id
  refine nOrd_one k.lc ⟨k.sub, all, fun a b h1 h2 => g.irr a (st a b a h1 h2).1, fun a b c h1 h2 => ?_⟩ fun _ _ => Iff.rfl
  have := st a b c h1 h2
  exact (all a c this.1).elim id fun h => absurd h this.2
theorem CtI.cls {C D : List Bool} (_k : CtI G C D) {x : Nat × Nat} (hx : Er G x.1 x.2) {a b : Nat} : Er (jn2 C (clsR G x)) a b ↔ Er C a b ∨ Rch (Er G) x.1 x.2 a b := by
  show rat _ a b = true ↔ _
  rw [jn2_iff, clsR_iff (rat_lt hx)]; exact Iff.rfl
theorem CtI.next {C D : List Bool} (k : CtI G C D) (g : SymR G) {x y : Nat × Nat} (hx : Er D x.1 x.2) (hy : y = x ∨ y = swN x) : CtI G (jn2 C (clsR G y)) (woR D (jn2 (clsR G x) (turnR (clsR G x)))) := by
  have hxG := k.sd _ _ hx
  have hyG : Er G y.1 y.2 := by rcases hy with rfl | rfl; exact hxG; exact g.gr.sym _ _ hxG
  have l1 : (jnR [C, clsR G y]).length = 49 := rl_len
  have l2 : (woR D (jn2 (clsR G x) (turnR (clsR G x)))).length = 49 := rl_len
  refine ⟨l1, l2, fun a b h => ?_, fun a b h => k.sd _ _ (woR_iff.1 h).1, fun a b h => ?_⟩
  · exact ((k.cls hyG).1 h).elim (k.sub a b) fun h => h.edge hyG
  · rcases k.all a b h with h1 | h1 | h1
    · by_cases h2 : rat (jn2 (clsR G x) (turnR (clsR G x))) a b = true
      · right
        rw [jn2_iff, turnR_iff] at h2
        have both : Rch (Er G) x.1 x.2 a b ∨ Rch (Er G) x.1 x.2 b a := h2.imp (clsR_iff (rat_lt hxG)).1 (clsR_iff (rat_lt hxG)).1
        rcases hy with rfl | rfl
        · exact both.imp (fun h => (k.cls hyG).2 (.inr h)) (fun h => (k.cls hyG).2 (.inr h))
        · exact both.symm.imp (fun h => (k.cls hyG).2 (.inr (h.inv g.gr))) (fun h => (k.cls hyG).2 (.inr (h.inv g.gr)))
      · exact .inl (woR_iff.2 ⟨h1, h2⟩)
    · exact .inr (.inl ((k.cls hyG).2 (.inl h1)))
    · exact .inr (.inr ((k.cls hyG).2 (.inl h1)))
theorem woR_cnt {L M : List Bool} (hL : L.length = 49) {x : Nat × Nat} (hx : rat L x.1 x.2 = true) (hm : rat M x.1 x.2 = true) : cntT (woR L M) < cntT L := by
  have e : ∀ (M : List Bool) (hM : M.length = 49) (i : Nat) (hi : i < M.length), M[i] = rat M (i / 7) (i % 7) := fun M hM i hi => by
    unfold rat
    rw [decide_eq_true (show i / 7 < 7 by omega), decide_eq_true (show i % 7 < 7 by omega), show 7 * (i / 7) + i % 7 = i by omega, List.getD_eq_getElem?_getD, List.getElem?_eq_getElem hi]
    rfl
  have hN : (woR L M).length = 49 := rl_len
  refine (cntT_lt (by rw [hN, hL]) fun i h1 h2 hi => ?_).2 fun eq => ?_
  · rw [e _ hN] at hi
    rw [e _ hL]
    exact (woR_iff.1 hi).1
  · have h1 : rat (woR L M) x.1 x.2 = true := by rw [eq]; exact hx
    exact (woR_iff.1 h1).2 hm
theorem CtI.split {C D : List Bool} (k : CtI G C D) (g : SymR G) {x : Nat × Nat} (hx : Er D x.1 x.2) : nOrd G (Er C) = nOrd G (Er (jn2 C (clsR G x))) + nOrd G (Er (jn2 C (clsR G (swN x)))) := by
  have hxG := k.sd _ _ hx
  rw [nOrd_split g.gr hxG, nOrd_congr (fun a b => (k.cls hxG (a := a) (b := b)).symm), nOrd_congr (C := fun c d => Er C c d ∨ Rch (Er G) x.2 x.1 c d) (fun a b => (k.cls (x := swN x) (g.gr.sym _ _ hxG) (a := a) (b := b)).symm)]
end
end Go.Ev
namespace Go.Ev
open Go Go.RowKit
noncomputable def f90_r0 : List EOper := [oG 4 (.box 49 (tG 0)), oG 5 (.box 49 (tG 1)), oG 6 (.as (cG 0))]
noncomputable def f90_r1 : List Stage := [⟨[oG 11 (.ldn 49 (tG 2)), oG 12 (.ldn 49 (tG 4)), oG 15 (.ldn 49 (tG 4))], [], (some (oG 13 (.call (fG 70) [(tG 12)]))), []⟩, ⟨[], [oG 11 (.ldn 49 (tG 2)), oG 15 (.ldn 49 (tG 4))], (some (oG 14 (.call (fG 81) [(tG 11), (tG 13)]))), []⟩, ⟨[], [oG 15 (.ldn 49 (tG 4))], (some (oG 16 (.call (fG 92) [(tG 15)]))), []⟩, ⟨[], [], (some (oG 17 (.call (fG 91) [(tG 14), (tG 16)]))), []⟩, ⟨[oG 18 (.not (tG 17))], [], none, []⟩]
noncomputable def f90_r2 : List EOper := [oG 6 (.as (cG 0))]
noncomputable def f90_r3 : List EOper := [oG 20 (.ldn 49 (tG 5)), oG 21 (.call (fG 87) [(tG 20)]), oG 19 (.mv (tG 21)), oG 22 (.ext (tG 19) 0), oG 23 (.ext (tG 19) 1), oG 7 (.alloc 2 [(.i .i64 (.ofNat 0)), (.i .i64 (.ofNat 0))]), ⟨none, none, .st 2 (tG 7) (tG 22)⟩, oG 8 (.as (tG 23))]
noncomputable def f90_r4 : List EOper := [oG 24 (.mv (tG 8)), oG 25 (.not (tG 24))]
noncomputable def f90_r5 : List EOper := [oG 6 (.as (cG 1))]
noncomputable def f90_r6 : List EOper := [oG 26 (.ldn 49 (tG 2)), oG 27 (.ldn 2 (tG 7)), oG 28 (.call (fG 57) [(tG 26), (tG 27)]), oG 9 (.alloc 49 (List.replicate 49 (.b false))), ⟨none, none, .st 49 (tG 9) (tG 28)⟩]
noncomputable def f90_r7 : List EOper := [oG 29 (.ldn 49 (tG 9)), oG 30 (.call (fG 70) [(tG 29)]), oG 10 (.alloc 49 (List.replicate 49 (.b false))), ⟨none, none, .st 49 (tG 10) (tG 30)⟩]
noncomputable def f90_r8 : List Stage := [⟨[oG 31 (.ldn 49 (tG 5)), oG 32 (.ldn 49 (tG 9)), oG 33 (.ldn 49 (tG 10)), oG 34 (.bslice 2 49 (List.replicate 98 (.b false)) [(0, 49, (tG 32)), (49, 49, (tG 33))])], [], (some (oG 35 (.call (fG 69) [(tG 34)]))), [(.ofNat 34)]⟩, ⟨[], [oG 31 (.ldn 49 (tG 5))], (some (oG 36 (.call (fG 81) [(tG 31), (tG 35)]))), []⟩, ⟨[], [], (some ⟨none, none, .st 49 (tG 5) (tG 36)⟩), []⟩, ⟨[], [], none, []⟩]
noncomputable def f90_r9 : List Stage := [⟨[oG 37 (.ld (tG 3)), oG 38 (.ldn 49 (tG 4)), oG 39 (.ldn 49 (tG 9)), oG 40 (.bslice 2 49 (List.replicate 98 (.b false)) [(0, 49, (tG 38)), (49, 49, (tG 39))]), oG 42 (.ldn 49 (tG 5)), oG 44 (.ld (tG 3)), oG 45 (.ldn 49 (tG 4)), oG 46 (.ldn 49 (tG 10)), oG 47 (.bslice 2 49 (List.replicate 98 (.b false)) [(0, 49, (tG 45)), (49, 49, (tG 46))]), oG 49 (.ldn 49 (tG 5))], [], (some (oG 41 (.call (fG 69) [(tG 40)]))), [(.ofNat 40), (.ofNat 47)]⟩, ⟨[], [oG 37 (.ld (tG 3)), oG 42 (.ldn 49 (tG 5)), oG 44 (.ld (tG 3)), oG 45 (.ldn 49 (tG 4)), oG 46 (.ldn 49 (tG 10)), oG 47 (.bslice 2 49 (List.replicate 98 (.b false)) [(0, 49, (tG 45)), (49, 49, (tG 46))]), oG 49 (.ldn 49 (tG 5))], (some (oG 43 (.call (tG 37) [(tG 41), (tG 42)]))), []⟩, ⟨[], [oG 44 (.ld (tG 3)), oG 45 (.ldn 49 (tG 4)), oG 46 (.ldn 49 (tG 10)), oG 47 (.bslice 2 49 (List.replicate 98 (.b false)) [(0, 49, (tG 45)), (49, 49, (tG 46))]), oG 49 (.ldn 49 (tG 5))], (some (oG 48 (.call (fG 69) [(tG 47)]))), []⟩, ⟨[], [oG 44 (.ld (tG 3)), oG 49 (.ldn 49 (tG 5))], (some (oG 50 (.call (tG 44) [(tG 48), (tG 49)]))), []⟩, ⟨[oG 51 (.bin .add (tG 43) (tG 50))], [], (some (oG 6 (.as (tG 51)))), []⟩, ⟨[], [], none, []⟩]
noncomputable def f90_c : EC := (.seq (.reg f90_r0) (.seq (.seq (.draw f90_r1) (.cond (tG 18) (.seq (.reg f90_r2) .ret) .skip)) (.seq (.reg f90_r3) (.seq (.seq (.reg f90_r4) (.cond (tG 25) (.seq (.reg f90_r5) .ret) .skip)) (.seq (.reg f90_r6) (.seq (.reg f90_r7) (.seq (.draw f90_r8) (.seq (.draw f90_r9) .ret))))))))
noncomputable def f90 : EF := ⟨52, [.tmp (.ofNat 6)], f90_c, none⟩
theorem f90_rs : f90.rs = [.tmp (.ofNat 6)] := of_eq_true (eq_self _)
noncomputable def f64_r0 : List EOper := [oG 1 (.box 49 (tG 0)), oG 2 (.as (cG 0))]
noncomputable def f64_r1 : List EOper := [oG 3 (.alloc 1 [.fnil])]
noncomputable def f64_r2 : List EOper := [oG 4 (.mkfn (.ofNat 90) [(tG 1), (tG 3)]), ⟨none, none, .st 1 (tG 3) (tG 4)⟩]
noncomputable def f64_r3 : List EOper := [oG 5 (.ld (tG 3)), oG 6 (.build (List.replicate 49 (.b false)) []), oG 7 (.ldn 49 (tG 1)), oG 8 (.call (tG 5) [(tG 6), (tG 7)]), oG 2 (.as (tG 8))]
noncomputable def f64_c : EC := (.seq (.reg f64_r0) (.seq (.reg f64_r1) (.seq (.reg f64_r2) (.seq (.reg f64_r3) .ret))))
noncomputable def f64 : EF := ⟨9, [.tmp (.ofNat 2)], f64_c, none⟩
theorem f64_rs : f64.rs = [.tmp (.ofNat 2)] := of_eq_true (eq_self _)
noncomputable def f31_r0 : List EOper := [oG 4 (.as (cG 0)), oG 5 (.as (cG 0))]
noncomputable def f31_r1 : List EOper := [oG 7 (.mv (tG 0)), oG 8 (.mv (tG 1)), oG 9 (.call (fG 47) [(tG 7), (tG 8)]), oG 6 (.as (tG 9))]
noncomputable def f31_r2 : List EOper := [oG 10 (.mv (tG 6)), oG 11 (.bin .neq (tG 10) (cG 0))]
noncomputable def f31_r3 : List EOper := [oG 12 (.mv (tG 6)), oG 4 (.as (cG 0)), oG 5 (.as (tG 12))]
noncomputable def f31_r4 : List EOper := [oG 13 (.mv (tG 0)), oG 14 (.bin .gtr (tG 13) (cG 6))]
noncomputable def f31_r5 : List EOper := [oG 4 (.as (cG 0)), oG 5 (.as (cG 1))]
noncomputable def f31_r6 : List EOper := [oG 15 (.mv (tG 1)), oG 16 (.call (fG 48) [(tG 15)]), oG 17 (.call (fG 64) [(tG 16)]), oG 4 (.as (tG 17)), oG 5 (.as (cG 0))]
noncomputable def f31_c : EC := (.seq (.reg f31_r0) (.seq (.seq (.reg f31_r1) (.seq (.reg f31_r2) (.cond (tG 11) (.seq (.reg f31_r3) .ret) .skip))) (.seq (.seq (.reg f31_r4) (.cond (tG 14) (.seq (.reg f31_r5) .ret) .skip)) (.seq (.reg f31_r6) .ret))))
noncomputable def f31 : EF := ⟨18, [.tmp (.ofNat 4), .tmp (.ofNat 5)], f31_c, none⟩
theorem f31_rs : f31.rs = [.tmp (.ofNat 4), .tmp (.ofNat 5)] := of_eq_true (eq_self _)
section
variable {fs : T EF} {h h' : H} {fr : Fr}
theorem stay_two {k ka kb id : K} {L M : List Bool} (h1 : fr.get k = some (.sl id 0 2 49)) (h2 : fr.get ka = some (rV L)) (h3 : fr.get kb = some (rV M)) (hL : L.length = 49) (hM : M.length = 49) (hg : h.get id = .cells (2 * 49) (L.map V.b ++ M.map V.b)) :
    stays fs goNo fr h ⟨some k, none, .bslice 2 49 (List.replicate 98 (.b false)) [(0, 49, .t ka), (49, 49, .t kb)]⟩ = true := by
  have c1 := rC_cells hL
  have c2 := rC_cells hM
  show litOk fr h 2 49 (List.replicate 98 (.b false)) [(0, 49, .t ka), (49, 49, .t kb)] (getV (fr.get k)) = true
  rw [h1]
  show (Nat.beq 0 0 && Nat.beq 2 2 && Nat.beq 49 49 && (h.get id).onW false fun m cs => Nat.beq m (2 * 49) && oGet (fillE fr (List.replicate 98 (.b false)) [(0, 49, .t ka), (49, 49, .t kb)]) false fun cs' => beqL cs cs') = true
  rw [hg]
  have hf : fillE fr (List.replicate 98 (.b false)) [(0, 49, .t ka), (49, 49, .t kb)] = some (L.map V.b ++ M.map V.b) := by
    have ea : ev fr (.t ka) = rV L := by show getV (fr.get ka) = _; rw [h2]; rfl
    have eb : ev fr (.t kb) = rV M := by show getV (fr.get kb) = _; rw [h3]; rfl
    rw [fill_c, ea, c1]
    show fillE fr (setMany (List.replicate 98 (.b false)) 0 (L.map V.b)) [(49, 49, .t kb)] = _
    rw [fill_c, eb, c2]
    show fillE fr (setMany (setMany (List.replicate 98 (.b false)) 0 (L.map V.b)) 49 (M.map V.b)) [] = _
    rw [fill_e, set98a hL, set98b hL hM]
  show (true && true && true && (Nat.beq (2 * 49) (2 * 49) && oGet (fillE fr (List.replicate 98 (.b false)) [(0, 49, .t ka), (49, 49, .t kb)]) false fun cs' => beqL (L.map V.b ++ M.map V.b) cs')) = true
  rw [hf, ← List.map_append]
  show (true && true && true && (Nat.beq (2 * 49) (2 * 49) && beqL ((L ++ M).map V.b) ((L ++ M).map V.b))) = true
  rw [beqL_b]; rfl
theorem fresh_two {h0 : H} {k1 k2 : K} {n sz n' sz' : Nat} {x y : Blk} (hg : fr.get k1 = some (.sl h0.nx 0 n sz)) (hg2 : fr.get k2 = some (.sl (h0.new x).nx 0 n' sz')) : isFresh h0 ((h0.new x).new y) fr [k1, k2] = true := by
  have n1 : (h0.new x).nx.nat = h0.nx.nat + 1 := nx_new h0 x
  have n2 : ((h0.new x).new y).nx.nat = (h0.new x).nx.nat + 1 := nx_new _ y
  show freshL h0.nx.nat ((h0.new x).new y).nx.nat (oGet (slId (getV (fr.get k1))) (idsOf fr [k2]) fun id => id :: idsOf fr [k2]) = true
  rw [hg]
  show freshL h0.nx.nat ((h0.new x).new y).nx.nat (h0.nx :: (oGet (slId (getV (fr.get k2))) [] fun id => [id])) = true
  rw [hg2]
  show (Nat.ble h0.nx.nat h0.nx.nat && Nat.blt h0.nx.nat ((h0.new x).new y).nx.nat && (!(h0.nx.beq (h0.new x).nx) && true) && (Nat.ble h0.nx.nat (h0.new x).nx.nat && Nat.blt (h0.new x).nx.nat ((h0.new x).new y).nx.nat && true && true)) = true
  have hne : h0.nx.beq (h0.new x).nx = false := by
    cases e : h0.nx.beq (h0.new x).nx with
    | false => rfl
    | true => have := congrArg K.nat (K.beq_eq e); omega
  rw [hne, Nat.ble_eq_true_of_le (Nat.le_refl _), show Nat.blt h0.nx.nat ((h0.new x).new y).nx.nat = true from Nat.ble_eq_true_of_le (by omega), Nat.ble_eq_true_of_le (show h0.nx.nat ≤ (h0.new x).nx.nat by omega), show Nat.blt (h0.new x).nx.nat ((h0.new x).new y).nx.nat = true from Nat.ble_eq_true_of_le (by omega)]
  rfl
theorem beq_fn {k a b : K} : beqV (.fn k [.p a 0, .p b 0]) (.fn k [.p a 0, .p b 0]) = true := by
  show (K.beq k k && (beqV (.p a 0) (.p a 0) && (beqV (.p b 0) (.p b 0) && true))) = true
  rw [K.beq_refl, beq_p, beq_p]; rfl
theorem turn_cls {G : List Bool} (sy : SymR G) {x : Nat × Nat} (hx : in7 x) : turnR (clsR G x) = clsR G (swN x) := by
  refine rel_ext rl_len clsR_len fun a b _ _ => ?_
  rw [Bool.eq_iff_iff, turnR_iff, clsR_iff hx, clsR_iff (show (swN x).1 < 7 ∧ (swN x).2 < 7 from ⟨hx.2, hx.1⟩)]
  exact ⟨fun h => h.inv sy.gr, fun h => h.inv sy.gr⟩
structure CallsNo (fs : T EF) : Prop extends CallsOr fs where
  c64 : fs.get (K.ofNat 64) = some f64
  c90 : fs.get (K.ofNat 90) = some f90
theorem f90_ret {G : List Bool} {idr idc : K} (k : CallsNo fs) (sy : SymR G) : ∀ (m : Nat) (C D : List Bool) (h : H), cntT D = m → CtI G C D → h.get idr = rC G → h.get idc = .cells 1 [.fn (.ofNat 90) [.p idr 0, .p idc 0]] → HC h → Ret fs f90 [rV C, rV D, .p idr 0, .p idc 0] h fun r h' => r = .i .i64 (nOrd G (Er C) : Int) ∧ Grow h.nx.nat h h' := by
  intro m
  induction m using Nat.strongRecOn with
  | ind m ih =>
  intro C D h hm ci er ec hc
  have hG := sy.len
  have hC := ci.lc
  have hD := ci.ld
  apply ret_of rfl
  show W fs none f90_c _ _ _
  unfold f90_c
  have lr : idr.nat < h.nx.nat := hc.cells er
  have lc : idc.nat < h.nx.nat := hc.cells ec
  have c1 := rC_cells hC
  have c2 := rC_cells hD
  have n1 := nx_new h (.cells 49 (C.map V.b))
  have g1 : Grow h.nx.nat h (h.new (.cells 49 (C.map V.b))) := Grow.new (Nat.le_refl _) _
  have e1 : (h.new (.cells 49 (C.map V.b))).get h.nx = rC C := get_new_same
  simp (disch := omega) only [f90_r0, Nat.reduceEqDiff, ↓reduceIte, c1, c2, bz]
  generalize h.new (.cells 49 (C.map V.b)) = h1 at *
  have n2 := nx_new h1 (.cells 49 (D.map V.b))
  have g2 : Grow h1.nx.nat h1 (h1.new (.cells 49 (D.map V.b))) := Grow.new (Nat.le_refl _) _
  have e2 : (h1.new (.cells 49 (D.map V.b))).get h1.nx = rC D := get_new_same
  generalize h1.new (.cells 49 (D.map V.b)) = h2 at *
  have gA : Grow h.nx.nat h h2 := g1.trans (g2.low (by omega))
  have hc2 := gA.hc hc
  have aC := (g2.old h.nx (by omega)).trans e1
  have aG := (gA.old idr lr).trans er
  have l1 := rC_ldn hC aC
  have lG := rC_ldn hG aG
  have hT : (turnR C).length = 49 := rl_len
  have hW : (woR G (turnR C)).length = 49 := rl_len
  have hS : (spR C).length = 49 := rl_len
  have k70 := k.n70 C
  have k81 := k.n81 G (turnR C)
  have k92 := k.n92 C
  have k91 := k.n91 (woR G (turnR C)) (spR C)
  cases hcv : cvB (woR G (turnR C)) (spR C) with
  | false =>
    simp (disch := omega) only [f90_r1, f90_r2, f90_rs, Option.some.injEq, exists_eq_left', Nat.reduceEqDiff, ↓reduceIte, Bool.not_false, l1, lG, beq_rV, k70 _ _ hC, k81 _ _ hG hT, k92 _ _ hC, k91 _ _ hW hS, hcv, bz]
    exact ⟨by rw [CtI.zero hG hcv]; rfl, gA⟩
  | true =>
    have l2 := rC_ldn hD e2
    have k87 := k.n87 D
    obtain ⟨hst, gB, c7, n5⟩ := arr_var (h := h2) (x := (frX D).1) (y := (frX D).2)
    replace hst : storeV (h2.new (.cells 2 [.i .i64 0, .i .i64 0])) 2 (.p h2.nx 0) (aV (frX D)) = _ := hst
    simp (disch := omega) only [f90_r1, f90_r3, Nat.reduceEqDiff, ↓reduceIte, Bool.false_eq_true, Bool.not_true, l1, lG, beq_rV, k70 _ _ hC, k81 _ _ hG hT, k92 _ _ hC, k91 _ _ hW hS, hcv, l2, k87 _ _ hD, frV_eq, hst, bz]
    generalize (h2.new (.cells 2 [.i .i64 0, .i .i64 0])).put h2.nx (.cells 2 [.i .i64 ((frX D).1 : Int), .i .i64 ((frX D).2 : Int)]) = h3 at *
    have gA3 := gA.trans (gB.low gA.nx)
    have hc3 := gB.hc hc2
    cases hf : frO D with
    | none =>
      simp (disch := omega) only [f90_r4, f90_r5, f90_rs, Option.some.injEq, exists_eq_left', ↓reduceIte, Bool.not_false, Option.isSome_none, bz]
      exact ⟨by rw [ci.one sy.gr hcv hf]; rfl, gA3⟩
    | some x =>
      have hx : frX D = x := by unfold frX; rw [hf]; rfl
      obtain ⟨hx1, hx2, hxD⟩ := frO_some hf
      rw [hx] at c7
      have hxG := ci.sd _ _ hxD
      have hx7 := rat_lt hxG
      have l7 := ldn2 c7
      have hav : V.agg [.i .i64 (x.1 : Int), .i .i64 (x.2 : Int)] = aV x := rfl
      have lG3 := rC_ldn hG ((gA3.old idr lr).trans er)
      have k57 := k.n57 G x
      have hK : (clsR G x).length = 49 := clsR_len
      have hKT : (turnR (clsR G x)).length = 49 := rl_len
      have s9 := rC_stn hK rl_len (M := rl fun _ _ => false) (h := h3.new (.cells 49 (List.replicate 49 (.b false)))) (id := h3.nx) (by rw [rl_false]; exact get_new_same)
      have n9 := nx_new h3 (.cells 49 (List.replicate 49 (.b false)))
      have g9 : Grow h3.nx.nat h3 ((h3.new (.cells 49 (List.replicate 49 (.b false)))).put h3.nx (rC (clsR G x))) := (Grow.new (Nat.le_refl _) _).trans (Grow.put (Nat.le_refl _) (by omega) _)
      have e9 : ((h3.new (.cells 49 (List.replicate 49 (.b false)))).put h3.nx (rC (clsR G x))).get h3.nx = rC (clsR G x) := get_put_same
      have n9' : ((h3.new (.cells 49 (List.replicate 49 (.b false)))).put h3.nx (rC (clsR G x))).nx.nat = h3.nx.nat + 1 := n9
      simp (disch := omega) only [f90_r4, f90_r6, Nat.reduceEqDiff, ↓reduceIte, Bool.false_eq_true, Bool.not_true, Option.isSome_some, lG3, l7, hav, k57 _ _ hG hx7, s9, bz]
      generalize (h3.new (.cells 49 (List.replicate 49 (.b false)))).put h3.nx (rC (clsR G x)) = h4 at *
      have l4 := rC_ldn hK e9
      have k70b := k.n70 (clsR G x)
      have s10 := rC_stn hKT rl_len (M := rl fun _ _ => false) (h := h4.new (.cells 49 (List.replicate 49 (.b false)))) (id := h4.nx) (by rw [rl_false]; exact get_new_same)
      have n10 := nx_new h4 (.cells 49 (List.replicate 49 (.b false)))
      have g10 : Grow h4.nx.nat h4 ((h4.new (.cells 49 (List.replicate 49 (.b false)))).put h4.nx (rC (turnR (clsR G x)))) := (Grow.new (Nat.le_refl _) _).trans (Grow.put (Nat.le_refl _) (by omega) _)
      have e10 : ((h4.new (.cells 49 (List.replicate 49 (.b false)))).put h4.nx (rC (turnR (clsR G x)))).get h4.nx = rC (turnR (clsR G x)) := get_put_same
      have n10' : ((h4.new (.cells 49 (List.replicate 49 (.b false)))).put h4.nx (rC (turnR (clsR G x)))).nx.nat = h4.nx.nat + 1 := n10
      simp (disch := omega) only [f90_r7, Nat.reduceEqDiff, ↓reduceIte, l4, k70b _ _ hK, s10, bz]
      generalize (h4.new (.cells 49 (List.replicate 49 (.b false)))).put h4.nx (rC (turnR (clsR G x))) = h5 at *
      have hc4 := g9.hc hc3
      have hc5 := g10.hc hc4
      have gB3 := gB.nx
      have gA5 : Grow h.nx.nat h h5 := gA3.trans ((g9.low gA3.nx).trans (g10.low (by have := gA3.nx; omega)))
      have b5 : h5.get h1.nx = rC D := (g10.old _ (by omega)).trans ((g9.old _ (by omega)).trans ((gB.old _ (by omega)).trans e2))
      have b4 : h5.get h.nx = rC C := (g10.old _ (by omega)).trans ((g9.old _ (by omega)).trans ((gB.old _ (by omega)).trans aC))
      have b9 : h5.get h3.nx = rC (clsR G x) := (g10.old _ (by omega)).trans e9
      have cK := rC_cells hK
      have cKT := rC_cells hKT
      simp (disch := omega) only [f90_r8, Option.some.injEq, exists_eq_left', Nat.reduceEqDiff, ↓reduceIte, rC_ldn hD b5, rC_ldn hK b9, rC_ldn hKT e10, fill_c, cK, cKT, set98a hK, set98b hK hKT, hc5.dead, bz]
      refine ⟨fresh_one (n := 2) (sz := 49) (by simp (disch := omega) only [getK_set, ↓reduceIte]), ?_⟩
      have gL : Grow h5.nx.nat h5 (h5.new (.cells (2 * 49) ((clsR G x).map V.b ++ (turnR (clsR G x)).map V.b))) := Grow.new (Nat.le_refl _) _
      have hr6 := Rs.two (h := h5) hK hKT
      have n6 := nx_new h5 (.cells (2 * 49) ((clsR G x).map V.b ++ (turnR (clsR G x)).map V.b))
      have hc6 := gL.hc hc5
      generalize h5.new (.cells (2 * 49) ((clsR G x).map V.b ++ (turnR (clsR G x)).map V.b)) = h6 at *
      have hall : ∀ z ∈ [clsR G x, turnR (clsR G x)], z.length = 49 := fun z hz => by
        simp only [List.mem_cons, List.not_mem_nil, or_false] at hz
        rcases hz with rfl | rfl
        · exact hK
        · exact hKT
      refine (callP_0 (ef := f69) k.c69 rfl (f69_ret k.c84 k.c101 hr6 hall (by simp) hc6)).mono ?_
      rintro r h7 ⟨rfl, g7⟩
      have hc7 := g7.hc hc6
      have g57 : Grow h5.nx.nat h5 h7 := gL.trans (g7.low (by omega))
      have hJ : (jnR [clsR G x, turnR (clsR G x)]).length = 49 := rl_len
      have hN : (woR D (jnR [clsR G x, turnR (clsR G x)])).length = 49 := rl_len
      have b5' := (g57.old h1.nx (by omega)).trans b5
      have l5' := rC_ldn hD b5'
      have k81b := k.n81 D (jnR [clsR G x, turnR (clsR G x)])
      have s7 := rC_stn hN hD b5'
      have gn7 := g57.nx
      simp (disch := omega) only [Nat.reduceEqDiff, ↓reduceIte, l5', beq_rV, k81b _ _ hD hJ, s7, bz]
      have eD : (h7.put h1.nx (rC (woR D (jnR [clsR G x, turnR (clsR G x)])))).get h1.nx = rC (woR D (jnR [clsR G x, turnR (clsR G x)])) := get_put_same
      have o8 : ∀ id : K, id.nat ≠ h1.nx.nat → (h7.put h1.nx (rC (woR D (jnR [clsR G x, turnR (clsR G x)])))).get id = h7.get id := fun id hid => get_put_other fun e => hid (congrArg K.nat e)
      have n8 : (h7.put h1.nx (rC (woR D (jnR [clsR G x, turnR (clsR G x)])))).nx.nat = h7.nx.nat := rfl
      have hc8 : HC (h7.put h1.nx (rC (woR D (jnR [clsR G x, turnR (clsR G x)])))) := (Grow.put (b := 0) (Nat.zero_le _) (by omega) _).hc hc7
      generalize h7.put h1.nx (rC (woR D (jnR [clsR G x, turnR (clsR G x)]))) = h8 at *
      have gA8 : Grow h.nx.nat h h8 := ⟨by have := gA5.nx; omega, fun id hid => (o8 id (by omega)).trans ((g57.old id (by have := gA5.nx; omega)).trans (gA5.old id hid)), fun _ => hc8⟩
      have a4 := (o8 h.nx (by omega)).trans ((g57.old _ (by omega)).trans b4)
      have a9 := (o8 h3.nx (by omega)).trans ((g57.old _ (by omega)).trans b9)
      have a10 := (o8 h4.nx (by omega)).trans ((g57.old _ (by omega)).trans e10)
      have acl := (gA8.old idc lc).trans ec
      have lcl := load_p (off := 0) acl (show nth [V.fn (K.ofNat 90) [.p idr 0, .p idc 0]] 0 = some _ from rfl)
      have gX : Grow h8.nx.nat h8 (h8.new (.cells (2 * 49) (C.map V.b ++ (clsR G x).map V.b))) := Grow.new (Nat.le_refl _) _
      have nX := nx_new h8 (.cells (2 * 49) (C.map V.b ++ (clsR G x).map V.b))
      have hcX := gX.hc hc8
      have rX := Rs.two (h := h8) hC hK
      have gY : Grow (h8.new (.cells (2 * 49) (C.map V.b ++ (clsR G x).map V.b))).nx.nat (h8.new (.cells (2 * 49) (C.map V.b ++ (clsR G x).map V.b))) ((h8.new (.cells (2 * 49) (C.map V.b ++ (clsR G x).map V.b))).new (.cells (2 * 49) (C.map V.b ++ (turnR (clsR G x)).map V.b))) := Grow.new (Nat.le_refl _) _
      have nY := nx_new (h8.new (.cells (2 * 49) (C.map V.b ++ (clsR G x).map V.b))) (.cells (2 * 49) (C.map V.b ++ (turnR (clsR G x)).map V.b))
      have bY : ((h8.new (.cells (2 * 49) (C.map V.b ++ (clsR G x).map V.b))).new (.cells (2 * 49) (C.map V.b ++ (turnR (clsR G x)).map V.b))).get (h8.new (.cells (2 * 49) (C.map V.b ++ (clsR G x).map V.b))).nx = .cells (2 * 49) (C.map V.b ++ (turnR (clsR G x)).map V.b) := get_new_same
      have n78 : h7.nx.nat = h8.nx.nat := n8.symm
      have rY2 := Rs.two (h := h8.new (.cells (2 * 49) (C.map V.b ++ (clsR G x).map V.b))) hC hKT
      have lclX := load_p (off := 0) ((gX.old idc (by have := gA8.nx; omega)).trans acl) (show nth [V.fn (K.ofNat 90) [.p idr 0, .p idc 0]] 0 = some _ from rfl)
      have lDX := rC_ldn hN ((gX.old h1.nx (by omega)).trans eD)
      have lCX := rC_ldn hC ((gX.old h.nx (by omega)).trans a4)
      have lTX := rC_ldn hKT ((gX.old h4.nx (by omega)).trans a10)
      have dX := hcX.dead
      have lDY := rC_ldn hN ((gY.old h1.nx (by omega)).trans ((gX.old h1.nx (by omega)).trans eD))
      simp (disch := omega) only [f90_r9, Option.some.injEq, exists_eq_left', Nat.reduceEqDiff, ↓reduceIte, lcl, rC_ldn hC a4, rC_ldn hK a9, fill_c, c1, cK, cKT, set98a hC, set98b hC hK, set98b hC hKT, hc8.dead, lclX, lDX, lCX, lTX, dX, lDY, bz]
      refine ⟨fresh_two (n := 2) (sz := 49) (n' := 2) (sz' := 49) (by simp (disch := omega) only [getK_set, Nat.reduceEqDiff, ↓reduceIte]) (by simp (disch := omega) only [getK_set, Nat.reduceEqDiff, ↓reduceIte]), ?_⟩
      generalize h8.new (.cells (2 * 49) (C.map V.b ++ (clsR G x).map V.b)) = hX at *
      generalize hX.new (.cells (2 * 49) (C.map V.b ++ (turnR (clsR G x)).map V.b)) = hY at *
      have hcY := gY.hc hcX
      have g8Y : Grow h8.nx.nat h8 hY := gX.trans (gY.low (by omega))
      have rY : Rs hY (.sl h8.nx 0 2 49) [C, clsR G x] := rX.grow hcX gY
      have hall2 : ∀ z ∈ [C, clsR G x], z.length = 49 := fun z hz => by
        simp only [List.mem_cons, List.not_mem_nil, or_false] at hz
        rcases hz with rfl | rfl
        · exact hC
        · exact hK
      refine (callP_0 (ef := f69) k.c69 rfl (f69_ret k.c84 k.c101 rY hall2 (by simp) hcY)).mono ?_
      rintro r h9 ⟨rfl, gr9⟩
      have hc9 := gr9.hc hcY
      have g89 : Grow h8.nx.nat h8 h9 := g8Y.trans (gr9.low (by omega))
      have gn9 := g89.nx
      have lcl9 := load_p (off := 0) ((g89.old idc (by have := gA8.nx; omega)).trans acl) (show nth [V.fn (K.ofNat 90) [.p idr 0, .p idc 0]] 0 = some _ from rfl)
      have lD9 := rC_ldn hN ((g89.old h1.nx (by omega)).trans eD)
      have lC9 := rC_ldn hC ((g89.old h.nx (by omega)).trans a4)
      have lT9 := rC_ldn hKT ((g89.old h4.nx (by omega)).trans a10)
      have b9Y := (gr9.old hX.nx (by omega)).trans bY
      simp (disch := omega) only [stay_ld, Nat.reduceEqDiff, ↓reduceIte, lcl9, lD9, lC9, lT9, beq_rV, beq_fn, bz]
      refine ⟨by simp only [and_true]; exact stay_two (by simp (disch := omega) only [getK_set, Nat.reduceEqDiff, ↓reduceIte]) (by simp (disch := omega) only [getK_set, Nat.reduceEqDiff, ↓reduceIte]) (by simp (disch := omega) only [getK_set, Nat.reduceEqDiff, ↓reduceIte]) hC hKT b9Y, ?_⟩
      have hlt : cntT (woR D (jnR [clsR G x, turnR (clsR G x)])) < m := by
        rw [← hm]
        exact woR_cnt hD hxD (jn2_iff.2 (.inl ((clsR_iff hx7).2 .refl)))
      refine (callP_of (ef := f90) (args := [rV (jnR [C, clsR G x]), rV (woR D (jnR [clsR G x, turnR (clsR G x)]))]) (caps := [.p idr 0, .p idc 0]) k.c90 rfl (ih _ hlt _ _ h9 rfl (ci.next sy hxD (.inl rfl)) ((g89.old idr (by have := gA8.nx; omega)).trans ((gA8.old idr lr).trans er)) ((g89.old idc (by have := gA8.nx; omega)).trans acl) hc9)).mono ?_
      rintro r h10 ⟨rfl, gr10⟩
      have hc10 := gr10.hc hc9
      have g810 : Grow h8.nx.nat h8 h10 := g89.trans (gr10.low (by omega))
      have gn10 := g810.nx
      have lcl10 := load_p (off := 0) ((g810.old idc (by have := gA8.nx; omega)).trans acl) (show nth [V.fn (K.ofNat 90) [.p idr 0, .p idc 0]] 0 = some _ from rfl)
      have lD10 := rC_ldn hN ((g810.old h1.nx (by omega)).trans eD)
      have lC10 := rC_ldn hC ((g810.old h.nx (by omega)).trans a4)
      have lT10 := rC_ldn hKT ((g810.old h4.nx (by omega)).trans a10)
      have gr9n := gr9.nx
      have b10Y := (gr10.old hX.nx (by omega)).trans b9Y
      simp (disch := omega) only [stay_ld, Nat.reduceEqDiff, ↓reduceIte, lcl10, lD10, lC10, lT10, beq_rV, beq_fn, bz]
      refine ⟨by simp only [and_true]; exact stay_two (by simp (disch := omega) only [getK_set, Nat.reduceEqDiff, ↓reduceIte]) (by simp (disch := omega) only [getK_set, Nat.reduceEqDiff, ↓reduceIte]) (by simp (disch := omega) only [getK_set, Nat.reduceEqDiff, ↓reduceIte]) hC hKT b10Y, ?_⟩
      have hall3 : ∀ z ∈ [C, turnR (clsR G x)], z.length = 49 := fun z hz => by
        simp only [List.mem_cons, List.not_mem_nil, or_false] at hz
        rcases hz with rfl | rfl
        · exact hC
        · exact hKT
      refine (callP_0 (ef := f69) k.c69 rfl (f69_ret k.c84 k.c101 ((rY2.grow hcY gr9).grow hc9 gr10) hall3 (by simp) hc10)).mono ?_
      rintro r h11 ⟨rfl, gr11⟩
      have hc11 := gr11.hc hc10
      have g811 : Grow h8.nx.nat h8 h11 := g810.trans (gr11.low gn10)
      have lcl11 := load_p (off := 0) ((g811.old idc (by have := gA8.nx; omega)).trans acl) (show nth [V.fn (K.ofNat 90) [.p idr 0, .p idc 0]] 0 = some _ from rfl)
      have lD11 := rC_ldn hN ((g811.old h1.nx (by omega)).trans eD)
      have ecl : jnR [C, turnR (clsR G x)] = jn2 C (clsR G (swN x)) := by rw [turn_cls sy hx7]; rfl
      rw [ecl]
      simp (disch := omega) only [stay_ld, Nat.reduceEqDiff, ↓reduceIte, lcl11, lD11, beq_rV, beq_fn, bz]
      refine (callP_of (ef := f90) (args := [rV (jn2 C (clsR G (swN x))), rV (woR D (jnR [clsR G x, turnR (clsR G x)]))]) (caps := [.p idr 0, .p idc 0]) k.c90 rfl (ih _ hlt _ _ h11 rfl (ci.next sy hxD (.inr rfl)) ((g811.old idr (by have := gA8.nx; omega)).trans ((gA8.old idr lr).trans er)) ((g811.old idc (by have := gA8.nx; omega)).trans acl) hc11)).mono ?_
      rintro r h12 ⟨rfl, gr12⟩
      have q1 : nOrd G (Er (jnR [C, clsR G x])) ≤ 562949953421312 := nOrd_le
      have q2 : nOrd G (Er (jn2 C (clsR G (swN x)))) ≤ 562949953421312 := nOrd_le
      have gE : Grow h.nx.nat h h12 := gA8.trans ((g811.low gA8.nx).trans (gr12.low (by have := gA8.nx; have := g811.nx; omega)))
      simp (disch := omega) only [f90_rs, Option.some.injEq, exists_eq_left', Nat.reduceEqDiff, ↓reduceIte, bz]
      refine ⟨?_, gE⟩
      rw [ci.split sy hxD, show nOrd G (Er (jn2 C (clsR G x))) = nOrd G (Er (jnR [C, clsR G x])) from rfl]
      exact congrArg _ (by show _ = ((_ + _ : Nat) : Int); omega)
theorem f64_ret {G : List Bool} (k : CallsNo fs) (sy : SymR G) (hc : HC h) : Ret fs f64 [rV G] h fun r h' => r = .i .i64 (nOrd G (fun _ _ => False) : Int) ∧ Grow h.nx.nat h h' := by
  have hG := sy.len
  apply ret_of rfl
  show W fs none f64_c _ _ _
  unfold f64_c
  have c1 := rC_cells hG
  have n1 := nx_new h (.cells 49 (G.map V.b))
  have g1 : Grow h.nx.nat h (h.new (.cells 49 (G.map V.b))) := Grow.new (Nat.le_refl _) _
  have e1 : (h.new (.cells 49 (G.map V.b))).get h.nx = rC G := get_new_same
  simp (disch := omega) only [f64_r0, ↓reduceIte, c1, bz]
  generalize h.new (.cells 49 (G.map V.b)) = h1 at *
  have n3 := nx_new h1 (.cells 1 [.fnil])
  have s3 : storeV (h1.new (.cells 1 [.fnil])) 1 (.p h1.nx 0) (.fn (K.ofNat 90) [.p h.nx 0, .p h1.nx 0]) = .ok undefV ((h1.new (.cells 1 [.fnil])).put h1.nx (.cells 1 [.fn (K.ofNat 90) [.p h.nx 0, .p h1.nx 0]])) := st1 get_new_same rfl
  have g3 : Grow h1.nx.nat h1 ((h1.new (.cells 1 [.fnil])).put h1.nx (.cells 1 [.fn (K.ofNat 90) [.p h.nx 0, .p h1.nx 0]])) := (Grow.new (Nat.le_refl _) _).trans (Grow.put (Nat.le_refl _) (by omega) _)
  have e3 : ((h1.new (.cells 1 [.fnil])).put h1.nx (.cells 1 [.fn (K.ofNat 90) [.p h.nx 0, .p h1.nx 0]])).get h1.nx = .cells 1 [.fn (K.ofNat 90) [.p h.nx 0, .p h1.nx 0]] := get_put_same
  have lcl := load_p (off := 0) e3 (show nth [V.fn (K.ofNat 90) [.p h.nx 0, .p h1.nx 0]] 0 = some _ from rfl)
  have a1 := (g3.old h.nx (by omega)).trans e1
  have lG := rC_ldn hG a1
  simp (disch := omega) only [f64_r1, f64_r2, f64_r3, x_mkfn, Nat.reduceEqDiff, ↓reduceIte, s3, lcl, zero49, lG, bz]
  generalize (h1.new (.cells 1 [.fnil])).put h1.nx (.cells 1 [.fn (K.ofNat 90) [.p h.nx 0, .p h1.nx 0]]) = h3 at *
  have hc3 := g3.hc (g1.hc hc)
  have ci : CtI G (rl fun _ _ => false) G := ⟨rl_len, hG, fun a b h => by have h : rat (rl fun _ _ => false) a b = true := h; rw [rat_rl] at h; simp at h, fun _ _ h => h, fun _ _ h => .inl h⟩
  refine (callP_of (ef := f90) (args := [rV (rl fun _ _ => false), rV G]) (caps := [.p h.nx 0, .p h1.nx 0]) k.c90 rfl (f90_ret k sy _ _ _ h3 rfl ci a1 e3 hc3)).mono ?_
  rintro r h4 ⟨rfl, g4⟩
  simp (disch := omega) only [f64_rs, Option.some.injEq, exists_eq_left', ↓reduceIte, bz]
  refine ⟨?_, g1.trans ((g3.low (by omega)).trans (g4.low (by have := g3.nx; omega)))⟩
  rw [nOrd_congr (C' := fun _ _ => False) (fun a b => ⟨fun h => by have h : rat (rl fun _ _ => false) a b = true := h; rw [rat_rl] at h; simp at h, False.elim⟩)]
theorem f31_ret {n : Nat} {v : V} {g : Nat → Nat → Bool} (k : CallsNo fs) (hg : Gph n g) (hv : Srp h v (arI g)) (hc : HC h) : Ret fs f31 [.i .i64 (n : Int), v] h fun r h' => r = (if n ≤ 6 then .tup [.i .i64 (nOrd (gR (arI g)) (fun _ _ => False) : Int), .i .i64 0] else .tup [.i .i64 0, .i .i64 1]) ∧ Grow h.nx.nat h h' := by
  have hlb := arI_len (g := g)
  apply ret_of rfl
  show W fs none f31_c _ _ _
  unfold f31_c
  simp (disch := omega) only [f31_r0, f31_r1, Nat.reduceEqDiff, ↓reduceIte, bz]
  refine (callP_0 (ef := f47) k.c47 rfl (f47_ret k.toCallsCk hv (by omega) hc)).mono ?_
  rintro r h1 ⟨rfl, gr1⟩
  rw [chkG_g hg]
  have ne0 : decide ((0 : Int) ≠ 0) = false := rfl
  have hc1 := gr1.hc hc
  by_cases h6 : n ≤ 6
  · have d0 : decide ((n : Int) > 6) = false := decide_eq_false (by omega)
    simp (disch := omega) only [f31_r2, f31_r4, f31_r6, of6, Nat.reduceEqDiff, ↓reduceIte, Bool.false_eq_true, ne0, d0, bz]
    refine (callP_0 (ef := f48) k.c48 rfl (f48_ret k.toNat2 (hv.grow hc gr1) nd_arI (by omega) hc1)).mono ?_
    rintro r h2 ⟨rfl, gr2⟩
    have hc2 := gr2.hc hc1
    simp (disch := omega) only [↓reduceIte, bz]
    refine (callP_0 (ef := f64) k.c64 rfl (f64_ret k (symR_g hg) hc2)).mono ?_
    rintro r h3 ⟨rfl, gr3⟩
    simp (disch := omega) only [f31_rs, Option.some.injEq, exists_eq_left', Nat.reduceEqDiff, ↓reduceIte, bz]
    exact ⟨by rw [if_pos h6], gr1.trans ((gr2.low gr1.nx).trans (gr3.low (by have := gr1.nx; have := gr2.nx; omega)))⟩
  · have d0 : decide ((n : Int) > 6) = true := decide_eq_true (by omega)
    simp (disch := omega) only [f31_r2, f31_r4, f31_r5, f31_rs, of6, Option.some.injEq, exists_eq_left', Nat.reduceEqDiff, ↓reduceIte, Bool.false_eq_true, ne0, d0, bz]
    exact ⟨by rw [if_neg h6], gr1⟩
end
end Go.Ev
namespace Go.Ev
open Go Go.RowKit
section
variable {fs : T EF} {h h' : H}
end
end Go.Ev
namespace Go.Ev
open Go Go.RowKit
section
variable {fs : T EF} {h h' : H}
end
end Go.Ev
namespace Go.Ev
open Go Go.RowKit
end Go.Ev
namespace Go.Ev
open Go Go.RowKit
section
variable {fs : T EF} {h h' : H}
end
end Go.Ev
namespace Go.Ev
open Go Go.RowKit
section
variable {fs : T EF} {h h' : H}
theorem hasR_nat {L : List Bool} {a b : Nat} (ha : a < 7) (hb : b < 7) : hasR L ((a : Int), (b : Int)) = rat L a b := by
  unfold hasR nodeB
  rw [decide_eq_true (show (0 : Int) ≤ ((a : Int), (b : Int)).1 ∧ ((a : Int), (b : Int)).1 < 7 by simp only; omega), decide_eq_true (show (0 : Int) ≤ ((a : Int), (b : Int)).2 ∧ ((a : Int), (b : Int)).2 < 7 by simp only; omega)]
  rfl
end
end Go.Ev
namespace Go.Ev
open Go Go.RowKit
section
variable {fs : T EF} {h h' : H}
theorem arw_nd {f : Nat → Nat → Bool} : (arw f).Nodup := by
  unfold arw
  refine List.Pairwise.map _ (fun a b hab e => hab ?_) (List.Pairwise.filter _ List.nodup_range)
  have e1 : a / 7 = b / 7 := congrArg Prod.fst e
  have e2 : a % 7 = b % 7 := congrArg Prod.snd e
  omega
end
end Go.Ev
namespace Go.Ev
open Go Go.RowKit
end Go.Ev
namespace Go.Ev
open Go Go.RowKit
end Go.Ev
namespace Go.Ev
open Go Go.RowKit
noncomputable def f120_r0 : List EOper := [oG 2 (.as (cG 0))]
noncomputable def f120_r1 : List EOper := [oG 3 (.mv (tG 0)), oG 4 (.bin .geq (tG 3) (.c (.i .u64 (.ofNat 4294967296))))]
noncomputable def f120_r2 : List EOper := [oG 5 (.mv (tG 0)), oG 6 (.bin .shr (tG 5) (.c (.i .u64 (.ofNat 32)))), oG 0 (.as (tG 6))]
noncomputable def f120_r3 : List EOper := [oG 2 (.as (cG 32))]
noncomputable def f120_r4 : List EOper := [oG 7 (.mv (tG 0)), oG 8 (.bin .geq (tG 7) (.c (.i .u64 (.ofNat 65536))))]
noncomputable def f120_r5 : List EOper := [oG 9 (.mv (tG 0)), oG 10 (.bin .shr (tG 9) (.c (.i .u64 (.ofNat 16)))), oG 0 (.as (tG 10))]
noncomputable def f120_r6 : List EOper := [oG 11 (.mv (tG 2)), oG 12 (.bin .add (tG 11) (cG 16)), oG 2 (.as (tG 12))]
noncomputable def f120_r7 : List EOper := [oG 13 (.mv (tG 0)), oG 14 (.bin .geq (tG 13) (.c (.i .u64 (.ofNat 256))))]
noncomputable def f120_r8 : List EOper := [oG 15 (.mv (tG 0)), oG 16 (.bin .shr (tG 15) (.c (.i .u64 (.ofNat 8)))), oG 0 (.as (tG 16))]
noncomputable def f120_r9 : List EOper := [oG 17 (.mv (tG 2)), oG 18 (.bin .add (tG 17) (cG 8)), oG 2 (.as (tG 18))]
noncomputable def f120_r10 : List EOper := [oG 19 (.mv (tG 2)), oG 20 (.mv (tG 0)), oG 21 (.conv .u8 (tG 20)), oG 22 (.pr .sidx (.c (.s ⟨#[0, 1, 2, 2, 3, 3, 3, 3, 4, 4, 4, 4, 4, 4, 4, 4, 5, 5, 5, 5, 5, 5, 5, 5, 5, 5, 5, 5, 5, 5, 5, 5, 6, 6, 6, 6, 6, 6, 6, 6, 6, 6, 6, 6, 6, 6, 6, 6, 6, 6, 6, 6, 6, 6, 6, 6, 6, 6, 6, 6, 6, 6, 6, 6, 7, 7, 7, 7, 7, 7, 7, 7, 7, 7, 7, 7, 7, 7, 7, 7, 7, 7, 7, 7, 7, 7, 7, 7, 7, 7, 7, 7, 7, 7, 7, 7, 7, 7, 7, 7, 7, 7, 7, 7, 7, 7, 7, 7, 7, 7, 7, 7, 7, 7, 7, 7, 7, 7, 7, 7, 7, 7, 7, 7, 7, 7, 7, 7, 8, 8, 8, 8, 8, 8, 8, 8, 8, 8, 8, 8, 8, 8, 8, 8, 8, 8, 8, 8, 8, 8, 8, 8, 8, 8, 8, 8, 8, 8, 8, 8, 8, 8, 8, 8, 8, 8, 8, 8, 8, 8, 8, 8, 8, 8, 8, 8, 8, 8, 8, 8, 8, 8, 8, 8, 8, 8, 8, 8, 8, 8, 8, 8, 8, 8, 8, 8, 8, 8, 8, 8, 8, 8, 8, 8, 8, 8, 8, 8, 8, 8, 8, 8, 8, 8, 8, 8, 8, 8, 8, 8, 8, 8, 8, 8, 8, 8, 8, 8, 8, 8, 8, 8, 8, 8, 8, 8, 8, 8, 8, 8, 8, 8, 8, 8, 8, 8, 8, 8, 8, 8, 8, 8, 8, 8, 8, 8]⟩)) (tG 21)), oG 23 (.conv .i64 (tG 22)), oG 24 (.bin .add (tG 19) (tG 23)), oG 2 (.as (tG 24))]
noncomputable def f120_c : EC := (.seq (.reg f120_r0) (.seq (.seq (.reg f120_r1) (.cond (tG 4) (.seq (.reg f120_r2) (.reg f120_r3)) .skip)) (.seq (.seq (.reg f120_r4) (.cond (tG 8) (.seq (.reg f120_r5) (.reg f120_r6)) .skip)) (.seq (.seq (.reg f120_r7) (.cond (tG 14) (.seq (.reg f120_r8) (.reg f120_r9)) .skip)) (.seq (.reg f120_r10) .ret)))))
noncomputable def f120 : EF := ⟨25, [.tmp (.ofNat 2)], f120_c, none⟩
noncomputable def f107_r0 : List EOper := [oG 2 (.as (cG 0))]
noncomputable def f107_r1 : List EOper := [oG 3 (.mv (tG 0)), oG 4 (.conv .u32 (tG 3)), oG 5 (.call (fG 119) [(tG 4)]), oG 2 (.as (tG 5))]
noncomputable def f107_r2 : List EOper := [oG 6 (.mv (tG 0)), oG 7 (.call (fG 120) [(tG 6)]), oG 2 (.as (tG 7))]
noncomputable def f107_c : EC := (.seq (.reg f107_r0) (.seq (.cond (.c (.b false)) (.seq (.reg f107_r1) .ret) .skip) (.seq (.reg f107_r2) .ret)))
noncomputable def f107 : EF := ⟨8, [.tmp (.ofNat 2)], f107_c, none⟩
theorem f107_rs : f107.rs = [.tmp (.ofNat 2)] := of_eq_true (eq_self _)
section
variable {fs : T EF} {h : H} {v : V} {S : List Int} {L : List Bool} {idr idb : K}
end
end Go.Ev
namespace Go.Ev
open Go Go.RowKit
theorem bfB_iff {x y : Int × Int} : bfB x y = true ↔ x.1 < y.1 ∨ (x.1 = y.1 ∧ x.2 < y.2) := by
  unfold bfB; rw [Bool.or_eq_true, Bool.and_eq_true, decide_eq_true_eq, decide_eq_true_eq, decide_eq_true_eq]
theorem bfB_tot {x y : Int × Int} (h : x ≠ y) (h1 : bfB x y = false) : bfB y x = true := by
  rw [bfB_iff]
  have h2 : ¬ bfB x y = true := by rw [h1]; simp
  rw [bfB_iff] at h2
  have h3 : ¬ (x.1 = y.1 ∧ x.2 = y.2) := fun h4 => h (Prod.ext h4.1 h4.2)
  omega
theorem bfB_tr {x y z : Int × Int} (h1 : bfB x y = true) (h2 : bfB y z = true) : bfB x z = true := by
  rw [bfB_iff] at *; omega
theorem bfB_as {x y : Int × Int} (h1 : bfB x y = true) : bfB y x = false := by
  cases h : bfB y x with
  | false => rfl
  | true => rw [bfB_iff] at *; omega
theorem bfB_ne {x y : Int × Int} (h1 : bfB x y = true) : x ≠ y := fun e => by subst e; rw [bfB_iff] at h1; omega
abbrev gW (W : List (Int × Int)) (i : Nat) : Int × Int := W.getD i (0, 0)
theorem gW_lt {W : List (Int × Int)} {i : Nat} (h : i < W.length) : gW W i = W[i] := by
  show W.getD i (0, 0) = _
  rw [List.getD_eq_getElem?_getD, List.getElem?_eq_getElem h]; rfl
def xch (W : List (Int × Int)) (i j : Nat) : List (Int × Int) := (W.set i (gW W j)).set j (gW W i)
theorem xch_perm {W : List (Int × Int)} {i j : Nat} (hi : i < W.length) (hj : j < W.length) : (xch W i j).Perm W := by
  unfold xch
  rw [gW_lt hi, gW_lt hj]
  exact List.set_set_perm hi hj
theorem gW_xch {W : List (Int × Int)} {i j k : Nat} (hi : i < W.length) (hj : j < W.length) : gW (xch W i j) k = if k = j then gW W i else if k = i then gW W j else gW W k := by
  unfold xch
  generalize gW W i = x
  generalize gW W j = y
  show ((W.set i y).set j x).getD k (0, 0) = _
  rw [List.getD_eq_getElem?_getD, List.getElem?_set, List.length_set]
  by_cases h1 : k = j
  · rw [if_pos h1, if_pos h1.symm, if_pos hj]; rfl
  · rw [if_neg h1, if_neg (Ne.symm h1), List.getElem?_set]
    by_cases h2 : k = i
    · rw [if_pos h2, if_pos h2.symm, if_pos hi]; rfl
    · rw [if_neg h2, if_neg (Ne.symm h2)]
      show _ = W.getD k (0, 0)
      rw [List.getD_eq_getElem?_getD]
structure Pm (a b : Nat) (W W' : List (Int × Int)) : Prop where
  perm : W'.Perm W
  out : ∀ i, i < a ∨ b ≤ i → gW W' i = gW W i
section
variable {a b a' b' : Nat} {W W' W2 : List (Int × Int)}
theorem Pm.refl : Pm a b W W := ⟨.refl _, fun _ _ => rfl⟩
theorem Pm.symm (p : Pm a b W W') : Pm a b W' W := ⟨p.perm.symm, fun i h => (p.out i h).symm⟩
theorem Pm.trans (p : Pm a b W W') (q : Pm a b W' W2) : Pm a b W W2 := ⟨q.perm.trans p.perm, fun i h => (q.out i h).trans (p.out i h)⟩
theorem Pm.mono (p : Pm a b W W') (h1 : a' ≤ a) (h2 : b ≤ b') : Pm a' b' W W' := ⟨p.perm, fun i h => p.out i (by omega)⟩
theorem Pm.len (p : Pm a b W W') : W'.length = W.length := p.perm.length_eq
theorem Pm.nodup (p : Pm a b W W') (hn : W.Nodup) : W'.Nodup := p.perm.nodup_iff.2 hn
theorem Pm.ex {i j : Nat} (hb : b ≤ W.length) (h1 : a ≤ i) (h2 : i < b) (h3 : a ≤ j) (h4 : j < b) : Pm a b W (xch W i j) := ⟨xch_perm (by omega) (by omega), fun k hk => by rw [gW_xch (by omega) (by omega), if_neg (by omega), if_neg (by omega)]⟩
theorem gW_inj (hn : W.Nodup) {i j : Nat} (hi : i < W.length) (hj : j < W.length) (e : gW W i = gW W j) : i = j := by
  rw [gW_lt hi, gW_lt hj] at e
  exact (List.getElem_inj hn).1 e
theorem Pm.src (p : Pm a b W W') (hn : W.Nodup) (hb : b ≤ W.length) {j : Nat} (h1 : a ≤ j) (h2 : j < b) : ∃ k, a ≤ k ∧ k < b ∧ gW W' j = gW W k := by
  have hl := p.len
  have hm : gW W' j ∈ W := by rw [gW_lt (by omega)]; exact p.perm.mem_iff.1 (List.getElem_mem _)
  obtain ⟨k, hk, e⟩ := List.getElem_of_mem hm
  rw [← gW_lt hk] at e
  refine ⟨k, ?_⟩
  by_cases h : k < a ∨ b ≤ k
  · have := (p.out k h).trans e
    have := gW_inj (p.nodup hn) (by omega) (by omega) this
    omega
  · exact ⟨by omega, by omega, e.symm⟩
def Srd (a b : Nat) (W : List (Int × Int)) : Prop := ∀ i j, a ≤ i → i < j → j < b → bfB (gW W i) (gW W j) = true
def Win (a b a' b' : Nat) (W : List (Int × Int)) : Prop := ∀ i j, a ≤ i → i < j → j < b → (a' ≤ i ∧ j < b') ∨ bfB (gW W i) (gW W j) = true
theorem Win.all : Win a b a b W := fun _ _ h1 _ h3 => .inl ⟨h1, h3⟩
theorem Win.pm (w : Win a b a' b' W) (p : Pm a' b' W W') (hn : W.Nodup) (ha : a ≤ a') (hb' : b' ≤ b) (hb : b ≤ W.length) : Win a b a' b' W' := fun i j h1 h2 h3 => by
  by_cases hw : a' ≤ i ∧ j < b'
  · exact .inl hw
  · refine .inr ?_
    by_cases hi : a' ≤ i ∧ i < b'
    · obtain ⟨k, k1, k2, k3⟩ := p.src hn (by omega) hi.1 hi.2
      rw [k3, p.out j (by omega)]
      rcases w k j (by omega) (by omega) h3 with h | h
      · omega
      · exact h
    · by_cases hj : a' ≤ j ∧ j < b'
      · obtain ⟨k, k1, k2, k3⟩ := p.src hn (by omega) hj.1 hj.2
        rw [k3, p.out i (by omega)]
        rcases w i k h1 (by omega) (by omega) with h | h
        · omega
        · exact h
      · rw [p.out i (by omega), p.out j (by omega)]
        rcases w i j h1 h2 h3 with h | h
        · exact absurd h hw
        · exact h
theorem Win.srd (w : Win a b a' b' W) (s : Srd a' b' W) : Srd a b W := fun i j h1 h2 h3 => (w i j h1 h2 h3).elim (fun h => s i j h.1 h2 h.2) id
structure Cut (a b m : Nat) (W : List (Int × Int)) : Prop where
  lo : a ≤ m
  hi : m < b
  less : ∀ i, a ≤ i → i < m → bfB (gW W i) (gW W m) = true
  more : ∀ i, m < i → i < b → bfB (gW W m) (gW W i) = true
theorem Cut.pmL {m : Nat} (c : Cut a b m W) (p : Pm a m W W') (hn : W.Nodup) (hb : b ≤ W.length) : Cut a b m W' := by
  have h1 := c.hi
  have e := p.out m (by omega)
  refine ⟨c.lo, c.hi, fun i i1 i2 => ?_, fun i i1 i2 => ?_⟩
  · obtain ⟨k, k1, k2, k3⟩ := p.src hn (by omega) i1 i2
    rw [e, k3]; exact c.less k k1 k2
  · rw [e, p.out i (by omega)]; exact c.more i i1 i2
theorem Cut.pmR {m : Nat} (c : Cut a b m W) (p : Pm (m + 1) b W W') (hn : W.Nodup) (hb : b ≤ W.length) : Cut a b m W' := by
  have h1 := c.hi
  have e := p.out m (by omega)
  refine ⟨c.lo, c.hi, fun i i1 i2 => ?_, fun i i1 i2 => ?_⟩
  · rw [e, p.out i (by omega)]; exact c.less i i1 i2
  · obtain ⟨k, k1, k2, k3⟩ := p.src hn (by omega) (show m + 1 ≤ i by omega) i2
    rw [e, k3]; exact c.more k (by omega) k2
theorem Win.right {m : Nat} (w : Win a b a' b' W) (c : Cut a' b' m W) (s : Srd a' m W) : Win a b (m + 1) b' W := fun i j h1 h2 h3 => by
  rcases w i j h1 h2 h3 with h | h
  · by_cases hi : m + 1 ≤ i
    · exact .inl ⟨hi, h.2⟩
    · refine .inr ?_
      by_cases e : i = m
      · rw [e]; exact c.more j (by omega) h.2
      · by_cases hj : j < m
        · exact s i j h.1 h2 hj
        · by_cases ej : j = m
          · rw [ej]; exact c.less i h.1 (by omega)
          · exact bfB_tr (c.less i h.1 (by omega)) (c.more j (by omega) h.2)
  · exact .inr h
theorem Win.left {m : Nat} (w : Win a b a' b' W) (c : Cut a' b' m W) (s : Srd (m + 1) b' W) : Win a b a' m W := fun i j h1 h2 h3 => by
  rcases w i j h1 h2 h3 with h | h
  · by_cases hj : j < m
    · exact .inl ⟨h.1, hj⟩
    · refine .inr ?_
      by_cases ej : j = m
      · rw [ej]; exact c.less i h.1 (by omega)
      · by_cases hi : m + 1 ≤ i
        · exact s i j hi h2 h.2
        · by_cases e : i = m
          · rw [e]; exact c.more j (by omega) h.2
          · exact bfB_tr (c.less i h.1 (by omega)) (c.more j (by omega) h.2)
  · exact .inr h
def Mid (a b p : Nat) (W : List (Int × Int)) : Prop := (∃ i, a ≤ i ∧ i < b ∧ bfB (gW W i) (gW W p) = true) ∧ ∃ i, a ≤ i ∧ i < b ∧ bfB (gW W p) (gW W i) = true
theorem Cut.in {p m : Nat} (c : Cut a b m W') (pm : Pm a b W W') (e : gW W' m = gW W p) (d : Mid a b p W) (hn : W.Nodup) (hb : b ≤ W.length) : a + 1 ≤ m ∧ m + 2 ≤ b := by
  obtain ⟨⟨i, i1, i2, i3⟩, ⟨j, j1, j2, j3⟩⟩ := d
  have hl := pm.len
  have := c.lo
  have := c.hi
  obtain ⟨i', k1, k2, k3⟩ := pm.symm.src (pm.nodup hn) (by omega) i1 i2
  obtain ⟨j', l1, l2, l3⟩ := pm.symm.src (pm.nodup hn) (by omega) j1 j2
  rw [k3, ← e] at i3
  rw [l3, ← e] at j3
  constructor
  · by_cases h : a + 1 ≤ m
    · exact h
    · by_cases h2 : i' = m
      · rw [h2] at i3; exact absurd rfl (bfB_ne i3)
      · rw [bfB_as (c.more i' (by omega) k2)] at i3; cases i3
  · by_cases h : m + 2 ≤ b
    · exact h
    · by_cases h2 : j' = m
      · rw [h2] at j3; exact absurd rfl (bfB_ne j3)
      · rw [bfB_as (c.less j' l1 (by omega))] at j3; cases j3
theorem srd_uniq : ∀ {A B : List (Int × Int)}, A.Perm B → (A.Pairwise fun x y => bfB x y = true) → (B.Pairwise fun x y => bfB x y = true) → A = B
  | [], B, p, _, _ => by rw [List.Perm.nil_eq p]
  | x :: A, [], p, _, _ => by have := p.length_eq; simp at this
  | x :: A, y :: B, p, h1, h2 => by
    rw [List.pairwise_cons] at h1 h2
    have e : x = y := by
      have m1 : x ∈ y :: B := p.mem_iff.1 (by simp)
      have m2 : y ∈ x :: A := p.mem_iff.2 (by simp)
      rcases List.mem_cons.1 m1 with h | h
      · exact h
      · rcases List.mem_cons.1 m2 with h' | h'
        · exact h'.symm
        · have := bfB_as (h1.1 y h')
          rw [h2.1 x h] at this; cases this
    subst e
    rw [srd_uniq (List.perm_cons x |>.1 p) h1.2 h2.2]
theorem Srd.pair (s : Srd 0 W.length W) : W.Pairwise fun x y => bfB x y = true := by
  rw [List.pairwise_iff_getElem]
  intro i j hi hj hij
  rw [← gW_lt hi, ← gW_lt hj]
  exact s i j (Nat.zero_le _) hij hj
theorem Srd.of (h : ∀ i, a < i → i < b → bfB (gW W (i - 1)) (gW W i) = true) : Srd a b W := by
  intro i j h1 h2 h3
  induction j with
  | zero => omega
  | succ j ih =>
    have hj := h (j + 1) (by omega) h3
    rw [Nat.add_sub_cancel] at hj
    by_cases e : i = j
    · rw [e]; exact hj
    · exact bfB_tr (ih (by omega) (by omega)) hj
end
end Go.Ev
namespace Go.Ev
open Go Go.RowKit
noncomputable def f98_r0 : List EOper := [oG 3 (.box 2 (tG 0)), oG 4 (.box 2 (tG 1)), oG 5 (.as (cG 0))]
noncomputable def f98_r1 : List EOper := [oG 7 (.ld (tG 2)), oG 8 (.ldn 2 (tG 3)), oG 9 (.ldn 2 (tG 4)), oG 10 (.call (tG 7) [(tG 8), (tG 9)]), oG 6 (.as (tG 10))]
noncomputable def f98_r2 : List EOper := [oG 5 (.as (.c (.i .i64 (.negSucc 0))))]
noncomputable def f98_r3 : List EOper := [oG 12 (.ld (tG 2)), oG 13 (.ldn 2 (tG 4)), oG 14 (.ldn 2 (tG 3)), oG 15 (.call (tG 12) [(tG 13), (tG 14)]), oG 11 (.as (tG 15))]
noncomputable def f98_r4 : List EOper := [oG 5 (.as (cG 1))]
noncomputable def f98_r5 : List EOper := [oG 5 (.as (cG 0))]
noncomputable def f98_c : EC := (.seq (.reg f98_r0) (.seq (.block 0 (.seq (.reg f98_r1) (.cond (tG 6) (.seq (.reg f98_r2) .ret) (.seq (.reg f98_r3) (.cond (tG 11) (.seq (.reg f98_r4) .ret) .skip))))) (.seq (.reg f98_r5) .ret)))
noncomputable def f98 : EF := ⟨16, [.tmp (.ofNat 5)], f98_c, none⟩
theorem f98_rs : f98.rs = [.tmp (.ofNat 5)] := of_eq_true (eq_self _)
noncomputable def f111_r0 : List EOper := [oG 10 (.mv (tG 1)), oG 11 (.bin .add (tG 10) (cG 1)), oG 8 (.as (tG 11))]
noncomputable def f111_r1 : List EOper := [oG 12 (.mv (tG 8)), oG 13 (.mv (tG 2)), oG 14 (.bin .lss (tG 12) (tG 13))]
noncomputable def f111_r2 : List EOper := [oG 17 (.mv (tG 8)), oG 9 (.as (tG 17))]
noncomputable def f111_r3 : List Stage := [⟨[oG 18 (.mv (tG 9)), oG 19 (.mv (tG 1)), oG 20 (.bin .gtr (tG 18) (tG 19)), oG 21 (.mv (tG 20)), gG 22 21 true (.mv (tG 3)), gG 23 21 true (.mv (tG 0)), gG 24 21 true (.mv (tG 9)), gG 25 21 true (.iads 2 (tG 23) (tG 24)), gG 26 21 true (.ldn 2 (tG 25)), gG 27 21 true (.mv (tG 0)), gG 28 21 true (.mv (tG 9)), gG 29 21 true (.bin .sub (tG 28) (cG 1)), gG 30 21 true (.iads 2 (tG 27) (tG 29)), gG 31 21 true (.ldn 2 (tG 30))], [], (some (gG 32 21 true (.call (tG 22) [(tG 26), (tG 31)]))), []⟩, ⟨[gG 33 21 true (.bin .lss (tG 32) (cG 0)), oG 34 (.pick (tG 21) (tG 33) (.c (.b false)))], [], none, []⟩]
noncomputable def f111_r4 : List Stage := [⟨[oG 37 (.mv (tG 0)), oG 38 (.mv (tG 9)), oG 39 (.mv (tG 0)), oG 40 (.mv (tG 9)), oG 41 (.bin .sub (tG 40) (cG 1)), oG 42 (.mv (tG 0)), oG 43 (.mv (tG 9)), oG 44 (.bin .sub (tG 43) (cG 1)), oG 45 (.iads 2 (tG 42) (tG 44)), oG 46 (.ldn 2 (tG 45)), oG 47 (.mv (tG 0)), oG 48 (.mv (tG 9)), oG 49 (.iads 2 (tG 47) (tG 48)), oG 50 (.ldn 2 (tG 49)), oG 51 (.iads 2 (tG 37) (tG 38))], [], (some ⟨none, none, .st 2 (tG 51) (tG 46)⟩), []⟩, ⟨[oG 52 (.iads 2 (tG 39) (tG 41))], [oG 39 (.mv (tG 0)), oG 40 (.mv (tG 9)), oG 41 (.bin .sub (tG 40) (cG 1))], (some ⟨none, none, .st 2 (tG 52) (tG 50)⟩), []⟩, ⟨[], [], none, []⟩]
noncomputable def f111_r5 : List EOper := [oG 35 (.mv (tG 9)), oG 36 (.bin .sub (tG 35) (cG 1)), oG 9 (.as (tG 36))]
noncomputable def f111_l0 : EC := (.seq (.seq (.draw f111_r3) (.cond (tG 34) .skip (.exit 2))) (.seq (.block 3 (.draw f111_r4)) (.reg f111_r5)))
noncomputable def f111_r6 : List EOper := [oG 15 (.mv (tG 8)), oG 16 (.bin .add (tG 15) (cG 1)), oG 8 (.as (tG 16))]
noncomputable def f111_l1 : EC := (.seq (.seq (.reg f111_r1) (.cond (tG 14) .skip (.exit 0))) (.seq (.block 1 (.seq (.reg f111_r2) (.block 2 (.loop f111_l0)))) (.reg f111_r6)))
noncomputable def f111_c : EC := (.seq (.reg f111_r0) (.block 0 (.loop f111_l1)))
noncomputable def f111 : EF := ⟨53, [], f111_c, none⟩
theorem f111_rs : f111.rs = [] := of_eq_true (eq_self _)
structure Onl (v : V) (h h' : H) : Prop where
  nx : h.nx.nat ≤ h'.nx.nat
  old : ∀ id : K, id.nat < h.nx.nat → NotIn id v → h'.get id = h.get id
  hc : HC h → HC h'
theorem Onl.refl {v : V} {h : H} : Onl v h h := ⟨Nat.le_refl _, fun _ _ _ => rfl, id⟩
theorem Onl.trans {v : V} {h h' h2 : H} (o : Onl v h h') (p : Onl v h' h2) : Onl v h h2 := ⟨Nat.le_trans o.nx p.nx, fun id hi hn => (p.old id (Nat.lt_of_lt_of_le hi o.nx) hn).trans (o.old id hi hn), fun c => p.hc (o.hc c)⟩
theorem Onl.of {v : V} {h h' : H} (g : Grow h.nx.nat h h') : Onl v h h' := ⟨g.nx, fun id hi _ => g.old id hi, g.hc⟩
theorem Onl.put {v : V} {h : H} {id : K} {x : Blk} (hv : ∃ off n sz, v = .sl id off n sz) (hl : id.nat < h.nx.nat) : Onl v h (h.put id x) := ⟨Nat.le_refl _, fun id' _ hn => by
  obtain ⟨off, n, sz, e⟩ := hv
  exact get_put_other (fun q => hn off n sz (by rw [q]; exact e)), (Grow.put (b := 0) (Nat.zero_le _) hl x).hc⟩
theorem Onl.grow {v : V} {h h' : H} {b : Nat} (o : Onl v h h') (ho : Own b v) (hb : b ≤ h.nx.nat) : Grow b h h' := ⟨o.nx, fun id hi => o.old id (by omega) (ho.notIn hi), o.hc⟩
theorem Sk.atp {h : H} {v : V} {L : List (Int × Int)} (hs : Sk 2 qE h v L) {i : Nat} (hi : i < L.length) : ∃ p, (∀ k h1, iadsV 2 v (.i k (i : Int)) h1 = .ok p h1) ∧ loadV h p (many? 2) = .ok (pV (gW L i)) h := by
  obtain ⟨p, h1, h2⟩ := hs.at2 hi
  refine ⟨p, h1, ?_⟩
  rw [gW_lt hi]; exact h2
theorem Sk.xch {h : H} {v : V} {Z : List (Int × Int)} (hs : Sk 2 qE h v Z) (hc : HC h) {i j : Nat} (hi : i < Z.length) (hj : j < Z.length) : ∃ pi pj h1 h2, (∀ k h', iadsV 2 v (.i k (i : Int)) h' = .ok pi h') ∧ (∀ k h', iadsV 2 v (.i k (j : Int)) h' = .ok pj h') ∧ loadV h pi (many? 2) = .ok (pV (gW Z i)) h ∧ loadV h pj (many? 2) = .ok (pV (gW Z j)) h ∧ storeV h 2 pi (pV (gW Z j)) = .ok undefV h1 ∧ storeV h1 2 pj (pV (gW Z i)) = .ok undefV h2 ∧ Sk 2 qE h2 v (xch Z i j) ∧ Onl v h h2 ∧ HC h2 := by
  obtain ⟨pi, a1, a2⟩ := hs.atp hi
  obtain ⟨pj, b1, b2⟩ := hs.atp hj
  obtain ⟨p, id, m, cs, z1, z2, z3, z4, z5⟩ := hs.st2 hi (x := gW Z j) hc
  obtain rfl : pi = p := by have := (a1 .i64 h).symm.trans (z1 .i64 h); injection this
  have o1 : Onl v h (h.put id (.cells m cs)) := Onl.put z4 z5
  obtain ⟨p, id2, m2, cs2, y1, y2, y3, y4, y5⟩ := z3.st2 (i := j) (by rw [List.length_set]; exact hj) (x := gW Z i) (o1.hc hc)
  obtain rfl : pj = p := by have := (b1 .i64 h).symm.trans (y1 .i64 h); injection this
  have o2 := o1.trans (Onl.put (x := .cells m2 cs2) y4 y5)
  exact ⟨pi, pj, _, _, a1, b1, a2, b2, z2, y2, y3, o2, o2.hc hc⟩
def cmP (x y : Int × Int) : Int := if bfB x y = true then -1 else if bfB y x = true then 1 else 0
theorem cmP_lt (x y : Int × Int) : decide (cmP x y < 0) = bfB x y := by
  unfold cmP
  cases bfB x y with
  | true => rfl
  | false => rw [if_neg (by simp)]; split <;> rfl
noncomputable abbrev cmV (idb : K) : V := .fn (K.ofNat 98) [.p idb 0]
structure CallsTs (fs : T EF) : Prop where
  n80 : ∀ a b h P, CallP fs (.fn (K.ofNat 80) []) [pV a, pV b] h P = P (.b (bfB a b)) h
  c98 : fs.get (K.ofNat 98) = some f98
section
variable {fs : T EF} {h : H} {v : V} {Z : List (Int × Int)} {idb : K}
theorem f98_ret {x y : Int × Int} (k : CallsTs fs) (e : h.get idb = .cells 1 [.fn (.ofNat 80) []]) (hc : HC h) : Ret fs f98 [pV x, pV y, .p idb 0] h fun r h' => r = .i .i64 (cmP x y) ∧ Grow h.nx.nat h h' := by
  apply ret_of rfl
  show W fs none f98_c _ _ _
  unfold f98_c
  have n1 := nx_new h (.cells 2 [.i .i64 x.1, .i .i64 x.2])
  have g1 : Grow h.nx.nat h (h.new (.cells 2 [.i .i64 x.1, .i .i64 x.2])) := Grow.new (Nat.le_refl _) _
  have g2 : Grow h.nx.nat (h.new (.cells 2 [.i .i64 x.1, .i .i64 x.2])) ((h.new (.cells 2 [.i .i64 x.1, .i .i64 x.2])).new (.cells 2 [.i .i64 y.1, .i .i64 y.2])) := Grow.new (by omega) _
  have e1 : ((h.new (.cells 2 [.i .i64 x.1, .i .i64 x.2])).new (.cells 2 [.i .i64 y.1, .i .i64 y.2])).get h.nx = .cells 2 [.i .i64 x.1, .i .i64 x.2] := by rw [get_new_old (by omega), get_new_same]
  have e2 : ((h.new (.cells 2 [.i .i64 x.1, .i .i64 x.2])).new (.cells 2 [.i .i64 y.1, .i .i64 y.2])).get (h.new (.cells 2 [.i .i64 x.1, .i .i64 x.2])).nx = .cells 2 [.i .i64 y.1, .i .i64 y.2] := get_new_same
  have c1 : cellsN 2 (pV x) = some [.i .i64 x.1, .i .i64 x.2] := rfl
  have c2 : cellsN 2 (pV y) = some [.i .i64 y.1, .i .i64 y.2] := rfl
  have gg := g1.trans g2
  have l0 := load_p (off := 0) ((gg.old idb (hc.cells e)).trans e) (show nth [V.fn (K.ofNat 80) []] 0 = some _ from rfl)
  have l1 : loadV _ (.p h.nx 0) (many? 2) = .ok (pV x) _ := ldn2 e1
  have l2 : loadV _ (.p (h.new (.cells 2 [.i .i64 x.1, .i .i64 x.2])).nx 0) (many? 2) = .ok (pV y) _ := ldn2 e2
  simp (disch := omega) only [f98_r0, frame_3, Nat.reduceEqDiff, ↓reduceIte, c1, c2, bz]
  generalize (h.new (.cells 2 [.i .i64 x.1, .i .i64 x.2])).nx = id2 at *
  generalize (h.new (.cells 2 [.i .i64 x.1, .i .i64 x.2])).new (.cells 2 [.i .i64 y.1, .i .i64 y.2]) = h2 at *
  unfold cmP
  cases d1 : bfB x y with
  | true =>
    simp (disch := omega) only [f98_r1, f98_r2, f98_rs, Option.some.injEq, exists_eq_left', Nat.reduceEqDiff, ↓reduceIte, l0, l1, l2, k.n80, d1, bz]
    exact ⟨rfl, gg⟩
  | false =>
    cases d2 : bfB y x with
    | true =>
      simp (disch := omega) only [f98_r1, f98_r3, f98_r4, f98_rs, Option.some.injEq, exists_eq_left', Nat.reduceEqDiff, ↓reduceIte, Bool.false_eq_true, l0, l1, l2, k.n80, d1, d2, Bool.false_eq_true, bz]
      exact gg
    | false =>
      simp (disch := omega) only [f98_r1, f98_r3, f98_r5, f98_rs, Option.some.injEq, exists_eq_left', Nat.reduceEqDiff, ↓reduceIte, Bool.false_eq_true, l0, l1, l2, k.n80, d1, d2, Bool.false_eq_true, bz]
      exact gg
structure SoT (idb : K) (v : V) (h : H) : Prop where
  e : h.get idb = .cells 1 [.fn (K.ofNat 80) []]
  ni : NotIn idb v
  hc : HC h
theorem SoT.onl {h' : H} (s : SoT idb v h) (o : Onl v h h') : SoT idb v h' := ⟨(o.old _ (s.hc.cells s.e) s.ni).trans s.e, s.ni, o.hc s.hc⟩
theorem cm_call {x y : Int × Int} (k : CallsTs fs) (s : SoT idb v h) (hs : Sk 2 qE h v Z) {P : V → H → Prop} (hP : ∀ h', Sk 2 qE h' v Z → Onl v h h' → SoT idb v h' → P (.i .i64 (cmP x y)) h') : CallP fs (cmV idb) [pV x, pV y] h P :=
  (callP_of (ef := f98) (args := [pV x, pV y]) (caps := [.p idb 0]) k.c98 rfl (f98_ret k s.e s.hc)).mono fun r h' hr => by
    obtain ⟨rfl, g⟩ := hr
    exact hP h' (hs.grow s.hc g) (Onl.of g) (s.onl (Onl.of g))
def f111_I (h : H) (v c : V) (idb : K) (Z : List (Int × Int)) (a b : Nat) (i : Nat) (fr : Fr) (h1 : H) : Prop := a < i ∧ i ≤ b ∧ Onl v h h1 ∧ SoT idb v h1 ∧ (∃ W1, Sk 2 qE h1 v W1 ∧ Pm a b Z W1 ∧ Srd a i W1) ∧ fr.get (K.ofNat 0) = some (v) ∧ fr.get (K.ofNat 1) = some (.i .i64 (a : Int)) ∧ fr.get (K.ofNat 2) = some (.i .i64 (b : Int)) ∧ fr.get (K.ofNat 3) = some (c) ∧ fr.get (K.ofNat 8) = some (.i .i64 (i : Int))
def f111_J (h : H) (v c : V) (idb : K) (Z : List (Int × Int)) (a b i : Nat) (j : Nat) (fr : Fr) (h1 : H) : Prop := a ≤ j ∧ j ≤ i ∧ Onl v h h1 ∧ SoT idb v h1 ∧ (∃ W1, Sk 2 qE h1 v W1 ∧ Pm a b Z W1 ∧ (∀ s t, a ≤ s → s < t → t ≤ i → t ≠ j → bfB (gW W1 s) (gW W1 t) = true)) ∧ fr.get (K.ofNat 0) = some (v) ∧ fr.get (K.ofNat 1) = some (.i .i64 (a : Int)) ∧ fr.get (K.ofNat 2) = some (.i .i64 (b : Int)) ∧ fr.get (K.ofNat 3) = some (c) ∧ fr.get (K.ofNat 8) = some (.i .i64 (i : Int)) ∧ fr.get (K.ofNat 9) = some (.i .i64 (j : Int))
theorem f111_ret {a b : Nat} (k : CallsTs fs) (s : SoT idb v h) (hv : Sk 2 qE h v Z) (hn : Z.Nodup) (hab : a < b) (hb : b ≤ Z.length) (hW : Z.length ≤ 1000) : Ret fs f111 [v, .i .i64 (a : Int), .i .i64 (b : Int), cmV idb] h fun r h' => r = .tup [] ∧ ∃ W1, Sk 2 qE h' v W1 ∧ Pm a b Z W1 ∧ Srd a b W1 ∧ Onl v h h' ∧ SoT idb v h' := by
  apply ret_of rfl
  show W fs none f111_c _ _ _
  unfold f111_c
  have ea : (a : Int) + 1 = ((a + 1 : Nat) : Int) := by omega
  simp (disch := omega) only [f111_r0, Nat.reduceEqDiff, ↓reduceIte, ea, bz]
  refine W_loop (f111_I h v (cmV idb) idb Z a b) (fun i => b - i) ?_ (a + 1) ⟨by omega, hab, Onl.refl, s, ⟨Z, hv, Pm.refl, fun i j h1 h2 h3 => by omega⟩, by simp (disch := omega) only [getK_set, Nat.reduceEqDiff, ↓reduceIte, and_self]⟩
  rintro i fr h2 ⟨hi0, hi, hO, s2, ⟨W1, hs, pm, sr⟩, g0, g1, g2, g3, g8⟩
  unfold f111_l1
  by_cases hlt : i < b
  · have d0 : decide ((i : Int) < (b : Int)) = true := decide_eq_true (by omega)
    simp (disch := omega) only [f111_r1, f111_r2, Nat.reduceEqDiff, ↓reduceIte, g2, g8, d0, bz]
    refine W_loop (f111_J h v (cmV idb) idb Z a b i) (fun j => j) ?_ i ⟨by omega, Nat.le_refl _, hO, s2, ⟨W1, hs, pm, fun s t h1 h2 h3 h4 => sr s t h1 h2 (by omega)⟩, by simp (disch := omega) only [getK_set, Nat.reduceEqDiff, ↓reduceIte, g0, g1, g2, g3, g8, and_self]⟩
    clear hs hO s2 g0 g1 g2 g3 g8 fr pm sr W1 h2
    rintro j fr h3 ⟨hj0, hj, hO, s3, ⟨W1, hs, pm, ord⟩, g0, g1, g2, g3, g8, g9⟩
    have hl1 := pm.len
    unfold f111_l0
    by_cases hja : a < j
    · have d1 : decide ((j : Int) > (a : Int)) = true := decide_eq_true (by omega)
      have ej : (j : Int) - 1 = ((j - 1 : Nat) : Int) := by omega
      obtain ⟨p1, a1, a2⟩ := hs.atp (i := j) (by omega)
      obtain ⟨p0, b1, b2⟩ := hs.atp (i := j - 1) (by omega)
      simp (disch := omega) only [f111_r3, Nat.reduceEqDiff, ↓reduceIte, g0, g1, g3, g9, d1, ej, a1, a2, b1, b2, bz]
      refine cm_call k s3 hs ?_
      intro h4 hs4 o4 s4
      have hO4 := hO.trans o4
      cases d2 : bfB (gW W1 j) (gW W1 (j - 1)) with
      | false =>
        simp (disch := omega) only [f111_r6, Nat.reduceEqDiff, ↓reduceIte, Bool.false_eq_true, g8, cmP_lt, d2, bz]
        exact ⟨i + 1, by omega, by omega, by omega, hO4, s4, ⟨W1, hs4, pm, Srd.of (fun t t1 t2 => by
          by_cases et : t = j
          · rw [et]
            refine bfB_tot (fun e => ?_) d2
            have := gW_inj (pm.nodup hn) (by omega) (by omega) e
            omega
          · exact ord (t - 1) t (by omega) (by omega) (by omega) et)⟩, by simp (disch := omega) only [getK_set, Nat.reduceEqDiff, ↓reduceIte, g0, g1, g2, g3, and_self, Int.natCast_add, Int.natCast_one]⟩
      | true =>
        obtain ⟨pi, pj, h5, h6, x1, x2, x3, x4, x5, x6, x7, x8, x9⟩ := hs4.xch s4.hc (i := j) (j := j - 1) (by omega) (by omega)
        have hvb := hs4.beq
        simp (disch := omega) only [f111_r4, f111_r5, stay_bin, Nat.reduceEqDiff, ↓reduceIte, g0, g9, cmP_lt, d2, ej, x1, x2, x3, x4, x5, x6, hvb, bz]
        refine ⟨j - 1, by omega, by omega, by omega, hO4.trans x8, s4.onl x8, ⟨_, x7, pm.trans (Pm.ex (by omega) (by omega) (by omega) (by omega) (by omega)), fun s t t1 t2 t3 t4 => ?_⟩, by simp (disch := omega) only [getK_set, Nat.reduceEqDiff, ↓reduceIte, g0, g1, g2, g3, g8, and_self]⟩
        rw [gW_xch (by omega) (by omega), gW_xch (by omega) (by omega)]
        by_cases c1 : t = j
        · rw [if_neg t4, if_pos c1]
          by_cases c2 : s = j - 1
          · rw [if_pos c2]; exact d2
          · rw [if_neg c2, if_neg (by omega)]; exact ord s (j - 1) t1 (by omega) (by omega) (by omega)
        · rw [if_neg t4, if_neg c1]
          by_cases c2 : s = j - 1
          · rw [if_pos c2]; exact ord j t (by omega) (by omega) t3 c1
          · rw [if_neg c2]
            by_cases c3 : s = j
            · rw [if_pos c3]; exact ord (j - 1) t (by omega) (by omega) t3 c1
            · rw [if_neg c3]; exact ord s t t1 t2 t3 c1
    · have d1 : decide ((j : Int) > (a : Int)) = false := decide_eq_false (by omega)
      simp (disch := omega) only [f111_r3, f111_r6, Nat.reduceEqDiff, ↓reduceIte, Bool.false_eq_true, g1, g8, g9, d1, bz]
      exact ⟨i + 1, by omega, by omega, by omega, hO, s3, ⟨W1, hs, pm, fun s t t1 t2 t3 => ord s t t1 t2 (by omega) (by omega)⟩, by simp (disch := omega) only [getK_set, Nat.reduceEqDiff, ↓reduceIte, g0, g1, g2, g3, and_self, Int.natCast_add, Int.natCast_one]⟩
  · have d0 : decide ((i : Int) < (b : Int)) = false := decide_eq_false (by omega)
    have ei : i = b := by omega
    rw [ei] at sr
    simp (disch := omega) only [f111_r1, f111_rs, Option.some.injEq, exists_eq_left', Nat.reduceEqDiff, ↓reduceIte, Bool.false_eq_true, g2, g8, d0, bz]
    exact ⟨W1, hs, pm, sr, hO, s2⟩
end
end Go.Ev
namespace Go.Ev
open Go Go.RowKit
noncomputable def f115_r0 : List EOper := [oG 10 (.mv (tG 1)), oG 8 (.as (tG 10))]
noncomputable def f115_r1 : List EOper := [oG 11 (.mv (tG 2)), oG 12 (.bin .sub (tG 11) (cG 1)), oG 9 (.as (tG 12))]
noncomputable def f115_r2 : List EOper := [oG 13 (.mv (tG 8)), oG 14 (.mv (tG 9)), oG 15 (.bin .lss (tG 13) (tG 14))]
noncomputable def f115_r3 : List Stage := [⟨[oG 16 (.mv (tG 0)), oG 17 (.mv (tG 8)), oG 18 (.mv (tG 0)), oG 19 (.mv (tG 9)), oG 20 (.mv (tG 0)), oG 21 (.mv (tG 9)), oG 22 (.iads 2 (tG 20) (tG 21)), oG 23 (.ldn 2 (tG 22)), oG 24 (.mv (tG 0)), oG 25 (.mv (tG 8)), oG 26 (.iads 2 (tG 24) (tG 25)), oG 27 (.ldn 2 (tG 26)), oG 28 (.iads 2 (tG 16) (tG 17))], [], (some ⟨none, none, .st 2 (tG 28) (tG 23)⟩), []⟩, ⟨[oG 29 (.iads 2 (tG 18) (tG 19))], [oG 18 (.mv (tG 0)), oG 19 (.mv (tG 9))], (some ⟨none, none, .st 2 (tG 29) (tG 27)⟩), []⟩, ⟨[], [], none, []⟩]
noncomputable def f115_r4 : List EOper := [oG 30 (.mv (tG 8)), oG 31 (.bin .add (tG 30) (cG 1)), oG 8 (.as (tG 31))]
noncomputable def f115_r5 : List EOper := [oG 32 (.mv (tG 9)), oG 33 (.bin .sub (tG 32) (cG 1)), oG 9 (.as (tG 33))]
noncomputable def f115_l0 : EC := (.seq (.seq (.reg f115_r2) (.cond (tG 15) .skip (.exit 0))) (.block 1 (.seq (.draw f115_r3) (.seq (.reg f115_r4) (.reg f115_r5)))))
noncomputable def f115_c : EC := (.seq (.reg f115_r0) (.seq (.reg f115_r1) (.block 0 (.loop f115_l0))))
noncomputable def f115 : EF := ⟨34, [], f115_c, none⟩
theorem f115_rs : f115.rs = [] := of_eq_true (eq_self _)
noncomputable def f116_r0 : List EOper := [oG 8 (.as (.c (.b false)))]
noncomputable def f116_r1 : List EOper := [oG 13 (.mv (tG 1)), oG 14 (.bin .add (tG 13) (cG 1)), oG 9 (.as (tG 14))]
noncomputable def f116_r2 : List EOper := [oG 10 (.as (cG 0))]
noncomputable def f116_r3 : List EOper := [oG 15 (.mv (tG 10)), oG 16 (.bin .lss (tG 15) (cG 5))]
noncomputable def f116_r4 : List Stage := [⟨[oG 19 (.mv (tG 9)), oG 20 (.mv (tG 2)), oG 21 (.bin .lss (tG 19) (tG 20)), oG 22 (.mv (tG 21)), gG 23 22 true (.mv (tG 3)), gG 24 22 true (.mv (tG 0)), gG 25 22 true (.mv (tG 9)), gG 26 22 true (.iads 2 (tG 24) (tG 25)), gG 27 22 true (.ldn 2 (tG 26)), gG 28 22 true (.mv (tG 0)), gG 29 22 true (.mv (tG 9)), gG 30 22 true (.bin .sub (tG 29) (cG 1)), gG 31 22 true (.iads 2 (tG 28) (tG 30)), gG 32 22 true (.ldn 2 (tG 31))], [], (some (gG 33 22 true (.call (tG 23) [(tG 27), (tG 32)]))), []⟩, ⟨[gG 34 22 true (.bin .lss (tG 33) (cG 0)), gG 35 22 true (.not (tG 34)), oG 36 (.pick (tG 22) (tG 35) (.c (.b false)))], [], none, []⟩]
noncomputable def f116_r5 : List EOper := [oG 37 (.mv (tG 9)), oG 38 (.bin .add (tG 37) (cG 1)), oG 9 (.as (tG 38))]
noncomputable def f116_l0 : EC := (.seq (.seq (.draw f116_r4) (.cond (tG 36) .skip (.exit 2))) (.block 3 (.reg f116_r5)))
noncomputable def f116_r6 : List EOper := [oG 39 (.mv (tG 9)), oG 40 (.mv (tG 2)), oG 41 (.bin .eql (tG 39) (tG 40))]
noncomputable def f116_r7 : List EOper := [oG 8 (.as (.c (.b true)))]
noncomputable def f116_r8 : List EOper := [oG 42 (.mv (tG 2)), oG 43 (.mv (tG 1)), oG 44 (.bin .sub (tG 42) (tG 43)), oG 45 (.bin .lss (tG 44) (cG 50))]
noncomputable def f116_r9 : List EOper := [oG 8 (.as (.c (.b false)))]
noncomputable def f116_r10 : List Stage := [⟨[oG 46 (.mv (tG 0)), oG 47 (.mv (tG 9)), oG 48 (.mv (tG 0)), oG 49 (.mv (tG 9)), oG 50 (.bin .sub (tG 49) (cG 1)), oG 51 (.mv (tG 0)), oG 52 (.mv (tG 9)), oG 53 (.bin .sub (tG 52) (cG 1)), oG 54 (.iads 2 (tG 51) (tG 53)), oG 55 (.ldn 2 (tG 54)), oG 56 (.mv (tG 0)), oG 57 (.mv (tG 9)), oG 58 (.iads 2 (tG 56) (tG 57)), oG 59 (.ldn 2 (tG 58)), oG 60 (.iads 2 (tG 46) (tG 47))], [], (some ⟨none, none, .st 2 (tG 60) (tG 55)⟩), []⟩, ⟨[oG 61 (.iads 2 (tG 48) (tG 50))], [oG 48 (.mv (tG 0)), oG 49 (.mv (tG 9)), oG 50 (.bin .sub (tG 49) (cG 1))], (some ⟨none, none, .st 2 (tG 61) (tG 59)⟩), []⟩, ⟨[], [], none, []⟩]
noncomputable def f116_r11 : List EOper := [oG 62 (.mv (tG 9)), oG 63 (.mv (tG 1)), oG 64 (.bin .sub (tG 62) (tG 63)), oG 65 (.bin .geq (tG 64) (cG 2))]
noncomputable def f116_r12 : List EOper := [oG 66 (.mv (tG 9)), oG 67 (.bin .sub (tG 66) (cG 1)), oG 11 (.as (tG 67))]
noncomputable def f116_r13 : List EOper := [oG 68 (.mv (tG 11)), oG 69 (.bin .geq (tG 68) (cG 1))]
noncomputable def f116_r14 : List Stage := [⟨[oG 72 (.mv (tG 3)), oG 73 (.mv (tG 0)), oG 74 (.mv (tG 11)), oG 75 (.iads 2 (tG 73) (tG 74)), oG 76 (.ldn 2 (tG 75)), oG 77 (.mv (tG 0)), oG 78 (.mv (tG 11)), oG 79 (.bin .sub (tG 78) (cG 1)), oG 80 (.iads 2 (tG 77) (tG 79)), oG 81 (.ldn 2 (tG 80))], [], (some (oG 82 (.call (tG 72) [(tG 76), (tG 81)]))), []⟩, ⟨[oG 83 (.bin .lss (tG 82) (cG 0)), oG 84 (.not (tG 83))], [], none, []⟩]
noncomputable def f116_r15 : List Stage := [⟨[oG 85 (.mv (tG 0)), oG 86 (.mv (tG 11)), oG 87 (.mv (tG 0)), oG 88 (.mv (tG 11)), oG 89 (.bin .sub (tG 88) (cG 1)), oG 90 (.mv (tG 0)), oG 91 (.mv (tG 11)), oG 92 (.bin .sub (tG 91) (cG 1)), oG 93 (.iads 2 (tG 90) (tG 92)), oG 94 (.ldn 2 (tG 93)), oG 95 (.mv (tG 0)), oG 96 (.mv (tG 11)), oG 97 (.iads 2 (tG 95) (tG 96)), oG 98 (.ldn 2 (tG 97)), oG 99 (.iads 2 (tG 85) (tG 86))], [], (some ⟨none, none, .st 2 (tG 99) (tG 94)⟩), []⟩, ⟨[oG 100 (.iads 2 (tG 87) (tG 89))], [oG 87 (.mv (tG 0)), oG 88 (.mv (tG 11)), oG 89 (.bin .sub (tG 88) (cG 1))], (some ⟨none, none, .st 2 (tG 100) (tG 98)⟩), []⟩, ⟨[], [], none, []⟩]
noncomputable def f116_r16 : List EOper := [oG 70 (.mv (tG 11)), oG 71 (.bin .sub (tG 70) (cG 1)), oG 11 (.as (tG 71))]
noncomputable def f116_l1 : EC := (.seq (.seq (.reg f116_r13) (.cond (tG 69) .skip (.exit 4))) (.seq (.block 5 (.seq (.seq (.draw f116_r14) (.cond (tG 84) (.exit 4) .skip)) (.draw f116_r15))) (.reg f116_r16)))
noncomputable def f116_r17 : List EOper := [oG 101 (.mv (tG 2)), oG 102 (.mv (tG 9)), oG 103 (.bin .sub (tG 101) (tG 102)), oG 104 (.bin .geq (tG 103) (cG 2))]
noncomputable def f116_r18 : List EOper := [oG 105 (.mv (tG 9)), oG 106 (.bin .add (tG 105) (cG 1)), oG 12 (.as (tG 106))]
noncomputable def f116_r19 : List EOper := [oG 107 (.mv (tG 12)), oG 108 (.mv (tG 2)), oG 109 (.bin .lss (tG 107) (tG 108))]
noncomputable def f116_r20 : List Stage := [⟨[oG 112 (.mv (tG 3)), oG 113 (.mv (tG 0)), oG 114 (.mv (tG 12)), oG 115 (.iads 2 (tG 113) (tG 114)), oG 116 (.ldn 2 (tG 115)), oG 117 (.mv (tG 0)), oG 118 (.mv (tG 12)), oG 119 (.bin .sub (tG 118) (cG 1)), oG 120 (.iads 2 (tG 117) (tG 119)), oG 121 (.ldn 2 (tG 120))], [], (some (oG 122 (.call (tG 112) [(tG 116), (tG 121)]))), []⟩, ⟨[oG 123 (.bin .lss (tG 122) (cG 0)), oG 124 (.not (tG 123))], [], none, []⟩]
noncomputable def f116_r21 : List Stage := [⟨[oG 125 (.mv (tG 0)), oG 126 (.mv (tG 12)), oG 127 (.mv (tG 0)), oG 128 (.mv (tG 12)), oG 129 (.bin .sub (tG 128) (cG 1)), oG 130 (.mv (tG 0)), oG 131 (.mv (tG 12)), oG 132 (.bin .sub (tG 131) (cG 1)), oG 133 (.iads 2 (tG 130) (tG 132)), oG 134 (.ldn 2 (tG 133)), oG 135 (.mv (tG 0)), oG 136 (.mv (tG 12)), oG 137 (.iads 2 (tG 135) (tG 136)), oG 138 (.ldn 2 (tG 137)), oG 139 (.iads 2 (tG 125) (tG 126))], [], (some ⟨none, none, .st 2 (tG 139) (tG 134)⟩), []⟩, ⟨[oG 140 (.iads 2 (tG 127) (tG 129))], [oG 127 (.mv (tG 0)), oG 128 (.mv (tG 12)), oG 129 (.bin .sub (tG 128) (cG 1))], (some ⟨none, none, .st 2 (tG 140) (tG 138)⟩), []⟩, ⟨[], [], none, []⟩]
noncomputable def f116_r22 : List EOper := [oG 110 (.mv (tG 12)), oG 111 (.bin .add (tG 110) (cG 1)), oG 12 (.as (tG 111))]
noncomputable def f116_l2 : EC := (.seq (.seq (.reg f116_r19) (.cond (tG 109) .skip (.exit 6))) (.seq (.block 7 (.seq (.seq (.draw f116_r20) (.cond (tG 124) (.exit 6) .skip)) (.draw f116_r21))) (.reg f116_r22)))
noncomputable def f116_r23 : List EOper := [oG 17 (.mv (tG 10)), oG 18 (.bin .add (tG 17) (cG 1)), oG 10 (.as (tG 18))]
noncomputable def f116_l3 : EC := (.seq (.seq (.reg f116_r3) (.cond (tG 16) .skip (.exit 0))) (.seq (.block 1 (.seq (.block 2 (.loop f116_l0)) (.seq (.seq (.reg f116_r6) (.cond (tG 41) (.seq (.reg f116_r7) .ret) .skip)) (.seq (.seq (.reg f116_r8) (.cond (tG 45) (.seq (.reg f116_r9) .ret) .skip)) (.seq (.draw f116_r10) (.seq (.seq (.reg f116_r11) (.cond (tG 65) (.seq (.reg f116_r12) (.block 4 (.loop f116_l1))) .skip)) (.seq (.reg f116_r17) (.cond (tG 104) (.seq (.reg f116_r18) (.block 6 (.loop f116_l2))) .skip)))))))) (.reg f116_r23)))
noncomputable def f116_r24 : List EOper := [oG 8 (.as (.c (.b false)))]
noncomputable def f116_c : EC := (.seq (.reg f116_r0) (.seq (.reg f116_r1) (.seq (.seq (.reg f116_r2) (.block 0 (.loop f116_l3))) (.seq (.reg f116_r24) .ret))))
noncomputable def f116 : EF := ⟨141, [.tmp (.ofNat 8)], f116_c, none⟩
theorem f116_rs : f116.rs = [.tmp (.ofNat 8)] := of_eq_true (eq_self _)
noncomputable def f136_r0 : List EOper := [oG 10 (.as (cG 0)), oG 11 (.as (cG 0))]
noncomputable def f136_r1 : List Stage := [⟨[oG 12 (.mv (tG 4)), oG 13 (.mv (tG 0)), oG 14 (.mv (tG 2)), oG 15 (.iads 2 (tG 13) (tG 14)), oG 16 (.ldn 2 (tG 15)), oG 17 (.mv (tG 0)), oG 18 (.mv (tG 1)), oG 19 (.iads 2 (tG 17) (tG 18)), oG 20 (.ldn 2 (tG 19))], [], (some (oG 21 (.call (tG 12) [(tG 16), (tG 20)]))), []⟩, ⟨[oG 22 (.bin .lss (tG 21) (cG 0))], [], none, []⟩]
noncomputable def f136_r2 : List EOper := [oG 23 (.mv (tG 3)), oG 24 (.nilck (tG 23)), oG 25 (.ld (tG 24)), oG 26 (.bin .add (tG 25) (cG 1)), oG 27 (.nilck (tG 23)), ⟨none, none, .st 1 (tG 27) (tG 26)⟩]
noncomputable def f136_r3 : List EOper := [oG 28 (.mv (tG 2)), oG 29 (.mv (tG 1)), oG 10 (.as (tG 28)), oG 11 (.as (tG 29))]
noncomputable def f136_r4 : List EOper := [oG 30 (.mv (tG 1)), oG 31 (.mv (tG 2)), oG 10 (.as (tG 30)), oG 11 (.as (tG 31))]
noncomputable def f136_c : EC := (.seq (.reg f136_r0) (.seq (.seq (.draw f136_r1) (.cond (tG 22) (.seq (.reg f136_r2) (.seq (.reg f136_r3) .ret)) .skip)) (.seq (.reg f136_r4) .ret)))
noncomputable def f136 : EF := ⟨32, [.tmp (.ofNat 10), .tmp (.ofNat 11)], f136_c, none⟩
theorem f136_rs : f136.rs = [.tmp (.ofNat 10), .tmp (.ofNat 11)] := of_eq_true (eq_self _)
noncomputable def f127_r0 : List EOper := [oG 12 (.as (cG 0))]
noncomputable def f127_r1 : List EOper := [oG 14 (.mv (tG 0)), oG 15 (.mv (tG 1)), oG 16 (.mv (tG 2)), oG 17 (.mv (tG 4)), oG 18 (.mv (tG 5)), oG 19 (.call (fG 136) [(tG 14), (tG 15), (tG 16), (tG 17), (tG 18)]), oG 13 (.mv (tG 19)), oG 20 (.ext (tG 13) 0), oG 21 (.ext (tG 13) 1), oG 1 (.as (tG 20)), oG 2 (.as (tG 21))]
noncomputable def f127_r2 : List EOper := [oG 23 (.mv (tG 0)), oG 24 (.mv (tG 2)), oG 25 (.mv (tG 3)), oG 26 (.mv (tG 4)), oG 27 (.mv (tG 5)), oG 28 (.call (fG 136) [(tG 23), (tG 24), (tG 25), (tG 26), (tG 27)]), oG 22 (.mv (tG 28)), oG 29 (.ext (tG 22) 0), oG 30 (.ext (tG 22) 1), oG 2 (.as (tG 29)), oG 3 (.as (tG 30))]
noncomputable def f127_r3 : List EOper := [oG 32 (.mv (tG 0)), oG 33 (.mv (tG 1)), oG 34 (.mv (tG 2)), oG 35 (.mv (tG 4)), oG 36 (.mv (tG 5)), oG 37 (.call (fG 136) [(tG 32), (tG 33), (tG 34), (tG 35), (tG 36)]), oG 31 (.mv (tG 37)), oG 38 (.ext (tG 31) 0), oG 39 (.ext (tG 31) 1), oG 1 (.as (tG 38)), oG 2 (.as (tG 39))]
noncomputable def f127_r4 : List EOper := [oG 40 (.mv (tG 2)), oG 12 (.as (tG 40))]
noncomputable def f127_c : EC := (.seq (.reg f127_r0) (.seq (.reg f127_r1) (.seq (.reg f127_r2) (.seq (.reg f127_r3) (.seq (.reg f127_r4) .ret)))))
noncomputable def f127 : EF := ⟨41, [.tmp (.ofNat 12)], f127_c, none⟩
theorem f127_rs : f127.rs = [.tmp (.ofNat 12)] := of_eq_true (eq_self _)
noncomputable def f114_r0 : List EOper := [oG 8 (.as (cG 0)), oG 9 (.as (cG 0))]
noncomputable def f114_r1 : List EOper := [oG 15 (.mv (tG 2)), oG 16 (.mv (tG 1)), oG 17 (.bin .sub (tG 15) (tG 16)), oG 10 (.as (tG 17))]
noncomputable def f114_r2 : List EOper := [oG 11 (.alloc 1 [(.i .i64 (.ofNat 0))])]
noncomputable def f114_r3 : List EOper := [oG 18 (.mv (tG 1)), oG 19 (.mv (tG 10)), oG 20 (.bin .quo (tG 19) (cG 4)), oG 21 (.bin .mul (tG 20) (cG 1)), oG 22 (.bin .add (tG 18) (tG 21)), oG 12 (.as (tG 22))]
noncomputable def f114_r4 : List EOper := [oG 23 (.mv (tG 1)), oG 24 (.mv (tG 10)), oG 25 (.bin .quo (tG 24) (cG 4)), oG 26 (.bin .mul (tG 25) (cG 2)), oG 27 (.bin .add (tG 23) (tG 26)), oG 13 (.as (tG 27))]
noncomputable def f114_r5 : List EOper := [oG 28 (.mv (tG 1)), oG 29 (.mv (tG 10)), oG 30 (.bin .quo (tG 29) (cG 4)), oG 31 (.bin .mul (tG 30) (cG 3)), oG 32 (.bin .add (tG 28) (tG 31)), oG 14 (.as (tG 32))]
noncomputable def f114_r6 : List EOper := [oG 33 (.mv (tG 10)), oG 34 (.bin .geq (tG 33) (cG 8))]
noncomputable def f114_r7 : List EOper := [oG 35 (.mv (tG 10)), oG 36 (.bin .geq (tG 35) (cG 50))]
noncomputable def f114_r8 : List EOper := [oG 37 (.mv (tG 0)), oG 38 (.mv (tG 12)), oG 39 (.mv (tG 3)), oG 40 (.call (fG 126) [(tG 37), (tG 38), (tG 11), (tG 39)]), oG 12 (.as (tG 40))]
noncomputable def f114_r9 : List EOper := [oG 41 (.mv (tG 0)), oG 42 (.mv (tG 13)), oG 43 (.mv (tG 3)), oG 44 (.call (fG 126) [(tG 41), (tG 42), (tG 11), (tG 43)]), oG 13 (.as (tG 44))]
noncomputable def f114_r10 : List EOper := [oG 45 (.mv (tG 0)), oG 46 (.mv (tG 14)), oG 47 (.mv (tG 3)), oG 48 (.call (fG 126) [(tG 45), (tG 46), (tG 11), (tG 47)]), oG 14 (.as (tG 48))]
noncomputable def f114_r11 : List EOper := [oG 49 (.mv (tG 0)), oG 50 (.mv (tG 12)), oG 51 (.mv (tG 13)), oG 52 (.mv (tG 14)), oG 53 (.mv (tG 3)), oG 54 (.call (fG 127) [(tG 49), (tG 50), (tG 51), (tG 52), (tG 11), (tG 53)]), oG 13 (.as (tG 54))]
noncomputable def f114_r12 : List EOper := [oG 55 (.ld (tG 11))]
noncomputable def f114_r13 : List EOper := [oG 58 (.bin .eql (tG 55) (cG 0)), oG 57 (.as (tG 58))]
noncomputable def f114_r14 : List EOper := [oG 59 (.mv (tG 13)), oG 8 (.as (tG 59)), oG 9 (.as (cG 1))]
noncomputable def f114_r15 : List EOper := [oG 61 (.bin .eql (tG 55) (cG 12)), oG 60 (.as (tG 61))]
noncomputable def f114_r16 : List EOper := [oG 62 (.mv (tG 13)), oG 8 (.as (tG 62)), oG 9 (.as (cG 2))]
noncomputable def f114_r17 : List EOper := [oG 56 (.mv (tG 13)), oG 8 (.as (tG 56)), oG 9 (.as (cG 0))]
noncomputable def f114_c : EC := (.seq (.reg f114_r0) (.seq (.reg f114_r1) (.seq (.reg f114_r2) (.seq (.reg f114_r3) (.seq (.reg f114_r4) (.seq (.reg f114_r5) (.seq (.seq (.reg f114_r6) (.cond (tG 34) (.seq (.seq (.reg f114_r7) (.cond (tG 36) (.seq (.reg f114_r8) (.seq (.reg f114_r9) (.reg f114_r10))) .skip)) (.reg f114_r11)) .skip)) (.seq (.reg f114_r12) (.block 0 (.seq (.reg f114_r13) (.cond (tG 57) (.seq (.reg f114_r14) .ret) (.seq (.reg f114_r15) (.cond (tG 60) (.seq (.reg f114_r16) .ret) (.seq (.reg f114_r17) .ret))))))))))))))
noncomputable def f114 : EF := ⟨63, [.tmp (.ofNat 8), .tmp (.ofNat 9)], f114_c, none⟩
theorem f114_rs : f114.rs = [.tmp (.ofNat 8), .tmp (.ofNat 9)] := of_eq_true (eq_self _)
structure CallsTv (fs : T EF) : Prop extends CallsTs fs where
  c136 : fs.get (K.ofNat 136) = some f136
  c127 : fs.get (K.ofNat 127) = some f127
section
variable {fs : T EF} {h : H} {v : V} {Z : List (Int × Int)} {idb : K}
def f115_I (h : H) (v c : V) (idb : K) (Z : List (Int × Int)) (a b : Nat) (i : Nat) (fr : Fr) (h1 : H) : Prop := ∃ j : Nat, i + j + 1 = a + b ∧ a ≤ i ∧ i ≤ j + 2 ∧ i ≤ b ∧ Onl v h h1 ∧ SoT idb v h1 ∧ (∃ W1, Sk 2 qE h1 v W1 ∧ Pm a b Z W1 ∧ (∀ t, a ≤ t → t < b → gW W1 t = if i ≤ t ∧ t ≤ j then gW Z t else gW Z (a + b - 1 - t))) ∧ fr.get (K.ofNat 0) = some (v) ∧ fr.get (K.ofNat 1) = some (.i .i64 (a : Int)) ∧ fr.get (K.ofNat 2) = some (.i .i64 (b : Int)) ∧ fr.get (K.ofNat 3) = some (c) ∧ fr.get (K.ofNat 8) = some (.i .i64 (i : Int)) ∧ fr.get (K.ofNat 9) = some (.i .i64 (j : Int))
theorem f115_ret {a b : Nat} (s : SoT idb v h) (hv : Sk 2 qE h v Z) (hab : a < b) (hb : b ≤ Z.length) (hW : Z.length ≤ 1000) : Ret fs f115 [v, .i .i64 (a : Int), .i .i64 (b : Int), cmV idb] h fun r h' => r = .tup [] ∧ ∃ W1, Sk 2 qE h' v W1 ∧ Pm a b Z W1 ∧ (∀ t, a ≤ t → t < b → gW W1 t = gW Z (a + b - 1 - t)) ∧ Onl v h h' ∧ SoT idb v h' := by
  apply ret_of rfl
  show W fs none f115_c _ _ _
  unfold f115_c
  have eb : (b : Int) - 1 = ((b - 1 : Nat) : Int) := by omega
  simp (disch := omega) only [f115_r0, f115_r1, Nat.reduceEqDiff, ↓reduceIte, eb, bz]
  refine W_loop (f115_I h v (cmV idb) idb Z a b) (fun i => b - i) ?_ a ⟨b - 1, by omega, by omega, by omega, by omega, Onl.refl, s, ⟨Z, hv, Pm.refl, fun t h1 h2 => by rw [if_pos (by omega)]⟩, by simp (disch := omega) only [getK_set, Nat.reduceEqDiff, ↓reduceIte, and_self]⟩
  rintro i fr h2 ⟨j, hij, hai, hi2, hib, hO, s2, ⟨W1, hs, pm, hg⟩, g0, g1, g2, g3, g8, g9⟩
  have hl := pm.len
  unfold f115_l0
  by_cases hlt : i < j
  · have d0 : decide ((i : Int) < (j : Int)) = true := decide_eq_true (by omega)
    have ej : (j : Int) - 1 = ((j - 1 : Nat) : Int) := by omega
    obtain ⟨pi, pj, h5, h6, x1, x2, x3, x4, x5, x6, x7, x8, x9⟩ := hs.xch s2.hc (i := i) (j := j) (by omega) (by omega)
    have hvb := hs.beq
    simp (disch := omega) only [f115_r2, f115_r3, f115_r4, f115_r5, Nat.reduceEqDiff, ↓reduceIte, g0, g8, g9, d0, ej, x1, x2, x3, x4, x5, x6, hvb, bz]
    refine ⟨i + 1, by omega, j - 1, by omega, by omega, by omega, by omega, hO.trans x8, s2.onl x8, ⟨_, x7, pm.trans (Pm.ex (by omega) (by omega) (by omega) (by omega) (by omega)), fun t h1 h2 => ?_⟩, by simp (disch := omega) only [getK_set, Nat.reduceEqDiff, ↓reduceIte, g0, g1, g2, g3, and_self, Int.natCast_add, Int.natCast_one]⟩
    rw [gW_xch (by omega) (by omega)]
    by_cases c1 : t = j
    · rw [if_pos c1, if_neg (by omega), hg i (by omega) (by omega), if_pos (by omega)]
      congr 1; omega
    · rw [if_neg c1]
      by_cases c2 : t = i
      · rw [if_pos c2, if_neg (by omega), hg j (by omega) (by omega), if_pos (by omega)]
        congr 1; omega
      · rw [if_neg c2, hg t h1 h2]
        by_cases c3 : i ≤ t ∧ t ≤ j
        · rw [if_pos c3, if_pos (by omega)]
        · rw [if_neg c3, if_neg (by omega)]
  · have d0 : decide ((i : Int) < (j : Int)) = false := decide_eq_false (by omega)
    simp (disch := omega) only [f115_r2, f115_rs, Option.some.injEq, exists_eq_left', Nat.reduceEqDiff, ↓reduceIte, Bool.false_eq_true, g8, g9, d0, bz]
    refine ⟨W1, hs, pm, fun t h1 h2 => ?_, hO, s2⟩
    rw [hg t h1 h2]
    by_cases c3 : i ≤ t ∧ t ≤ j
    · rw [if_pos c3]; congr 1; omega
    · rw [if_neg c3]
def f116_J (h : H) (v c : V) (idb : K) (Z : List (Int × Int)) (a b : Nat) (i : Nat) (fr : Fr) (h1 : H) : Prop := a < i ∧ i ≤ b ∧ Onl v h h1 ∧ SoT idb v h1 ∧ Sk 2 qE h1 v Z ∧ Srd a i Z ∧ fr.get (K.ofNat 0) = some (v) ∧ fr.get (K.ofNat 1) = some (.i .i64 (a : Int)) ∧ fr.get (K.ofNat 2) = some (.i .i64 (b : Int)) ∧ fr.get (K.ofNat 3) = some (c) ∧ fr.get (K.ofNat 9) = some (.i .i64 (i : Int)) ∧ fr.get (K.ofNat 10) = some (.i .i64 0)
theorem f116_ret {a b : Nat} (k : CallsTs fs) (s : SoT idb v h) (hv : Sk 2 qE h v Z) (hn : Z.Nodup) (hab : a < b) (hb : b ≤ Z.length) (hW : Z.length ≤ 40) : Ret fs f116 [v, .i .i64 (a : Int), .i .i64 (b : Int), cmV idb] h fun r h' => (∃ q : Bool, r = .b q ∧ (q = true → Srd a b Z)) ∧ Sk 2 qE h' v Z ∧ Onl v h h' ∧ SoT idb v h' := by
  apply ret_of rfl
  show W fs none f116_c _ _ _
  unfold f116_c
  have ea : (a : Int) + 1 = ((a + 1 : Nat) : Int) := by omega
  have d5 : decide ((0 : Int) < 5) = true := rfl
  simp (disch := omega) only [f116_r0, f116_r1, f116_r2, Nat.reduceEqDiff, ↓reduceIte, ea, bz]
  refine W_loop (fun (_ : Unit) fr h1 => h1 = h ∧ fr.get (K.ofNat 0) = some (v) ∧ fr.get (K.ofNat 1) = some (.i .i64 (a : Int)) ∧ fr.get (K.ofNat 2) = some (.i .i64 (b : Int)) ∧ fr.get (K.ofNat 3) = some (cmV idb) ∧ fr.get (K.ofNat 9) = some (.i .i64 ((a + 1 : Nat) : Int)) ∧ fr.get (K.ofNat 10) = some (.i .i64 0)) (fun _ => 0) ?_ () ⟨rfl, by simp (disch := omega) only [getK_set, Nat.reduceEqDiff, ↓reduceIte, and_self]⟩
  rintro _ fr h2 ⟨rfl, g0, g1, g2, g3, g9, g10⟩
  unfold f116_l3
  simp (disch := omega) only [f116_r3, ↓reduceIte, of5, g10, d5, bz]
  refine W_loop (f116_J h2 v (cmV idb) idb Z a b) (fun i => b - i) ?_ (a + 1) ⟨by omega, hab, Onl.refl, s, hv, fun i j h1 h2 h3 => by omega, by simp (disch := omega) only [getK_set, Nat.reduceEqDiff, ↓reduceIte, g0, g1, g2, g3, g9, g10, and_self]⟩
  clear g0 g1 g2 g3 g9 g10 fr
  rintro i fr h3 ⟨hai, hib, hO, s3, hs, sr, g0, g1, g2, g3, g9, g10⟩
  unfold f116_l0
  by_cases hlt : i < b
  · have d0 : decide ((i : Int) < (b : Int)) = true := decide_eq_true (by omega)
    have d1 : decide ((i : Int) = (b : Int)) = false := decide_eq_false (by omega)
    have d50 : decide ((b : Int) - (a : Int) < Int.ofNat 50) = true := decide_eq_true (by show _ < (50 : Int); omega)
    have ei : (i : Int) - 1 = ((i - 1 : Nat) : Int) := by omega
    obtain ⟨p1, a1, a2⟩ := hs.atp (i := i) (by omega)
    obtain ⟨p0, b1, b2⟩ := hs.atp (i := i - 1) (by omega)
    simp (disch := omega) only [f116_r4, Nat.reduceEqDiff, ↓reduceIte, g0, g2, g3, g9, d0, ei, a1, a2, b1, b2, bz]
    refine cm_call k s3 hs ?_
    intro h4 hs4 o4 s4
    cases d2 : bfB (gW Z i) (gW Z (i - 1)) with
    | false =>
      simp (disch := omega) only [f116_r5, Nat.reduceEqDiff, ↓reduceIte, Bool.not_false, g9, cmP_lt, d2, bz]
      refine ⟨i + 1, by omega, by omega, by omega, hO.trans o4, s4, hs4, Srd.of (fun t t1 t2 => ?_), by simp (disch := omega) only [getK_set, Nat.reduceEqDiff, ↓reduceIte, g0, g1, g2, g3, g10, and_self, Int.natCast_add, Int.natCast_one]⟩
      by_cases et : t = i
      · rw [et]
        refine bfB_tot (fun e => ?_) d2
        have := gW_inj hn (by omega) (by omega) e
        omega
      · exact sr (t - 1) t (by omega) (by omega) (by omega)
    | true =>
      simp (disch := omega) only [f116_r6, f116_r8, f116_r9, f116_rs, Option.some.injEq, exists_eq_left', Nat.reduceEqDiff, ↓reduceIte, Bool.false_eq_true, Bool.not_true, g1, g2, g9, d1, d50, cmP_lt, d2, bz]
      exact ⟨⟨false, rfl, fun e => by cases e⟩, hs4, hO.trans o4, s4⟩
  · have d0 : decide ((i : Int) < (b : Int)) = false := decide_eq_false (by omega)
    have d1 : decide ((i : Int) = (b : Int)) = true := decide_eq_true (by omega)
    have ei : i = b := by omega
    simp (disch := omega) only [f116_r4, f116_r6, f116_r7, f116_rs, Option.some.injEq, exists_eq_left', Nat.reduceEqDiff, ↓reduceIte, Bool.false_eq_true, g2, g9, d0, d1, bz]
    exact ⟨⟨true, rfl, fun _ => by rw [← ei]; exact sr⟩, hs, hO, s3⟩
structure Swc (idb ids : K) (v : V) (n : Nat) (h : H) : Prop where
  c : h.get ids = .cells 1 [.i .i64 (n : Int)]
  v : ∀ id off m sz, v = .sl id off m sz → id.nat < ids.nat
  b : idb.nat < ids.nat
theorem f136_ret {a b n : Nat} {ids : K} (k : CallsTs fs) (s : SoT idb v h) (sw : Swc idb ids v n h) (hv : Sk 2 qE h v Z) (ha : a < Z.length) (hb : b < Z.length) (hn : n < 10) : Ret fs f136 [v, .i .i64 (a : Int), .i .i64 (b : Int), .p ids 0, cmV idb] h fun r h' => (∃ c d : Nat, r = .tup [.i .i64 (c : Int), .i .i64 (d : Int)] ∧ ((c = a ∧ d = b ∧ bfB (gW Z b) (gW Z a) = false) ∨ (c = b ∧ d = a ∧ bfB (gW Z b) (gW Z a) = true))) ∧ Grow ids.nat h h' ∧ Sk 2 qE h' v Z ∧ SoT idb v h' ∧ ∃ m, m ≤ n + 1 ∧ Swc idb ids v m h' := by
  apply ret_of rfl
  show W fs none f136_c _ _ _
  unfold f136_c
  obtain ⟨p1, a1, a2⟩ := hv.atp ha
  obtain ⟨p0, b1, b2⟩ := hv.atp hb
  have hids := s.hc.cells sw.c
  simp (disch := omega) only [f136_r0, f136_r1, Nat.reduceEqDiff, ↓reduceIte, frame_5, a1, a2, b1, b2, bz]
  refine (callP_of (ef := f98) (args := [pV (gW Z b), pV (gW Z a)]) (caps := [.p idb 0]) k.c98 rfl (f98_ret k s.e s.hc)).mono ?_
  rintro r h4 ⟨rfl, g4⟩
  have hs4 := hv.grow s.hc g4
  have s4 := s.onl (Onl.of g4)
  have c4 := (g4.old ids hids).trans sw.c
  cases d2 : bfB (gW Z b) (gW Z a) with
  | false =>
    simp (disch := omega) only [f136_r4, f136_rs, Option.some.injEq, exists_eq_left', Nat.reduceEqDiff, ↓reduceIte, Bool.false_eq_true, cmP_lt, d2, bz]
    exact ⟨⟨a, b, rfl, .inl (by simp)⟩, g4.low (by omega), hs4, s4, n, by omega, c4, sw.v, sw.b⟩
  | true =>
    have l1 := load_p (off := 0) c4 (show nth [V.i .i64 (n : Int)] 0 = some _ from rfl)
    have s1 : storeV h4 1 (.p ids 0) (.i .i64 ((n + 1 : Nat) : Int)) = .ok undefV (h4.put ids (.cells 1 (setMany [V.i .i64 (n : Int)] 0 [.i .i64 ((n + 1 : Nat) : Int)]))) := store_p c4 rfl (by omega)
    have en : (n : Int) + 1 = ((n + 1 : Nat) : Int) := by omega
    have hlt4 : ids.nat < h4.nx.nat := by have := g4.nx; omega
    simp (disch := omega) only [f136_r2, f136_r3, f136_rs, x_nilck, set_1, Option.some.injEq, exists_eq_left', Nat.reduceEqDiff, ↓reduceIte, nn_p, cmP_lt, d2, l1, en, s1, bz]
    have gp : Grow ids.nat h4 (h4.put ids (.cells 1 (setMany [V.i .i64 (n : Int)] 0 [.i .i64 ((n + 1 : Nat) : Int)]))) := Grow.put (Nat.le_refl _) hlt4 _
    have op : ∀ id : K, id.nat < ids.nat → (h4.put ids (.cells 1 (setMany [V.i .i64 (n : Int)] 0 [.i .i64 ((n + 1 : Nat) : Int)]))).get id = h4.get id := fun id hi => gp.old id hi
    exact ⟨⟨b, a, rfl, .inr (by simp)⟩, (g4.low (by omega)).trans gp, hs4.same (fun id off m sz e => op id (sw.v _ _ _ _ e)), ⟨(op idb sw.b).trans s4.e, s4.ni, gp.hc s4.hc⟩, n + 1, by omega, get_put_same, sw.v, sw.b⟩
theorem f127_ret {a b c : Nat} {ids : K} (k : CallsTv fs) (s : SoT idb v h) (sw : Swc idb ids v 0 h) (hv : Sk 2 qE h v Z) (hn : Z.Nodup) (ha : a < Z.length) (hb : b < Z.length) (hc : c < Z.length) (h1 : a < b) (h2 : b < c) : Ret fs f127 [v, .i .i64 (a : Int), .i .i64 (b : Int), .i .i64 (c : Int), .p ids 0, cmV idb] h fun r h' => (∃ p x z : Nat, r = .i .i64 (p : Int) ∧ (p = a ∨ p = b ∨ p = c) ∧ (x = a ∨ x = b ∨ x = c) ∧ (z = a ∨ z = b ∨ z = c) ∧ bfB (gW Z x) (gW Z p) = true ∧ bfB (gW Z p) (gW Z z) = true) ∧ Grow ids.nat h h' ∧ Sk 2 qE h' v Z ∧ SoT idb v h' ∧ ∃ m, Swc idb ids v m h' := by
  have tt : ∀ {i j : Nat}, i < Z.length → j < Z.length → i ≠ j → bfB (gW Z j) (gW Z i) = false → bfB (gW Z i) (gW Z j) = true := fun hi hj hij e => bfB_tot (fun q => hij (gW_inj hn hj hi q).symm) e
  apply ret_of rfl
  show W fs none f127_c _ _ _
  unfold f127_c
  simp (disch := omega) only [f127_r0, f127_r1, Nat.reduceEqDiff, ↓reduceIte, frame_6, bz]
  refine (callP_0 (ef := f136) k.c136 rfl (f136_ret k.toCallsTs s sw hv ha hb (by omega))).mono ?_
  rintro r h3 ⟨⟨x, y, rfl, hxy⟩, g3, hs3, s3, n3, hn3, sw3⟩
  have hx : (x = a ∨ x = b) ∧ (y = a ∨ y = b) ∧ x ≠ y ∧ bfB (gW Z x) (gW Z y) = true := by
    rcases hxy with ⟨rfl, rfl, e⟩ | ⟨rfl, rfl, e⟩
    · exact ⟨by omega, by omega, by omega, tt ha hb (by omega) e⟩
    · exact ⟨by omega, by omega, by omega, e⟩
  obtain ⟨hx1, hx2, hx3, hx4⟩ := hx
  simp (disch := omega) only [f127_r2, Nat.reduceEqDiff, ↓reduceIte, bz]
  refine (callP_0 (ef := f136) k.c136 rfl (f136_ret k.toCallsTs s3 sw3 hs3 (a := y) (b := c) (by omega) hc (by omega))).mono ?_
  rintro r h4 ⟨⟨y', z, rfl, hyz⟩, g4, hs4, s4, n4, hn4, sw4⟩
  have hy : (y' = y ∨ y' = c) ∧ (z = y ∨ z = c) ∧ y' ≠ z ∧ bfB (gW Z y') (gW Z z) = true ∧ (z = y ∨ bfB (gW Z y) (gW Z z) = true) := by
    rcases hyz with ⟨rfl, rfl, e⟩ | ⟨rfl, rfl, e⟩
    · have := tt (i := y') (j := z) (by omega) hc (by omega) e
      exact ⟨by omega, by omega, by omega, this, .inr this⟩
    · exact ⟨by omega, by omega, by omega, e, .inl rfl⟩
  obtain ⟨hy1, hy2, hy3, hy4, hy5⟩ := hy
  simp (disch := omega) only [f127_r3, Nat.reduceEqDiff, ↓reduceIte, bz]
  refine (callP_0 (ef := f136) k.c136 rfl (f136_ret k.toCallsTs s4 sw4 hs4 (a := x) (b := y') (by omega) (by omega) (by omega))).mono ?_
  rintro r h5 ⟨⟨x', p, rfl, hxp⟩, g5, hs5, s5, n5, hn5, sw5⟩
  simp (disch := omega) only [f127_r4, f127_rs, Option.some.injEq, exists_eq_left', Nat.reduceEqDiff, ↓reduceIte, bz]
  have hgg := (g3.trans g4).trans g5
  have hxz : bfB (gW Z x) (gW Z z) = true := by
    rcases hy5 with e | e
    · rw [e]; exact hx4
    · exact bfB_tr hx4 e
  rcases hxp with ⟨rfl, rfl, e⟩ | ⟨rfl, rfl, e⟩
  · exact ⟨⟨p, x', z, rfl, by omega, by omega, by omega, tt (by omega) (by omega) (by omega) e, hy4⟩, hgg, hs5, s5, n5, sw5⟩
  · exact ⟨⟨p, x', z, rfl, by omega, by omega, by omega, e, hxz⟩, hgg, hs5, s5, n5, sw5⟩
theorem f114_ret {a b : Nat} (k : CallsTv fs) (s : SoT idb v h) (hv : Sk 2 qE h v Z) (hn : Z.Nodup) (hab : a + 12 < b) (hb : b ≤ Z.length) (hW : Z.length ≤ 40) : Ret fs f114 [v, .i .i64 (a : Int), .i .i64 (b : Int), cmV idb] h fun r h' => (∃ p e : Nat, r = .tup [.i .i64 (p : Int), .i .i64 (e : Int)] ∧ e ≤ 2 ∧ a ≤ p ∧ p < b ∧ Mid a b p Z) ∧ Sk 2 qE h' v Z ∧ Onl v h h' ∧ SoT idb v h' := by
  apply ret_of rfl
  show W fs none f114_c _ _ _
  unfold f114_c
  obtain ⟨l, hl, hbl⟩ : ∃ l : Nat, 13 ≤ l ∧ b = a + l := ⟨b - a, by omega, by omega⟩
  obtain ⟨q, hq, hq3, hq4⟩ : ∃ q : Nat, q = l / 4 ∧ 3 ≤ q ∧ q * 4 ≤ l := ⟨l / 4, rfl, by omega, by omega⟩
  have el : (b : Int) - (a : Int) = (l : Int) := by omega
  have eq4 : (l : Int).tdiv 4 = (q : Int) := by rw [hq]; rfl
  have e1 : (a : Int) + (q : Int) * 1 = ((a + q : Nat) : Int) := by omega
  have e2 : (a : Int) + (q : Int) * 2 = ((a + q * 2 : Nat) : Int) := by omega
  have e3 : (a : Int) + (q : Int) * 3 = ((a + q * 3 : Nat) : Int) := by omega
  have d8 : decide ((l : Int) ≥ 8) = true := decide_eq_true (by omega)
  have d50 : decide ((l : Int) ≥ Int.ofNat 50) = false := decide_eq_false (by show ¬ ((l : Int) ≥ (50 : Int)); omega)
  have g1 : Grow h.nx.nat h (h.new (.cells 1 [.i .i64 0])) := Grow.new (Nat.le_refl _) _
  have c1 : (h.new (.cells 1 [.i .i64 0])).get h.nx = .cells 1 [.i .i64 ((0 : Nat) : Int)] := get_new_same
  have s2 := s.onl (Onl.of g1)
  have hs2 := hv.grow s.hc g1
  have hlt := hv.lt s.hc
  have hidb := s.hc.cells s.e
  simp (disch := omega) only [f114_r0, f114_r1, f114_r2, f114_r3, f114_r4, f114_r5, f114_r6, f114_r7, f114_r11, bin_mul, bin_quo, of3, of4, of8, Nat.reduceEqDiff, ↓reduceIte, Bool.false_eq_true, el, eq4, e1, e2, e3, d8, d50, bz]
  generalize h.new (.cells 1 [.i .i64 0]) = h2 at *
  refine (callP_0 (ef := f127) k.c127 rfl (f127_ret k s2 ⟨c1, fun id off m sz e => hlt _ _ _ _ e, hidb⟩ hs2 hn (a := a + q) (b := a + q * 2) (c := a + q * 3) (by omega) (by omega) (by omega) (by omega) (by omega))).mono ?_
  rintro r h3 ⟨⟨p, x, z, rfl, hp, hx, hz, hm1, hm2⟩, g3, hs3, s3, n3, sw3⟩
  have l3 := load_p (off := 0) sw3.c (show nth [V.i .i64 (n3 : Int)] 0 = some _ from rfl)
  have mid : Mid a b p Z := ⟨⟨x, by omega, by omega, hm1⟩, z, by omega, by omega, hm2⟩
  have oo : Onl v h h3 := Onl.of (g1.trans g3)
  by_cases z0 : n3 = 0
  · have d0 : decide ((n3 : Int) = 0) = true := decide_eq_true (by omega)
    simp (disch := omega) only [f114_r12, f114_r13, f114_r14, f114_rs, Option.some.injEq, exists_eq_left', Nat.reduceEqDiff, ↓reduceIte, l3, d0, bz]
    exact ⟨⟨p, 1, rfl, by omega, by omega, by omega, mid⟩, hs3, oo, s3⟩
  · have d0 : decide ((n3 : Int) = 0) = false := decide_eq_false (by omega)
    by_cases z12 : n3 = 12
    · have d1 : decide ((n3 : Int) = 12) = true := decide_eq_true (by omega)
      simp (disch := omega) only [f114_r12, f114_r13, f114_r15, f114_r16, f114_rs, Option.some.injEq, exists_eq_left', Nat.reduceEqDiff, ↓reduceIte, Bool.false_eq_true, l3, d0, d1, bz]
      exact ⟨⟨p, 2, rfl, by omega, by omega, by omega, mid⟩, hs3, oo, s3⟩
    · have d1 : decide ((n3 : Int) = 12) = false := decide_eq_false (by omega)
      simp (disch := omega) only [f114_r12, f114_r13, f114_r15, f114_r17, f114_rs, Option.some.injEq, exists_eq_left', Nat.reduceEqDiff, ↓reduceIte, Bool.false_eq_true, l3, d0, d1, bz]
      exact ⟨⟨p, 0, rfl, by omega, by omega, by omega, mid⟩, hs3, oo, s3⟩
end
end Go.Ev
