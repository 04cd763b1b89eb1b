/-
  Orders: functions of plain values as natives., and what follows.
-/
import Derived.Test.YtdmnejhjlmeodaaPe
import Derived.Test.YtdmnejhjlmeodaaPf
namespace Go.Ev
open Go Go.RowKit
theorem HC.empty : HC ⟨.e, .nil⟩ := fun _ _ => by show getB (T.get _ .nil) = _; rw [T.get_nil]; rfl
theorem pV_inj {x y : Int × Int} (h : pV x = pV y) : x = y := by
  unfold pV at h
  injection h with h
  injection h with h1 h
  injection h with h2 _
  injection h1 with _ h1
  injection h2 with _ h2
  exact Prod.ext h1 h2
theorem aV_inj {x y : Nat × Nat} (h : aV x = aV y) : x = y := by
  rw [aV_pV, aV_pV] at h
  have := pV_inj h
  injection this with h1 h2
  exact Prod.ext (by omega) (by omega)
theorem iV_inj {k : IntKind} {a b : Int} (h : V.i k a = V.i k b) : a = b := by injection h
section
variable {Y : Rig} {fs : T EF}
theorem frV_plain {L : List Bool} : (frV L).plainT = true := by unfold frV; split <;> rfl
theorem orV_plain {L : List Bool} : (orV L).plainT = true := by
  unfold orV
  split
  · show ([rV _, V.b true].all V.plain) = true
    simp only [List.all_cons, List.all_nil, rV_plain, Bool.true_and]; rfl
  · show ([rV _, V.b false].all V.plain) = true
    simp only [List.all_cons, List.all_nil, rV_plain, Bool.true_and]; rfl
theorem rV_plainT {L : List Bool} : (rV L).plainT = true := rV_plain (L := L)
def D96 : Type := {_x : Int × Int // True}
noncomputable def A96 : D96 → List V := fun ⟨x, _⟩ => [V.i .i64 x.1, V.i .i64 x.2]
noncomputable def F96 : D96 → V := fun ⟨x, _⟩ => V.b (nodeB x.1 x.2)
theorem I96 : ∀ x y, A96 x = A96 y → F96 x = F96 y := by
  rintro ⟨x, p⟩ ⟨y, q⟩ h
  have h : [V.i .i64 x.1, V.i .i64 x.2] = [V.i .i64 y.1, V.i .i64 y.2] := h
  injection h with h0 h
  have e0 := iV_inj h0
  injection h with h1 h
  have e1 := iV_inj h1
  have e : x = y := by
    exact Prod.ext e0 e1
  subst e
  rfl
theorem P96 : ∀ x, (A96 x).all V.plain = true := by
  rintro ⟨x, p⟩
  show ([V.i .i64 x.1, V.i .i64 x.2].all V.plain) = true
  first | rfl | (simp only [List.all_cons, List.all_nil, rV_plain, Bool.true_and, Bool.and_true]; done) | (simp only [List.all_cons, List.all_nil, rV_plain, Bool.true_and, Bool.and_true]; rfl)
theorem Q96 : ∀ x, (F96 x).plainT = true := fun ⟨_, _⟩ => rfl
theorem G96 (hfs : Fns Y fs) (hf : f96.nv = none ∧ ∃ fn c, FnOk Y (K.ofNat 96) f96 fn c) : ∀ args v, dataG A96 F96 args = some v → Gives Y (K.ofNat 96) args v := dataG_gives hfs hf P96 Q96 fun ⟨_, p⟩ => by have _ := p; exact f96_ret
theorem E96 {ef : EF} (hf : fs.get (K.ofNat 96) = some ef) (hn : ef.nv = some (flatG (dataG A96 F96))) (x : Int × Int) (p : True) (h : H) (P : V → H → Prop) : CallP fs (.fn (K.ofNat 96) []) (A96 ⟨x, p⟩) h P = P (F96 ⟨x, p⟩) h := callP_data hf hn I96 _ h P
def D77 : Type := {_x : Int × Int // True}
noncomputable def A77 : D77 → List V := fun ⟨x, _⟩ => [pV x]
noncomputable def F77 : D77 → V := fun ⟨x, _⟩ => pV (x.2, x.1)
theorem I77 : ∀ x y, A77 x = A77 y → F77 x = F77 y := by
  rintro ⟨x, p⟩ ⟨y, q⟩ h
  have h : [pV x] = [pV y] := h
  injection h with h0 h
  have e0 := pV_inj h0
  have e : x = y := by
    exact e0
  subst e
  rfl
theorem P77 : ∀ x, (A77 x).all V.plain = true := by
  rintro ⟨x, p⟩
  show ([pV x].all V.plain) = true
  first | rfl | (simp only [List.all_cons, List.all_nil, rV_plain, Bool.true_and, Bool.and_true]; done) | (simp only [List.all_cons, List.all_nil, rV_plain, Bool.true_and, Bool.and_true]; rfl)
theorem Q77 : ∀ x, (F77 x).plainT = true := fun ⟨_, _⟩ => rfl
theorem G77 (hfs : Fns Y fs) (hf : f77.nv = none ∧ ∃ fn c, FnOk Y (K.ofNat 77) f77 fn c) : ∀ args v, dataG A77 F77 args = some v → Gives Y (K.ofNat 77) args v := dataG_gives hfs hf P77 Q77 fun ⟨_, p⟩ => by have _ := p; exact f77_ret
theorem E77 {ef : EF} (hf : fs.get (K.ofNat 77) = some ef) (hn : ef.nv = some (flatG (dataG A77 F77))) (x : Int × Int) (p : True) (h : H) (P : V → H → Prop) : CallP fs (.fn (K.ofNat 77) []) (A77 ⟨x, p⟩) h P = P (F77 ⟨x, p⟩) h := callP_data hf hn I77 _ h P
def D78 : Type := {_x : Int × Int // True}
noncomputable def A78 : D78 → List V := fun ⟨x, _⟩ => [pV x]
noncomputable def F78 : D78 → V := fun ⟨x, _⟩ => pV x
theorem I78 : ∀ x y, A78 x = A78 y → F78 x = F78 y := by
  rintro ⟨x, p⟩ ⟨y, q⟩ h
  have h : [pV x] = [pV y] := h
  injection h with h0 h
theorem P78 : ∀ x, (A78 x).all V.plain = true := by
  rintro ⟨x, p⟩
  show ([pV x].all V.plain) = true
  first | rfl | (simp only [List.all_cons, List.all_nil, rV_plain, Bool.true_and, Bool.and_true]; done) | (simp only [List.all_cons, List.all_nil, rV_plain, Bool.true_and, Bool.and_true]; rfl)
theorem Q78 : ∀ x, (F78 x).plainT = true := fun ⟨_, _⟩ => rfl
theorem G78 (hfs : Fns Y fs) (hf : f78.nv = none ∧ ∃ fn c, FnOk Y (K.ofNat 78) f78 fn c) : ∀ args v, dataG A78 F78 args = some v → Gives Y (K.ofNat 78) args v := dataG_gives hfs hf P78 Q78 fun ⟨_, p⟩ => by have _ := p; exact f78_ret
theorem E78 {ef : EF} (hf : fs.get (K.ofNat 78) = some ef) (hn : ef.nv = some (flatG (dataG A78 F78))) (x : Int × Int) (p : True) (h : H) (P : V → H → Prop) : CallP fs (.fn (K.ofNat 78) []) (A78 ⟨x, p⟩) h P = P (F78 ⟨x, p⟩) h := callP_data hf hn I78 _ h P
def D56 : Type := {_x : Int × Int // True}
noncomputable def A56 : D56 → List V := fun ⟨x, _⟩ => [pV x]
noncomputable def F56 : D56 → V := fun ⟨x, _⟩ => pV x
theorem I56 : ∀ x y, A56 x = A56 y → F56 x = F56 y := by
  rintro ⟨x, p⟩ ⟨y, q⟩ h
  have h : [pV x] = [pV y] := h
  injection h with h0 h
theorem P56 : ∀ x, (A56 x).all V.plain = true := by
  rintro ⟨x, p⟩
  show ([pV x].all V.plain) = true
  first | rfl | (simp only [List.all_cons, List.all_nil, rV_plain, Bool.true_and, Bool.and_true]; done) | (simp only [List.all_cons, List.all_nil, rV_plain, Bool.true_and, Bool.and_true]; rfl)
theorem Q56 : ∀ x, (F56 x).plainT = true := fun ⟨_, _⟩ => rfl
theorem G56 (hfs : Fns Y fs) (hf : f56.nv = none ∧ ∃ fn c, FnOk Y (K.ofNat 56) f56 fn c) : ∀ args v, dataG A56 F56 args = some v → Gives Y (K.ofNat 56) args v := dataG_gives hfs hf P56 Q56 fun ⟨_, p⟩ => by have _ := p; exact f56_ret
theorem E56 {ef : EF} (hf : fs.get (K.ofNat 56) = some ef) (hn : ef.nv = some (flatG (dataG A56 F56))) (x : Int × Int) (p : True) (h : H) (P : V → H → Prop) : CallP fs (.fn (K.ofNat 56) []) (A56 ⟨x, p⟩) h P = P (F56 ⟨x, p⟩) h := callP_data hf hn I56 _ h P
def D70 : Type := {x : List Bool // x.length = 49}
noncomputable def A70 : D70 → List V := fun ⟨x, _⟩ => [rV x]
noncomputable def F70 : D70 → V := fun ⟨x, _⟩ => rV (turnR x)
theorem I70 : ∀ x y, A70 x = A70 y → F70 x = F70 y := by
  rintro ⟨x, p⟩ ⟨y, q⟩ h
  have h : [rV x] = [rV y] := h
  injection h with h0 h
  have e0 := rV_inj h0
  have e : x = y := by
    exact e0
  subst e
  rfl
theorem P70 : ∀ x, (A70 x).all V.plain = true := by
  rintro ⟨x, p⟩
  show ([rV x].all V.plain) = true
  first | rfl | (simp only [List.all_cons, List.all_nil, rV_plain, Bool.and_true]; done) | (simp only [List.all_cons, List.all_nil, rV_plain, Bool.true_and, Bool.and_true]; rfl)
theorem Q70 : ∀ x, (F70 x).plainT = true := fun ⟨_, _⟩ => rV_plainT
theorem G70 (h84 : fs.get (K.ofNat 84) = some f84) (h101 : fs.get (K.ofNat 101) = some f101) (hfs : Fns Y fs) (hf : f70.nv = none ∧ ∃ fn c, FnOk Y (K.ofNat 70) f70 fn c) : ∀ args v, dataG A70 F70 args = some v → Gives Y (K.ofNat 70) args v := dataG_gives hfs hf P70 Q70 fun ⟨_, p⟩ => by have _ := p; exact (f70_ret p h84 h101 HC.empty).mono fun _ _ h => h.1
theorem E70 {ef : EF} (hf : fs.get (K.ofNat 70) = some ef) (hn : ef.nv = some (flatG (dataG A70 F70))) (x : List Bool) (p : x.length = 49) (h : H) (P : V → H → Prop) : CallP fs (.fn (K.ofNat 70) []) (A70 ⟨x, p⟩) h P = P (F70 ⟨x, p⟩) h := callP_data hf hn I70 _ h P
def D81 : Type := {x : List Bool × List Bool // x.1.length = 49 ∧ x.2.length = 49}
noncomputable def A81 : D81 → List V := fun ⟨x, _⟩ => [rV x.1, rV x.2]
noncomputable def F81 : D81 → V := fun ⟨x, _⟩ => rV (woR x.1 x.2)
theorem I81 : ∀ x y, A81 x = A81 y → F81 x = F81 y := by
  rintro ⟨x, p⟩ ⟨y, q⟩ h
  have h : [rV x.1, rV x.2] = [rV y.1, rV y.2] := h
  injection h with h0 h
  have e0 := rV_inj h0
  injection h with h1 h
  have e1 := rV_inj h1
  have e : x = y := by
    exact Prod.ext e0 e1
  subst e
  rfl
theorem P81 : ∀ x, (A81 x).all V.plain = true := by
  rintro ⟨x, p⟩
  show ([rV x.1, rV x.2].all V.plain) = true
  first | rfl | (simp only [List.all_cons, List.all_nil, rV_plain, Bool.and_true]; done) | (simp only [List.all_cons, List.all_nil, rV_plain, Bool.true_and, Bool.and_true]; rfl)
theorem Q81 : ∀ x, (F81 x).plainT = true := fun ⟨_, _⟩ => rV_plainT
theorem G81 (h84 : fs.get (K.ofNat 84) = some f84) (h101 : fs.get (K.ofNat 101) = some f101) (hfs : Fns Y fs) (hf : f81.nv = none ∧ ∃ fn c, FnOk Y (K.ofNat 81) f81 fn c) : ∀ args v, dataG A81 F81 args = some v → Gives Y (K.ofNat 81) args v := dataG_gives hfs hf P81 Q81 fun ⟨_, p⟩ => by have _ := p; exact f81_ret p.1 p.2 h84 h101 HC.empty
theorem E81 {ef : EF} (hf : fs.get (K.ofNat 81) = some ef) (hn : ef.nv = some (flatG (dataG A81 F81))) (x : List Bool × List Bool) (p : x.1.length = 49 ∧ x.2.length = 49) (h : H) (P : V → H → Prop) : CallP fs (.fn (K.ofNat 81) []) (A81 ⟨x, p⟩) h P = P (F81 ⟨x, p⟩) h := callP_data hf hn I81 _ h P
def D85 : Type := {x : List Bool × (Int × Int) // x.1.length = 49}
noncomputable def A85 : D85 → List V := fun ⟨x, _⟩ => [rV x.1, pV x.2]
noncomputable def F85 : D85 → V := fun ⟨x, _⟩ => V.b (hasR x.1 x.2)
theorem I85 : ∀ x y, A85 x = A85 y → F85 x = F85 y := by
  rintro ⟨x, p⟩ ⟨y, q⟩ h
  have h : [rV x.1, pV x.2] = [rV y.1, pV y.2] := h
  injection h with h0 h
  have e0 := rV_inj h0
  injection h with h1 h
  have e1 := pV_inj h1
  have e : x = y := by
    exact Prod.ext e0 e1
  subst e
  rfl
theorem P85 : ∀ x, (A85 x).all V.plain = true := by
  rintro ⟨x, p⟩
  show ([rV x.1, pV x.2].all V.plain) = true
  first | rfl | (simp only [List.all_cons, List.all_nil, rV_plain, Bool.true_and, Bool.and_true]; done) | (simp only [List.all_cons, List.all_nil, rV_plain, Bool.true_and, Bool.and_true]; rfl)
theorem Q85 : ∀ x, (F85 x).plainT = true := fun ⟨_, _⟩ => rfl
theorem G85 (k : Nat1 fs) (hfs : Fns Y fs) (hf : f85.nv = none ∧ ∃ fn c, FnOk Y (K.ofNat 85) f85 fn c) : ∀ args v, dataG A85 F85 args = some v → Gives Y (K.ofNat 85) args v := dataG_gives hfs hf P85 Q85 fun ⟨_, p⟩ => by have _ := p; exact f85_ret k p
theorem E85 {ef : EF} (hf : fs.get (K.ofNat 85) = some ef) (hn : ef.nv = some (flatG (dataG A85 F85))) (x : List Bool × (Int × Int)) (p : x.1.length = 49) (h : H) (P : V → H → Prop) : CallP fs (.fn (K.ofNat 85) []) (A85 ⟨x, p⟩) h P = P (F85 ⟨x, p⟩) h := callP_data hf hn I85 _ h P
def D87 : Type := {x : List Bool // x.length = 49}
noncomputable def A87 : D87 → List V := fun ⟨x, _⟩ => [rV x]
noncomputable def F87 : D87 → V := fun ⟨x, _⟩ => frV x
theorem I87 : ∀ x y, A87 x = A87 y → F87 x = F87 y := by
  rintro ⟨x, p⟩ ⟨y, q⟩ h
  have h : [rV x] = [rV y] := h
  injection h with h0 h
  have e0 := rV_inj h0
  have e : x = y := by
    exact e0
  subst e
  rfl
theorem P87 : ∀ x, (A87 x).all V.plain = true := by
  rintro ⟨x, p⟩
  show ([rV x].all V.plain) = true
  first | rfl | (simp only [List.all_cons, List.all_nil, rV_plain, Bool.and_true]; done) | (simp only [List.all_cons, List.all_nil, rV_plain, Bool.true_and, Bool.and_true]; rfl)
theorem Q87 : ∀ x, (F87 x).plainT = true := fun ⟨_, _⟩ => frV_plain
theorem G87 (k : Nat2 fs) (hfs : Fns Y fs) (hf : f87.nv = none ∧ ∃ fn c, FnOk Y (K.ofNat 87) f87 fn c) : ∀ args v, dataG A87 F87 args = some v → Gives Y (K.ofNat 87) args v := dataG_gives hfs hf P87 Q87 fun ⟨_, p⟩ => by have _ := p; exact f87_ret k p HC.empty
theorem E87 {ef : EF} (hf : fs.get (K.ofNat 87) = some ef) (hn : ef.nv = some (flatG (dataG A87 F87))) (x : List Bool) (p : x.length = 49) (h : H) (P : V → H → Prop) : CallP fs (.fn (K.ofNat 87) []) (A87 ⟨x, p⟩) h P = P (F87 ⟨x, p⟩) h := callP_data hf hn I87 _ h P
def D92 : Type := {x : List Bool // x.length = 49}
noncomputable def A92 : D92 → List V := fun ⟨x, _⟩ => [rV x]
noncomputable def F92 : D92 → V := fun ⟨x, _⟩ => rV (spR x)
theorem I92 : ∀ x y, A92 x = A92 y → F92 x = F92 y := by
  rintro ⟨x, p⟩ ⟨y, q⟩ h
  have h : [rV x] = [rV y] := h
  injection h with h0 h
  have e0 := rV_inj h0
  have e : x = y := by
    exact e0
  subst e
  rfl
theorem P92 : ∀ x, (A92 x).all V.plain = true := by
  rintro ⟨x, p⟩
  show ([rV x].all V.plain) = true
  first | rfl | (simp only [List.all_cons, List.all_nil, rV_plain, Bool.and_true]; done) | (simp only [List.all_cons, List.all_nil, rV_plain, Bool.true_and, Bool.and_true]; rfl)
theorem Q92 : ∀ x, (F92 x).plainT = true := fun ⟨_, _⟩ => rV_plainT
theorem G92 (k : Nat2 fs) (hfs : Fns Y fs) (hf : f92.nv = none ∧ ∃ fn c, FnOk Y (K.ofNat 92) f92 fn c) : ∀ args v, dataG A92 F92 args = some v → Gives Y (K.ofNat 92) args v := dataG_gives hfs hf P92 Q92 fun ⟨_, p⟩ => by have _ := p; exact f92_ret k p HC.empty
theorem E92 {ef : EF} (hf : fs.get (K.ofNat 92) = some ef) (hn : ef.nv = some (flatG (dataG A92 F92))) (x : List Bool) (p : x.length = 49) (h : H) (P : V → H → Prop) : CallP fs (.fn (K.ofNat 92) []) (A92 ⟨x, p⟩) h P = P (F92 ⟨x, p⟩) h := callP_data hf hn I92 _ h P
def D91 : Type := {x : List Bool × List Bool // x.1.length = 49 ∧ x.2.length = 49}
noncomputable def A91 : D91 → List V := fun ⟨x, _⟩ => [rV x.1, rV x.2]
noncomputable def F91 : D91 → V := fun ⟨x, _⟩ => V.b (cvB x.1 x.2)
theorem I91 : ∀ x y, A91 x = A91 y → F91 x = F91 y := by
  rintro ⟨x, p⟩ ⟨y, q⟩ h
  have h : [rV x.1, rV x.2] = [rV y.1, rV y.2] := h
  injection h with h0 h
  have e0 := rV_inj h0
  injection h with h1 h
  have e1 := rV_inj h1
  have e : x = y := by
    exact Prod.ext e0 e1
  subst e
  rfl
theorem P91 : ∀ x, (A91 x).all V.plain = true := by
  rintro ⟨x, p⟩
  show ([rV x.1, rV x.2].all V.plain) = true
  first | rfl | (simp only [List.all_cons, List.all_nil, rV_plain, Bool.and_true]; done) | (simp only [List.all_cons, List.all_nil, rV_plain, Bool.true_and, Bool.and_true]; rfl)
theorem Q91 : ∀ x, (F91 x).plainT = true := fun ⟨_, _⟩ => rfl
theorem G91 (k : Nat2 fs) (hfs : Fns Y fs) (hf : f91.nv = none ∧ ∃ fn c, FnOk Y (K.ofNat 91) f91 fn c) : ∀ args v, dataG A91 F91 args = some v → Gives Y (K.ofNat 91) args v := dataG_gives hfs hf P91 Q91 fun ⟨_, p⟩ => by have _ := p; exact f91_ret k p.1 p.2 HC.empty
theorem E91 {ef : EF} (hf : fs.get (K.ofNat 91) = some ef) (hn : ef.nv = some (flatG (dataG A91 F91))) (x : List Bool × List Bool) (p : x.1.length = 49 ∧ x.2.length = 49) (h : H) (P : V → H → Prop) : CallP fs (.fn (K.ofNat 91) []) (A91 ⟨x, p⟩) h P = P (F91 ⟨x, p⟩) h := callP_data hf hn I91 _ h P
def D49 : Type := {x : List Bool × Nat // x.1.length = 49 ∧ x.2 ≤ 7}
noncomputable def A49 : D49 → List V := fun ⟨x, _⟩ => [rV x.1, V.i .i64 (x.2 : Int)]
noncomputable def F49 : D49 → V := fun ⟨x, _⟩ => rV (otR x.2 x.1)
theorem I49 : ∀ x y, A49 x = A49 y → F49 x = F49 y := by
  rintro ⟨x, p⟩ ⟨y, q⟩ h
  have h : [rV x.1, V.i .i64 (x.2 : Int)] = [rV y.1, V.i .i64 (y.2 : Int)] := h
  injection h with h0 h
  have e0 := rV_inj h0
  injection h with h1 h
  have e1 := iV_inj h1
  have e : x = y := by
    exact Prod.ext e0 (by omega)
  subst e
  rfl
theorem P49 : ∀ x, (A49 x).all V.plain = true := by
  rintro ⟨x, p⟩
  show ([rV x.1, V.i .i64 (x.2 : Int)].all V.plain) = true
  first | rfl | (simp only [List.all_cons, List.all_nil, rV_plain, Bool.true_and, Bool.and_true]; done) | (simp only [List.all_cons, List.all_nil, rV_plain, Bool.true_and, Bool.and_true]; rfl)
theorem Q49 : ∀ x, (F49 x).plainT = true := fun ⟨_, _⟩ => rV_plainT
theorem G49 (k : Nat2 fs) (hfs : Fns Y fs) (hf : f49.nv = none ∧ ∃ fn c, FnOk Y (K.ofNat 49) f49 fn c) : ∀ args v, dataG A49 F49 args = some v → Gives Y (K.ofNat 49) args v := dataG_gives hfs hf P49 Q49 fun ⟨_, p⟩ => by have _ := p; exact f49_ret k p.1 p.2 HC.empty
theorem E49 {ef : EF} (hf : fs.get (K.ofNat 49) = some ef) (hn : ef.nv = some (flatG (dataG A49 F49))) (x : List Bool × Nat) (p : x.1.length = 49 ∧ x.2 ≤ 7) (h : H) (P : V → H → Prop) : CallP fs (.fn (K.ofNat 49) []) (A49 ⟨x, p⟩) h P = P (F49 ⟨x, p⟩) h := callP_data hf hn I49 _ h P
def D57 : Type := {x : List Bool × (Nat × Nat) // x.1.length = 49 ∧ (x.2.1 < 7 ∧ x.2.2 < 7)}
noncomputable def A57 : D57 → List V := fun ⟨x, _⟩ => [rV x.1, aV x.2]
noncomputable def F57 : D57 → V := fun ⟨x, _⟩ => rV (clsR x.1 x.2)
theorem I57 : ∀ x y, A57 x = A57 y → F57 x = F57 y := by
  rintro ⟨x, p⟩ ⟨y, q⟩ h
  have h : [rV x.1, aV x.2] = [rV y.1, aV y.2] := h
  injection h with h0 h
  have e0 := rV_inj h0
  injection h with h1 h
  have e1 := aV_inj h1
  have e : x = y := by
    exact Prod.ext e0 e1
  subst e
  rfl
theorem P57 : ∀ x, (A57 x).all V.plain = true := by
  rintro ⟨x, p⟩
  show ([rV x.1, aV x.2].all V.plain) = true
  first | rfl | (simp only [List.all_cons, List.all_nil, rV_plain, Bool.true_and, Bool.and_true]; done) | (simp only [List.all_cons, List.all_nil, rV_plain, Bool.true_and, Bool.and_true]; rfl)
theorem Q57 : ∀ x, (F57 x).plainT = true := fun ⟨_, _⟩ => rV_plainT
theorem G57 (k : Nat3 fs) (h86 : fs.get (K.ofNat 86) = some f86) (h102 : fs.get (K.ofNat 102) = some f102) (hfs : Fns Y fs) (hf : f57.nv = none ∧ ∃ fn c, FnOk Y (K.ofNat 57) f57 fn c) : ∀ args v, dataG A57 F57 args = some v → Gives Y (K.ofNat 57) args v := dataG_gives hfs hf P57 Q57 fun ⟨_, p⟩ => by have _ := p; exact f57_ret k h86 h102 p.1 p.2 HC.empty
theorem E57 {ef : EF} (hf : fs.get (K.ofNat 57) = some ef) (hn : ef.nv = some (flatG (dataG A57 F57))) (x : List Bool × (Nat × Nat)) (p : x.1.length = 49 ∧ (x.2.1 < 7 ∧ x.2.2 < 7)) (h : H) (P : V → H → Prop) : CallP fs (.fn (K.ofNat 57) []) (A57 ⟨x, p⟩) h P = P (F57 ⟨x, p⟩) h := callP_data hf hn I57 _ h P
def D76 : Type := {x : List Bool // x.length = 49}
noncomputable def A76 : D76 → List V := fun ⟨x, _⟩ => [rV x]
noncomputable def F76 : D76 → V := fun ⟨x, _⟩ => V.b (trB x)
theorem I76 : ∀ x y, A76 x = A76 y → F76 x = F76 y := by
  rintro ⟨x, p⟩ ⟨y, q⟩ h
  have h : [rV x] = [rV y] := h
  injection h with h0 h
  have e0 := rV_inj h0
  have e : x = y := by
    exact e0
  subst e
  rfl
theorem P76 : ∀ x, (A76 x).all V.plain = true := by
  rintro ⟨x, p⟩
  show ([rV x].all V.plain) = true
  first | rfl | (simp only [List.all_cons, List.all_nil, rV_plain, Bool.and_true]; done) | (simp only [List.all_cons, List.all_nil, rV_plain, Bool.true_and, Bool.and_true]; rfl)
theorem Q76 : ∀ x, (F76 x).plainT = true := fun ⟨_, _⟩ => rfl
theorem G76 (k : Nat3 fs) (hfs : Fns Y fs) (hf : f76.nv = none ∧ ∃ fn c, FnOk Y (K.ofNat 76) f76 fn c) : ∀ args v, dataG A76 F76 args = some v → Gives Y (K.ofNat 76) args v := dataG_gives hfs hf P76 Q76 fun ⟨_, p⟩ => by have _ := p; exact f76_ret k p
theorem E76 {ef : EF} (hf : fs.get (K.ofNat 76) = some ef) (hn : ef.nv = some (flatG (dataG A76 F76))) (x : List Bool) (p : x.length = 49) (h : H) (P : V → H → Prop) : CallP fs (.fn (K.ofNat 76) []) (A76 ⟨x, p⟩) h P = P (F76 ⟨x, p⟩) h := callP_data hf hn I76 _ h P
def D80 : Type := {_x : (Int × Int) × (Int × Int) // True}
noncomputable def A80 : D80 → List V := fun ⟨x, _⟩ => [pV x.1, pV x.2]
noncomputable def F80 : D80 → V := fun ⟨x, _⟩ => V.b (bfB x.1 x.2)
theorem I80 : ∀ x y, A80 x = A80 y → F80 x = F80 y := by
  rintro ⟨x, p⟩ ⟨y, q⟩ h
  have h : [pV x.1, pV x.2] = [pV y.1, pV y.2] := h
  injection h with h0 h
  have e0 := pV_inj h0
  injection h with h1 h
  have e1 := pV_inj h1
  have e : x = y := by
    exact Prod.ext e0 e1
  subst e
  rfl
theorem P80 : ∀ x, (A80 x).all V.plain = true := by
  rintro ⟨x, p⟩
  show ([pV x.1, pV x.2].all V.plain) = true
  first | rfl | (simp only [List.all_cons, List.all_nil, rV_plain, Bool.true_and, Bool.and_true]; done) | (simp only [List.all_cons, List.all_nil, rV_plain, Bool.true_and, Bool.and_true]; rfl)
theorem Q80 : ∀ x, (F80 x).plainT = true := fun ⟨_, _⟩ => rfl
theorem G80 (h99 : fs.get (K.ofNat 99) = some f99) (h108 : fs.get (K.ofNat 108) = some f108) (h121 : fs.get (K.ofNat 121) = some f121) (hfs : Fns Y fs) (hf : f80.nv = none ∧ ∃ fn c, FnOk Y (K.ofNat 80) f80 fn c) : ∀ args v, dataG A80 F80 args = some v → Gives Y (K.ofNat 80) args v := dataG_gives hfs hf P80 Q80 fun ⟨_, p⟩ => by have _ := p; exact f80_ret h99 h108 h121
theorem E80 {ef : EF} (hf : fs.get (K.ofNat 80) = some ef) (hn : ef.nv = some (flatG (dataG A80 F80))) (x : (Int × Int) × (Int × Int)) (p : True) (h : H) (P : V → H → Prop) : CallP fs (.fn (K.ofNat 80) []) (A80 ⟨x, p⟩) h P = P (F80 ⟨x, p⟩) h := callP_data hf hn I80 _ h P
def D60 : Type := {x : List Bool // SymR x}
noncomputable def A60 : D60 → List V := fun ⟨x, _⟩ => [rV x]
noncomputable def F60 : D60 → V := fun ⟨x, _⟩ => orV x
theorem I60 : ∀ x y, A60 x = A60 y → F60 x = F60 y := by
  rintro ⟨x, p⟩ ⟨y, q⟩ h
  have h : [rV x] = [rV y] := h
  injection h with h0 h
  have e0 := rV_inj h0
  have e : x = y := by
    exact e0
  subst e
  rfl
theorem P60 : ∀ x, (A60 x).all V.plain = true := by
  rintro ⟨x, p⟩
  show ([rV x].all V.plain) = true
  first | rfl | (simp only [List.all_cons, List.all_nil, rV_plain, Bool.and_true]; done) | (simp only [List.all_cons, List.all_nil, rV_plain, Bool.true_and, Bool.and_true]; rfl)
theorem Q60 : ∀ x, (F60 x).plainT = true := fun ⟨_, _⟩ => orV_plain
theorem G60 (k : Nat4 fs) (hfs : Fns Y fs) (hf : f60.nv = none ∧ ∃ fn c, FnOk Y (K.ofNat 60) f60 fn c) : ∀ args v, dataG A60 F60 args = some v → Gives Y (K.ofNat 60) args v := dataG_gives hfs hf P60 Q60 fun ⟨_, p⟩ => by have _ := p; exact f60_ret k p HC.empty
theorem E60 {ef : EF} (hf : fs.get (K.ofNat 60) = some ef) (hn : ef.nv = some (flatG (dataG A60 F60))) (x : List Bool) (p : SymR x) (h : H) (P : V → H → Prop) : CallP fs (.fn (K.ofNat 60) []) (A60 ⟨x, p⟩) h P = P (F60 ⟨x, p⟩) h := callP_data hf hn I60 _ h P
end
end Go.Ev
namespace Go.Ev
open Go Go.RowKit
noncomputable def entA (M : List ((Nat × Nat) × (Nat × Nat))) : List (V × V) := M.map fun e => (aV e.1, aV e.2)
def lookA : List ((Nat × Nat) × (Nat × Nat)) → Nat × Nat → Option (Nat × Nat)
  | [], _ => none
  | e :: M, x => if x = e.1 then some e.2 else lookA M x
def in7 (x : Nat × Nat) : Prop := x.1 < 7 ∧ x.2 < 7
theorem find_a {x : Nat × Nat} (hx : in7 x) : ∀ (M : List ((Nat × Nat) × (Nat × Nat))), (∀ e ∈ M, in7 e.1) → findE (.many [some .i64, some .i64]) (aV x) (entA M) = some ((lookA M x).map aV)
  | [], _ => by
    show (oGet (keyEq (.many [some .i64, some .i64]) (aV x) (aV x)) none fun _ => some none) = _
    rw [keyEq_aV hx hx]; rfl
  | y :: M, hM => by
    have ih := find_a hx M fun z hz => hM z (List.mem_cons_of_mem _ hz)
    show (oGet (keyEq (.many [some .i64, some .i64]) (aV x) (aV y.1)) none fun r => bif r then some (some (aV y.2)) else findE (.many [some .i64, some .i64]) (aV x) (entA M)) = _
    rw [keyEq_aV hx (hM y (by simp)), ih]
    show (bif decide (x = y.1) then _ else _) = some ((if x = y.1 then some y.2 else lookA M x).map aV)
    by_cases e : x = y.1
    · rw [decide_eq_true e, if_pos e]; rfl
    · rw [decide_eq_false e, if_neg e]; rfl
theorem upd_a {x v : Nat × Nat} (hx : in7 x) : ∀ (M : List ((Nat × Nat) × (Nat × Nat))), (∀ e ∈ M, in7 e.1) → x ∉ M.map Prod.fst → updE (.many [some .i64, some .i64]) (aV x) (aV v) (entA M) = some (entA (M ++ [(x, v)]))
  | [], _, _ => by
    show (oGet (keyEq (.many [some .i64, some .i64]) (aV x) (aV x)) none fun _ => some [(aV x, aV v)]) = _
    rw [keyEq_aV hx hx]; rfl
  | y :: M, hM, hn => by
    rw [List.map_cons, List.mem_cons, not_or] at hn
    have ih := upd_a (v := v) hx M (fun z hz => hM z (List.mem_cons_of_mem _ hz)) hn.2
    show (oGet (keyEq (.many [some .i64, some .i64]) (aV x) (aV y.1)) none fun r => bif r then some ((aV x, aV v) :: entA M) else oGet (updE (.many [some .i64, some .i64]) (aV x) (aV v) (entA M)) none fun l => some ((aV y.1, aV y.2) :: l)) = _
    rw [keyEq_aV hx (hM y (by simp)), ih, decide_eq_false hn.1]; rfl
theorem lookA_none {x : Nat × Nat} : ∀ {M : List ((Nat × Nat) × (Nat × Nat))}, x ∉ M.map Prod.fst → lookA M x = none
  | [], _ => rfl
  | e :: M, h => by
    rw [List.map_cons, List.mem_cons, not_or] at h
    show (if x = e.1 then some e.2 else lookA M x) = none
    rw [if_neg h.1]; exact lookA_none h.2
theorem lookA_at {x v : Nat × Nat} : ∀ {M : List ((Nat × Nat) × (Nat × Nat))} {j : Nat}, (M.map Prod.fst).Nodup → M[j]? = some (x, v) → lookA M x = some v
  | [], _, _, h => by simp at h
  | e :: M, 0, _, h => by
    simp at h; subst h
    show (if x = x then some v else lookA M x) = some v
    rw [if_pos rfl]
  | e :: M, j + 1, hn, h => by
    rw [List.map_cons, List.nodup_cons] at hn
    have h : M[j]? = some (x, v) := by simpa using h
    have hx : x ∈ M.map Prod.fst := List.mem_map.2 ⟨(x, v), List.mem_of_getElem? h, rfl⟩
    show (if x = e.1 then some e.2 else lookA M x) = some v
    rw [if_neg (fun e2 => hn.1 (by rw [← e2]; exact hx))]
    exact lookA_at hn.2 h
def MapA (h : H) (id : K) (kt : Nat) (M : List ((Nat × Nat) × (Nat × Nat))) : Prop := h.get id = .map kt (entA M)
noncomputable def okA (o : Option (Nat × Nat)) : V := match o with | none => .tup [.agg [.i .i64 0, .i .i64 0], .b false] | some v => .tup [aV v, .b true]
theorem MapA.look {h : H} {id : K} {kt : Nat} {M : List ((Nat × Nat) × (Nat × Nat))} {x : Nat × Nat} (hm : MapA h id kt M) (hM : ∀ e ∈ M, in7 e.1) (hx : in7 x) : lookV kt (.many [some .i64, some .i64]) (.agg [.i .i64 0, .i .i64 0]) h (.m id) (aV x) true = .ok (okA (lookA M x)) h := by
  show ((h.get id).onM kt fun es => oGet (findE (.many [some .i64, some .i64]) (aV x) es) RV.no fun r => bif true then RV.ok (oGet r (.tup [.agg [.i .i64 0, .i .i64 0], .b false]) fun v => .tup [v, .b true]) h else RV.ok (oGet r (V.agg [.i .i64 0, .i .i64 0]) fun v => v) h) = _
  rw [hm]
  show (bif Nat.beq kt kt then (oGet (findE (.many [some .i64, some .i64]) (aV x) (entA M)) RV.no fun r => RV.ok (oGet r (.tup [.agg [.i .i64 0, .i .i64 0], .b false]) fun v => .tup [v, .b true]) h) else _) = _
  rw [Nat.beq_same, find_a hx M hM]
  cases lookA M x <;> rfl
theorem MapA.put {h : H} {id : K} {kt : Nat} {M : List ((Nat × Nat) × (Nat × Nat))} {x v : Nat × Nat} (hm : MapA h id kt M) (hM : ∀ e ∈ M, in7 e.1) (hx : in7 x) (hn : x ∉ M.map Prod.fst) : mupdV kt (.many [some .i64, some .i64]) h (.m id) (aV x) (aV v) = .ok undefV (h.put id (.map kt (entA (M ++ [(x, v)])))) := by
  show ((h.get id).onM kt fun es => oGet (updE (.many [some .i64, some .i64]) (aV x) (aV v) es) RV.no fun es => RV.ok undefV (h.put id (.map kt es))) = _
  rw [hm]
  show (bif Nat.beq kt kt then (oGet (updE (.many [some .i64, some .i64]) (aV x) (aV v) (entA M)) RV.no fun es => RV.ok undefV (h.put id (.map kt es))) else _) = _
  rw [Nat.beq_same, upd_a hx M hM hn]; rfl
theorem MapA.lt_nx {h : H} {id : K} {kt : Nat} {M : List ((Nat × Nat) × (Nat × Nat))} (hm : MapA h id kt M) (hc : HC h) : id.nat < h.nx.nat := by
  by_cases e : id.nat < h.nx.nat
  · exact e
  · have := hc id (by omega)
    rw [hm] at this; cases this
theorem MapA.grow {h h' : H} {id : K} {kt : Nat} {M : List ((Nat × Nat) × (Nat × Nat))} (hm : MapA h id kt M) (hc : HC h) (g : Grow h.nx.nat h h') : MapA h' id kt M := (g.old id (hm.lt_nx hc)).trans hm
structure Bf (L : List Bool) (s : Nat × Nat) (M : List ((Nat × Nat) × (Nat × Nat))) : Prop where
  lt : ∀ e ∈ M, in7 e.1
  nd : (M.map Prod.fst).Nodup
  beg : M[0]? = some (s, s)
  par : ∀ j x v, M[j]? = some (x, v) → 0 < j → x ≠ v ∧ ∃ i w, i < j ∧ M[i]? = some (v, w)
  rch : ∀ e ∈ M, Rch (Er L) s.1 s.2 e.1.1 e.1.2
theorem Bf.one {L : List Bool} {s : Nat × Nat} (hs : in7 s) : Bf L s [(s, s)] where
  lt := fun e he => by rw [List.mem_singleton.1 he]; exact hs
  nd := by simp
  beg := rfl
  par := fun j x v h h0 => by rw [List.getElem?_eq_none (by simp; omega)] at h; cases h
  rch := fun e he => by rw [List.mem_singleton.1 he]; exact .refl
theorem fcY_rch {L : List Bool} {x : Nat × Nat} {p : Nat × Nat} (h : p ∈ fcY L x.1 x.2) {a b : Nat} (k : Rch (Er L) a b x.1 x.2) : Rch (Er L) a b p.1 p.2 := by
  rcases mem_fcY.1 h with ⟨e, h3⟩ | ⟨e, h3⟩
  · unfold fcA at h3
    simp only [Bool.and_eq_true, Bool.not_eq_true'] at h3
    rw [e]
    exact k.out h3.1 (fun h => by have h : rat L x.2 p.2 = true := h; rw [h3.2] at h; cases h)
  · unfold fcB at h3
    simp only [Bool.and_eq_true, Bool.not_eq_true'] at h3
    rw [e]
    exact k.inn h3.2.1 (fun h => by have h : rat L p.1 x.1 = true := h; rw [h3.2.2] at h; cases h)
theorem Bf.len {L : List Bool} {s : Nat × Nat} {M : List ((Nat × Nat) × (Nat × Nat))} (k : Bf L s M) : M.length ≤ 49 := by
  have h := nodup_leO (m := arw fun _ _ => true) k.nd fun x hx => by
    obtain ⟨e, he, rfl⟩ := List.mem_map.1 hx
    exact mem_arw.2 ⟨(k.lt e he).1, (k.lt e he).2, rfl⟩
  rw [List.length_map] at h
  have := arI_len (g := fun _ _ => true)
  unfold arI at this
  rw [List.length_map] at this
  omega
theorem Bf.add {L : List Bool} {s : Nat × Nat} {M : List ((Nat × Nat) × (Nat × Nat))} (k : Bf L s M) {i : Nat} {x w p : Nat × Nat} (hi : M[i]? = some (x, w)) (hp : p ∈ fcY L x.1 x.2) (hn : p ∉ M.map Prod.fst) : Bf L s (M ++ [(p, x)]) := by
  have hx := List.mem_of_getElem? hi
  have hxl := k.lt _ hx
  have hpl := fcY_lt hxl.1 hxl.2 hp
  have hil : i < M.length := by
    by_cases e : i < M.length
    · exact e
    · rw [List.getElem?_eq_none (by omega)] at hi; cases hi
  have hne : M ≠ [] := fun e => by rw [e] at hil; simp at hil
  refine ⟨fun e he => ?_, ?_, ?_, fun j a b h h0 => ?_, fun e he => ?_⟩
  · rcases List.mem_append.1 he with he | he
    · exact k.lt e he
    · rw [List.mem_singleton.1 he]; exact ⟨hpl.1, hpl.2.1⟩
  · rw [List.map_append, List.nodup_append]
    refine ⟨k.nd, by simp, fun a ha b hb e => hn ?_⟩
    rw [List.map_cons, List.map_nil, List.mem_singleton] at hb
    have hb : b = p := hb
    rw [← hb, ← e]; exact ha
  · rw [List.getElem?_append_left (by omega)]; exact k.beg
  · by_cases hj : j < M.length
    · rw [List.getElem?_append_left hj] at h
      obtain ⟨q, i', w', h1, h2⟩ := k.par j a b h h0
      exact ⟨q, i', w', h1, by rw [List.getElem?_append_left (by omega)]; exact h2⟩
    · rw [List.getElem?_append_right (by omega)] at h
      have ej : j = M.length := by
        by_cases e : j = M.length
        · exact e
        · rw [List.getElem?_eq_none (by simp; omega)] at h; cases h
      subst ej
      simp at h
      obtain ⟨rfl, rfl⟩ := h
      refine ⟨fun e => hn (by rw [e]; exact List.mem_map.2 ⟨_, hx, rfl⟩), i, w, hil, by rw [List.getElem?_append_left hil]; exact hi⟩
  · rcases List.mem_append.1 he with he | he
    · exact k.rch e he
    · rw [List.mem_singleton.1 he]; exact fcY_rch hp (k.rch _ hx)
theorem Bf.all {L : List Bool} {s : Nat × Nat} {M : List ((Nat × Nat) × (Nat × Nat))} (k : Bf L s M) (hc : ∀ (j : Nat) (e : (Nat × Nat) × (Nat × Nat)), M[j]? = some e → ∀ p ∈ fcY L e.1.1 e.1.2, p ∈ M.map Prod.fst) {a b : Nat} (h : Rch (Er L) s.1 s.2 a b) : (a, b) ∈ M.map Prod.fst := by
  have cl : ∀ {x p : Nat × Nat}, x ∈ M.map Prod.fst → p ∈ fcY L x.1 x.2 → p ∈ M.map Prod.fst := fun {x p} hx hp => by
    obtain ⟨e, he, rfl⟩ := List.mem_map.1 hx
    obtain ⟨j, hj, rfl⟩ := List.getElem_of_mem he
    exact hc j _ (List.getElem?_eq_getElem hj) p hp
  induction h with
  | refl => exact List.mem_map.2 ⟨(s, s), List.mem_of_getElem? k.beg, rfl⟩
  | @out c d e _ h1 h2 ih =>
    have h2 : ¬ rat L d e = true := h2
    have h1 : rat L c e = true := h1
    exact cl (p := (c, e)) ih (mem_fcY.2 (.inl ⟨rfl, by unfold fcA; rw [h1]; simpa using h2⟩))
  | @inn c d e _ h1 h2 ih =>
    have h2 : ¬ rat L e c = true := h2
    have h1 : rat L e d = true := h1
    by_cases ee : e = c
    · rw [ee]; exact ih
    · exact cl (p := (e, d)) ih (mem_fcY.2 (.inr ⟨rfl, by unfold fcB; rw [h1, decide_eq_true ee]; simpa using h2⟩))
end Go.Ev
namespace Go.Ev
open Go Go.RowKit
noncomputable def f103_r0 : List EOper := [oG 4 (.mv (tG 0)), oG 5 (.len (tG 4)), oG 6 (.bin .sub (tG 5) (cG 1)), oG 2 (.as (cG 0)), oG 3 (.as (tG 6))]
noncomputable def f103_r1 : List EOper := [oG 7 (.mv (tG 2)), oG 8 (.mv (tG 3)), oG 9 (.bin .lss (tG 7) (tG 8))]
noncomputable def f103_r2 : List Stage := [⟨[oG 14 (.mv (tG 0)), oG 15 (.mv (tG 2)), oG 16 (.mv (tG 0)), oG 17 (.mv (tG 3)), oG 18 (.mv (tG 0)), oG 19 (.mv (tG 3)), oG 20 (.iads 2 (tG 18) (tG 19)), oG 21 (.ldn 2 (tG 20)), oG 22 (.mv (tG 0)), oG 23 (.mv (tG 2)), oG 24 (.iads 2 (tG 22) (tG 23)), oG 25 (.ldn 2 (tG 24)), oG 26 (.iads 2 (tG 14) (tG 15))], [], (some ⟨none, none, .st 2 (tG 26) (tG 21)⟩), []⟩, ⟨[oG 27 (.iads 2 (tG 16) (tG 17))], [oG 16 (.mv (tG 0)), oG 17 (.mv (tG 3))], (some ⟨none, none, .st 2 (tG 27) (tG 25)⟩), []⟩, ⟨[], [], none, []⟩]
noncomputable def f103_r3 : List EOper := [oG 10 (.mv (tG 2)), oG 11 (.bin .add (tG 10) (cG 1)), oG 12 (.mv (tG 3)), oG 13 (.bin .sub (tG 12) (cG 1)), oG 2 (.as (tG 11)), oG 3 (.as (tG 13))]
noncomputable def f103_l0 : EC := (.seq (.seq (.reg f103_r1) (.cond (tG 9) .skip (.exit 0))) (.seq (.block 1 (.draw f103_r2)) (.reg f103_r3)))
noncomputable def f103_c : EC := (.seq (.reg f103_r0) (.block 0 (.loop f103_l0)))
noncomputable def f103 : EF := ⟨28, [], f103_c, none⟩
theorem f103_rs : f103.rs = [] := of_eq_true (eq_self _)
noncomputable def f89_r0 : List EOper := [oG 2 (.box 2 (tG 0)), oG 4 (.as (.c .sn)), oG 5 (.as (.c (.b false)))]
noncomputable def f89_r1 : List EOper := [oG 9 (.ldn 2 (tG 2)), oG 10 (.call (fG 78) [(tG 9)]), oG 11 (.bslice 1 2 [(.i .i64 (.ofNat 0)), (.i .i64 (.ofNat 0))] [(0, 2, (tG 10))]), oG 6 (.as (tG 11))]
noncomputable def f89_r2 : List EOper := [oG 13 (.mv (tG 1)), oG 14 (.ldn 2 (tG 2)), oG 15 (.look 76 (.many [(some .i64), (some .i64)]) (.agg [(.i .i64 (.ofNat 0)), (.i .i64 (.ofNat 0))]) (tG 13) (tG 14) true), oG 12 (.mv (tG 15)), oG 16 (.ext (tG 12) 0), oG 17 (.ext (tG 12) 1), oG 7 (.alloc 2 [(.i .i64 (.ofNat 0)), (.i .i64 (.ofNat 0))]), ⟨none, none, .st 2 (tG 7) (tG 16)⟩, oG 8 (.as (tG 17))]
noncomputable def f89_r3 : List EOper := [oG 18 (.mv (tG 8)), oG 19 (.not (tG 18))]
noncomputable def f89_r4 : List EOper := [oG 4 (.as (.c .sn)), oG 5 (.as (.c (.b false)))]
noncomputable def f89_r5 : List EOper := [oG 20 (.ldn 2 (tG 7)), oG 21 (.ldn 2 (tG 2)), oG 22 (.eqk (.many [(some .i64), (some .i64)]) false (tG 20) (tG 21))]
noncomputable def f89_r6 : List EOper := [oG 23 (.mv (tG 6)), oG 24 (.call (fG 103) [(tG 23)])]
noncomputable def f89_r7 : List EOper := [oG 25 (.mv (tG 6)), oG 4 (.as (tG 25)), oG 5 (.as (.c (.b true)))]
noncomputable def f89_r8 : List EOper := [oG 26 (.mv (tG 6)), oG 27 (.ldn 2 (tG 7)), oG 28 (.call (fG 78) [(tG 27)]), oG 29 (.bslice 1 2 [(.i .i64 (.ofNat 0)), (.i .i64 (.ofNat 0))] [(0, 2, (tG 28))]), oG 30 (.app 2 (tG 26) (tG 29)), oG 6 (.as (tG 30))]
noncomputable def f89_r9 : List EOper := [oG 31 (.ldn 2 (tG 7)), ⟨none, none, .st 2 (tG 2) (tG 31)⟩]
noncomputable def f89_l0 : EC := (.block 1 (.seq (.reg f89_r2) (.seq (.seq (.reg f89_r3) (.cond (tG 19) (.seq (.reg f89_r4) .ret) .skip)) (.seq (.seq (.reg f89_r5) (.cond (tG 22) (.seq (.reg f89_r6) (.seq (.reg f89_r7) .ret)) .skip)) (.seq (.reg f89_r8) (.reg f89_r9))))))
noncomputable def f89_c : EC := (.seq (.reg f89_r0) (.seq (.reg f89_r1) (.block 0 (.loop f89_l0))))
noncomputable def f89 : EF := ⟨32, [.tmp (.ofNat 4), .tmp (.ofNat 5)], f89_c, none⟩
theorem f89_rs : f89.rs = [.tmp (.ofNat 4), .tmp (.ofNat 5)] := of_eq_true (eq_self _)
section
variable {fs : T EF} {h h' : H}
theorem iads_det {v p q : V} {i : Int} (a : ∀ (k : IntKind) (h1 : H), iadsV 2 v (.i k i) h1 = .ok p h1) (b : ∀ (k : IntKind) (h1 : H), iadsV 2 v (.i k i) h1 = .ok q h1) : p = q := by
  have e := (a .i64 ⟨.e, .nil⟩).symm.trans (b .i64 ⟨.e, .nil⟩)
  injection e
end
end Go.Ev
namespace Go.Ev
open Go Go.RowKit
noncomputable def f88_r0 : List EOper := [oG 3 (.box 2 (tG 0))]
noncomputable def f88_r1 : List EOper := [oG 12 (.mkmap 76), oG 13 (.ldn 2 (tG 3)), oG 14 (.ldn 2 (tG 3)), ⟨none, none, .mupd 76 (.many [(some .i64), (some .i64)]) (tG 12) (tG 13) (tG 14)⟩, oG 15 (.mv (tG 12)), oG 4 (.alloc 1 [.mn]), ⟨none, none, .st 1 (tG 4) (tG 15)⟩]
noncomputable def f88_r2 : List EOper := [oG 16 (.ldn 2 (tG 3)), oG 17 (.bslice 1 2 [(.i .i64 (.ofNat 0)), (.i .i64 (.ofNat 0))] [(0, 2, (tG 16))]), oG 5 (.alloc 1 [.sn]), ⟨none, none, .st 1 (tG 5) (tG 17)⟩]
noncomputable def f88_r3 : List EOper := [oG 6 (.alloc 1 [(.i .i64 (.ofNat 0))]), ⟨none, none, .st 1 (tG 6) (cG 0)⟩]
noncomputable def f88_r4 : List EOper := [oG 18 (.ld (tG 6)), oG 19 (.ld (tG 5)), oG 20 (.len (tG 19)), oG 21 (.bin .lss (tG 18) (tG 20))]
noncomputable def f88_r5 : List Stage := [⟨[oG 24 (.ldn 49 (tG 1)), oG 25 (.ld (tG 5)), oG 26 (.ld (tG 6)), oG 27 (.iads 2 (tG 25) (tG 26)), oG 28 (.ldn 2 (tG 27))], [], (some (oG 29 (.call (fG 86) [(tG 24), (tG 28)]))), []⟩, ⟨[], [], none, []⟩]
noncomputable def f88_r6 : List EOper := [oG 7 (.alloc 2 [(.i .i64 (.ofNat 0)), (.i .i64 (.ofNat 0))]), ⟨none, none, .st 2 (tG 7) (tG 30)⟩]
noncomputable def f88_a0 : EC := (.reg f88_r6)
noncomputable def f88_r7 : List EOper := [oG 32 (.ld (tG 4)), oG 33 (.ldn 2 (tG 7)), oG 34 (.look 76 (.many [(some .i64), (some .i64)]) (.agg [(.i .i64 (.ofNat 0)), (.i .i64 (.ofNat 0))]) (tG 32) (tG 33) true), oG 31 (.mv (tG 34)), oG 35 (.ext (tG 31) 0), oG 36 (.ext (tG 31) 1), oG 8 (.alloc 2 [(.i .i64 (.ofNat 0)), (.i .i64 (.ofNat 0))]), ⟨none, none, .st 2 (tG 8) (tG 35)⟩, oG 9 (.as (tG 36))]
noncomputable def f88_r8 : List EOper := [oG 37 (.mv (tG 9))]
noncomputable def f88_r9 : List Stage := [⟨[oG 38 (.ld (tG 4)), oG 39 (.ldn 2 (tG 7)), oG 40 (.ld (tG 5)), oG 41 (.ld (tG 6)), oG 42 (.iads 2 (tG 40) (tG 41)), oG 43 (.ldn 2 (tG 42))], [], (some ⟨none, none, .mupd 76 (.many [(some .i64), (some .i64)]) (tG 38) (tG 39) (tG 43)⟩), []⟩, ⟨[], [], none, []⟩]
noncomputable def f88_r10 : List EOper := [oG 44 (.ld (tG 5)), oG 45 (.ldn 2 (tG 7)), oG 46 (.bslice 1 2 [(.i .i64 (.ofNat 0)), (.i .i64 (.ofNat 0))] [(0, 2, (tG 45))]), oG 47 (.app 2 (tG 44) (tG 46)), ⟨none, none, .st 1 (tG 5) (tG 47)⟩]
noncomputable def f88_r11 : List Stage := [⟨[oG 48 (.ldn 2 (tG 7)), oG 49 (.ldn 2 (tG 3))], [], (some (oG 50 (.call (fG 77) [(tG 49)]))), []⟩, ⟨[oG 51 (.eqk (.many [(some .i64), (some .i64)]) false (tG 48) (tG 50))], [oG 48 (.ldn 2 (tG 7))], none, []⟩]
noncomputable def f88_b0 : EC := (.block 3 (.seq (.seq (.reg f88_r7) (.seq (.reg f88_r8) (.cond (tG 37) (.exit 3) .skip))) (.seq (.draw f88_r9) (.seq (.reg f88_r10) (.seq (.draw f88_r11) (.cond (tG 51) (.exit 0) .skip))))))
noncomputable def f88_r12 : List EOper := [oG 52 (.ld (tG 6))]
noncomputable def f88_r13 : List EOper := [oG 6 (.alloc 1 [(.i .i64 (.ofNat 0))]), ⟨none, none, .st 1 (tG 6) (tG 52)⟩]
noncomputable def f88_r14 : List EOper := [oG 22 (.ld (tG 6)), oG 23 (.bin .add (tG 22) (cG 1)), ⟨none, none, .st 1 (tG 6) (tG 23)⟩]
noncomputable def f88_l0 : EC := (.seq (.seq (.reg f88_r4) (.cond (tG 21) .skip (.exit 0))) (.seq (.block 1 (.seq (.draw f88_r5) (.block 2 (.rangeF (tG 29) [(.ofNat 30)] f88_a0 f88_b0)))) (.seq (.seq (.reg f88_r12) (.reg f88_r13)) (.reg f88_r14))))
noncomputable def f88_r15 : List Stage := [⟨[oG 54 (.ldn 2 (tG 3)), oG 56 (.ld (tG 4))], [], (some (oG 55 (.call (fG 77) [(tG 54)]))), []⟩, ⟨[], [oG 56 (.ld (tG 4))], (some (oG 57 (.call (fG 89) [(tG 55), (tG 56)]))), []⟩, ⟨[oG 53 (.mv (tG 57)), oG 58 (.ext (tG 53) 0), oG 59 (.ext (tG 53) 1)], [], (some (oG 10 (.as (tG 58)))), []⟩, ⟨[], [oG 59 (.ext (tG 53) 1)], (some (oG 11 (.as (tG 59)))), []⟩, ⟨[], [], none, []⟩]
noncomputable def f88_r16 : List EOper := [oG 60 (.mv (tG 11)), oG 61 (.mv (tG 60)), gG 62 61 true (.ld (tG 2)), gG 63 61 true (.isnil false (tG 62)), gG 64 61 true (.mv (tG 63)), gG 65 64 false (.mv (tG 10)), gG 66 64 false (.len (tG 65)), gG 67 64 false (.ld (tG 2)), gG 68 64 false (.len (tG 67)), gG 69 64 false (.bin .lss (tG 66) (tG 68)), gG 70 61 true (.pick (tG 64) (.c (.b true)) (tG 69)), oG 71 (.pick (tG 61) (tG 70) (.c (.b false)))]
noncomputable def f88_r17 : List EOper := [oG 72 (.mv (tG 10)), ⟨none, none, .st 1 (tG 2) (tG 72)⟩]
noncomputable def f88_c : EC := (.seq (.reg f88_r0) (.scope (.seq (.reg f88_r1) (.seq (.reg f88_r2) (.seq .skip (.seq (.seq (.reg f88_r3) (.block 0 (.loop f88_l0))) (.seq (.draw f88_r15) (.seq (.reg f88_r16) (.cond (tG 71) (.reg f88_r17) .skip)))))))))
noncomputable def f88 : EF := ⟨73, [], f88_c, none⟩
theorem f88_rs : f88.rs = [] := of_eq_true (eq_self _)
section
variable {fs : T EF} {h h' : H}
theorem cells1_m {id : K} : cellsN 1 (.m id) = some [.m id] := rfl
def keys (M : List ((Nat × Nat) × (Nat × Nat))) : List (Nat × Nat) := M.map Prod.fst
def keyI (M : List ((Nat × Nat) × (Nat × Nat))) : List (Int × Int) := (keys M).map toI
theorem keyI_len {M : List ((Nat × Nat) × (Nat × Nat))} : (keyI M).length = M.length := by unfold keyI keys; rw [List.length_map, List.length_map]
theorem keyI_at {M : List ((Nat × Nat) × (Nat × Nat))} {i : Nat} {x w : Nat × Nat} (h : M[i]? = some (x, w)) : (keyI M)[i]? = some (toI x) := by
  unfold keyI keys
  rw [List.getElem?_map, List.getElem?_map, h]; rfl
def Frm (u : V) (b : Nat) (u' : V) : Prop := ∀ id off n sz, u' = .sl id off n sz → (∃ off n sz, u = .sl id off n sz) ∨ b < id.nat
theorem Frm.notIn {u u' : V} {b : Nat} {id : K} (hf : Frm u b u') (h1 : NotIn id u) (h2 : id.nat ≤ b) : NotIn id u' := fun off n sz e => by
  rcases hf id off n sz e with ⟨_, _, _, h⟩ | h
  · exact h1 _ _ _ h
  · omega
def Clo (L : List Bool) (M : List ((Nat × Nat) × (Nat × Nat))) (i : Nat) : Prop := ∀ (j : Nat) (e : (Nat × Nat) × (Nat × Nat)), j < i → M[j]? = some e → ∀ p ∈ fcY L e.1.1 e.1.2, p ∈ keys M
structure QI (L : List Bool) (s t : Nat × Nat) (id3 idm idmv : K) (h0 : H) (M : List ((Nat × Nat) × (Nat × Nat))) (h1 : H) : Prop where
  bf : Bf L s M
  gr : Grow h0.nx.nat h0 h1
  c3 : h1.get id3 = .cells 2 [.i .i64 (s.1 : Int), .i .i64 (s.2 : Int)]
  cm : h1.get idmv = .cells 1 [.m idm]
  mp : MapA h1 idm 76 M
structure QQ (t : Nat × Nat) (b : Nat) (idq : K) (M : List ((Nat × Nat) × (Nat × Nat))) (u : V) (h1 : H) : Prop where
  no : t ∉ keys M
  cq : h1.get idq = .cells 1 [u]
  sk : Sk 2 qE h1 u (keyI M)
  own : Own b u
  nq : NotIn idq u
theorem beq_aV {x : Nat × Nat} : beqV (aV x) (aV x) = true := by
  exact beq_2
def swN (x : Nat × Nat) : Nat × Nat := (x.2, x.1)
end
end Go.Ev
namespace Go.Ev
open Go Go.RowKit
noncomputable def f20_r0 : List EOper := [oG 4 (.box 2 (tG 1)), oG 5 (.box 2 (tG 2)), oG 6 (.as (.c (.b false)))]
noncomputable def f20_r1 : List EOper := [oG 7 (.ldn 2 (tG 4)), oG 8 (.ldn 2 (tG 5)), oG 9 (.eqk (.many [(some .i64), (some .i64)]) false (tG 7) (tG 8))]
noncomputable def f20_r2 : List EOper := [oG 6 (.as (.c (.b true)))]
noncomputable def f20_r3 : List EOper := [oG 10 (.iadr 2 1 (tG 4) (cG 0)), oG 11 (.ld (tG 10)), oG 12 (.iadr 2 1 (tG 5) (cG 0)), oG 13 (.ld (tG 12)), oG 14 (.bin .eql (tG 11) (tG 13))]
noncomputable def f20_r4 : List EOper := [oG 15 (.mv (tG 0)), oG 16 (.iadr 2 1 (tG 4) (cG 1)), oG 17 (.ld (tG 16)), oG 18 (.iadr 2 1 (tG 5) (cG 1)), oG 19 (.ld (tG 18)), oG 20 (.call (fG 52) [(tG 15), (tG 17), (tG 19)]), oG 21 (.not (tG 20)), oG 6 (.as (tG 21))]
noncomputable def f20_r5 : List EOper := [oG 22 (.iadr 2 1 (tG 4) (cG 1)), oG 23 (.ld (tG 22)), oG 24 (.iadr 2 1 (tG 5) (cG 1)), oG 25 (.ld (tG 24)), oG 26 (.bin .eql (tG 23) (tG 25)), oG 27 (.mv (tG 26)), gG 28 27 true (.mv (tG 0)), gG 29 27 true (.iadr 2 1 (tG 4) (cG 0)), gG 30 27 true (.ld (tG 29)), gG 31 27 true (.iadr 2 1 (tG 5) (cG 0)), gG 32 27 true (.ld (tG 31)), gG 33 27 true (.call (fG 52) [(tG 28), (tG 30), (tG 32)]), gG 34 27 true (.not (tG 33)), oG 35 (.pick (tG 27) (tG 34) (.c (.b false))), oG 6 (.as (tG 35))]
noncomputable def f20_c : EC := (.seq (.reg f20_r0) (.seq (.seq (.reg f20_r1) (.cond (tG 9) (.seq (.reg f20_r2) .ret) .skip)) (.seq (.seq (.reg f20_r3) (.cond (tG 14) (.seq (.reg f20_r4) .ret) .skip)) (.seq (.reg f20_r5) .ret))))
noncomputable def f20 : EF := ⟨36, [.tmp (.ofNat 6)], f20_c, none⟩
theorem f20_rs : f20.rs = [.tmp (.ofNat 6)] := of_eq_true (eq_self _)
noncomputable def f53_r0 : List EOper := [oG 4 (.as (.c .sn))]
noncomputable def f53_r1 : List EOper := [oG 5 (.as (.c .sn))]
noncomputable def f53_r2 : List EOper := [oG 6 (.as (cG 0))]
noncomputable def f53_r3 : List EOper := [oG 8 (.mv (tG 6)), oG 9 (.mv (tG 0)), oG 10 (.bin .lss (tG 8) (tG 9))]
noncomputable def f53_r4 : List EOper := [oG 7 (.as (cG 0))]
noncomputable def f53_r5 : List EOper := [oG 13 (.mv (tG 7)), oG 14 (.mv (tG 0)), oG 15 (.bin .lss (tG 13) (tG 14))]
noncomputable def f53_r6 : List EOper := [oG 18 (.mv (tG 6)), oG 19 (.mv (tG 7)), oG 20 (.bin .neq (tG 18) (tG 19)), oG 21 (.mv (tG 20)), gG 22 21 true (.mv (tG 1)), gG 23 21 true (.mv (tG 6)), gG 24 21 true (.mv (tG 7)), gG 25 21 true (.call (fG 52) [(tG 22), (tG 23), (tG 24)]), oG 26 (.pick (tG 21) (tG 25) (.c (.b false)))]
noncomputable def f53_r7 : List EOper := [oG 27 (.mv (tG 5)), oG 28 (.mv (tG 6)), oG 29 (.mv (tG 7)), oG 30 (.build [(.i .i64 (.ofNat 0)), (.i .i64 (.ofNat 0))] [(0, 1, (tG 28)), (1, 1, (tG 29))]), oG 31 (.bslice 1 2 [(.i .i64 (.ofNat 0)), (.i .i64 (.ofNat 0))] [(0, 2, (tG 30))]), oG 32 (.app 2 (tG 27) (tG 31)), oG 5 (.as (tG 32))]
noncomputable def f53_r8 : List EOper := [oG 16 (.mv (tG 7)), oG 17 (.bin .add (tG 16) (cG 1)), oG 7 (.as (tG 17))]
noncomputable def f53_l0 : EC := (.seq (.seq (.reg f53_r5) (.cond (tG 15) .skip (.exit 2))) (.seq (.block 3 (.seq (.reg f53_r6) (.cond (tG 26) (.reg f53_r7) .skip))) (.reg f53_r8)))
noncomputable def f53_r9 : List EOper := [oG 11 (.mv (tG 6)), oG 12 (.bin .add (tG 11) (cG 1)), oG 6 (.as (tG 12))]
noncomputable def f53_l1 : EC := (.seq (.seq (.reg f53_r3) (.cond (tG 10) .skip (.exit 0))) (.seq (.block 1 (.seq (.reg f53_r4) (.block 2 (.loop f53_l0)))) (.reg f53_r9)))
noncomputable def f53_r10 : List EOper := [oG 33 (.mv (tG 5)), oG 4 (.as (tG 33))]
noncomputable def f53_c : EC := (.seq (.reg f53_r0) (.seq (.reg f53_r1) (.seq (.seq (.reg f53_r2) (.block 0 (.loop f53_l1))) (.seq (.reg f53_r10) .ret))))
noncomputable def f53 : EF := ⟨34, [.tmp (.ofNat 4)], f53_c, none⟩
theorem f53_rs : f53.rs = [.tmp (.ofNat 4)] := of_eq_true (eq_self _)
section
variable {fs : T EF} {h h' : H}
theorem jn_sy {n : Nat} {g : Nat → Nat → Bool} (hg : Gph n g) {a b : Nat} : decide ((min (a : Int) (b : Int), max (a : Int) (b : Int)) ∈ arI g) = rat (gR (arI g)) a b := by
  rw [Bool.eq_iff_iff, decide_eq_true_eq, gR_arI hg]
  unfold sy
  rw [Bool.or_eq_true]
  have h7 := hg.n7
  by_cases h : a ≤ b
  · rw [show min (a : Int) (b : Int) = (a : Int) by omega, show max (a : Int) (b : Int) = (b : Int) by omega, mem_arI']
    exact ⟨fun h => .inl h.2.2, fun h1 => h1.elim (fun h1 => by have := hg.up _ _ h1; exact ⟨by omega, by omega, h1⟩) (fun h1 => by have := hg.up _ _ h1; omega)⟩
  · rw [show min (a : Int) (b : Int) = (b : Int) by omega, show max (a : Int) (b : Int) = (a : Int) by omega, mem_arI']
    exact ⟨fun h => .inr h.2.2, fun h1 => h1.elim (fun h1 => by have := hg.up _ _ h1; omega) (fun h1 => by have := hg.up _ _ h1; exact ⟨by omega, by omega, h1⟩)⟩
theorem inI_mm {a b : Nat} (ha : a < 7) (hb : b < 7) : inI (min (a : Int) (b : Int), max (a : Int) (b : Int)) := by
  by_cases h : a ≤ b
  · rw [show min (a : Int) (b : Int) = (a : Int) by omega, show max (a : Int) (b : Int) = (b : Int) by omega]; exact inI_nat ha hb
  · rw [show min (a : Int) (b : Int) = (b : Int) by omega, show max (a : Int) (b : Int) = (a : Int) by omega]; exact inI_nat hb ha
def frcB (G : List Bool) (x y : Nat × Nat) : Bool := decide (x = y) || (if x.1 = y.1 then !rat G x.2 y.2 else (decide (x.2 = y.2) && !rat G x.1 y.1))
structure CallsJn (fs : T EF) : Prop where
  c40 : fs.get (K.ofNat 40) = some f40
  c52 : fs.get (K.ofNat 52) = some f52
theorem f20_ret {n : Nat} {v : V} {g : Nat → Nat → Bool} {x y : Nat × Nat} (k : CallsJn fs) (hg : Gph n g) (hv : Srp h v (arI g)) (hx : in7 x) (hy : in7 y) (hc : HC h) : Ret fs f20 [v, aV x, aV y] h fun r h' => r = .b (frcB (gR (arI g)) x y) ∧ Grow h.nx.nat h h' := by
  have hlb := arI_len (g := g)
  apply ret_of rfl
  show W fs none f20_c _ _ _
  unfold f20_c
  have cx : cellsN 2 (aV x) = some [.i .i64 (x.1 : Int), .i .i64 (x.2 : Int)] := rfl
  have cy : cellsN 2 (aV y) = some [.i .i64 (y.1 : Int), .i .i64 (y.2 : Int)] := rfl
  have n1 := nx_new h (.cells 2 [.i .i64 (x.1 : Int), .i .i64 (x.2 : Int)])
  have g1 : Grow h.nx.nat h (h.new (.cells 2 [.i .i64 (x.1 : Int), .i .i64 (x.2 : Int)])) := Grow.new (Nat.le_refl _) _
  have e1 : (h.new (.cells 2 [.i .i64 (x.1 : Int), .i .i64 (x.2 : Int)])).get h.nx = .cells 2 [.i .i64 (x.1 : Int), .i .i64 (x.2 : Int)] := get_new_same
  simp (disch := omega) only [f20_r0, Nat.reduceEqDiff, ↓reduceIte, cx, cy, bz]
  generalize h.new (.cells 2 [.i .i64 (x.1 : Int), .i .i64 (x.2 : Int)]) = h1 at *
  have n2 := nx_new h1 (.cells 2 [.i .i64 (y.1 : Int), .i .i64 (y.2 : Int)])
  have g2 : Grow h1.nx.nat h1 (h1.new (.cells 2 [.i .i64 (y.1 : Int), .i .i64 (y.2 : Int)])) := Grow.new (Nat.le_refl _) _
  have e2 : (h1.new (.cells 2 [.i .i64 (y.1 : Int), .i .i64 (y.2 : Int)])).get h1.nx = .cells 2 [.i .i64 (y.1 : Int), .i .i64 (y.2 : Int)] := get_new_same
  generalize h1.new (.cells 2 [.i .i64 (y.1 : Int), .i .i64 (y.2 : Int)]) = h2 at *
  have a1 := (g2.old h.nx (by omega)).trans e1
  have l1 := ldn2 a1
  have l2 := ldn2 e2
  have l10 := ld20 a1
  have l11 := ld21 a1
  have l20 := ld20 e2
  have l21 := ld21 e2
  have hax : V.agg [.i .i64 (x.1 : Int), .i .i64 (x.2 : Int)] = aV x := rfl
  have hay : V.agg [.i .i64 (y.1 : Int), .i .i64 (y.2 : Int)] = aV y := rfl
  have hq := keyEq_aV hx hy
  have gA : Grow h.nx.nat h h2 := g1.trans (g2.low (by omega))
  have hc2 := gA.hc hc
  have hv2 := hv.grow hc gA
  by_cases e : x = y
  · rw [decide_eq_true e] at hq
    simp (disch := omega) only [f20_r1, f20_r2, f20_rs, Option.some.injEq, exists_eq_left', Nat.reduceEqDiff, ↓reduceIte, Bool.not_true, l1, l2, hax, hay, hq, bz]
    exact ⟨by unfold frcB; rw [decide_eq_true e]; rfl, gA⟩
  · rw [decide_eq_false e] at hq
    by_cases e0 : x.1 = y.1
    · have d0 : decide ((x.1 : Int) = (y.1 : Int)) = true := decide_eq_true (by omega)
      simp (disch := omega) only [f20_r1, f20_r3, f20_r4, Nat.reduceEqDiff, ↓reduceIte, Bool.false_eq_true, l1, l2, hax, hay, hq, cond_false, l10, l20, l11, l21, d0, bz]
      refine (callP_0 (ef := f52) k.c52 rfl (f52_ret k.c40 hv2 inI_arI (inI_mm hx.2 hy.2) (by omega) hc2)).mono ?_
      rintro r h3 ⟨rfl, g3⟩
      rw [jn_sy hg]
      simp (disch := omega) only [f20_rs, Option.some.injEq, exists_eq_left', ↓reduceIte, bz]
      exact ⟨by unfold frcB; rw [decide_eq_false e, if_pos e0]; rfl, gA.trans (g3.low gA.nx)⟩
    · have d0 : decide ((x.1 : Int) = (y.1 : Int)) = false := decide_eq_false (by omega)
      by_cases e1_ : x.2 = y.2
      · have d1 : decide ((x.2 : Int) = (y.2 : Int)) = true := decide_eq_true (by omega)
        simp (disch := omega) only [f20_r1, f20_r3, f20_r5, Nat.reduceEqDiff, ↓reduceIte, Bool.false_eq_true, l1, l2, hax, hay, hq, cond_false, l10, l20, l11, l21, d0, d1, bz]
        refine (callP_0 (ef := f52) k.c52 rfl (f52_ret k.c40 hv2 inI_arI (inI_mm hx.1 hy.1) (by omega) hc2)).mono ?_
        rintro r h3 ⟨rfl, g3⟩
        rw [jn_sy hg]
        simp (disch := omega) only [f20_rs, Option.some.injEq, exists_eq_left', Nat.reduceEqDiff, ↓reduceIte, bz]
        exact ⟨by unfold frcB; rw [decide_eq_false e, if_neg e0, decide_eq_true e1_]; rfl, gA.trans (g3.low gA.nx)⟩
      · have d1 : decide ((x.2 : Int) = (y.2 : Int)) = false := decide_eq_false (by omega)
        simp (disch := omega) only [f20_r1, f20_r3, f20_r5, f20_rs, Option.some.injEq, exists_eq_left', Nat.reduceEqDiff, ↓reduceIte, Bool.false_eq_true, l1, l2, hax, hay, hq, cond_false, l10, l20, l11, l21, d0, d1, bz]
        exact ⟨by unfold frcB; rw [decide_eq_false e, if_neg e0, decide_eq_false e1_]; rfl, gA⟩
def f53_A (h0 : H) (n : Nat) (v : V) (G : Nat → Nat → Bool) (a : Nat) (fr : Fr) (h1 : H) : Prop := a ≤ n ∧ ∃ u, Sk 2 qE h1 u (arP G (7 * a)) ∧ Own h0.nx.nat u ∧ Grow h0.nx.nat h0 h1 ∧ fr.get (K.ofNat 0) = some (.i .i64 (n : Int)) ∧ fr.get (K.ofNat 1) = some (v) ∧ fr.get (K.ofNat 5) = some (u) ∧ fr.get (K.ofNat 6) = some (.i .i64 (a : Int))
def f53_B (h0 : H) (n : Nat) (v : V) (G : Nat → Nat → Bool) (a : Nat) (b : Nat) (fr : Fr) (h1 : H) : Prop := b ≤ n ∧ ∃ u, Sk 2 qE h1 u (arP G (7 * a + b)) ∧ Own h0.nx.nat u ∧ Grow h0.nx.nat h0 h1 ∧ fr.get (K.ofNat 0) = some (.i .i64 (n : Int)) ∧ fr.get (K.ofNat 1) = some (v) ∧ fr.get (K.ofNat 5) = some (u) ∧ fr.get (K.ofNat 6) = some (.i .i64 (a : Int)) ∧ fr.get (K.ofNat 7) = some (.i .i64 (b : Int))
theorem f53_ret {n : Nat} {v : V} {g : Nat → Nat → Bool} (k : CallsJn fs) (hg : Gph n g) (hv : Srp h v (arI g)) (hc : HC h) : Ret fs f53 [.i .i64 (n : Int), v] h fun r h' => Sk 2 qE h' r (arI (rat (gR (arI g)))) ∧ Own h.nx.nat r ∧ Grow h.nx.nat h h' := by
  have hlb := arI_len (g := g)
  have hn7 := hg.n7
  apply ret_of rfl
  show W fs none f53_c _ _ _
  unfold f53_c
  simp (disch := omega) only [f53_r0, f53_r1, f53_r2, bz]
  refine W_loop (f53_A h n v (rat (gR (arI g)))) (fun a => n - a) ?_ 0 ⟨by omega, .sn, Sk.nil, Own.sn, Grow.refl _ _, by simp (disch := omega) only [getK_set, Nat.reduceEqDiff, ↓reduceIte, and_self, Int.natCast_zero]⟩
  rintro a fr h1 ⟨ha, u, hs, ho, hG, g0, g1, g5, g6⟩
  unfold f53_l1
  by_cases hlt : a < n
  · have d0 : decide ((a : Int) < (n : Int)) = true := decide_eq_true (by omega)
    simp (disch := omega) only [f53_r3, f53_r4, Nat.reduceEqDiff, ↓reduceIte, g0, g6, d0, bz]
    refine W_loop (f53_B h n v (rat (gR (arI g))) a) (fun b => n - b) ?_ 0 ⟨by omega, u, hs, ho, hG, by simp (disch := omega) only [getK_set, Nat.reduceEqDiff, ↓reduceIte, g0, g1, g5, g6, and_self, Int.natCast_zero]⟩
    clear hs ho hG g0 g1 g5 g6 fr
    rintro b fr h2 ⟨hb, u, hs, ho, hG, g0, g1, g5, g6, g7⟩
    have hc2 := hG.hc hc
    have hv2 := hv.grow hc hG
    unfold f53_l0
    by_cases hlt2 : b < n
    · have d1 : decide ((b : Int) < (n : Int)) = true := decide_eq_true (by omega)
      have hsu := arP_succ (g := rat (gR (arI g))) (a := a) (b := b) (by omega)
      by_cases e : a = b
      · have d2 : decide ((a : Int) ≠ (b : Int)) = false := decide_eq_false (by omega)
        have hno : ¬ rat (gR (arI g)) a b = true := fun h => (Er_lt hg h).2.2 e
        rw [if_neg hno, List.append_nil] at hsu
        simp (disch := omega) only [f53_r5, f53_r6, f53_r8, Nat.reduceEqDiff, ↓reduceIte, Bool.false_eq_true, g0, g6, g7, d1, d2, bz]
        exact ⟨b + 1, by omega, by omega, u, by rw [hsu]; exact hs, ho, hG, by simp (disch := omega) only [getK_set, Nat.reduceEqDiff, ↓reduceIte, g0, g1, g5, g6, and_self, Int.natCast_add, Int.natCast_one]⟩
      · have d2 : decide ((a : Int) ≠ (b : Int)) = true := decide_eq_true (by omega)
        simp (disch := omega) only [f53_r5, f53_r6, Nat.reduceEqDiff, ↓reduceIte, g0, g1, g6, g7, d1, d2, bz]
        refine (callP_0 (ef := f52) k.c52 rfl (f52_ret k.c40 hv2 inI_arI (inI_mm (by omega) (by omega)) (by omega) hc2)).mono ?_
        rintro r h3 ⟨rfl, g3⟩
        rw [jn_sy hg]
        have hc3 := g3.hc hc2
        have hs3 := hs.grow hc2 g3
        have gB := hG.trans (g3.low hG.nx)
        cases hr : rat (gR (arI g)) a b with
        | false =>
          rw [if_neg (by rw [hr]; simp), List.append_nil] at hsu
          simp (disch := omega) only [f53_r8, Nat.reduceEqDiff, ↓reduceIte, Bool.false_eq_true, g7, bz]
          exact ⟨b + 1, by omega, by omega, u, by rw [hsu]; exact hs3, ho, gB, by simp (disch := omega) only [getK_set, Nat.reduceEqDiff, ↓reduceIte, g0, g1, g5, g6, and_self, Int.natCast_add, Int.natCast_one]⟩
        | true =>
          rw [if_pos hr] at hsu
          have hl := arP_len (g := rat (gR (arI g))) (i := 7 * a + b)
          obtain ⟨u', h4, a1, s1, o1, gr1, _⟩ := Sk.push qE_len (by omega) (x := ((a : Int), (b : Int))) hs3 ho gB.nx hc3 (by omega)
          have a1' : appV 2 (h3.new (.cells (1 * 2) [.i .i64 (a : Int), .i .i64 (b : Int)])) u (.sl h3.nx 0 1 2) = .ok u' h4 := a1
          have cp : cellsN 2 (.agg [.i .i64 (a : Int), .i .i64 (b : Int)]) = some [.i .i64 (a : Int), .i .i64 (b : Int)] := rfl
          have sp : setMany [V.i .i64 0, V.i .i64 0] 0 [V.i .i64 (a : Int), V.i .i64 (b : Int)] = [V.i .i64 (a : Int), V.i .i64 (b : Int)] := rfl
          simp (disch := omega) only [f53_r7, f53_r8, Nat.reduceEqDiff, ↓reduceIte, g5, g6, g7, fill_c, cp, sp, a1', bz]
          exact ⟨b + 1, by omega, by omega, u', by rw [hsu]; exact s1, o1, gB.trans gr1, by simp (disch := omega) only [getK_set, Nat.reduceEqDiff, ↓reduceIte, g0, g1, g6, and_self, Int.natCast_add, Int.natCast_one]⟩
    · have d1 : decide ((b : Int) < (n : Int)) = false := decide_eq_false (by omega)
      have eb : b = n := by omega
      have e1 : arP (rat (gR (arI g))) (7 * (a + 1)) = arP (rat (gR (arI g))) (7 * a + b) := arP_row (by omega) (fun d hd _ => by
        cases e : rat (gR (arI g)) a d with
        | false => rfl
        | true => have := (Er_lt hg e).2.1; omega)
      simp (disch := omega) only [f53_r5, f53_r9, Nat.reduceEqDiff, ↓reduceIte, Bool.false_eq_true, g0, g6, g7, d1, bz]
      exact ⟨a + 1, by omega, by omega, u, by rw [e1]; exact hs, ho, hG, by simp (disch := omega) only [getK_set, Nat.reduceEqDiff, ↓reduceIte, g0, g1, g5, and_self, Int.natCast_add, Int.natCast_one]⟩
  · have d0 : decide ((a : Int) < (n : Int)) = false := decide_eq_false (by omega)
    have ea : a = n := by omega
    have e1 : arP (rat (gR (arI g))) (7 * a) = arI (rat (gR (arI g))) := arP_end (by omega) (fun x d hx _ hd => by
      cases e : rat (gR (arI g)) x d with
      | false => rfl
      | true => have := (Er_lt hg e).1; omega)
    rw [e1] at hs
    simp (disch := omega) only [f53_r3, f53_r10, f53_rs, Option.some.injEq, exists_eq_left', Nat.reduceEqDiff, ↓reduceIte, Bool.false_eq_true, g0, g5, g6, d0, bz]
    exact ⟨hs, ho, hG⟩
end
end Go.Ev
namespace Go.Ev
open Go Go.RowKit
section
variable {fs : T EF} {h h' : H} {b : Nat}
end
end Go.Ev
namespace Go.Ev
open Go Go.RowKit
noncomputable def f14_r0 : List EOper := [oG 4 (.as (.c (.b false)))]
noncomputable def f14_r1 : List EOper := [oG 6 (.mv (tG 0)), oG 7 (.len (tG 6)), oG 8 (.mv (tG 1)), oG 9 (.len (tG 8)), oG 10 (.bin .neq (tG 7) (tG 9))]
noncomputable def f14_r2 : List EOper := [oG 4 (.as (.c (.b false)))]
noncomputable def f14_r3 : List EOper := [oG 5 (.as (cG 0))]
noncomputable def f14_r4 : List EOper := [oG 11 (.mv (tG 5)), oG 12 (.mv (tG 0)), oG 13 (.len (tG 12)), oG 14 (.bin .lss (tG 11) (tG 13))]
noncomputable def f14_r5 : List Stage := [⟨[oG 17 (.mv (tG 0)), oG 18 (.mv (tG 5)), oG 19 (.iads 2 (tG 17) (tG 18)), oG 20 (.ldn 2 (tG 19)), oG 21 (.mv (tG 1)), oG 22 (.mv (tG 5)), oG 23 (.iads 2 (tG 21) (tG 22)), oG 24 (.ldn 2 (tG 23)), oG 25 (.eqk (.many [(some .i64), (some .i64)]) true (tG 20) (tG 24))], [], none, []⟩]
noncomputable def f14_r6 : List EOper := [oG 4 (.as (.c (.b false)))]
noncomputable def f14_r7 : List EOper := [oG 15 (.mv (tG 5)), oG 16 (.bin .add (tG 15) (cG 1)), oG 5 (.as (tG 16))]
noncomputable def f14_l0 : EC := (.seq (.seq (.reg f14_r4) (.cond (tG 14) .skip (.exit 0))) (.seq (.block 1 (.seq (.draw f14_r5) (.cond (tG 25) (.seq (.reg f14_r6) .ret) .skip))) (.reg f14_r7)))
noncomputable def f14_r8 : List EOper := [oG 4 (.as (.c (.b true)))]
noncomputable def f14_c : EC := (.seq (.reg f14_r0) (.seq (.seq (.reg f14_r1) (.cond (tG 10) (.seq (.reg f14_r2) .ret) .skip)) (.seq (.seq (.reg f14_r3) (.block 0 (.loop f14_l0))) (.seq (.reg f14_r8) .ret))))
noncomputable def f14 : EF := ⟨26, [.tmp (.ofNat 4)], f14_c, none⟩
theorem f14_rs : f14.rs = [.tmp (.ofNat 4)] := of_eq_true (eq_self _)
section
variable {fs : T EF} {h h' : H} {b : Nat}
end
end Go.Ev
namespace Go.Ev
open Go Go.RowKit
section
variable {fs : T EF} {h h' : H} {b : Nat}
def f14_I (h0 : H) (v w : V) (A : List (Int × Int)) (i : Nat) (fr : Fr) (h1 : H) : Prop := i ≤ A.length ∧ h1 = h0 ∧ fr.get (K.ofNat 0) = some (v) ∧ fr.get (K.ofNat 1) = some (w) ∧ fr.get (K.ofNat 5) = some (.i .i64 (i : Int))
theorem f14_ret {v w : V} {A : List (Int × Int)} (hv : Srp h v A) (hw : Srp h w A) (hA : ∀ x ∈ A, inI x) (hl : A.length ≤ 1000000) : Ret fs f14 [v, w] h fun r h' => r = .b true ∧ h' = h := by
  apply ret_of rfl
  show W fs none f14_c _ _ _
  unfold f14_c
  have hlv := hv.len
  have hlw := hw.len
  have nel : decide ((A.length : Int) ≠ (A.length : Int)) = false := by simp
  simp (disch := omega) only [f14_r0, f14_r1, f14_r3, Nat.reduceEqDiff, ↓reduceIte, Bool.false_eq_true, hlv, hlw, nel, bz]
  refine W_loop (f14_I h v w A) (fun i => A.length - i) ?_ 0 ⟨by omega, rfl, by simp (disch := omega) only [getK_set, Nat.reduceEqDiff, ↓reduceIte, and_self, Int.natCast_zero]⟩
  rintro i fr h1 ⟨hi, rfl, g0, g1, g5⟩
  unfold f14_l0
  by_cases hlt : i < A.length
  · have d0 : decide ((i : Int) < (A.length : Int)) = true := decide_eq_true (by omega)
    obtain ⟨id, q, p1, p2, _⟩ := hv.at2 hlt
    obtain ⟨id2, q2, w1, w2, _⟩ := hw.at2 hlt
    have hav : V.agg [.i .i64 A[i].1, .i .i64 A[i].2] = pV A[i] := rfl
    have hq := keyEq_pVO (hA _ (List.getElem_mem hlt)) (hA _ (List.getElem_mem hlt))
    have dt : decide (A[i] = A[i]) = true := by simp
    rw [dt] at hq
    have hvb := hv.beq
    have hwb := hw.beq
    simp (disch := omega) only [f14_r4, f14_r5, f14_r7, Nat.reduceEqDiff, ↓reduceIte, Bool.false_eq_true, Bool.not_true, g0, g1, g5, hlv, d0, p1, p2, w1, w2, hav, hq, cond_true, bz]
    exact ⟨i + 1, by omega, hlt, rfl, by simp (disch := omega) only [getK_set, Nat.reduceEqDiff, ↓reduceIte, g0, g1, and_self, Int.natCast_add, Int.natCast_one]⟩
  · have d0 : decide ((i : Int) < (A.length : Int)) = false := decide_eq_false (by omega)
    simp (disch := omega) only [f14_r4, f14_r8, f14_rs, Option.some.injEq, exists_eq_left', Nat.reduceEqDiff, ↓reduceIte, Bool.false_eq_true, g0, g5, hlv, d0, and_self, bz]
end
end Go.Ev
namespace Go.Ev
open Go Go.RowKit
noncomputable def f21_r0 : List EOper := [oG 5 (.box 2 (tG 2)), oG 6 (.as (.c .sn)), oG 7 (.as (.c .sn))]
noncomputable def f21_r1 : List EOper := [oG 20 (.mv (tG 0)), oG 21 (.mv (tG 1)), oG 22 (.call (fG 53) [(tG 20), (tG 21)]), oG 8 (.as (tG 22))]
noncomputable def f21_r2 : List EOper := [oG 23 (.mkmap 23), oG 24 (.ldn 2 (tG 5)), ⟨none, none, .mupd 23 (.many [(some .i64), (some .i64)]) (tG 23) (tG 24) (cG 0)⟩, oG 25 (.mv (tG 23)), oG 9 (.as (tG 25))]
noncomputable def f21_r3 : List EOper := [oG 26 (.ldn 2 (tG 5)), oG 27 (.bslice 1 2 [(.i .i64 (.ofNat 0)), (.i .i64 (.ofNat 0))] [(0, 2, (tG 26))]), oG 10 (.as (tG 27))]
noncomputable def f21_r4 : List EOper := [oG 11 (.as (cG 0))]
noncomputable def f21_r5 : List EOper := [oG 28 (.mv (tG 11)), oG 29 (.mv (tG 10)), oG 30 (.len (tG 29)), oG 31 (.bin .lss (tG 28) (tG 30))]
noncomputable def f21_r6 : List EOper := [oG 12 (.as (cG 0))]
noncomputable def f21_r7 : List EOper := [oG 34 (.mv (tG 12)), oG 35 (.mv (tG 8)), oG 36 (.len (tG 35)), oG 37 (.bin .lss (tG 34) (tG 36))]
noncomputable def f21_r8 : List EOper := [oG 41 (.mv (tG 9)), oG 42 (.mv (tG 8)), oG 43 (.mv (tG 12)), oG 44 (.iads 2 (tG 42) (tG 43)), oG 45 (.ldn 2 (tG 44)), oG 46 (.look 23 (.many [(some .i64), (some .i64)]) (.i .i64 (.ofNat 0)) (tG 41) (tG 45) true), oG 40 (.mv (tG 46)), oG 47 (.ext (tG 40) 0), oG 48 (.ext (tG 40) 1), oG 13 (.as (tG 47)), oG 14 (.as (tG 48))]
noncomputable def f21_r9 : List Stage := [⟨[oG 49 (.mv (tG 14)), oG 50 (.not (tG 49)), oG 51 (.mv (tG 50)), gG 52 51 true (.mv (tG 1)), gG 53 51 true (.mv (tG 10)), gG 54 51 true (.mv (tG 11)), gG 55 51 true (.iads 2 (tG 53) (tG 54)), gG 56 51 true (.ldn 2 (tG 55)), gG 57 51 true (.mv (tG 8)), gG 58 51 true (.mv (tG 12)), gG 59 51 true (.iads 2 (tG 57) (tG 58)), gG 60 51 true (.ldn 2 (tG 59))], [], (some (gG 61 51 true (.call (fG 20) [(tG 52), (tG 56), (tG 60)]))), []⟩, ⟨[oG 62 (.pick (tG 51) (tG 61) (.c (.b false)))], [], none, []⟩]
noncomputable def f21_r10 : List Stage := [⟨[oG 63 (.mv (tG 9)), oG 64 (.mv (tG 8)), oG 65 (.mv (tG 12)), oG 66 (.iads 2 (tG 64) (tG 65)), oG 67 (.ldn 2 (tG 66)), oG 68 (.mv (tG 9)), oG 69 (.mv (tG 10)), oG 70 (.mv (tG 11)), oG 71 (.iads 2 (tG 69) (tG 70)), oG 72 (.ldn 2 (tG 71)), oG 73 (.look 23 (.many [(some .i64), (some .i64)]) (.i .i64 (.ofNat 0)) (tG 68) (tG 72) false), oG 74 (.bin .add (tG 73) (cG 1))], [], (some ⟨none, none, .mupd 23 (.many [(some .i64), (some .i64)]) (tG 63) (tG 67) (tG 74)⟩), []⟩, ⟨[], [], none, []⟩]
noncomputable def f21_r11 : List EOper := [oG 75 (.mv (tG 10)), oG 76 (.mv (tG 8)), oG 77 (.mv (tG 12)), oG 78 (.iads 2 (tG 76) (tG 77)), oG 79 (.ldn 2 (tG 78)), oG 80 (.bslice 1 2 [(.i .i64 (.ofNat 0)), (.i .i64 (.ofNat 0))] [(0, 2, (tG 79))]), oG 81 (.app 2 (tG 75) (tG 80)), oG 10 (.as (tG 81))]
noncomputable def f21_r12 : List EOper := [oG 38 (.mv (tG 12)), oG 39 (.bin .add (tG 38) (cG 1)), oG 12 (.as (tG 39))]
noncomputable def f21_l0 : EC := (.seq (.seq (.reg f21_r7) (.cond (tG 37) .skip (.exit 2))) (.seq (.block 3 (.seq (.reg f21_r8) (.seq (.draw f21_r9) (.cond (tG 62) (.seq (.draw f21_r10) (.reg f21_r11)) .skip)))) (.reg f21_r12)))
noncomputable def f21_r13 : List EOper := [oG 32 (.mv (tG 11)), oG 33 (.bin .add (tG 32) (cG 1)), oG 11 (.as (tG 33))]
noncomputable def f21_l1 : EC := (.seq (.seq (.reg f21_r5) (.cond (tG 31) .skip (.exit 0))) (.seq (.block 1 (.seq (.reg f21_r6) (.block 2 (.loop f21_l0)))) (.reg f21_r13)))
noncomputable def f21_r14 : List EOper := [oG 15 (.as (.c .sn))]
noncomputable def f21_r15 : List EOper := [oG 16 (.as (.c .sn))]
noncomputable def f21_r16 : List EOper := [oG 17 (.as (cG 0))]
noncomputable def f21_r17 : List EOper := [oG 82 (.mv (tG 17)), oG 83 (.mv (tG 8)), oG 84 (.len (tG 83)), oG 85 (.bin .lss (tG 82) (tG 84))]
noncomputable def f21_r18 : List EOper := [oG 89 (.mv (tG 9)), oG 90 (.mv (tG 8)), oG 91 (.mv (tG 17)), oG 92 (.iads 2 (tG 90) (tG 91)), oG 93 (.ldn 2 (tG 92)), oG 94 (.look 23 (.many [(some .i64), (some .i64)]) (.i .i64 (.ofNat 0)) (tG 89) (tG 93) true), oG 88 (.mv (tG 94)), oG 95 (.ext (tG 88) 0), oG 96 (.ext (tG 88) 1), oG 18 (.as (tG 95)), oG 19 (.as (tG 96))]
noncomputable def f21_r19 : List EOper := [oG 97 (.mv (tG 19))]
noncomputable def f21_r20 : List EOper := [oG 98 (.mv (tG 15)), oG 99 (.mv (tG 8)), oG 100 (.mv (tG 17)), oG 101 (.iads 2 (tG 99) (tG 100)), oG 102 (.ldn 2 (tG 101)), oG 103 (.bslice 1 2 [(.i .i64 (.ofNat 0)), (.i .i64 (.ofNat 0))] [(0, 2, (tG 102))]), oG 104 (.app 2 (tG 98) (tG 103)), oG 15 (.as (tG 104))]
noncomputable def f21_r21 : List EOper := [oG 105 (.mv (tG 16)), oG 106 (.mv (tG 18)), oG 107 (.bslice 1 1 [(.i .i64 (.ofNat 0))] [(0, 1, (tG 106))]), oG 108 (.app 1 (tG 105) (tG 107)), oG 16 (.as (tG 108))]
noncomputable def f21_r22 : List EOper := [oG 86 (.mv (tG 17)), oG 87 (.bin .add (tG 86) (cG 1)), oG 17 (.as (tG 87))]
noncomputable def f21_l2 : EC := (.seq (.seq (.reg f21_r17) (.cond (tG 85) .skip (.exit 4))) (.seq (.block 5 (.seq (.reg f21_r18) (.seq (.reg f21_r19) (.cond (tG 97) (.seq (.reg f21_r20) (.reg f21_r21)) .skip)))) (.reg f21_r22)))
noncomputable def f21_r23 : List EOper := [oG 109 (.mv (tG 15)), oG 110 (.mv (tG 16)), oG 6 (.as (tG 109)), oG 7 (.as (tG 110))]
noncomputable def f21_c : EC := (.seq (.reg f21_r0) (.seq (.reg f21_r1) (.seq (.reg f21_r2) (.seq (.reg f21_r3) (.seq (.seq (.reg f21_r4) (.block 0 (.loop f21_l1))) (.seq (.reg f21_r14) (.seq (.reg f21_r15) (.seq (.seq (.reg f21_r16) (.block 4 (.loop f21_l2))) (.seq (.reg f21_r23) .ret)))))))))
noncomputable def f21 : EF := ⟨111, [.tmp (.ofNat 6), .tmp (.ofNat 7)], f21_c, none⟩
theorem f21_rs : f21.rs = [.tmp (.ofNat 6), .tmp (.ofNat 7)] := of_eq_true (eq_self _)
/-! ### Plain -/
abbrev DM := List ((Nat × Nat) × Nat)
def kyD (M : DM) : List (Nat × Nat) := M.map Prod.fst
def lkD : DM → Nat × Nat → Option Nat
  | [], _ => none
  | e :: M, x => if x = e.1 then some e.2 else lkD M x
inductive BfsR (G : List Bool) (s : Nat × Nat) : Nat → Nat → DM → Prop where
  | start : BfsR G s 0 0 [(s, 0)]
  | skip {i k : Nat} {M : DM} {x p : Nat × Nat} {d : Nat} : BfsR G s i k M → M[i]? = some (x, d) → (arw (rat G))[k]? = some p → (p ∈ kyD M ∨ frcB G x p = false) → BfsR G s i (k + 1) M
  | add {i k : Nat} {M : DM} {x p : Nat × Nat} {d : Nat} : BfsR G s i k M → M[i]? = some (x, d) → (arw (rat G))[k]? = some p → p ∉ kyD M → frcB G x p = true → BfsR G s i (k + 1) (M ++ [(p, d + 1)])
  | next {i : Nat} {M : DM} : BfsR G s i (arw (rat G)).length M → i < M.length → BfsR G s (i + 1) 0 M
structure BfsI (G : List Bool) (s : Nat × Nat) (i k : Nat) (M : DM) : Prop where
  nd : (kyD M).Nodup
  arr : ∀ p ∈ kyD M, rat G p.1 p.2 = true ∧ Rch (Er G) s.1 s.2 p.1 p.2
  beg : M[0]? = some (s, 0)
  dl : ∀ e ∈ M, e.2 + 1 ≤ M.length
  clo : ∀ (j : Nat) (x : Nat × Nat) (d : Nat), j < i → M[j]? = some (x, d) → ∀ p, rat G p.1 p.2 = true → frcB G x p = true → p ∈ kyD M
  cur : ∀ (j : Nat) (x p : Nat × Nat) (d : Nat), j < k → M[i]? = some (x, d) → (arw (rat G))[j]? = some p → frcB G x p = true → p ∈ kyD M
theorem frcB_rch {G : List Bool} (sy : SymR G) {x p : Nat × Nat} (hp : rat G p.1 p.2 = true) (h : frcB G x p = true) {a b : Nat} (k : Rch (Er G) a b x.1 x.2) : Rch (Er G) a b p.1 p.2 := by
  unfold frcB at h
  rcases Bool.or_eq_true _ _ ▸ h with h | h
  · rw [← of_decide_eq_true h]; exact k
  · by_cases e : x.1 = p.1
    · rw [if_pos e] at h
      rw [← e] at hp ⊢
      exact k.out hp (fun h2 => by have h2 : rat G x.2 p.2 = true := h2; rw [h2] at h; cases h)
    · rw [if_neg e] at h
      simp only [Bool.and_eq_true, decide_eq_true_eq] at h
      rw [← h.1] at hp ⊢
      exact k.inn hp (fun h2 => by
        have h2 : rat G x.1 p.1 = true := sy.gr.sym _ _ h2
        rw [h2] at h; exact absurd h.2 (by simp))
theorem at_app {α : Type} {M : List α} {x y : α} {j : Nat} (h : (M ++ [y])[j]? = some x) (hj : j < M.length) : M[j]? = some x := by
  rw [List.getElem?_append_left hj] at h; exact h
theorem get_lt {α : Type} {M : List α} {x : α} {j : Nat} (h : M[j]? = some x) : j < M.length := by
  by_cases e : j < M.length
  · exact e
  · rw [List.getElem?_eq_none (by omega)] at h; cases h
theorem BfsR.inv {G : List Bool} (sy : SymR G) {s : Nat × Nat} (hs : rat G s.1 s.2 = true) {i k : Nat} {M : DM} (r : BfsR G s i k M) : BfsI G s i k M := by
  induction r with
  | start =>
    exact ⟨by simp [kyD], fun p hp => by simp [kyD] at hp; rw [hp]; exact ⟨hs, .refl⟩, rfl, fun e he => by simp at he; rw [he]; simp, fun j x d hj => by omega, fun j x p d hj => by omega⟩
  | @skip i k M x p d _ h1 h2 h3 ih =>
    refine ⟨ih.nd, ih.arr, ih.beg, ih.dl, ih.clo, fun j x' p' d' hj h1' h2' h3' => ?_⟩
    by_cases e : j = k
    · subst e
      rw [h1] at h1'; cases h1'
      rw [h2] at h2'; cases h2'
      rcases h3 with h3 | h3
      · exact h3
      · rw [h3] at h3'; cases h3'
    · exact ih.cur j x' p' d' (by omega) h1' h2' h3'
  | @add i k M x p d _ h1 h2 h3 h4 ih =>
    have hil := get_lt h1
    have hpG : rat G p.1 p.2 = true := (arw_lt (List.mem_of_getElem? h2)).2.2
    have hk : kyD (M ++ [(p, d + 1)]) = kyD M ++ [p] := by unfold kyD; simp
    have hxm : x ∈ kyD M := List.mem_map.2 ⟨(x, d), List.mem_of_getElem? h1, rfl⟩
    have up : ∀ {q}, q ∈ kyD M → q ∈ kyD (M ++ [(p, d + 1)]) := fun h => by rw [hk]; exact List.mem_append_left _ h
    refine ⟨?_, fun q hq => ?_, ?_, fun e he => ?_, fun j y e hj hy q hq hf => up (ih.clo j y e hj (at_app hy (by omega)) q hq hf), fun j y q e hj hy hq hf => ?_⟩
    · rw [hk, List.nodup_append]
      refine ⟨ih.nd, by simp, fun a ha b hb e => h3 ?_⟩
      rw [List.mem_singleton] at hb
      rw [← hb, ← e]; exact ha
    · rw [hk, List.mem_append, List.mem_singleton] at hq
      rcases hq with hq | rfl
      · exact ih.arr q hq
      · exact ⟨hpG, frcB_rch sy hpG h4 (ih.arr x hxm).2⟩
    · rw [List.getElem?_append_left (get_lt ih.beg)]; exact ih.beg
    · rw [List.length_append, List.length_singleton]
      rcases List.mem_append.1 he with he | he
      · have := ih.dl e he; omega
      · rw [List.mem_singleton.1 he]
        have := ih.dl _ (List.mem_of_getElem? h1)
        show d + 1 + 1 ≤ M.length + 1
        have : d + 1 ≤ M.length := this
        omega
    · by_cases e2 : j = k
      · subst e2
        rw [h2] at hq; cases hq
        rw [hk]; simp
      · exact up (ih.cur j y q e (by omega) (at_app hy hil) hq hf)
  | @next i M _ hi ih =>
    refine ⟨ih.nd, ih.arr, ih.beg, ih.dl, fun j x d hj hx p hp hf => ?_, fun j x p d hj => by omega⟩
    by_cases e : j = i
    · subst e
      obtain ⟨k, hk, ek⟩ := List.getElem_of_mem (mem_arw.2 ⟨(rat_lt hp).1, (rat_lt hp).2, hp⟩ : (p.1, p.2) ∈ arw (rat G))
      exact ih.cur k x p d hk hx (by rw [List.getElem?_eq_getElem hk, ek]) hf
    · exact ih.clo j x d (by omega) hx p hp hf
theorem BfsI.len {G : List Bool} {s : Nat × Nat} {i k : Nat} {M : DM} (b : BfsI G s i k M) : M.length ≤ 49 := by
  have h := nodup_leO (m := arw (rat G)) b.nd fun x hx => mem_arw.2 ⟨(rat_lt (b.arr x hx).1).1, (rat_lt (b.arr x hx).1).2, (b.arr x hx).1⟩
  have := arI_len (g := rat G)
  unfold arI at this
  unfold kyD at h
  rw [List.length_map] at h this
  omega
theorem BfsI.cls {G : List Bool} (sy : SymR G) {s : Nat × Nat} (hs : rat G s.1 s.2 = true) {M : DM} (b : BfsI G s M.length 0 M) (p : Nat × Nat) : p ∈ kyD M ↔ rat (clsR G s) p.1 p.2 = true := by
  rw [clsR_iff (rat_lt hs)]
  refine ⟨fun h => (b.arr p h).2, fun h => ?_⟩
  have cl : ∀ {x q : Nat × Nat}, x ∈ kyD M → rat G q.1 q.2 = true → frcB G x q = true → q ∈ kyD M := fun {x q} hx hq hf => by
    obtain ⟨⟨y, d⟩, he, rfl⟩ := List.mem_map.1 hx
    obtain ⟨j, hj, ej⟩ := List.getElem_of_mem he
    exact b.clo j y d hj (by rw [List.getElem?_eq_getElem hj, ej]) q hq hf
  have all : ∀ {c d : Nat}, Rch (Er G) s.1 s.2 c d → (c, d) ∈ kyD M := fun {c d} h => by
    induction h with
    | refl => exact List.mem_map.2 ⟨(s, 0), List.mem_of_getElem? b.beg, rfl⟩
    | @out c d e _ h1 h2 ih =>
      have h2 : ¬ rat G d e = true := h2
      exact cl (q := (c, e)) ih h1 (by unfold frcB; simp only [if_true, Bool.or_eq_true]; exact .inr (by simpa using h2))
    | @inn c d e _ h1 h2 ih =>
      have h2 : ¬ rat G e c = true := h2
      have h3 : ¬ rat G c e = true := fun h => h2 (sy.gr.sym _ _ h)
      by_cases ee : c = e
      · rw [← ee]; exact ih
      · exact cl (q := (e, d)) ih h1 (by unfold frcB; simp only [if_neg ee, decide_true, Bool.true_and, Bool.or_eq_true]; exact .inr (by simpa using h3))
  exact all h
theorem lkD_none {M : DM} {x : Nat × Nat} : lkD M x = none ↔ x ∉ kyD M := by
  induction M with
  | nil => simp [lkD, kyD]
  | cons e M ih =>
    show (if x = e.1 then some e.2 else lkD M x) = none ↔ x ∉ e.1 :: kyD M
    rw [List.mem_cons, not_or]
    by_cases h : x = e.1
    · rw [if_pos h]; simp [h]
    · rw [if_neg h, ih]; simp [h]
theorem lkD_app {M : DM} {x y : Nat × Nat} {v : Nat} (hx : x ∉ kyD M) : lkD (M ++ [(x, v)]) y = if y = x then some v else lkD M y := by
  induction M with
  | nil => rfl
  | cons e M ih =>
    have hx' : x ≠ e.1 ∧ x ∉ kyD M := by
      have : x ∉ e.1 :: kyD M := hx
      rw [List.mem_cons, not_or] at this
      exact this
    show (if y = e.1 then some e.2 else lkD (M ++ [(x, v)]) y) = if y = x then some v else if y = e.1 then some e.2 else lkD M y
    rw [ih hx'.2]
    by_cases h : y = e.1
    · rw [if_pos h, if_neg (fun e2 => hx'.1 (e2.symm.trans h)), if_pos h]
    · rw [if_neg h, if_neg h]
theorem lkD_at {M : DM} {i : Nat} {x : Nat × Nat} {d : Nat} (hn : (kyD M).Nodup) (h : M[i]? = some (x, d)) : lkD M x = some d := by
  induction M generalizing i with
  | nil => simp at h
  | cons e M ih =>
    have hn : (e.1 :: kyD M).Nodup := hn
    rw [List.nodup_cons] at hn
    show (if x = e.1 then some e.2 else lkD M x) = some d
    cases i with
    | zero => simp at h; subst h; rw [if_pos rfl]
    | succ i =>
      have h : M[i]? = some (x, d) := by simpa using h
      have hx : x ∈ kyD M := List.mem_map.2 ⟨(x, d), List.mem_of_getElem? h, rfl⟩
      rw [if_neg (fun e2 => hn.1 (by rw [← e2]; exact hx))]
      exact ih hn.2 h
def dF (M : DM) (z : Int × Int) : Option Int := if 0 ≤ z.1 ∧ 0 ≤ z.2 then (lkD M (z.1.toNat, z.2.toNat)).map Int.ofNat else none
theorem dF_toI {M : DM} {x : Nat × Nat} : dF M (toI x) = (lkD M x).map Int.ofNat := by
  unfold dF toI
  rw [if_pos (by simp only; omega)]
  rfl
theorem dF_app {M : DM} {x : Nat × Nat} {v : Nat} (hx : x ∉ kyD M) : dF (M ++ [(x, v)]) = fun y => if y = toI x then some (v : Int) else dF M y := by
  funext y
  by_cases h : 0 ≤ y.1 ∧ 0 ≤ y.2
  · have e : y = toI (y.1.toNat, y.2.toNat) := Prod.ext (show y.1 = (y.1.toNat : Int) by omega) (show y.2 = (y.2.toNat : Int) by omega)
    rw [e, dF_toI, dF_toI, lkD_app hx]
    by_cases h2 : (y.1.toNat, y.2.toNat) = x
    · rw [if_pos h2, if_pos (by rw [h2])]; rfl
    · rw [if_neg h2, if_neg (fun h3 => h2 ?_)]
      unfold toI at h3
      injection h3 with h3 h4
      exact Prod.ext (by simp only at h3 ⊢; omega) (by simp only at h4 ⊢; omega)
  · have h2 : ¬ y = toI x := fun e => h (by rw [e]; unfold toI; simp only; omega)
    rw [if_neg h2]
    unfold dF
    rw [if_neg h, if_neg h]
theorem dF_one {s : Nat × Nat} : dF [(s, 0)] = fun y => if y = toI s then some 0 else none := by
  rw [show [(s, 0)] = ([] : DM) ++ [(s, 0)] from rfl, dF_app (by simp [kyD])]
  funext y
  by_cases h : y = toI s
  · rw [if_pos h, if_pos h]; rfl
  · rw [if_neg h, if_neg h]; unfold dF; split <;> rfl
theorem MapF.look0 {h : H} {id : K} {kt : Nat} {f : Int × Int → Option Int} {x : Int × Int} {v : Int} {z : V} (hm : MapF h id kt f) (hx : in2 x) (hv : f x = some v) : lookV kt (.many [some .i64, some .i64]) z h (.m id) (pZ x) false = .ok (.i .i64 v) h := by
  obtain ⟨M, e1, e2, e3⟩ := hm
  show ((h.get id).onM kt fun es => oGet (findE (.many [some .i64, some .i64]) (pZ x) es) RV.no fun r => bif false then RV.ok (oGet r (.tup [z, .b false]) fun v => .tup [v, .b true]) h else RV.ok (oGet r z fun v => v) h) = _
  rw [e1]
  show (bif Nat.beq kt kt then (oGet (findE (.many [some .i64, some .i64]) (pZ x) (entZ M)) RV.no fun r => RV.ok (oGet r z fun v => v) h) else _) = _
  rw [Nat.beq_same, find_z hx M e2, e3, hv]; rfl
theorem MapF.lt_nx {h : H} {id : K} {kt : Nat} {f : Int × Int → Option Int} (hm : MapF h id kt f) (hc : HC h) : id.nat < h.nx.nat := by
  obtain ⟨M, e1, _⟩ := hm
  by_cases e : id.nat < h.nx.nat
  · exact e
  · have := hc id (by omega)
    rw [e1] at this; cases this
theorem arw_filter {f : Nat → Nat → Bool} {p : Nat × Nat → Bool} : (arw f).filter p = arw fun a b => f a b && p (a, b) := by
  unfold arw
  rw [List.filter_map, List.filter_filter]
  congr 1
  refine List.filter_congr fun i _ => ?_
  rw [Bool.and_comm]; rfl
section
variable {fs : T EF} {h h' : H}
def kyI (M : DM) : List (Int × Int) := (kyD M).map toI
theorem kyI_len {M : DM} : (kyI M).length = M.length := by unfold kyI kyD; rw [List.length_map, List.length_map]
theorem kyI_at {M : DM} {i : Nat} {x : Nat × Nat} {d : Nat} (h : M[i]? = some (x, d)) (hi : i < (kyI M).length) : (kyI M)[i] = toI x := by
  have : (kyI M)[i]? = some (toI x) := by
    unfold kyI kyD
    rw [List.getElem?_map, List.getElem?_map, h]; rfl
  rw [List.getElem?_eq_getElem hi] at this
  exact Option.some.inj this
theorem arI_at {G : Nat → Nat → Bool} {k : Nat} {p : Nat × Nat} (h : (arw G)[k]? = some p) (hk : k < (arI G).length) : (arI G)[k] = toI p := by
  have : (arI G)[k]? = some (toI p) := by
    unfold arI
    rw [List.getElem?_map, h]; rfl
  rw [List.getElem?_eq_getElem hk] at this
  exact Option.some.inj this
structure CallsCs (fs : T EF) : Prop extends CallsJn fs where
  c20 : fs.get (K.ofNat 20) = some f20
  c53 : fs.get (K.ofNat 53) = some f53
structure Mq (h3 : H) (M : DM) (q : V) (h1 : H) : Prop where
  gr : Grow h3.nx.nat h3 h1
  hc : HC h1
  mp : MapF h1 h3.nx 23 (dF M)
  sk : Sk 2 qE h1 q (kyI M)
  own : Own (h3.nx.nat + 1) q
def f21_A (h3 : H) (v al : V) (G : List Bool) (s : Nat × Nat) (z : Nat × DM) (fr : Fr) (h1 : H) : Prop := z.1 ≤ z.2.length ∧ BfsR G s z.1 0 z.2 ∧ ∃ q, Mq h3 z.2 q h1 ∧ fr.get (K.ofNat 1) = some (v) ∧ fr.get (K.ofNat 8) = some (al) ∧ fr.get (K.ofNat 9) = some (.m h3.nx) ∧ fr.get (K.ofNat 10) = some (q) ∧ fr.get (K.ofNat 11) = some (.i .i64 (z.1 : Int))
def f21_B (h3 : H) (v al : V) (G : List Bool) (s : Nat × Nat) (i : Nat) (z : Nat × DM) (fr : Fr) (h1 : H) : Prop := z.1 ≤ (arw (rat G)).length ∧ i < z.2.length ∧ BfsR G s i z.1 z.2 ∧ ∃ q, Mq h3 z.2 q h1 ∧ fr.get (K.ofNat 1) = some (v) ∧ fr.get (K.ofNat 8) = some (al) ∧ fr.get (K.ofNat 9) = some (.m h3.nx) ∧ fr.get (K.ofNat 10) = some (q) ∧ fr.get (K.ofNat 11) = some (.i .i64 (i : Int)) ∧ fr.get (K.ofNat 12) = some (.i .i64 (z.1 : Int))
def kn (M : DM) (p : Nat × Nat) : Bool := (lkD M p).isSome
def outT (G : List Bool) (M : DM) (k : Nat) : List (Nat × Nat) := ((arw (rat G)).take k).filter (kn M)
def farT (G : List Bool) (M : DM) (k : Nat) : List Int := (outT G M k).map fun p => (((lkD M p).getD 0 : Nat) : Int)
def f21_C (h4 : H) (al : V) (G : List Bool) (M : DM) (idm : K) (k : Nat) (fr : Fr) (h1 : H) : Prop := k ≤ (arw (rat G)).length ∧ ∃ u w, Grow h4.nx.nat h4 h1 ∧ HC h1 ∧ Sk 2 qE h1 u ((outT G M k).map toI) ∧ Own h4.nx.nat u ∧ Sl iE h1 w (farT G M k) ∧ Own h4.nx.nat w ∧ (∀ id off n sz, u = .sl id off n sz → NotIn id w) ∧ fr.get (K.ofNat 8) = some (al) ∧ fr.get (K.ofNat 9) = some (.m idm) ∧ fr.get (K.ofNat 15) = some (u) ∧ fr.get (K.ofNat 16) = some (w) ∧ fr.get (K.ofNat 17) = some (.i .i64 (k : Int))
theorem f21_ret {n : Nat} {v : V} {g : Nat → Nat → Bool} {s : Nat × Nat} (k : CallsCs fs) (hg : Gph n g) (hv : Srp h v (arI g)) (hs : rat (gR (arI g)) s.1 s.2 = true) (hc : HC h) : Ret fs f21 [.i .i64 (n : Int), v, aV s] h fun r h' => ∃ u w M, r = .tup [u, w] ∧ BfsR (gR (arI g)) s M.length 0 M ∧ Sk 2 qE h' u (arI (rat (clsR (gR (arI g)) s))) ∧ Own h.nx.nat u ∧ Sl iE h' w ((arw (rat (clsR (gR (arI g)) s))).map fun p => (((lkD M p).getD 0 : Nat) : Int)) ∧ Own h.nx.nat w ∧ Grow h.nx.nat h h' := by
  have hlb := arI_len (g := g)
  have sy := symR_g hg
  have hs7 := rat_lt hs
  apply ret_of rfl
  show W fs none f21_c _ _ _
  unfold f21_c
  have cs : cellsN 2 (aV s) = some [.i .i64 (s.1 : Int), .i .i64 (s.2 : Int)] := rfl
  have n1 := nx_new h (.cells 2 [.i .i64 (s.1 : Int), .i .i64 (s.2 : Int)])
  have g1 : Grow h.nx.nat h (h.new (.cells 2 [.i .i64 (s.1 : Int), .i .i64 (s.2 : Int)])) := Grow.new (Nat.le_refl _) _
  have e1 : (h.new (.cells 2 [.i .i64 (s.1 : Int), .i .i64 (s.2 : Int)])).get h.nx = .cells 2 [.i .i64 (s.1 : Int), .i .i64 (s.2 : Int)] := get_new_same
  simp (disch := omega) only [f21_r0, f21_r1, Nat.reduceEqDiff, ↓reduceIte, cs, bz]
  generalize h.new (.cells 2 [.i .i64 (s.1 : Int), .i .i64 (s.2 : Int)]) = h1 at *
  have hc1 := g1.hc hc
  refine (callP_0 (ef := f53) k.c53 rfl (f53_ret k.toCallsJn hg (hv.grow hc g1) hc1)).mono ?_
  rintro al h2 ⟨hal, hoal, g2⟩
  have hc2 := g2.hc hc1
  have gA := g1.trans (g2.low g1.nx)
  have hv2 := hv.grow hc gA
  have e2 := (g2.old h.nx (by omega)).trans e1
  have hav : V.agg [.i .i64 (s.1 : Int), .i .i64 (s.2 : Int)] = aV s := rfl
  have i2 : in2 (toI s) := inI_nat hs7.1 hs7.2
  have n3 := nx_new h2 (.map 23 [])
  have g3 : Grow h2.nx.nat h2 (h2.new (.map 23 [])) := Grow.new (Nat.le_refl _) _
  have l3 := ldn2 ((g3.old h.nx (by have := g2.nx; omega)).trans e2)
  obtain ⟨es, m1, m2⟩ := (MapF.nil (h := h2) (kt := 23)).put (v := 0) i2
  have m1 : mupdV 23 (.many [some .i64, some .i64]) (h2.new (.map 23 [])) (.m h2.nx) (aV s) (.i .i64 0) = .ok undefV ((h2.new (.map 23 [])).put h2.nx (.map 23 es)) := m1
  rw [← dF_one] at m2
  have g4 : Grow h2.nx.nat h2 ((h2.new (.map 23 [])).put h2.nx (.map 23 es)) := g3.trans (Grow.put (Nat.le_refl _) (by omega) _)
  have n4 : ((h2.new (.map 23 [])).put h2.nx (.map 23 es)).nx.nat = h2.nx.nat + 1 := n3
  simp (disch := omega) only [f21_r2, x_mkmap, x_mupd, Nat.reduceEqDiff, ↓reduceIte, l3, hav, m1, bz]
  generalize (h2.new (.map 23 [])).put h2.nx (.map 23 es) = h3 at *
  have hc3 := g4.hc hc2
  have l4 := ldn2 ((g4.old h.nx (by have := g2.nx; omega)).trans e2)
  have sp : setMany [V.i .i64 0, V.i .i64 0] 0 [V.i .i64 (s.1 : Int), V.i .i64 (s.2 : Int)] = [V.i .i64 (s.1 : Int), V.i .i64 (s.2 : Int)] := rfl
  have n5 := nx_new h3 (.cells (1 * 2) [.i .i64 (s.1 : Int), .i .i64 (s.2 : Int)])
  have g5 : Grow h3.nx.nat h3 (h3.new (.cells (1 * 2) [.i .i64 (s.1 : Int), .i .i64 (s.2 : Int)])) := Grow.new (Nat.le_refl _) _
  have k5 : Sk 2 qE (h3.new (.cells (1 * 2) [.i .i64 (s.1 : Int), .i .i64 (s.2 : Int)])) (.sl h3.nx 0 1 2) [toI s] := Sk.lit2o
  simp (disch := omega) only [f21_r3, f21_r4, Nat.reduceEqDiff, ↓reduceIte, l4, hav, fill_c, cs, sp, bz]
  generalize h3.new (.cells (1 * 2) [.i .i64 (s.1 : Int), .i .i64 (s.2 : Int)]) = h5 at *
  have hc5 := g5.hc hc3
  have mq0 : Mq h2 [(s, 0)] (.sl h3.nx 0 1 2) h5 := ⟨g4.trans (g5.low (by omega)), hc5, m2.same (g5.old _ (by omega)), k5, fun id off n sz e => by cases e; omega⟩
  have hA49 : (arw (rat (gR (arI g)))).length ≤ 49 := by
    have := arI_len (g := rat (gR (arI g)))
    unfold arI at this
    rw [List.length_map] at this; exact this
  refine loop_monoO (Q := fun e fr hh => e = .exit 0 ∧ ∃ M q, BfsR (gR (arI g)) s M.length 0 M ∧ Mq h2 M q hh ∧ fr.get (K.ofNat 8) = some (al) ∧ fr.get (K.ofNat 9) = some (.m h2.nx)) ?_ (W_loop (f21_A h2 v al (gR (arI g)) s) (fun z => 50 - z.1) ?_ (0, [(s, 0)]) ⟨by simp, .start, _, mq0, by simp (disch := omega) only [getK_set, Nat.reduceEqDiff, ↓reduceIte, and_self, Int.natCast_zero]⟩)
  · rintro e fr h6 ⟨rfl, M, q, hr, mq, g8, g9⟩
    have bi := hr.inv sy hs
    have hal6 := hal.grow hc2 mq.gr
    have hall : ∀ h1, lenV al h1 = .ok (.i .i64 ((arw (rat (gR (arI g)))).length : Int)) h1 := fun h1 => by rw [hal.len]; unfold arI; rw [List.length_map]
    simp (disch := omega) only [f21_r14, f21_r15, f21_r16, ↓reduceIte, bz]
    refine W_loop (f21_C h6 al (gR (arI g)) M h2.nx) (fun k => (arw (rat (gR (arI g)))).length - k) ?_ 0 ⟨by omega, .sn, .sn, Grow.refl _ _, mq.hc, Sk.nil, Own.sn, Sl.nil, Own.sn, (fun _ _ _ _ _ => NotIn.sn), by simp (disch := omega) only [getK_set, Nat.reduceEqDiff, ↓reduceIte, g8, g9, and_self, Int.natCast_zero]⟩
    clear g8 g9 fr
    rintro kk fr h7 ⟨hkk, u, w, hG, hc7, su, ou, sw, ow, hnw, g8, g9, g15, g16, g17⟩
    have m7 : MapF h7 h2.nx 23 (dF M) := mq.mp.same (hG.old _ (mq.mp.lt_nx mq.hc))
    unfold f21_l2
    by_cases hlt : kk < (arw (rat (gR (arI g)))).length
    · have d0 : decide ((kk : Int) < ((arw (rat (gR (arI g)))).length : Int)) = true := decide_eq_true (by omega)
      obtain ⟨p, hp⟩ : ∃ p, (arw (rat (gR (arI g))))[kk]? = some p := ⟨_, List.getElem?_eq_getElem hlt⟩
      obtain ⟨pl1, pl2, _⟩ := arw_lt (List.mem_of_getElem? hp)
      have hkl : kk < (arI (rat (gR (arI g)))).length := by unfold arI; rw [List.length_map]; exact hlt
      obtain ⟨pq, pa, pb⟩ := (hal6.grow mq.hc hG).at2 hkl
      have pb : loadV h7 pq (many? 2) = .ok (aV p) h7 := by rw [arI_at hp hkl] at pb; exact pb
      have hlook : lookV 23 (.many [some .i64, some .i64]) (.i .i64 0) h7 (.m h2.nx) (aV p) true = .ok (okZ (.i .i64 0) (dF M (toI p))) h7 := m7.look (inI_nat pl1 pl2)
      rw [dF_toI] at hlook
      have hsu : outT (gR (arI g)) M (kk + 1) = outT (gR (arI g)) M kk ++ (if kn M p = true then [p] else []) := by
        unfold outT
        rw [List.take_add_one, hp, List.filter_append]
        simp only [Option.toList_some]
        by_cases h : kn M p = true
        · rw [if_pos h]; simp [h]
        · rw [if_neg h]; simp [h]
      have hl1 : (outT (gR (arI g)) M kk).length ≤ 49 := by
        unfold outT
        have := List.length_filter_le (kn M) ((arw (rat (gR (arI g)))).take kk)
        rw [List.length_take] at this
        omega
      cases hlk : lkD M p with
      | none =>
        rw [hlk] at hlook
        have hok : okZ (.i .i64 0) none = .tup [.i .i64 0, .b false] := rfl
        rw [if_neg (show ¬ kn M p = true by unfold kn; rw [hlk]; simp), List.append_nil] at hsu
        simp (disch := omega) only [f21_r17, f21_r18, f21_r19, f21_r22, Option.map_none, Nat.reduceEqDiff, ↓reduceIte, Bool.false_eq_true, g8, g9, g17, hall, d0, pa, pb, hlook, hok, bz]
        exact ⟨kk + 1, by omega, by omega, u, w, hG, hc7, by rw [hsu]; exact su, ou, by unfold farT; rw [hsu]; exact sw, ow, hnw, by simp (disch := omega) only [getK_set, Nat.reduceEqDiff, ↓reduceIte, g8, g9, g15, g16, and_self, Int.natCast_add, Int.natCast_one]⟩
      | some d =>
        rw [hlk] at hlook
        have hok : okZ (.i .i64 0) (some (Int.ofNat d)) = .tup [.i .i64 (d : Int), .b true] := rfl
        rw [if_pos (show kn M p = true by unfold kn; rw [hlk]; rfl)] at hsu
        have cp : cellsN 2 (aV p) = some [.i .i64 (p.1 : Int), .i .i64 (p.2 : Int)] := rfl
        have sp : setMany [V.i .i64 0, V.i .i64 0] 0 [V.i .i64 (p.1 : Int), V.i .i64 (p.2 : Int)] = [V.i .i64 (p.1 : Int), V.i .i64 (p.2 : Int)] := rfl
        obtain ⟨u', h8, a1, s1, o1, gr8, k8⟩ := Sk.push (b := h6.nx.nat) qE_len (by omega) (x := toI p) su ou hG.nx hc7 (by rw [List.length_map]; omega)
        have a1' : appV 2 (h7.new (.cells (1 * 2) [.i .i64 (p.1 : Int), .i .i64 (p.2 : Int)])) u (.sl h7.nx 0 1 2) = .ok u' h8 := a1
        have hc8 := gr8.hc hc7
        have wlt := sw.lt hc7
        have gr8n := gr8.nx
        have hGn := hG.nx
        have notu : ∀ id off n sz, w = .sl id off n sz → NotIn id u := fun id off n sz e off' n' sz' e' => hnw _ _ _ _ e' _ _ _ e
        have sw8 : Sl iE h8 w (farT (gR (arI g)) M kk) := sw.same fun id off n sz e => (k8 id (wlt _ _ _ _ e) (notu _ _ _ _ e)).1
        obtain ⟨w', h9, a2, s2, o2, gr9, k9⟩ := Sl.push (b := h6.nx.nat) (e := iE) (x := (d : Int)) (c := .i .i64 (d : Int)) rfl sw8 ow (by omega) hc8 (by unfold farT; rw [List.length_map]; omega)
        have hc9 := gr9.hc hc8
        -- the block of the new list
        have uin : ∀ id off n sz, u' = .sl id off n sz → id.nat < h7.nx.nat → ∃ off n sz, u = .sl id off n sz := fun id off n sz e hid =>
          Classical.byContradiction fun hno => (k8 id hid fun off n sz e => hno ⟨off, n, sz, e⟩).2 off n sz e
        have hnw' : ∀ id off n sz, u' = .sl id off n sz → NotIn id w := fun id off n sz e off' n' sz' e' => by
          have hid := wlt _ _ _ _ e'
          obtain ⟨_, _, _, e2⟩ := uin id off n sz e hid
          exact hnw _ _ _ _ e2 _ _ _ e'
        have u8lt := s1.lt hc8
        simp (disch := omega) only [f21_r17, f21_r18, f21_r19, f21_r20, f21_r21, f21_r22, Option.map_some, set_1, Nat.reduceEqDiff, ↓reduceIte, g8, g9, g15, g16, g17, hall, d0, pa, pb, hlook, hok, fill_c, cp, sp, a1', set_1, a2, bz]
        refine ⟨kk + 1, by omega, by omega, u', w', hG.trans (gr8.trans gr9), hc9, ?_, o1, ?_, o2, ?_, by simp (disch := omega) only [getK_set, Nat.reduceEqDiff, ↓reduceIte, g8, g9, and_self, Int.natCast_add, Int.natCast_one]⟩
        · rw [hsu, List.map_append]
          exact s1.same fun id off n sz e => (k9 id (u8lt _ _ _ _ e) (hnw' _ _ _ _ e)).1
        · have : farT (gR (arI g)) M (kk + 1) = farT (gR (arI g)) M kk ++ [(d : Int)] := by
            unfold farT; rw [hsu, List.map_append]; simp [hlk]
          rw [this]; exact s2
        · exact fun id off n sz e => (k9 id (u8lt _ _ _ _ e) (hnw' _ _ _ _ e)).2
    · have d0 : decide ((kk : Int) < ((arw (rat (gR (arI g)))).length : Int)) = false := decide_eq_false (by omega)
      have ek : kk = (arw (rat (gR (arI g)))).length := by omega
      subst ek
      have hout : outT (gR (arI g)) M (arw (rat (gR (arI g)))).length = arw (rat (clsR (gR (arI g)) s)) := by
        unfold outT
        rw [List.take_length, arw_filter]
        refine arw_congr fun a b ha hb => ?_
        rw [Bool.eq_iff_iff, Bool.and_eq_true, ← bi.cls sy hs (a, b)]
        unfold kn
        constructor
        · rintro ⟨_, h2⟩
          refine Classical.byContradiction fun hno => ?_
          rw [lkD_none.2 hno] at h2; cases h2
        · intro hm
          refine ⟨(bi.arr _ hm).1, ?_⟩
          cases hl : lkD M (a, b) with
          | none => exact absurd hm (lkD_none.1 hl)
          | some d => rfl
      rw [hout] at su
      unfold farT at sw
      rw [hout] at sw
      have gE : Grow h.nx.nat h h7 := gA.trans ((mq.gr.low gA.nx).trans (hG.low (by have := gA.nx; have := mq.gr.nx; omega)))
      have hlow : h.nx.nat ≤ h6.nx.nat := by have := gA.nx; have := mq.gr.nx; omega
      simp (disch := omega) only [f21_r17, f21_r23, f21_rs, Option.some.injEq, exists_eq_left', Nat.reduceEqDiff, ↓reduceIte, Bool.false_eq_true, g8, g15, g16, g17, hall, d0, bz]
      exact ⟨u, w, M, rfl, hr, su, ou.low hlow, sw, ow.low hlow, gE⟩
  · clear mq0 k5 n5 sp l4 m2 m1 l3 e2 e1
    have hall : ∀ h1, lenV al h1 = .ok (.i .i64 ((arw (rat (gR (arI g)))).length : Int)) h1 := fun h1 => by rw [hal.len]; unfold arI; rw [List.length_map]
    rintro ⟨i, M⟩ fr h6 ⟨hi, hr, q, mq, g1, g8, g9, g10, g11⟩
    have hi : i ≤ M.length := hi
    have h49 : M.length ≤ 49 := (hr.inv sy hs).len
    have ql := mq.sk.len
    rw [kyI_len] at ql
    unfold f21_l1
    by_cases hlt : i < M.length
    · have d0 : decide ((i : Int) < (M.length : Int)) = true := decide_eq_true (by omega)
      simp (disch := omega) only [f21_r5, f21_r6, Nat.reduceEqDiff, ↓reduceIte, g10, g11, ql, d0, bz]
      refine W_loop (f21_B h2 v al (gR (arI g)) s i) (fun z => (arw (rat (gR (arI g)))).length - z.1) ?_ (0, M) ⟨by simp, hlt, hr, q, mq, by simp (disch := omega) only [getK_set, Nat.reduceEqDiff, ↓reduceIte, g1, g8, g9, g10, g11, and_self, Int.natCast_zero]⟩
      clear g1 g8 g9 g10 g11 ql hlt d0 hi hr mq h49
      rintro ⟨kk, M⟩ fr h7 ⟨hkk, hlt, hr, q, mq, g1, g8, g9, g10, g11, g12⟩
      have hlt : i < M.length := hlt
      have hkk : kk ≤ (arw (rat (gR (arI g)))).length := hkk
      have bi := hr.inv sy hs
      have h49 : M.length ≤ 49 := bi.len
      have hc7 := mq.hc
      unfold f21_l0
      by_cases hk : kk < (arw (rat (gR (arI g)))).length
      · have d1 : decide ((kk : Int) < ((arw (rat (gR (arI g)))).length : Int)) = true := decide_eq_true (by omega)
        obtain ⟨p, hp⟩ : ∃ p, (arw (rat (gR (arI g))))[kk]? = some p := ⟨_, List.getElem?_eq_getElem hk⟩
        obtain ⟨pl1, pl2, _⟩ := arw_lt (List.mem_of_getElem? hp)
        have hkl : kk < (arI (rat (gR (arI g)))).length := by unfold arI; rw [List.length_map]; exact hk
        have hal7 := hal.grow hc2 mq.gr
        obtain ⟨pq, pa, pb⟩ := hal7.at2 hkl
        have pb : loadV h7 pq (many? 2) = .ok (aV p) h7 := by rw [arI_at hp hkl] at pb; exact pb
        have hlook : lookV 23 (.many [some .i64, some .i64]) (.i .i64 0) h7 (.m h2.nx) (aV p) true = .ok (okZ (.i .i64 0) (dF M (toI p))) h7 := mq.mp.look (inI_nat pl1 pl2)
        rw [dF_toI] at hlook
        obtain ⟨⟨x, d⟩, hx⟩ : ∃ e, M[i]? = some e := ⟨M[i], List.getElem?_eq_getElem hlt⟩
        have hql : i < (kyI M).length := by rw [kyI_len]; exact hlt
        have hxm : x ∈ kyD M := List.mem_map.2 ⟨(x, d), List.mem_of_getElem? hx, rfl⟩
        have hx7 := rat_lt (bi.arr x hxm).1
        have hdl : d + 1 ≤ M.length := bi.dl _ (List.mem_of_getElem? hx)
        cases hlk : lkD M p with
        | some d' =>
          rw [hlk] at hlook
          have hok : okZ (.i .i64 0) (some (Int.ofNat d')) = .tup [.i .i64 (d' : Int), .b true] := rfl
          have hin : p ∈ kyD M := Classical.byContradiction fun hno => by rw [lkD_none.2 hno] at hlk; cases hlk
          simp (disch := omega) only [f21_r7, f21_r8, f21_r9, f21_r12, Option.map_some, Nat.reduceEqDiff, ↓reduceIte, Bool.false_eq_true, Bool.not_true, g8, g9, g12, hall, d1, pa, pb, hlook, hok, bz]
          exact ⟨(kk + 1, M), by simp only; omega, by simp only; omega, hlt, hr.skip hx hp (.inl hin), q, mq, by simp (disch := omega) only [getK_set, Nat.reduceEqDiff, ↓reduceIte, g1, g8, g9, g10, g11, and_self, Int.natCast_add, Int.natCast_one]⟩
        | none =>
          rw [hlk] at hlook
          have hok : okZ (.i .i64 0) none = .tup [.i .i64 0, .b false] := rfl
          have hnin := lkD_none.1 hlk
          obtain ⟨qq, qa, qb⟩ := mq.sk.at2 hql
          have qb : loadV h7 qq (many? 2) = .ok (aV x) h7 := by rw [kyI_at hx hql] at qb; exact qb
          have hqb := mq.sk.beq
          have hab := hal.beq
          simp (disch := omega) only [f21_r7, f21_r8, f21_r9, Option.map_none, Nat.reduceEqDiff, ↓reduceIte, Bool.not_false, g1, g8, g9, g10, g11, g12, hall, d1, pa, pb, qa, qb, hlook, hok, bz]
          refine (callP_0 (ef := f20) k.c20 rfl (f20_ret k.toCallsJn hg (hv2.grow hc2 mq.gr) hx7 ⟨pl1, pl2⟩ hc7)).mono ?_
          rintro r h8 ⟨rfl, g8_⟩
          have hc8 := g8_.hc hc7
          have mlt := mq.mp.lt_nx hc7
          have mq8 : Mq h2 M q h8 := ⟨mq.gr.trans (g8_.low mq.gr.nx), hc8, mq.mp.same (g8_.old _ mlt), mq.sk.grow hc7 g8_, mq.own⟩
          cases hf : frcB (gR (arI g)) x p with
          | false =>
            simp (disch := omega) only [f21_r12, Nat.reduceEqDiff, ↓reduceIte, Bool.false_eq_true, g12, bz]
            exact ⟨(kk + 1, M), by simp only; omega, by simp only; omega, hlt, hr.skip hx hp (.inr hf), q, mq8, by simp (disch := omega) only [getK_set, Nat.reduceEqDiff, ↓reduceIte, g1, g8, g9, g10, g11, and_self, Int.natCast_add, Int.natCast_one]⟩
          | true =>
            obtain ⟨pq2, pa2, pb2⟩ := (hal.grow hc2 mq8.gr).at2 hkl
            have pb2 : loadV h8 pq2 (many? 2) = .ok (aV p) h8 := by rw [arI_at hp hkl] at pb2; exact pb2
            obtain ⟨qq2, qa2, qb2⟩ := mq8.sk.at2 hql
            have qb2 : loadV h8 qq2 (many? 2) = .ok (aV x) h8 := by rw [kyI_at hx hql] at qb2; exact qb2
            have hlk2 : lookV 23 (.many [some .i64, some .i64]) (.i .i64 0) h8 (.m h2.nx) (aV x) false = .ok (.i .i64 (d : Int)) h8 := mq8.mp.look0 (x := toI x) (inI_nat hx7.1 hx7.2) (by rw [dF_toI, lkD_at bi.nd hx]; rfl)
            obtain ⟨es2, mp1, mp2⟩ := mq8.mp.put (x := toI p) (v := (d : Int) + 1) (inI_nat pl1 pl2)
            have mp1 : mupdV 23 (.many [some .i64, some .i64]) h8 (.m h2.nx) (aV p) (.i .i64 ((d : Int) + 1)) = .ok undefV (h8.put h2.nx (.map 23 es2)) := mp1
            have hdd : dF (M ++ [(p, d + 1)]) = fun y => if y = toI p then some ((d : Int) + 1) else dF M y := by rw [dF_app hnin]; funext y; simp
            rw [← hdd] at mp2
            have h8n : h2.nx.nat < h8.nx.nat := mq8.mp.lt_nx hc8
            have g9_ : Grow h2.nx.nat h8 (h8.put h2.nx (.map 23 es2)) := Grow.put (Nat.le_refl _) h8n _
            have n9_ : (h8.put h2.nx (.map 23 es2)).nx.nat = h8.nx.nat := rfl
            have bm : beqV (.m h2.nx) (.m h2.nx) = true := K.beq_refl _
            have s9 : Sk 2 qE (h8.put h2.nx (.map 23 es2)) q (kyI M) := mq8.sk.put (mq8.own.notIn (by omega)) _
            have hal9 : Sk 2 qE (h8.put h2.nx (.map 23 es2)) al (arI (rat (gR (arI g)))) := (hal.grow hc2 mq8.gr).put (fun off n sz e => by have := hal.lt hc2 _ _ _ _ e; omega) _
            simp (disch := omega) only [f21_r10, x_mupd, xg_look, Nat.reduceEqDiff, ↓reduceIte, g8, g9, g10, g11, g12, pa2, pb2, qa2, qb2, hlk2, mp1, bz]
            have hc9 := g9_.hc hc8
            generalize h8.put h2.nx (.map 23 es2) = h9 at *
            obtain ⟨pq3, pa3, pb3⟩ := hal9.at2 hkl
            have pb3 : loadV h9 pq3 (many? 2) = .ok (aV p) h9 := by rw [arI_at hp hkl] at pb3; exact pb3
            have cp : cellsN 2 (aV p) = some [.i .i64 (p.1 : Int), .i .i64 (p.2 : Int)] := rfl
            have sp : setMany [V.i .i64 0, V.i .i64 0] 0 [V.i .i64 (p.1 : Int), V.i .i64 (p.2 : Int)] = [V.i .i64 (p.1 : Int), V.i .i64 (p.2 : Int)] := rfl
            obtain ⟨q', h10, a1, s1, o1, gr10, _⟩ := Sk.push (b := h2.nx.nat + 1) qE_len (by omega) (x := toI p) s9 mq8.own (by omega) hc9 (by rw [kyI_len]; omega)
            have a1' : appV 2 (h9.new (.cells (1 * 2) [.i .i64 (p.1 : Int), .i .i64 (p.2 : Int)])) q (.sl h9.nx 0 1 2) = .ok q' h10 := a1
            simp (disch := omega) only [f21_r11, f21_r12, Nat.reduceEqDiff, ↓reduceIte, g8, g10, g12, pa3, pb3, fill_c, cp, sp, a1', bz]
            have hky : kyI (M ++ [(p, d + 1)]) = kyI M ++ [toI p] := by unfold kyI kyD; simp
            exact ⟨(kk + 1, M ++ [(p, d + 1)]), by simp only; omega, by simp only; omega, by simp only [List.length_append]; omega, hr.add hx hp hnin hf, q', ⟨mq8.gr.trans (g9_.trans (gr10.low (by omega))), gr10.hc hc9, mp2.same (gr10.old _ (by omega)), by rw [hky]; exact s1, o1⟩, by simp (disch := omega) only [getK_set, Nat.reduceEqDiff, ↓reduceIte, g1, g8, g9, g11, and_self, Int.natCast_add, Int.natCast_one]⟩
      · have d1 : decide ((kk : Int) < ((arw (rat (gR (arI g)))).length : Int)) = false := decide_eq_false (by omega)
        have ek : kk = (arw (rat (gR (arI g)))).length := by omega
        subst ek
        simp (disch := omega) only [f21_r7, f21_r13, Nat.reduceEqDiff, ↓reduceIte, Bool.false_eq_true, g8, g11, g12, hall, d1, bz]
        exact ⟨(i + 1, M), by simp only; omega, by simp only; omega, hr.next hlt, q, mq, by simp (disch := omega) only [getK_set, Nat.reduceEqDiff, ↓reduceIte, g1, g8, g9, g10, and_self, Int.natCast_add, Int.natCast_one]⟩
    · have d0 : decide ((i : Int) < (M.length : Int)) = false := decide_eq_false (by omega)
      have ei : i = M.length := by omega
      subst ei
      simp (disch := omega) only [f21_r5, Nat.reduceEqDiff, ↓reduceIte, Bool.false_eq_true, g8, g9, g10, g11, ql, d0, bz]
      exact ⟨M, q, hr, mq, by simp (disch := omega) only []⟩
end
end Go.Ev
namespace Go.Ev
open Go Go.RowKit


section
variable {G : List Bool} {C C' : Nat → Nat → Prop}
end
end Go.Ev
namespace Go.Ev
open Go Go.RowKit
section
variable {fs : T EF} {h h' : H} {fr : Fr}
end
end Go.Ev
namespace Go.Ev
open Go Go.RowKit
section
variable {fs : T EF} {h h' : H}
end
end Go.Ev
namespace Go.Ev
open Go Go.RowKit
noncomputable def f61_r0 : List EOper := [oG 1 (.box 49 (tG 0)), oG 2 (.as (.c .sn)), oG 3 (.as (.c (.b false)))]
noncomputable def f61_r1 : List EOper := [oG 4 (.alloc 1 [.sn])]
noncomputable def f61_r2 : List EOper := [oG 7 (.mkfn (.ofNat 88) [(tG 1), (tG 4)]), oG 5 (.alloc 1 [.fnil]), ⟨none, none, .st 1 (tG 5) (tG 7)⟩]
noncomputable def f61_r3 : List EOper := [oG 8 (.ldn 49 (tG 1)), oG 9 (.call (fG 84) [(tG 8)])]
noncomputable def f61_r4 : List EOper := [oG 6 (.alloc 2 [(.i .i64 (.ofNat 0)), (.i .i64 (.ofNat 0))]), ⟨none, none, .st 2 (tG 6) (tG 10)⟩]
noncomputable def f61_a0 : EC := (.reg f61_r4)
noncomputable def f61_r5 : List EOper := [oG 11 (.ld (tG 5)), oG 12 (.ldn 2 (tG 6)), oG 13 (.call (tG 11) [(tG 12)])]
noncomputable def f61_b0 : EC := (.block 1 (.reg f61_r5))
noncomputable def f61_r6 : List Stage := [⟨[oG 14 (.ld (tG 4)), oG 15 (.ld (tG 4)), oG 16 (.isnil true (tG 15))], [], (some (oG 2 (.as (tG 14)))), []⟩, ⟨[], [oG 15 (.ld (tG 4)), oG 16 (.isnil true (tG 15))], (some (oG 3 (.as (tG 16)))), []⟩, ⟨[], [], none, []⟩]
noncomputable def f61_c : EC := (.seq (.reg f61_r0) (.seq (.reg f61_r1) (.seq (.reg f61_r2) (.seq (.seq (.reg f61_r3) (.block 0 (.rangeF (tG 9) [(.ofNat 10)] f61_a0 f61_b0))) (.seq (.draw f61_r6) .ret)))))
noncomputable def f61 : EF := ⟨17, [.tmp (.ofNat 2), .tmp (.ofNat 3)], f61_c, none⟩
theorem f61_rs : f61.rs = [.tmp (.ofNat 2), .tmp (.ofNat 3)] := of_eq_true (eq_self _)
noncomputable def f24_r0 : List EOper := [oG 4 (.as (.c .sn)), oG 5 (.as (.c (.b false))), oG 6 (.as (cG 0))]
noncomputable def f24_r1 : List EOper := [oG 10 (.mv (tG 0)), oG 11 (.mv (tG 1)), oG 12 (.call (fG 47) [(tG 10), (tG 11)]), oG 7 (.as (tG 12))]
noncomputable def f24_r2 : List EOper := [oG 13 (.mv (tG 7)), oG 14 (.bin .neq (tG 13) (cG 0))]
noncomputable def f24_r3 : List EOper := [oG 15 (.mv (tG 7)), oG 4 (.as (.c .sn)), oG 5 (.as (.c (.b false))), oG 6 (.as (tG 15))]
noncomputable def f24_r4 : List EOper := [oG 17 (.mv (tG 1)), oG 18 (.call (fG 48) [(tG 17)]), oG 19 (.call (fG 61) [(tG 18)]), oG 16 (.mv (tG 19)), oG 20 (.ext (tG 16) 0), oG 21 (.ext (tG 16) 1), oG 8 (.as (tG 20)), oG 9 (.as (tG 21))]
noncomputable def f24_r5 : List EOper := [oG 22 (.mv (tG 8)), oG 23 (.mv (tG 9)), oG 4 (.as (tG 22)), oG 5 (.as (tG 23)), oG 6 (.as (cG 0))]
noncomputable def f24_c : EC := (.seq (.reg f24_r0) (.seq (.seq (.reg f24_r1) (.seq (.reg f24_r2) (.cond (tG 14) (.seq (.reg f24_r3) .ret) .skip))) (.seq (.reg f24_r4) (.seq (.reg f24_r5) .ret))))
noncomputable def f24 : EF := ⟨24, [.tmp (.ofNat 4), .tmp (.ofNat 5), .tmp (.ofNat 6)], f24_c, none⟩
theorem f24_rs : f24.rs = [.tmp (.ofNat 4), .tmp (.ofNat 5), .tmp (.ofNat 6)] := of_eq_true (eq_self _)
section
variable {fs : T EF} {h h' : H}
theorem cells1_fn {k : K} {l : List V} : cellsN 1 (.fn k l) = some [.fn k l] := rfl
structure CallsCl (fs : T EF) : Prop extends CallsOr fs where
  c86 : fs.get (K.ofNat 86) = some f86
  c102 : fs.get (K.ofNat 102) = some f102
  c103 : fs.get (K.ofNat 103) = some f103
  c89 : fs.get (K.ofNat 89) = some f89
  c88 : fs.get (K.ofNat 88) = some f88
  c61 : fs.get (K.ofNat 61) = some f61
end
end Go.Ev
namespace Go.Ev
open Go Go.RowKit
section
variable {fs : T EF} {h h' : H}
theorem hasR_nat {L : List Bool} {a b : Nat} (ha : a < 7) (hb : b < 7) : hasR L ((a : Int), (b : Int)) = rat L a b := by
  unfold hasR nodeB
  rw [decide_eq_true (show (0 : Int) ≤ ((a : Int), (b : Int)).1 ∧ ((a : Int), (b : Int)).1 < 7 by simp only; omega), decide_eq_true (show (0 : Int) ≤ ((a : Int), (b : Int)).2 ∧ ((a : Int), (b : Int)).2 < 7 by simp only; omega)]
  rfl
end
end Go.Ev
namespace Go.Ev
open Go Go.RowKit
section
variable {fs : T EF} {h h' : H}
end
end Go.Ev
namespace Go.Ev
open Go Go.RowKit
noncomputable def f19_r0 : List EOper := [oG 5 (.box 2 (tG 2)), oG 6 (.as (.c (.b false)))]
noncomputable def f19_r1 : List EOper := [oG 7 (.iadr 2 1 (tG 5) (cG 0)), oG 8 (.ld (tG 7)), oG 9 (.bin .geq (tG 8) (cG 0)), oG 10 (.mv (tG 9)), gG 11 10 true (.iadr 2 1 (tG 5) (cG 1)), gG 12 10 true (.ld (tG 11)), gG 13 10 true (.bin .geq (tG 12) (cG 0)), oG 14 (.pick (tG 10) (tG 13) (.c (.b false))), oG 15 (.mv (tG 14)), gG 16 15 true (.iadr 2 1 (tG 5) (cG 0)), gG 17 15 true (.ld (tG 16)), gG 18 15 true (.mv (tG 0)), gG 19 15 true (.bin .lss (tG 17) (tG 18)), oG 20 (.pick (tG 15) (tG 19) (.c (.b false))), oG 21 (.mv (tG 20)), gG 22 21 true (.iadr 2 1 (tG 5) (cG 1)), gG 23 21 true (.ld (tG 22)), gG 24 21 true (.mv (tG 0)), gG 25 21 true (.bin .lss (tG 23) (tG 24)), oG 26 (.pick (tG 21) (tG 25) (.c (.b false))), oG 27 (.mv (tG 26)), gG 28 27 true (.iadr 2 1 (tG 5) (cG 0)), gG 29 27 true (.ld (tG 28)), gG 30 27 true (.iadr 2 1 (tG 5) (cG 1)), gG 31 27 true (.ld (tG 30)), gG 32 27 true (.bin .neq (tG 29) (tG 31)), oG 33 (.pick (tG 27) (tG 32) (.c (.b false))), oG 34 (.mv (tG 33)), gG 35 34 true (.mv (tG 1)), gG 36 34 true (.iadr 2 1 (tG 5) (cG 0)), gG 37 34 true (.ld (tG 36)), gG 38 34 true (.iadr 2 1 (tG 5) (cG 1)), gG 39 34 true (.ld (tG 38)), gG 40 34 true (.call (fG 52) [(tG 35), (tG 37), (tG 39)]), oG 41 (.pick (tG 34) (tG 40) (.c (.b false))), oG 6 (.as (tG 41))]
noncomputable def f19_c : EC := (.seq (.reg f19_r0) (.seq (.reg f19_r1) .ret))
noncomputable def f19 : EF := ⟨42, [.tmp (.ofNat 6)], f19_c, none⟩
theorem f19_rs : f19.rs = [.tmp (.ofNat 6)] := of_eq_true (eq_self _)
section
variable {fs : T EF} {h h' : H}
theorem hasR_arr {L : List Bool} {x : Int × Int} (h : hasR L x = true) : ∃ y : Nat × Nat, x = toI y ∧ in7 y ∧ rat L y.1 y.2 = true := by
  unfold hasR nodeB at h
  simp only [Bool.and_eq_true, decide_eq_true_eq] at h
  exact ⟨(x.1.toNat, x.2.toNat), Prod.ext (show x.1 = (x.1.toNat : Int) by omega) (show x.2 = (x.2.toNat : Int) by omega), ⟨by show x.1.toNat < 7; omega, by show x.2.toNat < 7; omega⟩, h.2.2⟩
theorem fcY_frcB {G : List Bool} (sy : SymR G) {x y : Nat × Nat} (hy : rat G y.1 y.2 = true) : decide (y ∈ fcY G x.1 x.2) = frcB G x y := by
  rw [Bool.eq_iff_iff, decide_eq_true_eq, mem_fcY]
  unfold frcB fcA fcB
  simp only [Bool.and_eq_true, Bool.or_eq_true, Bool.not_eq_true', decide_eq_true_eq]
  have hirr : ∀ a, rat G a a = false := fun a => by
    cases e : rat G a a with
    | false => rfl
    | true => exact absurd e (sy.gr.irr a)
  constructor
  · rintro (⟨h1, h2, h3⟩ | ⟨h1, h2, h3, h4⟩)
    · right
      rw [if_pos h1.symm]
      simpa using h3
    · right
      rw [if_neg (fun e => h2 e.symm)]
      simp only [Bool.and_eq_true, decide_eq_true_eq, Bool.not_eq_true']
      refine ⟨h1.symm, ?_⟩
      cases e : rat G x.1 y.1 with
      | false => rfl
      | true => have := sy.gr.sym _ _ e; have this : rat G y.1 x.1 = true := this; rw [h4] at this; cases this
  · rintro (rfl | h)
    · exact .inl ⟨rfl, hy, hirr _⟩
    · by_cases e : x.1 = y.1
      · rw [if_pos e] at h
        exact .inl ⟨e.symm, by rw [e]; exact hy, by simpa using h⟩
      · rw [if_neg e] at h
        simp only [Bool.and_eq_true, decide_eq_true_eq, Bool.not_eq_true'] at h
        refine .inr ⟨h.1.symm, fun e2 => e e2.symm, by rw [h.1]; exact hy, ?_⟩
        cases e2 : rat G y.1 x.1 with
        | false => rfl
        | true => have := sy.gr.sym _ _ e2; have this : rat G x.1 y.1 = true := this; rw [h.2] at this; cases this
theorem hasR_lt {n : Nat} {g : Nat → Nat → Bool} (hg : Gph n g) {x : Int × Int} : hasR (gR (arI g)) x = true ↔ 0 ≤ x.1 ∧ 0 ≤ x.2 ∧ x.1 < n ∧ x.2 < n ∧ x.1 ≠ x.2 ∧ rat (gR (arI g)) x.1.toNat x.2.toNat = true := by
  have h7 := hg.n7
  constructor
  · intro h
    obtain ⟨y, rfl, _, hy⟩ := hasR_arr h
    have := Er_lt hg hy
    unfold toI
    refine ⟨by simp only; omega, by simp only; omega, by simp only; omega, by simp only; omega, by simp only; omega, hy⟩
  · rintro ⟨h1, h2, h3, h4, _, h6⟩
    unfold hasR nodeB
    simp only [Bool.and_eq_true, decide_eq_true_eq]
    exact ⟨by omega, by omega, h6⟩
theorem f19_ret {n : Nat} {v : V} {g : Nat → Nat → Bool} {x : Int × Int} (k : CallsJn fs) (hg : Gph n g) (hv : Srp h v (arI g)) (hc : HC h) : Ret fs f19 [.i .i64 (n : Int), v, pV x] h fun r h' => r = .b (hasR (gR (arI g)) x) ∧ Grow h.nx.nat h h' := by
  have hlb := arI_len (g := g)
  have hn7 := hg.n7
  apply ret_of rfl
  show W fs none f19_c _ _ _
  unfold f19_c
  have c2 : cellsN 2 (pV x) = some [.i .i64 x.1, .i .i64 x.2] := rfl
  have gr1 : Grow h.nx.nat h (h.new (.cells 2 [.i .i64 x.1, .i .i64 x.2])) := Grow.new (Nat.le_refl _) _
  have e1 : (h.new (.cells 2 [.i .i64 x.1, .i .i64 x.2])).get h.nx = .cells 2 [.i .i64 x.1, .i .i64 x.2] := get_new_same
  simp (disch := omega) only [f19_r0, ↓reduceIte, c2, bz]
  generalize h.new (.cells 2 [.i .i64 x.1, .i .i64 x.2]) = h1 at *
  have hc1 := gr1.hc hc
  have l0 := ld20 e1
  have l1 := ld21 e1
  have hno : (¬ (0 ≤ x.1 ∧ 0 ≤ x.2 ∧ x.1 < n ∧ x.2 < n ∧ x.1 ≠ x.2)) → hasR (gR (arI g)) x = false := fun h => by
    cases e : hasR (gR (arI g)) x with
    | false => rfl
    | true => have := (hasR_lt hg).1 e; exact absurd ⟨this.1, this.2.1, this.2.2.1, this.2.2.2.1, this.2.2.2.2.1⟩ h
  cases d1 : decide (x.1 ≥ (0 : Int)) with
  | false =>
    have d1' := of_decide_eq_false d1
    rw [hno (by omega)]
    simp (disch := omega) only [f19_r1, f19_rs, Option.some.injEq, exists_eq_left', Nat.reduceEqDiff, ↓reduceIte, Bool.false_eq_true, l0, d1, bz]
    exact gr1
  | true =>
  cases d2 : decide (x.2 ≥ (0 : Int)) with
  | false =>
    have d2' := of_decide_eq_false d2
    rw [hno (by omega)]
    simp (disch := omega) only [f19_r1, f19_rs, Option.some.injEq, exists_eq_left', Nat.reduceEqDiff, ↓reduceIte, Bool.false_eq_true, l0, l1, d1, d2, bz]
    exact gr1
  | true =>
  cases d3 : decide (x.1 < (n : Int)) with
  | false =>
    have d3' := of_decide_eq_false d3
    rw [hno (by omega)]
    simp (disch := omega) only [f19_r1, f19_rs, Option.some.injEq, exists_eq_left', Nat.reduceEqDiff, ↓reduceIte, Bool.false_eq_true, l0, l1, d1, d2, d3, bz]
    exact gr1
  | true =>
  cases d4 : decide (x.2 < (n : Int)) with
  | false =>
    have d4' := of_decide_eq_false d4
    rw [hno (by omega)]
    simp (disch := omega) only [f19_r1, f19_rs, Option.some.injEq, exists_eq_left', Nat.reduceEqDiff, ↓reduceIte, Bool.false_eq_true, l0, l1, d1, d2, d3, d4, bz]
    exact gr1
  | true =>
  cases d5 : decide (x.1 ≠ x.2) with
  | false =>
    have d5' := of_decide_eq_false d5
    rw [hno (by omega)]
    simp (disch := omega) only [f19_r1, f19_rs, Option.some.injEq, exists_eq_left', Nat.reduceEqDiff, ↓reduceIte, Bool.false_eq_true, l0, l1, d1, d2, d3, d4, d5, bz]
    exact gr1
  | true =>
    have q1 := of_decide_eq_true d1
    have q2 := of_decide_eq_true d2
    have q3 := of_decide_eq_true d3
    have q4 := of_decide_eq_true d4
    have q5 := of_decide_eq_true d5
    obtain ⟨a, ha⟩ : ∃ a : Nat, x.1 = (a : Int) := ⟨x.1.toNat, by omega⟩
    obtain ⟨b, hb⟩ : ∃ b : Nat, x.2 = (b : Int) := ⟨x.2.toNat, by omega⟩
    rw [ha] at l0 d1 d3 d5 q1 q3
    rw [hb] at l1 d2 d4 d5 q2 q4
    have hxe : x = ((a : Int), (b : Int)) := Prod.ext ha hb
    simp (disch := omega) only [f19_r1, Nat.reduceEqDiff, ↓reduceIte, l0, l1, d1, d2, d3, d4, d5, bz]
    refine (callP_0 (ef := f52) k.c52 rfl (f52_ret k.c40 (hv.grow hc gr1) inI_arI (inI_mm (by omega) (by omega)) (by omega) hc1)).mono ?_
    rintro r h2 ⟨rfl, g2⟩
    rw [jn_sy hg]
    simp (disch := omega) only [f19_rs, Option.some.injEq, exists_eq_left', Nat.reduceEqDiff, ↓reduceIte, bz]
    refine ⟨?_, gr1.trans (g2.low gr1.nx)⟩
    rw [hxe, hasR_nat (by omega) (by omega)]
end
end Go.Ev
namespace Go.Ev
open Go Go.RowKit
inductive RchN (G : List Bool) (s : Nat × Nat) : Nat → Nat × Nat → Prop where
  | zero : RchN G s 0 s
  | step {d : Nat} {x p : Nat × Nat} : RchN G s d x → p ∈ fcY G x.1 x.2 → RchN G s (d + 1) p
theorem fcY_arr {G : List Bool} {x p : Nat × Nat} (h : p ∈ fcY G x.1 x.2) : rat G p.1 p.2 = true := by
  rcases mem_fcY.1 h with ⟨e, h3⟩ | ⟨e, h3⟩
  · unfold fcA at h3
    simp only [Bool.and_eq_true] at h3
    rw [e]; exact h3.1
  · unfold fcB at h3
    simp only [Bool.and_eq_true] at h3
    rw [e]; exact h3.2.1
theorem RchN.rch {G : List Bool} {s : Nat × Nat} {d : Nat} {x : Nat × Nat} (h : RchN G s d x) : Rch (Er G) s.1 s.2 x.1 x.2 := by
  induction h with
  | zero => exact .refl
  | step _ hp ih => exact fcY_rch hp ih
theorem RchN.of {G : List Bool} {s : Nat × Nat} {a b : Nat} (h : Rch (Er G) s.1 s.2 a b) : ∃ d, RchN G s d (a, b) := by
  induction h with
  | refl => exact ⟨0, .zero⟩
  | @out c d e _ h1 h2 ih =>
    have h2 : ¬ rat G d e = true := h2
    have h1 : rat G c e = true := h1
    obtain ⟨m, hm⟩ := ih
    exact ⟨m + 1, .step (p := (c, e)) hm (mem_fcY.2 (.inl ⟨rfl, by unfold fcA; rw [h1]; simpa using h2⟩))⟩
  | @inn c d e _ h1 h2 ih =>
    have h2 : ¬ rat G e c = true := h2
    have h1 : rat G e d = true := h1
    obtain ⟨m, hm⟩ := ih
    by_cases ee : e = c
    · rw [ee]; exact ⟨m, hm⟩
    · exact ⟨m + 1, .step (p := (e, d)) hm (mem_fcY.2 (.inr ⟨rfl, by unfold fcB; rw [h1, decide_eq_true ee]; simpa using h2⟩))⟩
def IsD (G : List Bool) (s y : Nat × Nat) (d : Nat) : Prop := RchN G s d y ∧ ∀ m, RchN G s m y → d ≤ m
noncomputable def dN (G : List Bool) (s y : Nat × Nat) : Option Nat := Classical.epsilon fun o => match o with | some d => IsD G s y d | none => ∀ d, ¬ RchN G s d y
theorem dN_some {G : List Bool} {s y : Nat × Nat} {d : Nat} (h : IsD G s y d) : dN G s y = some d := by
  have hs := Classical.epsilon_spec (p := fun o : Option Nat => match o with | some d => IsD G s y d | none => ∀ d, ¬ RchN G s d y) ⟨some d, h⟩
  unfold dN
  generalize Classical.epsilon (fun o : Option Nat => match o with | some d => IsD G s y d | none => ∀ d, ¬ RchN G s d y) = o at hs
  cases o with
  | none => exact absurd h.1 (hs d)
  | some e =>
    have hs : IsD G s y e := hs
    have h1 := hs.2 _ h.1
    have h2 := h.2 _ hs.1
    rw [show e = d by omega]
theorem dN_none {G : List Bool} {s y : Nat × Nat} (h : ∀ d, ¬ RchN G s d y) : dN G s y = none := by
  have hs := Classical.epsilon_spec (p := fun o : Option Nat => match o with | some d => IsD G s y d | none => ∀ d, ¬ RchN G s d y) ⟨none, h⟩
  unfold dN
  generalize Classical.epsilon (fun o : Option Nat => match o with | some d => IsD G s y d | none => ∀ d, ¬ RchN G s d y) = o at hs
  cases o with
  | none => rfl
  | some e => exact absurd (show IsD G s y e from hs).1 (h e)
structure Lv (G : List Bool) (s : Nat × Nat) (N : DM) (i : Nat) : Prop where
  beg : N[0]? = some (s, 0)
  par : ∀ j x d, N[j]? = some (x, d) → 0 < j → ∃ i' v e, i' < j ∧ N[i']? = some (v, e) ∧ d = e + 1 ∧ x ∈ fcY G v.1 v.2
  mono : ∀ (j j' : Nat) a b, j ≤ j' → N[j]? = some a → N[j']? = some b → a.2 ≤ b.2
  top : ∀ (j : Nat) a e, N[i]? = some e → N[j]? = some a → a.2 ≤ e.2 + 1
  clo : ∀ j x d, j < i → N[j]? = some (x, d) → ∀ p ∈ fcY G x.1 x.2, ∃ (j' : Nat) (d' : Nat), N[j']? = some (p, d') ∧ d' ≤ d + 1
theorem get_one {α : Type} {x a : α} {j : Nat} (h : [x][j]? = some a) : j = 0 ∧ a = x := by
  cases j with
  | zero => simp at h; exact ⟨rfl, h.symm⟩
  | succ j => simp at h
theorem Lv.one {G : List Bool} {s : Nat × Nat} : Lv G s [(s, 0)] 0 where
  beg := rfl
  par := fun j x d h h0 => by have := (get_one h).1; omega
  mono := fun j j' a b _ h1 h2 => by rw [(get_one h1).2, (get_one h2).2]; exact Nat.le_refl _
  top := fun j a e h1 h2 => by rw [(get_one h1).2, (get_one h2).2]; exact Nat.le_succ _
  clo := fun j x d hj => by omega
theorem get_snoc {α : Type} {N : List α} {y a : α} {j : Nat} (h : (N ++ [y])[j]? = some a) : N[j]? = some a ∨ (j = N.length ∧ a = y) := by
  by_cases hj : j < N.length
  · rw [List.getElem?_append_left hj] at h; exact .inl h
  · rw [List.getElem?_append_right (by omega)] at h
    obtain ⟨h1, h2⟩ := get_one h
    exact .inr ⟨by omega, h2⟩
theorem get_up {α : Type} {N : List α} {y a : α} {j : Nat} (h : N[j]? = some a) : (N ++ [y])[j]? = some a := by
  rw [List.getElem?_append_left (get_lt h)]; exact h
theorem Lv.add {G : List Bool} {s : Nat × Nat} {N : DM} {i : Nat} (k : Lv G s N i) {x p : Nat × Nat} {d : Nat} (hi : N[i]? = some (x, d)) (hp : p ∈ fcY G x.1 x.2) : Lv G s (N ++ [(p, d + 1)]) i where
  beg := get_up k.beg
  par := fun j y c h h0 => by
    rcases get_snoc h with h | ⟨h1, h2⟩
    · obtain ⟨i', v, e, q1, q2, q3, q4⟩ := k.par j y c h h0
      exact ⟨i', v, e, q1, get_up q2, q3, q4⟩
    · injection h2 with h2 h3
      exact ⟨i, x, d, by have := get_lt hi; omega, get_up hi, h3, by rw [h2]; exact hp⟩
  mono := fun j j' a b hjj h1 h2 => by
    rcases get_snoc h1 with h1 | ⟨h1, e1⟩
    · rcases get_snoc h2 with h2 | ⟨h2, e2⟩
      · exact k.mono j j' a b hjj h1 h2
      · rw [e2]; exact k.top j a _ hi h1
    · rcases get_snoc h2 with h2 | ⟨h2, e2⟩
      · have := get_lt h2; omega
      · rw [e1, e2]; exact Nat.le_refl _
  top := fun j a e h1 h2 => by
    have h1 : N[i]? = some e := by rcases get_snoc h1 with h | ⟨h, _⟩
                                   · exact h
                                   · have := get_lt hi; omega
    rw [hi] at h1
    obtain rfl := Option.some.inj h1
    rcases get_snoc h2 with h2 | ⟨_, e2⟩
    · exact k.top j a _ hi h2
    · rw [e2]; exact Nat.le_refl _
  clo := fun j y c hj h q hq => by
    rcases get_snoc h with h | ⟨h1, _⟩
    · obtain ⟨j', d', q1, q2⟩ := k.clo j y c hj h q hq
      exact ⟨j', d', get_up q1, q2⟩
    · have := get_lt hi; omega
theorem Lv.next {G : List Bool} {s : Nat × Nat} {N : DM} {i : Nat} (k : Lv G s N i) (hc : ∀ x d, N[i]? = some (x, d) → ∀ p ∈ fcY G x.1 x.2, p ∈ N.map Prod.fst) : Lv G s N (i + 1) where
  beg := k.beg
  par := k.par
  mono := k.mono
  top := fun j a e h1 h2 => by
    have hl := get_lt h1
    obtain ⟨b, hb⟩ : ∃ b, N[i]? = some b := ⟨N[i], List.getElem?_eq_getElem (by omega)⟩
    have := k.top j a b hb h2
    have := k.mono i (i + 1) b e (by omega) hb h1
    omega
  clo := fun j x d hj h p hp => by
    by_cases e : j = i
    · subst e
      obtain ⟨⟨p', d'⟩, hm, rfl⟩ := List.mem_map.1 (hc x d h p hp)
      obtain ⟨j', hj', ej⟩ := List.getElem_of_mem hm
      have hj2 : N[j']? = some (p', d') := by rw [List.getElem?_eq_getElem hj', ej]
      exact ⟨j', d', hj2, k.top j' _ _ h hj2⟩
    · exact k.clo j x d (by omega) h p hp
theorem Lv.rch {G : List Bool} {s : Nat × Nat} {N : DM} {i : Nat} (k : Lv G s N i) : ∀ (j : Nat) x d, N[j]? = some (x, d) → RchN G s d x := by
  intro j
  induction j using Nat.strongRecOn with
  | ind j ih =>
    intro x d h
    by_cases h0 : 0 < j
    · obtain ⟨i', v, e, q1, q2, q3, q4⟩ := k.par j x d h h0
      rw [q3]; exact .step (ih i' q1 v e q2) q4
    · have : j = 0 := by omega
      subst this
      rw [k.beg] at h
      obtain ⟨rfl, rfl⟩ := Prod.mk.inj (Option.some.inj h)
      exact .zero
theorem Lv.low {G : List Bool} {s : Nat × Nat} {N : DM} {i : Nat} (k : Lv G s N i) {e : (Nat × Nat) × Nat} (he : N[i]? = some e) {m : Nat} {z : Nat × Nat} (h : RchN G s m z) : m ≤ e.2 → ∃ (j : Nat) (d' : Nat), N[j]? = some (z, d') ∧ d' ≤ m := by
  induction h with
  | zero => exact fun _ => ⟨0, 0, k.beg, Nat.le_refl _⟩
  | @step m x p _ hp ih =>
    intro hm
    obtain ⟨j, d', h1, h2⟩ := ih (by omega)
    have hj : j < i := by
      refine Classical.byContradiction fun hn => ?_
      have := k.mono i j _ _ (by omega) he h1
      have : e.2 ≤ d' := this
      omega
    obtain ⟨j', d2, h3, h4⟩ := k.clo j x d' hj h1 p hp
    exact ⟨j', d2, h3, by omega⟩
theorem Lv.fin {G : List Bool} {s : Nat × Nat} {N : DM} {i : Nat} (k : Lv G s N i) (hi : N.length ≤ i) {m : Nat} {z : Nat × Nat} (h : RchN G s m z) : ∃ (j : Nat) (d' : Nat), N[j]? = some (z, d') ∧ d' ≤ m := by
  induction h with
  | zero => exact ⟨0, 0, k.beg, Nat.le_refl _⟩
  | @step m x p _ hp ih =>
    obtain ⟨j, d', h1, h2⟩ := ih
    obtain ⟨j', d2, h3, h4⟩ := k.clo j x d' (by have := get_lt h1; omega) h1 p hp
    exact ⟨j', d2, h3, by omega⟩
theorem nd_same {N : DM} (hn : (kyD N).Nodup) {j j' : Nat} {z : Nat × Nat} {d d' : Nat} (h1 : N[j]? = some (z, d)) (h2 : N[j']? = some (z, d')) : d = d' := by
  have e1 := lkD_at hn h1
  have e2 := lkD_at hn h2
  rw [e1] at e2; exact Option.some.inj e2
theorem Lv.isD {G : List Bool} {s : Nat × Nat} {N : DM} {i : Nat} (k : Lv G s N i) (hn : (kyD N).Nodup) (hi : N.length ≤ i) {j : Nat} {z : Nat × Nat} {d : Nat} (h : N[j]? = some (z, d)) : IsD G s z d :=
  ⟨k.rch j z d h, fun m hm => by
    obtain ⟨j', d', h1, h2⟩ := k.fin hi hm
    have := nd_same hn h h1
    omega⟩
theorem Lv.new {G : List Bool} {s : Nat × Nat} {N : DM} {i : Nat} (k : Lv G s N i) {x p : Nat × Nat} {d : Nat} (hi : N[i]? = some (x, d)) (hp : p ∈ fcY G x.1 x.2) (hno : p ∉ kyD N) : IsD G s p (d + 1) :=
  ⟨.step (k.rch i x d hi) hp, fun m hm => by
    refine Classical.byContradiction fun hlt => ?_
    obtain ⟨j, d', h1, _⟩ := k.low hi hm (show m ≤ d by omega)
    exact hno (List.mem_map.2 ⟨_, List.mem_of_getElem? h1, rfl⟩)⟩
theorem BfsR.lv {G : List Bool} (sy : SymR G) {s : Nat × Nat} (hs : rat G s.1 s.2 = true) {i k : Nat} {M : DM} (r : BfsR G s i k M) : Lv G s M i := by
  induction r with
  | start => exact Lv.one
  | skip _ _ _ _ ih => exact ih
  | @add i k M x p d _ h1 h2 _ h4 ih =>
    exact ih.add h1 (of_decide_eq_true (by rw [fcY_frcB sy (arw_lt (List.mem_of_getElem? h2)).2.2]; exact h4))
  | @next i M r hi ih =>
    have bi := r.inv sy hs
    refine ih.next fun x d hx p hp => ?_
    have hpa := fcY_arr hp
    have hl := rat_lt hpa
    obtain ⟨q, hq, eq⟩ := List.getElem_of_mem (mem_arw.2 ⟨hl.1, hl.2, hpa⟩ : (p.1, p.2) ∈ arw (rat G))
    exact bi.cur q x p d hq hx (by rw [List.getElem?_eq_getElem hq, eq]) (by rw [← fcY_frcB sy hpa]; exact decide_eq_true hp)
theorem BfsR.dN {G : List Bool} (sy : SymR G) {s : Nat × Nat} (hs : rat G s.1 s.2 = true) {M : DM} (r : BfsR G s M.length 0 M) (y : Nat × Nat) : dN G s y = lkD M y := by
  have bi := r.inv sy hs
  have lv := r.lv sy hs
  cases h : lkD M y with
  | none =>
    refine dN_none fun d hd => ?_
    obtain ⟨j, d', h1, _⟩ := lv.fin (Nat.le_refl _) hd
    exact lkD_none.1 h (List.mem_map.2 ⟨_, List.mem_of_getElem? h1, rfl⟩)
  | some d =>
    have hm : y ∈ kyD M := Classical.byContradiction fun hn => by rw [lkD_none.2 hn] at h; cases h
    obtain ⟨⟨y', d'⟩, hm2, rfl⟩ := List.mem_map.1 hm
    obtain ⟨j, hj, ej⟩ := List.getElem_of_mem hm2
    have hj2 : M[j]? = some (y', d') := by rw [List.getElem?_eq_getElem hj, ej]
    have := lkD_at bi.nd hj2
    rw [this] at h
    obtain rfl := Option.some.inj h
    exact dN_some (lv.isD bi.nd (Nat.le_refl _) hj2)
def minC (best : Nat) (o : Option Nat) : Nat := match o with | none => best | some d => if best = 0 ∨ d + 1 < best then d + 1 else best
noncomputable def clT (G : List Bool) (k : Nat) : Nat := ((arw (rat G)).take k).foldl (fun b x => minC b (dN G x (swN x))) 0
noncomputable def clD (G : List Bool) : Nat := clT G (arw (rat G)).length
theorem clT_succ {G : List Bool} {k : Nat} {x : Nat × Nat} (h : (arw (rat G))[k]? = some x) : clT G (k + 1) = minC (clT G k) (dN G x (swN x)) := by
  unfold clT
  rw [List.take_add_one, h, List.foldl_append]; rfl
theorem clT_zero {G : List Bool} : ∀ k, k ≤ (arw (rat G)).length → (clT G k = 0 ↔ ∀ x ∈ (arw (rat G)).take k, dN G x (swN x) = none)
  | 0, _ => by simp [clT]
  | k + 1, hk => by
    obtain ⟨x, hx⟩ : ∃ x, (arw (rat G))[k]? = some x := ⟨(arw (rat G))[k]'(by omega), List.getElem?_eq_getElem (by omega)⟩
    rw [clT_succ hx, List.take_add_one, hx]
    have ih := clT_zero (G := G) k (by omega)
    constructor
    · intro h
      cases hd : dN G x (swN x) with
      | none =>
        rw [hd] at h
        have h := ih.1 h
        intro y hy
        rcases List.mem_append.1 hy with hy | hy
        · exact h y hy
        · simp at hy; rw [hy]; exact hd
      | some d =>
        rw [hd] at h
        unfold minC at h
        simp only at h
        split at h <;> omega
    · intro h
      rw [h x (by simp)]
      exact ih.2 fun y hy => h y (List.mem_append_left _ hy)
theorem clD_zero {G : List Bool} : clD G = 0 ↔ CF (Er G) := by
  unfold clD
  rw [clT_zero _ (Nat.le_refl _), List.take_length]
  constructor
  · intro h a b hab hr
    have hl := rat_lt hab
    have h1 := h (a, b) (mem_arw.2 ⟨hl.1, hl.2, hab⟩)
    obtain ⟨m, hm⟩ := RchN.of (s := (a, b)) hr
    obtain ⟨d, hd⟩ : ∃ d, IsD G (a, b) (b, a) d := by
      have : ∀ m, RchN G (a, b) m (b, a) → ∃ d, IsD G (a, b) (b, a) d := by
        intro m
        induction m using Nat.strongRecOn with
        | ind m ih =>
          intro hm
          by_cases e : ∃ m', m' < m ∧ RchN G (a, b) m' (b, a)
          · obtain ⟨m', h1, h2⟩ := e
            exact ih m' h1 h2
          · exact ⟨m, hm, fun m' h' => Classical.byContradiction fun hn => e ⟨m', by omega, h'⟩⟩
      exact this m hm
    have h2 := dN_some hd
    have h1 : dN G (a, b) (b, a) = none := h1
    rw [h1] at h2; cases h2
  · rintro h ⟨a, b⟩ hx
    refine dN_none fun d hd => h a b (arw_lt hx).2.2 hd.rch
end Go.Ev
namespace Go.Ev
open Go Go.RowKit
noncomputable def f25_r0 : List EOper := [oG 4 (.as (cG 0))]
noncomputable def f25_r1 : List EOper := [oG 11 (.mv (tG 0)), oG 12 (.mv (tG 1)), oG 13 (.call (fG 53) [(tG 11), (tG 12)]), oG 5 (.as (tG 13))]
noncomputable def f25_r2 : List EOper := [oG 6 (.as (cG 0))]
noncomputable def f25_r3 : List EOper := [oG 7 (.as (cG 0))]
noncomputable def f25_r4 : List EOper := [oG 14 (.mv (tG 7)), oG 15 (.mv (tG 5)), oG 16 (.len (tG 15)), oG 17 (.bin .lss (tG 14) (tG 16))]
noncomputable def f25_r5 : List EOper := [oG 21 (.mv (tG 0)), oG 22 (.mv (tG 1)), oG 23 (.mv (tG 5)), oG 24 (.mv (tG 7)), oG 25 (.iads 2 (tG 23) (tG 24)), oG 26 (.ldn 2 (tG 25)), oG 27 (.call (fG 21) [(tG 21), (tG 22), (tG 26)]), oG 20 (.mv (tG 27)), oG 28 (.ext (tG 20) 0), oG 29 (.ext (tG 20) 1), oG 8 (.as (tG 28)), oG 9 (.as (tG 29))]
noncomputable def f25_r6 : List EOper := [oG 10 (.as (cG 0))]
noncomputable def f25_r7 : List EOper := [oG 30 (.mv (tG 10)), oG 31 (.mv (tG 8)), oG 32 (.len (tG 31)), oG 33 (.bin .lss (tG 30) (tG 32))]
noncomputable def f25_r8 : List Stage := [⟨[oG 36 (.mv (tG 8)), oG 37 (.mv (tG 10)), oG 38 (.iads 2 (tG 36) (tG 37)), oG 39 (.ldn 2 (tG 38)), oG 40 (.mv (tG 5)), oG 41 (.mv (tG 7)), oG 42 (.iads 2 (tG 40) (tG 41)), oG 43 (.iadr 2 1 (tG 42) (cG 1)), oG 44 (.ld (tG 43)), oG 45 (.mv (tG 5)), oG 46 (.mv (tG 7)), oG 47 (.iads 2 (tG 45) (tG 46)), oG 48 (.iadr 2 1 (tG 47) (cG 0)), oG 49 (.ld (tG 48)), oG 50 (.build [(.i .i64 (.ofNat 0)), (.i .i64 (.ofNat 0))] [(0, 1, (tG 44)), (1, 1, (tG 49))]), oG 51 (.eqk (.many [(some .i64), (some .i64)]) false (tG 39) (tG 50)), oG 52 (.mv (tG 51)), gG 53 52 true (.mv (tG 6)), gG 54 52 true (.bin .eql (tG 53) (cG 0)), gG 55 52 true (.mv (tG 54)), gG 56 55 false (.mv (tG 9)), gG 57 55 false (.mv (tG 10)), gG 58 55 false (.iads 1 (tG 56) (tG 57)), gG 59 55 false (.ld (tG 58)), gG 60 55 false (.bin .add (tG 59) (cG 1)), gG 61 55 false (.mv (tG 6)), gG 62 55 false (.bin .lss (tG 60) (tG 61)), gG 63 52 true (.pick (tG 55) (.c (.b true)) (tG 62)), oG 64 (.pick (tG 52) (tG 63) (.c (.b false)))], [], none, []⟩]
noncomputable def f25_r9 : List EOper := [oG 65 (.mv (tG 9)), oG 66 (.mv (tG 10)), oG 67 (.iads 1 (tG 65) (tG 66)), oG 68 (.ld (tG 67)), oG 69 (.bin .add (tG 68) (cG 1)), oG 6 (.as (tG 69))]
noncomputable def f25_r10 : List EOper := [oG 34 (.mv (tG 10)), oG 35 (.bin .add (tG 34) (cG 1)), oG 10 (.as (tG 35))]
noncomputable def f25_l0 : EC := (.seq (.seq (.reg f25_r7) (.cond (tG 33) .skip (.exit 2))) (.seq (.block 3 (.seq (.draw f25_r8) (.cond (tG 64) (.reg f25_r9) .skip))) (.reg f25_r10)))
noncomputable def f25_r11 : List EOper := [oG 18 (.mv (tG 7)), oG 19 (.bin .add (tG 18) (cG 1)), oG 7 (.as (tG 19))]
noncomputable def f25_l1 : EC := (.seq (.seq (.reg f25_r4) (.cond (tG 17) .skip (.exit 0))) (.seq (.block 1 (.seq (.reg f25_r5) (.seq (.reg f25_r6) (.block 2 (.loop f25_l0))))) (.reg f25_r11)))
noncomputable def f25_r12 : List EOper := [oG 70 (.mv (tG 6)), oG 4 (.as (tG 70))]
noncomputable def f25_c : EC := (.seq (.reg f25_r0) (.seq (.reg f25_r1) (.seq (.reg f25_r2) (.seq (.seq (.reg f25_r3) (.block 0 (.loop f25_l1))) (.seq (.reg f25_r12) .ret)))))
noncomputable def f25 : EF := ⟨71, [.tmp (.ofNat 4)], f25_c, none⟩
theorem f25_rs : f25.rs = [.tmp (.ofNat 4)] := of_eq_true (eq_self _)
section
variable {fs : T EF} {h h' : H}
noncomputable def inB (G : List Bool) (x : Nat × Nat) (P : List (Nat × Nat)) (best i : Nat) : Nat := if swN x ∈ P.take i then minC best (dN G x (swN x)) else best
theorem minC_twice {b d : Nat} : minC (minC b (some d)) (some d) = minC b (some d) := by
  unfold minC
  simp only
  split
  · rw [if_neg (by omega)]
  · rfl
theorem inB_succ {G : List Bool} {x p : Nat × Nat} {P : List (Nat × Nat)} {best i : Nat} (hp : P[i]? = some p) : inB G x P best (i + 1) = if p = swN x then minC (inB G x P best i) (dN G x p) else inB G x P best i := by
  unfold inB
  rw [List.take_add_one, hp]
  by_cases e : p = swN x
  · rw [if_pos e, if_pos (by rw [e]; simp), e]
    split
    · cases dN G x (swN x) with
      | none => rfl
      | some d => exact minC_twice.symm
    · rfl
  · rw [if_neg e]
    have : (swN x ∈ P.take i ++ (some p).toList) ↔ swN x ∈ P.take i := by
      rw [List.mem_append]
      exact ⟨fun h => h.elim id fun h => absurd (by simpa using h) (fun h2 => e (Eq.symm h2)), .inl⟩
    by_cases h : swN x ∈ P.take i
    · rw [if_pos h, if_pos (this.2 h)]
    · rw [if_neg h, if_neg (fun h2 => h (this.1 h2))]
structure CallsKl (fs : T EF) : Prop extends CallsCs fs where
  c21 : fs.get (K.ofNat 21) = some f21
def f25_I (h0 : H) (n : Nat) (v al : V) (G : List Bool) (k : Nat) (fr : Fr) (h1 : H) : Prop := k ≤ (arw (rat G)).length ∧ Grow h0.nx.nat h0 h1 ∧ HC h1 ∧ fr.get (K.ofNat 0) = some (.i .i64 (n : Int)) ∧ fr.get (K.ofNat 1) = some (v) ∧ fr.get (K.ofNat 5) = some (al) ∧ fr.get (K.ofNat 6) = some (.i .i64 (clT G k : Int)) ∧ fr.get (K.ofNat 7) = some (.i .i64 (k : Int))
def f25_J (h0 : H) (n : Nat) (v al c w : V) (G : List Bool) (k : Nat) (x : Nat × Nat) (i : Nat) (fr : Fr) (h1 : H) : Prop := i ≤ (arw (rat (clsR G x))).length ∧ h1 = h0 ∧ fr.get (K.ofNat 0) = some (.i .i64 (n : Int)) ∧ fr.get (K.ofNat 1) = some (v) ∧ fr.get (K.ofNat 5) = some (al) ∧ fr.get (K.ofNat 6) = some (.i .i64 (inB G x (arw (rat (clsR G x))) (clT G k) i : Int)) ∧ fr.get (K.ofNat 7) = some (.i .i64 (k : Int)) ∧ fr.get (K.ofNat 8) = some (c) ∧ fr.get (K.ofNat 9) = some (w) ∧ fr.get (K.ofNat 10) = some (.i .i64 (i : Int))
theorem f25_ret {n : Nat} {v : V} {g : Nat → Nat → Bool} (k : CallsKl fs) (hg : Gph n g) (hv : Srp h v (arI g)) (hc : HC h) : Ret fs f25 [.i .i64 (n : Int), v] h fun r h' => r = .i .i64 (clD (gR (arI g)) : Int) ∧ Grow h.nx.nat h h' := by
  have hlb := arI_len (g := g)
  have sy := symR_g hg
  apply ret_of rfl
  show W fs none f25_c _ _ _
  unfold f25_c
  simp (disch := omega) only [f25_r0, f25_r1, Nat.reduceEqDiff, ↓reduceIte, bz]
  refine (callP_0 (ef := f53) k.c53 rfl (f53_ret k.toCallsJn hg hv hc)).mono ?_
  rintro al h1 ⟨hal, hoal, gr1⟩
  have hc1 := gr1.hc hc
  have hlw : (arI (rat (gR (arI g)))).length = (arw (rat (gR (arI g)))).length := by unfold arI; rw [List.length_map]
  have hlA : (arw (rat (gR (arI g)))).length ≤ 49 := by rw [← hlw]; exact arI_len
  have hall : ∀ h1, lenV al h1 = .ok (.i .i64 ((arw (rat (gR (arI g)))).length : Int)) h1 := fun h1 => by rw [hal.len, hlw]
  simp (disch := omega) only [f25_r2, f25_r3, ↓reduceIte, bz]
  refine W_loop (f25_I h1 n v al (gR (arI g))) (fun k => (arw (rat (gR (arI g)))).length - k) ?_ 0 ⟨by omega, Grow.refl _ _, hc1, by simp (disch := omega) only [getK_set, Nat.reduceEqDiff, ↓reduceIte, and_self, Int.natCast_zero, clT, List.take_zero, List.foldl_nil]⟩
  rintro kk fr h2 ⟨hkk, hG, hc2, g0, g1, g5, g6, g7⟩
  unfold f25_l1
  by_cases hlt : kk < (arw (rat (gR (arI g)))).length
  · have d0 : decide ((kk : Int) < ((arw (rat (gR (arI g)))).length : Int)) = true := decide_eq_true (by omega)
    obtain ⟨x, hx⟩ : ∃ x, (arw (rat (gR (arI g))))[kk]? = some x := ⟨_, List.getElem?_eq_getElem hlt⟩
    have hxm := arw_lt (List.mem_of_getElem? hx)
    have hx7 : in7 x := ⟨hxm.1, hxm.2.1⟩
    have hkl : kk < (arI (rat (gR (arI g)))).length := by rw [hlw]; exact hlt
    have hal2 := hal.grow hc1 hG
    obtain ⟨id, q, pa, pb, pc, pd⟩ := hal2.srpo.at2 hkl
    rw [arI_at hx hkl] at pb
    have pb : loadV h2 (.p id q) (many? 2) = .ok (aV x) h2 := pb
    simp (disch := omega) only [f25_r4, f25_r5, Nat.reduceEqDiff, ↓reduceIte, g0, g1, g5, g7, hall, d0, pa, pb, bz]
    refine (callP_0 (ef := f21) k.c21 rfl (f21_ret (s := x) k.toCallsCs hg ((hv.grow hc gr1).grow hc1 hG) hxm.2.2 hc2)).mono ?_
    rintro r h3 ⟨c, w, M, rfl, hr, sc, oc, sw, ow, gr3⟩
    have hc3 := gr3.hc hc2
    have hG3 := hG.trans (gr3.low hG.nx)
    have hal3 := hal2.grow hc2 gr3
    have bi := hr.inv sy hxm.2.2
    have hlc : (arI (rat (clsR (gR (arI g)) x))).length = (arw (rat (clsR (gR (arI g)) x))).length := by unfold arI; rw [List.length_map]
    have hlC : (arw (rat (clsR (gR (arI g)) x))).length ≤ 49 := by rw [← hlc]; exact arI_len
    have hcl : ∀ h1, lenV c h1 = .ok (.i .i64 ((arw (rat (clsR (gR (arI g)) x))).length : Int)) h1 := fun h1 => by rw [sc.len, hlc]
    obtain ⟨id', q', pa3, _, pc3, pd3⟩ := hal3.srpo.at2 hkl
    rw [arI_at hx hkl] at pc3 pd3
    have pc3 : loadV h3 (.p id' (q' + 0 * 1)) one? = .ok (.i .i64 (x.1 : Int)) h3 := pc3
    have pd3 : loadV h3 (.p id' (q' + 1 * 1)) one? = .ok (.i .i64 (x.2 : Int)) h3 := pd3
    have hdn := hr.dN sy hxm.2.2
    simp (disch := omega) only [f25_r6, Nat.reduceEqDiff, ↓reduceIte, bz]
    refine W_loop (f25_J h3 n v al c w (gR (arI g)) kk x) (fun i => (arw (rat (clsR (gR (arI g)) x))).length - i) ?_ 0 ⟨by omega, rfl, by simp (disch := omega) only [getK_set, Nat.reduceEqDiff, ↓reduceIte, g0, g1, g5, g6, g7, and_self, Int.natCast_zero, inB, List.take_zero, List.not_mem_nil]⟩
    clear g0 g1 g5 g6 g7 fr
    rintro i fr h4 ⟨hi, rfl, g0, g1, g5, g6, g7, g8, g9, g10⟩
    unfold f25_l0
    by_cases hil : i < (arw (rat (clsR (gR (arI g)) x))).length
    · have d1 : decide ((i : Int) < ((arw (rat (clsR (gR (arI g)) x))).length : Int)) = true := decide_eq_true (by omega)
      obtain ⟨p, hp⟩ : ∃ p, (arw (rat (clsR (gR (arI g)) x)))[i]? = some p := ⟨_, List.getElem?_eq_getElem hil⟩
      have hpm := arw_lt (List.mem_of_getElem? hp)
      have hp7 : in7 p := ⟨hpm.1, hpm.2.1⟩
      have hcli : i < (arI (rat (clsR (gR (arI g)) x))).length := by rw [hlc]; exact hil
      obtain ⟨id2, q2, ca, cb, _, _⟩ := sc.srpo.at2 hcli
      rw [arI_at hp hcli] at cb
      have cb : loadV h4 (.p id2 q2) (many? 2) = .ok (aV p) h4 := cb
      obtain ⟨wp, wa, wb⟩ := sw.at i (by rw [List.length_map]; exact hil)
      rw [List.getElem_map] at wb
      have hpe : (arw (rat (clsR (gR (arI g)) x)))[i] = p := by rw [List.getElem?_eq_getElem hil] at hp; exact Option.some.inj hp
      rw [hpe] at wb
      obtain ⟨d, hd⟩ : ∃ d, lkD M p = some d := by
        cases e : lkD M p with
        | some d => exact ⟨d, rfl⟩
        | none => exact absurd ((bi.cls sy hxm.2.2 p).2 hpm.2.2) (lkD_none.1 e)
      rw [hd] at wb
      have wb : loadV h4 wp one? = .ok (.i .i64 (d : Int)) h4 := wb
      have hdl : d + 1 ≤ 49 := by
        have hin := bi.dl (p, d) (by
          have hm : p ∈ kyD M := Classical.byContradiction fun hn => by rw [lkD_none.2 hn] at hd; cases hd
          obtain ⟨⟨p', d'⟩, hm2, rfl⟩ := List.mem_map.1 hm
          obtain ⟨j, hj, ej⟩ := List.getElem_of_mem hm2
          have := lkD_at bi.nd (show M[j]? = some (p', d') by rw [List.getElem?_eq_getElem hj, ej])
          rw [this] at hd
          rw [← Option.some.inj hd]; exact hm2)
        have := bi.len
        have hin : d + 1 ≤ M.length := hin
        omega
      have hsw : in7 (swN x) := ⟨hx7.2, hx7.1⟩
      have hq := keyEq_aV hp7 hsw
      have hav : V.agg [.i .i64 (x.2 : Int), .i .i64 (x.1 : Int)] = aV (swN x) := rfl
      have hsu := inB_succ (G := gR (arI g)) (x := x) (best := clT (gR (arI g)) kk) hp
      generalize hb : inB (gR (arI g)) x (arw (rat (clsR (gR (arI g)) x))) (clT (gR (arI g)) kk) i = B at *
      have hdn2 := hdn p
      rw [hd] at hdn2
      by_cases e : p = swN x
      · have e1 : decide (p = swN x) = true := decide_eq_true e
        rw [e1] at hq
        rw [if_pos e, hdn2] at hsu
        unfold minC at hsu
        simp only at hsu
        by_cases hB : B = 0
        · have e2 : decide ((B : Int) = 0) = true := decide_eq_true (by omega)
          rw [if_pos (.inl hB)] at hsu
          simp (disch := omega) only [f25_r7, f25_r8, f25_r9, f25_r10, Nat.reduceEqDiff, ↓reduceIte, Bool.false_eq_true, Bool.not_true, g5, g6, g7, g8, g9, g10, hcl, d1, ca, cb, pa3, pc3, pd3, hav, hq, cond_false, e2, wa, wb, bz]
          exact ⟨i + 1, by omega, by omega, rfl, by rw [hsu]; simp (disch := omega) only [getK_set, Nat.reduceEqDiff, ↓reduceIte, g0, g1, g5, g7, g8, g9, and_self, Int.natCast_add, Int.natCast_one]⟩
        · have e2 : decide ((B : Int) = 0) = false := decide_eq_false (by omega)
          by_cases hlt2 : d + 1 < B
          · have e3 : decide ((d : Int) + 1 < (B : Int)) = true := decide_eq_true (by omega)
            rw [if_pos (.inr hlt2)] at hsu
            simp (disch := omega) only [f25_r7, f25_r8, f25_r9, f25_r10, Nat.reduceEqDiff, ↓reduceIte, Bool.false_eq_true, Bool.not_false, g5, g6, g7, g8, g9, g10, hcl, d1, ca, cb, pa3, pc3, pd3, hav, hq, cond_false, e2, e3, wa, wb, bz]
            exact ⟨i + 1, by omega, by omega, rfl, by rw [hsu]; simp (disch := omega) only [getK_set, Nat.reduceEqDiff, ↓reduceIte, g0, g1, g5, g7, g8, g9, and_self, Int.natCast_add, Int.natCast_one]⟩
          · have e3 : decide ((d : Int) + 1 < (B : Int)) = false := decide_eq_false (by omega)
            rw [if_neg (by omega)] at hsu
            simp (disch := omega) only [f25_r7, f25_r8, f25_r10, Nat.reduceEqDiff, ↓reduceIte, Bool.false_eq_true, Bool.not_false, g5, g6, g7, g8, g9, g10, hcl, d1, ca, cb, pa3, pc3, pd3, hav, hq, cond_false, e2, e3, wa, wb, bz]
            exact ⟨i + 1, by omega, by omega, rfl, by rw [hsu]; simp (disch := omega) only [getK_set, Nat.reduceEqDiff, ↓reduceIte, g0, g1, g5, g6, g7, g8, g9, and_self, Int.natCast_add, Int.natCast_one]⟩
      · have e1 : decide (p = swN x) = false := decide_eq_false e
        rw [e1] at hq
        rw [if_neg e] at hsu
        simp (disch := omega) only [f25_r7, f25_r8, f25_r10, Nat.reduceEqDiff, ↓reduceIte, Bool.false_eq_true, g5, g7, g8, g10, hcl, d1, ca, cb, pa3, pc3, pd3, hav, hq, cond_false, bz]
        exact ⟨i + 1, by omega, by omega, rfl, by rw [hsu]; simp (disch := omega) only [getK_set, Nat.reduceEqDiff, ↓reduceIte, g0, g1, g5, g6, g7, g8, g9, and_self, Int.natCast_add, Int.natCast_one]⟩
    · have d1 : decide ((i : Int) < ((arw (rat (clsR (gR (arI g)) x))).length : Int)) = false := decide_eq_false (by omega)
      have ei : i = (arw (rat (clsR (gR (arI g)) x))).length := by omega
      have hend : inB (gR (arI g)) x (arw (rat (clsR (gR (arI g)) x))) (clT (gR (arI g)) kk) i = clT (gR (arI g)) (kk + 1) := by
        rw [clT_succ hx, ei]
        unfold inB
        rw [List.take_length]
        by_cases hm : swN x ∈ arw (rat (clsR (gR (arI g)) x))
        · rw [if_pos hm]
        · rw [if_neg hm]
          have : dN (gR (arI g)) x (swN x) = none := by
            rw [hdn, lkD_none, bi.cls sy hxm.2.2]
            exact fun h => hm (mem_arw.2 ⟨hx7.2, hx7.1, h⟩)
          rw [this]; rfl
      rw [hend] at g6
      simp (disch := omega) only [f25_r7, f25_r11, Nat.reduceEqDiff, ↓reduceIte, Bool.false_eq_true, g7, g8, g10, hcl, d1, bz]
      exact ⟨kk + 1, by omega, by omega, hG3, hc3, by simp (disch := omega) only [getK_set, Nat.reduceEqDiff, ↓reduceIte, g0, g1, g5, g6, and_self, Int.natCast_add, Int.natCast_one]⟩
  · have d0 : decide ((kk : Int) < ((arw (rat (gR (arI g)))).length : Int)) = false := decide_eq_false (by omega)
    have ek : kk = (arw (rat (gR (arI g)))).length := by omega
    subst ek
    simp (disch := omega) only [f25_r4, f25_r12, f25_rs, Option.some.injEq, exists_eq_left', Nat.reduceEqDiff, ↓reduceIte, Bool.false_eq_true, g5, g6, g7, hall, d0, bz]
    exact ⟨rfl, gr1.trans (hG.low gr1.nx)⟩
end
end Go.Ev
namespace Go.Ev
open Go Go.RowKit
section
variable {fs : T EF} {h h' : H}
end
end Go.Ev
namespace Go.Ev
open Go Go.RowKit
section
variable {fs : T EF} {h h' : H}
end
end Go.Ev
namespace Go.Ev
open Go Go.RowKit
section
variable {fs : T EF} {h h' : H}
end
end Go.Ev
namespace Go.Ev
open Go Go.RowKit
end Go.Ev
namespace Go.Ev
open Go Go.RowKit
section
variable {fs : T EF} {h h' : H}
end
end Go.Ev
namespace Go.Ev
open Go Go.RowKit
end Go.Ev
namespace Go.Ev
open Go Go.RowKit
section
variable {fs : T EF} {h h' : H}
end
end Go.Ev
