/-
  The evaluator, weakest preconditions: memory that grows; slices whose elements take one cell each.
  The evaluator, an example: an iterator over a family of sets (shells.family.all's literal, function 91 of the seat of d3d68b0): what it does for any body.
  The evaluator, an example: the iterator over a set's corners (shells.cornersOf's literal, function 92 of the seat of d3d68b0): what it does for any body.
  The evaluator, weakest preconditions: loops over functions; parts of slices; arrays.
  The evaluator, weakest preconditions: statements whose order is open.
  The evaluator, weakest preconditions: a call with a slice that came in.
  The evaluator: what is proved of a function of numbers whose result is a new slice of numbers.
  A slice of numbers that comes in, and reads behind the call as it read before.
  The evaluator, weakest preconditions: more on slices.
  Slices that are only read; calls with several slices that came in and may overlap.
  The evaluator, weakest preconditions: more that stays; memory of which a few blocks differ; pairs.
  Slices of pairs that come in, and read behind the call as they read before.
  Slices of pairs: those that came in, those that are only read.
  Rounds: Home of the reference.
  Rounds: what answers an error where the number is none of teams; the law RoundsMakes, by runs of its loop.
-/
import Derived.Test.YtfephkgdccbobaaPc
import Derived.ProofKit
import Derived.SizedLaws
import Derived.ChangeSlices
namespace Go.Ev
open Go Go.RowKit

/-! ### Memory that grows -/
/-- Nothing lies beyond the names that were given. -/
def HC (h : H) : Prop := ∀ id : K, h.nx.nat ≤ id.nat → h.get id = .dead
/-- What has a name below b stays. -/
structure Grow (b : Nat) (h h' : H) : Prop where
  nx : h.nx.nat ≤ h'.nx.nat
  old : ∀ id : K, id.nat < b → h'.get id = h.get id
  hc : HC h → HC h'
theorem Grow.trans {b : Nat} {h h1 h2 : H} (k : Grow b h h1) (l : Grow b h1 h2) : Grow b h h2 := ⟨Nat.le_trans k.nx l.nx, fun id hi => (l.old id hi).trans (k.old id hi), fun hc => l.hc (k.hc hc)⟩
theorem Grow.low {b c : Nat} {h h1 : H} (hb : b ≤ c) (k : Grow c h h1) : Grow b h h1 := ⟨k.nx, fun id hi => k.old id (Nat.lt_of_lt_of_le hi hb), k.hc⟩
theorem nx_new (h : H) (x : Blk) : (h.new x).nx.nat = h.nx.nat + 1 := K.succ_nat _
theorem nx_put (h : H) (k : K) (x : Blk) : (h.put k x).nx = h.nx := rfl
theorem Grow.new {b : Nat} {h : H} (hb : b ≤ h.nx.nat) (x : Blk) : Grow b h (h.new x) := by
  refine ⟨by rw [nx_new]; omega, fun id hi => ?_, fun hc id hi => ?_⟩
  · rw [H.get_new, if_neg (fun e => by rw [e] at hi; omega)]
  · rw [nx_new] at hi
    rw [H.get_new, if_neg (fun e => by rw [e] at hi; omega)]
    exact hc id (by omega)
theorem Grow.put {b : Nat} {h : H} {k : K} (hb : b ≤ k.nat) (hk : k.nat < h.nx.nat) (x : Blk) : Grow b h (h.put k x) := by
  refine ⟨Nat.le_refl _, fun id hi => ?_, fun hc id hi => ?_⟩
  · rw [H.get_put, if_neg (fun e => by rw [e] at hi; omega)]
  · rw [nx_put] at hi
    rw [H.get_put, if_neg (fun e => by rw [e] at hi; omega)]
    exact hc id hi
theorem HC.lt {h : H} (hc : HC h) {id : K} (hd : h.get id ≠ .dead) : id.nat < h.nx.nat := by
  rcases Nat.lt_or_ge id.nat h.nx.nat with e | e
  · exact e
  · exact absurd (hc id e) hd
theorem HC.cells {h : H} (hc : HC h) {id : K} {m : Nat} {cs : List V} (hd : h.get id = .cells m cs) : id.nat < h.nx.nat := hc.lt (by rw [hd]; simp)
theorem get_put_same {h : H} {x : Blk} {id : K} : (h.put id x).get id = x := by rw [H.get_put, if_pos rfl]
theorem get_put_other {h : H} {x : Blk} {id id' : K} (hi : id' ≠ id) : (h.put id x).get id' = h.get id' := by rw [H.get_put, if_neg hi]

/-! ### Slices -/
def Sl {α : Type} (e : α → V) (h : H) (v : V) (L : List α) : Prop := (v = .sn ∧ L = []) ∨ ∃ id off m cs, v = .sl id off L.length 1 ∧ h.get id = .cells m cs ∧ cs.length = m ∧ off + L.length ≤ m ∧ ∀ i (hi : i < L.length), cs[off + i]? = some (e L[i])
/-- The slice was made since. -/
def Own (b : Nat) (v : V) : Prop := ∀ id off n sz, v = .sl id off n sz → b ≤ id.nat
/-- The slice is no part of that block. -/
def NotIn (id : K) (v : V) : Prop := ∀ off n sz, v ≠ .sl id off n sz
section
variable {α : Type} {e : α → V} {h h' : H} {v u : V} {L M : List α} {b : Nat}
theorem Own.low {c : Nat} (ho : Own c v) (hb : b ≤ c) : Own b v := fun id off n sz e => Nat.le_trans hb (ho id off n sz e)
theorem Own.notIn {id : K} (ho : Own b v) (hi : id.nat < b) : NotIn id v := fun off n sz e => by have := ho id off n sz e; omega
theorem Sl.same (hs : Sl e h v L) (hg : ∀ id off n sz, v = .sl id off n sz → h'.get id = h.get id) : Sl e h' v L := by
  rcases hs with ⟨rfl, rfl⟩ | ⟨id, off, m, cs, rfl, hb, hl, hm, hx⟩
  · exact .inl ⟨rfl, rfl⟩
  · exact .inr ⟨id, off, m, cs, rfl, by rw [hg _ _ _ _ rfl]; exact hb, hl, hm, hx⟩
theorem Sl.lt (hs : Sl e h v L) (hc : HC h) : ∀ id off n sz, v = .sl id off n sz → id.nat < h.nx.nat := by
  rcases hs with ⟨rfl, rfl⟩ | ⟨id, off, m, cs, rfl, hb, hl, hm, hx⟩
  · exact fun _ _ _ _ h => by cases h
  · exact fun _ _ _ _ h => by cases h; exact hc.cells hb
/-- What was there when the call began is there. -/
theorem Sl.grow (hs : Sl e h v L) (hc : HC h) (hg : Grow h.nx.nat h h') : Sl e h' v L := hs.same fun id off n sz ev => hg.old id (hs.lt hc id off n sz ev)
theorem Sl.new (hs : Sl e h v L) (hc : HC h) (x : Blk) : Sl e (h.new x) v L := hs.grow hc (Grow.new (Nat.le_refl _) x)
theorem Sl.put (hs : Sl e h v L) {id : K} (hn : NotIn id v) (x : Blk) : Sl e (h.put id x) v L := hs.same fun id' off n sz ev => get_put_other (fun ee => hn off n sz (by rw [ev, ee]))
theorem of0 : Int.ofNat 0 = 0 := of_eq_true (eq_self _)
theorem of1 : Int.ofNat 1 = 1 := of_eq_true (eq_self _)
theorem of2 : Int.ofNat 2 = 2 := of_eq_true (eq_self _)
theorem of4 : Int.ofNat 4 = 4 := of_eq_true (eq_self _)
theorem of6 : Int.ofNat 6 = 6 := of_eq_true (eq_self _)
theorem of8 : Int.ofNat 8 = 8 := of_eq_true (eq_self _)
theorem of10 : Int.ofNat 10 = 10 := of_eq_true (eq_self _)
end
end Go.Ev
namespace Go.Ev
open Go Go.RowKit
section
variable {fs : T EF} {go : Go} {fr : Fr} {h h' : H} {id : K} {i : Nat} {cs : List V} {B : Nat → Bool}
end

/-! ### A round, and a loop over a function -/
section
variable {fs : T EF} {fr fr1 fr2 : Fr} {h h1 h2 h3 : H} {id : K} {ps : List K} {a c : EC} {v : V} {vs : List V} {e : Ex}
/-- How a loop over a function ends. -/
theorem Runs.range {ro : Option K} {f : EO} {k : K} {caps : List V} {u : V} {s : LS} {j : Option Ex} {ps' : List K} {a' c' : EC} {frl : Fr} (hro : roOk ro h = true) (hf : ev fr f = .fn k caps)
    (hcall : ∃ n, callV fs (eval fs n) (.fn k caps) [.yl h.nx] (h.new (.loop .ready none fr ps a c)) = .ok u h1) (hb : h1.get h.nx = .loop s j frl ps' a' c') (he : (s = .ready ∧ j = none ∧ e = .normal) ∨ (s = .done ∧ j = some e)) :
    Runs fs ro (.rangeF f ps a c) fr h e fr (h1.put h.nx .dead) := by
  obtain ⟨n, hc⟩ := hcall
  refine ⟨n + 1, ?_⟩
  show rangeL fs (eval fs n) ro (ev fr f) ps a c fr h = _
  rw [hf]
  unfold rangeL
  have : (roOk ro h && (V.fn k caps).isF) = true := by rw [hro]; rfl
  rw [this]
  show ((callV fs (eval fs n) (.fn k caps) [.yl h.nx] (h.new (.loop .ready none fr ps a c))).to fun _ h' => (h'.get h.nx).onL' fun s j => endL s j h.nx fr h') = _
  rw [hc]
  show (h1.get h.nx).onL' (fun s j => endL s j h.nx fr h1) = _
  rw [hb]
  rcases he with ⟨rfl, rfl, rfl⟩ | ⟨rfl, rfl⟩ <;> rfl
end

section
variable {fs : T EF} {go : Go} {fr : Fr} {h : H} {id idp : K} {cs : List V} {B : Nat → Bool} {x : EO} {off m n : Nat} {v : V} {k : K}
end
end Go.Ev
namespace Go.Ev
open Go Go.RowKit
section
variable {fs : T EF} {go : Go} {fr : Fr} {h h' : H} {id idp : K} {i : Nat} {S : Int}
end
end Go.Ev
namespace Go.Ev
open Go Go.RowKit
section
variable {fs : T EF}
section
variable {id : K} {fr fr1 : Fr} {ps : List K} {a c : EC} {I : H → Prop} {D : Ex → H → Prop} {h : H} {i : Nat}
end
/-- Only one block differs. -/
structure Same1 (id : K) (h h' : H) : Prop where
  nx : h'.nx = h.nx
  old : ∀ id', id' ≠ id → h'.get id' = h.get id'
theorem Same1.put {id : K} {h h' : H} (s : Same1 id h h') (x : Blk) : Same1 id h (h'.put id x) := ⟨s.nx, fun id' hi => by rw [get_put_other hi]; exact s.old id' hi⟩
theorem Same1.grow {id : K} {h h' : H} {b : Nat} (s : Same1 id h h') (hb : b ≤ id.nat) (hi : id.nat < h.nx.nat) : Grow b h h' :=
  ⟨by rw [s.nx]; exact Nat.le_refl _, fun id' h1 => s.old id' (fun e => by rw [e] at h1; omega), fun hc id' h1 => by rw [s.nx] at h1; rw [s.old id' (fun e => by rw [e] at h1; omega)]; exact hc id' h1⟩
end
section
variable {α : Type} {e : α → V} {fr : Fr} {h : H} {x y : EO} {v : V} {L M : List α} {sz : Nat} {lo hi mx : Option EO}
/-! ### Arrays -/
def Ar (e : α → V) (h : H) (id : K) (L : List α) : Prop := h.get id = .cells L.length (L.map e)
theorem Ar.same {h' : H} {id : K} (ha : Ar e h id L) (hg : h'.get id = h.get id) : Ar e h' id L := by unfold Ar; rw [hg]; exact ha
def arr (f : Nat → α) (n : Nat) : List α := (List.range n).map f
end
end Go.Ev
namespace Go.Ev
open Go Go.RowKit
section
variable {fs : T EF} {R : Fr → H → Prop} {fr : Fr} {h h0 : H} {d : Option K} {l : List EOper} {x y z : EO} {v : V}
def kG (fs : T EF) (l : List EOper) (Q : Fr → H → Prop) (fr : Fr) (d : Option K) (h0 : H) (v : V) (_ : H) : Prop := XG fs l Q (putD fr d v) h0
theorem kg : kG fs l R fr d h0 v h = XG fs l R (putD fr d v) h0 := of_eq_true (eq_self _)
theorem xg_nil : XG fs [] R fr h = R fr h := of_eq_true (eq_self _)
theorem xg_mv  : XG fs (⟨d, none, .mv x⟩ :: l) R fr h = XG fs l R (putD fr d (ev fr x)) h := by show GP (some true) (true = true ∧ _) _ = _; rw [gp_t, eq_self, true_and]; rfl
theorem xg_ld  : XG fs (⟨d, none, .ld x⟩ :: l) R fr h = rvP (loadV h (ev fr x) one?) (kG fs l R fr d h) := by show GP (some true) (true = true ∧ _) _ = _; rw [gp_t, eq_self, true_and]; rfl
theorem xg_iadr {n sz : Nat} : XG fs (⟨d, none, .iadr n sz x y⟩ :: l) R fr h = rvP ((ev fr x).onP fun id off => idxV (ev fr y) n fun m => .ok (.p id (off + m * sz)) h) (kG fs l R fr d h) := by show GP (some true) (true = true ∧ _) _ = _; rw [gp_t, eq_self, true_and]; rfl
theorem xg_iads {sz : Nat} : XG fs (⟨d, none, .iads sz x y⟩ :: l) R fr h = rvP (iadsV sz (ev fr x) (ev fr y) h) (kG fs l R fr d h) := by show GP (some true) (true = true ∧ _) _ = _; rw [gp_t, eq_self, true_and]; rfl
def stK (fs : T EF) (b : List K) (c : List EOper) (o : Option EOper) (l : List Stage) (Q : Fr → H → Prop) (h0 : H) (fr : Fr) (h : H) : Prop := isFresh h0 h fr b = true ∧ allStay fs goNo fr h c = true ∧ (match o with | none => Q fr h | some o => X fs [o] (XD fs l Q) fr h)
theorem xd_cons {g c : List EOper} {b : List K} {o : Option EOper} {l : List Stage} : XD fs (⟨g, c, o, b⟩ :: l) R fr h = XG fs g (stK fs b c o l R h) fr h := of_eq_true (eq_self _)
theorem fresh_nil : isFresh h0 h fr [] = true := of_eq_true (eq_self _)
theorem stK_n {b : List K} {c : List EOper} {l : List Stage} : stK fs b c none l R h0 fr h = (isFresh h0 h fr b = true ∧ allStay fs goNo fr h c = true ∧ R fr h) := of_eq_true (eq_self _)
theorem stK_s {b : List K} {c : List EOper} {o : EOper} {l : List Stage} : stK fs b c (some o) l R h0 fr h = (isFresh h0 h fr b = true ∧ allStay fs goNo fr h c = true ∧ X fs [o] (XD fs l R) fr h) := of_eq_true (eq_self _)
theorem stay_nil : allStay fs goNo fr h [] = true := of_eq_true (eq_self _)
theorem stay_cons {o : EOper} {c : List EOper} : (allStay fs goNo fr h (o :: c) = true) = (stays fs goNo fr h o = true ∧ allStay fs goNo fr h c = true) := by
  show ((stays fs goNo fr h o && allStay fs goNo fr h c) = true) = _
  rw [Bool.and_eq_true]
/-- An operation that gives again what it gave. -/
def again (r : RV) (u : V) : Prop := ∃ v h, r = .ok v h ∧ beqV v u = true
theorem again_ok {u : V} : again (.ok v h) u = (beqV v u = true) := by
  apply propext
  constructor
  · rintro ⟨v', h', e, hb⟩; cases e; exact hb
  · exact fun hb => ⟨v, h, rfl, hb⟩
theorem chk_again {r : RV} {u : V} : (r.chk (fun v => beqV v u) = true) = again r u := by
  apply propext
  cases r with
  | no => exact Iff.intro (fun h => by cases h) (fun ⟨v, h, e, _⟩ => by cases e)
  | ok v h => rw [again_ok]; rfl
theorem stay_mv {k : K} : (stays fs goNo fr h ⟨some k, none, .mv x⟩ = true) = (beqV (ev fr x) (getV (fr.get k)) = true) := of_eq_true (eq_self _)
theorem beq_i {k : IntKind} {n : Int} : beqV (.i k n) (.i k n) = true := by
  show (k == k && ieq n n) = true
  rw [ieq_eq]; cases k <;> simp
theorem Nat.beq_same {n : Nat} : Nat.beq n n = true := Nat.beq_refl n
end
end Go.Ev
namespace Go.Ev
open Go Go.RowKit
end Go.Ev
namespace Go.Ev
open Go Go.RowKit
section
variable {Y : Rig} {fs : T EF} {k : K} {ef : EF} {n : Nat} {args : List V} {L : List Int}
end
theorem callP_flat {fs : T EF} {k : K} {ef : EF} {args : List V} {h : H} {v : V} {g : List V → Option V} {P : V → H → Prop} (hf : fs.get k = some ef) (hn : ef.nv = some (flatG g)) (hg : g args = some v) : CallP fs (.fn k []) args h P = P v h := by
  have hc : ∀ n, callV fs (eval fs n) (.fn k []) args h = .ok v h := fun n => by
    show (oGet (fs.get k) RV.no fun ef => callE (eval fs n) ef (cat args []) h) = _
    rw [hf]
    show oGet ef.nv (callF (eval fs n) ef (cat args []) h) (fun g => oGet (g (cat args []) h) RV.no fun p => RV.ok p.1 p.2) = _
    rw [hn, cat_eq, List.append_nil]
    show (oGet (flatG g args h) RV.no fun p => RV.ok p.1 p.2) = _
    unfold flatG
    rw [hg]; rfl
  apply propext
  constructor
  · rintro ⟨n, v', h', e, hp⟩
    rw [hc] at e
    cases e; exact hp
  · intro hp
    exact ⟨0, v, h, hc 0, hp⟩
end Go.Ev
namespace Go.Ev
open Go Go.RowKit Go.ChangeShapes Go.WideShapes Go.ChangeAt
end Go.Ev
namespace Go.Ev
open Go Go.RowKit
section
variable {α : Type} {e : α → V} {h h' : H} {v u : V} {L M : List α} {b : Nat}
end

theorem kNe {a b : K} (h : a.nat < b.nat) : a ≠ b := fun e => by rw [e] at h; omega
/-- A slice that is gathered in a box, while a loop over a function runs. -/
structure AccI {α : Type} (e : α → V) (b : Nat) (h : H) (idb idl : K) (kept : List (K × Blk)) (o : V) (L : List α) (lb : Blk) (h1 : H) : Prop where
  sl : Sl e h1 o L
  own : Own (idl.nat + 1) o
  gr : Grow b h h1
  eb : h1.get idb = .cells 1 [o]
  kp : ∀ p ∈ kept, h1.get p.1 = p.2
  el : h1.get idl = lb
  nx : idl.nat + 1 ≤ h1.nx.nat
  o1 : idb.nat < idl.nat
  ob : b ≤ idb.nat
  ok : ∀ p ∈ kept, p.1.nat < idl.nat ∧ p.1 ≠ idb
section
variable {α : Type} {e : α → V} {b : Nat} {h h1 h2 : H} {idb idl : K} {kept : List (K × Blk)} {o o' : V} {L L' : List α} {lb : Blk}
theorem AccI.grow (t : AccI e b h idb idl kept o L lb h1) (hc : HC h1) (g : Grow h1.nx.nat h1 h2) : AccI e b h idb idl kept o L lb h2 := by
  have := t.nx; have := t.o1; have := t.ob; have := g.nx
  exact ⟨t.sl.grow hc g, t.own, t.gr.trans (g.low (by omega)), by rw [g.old _ (by omega)]; exact t.eb, fun p hp => by have := (t.ok p hp).1; rw [g.old _ (by omega)]; exact t.kp p hp, by rw [g.old _ (by omega)]; exact t.el, by omega, t.o1, t.ob, t.ok⟩
theorem AccI.put (t : AccI e b h idb idl kept o L lb h1) (hs : Sl e h2 o' L') (ho : Own (idl.nat + 1) o') (g : Grow (idl.nat + 1) h1 h2) : AccI e b h idb idl kept o' L' lb (h2.put idb (.cells 1 [o'])) := by
  have := t.nx; have := t.o1; have := t.ob; have := g.nx
  exact ⟨hs.put (ho.notIn (by omega)) _, ho, (t.gr.trans (g.low (by omega))).trans (Grow.put (by omega) (by omega) _), get_put_same, fun p hp => by have := (t.ok p hp).1; rw [get_put_other (t.ok p hp).2, g.old _ (by omega)]; exact t.kp p hp,
    by rw [get_put_other (kNe (by omega)).symm, g.old _ (by omega)]; exact t.el, by rw [nx_put]; omega, t.o1, t.ob, t.ok⟩
end

section
variable {fs : T EF} {fr : Fr} {h : H} {k : K} {x y : EO}
theorem stay_iads {sz : Nat} : (stays fs goNo fr h ⟨some k, none, .iads sz x y⟩ = true) = again (iadsV sz (ev fr x) (ev fr y) h) (getV (fr.get k)) := chk_again
theorem stay_ld : (stays fs goNo fr h ⟨some k, none, .ld x⟩ = true) = again (loadV h (ev fr x) one?) (getV (fr.get k)) := chk_again
theorem beq_p {id : K} {off : Nat} : beqV (.p id off) (.p id off) = true := by
  show (id.beq id && Nat.beq off off) = true
  rw [K.beq_refl, Nat.beq_same]; rfl
variable {α : Type} {e : α → V} {v : V} {L : List α}
end
end Go.Ev
namespace Go.Ev
open Go Go.RowKit
/-- A slice that is only read. -/
def Sr {α : Type} (e : α → V) (h : H) (v : V) (L : List α) : Prop := (v = .sn ∧ L = []) ∨ ∃ id off m cs, v = .sl id off L.length 1 ∧ (h.get id = .cells m cs ∨ h.get id = .rom m cs) ∧ cs.length = m ∧ off + L.length ≤ m ∧ ∀ i (hi : i < L.length), cs[off + i]? = some (e L[i])
theorem load_r {h : H} {id : K} {m off : Nat} {v : V} {cs : List V} (hb : h.get id = .cells m cs ∨ h.get id = .rom m cs) (hc : nth cs off = some v) : loadV h (.p id off) one? = .ok v h := by
  show okv ((h.get id).onC none fun n cs => one? cs n off) h = _
  rcases hb with hb | hb <;> rw [hb] <;> show okv (nth cs off) h = _ <;> rw [hc] <;> rfl
section
variable {α : Type} {e : α → V} {h h' : H} {v u : V} {L M : List α} {b : Nat}
theorem Sr.same (hs : Sr e h v L) (hg : ∀ id off n sz, v = .sl id off n sz → h'.get id = h.get id) : Sr e h' v L := by
  rcases hs with ⟨rfl, rfl⟩ | ⟨id, off, m, cs, rfl, hb, hl, hm, hx⟩
  · exact .inl ⟨rfl, rfl⟩
  · exact .inr ⟨id, off, m, cs, rfl, by rw [hg _ _ _ _ rfl]; exact hb, hl, hm, hx⟩
theorem Sr.lt (hs : Sr e h v L) (hc : HC h) : ∀ id off n sz, v = .sl id off n sz → id.nat < h.nx.nat := by
  rcases hs with ⟨rfl, rfl⟩ | ⟨id, off, m, cs, rfl, hb, hl, hm, hx⟩
  · exact fun _ _ _ _ h => by cases h
  · exact fun _ _ _ _ h => by cases h; exact hc.lt (by rcases hb with hb | hb <;> rw [hb] <;> simp)
theorem Sr.grow (hs : Sr e h v L) (hc : HC h) (hg : Grow h.nx.nat h h') : Sr e h' v L := hs.same fun id off n sz ev => hg.old id (hs.lt hc id off n sz ev)
theorem Sr.new (hs : Sr e h v L) (hc : HC h) (x : Blk) : Sr e (h.new x) v L := hs.grow hc (Grow.new (Nat.le_refl _) x)
theorem Sr.put (hs : Sr e h v L) {id : K} (hn : NotIn id v) (x : Blk) : Sr e (h.put id x) v L := hs.same fun id' off n sz ev => get_put_other (fun ee => hn off n sz (by rw [ev, ee]))
end
section
variable {Y : Rig} {ι : Io} {h : H} {W : World}
end
end Go.Ev
namespace Go.Ev
open Go Go.RowKit
section
variable {fs : T EF} {fr : Fr} {h h1 h2 : H} {x y : EO} {k : K}
/-- Memory of which two blocks may differ. -/
structure Same2 (a c : K) (h h' : H) : Prop where
  nx : h'.nx = h.nx
  old : ∀ id, id ≠ a → id ≠ c → h'.get id = h.get id
theorem Same2.grow {a c : K} {b : Nat} (s : Same2 a c h h1) (ha : b ≤ a.nat) (hc : b ≤ c.nat) (hal : a.nat < h.nx.nat) (hcl : c.nat < h.nx.nat) : Grow b h h1 :=
  ⟨by rw [s.nx]; exact Nat.le_refl _, fun id hi => s.old id (kNe (by omega)) (kNe (by omega)), fun hh id hi => by
    rw [s.nx] at hi
    rw [s.old id (kNe (by omega)).symm (kNe (by omega)).symm]; exact hh id hi⟩
end
/-! ### Slices of elements of several cells -/
def Sk {α : Type} (k : Nat) (e : α → List V) (h : H) (v : V) (L : List α) : Prop := (v = .sn ∧ L = []) ∨ ∃ id off m cs, v = .sl id off L.length k ∧ h.get id = .cells m cs ∧ cs.length = m ∧ off + L.length * k ≤ m ∧ (cs.drop off).take (L.length * k) = L.flatMap e
section
variable {α : Type} {k : Nat} {e : α → List V} {h h' : H} {v u : V} {L M : List α} {b : Nat}
theorem Sk.same (hs : Sk k e h v L) (hg : ∀ id off n sz, v = .sl id off n sz → h'.get id = h.get id) : Sk k e h' v L := by
  rcases hs with ⟨rfl, rfl⟩ | ⟨id, off, m, cs, rfl, hb, hx⟩
  · exact .inl ⟨rfl, rfl⟩
  · exact .inr ⟨id, off, m, cs, rfl, by rw [hg _ _ _ _ rfl]; exact hb, hx⟩
theorem Sk.lt (hs : Sk k e h v L) (hc : HC h) : ∀ id off n sz, v = .sl id off n sz → id.nat < h.nx.nat := by
  rcases hs with ⟨rfl, rfl⟩ | ⟨id, off, m, cs, rfl, hb, hx⟩
  · exact fun _ _ _ _ h => by cases h
  · exact fun _ _ _ _ h => by cases h; exact hc.cells hb
theorem Sk.grow (hs : Sk k e h v L) (hc : HC h) (hg : Grow h.nx.nat h h') : Sk k e h' v L := hs.same fun id off n sz ev => hg.old id (hs.lt hc id off n sz ev)
theorem Sk.put (hs : Sk k e h v L) {id : K} (hn : NotIn id v) (x : Blk) : Sk k e (h.put id x) v L := hs.same fun id' off n sz ev => get_put_other (fun ee => hn off n sz (by rw [ev, ee]))
end
end Go.Ev
namespace Go.Ev
open Go Go.RowKit Go.ChangeShapes Go.WideShapes Go.ChangeAt
/-- A slice of elements of k cells, that is only read. -/
def Srk (k : Nat) (h : H) (v : V) (len : Nat) (cs0 : List V) : Prop := (v = .sn ∧ len = 0 ∧ cs0 = []) ∨ ∃ id off m cs, v = .sl id off len k ∧ (h.get id = .cells m cs ∨ h.get id = .rom m cs) ∧ cs.length = m ∧ off + len * k ≤ m ∧ (cs.drop off).take (len * k) = cs0
theorem Srk.lt {k len : Nat} {h : H} {v : V} {cs0 : List V} (hs : Srk k h v len cs0) (hc : HC h) : ∀ id off n sz, v = .sl id off n sz → id.nat < h.nx.nat := by
  rcases hs with ⟨rfl, _⟩ | ⟨id, off, m, cs, rfl, hb, _⟩
  · exact fun _ _ _ _ h => by cases h
  · exact fun _ _ _ _ h => by cases h; exact hc.lt (by rcases hb with hb | hb <;> rw [hb] <;> simp)
theorem Srk.grow {k len : Nat} {h h' : H} {v : V} {cs0 : List V} (hs : Srk k h v len cs0) (hc : HC h) (hg : Grow h.nx.nat h h') : Srk k h' v len cs0 := by
  have lt := hs.lt hc
  rcases hs with hs | ⟨id, off, m, cs, rfl, hb, hx⟩
  · exact .inl hs
  · exact .inr ⟨id, off, m, cs, rfl, by rw [hg.old id (lt _ _ _ _ rfl)]; exact hb, hx⟩
section
variable {Y : Rig} {ι : Io} {h : H} {W : World}
end
end Go.Ev
namespace Go.Ev
open Go Go.RowKit Go.ChangeShapes Go.WideShapes Go.ChangeAt
def qE (x : Int × Int) : List V := [.i .i64 x.1, .i .i64 x.2]
theorem qE_len : ∀ x, (qE x).length = 2 := fun _ => rfl
theorem flat_drop {α : Type} {k : Nat} {e : α → List V} (he : ∀ x, (e x).length = k) : ∀ (L : List α) (i : Nat) (hi : i < L.length), ((L.flatMap e).drop (i * k)).take k = e L[i]
  | [], i, hi => absurd hi (Nat.not_lt_zero _)
  | x :: L, 0, _ => by rw [List.flatMap_cons, Nat.zero_mul, List.drop_zero, ← he x, List.take_left]; rfl
  | x :: L, i + 1, hi => by
    rw [List.flatMap_cons, show (i + 1) * k = (e x).length + i * k by rw [he, Nat.add_mul]; omega, List.drop_length_add_append, flat_drop he L i (by simpa using hi)]; rfl
def Srp (h : H) (v : V) (L : List (Int × Int)) : Prop := Srk 2 h v L.length (L.flatMap qE)
section
variable {h h' : H} {v : V} {L : List (Int × Int)}
theorem Srp.len (hs : Srp h v L) (h1 : H) : lenV v h1 = .ok (.i .i64 (L.length : Int)) h1 := by
  rcases hs with ⟨rfl, h0, _⟩ | ⟨id, off, m, cs, rfl, _⟩
  · rw [h0]; rfl
  · rfl
theorem Srp.grow (hs : Srp h v L) (hc : HC h) (hg : Grow h.nx.nat h h') : Srp h' v L := Srk.grow hs hc hg
theorem loadn_r {h : H} {id : K} {m n off : Nat} {cs : List V} (hb : h.get id = .cells m cs ∨ h.get id = .rom m cs) (hm : off + n ≤ m) : loadV h (.p id off) (many? n) = .ok (.agg (takeN n (dropN off cs))) h := by
  show okv ((h.get id).onC none fun m cs => many? n cs m off) h = _
  have e : many? n cs m off = some (.agg (takeN n (dropN off cs))) := by
    show (bif Nat.ble (off + n) m then some _ else none) = _
    rw [Nat.ble_eq_true_of_le hm]; rfl
  rcases hb with hb | hb <;> rw [hb] <;> show okv (many? n cs m off) h = _ <;> rw [e] <;> rfl
theorem Srp.at2 (hs : Srp h v L) {i : Nat} (hi : i < L.length) : ∃ id q, (∀ k h1, iadsV 2 v (.i k (i : Int)) h1 = .ok (.p id q) h1) ∧ loadV h (.p id q) (many? 2) = .ok (.agg [.i .i64 L[i].1, .i .i64 L[i].2]) h ∧ loadV h (.p id (q + 0 * 1)) one? = .ok (.i .i64 L[i].1) h ∧ loadV h (.p id (q + 1 * 1)) one? = .ok (.i .i64 L[i].2) h := by
  rcases hs with ⟨rfl, h0, _⟩ | ⟨id, off, m, cs, rfl, hb, hl, hm, hx⟩
  · omega
  · have h1 := flat_drop qE_len L i hi
    rw [← hx, List.drop_take, List.take_take, List.drop_drop, Nat.min_eq_left (by omega)] at h1
    refine ⟨id, off + i * 2, fun k h1 => ?_, ?_, ?_, ?_⟩
    · rw [iads_sl, idx_n hi]
    · rw [loadn_r hb (by omega), takeN_eq, dropN_eq, h1]; rfl
    · refine load_r hb ?_
      rw [nth_eq]
      have := congrArg (fun l => l[0]?) h1
      simp only [List.getElem?_take, List.getElem?_drop] at this
      simpa [qE] using this
    · refine load_r hb ?_
      rw [nth_eq]
      have := congrArg (fun l => l[1]?) h1
      simp only [List.getElem?_take, List.getElem?_drop] at this
      simpa [qE] using this
end
theorem Srp.beq {h : H} {v : V} {L : List (Int × Int)} (hs : Srp h v L) : beqV v v = true := by
  rcases hs with ⟨rfl, _⟩ | ⟨id, off, m, cs, rfl, _⟩
  · rfl
  · show (id.beq id && Nat.beq off off && Nat.beq L.length L.length && Nat.beq 2 2) = true
    rw [K.beq_refl, Nat.beq_same, Nat.beq_same]; rfl
/-! ### More rules -/
section
variable {fs : T EF} {fr : Fr} {h : H} {x y z : EO} {k : K}
theorem stay_iadr {n sz : Nat} : (stays fs goNo fr h ⟨some k, none, .iadr n sz x y⟩ = true) = again ((ev fr x).onP fun id off => idxV (ev fr y) n fun m => .ok (.p id (off + m * sz)) h) (getV (fr.get k)) := chk_again
theorem ix2_0 {kk : IntKind} {f : Nat → RV} : idxV (.i kk 0) 2 f = f 0 := of_eq_true (eq_self _)
theorem ix2_1 {kk : IntKind} {f : Nat → RV} : idxV (.i kk 1) 2 f = f 1 := of_eq_true (eq_self _)
end
end Go.Ev
namespace Go.Ev
open Go Go.RowKit
noncomputable def f64_r0 : List EOper := [⟨(some (K.ofNat 4)), none, .as (.c (.b false))⟩, ⟨(some (K.ofNat 5)), none, .as (.c (.i .i64 (.ofNat 0)))⟩]
noncomputable def f64_r1 : List EOper := [⟨(some (K.ofNat 6)), none, .as (.c (.i .i64 (.ofNat 0)))⟩]
noncomputable def f64_r2 : List EOper := [⟨(some (K.ofNat 7)), none, .mv (.t (K.ofNat 6))⟩, ⟨(some (K.ofNat 8)), none, .mv (.t (K.ofNat 0))⟩, ⟨(some (K.ofNat 9)), none, .len (.t (K.ofNat 8))⟩, ⟨(some (K.ofNat 10)), none, .bin .lss (.t (K.ofNat 7)) (.t (K.ofNat 9))⟩]
noncomputable def f64_r3 : List EOper := [⟨(some (K.ofNat 13)), none, .mv (.t (K.ofNat 0))⟩, ⟨(some (K.ofNat 14)), none, .mv (.t (K.ofNat 6))⟩, ⟨(some (K.ofNat 15)), none, .iads 2 (.t (K.ofNat 13)) (.t (K.ofNat 14))⟩, ⟨(some (K.ofNat 16)), none, .iadr 2 1 (.t (K.ofNat 15)) (.c (.i .i64 (.ofNat 0)))⟩, ⟨(some (K.ofNat 17)), none, .ld (.t (K.ofNat 16))⟩, ⟨(some (K.ofNat 18)), none, .mv (.t (K.ofNat 1))⟩, ⟨(some (K.ofNat 19)), none, .bin .eql (.t (K.ofNat 17)) (.t (K.ofNat 18))⟩]
noncomputable def f64_r4 : List Stage := [⟨[⟨(some (K.ofNat 20)), none, .mv (.t (K.ofNat 0))⟩, ⟨(some (K.ofNat 21)), none, .mv (.t (K.ofNat 6))⟩, ⟨(some (K.ofNat 22)), none, .iads 2 (.t (K.ofNat 20)) (.t (K.ofNat 21))⟩, ⟨(some (K.ofNat 23)), none, .iadr 2 1 (.t (K.ofNat 22)) (.c (.i .i64 (.ofNat 1)))⟩, ⟨(some (K.ofNat 24)), none, .ld (.t (K.ofNat 23))⟩], [], (some ⟨(some (K.ofNat 4)), none, .as (.c (.b true))⟩), []⟩, ⟨[], [⟨(some (K.ofNat 20)), none, .mv (.t (K.ofNat 0))⟩, ⟨(some (K.ofNat 21)), none, .mv (.t (K.ofNat 6))⟩, ⟨(some (K.ofNat 22)), none, .iads 2 (.t (K.ofNat 20)) (.t (K.ofNat 21))⟩, ⟨(some (K.ofNat 23)), none, .iadr 2 1 (.t (K.ofNat 22)) (.c (.i .i64 (.ofNat 1)))⟩, ⟨(some (K.ofNat 24)), none, .ld (.t (K.ofNat 23))⟩], (some ⟨(some (K.ofNat 5)), none, .as (.t (K.ofNat 24))⟩), []⟩, ⟨[], [], none, []⟩]
noncomputable def f64_r5 : List EOper := [⟨(some (K.ofNat 25)), none, .mv (.t (K.ofNat 0))⟩, ⟨(some (K.ofNat 26)), none, .mv (.t (K.ofNat 6))⟩, ⟨(some (K.ofNat 27)), none, .iads 2 (.t (K.ofNat 25)) (.t (K.ofNat 26))⟩, ⟨(some (K.ofNat 28)), none, .iadr 2 1 (.t (K.ofNat 27)) (.c (.i .i64 (.ofNat 1)))⟩, ⟨(some (K.ofNat 29)), none, .ld (.t (K.ofNat 28))⟩, ⟨(some (K.ofNat 30)), none, .mv (.t (K.ofNat 1))⟩, ⟨(some (K.ofNat 31)), none, .bin .eql (.t (K.ofNat 29)) (.t (K.ofNat 30))⟩]
noncomputable def f64_r6 : List Stage := [⟨[⟨(some (K.ofNat 32)), none, .mv (.t (K.ofNat 0))⟩, ⟨(some (K.ofNat 33)), none, .mv (.t (K.ofNat 6))⟩, ⟨(some (K.ofNat 34)), none, .iads 2 (.t (K.ofNat 32)) (.t (K.ofNat 33))⟩, ⟨(some (K.ofNat 35)), none, .iadr 2 1 (.t (K.ofNat 34)) (.c (.i .i64 (.ofNat 0)))⟩, ⟨(some (K.ofNat 36)), none, .ld (.t (K.ofNat 35))⟩], [], (some ⟨(some (K.ofNat 4)), none, .as (.c (.b false))⟩), []⟩, ⟨[], [⟨(some (K.ofNat 32)), none, .mv (.t (K.ofNat 0))⟩, ⟨(some (K.ofNat 33)), none, .mv (.t (K.ofNat 6))⟩, ⟨(some (K.ofNat 34)), none, .iads 2 (.t (K.ofNat 32)) (.t (K.ofNat 33))⟩, ⟨(some (K.ofNat 35)), none, .iadr 2 1 (.t (K.ofNat 34)) (.c (.i .i64 (.ofNat 0)))⟩, ⟨(some (K.ofNat 36)), none, .ld (.t (K.ofNat 35))⟩], (some ⟨(some (K.ofNat 5)), none, .as (.t (K.ofNat 36))⟩), []⟩, ⟨[], [], none, []⟩]
noncomputable def f64_r7 : List EOper := [⟨(some (K.ofNat 11)), none, .mv (.t (K.ofNat 6))⟩, ⟨(some (K.ofNat 12)), none, .bin .add (.t (K.ofNat 11)) (.c (.i .i64 (.ofNat 1)))⟩, ⟨(some (K.ofNat 6)), none, .as (.t (K.ofNat 12))⟩]
noncomputable def f64_l0 : EC := (.seq (.seq (.reg f64_r2) (.cond (.t (K.ofNat 10)) .skip (.exit 0))) (.seq (.block 1 (.seq (.seq (.reg f64_r3) (.cond (.t (K.ofNat 19)) (.seq (.draw f64_r4) .ret) .skip)) (.seq (.reg f64_r5) (.cond (.t (K.ofNat 31)) (.seq (.draw f64_r6) .ret) .skip)))) (.reg f64_r7)))
noncomputable def f64_r8 : List EOper := [⟨(some (K.ofNat 4)), none, .as (.c (.b false))⟩, ⟨(some (K.ofNat 5)), none, .as (.c (.i .i64 (.negSucc 0)))⟩]
noncomputable def f64_c : EC := (.seq (.reg f64_r0) (.seq (.seq (.reg f64_r1) (.block 0 (.loop f64_l0))) (.seq (.reg f64_r8) .ret)))
noncomputable def f64 : EF := ⟨37, [.tmp (K.ofNat 4), .tmp (K.ofNat 5)], f64_c, none⟩
theorem f64_rs : f64.rs = [.tmp (K.ofNat 4), .tmp (K.ofNat 5)] := of_eq_true (eq_self _)
/-- Whether a team is at home, and with whom it plays. -/
def homeP : List (Int × Int) → Int → Bool × Int
  | [], _ => (false, -1)
  | x :: L, t => if x.1 = t then (true, x.2) else if x.2 = t then (false, x.1) else homeP L t
theorem homeP_drop {L : List (Int × Int)} {t : Int} {i : Nat} (hi : i < L.length) : homeP (L.drop i) t = if L[i].1 = t then (true, L[i].2) else if L[i].2 = t then (false, L[i].1) else homeP (L.drop (i + 1)) t := by
  rw [List.drop_eq_getElem_cons hi]; rfl
section
variable {fs : T EF} {ro : Option K}
def f64_I (h : H) (v : V) (L : List (Int × Int)) (t : Int) (i : Nat) (fr : Fr) (h1 : H) : Prop := h1 = h ∧ i ≤ L.length ∧ homeP (L.drop i) t = homeP L t ∧ fr.get (K.ofNat 0) = some (v) ∧ fr.get (K.ofNat 1) = some (.i .i64 t) ∧ fr.get (K.ofNat 6) = some (.i .i64 (i : Int))
theorem f64_ret {h : H} {v : V} {L : List (Int × Int)} {t : Int} (hv : Srp h v L) (hL : L.length ≤ 1000000) : Ret fs f64 [v, .i .i64 t] h fun r h' => r = .tup [.b (homeP L t).1, .i .i64 (homeP L t).2] ∧ h' = h := by
  apply ret_of rfl
  show W fs none f64_c _ _ _
  unfold f64_c
  simp (disch := omega) only [f64_r0, f64_r1, w_reg, w_seq, w_block, seqK_n, x_nil, x_as, ev_c, putD_some, frame_2, of0]
  refine W_loop (f64_I h v L t) (fun i => L.length - i) ?_ 0 ⟨rfl, by omega, rfl, by simp (disch := omega) only [getK_set, Nat.reduceEqDiff, ↓reduceIte, and_self, Int.natCast_zero]⟩
  rintro i fr h1 ⟨rfl, hi, hh, g0, g1, g6⟩
  unfold f64_l0
  by_cases hlt : i < L.length
  · have d0 : decide ((i : Int) < (L.length : Int)) = true := by simpa using hlt
    obtain ⟨id, q, hp1, hp2, hp3, hp4⟩ := hv.at2 hlt
    rw [homeP_drop hlt] at hh
    by_cases e1 : L[i].1 = t
    · rw [if_pos e1] at hh
      have d1 : decide (L[i].1 = t) = true := by simpa using e1
      simp (disch := omega) only [f64_r2, f64_r3, f64_r4, f64_rs, w_skip, w_reg, w_draw, w_seq, w_cond, w_block, w_ret, seqK_n, seqK_r, atK_r, loopK_r, ckB_b, cbB_b, retK_r, x_nil, x_mv, x_as, x_ld, x_bin, x_iadr, x_iads, x_len, kx, kg, xg_nil, xg_mv, xg_ld, xg_iadr, xg_iads, xd_cons, fresh_nil, stK_n, stK_s, stay_nil, stay_cons, again_ok, stay_mv, beq_i, stay_iads, stay_ld, beq_p, rvP_ok, okv_some, ev_t, ev_c, getV_some, putD_some, bin_eql, bin_lss, onP_p, oGet_s, readRs_nil, readRs_t, retV_2, of0, of1, Option.some.injEq, exists_eq_left', getK_set, Nat.reduceEqDiff, ↓reduceIte, stay_iadr, ix2_0, ix2_1, g0, g1, g6, hv.len, d0, hp1, hp3, hp4, d1, ← hh, and_self, hv.beq]
    · rw [if_neg e1] at hh
      have d1 : decide (L[i].1 = t) = false := by simpa using e1
      by_cases e2 : L[i].2 = t
      · rw [if_pos e2] at hh
        have d2 : decide (L[i].2 = t) = true := by simpa using e2
        simp (disch := omega) only [f64_r2, f64_r3, f64_r5, f64_r6, f64_rs, w_skip, w_reg, w_draw, w_seq, w_cond, w_block, w_ret, seqK_n, seqK_r, atK_r, loopK_r, ckB_b, cbB_b, retK_r, x_nil, x_mv, x_as, x_ld, x_bin, x_iadr, x_iads, x_len, kx, kg, xg_nil, xg_mv, xg_ld, xg_iadr, xg_iads, xd_cons, fresh_nil, stK_n, stK_s, stay_nil, stay_cons, again_ok, stay_mv, beq_i, stay_iads, stay_ld, beq_p, rvP_ok, okv_some, ev_t, ev_c, getV_some, putD_some, bin_eql, bin_lss, onP_p, oGet_s, readRs_nil, readRs_t, retV_2, of0, of1, Option.some.injEq, exists_eq_left', getK_set, Nat.reduceEqDiff, ↓reduceIte, Bool.false_eq_true, stay_iadr, ix2_0, ix2_1, g0, g1, g6, hv.len, d0, hp1, hp3, hp4, d1, d2, ← hh, and_self, hv.beq]
      · rw [if_neg e2] at hh
        have d2 : decide (L[i].2 = t) = false := by simpa using e2
        simp (disch := omega) only [f64_r2, f64_r3, f64_r5, f64_r7, w_skip, w_reg, w_seq, w_cond, w_block, seqK_n, atK_n, loopK_n, ckB_b, cbB_b, true_and, x_nil, x_mv, x_as, x_ld, x_bin, x_iadr, x_iads, x_len, kx, rvP_ok, okv_some, ev_t, ev_c, getV_some, putD_some, bin_add, bin_eql, bin_lss, onP_p, of0, of1, getK_set, Nat.reduceEqDiff, ↓reduceIte, Bool.false_eq_true, ix2_0, ix2_1, g0, g1, g6, hv.len, d0, hp1, hp3, hp4, d1, d2, fw64]
        exact ⟨i + 1, by omega, rfl, by omega, hh, by simp (disch := omega) only [getK_set, Nat.reduceEqDiff, ↓reduceIte, g0, g1, and_self, Int.natCast_add, Int.natCast_one]⟩
  · have d0 : decide ((i : Int) < (L.length : Int)) = false := by simpa using hlt
    have : homeP L t = (false, -1) := by rw [← hh, List.drop_of_length_le (by omega)]; rfl
    simp (disch := omega) only [f64_r2, f64_r8, f64_rs, w_reg, w_seq, w_cond, w_exit, w_ret, seqK_n, seqK_e, atK_e, loopK_e, ckB_b, cbB_b, true_and, retK_r, x_nil, x_mv, x_as, x_bin, x_len, kx, rvP_ok, okv_some, ev_t, ev_c, getV_some, putD_some, bin_lss, oGet_s, readRs_nil, readRs_t, retV_2, Option.some.injEq, exists_eq_left', getK_set, Nat.reduceEqDiff, ↓reduceIte, Bool.false_eq_true, g0, g6, hv.len, d0, this]
    exact ⟨rfl, trivial⟩
end
/-! ### As what the evaluator takes in place of its code -/
noncomputable def pairsI (n : Nat) : List V → Option (List (Int × Int)) := Nat.rec (fun _ => some []) (fun _ ih l => List.rec none (fun x l _ => List.rec none (fun y l _ => x.onI none fun k a => y.onI none fun k' b => bif k == .i64 && k' == .i64 then oGet (ih l) none fun L => some ((a, b) :: L) else none) l) l) n
theorem pairsI_spec : ∀ {n : Nat} {l : List V} {L : List (Int × Int)}, pairsI n l = some L → l.take (n * 2) = L.flatMap qE ∧ L.length = n ∧ n * 2 ≤ l.length
  | 0, l, L, h => by cases h; simp
  | n + 1, l, L, h => by
    match l, h with
    | x :: y :: l, h =>
      have h : (x.onI none fun k a => y.onI none fun k' b => bif k == .i64 && k' == .i64 then oGet (pairsI n l) none fun L => some ((a, b) :: L) else none) = some L := h
      obtain ⟨k, a, e1, h⟩ := V.onIo_ok (x := x) h
      obtain ⟨k', b, e2, h⟩ := V.onIo_ok (x := y) h
      subst e1 e2
      obtain ⟨hk, h⟩ := cond_ok (by simp) h
      obtain ⟨M, hM, h⟩ := oGet_some (by simp) h
      cases h
      simp only [Bool.and_eq_true, beq_iff_eq] at hk
      obtain ⟨rfl, rfl⟩ := hk
      obtain ⟨h1, h2, h3⟩ := pairsI_spec hM
      refine ⟨?_, by simp [h2], by simp; omega⟩
      rw [show (n + 1) * 2 = n * 2 + 1 + 1 by omega, List.take_succ_cons, List.take_succ_cons, h1]; rfl
/-- The pairs of a slice. -/
noncomputable def listP (h : H) (v : V) : Option (List (Int × Int)) := v.onSl0 none (some []) fun id off n sz => bif Nat.beq sz 2 && Nat.ble n 1000000 then ((h.get id).onC none fun m cs => bif Nat.beq (lenL cs) m && Nat.ble (off + n * 2) m then pairsI n (dropN off cs) else none) else none
theorem listP_spec {h : H} {v : V} {L : List (Int × Int)} (hl : listP h v = some L) : Srp h v L ∧ L.length ≤ 1000000 := by
  unfold listP at hl
  rcases V.onSl0_ok (by simp) hl with ⟨hv, hl⟩ | ⟨id, off, n, sz, hv, hl⟩
  · cases hl; exact ⟨.inl ⟨hv, rfl, rfl⟩, by simp⟩
  · obtain ⟨hc, hl1⟩ := cond_ok (by simp) hl
    rw [Bool.and_eq_true] at hc
    have hsz := Nat.eq_of_beq_eq_true hc.1
    subst hsz
    obtain ⟨m, cs, hb, hl2⟩ := Blk.onC_ok (by simp) hl1
    obtain ⟨hm, hl3⟩ := cond_ok (by simp) hl2
    rw [Bool.and_eq_true] at hm
    have hle := Nat.le_of_ble_eq_true hm.2
    have hm1 : cs.length = m := by rw [← lenL_eq]; exact Nat.eq_of_beq_eq_true hm.1
    clear hm
    obtain ⟨p1, p2, p3⟩ := pairsI_spec hl3
    rw [dropN_eq] at p1 p3
    subst p2
    refine ⟨.inr ⟨id, off, m, cs, hv, hb, hm1, hle, p1⟩, Nat.le_of_ble_eq_true hc.2⟩
noncomputable def homeK (L : List (Int × Int)) (t : Int) : V := List.rec (.tup [.b false, .i .i64 (-1)]) (fun x _ ih => bif ieq x.1 t then .tup [.b true, .i .i64 x.2] else bif ieq x.2 t then .tup [.b false, .i .i64 x.1] else ih) L
theorem homeK_eq : ∀ (L : List (Int × Int)) (t : Int), homeK L t = .tup [.b (homeP L t).1, .i .i64 (homeP L t).2]
  | [], t => rfl
  | x :: L, t => by
    show (bif ieq x.1 t then V.tup [.b true, .i .i64 x.2] else bif ieq x.2 t then .tup [.b false, .i .i64 x.1] else homeK L t) = _
    have e : homeP (x :: L) t = if x.1 = t then (true, x.2) else if x.2 = t then (false, x.1) else homeP L t := rfl
    rw [homeK_eq L t, ieq_eq, ieq_eq, e]
    by_cases h1 : x.1 = t
    · rw [if_pos h1, show (x.1 == t) = true by simpa using h1]; rfl
    · rw [if_neg h1, show (x.1 == t) = false by simpa using h1]
      by_cases h2 : x.2 = t
      · rw [if_pos h2, show (x.2 == t) = true by simpa using h2]; rfl
      · rw [if_neg h2, show (x.2 == t) = false by simpa using h2]; rfl
noncomputable def homeG (args : List V) (h : H) : Option (V × H) := match args with
  | [x, .i .i64 t] => oGet (listP h x) none fun L => some (homeK L t, h)
  | _ => none
theorem homeG_does {Y : Rig} {fs : T EF} (hfs : Fns Y fs) {k : K} (hf : f64.nv = none ∧ ∃ fn c, FnOk Y k f64 fn c) : ∀ args h v h', homeG args h = some (v, h') → Does Y k args h v h' := by
  intro args h v h' he
  unfold homeG at he
  split at he
  · obtain ⟨L, h1, he⟩ := oGet_some (by simp) he
    cases he
    obtain ⟨s1, s2⟩ := listP_spec h1
    obtain ⟨n, r, h2, hr, rfl, rfl⟩ := f64_ret (fs := fs) (t := ‹Int›) s1 s2
    rw [homeK_eq]
    exact does_of_run hfs hf hr
  · cases he
end Go.Ev
namespace Go.Ev
open Go Go.RowKit
noncomputable def f65_r0 : List EOper := [⟨(some (K.ofNat 2)), none, .as (.c (.b false))⟩]
noncomputable def f65_r1 : List EOper := [⟨(some (K.ofNat 3)), none, .mv (.t (K.ofNat 0))⟩, ⟨(some (K.ofNat 4)), none, .bin .geq (.t (K.ofNat 3)) (.c (.i .i64 (.ofNat 2)))⟩, ⟨(some (K.ofNat 5)), none, .mv (.t (K.ofNat 4))⟩, ⟨(some (K.ofNat 6)), (some ((K.ofNat 5), true)), .mv (.t (K.ofNat 0))⟩, ⟨(some (K.ofNat 7)), (some ((K.ofNat 5), true)), .bin .leq (.t (K.ofNat 6)) (.c (.i .i64 (.ofNat 10)))⟩, ⟨(some (K.ofNat 8)), none, .pick (.t (K.ofNat 5)) (.t (K.ofNat 7)) (.c (.b false))⟩, ⟨(some (K.ofNat 9)), none, .mv (.t (K.ofNat 8))⟩, ⟨(some (K.ofNat 10)), (some ((K.ofNat 9), true)), .mv (.t (K.ofNat 0))⟩, ⟨(some (K.ofNat 11)), (some ((K.ofNat 9), true)), .bin .rem (.t (K.ofNat 10)) (.c (.i .i64 (.ofNat 2)))⟩, ⟨(some (K.ofNat 12)), (some ((K.ofNat 9), true)), .bin .eql (.t (K.ofNat 11)) (.c (.i .i64 (.ofNat 0)))⟩, ⟨(some (K.ofNat 13)), none, .pick (.t (K.ofNat 9)) (.t (K.ofNat 12)) (.c (.b false))⟩, ⟨(some (K.ofNat 2)), none, .as (.t (K.ofNat 13))⟩]
noncomputable def f65_c : EC := (.seq (.reg f65_r0) (.seq (.reg f65_r1) .ret))
noncomputable def f65 : EF := ⟨14, [.tmp (K.ofNat 2)], f65_c, none⟩
theorem f65_rs : f65.rs = [.tmp (K.ofNat 2)] := of_eq_true (eq_self _)
noncomputable def f34_r0 : List EOper := [⟨(some (K.ofNat 2)), none, .as (.c .sn)⟩, ⟨(some (K.ofNat 3)), none, .as (.c (.i .i64 (.ofNat 0)))⟩]
noncomputable def f34_r1 : List EOper := [⟨(some (K.ofNat 4)), none, .mv (.t (K.ofNat 0))⟩, ⟨(some (K.ofNat 5)), none, .call (.c (.fn (K.ofNat 65) [])) [(.t (K.ofNat 4))]⟩, ⟨(some (K.ofNat 6)), none, .not (.t (K.ofNat 5))⟩]
noncomputable def f34_r2 : List EOper := [⟨(some (K.ofNat 2)), none, .as (.c .sn)⟩, ⟨(some (K.ofNat 3)), none, .as (.c (.i .i64 (.ofNat 1)))⟩]
noncomputable def f34_r3 : List EOper := [⟨(some (K.ofNat 7)), none, .mv (.t (K.ofNat 0))⟩, ⟨(some (K.ofNat 8)), none, .call (.c (.fn (K.ofNat 66) [])) [(.t (K.ofNat 7))]⟩, ⟨(some (K.ofNat 9)), none, .call (.c (.fn (K.ofNat 60) [])) [(.t (K.ofNat 8))]⟩, ⟨(some (K.ofNat 2)), none, .as (.t (K.ofNat 9))⟩, ⟨(some (K.ofNat 3)), none, .as (.c (.i .i64 (.ofNat 0)))⟩]
noncomputable def f34_c : EC := (.seq (.reg f34_r0) (.seq (.seq (.reg f34_r1) (.cond (.t (K.ofNat 6)) (.seq (.reg f34_r2) .ret) .skip)) (.seq (.reg f34_r3) .ret)))
noncomputable def f34 : EF := ⟨10, [.tmp (K.ofNat 2), .tmp (K.ofNat 3)], f34_c, none⟩
theorem f34_rs : f34.rs = [.tmp (K.ofNat 2), .tmp (K.ofNat 3)] := of_eq_true (eq_self _)
noncomputable def f35_r0 : List EOper := [⟨(some (K.ofNat 2)), none, .as (.c .sn)⟩, ⟨(some (K.ofNat 3)), none, .as (.c (.i .i64 (.ofNat 0)))⟩]
noncomputable def f35_r1 : List EOper := [⟨(some (K.ofNat 4)), none, .mv (.t (K.ofNat 0))⟩, ⟨(some (K.ofNat 5)), none, .bin .neq (.t (K.ofNat 4)) (.c (.i .i64 (.ofNat 4)))⟩, ⟨(some (K.ofNat 6)), none, .mv (.t (K.ofNat 5))⟩, ⟨(some (K.ofNat 7)), (some ((K.ofNat 6), true)), .mv (.t (K.ofNat 0))⟩, ⟨(some (K.ofNat 8)), (some ((K.ofNat 6), true)), .bin .neq (.t (K.ofNat 7)) (.c (.i .i64 (.ofNat 8)))⟩, ⟨(some (K.ofNat 9)), none, .pick (.t (K.ofNat 6)) (.t (K.ofNat 8)) (.c (.b false))⟩]
noncomputable def f35_r2 : List EOper := [⟨(some (K.ofNat 2)), none, .as (.c .sn)⟩, ⟨(some (K.ofNat 3)), none, .as (.c (.i .i64 (.ofNat 1)))⟩]
noncomputable def f35_r3 : List EOper := [⟨(some (K.ofNat 10)), none, .mv (.t (K.ofNat 0))⟩, ⟨(some (K.ofNat 11)), none, .call (.c (.fn (K.ofNat 67) [])) [(.t (K.ofNat 10))]⟩, ⟨(some (K.ofNat 12)), none, .call (.c (.fn (K.ofNat 60) [])) [(.t (K.ofNat 11))]⟩, ⟨(some (K.ofNat 2)), none, .as (.t (K.ofNat 12))⟩, ⟨(some (K.ofNat 3)), none, .as (.c (.i .i64 (.ofNat 0)))⟩]
noncomputable def f35_c : EC := (.seq (.reg f35_r0) (.seq (.seq (.reg f35_r1) (.cond (.t (K.ofNat 9)) (.seq (.reg f35_r2) .ret) .skip)) (.seq (.reg f35_r3) .ret)))
noncomputable def f35 : EF := ⟨13, [.tmp (K.ofNat 2), .tmp (K.ofNat 3)], f35_c, none⟩
theorem f35_rs : f35.rs = [.tmp (K.ofNat 2), .tmp (K.ofNat 3)] := of_eq_true (eq_self _)
noncomputable def f36_r0 : List EOper := [⟨(some (K.ofNat 2)), none, .as (.c .sn)⟩, ⟨(some (K.ofNat 3)), none, .as (.c (.i .i64 (.ofNat 0)))⟩]
noncomputable def f36_r1 : List EOper := [⟨(some (K.ofNat 4)), none, .mv (.t (K.ofNat 0))⟩, ⟨(some (K.ofNat 5)), none, .bin .neq (.t (K.ofNat 4)) (.c (.i .i64 (.ofNat 4)))⟩, ⟨(some (K.ofNat 6)), none, .mv (.t (K.ofNat 5))⟩, ⟨(some (K.ofNat 7)), (some ((K.ofNat 6), true)), .mv (.t (K.ofNat 0))⟩, ⟨(some (K.ofNat 8)), (some ((K.ofNat 6), true)), .bin .neq (.t (K.ofNat 7)) (.c (.i .i64 (.ofNat 6)))⟩, ⟨(some (K.ofNat 9)), none, .pick (.t (K.ofNat 6)) (.t (K.ofNat 8)) (.c (.b false))⟩, ⟨(some (K.ofNat 10)), none, .mv (.t (K.ofNat 9))⟩, ⟨(some (K.ofNat 11)), (some ((K.ofNat 10), true)), .mv (.t (K.ofNat 0))⟩, ⟨(some (K.ofNat 12)), (some ((K.ofNat 10), true)), .bin .neq (.t (K.ofNat 11)) (.c (.i .i64 (.ofNat 8)))⟩, ⟨(some (K.ofNat 13)), none, .pick (.t (K.ofNat 10)) (.t (K.ofNat 12)) (.c (.b false))⟩]
noncomputable def f36_r2 : List EOper := [⟨(some (K.ofNat 2)), none, .as (.c .sn)⟩, ⟨(some (K.ofNat 3)), none, .as (.c (.i .i64 (.ofNat 1)))⟩]
noncomputable def f36_r3 : List EOper := [⟨(some (K.ofNat 14)), none, .mv (.t (K.ofNat 0))⟩, ⟨(some (K.ofNat 15)), none, .call (.c (.fn (K.ofNat 66) [])) [(.t (K.ofNat 14))]⟩, ⟨(some (K.ofNat 16)), none, .call (.c (.fn (K.ofNat 60) [])) [(.t (K.ofNat 15))]⟩, ⟨(some (K.ofNat 2)), none, .as (.t (K.ofNat 16))⟩, ⟨(some (K.ofNat 3)), none, .as (.c (.i .i64 (.ofNat 0)))⟩]
noncomputable def f36_c : EC := (.seq (.reg f36_r0) (.seq (.seq (.reg f36_r1) (.cond (.t (K.ofNat 13)) (.seq (.reg f36_r2) .ret) .skip)) (.seq (.reg f36_r3) .ret)))
noncomputable def f36 : EF := ⟨17, [.tmp (K.ofNat 2), .tmp (K.ofNat 3)], f36_c, none⟩
theorem f36_rs : f36.rs = [.tmp (K.ofNat 2), .tmp (K.ofNat 3)] := of_eq_true (eq_self _)
noncomputable def f37_r0 : List EOper := [⟨(some (K.ofNat 2)), none, .as (.c (.b false))⟩]
noncomputable def f37_r1 : List EOper := [⟨(some (K.ofNat 3)), none, .mv (.t (K.ofNat 0))⟩, ⟨(some (K.ofNat 4)), none, .bin .geq (.t (K.ofNat 3)) (.c (.i .i64 (.ofNat 2)))⟩, ⟨(some (K.ofNat 5)), none, .mv (.t (K.ofNat 4))⟩, ⟨(some (K.ofNat 6)), (some ((K.ofNat 5), true)), .mv (.t (K.ofNat 0))⟩, ⟨(some (K.ofNat 7)), (some ((K.ofNat 5), true)), .bin .leq (.t (K.ofNat 6)) (.c (.i .i64 (.ofNat 10)))⟩, ⟨(some (K.ofNat 8)), none, .pick (.t (K.ofNat 5)) (.t (K.ofNat 7)) (.c (.b false))⟩, ⟨(some (K.ofNat 9)), none, .mv (.t (K.ofNat 8))⟩, ⟨(some (K.ofNat 10)), (some ((K.ofNat 9), true)), .mv (.t (K.ofNat 0))⟩, ⟨(some (K.ofNat 11)), (some ((K.ofNat 9), true)), .bin .rem (.t (K.ofNat 10)) (.c (.i .i64 (.ofNat 2)))⟩, ⟨(some (K.ofNat 12)), (some ((K.ofNat 9), true)), .bin .eql (.t (K.ofNat 11)) (.c (.i .i64 (.ofNat 0)))⟩, ⟨(some (K.ofNat 13)), none, .pick (.t (K.ofNat 9)) (.t (K.ofNat 12)) (.c (.b false))⟩, ⟨(some (K.ofNat 2)), none, .as (.t (K.ofNat 13))⟩]
noncomputable def f37_c : EC := (.seq (.reg f37_r0) (.seq (.reg f37_r1) .ret))
noncomputable def f37 : EF := ⟨14, [.tmp (K.ofNat 2)], f37_c, none⟩
theorem f37_rs : f37.rs = [.tmp (K.ofNat 2)] := of_eq_true (eq_self _)
noncomputable def f41_r0 : List EOper := [⟨(some (K.ofNat 4)), none, .as (.c (.i .i64 (.ofNat 0)))⟩]
noncomputable def f41_r1 : List EOper := [⟨(some (K.ofNat 5)), none, .mv (.t (K.ofNat 0))⟩, ⟨(some (K.ofNat 6)), none, .conv .u64 (.t (K.ofNat 5))⟩, ⟨(some (K.ofNat 7)), none, .mv (.t (K.ofNat 1))⟩, ⟨(some (K.ofNat 8)), none, .bin .quo (.t (K.ofNat 7)) (.c (.i .i64 (.ofNat 2)))⟩, ⟨(some (K.ofNat 9)), none, .conv .u64 (.t (K.ofNat 8))⟩, ⟨(some (K.ofNat 10)), none, .bin .rem (.t (K.ofNat 6)) (.t (K.ofNat 9))⟩, ⟨(some (K.ofNat 11)), none, .conv .i64 (.t (K.ofNat 10))⟩, ⟨(some (K.ofNat 12)), none, .bin .mul (.c (.i .i64 (.ofNat 2))) (.t (K.ofNat 11))⟩, ⟨(some (K.ofNat 13)), none, .bin .add (.c (.i .i64 (.ofNat 2))) (.t (K.ofNat 12))⟩, ⟨(some (K.ofNat 4)), none, .as (.t (K.ofNat 13))⟩]
noncomputable def f41_c : EC := (.seq (.reg f41_r0) (.seq (.reg f41_r1) .ret))
noncomputable def f41 : EF := ⟨14, [.tmp (K.ofNat 4)], f41_c, none⟩
theorem f41_rs : f41.rs = [.tmp (K.ofNat 4)] := of_eq_true (eq_self _)
noncomputable def f5_r0 : List EOper := [⟨(some (K.ofNat 2)), none, .as (.c (.b false))⟩]
noncomputable def f5_r1 : List EOper := [⟨(some (K.ofNat 3)), none, .as (.c (.i .i64 (.ofNat 0)))⟩]
noncomputable def f5_r2 : List EOper := [⟨(some (K.ofNat 10)), none, .mv (.t (K.ofNat 3))⟩, ⟨(some (K.ofNat 11)), none, .bin .lss (.t (K.ofNat 10)) (.c (.i .i64 (.ofNat 2)))⟩]
noncomputable def f5_r3 : List EOper := [⟨(some (K.ofNat 15)), none, .mv (.t (K.ofNat 0))⟩, ⟨(some (K.ofNat 16)), none, .call (.c (.fn (K.ofNat 34) [])) [(.t (K.ofNat 15))]⟩, ⟨(some (K.ofNat 14)), none, .mv (.t (K.ofNat 16))⟩, ⟨(some (K.ofNat 17)), none, .ext (.t (K.ofNat 14)) 0⟩, ⟨(some (K.ofNat 18)), none, .ext (.t (K.ofNat 14)) 1⟩, ⟨(some (K.ofNat 4)), none, .as (.t (K.ofNat 17))⟩, ⟨(some (K.ofNat 5)), none, .as (.t (K.ofNat 18))⟩]
noncomputable def f5_r4 : List EOper := [⟨(some (K.ofNat 20)), none, .mv (.t (K.ofNat 0))⟩, ⟨(some (K.ofNat 21)), none, .call (.c (.fn (K.ofNat 35) [])) [(.t (K.ofNat 20))]⟩, ⟨(some (K.ofNat 19)), none, .mv (.t (K.ofNat 21))⟩, ⟨(some (K.ofNat 22)), none, .ext (.t (K.ofNat 19)) 0⟩, ⟨(some (K.ofNat 23)), none, .ext (.t (K.ofNat 19)) 1⟩, ⟨(some (K.ofNat 6)), none, .as (.t (K.ofNat 22))⟩, ⟨(some (K.ofNat 7)), none, .as (.t (K.ofNat 23))⟩]
noncomputable def f5_r5 : List EOper := [⟨(some (K.ofNat 25)), none, .mv (.t (K.ofNat 0))⟩, ⟨(some (K.ofNat 26)), none, .call (.c (.fn (K.ofNat 36) [])) [(.t (K.ofNat 25))]⟩, ⟨(some (K.ofNat 24)), none, .mv (.t (K.ofNat 26))⟩, ⟨(some (K.ofNat 27)), none, .ext (.t (K.ofNat 24)) 0⟩, ⟨(some (K.ofNat 28)), none, .ext (.t (K.ofNat 24)) 1⟩, ⟨(some (K.ofNat 8)), none, .as (.t (K.ofNat 27))⟩, ⟨(some (K.ofNat 9)), none, .as (.t (K.ofNat 28))⟩]
noncomputable def f5_r6 : List EOper := [⟨(some (K.ofNat 29)), none, .mv (.t (K.ofNat 0))⟩, ⟨(some (K.ofNat 30)), none, .call (.c (.fn (K.ofNat 37) [])) [(.t (K.ofNat 29))]⟩, ⟨(some (K.ofNat 31)), none, .not (.t (K.ofNat 30))⟩]
noncomputable def f5_r7 : List EOper := [⟨(some (K.ofNat 32)), none, .mv (.t (K.ofNat 5))⟩, ⟨(some (K.ofNat 33)), none, .bin .neq (.t (K.ofNat 32)) (.c (.i .i64 (.ofNat 1)))⟩, ⟨(some (K.ofNat 34)), none, .mv (.t (K.ofNat 33))⟩, ⟨(some (K.ofNat 35)), (some ((K.ofNat 34), false)), .mv (.t (K.ofNat 4))⟩, ⟨(some (K.ofNat 36)), (some ((K.ofNat 34), false)), .len (.t (K.ofNat 35))⟩, ⟨(some (K.ofNat 37)), (some ((K.ofNat 34), false)), .bin .neq (.t (K.ofNat 36)) (.c (.i .i64 (.ofNat 0)))⟩, ⟨(some (K.ofNat 38)), none, .pick (.t (K.ofNat 34)) (.c (.b true)) (.t (K.ofNat 37))⟩]
noncomputable def f5_r8 : List EOper := [⟨(some (K.ofNat 2)), none, .as (.c (.b false))⟩]
noncomputable def f5_r9 : List EOper := [⟨(some (K.ofNat 39)), none, .mv (.t (K.ofNat 5))⟩, ⟨(some (K.ofNat 40)), none, .bin .neq (.t (K.ofNat 39)) (.c (.i .i64 (.ofNat 0)))⟩, ⟨(some (K.ofNat 41)), none, .mv (.t (K.ofNat 40))⟩, ⟨(some (K.ofNat 42)), (some ((K.ofNat 41), false)), .mv (.t (K.ofNat 0))⟩, ⟨(some (K.ofNat 43)), (some ((K.ofNat 41), false)), .mv (.t (K.ofNat 4))⟩, ⟨(some (K.ofNat 44)), (some ((K.ofNat 41), false)), .call (.c (.fn (K.ofNat 14) [])) [(.t (K.ofNat 42)), (.t (K.ofNat 43))]⟩, ⟨(some (K.ofNat 45)), (some ((K.ofNat 41), false)), .bin .neq (.t (K.ofNat 44)) (.c (.i .i64 (.ofNat 0)))⟩, ⟨(some (K.ofNat 46)), none, .pick (.t (K.ofNat 41)) (.c (.b true)) (.t (K.ofNat 45))⟩, ⟨(some (K.ofNat 47)), none, .mv (.t (K.ofNat 46))⟩, ⟨(some (K.ofNat 48)), (some ((K.ofNat 47), false)), .mv (.t (K.ofNat 0))⟩, ⟨(some (K.ofNat 49)), (some ((K.ofNat 47), false)), .mv (.t (K.ofNat 4))⟩, ⟨(some (K.ofNat 50)), (some ((K.ofNat 47), false)), .call (.c (.fn (K.ofNat 27) [])) [(.t (K.ofNat 48)), (.t (K.ofNat 49))]⟩, ⟨(some (K.ofNat 51)), (some ((K.ofNat 47), false)), .mv (.t (K.ofNat 0))⟩, ⟨(some (K.ofNat 52)), (some ((K.ofNat 47), false)), .bin .sub (.t (K.ofNat 51)) (.c (.i .i64 (.ofNat 2)))⟩, ⟨(some (K.ofNat 53)), (some ((K.ofNat 47), false)), .bin .neq (.t (K.ofNat 50)) (.t (K.ofNat 52))⟩, ⟨(some (K.ofNat 54)), none, .pick (.t (K.ofNat 47)) (.c (.b true)) (.t (K.ofNat 53))⟩]
noncomputable def f5_r10 : List EOper := [⟨(some (K.ofNat 2)), none, .as (.c (.b false))⟩]
noncomputable def f5_r11 : List EOper := [⟨(some (K.ofNat 55)), none, .mv (.t (K.ofNat 0))⟩, ⟨(some (K.ofNat 56)), none, .bin .neq (.t (K.ofNat 55)) (.c (.i .i64 (.ofNat 4)))⟩, ⟨(some (K.ofNat 57)), none, .mv (.t (K.ofNat 56))⟩, ⟨(some (K.ofNat 58)), (some ((K.ofNat 57), true)), .mv (.t (K.ofNat 0))⟩, ⟨(some (K.ofNat 59)), (some ((K.ofNat 57), true)), .bin .neq (.t (K.ofNat 58)) (.c (.i .i64 (.ofNat 8)))⟩, ⟨(some (K.ofNat 60)), none, .pick (.t (K.ofNat 57)) (.t (K.ofNat 59)) (.c (.b false))⟩]
noncomputable def f5_r12 : List EOper := [⟨(some (K.ofNat 61)), none, .mv (.t (K.ofNat 7))⟩, ⟨(some (K.ofNat 62)), none, .bin .neq (.t (K.ofNat 61)) (.c (.i .i64 (.ofNat 1)))⟩, ⟨(some (K.ofNat 63)), none, .mv (.t (K.ofNat 62))⟩, ⟨(some (K.ofNat 64)), (some ((K.ofNat 63), false)), .mv (.t (K.ofNat 6))⟩, ⟨(some (K.ofNat 65)), (some ((K.ofNat 63), false)), .len (.t (K.ofNat 64))⟩, ⟨(some (K.ofNat 66)), (some ((K.ofNat 63), false)), .bin .neq (.t (K.ofNat 65)) (.c (.i .i64 (.ofNat 0)))⟩, ⟨(some (K.ofNat 67)), none, .pick (.t (K.ofNat 63)) (.c (.b true)) (.t (K.ofNat 66))⟩]
noncomputable def f5_r13 : List EOper := [⟨(some (K.ofNat 2)), none, .as (.c (.b false))⟩]
noncomputable def f5_r14 : List EOper := [⟨(some (K.ofNat 68)), none, .mv (.t (K.ofNat 7))⟩, ⟨(some (K.ofNat 69)), none, .bin .neq (.t (K.ofNat 68)) (.c (.i .i64 (.ofNat 0)))⟩, ⟨(some (K.ofNat 70)), none, .mv (.t (K.ofNat 69))⟩, ⟨(some (K.ofNat 71)), (some ((K.ofNat 70), false)), .mv (.t (K.ofNat 0))⟩, ⟨(some (K.ofNat 72)), (some ((K.ofNat 70), false)), .mv (.t (K.ofNat 6))⟩, ⟨(some (K.ofNat 73)), (some ((K.ofNat 70), false)), .call (.c (.fn (K.ofNat 14) [])) [(.t (K.ofNat 71)), (.t (K.ofNat 72))]⟩, ⟨(some (K.ofNat 74)), (some ((K.ofNat 70), false)), .bin .neq (.t (K.ofNat 73)) (.c (.i .i64 (.ofNat 0)))⟩, ⟨(some (K.ofNat 75)), none, .pick (.t (K.ofNat 70)) (.c (.b true)) (.t (K.ofNat 74))⟩, ⟨(some (K.ofNat 76)), none, .mv (.t (K.ofNat 75))⟩, ⟨(some (K.ofNat 77)), (some ((K.ofNat 76), false)), .mv (.t (K.ofNat 0))⟩, ⟨(some (K.ofNat 78)), (some ((K.ofNat 76), false)), .mv (.t (K.ofNat 6))⟩, ⟨(some (K.ofNat 79)), (some ((K.ofNat 76), false)), .call (.c (.fn (K.ofNat 39) [])) [(.t (K.ofNat 77)), (.t (K.ofNat 78))]⟩, ⟨(some (K.ofNat 80)), (some ((K.ofNat 76), false)), .call (.c (.fn (K.ofNat 38) [])) [(.t (K.ofNat 79))]⟩, ⟨(some (K.ofNat 81)), (some ((K.ofNat 76), false)), .not (.t (K.ofNat 80))⟩, ⟨(some (K.ofNat 82)), none, .pick (.t (K.ofNat 76)) (.c (.b true)) (.t (K.ofNat 81))⟩]
noncomputable def f5_r15 : List EOper := [⟨(some (K.ofNat 2)), none, .as (.c (.b false))⟩]
noncomputable def f5_r16 : List EOper := [⟨(some (K.ofNat 83)), none, .mv (.t (K.ofNat 0))⟩, ⟨(some (K.ofNat 84)), none, .bin .neq (.t (K.ofNat 83)) (.c (.i .i64 (.ofNat 4)))⟩, ⟨(some (K.ofNat 85)), none, .mv (.t (K.ofNat 84))⟩, ⟨(some (K.ofNat 86)), (some ((K.ofNat 85), true)), .mv (.t (K.ofNat 0))⟩, ⟨(some (K.ofNat 87)), (some ((K.ofNat 85), true)), .bin .neq (.t (K.ofNat 86)) (.c (.i .i64 (.ofNat 6)))⟩, ⟨(some (K.ofNat 88)), none, .pick (.t (K.ofNat 85)) (.t (K.ofNat 87)) (.c (.b false))⟩, ⟨(some (K.ofNat 89)), none, .mv (.t (K.ofNat 88))⟩, ⟨(some (K.ofNat 90)), (some ((K.ofNat 89), true)), .mv (.t (K.ofNat 0))⟩, ⟨(some (K.ofNat 91)), (some ((K.ofNat 89), true)), .bin .neq (.t (K.ofNat 90)) (.c (.i .i64 (.ofNat 8)))⟩, ⟨(some (K.ofNat 92)), none, .pick (.t (K.ofNat 89)) (.t (K.ofNat 91)) (.c (.b false))⟩]
noncomputable def f5_r17 : List EOper := [⟨(some (K.ofNat 93)), none, .mv (.t (K.ofNat 9))⟩, ⟨(some (K.ofNat 94)), none, .bin .neq (.t (K.ofNat 93)) (.c (.i .i64 (.ofNat 1)))⟩, ⟨(some (K.ofNat 95)), none, .mv (.t (K.ofNat 94))⟩, ⟨(some (K.ofNat 96)), (some ((K.ofNat 95), false)), .mv (.t (K.ofNat 8))⟩, ⟨(some (K.ofNat 97)), (some ((K.ofNat 95), false)), .len (.t (K.ofNat 96))⟩, ⟨(some (K.ofNat 98)), (some ((K.ofNat 95), false)), .bin .neq (.t (K.ofNat 97)) (.c (.i .i64 (.ofNat 0)))⟩, ⟨(some (K.ofNat 99)), none, .pick (.t (K.ofNat 95)) (.c (.b true)) (.t (K.ofNat 98))⟩]
noncomputable def f5_r18 : List EOper := [⟨(some (K.ofNat 2)), none, .as (.c (.b false))⟩]
noncomputable def f5_r19 : List EOper := [⟨(some (K.ofNat 100)), none, .mv (.t (K.ofNat 9))⟩, ⟨(some (K.ofNat 101)), none, .bin .neq (.t (K.ofNat 100)) (.c (.i .i64 (.ofNat 0)))⟩, ⟨(some (K.ofNat 102)), none, .mv (.t (K.ofNat 101))⟩, ⟨(some (K.ofNat 103)), (some ((K.ofNat 102), false)), .mv (.t (K.ofNat 0))⟩, ⟨(some (K.ofNat 104)), (some ((K.ofNat 102), false)), .mv (.t (K.ofNat 8))⟩, ⟨(some (K.ofNat 105)), (some ((K.ofNat 102), false)), .call (.c (.fn (K.ofNat 14) [])) [(.t (K.ofNat 103)), (.t (K.ofNat 104))]⟩, ⟨(some (K.ofNat 106)), (some ((K.ofNat 102), false)), .bin .neq (.t (K.ofNat 105)) (.c (.i .i64 (.ofNat 0)))⟩, ⟨(some (K.ofNat 107)), none, .pick (.t (K.ofNat 102)) (.c (.b true)) (.t (K.ofNat 106))⟩, ⟨(some (K.ofNat 108)), none, .mv (.t (K.ofNat 107))⟩, ⟨(some (K.ofNat 109)), (some ((K.ofNat 108), false)), .mv (.t (K.ofNat 0))⟩, ⟨(some (K.ofNat 110)), (some ((K.ofNat 108), false)), .mv (.t (K.ofNat 8))⟩, ⟨(some (K.ofNat 111)), (some ((K.ofNat 108), false)), .call (.c (.fn (K.ofNat 40) [])) [(.t (K.ofNat 109)), (.t (K.ofNat 110))]⟩, ⟨(some (K.ofNat 112)), (some ((K.ofNat 108), false)), .not (.t (K.ofNat 111))⟩, ⟨(some (K.ofNat 113)), none, .pick (.t (K.ofNat 108)) (.c (.b true)) (.t (K.ofNat 112))⟩]
noncomputable def f5_r20 : List EOper := [⟨(some (K.ofNat 2)), none, .as (.c (.b false))⟩]
noncomputable def f5_r21 : List EOper := [⟨(some (K.ofNat 114)), none, .mv (.t (K.ofNat 0))⟩, ⟨(some (K.ofNat 115)), none, .call (.c (.fn (K.ofNat 41) [])) [(.t (K.ofNat 114)), (.c (.i .i64 (.ofNat 10)))]⟩, ⟨(some (K.ofNat 0)), none, .as (.t (K.ofNat 115))⟩]
noncomputable def f5_r22 : List EOper := [⟨(some (K.ofNat 12)), none, .mv (.t (K.ofNat 3))⟩, ⟨(some (K.ofNat 13)), none, .bin .add (.t (K.ofNat 12)) (.c (.i .i64 (.ofNat 1)))⟩, ⟨(some (K.ofNat 3)), none, .as (.t (K.ofNat 13))⟩]
noncomputable def f5_l0 : EC := (.seq (.seq (.reg f5_r2) (.cond (.t (K.ofNat 11)) .skip (.exit 0))) (.seq (.block 1 (.seq (.reg f5_r3) (.seq (.reg f5_r4) (.seq (.reg f5_r5) (.seq (.seq (.reg f5_r6) (.cond (.t (K.ofNat 31)) (.seq (.reg f5_r7) (.cond (.t (K.ofNat 38)) (.seq (.reg f5_r8) .ret) .skip)) (.seq (.reg f5_r9) (.cond (.t (K.ofNat 54)) (.seq (.reg f5_r10) .ret) .skip)))) (.seq (.seq (.reg f5_r11) (.cond (.t (K.ofNat 60)) (.seq (.reg f5_r12) (.cond (.t (K.ofNat 67)) (.seq (.reg f5_r13) .ret) .skip)) (.seq (.reg f5_r14) (.cond (.t (K.ofNat 82)) (.seq (.reg f5_r15) .ret) .skip)))) (.seq (.seq (.reg f5_r16) (.cond (.t (K.ofNat 92)) (.seq (.reg f5_r17) (.cond (.t (K.ofNat 99)) (.seq (.reg f5_r18) .ret) .skip)) (.seq (.reg f5_r19) (.cond (.t (K.ofNat 113)) (.seq (.reg f5_r20) .ret) .skip)))) (.reg f5_r21)))))))) (.reg f5_r22)))
noncomputable def f5_r23 : List EOper := [⟨(some (K.ofNat 116)), none, .call (.c (.fn (K.ofNat 22) [])) []⟩, ⟨(some (K.ofNat 2)), none, .as (.t (K.ofNat 116))⟩]
noncomputable def f5_c : EC := (.seq (.reg f5_r0) (.seq (.seq (.reg f5_r1) (.block 0 (.loop f5_l0))) (.seq (.reg f5_r23) .ret)))
noncomputable def f5 : EF := ⟨117, [.tmp (K.ofNat 2)], f5_c, none⟩
theorem f5_rs : f5.rs = [.tmp (K.ofNat 2)] := of_eq_true (eq_self _)
theorem T.set_same {α : Type} {k : K} {x : α} : ∀ {t : T α}, T.get k t = some x → T.set k x t = t := by
  induction k with
  | e =>
    intro t h
    cases t with
    | nil => cases h
    | node l v r => show T.node l (some x) r = _; rw [show v = some x from h]
  | o k ih =>
    intro t h
    cases t with
    | nil => have : T.get k (T.nil : T α) = some x := h; rw [T.get_nil] at this; cases this
    | node l v r => show T.node (T.set k x l) v r = _; rw [ih (show T.get k l = some x from h)]
  | z k ih =>
    intro t h
    cases t with
    | nil => have : T.get k (T.nil : T α) = some x := h; rw [T.get_nil] at this; cases this
    | node l v r => show T.node l v (T.set k x r) = _; rw [ih (show T.get k r = some x from h)]
/-- A number of teams. -/
def ok5 (n : Int) : Prop := n = 2 ∨ n = 4 ∨ n = 6 ∨ n = 8 ∨ n = 10
section
variable {fs : T EF} {ro : Option K}
theorem tmod2 {n : Int} (h1 : 2 ≤ n) (h2 : n ≤ 10) (hn : ¬ ok5 n) : n.tmod 2 ≠ 0 := by
  obtain ⟨m, rfl⟩ : ∃ m : Nat, n = m := ⟨n.toNat, by omega⟩
  have : m = 2 ∨ m = 3 ∨ m = 4 ∨ m = 5 ∨ m = 6 ∨ m = 7 ∨ m = 8 ∨ m = 9 ∨ m = 10 := by omega
  unfold ok5 at hn
  rcases this with rfl | rfl | rfl | rfl | rfl | rfl | rfl | rfl | rfl <;> first | (exfalso; apply hn; simp; done) | (intro h; revert h; decide)
theorem f65_no {h : H} {n : Int} (hn : ¬ ok5 n) : Ret fs f65 [.i .i64 n] h fun r h' => r = .b false ∧ h' = h := by
  apply ret_of rfl
  show W fs none f65_c _ _ _
  unfold f65_c
  by_cases h1 : 2 ≤ n
  · have d1 : decide (n ≥ 2) = true := by simpa using h1
    by_cases h2 : n ≤ 10
    · have d2 : decide (n ≤ 10) = true := by simpa using h2
      have d3 : decide (n.tmod 2 = 0) = false := by simpa using tmod2 h1 h2 hn
      simp (disch := omega) only [f65_r0, f65_r1, f65_rs, w_reg, w_seq, w_ret, seqK_n, okG_b, asG_t, retK_r, x_nil, x_g, x_mv, x_as, x_pick, x_bin, kx, rvP_ok, okv_some, ev_t, ev_c, getV_some, putD_some, bin_eql, bin_leq, bin_geq, bin_rem, pick_b, oGet_s, readRs_nil, readRs_t, retV_1, frame_1, of0, of2, of10, Option.some.injEq, exists_eq_left', getK_set, Nat.reduceEqDiff, ↓reduceIte, d1, d2, d3, and_self]
    · have d2 : decide (n ≤ 10) = false := by simpa using h2
      simp (disch := omega) only [f65_r0, f65_r1, f65_rs, w_reg, w_seq, w_ret, seqK_n, okG_b, asG_t, retK_r, x_nil, x_g, x_mv, x_as, x_pick, x_bin, kx, rvP_ok, okv_some, ev_t, ev_c, getV_some, putD_some, bin_leq, bin_geq, pick_b, oGet_s, readRs_nil, readRs_t, retV_1, frame_1, of0, of2, of10, Option.some.injEq, exists_eq_left', getK_set, Nat.reduceEqDiff, ↓reduceIte, Bool.false_eq_true, d1, d2, and_self]
  · have d1 : decide (n ≥ 2) = false := by simpa using h1
    simp (disch := omega) only [f65_r0, f65_r1, f65_rs, w_reg, w_seq, w_ret, seqK_n, okG_b, asG_t, retK_r, x_nil, x_g, x_mv, x_as, x_pick, x_bin, kx, rvP_ok, okv_some, ev_t, ev_c, getV_some, putD_some, bin_geq, pick_b, oGet_s, readRs_nil, readRs_t, retV_1, frame_1, of0, of2, of10, Option.some.injEq, exists_eq_left', getK_set, Nat.reduceEqDiff, ↓reduceIte, Bool.false_eq_true, d1, and_self]
theorem f37_no {h : H} {n : Int} (hn : ¬ ok5 n) : Ret fs f37 [.i .i64 n] h fun r h' => r = .b false ∧ h' = h := by
  apply ret_of rfl
  show W fs none f37_c _ _ _
  unfold f37_c
  by_cases h1 : 2 ≤ n
  · have d1 : decide (n ≥ 2) = true := by simpa using h1
    by_cases h2 : n ≤ 10
    · have d2 : decide (n ≤ 10) = true := by simpa using h2
      have d3 : decide (n.tmod 2 = 0) = false := by simpa using tmod2 h1 h2 hn
      simp (disch := omega) only [f37_r0, f37_r1, f37_rs, w_reg, w_seq, w_ret, seqK_n, okG_b, asG_t, retK_r, x_nil, x_g, x_mv, x_as, x_pick, x_bin, kx, rvP_ok, okv_some, ev_t, ev_c, getV_some, putD_some, bin_eql, bin_leq, bin_geq, bin_rem, pick_b, oGet_s, readRs_nil, readRs_t, retV_1, frame_1, of0, of2, of10, Option.some.injEq, exists_eq_left', getK_set, Nat.reduceEqDiff, ↓reduceIte, d1, d2, d3, and_self]
    · have d2 : decide (n ≤ 10) = false := by simpa using h2
      simp (disch := omega) only [f37_r0, f37_r1, f37_rs, w_reg, w_seq, w_ret, seqK_n, okG_b, asG_t, retK_r, x_nil, x_g, x_mv, x_as, x_pick, x_bin, kx, rvP_ok, okv_some, ev_t, ev_c, getV_some, putD_some, bin_leq, bin_geq, pick_b, oGet_s, readRs_nil, readRs_t, retV_1, frame_1, of0, of2, of10, Option.some.injEq, exists_eq_left', getK_set, Nat.reduceEqDiff, ↓reduceIte, Bool.false_eq_true, d1, d2, and_self]
  · have d1 : decide (n ≥ 2) = false := by simpa using h1
    simp (disch := omega) only [f37_r0, f37_r1, f37_rs, w_reg, w_seq, w_ret, seqK_n, okG_b, asG_t, retK_r, x_nil, x_g, x_mv, x_as, x_pick, x_bin, kx, rvP_ok, okv_some, ev_t, ev_c, getV_some, putD_some, bin_geq, pick_b, oGet_s, readRs_nil, readRs_t, retV_1, frame_1, of0, of2, of10, Option.some.injEq, exists_eq_left', getK_set, Nat.reduceEqDiff, ↓reduceIte, Bool.false_eq_true, d1, and_self]
theorem f34_no {h : H} {n : Int} (h65 : fs.get (K.ofNat 65) = some f65) (hn : ¬ ok5 n) : Ret fs f34 [.i .i64 n] h fun r h' => r = .tup [.sn, .i .i64 1] ∧ h' = h := by
  apply ret_of rfl
  show W fs none f34_c _ _ _
  unfold f34_c
  simp (disch := omega) only [f34_r0, f34_r1, w_reg, w_seq, seqK_n, x_nil, x_mv, x_as, x_call, ev_t, ev_c, evs_nil, evs_cons, getV_some, putD_some, frame_1, of0, getK_set, Nat.reduceEqDiff, ↓reduceIte]
  refine (callP_0 (ef := f65) h65 rfl (f65_no hn)).mono ?_
  rintro r h1 ⟨rfl, rfl⟩
  simp (disch := omega) only [f34_r2, f34_rs, w_reg, w_seq, w_cond, w_ret, seqK_n, seqK_r, ckB_b, cbB_b, retK_r, x_nil, x_as, x_not, kx, rvP_ok, ev_t, ev_c, getV_some, putD_some, onB_b, oGet_s, readRs_nil, readRs_t, retV_2, of1, Option.some.injEq, exists_eq_left', getK_set, Nat.reduceEqDiff, ↓reduceIte, Bool.not_false, and_self]
theorem f35_no {h : H} {n : Int} (hn : ¬ ok5 n) : Ret fs f35 [.i .i64 n] h fun r h' => r = .tup [.sn, .i .i64 1] ∧ h' = h := by
  apply ret_of rfl
  show W fs none f35_c _ _ _
  unfold f35_c
  have d1 : decide (n ≠ 4) = true := by simp only [decide_eq_true_eq]; rintro rfl; exact hn (by simp [ok5])
  have d2 : decide (n ≠ 8) = true := by simp only [decide_eq_true_eq]; rintro rfl; exact hn (by simp [ok5])
  simp (disch := omega) only [f35_r0, f35_r1, f35_r2, f35_rs, w_reg, w_seq, w_cond, w_ret, seqK_n, seqK_r, ckB_b, cbB_b, okG_b, asG_t, retK_r, x_nil, x_g, x_mv, x_as, x_pick, x_bin, kx, rvP_ok, okv_some, ev_t, ev_c, getV_some, putD_some, bin_neq, pick_b, oGet_s, readRs_nil, readRs_t, retV_2, frame_1, of0, of1, of4, of8, Option.some.injEq, exists_eq_left', getK_set, Nat.reduceEqDiff, ↓reduceIte, d1, d2, and_self]
theorem f36_no {h : H} {n : Int} (hn : ¬ ok5 n) : Ret fs f36 [.i .i64 n] h fun r h' => r = .tup [.sn, .i .i64 1] ∧ h' = h := by
  apply ret_of rfl
  show W fs none f36_c _ _ _
  unfold f36_c
  have d1 : decide (n ≠ 4) = true := by simp only [decide_eq_true_eq]; rintro rfl; exact hn (by simp [ok5])
  have d2 : decide (n ≠ 6) = true := by simp only [decide_eq_true_eq]; rintro rfl; exact hn (by simp [ok5])
  have d3 : decide (n ≠ 8) = true := by simp only [decide_eq_true_eq]; rintro rfl; exact hn (by simp [ok5])
  simp (disch := omega) only [f36_r0, f36_r1, f36_r2, f36_rs, w_reg, w_seq, w_cond, w_ret, seqK_n, seqK_r, ckB_b, cbB_b, okG_b, asG_t, retK_r, x_nil, x_g, x_mv, x_as, x_pick, x_bin, kx, rvP_ok, okv_some, ev_t, ev_c, getV_some, putD_some, bin_neq, pick_b, oGet_s, readRs_nil, readRs_t, retV_2, frame_1, of0, of1, of4, of6, of8, Option.some.injEq, exists_eq_left', getK_set, Nat.reduceEqDiff, ↓reduceIte, d1, d2, d3, and_self]
noncomputable def teamsN (n : Int) : Int := 2 + 2 * ((IntKind.u64.wrap n).tmod 5)
theorem teamsN_ok (n : Int) : ok5 (teamsN n) := by
  unfold teamsN ok5
  have h0 : 0 ≤ IntKind.u64.wrap n := Int.emod_nonneg _ (by decide)
  obtain ⟨m, hm⟩ := Int.eq_ofNat_of_zero_le h0
  rw [hm]
  have : ((m : Int).tmod 5) = ((m % 5 : Nat) : Int) := rfl
  rw [this]
  omega
theorem f41_ret {h : H} {n : Int} : Ret fs f41 [.i .i64 n, .i .i64 10] h fun r h' => r = .i .i64 (teamsN n) ∧ h' = h := by
  apply ret_of rfl
  show W fs none f41_c _ _ _
  unfold f41_c
  have e1 : fw .u64 (fw .i64 (Int.tdiv 10 2)) = 5 := rfl
  have h5 := teamsN_ok n
  have hr : 0 ≤ (IntKind.u64.wrap n).tmod 5 ∧ (IntKind.u64.wrap n).tmod 5 < 5 := by unfold ok5 teamsN at h5; omega
  have e2 : fw .i64 ((IntKind.u64.wrap n).tmod 5) = (IntKind.u64.wrap n).tmod 5 := by rw [fw_eq]; exact wrap_in .i64 _ (by simp only [kmin]; omega) (by simp only [kmax]; omega)
  have e3 : fw .i64 (2 * ((IntKind.u64.wrap n).tmod 5)) = 2 * ((IntKind.u64.wrap n).tmod 5) := by rw [fw_eq]; exact wrap_in .i64 _ (by simp only [kmin]; omega) (by simp only [kmax]; omega)
  have e4 : fw .i64 (2 + 2 * ((IntKind.u64.wrap n).tmod 5)) = 2 + 2 * ((IntKind.u64.wrap n).tmod 5) := by rw [fw_eq]; exact wrap_in .i64 _ (by simp only [kmin]; omega) (by simp only [kmax]; omega)
  have e5 : fw .u64 n = IntKind.u64.wrap n := fw_eq _ _
  simp (disch := omega) only [f41_r0, f41_r1, f41_rs, w_reg, w_seq, w_ret, seqK_n, retK_r, x_nil, x_mv, x_as, x_bin, x_conv, kx, rvP_ok, okv_some, ev_t, ev_c, getV_some, putD_some, bin_add, bin_mul, bin_rem, bin_quo, onI_i, oGet_s, readRs_nil, readRs_t, retV_1, frame_2, of0, of2, Option.some.injEq, exists_eq_left', getK_set, Nat.reduceEqDiff, ↓reduceIte, e1, e2, e3, e4, e5, teamsN, and_self]
/-! ### The law -/
structure Calls5 (fs : T EF) : Prop where
  aw : ∀ h P, CallP fs (.fn (K.ofNat 22) []) [] h P = P (.b true) h
  c34 : fs.get (K.ofNat 34) = some f34
  c35 : fs.get (K.ofNat 35) = some f35
  c36 : fs.get (K.ofNat 36) = some f36
  c37 : fs.get (K.ofNat 37) = some f37
  c41 : fs.get (K.ofNat 41) = some f41
  c65 : fs.get (K.ofNat 65) = some f65
  /-- What a run in the kernel shows: from a number of teams on, the loop comes to its end. -/
  run : ∀ n, ok5 n → ∀ r : Int, r = 0 ∨ r = 1 → ∀ fr : Fr, ∃ N fr' h', eval fs N none (.loop f5_l0) (((fr.set (K.ofNat 0) (.i .i64 n)).set (K.ofNat 2) (.b false)).set (K.ofNat 3) (.i .i64 r)) ⟨.e, .nil⟩ = .ok (.exit 0) fr' h'
theorem RunsP_loop1 {c : EC} {Q : Ex → Fr → H → Prop} {R : Fr → H → Prop} {fr : Fr} {h : H} (hw : W fs ro c (fun e fr h => e = .normal ∧ R fr h) fr h) (hn : ∀ fr h, R fr h → RunsP fs ro (.loop c) Q fr h) : RunsP fs ro (.loop c) Q fr h := by
  obtain ⟨e, fr1, h1, r1, rfl, q1⟩ := W_ok _ _ _ _ hw
  obtain ⟨e2, fr2, h2, r2, q2⟩ := hn _ _ q1
  exact ⟨_, _, _, .loop r1 r2, q2⟩
theorem loop_run {Q : Ex → Fr → H → Prop} (k : Calls5 fs) {n r : Int} (hn : ok5 n) (hr : r = 0 ∨ r = 1) (hq : ∀ fr h, Q (.exit 0) fr h) {fr : Fr} (hg : fr.get (K.ofNat 0) = some (.i .i64 n) ∧ fr.get (K.ofNat 2) = some (.b false) ∧ fr.get (K.ofNat 3) = some (.i .i64 r)) : RunsP fs none (.loop f5_l0) Q fr ⟨.e, .nil⟩ := by
  obtain ⟨g0, g2, g3⟩ := hg
  obtain ⟨N, fr', h', e⟩ := k.run n hn r hr fr
  rw [T.set_same g0, T.set_same g2, T.set_same g3] at e
  exact ⟨_, _, _, ⟨N, e⟩, hq _ _⟩
theorem f5_ret {n : Int} (k : Calls5 fs) : Ret fs f5 [.i .i64 n] ⟨.e, .nil⟩ fun r _ => r = .b true := by
  apply ret_of rfl
  show W fs none f5_c _ _ _
  unfold f5_c
  have fin : ∀ fr h, W fs none (.seq (.reg f5_r23) .ret) (retK f5 fun r _ => r = .b true) fr h := by
    intro fr h
    have aw := k.aw
    simp (disch := omega) only [f5_r23, f5_rs, w_reg, w_seq, w_ret, seqK_n, retK_r, x_nil, x_as, x_call, kx, ev_t, ev_c, evs_nil, getV_some, putD_some, oGet_s, readRs_nil, readRs_t, retV_1, Option.some.injEq, exists_eq_left', getK_set, ↓reduceIte, aw]
  simp (disch := omega) only [f5_r0, f5_r1, w_reg, w_seq, w_block, seqK_n, x_nil, x_as, ev_c, putD_some, frame_1, of0]
  by_cases hn : ok5 n
  · refine loop_run k hn (.inl rfl) (fun fr h => ?_) (by simp (disch := omega) only [getK_set, Nat.reduceEqDiff, ↓reduceIte, and_self])
    simp (disch := omega) only [w_reg, w_seq, seqK_n, atK_e, ↓reduceIte]
    exact fin fr h
  · -- the first time through, with errors alone
    show RunsP fs none (.loop f5_l0) _ _ _
    have first : ∀ (Q : Ex → Fr → H → Prop) (fr : Fr), fr.get (K.ofNat 0) = some (.i .i64 n) ∧ fr.get (K.ofNat 2) = some (.b false) ∧ fr.get (K.ofNat 3) = some (.i .i64 0) → (∀ fr, fr.get (K.ofNat 0) = some (.i .i64 (teamsN n)) ∧ fr.get (K.ofNat 2) = some (.b false) ∧ fr.get (K.ofNat 3) = some (.i .i64 1) → Q .normal fr ⟨.e, .nil⟩) → W fs none f5_l0 Q fr ⟨.e, .nil⟩ := by
      rintro Q fr ⟨g0, g2, g3⟩ hq
      unfold f5_l0
      simp (disch := omega) only [f5_r2, f5_r3, w_skip, w_reg, w_seq, w_cond, w_block, w_exit, seqK_n, seqK_e, ckB_b, cbB_b, true_and, x_nil, x_mv, x_bin, x_call, kx, rvP_ok, okv_some, ev_t, ev_c, evs_nil, evs_cons, getV_some, putD_some, bin_lss, of2, getK_set, Nat.reduceEqDiff, ↓reduceIte, decide_eq_true_eq, g0, g3]
      refine (callP_0 (ef := f34) k.c34 rfl (f34_no k.c65 hn)).mono ?_
      rintro r h1 ⟨rfl, rfl⟩
      simp (disch := omega) only [f5_r4, w_reg, w_seq, seqK_n, x_nil, x_mv, x_as, x_ext, x_call, kx, rvP_ok, okv_some, ev_t, ev_c, evs_nil, evs_cons, getV_some, putD_some, onTup_t, nth0, nth1, getK_set, Nat.reduceEqDiff, ↓reduceIte, g0]
      refine (callP_0 (ef := f35) k.c35 rfl (f35_no hn)).mono ?_
      rintro r h1 ⟨rfl, rfl⟩
      simp (disch := omega) only [f5_r5, w_reg, w_seq, seqK_n, x_nil, x_mv, x_as, x_ext, x_call, kx, rvP_ok, okv_some, ev_t, ev_c, evs_nil, evs_cons, getV_some, putD_some, onTup_t, nth0, nth1, getK_set, Nat.reduceEqDiff, ↓reduceIte, g0]
      refine (callP_0 (ef := f36) k.c36 rfl (f36_no hn)).mono ?_
      rintro r h1 ⟨rfl, rfl⟩
      simp (disch := omega) only [f5_r6, w_reg, w_seq, seqK_n, x_nil, x_mv, x_as, x_ext, x_call, kx, rvP_ok, okv_some, ev_t, ev_c, evs_nil, evs_cons, getV_some, putD_some, onTup_t, nth0, nth1, getK_set, Nat.reduceEqDiff, ↓reduceIte, g0]
      refine (callP_0 (ef := f37) k.c37 rfl (f37_no hn)).mono ?_
      rintro r h1 ⟨rfl, rfl⟩
      have d1 : decide (n ≠ 4) = true := by simp only [decide_eq_true_eq]; rintro rfl; exact hn (by simp [ok5])
      have d2 : decide (n ≠ 6) = true := by simp only [decide_eq_true_eq]; rintro rfl; exact hn (by simp [ok5])
      have d3 : decide (n ≠ 8) = true := by simp only [decide_eq_true_eq]; rintro rfl; exact hn (by simp [ok5])
      have c1 : decide ((1 : Int) ≠ 1) = false := rfl
      have c0 : decide ((0 : Int) ≠ 0) = false := rfl
      simp (disch := omega) only [f5_r7, f5_r11, f5_r12, f5_r16, f5_r17, f5_r21, w_skip, w_reg, w_seq, w_cond, seqK_n, ckB_b, cbB_b, okG_b, asG_t, asG_f, true_and, x_nil, x_g, x_mv, x_pick, x_bin, x_not, x_call, x_len, kx, rvP_ok, okv_some, ev_t, ev_c, evs_nil, evs_cons, getV_some, putD_some, bin_neq, pick_b, onB_b, len_sn, of0, of1, of4, of6, of8, of10, getK_set, Nat.reduceEqDiff, ↓reduceIte, Bool.false_eq_true, Bool.not_false, g0, d1, d2, d3, c1, c0]
      refine (callP_0 (ef := f41) k.c41 rfl f41_ret).mono ?_
      rintro r h1 ⟨rfl, rfl⟩
      have c2 : fw .i64 (0 + 1) = 1 := rfl
      simp (disch := omega) only [f5_r22, w_reg, seqK_n, atK_n, x_nil, x_mv, x_as, x_bin, kx, rvP_ok, okv_some, ev_t, ev_c, getV_some, putD_some, bin_add, of1, getK_set, Nat.reduceEqDiff, ↓reduceIte, g3, c2]
      apply hq
      simp (disch := omega) only [getK_set, Nat.reduceEqDiff, ↓reduceIte, g2, and_self]
    refine RunsP_loop1 (R := fun fr h => h = ⟨.e, .nil⟩ ∧ fr.get (K.ofNat 0) = some (.i .i64 (teamsN n)) ∧ fr.get (K.ofNat 2) = some (.b false) ∧ fr.get (K.ofNat 3) = some (.i .i64 1)) ?_ ?_
    · exact first _ _ (by simp (disch := omega) only [getK_set, Nat.reduceEqDiff, ↓reduceIte, and_self]) (fun fr hg => ⟨rfl, rfl, hg⟩)
    · rintro fr h ⟨rfl, hg⟩
      refine loop_run k (teamsN_ok n) (.inr rfl) (fun fr h => ?_) hg
      simp (disch := omega) only [w_reg, w_seq, seqK_n, atK_e, ↓reduceIte]
      exact fin fr h
end
end Go.Ev
