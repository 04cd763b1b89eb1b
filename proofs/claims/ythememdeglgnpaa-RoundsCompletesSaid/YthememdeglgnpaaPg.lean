/-
  Rounds: all rounds of some teams, one after another (pairings).
  Rounds: a loop over all rounds of some teams.
  Rounds: the search for the rounds that are left (plain); the first game that is missing.
  Rounds: whether a beginning can be completed, of the reference (R.Can).
  Rounds: the rounds that are left, searched (completed$1).
-/
import Derived.Test.YthememdeglgnpaaPf
import Derived.Test.YthememdeglgnpaaPe
namespace Go.Ev
open Go Go.RowKit
noncomputable def f102_r0 : List EOper := [⟨(some (K.ofNat 6)), none, .as (.c (.b false))⟩]
noncomputable def f102_r1 : List Stage := [⟨[⟨(some (K.ofNat 9)), none, .mv (.t (K.ofNat 0))⟩, ⟨(some (K.ofNat 11)), none, .ld (.t (K.ofNat 1))⟩], [], (some ⟨(some (K.ofNat 10)), none, .call (.c (.fn (K.ofNat 74) [])) [(.t (K.ofNat 9))]⟩), []⟩, ⟨[⟨(some (K.ofNat 12)), none, .bin .eql (.t (K.ofNat 10)) (.t (K.ofNat 11))⟩], [⟨(some (K.ofNat 11)), none, .ld (.t (K.ofNat 1))⟩], none, []⟩]
noncomputable def f102_r2 : List Stage := [⟨[⟨(some (K.ofNat 13)), none, .ld (.t (K.ofNat 2))⟩, ⟨(some (K.ofNat 14)), none, .ld (.t (K.ofNat 3))⟩], [], (some ⟨(some (K.ofNat 15)), none, .call (.c (.fn (K.ofNat 94) [])) [(.t (K.ofNat 14))]⟩), []⟩, ⟨[], [⟨(some (K.ofNat 13)), none, .ld (.t (K.ofNat 2))⟩], (some ⟨(some (K.ofNat 16)), none, .call (.t (K.ofNat 13)) [(.t (K.ofNat 15))]⟩), []⟩, ⟨[], [], (some ⟨(some (K.ofNat 6)), none, .as (.t (K.ofNat 16))⟩), []⟩, ⟨[], [], none, []⟩]
noncomputable def f102_r3 : List EOper := [⟨(some (K.ofNat 7)), none, .as (.c (.i .i64 (.ofNat 0)))⟩]
noncomputable def f102_r4 : List EOper := [⟨(some (K.ofNat 17)), none, .mv (.t (K.ofNat 0))⟩, ⟨(some (K.ofNat 18)), none, .mv (.t (K.ofNat 7))⟩, ⟨(some (K.ofNat 19)), none, .call (.c (.fn (K.ofNat 76) [])) [(.t (K.ofNat 17)), (.t (K.ofNat 18))]⟩]
noncomputable def f102_r5 : List EOper := [⟨(some (K.ofNat 20)), none, .mv (.t (K.ofNat 7))⟩, ⟨(some (K.ofNat 21)), none, .bin .add (.t (K.ofNat 20)) (.c (.i .i64 (.ofNat 1)))⟩, ⟨(some (K.ofNat 7)), none, .as (.t (K.ofNat 21))⟩]
noncomputable def f102_l0 : EC := (.seq (.seq (.reg f102_r4) (.cond (.t (K.ofNat 19)) .skip (.exit 0))) (.block 1 (.reg f102_r5)))
noncomputable def f102_r6 : List EOper := [⟨(some (K.ofNat 22)), none, .mv (.t (K.ofNat 7))⟩, ⟨(some (K.ofNat 23)), none, .bin .add (.t (K.ofNat 22)) (.c (.i .i64 (.ofNat 1)))⟩, ⟨(some (K.ofNat 8)), none, .as (.t (K.ofNat 23))⟩]
noncomputable def f102_r7 : List EOper := [⟨(some (K.ofNat 24)), none, .mv (.t (K.ofNat 8))⟩, ⟨(some (K.ofNat 25)), none, .ld (.t (K.ofNat 1))⟩, ⟨(some (K.ofNat 26)), none, .bin .lss (.t (K.ofNat 24)) (.t (K.ofNat 25))⟩]
noncomputable def f102_r8 : List EOper := [⟨(some (K.ofNat 29)), none, .mv (.t (K.ofNat 0))⟩, ⟨(some (K.ofNat 30)), none, .mv (.t (K.ofNat 8))⟩, ⟨(some (K.ofNat 31)), none, .call (.c (.fn (K.ofNat 76) [])) [(.t (K.ofNat 29)), (.t (K.ofNat 30))]⟩]
noncomputable def f102_r9 : List EOper := [⟨(some (K.ofNat 32)), none, .ld (.t (K.ofNat 3))⟩, ⟨(some (K.ofNat 33)), none, .mv (.t (K.ofNat 7))⟩, ⟨(some (K.ofNat 34)), none, .mv (.t (K.ofNat 8))⟩, ⟨(some (K.ofNat 35)), none, .build [(.i .i64 (.ofNat 0)), (.i .i64 (.ofNat 0))] [(0, 1, (.t (K.ofNat 33))), (1, 1, (.t (K.ofNat 34)))]⟩, ⟨(some (K.ofNat 36)), none, .bslice 1 2 [(.i .i64 (.ofNat 0)), (.i .i64 (.ofNat 0))] [(0, 2, (.t (K.ofNat 35)))]⟩, ⟨(some (K.ofNat 37)), none, .app 2 (.t (K.ofNat 32)) (.t (K.ofNat 36))⟩, ⟨none, none, .st 1 (.t (K.ofNat 3)) (.t (K.ofNat 37))⟩]
noncomputable def f102_r10 : List Stage := [⟨[⟨(some (K.ofNat 38)), none, .ld (.t (K.ofNat 4))⟩, ⟨(some (K.ofNat 39)), none, .mv (.t (K.ofNat 0))⟩, ⟨(some (K.ofNat 40)), none, .mv (.t (K.ofNat 7))⟩, ⟨(some (K.ofNat 42)), none, .mv (.t (K.ofNat 8))⟩], [], (some ⟨(some (K.ofNat 41)), none, .call (.c (.fn (K.ofNat 83) [])) [(.t (K.ofNat 39)), (.t (K.ofNat 40))]⟩), []⟩, ⟨[], [⟨(some (K.ofNat 38)), none, .ld (.t (K.ofNat 4))⟩, ⟨(some (K.ofNat 42)), none, .mv (.t (K.ofNat 8))⟩], (some ⟨(some (K.ofNat 43)), none, .call (.c (.fn (K.ofNat 83) [])) [(.t (K.ofNat 41)), (.t (K.ofNat 42))]⟩), []⟩, ⟨[], [⟨(some (K.ofNat 38)), none, .ld (.t (K.ofNat 4))⟩], (some ⟨(some (K.ofNat 44)), none, .call (.t (K.ofNat 38)) [(.t (K.ofNat 43))]⟩), []⟩, ⟨[⟨(some (K.ofNat 45)), none, .not (.t (K.ofNat 44))⟩], [], none, []⟩]
noncomputable def f102_r11 : List EOper := [⟨(some (K.ofNat 6)), none, .as (.c (.b false))⟩]
noncomputable def f102_r12 : List EOper := [⟨(some (K.ofNat 46)), none, .ld (.t (K.ofNat 3))⟩, ⟨(some (K.ofNat 47)), none, .ld (.t (K.ofNat 3))⟩, ⟨(some (K.ofNat 48)), none, .len (.t (K.ofNat 47))⟩, ⟨(some (K.ofNat 49)), none, .bin .sub (.t (K.ofNat 48)) (.c (.i .i64 (.ofNat 1)))⟩, ⟨(some (K.ofNat 50)), none, .slice 2 (.t (K.ofNat 46)) none (some (.t (K.ofNat 49))) none⟩, ⟨none, none, .st 1 (.t (K.ofNat 3)) (.t (K.ofNat 50))⟩]
noncomputable def f102_r13 : List EOper := [⟨(some (K.ofNat 27)), none, .mv (.t (K.ofNat 8))⟩, ⟨(some (K.ofNat 28)), none, .bin .add (.t (K.ofNat 27)) (.c (.i .i64 (.ofNat 1)))⟩, ⟨(some (K.ofNat 8)), none, .as (.t (K.ofNat 28))⟩]
noncomputable def f102_l1 : EC := (.seq (.seq (.reg f102_r7) (.cond (.t (K.ofNat 26)) .skip (.exit 2))) (.seq (.block 3 (.seq (.seq (.reg f102_r8) (.cond (.t (K.ofNat 31)) (.exit 3) .skip)) (.seq (.reg f102_r9) (.seq (.seq (.draw f102_r10) (.cond (.t (K.ofNat 45)) (.seq (.reg f102_r11) .ret) .skip)) (.reg f102_r12))))) (.reg f102_r13)))
noncomputable def f102_r14 : List EOper := [⟨(some (K.ofNat 6)), none, .as (.c (.b true))⟩]
noncomputable def f102_c : EC := (.seq (.reg f102_r0) (.seq (.seq (.draw f102_r1) (.cond (.t (K.ofNat 12)) (.seq (.draw f102_r2) .ret) .skip)) (.seq (.reg f102_r3) (.seq (.block 0 (.loop f102_l0)) (.seq (.seq (.reg f102_r6) (.block 2 (.loop f102_l1))) (.seq (.reg f102_r14) .ret))))))
noncomputable def f102 : EF := ⟨51, [.tmp (K.ofNat 6)], f102_c, none⟩
theorem f102_rs : f102.rs = [.tmp (K.ofNat 6)] := of_eq_true (eq_self _)
noncomputable def f101_r0 : List EOper := [⟨(some (K.ofNat 2)), none, .box 1 (.t (K.ofNat 0))⟩]
noncomputable def f101_r1 : List EOper := [⟨(some (K.ofNat 3)), none, .alloc 1 [.sn]⟩]
noncomputable def f101_r2 : List EOper := [⟨(some (K.ofNat 4)), none, .alloc 1 [.fnil]⟩]
noncomputable def f101_r3 : List EOper := [⟨(some (K.ofNat 5)), none, .mkfn (K.ofNat 102) [(.t (K.ofNat 1)), (.t (K.ofNat 2)), (.t (K.ofNat 3)), (.t (K.ofNat 4))]⟩, ⟨none, none, .st 1 (.t (K.ofNat 4)) (.t (K.ofNat 5))⟩]
noncomputable def f101_r4 : List EOper := [⟨(some (K.ofNat 6)), none, .ld (.t (K.ofNat 4))⟩, ⟨(some (K.ofNat 7)), none, .call (.t (K.ofNat 6)) [(.c (.i .u16 (.ofNat 0)))]⟩]
noncomputable def f101_c : EC := (.seq (.reg f101_r0) (.seq (.reg f101_r1) (.seq (.reg f101_r2) (.seq (.reg f101_r3) (.reg f101_r4)))))
noncomputable def f101 : EF := ⟨8, [], f101_c, none⟩
theorem f101_rs : f101.rs = [] := of_eq_true (eq_self _)
noncomputable def f91_r0 : List EOper := [⟨(some (K.ofNat 1)), none, .box 1 (.t (K.ofNat 0))⟩, ⟨(some (K.ofNat 2)), none, .as (.c .fnil)⟩]
noncomputable def f91_r1 : List EOper := [⟨(some (K.ofNat 3)), none, .mkfn (K.ofNat 101) [(.t (K.ofNat 1))]⟩, ⟨(some (K.ofNat 2)), none, .as (.t (K.ofNat 3))⟩]
noncomputable def f91_c : EC := (.seq (.reg f91_r0) (.seq (.reg f91_r1) .ret))
noncomputable def f91 : EF := ⟨4, [.tmp (K.ofNat 2)], f91_c, none⟩
theorem f91_rs : f91.rs = [.tmp (K.ofNat 2)] := of_eq_true (eq_self _)
/-! ### The rounds, in order -/
def hmF (m : Nat) : Nat → Nat → Nat
  | 0, t => t
  | k + 1, t => if m.testBit t then hmF m k (t + 1) else t
/-- The first team that is not playing. -/
def hm (n m : Nat) : Nat := hmF m n 0
theorem hm_eq {m : Nat} : ∀ {k s t : Nat}, s ≤ t → t ≤ s + k → (∀ x, s ≤ x → x < t → m.testBit x = true) → m.testBit t = false → hmF m k s = t
  | 0, s, t, h1, h2, _, _ => by show s = t; omega
  | k + 1, s, t, h1, h2, h3, h4 => by
    show (if m.testBit s then hmF m k (s + 1) else s) = t
    by_cases e : s = t
    · subst e; rw [if_neg (by rw [h4]; simp)]
    · rw [if_pos (h3 s (Nat.le_refl _) (by omega))]
      exact hm_eq (by omega) (by omega) (fun x hx => h3 x (by omega)) h4
def prG (n : Nat) (rec_ : List (Int × Int) → Nat → List (List (Int × Int))) (L : List (Int × Int)) (m a : Nat) : List (List (Int × Int)) := if m.testBit a = true ∨ a = hm n m then [] else rec_ (L ++ [((hm n m : Int), (a : Int))]) (m ||| 2 ^ hm n m ||| 2 ^ a)
def prE (n : Nat) : Nat → List (Int × Int) → Nat → List (List (Int × Int))
  | 0, L, _ => [L]
  | f + 1, L, m => (List.range n).flatMap (prG n (prE n f) L m)
def prU (n f : Nat) (L : List (Int × Int)) (m x : Nat) : List (List (Int × Int)) := (List.range x).flatMap (prG n (prE n f) L m)
theorem prU_succ {n f m x : Nat} {L : List (Int × Int)} : prU n f L m (x + 1) = prU n f L m x ++ prG n (prE n f) L m x := by
  unfold prU; rw [List.range_succ, List.flatMap_append]; simp
theorem prU_split {n f m x : Nat} {L : List (Int × Int)} : ∀ k : Nat, x < k → ∃ R, prU n f L m k = prU n f L m x ++ (prG n (prE n f) L m x ++ R)
  | 0, h => by omega
  | k + 1, h => by
    rw [prU_succ]
    by_cases e : x = k
    · subst e; exact ⟨[], by simp⟩
    · obtain ⟨R, hR⟩ := prU_split (n := n) (f := f) (L := L) (m := m) (x := x) k (by omega)
      exact ⟨R ++ prG n (prE n f) L m k, by rw [hR]; simp⟩
/-- The games so far, and the teams that are playing. -/
structure St (n : Nat) (L : List (Int × Int)) (m f : Nat) : Prop where
  msk : Msk m (plL L)
  nd : (plL L).Nodup
  rg : ∀ x ∈ plL L, 0 ≤ x ∧ x < (n : Int)
  sum : 2 * (L.length + f) = n
  n10 : n ≤ 10
theorem pl_len : ∀ {L : List (Int × Int)}, (plL L).length = 2 * L.length
  | [] => rfl
  | e :: L => by show (e.1 :: e.2 :: plL L).length = _; simp only [List.length_cons, pl_len]; omega
theorem pl_snoc {L : List (Int × Int)} {a b : Int} : plL (L ++ [(a, b)]) = plL L ++ [a] ++ [b] := by unfold plL; simp
section
variable {n m f : Nat} {L : List (Int × Int)}
theorem St.cnt (s : St n L m f) : pcN m = 2 * L.length := by
  have := s.n10
  rw [msk_len s.msk s.nd fun z hz => by have := s.rg z hz; omega, pl_len]
theorem St.free (s : St n L m (f + 1)) : ∃ t, t < n ∧ m.testBit t = false := by
  apply Classical.byContradiction
  intro hno
  have hn := s.n10
  have h1 := nodup_le (l := (List.range n).map fun (k : Nat) => (k : Int)) (m := plL L) (by
    rw [List.nodup_iff_pairwise_ne, List.pairwise_map]
    exact (List.nodup_iff_pairwise_ne.1 List.nodup_range).imp fun h => by omega) fun z hz => by
    obtain ⟨k, hk, rfl⟩ := List.mem_map.1 hz
    have hk : k < n := by simpa using hk
    have hb : m.testBit k = true := by
      cases hb : m.testBit k with
      | true => rfl
      | false => exact absurd ⟨k, hk, hb⟩ hno
    rw [s.msk.2 k (by omega)] at hb
    exact of_decide_eq_true hb
  have h2 := s.sum
  rw [pl_len] at h1
  simp at h1
  omega
theorem St.off (s : St n L m f) {t : Nat} (ht : t < n) (h : m.testBit t = false) : (t : Int) ∉ plL L := by
  have := s.n10
  rw [s.msk.2 t (by omega)] at h
  exact of_decide_eq_false h
theorem St.on (s : St n L m (f + 1)) {x y : Nat} (hx : x < n) (hy : y < n) (h1 : m.testBit x = false) (h2 : m.testBit y = false) (hne : x ≠ y) : St n (L ++ [((x : Int), (y : Int))]) (m ||| 2 ^ x ||| 2 ^ y) f := by
  have hn := s.n10
  have o1 := s.off hx h1
  have o2 := s.off hy h2
  have o3 : (y : Int) ∉ plL L ++ [(x : Int)] := fun h => by
    rcases List.mem_append.1 h with h | h
    · exact o2 h
    · have : (y : Int) = (x : Int) := by simpa using h
      omega
  refine ⟨?_, ?_, fun z hz => ?_, by have := s.sum; simp; omega, hn⟩
  · rw [pl_snoc]; exact (s.msk.snoc (by omega)).snoc (by omega)
  · rw [pl_snoc, List.nodup_append]
    refine ⟨?_, by simp, fun a ha b hb e => ?_⟩
    · rw [List.nodup_append]
      refine ⟨s.nd, by simp, fun a ha b hb e => ?_⟩
      have : b = (x : Int) := by simpa using hb
      exact o1 (by rw [← this, ← e]; exact ha)
    · have : b = (y : Int) := by simpa using hb
      exact o3 (by rw [← this, ← e]; exact ha)
  · rw [pl_snoc] at hz
    rcases List.mem_append.1 hz with hz | hz
    · rcases List.mem_append.1 hz with hz | hz
      · exact s.rg z hz
      · have : z = (x : Int) := by simpa using hz
        omega
    · have : z = (y : Int) := by simpa using hz
      omega
end
/-! ### The recursion's memory -/
def Pr (idn idY idL idG : K) (u : V) : K → Prop := fun x => x = idn ∨ x = idY ∨ x = idL ∨ x = idG ∨ ¬ NotIn x u
structure PS (idn idY idL idG id : K) (n : Nat) (fv : V) (h : H) (u : V) (L : List (Int × Int)) : Prop where
  hc : HC h
  eN : h.get idn = .cells 1 [.i .i64 (n : Int)]
  eY : h.get idY = .cells 1 [.yl id]
  eG : h.get idG = .cells 1 [fv]
  eL : h.get idL = .cells 1 [u]
  sk : Sk 2 qE h u L
  nN : NotIn idn u
  nY : NotIn idY u
  nL : NotIn idL u
  nG : NotIn idG u
  lN : idL ≠ idn
  lY : idL ≠ idY
  lG : idL ≠ idG
section
variable {idn idY idL idG id : K} {n : Nat} {fv : V} {h h' : H} {u u' : V} {L M : List (Int × Int)}
theorem PS.lt (g : PS idn idY idL idG id n fv h u L) {x : K} (hx : Pr idn idY idL idG u x) : x.nat < h.nx.nat := by
  rcases hx with rfl | rfl | rfl | rfl | hx
  · exact g.hc.cells g.eN
  · exact g.hc.cells g.eY
  · exact g.hc.cells g.eL
  · exact g.hc.cells g.eG
  · apply Classical.byContradiction
    intro hno
    exact hx fun off n sz e => hno (g.sk.lt g.hc _ _ _ _ e)
theorem PS.keep (g : PS idn idY idL idG id n fv h u L) (hc : HC h') (hk : ∀ x, Pr idn idY idL idG u x → h'.get x = h.get x) : PS idn idY idL idG id n fv h' u L :=
  ⟨hc, (hk _ (.inl rfl)).trans g.eN, (hk _ (.inr (.inl rfl))).trans g.eY, (hk _ (.inr (.inr (.inr (.inl rfl))))).trans g.eG, (hk _ (.inr (.inr (.inl rfl)))).trans g.eL, g.sk.same fun y off n sz e => hk y (.inr (.inr (.inr (.inr fun hn => hn _ _ _ e)))), g.nN, g.nY, g.nL, g.nG, g.lN, g.lY, g.lG⟩
theorem PS.grow (g : PS idn idY idL idG id n fv h u L) (hg : Grow h.nx.nat h h') : PS idn idY idL idG id n fv h' u L := g.keep (hg.hc g.hc) fun x hx => hg.old x (g.lt hx)
theorem PS.write (g : PS idn idY idL idG id n fv h u L) (hs : Sk 2 qE h u' M) (n0 : NotIn idn u') (n1 : NotIn idY u') (n2 : NotIn idL u') (n3 : NotIn idG u') : PS idn idY idL idG id n fv (h.put idL (.cells 1 [u'])) u' M := by
  have hl := g.hc.cells g.eL
  refine ⟨(Grow.put (b := 0) (Nat.zero_le _) hl _).hc g.hc, ?_, ?_, ?_, get_put_same, hs.put n2 _, n0, n1, n2, n3, g.lN, g.lY, g.lG⟩
  · rw [get_put_other g.lN.symm]; exact g.eN
  · rw [get_put_other g.lY.symm]; exact g.eY
  · rw [get_put_other g.lG.symm]; exact g.eG
end
/-- What the loop's body looks at stays when the iterator goes on. -/
def Stab (I : Nat → (K → Prop) → H → Prop) : Prop := ∀ i (S S' : K → Prop) h h', I i S h → h.nx.nat ≤ h'.nx.nat → HC h' → (∀ x : K, x.nat < h.nx.nat → ¬ S x → h'.get x = h.get x) → (∀ x : K, S' x → S x ∨ h.nx.nat ≤ x.nat) → I i S' h'
/-- The body, with the next round of teams. -/
def RoundP (fs : T EF) (id : K) (I : Nat → (K → Prop) → H → Prop) (D : H → Prop) (Y : List (List (Int × Int))) : Prop :=
  ∀ i (S : K → Prop) h0 h v (hi : i < Y.length), I i S h0 → HC h0 → Grow h0.nx.nat h0 h → (∀ x, S x → x.nat < h0.nx.nat) → Sk 2 qE h v Y[i] → Own h0.nx.nat v → ∃ r h', Round fs id v h r h' ∧ h.nx.nat ≤ h'.nx.nat ∧ HC h' ∧ (∀ x, S x → h'.get x = h.get x) ∧ (r = true → I (i + 1) S h') ∧ (r = false → D h')
structure CallsPg (fs : T EF) : Prop extends CallsVe fs where
  p74 : fs.get (K.ofNat 74) = some f74
  p76 : fs.get (K.ofNat 76) = some f76
  p83 : fs.get (K.ofNat 83) = some f83
  p92 : fs.get (K.ofNat 92) = some f92
  p102 : fs.get (K.ofNat 102) = some f102
def prgV (idn idY idL idG : K) : V := .fn (K.ofNat 102) [.p idn 0, .p idY 0, .p idL 0, .p idG 0]
section
variable {fs : T EF}
def f102_A (h : H) (n m : Nat) (idn idY idL idG : K) (t : Nat) (fr : Fr) (h1 : H) : Prop := t < n ∧ h1 = h ∧ (∀ x, x < t → m.testBit x = true) ∧ fr.get (K.ofNat 0) = some (.i .u16 (m : Int)) ∧ fr.get (K.ofNat 1) = some (.p idn 0) ∧ fr.get (K.ofNat 2) = some (.p idY 0) ∧ fr.get (K.ofNat 3) = some (.p idL 0) ∧ fr.get (K.ofNat 4) = some (.p idG 0) ∧ fr.get (K.ofNat 7) = some (.i .i64 (t : Int))
def f102_O (h : H) (n m f : Nat) (I : Nat → (K → Prop) → H → Prop) (idn idY idL idG id : K) (L : List (Int × Int)) (p0 : Nat) (x : Nat) (fr : Fr) (h1 : H) : Prop :=
  hm n m < x ∧ x ≤ n ∧ h.nx.nat ≤ h1.nx.nat ∧ ∃ u1, PS idn idY idL idG id n (prgV idn idY idL idG) h1 u1 L ∧ I (p0 + (prU n f L m x).length) (Pr idn idY idL idG u1) h1 ∧
    fr.get (K.ofNat 0) = some (.i .u16 (m : Int)) ∧ fr.get (K.ofNat 1) = some (.p idn 0) ∧ fr.get (K.ofNat 2) = some (.p idY 0) ∧ fr.get (K.ofNat 3) = some (.p idL 0) ∧ fr.get (K.ofNat 4) = some (.p idG 0) ∧ fr.get (K.ofNat 7) = some (.i .i64 (hm n m : Int)) ∧ fr.get (K.ofNat 8) = some (.i .i64 (x : Int))
theorem pair_call {n : Nat} {idn idY idL idG id : K} {I : Nat → (K → Prop) → H → Prop} {D : H → Prop} {Y : List (List (Int × Int))} (kk : CallsPg fs) (hn2 : 2 ≤ n) (hI : Stab I) (round : RoundP fs id I D Y) :
    ∀ (f : Nat) (L : List (Int × Int)) (m : Nat) (pre post : List (List (Int × Int))) (h : H) (u : V), St n L m f → Y = pre ++ (prE n f L m ++ post) → PS idn idY idL idG id n (prgV idn idY idL idG) h u L → I pre.length (Pr idn idY idL idG u) h →
      CallP fs (prgV idn idY idL idG) [.i .u16 (m : Int)] h fun r h' => ∃ t, r = .b t ∧ (t = true → ∃ u', PS idn idY idL idG id n (prgV idn idY idL idG) h' u' L ∧ I (pre.length + (prE n f L m).length) (Pr idn idY idL idG u') h' ∧ h.nx.nat ≤ h'.nx.nat) ∧ (t = false → D h') := by
  intro f
  induction f with
  | zero =>
    intro L m pre post h u s hY g hi0
    refine callP_of (ef := f102) kk.p102 rfl ?_
    show Ret fs f102 [.i .u16 (m : Int), .p idn 0, .p idY 0, .p idL 0, .p idG 0] h _
    apply ret_of rfl
    show W fs none f102_c _ _ _
    unfold f102_c
    have hmx := s.msk.1
    have hsum := s.sum
    have hn10 := s.n10
    have ln : loadV h (.p idn 0) one? = .ok (.i .i64 (n : Int)) h := load_p g.eN rfl
    have d1 : decide ((pcN m : Int) = (n : Int)) = true := decide_eq_true (by rw [s.cnt]; omega)
    simp (disch := omega) only [f102_r0, f102_r1, w_reg, w_draw, w_seq, seqK_n, true_and, x_nil, x_as, x_call, kg, xg_nil, xg_mv, xg_ld, xd_cons, fresh_nil, stK_s, stay_nil, rvP_ok, ev_t, ev_c, evs_nil, evs_cons, getV_some, putD_some, getK_set, Nat.reduceEqDiff, ↓reduceIte, frame_5, ln]
    refine (callP_0 (ef := f74) kk.p74 rfl (f74_ret kk.p92 hmx)).mono ?_
    rintro r h1 ⟨rfl, e1⟩
    rw [e1]
    clear e1 h1
    have lY : loadV h (.p idY 0) one? = .ok (.yl id) h := load_p g.eY rfl
    have lL : loadV h (.p idL 0) one? = .ok u h := load_p g.eL rfl
    simp (disch := omega) only [f102_r2, w_draw, w_seq, w_cond, seqK_n, ckB_b, cbB_b, true_and, x_nil, x_call, kx, kg, xg_nil, xg_ld, xg_bin, xd_cons, fresh_nil, stK_n, stK_s, stay_nil, stay_cons, again_ok, beq_i, stay_ld, rvP_ok, okv_some, ev_t, ev_c, evs_nil, evs_cons, getV_some, putD_some, bin_eql, getK_set, Nat.reduceEqDiff, ↓reduceIte, ln, d1, lY, lL]
    have hne : L ≠ [] := fun e => by rw [e] at hsum; simp at hsum; omega
    refine (callP_0 (ef := f94) kk.c94 rfl (f94_ret g.sk.srp (by omega) hne g.hc)).mono ?_
    rintro v h2 ⟨sv, ov, gB⟩
    have hi : pre.length < Y.length := by rw [hY]; simp [prE]
    have hYi : Y[pre.length] = L := by simp [hY, prE]
    have lY2 : loadV h2 (.p idY 0) one? = .ok (.yl id) h2 := load_p ((gB.old _ (g.hc.cells g.eY)).trans g.eY) rfl
    obtain ⟨r, h3, hr, nx3, hc3, k3, h4, h5⟩ := round pre.length _ h h2 v hi hi0 g.hc gB (fun x hx => g.lt hx) (by rw [hYi]; exact sv) ov
    have byl : beqV (.yl id) (.yl id) = true := beq_yl
    simp (disch := omega) only [true_and, x_nil, x_call, kx, xg_nil, xd_cons, fresh_nil, stK_s, stay_nil, stay_cons, again_ok, stay_ld, ev_t, evs_nil, evs_cons, getV_some, putD_some, getK_set, Nat.reduceEqDiff, ↓reduceIte, lY2, byl]
    obtain ⟨q, hq⟩ := hr
    refine ⟨q, _, _, hq, ?_⟩
    simp (disch := omega) only [f102_rs, w_ret, seqK_n, seqK_r, true_and, retK_r, x_nil, x_as, kx, xg_nil, xd_cons, fresh_nil, stK_n, stK_s, stay_nil, ev_t, getV_some, putD_some, oGet_s, readRs_nil, readRs_t, retV_1, Option.some.injEq, exists_eq_left', getK_set, ↓reduceIte]
    refine ⟨r, rfl, fun ht => ⟨u, (g.grow gB).keep hc3 fun x hx => k3 x hx, ?_, Nat.le_trans gB.nx nx3⟩, h5⟩
    exact h4 ht
  | succ f ih =>
    intro L m pre post h u s hY g hi0
    refine callP_of (ef := f102) kk.p102 rfl ?_
    show Ret fs f102 [.i .u16 (m : Int), .p idn 0, .p idY 0, .p idL 0, .p idG 0] h _
    apply ret_of rfl
    show W fs none f102_c _ _ _
    unfold f102_c
    have hmx := s.msk.1
    have hsum := s.sum
    have hn10 := s.n10
    obtain ⟨t0, ht0, hf0⟩ := s.free
    have ln : loadV h (.p idn 0) one? = .ok (.i .i64 (n : Int)) h := load_p g.eN rfl
    have d1 : decide ((pcN m : Int) = (n : Int)) = false := decide_eq_false (by rw [s.cnt]; omega)
    simp (disch := omega) only [f102_r0, f102_r1, w_reg, w_draw, w_seq, seqK_n, true_and, x_nil, x_as, x_call, kg, xg_nil, xg_mv, xg_ld, xd_cons, fresh_nil, stK_s, stay_nil, rvP_ok, ev_t, ev_c, evs_nil, evs_cons, getV_some, putD_some, getK_set, Nat.reduceEqDiff, ↓reduceIte, frame_5, ln]
    refine (callP_0 (ef := f74) kk.p74 rfl (f74_ret kk.p92 hmx)).mono ?_
    rintro r h1 ⟨rfl, e1⟩
    rw [e1]
    clear e1 h1
    simp (disch := omega) only [f102_r3, w_skip, w_reg, w_seq, w_cond, w_block, seqK_n, ckB_b, cbB_b, true_and, x_nil, x_as, kx, kg, xg_nil, xg_bin, xd_cons, fresh_nil, stK_n, stay_nil, stay_cons, again_ok, beq_i, stay_ld, rvP_ok, okv_some, ev_t, ev_c, getV_some, putD_some, bin_eql, of0, getK_set, Nat.reduceEqDiff, ↓reduceIte, Bool.false_eq_true, ln, d1]
    refine W_loop (f102_A h n m idn idY idL idG) (fun t => n - t) ?_ 0 ⟨by omega, rfl, fun x hx => by omega, by simp (disch := omega) only [getK_set, Nat.reduceEqDiff, ↓reduceIte, and_self, Int.natCast_zero]⟩
    rintro t fr h1 ⟨ht, rfl, hall, g0, g1, g2, g3, g4, g7⟩
    unfold f102_l0
    simp (disch := omega) only [f102_r4, w_reg, w_seq, x_mv, x_call, ev_t, ev_c, evs_nil, evs_cons, getV_some, putD_some, getK_set, Nat.reduceEqDiff, ↓reduceIte, g0, g7]
    refine (callP_0 (ef := f76) kk.p76 rfl (f76_ret hmx (show t ≤ 15 by omega))).mono ?_
    rintro r h2 ⟨rfl, e2⟩
    rw [e2]
    clear e2 h2
    cases hb : m.testBit t with
    | true =>
      have ht2 : t + 1 < n := by
        apply Classical.byContradiction
        intro hno
        have : t0 ≤ t := by omega
        by_cases e : t0 = t
        · rw [e, hb] at hf0; cases hf0
        · rw [hall t0 (by omega)] at hf0; cases hf0
      simp (disch := omega) only [f102_r5, w_skip, w_reg, w_cond, w_block, seqK_n, atK_n, loopK_n, ckB_b, cbB_b, true_and, x_nil, x_mv, x_as, x_bin, kx, rvP_ok, okv_some, ev_t, ev_c, getV_some, putD_some, bin_add, of1, getK_set, Nat.reduceEqDiff, ↓reduceIte, g7, fw64]
      exact ⟨t + 1, by omega, ht2, rfl, fun x hx => by
        by_cases e : x = t
        · rw [e]; exact hb
        · exact hall x (by omega), by simp (disch := omega) only [getK_set, Nat.reduceEqDiff, ↓reduceIte, g0, g1, g2, g3, g4, and_self, Int.natCast_add, Int.natCast_one]⟩
    | false =>
      have hhm : hm n m = t := hm_eq (Nat.zero_le _) (by omega) (fun x _ hx => hall x hx) hb
      simp (disch := omega) only [f102_r6, w_reg, w_seq, w_cond, w_block, w_exit, seqK_n, seqK_e, atK_e, loopK_e, ckB_b, cbB_b, true_and, x_nil, x_mv, x_as, x_bin, kx, rvP_ok, okv_some, ev_t, ev_c, getV_some, putD_some, bin_add, of1, getK_set, Nat.reduceEqDiff, ↓reduceIte, Bool.false_eq_true, g7, fw64]
      have hU0 : prU n f L m (t + 1) = [] := by
        unfold prU
        rw [List.flatMap_eq_nil_iff]
        intro a ha
        have ha : a < t + 1 := by simpa using ha
        unfold prG
        rw [if_pos]
        by_cases e : a = t
        · exact .inr (by rw [hhm]; exact e)
        · exact .inl (hall a (by omega))
      refine W_loop (f102_O h1 n m f I idn idY idL idG id L pre.length) (fun x => n - x) ?_ (t + 1) ⟨by omega, by omega, Nat.le_refl _, u, g, by rw [hU0]; exact hi0, by rw [hhm]; simp (disch := omega) only [getK_set, Nat.reduceEqDiff, ↓reduceIte, g0, g1, g2, g3, g4, g7, and_self, Int.natCast_add, Int.natCast_one]⟩
      clear g0 g1 g2 g3 g4 g7 fr
      rintro x fr h2 ⟨hx1, hx2, nx2, u1, G, hI2, g0, g1, g2, g3, g4, g7, g8⟩
      rw [hhm] at g7 hx1
      have ln2 : loadV h2 (.p idn 0) one? = .ok (.i .i64 (n : Int)) h2 := load_p G.eN rfl
      unfold f102_l1
      by_cases hlt : x < n
      · have d0 : decide ((x : Int) < (n : Int)) = true := decide_eq_true (by omega)
        have hsplit := prU_succ (n := n) (f := f) (L := L) (m := m) (x := x)
        simp (disch := omega) only [f102_r7, f102_r8, w_skip, w_reg, w_seq, w_cond, w_block, seqK_n, ckB_b, cbB_b, true_and, x_nil, x_mv, x_ld, x_bin, x_call, kx, rvP_ok, okv_some, ev_t, ev_c, evs_nil, evs_cons, getV_some, putD_some, bin_lss, getK_set, Nat.reduceEqDiff, ↓reduceIte, g0, g1, g8, ln2, d0]
        refine (callP_0 (ef := f76) kk.p76 rfl (f76_ret hmx (show x ≤ 15 by omega))).mono ?_
        rintro r h3 ⟨rfl, e3⟩
        rw [e3]
        clear e3 h3
        cases hbx : m.testBit x with
        | true =>
          have hsub : prG n (prE n f) L m x = [] := by unfold prG; rw [if_pos (.inl hbx)]
          simp (disch := omega) only [f102_r13, w_reg, w_cond, w_exit, seqK_n, seqK_e, atK_e, loopK_n, ckB_b, cbB_b, true_and, x_nil, x_mv, x_as, x_bin, kx, rvP_ok, okv_some, ev_t, ev_c, getV_some, putD_some, bin_add, of1, getK_set, Nat.reduceEqDiff, ↓reduceIte, g8, fw64]
          exact ⟨x + 1, by omega, by omega, by omega, nx2, u1, G, by rw [hsplit, hsub, List.append_nil]; exact hI2, by rw [hhm]; simp (disch := omega) only [getK_set, Nat.reduceEqDiff, ↓reduceIte, g0, g1, g2, g3, g4, g7, and_self, Int.natCast_add, Int.natCast_one]⟩
        | false =>
          have hson : prG n (prE n f) L m x = prE n f (L ++ [((t : Int), (x : Int))]) (m ||| 2 ^ t ||| 2 ^ x) := by
            unfold prG
            rw [if_neg (by rw [hbx, hhm]; intro h; rcases h with h | h; cases h; omega), hhm]
          have s2 := s.on ht hlt hb hbx (by omega)
          have lL : loadV h2 (.p idL 0) one? = .ok u1 h2 := load_p G.eL rfl
          obtain ⟨u3, h3, a1, a2, _, a4, a5⟩ := Sk.push (b := 0) qE_len (by omega) (x := ((t : Int), (x : Int))) G.sk (fun _ _ _ _ _ => Nat.zero_le _) (Nat.zero_le _) G.hc (by omega)
          have a1' : appV 2 (h2.new (.cells (1 * 2) [.i .i64 (t : Int), .i .i64 (x : Int)])) u1 (.sl h2.nx 0 1 2) = .ok u3 h3 := a1
          have lt := fun x hx => G.lt (x := x) hx
          obtain ⟨qN, nN3⟩ := a5 idn (lt _ (.inl rfl)) G.nN
          obtain ⟨qY, nY3⟩ := a5 idY (lt _ (.inr (.inl rfl))) G.nY
          obtain ⟨qL, nL3⟩ := a5 idL (lt _ (.inr (.inr (.inl rfl)))) G.nL
          obtain ⟨qG, nG3⟩ := a5 idG (lt _ (.inr (.inr (.inr (.inl rfl))))) G.nG
          have hc3 := a4.hc G.hc
          have s3 := st1 (h := h3) (id := idL) (a := u1) (c := u3) (qL.trans G.eL) a2.one
          have lL3 : idL.nat < h3.nx.nat := Nat.lt_of_lt_of_le (lt _ (.inr (.inr (.inl rfl)))) a4.nx
          have G4 : PS idn idY idL idG id n (prgV idn idY idL idG) (h3.put idL (.cells 1 [u3])) u3 (L ++ [((t : Int), (x : Int))]) :=
            ⟨(Grow.put (b := 0) (Nat.zero_le _) lL3 _).hc hc3, by rw [get_put_other G.lN.symm, qN]; exact G.eN, by rw [get_put_other G.lY.symm, qY]; exact G.eY, by rw [get_put_other G.lG.symm, qG]; exact G.eG, get_put_same, a2.put nL3 _, nN3, nY3, nL3, nG3, G.lN, G.lY, G.lG⟩
          have hI4 : I (pre.length + (prU n f L m x).length) (Pr idn idY idL idG u3) (h3.put idL (.cells 1 [u3])) := hI _ _ _ _ _ hI2 a4.nx G4.hc (fun y hy hS => by
            rw [get_put_other (fun e => hS (.inr (.inr (.inl e))))]
            exact (a5 y hy (by
              apply Classical.byContradiction
              intro hno
              exact hS (.inr (.inr (.inr (.inr hno)))))).1) (fun y hy => by
            rcases hy with hy | hy | hy | hy | hy
            · exact .inl (.inl hy)
            · exact .inl (.inr (.inl hy))
            · exact .inl (.inr (.inr (.inl hy)))
            · exact .inl (.inr (.inr (.inr (.inl hy))))
            · by_cases hlty : y.nat < h2.nx.nat
              · left
                refine .inr (.inr (.inr (.inr fun hn => hy (a5 y hlty hn).2)))
              · exact .inr (by omega))
          have nx4 : h2.nx.nat ≤ (h3.put idL (.cells 1 [u3])).nx.nat := a4.nx
          simp (disch := omega) only [f102_r9, w_skip, w_reg, w_draw, w_seq, w_cond, seqK_n, ckB_b, cbB_b, true_and, x_nil, x_mv, x_build, x_bslice, x_ld, x_st, x_app, kx, rvP_ok, ev_t, getV_some, putD_some, putD_none, oGet_s, cells1_i, of0, getK_set, Nat.reduceEqDiff, ↓reduceIte, Bool.false_eq_true, fill_2, set_2, cells2, g3, g7, g8, lL, fill_2, set_2, cells2, fill_p2, set_p2, a1', s3]
          generalize h3.put idL (.cells 1 [u3]) = h4 at *
          have lG4 : loadV h4 (.p idG 0) one? = .ok (prgV idn idY idL idG) h4 := load_p G4.eG rfl
          simp (disch := omega) only [f102_r10, true_and, x_call, kg, xg_nil, xg_mv, xg_ld, xd_cons, fresh_nil, stK_s, stay_nil, rvP_ok, ev_t, ev_c, evs_nil, evs_cons, getV_some, putD_some, getK_set, Nat.reduceEqDiff, ↓reduceIte, g0, g4, g7, g8, lG4]
          refine (callP_0 (ef := f83) kk.p83 rfl (f83_ret hmx (show t ≤ 15 by omega))).mono ?_
          rintro r h5 ⟨rfl, e5⟩
          rw [e5]
          clear e5 h5
          have hm1 : m ||| 2 ^ t ≤ 65535 := (s.msk.snoc (show t ≤ 15 by omega)).1
          have bpp : ∀ q : K, beq1 (.p q 0) (.p q 0) = true := fun q => by
            show (q.beq q && Nat.beq 0 0) = true
            rw [K.beq_refl]; rfl
          have bfv : beqV (prgV idn idY idL idG) (prgV idn idY idL idG) = true := by
            show (K.beq (K.ofNat 102) (K.ofNat 102) && (beq1 (.p idn 0) (.p idn 0) && (beq1 (.p idY 0) (.p idY 0) && (beq1 (.p idL 0) (.p idL 0) && (beq1 (.p idG 0) (.p idG 0) && true))))) = true
            rw [K.beq_refl, bpp, bpp, bpp, bpp]; rfl
          simp (disch := omega) only [true_and, x_nil, x_call, kx, xg_nil, xd_cons, fresh_nil, stK_s, stay_nil, stay_cons, again_ok, stay_mv, beq_i, stay_ld, ev_t, ev_c, evs_nil, evs_cons, getV_some, putD_some, getK_set, Nat.reduceEqDiff, ↓reduceIte, g4, g8, lG4, bfv]
          refine (callP_0 (ef := f83) kk.p83 rfl (f83_ret hm1 (show x ≤ 15 by omega))).mono ?_
          rintro r h5 ⟨rfl, e5⟩
          rw [e5]
          clear e5 h5
          simp (disch := omega) only [true_and, x_nil, x_call, kx, xg_nil, xd_cons, fresh_nil, stK_s, stay_nil, stay_cons, again_ok, stay_ld, ev_t, evs_nil, evs_cons, getV_some, putD_some, getK_set, Nat.reduceEqDiff, ↓reduceIte, g4, lG4, bfv]
          obtain ⟨R, hR⟩ := prU_split (n := n) (f := f) (L := L) (m := m) (x := x) n hlt
          have hen : prE n (f + 1) L m = prU n f L m n := rfl
          refine (ih (L ++ [((t : Int), (x : Int))]) (m ||| 2 ^ t ||| 2 ^ x) (pre ++ prU n f L m x) (R ++ post) h4 u3 s2 (by rw [hY, hen, hR, hson]; simp) G4 (by rw [List.length_append]; exact hI4)).mono ?_
          rintro r h7 ⟨q, rfl, hqt, hqf⟩
          cases q with
          | false =>
            simp (disch := omega) only [f102_r11, f102_rs, w_reg, w_seq, w_cond, w_ret, seqK_n, seqK_r, atK_r, loopK_r, ckB_b, cbB_b, true_and, retK_r, x_nil, x_as, kx, kg, xg_nil, xg_not, xd_cons, fresh_nil, stK_n, stay_nil, rvP_ok, ev_t, ev_c, getV_some, putD_some, onB_b, oGet_s, readRs_nil, readRs_t, retV_1, Option.some.injEq, exists_eq_left', getK_set, ↓reduceIte, Bool.not_false]
            exact ⟨false, rfl, fun h => (by cases h), fun _ => hqf rfl⟩
          | true =>
            obtain ⟨u7, G7, I7, nx7⟩ := hqt rfl
            have lL7 : loadV h7 (.p idL 0) one? = .ok u7 h7 := load_p G7.eL rfl
            have hl7 : ∀ h1, lenV u7 h1 = .ok (.i .i64 ((L.length + 1 : Nat) : Int)) h1 := fun h1 => by rw [G7.sk.len]; simp
            have hsb : ((L.length + 1 : Nat) : Int) - 1 = (L.length : Int) := by omega
            obtain ⟨v8, c1, c2, c3, c4⟩ := Sk.cut (kk := .i64) qE_len (u := L.length) G7.sk (by simp)
            rw [List.take_left] at c2
            have s7 := st1 (h := h7) (id := idL) (a := u7) (c := v8) G7.eL c2.one
            have G8 := G7.write c2 (c4 _ G7.nN) (c4 _ G7.nY) (c4 _ G7.nL) (c4 _ G7.nG)
            have I8 : I ((pre ++ prU n f L m x).length + (prE n f (L ++ [((t : Int), (x : Int))]) (m ||| 2 ^ t ||| 2 ^ x)).length) (Pr idn idY idL idG v8) (h7.put idL (.cells 1 [v8])) := hI _ _ _ _ _ I7 (Nat.le_refl _) G8.hc (fun y hy hS => get_put_other (fun e => hS (.inr (.inr (.inl e))))) (fun y hy => by
              rcases hy with hy | hy | hy | hy | hy
              · exact .inl (.inl hy)
              · exact .inl (.inr (.inl hy))
              · exact .inl (.inr (.inr (.inl hy)))
              · exact .inl (.inr (.inr (.inr (.inl hy))))
              · exact .inl (.inr (.inr (.inr (.inr fun hn => hy (c4 y hn))))))
            simp (disch := omega) only [f102_r12, f102_r13, w_skip, w_reg, w_cond, seqK_n, atK_n, loopK_n, ckB_b, cbB_b, true_and, x_nil, x_mv, x_as, x_ld, x_st, x_bin, x_slice, sliceV_eq, Option.map_none, Option.map_some, x_len, kx, kg, xg_nil, xg_not, xd_cons, fresh_nil, stK_n, stay_nil, rvP_ok, okv_some, ev_t, ev_c, getV_some, putD_some, putD_none, bin_add, bin_sub, onB_b, of1, getK_set, Nat.reduceEqDiff, ↓reduceIte, Bool.false_eq_true, Bool.not_true, g3, g8, lL7, hl7, hsb, c1, s7, fw64]
            refine ⟨x + 1, by omega, by omega, by omega, ?_, v8, G8, ?_, by rw [hhm]; simp (disch := omega) only [getK_set, Nat.reduceEqDiff, ↓reduceIte, g0, g1, g2, g3, g4, g7, and_self, Int.natCast_add, Int.natCast_one]⟩
            · show h1.nx.nat ≤ h7.nx.nat
              omega
            · have : pre.length + (prU n f L m (x + 1)).length = (pre ++ prU n f L m x).length + (prE n f (L ++ [((t : Int), (x : Int))]) (m ||| 2 ^ t ||| 2 ^ x)).length := by rw [hsplit, hson]; simp; omega
              rw [this]; exact I8
      · have d0 : decide ((x : Int) < (n : Int)) = false := decide_eq_false (by omega)
        obtain rfl : x = n := by omega
        simp (disch := omega) only [f102_r7, f102_r14, f102_rs, w_reg, w_seq, w_cond, w_exit, w_ret, seqK_n, seqK_e, atK_e, loopK_e, ckB_b, cbB_b, true_and, retK_r, x_nil, x_mv, x_as, x_ld, x_bin, kx, rvP_ok, okv_some, ev_t, ev_c, getV_some, putD_some, bin_lss, oGet_s, readRs_nil, readRs_t, retV_1, Option.some.injEq, exists_eq_left', getK_set, Nat.reduceEqDiff, ↓reduceIte, Bool.false_eq_true, g1, g8, ln2, d0]
        exact ⟨true, rfl, fun _ => ⟨u1, G, hI2, nx2⟩, fun h => by cases h⟩
end
end Go.Ev
namespace Go.Ev
open Go Go.RowKit
section
variable {fs : T EF}
structure CallsPn (fs : T EF) : Prop extends CallsPg fs where
  p91 : fs.get (K.ofNat 91) = some f91
  p101 : fs.get (K.ofNat 101) = some f101
/-- The function, called with a body, goes through these rounds: each is a new slice. -/
def YieldsP (fs : T EF) (k : K) (caps : List V) (idn : K) (n : Nat) (Y : List (List (Int × Int))) : Prop :=
  ∀ (id : K) (I : Nat → (K → Prop) → H → Prop) (D : H → Prop) (h : H), Stab I → HC h → h.get idn = .cells 1 [.i .i64 (n : Int)] → I 0 (fun x => x = idn) h → RoundP fs id I D Y →
    CallP fs (.fn k caps) [.yl id] h fun r h' => r = .tup [] ∧ ((∃ S, I Y.length S h' ∧ HC h' ∧ h.nx.nat ≤ h'.nx.nat) ∨ D h')
theorem st_0 {n : Nat} (hn : n ≤ 10) (he : n % 2 = 0) : St n [] 0 (n / 2) := ⟨Msk.nil, List.nodup_nil, fun x hx => absurd hx (by simp [plL]), by simp; omega, hn⟩
theorem pair_yields {idn : K} {n : Nat} (kk : CallsPn fs) (hn2 : 2 ≤ n) (hn : n ≤ 10) (he : n % 2 = 0) : YieldsP fs (K.ofNat 101) [.p idn 0] idn n (prE n (n / 2) [] 0) := by
  intro id I D h hI hc hn0 hi round
  refine callP_of (ef := f101) kk.p101 rfl ?_
  show Ret fs f101 [.yl id, .p idn 0] h _
  apply ret_of rfl
  show W fs none f101_c _ _ _
  unfold f101_c
  have c1 : cellsN 1 (.yl id) = some [.yl id] := rfl
  have n1 := nx_new h (.cells 1 [.yl id])
  have g1 : Grow h.nx.nat h (h.new (.cells 1 [.yl id])) := Grow.new (Nat.le_refl _) _
  have eY : (h.new (.cells 1 [.yl id])).get h.nx = .cells 1 [.yl id] := get_new_same
  generalize hh1 : h.new (.cells 1 [.yl id]) = h1 at *
  have n2 := nx_new h1 (.cells 1 [.sn])
  have g2 : Grow h1.nx.nat h1 (h1.new (.cells 1 [.sn])) := Grow.new (Nat.le_refl _) _
  have eL : (h1.new (.cells 1 [.sn])).get h1.nx = .cells 1 [.sn] := get_new_same
  simp (disch := omega) only [f101_r0, f101_r1, w_reg, w_seq, seqK_n, x_nil, x_alloc, x_box, kx, rvP_ok, ev_t, getV_some, putD_some, oGet_s, frame_2, getK_set, Nat.reduceEqDiff, ↓reduceIte, c1, hh1]
  generalize h1.new (.cells 1 [.sn]) = h2 at *
  have n3 := nx_new h2 (.cells 1 [.fnil])
  have s3 := st1 (h := h2.new (.cells 1 [.fnil])) (id := h2.nx) (a := .fnil) (c := prgV idn h.nx h1.nx h2.nx) get_new_same rfl
  have g3 : Grow h2.nx.nat h2 ((h2.new (.cells 1 [.fnil])).put h2.nx (.cells 1 [prgV idn h.nx h1.nx h2.nx])) := (Grow.new (Nat.le_refl _) _).trans (Grow.put (Nat.le_refl _) (by omega) _)
  have eG : ((h2.new (.cells 1 [.fnil])).put h2.nx (.cells 1 [prgV idn h.nx h1.nx h2.nx])).get h2.nx = .cells 1 [prgV idn h.nx h1.nx h2.nx] := get_put_same
  have n3' : ((h2.new (.cells 1 [.fnil])).put h2.nx (.cells 1 [prgV idn h.nx h1.nx h2.nx])).nx.nat = h2.nx.nat + 1 := n3
  have hfv : V.fn (K.ofNat 102) [.p idn 0, .p h.nx 0, .p h1.nx 0, .p h2.nx 0] = prgV idn h.nx h1.nx h2.nx := rfl
  simp (disch := omega) only [f101_r2, f101_r3, w_reg, w_seq, seqK_n, x_nil, x_alloc, x_st, x_mkfn, kx, rvP_ok, ev_t, evs_nil, evs_cons, getV_some, putD_some, putD_none, getK_set, Nat.reduceEqDiff, ↓reduceIte, hfv, s3]
  generalize (h2.new (.cells 1 [.fnil])).put h2.nx (.cells 1 [prgV idn h.nx h1.nx h2.nx]) = h3 at *
  have lG : loadV h3 (.p h2.nx 0) one? = .ok (prgV idn h.nx h1.nx h2.nx) h3 := load_p eG rfl
  have gA : Grow h.nx.nat h h3 := g1.trans ((g2.low (by omega)).trans (g3.low (by omega)))
  have lnn := hc.cells hn0
  have G : PS idn h.nx h1.nx h2.nx id n (prgV idn h.nx h1.nx h2.nx) h3 .sn [] :=
    ⟨gA.hc hc, (gA.old _ lnn).trans hn0, by rw [g3.old _ (by omega), g2.old _ (by omega)]; exact eY, eG, by rw [g3.old _ (by omega)]; exact eL, Sk.nil, NotIn.sn, NotIn.sn, NotIn.sn, NotIn.sn, (kNe (by omega)).symm, (kNe (by omega)).symm, kNe (by omega)⟩
  have hI3 : I 0 (Pr idn h.nx h1.nx h2.nx .sn) h3 := hI _ _ _ _ _ hi gA.nx G.hc (fun x hx _ => gA.old x hx) (fun x hx => by
    rcases hx with rfl | rfl | rfl | rfl | hx
    · exact .inl rfl
    · exact .inr (Nat.le_refl _)
    · exact .inr (by omega)
    · exact .inr (by omega)
    · exact absurd NotIn.sn hx)
  have z0 : V.i .u16 0 = V.i .u16 ((0 : Nat) : Int) := rfl
  simp (disch := omega) only [f101_r4, x_ld, x_call, kx, rvP_ok, ev_t, ev_c, evs_nil, evs_cons, getV_some, putD_some, of0, getK_set, Nat.reduceEqDiff, ↓reduceIte, lG, z0]
  refine (pair_call (D := D) (Y := prE n (n / 2) [] 0) kk.toCallsPg hn2 hI round (n / 2) [] 0 [] [] h3 .sn (st_0 hn he) (by simp) G hI3).mono ?_
  rintro r h5 ⟨t, rfl, ht, hf⟩
  simp (disch := omega) only [f101_rs, true_and, retK_n, x_nil, kx, putD_some, readRs_nil, retV_0, Option.some.injEq, exists_eq_left', true_and]
  cases t with
  | true => obtain ⟨u', w1, w2, w3⟩ := ht rfl; exact .inl ⟨_, by simpa using w2, w1.hc, Nat.le_trans gA.nx w3⟩
  | false => exact .inr (hf rfl)
/-- What a body leaves. -/
structure Lv (S : K → Prop) (h h' : H) : Prop where
  nx : h.nx.nat ≤ h'.nx.nat
  hc : HC h'
  old : ∀ x, S x → h'.get x = h.get x
/-- A loop over all rounds. -/
theorem W_rangeP {ro : Option K} {f : EO} {k : K} {caps : List V} {p : K} {a c : EC} {fr : Fr} {h : H} {Q : Ex → Fr → H → Prop} {n : Nat} {idn : K} {Y : List (List (Int × Int))} (hro : roOk ro h = true) (hf : ev fr f = .fn k caps) (hy : YieldsP fs k caps idn n Y) (hch : HC h) (hn0 : h.get idn = .cells 1 [.i .i64 (n : Int)])
    (I : Nat → (K → Prop) → H → Prop) (D : Ex → H → Prop) (hI : Stab I) (hI0 : I 0 (fun x => x = idn) (h.new (rdyB fr [p] a c)))
    (step : ∀ i S h1 h2 v (hi : i < Y.length), I i S h1 → HC h1 → Grow h1.nx.nat h1 h2 → h.nx.nat < h1.nx.nat → h2.get h.nx = rdyB fr [p] a c → (∀ x, S x → x.nat < h1.nx.nat) → ¬ S h.nx → Sk 2 qE h2 v Y[i] → Own h1.nx.nat v →
      W fs (some h.nx) a (rndA fs h.nx fr [p] a c (fun h3 => I (i + 1) S h3 ∧ Lv S h2 h3) (fun e h3 => D e h3 ∧ Lv S h2 h3)) (fr.set p v) h2)
    (fin : ∀ S h1, I Y.length S h1 → HC h1 → h.nx.nat < h1.nx.nat → ¬ S h.nx → Q .normal fr (h1.put h.nx .dead)) (brk : ∀ e h1, e ≠ .normal → D e h1 → Q e fr h1) : W fs ro (.rangeF f [p] a c) Q fr h := by
  have n1 := nx_new h (rdyB fr [p] a c)
  have g1 : Grow h.nx.nat h (h.new (rdyB fr [p] a c)) := Grow.new (Nat.le_refl _) _
  have lnn := hch.cells hn0
  have key := hy h.nx (fun i S h1 => I i S h1 ∧ h1.get h.nx = rdyB fr [p] a c ∧ ¬ S h.nx ∧ h.nx.nat < h1.nx.nat) (fun h1 => ∃ e, e ≠ .normal ∧ D e (h1.put h.nx .dead) ∧ h1.get h.nx = .loop .done (some e) fr [p] a c) (h.new (rdyB fr [p] a c))
    (fun i S S' h1 h2 ⟨q1, q2, q3, q4⟩ w1 w2 w3 w4 => ⟨hI _ _ _ _ _ q1 w1 w2 w3 w4, (w3 _ q4 q3).trans q2, fun hs => by rcases w4 _ hs with w | w; exact q3 w; omega, by omega⟩)
    (g1.hc hch) ((g1.old _ lnn).trans hn0) ⟨hI0, get_new_same, fun e => by have e : h.nx = idn := e; rw [e] at lnn; omega, by omega⟩ ?_
  · obtain ⟨m, r, h1, hc, rfl, hq⟩ := key
    rcases hq with ⟨S, ⟨hI, hb, hS, hlt⟩, hc1, hn1⟩ | ⟨e, hne, hD, hb⟩
    · exact ⟨.normal, fr, _, Runs.range hro hf ⟨m, hc⟩ hb (.inl ⟨rfl, rfl, rfl⟩), fin S h1 hI hc1 hlt hS⟩
    · exact ⟨e, fr, _, Runs.range hro hf ⟨m, hc⟩ hb (.inr ⟨rfl, rfl⟩), brk e _ hne hD⟩
  · rintro i S h0 h1 v hi ⟨hI, hb, hS, hlt⟩ hc0 hG hSl sv ov
    have hb1 : h1.get h.nx = rdyB fr [p] a c := (hG.old _ hlt).trans hb
    obtain ⟨e1, fr1, h2, r1, rfl, hb2, hw⟩ := W_ok _ _ _ _ (step i S h0 h1 v hi hI hc0 hG hlt hb1 hSl hS sv ov)
    obtain ⟨e2, fr2, h3, r2, hb3, hq⟩ := W_ok _ _ _ _ hw
    have l3 : ∀ x, Lv S h1 (h3.put h.nx x) → Lv S h1 (h3.put h.nx (afterR e2 fr [p] a c)) := fun x hm => by
      have hlt3 : h.nx.nat < h3.nx.nat := by have : h1.nx.nat ≤ (h3.put h.nx x).nx.nat := hm.nx; have e : (h3.put h.nx x).nx = h3.nx := rfl; rw [e] at this; have := hG.nx; omega
      refine ⟨hm.nx, fun id hid => ?_, fun y hy => ?_⟩
      · have := hm.hc id hid
        have hne : id ≠ h.nx := fun e => by rw [e] at hid; have e3 : (h3.put h.nx (afterR e2 fr [p] a c)).nx = h3.nx := rfl; rw [e3] at hid; omega
        rw [get_put_other hne] at this ⊢; exact this
      · have := hm.old y hy
        have hne : y ≠ h.nx := fun e => hS (by rw [← e]; exact hy)
        rw [get_put_other hne] at this ⊢; exact this
    have hlv : Lv S h1 (h3.put h.nx (afterR e2 fr [p] a c)) := by cases e2 <;> exact l3 _ hq.2
    refine ⟨isNo e2, h3.put h.nx (afterR e2 fr [p] a c), round_of hb1 rfl r1 hb2 r2 hb3, hlv.nx, hlv.hc, hlv.old, fun he => ?_, fun he => ?_⟩
    · cases e2 <;> first | exact ⟨hq.1, get_put_same, hS, by have := hlv.nx; have := hG.nx; omega⟩ | cases he
    · cases e2 with
      | normal => cases he
      | exit j => exact ⟨.exit j, by simp, by rw [H.put_put]; exact hq.1, get_put_same⟩
      | ret => exact ⟨.ret, by simp, by rw [H.put_put]; exact hq.1, get_put_same⟩
/-- pairings gives the function that goes through them. -/
theorem f91_ret {h : H} {n : Nat} (hc : HC h) : Ret fs f91 [.i .i64 (n : Int)] h fun r h' => r = .fn (K.ofNat 101) [.p h.nx 0] ∧ h'.get h.nx = .cells 1 [.i .i64 (n : Int)] ∧ h'.nx.nat = h.nx.nat + 1 ∧ Grow h.nx.nat h h' := by
  have _ := hc
  apply ret_of rfl
  show W fs none f91_c _ _ _
  unfold f91_c
  have n1 := nx_new h (.cells 1 [.i .i64 (n : Int)])
  have g1 : Grow h.nx.nat h (h.new (.cells 1 [.i .i64 (n : Int)])) := Grow.new (Nat.le_refl _) _
  simp (disch := omega) only [f91_r0, f91_r1, f91_rs, w_reg, w_seq, w_ret, seqK_n, true_and, retK_r, x_nil, x_as, x_box, x_mkfn, kx, rvP_ok, ev_t, ev_c, evs_nil, evs_cons, getV_some, putD_some, oGet_s, readRs_nil, readRs_t, retV_1, frame_1, cells1_i, Option.some.injEq, exists_eq_left', getK_set, Nat.reduceEqDiff, ↓reduceIte]
  exact ⟨get_new_same, n1, g1⟩
end
end Go.Ev
namespace Go.Ev
open Go Go.RowKit
noncomputable def f90_r0 : List EOper := [⟨(some (K.ofNat 2)), none, .box 10 (.t (K.ofNat 0))⟩, ⟨(some (K.ofNat 4)), none, .alloc 2 [(.i .i64 (.ofNat 0)), (.i .i64 (.ofNat 0))]⟩, ⟨(some (K.ofNat 5)), none, .as (.c (.b false))⟩]
noncomputable def f90_r1 : List EOper := [⟨(some (K.ofNat 6)), none, .as (.c (.i .i64 (.ofNat 1)))⟩]
noncomputable def f90_r2 : List EOper := [⟨(some (K.ofNat 7)), none, .mv (.t (K.ofNat 6))⟩, ⟨(some (K.ofNat 8)), none, .mv (.t (K.ofNat 1))⟩, ⟨(some (K.ofNat 9)), none, .bin .lss (.t (K.ofNat 7)) (.t (K.ofNat 8))⟩]
noncomputable def f90_r3 : List EOper := [⟨(some (K.ofNat 12)), none, .iadr 10 1 (.t (K.ofNat 2)) (.c (.i .i64 (.ofNat 0)))⟩, ⟨(some (K.ofNat 13)), none, .ld (.t (K.ofNat 12))⟩, ⟨(some (K.ofNat 14)), none, .mv (.t (K.ofNat 6))⟩, ⟨(some (K.ofNat 15)), none, .call (.c (.fn (K.ofNat 76) [])) [(.t (K.ofNat 13)), (.t (K.ofNat 14))]⟩, ⟨(some (K.ofNat 16)), none, .not (.t (K.ofNat 15))⟩]
noncomputable def f90_r4 : List EOper := [⟨(some (K.ofNat 17)), none, .mv (.t (K.ofNat 6))⟩, ⟨(some (K.ofNat 18)), none, .build [(.i .i64 (.ofNat 0)), (.i .i64 (.ofNat 0))] [(0, 1, (.c (.i .i64 (.ofNat 0)))), (1, 1, (.t (K.ofNat 17)))]⟩, ⟨none, none, .st 2 (.t (K.ofNat 4)) (.t (K.ofNat 18))⟩, ⟨(some (K.ofNat 5)), none, .as (.c (.b true))⟩]
noncomputable def f90_r5 : List EOper := [⟨(some (K.ofNat 10)), none, .mv (.t (K.ofNat 6))⟩, ⟨(some (K.ofNat 11)), none, .bin .add (.t (K.ofNat 10)) (.c (.i .i64 (.ofNat 1)))⟩, ⟨(some (K.ofNat 6)), none, .as (.t (K.ofNat 11))⟩]
noncomputable def f90_l0 : EC := (.seq (.seq (.reg f90_r2) (.cond (.t (K.ofNat 9)) .skip (.exit 0))) (.seq (.block 1 (.seq (.reg f90_r3) (.cond (.t (K.ofNat 16)) (.seq (.reg f90_r4) .ret) .skip))) (.reg f90_r5)))
noncomputable def f90_r6 : List EOper := [⟨(some (K.ofNat 19)), none, .build [(.i .i64 (.ofNat 0)), (.i .i64 (.ofNat 0))] []⟩, ⟨none, none, .st 2 (.t (K.ofNat 4)) (.t (K.ofNat 19))⟩, ⟨(some (K.ofNat 5)), none, .as (.c (.b false))⟩]
noncomputable def f90_c : EC := (.seq (.reg f90_r0) (.seq (.seq (.reg f90_r1) (.block 0 (.loop f90_l0))) (.seq (.reg f90_r6) .ret)))
noncomputable def f90 : EF := ⟨20, [.celln (K.ofNat 4) 2, .tmp (K.ofNat 5)], f90_c, none⟩
theorem f90_rs : f90.rs = [.celln (K.ofNat 4) 2, .tmp (K.ofNat 5)] := of_eq_true (eq_self _)
/-! ### The search -/
def msF (t : Nat) : Nat → Nat → Option Nat
  | 0, _ => none
  | k + 1, a => if t.testBit a then msF t k (a + 1) else some a
/-- The first team that team 0 has not met. -/
def mss (n t : Nat) : Option Nat := msF t (n - 1) 1
/-- Who has met with a round's games, if they are all new. -/
def addR : List Nat → List (Int × Int) → Option (List Nat)
  | T, [] => some T
  | T, e :: r => if (T.getD e.1.toNat 0).testBit e.2.toNat = true then none else addR (metT T e.1.toNat e.2.toNat) r
def tryC (a : Nat) (rec_ : List Nat → Option (List (List (Int × Int)))) (T : List Nat) (r : List (Int × Int)) : Option (List (List (Int × Int))) :=
  if r.getD 0 (0, 0) = (0, (a : Int)) then (match addR T r with | none => none | some T' => (rec_ T').map fun R => r :: R) else none
def cmp (n : Nat) (Y : List (List (Int × Int))) : Nat → List Nat → Option (List (List (Int × Int)))
  | 0, T => match mss n (T.getD 0 0) with | none => some [] | some _ => none
  | f + 1, T => match mss n (T.getD 0 0) with | none => some [] | some a => Y.findSome? (tryC a (cmp n Y f) T)
def unm (n t : Nat) : Nat := ((List.range n).filter fun a => decide (1 ≤ a) && !t.testBit a).length
/-- Games of n teams. -/
def Gm (n : Nat) (r : List (Int × Int)) : Prop := ∀ e ∈ r, (0 ≤ e.1 ∧ e.1 < (n : Int)) ∧ (0 ≤ e.2 ∧ e.2 < (n : Int)) ∧ e.1 ≠ e.2
structure MT (T : List Nat) : Prop where
  len : T.length = 10
  le : ∀ t ∈ T, t ≤ 65535
section
variable {n f m a b k t : Nat} {T T' : List Nat} {r L : List (Int × Int)}
theorem msF_some : ∀ {k a : Nat}, msF t k a = some b → a ≤ b ∧ b < a + k ∧ t.testBit b = false ∧ ∀ x, a ≤ x → x < b → t.testBit x = true
  | 0, _, h => by cases h
  | k + 1, a, h => by
    have h : (if t.testBit a then msF t k (a + 1) else some a) = some b := h
    cases hb : t.testBit a with
    | true =>
      rw [if_pos hb] at h
      obtain ⟨h1, h2, h3, h4⟩ := msF_some h
      refine ⟨by omega, by omega, h3, fun x hx hx2 => ?_⟩
      by_cases e : x = a
      · rw [e]; exact hb
      · exact h4 x (by omega) hx2
    | false =>
      rw [if_neg (by rw [hb]; simp)] at h
      obtain rfl : a = b := by injection h
      exact ⟨Nat.le_refl _, by omega, hb, fun x h1 h2 => by omega⟩
theorem msF_none : ∀ {k a : Nat}, msF t k a = none → ∀ x, a ≤ x → x < a + k → t.testBit x = true
  | 0, _, _, x, h1, h2 => by omega
  | k + 1, a, h, x, h1, h2 => by
    have h : (if t.testBit a then msF t k (a + 1) else some a) = none := h
    cases hb : t.testBit a with
    | true =>
      rw [if_pos hb] at h
      by_cases e : x = a
      · rw [e]; exact hb
      · exact msF_none h x (by omega) (by omega)
    | false => rw [if_neg (by rw [hb]; simp)] at h; cases h
theorem mss_some (h : mss n t = some b) : 1 ≤ b ∧ b < n ∧ t.testBit b = false ∧ ∀ x, 1 ≤ x → x < b → t.testBit x = true := by
  obtain ⟨h1, h2, h3, h4⟩ := msF_some h
  exact ⟨h1, by omega, h3, h4⟩
theorem mss_none (h : mss n t = none) : ∀ x, 1 ≤ x → x < n → t.testBit x = true := fun x h1 h2 => msF_none h x h1 (by omega)
theorem unm_pos (h : mss n t = some b) : 0 < unm n t := by
  obtain ⟨h1, h2, h3, _⟩ := mss_some h
  exact List.length_pos_of_mem (a := b) (List.mem_filter.2 ⟨by simpa using h2, by rw [h3, decide_eq_true h1]; rfl⟩)
theorem unm_lt {t' : Nat} (hm : ∀ x, t.testBit x = true → t'.testBit x = true) (h1 : 1 ≤ b) (h2 : b < n) (h3 : t.testBit b = false) (h4 : t'.testBit b = true) : unm n t' < unm n t := by
  unfold unm
  have hd : ((List.range n).filter fun a => decide (1 ≤ a) && !t'.testBit a).Nodup := List.nodup_range.filter _
  have := nodup_le (l := b :: (List.range n).filter fun a => decide (1 ≤ a) && !t'.testBit a) (m := (List.range n).filter fun a => decide (1 ≤ a) && !t.testBit a) (List.nodup_cons.2 ⟨fun hmem => by
    have := (List.mem_filter.1 hmem).2
    rw [h4] at this; simp at this, hd⟩) fun x hx => by
    rcases List.mem_cons.1 hx with rfl | hx
    · exact List.mem_filter.2 ⟨by simpa using h2, by rw [h3, decide_eq_true h1]; rfl⟩
    · obtain ⟨x1, x2⟩ := List.mem_filter.1 hx
      refine List.mem_filter.2 ⟨x1, ?_⟩
      simp only [Bool.and_eq_true, Bool.not_eq_true', decide_eq_true_eq] at x2 ⊢
      refine ⟨x2.1, ?_⟩
      cases hb : t.testBit x with
      | false => rfl
      | true => rw [hm x hb] at x2; cases x2.2
  rw [List.length_cons] at this
  omega
theorem MT.get (h : MT T) {i : Nat} : T.getD i 0 ≤ 65535 := by
  by_cases hi : i < T.length
  · rw [getD_at hi]; exact h.le _ (List.getElem_mem hi)
  · rw [List.getD_eq_getElem?_getD, List.getElem?_eq_none (by omega)]; simp
theorem MT.add (h : MT T) (ha : a < 10) (hb : b < 10) : MT (metT T a b) := by
  refine ⟨by rw [metT_len]; exact h.len, fun t ht => ?_⟩
  unfold metT at ht
  rcases List.mem_or_eq_of_mem_set ht with ht | ht
  · rcases List.mem_or_eq_of_mem_set ht with ht | ht
    · exact h.le t ht
    · rw [ht]; exact or_le h.get (by omega)
  · rw [ht]; exact or_le h.get (by omega)
theorem met_mono (h : MT T) (ha : a < 10) (hb : b < 10) {i x : Nat} (hx : (T.getD i 0).testBit x = true) : ((metT T a b).getD i 0).testBit x = true := by
  rw [metT_get h.len ha hb]
  split
  · rename_i e; rw [Nat.testBit_or, e, hx]; rfl
  · split
    · rename_i e; rw [Nat.testBit_or, e, hx]; rfl
    · exact hx
theorem addR_mt (hn : n ≤ 10) : ∀ {r : List (Int × Int)} {T T' : List Nat}, MT T → Gm n r → addR T r = some T' → MT T' ∧ ∀ i x, (T.getD i 0).testBit x = true → (T'.getD i 0).testBit x = true
  | [], T, T', h, _, e => by
    obtain rfl : T = T' := by injection e
    exact ⟨h, fun _ _ h => h⟩
  | g :: r, T, T', h, hg, e => by
    have e : (if (T.getD g.1.toNat 0).testBit g.2.toNat = true then none else addR (metT T g.1.toNat g.2.toNat) r) = some T' := e
    have hgg := hg g (by simp)
    split at e
    · cases e
    · obtain ⟨h1, h2⟩ := addR_mt hn (h.add (a := g.1.toNat) (b := g.2.toNat) (by omega) (by omega)) (fun x hx => hg x (by simp [hx])) e
      exact ⟨h1, fun i x hx => h2 i x (met_mono h (by omega) (by omega) hx)⟩
/-- A round with the missing game, whose games are all new: fewer are missing. -/
theorem unm_step (hn : n ≤ 10) (h : MT T) (hg : Gm n r) (hm : mss n (T.getD 0 0) = some a) (h0 : r.getD 0 (0, 0) = (0, (a : Int))) (hne : r ≠ []) (e : addR T r = some T') : unm n (T'.getD 0 0) < unm n (T.getD 0 0) := by
  obtain ⟨m1, m2, m3, m4⟩ := mss_some hm
  obtain ⟨h1, h2⟩ := addR_mt hn h hg e
  refine unm_lt (h2 0) m1 m2 m3 ?_
  cases r with
  | nil => exact absurd rfl hne
  | cons g r =>
    have h0 : g = (0, (a : Int)) := h0
    subst h0
    have e : (if (T.getD 0 0).testBit a = true then none else addR (metT T 0 a) r) = some T' := e
    rw [if_neg (by rw [m3]; simp)] at e
    obtain ⟨_, h3⟩ := addR_mt hn (h.add (a := 0) (b := a) (by omega) (by omega)) (fun x hx => hg x (by simp [hx])) e
    refine h3 0 a ?_
    rw [metT_get h.len (by omega) (by omega), if_neg (by omega), if_pos rfl, Nat.testBit_or, Nat.testBit_two_pow]
    simp
/-- What pairings go through. -/
theorem prE_mem : ∀ {f : Nat} {L : List (Int × Int)} {m : Nat}, St n L m f → ∀ r ∈ prE n f L m, ∃ m', St n r m' 0
  | 0, L, m, s, r, hr => by
    have hr : r ∈ [L] := hr
    rw [List.mem_singleton.1 hr]; exact ⟨m, s⟩
  | f + 1, L, m, s, r, hr => by
    obtain ⟨x, hx, hr⟩ := List.mem_flatMap.1 hr
    have hx : x < n := by simpa using hx
    obtain ⟨t0, ht0, hf0⟩ := s.free
    obtain ⟨t, ht, hbt, hall⟩ : ∃ t, t < n ∧ m.testBit t = false ∧ ∀ x, x < t → m.testBit x = true := by
      clear hr
      induction t0 using Nat.strongRecOn with
      | _ t0 ih =>
        by_cases h : ∃ x, x < t0 ∧ m.testBit x = false
        · obtain ⟨x, h1, h2⟩ := h
          exact ih x h1 (by omega) h2
        · exact ⟨t0, ht0, hf0, fun x hx => by
            cases hb : m.testBit x with
            | true => rfl
            | false => exact absurd ⟨x, hx, hb⟩ h⟩
    have hhm : hm n m = t := hm_eq (Nat.zero_le _) (by omega) (fun x _ hx => hall x hx) hbt
    unfold prG at hr
    split at hr
    · cases hr
    · rename_i hno
      rw [hhm] at hr hno
      have hbx : m.testBit x = false := by
        cases hb : m.testBit x with
        | false => rfl
        | true => exact absurd (.inl hb) hno
      exact prE_mem (s.on ht hx hbt hbx (fun e => hno (.inr e.symm))) r hr
theorem St.gm (s : St n r m 0) : Gm n r := fun e he => by
  have h1 := s.rg _ (pl_mem he).1
  have h2 := s.rg _ (pl_mem he).2
  refine ⟨h1, h2, fun q => ?_⟩
  have := s.nd
  have key : ∀ l : List (Int × Int), (plL l).Nodup → e ∈ l → False := fun l => by
    induction l with
    | nil => intro _ h; cases h
    | cons g l ih =>
      intro hn h
      have hn : (g.1 :: g.2 :: plL l).Nodup := hn
      obtain ⟨n1, n2⟩ := List.nodup_cons.1 hn
      obtain ⟨n3, n4⟩ := List.nodup_cons.1 n2
      rcases List.mem_cons.1 h with h | h
      · subst h; exact n1 (by rw [q]; simp)
      · exact ih n4 h
  exact key r this he
end
/-! ### The first game that is missing -/
section
variable {fs : T EF} {h : H} {n : Nat} {T : List Nat}
theorem cells10 {T : List Nat} (h : T.length = 10) : cellsN 10 (.agg (T.map uE)) = some (T.map uE) := by
  show (bif Nat.beq (lenL (T.map uE)) 10 then some (T.map uE) else none) = _
  rw [lenL_eq, List.length_map, h]; rfl
def msG (o : Option Nat) : V := match o with | none => .agg [.i .i64 0, .i .i64 0] | some a => .agg [.i .i64 0, .i .i64 (a : Int)]
def f90_I (h : H) (id4 : K) (n t : Nat) (id2 : K) (a : Nat) (fr : Fr) (h1 : H) : Prop := 1 ≤ a ∧ a ≤ n ∧ h1 = h ∧ (∀ x, 1 ≤ x → x < a → t.testBit x = true) ∧ msF t (n - a) a = mss n t ∧ fr.get (K.ofNat 1) = some (.i .i64 (n : Int)) ∧ fr.get (K.ofNat 2) = some (.p id2 0) ∧ fr.get (K.ofNat 4) = some (.p id4 0) ∧ fr.get (K.ofNat 6) = some (.i .i64 (a : Int))
theorem f90_ret (k76 : fs.get (K.ofNat 76) = some f76) (hT : MT T) (hn1 : 1 ≤ n) (hn : n ≤ 10) : Ret fs f90 [.agg (T.map uE), .i .i64 (n : Int)] h fun r h' => r = .tup [msG (mss n (T.getD 0 0)), .b (mss n (T.getD 0 0)).isSome] ∧ Grow h.nx.nat h h' := by
  apply ret_of rfl
  show W fs none f90_c _ _ _
  unfold f90_c
  have hcs := cells10 hT.len
  have g1 : Grow h.nx.nat h (h.new (.cells 10 (T.map uE))) := Grow.new (Nat.le_refl _) _
  have n1 := nx_new h (.cells 10 (T.map uE))
  have e1 : (h.new (.cells 10 (T.map uE))).get h.nx = .cells 10 (T.map uE) := get_new_same
  generalize hh1 : h.new (.cells 10 (T.map uE)) = h1 at *
  have n2 := nx_new h1 (.cells 2 [.i .i64 0, .i .i64 0])
  have g2 : Grow h1.nx.nat h1 (h1.new (.cells 2 [.i .i64 0, .i .i64 0])) := Grow.new (Nat.le_refl _) _
  have e2 : (h1.new (.cells 2 [.i .i64 0, .i .i64 0])).get h1.nx = .cells 2 [.i .i64 0, .i .i64 0] := get_new_same
  simp (disch := omega) only [f90_r0, f90_r1, w_reg, w_seq, w_block, seqK_n, x_nil, x_as, x_alloc, x_box, kx, rvP_ok, ev_t, ev_c, getV_some, putD_some, oGet_s, frame_2, of0, of1, getK_set, Nat.reduceEqDiff, ↓reduceIte, hcs, hh1]
  generalize h1.new (.cells 2 [.i .i64 0, .i .i64 0]) = h2 at *
  have e1' : h2.get h.nx = .cells 10 (T.map uE) := (g2.old _ (by omega)).trans e1
  have lt2 : h1.nx.nat < h2.nx.nat := by omega
  have ld : loadV h2 (.p h.nx (0 + 0 * 1)) one? = .ok (.i .u16 (T.getD 0 0 : Int)) h2 := by
    have hl := hT.len
    rw [getD_at (show 0 < T.length by omega)]
    exact Ar.ld (e := uE) (L := T) (by unfold Ar; rw [hl]; exact e1') (i := 0) (by omega)
  have hmx : T.getD 0 0 ≤ 65535 := hT.get
  have gA : Grow h.nx.nat h h2 := g1.trans (g2.low (by omega))
  generalize T.getD 0 0 = t at *
  have e2' := e2
  generalize hid4 : h1.nx = id4 at *
  have hle : h.nx.nat ≤ id4.nat := by omega
  generalize h.nx = id2 at *
  refine W_loop (f90_I h2 id4 n t id2) (fun a => n - a) ?_ 1 ⟨Nat.le_refl _, hn1, rfl, fun x h1 h2 => by omega, rfl, by simp (disch := omega) only [getK_set, Nat.reduceEqDiff, ↓reduceIte, and_self, Int.natCast_one]⟩
  rintro a fr h3 ⟨ha1, ha, rfl, hall, hms, g1', g2', g4, g6⟩
  unfold f90_l0
  by_cases hlt : a < n
  · have d0 : decide ((a : Int) < (n : Int)) = true := decide_eq_true (by omega)
    have ix : ∀ f : Nat → RV, idxV (.i .i64 0) 10 f = f 0 := fun f => rfl
    obtain ⟨k, hk⟩ : ∃ k, n - a = k + 1 := ⟨n - a - 1, by omega⟩
    rw [hk] at hms
    have hms : (if t.testBit a then msF t k (a + 1) else some a) = mss n t := hms
    simp (disch := omega) only [f90_r2, f90_r3, w_skip, w_reg, w_seq, w_cond, w_block, seqK_n, ckB_b, cbB_b, true_and, x_nil, x_mv, x_ld, x_bin, x_iadr, x_call, kx, rvP_ok, okv_some, ev_t, ev_c, evs_nil, evs_cons, getV_some, putD_some, bin_lss, onP_p, of0, getK_set, Nat.reduceEqDiff, ↓reduceIte, g6, g1', g2', d0, ix, ld]
    refine (callP_0 (ef := f76) k76 rfl (f76_ret hmx (show a ≤ 15 by omega))).mono ?_
    rintro r h4 ⟨rfl, e4⟩
    rw [e4]
    clear e4 h4
    cases hb : t.testBit a with
    | true =>
      rw [if_pos hb] at hms
      simp (disch := omega) only [f90_r5, w_skip, w_reg, w_cond, seqK_n, atK_n, loopK_n, ckB_b, cbB_b, true_and, x_nil, x_mv, x_as, x_bin, x_not, kx, rvP_ok, okv_some, ev_t, ev_c, getV_some, putD_some, bin_add, onB_b, of1, getK_set, Nat.reduceEqDiff, ↓reduceIte, Bool.false_eq_true, Bool.not_true, g6, fw64]
      refine ⟨a + 1, by omega, by omega, by omega, rfl, fun x h1 h2 => ?_, by rw [show n - (a + 1) = k by omega]; exact hms, by simp (disch := omega) only [getK_set, Nat.reduceEqDiff, ↓reduceIte, g1', g2', g4, and_self, Int.natCast_add, Int.natCast_one]⟩
      by_cases e : x = a
      · rw [e]; exact hb
      · exact hall x h1 (by omega)
    | false =>
      rw [if_neg (by rw [hb]; simp)] at hms
      have st : storeV h3 2 (.p id4 0) (.agg [.i .i64 0, .i .i64 (a : Int)]) = .ok undefV (h3.put id4 (.cells 2 [.i .i64 0, .i .i64 (a : Int)])) := by
        rw [store_p (cs := [.i .i64 0, .i .i64 0]) (xs := [.i .i64 0, .i .i64 (a : Int)]) e2' rfl (Nat.le_refl 2)]; rfl
      have lr : readP (h3.put id4 (.cells 2 [.i .i64 0, .i .i64 (a : Int)])) (.p id4 0) (many? 2) = some (.agg [.i .i64 0, .i .i64 (a : Int)]) := ldn2_r get_put_same
      simp (disch := omega) only [f90_r4, f90_rs, w_reg, w_seq, w_cond, w_ret, seqK_n, seqK_r, atK_r, loopK_r, ckB_b, cbB_b, true_and, retK_r, x_nil, x_mv, x_as, x_build, x_st, x_not, kx, rvP_ok, ev_t, ev_c, getV_some, putD_some, putD_none, onB_b, oGet_s, readRs_nil, readRs_t, readRs_n, retV_2, cells1_i, of0, Option.some.injEq, exists_eq_left', getK_set, Nat.reduceEqDiff, ↓reduceIte, Bool.not_false, fill_2, set_2, g6, g4, fill_2, set_2, st, lr]
      rw [← hms]
      exact ⟨rfl, gA.trans (Grow.put hle lt2 _)⟩
  · have d0 : decide ((a : Int) < (n : Int)) = false := decide_eq_false (by omega)
    have ea : n - a = 0 := by omega
    rw [ea] at hms
    have hms : none = mss n t := hms
    have st : storeV h3 2 (.p id4 0) (.agg [.i .i64 0, .i .i64 0]) = .ok undefV (h3.put id4 (.cells 2 [.i .i64 0, .i .i64 0])) := by
      rw [store_p (cs := [.i .i64 0, .i .i64 0]) (xs := [.i .i64 0, .i .i64 0]) e2' rfl (Nat.le_refl 2)]; rfl
    have lr : readP (h3.put id4 (.cells 2 [.i .i64 0, .i .i64 0])) (.p id4 0) (many? 2) = some (.agg [.i .i64 0, .i .i64 0]) := ldn2_r get_put_same
    have fil : ∀ fr : Fr, fillE fr [.i .i64 0, .i .i64 0] [] = some [.i .i64 0, .i .i64 0] := fun _ => rfl
    simp (disch := omega) only [f90_r2, f90_r6, f90_rs, w_reg, w_seq, w_cond, w_exit, w_ret, seqK_n, seqK_e, atK_e, loopK_e, ckB_b, cbB_b, true_and, retK_r, x_nil, x_mv, x_as, x_build, x_st, x_bin, kx, rvP_ok, okv_some, ev_t, ev_c, getV_some, putD_some, putD_none, bin_lss, oGet_s, readRs_nil, readRs_t, readRs_n, retV_2, of0, Option.some.injEq, exists_eq_left', getK_set, Nat.reduceEqDiff, ↓reduceIte, Bool.false_eq_true, g6, g1', g4, d0, fil, st, lr]
    rw [← hms]
    exact ⟨rfl, gA.trans (Grow.put hle lt2 _)⟩
end
end Go.Ev
namespace Go.Ev
open Go Go.RowKit
noncomputable def f72_r0 : List EOper := [⟨(some (K.ofNat 6)), none, .box 100 (.t (K.ofNat 2))⟩, ⟨(some (K.ofNat 8)), none, .as (.c (.b false))⟩]
noncomputable def f72_r1 : List EOper := [⟨(some (K.ofNat 12)), none, .mv (.t (K.ofNat 1))⟩, ⟨(some (K.ofNat 13)), none, .bin .eql (.t (K.ofNat 12)) (.c (.i .i64 (.ofNat 0)))⟩]
noncomputable def f72_r2 : List EOper := [⟨(some (K.ofNat 8)), none, .as (.c (.b true))⟩]
noncomputable def f72_r3 : List EOper := [⟨(some (K.ofNat 9)), none, .as (.c (.i .i64 (.ofNat 0)))⟩]
noncomputable def f72_r4 : List EOper := [⟨(some (K.ofNat 14)), none, .mv (.t (K.ofNat 9))⟩, ⟨(some (K.ofNat 15)), none, .mv (.t (K.ofNat 0))⟩, ⟨(some (K.ofNat 16)), none, .bin .lss (.t (K.ofNat 14)) (.t (K.ofNat 15))⟩, ⟨(some (K.ofNat 17)), none, .mv (.t (K.ofNat 16))⟩, ⟨(some (K.ofNat 18)), (some ((K.ofNat 17), true)), .mv (.t (K.ofNat 3))⟩, ⟨(some (K.ofNat 19)), (some ((K.ofNat 17), true)), .mv (.t (K.ofNat 9))⟩, ⟨(some (K.ofNat 20)), (some ((K.ofNat 17), true)), .bin .shr (.t (K.ofNat 18)) (.t (K.ofNat 19))⟩, ⟨(some (K.ofNat 21)), (some ((K.ofNat 17), true)), .bin .rem (.t (K.ofNat 20)) (.c (.i .i64 (.ofNat 2)))⟩, ⟨(some (K.ofNat 22)), (some ((K.ofNat 17), true)), .bin .eql (.t (K.ofNat 21)) (.c (.i .i64 (.ofNat 1)))⟩, ⟨(some (K.ofNat 23)), none, .pick (.t (K.ofNat 17)) (.t (K.ofNat 22)) (.c (.b false))⟩]
noncomputable def f72_r5 : List EOper := [⟨(some (K.ofNat 24)), none, .mv (.t (K.ofNat 9))⟩, ⟨(some (K.ofNat 25)), none, .bin .add (.t (K.ofNat 24)) (.c (.i .i64 (.ofNat 1)))⟩, ⟨(some (K.ofNat 9)), none, .as (.t (K.ofNat 25))⟩]
noncomputable def f72_l0 : EC := (.seq (.seq (.reg f72_r4) (.cond (.t (K.ofNat 23)) .skip (.exit 0))) (.block 1 (.reg f72_r5)))
noncomputable def f72_r6 : List EOper := [⟨(some (K.ofNat 26)), none, .mv (.t (K.ofNat 9))⟩, ⟨(some (K.ofNat 27)), none, .mv (.t (K.ofNat 0))⟩, ⟨(some (K.ofNat 28)), none, .bin .eql (.t (K.ofNat 26)) (.t (K.ofNat 27))⟩]
noncomputable def f72_r7 : List EOper := [⟨(some (K.ofNat 29)), none, .mv (.t (K.ofNat 0))⟩, ⟨(some (K.ofNat 30)), none, .mv (.t (K.ofNat 1))⟩, ⟨(some (K.ofNat 31)), none, .bin .sub (.t (K.ofNat 30)) (.c (.i .i64 (.ofNat 1)))⟩, ⟨(some (K.ofNat 32)), none, .ldn 100 (.t (K.ofNat 6))⟩, ⟨(some (K.ofNat 33)), none, .call (.c (.fn (K.ofNat 72) [])) [(.t (K.ofNat 29)), (.t (K.ofNat 31)), (.t (K.ofNat 32)), (.c (.i .i64 (.ofNat 0)))]⟩, ⟨(some (K.ofNat 8)), none, .as (.t (K.ofNat 33))⟩]
noncomputable def f72_r8 : List EOper := [⟨(some (K.ofNat 34)), none, .mv (.t (K.ofNat 9))⟩, ⟨(some (K.ofNat 35)), none, .bin .add (.t (K.ofNat 34)) (.c (.i .i64 (.ofNat 1)))⟩, ⟨(some (K.ofNat 10)), none, .as (.t (K.ofNat 35))⟩]
noncomputable def f72_r9 : List EOper := [⟨(some (K.ofNat 36)), none, .mv (.t (K.ofNat 10))⟩, ⟨(some (K.ofNat 37)), none, .mv (.t (K.ofNat 0))⟩, ⟨(some (K.ofNat 38)), none, .bin .lss (.t (K.ofNat 36)) (.t (K.ofNat 37))⟩]
noncomputable def f72_r10 : List EOper := [⟨(some (K.ofNat 41)), none, .mv (.t (K.ofNat 3))⟩, ⟨(some (K.ofNat 42)), none, .mv (.t (K.ofNat 10))⟩, ⟨(some (K.ofNat 43)), none, .bin .shr (.t (K.ofNat 41)) (.t (K.ofNat 42))⟩, ⟨(some (K.ofNat 44)), none, .bin .rem (.t (K.ofNat 43)) (.c (.i .i64 (.ofNat 2)))⟩, ⟨(some (K.ofNat 45)), none, .bin .eql (.t (K.ofNat 44)) (.c (.i .i64 (.ofNat 1)))⟩, ⟨(some (K.ofNat 46)), none, .mv (.t (K.ofNat 45))⟩, ⟨(some (K.ofNat 47)), (some ((K.ofNat 46), false)), .mv (.t (K.ofNat 9))⟩, ⟨(some (K.ofNat 48)), (some ((K.ofNat 46), false)), .bin .mul (.t (K.ofNat 47)) (.c (.i .i64 (.ofNat 10)))⟩, ⟨(some (K.ofNat 49)), (some ((K.ofNat 46), false)), .mv (.t (K.ofNat 10))⟩, ⟨(some (K.ofNat 50)), (some ((K.ofNat 46), false)), .bin .add (.t (K.ofNat 48)) (.t (K.ofNat 49))⟩, ⟨(some (K.ofNat 51)), (some ((K.ofNat 46), false)), .iadr 100 1 (.t (K.ofNat 6)) (.t (K.ofNat 50))⟩, ⟨(some (K.ofNat 52)), (some ((K.ofNat 46), false)), .ld (.t (K.ofNat 51))⟩, ⟨(some (K.ofNat 53)), none, .pick (.t (K.ofNat 46)) (.c (.b true)) (.t (K.ofNat 52))⟩]
noncomputable def f72_r11 : List EOper := [⟨(some (K.ofNat 54)), none, .ldn 100 (.t (K.ofNat 6))⟩, ⟨(some (K.ofNat 11)), none, .alloc 100 (List.replicate 100 (.b false))⟩, ⟨none, none, .st 100 (.t (K.ofNat 11)) (.t (K.ofNat 54))⟩]
noncomputable def f72_r12 : List EOper := [⟨(some (K.ofNat 55)), none, .mv (.t (K.ofNat 9))⟩, ⟨(some (K.ofNat 56)), none, .bin .mul (.t (K.ofNat 55)) (.c (.i .i64 (.ofNat 10)))⟩, ⟨(some (K.ofNat 57)), none, .mv (.t (K.ofNat 10))⟩, ⟨(some (K.ofNat 58)), none, .bin .add (.t (K.ofNat 56)) (.t (K.ofNat 57))⟩, ⟨(some (K.ofNat 59)), none, .iadr 100 1 (.t (K.ofNat 11)) (.t (K.ofNat 58))⟩, ⟨none, none, .st 1 (.t (K.ofNat 59)) (.c (.b true))⟩]
noncomputable def f72_r13 : List EOper := [⟨(some (K.ofNat 60)), none, .mv (.t (K.ofNat 10))⟩, ⟨(some (K.ofNat 61)), none, .bin .mul (.t (K.ofNat 60)) (.c (.i .i64 (.ofNat 10)))⟩, ⟨(some (K.ofNat 62)), none, .mv (.t (K.ofNat 9))⟩, ⟨(some (K.ofNat 63)), none, .bin .add (.t (K.ofNat 61)) (.t (K.ofNat 62))⟩, ⟨(some (K.ofNat 64)), none, .iadr 100 1 (.t (K.ofNat 11)) (.t (K.ofNat 63))⟩, ⟨none, none, .st 1 (.t (K.ofNat 64)) (.c (.b true))⟩]
noncomputable def f72_r14 : List Stage := [⟨[⟨(some (K.ofNat 65)), none, .mv (.t (K.ofNat 0))⟩, ⟨(some (K.ofNat 66)), none, .mv (.t (K.ofNat 1))⟩, ⟨(some (K.ofNat 67)), none, .ldn 100 (.t (K.ofNat 11))⟩, ⟨(some (K.ofNat 68)), none, .mv (.t (K.ofNat 3))⟩, ⟨(some (K.ofNat 69)), none, .mv (.t (K.ofNat 9))⟩, ⟨(some (K.ofNat 70)), none, .bin .shl (.c (.i .i64 (.ofNat 1))) (.t (K.ofNat 69))⟩, ⟨(some (K.ofNat 71)), none, .bin .or (.t (K.ofNat 68)) (.t (K.ofNat 70))⟩, ⟨(some (K.ofNat 72)), none, .mv (.t (K.ofNat 10))⟩, ⟨(some (K.ofNat 73)), none, .bin .shl (.c (.i .i64 (.ofNat 1))) (.t (K.ofNat 72))⟩, ⟨(some (K.ofNat 74)), none, .bin .or (.t (K.ofNat 71)) (.t (K.ofNat 73))⟩], [], (some ⟨(some (K.ofNat 75)), none, .call (.c (.fn (K.ofNat 72) [])) [(.t (K.ofNat 65)), (.t (K.ofNat 66)), (.t (K.ofNat 67)), (.t (K.ofNat 74))]⟩), []⟩, ⟨[], [], none, []⟩]
noncomputable def f72_r15 : List EOper := [⟨(some (K.ofNat 8)), none, .as (.c (.b true))⟩]
noncomputable def f72_r16 : List EOper := [⟨(some (K.ofNat 76)), none, .mv (.t (K.ofNat 3))⟩, ⟨(some (K.ofNat 77)), none, .bin .eql (.t (K.ofNat 76)) (.c (.i .i64 (.ofNat 0)))⟩]
noncomputable def f72_r17 : List EOper := [⟨(some (K.ofNat 8)), none, .as (.c (.b false))⟩]
noncomputable def f72_r18 : List EOper := [⟨(some (K.ofNat 39)), none, .mv (.t (K.ofNat 10))⟩, ⟨(some (K.ofNat 40)), none, .bin .add (.t (K.ofNat 39)) (.c (.i .i64 (.ofNat 1)))⟩, ⟨(some (K.ofNat 10)), none, .as (.t (K.ofNat 40))⟩]
noncomputable def f72_l1 : EC := (.seq (.seq (.reg f72_r9) (.cond (.t (K.ofNat 38)) .skip (.exit 2))) (.seq (.block 3 (.seq (.seq (.reg f72_r10) (.cond (.t (K.ofNat 53)) (.exit 3) .skip)) (.seq (.reg f72_r11) (.seq (.reg f72_r12) (.seq (.reg f72_r13) (.seq (.seq (.draw f72_r14) (.cond (.t (K.ofNat 75)) (.seq (.reg f72_r15) .ret) .skip)) (.seq (.reg f72_r16) (.cond (.t (K.ofNat 77)) (.seq (.reg f72_r17) .ret) .skip)))))))) (.reg f72_r18)))
noncomputable def f72_r19 : List EOper := [⟨(some (K.ofNat 8)), none, .as (.c (.b false))⟩]
noncomputable def f72_c : EC := (.seq (.reg f72_r0) (.seq (.seq (.reg f72_r1) (.cond (.t (K.ofNat 13)) (.seq (.reg f72_r2) .ret) .skip)) (.seq (.reg f72_r3) (.seq (.block 0 (.loop f72_l0)) (.seq (.seq (.reg f72_r6) (.cond (.t (K.ofNat 28)) (.seq (.reg f72_r7) .ret) .skip)) (.seq (.seq (.reg f72_r8) (.block 2 (.loop f72_l1))) (.seq (.reg f72_r19) .ret)))))))
noncomputable def f72 : EF := ⟨78, [.tmp (K.ofNat 8)], f72_c, none⟩
theorem f72_rs : f72.rs = [.tmp (K.ofNat 8)] := of_eq_true (eq_self _)
/-! ### The search of the reference -/
def canU (g skip : Nat → Bool) (m : Nat) : List Nat → Bool
  | [] => false
  | u :: us => if skip u = true then canU g skip m us else if g u = true then true else if m = 0 then false else canU g skip m us
def mset (M : List Bool) (x y : Nat) : List Bool := (M.set (x * 10 + y) true).set (y * 10 + x) true
/-- The first team that is free; n if none is. -/
def ft (n m : Nat) : Nat := hmF m n 0
def canP (n : Nat) : Nat → Nat → List Bool → Nat → Bool
  | 0, left, _, _ => decide (left = 0)
  | k + 1, left, M, m => if left = 0 then true else if ft n m = n then canP n k (left - 1) M 0 else
      canU (fun u => canP n k left (mset M (ft n m) u) (m ||| 2 ^ ft n m ||| 2 ^ u)) (fun u => m.testBit u || M.getD (ft n m * 10 + u) false) m (List.range' (ft n m + 1) (n - (ft n m + 1)))
def frn (n m : Nat) : Nat := ((List.range n).filter fun a => !m.testBit a).length
theorem hmF_prop {m : Nat} : ∀ {k s : Nat}, s ≤ hmF m k s ∧ hmF m k s ≤ s + k ∧ (∀ x, s ≤ x → x < hmF m k s → m.testBit x = true) ∧ (hmF m k s < s + k → m.testBit (hmF m k s) = false)
  | 0, s => ⟨Nat.le_refl s, Nat.le_refl s, fun x h1 h2 => by have h2 : x < s := h2; omega, fun h => by have h : s < s + 0 := h; omega⟩
  | k + 1, s => by
    have hd : hmF m (k + 1) s = if m.testBit s then hmF m k (s + 1) else s := rfl
    cases hb : m.testBit s with
    | true =>
      rw [if_pos hb] at hd
      obtain ⟨h1, h2, h3, h4⟩ := hmF_prop (m := m) (k := k) (s := s + 1)
      rw [hd]
      refine ⟨by omega, by omega, fun x hx hx2 => ?_, fun h => h4 (by omega)⟩
      by_cases e : x = s
      · rw [e]; exact hb
      · exact h3 x (by omega) hx2
    | false =>
      rw [if_neg (by rw [hb]; simp)] at hd
      rw [hd]
      exact ⟨Nat.le_refl _, by omega, fun x h1 h2 => by omega, fun _ => hb⟩
theorem ft_prop {n m : Nat} : ft n m ≤ n ∧ (∀ x, x < ft n m → m.testBit x = true) ∧ (ft n m < n → m.testBit (ft n m) = false) := by
  obtain ⟨_, h2, h3, h4⟩ := hmF_prop (m := m) (k := n) (s := 0)
  exact ⟨by unfold ft; omega, fun x hx => h3 x (Nat.zero_le _) hx, fun h => h4 (by unfold ft at h; omega)⟩
theorem frn_lt {n m m' t : Nat} (ht : t < n) (h1 : m.testBit t = false) (h2 : m'.testBit t = true) (hm : ∀ x, m.testBit x = true → m'.testBit x = true) : frn n m' < frn n m := by
  unfold frn
  have hd : ((List.range n).filter fun a => !m'.testBit a).Nodup := List.nodup_range.filter _
  have := nodup_le (l := t :: (List.range n).filter fun a => !m'.testBit a) (m := (List.range n).filter fun a => !m.testBit a) (List.nodup_cons.2 ⟨fun hmem => by
    have := (List.mem_filter.1 hmem).2
    rw [h2] at this; simp at this, hd⟩) fun x hx => by
    rcases List.mem_cons.1 hx with rfl | hx
    · exact List.mem_filter.2 ⟨by simpa using ht, by rw [h1]; rfl⟩
    · obtain ⟨x1, x2⟩ := List.mem_filter.1 hx
      refine List.mem_filter.2 ⟨x1, ?_⟩
      cases hb : m.testBit x with
      | false => rfl
      | true => rw [hm x hb] at x2; cases x2
  rw [List.length_cons] at this
  omega
theorem frn_le {n m : Nat} : frn n m ≤ n := by
  unfold frn
  have := List.length_filter_le (fun a => !m.testBit a) (List.range n)
  simpa using this
section
variable {fs : T EF}
theorem cells100 {M : List Bool} (h : M.length = 100) : cellsN 100 (.agg (M.map V.b)) = some (M.map V.b) := by
  show (bif Nat.beq (lenL (M.map V.b)) 100 then some (M.map V.b) else none) = _
  rw [lenL_eq, List.length_map, h]; rfl
theorem st100 {h : H} {id : K} {cs0 : List V} {M : List Bool} (hb : h.get id = .cells 100 cs0) (hl : cs0.length = 100) (hM : M.length = 100) : storeV h 100 (.p id 0) (.agg (M.map V.b)) = .ok undefV (h.put id (.cells 100 (M.map V.b))) := by
  rw [store_p hb (cells100 hM) (by omega), setMany_eq _ _ _ (by simp; omega)]
  congr 3
  simp [hl, hM]
def f72_A (h : H) (n left m : Nat) (id6 : K) (t : Nat) (fr : Fr) (h1 : H) : Prop := t ≤ ft n m ∧ h1 = h ∧ fr.get (K.ofNat 0) = some (.i .i64 (n : Int)) ∧ fr.get (K.ofNat 1) = some (.i .i64 (left : Int)) ∧ fr.get (K.ofNat 3) = some (.i .i64 (m : Int)) ∧ fr.get (K.ofNat 6) = some (.p id6 0) ∧ fr.get (K.ofNat 9) = some (.i .i64 (t : Int))
def f72_B (h : H) (n left m k : Nat) (M : List Bool) (id6 : K) (u : Nat) (fr : Fr) (h1 : H) : Prop := ft n m < u ∧ u ≤ n ∧ Grow h.nx.nat h h1 ∧
  canP n (k + 1) left M m = canU (fun u => canP n k left (mset M (ft n m) u) (m ||| 2 ^ ft n m ||| 2 ^ u)) (fun u => m.testBit u || M.getD (ft n m * 10 + u) false) m (List.range' u (n - u)) ∧ fr.get (K.ofNat 0) = some (.i .i64 (n : Int)) ∧ fr.get (K.ofNat 1) = some (.i .i64 (left : Int)) ∧ fr.get (K.ofNat 3) = some (.i .i64 (m : Int)) ∧ fr.get (K.ofNat 6) = some (.p id6 0) ∧ fr.get (K.ofNat 9) = some (.i .i64 (ft n m : Int)) ∧ fr.get (K.ofNat 10) = some (.i .i64 (u : Int))
theorem f72_ret {n : Nat} (k72 : fs.get (K.ofNat 72) = some f72) (hn : n ≤ 10) : ∀ (k left : Nat) (M : List Bool) (m : Nat) (h : H), M.length = 100 → m < 2 ^ n → left ≤ 20 → (left = 0 ∨ (left - 1) * (n + 1) + frn n m + 1 ≤ k) → HC h →
    Ret fs f72 [.i .i64 (n : Int), .i .i64 (left : Int), .agg (M.map V.b), .i .i64 (m : Int)] h fun r h' => r = .b (canP n k left M m) ∧ Grow h.nx.nat h h' := by
  intro k
  induction k with
  | zero =>
    intro left M m h hM hm hl hk hc
    have e0 : left = 0 := by omega
    subst e0
    have hcs := cells100 hM
    have d0 : decide (((0 : Nat) : Int) = 0) = true := rfl
    have gA : Grow h.nx.nat h (h.new (.cells 100 (M.map V.b))) := Grow.new (Nat.le_refl _) _
    apply ret_of rfl
    show W fs none f72_c _ _ _
    unfold f72_c
    simp (disch := omega) only [f72_r0, f72_r1, f72_r2, f72_rs, w_reg, w_seq, w_cond, w_ret, seqK_n, seqK_r, ckB_b, cbB_b, true_and, retK_r, x_nil, x_mv, x_as, x_box, x_bin, kx, rvP_ok, okv_some, ev_t, ev_c, getV_some, putD_some, bin_eql, oGet_s, readRs_nil, readRs_t, retV_1, frame_4, of0, Option.some.injEq, exists_eq_left', getK_set, Nat.reduceEqDiff, ↓reduceIte, hcs, d0]
    exact ⟨rfl, gA⟩
  | succ k ih =>
    intro left M m h hM hm hl hk hc
    have hcs := cells100 hM
    have gA : Grow h.nx.nat h (h.new (.cells 100 (M.map V.b))) := Grow.new (Nat.le_refl _) _
    have nA := nx_new h (.cells 100 (M.map V.b))
    have eA : (h.new (.cells 100 (M.map V.b))).get h.nx = .cells 100 (M.map V.b) := get_new_same
    have hp : 2 ^ n ≤ 1024 := by
      have := Nat.pow_le_pow_right (show 0 < 2 by omega) hn
      have e : 2 ^ 10 = 1024 := by decide
      omega
    apply ret_of rfl
    show W fs none f72_c _ _ _
    unfold f72_c
    by_cases hl0 : left = 0
    · have d0 : decide ((left : Int) = 0) = true := decide_eq_true (by omega)
      simp (disch := omega) only [f72_r0, f72_r1, f72_r2, f72_rs, w_reg, w_seq, w_cond, w_ret, seqK_n, seqK_r, ckB_b, cbB_b, true_and, retK_r, x_nil, x_mv, x_as, x_box, x_bin, kx, rvP_ok, okv_some, ev_t, ev_c, getV_some, putD_some, bin_eql, oGet_s, readRs_nil, readRs_t, retV_1, frame_4, of0, Option.some.injEq, exists_eq_left', getK_set, Nat.reduceEqDiff, ↓reduceIte, hcs, d0]
      refine ⟨?_, gA⟩
      show V.b true = V.b (if left = 0 then true else _)
      rw [if_pos hl0]
    · have d0 : decide ((left : Int) = 0) = false := decide_eq_false (by omega)
      have hcp : canP n (k + 1) left M m = if ft n m = n then canP n k (left - 1) M 0 else canU (fun u => canP n k left (mset M (ft n m) u) (m ||| 2 ^ ft n m ||| 2 ^ u)) (fun u => m.testBit u || M.getD (ft n m * 10 + u) false) m (List.range' (ft n m + 1) (n - (ft n m + 1))) := by
        show (if left = 0 then true else _) = _
        rw [if_neg hl0]
      obtain ⟨f1, f2, f3⟩ := ft_prop (n := n) (m := m)
      simp (disch := omega) only [f72_r0, f72_r1, f72_r3, w_skip, w_reg, w_seq, w_cond, w_block, seqK_n, ckB_b, cbB_b, true_and, x_nil, x_mv, x_as, x_box, x_bin, kx, rvP_ok, okv_some, ev_t, ev_c, getV_some, putD_some, bin_eql, oGet_s, frame_4, of0, getK_set, Nat.reduceEqDiff, ↓reduceIte, Bool.false_eq_true, hcs, d0]
      have hcA := gA.hc hc
      generalize hid6 : h.nx = id6 at *
      generalize h.new (.cells 100 (M.map V.b)) = hA at *
      refine W_loop (f72_A hA n left m id6) (fun t => n - t) ?_ 0 ⟨Nat.zero_le _, rfl, by simp (disch := omega) only [getK_set, Nat.reduceEqDiff, ↓reduceIte, and_self, Int.natCast_zero]⟩
      rintro t fr h1 ⟨ht, rfl, g0, g1, g3, g6, g9⟩
      unfold f72_l0
      obtain ⟨s1, s2, s3, _, _⟩ := bit_i (m := m) (x := t) (by omega)
      by_cases hlt : t < ft n m
      · have d1 : decide ((t : Int) < (n : Int)) = true := decide_eq_true (by omega)
        rw [f2 t hlt] at s3
        simp (disch := omega) only [f72_r4, f72_r5, w_skip, w_reg, w_seq, w_cond, w_block, seqK_n, atK_n, loopK_n, ckB_b, cbB_b, okG_b, asG_t, true_and, x_nil, x_g, x_mv, x_as, x_pick, x_bin, kx, rvP_ok, okv_some, ev_t, ev_c, getV_some, putD_some, bin_add, bin_eql, bin_lss, bin_rem, pick_b, of1, of2, getK_set, Nat.reduceEqDiff, ↓reduceIte, g0, g3, g9, d1, s1, s2, s3, fw64]
        exact ⟨t + 1, by omega, by omega, rfl, by simp (disch := omega) only [getK_set, Nat.reduceEqDiff, ↓reduceIte, g0, g1, g3, g6, and_self, Int.natCast_add, Int.natCast_one]⟩
      · have et : t = ft n m := by omega
        by_cases hft : ft n m = n
        · rw [if_pos hft] at hcp
          have d1 : decide ((t : Int) < (n : Int)) = false := decide_eq_false (by omega)
          have d2 : decide ((t : Int) = (n : Int)) = true := decide_eq_true (by omega)
          have l6 : loadV h1 (.p id6 0) (many? 100) = .ok (.agg (M.map V.b)) h1 := Ar.ldn (e := V.b) (L := M) (by unfold Ar; rw [hM]; exact eA) hM.symm
          have e1 : (left : Int) - 1 = ((left - 1 : Nat) : Int) := by omega
          have z0 : V.i .i64 0 = V.i .i64 ((0 : Nat) : Int) := rfl
          simp (disch := omega) only [f72_r4, f72_r6, f72_r7, w_reg, w_seq, w_cond, w_exit, seqK_n, seqK_e, atK_e, loopK_e, ckB_b, cbB_b, okG_b, asG_t, true_and, x_nil, x_g, x_mv, x_pick, x_ldn, x_bin, x_call, kx, rvP_ok, okv_some, ev_t, ev_c, evs_nil, evs_cons, getV_some, putD_some, bin_sub, bin_eql, bin_lss, pick_b, of0, of1, of2, getK_set, Nat.reduceEqDiff, ↓reduceIte, Bool.false_eq_true, g0, g1, g6, g9, d1, d2, l6, e1, fw64]
          refine (callP_0 (ef := f72) k72 rfl (ih (left - 1) M 0 h1 hM (Nat.two_pow_pos n) (by omega) ?_ hcA)).mono ?_
          · rcases Nat.eq_zero_or_pos (left - 1) with e | e
            · exact .inl e
            · right
              have h5 := frn_le (n := n) (m := 0)
              obtain ⟨q, hq⟩ : ∃ q, left = q + 2 := ⟨left - 2, by omega⟩
              subst hq
              rcases hk with hk | hk
              · omega
              · rw [show q + 2 - 1 = q + 1 by omega, Nat.succ_mul] at hk
                rw [show q + 2 - 1 - 1 = q by omega]
                omega
          · rintro r h2 ⟨rfl, hG2⟩
            simp (disch := omega) only [f72_rs, w_ret, seqK_n, seqK_r, retK_r, x_nil, x_as, kx, ev_t, getV_some, putD_some, oGet_s, readRs_nil, readRs_t, retV_1, Option.some.injEq, exists_eq_left', getK_set, ↓reduceIte]
            exact ⟨by rw [hcp], gA.trans (hG2.low (by omega))⟩
        · rw [if_neg hft] at hcp
          have hfn : ft n m < n := by omega
          have hb := f3 hfn
          have d1 : decide ((t : Int) < (n : Int)) = true := decide_eq_true (by omega)
          have d2 : decide ((t : Int) = (n : Int)) = false := decide_eq_false (by omega)
          rw [et] at s1 s2 s3 g9 d1 d2
          rw [hb] at s3
          simp (disch := omega) only [f72_r4, f72_r6, f72_r8, w_skip, w_reg, w_seq, w_cond, w_block, w_exit, seqK_n, seqK_e, atK_e, loopK_e, ckB_b, cbB_b, okG_b, asG_t, true_and, x_nil, x_g, x_mv, x_as, x_pick, x_bin, kx, rvP_ok, okv_some, ev_t, ev_c, getV_some, putD_some, bin_add, bin_eql, bin_lss, bin_rem, pick_b, of1, of2, getK_set, Nat.reduceEqDiff, ↓reduceIte, Bool.false_eq_true, g0, g3, g9, d1, d2, s1, s2, s3, fw64]
          refine W_loop (f72_B h1 n left m k M id6) (fun u => n - u) ?_ (ft n m + 1) ⟨by omega, by omega, Grow.refl _ _, hcp, by simp (disch := omega) only [getK_set, Nat.reduceEqDiff, ↓reduceIte, g0, g1, g3, g6, g9, and_self, Int.natCast_add, Int.natCast_one]⟩
          clear g0 g1 g3 g6 g9 fr s1 s2 s3 d1 d2
          rintro u fr h2 ⟨hu1, hu2, hG, hcan, g0, g1, g3, g6, g9, g10⟩
          have hc2 := hG.hc hcA
          have hG0 : Grow id6.nat h h2 := gA.trans (hG.low (by omega))
          have e6 : h2.get id6 = .cells 100 (M.map V.b) := (hG.old _ (by omega)).trans eA
          unfold f72_l1
          by_cases hlt2 : u < n
          · have d1 : decide ((u : Int) < (n : Int)) = true := decide_eq_true (by omega)
            obtain ⟨q, hq⟩ : ∃ q, n - u = q + 1 := ⟨n - u - 1, by omega⟩
            rw [hq, List.range'_succ] at hcan
            have hq2 : n - (u + 1) = q := by omega
            obtain ⟨s1, s2, s3, su, _⟩ := bit_i (m := m) (x := u) (by omega)
            obtain ⟨_, _, _, st, _⟩ := bit_i (m := m) (x := ft n m) (by omega)
            have hidx : ft n m * 10 + u < M.length := by omega
            have e2 : (ft n m : Int) * 10 = ((ft n m * 10 : Nat) : Int) := by omega
            have e3 : ((ft n m * 10 : Nat) : Int) + (u : Int) = ((ft n m * 10 + u : Nat) : Int) := by omega
            have ix : ∀ f : Nat → RV, idxV (.i .i64 ((ft n m * 10 + u : Nat) : Int)) 100 f = f (ft n m * 10 + u) := fun f => idx_n (by omega)
            have ldb : loadV h2 (.p id6 (0 + (ft n m * 10 + u) * 1)) one? = .ok (.b (M.getD (ft n m * 10 + u) false)) h2 := by
              rw [getD_at hidx]
              exact Ar.ld (e := V.b) (L := M) (by unfold Ar; rw [hM]; exact e6) hidx
            have hstep : canP n (k + 1) left M m = if (m.testBit u || M.getD (ft n m * 10 + u) false) = true then canU (fun u => canP n k left (mset M (ft n m) u) (m ||| 2 ^ ft n m ||| 2 ^ u)) (fun u => m.testBit u || M.getD (ft n m * 10 + u) false) m (List.range' (u + 1) q) else if canP n k left (mset M (ft n m) u) (m ||| 2 ^ ft n m ||| 2 ^ u) = true then true else if m = 0 then false else canU (fun u => canP n k left (mset M (ft n m) u) (m ||| 2 ^ ft n m ||| 2 ^ u)) (fun u => m.testBit u || M.getD (ft n m * 10 + u) false) m (List.range' (u + 1) q) := hcan
            rw [← hq2] at hstep
            cases hbu : m.testBit u with
            | true =>
              rw [hbu] at s3 hstep
              rw [if_pos (by simp)] at hstep
              simp (disch := omega) only [f72_r9, f72_r10, f72_r18, w_skip, w_reg, w_seq, w_cond, w_block, w_exit, seqK_n, seqK_e, atK_e, loopK_n, ckB_b, cbB_b, okG_b, asG_f, true_and, x_nil, x_g, x_mv, x_as, x_pick, x_bin, kx, rvP_ok, okv_some, ev_t, ev_c, getV_some, putD_some, bin_add, bin_eql, bin_lss, bin_rem, pick_b, of1, of2, of10, getK_set, Nat.reduceEqDiff, ↓reduceIte, Bool.false_eq_true, Bool.not_true, g0, g3, g10, d1, s1, s2, s3, fw64]
              exact ⟨u + 1, by omega, by omega, by omega, hG, hstep, by simp (disch := omega) only [getK_set, Nat.reduceEqDiff, ↓reduceIte, g0, g1, g3, g6, g9, and_self, Int.natCast_add, Int.natCast_one]⟩
            | false =>
              rw [hbu] at s3 hstep
              cases hMb : M.getD (ft n m * 10 + u) false with
              | true =>
                rw [hMb] at ldb hstep
                rw [if_pos (by simp)] at hstep
                simp (disch := omega) only [f72_r9, f72_r10, f72_r18, w_skip, w_reg, w_seq, w_cond, w_block, w_exit, seqK_n, seqK_e, atK_e, loopK_n, ckB_b, cbB_b, okG_b, asG_f, true_and, x_nil, x_g, x_mv, x_as, x_pick, x_ld, x_bin, x_iadr, kx, rvP_ok, okv_some, ev_t, ev_c, getV_some, putD_some, bin_add, bin_mul, bin_eql, bin_lss, bin_rem, pick_b, onP_p, of1, of2, of10, getK_set, Nat.reduceEqDiff, ↓reduceIte, Bool.false_eq_true, Bool.not_false, g0, g3, g6, g9, g10, d1, s1, s2, s3, e2, e3, ix, ldb, fw64]
                exact ⟨u + 1, by omega, by omega, by omega, hG, hstep, by simp (disch := omega) only [getK_set, Nat.reduceEqDiff, ↓reduceIte, g0, g1, g3, g6, g9, and_self, Int.natCast_add, Int.natCast_one]⟩
              | false =>
                rw [hMb] at ldb hstep
                rw [if_neg (by simp)] at hstep
                have l6 : loadV h2 (.p id6 0) (many? 100) = .ok (.agg (M.map V.b)) h2 := Ar.ldn (e := V.b) (L := M) (by unfold Ar; rw [hM]; exact e6) hM.symm
                have n3 := nx_new h2 (.cells 100 (List.replicate 100 (.b false)))
                have s100 := st100 (h := h2.new (.cells 100 (List.replicate 100 (.b false)))) (id := h2.nx) (M := M) get_new_same (by simp) hM
                have g3' : Grow h2.nx.nat h2 ((h2.new (.cells 100 (List.replicate 100 (.b false)))).put h2.nx (.cells 100 (M.map V.b))) := (Grow.new (Nat.le_refl _) _).trans (Grow.put (Nat.le_refl _) (by omega) _)
                have eB : ((h2.new (.cells 100 (List.replicate 100 (.b false)))).put h2.nx (.cells 100 (M.map V.b))).get h2.nx = .cells 100 (M.map V.b) := get_put_same
                have nB : ((h2.new (.cells 100 (List.replicate 100 (.b false)))).put h2.nx (.cells 100 (M.map V.b))).nx.nat = h2.nx.nat + 1 := n3
                simp (disch := omega) only [f72_r9, f72_r10, f72_r11, w_skip, w_reg, w_seq, w_cond, w_block, seqK_n, ckB_b, cbB_b, okG_b, asG_f, true_and, x_nil, x_g, x_mv, x_pick, x_alloc, x_ld, x_ldn, x_st, x_bin, x_iadr, kx, rvP_ok, okv_some, ev_t, ev_c, getV_some, putD_some, putD_none, bin_add, bin_mul, bin_eql, bin_lss, bin_rem, pick_b, onP_p, of1, of2, of10, getK_set, Nat.reduceEqDiff, ↓reduceIte, Bool.false_eq_true, Bool.not_false, g0, g3, g6, g9, g10, d1, s1, s2, s3, e2, e3, ix, ldb, l6, s100, fw64]
                generalize hidB : h2.nx = idB at *
                generalize (h2.new (.cells 100 (List.replicate 100 (.b false)))).put idB (.cells 100 (M.map V.b)) = h3 at *
                have aB : Ar V.b h3 idB M := by unfold Ar; rw [hM]; exact eB
                obtain ⟨t1, t2⟩ := Ar.st (e := V.b) aB (i := ft n m * 10 + u) hidx (x := true) (c := .b true) rfl rfl
                rw [hM] at t1 t2
                have g4 : Grow idB.nat h3 (h3.put idB (.cells 100 ((M.set (ft n m * 10 + u) true).map V.b))) := Grow.put (Nat.le_refl _) (by omega) _
                have n4 : (h3.put idB (.cells 100 ((M.set (ft n m * 10 + u) true).map V.b))).nx.nat = h3.nx.nat := rfl
                simp (disch := omega) only [f72_r12, w_reg, w_seq, seqK_n, x_nil, x_mv, x_st, x_bin, x_iadr, kx, rvP_ok, okv_some, ev_t, ev_c, getV_some, putD_some, putD_none, bin_add, bin_mul, onP_p, of10, getK_set, Nat.reduceEqDiff, ↓reduceIte, g9, g10, e2, e3, ix, t1, fw64]
                generalize h3.put idB (.cells 100 ((M.set (ft n m * 10 + u) true).map V.b)) = h4 at *
                have e4 : (u : Int) * 10 = ((u * 10 : Nat) : Int) := by omega
                have e5 : ((u * 10 : Nat) : Int) + (ft n m : Int) = ((u * 10 + ft n m : Nat) : Int) := by omega
                have ix2 : ∀ f : Nat → RV, idxV (.i .i64 ((u * 10 + ft n m : Nat) : Int)) 100 f = f (u * 10 + ft n m) := fun f => idx_n (by omega)
                obtain ⟨v1, v2⟩ := Ar.st (e := V.b) t2 (i := u * 10 + ft n m) (by rw [List.length_set]; omega) (x := true) (c := .b true) rfl rfl
                rw [List.length_set, hM] at v1 v2
                have hms : (M.set (ft n m * 10 + u) true).set (u * 10 + ft n m) true = mset M (ft n m) u := rfl
                rw [hms] at v1 v2
                have g5 : Grow idB.nat h4 (h4.put idB (.cells 100 ((mset M (ft n m) u).map V.b))) := Grow.put (Nat.le_refl _) (by omega) _
                have n5 : (h4.put idB (.cells 100 ((mset M (ft n m) u).map V.b))).nx.nat = h4.nx.nat := rfl
                simp (disch := omega) only [f72_r13, w_draw, w_seq, seqK_n, x_nil, x_mv, x_st, x_bin, x_iadr, kx, rvP_ok, okv_some, ev_t, ev_c, getV_some, putD_some, putD_none, bin_add, bin_mul, onP_p, of10, getK_set, Nat.reduceEqDiff, ↓reduceIte, g9, g10, e4, e5, ix2, v1, fw64]
                generalize h4.put idB (.cells 100 ((mset M (ft n m) u).map V.b)) = h5 at *
                have hMl : (mset M (ft n m) u).length = 100 := by unfold mset; rw [List.length_set, List.length_set, hM]
                have l5 : loadV h5 (.p idB 0) (many? 100) = .ok (.agg ((mset M (ft n m) u).map V.b)) h5 := Ar.ldn (e := V.b) (L := mset M (ft n m) u) v2 hMl.symm
                have hq1 : 2 ^ ft n m < 2 ^ n := Nat.pow_lt_pow_right (by omega) hfn
                have hq3 : 2 ^ u < 2 ^ n := Nat.pow_lt_pow_right (by omega) hlt2
                have hm1 : m ||| 2 ^ ft n m < 2 ^ n := Nat.or_lt_two_pow hm hq1
                have hm2 : m ||| 2 ^ ft n m ||| 2 ^ u < 2 ^ n := Nat.or_lt_two_pow hm1 hq3
                have or1 := bin_or64 (a := m) (b := 2 ^ ft n m) (by omega) (by omega)
                have or2 := bin_or64 (a := m ||| 2 ^ ft n m) (b := 2 ^ u) (by omega) (by omega)
                simp (disch := omega) only [f72_r14, true_and, x_call, kg, xg_nil, xg_mv, xg_ldn, xg_bin, xd_cons, fresh_nil, stK_s, stay_nil, rvP_ok, okv_some, ev_t, ev_c, evs_nil, evs_cons, getV_some, putD_some, of1, getK_set, Nat.reduceEqDiff, ↓reduceIte, g0, g1, g3, g9, g10, l5, st, su, or1, or2]
                have hc5 := g5.hc (g4.hc (g3'.hc hc2))
                have gAll : Grow h1.nx.nat h1 h5 := hG.trans (((g3'.trans g4).trans g5).low (by rw [← hidB]; exact hG.nx))
                refine (callP_0 (ef := f72) k72 rfl (ih left (mset M (ft n m) u) (m ||| 2 ^ ft n m ||| 2 ^ u) h5 hMl hm2 hl ?_ hc5)).mono ?_
                · right
                  have := frn_lt (n := n) (m := m) (m' := m ||| 2 ^ ft n m ||| 2 ^ u) hfn hb (by rw [Nat.testBit_or, Nat.testBit_or, Nat.testBit_two_pow]; simp) (fun x hx => by rw [Nat.testBit_or, Nat.testBit_or, hx]; rfl)
                  rcases hk with hk | hk
                  · exact absurd hk hl0
                  · omega
                rintro r h6 ⟨rfl, hG6⟩
                have gAll6 : Grow h1.nx.nat h1 h6 := gAll.trans (hG6.low gAll.nx)
                have gT : Grow id6.nat h h6 := gA.trans (gAll6.low (by omega))
                cases hcf : canP n k left (mset M (ft n m) u) (m ||| 2 ^ ft n m ||| 2 ^ u) with
                | true =>
                  rw [hcf] at hstep
                  rw [if_pos rfl] at hstep
                  simp (disch := omega) only [f72_r15, f72_rs, w_reg, w_seq, w_cond, w_ret, seqK_n, seqK_r, atK_r, loopK_r, ckB_b, cbB_b, true_and, retK_r, x_nil, x_as, kx, xg_nil, xd_cons, fresh_nil, stK_n, stay_nil, ev_t, ev_c, getV_some, putD_some, oGet_s, readRs_nil, readRs_t, retV_1, Option.some.injEq, exists_eq_left', getK_set, ↓reduceIte]
                  exact ⟨by rw [hstep], gT⟩
                | false =>
                  rw [hcf] at hstep
                  rw [if_neg (by simp)] at hstep
                  by_cases hm0 : m = 0
                  · have d3 : decide ((m : Int) = 0) = true := decide_eq_true (by omega)
                    rw [if_pos hm0] at hstep
                    simp (disch := omega) only [f72_r16, f72_r17, f72_rs, w_skip, w_reg, w_seq, w_cond, w_ret, seqK_n, seqK_r, atK_r, loopK_r, ckB_b, cbB_b, true_and, retK_r, x_nil, x_mv, x_as, x_bin, kx, xg_nil, xd_cons, fresh_nil, stK_n, stay_nil, rvP_ok, okv_some, ev_t, ev_c, getV_some, putD_some, bin_eql, oGet_s, readRs_nil, readRs_t, retV_1, of0, Option.some.injEq, exists_eq_left', getK_set, Nat.reduceEqDiff, ↓reduceIte, Bool.false_eq_true, g3, d3]
                    exact ⟨by rw [hstep], gT⟩
                  · have d3 : decide ((m : Int) = 0) = false := decide_eq_false (by omega)
                    rw [if_neg hm0] at hstep
                    simp (disch := omega) only [f72_r16, f72_r18, w_skip, w_reg, w_seq, w_cond, seqK_n, atK_n, loopK_n, ckB_b, cbB_b, true_and, x_nil, x_mv, x_as, x_bin, kx, xg_nil, xd_cons, fresh_nil, stK_n, stay_nil, rvP_ok, okv_some, ev_t, ev_c, getV_some, putD_some, bin_add, bin_eql, of0, of1, getK_set, Nat.reduceEqDiff, ↓reduceIte, Bool.false_eq_true, g3, g10, d3, fw64]
                    exact ⟨u + 1, by omega, by omega, by omega, gAll6, hstep, by simp (disch := omega) only [getK_set, Nat.reduceEqDiff, ↓reduceIte, g0, g1, g3, g6, g9, and_self, Int.natCast_add, Int.natCast_one]⟩
          · have d1 : decide ((u : Int) < (n : Int)) = false := decide_eq_false (by omega)
            have e0 : n - u = 0 := by omega
            rw [e0] at hcan
            have hcan : canP n (k + 1) left M m = false := hcan
            simp (disch := omega) only [f72_r9, f72_r19, f72_rs, w_reg, w_seq, w_cond, w_exit, w_ret, seqK_n, seqK_e, atK_e, loopK_e, ckB_b, cbB_b, true_and, retK_r, x_nil, x_mv, x_as, x_bin, kx, rvP_ok, okv_some, ev_t, ev_c, getV_some, putD_some, bin_lss, oGet_s, readRs_nil, readRs_t, retV_1, Option.some.injEq, exists_eq_left', getK_set, Nat.reduceEqDiff, ↓reduceIte, Bool.false_eq_true, g0, g10, d1]
            exact ⟨by rw [hcan], hG0⟩
end
end Go.Ev
namespace Go.Ev
open Go Go.RowKit
noncomputable def f89_r0 : List EOper := [⟨(some (K.ofNat 4)), none, .box 10 (.t (K.ofNat 0))⟩, ⟨(some (K.ofNat 5)), none, .alloc 1 [(.b false)]⟩]
noncomputable def f89_r1 : List EOper := [⟨(some (K.ofNat 13)), none, .ldn 10 (.t (K.ofNat 4))⟩, ⟨(some (K.ofNat 14)), none, .ld (.t (K.ofNat 1))⟩, ⟨(some (K.ofNat 15)), none, .call (.c (.fn (K.ofNat 90) [])) [(.t (K.ofNat 13)), (.t (K.ofNat 14))]⟩, ⟨(some (K.ofNat 12)), none, .mv (.t (K.ofNat 15))⟩, ⟨(some (K.ofNat 16)), none, .ext (.t (K.ofNat 12)) 0⟩, ⟨(some (K.ofNat 17)), none, .ext (.t (K.ofNat 12)) 1⟩, ⟨(some (K.ofNat 6)), none, .alloc 2 [(.i .i64 (.ofNat 0)), (.i .i64 (.ofNat 0))]⟩, ⟨none, none, .st 2 (.t (K.ofNat 6)) (.t (K.ofNat 16))⟩, ⟨(some (K.ofNat 7)), none, .as (.t (K.ofNat 17))⟩]
noncomputable def f89_r2 : List EOper := [⟨(some (K.ofNat 18)), none, .mv (.t (K.ofNat 7))⟩, ⟨(some (K.ofNat 19)), none, .not (.t (K.ofNat 18))⟩]
noncomputable def f89_r3 : List EOper := [⟨none, none, .st 1 (.t (K.ofNat 5)) (.c (.b true))⟩]
noncomputable def f89_r4 : List EOper := [⟨(some (K.ofNat 20)), none, .ld (.t (K.ofNat 1))⟩, ⟨(some (K.ofNat 21)), none, .call (.c (.fn (K.ofNat 91) [])) [(.t (K.ofNat 20))]⟩]
noncomputable def f89_r5 : List EOper := [⟨(some (K.ofNat 8)), none, .as (.t (K.ofNat 22))⟩]
noncomputable def f89_a0 : EC := (.reg f89_r5)
noncomputable def f89_r6 : List Stage := [⟨[⟨(some (K.ofNat 23)), none, .mv (.t (K.ofNat 8))⟩, ⟨(some (K.ofNat 24)), none, .iads 2 (.t (K.ofNat 23)) (.c (.i .i64 (.ofNat 0)))⟩, ⟨(some (K.ofNat 25)), none, .ldn 2 (.t (K.ofNat 24))⟩, ⟨(some (K.ofNat 26)), none, .ldn 2 (.t (K.ofNat 6))⟩, ⟨(some (K.ofNat 27)), none, .eqk (.many [(some .i64), (some .i64)]) true (.t (K.ofNat 25)) (.t (K.ofNat 26))⟩], [], none, []⟩]
noncomputable def f89_r7 : List EOper := [⟨(some (K.ofNat 28)), none, .ldn 10 (.t (K.ofNat 4))⟩, ⟨(some (K.ofNat 9)), none, .alloc 10 (List.replicate 10 (.i .u16 (.ofNat 0)))⟩, ⟨none, none, .st 10 (.t (K.ofNat 9)) (.t (K.ofNat 28))⟩]
noncomputable def f89_r8 : List EOper := [⟨(some (K.ofNat 29)), none, .mv (.t (K.ofNat 8))⟩, ⟨(some (K.ofNat 30)), none, .len (.t (K.ofNat 29))⟩, ⟨(some (K.ofNat 31)), none, .mv (.c (.i .i64 (.ofNat 0)))⟩]
noncomputable def f89_r9 : List EOper := [⟨(some (K.ofNat 32)), none, .bin .lss (.t (K.ofNat 31)) (.t (K.ofNat 30))⟩]
noncomputable def f89_r10 : List EOper := [⟨(some (K.ofNat 33)), none, .iads 2 (.t (K.ofNat 29)) (.t (K.ofNat 31))⟩, ⟨(some (K.ofNat 34)), none, .ldn 2 (.t (K.ofNat 33))⟩, ⟨(some (K.ofNat 11)), none, .alloc 2 [(.i .i64 (.ofNat 0)), (.i .i64 (.ofNat 0))]⟩, ⟨none, none, .st 2 (.t (K.ofNat 11)) (.t (K.ofNat 34))⟩]
noncomputable def f89_r11 : List EOper := [⟨(some (K.ofNat 35)), none, .ldn 2 (.t (K.ofNat 11))⟩, ⟨(some (K.ofNat 36)), none, .call (.c (.fn (K.ofNat 87) [])) [(.t (K.ofNat 9)), (.t (K.ofNat 35))]⟩, ⟨(some (K.ofNat 37)), none, .not (.t (K.ofNat 36))⟩]
noncomputable def f89_r12 : List EOper := [⟨(some (K.ofNat 38)), none, .bin .add (.t (K.ofNat 31)) (.c (.i .i64 (.ofNat 1)))⟩, ⟨(some (K.ofNat 31)), none, .mv (.t (K.ofNat 38))⟩]
noncomputable def f89_l0 : EC := (.seq (.reg f89_r9) (.seq (.cond (.t (K.ofNat 32)) .skip (.exit 2)) (.seq (.block 3 (.seq (.reg f89_r10) (.seq (.reg f89_r11) (.cond (.t (K.ofNat 37)) (.exit 1) .skip)))) (.reg f89_r12))))
noncomputable def f89_r13 : List EOper := [⟨(some (K.ofNat 39)), none, .ld (.t (K.ofNat 2))⟩, ⟨(some (K.ofNat 40)), none, .mv (.t (K.ofNat 8))⟩, ⟨(some (K.ofNat 41)), none, .bslice 1 1 [.sn] [(0, 1, (.t (K.ofNat 40)))]⟩, ⟨(some (K.ofNat 42)), none, .app 1 (.t (K.ofNat 39)) (.t (K.ofNat 41))⟩, ⟨none, none, .st 1 (.t (K.ofNat 2)) (.t (K.ofNat 42))⟩]
noncomputable def f89_r14 : List EOper := [⟨(some (K.ofNat 43)), none, .ld (.t (K.ofNat 3))⟩, ⟨(some (K.ofNat 44)), none, .ldn 10 (.t (K.ofNat 9))⟩, ⟨(some (K.ofNat 45)), none, .call (.t (K.ofNat 43)) [(.t (K.ofNat 44))]⟩]
noncomputable def f89_r15 : List EOper := [⟨none, none, .st 1 (.t (K.ofNat 5)) (.c (.b true))⟩]
noncomputable def f89_r16 : List EOper := [⟨(some (K.ofNat 46)), none, .ld (.t (K.ofNat 2))⟩, ⟨(some (K.ofNat 47)), none, .ld (.t (K.ofNat 2))⟩, ⟨(some (K.ofNat 48)), none, .len (.t (K.ofNat 47))⟩, ⟨(some (K.ofNat 49)), none, .bin .sub (.t (K.ofNat 48)) (.c (.i .i64 (.ofNat 1)))⟩, ⟨(some (K.ofNat 50)), none, .slice 1 (.t (K.ofNat 46)) none (some (.t (K.ofNat 49))) none⟩, ⟨none, none, .st 1 (.t (K.ofNat 2)) (.t (K.ofNat 50))⟩]
noncomputable def f89_b0 : EC := (.block 1 (.seq (.seq (.draw f89_r6) (.cond (.t (K.ofNat 27)) (.exit 1) .skip)) (.seq (.reg f89_r7) (.seq (.seq (.reg f89_r8) (.block 2 (.loop f89_l0))) (.seq (.reg f89_r13) (.seq (.seq (.reg f89_r14) (.cond (.t (K.ofNat 45)) (.seq (.reg f89_r15) .ret) .skip)) (.reg f89_r16)))))))
noncomputable def f89_r17 : List EOper := [⟨none, none, .st 1 (.t (K.ofNat 5)) (.c (.b false))⟩]
noncomputable def f89_c : EC := (.seq (.reg f89_r0) (.scope (.seq (.reg f89_r1) (.seq (.seq (.reg f89_r2) (.cond (.t (K.ofNat 19)) (.seq (.reg f89_r3) .ret) .skip)) (.seq .skip (.seq (.seq (.reg f89_r4) (.block 0 (.rangeF (.t (K.ofNat 21)) [(K.ofNat 22)] f89_a0 f89_b0))) (.seq (.reg f89_r17) .ret)))))))
noncomputable def f89 : EF := ⟨51, [.cell (K.ofNat 5)], f89_c, none⟩
theorem f89_rs : f89.rs = [.cell (K.ofNat 5)] := of_eq_true (eq_self _)
theorem kq {a b c d : Nat} (ha : a ≤ 1000) (hb : b ≤ 1000) (hc : c ≤ 1000) (hd : d ≤ 1000) : keyEq (.many [some .i64, some .i64]) (.agg [.i .i64 (a : Int), .i .i64 (b : Int)]) (.agg [.i .i64 (c : Int), .i .i64 (d : Int)]) = some (decide (a = c) && decide (b = d)) := by
  have hin : ∀ x : Nat, x ≤ 1000 → inR .i64 (x : Int) = true := fun x hx => by
    show Nat.ble x 9223372036854775807 = true
    exact Nat.ble_eq_true_of_le (by omega)
  have ck : ∀ x y : Nat, x ≤ 1000 → y ≤ 1000 → ckEq (some .i64) (.i .i64 (x : Int)) (.i .i64 (y : Int)) = some (decide (x = y)) := fun x y hx hy => by
    show (bif (IntKind.i64 == IntKind.i64 && IntKind.i64 == IntKind.i64) && (inR .i64 (x : Int) && inR .i64 (y : Int)) then some (ieq x y) else none) = _
    rw [hin x hx, hin y hy, ieq_eq]
    show some ((x : Int) == (y : Int)) = _
    congr 1
    by_cases e : x = y
    · rw [e]; simp
    · rw [decide_eq_false e]
      have : (x : Int) ≠ (y : Int) := by omega
      simpa using this
  show oGet (ckEq (some .i64) (.i .i64 (a : Int)) (.i .i64 (c : Int))) none (fun r => oGet (oGet (ckEq (some .i64) (.i .i64 (b : Int)) (.i .i64 (d : Int))) none fun r => oGet (some true) none fun s => some (r && s)) none fun s => some (r && s)) = _
  rw [ck a c ha hc, ck b d hb hd]
  show some (decide (a = c) && (decide (b = d) && true)) = _
  rw [Bool.and_true]
/-! ### The memory of the search -/
def Bo (idn idW idC : K) (wv : V) (us : List V) : K → Prop := fun x => x = idn ∨ x = idW ∨ x = idC ∨ ¬ NotIn x wv ∨ ∃ u ∈ us, ¬ NotIn x u
def cmpV (idn idW idC : K) : V := .fn (K.ofNat 89) [.p idn 0, .p idW 0, .p idC 0]
structure CS (idn idW idC : K) (n : Nat) (h : H) (wv : V) (us : List V) (Q : List (List (Int × Int))) : Prop where
  hc : HC h
  eN : h.get idn = .cells 1 [.i .i64 (n : Int)]
  eC : h.get idC = .cells 1 [cmpV idn idW idC]
  eW : h.get idW = .cells 1 [wv]
  len : us.length = Q.length
  out : Sl vE h wv us
  inn : ∀ i (h1 : i < us.length) (h2 : i < Q.length), Srp h us[i] Q[i]
  ins : ∀ x ∈ us, ∀ id off n sz, x = .sl id off n sz → NotIn id wv ∧ id ≠ idW
  nN : NotIn idn wv
  nC : NotIn idC wv
  nW : NotIn idW wv
  lN : idn ≠ idW
  lC : idC ≠ idW
structure KC (idW : K) (h : H) (wv : V) (h' : H) (wv' : V) : Prop where
  nx : h.nx.nat ≤ h'.nx.nat
  old : ∀ x : K, x.nat < h.nx.nat → x ≠ idW → NotIn x wv → h'.get x = h.get x ∧ NotIn x wv'
theorem KC.same {idW : K} {h h' : H} {wv : V} (hn : h.nx.nat ≤ h'.nx.nat) (hg : ∀ x : K, x.nat < h.nx.nat → h'.get x = h.get x) : KC idW h wv h' wv := ⟨hn, fun x h1 _ h3 => ⟨hg x h1, h3⟩⟩
section
variable {idn idW idC : K} {n : Nat} {h h' : H} {wv v : V} {us : List V} {Q : List (List (Int × Int))} {r : List (Int × Int)}
theorem CS.lt (c : CS idn idW idC n h wv us Q) {x : K} (hx : Bo idn idW idC wv us x) : x.nat < h.nx.nat := by
  rcases hx with rfl | rfl | rfl | hx | ⟨u, hu, hx⟩
  · exact c.hc.cells c.eN
  · exact c.hc.cells c.eW
  · exact c.hc.cells c.eC
  · apply Classical.byContradiction
    intro hno
    exact hx fun off n sz e => hno (c.out.lt c.hc _ _ _ _ e)
  · apply Classical.byContradiction
    intro hno
    obtain ⟨i, hi, rfl⟩ := List.getElem_of_mem hu
    exact hx fun off n sz e => hno ((c.inn i hi (by rw [← c.len]; exact hi)).lt c.hc _ _ _ _ e)
theorem CS.keep (c : CS idn idW idC n h wv us Q) (hc : HC h') (hk : ∀ x, Bo idn idW idC wv us x → h'.get x = h.get x) : CS idn idW idC n h' wv us Q :=
  ⟨hc, (hk _ (.inl rfl)).trans c.eN, (hk _ (.inr (.inr (.inl rfl)))).trans c.eC, (hk _ (.inr (.inl rfl))).trans c.eW, c.len, c.out.same fun id off m sz e => hk id (.inr (.inr (.inr (.inl fun hn => hn _ _ _ e)))), fun i h1 h2 => (c.inn i h1 h2).old fun id off m sz e => hk id (.inr (.inr (.inr (.inr ⟨_, List.getElem_mem h1, fun hn => hn _ _ _ e⟩)))), c.ins, c.nN, c.nC, c.nW, c.lN, c.lC⟩
theorem CS.grow (c : CS idn idW idC n h wv us Q) (hg : Grow h.nx.nat h h') : CS idn idW idC n h' wv us Q := c.keep (hg.hc c.hc) fun _ hx => hg.old _ (c.lt hx)
/-- One round more. -/
theorem CS.push (c : CS idn idW idC n h wv us Q) (hQ : Q.length < 1000) (hv : Srp h v r) (hvB : ∀ id off n sz, v = .sl id off n sz → NotIn id wv ∧ id ≠ idW) :
    ∃ wv' h2, appV 1 (h.new (.cells (1 * 1) [v])) wv (.sl h.nx 0 1 1) = .ok wv' h2 ∧ storeV h2 1 (.p idW 0) wv' = .ok undefV (h2.put idW (.cells 1 [wv'])) ∧ CS idn idW idC n (h2.put idW (.cells 1 [wv'])) wv' (us ++ [v]) (Q ++ [r]) ∧ KC idW h wv (h2.put idW (.cells 1 [wv'])) wv' ∧ (∀ x, Bo idn idW idC wv' (us ++ [v]) x → Bo idn idW idC wv us x ∨ ¬ NotIn x v ∨ h.nx.nat ≤ x.nat) := by
  obtain ⟨wv', h2, a1, a2, _, a4, a5⟩ := Sl.push (b := 0) (e := vE) (x := v) (c := v) rfl c.out (fun _ _ _ _ _ => Nat.zero_le _) (Nat.zero_le _) c.hc (by rw [c.len]; omega)
  have lW := c.lt (.inr (.inl rfl))
  obtain ⟨qW, nW'⟩ := a5 idW lW c.nW
  obtain ⟨qN, nN'⟩ := a5 idn (c.lt (.inl rfl)) c.nN
  obtain ⟨qC, nC'⟩ := a5 idC (c.lt (.inr (.inr (.inl rfl)))) c.nC
  have hc2 := a4.hc c.hc
  have lW2 : idW.nat < h2.nx.nat := Nat.lt_of_lt_of_le lW a4.nx
  have s1 := st1 (h := h2) (id := idW) (a := wv) (c := wv') (qW.trans c.eW) a2.one
  have hins : ∀ x ∈ us ++ [v], ∀ id off n sz, x = .sl id off n sz → id.nat < h.nx.nat ∧ NotIn id wv ∧ id ≠ idW := fun x hx id off n sz e => by
    rcases List.mem_append.1 hx with hx | hx
    · obtain ⟨p1, p2⟩ := c.ins x hx _ _ _ _ e
      exact ⟨c.lt (.inr (.inr (.inr (.inr ⟨x, hx, fun hn => hn _ _ _ e⟩)))), p1, p2⟩
    · rw [List.mem_singleton.1 hx] at e
      obtain ⟨p1, p2⟩ := hvB _ _ _ _ e
      exact ⟨hv.lt c.hc _ _ _ _ e, p1, p2⟩
  have kin : ∀ x ∈ us ++ [v], ∀ id off n sz, x = .sl id off n sz → (h2.put idW (.cells 1 [wv'])).get id = h.get id ∧ NotIn id wv' := fun x hx id off n sz e => by
    obtain ⟨p0, p1, p2⟩ := hins x hx _ _ _ _ e
    obtain ⟨q1, q2⟩ := a5 id p0 p1
    exact ⟨by rw [get_put_other p2]; exact q1, q2⟩
  refine ⟨wv', h2, a1, s1, ⟨(Grow.put (b := 0) (Nat.zero_le _) lW2 _).hc hc2, by rw [get_put_other c.lN, qN]; exact c.eN, by rw [get_put_other c.lC, qC]; exact c.eC, get_put_same, by rw [List.length_append, List.length_append, c.len]; rfl, a2.put nW' _, fun i h1 h3 => ?_, fun x hx id off m sz e => ⟨(kin x hx _ _ _ _ e).2, (hins x hx _ _ _ _ e).2.2⟩, nN', nC', nW', c.lN, c.lC⟩, ⟨a4.nx, fun x h1 h3 h4 => ?_⟩, fun x hx => ?_⟩
  · have hm := List.getElem_mem h1
    by_cases e : i < us.length
    · have e2 : i < Q.length := by rw [← c.len]; exact e
      rw [List.getElem_append_left e2]
      have := c.inn i e e2
      rw [List.getElem_append_left e] at hm ⊢
      exact this.old fun id off m sz ee => (kin _ hm _ _ _ _ ee).1
    · have ei : i = us.length := by rw [List.length_append] at h1; simp at h1; omega
      subst ei
      have e1 : (us ++ [v])[us.length] = v := by simp
      have e2 : (Q ++ [r])[us.length] = r := by
        rw [List.getElem_append_right (as := Q) (by rw [c.len]; exact Nat.le_refl _)]
        simp
      rw [e1] at hm ⊢
      rw [e2]
      exact hv.old fun id off m sz ee => (kin _ hm _ _ _ _ ee).1
  · obtain ⟨q1, q2⟩ := a5 x h1 h4
    exact ⟨by rw [get_put_other h3]; exact q1, q2⟩
  · rcases hx with hx | hx | hx | hx | ⟨u, hu, hx⟩
    · exact .inl (.inl hx)
    · exact .inl (.inr (.inl hx))
    · exact .inl (.inr (.inr (.inl hx)))
    · by_cases hl : x.nat < h.nx.nat
      · exact .inl (.inr (.inr (.inr (.inl fun hn => hx (a5 x hl hn).2))))
      · exact .inr (.inr (by omega))
    · rcases List.mem_append.1 hu with hu | hu
      · exact .inl (.inr (.inr (.inr (.inr ⟨u, hu, hx⟩))))
      · rw [List.mem_singleton.1 hu] at hx; exact .inr (.inl hx)
/-- The last round is dropped. -/
theorem CS.cut (c : CS idn idW idC n h wv us (Q ++ [r])) :
    ∃ wv', (∀ h1, sliceB 1 wv none (some (.i .i64 (Q.length : Int))) none h1 = .ok wv' h1) ∧ storeV h 1 (.p idW 0) wv' = .ok undefV (h.put idW (.cells 1 [wv'])) ∧ CS idn idW idC n (h.put idW (.cells 1 [wv'])) wv' (us.take Q.length) Q ∧ KC idW h wv (h.put idW (.cells 1 [wv'])) wv' ∧ (∀ x, Bo idn idW idC wv' (us.take Q.length) x → Bo idn idW idC wv us x) := by
  have hl := c.len
  rw [List.length_append] at hl
  simp at hl
  obtain ⟨wv', c1, c2, c3, c4⟩ := Sl.cut (lo := none) (hi := some (.i .i64 (Q.length : Int))) (l := 0) (u := Q.length) c.out bnd_none bnd_i (Nat.zero_le _) (by omega)
  have c2 : Sl vE h wv' (us.take Q.length) := by simpa using c2
  have lW := c.lt (.inr (.inl rfl))
  have s1 := st1 (h := h) (id := idW) (a := wv) (c := wv') c.eW c2.one
  have hmem : ∀ x ∈ us.take Q.length, x ∈ us := fun x hx => List.mem_of_mem_take hx
  refine ⟨wv', c1, s1, ⟨(Grow.put (b := 0) (Nat.zero_le _) lW _).hc c.hc, by rw [get_put_other c.lN]; exact c.eN, by rw [get_put_other c.lC]; exact c.eC, get_put_same, by simp; omega, c2.put (c4 _ c.nW) _, fun i h1 h2 => ?_, fun x hx id off m sz e => ?_, c4 _ c.nN, c4 _ c.nC, c4 _ c.nW, c.lN, c.lC⟩, ⟨Nat.le_refl _, fun x h1 h2 h3 => ⟨get_put_other h2, c4 _ h3⟩⟩, fun x hx => ?_⟩
  · have h1' : i < us.length := by simp at h1; omega
    have := c.inn i h1' (by simp; omega)
    rw [List.getElem_append_left h2] at this
    rw [List.getElem_take]
    exact this.old fun id off m sz e => get_put_other ((c.ins _ (List.getElem_mem h1') _ _ _ _ e).2)
  · obtain ⟨p1, p2⟩ := c.ins x (hmem x hx) _ _ _ _ e
    exact ⟨c4 _ p1, p2⟩
  · rcases hx with hx | hx | hx | hx | ⟨u, hu, hx⟩
    · exact .inl hx
    · exact .inr (.inl hx)
    · exact .inr (.inr (.inl hx))
    · exact .inr (.inr (.inr (.inl fun hn => hx (c4 x hn))))
    · exact .inr (.inr (.inr (.inr ⟨u, hmem u hu, hx⟩)))
end
end Go.Ev
