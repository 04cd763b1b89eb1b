/-
  awake gives true; the binomial coefficients.
-/
import Derived.Test.YtneacehpoaambaaCtD
namespace Go.Proofs.Ytneacehpoaambaa
open Go.Ev
theorem awakeEval : givesB fs1 2000 e29 [] (.b true) = true := by kernel_rfl
theorem awakeGives : Gives rig (.o (.z (.z (.z .e)))) [] (.b true) := gives_of_eval fs1_ok code29 rfl rfl awakeEval
noncomputable def n29 : EF := ⟨0, [], .no, some (flatG (tabG [([], .b true)]))⟩
theorem nat29 : EntryOk rig (.o (.z (.z (.z .e)))) n29 := entry_nat (n := 29) rfl Try.func29 (by kernel_rfl) (by kernel_rfl) (tabG_gives ⟨awakeGives, trivial⟩)
noncomputable def chT : List (List V × V) := [([.i .i64 (.ofNat 0), .i .i64 (.ofNat 0)], .i .i64 (.ofNat 1)), ([.i .i64 (.ofNat 1), .i .i64 (.ofNat 0)], .i .i64 (.ofNat 1)), ([.i .i64 (.ofNat 1), .i .i64 (.ofNat 1)], .i .i64 (.ofNat 1)), ([.i .i64 (.ofNat 2), .i .i64 (.ofNat 0)], .i .i64 (.ofNat 1)), ([.i .i64 (.ofNat 2), .i .i64 (.ofNat 1)], .i .i64 (.ofNat 2)), ([.i .i64 (.ofNat 2), .i .i64 (.ofNat 2)], .i .i64 (.ofNat 1)), ([.i .i64 (.ofNat 3), .i .i64 (.ofNat 0)], .i .i64 (.ofNat 1)), ([.i .i64 (.ofNat 3), .i .i64 (.ofNat 1)], .i .i64 (.ofNat 3)), ([.i .i64 (.ofNat 3), .i .i64 (.ofNat 2)], .i .i64 (.ofNat 3)), ([.i .i64 (.ofNat 3), .i .i64 (.ofNat 3)], .i .i64 (.ofNat 1)), ([.i .i64 (.ofNat 4), .i .i64 (.ofNat 0)], .i .i64 (.ofNat 1)), ([.i .i64 (.ofNat 4), .i .i64 (.ofNat 1)], .i .i64 (.ofNat 4)), ([.i .i64 (.ofNat 4), .i .i64 (.ofNat 2)], .i .i64 (.ofNat 6)), ([.i .i64 (.ofNat 4), .i .i64 (.ofNat 3)], .i .i64 (.ofNat 4)), ([.i .i64 (.ofNat 4), .i .i64 (.ofNat 4)], .i .i64 (.ofNat 1)), ([.i .i64 (.ofNat 5), .i .i64 (.ofNat 0)], .i .i64 (.ofNat 1)), ([.i .i64 (.ofNat 5), .i .i64 (.ofNat 1)], .i .i64 (.ofNat 5)), ([.i .i64 (.ofNat 5), .i .i64 (.ofNat 2)], .i .i64 (.ofNat 10)), ([.i .i64 (.ofNat 5), .i .i64 (.ofNat 3)], .i .i64 (.ofNat 10)), ([.i .i64 (.ofNat 5), .i .i64 (.ofNat 4)], .i .i64 (.ofNat 5)), ([.i .i64 (.ofNat 5), .i .i64 (.ofNat 5)], .i .i64 (.ofNat 1)), ([.i .i64 (.ofNat 6), .i .i64 (.ofNat 0)], .i .i64 (.ofNat 1)), ([.i .i64 (.ofNat 6), .i .i64 (.ofNat 1)], .i .i64 (.ofNat 6)), ([.i .i64 (.ofNat 6), .i .i64 (.ofNat 2)], .i .i64 (.ofNat 15)), ([.i .i64 (.ofNat 6), .i .i64 (.ofNat 3)], .i .i64 (.ofNat 20)), ([.i .i64 (.ofNat 6), .i .i64 (.ofNat 4)], .i .i64 (.ofNat 15)), ([.i .i64 (.ofNat 6), .i .i64 (.ofNat 5)], .i .i64 (.ofNat 6)), ([.i .i64 (.ofNat 6), .i .i64 (.ofNat 6)], .i .i64 (.ofNat 1))]
theorem ch00 : givesB fs1 200 e69 [.i .i64 (.ofNat 0), .i .i64 (.ofNat 0)] (.i .i64 (.ofNat 1)) = true := by kernel_rfl
theorem ch10 : givesB fs1 200 e69 [.i .i64 (.ofNat 1), .i .i64 (.ofNat 0)] (.i .i64 (.ofNat 1)) = true := by kernel_rfl
theorem ch11 : givesB fs1 200 e69 [.i .i64 (.ofNat 1), .i .i64 (.ofNat 1)] (.i .i64 (.ofNat 1)) = true := by kernel_rfl
theorem ch20 : givesB fs1 200 e69 [.i .i64 (.ofNat 2), .i .i64 (.ofNat 0)] (.i .i64 (.ofNat 1)) = true := by kernel_rfl
theorem ch21 : givesB fs1 200 e69 [.i .i64 (.ofNat 2), .i .i64 (.ofNat 1)] (.i .i64 (.ofNat 2)) = true := by kernel_rfl
theorem ch22 : givesB fs1 200 e69 [.i .i64 (.ofNat 2), .i .i64 (.ofNat 2)] (.i .i64 (.ofNat 1)) = true := by kernel_rfl
theorem ch30 : givesB fs1 200 e69 [.i .i64 (.ofNat 3), .i .i64 (.ofNat 0)] (.i .i64 (.ofNat 1)) = true := by kernel_rfl
theorem ch31 : givesB fs1 200 e69 [.i .i64 (.ofNat 3), .i .i64 (.ofNat 1)] (.i .i64 (.ofNat 3)) = true := by kernel_rfl
theorem ch32 : givesB fs1 200 e69 [.i .i64 (.ofNat 3), .i .i64 (.ofNat 2)] (.i .i64 (.ofNat 3)) = true := by kernel_rfl
theorem ch33 : givesB fs1 200 e69 [.i .i64 (.ofNat 3), .i .i64 (.ofNat 3)] (.i .i64 (.ofNat 1)) = true := by kernel_rfl
theorem ch40 : givesB fs1 200 e69 [.i .i64 (.ofNat 4), .i .i64 (.ofNat 0)] (.i .i64 (.ofNat 1)) = true := by kernel_rfl
theorem ch41 : givesB fs1 200 e69 [.i .i64 (.ofNat 4), .i .i64 (.ofNat 1)] (.i .i64 (.ofNat 4)) = true := by kernel_rfl
theorem ch42 : givesB fs1 200 e69 [.i .i64 (.ofNat 4), .i .i64 (.ofNat 2)] (.i .i64 (.ofNat 6)) = true := by kernel_rfl
theorem ch43 : givesB fs1 200 e69 [.i .i64 (.ofNat 4), .i .i64 (.ofNat 3)] (.i .i64 (.ofNat 4)) = true := by kernel_rfl
theorem ch44 : givesB fs1 200 e69 [.i .i64 (.ofNat 4), .i .i64 (.ofNat 4)] (.i .i64 (.ofNat 1)) = true := by kernel_rfl
theorem ch50 : givesB fs1 200 e69 [.i .i64 (.ofNat 5), .i .i64 (.ofNat 0)] (.i .i64 (.ofNat 1)) = true := by kernel_rfl
theorem ch51 : givesB fs1 200 e69 [.i .i64 (.ofNat 5), .i .i64 (.ofNat 1)] (.i .i64 (.ofNat 5)) = true := by kernel_rfl
theorem ch52 : givesB fs1 200 e69 [.i .i64 (.ofNat 5), .i .i64 (.ofNat 2)] (.i .i64 (.ofNat 10)) = true := by kernel_rfl
theorem ch53 : givesB fs1 200 e69 [.i .i64 (.ofNat 5), .i .i64 (.ofNat 3)] (.i .i64 (.ofNat 10)) = true := by kernel_rfl
theorem ch54 : givesB fs1 200 e69 [.i .i64 (.ofNat 5), .i .i64 (.ofNat 4)] (.i .i64 (.ofNat 5)) = true := by kernel_rfl
theorem ch55 : givesB fs1 200 e69 [.i .i64 (.ofNat 5), .i .i64 (.ofNat 5)] (.i .i64 (.ofNat 1)) = true := by kernel_rfl
theorem ch60 : givesB fs1 200 e69 [.i .i64 (.ofNat 6), .i .i64 (.ofNat 0)] (.i .i64 (.ofNat 1)) = true := by kernel_rfl
theorem ch61 : givesB fs1 200 e69 [.i .i64 (.ofNat 6), .i .i64 (.ofNat 1)] (.i .i64 (.ofNat 6)) = true := by kernel_rfl
theorem ch62 : givesB fs1 200 e69 [.i .i64 (.ofNat 6), .i .i64 (.ofNat 2)] (.i .i64 (.ofNat 15)) = true := by kernel_rfl
theorem ch63 : givesB fs1 200 e69 [.i .i64 (.ofNat 6), .i .i64 (.ofNat 3)] (.i .i64 (.ofNat 20)) = true := by kernel_rfl
theorem ch64 : givesB fs1 200 e69 [.i .i64 (.ofNat 6), .i .i64 (.ofNat 4)] (.i .i64 (.ofNat 15)) = true := by kernel_rfl
theorem ch65 : givesB fs1 200 e69 [.i .i64 (.ofNat 6), .i .i64 (.ofNat 5)] (.i .i64 (.ofNat 6)) = true := by kernel_rfl
theorem ch66 : givesB fs1 200 e69 [.i .i64 (.ofNat 6), .i .i64 (.ofNat 6)] (.i .i64 (.ofNat 1)) = true := by kernel_rfl
theorem chAll : AllG rig (.o (.z (.z (.o (.o (.o .e)))))) chT := ⟨gives_of_eval fs1_ok code69 rfl rfl ch00, gives_of_eval fs1_ok code69 rfl rfl ch10, gives_of_eval fs1_ok code69 rfl rfl ch11, gives_of_eval fs1_ok code69 rfl rfl ch20, gives_of_eval fs1_ok code69 rfl rfl ch21, gives_of_eval fs1_ok code69 rfl rfl ch22, gives_of_eval fs1_ok code69 rfl rfl ch30, gives_of_eval fs1_ok code69 rfl rfl ch31, gives_of_eval fs1_ok code69 rfl rfl ch32, gives_of_eval fs1_ok code69 rfl rfl ch33, gives_of_eval fs1_ok code69 rfl rfl ch40, gives_of_eval fs1_ok code69 rfl rfl ch41, gives_of_eval fs1_ok code69 rfl rfl ch42, gives_of_eval fs1_ok code69 rfl rfl ch43, gives_of_eval fs1_ok code69 rfl rfl ch44, gives_of_eval fs1_ok code69 rfl rfl ch50, gives_of_eval fs1_ok code69 rfl rfl ch51, gives_of_eval fs1_ok code69 rfl rfl ch52, gives_of_eval fs1_ok code69 rfl rfl ch53, gives_of_eval fs1_ok code69 rfl rfl ch54, gives_of_eval fs1_ok code69 rfl rfl ch55, gives_of_eval fs1_ok code69 rfl rfl ch60, gives_of_eval fs1_ok code69 rfl rfl ch61, gives_of_eval fs1_ok code69 rfl rfl ch62, gives_of_eval fs1_ok code69 rfl rfl ch63, gives_of_eval fs1_ok code69 rfl rfl ch64, gives_of_eval fs1_ok code69 rfl rfl ch65, gives_of_eval fs1_ok code69 rfl rfl ch66, trivial⟩
noncomputable def n69 : EF := ⟨0, [], .no, some (flatG (tabG chT))⟩
theorem nat69 : EntryOk rig (.o (.z (.z (.o (.o (.o .e)))))) n69 := entry_nat (n := 69) rfl Try.func69 (by kernel_rfl) (by kernel_rfl) (tabG_gives chAll)
theorem lk00 : tabG chT [.i .i64 ((0 : Nat) : Int), .i .i64 ((0 : Nat) : Int)] = some (.i .i64 ((bin6 0 0 : Nat) : Int)) := by kernel_rfl
theorem lk10 : tabG chT [.i .i64 ((1 : Nat) : Int), .i .i64 ((0 : Nat) : Int)] = some (.i .i64 ((bin6 1 0 : Nat) : Int)) := by kernel_rfl
theorem lk11 : tabG chT [.i .i64 ((1 : Nat) : Int), .i .i64 ((1 : Nat) : Int)] = some (.i .i64 ((bin6 1 1 : Nat) : Int)) := by kernel_rfl
theorem lk20 : tabG chT [.i .i64 ((2 : Nat) : Int), .i .i64 ((0 : Nat) : Int)] = some (.i .i64 ((bin6 2 0 : Nat) : Int)) := by kernel_rfl
theorem lk21 : tabG chT [.i .i64 ((2 : Nat) : Int), .i .i64 ((1 : Nat) : Int)] = some (.i .i64 ((bin6 2 1 : Nat) : Int)) := by kernel_rfl
theorem lk22 : tabG chT [.i .i64 ((2 : Nat) : Int), .i .i64 ((2 : Nat) : Int)] = some (.i .i64 ((bin6 2 2 : Nat) : Int)) := by kernel_rfl
theorem lk30 : tabG chT [.i .i64 ((3 : Nat) : Int), .i .i64 ((0 : Nat) : Int)] = some (.i .i64 ((bin6 3 0 : Nat) : Int)) := by kernel_rfl
theorem lk31 : tabG chT [.i .i64 ((3 : Nat) : Int), .i .i64 ((1 : Nat) : Int)] = some (.i .i64 ((bin6 3 1 : Nat) : Int)) := by kernel_rfl
theorem lk32 : tabG chT [.i .i64 ((3 : Nat) : Int), .i .i64 ((2 : Nat) : Int)] = some (.i .i64 ((bin6 3 2 : Nat) : Int)) := by kernel_rfl
theorem lk33 : tabG chT [.i .i64 ((3 : Nat) : Int), .i .i64 ((3 : Nat) : Int)] = some (.i .i64 ((bin6 3 3 : Nat) : Int)) := by kernel_rfl
theorem lk40 : tabG chT [.i .i64 ((4 : Nat) : Int), .i .i64 ((0 : Nat) : Int)] = some (.i .i64 ((bin6 4 0 : Nat) : Int)) := by kernel_rfl
theorem lk41 : tabG chT [.i .i64 ((4 : Nat) : Int), .i .i64 ((1 : Nat) : Int)] = some (.i .i64 ((bin6 4 1 : Nat) : Int)) := by kernel_rfl
theorem lk42 : tabG chT [.i .i64 ((4 : Nat) : Int), .i .i64 ((2 : Nat) : Int)] = some (.i .i64 ((bin6 4 2 : Nat) : Int)) := by kernel_rfl
theorem lk43 : tabG chT [.i .i64 ((4 : Nat) : Int), .i .i64 ((3 : Nat) : Int)] = some (.i .i64 ((bin6 4 3 : Nat) : Int)) := by kernel_rfl
theorem lk44 : tabG chT [.i .i64 ((4 : Nat) : Int), .i .i64 ((4 : Nat) : Int)] = some (.i .i64 ((bin6 4 4 : Nat) : Int)) := by kernel_rfl
theorem lk50 : tabG chT [.i .i64 ((5 : Nat) : Int), .i .i64 ((0 : Nat) : Int)] = some (.i .i64 ((bin6 5 0 : Nat) : Int)) := by kernel_rfl
theorem lk51 : tabG chT [.i .i64 ((5 : Nat) : Int), .i .i64 ((1 : Nat) : Int)] = some (.i .i64 ((bin6 5 1 : Nat) : Int)) := by kernel_rfl
theorem lk52 : tabG chT [.i .i64 ((5 : Nat) : Int), .i .i64 ((2 : Nat) : Int)] = some (.i .i64 ((bin6 5 2 : Nat) : Int)) := by kernel_rfl
theorem lk53 : tabG chT [.i .i64 ((5 : Nat) : Int), .i .i64 ((3 : Nat) : Int)] = some (.i .i64 ((bin6 5 3 : Nat) : Int)) := by kernel_rfl
theorem lk54 : tabG chT [.i .i64 ((5 : Nat) : Int), .i .i64 ((4 : Nat) : Int)] = some (.i .i64 ((bin6 5 4 : Nat) : Int)) := by kernel_rfl
theorem lk55 : tabG chT [.i .i64 ((5 : Nat) : Int), .i .i64 ((5 : Nat) : Int)] = some (.i .i64 ((bin6 5 5 : Nat) : Int)) := by kernel_rfl
theorem lk60 : tabG chT [.i .i64 ((6 : Nat) : Int), .i .i64 ((0 : Nat) : Int)] = some (.i .i64 ((bin6 6 0 : Nat) : Int)) := by kernel_rfl
theorem lk61 : tabG chT [.i .i64 ((6 : Nat) : Int), .i .i64 ((1 : Nat) : Int)] = some (.i .i64 ((bin6 6 1 : Nat) : Int)) := by kernel_rfl
theorem lk62 : tabG chT [.i .i64 ((6 : Nat) : Int), .i .i64 ((2 : Nat) : Int)] = some (.i .i64 ((bin6 6 2 : Nat) : Int)) := by kernel_rfl
theorem lk63 : tabG chT [.i .i64 ((6 : Nat) : Int), .i .i64 ((3 : Nat) : Int)] = some (.i .i64 ((bin6 6 3 : Nat) : Int)) := by kernel_rfl
theorem lk64 : tabG chT [.i .i64 ((6 : Nat) : Int), .i .i64 ((4 : Nat) : Int)] = some (.i .i64 ((bin6 6 4 : Nat) : Int)) := by kernel_rfl
theorem lk65 : tabG chT [.i .i64 ((6 : Nat) : Int), .i .i64 ((5 : Nat) : Int)] = some (.i .i64 ((bin6 6 5 : Nat) : Int)) := by kernel_rfl
theorem lk66 : tabG chT [.i .i64 ((6 : Nat) : Int), .i .i64 ((6 : Nat) : Int)] = some (.i .i64 ((bin6 6 6 : Nat) : Int)) := by kernel_rfl
theorem chCase {n k : Nat} (h1 : k ≤ n) (h2 : n ≤ 6) : tabG chT [.i .i64 (n : Int), .i .i64 (k : Int)] = some (.i .i64 (bin6 n k : Int)) := by
  have hn : n = 0 ∨ n = 1 ∨ n = 2 ∨ n = 3 ∨ n = 4 ∨ n = 5 ∨ n = 6 := by omega
  rcases hn with rfl | rfl | rfl | rfl | rfl | rfl | rfl
  · obtain rfl : k = 0 := by omega
    exact lk00
  · have hk : k = 0 ∨ k = 1 := by omega
    rcases hk with rfl | rfl
    · exact lk10
    · exact lk11
  · have hk : k = 0 ∨ k = 1 ∨ k = 2 := by omega
    rcases hk with rfl | rfl | rfl
    · exact lk20
    · exact lk21
    · exact lk22
  · have hk : k = 0 ∨ k = 1 ∨ k = 2 ∨ k = 3 := by omega
    rcases hk with rfl | rfl | rfl | rfl
    · exact lk30
    · exact lk31
    · exact lk32
    · exact lk33
  · have hk : k = 0 ∨ k = 1 ∨ k = 2 ∨ k = 3 ∨ k = 4 := by omega
    rcases hk with rfl | rfl | rfl | rfl | rfl
    · exact lk40
    · exact lk41
    · exact lk42
    · exact lk43
    · exact lk44
  · have hk : k = 0 ∨ k = 1 ∨ k = 2 ∨ k = 3 ∨ k = 4 ∨ k = 5 := by omega
    rcases hk with rfl | rfl | rfl | rfl | rfl | rfl
    · exact lk50
    · exact lk51
    · exact lk52
    · exact lk53
    · exact lk54
    · exact lk55
  · have hk : k = 0 ∨ k = 1 ∨ k = 2 ∨ k = 3 ∨ k = 4 ∨ k = 5 ∨ k = 6 := by omega
    rcases hk with rfl | rfl | rfl | rfl | rfl | rfl | rfl
    · exact lk60
    · exact lk61
    · exact lk62
    · exact lk63
    · exact lk64
    · exact lk65
    · exact lk66
end Go.Proofs.Ytneacehpoaambaa
