/-
  The moment complexes, by what is proved.
-/
import Derived.Test.YtneacehpoaambaaMkFa
import Derived.Test.YtneacehpoaambaaMkFb
import Derived.Test.YtneacehpoaambaaMkFc
import Derived.Test.YtneacehpoaambaaMkFd
import Derived.Test.YtneacehpoaambaaMkFe
namespace Go.Proofs.Ytneacehpoaambaa
open Go.Ev
theorem flat2 {n d : Int} : ∀ v ∈ [V.i .i64 n, V.i .i64 d], v.flat = true := fun v hv => by
  rcases List.mem_cons.1 hv with rfl | hv
  · rfl
  · rcases List.mem_cons.1 hv with rfl | hv
    · rfl
    · cases hv
noncomputable def momG (args : List V) (h : H) : Option (V × H) := match args with
  | [.i .i64 n, .i .i64 d] => bif okM n d then some (.tup [.sl h.nx 0 (momL n d).length 1, .i .i64 0], newI h (momL n d)) else some (.tup [.sn, .i .i64 1], h)
  | _ => none
noncomputable def rmomG (args : List V) (h : H) : Option (V × H) := match args with
  | [.i .i64 n, .i .i64 d] => bif okM n d then some (.sl h.nx 0 (momL n d).length 1, newI h (momL n d)) else none
  | _ => none
theorem momL_len (n d : Int) : (momL n d).length ≤ 64 := by
  unfold momL mL
  split <;> decide
theorem momG_does : ∀ args h v h', momG args h = some (v, h') → Does rig (.z (.z (.o (.o (.z .e))))) args h v h' := by
  intro args h v h' he
  unfold momG at he
  split at he
  · rename_i n d
    cases hok : okM n d
    · rw [hok] at he
      cases he
      obtain ⟨m, u, h2, e, rfl, rfl⟩ := f50_err (fs := fs1) (h := h) hok
      exact does_of_run fs1_ok (show f50.nv = none ∧ ∃ fn c, FnOk rig (.z (.z (.o (.o (.z .e))))) f50 fn c from code50) e
    · rw [hok] at he
      cases he
      rcases mom_cases hok with ⟨rfl, rfl⟩ | ⟨rfl, rfl⟩ | ⟨rfl, rfl⟩ | ⟨rfl, rfl⟩ | ⟨rfl, rfl⟩ | ⟨rfl, rfl⟩ | ⟨rfl, rfl⟩ | ⟨rfl, rfl⟩ | ⟨rfl, rfl⟩ | ⟨rfl, rfl⟩
      · exact does2 fs1_ok code50 flat2 mk32 h
      · exact does2 fs1_ok code50 flat2 mk42 h
      · exact does2 fs1_ok code50 flat2 mk43 h
      · exact does2 fs1_ok code50 flat2 mk52 h
      · exact does2 fs1_ok code50 flat2 mk53 h
      · exact does2 fs1_ok code50 flat2 mk54 h
      · exact does2 fs1_ok code50 flat2 mk62 h
      · exact does2 fs1_ok code50 flat2 mk63 h
      · exact does2 fs1_ok code50 flat2 mk64 h
      · exact does2 fs1_ok code50 flat2 mk65 h
  · cases he
theorem rmomG_does : ∀ args h v h', rmomG args h = some (v, h') → Does rig (.o (.o (.z (.o (.z .e))))) args h v h' := by
  intro args h v h' he
  unfold rmomG at he
  split at he
  · rename_i n d
    cases hok : okM n d
    · rw [hok] at he
      cases he
    · rw [hok] at he
      cases he
      rcases mom_cases hok with ⟨rfl, rfl⟩ | ⟨rfl, rfl⟩ | ⟨rfl, rfl⟩ | ⟨rfl, rfl⟩ | ⟨rfl, rfl⟩ | ⟨rfl, rfl⟩ | ⟨rfl, rfl⟩ | ⟨rfl, rfl⟩ | ⟨rfl, rfl⟩ | ⟨rfl, rfl⟩
      · exact does1 fs1_ok code51 flat2 rk32 h
      · exact does1 fs1_ok code51 flat2 rk42 h
      · exact does1 fs1_ok code51 flat2 rk43 h
      · exact does1 fs1_ok code51 flat2 rk52 h
      · exact does1 fs1_ok code51 flat2 rk53 h
      · exact does1 fs1_ok code51 flat2 rk54 h
      · exact does1 fs1_ok code51 flat2 rk62 h
      · exact does1 fs1_ok code51 flat2 rk63 h
      · exact does1 fs1_ok code51 flat2 rk64 h
      · exact does1 fs1_ok code51 flat2 rk65 h
  · cases he
noncomputable def n50 : EF := ⟨0, [], .no, some momG⟩
theorem nat50 : EntryOk rig (.z (.z (.o (.o (.z .e))))) n50 := entry_does (n := 50) rfl Try.func50 (by kernel_rfl) (by kernel_rfl) momG_does
noncomputable def n51 : EF := ⟨0, [], .no, some rmomG⟩
theorem nat51 : EntryOk rig (.o (.o (.z (.o (.z .e))))) n51 := entry_does (n := 51) rfl Try.func51 (by kernel_rfl) (by kernel_rfl) rmomG_does
end Go.Proofs.Ytneacehpoaambaa
