/-
  Small laws for the walks over rows of corners.
-/
import Derived.Test.YtfhlnldiljldcaaClipAwake
import Derived.Test.YtfhlnldiljldcaaClipRefAt
import Derived.Test.YtfhlnldiljldcaaClipRefAll
import Derived.BigGuard
namespace Go.Proofs.Ytfhlnldiljldcaa
open Go.RowKit

theorem Sp.none {w : World} {v : Value} (h : Sp w v []) : ∃ a cap, v = .slice a 0 cap := by
  obtain ⟨a, cap, h1, _⟩ := h
  exact ⟨a, cap, h1⟩
theorem range_vec {W : World} {b o : Nat} {c : Cn} (h : W.rangeAt b o (Cl.cs c)) : W.rangeAt b o [.int .i64 (c 0), .int .i64 (c 1), .int .i64 (c 2), .int .i64 (c 3)] := fun j v hv => by
  refine h j v ?_
  rcases j with _ | _ | _ | _ | j
  all_goals first | exact hv | (simp at hv)
theorem range_num {W : World} {b o : Nat} {c : Cn} (h : W.rangeAt b o (Cl.cs c)) (j : Nat) (hj : j < 10) : W.cell? ⟨b, o + j, none⟩ = some (.int .i64 (c j)) := h j _ (Cl.cs_get c j hj)
theorem Cl.at_far {k : Nat} {l : List Cn} : ∀ c ∈ Cl.at k l, 0 ≤ Cl.far k c := fun c h => (Cl.at_all (P := fun _ => True) (fun _ _ => trivial) (fun _ _ _ _ _ _ => trivial) c h).2
theorem Cl.chk_back {l : List Cn} (h : Cl.chk l = 0) : Cl.chk l.reverse = 0 := by
  rw [Cl.chk_ok] at h ⊢
  exact ⟨by simpa using h.1, fun c hc => h.2 c (by simpa using hc)⟩
end Go.Proofs.Ytfhlnldiljldcaa
