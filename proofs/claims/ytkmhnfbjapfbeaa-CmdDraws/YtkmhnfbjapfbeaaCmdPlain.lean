/-
  Commands: which fields are their own; vertices by their numbers (layer 20).
-/
import Derived.Test.YtkmhnfbjapfbeaaMem6
import Derived.Test.YtkmhnfbjapfbeaaSlRow
import Derived.Test.YtkmhnfbjapfbeaaRowsOf2
import Derived.BigGuard
namespace Go.Proofs.Ytkmhnfbjapfbeaa
open Go.RowKit

theorem ty_cmd : Ty 25 8 := ⟨by kernel_rfl, _, Try.underlying25, rfl⟩
theorem ty_make : Ty 39 6 := ⟨by kernel_rfl, _, Try.underlying39, rfl⟩
theorem ty_set : Ty 43 8 := ⟨by kernel_rfl, _, Try.underlying43, rfl⟩
theorem ty_wipe : Ty 63 4 := ⟨by kernel_rfl, _, Try.underlying63, rfl⟩
theorem ty_draw : Ty 49 4 := ⟨by kernel_rfl, _, Try.underlying49, rfl⟩
theorem ty_mark : Ty 41 2 := ⟨by kernel_rfl, _, Try.underlying41, rfl⟩
theorem ty_look : Ty 65 5 := ⟨by kernel_rfl, _, Try.underlying65, rfl⟩
theorem ty_vertex : Ty 59 9 := ⟨by kernel_rfl, _, Try.underlying59, rfl⟩
namespace Cm
/-- the Op that is kept -/
def op (o : Int) : Int := bif decide (1 ≤ o ∧ o ≤ 19) then o else 0
/-- is H a field of its own? -/
def hH (o : Int) : Bool := decide (o = 1 ∨ o = 2 ∨ o = 3 ∨ o = 4 ∨ o = 12 ∨ o = 14 ∨ o = 18)
/-- is A a field of its own? -/
def hA (o : Int) : Bool := decide (o = 3 ∨ o = 6 ∨ o = 7 ∨ o = 8 ∨ o = 10 ∨ o = 11 ∨ o = 12 ∨ o = 13 ∨ o = 14 ∨ o = 16 ∨ o = 17 ∨ o = 18)
/-- is B a field of its own? -/
def hB (o : Int) : Bool := decide (o = 3 ∨ o = 6 ∨ o = 7 ∨ o = 8 ∨ o = 10 ∨ o = 12 ∨ o = 13 ∨ o = 14 ∨ o = 18)
/-- is C a field of its own? -/
def hC (o : Int) : Bool := decide (o = 6 ∨ o = 7 ∨ o = 10 ∨ o = 13 ∨ o = 14 ∨ o = 18)
/-- is D a field of its own? -/
def hD (o : Int) : Bool := decide (o = 6 ∨ o = 7 ∨ o = 10 ∨ o = 13 ∨ o = 18)
/-- is L a field of its own? -/
def hL (o : Int) : Bool := decide (o = 2 ∨ o = 3 ∨ o = 5 ∨ o = 9)
/-- is V a field of its own? -/
def hV (o : Int) : Bool := decide (o = 1)
def pk (b : Bool) (n : Int) : Int := bif b then n else 0
def pl {α : Type} (b : Bool) (l : List α) : List α := bif b then l else []
theorem pl_len {α : Type} (b : Bool) (l : List α) : (pl b l).length ≤ l.length := by cases b <;> simp [pl]
/-- a vertex, by its nine numbers -/
def vt (s : Nat → Int) : List Value := [.int .i64 (s 0), .int .i64 (s 1), .int .i64 (s 2), .int .i64 (s 3), .int .i64 (s 4), .int .i64 (s 5), .int .i64 (s 6), .int .i64 (s 7), .int .i64 (s 8)]
theorem vt_len (s : Nat → Int) : (vt s).length = 9 := rfl
theorem op_in {o : Int} (h : 1 ≤ o ∧ o ≤ 19) : op o = o := by simp [op, h]
theorem op_out {o : Int} (h : ¬ (1 ≤ o ∧ o ≤ 19)) : op o = 0 := by simp [op, h]
theorem kinds {o : Int} (h : 1 ≤ o ∧ o ≤ 19) : o = 1 ∨ o = 2 ∨ o = 3 ∨ o = 4 ∨ o = 5 ∨ o = 6 ∨ o = 7 ∨ o = 8 ∨ o = 9 ∨ o = 10 ∨ o = 11 ∨ o = 12 ∨ o = 13 ∨ o = 14 ∨ o = 15 ∨ o = 16 ∨ o = 17 ∨ o = 18 ∨ o = 19 := by omega
end Cm
end Go.Proofs.Ytkmhnfbjapfbeaa
