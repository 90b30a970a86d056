/-
  What the functions of layer 15 (clip) answer, errors too: no contract, only the words.
-/
import Derived.Test.YthhfhkenpkfioaaClipRefPoly
namespace Go.Proofs.Ythhfhkenpkfioaa
open Go.RowKit

/-- is there such a plane? -/
def Cl.pl (k : Int) : Bool := decide (0 ≤ k ∧ k ≤ 6)
theorem Cl.pl_iff {k : Int} : Cl.pl k = true ↔ 0 ≤ k ∧ k ≤ 6 := by simp [Cl.pl]
theorem Cl.pl_no {k : Int} : Cl.pl k = false ↔ k < 0 ∨ 6 < k := by rw [← Bool.not_eq_true, Cl.pl_iff]; omega
/-- the errors of Far, of Cut, of At -/
def Cl.farE (k : Int) (c : Cn) : Int := if Cl.pl k then (if Cl.mayB c then 0 else 3) else 2
def Cl.cutE (k : Int) (a b : Cn) : Int := if Cl.pl k then (if Cl.mayB a && Cl.mayB b then (if Cl.inn k.toNat a && !Cl.inn k.toNat b then 0 else 6) else 3) else 2
def Cl.atE (k : Int) (l : List Cn) : Int := if Cl.pl k then Cl.chk l else 2
theorem Cl.farE_pl {k : Int} {c : Cn} (h : Cl.pl k = false) : Cl.farE k c = 2 := by unfold Cl.farE; rw [h]; rfl
theorem Cl.farE_may {k : Int} {c : Cn} (h : Cl.pl k = true) (h2 : Cl.mayB c = false) : Cl.farE k c = 3 := by unfold Cl.farE; rw [h, h2]; rfl
theorem Cl.cutE_pl {k : Int} {a b : Cn} (h : Cl.pl k = false) : Cl.cutE k a b = 2 := by unfold Cl.cutE; rw [h]; rfl
theorem Cl.cutE_may {k : Int} {a b : Cn} (h : Cl.pl k = true) (h2 : (Cl.mayB a && Cl.mayB b) = false) : Cl.cutE k a b = 3 := by unfold Cl.cutE; rw [h, h2]; rfl
theorem Cl.cutE_form {k : Int} {a b : Cn} (h : Cl.pl k = true) (h2 : (Cl.mayB a && Cl.mayB b) = true) (h3 : (Cl.inn k.toNat a && !Cl.inn k.toNat b) = false) : Cl.cutE k a b = 6 := by unfold Cl.cutE; rw [h, h2, h3]; rfl
theorem Cl.atE_pl {k : Int} {l : List Cn} (h : Cl.pl k = false) : Cl.atE k l = 2 := by unfold Cl.atE; rw [h]; rfl
theorem Cl.atE_chk {k : Int} {l : List Cn} (h : Cl.pl k = true) : Cl.atE k l = Cl.chk l := by unfold Cl.atE; rw [h]; rfl
/-- what At and All answer: a row of corners, an error -/
def PAt (w : World) (l : List Cn) (E : Int) (e : Ending) (w' : World) : Prop := ∃ u, e = .returned (.tuple #[u, .int .i64 E]) ∧ Sp w' u l ∧ Below w.heap.size w w'
end Go.Proofs.Ythhfhkenpkfioaa
