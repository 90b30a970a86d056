/-
  What the row's listed variable gives the walk, and a start that fits.
-/
import Derived.Test.YtbhdmfoigilibaaDoorVecTurnsWalk2
import Derived.LaidMore
import Derived.LaidHandle
import Derived.MakeChecks
import Derived.Stop.LaidErr
import Derived.Stop.Joined
import Derived.Lib.LaidTab
namespace Go.Proofs.YtbhdmfoigilibaaDoor
open Go.ChangeShapes Go.WideShapes Go.ChangeAt Go.RowKit

theorem own : ownKnob Tryd.prog.godebug = none := by kernel_rfl
abbrev laid1 : List (String × DataW Unit) := [("tempera/vec.sines", Rows.laid_tempera_vec_sines)]
theorem gS : Tryd.prog.globalNamed "tempera/vec.sines" = some 0 := by kernel_rfl
theorem tS : (Tryd.prog.globals[0]?).map (·.type) = some 43 := by kernel_rfl
theorem cS : Tryd.prog.cellsOf 43 = 4 := by kernel_rfl
theorem cI : Tryd.prog.cellsOf 3 = 1 := by kernel_rfl
theorem tabD : (Rows.laid_tempera_vec_sines : DataW Unit) = Lib.tabData .i64 [0, 65536, 0, -65536] := by kernel_rfl

/-- the listed variable holds what the walk asks -/
theorem sn_of {W : World} (h : laidMetH Tryd.prog laid1 W) : Sn W := by
  rw [MakeChecks.laidMetH_plain _ _ _ (by kernel_rfl)] at h
  have h' : laidMet Tryd.prog (("tempera/vec.sines", Lib.tabData .i64 [0, 65536, 0, -65536]) :: []) W := by rw [← tabD]; exact h
  have ht := Lib.tabIs_of_head gS tS Tryd.underlying43 Tryd.underlying3 cI cS h'
  intro j hj
  have h1 := ht.cell gS j (by simpa using hj)
  rcases j with _ | _ | _ | _ | j
  all_goals first | omega | (simpa [Vc.sn] using h1)

/-- the door's own heap fits -/
theorem door_met (os : Os) (args : Array Value) : laidMetH Tryd.prog laid1 ((World.doorLaid Tryd.prog 400 os).forCall (fun _ _ => 0) ⟨#[], args, []⟩).memory :=
  laidMetH_of_parts3 (fuel := 8) (laidMet_of_run' 8 (by kernel_rfl) (by kernel_rfl)) (by kernel_rfl) (by kernel_rfl)
end Go.Proofs.YtbhdmfoigilibaaDoor
