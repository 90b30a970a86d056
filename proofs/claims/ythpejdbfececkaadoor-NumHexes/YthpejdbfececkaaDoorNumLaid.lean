/-
  What the rows' listed variables give the walks, and a start that fits.
-/
import Derived.Test.YthpejdbfececkaaDoorNumWalks
import Derived.LaidMore
import Derived.LaidHandle
import Derived.MakeChecks
import Derived.Stop.LaidErr
import Derived.Stop.Joined
import Derived.Lib.LaidTab
import Derived.ShutString
namespace Go.Proofs.YthpejdbfececkaaDoor
open Go.ChangeShapes Go.WideShapes Go.ChangeAt Go.RowKit

theorem own : ownKnob Tryd.prog.godebug = none := by kernel_rfl
abbrev laid5 : List (String × DataW Unit) := [("math/bits.deBruijn32tab", Rows.laid_math_bits_deBruijn32tab), ("math/bits.deBruijn64tab", Rows.laid_math_bits_deBruijn64tab), ("internal/strconv.uint64pow10", Rows.laid_internal_strconv_uint64pow10), ("strconv.ErrRange", Rows.laid_strconv_ErrRange), ("strconv.ErrSyntax", Rows.laid_strconv_ErrSyntax)]
theorem gT : Tryd.prog.globalNamed "internal/strconv.uint64pow10" = some 3 := by kernel_rfl
theorem gR : Tryd.prog.globalNamed "strconv.ErrRange" = some 1 := by kernel_rfl
theorem gS : Tryd.prog.globalNamed "strconv.ErrSyntax" = some 0 := by kernel_rfl
theorem tT : (Tryd.prog.globals[3]?).map (·.type) = some 69 := by kernel_rfl
theorem tR : (Tryd.prog.globals[1]?).map (·.type) = some 36 := by kernel_rfl
theorem tS : (Tryd.prog.globals[0]?).map (·.type) = some 36 := by kernel_rfl
theorem cT : Tryd.prog.cellsOf 69 = 20 := by kernel_rfl
theorem cU : Tryd.prog.cellsOf 39 = 1 := by kernel_rfl
theorem cE : Tryd.prog.cellsOf 67 = 1 := by kernel_rfl
theorem c9 : Tryd.prog.cellsOf 9 = 1 := by kernel_rfl
theorem star : "*" ++ "errors.errorString" = "*errors.errorString" := by decide
theorem rowE (u : TypeId) (h : Tryd.prog.typeName? 3 u = some "*errors.errorString") : u = 65 :=
  typeName_ptr_named (nm := "errors.errorString") (by rw [star]; kernel_rfl) (by kernel_rfl) (by decide) u (by rw [star]; exact h)
theorem tabD : (Rows.laid_internal_strconv_uint64pow10 : DataW Unit) = Lib.tabData .u64 Lib.pow10Tab := by kernel_rfl

/-- the listed variables hold what the walks ask -/
theorem vs_of {W : World} (h : laidMetH Tryd.prog laid5 W) : Vs W := by
  rw [MakeChecks.laidMetH_plain _ _ _ (by kernel_rfl)] at h
  have h3 := h.tail.tail
  have h3' : laidMet Tryd.prog (("internal/strconv.uint64pow10", Lib.tabData .u64 Lib.pow10Tab) :: [("strconv.ErrRange", Rows.laid_strconv_ErrRange), ("strconv.ErrSyntax", Rows.laid_strconv_ErrSyntax)]) W := by rw [← tabD]; exact h3
  obtain ⟨a0, s0, hv0, -, -, -⟩ := laid_sentinel h3.tail gR tR Tryd.underlying36 rowE Tryd.underlying65 Tryd.underlying67 rfl rfl Tryd.underlying9 cE c9
  obtain ⟨a1, s1, hv1, -, -, -⟩ := laid_sentinel h3.tail.tail gS tS Tryd.underlying36 rowE Tryd.underlying65 Tryd.underlying67 rfl rfl Tryd.underlying9 cE c9
  exact ⟨Lib.tabIs_of_head gT tT Tryd.underlying69 Tryd.underlying39 cU cT h3', ⟨_, _, hv1⟩, ⟨_, _, hv0⟩⟩

/-- the door's own heap fits -/
theorem door_met (os : Os) (args : Array Value) : laidMetH Tryd.prog laid5 ((World.doorLaid Tryd.prog 400 os).forCall (fun _ _ => 0) ⟨#[], args, []⟩).memory :=
  laidMetH_of_parts3 (fuel := 8) (laidMet_of_run' 8 (by kernel_rfl) (by kernel_rfl)) (by kernel_rfl) (by kernel_rfl)
end Go.Proofs.YthpejdbfececkaaDoor
