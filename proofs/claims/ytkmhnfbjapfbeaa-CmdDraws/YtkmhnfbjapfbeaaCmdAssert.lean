/-
  What an assertion to a command's type answers (layer 20).
-/
import Derived.Test.YtkmhnfbjapfbeaaCmdPlain
import Derived.BigGuard
namespace Go.Proofs.Ytkmhnfbjapfbeaa
open Go.RowKit

theorem as_Make_Make (v : Value) (w : World) : (Instr.typeAssert (.iface 39 v) 30 39 true).run Try.prog w = .ok (.tuple #[v, .bool true]) w := by kernel_rfl
theorem as_Make_Set (v : Value) (w : World) : (Instr.typeAssert (.iface 39 v) 30 43 true).run Try.prog w = .ok (.tuple #[.agg #[.int .i64 0, .int .i64 0, .int .i64 0, .int .i64 0, .int .i64 0, .int .i64 0, .slice none 0 0, .slice none 0 0], .bool false]) w := by kernel_rfl
theorem as_Make_Wipe (v : Value) (w : World) : (Instr.typeAssert (.iface 39 v) 30 63 true).run Try.prog w = .ok (.tuple #[.agg #[.int .i64 0, .int .i64 0, .int .i64 0, .int .i64 0], .bool false]) w := by kernel_rfl
theorem as_Make_Draw (v : Value) (w : World) : (Instr.typeAssert (.iface 39 v) 30 49 true).run Try.prog w = .ok (.tuple #[.agg #[.int .i64 0, .int .i64 0, .int .i64 0, .int .i64 0], .bool false]) w := by kernel_rfl
theorem as_Make_Mark (v : Value) (w : World) : (Instr.typeAssert (.iface 39 v) 30 41 true).run Try.prog w = .ok (.tuple #[.agg #[.int .i64 0, .int .i64 0], .bool false]) w := by kernel_rfl
theorem as_Make_Look (v : Value) (w : World) : (Instr.typeAssert (.iface 39 v) 30 65 true).run Try.prog w = .ok (.tuple #[.agg #[.int .i64 0, .int .i64 0, .int .i64 0, .int .i64 0, .int .i64 0], .bool false]) w := by kernel_rfl
theorem as_Set_Make (v : Value) (w : World) : (Instr.typeAssert (.iface 43 v) 30 39 true).run Try.prog w = .ok (.tuple #[.agg #[.int .i64 0, .int .i64 0, .int .i64 0, .int .i64 0, .slice none 0 0, .slice none 0 0], .bool false]) w := by kernel_rfl
theorem as_Set_Set (v : Value) (w : World) : (Instr.typeAssert (.iface 43 v) 30 43 true).run Try.prog w = .ok (.tuple #[v, .bool true]) w := by kernel_rfl
theorem as_Set_Wipe (v : Value) (w : World) : (Instr.typeAssert (.iface 43 v) 30 63 true).run Try.prog w = .ok (.tuple #[.agg #[.int .i64 0, .int .i64 0, .int .i64 0, .int .i64 0], .bool false]) w := by kernel_rfl
theorem as_Set_Draw (v : Value) (w : World) : (Instr.typeAssert (.iface 43 v) 30 49 true).run Try.prog w = .ok (.tuple #[.agg #[.int .i64 0, .int .i64 0, .int .i64 0, .int .i64 0], .bool false]) w := by kernel_rfl
theorem as_Set_Mark (v : Value) (w : World) : (Instr.typeAssert (.iface 43 v) 30 41 true).run Try.prog w = .ok (.tuple #[.agg #[.int .i64 0, .int .i64 0], .bool false]) w := by kernel_rfl
theorem as_Set_Look (v : Value) (w : World) : (Instr.typeAssert (.iface 43 v) 30 65 true).run Try.prog w = .ok (.tuple #[.agg #[.int .i64 0, .int .i64 0, .int .i64 0, .int .i64 0, .int .i64 0], .bool false]) w := by kernel_rfl
theorem as_Wipe_Make (v : Value) (w : World) : (Instr.typeAssert (.iface 63 v) 30 39 true).run Try.prog w = .ok (.tuple #[.agg #[.int .i64 0, .int .i64 0, .int .i64 0, .int .i64 0, .slice none 0 0, .slice none 0 0], .bool false]) w := by kernel_rfl
theorem as_Wipe_Set (v : Value) (w : World) : (Instr.typeAssert (.iface 63 v) 30 43 true).run Try.prog w = .ok (.tuple #[.agg #[.int .i64 0, .int .i64 0, .int .i64 0, .int .i64 0, .int .i64 0, .int .i64 0, .slice none 0 0, .slice none 0 0], .bool false]) w := by kernel_rfl
theorem as_Wipe_Wipe (v : Value) (w : World) : (Instr.typeAssert (.iface 63 v) 30 63 true).run Try.prog w = .ok (.tuple #[v, .bool true]) w := by kernel_rfl
theorem as_Wipe_Draw (v : Value) (w : World) : (Instr.typeAssert (.iface 63 v) 30 49 true).run Try.prog w = .ok (.tuple #[.agg #[.int .i64 0, .int .i64 0, .int .i64 0, .int .i64 0], .bool false]) w := by kernel_rfl
theorem as_Wipe_Mark (v : Value) (w : World) : (Instr.typeAssert (.iface 63 v) 30 41 true).run Try.prog w = .ok (.tuple #[.agg #[.int .i64 0, .int .i64 0], .bool false]) w := by kernel_rfl
theorem as_Wipe_Look (v : Value) (w : World) : (Instr.typeAssert (.iface 63 v) 30 65 true).run Try.prog w = .ok (.tuple #[.agg #[.int .i64 0, .int .i64 0, .int .i64 0, .int .i64 0, .int .i64 0], .bool false]) w := by kernel_rfl
theorem as_Draw_Make (v : Value) (w : World) : (Instr.typeAssert (.iface 49 v) 30 39 true).run Try.prog w = .ok (.tuple #[.agg #[.int .i64 0, .int .i64 0, .int .i64 0, .int .i64 0, .slice none 0 0, .slice none 0 0], .bool false]) w := by kernel_rfl
theorem as_Draw_Set (v : Value) (w : World) : (Instr.typeAssert (.iface 49 v) 30 43 true).run Try.prog w = .ok (.tuple #[.agg #[.int .i64 0, .int .i64 0, .int .i64 0, .int .i64 0, .int .i64 0, .int .i64 0, .slice none 0 0, .slice none 0 0], .bool false]) w := by kernel_rfl
theorem as_Draw_Wipe (v : Value) (w : World) : (Instr.typeAssert (.iface 49 v) 30 63 true).run Try.prog w = .ok (.tuple #[.agg #[.int .i64 0, .int .i64 0, .int .i64 0, .int .i64 0], .bool false]) w := by kernel_rfl
theorem as_Draw_Draw (v : Value) (w : World) : (Instr.typeAssert (.iface 49 v) 30 49 true).run Try.prog w = .ok (.tuple #[v, .bool true]) w := by kernel_rfl
theorem as_Draw_Mark (v : Value) (w : World) : (Instr.typeAssert (.iface 49 v) 30 41 true).run Try.prog w = .ok (.tuple #[.agg #[.int .i64 0, .int .i64 0], .bool false]) w := by kernel_rfl
theorem as_Draw_Look (v : Value) (w : World) : (Instr.typeAssert (.iface 49 v) 30 65 true).run Try.prog w = .ok (.tuple #[.agg #[.int .i64 0, .int .i64 0, .int .i64 0, .int .i64 0, .int .i64 0], .bool false]) w := by kernel_rfl
theorem as_Mark_Make (v : Value) (w : World) : (Instr.typeAssert (.iface 41 v) 30 39 true).run Try.prog w = .ok (.tuple #[.agg #[.int .i64 0, .int .i64 0, .int .i64 0, .int .i64 0, .slice none 0 0, .slice none 0 0], .bool false]) w := by kernel_rfl
theorem as_Mark_Set (v : Value) (w : World) : (Instr.typeAssert (.iface 41 v) 30 43 true).run Try.prog w = .ok (.tuple #[.agg #[.int .i64 0, .int .i64 0, .int .i64 0, .int .i64 0, .int .i64 0, .int .i64 0, .slice none 0 0, .slice none 0 0], .bool false]) w := by kernel_rfl
theorem as_Mark_Wipe (v : Value) (w : World) : (Instr.typeAssert (.iface 41 v) 30 63 true).run Try.prog w = .ok (.tuple #[.agg #[.int .i64 0, .int .i64 0, .int .i64 0, .int .i64 0], .bool false]) w := by kernel_rfl
theorem as_Mark_Draw (v : Value) (w : World) : (Instr.typeAssert (.iface 41 v) 30 49 true).run Try.prog w = .ok (.tuple #[.agg #[.int .i64 0, .int .i64 0, .int .i64 0, .int .i64 0], .bool false]) w := by kernel_rfl
theorem as_Mark_Mark (v : Value) (w : World) : (Instr.typeAssert (.iface 41 v) 30 41 true).run Try.prog w = .ok (.tuple #[v, .bool true]) w := by kernel_rfl
theorem as_Mark_Look (v : Value) (w : World) : (Instr.typeAssert (.iface 41 v) 30 65 true).run Try.prog w = .ok (.tuple #[.agg #[.int .i64 0, .int .i64 0, .int .i64 0, .int .i64 0, .int .i64 0], .bool false]) w := by kernel_rfl
theorem as_Look_Make (v : Value) (w : World) : (Instr.typeAssert (.iface 65 v) 30 39 true).run Try.prog w = .ok (.tuple #[.agg #[.int .i64 0, .int .i64 0, .int .i64 0, .int .i64 0, .slice none 0 0, .slice none 0 0], .bool false]) w := by kernel_rfl
theorem as_Look_Set (v : Value) (w : World) : (Instr.typeAssert (.iface 65 v) 30 43 true).run Try.prog w = .ok (.tuple #[.agg #[.int .i64 0, .int .i64 0, .int .i64 0, .int .i64 0, .int .i64 0, .int .i64 0, .slice none 0 0, .slice none 0 0], .bool false]) w := by kernel_rfl
theorem as_Look_Wipe (v : Value) (w : World) : (Instr.typeAssert (.iface 65 v) 30 63 true).run Try.prog w = .ok (.tuple #[.agg #[.int .i64 0, .int .i64 0, .int .i64 0, .int .i64 0], .bool false]) w := by kernel_rfl
theorem as_Look_Draw (v : Value) (w : World) : (Instr.typeAssert (.iface 65 v) 30 49 true).run Try.prog w = .ok (.tuple #[.agg #[.int .i64 0, .int .i64 0, .int .i64 0, .int .i64 0], .bool false]) w := by kernel_rfl
theorem as_Look_Mark (v : Value) (w : World) : (Instr.typeAssert (.iface 65 v) 30 41 true).run Try.prog w = .ok (.tuple #[.agg #[.int .i64 0, .int .i64 0], .bool false]) w := by kernel_rfl
theorem as_Look_Look (v : Value) (w : World) : (Instr.typeAssert (.iface 65 v) 30 65 true).run Try.prog w = .ok (.tuple #[v, .bool true]) w := by kernel_rfl
theorem as_no_Draw (w : World) : (Instr.typeAssert .nilIface 30 49 true).run Try.prog w = .ok (.tuple #[.agg #[.int .i64 0, .int .i64 0, .int .i64 0, .int .i64 0], .bool false]) w := by kernel_rfl
theorem as_draw (v : Value) (w : World) : (Instr.typeAssert (.iface 49 v) 30 49 false).run Try.prog w = .ok v w := by kernel_rfl
end Go.Proofs.Ytkmhnfbjapfbeaa
