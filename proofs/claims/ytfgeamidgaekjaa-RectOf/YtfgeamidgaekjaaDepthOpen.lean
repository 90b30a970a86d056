/-
  Rows of two numbers as arguments.
-/
import Derived.Test.YtfgeamidgaekjaaMem
import Derived.WideKeyPair
namespace Go.Proofs.Ytfgeamidgaekjaa
open Go.ChangeShapes Go.WideShapes Go.ChangeAt Go.RowKit
theorem key_two : WideMaps.ArrKey Try.prog 31 3 2 := ⟨Try.underlying31, by kernel_rfl, by kernel_rfl, by kernel_rfl⟩
end Go.Proofs.Ytfgeamidgaekjaa
