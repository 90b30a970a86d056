/-
  Rows of two numbers as arguments.
-/
import Derived.Test.YtngnjnbliojoeaaMem
import Derived.WideKeyPair
namespace Go.Proofs.Ytngnjnbliojoeaa
open Go.ChangeShapes Go.WideShapes Go.ChangeAt Go.RowKit
theorem key_two : WideMaps.ArrKey Try.prog 30 3 2 := ⟨Try.underlying30, by kernel_rfl, by kernel_rfl, by kernel_rfl⟩
end Go.Proofs.Ytngnjnbliojoeaa
