/-
  No cell of these rows narrows 'for every input' (looked for: loops, veiled, ifaces, maps, wideKeys, modest, calm, conditions, laid).
  DERIVED. THE GIVEN ROWS OF THIS SEAT. 4 by the template 'for every input the law returns true; each argument reads behind the call as it read before'; 0 by the template 'total and deterministic' (their statements: YtfhlnldiljldcaaTotals.lean).
  GIVEN WITH THE SEED: the statements are not yours to turn. If you find one false, say at which input.
  Laid BY PROGRAM, IN A SANDBOX (cutbox-rows.mjs): the forced cells as the released guide's own fill.sh prints them over the translation f457623f9ed37423… (all of the seat's roots in one cut). By AI agents, Wed Nov 11 2026. No macro, syntax, notation, axiom, sorry.
-/
import Derived.Test.YtfhlnldiljldcaaChecked
import GoSem.Claim
import GoSem.ClaimJoined
import GoSem.ClaimMapViews
import Derived.JoinedTies
import Derived.KernelRfl
namespace Go.Proofs.Ytfhlnldiljldcaa
/- THE CELL 'sum', in the pinned program and in every row, IS THE sha256 OF THE DUMP (.gsa) THAT YtfhlnldiljldcaaProg.lean LOADS. Nothing in Lean hashes anything: it is a label: what it is worth is what the hold of that sum in a sandbox is worth. -/
noncomputable def Try.pinned : Pinned := { name := "ytfhlnldiljldcaa", sum := "f457623f9ed374238093858b8fb3576378dd5cbe8e1fa003eebf3e00e4ff6632", checked := Try.checked }
namespace Rows
def none {H : Type} : Left H := { results := [], args := [] }

/-- 'temperalaw15.ClipCuts': WHATEVER THE INPUT: true; the input reads as it did. -/
def clipCutsSpec : ChangeSpec := { name := "clipCuts", fn := fun _ => fun
  | [d1, d2, d3] => { results := [.lit (.bool true)], args := [d1, d2, d3] }
  | _ => none }
def clipCutsRow : OpenClaim := { program := "ytfhlnldiljldcaa", sum := "f457623f9ed374238093858b8fb3576378dd5cbe8e1fa003eebf3e00e4ff6632", func := "tempera/temperalaw15.ClipCuts", spec := "clipCuts", inPlace := ["math/bits.Add64"], unfollowed := true, recurses := true, named := ["math/bits.divideError", "math/bits.overflowError"], apart := false }
def ClipCutsSaid : Prop := clipCutsRow.holds Try.pinned (OpenSpec.ofChange clipCutsSpec)

/-- ITS FALSE NEIGHBOUR: 'it returns false'. Refute it at one input. -/
def clipCutsWrong : ChangeSpec := { name := "clipCuts", fn := fun _ => fun
  | [d1, d2, d3] => { results := [.lit (.bool false)], args := [d1, d2, d3] }
  | _ => none }
def ClipCutsWrongFalsely : Prop := clipCutsRow.holds Try.pinned (OpenSpec.ofChange clipCutsWrong)

/-- 'temperalaw15.ClipPlane': WHATEVER THE INPUT: true; the input reads as it did. -/
def clipPlaneSpec : ChangeSpec := { name := "clipPlane", fn := fun _ => fun
  | [d1, d2] => { results := [.lit (.bool true)], args := [d1, d2] }
  | _ => none }
def clipPlaneRow : OpenClaim := { program := "ytfhlnldiljldcaa", sum := "f457623f9ed374238093858b8fb3576378dd5cbe8e1fa003eebf3e00e4ff6632", func := "tempera/temperalaw15.ClipPlane", spec := "clipPlane", inPlace := ["math/bits.Add64"], unfollowed := true, recurses := true, named := ["math/bits.divideError", "math/bits.overflowError"], apart := false }
def ClipPlaneSaid : Prop := clipPlaneRow.holds Try.pinned (OpenSpec.ofChange clipPlaneSpec)

/-- ITS FALSE NEIGHBOUR: 'it returns false'. Refute it at one input. -/
def clipPlaneWrong : ChangeSpec := { name := "clipPlane", fn := fun _ => fun
  | [d1, d2] => { results := [.lit (.bool false)], args := [d1, d2] }
  | _ => none }
def ClipPlaneWrongFalsely : Prop := clipPlaneRow.holds Try.pinned (OpenSpec.ofChange clipPlaneWrong)

/-- 'temperalaw15.ClipAll': WHATEVER THE INPUT: true; the input reads as it did. -/
def clipAllSpec : ChangeSpec := { name := "clipAll", fn := fun _ => fun
  | [d] => { results := [.lit (.bool true)], args := [d] }
  | _ => none }
def clipAllRow : OpenClaim := { program := "ytfhlnldiljldcaa", sum := "f457623f9ed374238093858b8fb3576378dd5cbe8e1fa003eebf3e00e4ff6632", func := "tempera/temperalaw15.ClipAll", spec := "clipAll", inPlace := ["math/bits.Add64"], unfollowed := true, recurses := true, named := ["math/bits.divideError", "math/bits.overflowError"], apart := false }
def ClipAllSaid : Prop := clipAllRow.holds Try.pinned (OpenSpec.ofChange clipAllSpec)

/-- ITS FALSE NEIGHBOUR: 'it returns false'. Refute it at one input. -/
def clipAllWrong : ChangeSpec := { name := "clipAll", fn := fun _ => fun
  | [d] => { results := [.lit (.bool false)], args := [d] }
  | _ => none }
def ClipAllWrongFalsely : Prop := clipAllRow.holds Try.pinned (OpenSpec.ofChange clipAllWrong)

/-- 'temperalaw15.ClipBack': WHATEVER THE INPUT: true; the input reads as it did. -/
def clipBackSpec : ChangeSpec := { name := "clipBack", fn := fun _ => fun
  | [d1, d2] => { results := [.lit (.bool true)], args := [d1, d2] }
  | _ => none }
def clipBackRow : OpenClaim := { program := "ytfhlnldiljldcaa", sum := "f457623f9ed374238093858b8fb3576378dd5cbe8e1fa003eebf3e00e4ff6632", func := "tempera/temperalaw15.ClipBack", spec := "clipBack", inPlace := ["math/bits.Add64"], unfollowed := true, recurses := true, named := ["math/bits.divideError", "math/bits.overflowError"], apart := false }
def ClipBackSaid : Prop := clipBackRow.holds Try.pinned (OpenSpec.ofChange clipBackSpec)

/-- ITS FALSE NEIGHBOUR: 'it returns false'. Refute it at one input. -/
def clipBackWrong : ChangeSpec := { name := "clipBack", fn := fun _ => fun
  | [d1, d2] => { results := [.lit (.bool false)], args := [d1, d2] }
  | _ => none }
def ClipBackWrongFalsely : Prop := clipBackRow.holds Try.pinned (OpenSpec.ofChange clipBackWrong)

/- THE SECOND FORM. 'bulk': how many values and letters a reading holds, each counted each time it is reached (what is shared counts as often as it is met; a slice's spare places count too). A statement '..UptoSaid' is the law's where the arguments, and the package variables that the reading takes, are together of bulk at most 1048576: NARROWER than '..Said'. Prove '..Said' where nothing that the law and all that it calls make is longer than what came in: it says more and counts as full. Else prove '..UptoSaid'. A law counts once. -/
mutual
def uptoBulk {H : Type} : DataW H → Nat
  | .lit (.string bytes) => bytes.length + 1
  | .lit _ => 1
  | .nil => 1
  | .ptr d => uptoBulk d + 1
  | .slice elems spare => uptoBulkAll elems + uptoBulkAll spare + 1
  | .agg parts => uptoBulkAll parts + 1
  | .iface _ d => uptoBulk d + 1
  | .map entries => uptoBulkEntries entries + 1
  | .held _ => 1
def uptoBulkAll {H : Type} : List (DataW H) → Nat
  | [] => 0
  | d :: r => uptoBulk d + uptoBulkAll r
def uptoBulkEntries {H : Type} : List (Lit × DataW H) → Nat
  | [] => 0
  | x :: r => uptoBulkEntry x + uptoBulkEntries r
def uptoBulkEntry {H : Type} : Lit × DataW H → Nat
  | (.string bytes, d) => bytes.length + uptoBulk d + 1
  | (_, d) => uptoBulk d + 1
 end
def uptoSmall : (H : Type) → List (DataW H) → Bool := fun _ ds => decide (uptoBulkAll ds ≤ 1048576)
def OpenSpec.upto (s : _root_.Go.ChangeSpec) : _root_.Go.OpenSpec := { _root_.Go.OpenSpec.ofChange s with cond := some uptoSmall }

/-- 'temperalaw15.ClipCuts', WHERE WHAT IT READS IS OF BULK AT MOST 1048576: true; the input reads as it did. -/
def clipCutsUptoRow : OpenClaim := { program := "ytfhlnldiljldcaa", sum := "f457623f9ed374238093858b8fb3576378dd5cbe8e1fa003eebf3e00e4ff6632", func := "tempera/temperalaw15.ClipCuts", spec := "clipCuts", inPlace := ["math/bits.Add64"], unfollowed := true, recurses := true, named := ["math/bits.divideError", "math/bits.overflowError"], apart := false, narrowed := true }
def ClipCutsUptoSaid : Prop := clipCutsUptoRow.holds Try.pinned (OpenSpec.upto clipCutsSpec)

/-- 'temperalaw15.ClipPlane', WHERE WHAT IT READS IS OF BULK AT MOST 1048576: true; the input reads as it did. -/
def clipPlaneUptoRow : OpenClaim := { program := "ytfhlnldiljldcaa", sum := "f457623f9ed374238093858b8fb3576378dd5cbe8e1fa003eebf3e00e4ff6632", func := "tempera/temperalaw15.ClipPlane", spec := "clipPlane", inPlace := ["math/bits.Add64"], unfollowed := true, recurses := true, named := ["math/bits.divideError", "math/bits.overflowError"], apart := false, narrowed := true }
def ClipPlaneUptoSaid : Prop := clipPlaneUptoRow.holds Try.pinned (OpenSpec.upto clipPlaneSpec)

/-- 'temperalaw15.ClipAll', WHERE WHAT IT READS IS OF BULK AT MOST 1048576: true; the input reads as it did. -/
def clipAllUptoRow : OpenClaim := { program := "ytfhlnldiljldcaa", sum := "f457623f9ed374238093858b8fb3576378dd5cbe8e1fa003eebf3e00e4ff6632", func := "tempera/temperalaw15.ClipAll", spec := "clipAll", inPlace := ["math/bits.Add64"], unfollowed := true, recurses := true, named := ["math/bits.divideError", "math/bits.overflowError"], apart := false, narrowed := true }
def ClipAllUptoSaid : Prop := clipAllUptoRow.holds Try.pinned (OpenSpec.upto clipAllSpec)

/-- 'temperalaw15.ClipBack', WHERE WHAT IT READS IS OF BULK AT MOST 1048576: true; the input reads as it did. -/
def clipBackUptoRow : OpenClaim := { program := "ytfhlnldiljldcaa", sum := "f457623f9ed374238093858b8fb3576378dd5cbe8e1fa003eebf3e00e4ff6632", func := "tempera/temperalaw15.ClipBack", spec := "clipBack", inPlace := ["math/bits.Add64"], unfollowed := true, recurses := true, named := ["math/bits.divideError", "math/bits.overflowError"], apart := false, narrowed := true }
def ClipBackUptoSaid : Prop := clipBackUptoRow.holds Try.pinned (OpenSpec.upto clipBackSpec)

end Rows
end Go.Proofs.Ytfhlnldiljldcaa
