/-
  No cell of these rows narrows 'for every input' (looked for: loops, veiled, ifaces, maps, wideKeys, modest, calm, conditions, laid).
  DERIVED. THE GIVEN ROWS OF THIS SEAT. 3 by the template 'for every input the law returns true; each argument reads behind the call as it read before'; 0 by the template 'total and deterministic' (their statements: YtiigbpfoaoekhaaTotals.lean).
  GIVEN WITH THE SEED: the statements are not yours to turn. If you find one false, say at which input.
  Laid BY PROGRAM, IN A SANDBOX (cutbox-rows.mjs): the forced cells as the released guide's own fill.sh prints them over the translation 0985430f29871693… (all of the seat's roots in one cut). By AI agents, Wed Nov 11 2026. No macro, syntax, notation, axiom, sorry.
-/
import Derived.Test.YtiigbpfoaoekhaaChecked
import GoSem.Claim
import GoSem.ClaimJoined
import GoSem.ClaimMapViews
import Derived.JoinedTies
import Derived.KernelRfl
namespace Go.Proofs.Ytiigbpfoaoekhaa
/- THE CELL 'sum', in the pinned program and in every row, IS THE sha256 OF THE DUMP (.gsa) THAT YtiigbpfoaoekhaaProg.lean LOADS. Nothing in Lean hashes anything: it is a label: what it is worth is what the hold of that sum in a sandbox is worth. -/
noncomputable def Try.pinned : Pinned := { name := "ytiigbpfoaoekhaa", sum := "0985430f298716938f796b4ed0f3dff468bc78107d92e60f9c1d65392341bbca", checked := Try.checked }
namespace Rows
def none {H : Type} : Left H := { results := [], args := [] }

/-- 'temperalaw17.TriSetup': WHATEVER THE INPUT: true; the input reads as it did. -/
def triSetupSpec : ChangeSpec := { name := "triSetup", fn := fun _ => fun
  | [d1, d2] => { results := [.lit (.bool true)], args := [d1, d2] }
  | _ => none }
def triSetupRow : OpenClaim := { program := "ytiigbpfoaoekhaa", sum := "0985430f298716938f796b4ed0f3dff468bc78107d92e60f9c1d65392341bbca", func := "tempera/temperalaw17.TriSetup", spec := "triSetup", inPlace := ["math/bits.Add64"], unfollowed := true, recurses := true, named := ["math/bits.divideError", "math/bits.overflowError"], apart := false }
def TriSetupSaid : Prop := triSetupRow.holds Try.pinned (OpenSpec.ofChange triSetupSpec)

/-- ITS FALSE NEIGHBOUR: 'it returns false'. Refute it at one input. -/
def triSetupWrong : ChangeSpec := { name := "triSetup", fn := fun _ => fun
  | [d1, d2] => { results := [.lit (.bool false)], args := [d1, d2] }
  | _ => none }
def TriSetupWrongFalsely : Prop := triSetupRow.holds Try.pinned (OpenSpec.ofChange triSetupWrong)

/-- 'temperalaw17.TriHas': WHATEVER THE INPUT: true; the input reads as it did. -/
def triHasSpec : ChangeSpec := { name := "triHas", fn := fun _ => fun
  | [d1, d2, d3] => { results := [.lit (.bool true)], args := [d1, d2, d3] }
  | _ => none }
def triHasRow : OpenClaim := { program := "ytiigbpfoaoekhaa", sum := "0985430f298716938f796b4ed0f3dff468bc78107d92e60f9c1d65392341bbca", func := "tempera/temperalaw17.TriHas", spec := "triHas", inPlace := ["math/bits.Add64"], unfollowed := true, recurses := true, named := ["math/bits.divideError", "math/bits.overflowError"], apart := false }
def TriHasSaid : Prop := triHasRow.holds Try.pinned (OpenSpec.ofChange triHasSpec)

/-- ITS FALSE NEIGHBOUR: 'it returns false'. Refute it at one input. -/
def triHasWrong : ChangeSpec := { name := "triHas", fn := fun _ => fun
  | [d1, d2, d3] => { results := [.lit (.bool false)], args := [d1, d2, d3] }
  | _ => none }
def TriHasWrongFalsely : Prop := triHasRow.holds Try.pinned (OpenSpec.ofChange triHasWrong)

/-- 'temperalaw17.TriTurns': WHATEVER THE INPUT: true; the input reads as it did. -/
def triTurnsSpec : ChangeSpec := { name := "triTurns", fn := fun _ => fun
  | [d1, d2, d3] => { results := [.lit (.bool true)], args := [d1, d2, d3] }
  | _ => none }
def triTurnsRow : OpenClaim := { program := "ytiigbpfoaoekhaa", sum := "0985430f298716938f796b4ed0f3dff468bc78107d92e60f9c1d65392341bbca", func := "tempera/temperalaw17.TriTurns", spec := "triTurns", inPlace := ["math/bits.Add64"], unfollowed := true, recurses := true, named := ["math/bits.divideError", "math/bits.overflowError"], apart := false }
def TriTurnsSaid : Prop := triTurnsRow.holds Try.pinned (OpenSpec.ofChange triTurnsSpec)

/-- ITS FALSE NEIGHBOUR: 'it returns false'. Refute it at one input. -/
def triTurnsWrong : ChangeSpec := { name := "triTurns", fn := fun _ => fun
  | [d1, d2, d3] => { results := [.lit (.bool false)], args := [d1, d2, d3] }
  | _ => none }
def TriTurnsWrongFalsely : Prop := triTurnsRow.holds Try.pinned (OpenSpec.ofChange triTurnsWrong)

/- THE SECOND FORM. 'bulk': how many values and letters a reading holds, each counted each time it is reached (what is shared counts as often as it is met; a slice's spare places count too). A statement '..UptoSaid' is the law's where the arguments, and the package variables that the reading takes, are together of bulk at most 1048576: NARROWER than '..Said'. Prove '..Said' where nothing that the law and all that it calls make is longer than what came in: it says more and counts as full. Else prove '..UptoSaid'. A law counts once. -/
mutual
def uptoBulk {H : Type} : DataW H → Nat
  | .lit (.string bytes) => bytes.length + 1
  | .lit _ => 1
  | .nil => 1
  | .ptr d => uptoBulk d + 1
  | .slice elems spare => uptoBulkAll elems + uptoBulkAll spare + 1
  | .agg parts => uptoBulkAll parts + 1
  | .iface _ d => uptoBulk d + 1
  | .map entries => uptoBulkEntries entries + 1
  | .held _ => 1
def uptoBulkAll {H : Type} : List (DataW H) → Nat
  | [] => 0
  | d :: r => uptoBulk d + uptoBulkAll r
def uptoBulkEntries {H : Type} : List (Lit × DataW H) → Nat
  | [] => 0
  | x :: r => uptoBulkEntry x + uptoBulkEntries r
def uptoBulkEntry {H : Type} : Lit × DataW H → Nat
  | (.string bytes, d) => bytes.length + uptoBulk d + 1
  | (_, d) => uptoBulk d + 1
 end
def uptoSmall : (H : Type) → List (DataW H) → Bool := fun _ ds => decide (uptoBulkAll ds ≤ 1048576)
def OpenSpec.upto (s : _root_.Go.ChangeSpec) : _root_.Go.OpenSpec := { _root_.Go.OpenSpec.ofChange s with cond := some uptoSmall }

/-- 'temperalaw17.TriSetup', WHERE WHAT IT READS IS OF BULK AT MOST 1048576: true; the input reads as it did. -/
def triSetupUptoRow : OpenClaim := { program := "ytiigbpfoaoekhaa", sum := "0985430f298716938f796b4ed0f3dff468bc78107d92e60f9c1d65392341bbca", func := "tempera/temperalaw17.TriSetup", spec := "triSetup", inPlace := ["math/bits.Add64"], unfollowed := true, recurses := true, named := ["math/bits.divideError", "math/bits.overflowError"], apart := false, narrowed := true }
def TriSetupUptoSaid : Prop := triSetupUptoRow.holds Try.pinned (OpenSpec.upto triSetupSpec)

/-- 'temperalaw17.TriHas', WHERE WHAT IT READS IS OF BULK AT MOST 1048576: true; the input reads as it did. -/
def triHasUptoRow : OpenClaim := { program := "ytiigbpfoaoekhaa", sum := "0985430f298716938f796b4ed0f3dff468bc78107d92e60f9c1d65392341bbca", func := "tempera/temperalaw17.TriHas", spec := "triHas", inPlace := ["math/bits.Add64"], unfollowed := true, recurses := true, named := ["math/bits.divideError", "math/bits.overflowError"], apart := false, narrowed := true }
def TriHasUptoSaid : Prop := triHasUptoRow.holds Try.pinned (OpenSpec.upto triHasSpec)

/-- 'temperalaw17.TriTurns', WHERE WHAT IT READS IS OF BULK AT MOST 1048576: true; the input reads as it did. -/
def triTurnsUptoRow : OpenClaim := { program := "ytiigbpfoaoekhaa", sum := "0985430f298716938f796b4ed0f3dff468bc78107d92e60f9c1d65392341bbca", func := "tempera/temperalaw17.TriTurns", spec := "triTurns", inPlace := ["math/bits.Add64"], unfollowed := true, recurses := true, named := ["math/bits.divideError", "math/bits.overflowError"], apart := false, narrowed := true }
def TriTurnsUptoSaid : Prop := triTurnsUptoRow.holds Try.pinned (OpenSpec.upto triTurnsSpec)

end Rows
end Go.Proofs.Ytiigbpfoaoekhaa
