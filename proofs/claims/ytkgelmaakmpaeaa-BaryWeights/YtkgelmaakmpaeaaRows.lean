/-
  No cell of these rows narrows 'for every input' (looked for: loops, veiled, ifaces, maps, wideKeys, modest, calm, conditions, laid).
  DERIVED. THE GIVEN ROWS OF THIS SEAT. 3 by the template 'for every input the law returns true; each argument reads behind the call as it read before'; 0 by the template 'total and deterministic' (their statements: YtkgelmaakmpaeaaTotals.lean).
  GIVEN WITH THE SEED: the statements are not yours to turn. If you find one false, say at which input.
  Laid BY PROGRAM, IN A SANDBOX (cutbox-rows.mjs): the forced cells as the released guide's own fill.sh prints them over the translation ca565b1114033a2a… (all of the seat's roots in one cut). By AI agents, Wed Nov 11 2026. No macro, syntax, notation, axiom, sorry.
-/
import Derived.Test.YtkgelmaakmpaeaaChecked
import GoSem.Claim
import GoSem.ClaimJoined
import GoSem.ClaimMapViews
import Derived.JoinedTies
import Derived.KernelRfl
namespace Go.Proofs.Ytkgelmaakmpaeaa
/- THE CELL 'sum', in the pinned program and in every row, IS THE sha256 OF THE DUMP (.gsa) THAT YtkgelmaakmpaeaaProg.lean LOADS. Nothing in Lean hashes anything: it is a label: what it is worth is what the hold of that sum in a sandbox is worth. -/
noncomputable def Try.pinned : Pinned := { name := "ytkgelmaakmpaeaa", sum := "ca565b1114033a2a93e2c09c9b2b58272db7e726a74caf9a5fcf8bfdec501ad5", checked := Try.checked }
namespace Rows
def none {H : Type} : Left H := { results := [], args := [] }

/-- 'temperalaw13.BaryWeights': WHATEVER THE INPUT: true; the input reads as it did. -/
def baryWeightsSpec : ChangeSpec := { name := "baryWeights", fn := fun _ => fun
  | [d1, d2] => { results := [.lit (.bool true)], args := [d1, d2] }
  | _ => none }
def baryWeightsRow : OpenClaim := { program := "ytkgelmaakmpaeaa", sum := "ca565b1114033a2a93e2c09c9b2b58272db7e726a74caf9a5fcf8bfdec501ad5", func := "tempera/temperalaw13.BaryWeights", spec := "baryWeights", inPlace := ["math/bits.Add64"], named := ["math/bits.divideError", "math/bits.overflowError"], apart := false }
def BaryWeightsSaid : Prop := baryWeightsRow.holds Try.pinned (OpenSpec.ofChange baryWeightsSpec)

/-- ITS FALSE NEIGHBOUR: 'it returns false'. Refute it at one input. -/
def baryWeightsWrong : ChangeSpec := { name := "baryWeights", fn := fun _ => fun
  | [d1, d2] => { results := [.lit (.bool false)], args := [d1, d2] }
  | _ => none }
def BaryWeightsWrongFalsely : Prop := baryWeightsRow.holds Try.pinned (OpenSpec.ofChange baryWeightsWrong)

/-- 'temperalaw13.BaryMixes': WHATEVER THE INPUT: true; the input reads as it did. -/
def baryMixesSpec : ChangeSpec := { name := "baryMixes", fn := fun _ => fun
  | [d1, d2] => { results := [.lit (.bool true)], args := [d1, d2] }
  | _ => none }
def baryMixesRow : OpenClaim := { program := "ytkgelmaakmpaeaa", sum := "ca565b1114033a2a93e2c09c9b2b58272db7e726a74caf9a5fcf8bfdec501ad5", func := "tempera/temperalaw13.BaryMixes", spec := "baryMixes", inPlace := ["math/bits.Add64"], named := ["math/bits.divideError", "math/bits.overflowError"], apart := false }
def BaryMixesSaid : Prop := baryMixesRow.holds Try.pinned (OpenSpec.ofChange baryMixesSpec)

/-- ITS FALSE NEIGHBOUR: 'it returns false'. Refute it at one input. -/
def baryMixesWrong : ChangeSpec := { name := "baryMixes", fn := fun _ => fun
  | [d1, d2] => { results := [.lit (.bool false)], args := [d1, d2] }
  | _ => none }
def BaryMixesWrongFalsely : Prop := baryMixesRow.holds Try.pinned (OpenSpec.ofChange baryMixesWrong)

/-- 'temperalaw13.BaryCorners': WHATEVER THE INPUT: true; the input reads as it did. -/
def baryCornersSpec : ChangeSpec := { name := "baryCorners", fn := fun _ => fun
  | [d1, d2] => { results := [.lit (.bool true)], args := [d1, d2] }
  | _ => none }
def baryCornersRow : OpenClaim := { program := "ytkgelmaakmpaeaa", sum := "ca565b1114033a2a93e2c09c9b2b58272db7e726a74caf9a5fcf8bfdec501ad5", func := "tempera/temperalaw13.BaryCorners", spec := "baryCorners", inPlace := ["math/bits.Add64"], named := ["math/bits.divideError", "math/bits.overflowError"], apart := false }
def BaryCornersSaid : Prop := baryCornersRow.holds Try.pinned (OpenSpec.ofChange baryCornersSpec)

/-- ITS FALSE NEIGHBOUR: 'it returns false'. Refute it at one input. -/
def baryCornersWrong : ChangeSpec := { name := "baryCorners", fn := fun _ => fun
  | [d1, d2] => { results := [.lit (.bool false)], args := [d1, d2] }
  | _ => none }
def BaryCornersWrongFalsely : Prop := baryCornersRow.holds Try.pinned (OpenSpec.ofChange baryCornersWrong)

/- THE SECOND FORM. 'bulk': how many values and letters a reading holds, each counted each time it is reached (what is shared counts as often as it is met; a slice's spare places count too). A statement '..UptoSaid' is the law's where the arguments, and the package variables that the reading takes, are together of bulk at most 1048576: NARROWER than '..Said'. Prove '..Said' where nothing that the law and all that it calls make is longer than what came in: it says more and counts as full. Else prove '..UptoSaid'. A law counts once. -/
mutual
def uptoBulk {H : Type} : DataW H → Nat
  | .lit (.string bytes) => bytes.length + 1
  | .lit _ => 1
  | .nil => 1
  | .ptr d => uptoBulk d + 1
  | .slice elems spare => uptoBulkAll elems + uptoBulkAll spare + 1
  | .agg parts => uptoBulkAll parts + 1
  | .iface _ d => uptoBulk d + 1
  | .map entries => uptoBulkEntries entries + 1
  | .held _ => 1
def uptoBulkAll {H : Type} : List (DataW H) → Nat
  | [] => 0
  | d :: r => uptoBulk d + uptoBulkAll r
def uptoBulkEntries {H : Type} : List (Lit × DataW H) → Nat
  | [] => 0
  | x :: r => uptoBulkEntry x + uptoBulkEntries r
def uptoBulkEntry {H : Type} : Lit × DataW H → Nat
  | (.string bytes, d) => bytes.length + uptoBulk d + 1
  | (_, d) => uptoBulk d + 1
 end
def uptoSmall : (H : Type) → List (DataW H) → Bool := fun _ ds => decide (uptoBulkAll ds ≤ 1048576)
def OpenSpec.upto (s : _root_.Go.ChangeSpec) : _root_.Go.OpenSpec := { _root_.Go.OpenSpec.ofChange s with cond := some uptoSmall }

/-- 'temperalaw13.BaryWeights', WHERE WHAT IT READS IS OF BULK AT MOST 1048576: true; the input reads as it did. -/
def baryWeightsUptoRow : OpenClaim := { program := "ytkgelmaakmpaeaa", sum := "ca565b1114033a2a93e2c09c9b2b58272db7e726a74caf9a5fcf8bfdec501ad5", func := "tempera/temperalaw13.BaryWeights", spec := "baryWeights", inPlace := ["math/bits.Add64"], named := ["math/bits.divideError", "math/bits.overflowError"], apart := false, narrowed := true }
def BaryWeightsUptoSaid : Prop := baryWeightsUptoRow.holds Try.pinned (OpenSpec.upto baryWeightsSpec)

/-- 'temperalaw13.BaryMixes', WHERE WHAT IT READS IS OF BULK AT MOST 1048576: true; the input reads as it did. -/
def baryMixesUptoRow : OpenClaim := { program := "ytkgelmaakmpaeaa", sum := "ca565b1114033a2a93e2c09c9b2b58272db7e726a74caf9a5fcf8bfdec501ad5", func := "tempera/temperalaw13.BaryMixes", spec := "baryMixes", inPlace := ["math/bits.Add64"], named := ["math/bits.divideError", "math/bits.overflowError"], apart := false, narrowed := true }
def BaryMixesUptoSaid : Prop := baryMixesUptoRow.holds Try.pinned (OpenSpec.upto baryMixesSpec)

/-- 'temperalaw13.BaryCorners', WHERE WHAT IT READS IS OF BULK AT MOST 1048576: true; the input reads as it did. -/
def baryCornersUptoRow : OpenClaim := { program := "ytkgelmaakmpaeaa", sum := "ca565b1114033a2a93e2c09c9b2b58272db7e726a74caf9a5fcf8bfdec501ad5", func := "tempera/temperalaw13.BaryCorners", spec := "baryCorners", inPlace := ["math/bits.Add64"], named := ["math/bits.divideError", "math/bits.overflowError"], apart := false, narrowed := true }
def BaryCornersUptoSaid : Prop := baryCornersUptoRow.holds Try.pinned (OpenSpec.upto baryCornersSpec)

end Rows
end Go.Proofs.Ytkgelmaakmpaeaa
