/-
  No cell of these rows narrows 'for every input' (looked for: loops, veiled, ifaces, maps, wideKeys, modest, calm, conditions, laid).
  DERIVED. THE GIVEN ROWS OF THIS SEAT. 3 by the template 'for every input the law returns true; each argument reads behind the call as it read before'; 0 by the template 'total and deterministic' (their statements: YtankjlpanmmogaaTotals.lean).
  GIVEN WITH THE SEED: the statements are not yours to turn. If you find one false, say at which input.
  Laid BY PROGRAM, IN A SANDBOX (cutbox-rows.mjs): the forced cells as the released guide's own fill.sh prints them over the translation 000f0d3979392d0a… (all of the seat's roots in one cut). By AI agents, Wed Nov 11 2026. No macro, syntax, notation, axiom, sorry.
-/
import Derived.Test.YtankjlpanmmogaaChecked
import GoSem.Claim
import GoSem.ClaimJoined
import GoSem.ClaimMapViews
import Derived.JoinedTies
import Derived.KernelRfl
namespace Go.Proofs.Ytankjlpanmmogaa
/- THE CELL 'sum', in the pinned program and in every row, IS THE sha256 OF THE DUMP (.gsa) THAT YtankjlpanmmogaaProg.lean LOADS. Nothing in Lean hashes anything: it is a label: what it is worth is what the hold of that sum in a sandbox is worth. -/
noncomputable def Try.pinned : Pinned := { name := "ytankjlpanmmogaa", sum := "000f0d3979392d0a4939d7b7526aa3ccc3e87be5abfe560b18107e666f715d60", checked := Try.checked }
namespace Rows
def none {H : Type} : Left H := { results := [], args := [] }

/-- 'temperalaw19.FragPuts': WHATEVER THE INPUT: true; the input reads as it did. -/
def fragPutsSpec : ChangeSpec := { name := "fragPuts", fn := fun _ => fun
  | [d1, d2, d3] => { results := [.lit (.bool true)], args := [d1, d2, d3] }
  | _ => none }
def fragPutsRow : OpenClaim := { program := "ytankjlpanmmogaa", sum := "000f0d3979392d0a4939d7b7526aa3ccc3e87be5abfe560b18107e666f715d60", func := "tempera/temperalaw19.FragPuts", spec := "fragPuts", unfollowed := true, recurses := true, apart := false }
def FragPutsSaid : Prop := fragPutsRow.holds Try.pinned (OpenSpec.ofChange fragPutsSpec)

/-- ITS FALSE NEIGHBOUR: 'it returns false'. Refute it at one input. -/
def fragPutsWrong : ChangeSpec := { name := "fragPuts", fn := fun _ => fun
  | [d1, d2, d3] => { results := [.lit (.bool false)], args := [d1, d2, d3] }
  | _ => none }
def FragPutsWrongFalsely : Prop := fragPutsRow.holds Try.pinned (OpenSpec.ofChange fragPutsWrong)

/-- 'temperalaw19.FragStays': WHATEVER THE INPUT: true; the input reads as it did. -/
def fragStaysSpec : ChangeSpec := { name := "fragStays", fn := fun _ => fun
  | [d1, d2, d3] => { results := [.lit (.bool true)], args := [d1, d2, d3] }
  | _ => none }
def fragStaysRow : OpenClaim := { program := "ytankjlpanmmogaa", sum := "000f0d3979392d0a4939d7b7526aa3ccc3e87be5abfe560b18107e666f715d60", func := "tempera/temperalaw19.FragStays", spec := "fragStays", unfollowed := true, recurses := true, apart := false }
def FragStaysSaid : Prop := fragStaysRow.holds Try.pinned (OpenSpec.ofChange fragStaysSpec)

/-- ITS FALSE NEIGHBOUR: 'it returns false'. Refute it at one input. -/
def fragStaysWrong : ChangeSpec := { name := "fragStays", fn := fun _ => fun
  | [d1, d2, d3] => { results := [.lit (.bool false)], args := [d1, d2, d3] }
  | _ => none }
def FragStaysWrongFalsely : Prop := fragStaysRow.holds Try.pinned (OpenSpec.ofChange fragStaysWrong)

/-- 'temperalaw19.FragClears': WHATEVER THE INPUT: true; the input reads as it did. -/
def fragClearsSpec : ChangeSpec := { name := "fragClears", fn := fun _ => fun
  | [d1, d2, d3] => { results := [.lit (.bool true)], args := [d1, d2, d3] }
  | _ => none }
def fragClearsRow : OpenClaim := { program := "ytankjlpanmmogaa", sum := "000f0d3979392d0a4939d7b7526aa3ccc3e87be5abfe560b18107e666f715d60", func := "tempera/temperalaw19.FragClears", spec := "fragClears", unfollowed := true, recurses := true, apart := false }
def FragClearsSaid : Prop := fragClearsRow.holds Try.pinned (OpenSpec.ofChange fragClearsSpec)

/-- ITS FALSE NEIGHBOUR: 'it returns false'. Refute it at one input. -/
def fragClearsWrong : ChangeSpec := { name := "fragClears", fn := fun _ => fun
  | [d1, d2, d3] => { results := [.lit (.bool false)], args := [d1, d2, d3] }
  | _ => none }
def FragClearsWrongFalsely : Prop := fragClearsRow.holds Try.pinned (OpenSpec.ofChange fragClearsWrong)

/- THE SECOND FORM. 'bulk': how many values and letters a reading holds, each counted each time it is reached (what is shared counts as often as it is met; a slice's spare places count too). A statement '..UptoSaid' is the law's where the arguments, and the package variables that the reading takes, are together of bulk at most 1048576: NARROWER than '..Said'. Prove '..Said' where nothing that the law and all that it calls make is longer than what came in: it says more and counts as full. Else prove '..UptoSaid'. A law counts once. -/
mutual
def uptoBulk {H : Type} : DataW H → Nat
  | .lit (.string bytes) => bytes.length + 1
  | .lit _ => 1
  | .nil => 1
  | .ptr d => uptoBulk d + 1
  | .slice elems spare => uptoBulkAll elems + uptoBulkAll spare + 1
  | .agg parts => uptoBulkAll parts + 1
  | .iface _ d => uptoBulk d + 1
  | .map entries => uptoBulkEntries entries + 1
  | .held _ => 1
def uptoBulkAll {H : Type} : List (DataW H) → Nat
  | [] => 0
  | d :: r => uptoBulk d + uptoBulkAll r
def uptoBulkEntries {H : Type} : List (Lit × DataW H) → Nat
  | [] => 0
  | x :: r => uptoBulkEntry x + uptoBulkEntries r
def uptoBulkEntry {H : Type} : Lit × DataW H → Nat
  | (.string bytes, d) => bytes.length + uptoBulk d + 1
  | (_, d) => uptoBulk d + 1
 end
def uptoSmall : (H : Type) → List (DataW H) → Bool := fun _ ds => decide (uptoBulkAll ds ≤ 1048576)
def OpenSpec.upto (s : _root_.Go.ChangeSpec) : _root_.Go.OpenSpec := { _root_.Go.OpenSpec.ofChange s with cond := some uptoSmall }

/-- 'temperalaw19.FragPuts', WHERE WHAT IT READS IS OF BULK AT MOST 1048576: true; the input reads as it did. -/
def fragPutsUptoRow : OpenClaim := { program := "ytankjlpanmmogaa", sum := "000f0d3979392d0a4939d7b7526aa3ccc3e87be5abfe560b18107e666f715d60", func := "tempera/temperalaw19.FragPuts", spec := "fragPuts", unfollowed := true, recurses := true, apart := false, narrowed := true }
def FragPutsUptoSaid : Prop := fragPutsUptoRow.holds Try.pinned (OpenSpec.upto fragPutsSpec)

/-- 'temperalaw19.FragStays', WHERE WHAT IT READS IS OF BULK AT MOST 1048576: true; the input reads as it did. -/
def fragStaysUptoRow : OpenClaim := { program := "ytankjlpanmmogaa", sum := "000f0d3979392d0a4939d7b7526aa3ccc3e87be5abfe560b18107e666f715d60", func := "tempera/temperalaw19.FragStays", spec := "fragStays", unfollowed := true, recurses := true, apart := false, narrowed := true }
def FragStaysUptoSaid : Prop := fragStaysUptoRow.holds Try.pinned (OpenSpec.upto fragStaysSpec)

/-- 'temperalaw19.FragClears', WHERE WHAT IT READS IS OF BULK AT MOST 1048576: true; the input reads as it did. -/
def fragClearsUptoRow : OpenClaim := { program := "ytankjlpanmmogaa", sum := "000f0d3979392d0a4939d7b7526aa3ccc3e87be5abfe560b18107e666f715d60", func := "tempera/temperalaw19.FragClears", spec := "fragClears", unfollowed := true, recurses := true, apart := false, narrowed := true }
def FragClearsUptoSaid : Prop := fragClearsUptoRow.holds Try.pinned (OpenSpec.upto fragClearsSpec)

end Rows
end Go.Proofs.Ytankjlpanmmogaa
