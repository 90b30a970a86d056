/-
  No cell of these rows narrows 'for every input' (looked for: loops, veiled, ifaces, maps, wideKeys, modest, calm, conditions, laid).
  DERIVED. THE GIVEN ROWS OF THIS SEAT. 3 by the template 'for every input the law returns true; each argument reads behind the call as it read before'; 0 by the template 'total and deterministic' (their statements: YtbhpjklomnjkfaaTotals.lean).
  GIVEN WITH THE SEED: the statements are not yours to turn. If you find one false, say at which input.
  Laid BY PROGRAM, IN A SANDBOX (cutbox-rows.mjs): the forced cells as the released guide's own fill.sh prints them over the translation c7e659a523471b60… (all of the seat's roots in one cut). By AI agents, Wed Nov 11 2026. No macro, syntax, notation, axiom, sorry.
-/
import Derived.Test.YtbhpjklomnjkfaaChecked
import GoSem.Claim
import GoSem.ClaimJoined
import GoSem.ClaimMapViews
import Derived.JoinedTies
import Derived.KernelRfl
namespace Go.Proofs.Ytbhpjklomnjkfaa
/- THE CELL 'sum', in the pinned program and in every row, IS THE sha256 OF THE DUMP (.gsa) THAT YtbhpjklomnjkfaaProg.lean LOADS. Nothing in Lean hashes anything: it is a label: what it is worth is what the hold of that sum in a sandbox is worth. -/
noncomputable def Try.pinned : Pinned := { name := "ytbhpjklomnjkfaa", sum := "c7e659a523471b607642a5ac337b6ddac5e0c04b1a4948527f0dfb428ae39423", checked := Try.checked }
namespace Rows
def none {H : Type} : Left H := { results := [], args := [] }

/-- 'temperalaw14.TexelSamples': WHATEVER THE INPUT: true; the input reads as it did. -/
def texelSamplesSpec : ChangeSpec := { name := "texelSamples", fn := fun _ => fun
  | [d1, d2] => { results := [.lit (.bool true)], args := [d1, d2] }
  | _ => none }
def texelSamplesRow : OpenClaim := { program := "ytbhpjklomnjkfaa", sum := "c7e659a523471b607642a5ac337b6ddac5e0c04b1a4948527f0dfb428ae39423", func := "tempera/temperalaw14.TexelSamples", spec := "texelSamples", unfollowed := true, recurses := true, apart := false }
def TexelSamplesSaid : Prop := texelSamplesRow.holds Try.pinned (OpenSpec.ofChange texelSamplesSpec)

/-- ITS FALSE NEIGHBOUR: 'it returns false'. Refute it at one input. -/
def texelSamplesWrong : ChangeSpec := { name := "texelSamples", fn := fun _ => fun
  | [d1, d2] => { results := [.lit (.bool false)], args := [d1, d2] }
  | _ => none }
def TexelSamplesWrongFalsely : Prop := texelSamplesRow.holds Try.pinned (OpenSpec.ofChange texelSamplesWrong)

/-- 'temperalaw14.TexelPlain': WHATEVER THE INPUT: true; the input reads as it did. -/
def texelPlainSpec : ChangeSpec := { name := "texelPlain", fn := fun _ => fun
  | [d1, d2, d3] => { results := [.lit (.bool true)], args := [d1, d2, d3] }
  | _ => none }
def texelPlainRow : OpenClaim := { program := "ytbhpjklomnjkfaa", sum := "c7e659a523471b607642a5ac337b6ddac5e0c04b1a4948527f0dfb428ae39423", func := "tempera/temperalaw14.TexelPlain", spec := "texelPlain", unfollowed := true, recurses := true, apart := false }
def TexelPlainSaid : Prop := texelPlainRow.holds Try.pinned (OpenSpec.ofChange texelPlainSpec)

/-- ITS FALSE NEIGHBOUR: 'it returns false'. Refute it at one input. -/
def texelPlainWrong : ChangeSpec := { name := "texelPlain", fn := fun _ => fun
  | [d1, d2, d3] => { results := [.lit (.bool false)], args := [d1, d2, d3] }
  | _ => none }
def TexelPlainWrongFalsely : Prop := texelPlainRow.holds Try.pinned (OpenSpec.ofChange texelPlainWrong)

/-- 'temperalaw14.TexelWraps': WHATEVER THE INPUT: true; the input reads as it did. -/
def texelWrapsSpec : ChangeSpec := { name := "texelWraps", fn := fun _ => fun
  | [d1, d2, d3] => { results := [.lit (.bool true)], args := [d1, d2, d3] }
  | _ => none }
def texelWrapsRow : OpenClaim := { program := "ytbhpjklomnjkfaa", sum := "c7e659a523471b607642a5ac337b6ddac5e0c04b1a4948527f0dfb428ae39423", func := "tempera/temperalaw14.TexelWraps", spec := "texelWraps", apart := false }
def TexelWrapsSaid : Prop := texelWrapsRow.holds Try.pinned (OpenSpec.ofChange texelWrapsSpec)

/-- ITS FALSE NEIGHBOUR: 'it returns false'. Refute it at one input. -/
def texelWrapsWrong : ChangeSpec := { name := "texelWraps", fn := fun _ => fun
  | [d1, d2, d3] => { results := [.lit (.bool false)], args := [d1, d2, d3] }
  | _ => none }
def TexelWrapsWrongFalsely : Prop := texelWrapsRow.holds Try.pinned (OpenSpec.ofChange texelWrapsWrong)

/- THE SECOND FORM. 'bulk': how many values and letters a reading holds, each counted each time it is reached (what is shared counts as often as it is met; a slice's spare places count too). A statement '..UptoSaid' is the law's where the arguments, and the package variables that the reading takes, are together of bulk at most 1048576: NARROWER than '..Said'. Prove '..Said' where nothing that the law and all that it calls make is longer than what came in: it says more and counts as full. Else prove '..UptoSaid'. A law counts once. -/
mutual
def uptoBulk {H : Type} : DataW H → Nat
  | .lit (.string bytes) => bytes.length + 1
  | .lit _ => 1
  | .nil => 1
  | .ptr d => uptoBulk d + 1
  | .slice elems spare => uptoBulkAll elems + uptoBulkAll spare + 1
  | .agg parts => uptoBulkAll parts + 1
  | .iface _ d => uptoBulk d + 1
  | .map entries => uptoBulkEntries entries + 1
  | .held _ => 1
def uptoBulkAll {H : Type} : List (DataW H) → Nat
  | [] => 0
  | d :: r => uptoBulk d + uptoBulkAll r
def uptoBulkEntries {H : Type} : List (Lit × DataW H) → Nat
  | [] => 0
  | x :: r => uptoBulkEntry x + uptoBulkEntries r
def uptoBulkEntry {H : Type} : Lit × DataW H → Nat
  | (.string bytes, d) => bytes.length + uptoBulk d + 1
  | (_, d) => uptoBulk d + 1
 end
def uptoSmall : (H : Type) → List (DataW H) → Bool := fun _ ds => decide (uptoBulkAll ds ≤ 1048576)
def OpenSpec.upto (s : _root_.Go.ChangeSpec) : _root_.Go.OpenSpec := { _root_.Go.OpenSpec.ofChange s with cond := some uptoSmall }

/-- 'temperalaw14.TexelSamples', WHERE WHAT IT READS IS OF BULK AT MOST 1048576: true; the input reads as it did. -/
def texelSamplesUptoRow : OpenClaim := { program := "ytbhpjklomnjkfaa", sum := "c7e659a523471b607642a5ac337b6ddac5e0c04b1a4948527f0dfb428ae39423", func := "tempera/temperalaw14.TexelSamples", spec := "texelSamples", unfollowed := true, recurses := true, apart := false, narrowed := true }
def TexelSamplesUptoSaid : Prop := texelSamplesUptoRow.holds Try.pinned (OpenSpec.upto texelSamplesSpec)

/-- 'temperalaw14.TexelPlain', WHERE WHAT IT READS IS OF BULK AT MOST 1048576: true; the input reads as it did. -/
def texelPlainUptoRow : OpenClaim := { program := "ytbhpjklomnjkfaa", sum := "c7e659a523471b607642a5ac337b6ddac5e0c04b1a4948527f0dfb428ae39423", func := "tempera/temperalaw14.TexelPlain", spec := "texelPlain", unfollowed := true, recurses := true, apart := false, narrowed := true }
def TexelPlainUptoSaid : Prop := texelPlainUptoRow.holds Try.pinned (OpenSpec.upto texelPlainSpec)

/-- 'temperalaw14.TexelWraps', WHERE WHAT IT READS IS OF BULK AT MOST 1048576: true; the input reads as it did. -/
def texelWrapsUptoRow : OpenClaim := { program := "ytbhpjklomnjkfaa", sum := "c7e659a523471b607642a5ac337b6ddac5e0c04b1a4948527f0dfb428ae39423", func := "tempera/temperalaw14.TexelWraps", spec := "texelWraps", apart := false, narrowed := true }
def TexelWrapsUptoSaid : Prop := texelWrapsUptoRow.holds Try.pinned (OpenSpec.upto texelWrapsSpec)

end Rows
end Go.Proofs.Ytbhpjklomnjkfaa
