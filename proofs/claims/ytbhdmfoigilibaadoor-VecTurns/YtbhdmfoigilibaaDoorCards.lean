/-
  DERIVED. GIVEN WITH THE SEED: THE CARDS: each row of YtbhdmfoigilibaaDoorRows.lean that lists a variable, with what it lists TIED to the program's text (the seventh form; the later family's looks); each row that meets fmt, with fmt's text TOLD by the authors' own Lean function (tested against real Go, not proved from fmt's source: count such statements apart). THE CARD IS WHAT COUNTS. Prove the row's statement (the work); the ties are given (YtbhdmfoigilibaaDoorTie.lean); close each card by the builder's one call (the guide's Derived/Test/ToyasCard.lean, 'card_holds'). Laid BY PROGRAM, IN A SANDBOX (cutbox-door.mjs). By AI agents, Wed Nov 11 2026. No macro, syntax, notation, axiom, sorry.
-/
import Derived.Test.YtbhdmfoigilibaaDoorRows
import GoSem.ClaimSeven
namespace Go.Proofs.YtbhdmfoigilibaaDoor
namespace Rows

/-- THE TIED CARD OF 'temperalaw05.VecTurns'. -/
def vecTurnsCard : Claim7 := { stood := { row := vecTurnsRow, standIns := [], harness := (true, "4a5b72e9d45bd4b634ad574ed3227de3da0545bc7bd83b75a875c8d7f8f7fe4e"), looks := false }, kinds := [], alts := [], laidByText := true, laidKinds := [.data], laidTests := true, laidLooks := .later }
def VecTurnsCardSaid : Prop := Claim7.holds Tryd.pinned (.plain (OpenSpec.ofChange vecTurnsSpec)) vecTurnsCard

/-- THE SECOND FORM's CARD OF 'temperalaw05.VecTurns'. -/
def vecTurnsUptoCard : Claim7 := { stood := { row := vecTurnsUptoRow, standIns := [], harness := (true, "4a5b72e9d45bd4b634ad574ed3227de3da0545bc7bd83b75a875c8d7f8f7fe4e"), looks := false }, kinds := [], alts := [], laidByText := true, laidKinds := [.data], laidTests := true, laidLooks := .later }
def VecTurnsUptoCardSaid : Prop := Claim7.holds Tryd.pinned (.plain (OpenSpec.upto vecTurnsSpec)) vecTurnsUptoCard
end Rows
end Go.Proofs.YtbhdmfoigilibaaDoor
