/-
  Contracts of layer 10 (rect): Area, Of, And, Around, Pixels; the document's own; what must come at any rate.
-/
import Derived.Test.YtphgihijobnlhaaRectWalks
namespace Go.Proofs.Ytphgihijobnlhaa
open Go.RowKit





end Go.Proofs.Ytphgihijobnlhaa
