/-
  The document's own Box (layer 17).
-/
import Derived.Test.YtankjlpanmmogaaGreatTriOver
import Derived.Test.YtankjlpanmmogaaGreatTriBox
import Derived.BigGuard
namespace Go.Proofs.YtankjlpanmmogaaGreat
set_option maxRecDepth 100000
open Go.RowKit

end Go.Proofs.YtankjlpanmmogaaGreat
