/-
  The laws' own plans and hands in memory.
-/
import Derived.Test.YtknncnaikeinbaaHands
namespace Go.Proofs.Ytknncnaikeinbaa
open Go.ChangeShapes Go.WideShapes Go.ChangeAt Go.RowKit

end Go.Proofs.Ytknncnaikeinbaa
