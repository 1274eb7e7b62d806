/-
  What the small functions of chapter 1 answer: sizes, sides, numbers within the top. Each answers at every argument that is named, and the world stays as it was.
-/
import Derived.Test.YtklbplaboimanaaProg
import Derived.WalkKit
import Derived.WalkLawsBesides
import Derived.Laws.Bits64
import Derived.Handy
import Derived.Laws.Externs
import Derived.Test.YtklbplaboimanaaPlain
import Derived.Test.YtklbplaboimanaaTk
namespace Go.Proofs.Ytklbplaboimanaa
open Go.RowKit Pl

theorem ret_int {k : IntKind} {a b : Int} (h : a = b) : Ending.returned (.int k a) = .returned (.int k b) := by rw [h]

end Go.Proofs.Ytklbplaboimanaa
