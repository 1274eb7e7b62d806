/-
  The law's cars, commands and shafts, turned into the program's; answers that are the same.
-/
import Derived.Test.YtgdhbkgpjeedhaaCarS
namespace Go.Proofs.Ytgdhbkgpjeedhaa
open Go.RowKit Pl

theorem R4.next {W : World} {b : Nat} {h : Hs} (_ : HAt W b h) (T : TypeId) : R4 (W.alloc (.cells #[.int .i64 0, .int .i64 0, .int .i64 0, .int .i64 0] T)) W.heap.size := R4.at_ W T _ rfl
theorem R2.next {W : World} {b : Nat} {h : Hs} (_ : HAt W b h) (T : TypeId) : R2 (W.alloc (.cells #[.int .i64 0, .int .i64 0] T)) W.heap.size := R2.at_ W T _ rfl
end Go.Proofs.Ytgdhbkgpjeedhaa
