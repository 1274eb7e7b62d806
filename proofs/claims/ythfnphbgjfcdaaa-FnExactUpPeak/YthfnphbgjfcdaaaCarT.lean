/-
  The law's cars, commands and shafts, turned into the program's; answers that are the same.
-/
import Derived.Test.YthfnphbgjfcdaaaCarS
namespace Go.Proofs.Ythfnphbgjfcdaaa
open Go.RowKit Pl

theorem eqIntResult_b (c v : Int) (w : World) :
    Calls Try.prog 11 #[.agg #[.int .i64 c, .int .i64 v], .agg #[.int .i64 c, .int .i64 v]] w fun e w' => e = .returned (.bool true) ∧ Below w.heap.size w w' :=
  (eqIntResult_same c v w).mono fun e w' ⟨he, hw⟩ => ⟨he, by rw [hw]; exact ((Below.refl _ _).alloc (Nat.le_refl _) _).alloc (by simp) _⟩
theorem R4.next {W : World} {b : Nat} {h : Hs} (_ : HAt W b h) (T : TypeId) : R4 (W.alloc (.cells #[.int .i64 0, .int .i64 0, .int .i64 0, .int .i64 0] T)) W.heap.size := R4.at_ W T _ rfl
theorem R2.next {W : World} {b : Nat} {h : Hs} (_ : HAt W b h) (T : TypeId) : R2 (W.alloc (.cells #[.int .i64 0, .int .i64 0] T)) W.heap.size := R2.at_ W T _ rfl
end Go.Proofs.Ythfnphbgjfcdaaa
