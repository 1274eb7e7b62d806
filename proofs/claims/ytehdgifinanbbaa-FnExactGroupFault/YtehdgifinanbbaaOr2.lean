/-
  cmp.Or over two numbers, in one contract.
-/
import Derived.Test.YtehdgifinanbbaaCarO
import Derived.Below
namespace Go.Proofs.Ytehdgifinanbbaa
open Go.RowKit Pl

def orI (x y : Int) : Int := if x = 0 then y else x
theorem or_any (x y : Int) (b : Nat) (w : World) (c0 : w.cell? ⟨b, 0, none⟩ = some (.int .i64 x)) (c1 : w.cell? ⟨b, 1, none⟩ = some (.int .i64 y)) :
    Calls Try.prog 53 #[.slice (some ⟨b, 0, none⟩) 2 2] w fun e w' => e = .returned (.int .i64 (orI x y)) ∧ w' = w := by
  unfold orI
  by_cases h : x = 0
  · rw [if_pos h]
    exact or_second x y h b w c0 c1
  · rw [if_neg h]
    exact or_first x y h b w c0 c1
structure Pr2 (w : World) (b : Nat) (x y : Int) : Prop where
  c0 : w.cell? ⟨b, 0, none⟩ = some (.int .i64 x)
  c1 : w.cell? ⟨b, 1, none⟩ = some (.int .i64 y)
theorem Pr2.lt {w : World} {b : Nat} {x y : Int} (a : Pr2 w b x y) : b < w.heap.size := World.block_lt_of_cell? w _ a.c0
theorem Pr2.below {W w : World} {b B : Nat} {x y : Int} (a : Pr2 W b x y) (hb : Below B W w) (hB : b < B) : Pr2 w b x y := ⟨(hb.cell (p := ⟨b, 0, none⟩) hB).trans a.c0, (hb.cell (p := ⟨b, 1, none⟩) hB).trans a.c1⟩
theorem Pr2.alloc {W : World} {b : Nat} {x y : Int} (a : Pr2 W b x y) (o : Obj) : Pr2 (W.alloc o) b x y := a.below ((Below.refl _ _).alloc (Nat.le_refl _) o) a.lt
theorem Pr2.at_ (w : World) (x y : Int) (T : TypeId) (b : Nat) (hb : b = w.heap.size) : Pr2 (w.alloc (.cells #[.int .i64 x, .int .i64 y] T)) b x y := by
  subst hb
  constructor <;> simp
end Go.Proofs.Ytehdgifinanbbaa
