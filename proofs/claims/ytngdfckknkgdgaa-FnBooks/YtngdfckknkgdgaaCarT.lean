/-
  The law's cars, commands and shafts, turned into the program's; answers that are the same.
-/
import Derived.Test.YtngdfckknkgdgaaCarS
namespace Go.Proofs.Ytngdfckknkgdgaa
open Go.RowKit Pl

set_option maxHeartbeats 1000000 in
theorem toCar_any (c : Cs) (w : World) :
    Calls Try.prog 15 #[.agg #[.int .i64 c.pos, .int .i64 c.vel, .int .i64 c.door]] w fun e w' => e = .returned (.agg #[.int .i64 c.pos, .int .i64 c.vel, .int .i64 c.door]) ∧ Below w.heap.size w w' := by
  go_enter Try.func15, Try.ntmps15
  go_wp2
  exact bodyPost_ret (v := .agg #[.int .i64 c.pos, .int .i64 c.vel, .int .i64 c.door]) (by simp [results, Try.results15, go_sem]) rfl ⟨rfl, by repeat (first | exact Below.refl _ _ | (refine Below.alloc ?_ ?_ _) | (refine Below.setCell ?_ ?_ _) | (simp; omega) | simp)⟩
set_option maxHeartbeats 1000000 in
theorem toCommand_any (x : Cm) (w : World) :
    Calls Try.prog 22 #[.agg #[.int .i64 x.push, .bool x.brk, .bool x.opn]] w fun e w' => e = .returned (.agg #[.int .i64 x.push, .bool x.brk, .bool x.opn]) ∧ Below w.heap.size w w' := by
  go_enter Try.func22, Try.ntmps22
  go_wp2
  exact bodyPost_ret (v := .agg #[.int .i64 x.push, .bool x.brk, .bool x.opn]) (by simp [results, Try.results22, go_sem]) rfl ⟨rfl, by repeat (first | exact Below.refl _ _ | (refine Below.alloc ?_ ?_ _) | (refine Below.setCell ?_ ?_ _) | (simp; omega) | simp)⟩
theorem eqCar_same (c : Cs) (w : World) :
    Calls Try.prog 51 #[.agg #[.int .i64 c.pos, .int .i64 c.vel, .int .i64 c.door], .agg #[.int .i64 c.pos, .int .i64 c.vel, .int .i64 c.door]] w fun e w' => e = .returned (.bool true) ∧ Below w.heap.size w w' := by
  go_enter Try.func51, Try.ntmps51
  go_wp2
  go_ret
  exact ⟨rfl, by repeat (first | exact Below.refl _ _ | (refine Below.alloc ?_ ?_ _) | (simp; omega) | simp)⟩
theorem eqIntResult_b (c v : Int) (w : World) :
    Calls Try.prog 13 #[.agg #[.int .i64 c, .int .i64 v], .agg #[.int .i64 c, .int .i64 v]] w fun e w' => e = .returned (.bool true) ∧ Below w.heap.size w w' :=
  (eqIntResult_same c v w).mono fun e w' ⟨he, hw⟩ => ⟨he, by rw [hw]; exact ((Below.refl _ _).alloc (Nat.le_refl _) _).alloc (by simp) _⟩
theorem R4.next {W : World} {b : Nat} {h : Hs} (_ : HAt W b h) (T : TypeId) : R4 (W.alloc (.cells #[.int .i64 0, .int .i64 0, .int .i64 0, .int .i64 0] T)) W.heap.size := R4.at_ W T _ rfl
theorem R2.next {W : World} {b : Nat} {h : Hs} (_ : HAt W b h) (T : TypeId) : R2 (W.alloc (.cells #[.int .i64 0, .int .i64 0] T)) W.heap.size := R2.at_ W T _ rfl
end Go.Proofs.Ytngdfckknkgdgaa
