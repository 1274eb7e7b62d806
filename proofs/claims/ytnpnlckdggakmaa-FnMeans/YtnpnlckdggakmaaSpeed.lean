/-
  SpeedFor, the program's and the model's: both answer the greatest speed from which the path is still enough to stop.
-/
import Derived.Test.YtnpnlckdggakmaaFnd
import Derived.Test.YtnpnlckdggakmaaHalve
import Derived.Deep.QuietTactic
import Derived.BigQuiet
import Derived.Deep.Draws
namespace Go.Proofs.Ytnpnlckdggakmaa
open Go.RowKit Pl

/-- May this speed still be stopped on the path? -/
def spB (path b s : Int) : Bool := decide (s + stopP s b ≤ path)
theorem spB_falls (path b : Int) (hb : 1 ≤ b) (top : Int) : Falls (spB path b) top := by
  intro x y h0 h1 _ h3
  unfold spB at *
  have h3 : y + stopP y b ≤ path := of_decide_eq_true h3
  have := stop_le x y b h0 h1 hb
  exact decide_eq_true (by omega)
theorem stopP_bd (s b : Int) (h0 : 0 ≤ s) (h1 : s ≤ 2000) (hb : 1 ≤ b) : -4002000 ≤ stopP s b ∧ stopP s b ≤ 4000000 := by
  obtain ⟨b1, b2, b3, b4, b5, b6, b7⟩ := stop_bds s b _ h0 h1 hb rfl
  unfold stopP; omega

theorem grown_trans {a b c : World} (h : Grown a b) (g : Grown b c) : Grown a c :=
  ⟨World.keptBut_trans h.1 g.1, fun x => (g.2.1 x).trans (h.2.1 x), Nat.le_trans h.2.2 g.2.2⟩
theorem grown_drewN {W w : World} {k : Nat} (h : Grown W w) : Grown W (w.drewN k) := h
/-- The world that the program's SpeedFor leaves: its two arguments' blocks and its result's. -/
abbrev speedW (w : World) (p b c v : Int) : World := ((w.alloc (.cells #[.int .i64 p] 2)).alloc (.cells #[.int .i64 b] 2)).alloc (.cells #[.int .i64 c, .int .i64 v] 40)
theorem box_fst (w : World) (x y z t : Value) (T T' : TypeId) : (((w.alloc (.cells #[x] T)).alloc (.cells #[y] T)).alloc (.cells #[z, t] T')).cell? ⟨w.heap.size, 0, none⟩ = some x := by
  rw [World.cell?_alloc_past _ _ _ (by simp; omega), World.cell?_alloc_past _ _ _ (by simp)]; simp
theorem box_snd (w : World) (x y z t : Value) (T T' : TypeId) : (((w.alloc (.cells #[x] T)).alloc (.cells #[y] T)).alloc (.cells #[z, t] T')).cell? ⟨w.heap.size + 1, 0, none⟩ = some y := by
  rw [World.cell?_alloc_past _ _ _ (by simp), World.cell?_alloc_at _ _ _ _ (by simp)]; simp

end Go.Proofs.Ytnpnlckdggakmaa
