/-
  The law's house, turned into the program's: the same twelve numbers.
-/
import Derived.Test.YtehdgifinanbbaaBase
import Derived.Test.YtehdgifinanbbaaHouse
namespace Go.Proofs.Ytehdgifinanbbaa
open Go.RowKit Pl

/-- Below the blocks that were there, all cells read as before. -/
theorem bcell {W w1 : World} (hb : Below W.heap.size W w1) : ∀ b o, b < W.heap.size → w1.cell? ⟨b, o, none⟩ = W.cell? ⟨b, o, none⟩ :=
  fun b o h => hb.cell (p := ⟨b, o, none⟩) h

/-- A house lies in the block b. -/
structure HAt (w : World) (b : Nat) (h : Hs) : Prop where
  c0 : w.cell? ⟨b, 0, none⟩ = some (.int .i64 h.fl)
  c1 : w.cell? ⟨b, 1, none⟩ = some (.int .i64 h.gp)
  c2 : w.cell? ⟨b, 2, none⟩ = some (.int .i64 h.ln)
  c3 : w.cell? ⟨b, 3, none⟩ = some (.int .i64 h.rf)
  c4 : w.cell? ⟨b, 4, none⟩ = some (.int .i64 h.sp)
  c5 : w.cell? ⟨b, 5, none⟩ = some (.int .i64 h.pu)
  c6 : w.cell? ⟨b, 6, none⟩ = some (.int .i64 h.br)
  c7 : w.cell? ⟨b, 7, none⟩ = some (.int .i64 h.dr)
  c8 : w.cell? ⟨b, 8, none⟩ = some (.int .i64 h.lv)
  c9 : w.cell? ⟨b, 9, none⟩ = some (.int .i64 h.dO)
  c10 : w.cell? ⟨b, 10, none⟩ = some (.int .i64 h.ld)
  c11 : w.cell? ⟨b, 11, none⟩ = some (.int .i64 h.qu)
theorem HAt.lt {w : World} {b : Nat} {h : Hs} (a : HAt w b h) : b < w.heap.size := World.block_lt_of_cell? w _ a.c0
theorem HAt.new (w : World) (h : Hs) (T : TypeId) : HAt (w.alloc (.cells #[.int .i64 h.fl, .int .i64 h.gp, .int .i64 h.ln, .int .i64 h.rf, .int .i64 h.sp, .int .i64 h.pu, .int .i64 h.br, .int .i64 h.dr, .int .i64 h.lv, .int .i64 h.dO, .int .i64 h.ld, .int .i64 h.qu] T)) w.heap.size h := by
  constructor <;> simp
theorem HAt.below {W w : World} {b B : Nat} {h : Hs} (a : HAt W b h) (hb : Below B W w) (hB : b < B) : HAt w b h :=
  ⟨(hb.cell (p := ⟨b, 0, none⟩) hB).trans a.c0, (hb.cell (p := ⟨b, 1, none⟩) hB).trans a.c1, (hb.cell (p := ⟨b, 2, none⟩) hB).trans a.c2, (hb.cell (p := ⟨b, 3, none⟩) hB).trans a.c3, (hb.cell (p := ⟨b, 4, none⟩) hB).trans a.c4, (hb.cell (p := ⟨b, 5, none⟩) hB).trans a.c5, (hb.cell (p := ⟨b, 6, none⟩) hB).trans a.c6, (hb.cell (p := ⟨b, 7, none⟩) hB).trans a.c7, (hb.cell (p := ⟨b, 8, none⟩) hB).trans a.c8, (hb.cell (p := ⟨b, 9, none⟩) hB).trans a.c9, (hb.cell (p := ⟨b, 10, none⟩) hB).trans a.c10, (hb.cell (p := ⟨b, 11, none⟩) hB).trans a.c11⟩

theorem HAt.drew {w : World} {b : Nat} {h : Hs} (a : HAt w b h) : HAt w.drew b h := a.below (Below.refl w.heap.size w).drew a.lt

set_option maxHeartbeats 1000000 in
theorem toHouse_any (h : Hs) (w : World) :
    Calls Try.prog 14 #[.agg #[.int .i64 h.fl, .int .i64 h.gp, .int .i64 h.ln, .int .i64 h.rf, .int .i64 h.sp, .int .i64 h.pu, .int .i64 h.br, .int .i64 h.dr, .int .i64 h.lv, .int .i64 h.dO, .int .i64 h.ld, .int .i64 h.qu]] w fun e w' => e = .returned (.agg #[.int .i64 h.fl, .int .i64 h.gp, .int .i64 h.ln, .int .i64 h.rf, .int .i64 h.sp, .int .i64 h.pu, .int .i64 h.br, .int .i64 h.dr, .int .i64 h.lv, .int .i64 h.dO, .int .i64 h.ld, .int .i64 h.qu]) ∧ Below w.heap.size w w' := by
  go_enter Try.func14, Try.ntmps14
  go_wp2
  exact bodyPost_ret (v := .agg #[.int .i64 h.fl, .int .i64 h.gp, .int .i64 h.ln, .int .i64 h.rf, .int .i64 h.sp, .int .i64 h.pu, .int .i64 h.br, .int .i64 h.dr, .int .i64 h.lv, .int .i64 h.dO, .int .i64 h.ld, .int .i64 h.qu]) (by simp [results, Try.results14, go_sem]) rfl ⟨rfl, (((Below.refl _ _).alloc (Nat.le_refl _) _).alloc (by simp) _).alloc (by simp; omega) _⟩

/-- A code and a value lie in the block b. -/
structure VAt (w : World) (b : Nat) (c v : Int) : Prop where
  c0 : w.cell? ⟨b, 0, none⟩ = some (.int .i64 c)
  c1 : w.cell? ⟨b, 1, none⟩ = some (.int .i64 v)
theorem VAt.lt {w : World} {b : Nat} {c v : Int} (a : VAt w b c v) : b < w.heap.size := World.block_lt_of_cell? w _ a.c0
theorem VAt.new (w : World) (c v : Int) (T : TypeId) : VAt (w.alloc (.cells #[.int .i64 c, .int .i64 v] T)) w.heap.size c v := by
  constructor <;> simp
theorem VAt.below {W w : World} {b B : Nat} {c v : Int} (a : VAt W b c v) (hb : Below B W w) (hB : b < B) : VAt w b c v :=
  ⟨(hb.cell (p := ⟨b, 0, none⟩) hB).trans a.c0, (hb.cell (p := ⟨b, 1, none⟩) hB).trans a.c1⟩
/-- What has not turned since a block was laid has not turned since before. -/
theorem below_past {W w : World} {o : Obj} (hb : Below (W.alloc o).heap.size (W.alloc o) w) : Below W.heap.size W w :=
  ((Below.refl _ _).alloc (Nat.le_refl _) o).trans (hb.mono (by simp))
end Go.Proofs.Ytehdgifinanbbaa
