/-
  A house, a ledger and a car's stop are drawn: DrawBoardAt.
-/
import Derived.Test.YtoekhkolakielaaDrawW
import Derived.Test.YtoekhkolakielaaFnd
import Derived.Deep.RegionHeld3
import Derived.Deep.DeepCutAuto
namespace Go.Proofs.Ytoekhkolakielaa
open Go.RowKit Pl
set_option linter.unusedSimpArgs false
set_option linter.unusedVariables false

theorem Own.rowO {w : World} {B : Nat} {v : Value} {l : List Pe} (h : Own w B v l) {c : Nat} (hc : c < B) (vs : Array Value) : Own (w.setRow c vs) B v l := by
  refine ⟨h.1, ?_⟩
  rcases h.2 with hn | ⟨g, cap, cur, rfl, hB, hg, rest⟩
  · exact Or.inl hn
  · exact Or.inr ⟨g, cap, cur, rfl, hB, (setRow_other w c g vs (by omega)).trans hg, rest⟩
set_option maxRecDepth 20000 in
set_option maxHeartbeats 16000000 in
theorem DrawBoardAt_any (a : Option Addr) (len cap : Nat) (w : World) (hc : CodeIn w w.heap.size a len) (hl : len ≤ 1048576) (hz : a = none → len = 0 ∧ cap = 0) :
    Calls Try.prog 5 #[.slice a len cap] w fun e w' => ∃ (h : Hs) (nx : Int) (ra : Option Addr) (rc : Nat) (l : List Pe) (x y z : Int), e = .returned (.tuple #[.agg #[.int .i64 h.fl, .int .i64 h.gp, .int .i64 h.ln, .int .i64 h.rf, .int .i64 h.sp, .int .i64 h.pu, .int .i64 h.br, .int .i64 h.dr, .int .i64 h.lv, .int .i64 h.dO, .int .i64 h.ld, .int .i64 h.qu], .agg #[.int .i64 nx, .slice ra l.length rc], .int .i64 x, .int .i64 y, .int .i64 z]) ∧ Own w' w.heap.size (.slice ra l.length rc) l ∧ l.length ≤ 60 ∧ Below w.heap.size w w' := by
  obtain ⟨b0, hb0⟩ : ∃ b0, b0 = w.heap.size := ⟨_, rfl⟩
  obtain ⟨b1, hb1⟩ : ∃ b1, b1 = w.heap.size + 1 := ⟨_, rfl⟩
  obtain ⟨W0, hW0⟩ : ∃ W0, W0 = (w.alloc (.cells #[.int .i64 0, .int .i64 0, .int .i64 0, .int .i64 0, .int .i64 0, .int .i64 0, .int .i64 0, .int .i64 0, .int .i64 0, .int .i64 0, .int .i64 0, .int .i64 0] 25)).alloc (.cells #[.int .i64 0, .slice none 0 0] 28) := ⟨_, rfl⟩
  have hsz : W0.heap.size = w.heap.size + 2 := by rw [hW0]; simp
  have HC : Hid (CodeIn W0 w.heap.size a len) := by rw [hW0]; exact hc.keep fun b off _ hb => (World.cell?_alloc_past _ _ _ (by simp; omega)).trans (World.cell?_alloc_past _ _ _ hb)
  have G0 : Hid (Blk W0 b0 [.int .i64 0, .int .i64 0, .int .i64 0, .int .i64 0, .int .i64 0, .int .i64 0, .int .i64 0, .int .i64 0, .int .i64 0, .int .i64 0, .int .i64 0, .int .i64 0]) := by rw [hW0]; exact (Blk.at_ w #[.int .i64 0, .int .i64 0, .int .i64 0, .int .i64 0, .int .i64 0, .int .i64 0, .int .i64 0, .int .i64 0, .int .i64 0, .int .i64 0, .int .i64 0, .int .i64 0] _ _ hb0).alloc _
  have G1 : Hid (Blk W0 b1 [.int .i64 0, .slice none 0 0]) := by rw [hW0]; exact Blk.at_ _ #[.int .i64 0, .slice none 0 0] _ _ (by simp [hb1])
  have FB : Hid (Below w.heap.size w W0) := by rw [hW0]; exact ((Below.refl _ _).alloc (Nat.le_refl _) _).alloc (by simp) _
  have HW0 : Hid (W0 = (w.alloc (.cells #[.int .i64 0, .int .i64 0, .int .i64 0, .int .i64 0, .int .i64 0, .int .i64 0, .int .i64 0, .int .i64 0, .int .i64 0, .int .i64 0, .int .i64 0, .int .i64 0] 25)).alloc (.cells #[.int .i64 0, .slice none 0 0] 28)) := hW0
  have HB0 : Hid (b0 = w.heap.size) := hb0
  have HB1 : Hid (b1 = w.heap.size + 1) := hb1
  have le0 : w.heap.size ≤ b0 := by omega
  have le1 : b0 < b1 := by omega
  have le2 : b1 < w.heap.size + 2 := by omega
  have HSZ : Hid (W0.heap.size = w.heap.size + 2) := hsz
  clear hW0 hc hb0 hb1 hsz
  go_enter Try.func5, Try.ntmps5
  go_upto_region 1 with fail
  rw [← HW0.out, ← HB1.out, ← HB0.out]
  clear HW0 HB0 HB1
  go_wp2_with (first | (go_at_call 13; refine (l7Who_any a len cap _ (HC.out.upR (by rw [HSZ.out]; omega)) hl hz).mono ?_; rintro e w1 ⟨h, nx, ra, rc, l, x, y, z, rfl, ho, hl60, hb⟩; have lt0 := G0.out.lt; have lt1 := G1.out.lt; have G0 : Hid (Blk w1 b0 [.int .i64 0, .int .i64 0, .int .i64 0, .int .i64 0, .int .i64 0, .int .i64 0, .int .i64 0, .int .i64 0, .int .i64 0, .int .i64 0, .int .i64 0, .int .i64 0]) := G0.out.below hb lt0; have G1 : Hid (Blk w1 b1 [.int .i64 0, .slice none 0 0]) := G1.out.below hb lt1; have FB : Hid (Below w.heap.size w w1) := FB.out.trans (hb.mono FB.out.size); rw [HSZ.out] at ho; have FO : Hid (Own w1 (w.heap.size + 2) (.slice ra l.length rc) l) := ho; clear hb ho lt0 lt1 HC hl hz HSZ) | (refine store_blk [.int .i64 h.fl, .int .i64 h.gp, .int .i64 h.ln, .int .i64 h.rf, .int .i64 h.sp, .int .i64 h.pu, .int .i64 h.br, .int .i64 h.dr, .int .i64 h.lv, .int .i64 h.dO, .int .i64 h.ld, .int .i64 h.qu] 25 _ _ (by kernel_rfl) (by kernel_rfl) (by kernel_rfl) G0.out rfl rfl rfl rfl ?_) | (refine store_blk [.int .i64 nx, .slice ra l.length rc] 28 _ _ (by kernel_rfl) (by kernel_rfl) (by kernel_rfl) (G1.out.row_other (c := b0) (by omega) [.int .i64 h.fl, .int .i64 h.gp, .int .i64 h.ln, .int .i64 h.rf, .int .i64 h.sp, .int .i64 h.pu, .int .i64 h.br, .int .i64 h.dr, .int .i64 h.lv, .int .i64 h.dO, .int .i64 h.ld, .int .i64 h.qu].toArray) rfl rfl rfl rfl ?_))
  obtain ⟨w3, hw3⟩ : ∃ w3, w3 = (w1.setRow b0 [.int .i64 h.fl, .int .i64 h.gp, .int .i64 h.ln, .int .i64 h.rf, .int .i64 h.sp, .int .i64 h.pu, .int .i64 h.br, .int .i64 h.dr, .int .i64 h.lv, .int .i64 h.dO, .int .i64 h.ld, .int .i64 h.qu].toArray).setRow b1 [.int .i64 nx, .slice ra l.length rc].toArray := ⟨_, rfl⟩
  have G2 : Blk w3 b0 [.int .i64 h.fl, .int .i64 h.gp, .int .i64 h.ln, .int .i64 h.rf, .int .i64 h.sp, .int .i64 h.pu, .int .i64 h.br, .int .i64 h.dr, .int .i64 h.lv, .int .i64 h.dO, .int .i64 h.ld, .int .i64 h.qu] := by rw [hw3]; exact (G0.out.row [.int .i64 h.fl, .int .i64 h.gp, .int .i64 h.ln, .int .i64 h.rf, .int .i64 h.sp, .int .i64 h.pu, .int .i64 h.br, .int .i64 h.dr, .int .i64 h.lv, .int .i64 h.dO, .int .i64 h.ld, .int .i64 h.qu]).row_other (by omega) _
  have G3 : Blk w3 b1 [.int .i64 nx, .slice ra l.length rc] := by rw [hw3]; exact (G1.out.row_other (c := b0) (by omega) [.int .i64 h.fl, .int .i64 h.gp, .int .i64 h.ln, .int .i64 h.rf, .int .i64 h.sp, .int .i64 h.pu, .int .i64 h.br, .int .i64 h.dr, .int .i64 h.lv, .int .i64 h.dO, .int .i64 h.ld, .int .i64 h.qu].toArray).row [.int .i64 nx, .slice ra l.length rc]
  have FO2 : Own w3 (w.heap.size + 2) (.slice ra l.length rc) l := by rw [hw3]; exact (FO.out.rowO (by omega) _).rowO (by omega) _
  have FB2 : Below w.heap.size w w3 := by rw [hw3]; exact below_row (below_row FB.out (by omega) _) (by omega) _
  rw [← hw3]
  clear hw3
  have d0 := G2.c 0 _ rfl
  have d1 := G2.c 1 _ rfl
  have d2 := G2.c 2 _ rfl
  have d3 := G2.c 3 _ rfl
  have d4 := G2.c 4 _ rfl
  have d5 := G2.c 5 _ rfl
  have d6 := G2.c 6 _ rfl
  have d7 := G2.c 7 _ rfl
  have d8 := G2.c 8 _ rfl
  have d9 := G2.c 9 _ rfl
  have d10 := G2.c 10 _ rfl
  have d11 := G2.c 11 _ rfl
  have k0 := G3.c 0 _ rfl
  have k1 := G3.c 1 _ rfl
  exact bodyPost_ret (v := .tuple #[.agg #[.int .i64 h.fl, .int .i64 h.gp, .int .i64 h.ln, .int .i64 h.rf, .int .i64 h.sp, .int .i64 h.pu, .int .i64 h.br, .int .i64 h.dr, .int .i64 h.lv, .int .i64 h.dO, .int .i64 h.ld, .int .i64 h.qu], .agg #[.int .i64 nx, .slice ra l.length rc], .int .i64 x, .int .i64 y, .int .i64 z]) (by simp [results, Try.results5, go_sem, d0, d1, d2, d3, d4, d5, d6, d7, d8, d9, d10, d11, k0, k1]) rfl ⟨h, nx, ra, rc, l, x, y, z, rfl, FO2.base (by omega), hl60, FB2⟩
end Go.Proofs.Ytoekhkolakielaa
