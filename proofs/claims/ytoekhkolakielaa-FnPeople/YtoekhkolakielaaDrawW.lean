/-
  A house, a ledger and a call are drawn.
-/
import Derived.Test.YtoekhkolakielaaDrawP
import Derived.Test.YtoekhkolakielaaHouseB
import Derived.Deep.RegionHeld3
import Derived.Laws.AppendOwnNone
import Derived.BigGuardPart
import Derived.WalkMore
namespace Go.Proofs.Ytoekhkolakielaa
open Go.RowKit Pl
set_option linter.unusedSimpArgs false
set_option linter.unusedVariables false

theorem l2Bent_t (sb B : Nat) (a : Option Addr) (len cap T : Nat) (w : World) (h : SrcT w sb B a len cap T) (hT : T ≤ 800000) :
    Calls Try.prog 49 #[.pointer (some ⟨sb, 0, none⟩)] w fun e w' => ∃ h : Hs, e = .returned (.agg #[.int .i64 h.fl, .int .i64 h.gp, .int .i64 h.ln, .int .i64 h.rf, .int .i64 h.sp, .int .i64 h.pu, .int .i64 h.br, .int .i64 h.dr, .int .i64 h.lv, .int .i64 h.dO, .int .i64 h.ld, .int .i64 h.qu]) ∧ SrcT w' sb B a len cap (T + 60) ∧ Keeps sb w w' := by
  obtain ⟨t, ht, h⟩ := h
  refine (l2Bent_src sb B a len cap t w h (by omega)).mono ?_
  rintro e w' ⟨v, t', he, ht', hs, hk⟩
  exact ⟨v, he, ⟨_, by omega, hs⟩, hk⟩
theorem HAt.put_h {W : World} {b k : Nat} {h : Hs} (a : HAt W b h) (hne : b ≠ k) (g : Hs) : HAt (putH W k g) b h := ((((((((((((a.other hne).other hne).other hne).other hne).other hne).other hne).other hne).other hne).other hne).other hne).other hne).other hne)
theorem LW.put_h {W : World} {b k : Nat} {nx : Int} {v : Value} (a : LW W b nx v) (hne : b ≠ k) (g : Hs) : LW (putH W k g) b nx v := ((((((((((((a.other hne).other hne).other hne).other hne).other hne).other hne).other hne).other hne).other hne).other hne).other hne).other hne)
theorem HW.hat {W : World} {b : Nat} {h : Hs} (a : HW W b h) : HAt W b h := ⟨a.c0, a.c1, a.c2, a.c3, a.c4, a.c5, a.c6, a.c7, a.c8, a.c9, a.c10, a.c11⟩
theorem below_putH {B : Nat} {w W : World} (h : Below B w W) {b : Nat} (hb : B ≤ b) (g : Hs) : Below B w (putH W b g) := ((((((((((((h.setCell hb _).setCell hb _).setCell hb _).setCell hb _).setCell hb _).setCell hb _).setCell hb _).setCell hb _).setCell hb _).setCell hb _).setCell hb _).setCell hb _)
theorem Own.put_h {w : World} {B k : Nat} {v : Value} {l : List Pe} (h : Own w B v l) (hk : k < B) (g : Hs) : Own (putH w k g) B v l := by
  have ne : v.ownBlock ≠ some k := fun e => by have := (h.lt k e).1; omega
  exact ((((((((((((h.other (p := ⟨k, 0, none⟩) ne _).other (p := ⟨k, 1, none⟩) ne _).other (p := ⟨k, 2, none⟩) ne _).other (p := ⟨k, 3, none⟩) ne _).other (p := ⟨k, 4, none⟩) ne _).other (p := ⟨k, 5, none⟩) ne _).other (p := ⟨k, 6, none⟩) ne _).other (p := ⟨k, 7, none⟩) ne _).other (p := ⟨k, 8, none⟩) ne _).other (p := ⟨k, 9, none⟩) ne _).other (p := ⟨k, 10, none⟩) ne _).other (p := ⟨k, 11, none⟩) ne _)
def putL2 (w : World) (b : Nat) (nx : Int) (v : Value) : World := (w.setCell ⟨b, 0, none⟩ (.int .i64 nx)).setCell ⟨b, 1, none⟩ v
theorem LW.setL2 {w : World} {b : Nat} {nx : Int} {v : Value} (a : LW w b nx v) (n2 : Int) (v2 : Value) : LW (putL2 w b n2 v2) b n2 v2 := (a.set0 n2).set1 v2
theorem LW.putL2_o {w : World} {b k : Nat} {nx : Int} {v : Value} (a : LW w b nx v) (hne : b ≠ k) (n2 : Int) (v2 : Value) : LW (putL2 w k n2 v2) b nx v := (a.other hne).other hne
theorem HAt.putL2_o {w : World} {b k : Nat} {h : Hs} (a : HAt w b h) (hne : b ≠ k) (n2 : Int) (v2 : Value) : HAt (putL2 w k n2 v2) b h := (a.other hne).other hne
theorem Own.putL2_o {w : World} {B k : Nat} {v : Value} {l : List Pe} (h : Own w B v l) (hk : k < B) (n2 : Int) (v2 : Value) : Own (putL2 w k n2 v2) B v l := by
  have ne : v.ownBlock ≠ some k := fun e => by have := (h.lt k e).1; omega
  exact (h.other (p := ⟨k, 0, none⟩) ne _).other (p := ⟨k, 1, none⟩) ne _
theorem below_putL2 {B : Nat} {w W : World} (h : Below B w W) {b : Nat} (hb : B ≤ b) (n2 : Int) (v2 : Value) : Below B w (putL2 W b n2 v2) := (h.setCell hb _).setCell hb _
set_option maxRecDepth 20000 in
set_option maxHeartbeats 16000000 in
theorem l7One_any (a : Option Addr) (len cap : Nat) (w : World) (hc : CodeIn w w.heap.size a len) :
    Calls Try.prog 31 #[.slice a len cap] w fun e w' => ∃ (h : Hs) (nx : Int) (ra : Option Addr) (rc : Nat) (l : List Pe), e = .returned (.tuple #[.agg #[.int .i64 h.fl, .int .i64 h.gp, .int .i64 h.ln, .int .i64 h.rf, .int .i64 h.sp, .int .i64 h.pu, .int .i64 h.br, .int .i64 h.dr, .int .i64 h.lv, .int .i64 h.dO, .int .i64 h.ld, .int .i64 h.qu], .agg #[.int .i64 nx, .slice ra l.length rc]]) ∧ Own w' w.heap.size (.slice ra l.length rc) l ∧ l.length ≤ 60 ∧ Below w.heap.size w w' := by
  obtain ⟨W0, hW0⟩ : ∃ W0, W0 = ((w.alloc (.cells #[.int .i64 0, .int .i64 0, .int .i64 0, .int .i64 0, .int .i64 0, .int .i64 0, .int .i64 0, .int .i64 0, .int .i64 0, .int .i64 0, .int .i64 0, .int .i64 0] 25)).alloc (.cells #[.int .i64 0, .slice none 0 0] 28)) := ⟨_, rfl⟩
  obtain ⟨sb, hsb⟩ : ∃ sb, sb = W0.heap.size := ⟨_, rfl⟩
  have hsz : w.heap.size + 1 < sb := by rw [hsb, hW0]; simp
  have HC : Hid (CodeIn W0 w.heap.size a len) := by rw [hW0]; exact hc.keep fun b off _ hb => (World.cell?_alloc_past _ _ _ (by simp; omega)).trans (World.cell?_alloc_past _ _ _ hb)
  have G0 : Hid (HW W0 w.heap.size (⟨0, 0, 0, 0, 0, 0, 0, 0, 0, 0, 0, 0⟩ : Hs)) := by rw [hW0]; exact (HW.new w (⟨0, 0, 0, 0, 0, 0, 0, 0, 0, 0, 0, 0⟩ : Hs) _).alloc _
  have G1 : Hid (LW W0 (w.heap.size + 1) 0 (.slice none 0 0)) := by rw [hW0]; exact LW.at_ _ 0 (.slice none 0 0) _ _ (by simp)
  have FK : Hid (Keeps sb w W0) := by rw [hW0]; exact ((Keeps.refl _ _).alloc _).alloc _
  have HW0 : Hid (W0 = ((w.alloc (.cells #[.int .i64 0, .int .i64 0, .int .i64 0, .int .i64 0, .int .i64 0, .int .i64 0, .int .i64 0, .int .i64 0, .int .i64 0, .int .i64 0, .int .i64 0, .int .i64 0] 25)).alloc (.cells #[.int .i64 0, .slice none 0 0] 28))) := hW0
  have HSB : Hid (sb = W0.heap.size) := hsb
  clear hW0 hsb hc
  go_enter Try.func31, Try.ntmps31
  go_upto_region 1 with fail
  rw [← HW0.out]
  clear HW0
  go_upto_region 2 with (go_at_call 32; refine (l1Source_t w.heap.size a len cap _ (by have := HSB.out; omega) HC.out).mono ?_; rw [← HSB.out]; rintro e w1 ⟨rfl, hs, hk⟩; have G0 : Hid (HW w1 w.heap.size (⟨0, 0, 0, 0, 0, 0, 0, 0, 0, 0, 0, 0⟩ : Hs)) := G0.out.keeps hk (by omega); have G1 : Hid (LW w1 (w.heap.size + 1) 0 (.slice none 0 0)) := G1.out.keeps hk (by omega); have FK : Hid (Keeps sb w w1) := FK.out.trans hk; have FS : Hid (SrcT w1 sb w.heap.size a len cap (0)) := hs; clear hs hk)
  clear HSB
  go_upto_region 3 with (go_at_call 47; refine (l2House_t sb _ a len cap 0 _ FS.out (by omega)).mono ?_; rintro e w2 ⟨h, rfl, hsm, hs, hk⟩; have o1 := hsm.ok.fl1; have o2 := hsm.ok.fl2; clear hsm; have G0 : Hid (HW w2 w.heap.size (⟨0, 0, 0, 0, 0, 0, 0, 0, 0, 0, 0, 0⟩ : Hs)) := G0.out.keeps hk (by omega); have G1 : Hid (LW w2 (w.heap.size + 1) 0 (.slice none 0 0)) := G1.out.keeps hk (by omega); have FK : Hid (Keeps sb w w2) := FK.out.trans hk; have FS : Hid (SrcT w2 sb w.heap.size a len cap (0 + 40)) := hs; clear hs hk)
  obtain ⟨b1, hb1⟩ : ∃ b1, b1 = w2.heap.size := ⟨_, rfl⟩
  obtain ⟨w3, hw3⟩ : ∃ w3, w3 = w2.alloc (.cells #[.int .i64 h.fl, .int .i64 h.gp, .int .i64 h.ln, .int .i64 h.rf, .int .i64 h.sp, .int .i64 h.pu, .int .i64 h.br, .int .i64 h.dr, .int .i64 h.lv, .int .i64 h.dO, .int .i64 h.ld, .int .i64 h.qu] 25) := ⟨_, rfl⟩
  have lG1 := G1.out.lt
  have lFS := FS.out.lt
  rw [← hb1] at lG1 lFS
  have G0 : Hid (HW w3 w.heap.size (⟨0, 0, 0, 0, 0, 0, 0, 0, 0, 0, 0, 0⟩ : Hs)) := by rw [hw3]; exact G0.out.alloc _
  have G1 : Hid (LW w3 (w.heap.size + 1) 0 (.slice none 0 0)) := by rw [hw3]; exact G1.out.alloc _
  have FS : Hid (SrcT w3 sb w.heap.size a len cap (0 + 40)) := by rw [hw3]; exact FS.out.alloc _
  have FK : Hid (Keeps sb w w3) := by rw [hw3]; exact FK.out.alloc _
  have F0 : Hid (HW w3 b1 h) := by rw [hw3, hb1]; exact HW.new w2 h _
  have lw3 : w3.heap.size = b1 + 1 := by rw [hw3, hb1]; simp
  rw [← hw3, ← hb1]
  clear hw3 hb1
  have F0h := F0.out.hat
  obtain ⟨x0_0, x0_1, x0_2, x0_3, x0_4, x0_5, x0_6, x0_7, x0_8, x0_9, x0_10, x0_11⟩ := F0h
  go_upto_region 4 with (go_at_call 48; refine (l7Ledger_t h o1 o2 sb _ a len cap (0 + 40) _ FS.out (by omega)).mono ?_; rw [lw3]; rintro e w4 ⟨nx, v, l, rfl, ho, hl60, hs, hk⟩; obtain ⟨ra, rc, rfl, -⟩ := ho.pin; have FO : Hid (Own w4 (b1 + 1) (.slice ra l.length rc) l) := ho; clear ho; have F0 : Hid (HW w4 b1 h) := F0.out.keeps hk (by omega); have G0 : Hid (HW w4 w.heap.size (⟨0, 0, 0, 0, 0, 0, 0, 0, 0, 0, 0, 0⟩ : Hs)) := G0.out.keeps hk (by omega); have G1 : Hid (LW w4 (w.heap.size + 1) 0 (.slice none 0 0)) := G1.out.keeps hk (by omega); have FK : Hid (Keeps sb w w4) := FK.out.trans hk; have FS : Hid (SrcT w4 sb w.heap.size a len cap (0 + 40 + 2000)) := hs; clear hs hk)
  clear x0_0 x0_1 x0_2 x0_3 x0_4 x0_5 x0_6 x0_7 x0_8 x0_9 x0_10 x0_11
  obtain ⟨b2, hb2⟩ : ∃ b2, b2 = w4.heap.size := ⟨_, rfl⟩
  obtain ⟨w5, hw5⟩ : ∃ w5, w5 = w4.alloc (.cells #[.int .i64 nx, .slice ra l.length rc] 28) := ⟨_, rfl⟩
  have lF0 := F0.out.lt
  rw [← hb2] at lF0
  have G0 : Hid (HW w5 w.heap.size (⟨0, 0, 0, 0, 0, 0, 0, 0, 0, 0, 0, 0⟩ : Hs)) := by rw [hw5]; exact G0.out.alloc _
  have G1 : Hid (LW w5 (w.heap.size + 1) 0 (.slice none 0 0)) := by rw [hw5]; exact G1.out.alloc _
  have F0 : Hid (HW w5 b1 h) := by rw [hw5]; exact F0.out.alloc _
  have FO : Hid (Own w5 (b1 + 1) (.slice ra l.length rc) l) := by rw [hw5]; exact FO.out.alloc _
  have F1 : Hid (LW w5 b2 nx (.slice ra l.length rc)) := by rw [hw5]; exact LW.at_ w4 nx _ _ _ hb2
  have FS : Hid (SrcT w5 sb w.heap.size a len cap (0 + 40 + 2000)) := by rw [hw5]; exact FS.out.alloc _
  have FK : Hid (Keeps sb w w5) := by rw [hw5]; exact FK.out.alloc _
  rw [← hw5, ← hb2]
  clear hw5 hb2
  go_upto_if 15 with (go_at_call 34; refine (l1Chance_t sb _ a len cap (0 + 40 + 2000) 30 _ FS.out (by omega) (by omega) (by omega)).mono ?_; rintro e w6 ⟨vb, rfl, hs, hk⟩; have F0 : Hid (HW w6 b1 h) := F0.out.keeps hk (by omega); have FO : Hid (Own w6 (b1 + 1) (.slice ra l.length rc) l) := FO.out.keeps hk (by omega); have F1 : Hid (LW w6 b2 nx (.slice ra l.length rc)) := F1.out.keeps hk (by omega); have G0 : Hid (HW w6 w.heap.size (⟨0, 0, 0, 0, 0, 0, 0, 0, 0, 0, 0, 0⟩ : Hs)) := G0.out.keeps hk (by omega); have G1 : Hid (LW w6 (w.heap.size + 1) 0 (.slice none 0 0)) := G1.out.keeps hk (by omega); have FK : Hid (Keeps sb w w6) := FK.out.trans hk; have FS : Hid (SrcT w6 sb w.heap.size a len cap (0 + 40 + 2000 + 1)) := hs; clear hs hk)
  cases vb
  · go_upto_region 6 with fail
    have FB : Hid (Below w.heap.size w w6) := FK.out.below (by omega) (Nat.le_refl _)
    have F0 : Hid (HAt w6 b1 h) := F0.out.hat
    have F0 : Hid (HAt w6.drew b1 h) := F0.out.below (Below.refl _ _).drew F0.out.lt
    have F1 : Hid (LW w6.drew b2 nx (.slice ra l.length rc)) := F1.out.below (Below.refl _ _).drew F1.out.lt
    have G0 : Hid (HW w6.drew w.heap.size (⟨0, 0, 0, 0, 0, 0, 0, 0, 0, 0, 0, 0⟩ : Hs)) := G0.out.below (Below.refl _ _).drew G0.out.lt
    have G1 : Hid (LW w6.drew (w.heap.size + 1) 0 (.slice none 0 0)) := G1.out.below (Below.refl _ _).drew G1.out.lt
    have FO : Hid (Own w6.drew (b1 + 1) (.slice ra l.length rc) l) := FO.out.drew
    have FB : Hid (Below w.heap.size w w6.drew) := FB.out.drew
    obtain ⟨x0_0, x0_1, x0_2, x0_3, x0_4, x0_5, x0_6, x0_7, x0_8, x0_9, x0_10, x0_11⟩ := F0.out
    have mn := F1.out.c0
    have mv := F1.out.c1
    refine wp_region_held_drew (S := (fun w'' => w''.cell? ⟨b1, 0, none⟩ = some (.int .i64 h.fl) ∧ w''.cell? ⟨b1, 1, none⟩ = some (.int .i64 h.gp) ∧ w''.cell? ⟨b1, 2, none⟩ = some (.int .i64 h.ln) ∧ w''.cell? ⟨b1, 3, none⟩ = some (.int .i64 h.rf) ∧ w''.cell? ⟨b1, 4, none⟩ = some (.int .i64 h.sp) ∧ w''.cell? ⟨b1, 5, none⟩ = some (.int .i64 h.pu) ∧ w''.cell? ⟨b1, 6, none⟩ = some (.int .i64 h.br) ∧ w''.cell? ⟨b1, 7, none⟩ = some (.int .i64 h.dr) ∧ w''.cell? ⟨b1, 8, none⟩ = some (.int .i64 h.lv) ∧ w''.cell? ⟨b1, 9, none⟩ = some (.int .i64 h.dO) ∧ w''.cell? ⟨b1, 10, none⟩ = some (.int .i64 h.ld) ∧ w''.cell? ⟨b1, 11, none⟩ = some (.int .i64 h.qu) ∧ w''.cell? ⟨b2, 0, none⟩ = some (.int .i64 nx) ∧ w''.cell? ⟨b2, 1, none⟩ = some (.slice ra l.length rc))) (by kernel_rfl) (by (try dsimp only); first | exact ⟨x0_0, x0_1, x0_2, x0_3, x0_4, x0_5, x0_6, x0_7, x0_8, x0_9, x0_10, x0_11, mn, mv⟩ | go_keep) (fun hHeld => ?_)
    obtain ⟨v_1, hw1⟩ : ∃ v_1, v_1 = w6.drew := ⟨_, rfl⟩
    have F0 : Hid (HAt v_1 b1 h) := by rw [hw1]; exact F0.out
    have F1 : Hid (LW v_1 b2 nx (.slice ra l.length rc)) := by rw [hw1]; exact F1.out
    have G0 : Hid (HW v_1 w.heap.size (⟨0, 0, 0, 0, 0, 0, 0, 0, 0, 0, 0, 0⟩ : Hs)) := by rw [hw1]; exact G0.out
    have G1 : Hid (LW v_1 (w.heap.size + 1) 0 (.slice none 0 0)) := by rw [hw1]; exact G1.out
    have FO : Hid (Own v_1 (b1 + 1) (.slice ra l.length rc) l) := by rw [hw1]; exact FO.out
    have FB : Hid (Below w.heap.size w v_1) := by rw [hw1]; exact FB.out
    rw [← hw1] at hHeld ⊢
    clear hw1
    obtain ⟨x0_0, x0_1, x0_2, x0_3, x0_4, x0_5, x0_6, x0_7, x0_8, x0_9, x0_10, x0_11⟩ := F0.out
    have mn := F1.out.c0
    have mv := F1.out.c1
    refine tkz 0 rfl ?_
    refine tkz 1 rfl ?_
    refine wpAnyH_ready (rs := [2]) (by kernel_rfl) (by simp) ?_
    refine (AllReadyH.cons rfl (fun K hK => ?_) AllReadyH.nil)
    obtain ⟨d0, d1, d2, d3, d4, d5, d6, d7, d8, d9, d10, d11, e0, e1, e2, e3, e4, e5, e6, e7, e8, e9, e10, e11⟩ := G0.out
    try dsimp only at d0 d1 d2 d3 d4 d5 d6 d7 d8 d9 d10 d11
    go_simp
    obtain ⟨v_2, hw2⟩ : ∃ v_2, v_2 = putH v_1 w.heap.size h := ⟨_, rfl⟩
    change K _ (putH v_1 w.heap.size h)
    rw [← hw2]
    clear d0 e0 d1 e1 d2 e2 d3 e3 d4 e4 d5 e5 d6 e6 d7 e7 d8 e8 d9 e9 d10 e10 d11 e11
    have F0 : Hid (HAt v_2 b1 h) := by rw [hw2]; exact F0.out.put_h (by omega) h
    have F1 : Hid (LW v_2 b2 nx (.slice ra l.length rc)) := by rw [hw2]; exact F1.out.put_h (by omega) h
    have G0 : Hid (HW v_2 w.heap.size h) := by rw [hw2]; exact G0.out.put h
    have G1 : Hid (LW v_2 (w.heap.size + 1) 0 (.slice none 0 0)) := by rw [hw2]; exact G1.out.put_h (by omega) h
    have FO : Hid (Own v_2 (b1 + 1) (.slice ra l.length rc) l) := by rw [hw2]; exact FO.out.put_h (by omega) h
    have FB : Hid (Below w.heap.size w v_2) := by rw [hw2]; exact below_putH FB.out (Nat.le_refl _) h
    clear hw2
    obtain ⟨x0_0, x0_1, x0_2, x0_3, x0_4, x0_5, x0_6, x0_7, x0_8, x0_9, x0_10, x0_11⟩ := F0.out
    have mn := F1.out.c0
    have mv := F1.out.c1
    refine hK.out _ _ (by (try dsimp only); first | exact ⟨x0_0, x0_1, x0_2, x0_3, x0_4, x0_5, x0_6, x0_7, x0_8, x0_9, x0_10, x0_11, mn, mv⟩ | go_keep) (fun hHeld => ?_)
    clear hK K
    try simp only [Act.put, List.getElem_toArray, List.getElem_cons_succ, List.getElem_cons_zero, List.setIfInBounds_toArray, List.set_cons_zero, List.set_cons_succ]
    refine wpAnyH_ready (rs := [3]) (by kernel_rfl) (by simp) ?_
    refine (AllReadyH.cons rfl (fun K hK => ?_) AllReadyH.nil)
    obtain ⟨r0, r1, r2, r3⟩ := G1.out
    go_simp
    obtain ⟨v_3, hw2⟩ : ∃ v_3, v_3 = putL2 v_2 (w.heap.size + 1) nx (.slice ra l.length rc) := ⟨_, rfl⟩
    change K _ (putL2 v_2 (w.heap.size + 1) nx (.slice ra l.length rc))
    rw [← hw2]
    clear r0 r1 r2 r3
    have F0 : Hid (HAt v_3 b1 h) := by rw [hw2]; exact F0.out.putL2_o (by omega) _ _
    have F1 : Hid (LW v_3 b2 nx (.slice ra l.length rc)) := by rw [hw2]; exact F1.out.putL2_o (by omega) _ _
    have G0 : Hid (HW v_3 w.heap.size h) := by rw [hw2]; exact G0.out.below (below_putL2 (Below.refl (w.heap.size + 1) _) (Nat.le_refl _) _ _) (by omega)
    have G1 : Hid (LW v_3 (w.heap.size + 1) nx (.slice ra l.length rc)) := by rw [hw2]; exact G1.out.setL2 _ _
    have FO : Hid (Own v_3 (b1 + 1) (.slice ra l.length rc) l) := by rw [hw2]; exact FO.out.putL2_o (by omega) _ _
    have FB : Hid (Below w.heap.size w v_3) := by rw [hw2]; exact below_putL2 FB.out (by omega) _ _
    clear hw2
    obtain ⟨x0_0, x0_1, x0_2, x0_3, x0_4, x0_5, x0_6, x0_7, x0_8, x0_9, x0_10, x0_11⟩ := F0.out
    have mn := F1.out.c0
    have mv := F1.out.c1
    refine hK.out _ _ (by (try dsimp only); first | exact ⟨x0_0, x0_1, x0_2, x0_3, x0_4, x0_5, x0_6, x0_7, x0_8, x0_9, x0_10, x0_11, mn, mv⟩ | go_keep) (fun hHeld => ?_)
    clear hK K
    try simp only [Act.put, List.getElem_toArray, List.getElem_cons_succ, List.getElem_cons_zero, List.setIfInBounds_toArray, List.set_cons_zero, List.set_cons_succ]
    refine wpAnyH_done (by kernel_rfl) ?_ _
    obtain ⟨d0, d1, d2, d3, d4, d5, d6, d7, d8, d9, d10, d11, e0, e1, e2, e3, e4, e5, e6, e7, e8, e9, e10, e11⟩ := G0.out
    obtain ⟨k0, k1, k2, k3⟩ := G1.out
    go_wp2_with fail
    exact bodyPost_ret (v := .tuple #[.agg #[.int .i64 h.fl, .int .i64 h.gp, .int .i64 h.ln, .int .i64 h.rf, .int .i64 h.sp, .int .i64 h.pu, .int .i64 h.br, .int .i64 h.dr, .int .i64 h.lv, .int .i64 h.dO, .int .i64 h.ld, .int .i64 h.qu], .agg #[.int .i64 nx, .slice ra l.length rc]]) (by simp [results, Try.results31, go_sem, d0, d1, d2, d3, d4, d5, d6, d7, d8, d9, d10, d11, k0, k1]) rfl ⟨h, nx, ra, rc, l, rfl, FO.out.base (by omega), hl60, FB.out⟩
  · obtain ⟨c0, c1, c2, c3, c4, c5, c6, c7, c8, c9, c10, c11, f0, f1, f2, f3, f4, f5, f6, f7, f8, f9, f10, f11⟩ := F0.out
    go_upto_region 6 with (go_at_call 49; refine (l2Bent_t sb _ a len cap (0 + 40 + 2000 + 1) _ FS.out (by omega)).mono ?_; rintro e w7 ⟨h2, rfl, hs, hk⟩; have F0 : Hid (HW w7 b1 h) := F0.out.keeps hk (by omega); have FO : Hid (Own w7 (b1 + 1) (.slice ra l.length rc) l) := FO.out.keeps hk (by omega); have F1 : Hid (LW w7 b2 nx (.slice ra l.length rc)) := F1.out.keeps hk (by omega); have G0 : Hid (HW w7 w.heap.size (⟨0, 0, 0, 0, 0, 0, 0, 0, 0, 0, 0, 0⟩ : Hs)) := G0.out.keeps hk (by omega); have G1 : Hid (LW w7 (w.heap.size + 1) 0 (.slice none 0 0)) := G1.out.keeps hk (by omega); have FK : Hid (Keeps sb w w7) := FK.out.trans hk; have FS : Hid (SrcT w7 sb w.heap.size a len cap (0 + 40 + 2000 + 1 + 60)) := hs; clear hs hk; clear c0 f0 c1 f1 c2 f2 c3 f3 c4 f4 c5 f5 c6 f6 c7 f7 c8 f8 c9 f9 c10 f10 c11 f11; obtain ⟨c0, c1, c2, c3, c4, c5, c6, c7, c8, c9, c10, c11, f0, f1, f2, f3, f4, f5, f6, f7, f8, f9, f10, f11⟩ := F0.out)
    clear c0 f0 c1 f1 c2 f2 c3 f3 c4 f4 c5 f5 c6 f6 c7 f7 c8 f8 c9 f9 c10 f10 c11 f11
    have FB : Hid (Below w.heap.size w w7) := FK.out.below (by omega) (Nat.le_refl _)
    obtain ⟨w8, hw8⟩ : ∃ w8, w8 = putH w7 b1 h2 := ⟨_, rfl⟩
    have F0 : Hid (HAt w8 b1 h2) := by rw [hw8]; exact (F0.out.put h2).hat
    have F1 : Hid (LW w8 b2 nx (.slice ra l.length rc)) := by rw [hw8]; exact F1.out.put_h (by omega) h2
    have FO : Hid (Own w8 (b1 + 1) (.slice ra l.length rc) l) := by rw [hw8]; exact FO.out.put_h (by omega) h2
    have G0 : Hid (HW w8 w.heap.size (⟨0, 0, 0, 0, 0, 0, 0, 0, 0, 0, 0, 0⟩ : Hs)) := by rw [hw8]; exact G0.out.below (below_putH (Below.refl _ _) (Nat.le_refl _) h2) (by omega)
    have G1 : Hid (LW w8 (w.heap.size + 1) 0 (.slice none 0 0)) := by rw [hw8]; exact G1.out.put_h (by omega) h2
    have FB : Hid (Below w.heap.size w w8) := by rw [hw8]; exact below_putH FB.out (by omega) h2
    change Code.wp _ _ _ _ (putH w7 b1 h2)
    rw [← hw8]
    clear hw8
    have F0 : Hid (HAt w8.drew b1 h2) := F0.out.below (Below.refl _ _).drew F0.out.lt
    have F1 : Hid (LW w8.drew b2 nx (.slice ra l.length rc)) := F1.out.below (Below.refl _ _).drew F1.out.lt
    have G0 : Hid (HW w8.drew w.heap.size (⟨0, 0, 0, 0, 0, 0, 0, 0, 0, 0, 0, 0⟩ : Hs)) := G0.out.below (Below.refl _ _).drew G0.out.lt
    have G1 : Hid (LW w8.drew (w.heap.size + 1) 0 (.slice none 0 0)) := G1.out.below (Below.refl _ _).drew G1.out.lt
    have FO : Hid (Own w8.drew (b1 + 1) (.slice ra l.length rc) l) := FO.out.drew
    have FB : Hid (Below w.heap.size w w8.drew) := FB.out.drew
    obtain ⟨x0_0, x0_1, x0_2, x0_3, x0_4, x0_5, x0_6, x0_7, x0_8, x0_9, x0_10, x0_11⟩ := F0.out
    have mn := F1.out.c0
    have mv := F1.out.c1
    refine wp_region_held_drew (S := (fun w'' => w''.cell? ⟨b1, 0, none⟩ = some (.int .i64 h2.fl) ∧ w''.cell? ⟨b1, 1, none⟩ = some (.int .i64 h2.gp) ∧ w''.cell? ⟨b1, 2, none⟩ = some (.int .i64 h2.ln) ∧ w''.cell? ⟨b1, 3, none⟩ = some (.int .i64 h2.rf) ∧ w''.cell? ⟨b1, 4, none⟩ = some (.int .i64 h2.sp) ∧ w''.cell? ⟨b1, 5, none⟩ = some (.int .i64 h2.pu) ∧ w''.cell? ⟨b1, 6, none⟩ = some (.int .i64 h2.br) ∧ w''.cell? ⟨b1, 7, none⟩ = some (.int .i64 h2.dr) ∧ w''.cell? ⟨b1, 8, none⟩ = some (.int .i64 h2.lv) ∧ w''.cell? ⟨b1, 9, none⟩ = some (.int .i64 h2.dO) ∧ w''.cell? ⟨b1, 10, none⟩ = some (.int .i64 h2.ld) ∧ w''.cell? ⟨b1, 11, none⟩ = some (.int .i64 h2.qu) ∧ w''.cell? ⟨b2, 0, none⟩ = some (.int .i64 nx) ∧ w''.cell? ⟨b2, 1, none⟩ = some (.slice ra l.length rc))) (by kernel_rfl) (by (try dsimp only); first | exact ⟨x0_0, x0_1, x0_2, x0_3, x0_4, x0_5, x0_6, x0_7, x0_8, x0_9, x0_10, x0_11, mn, mv⟩ | go_keep) (fun hHeld => ?_)
    obtain ⟨v_4, hw1⟩ : ∃ v_4, v_4 = w8.drew := ⟨_, rfl⟩
    have F0 : Hid (HAt v_4 b1 h2) := by rw [hw1]; exact F0.out
    have F1 : Hid (LW v_4 b2 nx (.slice ra l.length rc)) := by rw [hw1]; exact F1.out
    have G0 : Hid (HW v_4 w.heap.size (⟨0, 0, 0, 0, 0, 0, 0, 0, 0, 0, 0, 0⟩ : Hs)) := by rw [hw1]; exact G0.out
    have G1 : Hid (LW v_4 (w.heap.size + 1) 0 (.slice none 0 0)) := by rw [hw1]; exact G1.out
    have FO : Hid (Own v_4 (b1 + 1) (.slice ra l.length rc) l) := by rw [hw1]; exact FO.out
    have FB : Hid (Below w.heap.size w v_4) := by rw [hw1]; exact FB.out
    rw [← hw1] at hHeld ⊢
    clear hw1
    obtain ⟨x0_0, x0_1, x0_2, x0_3, x0_4, x0_5, x0_6, x0_7, x0_8, x0_9, x0_10, x0_11⟩ := F0.out
    have mn := F1.out.c0
    have mv := F1.out.c1
    refine tkz 0 rfl ?_
    refine tkz 1 rfl ?_
    refine wpAnyH_ready (rs := [2]) (by kernel_rfl) (by simp) ?_
    refine (AllReadyH.cons rfl (fun K hK => ?_) AllReadyH.nil)
    obtain ⟨d0, d1, d2, d3, d4, d5, d6, d7, d8, d9, d10, d11, e0, e1, e2, e3, e4, e5, e6, e7, e8, e9, e10, e11⟩ := G0.out
    try dsimp only at d0 d1 d2 d3 d4 d5 d6 d7 d8 d9 d10 d11
    go_simp
    obtain ⟨v_5, hw2⟩ : ∃ v_5, v_5 = putH v_4 w.heap.size h2 := ⟨_, rfl⟩
    change K _ (putH v_4 w.heap.size h2)
    rw [← hw2]
    clear d0 e0 d1 e1 d2 e2 d3 e3 d4 e4 d5 e5 d6 e6 d7 e7 d8 e8 d9 e9 d10 e10 d11 e11
    have F0 : Hid (HAt v_5 b1 h2) := by rw [hw2]; exact F0.out.put_h (by omega) h2
    have F1 : Hid (LW v_5 b2 nx (.slice ra l.length rc)) := by rw [hw2]; exact F1.out.put_h (by omega) h2
    have G0 : Hid (HW v_5 w.heap.size h2) := by rw [hw2]; exact G0.out.put h2
    have G1 : Hid (LW v_5 (w.heap.size + 1) 0 (.slice none 0 0)) := by rw [hw2]; exact G1.out.put_h (by omega) h2
    have FO : Hid (Own v_5 (b1 + 1) (.slice ra l.length rc) l) := by rw [hw2]; exact FO.out.put_h (by omega) h2
    have FB : Hid (Below w.heap.size w v_5) := by rw [hw2]; exact below_putH FB.out (Nat.le_refl _) h2
    clear hw2
    obtain ⟨x0_0, x0_1, x0_2, x0_3, x0_4, x0_5, x0_6, x0_7, x0_8, x0_9, x0_10, x0_11⟩ := F0.out
    have mn := F1.out.c0
    have mv := F1.out.c1
    refine hK.out _ _ (by (try dsimp only); first | exact ⟨x0_0, x0_1, x0_2, x0_3, x0_4, x0_5, x0_6, x0_7, x0_8, x0_9, x0_10, x0_11, mn, mv⟩ | go_keep) (fun hHeld => ?_)
    clear hK K
    try simp only [Act.put, List.getElem_toArray, List.getElem_cons_succ, List.getElem_cons_zero, List.setIfInBounds_toArray, List.set_cons_zero, List.set_cons_succ]
    refine wpAnyH_ready (rs := [3]) (by kernel_rfl) (by simp) ?_
    refine (AllReadyH.cons rfl (fun K hK => ?_) AllReadyH.nil)
    obtain ⟨r0, r1, r2, r3⟩ := G1.out
    go_simp
    obtain ⟨v_6, hw2⟩ : ∃ v_6, v_6 = putL2 v_5 (w.heap.size + 1) nx (.slice ra l.length rc) := ⟨_, rfl⟩
    change K _ (putL2 v_5 (w.heap.size + 1) nx (.slice ra l.length rc))
    rw [← hw2]
    clear r0 r1 r2 r3
    have F0 : Hid (HAt v_6 b1 h2) := by rw [hw2]; exact F0.out.putL2_o (by omega) _ _
    have F1 : Hid (LW v_6 b2 nx (.slice ra l.length rc)) := by rw [hw2]; exact F1.out.putL2_o (by omega) _ _
    have G0 : Hid (HW v_6 w.heap.size h2) := by rw [hw2]; exact G0.out.below (below_putL2 (Below.refl (w.heap.size + 1) _) (Nat.le_refl _) _ _) (by omega)
    have G1 : Hid (LW v_6 (w.heap.size + 1) nx (.slice ra l.length rc)) := by rw [hw2]; exact G1.out.setL2 _ _
    have FO : Hid (Own v_6 (b1 + 1) (.slice ra l.length rc) l) := by rw [hw2]; exact FO.out.putL2_o (by omega) _ _
    have FB : Hid (Below w.heap.size w v_6) := by rw [hw2]; exact below_putL2 FB.out (by omega) _ _
    clear hw2
    obtain ⟨x0_0, x0_1, x0_2, x0_3, x0_4, x0_5, x0_6, x0_7, x0_8, x0_9, x0_10, x0_11⟩ := F0.out
    have mn := F1.out.c0
    have mv := F1.out.c1
    refine hK.out _ _ (by (try dsimp only); first | exact ⟨x0_0, x0_1, x0_2, x0_3, x0_4, x0_5, x0_6, x0_7, x0_8, x0_9, x0_10, x0_11, mn, mv⟩ | go_keep) (fun hHeld => ?_)
    clear hK K
    try simp only [Act.put, List.getElem_toArray, List.getElem_cons_succ, List.getElem_cons_zero, List.setIfInBounds_toArray, List.set_cons_zero, List.set_cons_succ]
    refine wpAnyH_done (by kernel_rfl) ?_ _
    obtain ⟨d0, d1, d2, d3, d4, d5, d6, d7, d8, d9, d10, d11, e0, e1, e2, e3, e4, e5, e6, e7, e8, e9, e10, e11⟩ := G0.out
    obtain ⟨k0, k1, k2, k3⟩ := G1.out
    go_wp2_with fail
    exact bodyPost_ret (v := .tuple #[.agg #[.int .i64 h2.fl, .int .i64 h2.gp, .int .i64 h2.ln, .int .i64 h2.rf, .int .i64 h2.sp, .int .i64 h2.pu, .int .i64 h2.br, .int .i64 h2.dr, .int .i64 h2.lv, .int .i64 h2.dO, .int .i64 h2.ld, .int .i64 h2.qu], .agg #[.int .i64 nx, .slice ra l.length rc]]) (by simp [results, Try.results31, go_sem, d0, d1, d2, d3, d4, d5, d6, d7, d8, d9, d10, d11, k0, k1]) rfl ⟨h2, nx, ra, rc, l, rfl, FO.out.base (by omega), hl60, FB.out⟩

theorem CodeIn.upR {w : World} {B C : Nat} {a : Option Addr} {len : Nat} (h : CodeIn w B a len) (hB : B ≤ C) : CodeIn w C a len := by
  obtain ⟨h1, h2⟩ := h
  refine ⟨h1, ?_⟩
  rcases h2 with h2 | ⟨b, off, h3, h4, h5⟩
  · exact Or.inl h2
  · exact Or.inr ⟨b, off, h3, Nat.lt_of_lt_of_le h4 hB, h5⟩
/-- A row of one's own that ends below a block. -/
structure OwT (W : World) (B C : Nat) (v : Value) (l : List Pe) : Prop where
  o : Own W B v l
  t : ∀ k, v.ownBlock = some k → k < C
theorem OwT.belowC {W w : World} {B C D : Nat} {v : Value} {l : List Pe} (h : OwT W B C v l) (hb : Below D W w) (hD : C ≤ D) : OwT w B C v l := ⟨h.o.below hb (fun k hk => Nat.lt_of_lt_of_le (h.t k hk) hD), h.t⟩
theorem OwT.below {W w : World} {B C : Nat} {v : Value} {l : List Pe} (h : OwT W B C v l) (hb : Below W.heap.size W w) : OwT w B C v l := ⟨h.o.below hb (fun k hk => (h.o.lt k hk).2), h.t⟩
theorem OwT.alloc {W : World} {B C : Nat} {v : Value} {l : List Pe} (h : OwT W B C v l) (ob : Obj) : OwT (W.alloc ob) B C v l := ⟨h.o.alloc _, h.t⟩
theorem OwT.drew {W : World} {B C : Nat} {v : Value} {l : List Pe} (h : OwT W B C v l) : OwT W.drew B C v l := h.below (Below.refl _ _).drew
theorem OwT.keeps {W w : World} {B C sb : Nat} {v : Value} {l : List Pe} (h : OwT W B C v l) (hk : Keeps sb W w) (hne : C ≤ sb) : OwT w B C v l := by
  refine ⟨⟨h.o.1, ?_⟩, h.t⟩
  rcases h.o.2 with hn | ⟨g, cap, cur, e, hB, hg, rest⟩
  · exact Or.inl hn
  · have hlt := h.t g (by rw [e]; rfl)
    exact Or.inr ⟨g, cap, cur, e, hB, (hk.block g (Array.getElem?_eq_some_iff.1 hg).1 (by omega)).trans hg, rest⟩
theorem und8 : Try.prog.underlying 22 = some (.slice 5) := by kernel_rfl
theorem info8 : (Try.prog.info? 5).map (fun i => (i.zero, i.size, i.bytes)) = some (some (.int .u8 0), 1, 1) := by kernel_rfl
theorem addr_add (b off i : Nat) : Addr.add ⟨b, off, none⟩ i = ⟨b, off + i, none⟩ := by unfold Addr.add; split <;> simp_all
theorem code_vals {w : World} {b off : Nat} (n : Nat) (h : ∀ i, i < n → ∃ z : Int, w.cell? ⟨b, off + i, none⟩ = some (.int .u8 z) ∧ 0 ≤ z ∧ z ≤ 255) :
    ∃ zs : List Int, zs.length = n ∧ (∀ z ∈ zs, 0 ≤ z ∧ z ≤ 255) ∧ ∀ (j : Nat) (u : Value), (zs.map (Value.int .u8))[j]? = some u → w.cell? (Addr.add ⟨b, off, none⟩ j) = some u := by
  induction n with
  | zero => exact ⟨[], rfl, by simp, by simp⟩
  | succ n ih =>
    obtain ⟨zs, hl, hz, hc⟩ := ih (fun i hi => h i (by omega))
    obtain ⟨z, hz1, hz2, hz3⟩ := h n (by omega)
    refine ⟨zs ++ [z], by simp [hl], ?_, fun j u hj => ?_⟩
    · intro y hy
      rcases List.mem_append.1 hy with hy | hy
      · exact hz y hy
      · rw [List.mem_singleton.1 hy]; exact ⟨hz2, hz3⟩
    · rw [List.map_append] at hj
      by_cases hjn : j < n
      · rw [List.getElem?_append_left (by simp [hl]; exact hjn)] at hj
        exact hc j u hj
      · rw [List.getElem?_append_right (by simp [hl]; omega)] at hj
        have h0 : j - (zs.map (Value.int .u8)).length = 0 := by
          have := (List.getElem?_eq_some_iff.1 hj).1
          simp at this ⊢; omega
        have hjn2 : j = n := by simp [hl] at h0; omega
        rw [h0] at hj
        subst hjn2
        have e : u = .int .u8 z := by simpa using hj.symm
        rw [e, addr_add]; exact hz1
theorem row3 (W : World) : (W.alloc (.cells #[.int .u8 3] 5)).ownsRow W.heap.size 5 1 (.slice (some ⟨W.heap.size, 0, none⟩) 1 1) 1 [.int .u8 3] :=
  ⟨rfl, .inr ⟨W.heap.size, 1, _, rfl, Nat.le_refl _, heap_alloc_new W _, Nat.le_refl _, by unfold maxLen; omega, rfl, rfl⟩⟩
theorem code_of_row {w : World} {B : Nat} {v : Value} {n : Nat} {zs : List Int} (h : w.ownsRow B 5 1 v n (zs.map (Value.int .u8))) (hz : ∀ z ∈ zs, 0 ≤ z ∧ z ≤ 255) (hn : n ≤ 2000000) (hn0 : 0 < n) :
    ∃ g cap, v = .slice (some ⟨g, 0, none⟩) n cap ∧ CodeIn w w.heap.size (some ⟨g, 0, none⟩) n := by
  rcases h.2 with ⟨_, h0⟩ | ⟨g, cap, cur, e, hB, hg, rest⟩
  · omega
  · subst e
    have lt := (h.lt g rfl).2
    have hl : zs.length = n := by have := h.1; simpa using this
    refine ⟨g, cap, rfl, hn, Or.inr ⟨g, 0, rfl, lt, fun i hi => ?_⟩⟩
    have hi2 : i < zs.length := by omega
    have hc := h.cells (g := g) rfl i (.int .u8 zs[i]) (by rw [List.getElem?_map, List.getElem?_eq_getElem hi2]; rfl)
    rw [addr_add] at hc
    exact ⟨zs[i], hc, hz _ (List.getElem_mem hi2)⟩
theorem wpList_append_code {ops : Array Oper} {rest : List Oper} {o : Oper} {act : Act} {Q : Exit → Act → World → Prop} (W : World) {B : Nat} {a : Option Addr} {len cap : Nat} (hc : CodeIn W B a len) (hl : len ≤ 1048576) (hz : a = none → len = 0 ∧ cap = 0) (hgd : o.guard = none) (s x : Operand)
    (ho : o.op = .call { callee := .builtin .append, args := #[s, x], argTypes := #[22, 22] })
    (hs : act.eval s = .slice (some ⟨W.heap.size, 0, none⟩) 1 1) (hx : act.eval x = .slice a len cap)
    (h : ∀ g cap' w', CodeIn w' w'.heap.size (some ⟨g, 0, none⟩) (1 + len) → Below W.heap.size W w' → wpList Try.prog ops Q rest (act.put o.dst (.slice (some ⟨g, 0, none⟩) (1 + len) cap')) w') :
    wpList Try.prog ops Q (o :: rest) act (W.alloc (.cells #[.int .u8 3] 5)) := by
  obtain ⟨i, hi, h0, h1, h2⟩ := info_parts info8
  have b0 : Below W.heap.size W (W.alloc (.cells #[.int .u8 3] 5)) := (Below.refl _ _).alloc (Nat.le_refl _) _
  have fin : ∀ (zs : List Int) (v' : Value) (w' : World), (∀ z ∈ zs, 0 ≤ z ∧ z ≤ 255) → w'.ownsRow W.heap.size 5 1 v' (1 + len) ((3 :: zs).map (Value.int .u8)) → Below W.heap.size W w' → wpList Try.prog ops Q rest (act.put o.dst v') w' := by
    intro zs v' w' hzs how hb
    obtain ⟨g, cap', e, hcode⟩ := code_of_row how (by intro z hz'; rcases List.mem_cons.1 hz' with e | e; (· rw [e]; omega); (· exact hzs z e)) (by omega) (by omega)
    subst e
    exact h g cap' w' hcode hb
  cases a with
  | none =>
    obtain ⟨e1, e2⟩ := hz rfl
    subst e1 e2
    exact wpList_append_own_none hgd s x 22 ho W.heap.size 5 i 1 und8 hi _ 1 [.int .u8 3] hs (row3 W) hx (fin [] _ _ (by simp) (row3 W) b0)
  | some ad =>
    obtain ⟨zs, hzl, hzb, hzc⟩ : ∃ zs : List Int, zs.length = len ∧ (∀ z ∈ zs, 0 ≤ z ∧ z ≤ 255) ∧ ∀ (j : Nat) (u : Value), (zs.map (Value.int .u8))[j]? = some u → W.cell? (ad.add j) = some u := by
      rcases hc.2 with e | ⟨b, off, e, hb, hall⟩
      · exact ⟨[], e.symm, by simp, by simp⟩
      · have e := Option.some.inj e
        subst e
        exact code_vals len hall
    refine wpList_append_own _ hgd s x 22 ho W.heap.size 5 i (.int .u8 0) 1 1 und8 hi h0 h1 h2 rfl (by omega) _ 1 [.int .u8 3] hs (row3 W) ad len cap (zs.map (Value.int .u8)) hx (by simp [hzl]) (fun j u hj => ?_) (by intro u hu; obtain ⟨z, _, rfl⟩ := List.mem_map.1 hu; rfl) (by unfold maxLen; omega) (by omega) (by simp) ?_
    · exact (b0.cell (World.block_lt_of_cell? W _ (hzc j u hj))).trans (hzc j u hj)
    · intro v' w' how hg _
      exact fin zs v' w' hzb how (b0.grown hg (by simp) (fun k hk => by have e : W.heap.size = k := Option.some.inj hk; omega))
set_option maxRecDepth 20000 in
set_option maxHeartbeats 16000000 in
theorem l7Who_any (a : Option Addr) (len cap : Nat) (w : World) (hc : CodeIn w w.heap.size a len) (hl : len ≤ 1048576) (hz : a = none → len = 0 ∧ cap = 0) :
    Calls Try.prog 13 #[.slice a len cap] w fun e w' => ∃ (h : Hs) (nx : Int) (ra : Option Addr) (rc : Nat) (l : List Pe) (x y z : Int), e = .returned (.tuple #[.agg #[.int .i64 h.fl, .int .i64 h.gp, .int .i64 h.ln, .int .i64 h.rf, .int .i64 h.sp, .int .i64 h.pu, .int .i64 h.br, .int .i64 h.dr, .int .i64 h.lv, .int .i64 h.dO, .int .i64 h.ld, .int .i64 h.qu], .agg #[.int .i64 nx, .slice ra l.length rc], .int .i64 x, .int .i64 y, .int .i64 z]) ∧ Own w' w.heap.size (.slice ra l.length rc) l ∧ l.length ≤ 60 ∧ Below w.heap.size w w' := by
  obtain ⟨W0, hW0⟩ : ∃ W0, W0 = ((w.alloc (.cells #[.int .i64 0, .int .i64 0, .int .i64 0, .int .i64 0, .int .i64 0, .int .i64 0, .int .i64 0, .int .i64 0, .int .i64 0, .int .i64 0, .int .i64 0, .int .i64 0] 25)).alloc (.cells #[.int .i64 0, .slice none 0 0] 28)) := ⟨_, rfl⟩
  have hsz : W0.heap.size = w.heap.size + 2 := by rw [hW0]; simp
  have HC : Hid (CodeIn W0 w.heap.size a len) := by rw [hW0]; exact hc.keep fun b off _ hb => (World.cell?_alloc_past _ _ _ (by simp; omega)).trans (World.cell?_alloc_past _ _ _ hb)
  have G0 : Hid (HW W0 w.heap.size (⟨0, 0, 0, 0, 0, 0, 0, 0, 0, 0, 0, 0⟩ : Hs)) := by rw [hW0]; exact (HW.new w (⟨0, 0, 0, 0, 0, 0, 0, 0, 0, 0, 0, 0⟩ : Hs) _).alloc _
  have G1 : Hid (LW W0 (w.heap.size + 1) 0 (.slice none 0 0)) := by rw [hW0]; exact LW.at_ _ 0 (.slice none 0 0) _ _ (by simp)
  have FB : Hid (Below w.heap.size w W0) := by rw [hW0]; exact ((Below.refl _ _).alloc (Nat.le_refl _) _).alloc (by simp) _
  have HW0 : Hid (W0 = ((w.alloc (.cells #[.int .i64 0, .int .i64 0, .int .i64 0, .int .i64 0, .int .i64 0, .int .i64 0, .int .i64 0, .int .i64 0, .int .i64 0, .int .i64 0, .int .i64 0, .int .i64 0] 25)).alloc (.cells #[.int .i64 0, .slice none 0 0] 28))) := hW0
  clear hW0 hc
  go_enter Try.func13, Try.ntmps13
  go_upto_region 1 with fail
  rw [← HW0.out]
  clear HW0
  go_upto_region 2 with (go_at_call 31; refine (l7One_any a len cap _ (HC.out.upR (by omega))).mono ?_; rintro e w1 ⟨h, nx, ra, rc, l, rfl, ho, hl60, hb⟩; have G0 : Hid (HW w1 w.heap.size (⟨0, 0, 0, 0, 0, 0, 0, 0, 0, 0, 0, 0⟩ : Hs)) := G0.out.below hb (by omega); have G1 : Hid (LW w1 (w.heap.size + 1) 0 (.slice none 0 0)) := G1.out.below hb (by omega); have HC : Hid (CodeIn w1 w.heap.size a len) := HC.out.keep fun b off hb1 _ => hb.cell (p := ⟨b, off, none⟩) (show b < W0.heap.size by omega); have FB : Hid (Below w.heap.size w w1) := FB.out.trans (hb.mono (by omega)); rw [hsz] at ho; have FO : Hid (Own w1 (w.heap.size + 2) (.slice ra l.length rc) l) := ho; have hs1 := hb.size; clear hb ho)
  obtain ⟨b1, hb1⟩ : ∃ b1, b1 = w1.heap.size := ⟨_, rfl⟩
  obtain ⟨b2, hb2⟩ : ∃ b2, b2 = w1.heap.size + 1 := ⟨_, rfl⟩
  obtain ⟨w3, hw3⟩ : ∃ w3, w3 = (w1.alloc (.cells #[.int .i64 h.fl, .int .i64 h.gp, .int .i64 h.ln, .int .i64 h.rf, .int .i64 h.sp, .int .i64 h.pu, .int .i64 h.br, .int .i64 h.dr, .int .i64 h.lv, .int .i64 h.dO, .int .i64 h.ld, .int .i64 h.qu] 25)).alloc (.cells #[.int .i64 nx, .slice ra l.length rc] 28) := ⟨_, rfl⟩
  have hs3 : b2 < w3.heap.size := by rw [hw3, hb2]; simp
  have hb12 : b1 < b2 := by omega
  have hb1w : w.heap.size + 2 ≤ b1 := by omega
  have G0 : Hid (HW w3 w.heap.size (⟨0, 0, 0, 0, 0, 0, 0, 0, 0, 0, 0, 0⟩ : Hs)) := by rw [hw3]; exact (G0.out.alloc _).alloc _
  have G1 : Hid (LW w3 (w.heap.size + 1) 0 (.slice none 0 0)) := by rw [hw3]; exact (G1.out.alloc _).alloc _
  have F0 : Hid (HW w3 b1 h) := by rw [hw3, hb1]; exact (HW.new w1 h _).alloc _
  have F1 : Hid (LW w3 b2 nx (.slice ra l.length rc)) := by rw [hw3]; exact LW.at_ _ nx _ _ _ (by simp [hb2])
  have FO : Hid (OwT w3 (w.heap.size + 2) b1 (.slice ra l.length rc) l) := by rw [hw3]; exact ((⟨FO.out, fun k hk => by rw [hb1]; exact (FO.out.lt k hk).2⟩ : OwT w1 (w.heap.size + 2) b1 (.slice ra l.length rc) l).alloc _).alloc _
  have HC : Hid (CodeIn w3 w.heap.size a len) := by rw [hw3]; exact HC.out.keep fun b off hb _ => (World.cell?_alloc_past _ _ _ (by simp; omega)).trans (World.cell?_alloc_past _ _ _ (by omega))
  have FB : Hid (Below w.heap.size w w3) := by rw [hw3]; exact (FB.out.alloc FB.out.size _).alloc (by simp; omega) _
  rw [← hw3, ← hb2, ← hb1]
  clear hw3 hb1 hb2 hs1 hsz
  go_upto_region 3 with (first | (at_builtin; go_loud (refine wpList_append_code w3 HC.out hl hz rfl _ _ rfl rfl rfl ?_; intro g1 c1 w4 hcode hb; obtain ⟨n1, hn1⟩ : ∃ n1, n1 = 1 + len := ⟨_, rfl⟩; rw [← hn1] at hcode; rw [← hn1]; clear hn1; obtain ⟨sb, hsb⟩ : ∃ sb, sb = w4.heap.size := ⟨_, rfl⟩; have hs4 : b2 < sb := (by have := hb.size; omega); have G0 : Hid (HW w4 w.heap.size (⟨0, 0, 0, 0, 0, 0, 0, 0, 0, 0, 0, 0⟩ : Hs)) := G0.out.below hb (by omega); have G1 : Hid (LW w4 (w.heap.size + 1) 0 (.slice none 0 0)) := G1.out.below hb (by omega); have F0 : Hid (HW w4 b1 h) := F0.out.below hb (by omega); have F1 : Hid (LW w4 b2 nx (.slice ra l.length rc)) := F1.out.below hb (by omega); have FO : Hid (OwT w4 (w.heap.size + 2) b1 (.slice ra l.length rc) l) := FO.out.below hb; have FK : Hid (Keeps sb w w4) := (Keeps.refl sb w).belowL (FB.out.trans (hb.mono FB.out.size)) (Nat.le_refl _); have HC1 : Hid (CodeIn w4 w4.heap.size (some ⟨g1, 0, none⟩) n1) := hcode; have HSB : Hid (sb = w4.heap.size) := hsb; clear hcode hb hsb)) | (go_at_call 32; refine (l1Source_t w4.heap.size (some ⟨g1, 0, none⟩) n1 c1 _ (Nat.le_refl _) HC1.out).mono ?_; rw [← HSB.out]; rintro e w5 ⟨rfl, hs, hk⟩; obtain ⟨B, hB⟩ : ∃ B, B = sb := ⟨_, rfl⟩; obtain ⟨a1, ha1⟩ : ∃ a1, a1 = some (⟨g1, 0, none⟩ : Addr) := ⟨_, rfl⟩; have hs : SrcT w5 sb B a1 n1 c1 0 := (by rw [hB, ha1]; exact hs); have G0 : Hid (HW w5 w.heap.size (⟨0, 0, 0, 0, 0, 0, 0, 0, 0, 0, 0, 0⟩ : Hs)) := G0.out.keeps hk (by omega); have G1 : Hid (LW w5 (w.heap.size + 1) 0 (.slice none 0 0)) := G1.out.keeps hk (by omega); have F0 : Hid (HW w5 b1 h) := F0.out.keeps hk (by omega); have F1 : Hid (LW w5 b2 nx (.slice ra l.length rc)) := F1.out.keeps hk (by omega); have FO : Hid (OwT w5 (w.heap.size + 2) b1 (.slice ra l.length rc) l) := FO.out.keeps hk (by omega); have FK : Hid (Keeps sb w w5) := FK.out.trans hk; have FS : Hid (SrcT w5 sb B a1 n1 c1 (0)) := hs; clear hs hk))
  clear HC HC1 HSB FB hs3 hz hl ha1
  go_upto_region 4 with (go_at_call 33; refine (l1Pick_at_t sb B 2 [0, 1, 0, 1, -1, 3] a1 n1 c1 (0) w5 _ rfl FS.out (by omega) (by simp) (by simp)).mono ?_; rintro e w6 ⟨v3, rfl, hs, hk⟩; have G0 : Hid (HW w6 w.heap.size (⟨0, 0, 0, 0, 0, 0, 0, 0, 0, 0, 0, 0⟩ : Hs)) := G0.out.keeps hk (by omega); have G1 : Hid (LW w6 (w.heap.size + 1) 0 (.slice none 0 0)) := G1.out.keeps hk (by omega); have F0 : Hid (HW w6 b1 h) := F0.out.keeps hk (by omega); have F1 : Hid (LW w6 b2 nx (.slice ra l.length rc)) := F1.out.keeps hk (by omega); have FO : Hid (OwT w6 (w.heap.size + 2) b1 (.slice ra l.length rc) l) := FO.out.keeps hk (by omega); have FK : Hid (Keeps sb w w6) := FK.out.trans hk; have FS : Hid (SrcT w6 sb B a1 n1 c1 (0 + 1)) := hs; clear hs hk)
  go_upto_region 5 with (go_at_call 33; refine (l1Pick_at_t sb B 2 [0, 1, 0, 1, 0, 1, -1, 2] a1 n1 c1 (0 + 1) w6 _ rfl FS.out (by omega) (by simp) (by simp)).mono ?_; rintro e w7 ⟨v4, rfl, hs, hk⟩; have G0 : Hid (HW w7 w.heap.size (⟨0, 0, 0, 0, 0, 0, 0, 0, 0, 0, 0, 0⟩ : Hs)) := G0.out.keeps hk (by omega); have G1 : Hid (LW w7 (w.heap.size + 1) 0 (.slice none 0 0)) := G1.out.keeps hk (by omega); have F0 : Hid (HW w7 b1 h) := F0.out.keeps hk (by omega); have F1 : Hid (LW w7 b2 nx (.slice ra l.length rc)) := F1.out.keeps hk (by omega); have FO : Hid (OwT w7 (w.heap.size + 2) b1 (.slice ra l.length rc) l) := FO.out.keeps hk (by omega); have FK : Hid (Keeps sb w w7) := FK.out.trans hk; have FS : Hid (SrcT w7 sb B a1 n1 c1 (0 + 1 + 1)) := hs; clear hs hk)
  obtain ⟨x0, x1, x2, x3, x4, x5, x6, x7, x8, x9, x10, x11, y0, y1, y2, y3, y4, y5, y6, y7, y8, y9, y10, y11⟩ := F0.out
  go_upto_region 6 with (go_at_call 33; refine (l1Pick_at_t sb B 2 [0, 1, 0, 1, -1, h.fl] a1 n1 c1 (0 + 1 + 1) w7 _ rfl FS.out (by omega) (by simp) (by simp)).mono ?_; rintro e w8 ⟨v5, rfl, hs, hk⟩; have G0 : Hid (HW w8 w.heap.size (⟨0, 0, 0, 0, 0, 0, 0, 0, 0, 0, 0, 0⟩ : Hs)) := G0.out.keeps hk (by omega); have G1 : Hid (LW w8 (w.heap.size + 1) 0 (.slice none 0 0)) := G1.out.keeps hk (by omega); have F0 : Hid (HW w8 b1 h) := F0.out.keeps hk (by omega); have F1 : Hid (LW w8 b2 nx (.slice ra l.length rc)) := F1.out.keeps hk (by omega); have FO : Hid (OwT w8 (w.heap.size + 2) b1 (.slice ra l.length rc) l) := FO.out.keeps hk (by omega); have FK : Hid (Keeps sb w w8) := FK.out.trans hk; have FS : Hid (SrcT w8 sb B a1 n1 c1 (0 + 1 + 1 + 1)) := hs; clear hs hk)
  clear x0 x1 x2 x3 x4 x5 x6 x7 x8 x9 x10 x11 y0 y1 y2 y3 y4 y5 y6 y7 y8 y9 y10 y11
  by_cases hl0 : l.length = 0
  · obtain rfl := List.eq_nil_of_length_eq_zero hl0
    clear hl0
    have F1 : Hid (LW w8 b2 nx (.slice ra 0 rc)) := F1.out
    have FO : Hid (OwT w8 (w.heap.size + 2) b1 (.slice ra 0 rc) []) := FO.out
    obtain ⟨u0, u1, u2, u3⟩ := F1.out
    go_upto_region 11 with fail
    clear u0 u1 u2 u3
    have FB : Hid (Below w.heap.size w w8) := FK.out.below (by omega) (Nat.le_refl _)
    have F0 : Hid (HAt w8 b1 h) := F0.out.hat
    have FO : Hid (Own w8 (w.heap.size + 2) (.slice ra 0 rc) ([] : List Pe)) := FO.out.o
    have F0 : Hid (HAt w8.drew b1 h) := F0.out.below (Below.refl _ _).drew F0.out.lt
    have F1 : Hid (LW w8.drew b2 nx (.slice ra 0 rc)) := F1.out.below (Below.refl _ _).drew F1.out.lt
    have G0 : Hid (HW w8.drew w.heap.size (⟨0, 0, 0, 0, 0, 0, 0, 0, 0, 0, 0, 0⟩ : Hs)) := G0.out.below (Below.refl _ _).drew G0.out.lt
    have G1 : Hid (LW w8.drew (w.heap.size + 1) 0 (.slice none 0 0)) := G1.out.below (Below.refl _ _).drew G1.out.lt
    have FO : Hid (Own w8.drew (w.heap.size + 2) (.slice ra 0 rc) ([] : List Pe)) := FO.out.drew
    have FB : Hid (Below w.heap.size w w8.drew) := FB.out.drew
    obtain ⟨x0_0, x0_1, x0_2, x0_3, x0_4, x0_5, x0_6, x0_7, x0_8, x0_9, x0_10, x0_11⟩ := F0.out
    have mn := F1.out.c0
    have mv := F1.out.c1
    refine wp_region_held_drew (S := (fun w'' => w''.cell? ⟨b1, 0, none⟩ = some (.int .i64 h.fl) ∧ w''.cell? ⟨b1, 1, none⟩ = some (.int .i64 h.gp) ∧ w''.cell? ⟨b1, 2, none⟩ = some (.int .i64 h.ln) ∧ w''.cell? ⟨b1, 3, none⟩ = some (.int .i64 h.rf) ∧ w''.cell? ⟨b1, 4, none⟩ = some (.int .i64 h.sp) ∧ w''.cell? ⟨b1, 5, none⟩ = some (.int .i64 h.pu) ∧ w''.cell? ⟨b1, 6, none⟩ = some (.int .i64 h.br) ∧ w''.cell? ⟨b1, 7, none⟩ = some (.int .i64 h.dr) ∧ w''.cell? ⟨b1, 8, none⟩ = some (.int .i64 h.lv) ∧ w''.cell? ⟨b1, 9, none⟩ = some (.int .i64 h.dO) ∧ w''.cell? ⟨b1, 10, none⟩ = some (.int .i64 h.ld) ∧ w''.cell? ⟨b1, 11, none⟩ = some (.int .i64 h.qu) ∧ w''.cell? ⟨b2, 0, none⟩ = some (.int .i64 nx) ∧ w''.cell? ⟨b2, 1, none⟩ = some (.slice ra 0 rc))) (by kernel_rfl) (by (try dsimp only); first | exact ⟨x0_0, x0_1, x0_2, x0_3, x0_4, x0_5, x0_6, x0_7, x0_8, x0_9, x0_10, x0_11, mn, mv⟩ | go_keep) (fun hHeld => ?_)
    obtain ⟨v_7, hw1⟩ : ∃ v_7, v_7 = w8.drew := ⟨_, rfl⟩
    have F0 : Hid (HAt v_7 b1 h) := by rw [hw1]; exact F0.out
    have F1 : Hid (LW v_7 b2 nx (.slice ra 0 rc)) := by rw [hw1]; exact F1.out
    have G0 : Hid (HW v_7 w.heap.size (⟨0, 0, 0, 0, 0, 0, 0, 0, 0, 0, 0, 0⟩ : Hs)) := by rw [hw1]; exact G0.out
    have G1 : Hid (LW v_7 (w.heap.size + 1) 0 (.slice none 0 0)) := by rw [hw1]; exact G1.out
    have FO : Hid (Own v_7 (w.heap.size + 2) (.slice ra 0 rc) ([] : List Pe)) := by rw [hw1]; exact FO.out
    have FB : Hid (Below w.heap.size w v_7) := by rw [hw1]; exact FB.out
    rw [← hw1] at hHeld ⊢
    clear hw1
    obtain ⟨x0_0, x0_1, x0_2, x0_3, x0_4, x0_5, x0_6, x0_7, x0_8, x0_9, x0_10, x0_11⟩ := F0.out
    have mn := F1.out.c0
    have mv := F1.out.c1
    refine tkz 0 rfl ?_
    refine tkz 1 rfl ?_
    refine tkz 2 rfl ?_
    refine tkz 3 rfl ?_
    refine tkz 4 rfl ?_
    refine wpAnyH_ready (rs := [5]) (by kernel_rfl) (by simp) ?_
    refine (AllReadyH.cons rfl (fun K hK => ?_) AllReadyH.nil)
    obtain ⟨d0, d1, d2, d3, d4, d5, d6, d7, d8, d9, d10, d11, e0, e1, e2, e3, e4, e5, e6, e7, e8, e9, e10, e11⟩ := G0.out
    try dsimp only at d0 d1 d2 d3 d4 d5 d6 d7 d8 d9 d10 d11
    go_simp
    obtain ⟨v_8, hw2⟩ : ∃ v_8, v_8 = putH v_7 w.heap.size h := ⟨_, rfl⟩
    change K _ (putH v_7 w.heap.size h)
    rw [← hw2]
    clear d0 e0 d1 e1 d2 e2 d3 e3 d4 e4 d5 e5 d6 e6 d7 e7 d8 e8 d9 e9 d10 e10 d11 e11
    have F0 : Hid (HAt v_8 b1 h) := by rw [hw2]; exact F0.out.put_h (by omega) h
    have F1 : Hid (LW v_8 b2 nx (.slice ra 0 rc)) := by rw [hw2]; exact F1.out.put_h (by omega) h
    have G0 : Hid (HW v_8 w.heap.size h) := by rw [hw2]; exact G0.out.put h
    have G1 : Hid (LW v_8 (w.heap.size + 1) 0 (.slice none 0 0)) := by rw [hw2]; exact G1.out.put_h (by omega) h
    have FO : Hid (Own v_8 (w.heap.size + 2) (.slice ra 0 rc) ([] : List Pe)) := by rw [hw2]; exact FO.out.put_h (by omega) h
    have FB : Hid (Below w.heap.size w v_8) := by rw [hw2]; exact below_putH FB.out (Nat.le_refl _) h
    clear hw2
    obtain ⟨x0_0, x0_1, x0_2, x0_3, x0_4, x0_5, x0_6, x0_7, x0_8, x0_9, x0_10, x0_11⟩ := F0.out
    have mn := F1.out.c0
    have mv := F1.out.c1
    refine hK.out _ _ (by (try dsimp only); first | exact ⟨x0_0, x0_1, x0_2, x0_3, x0_4, x0_5, x0_6, x0_7, x0_8, x0_9, x0_10, x0_11, mn, mv⟩ | go_keep) (fun hHeld => ?_)
    clear hK K
    try simp only [Act.put, List.getElem_toArray, List.getElem_cons_succ, List.getElem_cons_zero, List.setIfInBounds_toArray, List.set_cons_zero, List.set_cons_succ]
    refine wpAnyH_ready (rs := [6]) (by kernel_rfl) (by simp) ?_
    refine (AllReadyH.cons rfl (fun K hK => ?_) AllReadyH.nil)
    obtain ⟨r0, r1, r2, r3⟩ := G1.out
    go_simp
    obtain ⟨v_9, hw2⟩ : ∃ v_9, v_9 = putL2 v_8 (w.heap.size + 1) nx (.slice ra 0 rc) := ⟨_, rfl⟩
    change K _ (putL2 v_8 (w.heap.size + 1) nx (.slice ra 0 rc))
    rw [← hw2]
    clear r0 r1 r2 r3
    have F0 : Hid (HAt v_9 b1 h) := by rw [hw2]; exact F0.out.putL2_o (by omega) _ _
    have F1 : Hid (LW v_9 b2 nx (.slice ra 0 rc)) := by rw [hw2]; exact F1.out.putL2_o (by omega) _ _
    have G0 : Hid (HW v_9 w.heap.size h) := by rw [hw2]; exact G0.out.below (below_putL2 (Below.refl (w.heap.size + 1) _) (Nat.le_refl _) _ _) (by omega)
    have G1 : Hid (LW v_9 (w.heap.size + 1) nx (.slice ra 0 rc)) := by rw [hw2]; exact G1.out.setL2 _ _
    have FO : Hid (Own v_9 (w.heap.size + 2) (.slice ra 0 rc) ([] : List Pe)) := by rw [hw2]; exact FO.out.putL2_o (by omega) _ _
    have FB : Hid (Below w.heap.size w v_9) := by rw [hw2]; exact below_putL2 FB.out (by omega) _ _
    clear hw2
    obtain ⟨x0_0, x0_1, x0_2, x0_3, x0_4, x0_5, x0_6, x0_7, x0_8, x0_9, x0_10, x0_11⟩ := F0.out
    have mn := F1.out.c0
    have mv := F1.out.c1
    refine hK.out _ _ (by (try dsimp only); first | exact ⟨x0_0, x0_1, x0_2, x0_3, x0_4, x0_5, x0_6, x0_7, x0_8, x0_9, x0_10, x0_11, mn, mv⟩ | go_keep) (fun hHeld => ?_)
    clear hK K
    try simp only [Act.put, List.getElem_toArray, List.getElem_cons_succ, List.getElem_cons_zero, List.setIfInBounds_toArray, List.set_cons_zero, List.set_cons_succ]
    refine tkz 7 rfl ?_
    refine tkz 8 rfl ?_
    refine tkz 9 rfl ?_
    refine wpAnyH_done (by kernel_rfl) ?_ _
    obtain ⟨d0, d1, d2, d3, d4, d5, d6, d7, d8, d9, d10, d11, e0, e1, e2, e3, e4, e5, e6, e7, e8, e9, e10, e11⟩ := G0.out
    obtain ⟨k0, k1, k2, k3⟩ := G1.out
    go_wp2_with fail
    exact bodyPost_ret (v := .tuple #[.agg #[.int .i64 h.fl, .int .i64 h.gp, .int .i64 h.ln, .int .i64 h.rf, .int .i64 h.sp, .int .i64 h.pu, .int .i64 h.br, .int .i64 h.dr, .int .i64 h.lv, .int .i64 h.dO, .int .i64 h.ld, .int .i64 h.qu], .agg #[.int .i64 nx, .slice ra 0 rc], .int .i64 v3, .int .i64 v4, .int .i64 v5]) (by simp [results, Try.results13, go_sem, d0, d1, d2, d3, d4, d5, d6, d7, d8, d9, d10, d11, k0, k1]) rfl ⟨h, nx, ra, rc, ([] : List Pe), v3, v4, v5, rfl, FO.out.base (by omega), hl60, FB.out⟩
  obtain ⟨g0, c0, hv0, hg0, -, -⟩ := FO.out.o.cases.resolve_left (fun e => hl0 (by rw [e.2]; rfl))
  obtain ⟨rfl, rfl⟩ : ra = some ⟨g0, 0, none⟩ ∧ rc = c0 := by injection hv0 with q1 q2 q3; exact ⟨q1, q3⟩
  clear hv0
  have bl : decide ((0 : Int) < (l.length : Int)) = true := decide_eq_true (by omega)
  have hlp : 1 ≤ l.length := by omega
  have hlq : 0 < l.length := by omega
  have hne : ¬ l = [] := fun e => hl0 (by rw [e]; rfl)
  clear hl0
  obtain ⟨u0, u1, u2, u3⟩ := F1.out
  go_upto_if 42 with (go_at_call 34; refine (l1Chance_t sb B a1 n1 c1 (0 + 1 + 1 + 1) 4 _ FS.out (by omega) (by omega) (by omega)).mono ?_; rintro e w9 ⟨ch, rfl, hs, hk⟩; have G0 : Hid (HW w9 w.heap.size (⟨0, 0, 0, 0, 0, 0, 0, 0, 0, 0, 0, 0⟩ : Hs)) := G0.out.keeps hk (by omega); have G1 : Hid (LW w9 (w.heap.size + 1) 0 (.slice none 0 0)) := G1.out.keeps hk (by omega); have F0 : Hid (HW w9 b1 h) := F0.out.keeps hk (by omega); have F1 : Hid (LW w9 b2 nx (.slice (some ⟨g0, 0, none⟩) l.length rc)) := F1.out.keeps hk (by omega); have FO : Hid (OwT w9 (w.heap.size + 2) b1 (.slice (some ⟨g0, 0, none⟩) l.length rc) l) := FO.out.keeps hk (by omega); have FK : Hid (Keeps sb w w9) := FK.out.trans hk; have FS : Hid (SrcT w9 sb B a1 n1 c1 (0 + 1 + 1 + 1 + 1)) := hs; clear hs hk)
  clear u0 u1 u2 u3
  cases ch
  · go_upto_region 7 with fail
    go_cut [13] (fun t wx => ∃ pb p, t = .pointer (some ⟨pb, 0, none⟩) ∧ P7 wx pb 0 p ∧ sb < pb ∧ HW wx w.heap.size (⟨0, 0, 0, 0, 0, 0, 0, 0, 0, 0, 0, 0⟩ : Hs) ∧ LW wx (w.heap.size + 1) 0 (.slice none 0 0) ∧ HW wx b1 h ∧ LW wx b2 nx (.slice (some ⟨g0, 0, none⟩) l.length rc) ∧ OwT wx (w.heap.size + 2) b1 (.slice (some ⟨g0, 0, none⟩) l.length rc) l ∧ SrcT wx sb B a1 n1 c1 (0 + 1 + 1 + 1 + 1 + 1) ∧ Keeps sb w wx)
    case first =>
      have G0 : Hid (HW w9.drew w.heap.size (⟨0, 0, 0, 0, 0, 0, 0, 0, 0, 0, 0, 0⟩ : Hs)) := G0.out.below (Below.refl _ _).drew G0.out.lt
      have G1 : Hid (LW w9.drew (w.heap.size + 1) 0 (.slice none 0 0)) := G1.out.below (Below.refl _ _).drew G1.out.lt
      have F0 : Hid (HW w9.drew b1 h) := F0.out.below (Below.refl _ _).drew F0.out.lt
      have F1 : Hid (LW w9.drew b2 nx (.slice (some ⟨g0, 0, none⟩) l.length rc)) := F1.out.below (Below.refl _ _).drew F1.out.lt
      have FO : Hid (OwT w9.drew (w.heap.size + 2) b1 (.slice (some ⟨g0, 0, none⟩) l.length rc) l) := FO.out.drew
      have FS : Hid (SrcT w9.drew sb B a1 n1 c1 (0 + 1 + 1 + 1 + 1)) := FS.out.drew
      have FK : Hid (Keeps sb w w9.drew) := FK.out.of_below (Below.refl _ _).drew
      have mv := F1.out.c1
      refine wp_region_held_drew (S := (fun w'' => w''.cell? ⟨b2, 1, none⟩ = some (.slice (some ⟨g0, 0, none⟩) l.length rc))) (by kernel_rfl) (by (try dsimp only); first | exact mv | go_keep) (fun hHeld => ?_)
      obtain ⟨v_10, hw1⟩ : ∃ v_10, v_10 = w9.drew := ⟨_, rfl⟩
      have G0 : Hid (HW v_10 w.heap.size (⟨0, 0, 0, 0, 0, 0, 0, 0, 0, 0, 0, 0⟩ : Hs)) := by rw [hw1]; exact G0.out
      have G1 : Hid (LW v_10 (w.heap.size + 1) 0 (.slice none 0 0)) := by rw [hw1]; exact G1.out
      have F0 : Hid (HW v_10 b1 h) := by rw [hw1]; exact F0.out
      have F1 : Hid (LW v_10 b2 nx (.slice (some ⟨g0, 0, none⟩) l.length rc)) := by rw [hw1]; exact F1.out
      have FO : Hid (OwT v_10 (w.heap.size + 2) b1 (.slice (some ⟨g0, 0, none⟩) l.length rc) l) := by rw [hw1]; exact FO.out
      have FS : Hid (SrcT v_10 sb B a1 n1 c1 (0 + 1 + 1 + 1 + 1)) := by rw [hw1]; exact FS.out
      have FK : Hid (Keeps sb w v_10) := by rw [hw1]; exact FK.out
      rw [← hw1] at hHeld ⊢
      clear hw1
      have mv := F1.out.c1
      refine tkz 0 rfl ?_
      refine tkz 1 rfl ?_
      refine tkz 2 rfl ?_
      refine tkz 3 rfl ?_
      refine tkz 4 rfl ?_
      refine wpAnyH_ready (rs := [5, 9]) (by kernel_rfl) (by simp) ?_
      refine (AllReadyH.cons rfl (fun K hK => ?_) (AllReadyH.cons rfl (fun K hK => ?_) AllReadyH.nil))
      · go_simp
        refine hK.out _ _ (by (try dsimp only); first | exact mv | go_keep) (fun hHeld => ?_)
        clear hK K
        try simp only [Act.put, List.getElem_toArray, List.getElem_cons_succ, List.getElem_cons_zero, List.setIfInBounds_toArray, List.set_cons_zero, List.set_cons_succ]
        refine wpAnyH_ready (rs := [6, 9]) (by kernel_rfl) (by simp) ?_
        refine (AllReadyH.cons rfl (fun K hK => ?_) (AllReadyH.cons rfl (fun K hK => ?_) AllReadyH.nil))
        · go_simp
          refine (l1Next_t sb B a1 n1 c1 _ (l.length : Int) _ FS.out (by omega) (by omega) (by omega)).mono ?_
          rintro e v_11 ⟨ix, rfl, hix, hs, hk⟩
          have G0 : Hid (HW v_11 w.heap.size (⟨0, 0, 0, 0, 0, 0, 0, 0, 0, 0, 0, 0⟩ : Hs)) := G0.out.keeps hk (by omega)
          have G1 : Hid (LW v_11 (w.heap.size + 1) 0 (.slice none 0 0)) := G1.out.keeps hk (by omega)
          have F0 : Hid (HW v_11 b1 h) := F0.out.keeps hk (by omega)
          have F1 : Hid (LW v_11 b2 nx (.slice (some ⟨g0, 0, none⟩) l.length rc)) := F1.out.keeps hk (by omega)
          have FO : Hid (OwT v_11 (w.heap.size + 2) b1 (.slice (some ⟨g0, 0, none⟩) l.length rc) l) := FO.out.keeps hk (by omega)
          have FS : Hid (SrcT v_11 sb B a1 n1 c1 ((0 + 1 + 1 + 1 + 1) + 1)) := hs
          have FK : Hid (Keeps sb w v_11) := FK.out.trans hk
          clear hs hk
          have mv := F1.out.c1
          try dsimp only
          refine hK.out _ _ (by (try dsimp only); first | exact mv | go_keep) (fun hHeld => ?_)
          clear hK K
          try simp only [Act.put, List.getElem_toArray, List.getElem_cons_succ, List.getElem_cons_zero, List.setIfInBounds_toArray, List.set_cons_zero, List.set_cons_succ]
          refine tkz 7 rfl ?_
          refine wpAnyH_ready (rs := [8, 9]) (by kernel_rfl) (by simp) ?_
          refine (AllReadyH.cons rfl (fun K hK => ?_) (AllReadyH.cons rfl (fun K hK => ?_) AllReadyH.nil))
          · obtain ⟨p, hp⟩ : ∃ p, l[ix]? = some p := ⟨_, List.getElem?_eq_getElem (by omega)⟩
            obtain ⟨d0, d1, d2, d3, d4, d5, d6⟩ := FO.out.o.ow.p7 hp
            go_simp
            refine hK.out _ _ (by (try dsimp only); first | exact mv | go_keep) (fun hHeld => ?_)
            clear hK K
            try simp only [Act.put, List.getElem_toArray, List.getElem_cons_succ, List.getElem_cons_zero, List.setIfInBounds_toArray, List.set_cons_zero, List.set_cons_succ]
            refine wpAnyH_ready (rs := [9]) (by kernel_rfl) (by simp) ?_
            refine (AllReadyH.cons rfl (fun K hK => ?_) AllReadyH.nil)
            go_simp
            obtain ⟨pb, hbb⟩ : ∃ pb, pb = v_11.heap.size := ⟨_, rfl⟩
            obtain ⟨v_12, hw2⟩ : ∃ v_12, v_12 = v_11.alloc (.cells #[.int .i64 0, .int .i64 0, .int .i64 0, .int .i64 0, .int .i64 0, .int .i64 0, .int .i64 0] 42) := ⟨_, rfl⟩
            have npb_0 := G0.out.lt
            rw [← hbb] at npb_0
            have npb_1 := G1.out.lt
            rw [← hbb] at npb_1
            have npb_2 := F0.out.lt
            rw [← hbb] at npb_2
            have npb_3 := F1.out.lt
            rw [← hbb] at npb_3
            have npb_s := FS.out.lt
            rw [← hbb] at npb_s
            have FZ : Hid (PWz v_12 pb) := by rw [hw2]; exact PWz.at_ v_11 pb hbb
            have G0 : Hid (HW v_12 w.heap.size (⟨0, 0, 0, 0, 0, 0, 0, 0, 0, 0, 0, 0⟩ : Hs)) := by rw [hw2]; exact G0.out.alloc _
            have G1 : Hid (LW v_12 (w.heap.size + 1) 0 (.slice none 0 0)) := by rw [hw2]; exact G1.out.alloc _
            have F0 : Hid (HW v_12 b1 h) := by rw [hw2]; exact F0.out.alloc _
            have F1 : Hid (LW v_12 b2 nx (.slice (some ⟨g0, 0, none⟩) l.length rc)) := by rw [hw2]; exact F1.out.alloc _
            have FO : Hid (OwT v_12 (w.heap.size + 2) b1 (.slice (some ⟨g0, 0, none⟩) l.length rc) l) := by rw [hw2]; exact FO.out.alloc _
            have FS : Hid (SrcT v_12 sb B a1 n1 c1 ((0 + 1 + 1 + 1 + 1) + 1)) := by rw [hw2]; exact FS.out.alloc _
            have FK : Hid (Keeps sb w v_12) := by rw [hw2]; exact FK.out.alloc _
            rw [← hw2, ← hbb]
            clear hbb hw2
            have mv := F1.out.c1
            refine hK.out _ _ (by (try dsimp only); first | exact mv | go_keep) (fun hHeld => ?_)
            clear hK K
            try simp only [Act.put, List.getElem_toArray, List.getElem_cons_succ, List.getElem_cons_zero, List.setIfInBounds_toArray, List.set_cons_zero, List.set_cons_succ]
            refine wpAnyH_ready (rs := [10]) (by kernel_rfl) (by simp) ?_
            refine (AllReadyH.cons rfl (fun K hK => ?_) AllReadyH.nil)
            obtain ⟨z0, z1, z2, z3, z4, z5, z6, z7, z8, z9, za, zb, zc, zd⟩ := FZ.out
            go_simp
            obtain ⟨v_13, hw2⟩ : ∃ v_13, v_13 = putP v_12 pb 0 p := ⟨_, rfl⟩
            change K _ (putP v_12 pb 0 p)
            rw [← hw2]
            clear z0 z1 z2 z3 z4 z5 z6 z7 z8 z9 za zb zc zd
            have G0 : Hid (HW v_13 w.heap.size (⟨0, 0, 0, 0, 0, 0, 0, 0, 0, 0, 0, 0⟩ : Hs)) := by rw [hw2]; exact G0.out.below (below_putP (Below.refl (w.heap.size + 1) _) (by omega) _ _) (by omega)
            have G1 : Hid (LW v_13 (w.heap.size + 1) 0 (.slice none 0 0)) := by rw [hw2]; exact G1.out.below (below_putP (Below.refl (w.heap.size + 2) _) (by omega) _ _) (by omega)
            have F0 : Hid (HW v_13 b1 h) := by rw [hw2]; exact F0.out.below (below_putP (Below.refl (b1 + 1) _) (by omega) _ _) (by omega)
            have F1 : Hid (LW v_13 b2 nx (.slice (some ⟨g0, 0, none⟩) l.length rc)) := by rw [hw2]; exact F1.out.below (below_putP (Below.refl (b2 + 1) _) (by omega) _ _) (by omega)
            have FO : Hid (OwT v_13 (w.heap.size + 2) b1 (.slice (some ⟨g0, 0, none⟩) l.length rc) l) := by rw [hw2]; exact FO.out.belowC (below_putP (Below.refl b1 _) (by omega) _ _) (Nat.le_refl _)
            have FS : Hid (SrcT v_13 sb B a1 n1 c1 ((0 + 1 + 1 + 1 + 1) + 1)) := by rw [hw2]; exact FS.out.belowL (below_putP (Below.refl (sb + 1) _) (by omega) _ _) (by omega)
            have FK : Hid (Keeps sb w v_13) := by rw [hw2]; exact FK.out.belowL (below_putP (Below.refl w.heap.size _) (by omega) _ _) (Nat.le_refl _)
            have FZ : Hid (P7 v_13 pb 0 p) := by rw [hw2]; exact FZ.out.put p
            clear hw2
            have mv := F1.out.c1
            refine hK.out _ _ (by (try dsimp only); first | exact mv | go_keep) (fun hHeld => ?_)
            clear hK K
            try simp only [Act.put, List.getElem_toArray, List.getElem_cons_succ, List.getElem_cons_zero, List.setIfInBounds_toArray, List.set_cons_zero, List.set_cons_succ]
            refine wpAnyH_done (by kernel_rfl) ?_ _
            go_wp2_with fail
            go_meet
            case rel => exact ⟨pb, p, rfl, FZ.out, by omega, G0.out, G1.out, F0.out, F1.out, FO.out, FS.out, FK.out⟩
          · go_simp
            obtain ⟨pb, hbb⟩ : ∃ pb, pb = v_11.heap.size := ⟨_, rfl⟩
            obtain ⟨v_14, hw2⟩ : ∃ v_14, v_14 = v_11.alloc (.cells #[.int .i64 0, .int .i64 0, .int .i64 0, .int .i64 0, .int .i64 0, .int .i64 0, .int .i64 0] 42) := ⟨_, rfl⟩
            have npb_0 := G0.out.lt
            rw [← hbb] at npb_0
            have npb_1 := G1.out.lt
            rw [← hbb] at npb_1
            have npb_2 := F0.out.lt
            rw [← hbb] at npb_2
            have npb_3 := F1.out.lt
            rw [← hbb] at npb_3
            have npb_s := FS.out.lt
            rw [← hbb] at npb_s
            have FZ : Hid (PWz v_14 pb) := by rw [hw2]; exact PWz.at_ v_11 pb hbb
            have G0 : Hid (HW v_14 w.heap.size (⟨0, 0, 0, 0, 0, 0, 0, 0, 0, 0, 0, 0⟩ : Hs)) := by rw [hw2]; exact G0.out.alloc _
            have G1 : Hid (LW v_14 (w.heap.size + 1) 0 (.slice none 0 0)) := by rw [hw2]; exact G1.out.alloc _
            have F0 : Hid (HW v_14 b1 h) := by rw [hw2]; exact F0.out.alloc _
            have F1 : Hid (LW v_14 b2 nx (.slice (some ⟨g0, 0, none⟩) l.length rc)) := by rw [hw2]; exact F1.out.alloc _
            have FO : Hid (OwT v_14 (w.heap.size + 2) b1 (.slice (some ⟨g0, 0, none⟩) l.length rc) l) := by rw [hw2]; exact FO.out.alloc _
            have FS : Hid (SrcT v_14 sb B a1 n1 c1 ((0 + 1 + 1 + 1 + 1) + 1)) := by rw [hw2]; exact FS.out.alloc _
            have FK : Hid (Keeps sb w v_14) := by rw [hw2]; exact FK.out.alloc _
            rw [← hw2, ← hbb]
            clear hbb hw2
            have mv := F1.out.c1
            refine hK.out _ _ (by (try dsimp only); first | exact mv | go_keep) (fun hHeld => ?_)
            clear hK K
            try simp only [Act.put, List.getElem_toArray, List.getElem_cons_succ, List.getElem_cons_zero, List.setIfInBounds_toArray, List.set_cons_zero, List.set_cons_succ]
            refine wpAnyH_ready (rs := [8]) (by kernel_rfl) (by simp) ?_
            refine (AllReadyH.cons rfl (fun K hK => ?_) AllReadyH.nil)
            obtain ⟨p, hp⟩ : ∃ p, l[ix]? = some p := ⟨_, List.getElem?_eq_getElem (by omega)⟩
            obtain ⟨d0, d1, d2, d3, d4, d5, d6⟩ := FO.out.o.ow.p7 hp
            go_simp
            refine hK.out _ _ (by (try dsimp only); first | exact mv | go_keep) (fun hHeld => ?_)
            clear hK K
            try simp only [Act.put, List.getElem_toArray, List.getElem_cons_succ, List.getElem_cons_zero, List.setIfInBounds_toArray, List.set_cons_zero, List.set_cons_succ]
            refine wpAnyH_ready (rs := [10]) (by kernel_rfl) (by simp) ?_
            refine (AllReadyH.cons rfl (fun K hK => ?_) AllReadyH.nil)
            obtain ⟨z0, z1, z2, z3, z4, z5, z6, z7, z8, z9, za, zb, zc, zd⟩ := FZ.out
            go_simp
            obtain ⟨v_15, hw2⟩ : ∃ v_15, v_15 = putP v_14 pb 0 p := ⟨_, rfl⟩
            change K _ (putP v_14 pb 0 p)
            rw [← hw2]
            clear z0 z1 z2 z3 z4 z5 z6 z7 z8 z9 za zb zc zd
            have G0 : Hid (HW v_15 w.heap.size (⟨0, 0, 0, 0, 0, 0, 0, 0, 0, 0, 0, 0⟩ : Hs)) := by rw [hw2]; exact G0.out.below (below_putP (Below.refl (w.heap.size + 1) _) (by omega) _ _) (by omega)
            have G1 : Hid (LW v_15 (w.heap.size + 1) 0 (.slice none 0 0)) := by rw [hw2]; exact G1.out.below (below_putP (Below.refl (w.heap.size + 2) _) (by omega) _ _) (by omega)
            have F0 : Hid (HW v_15 b1 h) := by rw [hw2]; exact F0.out.below (below_putP (Below.refl (b1 + 1) _) (by omega) _ _) (by omega)
            have F1 : Hid (LW v_15 b2 nx (.slice (some ⟨g0, 0, none⟩) l.length rc)) := by rw [hw2]; exact F1.out.below (below_putP (Below.refl (b2 + 1) _) (by omega) _ _) (by omega)
            have FO : Hid (OwT v_15 (w.heap.size + 2) b1 (.slice (some ⟨g0, 0, none⟩) l.length rc) l) := by rw [hw2]; exact FO.out.belowC (below_putP (Below.refl b1 _) (by omega) _ _) (Nat.le_refl _)
            have FS : Hid (SrcT v_15 sb B a1 n1 c1 ((0 + 1 + 1 + 1 + 1) + 1)) := by rw [hw2]; exact FS.out.belowL (below_putP (Below.refl (sb + 1) _) (by omega) _ _) (by omega)
            have FK : Hid (Keeps sb w v_15) := by rw [hw2]; exact FK.out.belowL (below_putP (Below.refl w.heap.size _) (by omega) _ _) (Nat.le_refl _)
            have FZ : Hid (P7 v_15 pb 0 p) := by rw [hw2]; exact FZ.out.put p
            clear hw2
            have mv := F1.out.c1
            refine hK.out _ _ (by (try dsimp only); first | exact mv | go_keep) (fun hHeld => ?_)
            clear hK K
            try simp only [Act.put, List.getElem_toArray, List.getElem_cons_succ, List.getElem_cons_zero, List.setIfInBounds_toArray, List.set_cons_zero, List.set_cons_succ]
            refine wpAnyH_done (by kernel_rfl) ?_ _
            go_wp2_with fail
            go_meet
            case rel => exact ⟨pb, p, rfl, FZ.out, by omega, G0.out, G1.out, F0.out, F1.out, FO.out, FS.out, FK.out⟩
        · go_simp
          obtain ⟨pb, hbb⟩ : ∃ pb, pb = v_10.heap.size := ⟨_, rfl⟩
          obtain ⟨v_16, hw2⟩ : ∃ v_16, v_16 = v_10.alloc (.cells #[.int .i64 0, .int .i64 0, .int .i64 0, .int .i64 0, .int .i64 0, .int .i64 0, .int .i64 0] 42) := ⟨_, rfl⟩
          have npb_0 := G0.out.lt
          rw [← hbb] at npb_0
          have npb_1 := G1.out.lt
          rw [← hbb] at npb_1
          have npb_2 := F0.out.lt
          rw [← hbb] at npb_2
          have npb_3 := F1.out.lt
          rw [← hbb] at npb_3
          have npb_s := FS.out.lt
          rw [← hbb] at npb_s
          have FZ : Hid (PWz v_16 pb) := by rw [hw2]; exact PWz.at_ v_10 pb hbb
          have G0 : Hid (HW v_16 w.heap.size (⟨0, 0, 0, 0, 0, 0, 0, 0, 0, 0, 0, 0⟩ : Hs)) := by rw [hw2]; exact G0.out.alloc _
          have G1 : Hid (LW v_16 (w.heap.size + 1) 0 (.slice none 0 0)) := by rw [hw2]; exact G1.out.alloc _
          have F0 : Hid (HW v_16 b1 h) := by rw [hw2]; exact F0.out.alloc _
          have F1 : Hid (LW v_16 b2 nx (.slice (some ⟨g0, 0, none⟩) l.length rc)) := by rw [hw2]; exact F1.out.alloc _
          have FO : Hid (OwT v_16 (w.heap.size + 2) b1 (.slice (some ⟨g0, 0, none⟩) l.length rc) l) := by rw [hw2]; exact FO.out.alloc _
          have FS : Hid (SrcT v_16 sb B a1 n1 c1 (0 + 1 + 1 + 1 + 1)) := by rw [hw2]; exact FS.out.alloc _
          have FK : Hid (Keeps sb w v_16) := by rw [hw2]; exact FK.out.alloc _
          rw [← hw2, ← hbb]
          clear hbb hw2
          have mv := F1.out.c1
          refine hK.out _ _ (by (try dsimp only); first | exact mv | go_keep) (fun hHeld => ?_)
          clear hK K
          try simp only [Act.put, List.getElem_toArray, List.getElem_cons_succ, List.getElem_cons_zero, List.setIfInBounds_toArray, List.set_cons_zero, List.set_cons_succ]
          refine wpAnyH_ready (rs := [6]) (by kernel_rfl) (by simp) ?_
          refine (AllReadyH.cons rfl (fun K hK => ?_) AllReadyH.nil)
          go_simp
          refine (l1Next_t sb B a1 n1 c1 _ (l.length : Int) _ FS.out (by omega) (by omega) (by omega)).mono ?_
          rintro e v_17 ⟨ix, rfl, hix, hs, hk⟩
          have G0 : Hid (HW v_17 w.heap.size (⟨0, 0, 0, 0, 0, 0, 0, 0, 0, 0, 0, 0⟩ : Hs)) := G0.out.keeps hk (by omega)
          have G1 : Hid (LW v_17 (w.heap.size + 1) 0 (.slice none 0 0)) := G1.out.keeps hk (by omega)
          have F0 : Hid (HW v_17 b1 h) := F0.out.keeps hk (by omega)
          have F1 : Hid (LW v_17 b2 nx (.slice (some ⟨g0, 0, none⟩) l.length rc)) := F1.out.keeps hk (by omega)
          have FO : Hid (OwT v_17 (w.heap.size + 2) b1 (.slice (some ⟨g0, 0, none⟩) l.length rc) l) := FO.out.keeps hk (by omega)
          have FS : Hid (SrcT v_17 sb B a1 n1 c1 ((0 + 1 + 1 + 1 + 1) + 1)) := hs
          have FK : Hid (Keeps sb w v_17) := FK.out.trans hk
          have FZ : Hid (PWz v_17 pb) := FZ.out.keeps hk (by omega)
          clear hs hk
          have mv := F1.out.c1
          try dsimp only
          refine hK.out _ _ (by (try dsimp only); first | exact mv | go_keep) (fun hHeld => ?_)
          clear hK K
          try simp only [Act.put, List.getElem_toArray, List.getElem_cons_succ, List.getElem_cons_zero, List.setIfInBounds_toArray, List.set_cons_zero, List.set_cons_succ]
          refine tkz 7 rfl ?_
          refine wpAnyH_ready (rs := [8]) (by kernel_rfl) (by simp) ?_
          refine (AllReadyH.cons rfl (fun K hK => ?_) AllReadyH.nil)
          obtain ⟨p, hp⟩ : ∃ p, l[ix]? = some p := ⟨_, List.getElem?_eq_getElem (by omega)⟩
          obtain ⟨d0, d1, d2, d3, d4, d5, d6⟩ := FO.out.o.ow.p7 hp
          go_simp
          refine hK.out _ _ (by (try dsimp only); first | exact mv | go_keep) (fun hHeld => ?_)
          clear hK K
          try simp only [Act.put, List.getElem_toArray, List.getElem_cons_succ, List.getElem_cons_zero, List.setIfInBounds_toArray, List.set_cons_zero, List.set_cons_succ]
          refine wpAnyH_ready (rs := [10]) (by kernel_rfl) (by simp) ?_
          refine (AllReadyH.cons rfl (fun K hK => ?_) AllReadyH.nil)
          obtain ⟨z0, z1, z2, z3, z4, z5, z6, z7, z8, z9, za, zb, zc, zd⟩ := FZ.out
          go_simp
          obtain ⟨v_18, hw2⟩ : ∃ v_18, v_18 = putP v_17 pb 0 p := ⟨_, rfl⟩
          change K _ (putP v_17 pb 0 p)
          rw [← hw2]
          clear z0 z1 z2 z3 z4 z5 z6 z7 z8 z9 za zb zc zd
          have G0 : Hid (HW v_18 w.heap.size (⟨0, 0, 0, 0, 0, 0, 0, 0, 0, 0, 0, 0⟩ : Hs)) := by rw [hw2]; exact G0.out.below (below_putP (Below.refl (w.heap.size + 1) _) (by omega) _ _) (by omega)
          have G1 : Hid (LW v_18 (w.heap.size + 1) 0 (.slice none 0 0)) := by rw [hw2]; exact G1.out.below (below_putP (Below.refl (w.heap.size + 2) _) (by omega) _ _) (by omega)
          have F0 : Hid (HW v_18 b1 h) := by rw [hw2]; exact F0.out.below (below_putP (Below.refl (b1 + 1) _) (by omega) _ _) (by omega)
          have F1 : Hid (LW v_18 b2 nx (.slice (some ⟨g0, 0, none⟩) l.length rc)) := by rw [hw2]; exact F1.out.below (below_putP (Below.refl (b2 + 1) _) (by omega) _ _) (by omega)
          have FO : Hid (OwT v_18 (w.heap.size + 2) b1 (.slice (some ⟨g0, 0, none⟩) l.length rc) l) := by rw [hw2]; exact FO.out.belowC (below_putP (Below.refl b1 _) (by omega) _ _) (Nat.le_refl _)
          have FS : Hid (SrcT v_18 sb B a1 n1 c1 ((0 + 1 + 1 + 1 + 1) + 1)) := by rw [hw2]; exact FS.out.belowL (below_putP (Below.refl (sb + 1) _) (by omega) _ _) (by omega)
          have FK : Hid (Keeps sb w v_18) := by rw [hw2]; exact FK.out.belowL (below_putP (Below.refl w.heap.size _) (by omega) _ _) (Nat.le_refl _)
          have FZ : Hid (P7 v_18 pb 0 p) := by rw [hw2]; exact FZ.out.put p
          clear hw2
          have mv := F1.out.c1
          refine hK.out _ _ (by (try dsimp only); first | exact mv | go_keep) (fun hHeld => ?_)
          clear hK K
          try simp only [Act.put, List.getElem_toArray, List.getElem_cons_succ, List.getElem_cons_zero, List.setIfInBounds_toArray, List.set_cons_zero, List.set_cons_succ]
          refine wpAnyH_done (by kernel_rfl) ?_ _
          go_wp2_with fail
          go_meet
          case rel => exact ⟨pb, p, rfl, FZ.out, by omega, G0.out, G1.out, F0.out, F1.out, FO.out, FS.out, FK.out⟩
      · go_simp
        obtain ⟨pb, hbb⟩ : ∃ pb, pb = v_10.heap.size := ⟨_, rfl⟩
        obtain ⟨v_19, hw2⟩ : ∃ v_19, v_19 = v_10.alloc (.cells #[.int .i64 0, .int .i64 0, .int .i64 0, .int .i64 0, .int .i64 0, .int .i64 0, .int .i64 0] 42) := ⟨_, rfl⟩
        have npb_0 := G0.out.lt
        rw [← hbb] at npb_0
        have npb_1 := G1.out.lt
        rw [← hbb] at npb_1
        have npb_2 := F0.out.lt
        rw [← hbb] at npb_2
        have npb_3 := F1.out.lt
        rw [← hbb] at npb_3
        have npb_s := FS.out.lt
        rw [← hbb] at npb_s
        have FZ : Hid (PWz v_19 pb) := by rw [hw2]; exact PWz.at_ v_10 pb hbb
        have G0 : Hid (HW v_19 w.heap.size (⟨0, 0, 0, 0, 0, 0, 0, 0, 0, 0, 0, 0⟩ : Hs)) := by rw [hw2]; exact G0.out.alloc _
        have G1 : Hid (LW v_19 (w.heap.size + 1) 0 (.slice none 0 0)) := by rw [hw2]; exact G1.out.alloc _
        have F0 : Hid (HW v_19 b1 h) := by rw [hw2]; exact F0.out.alloc _
        have F1 : Hid (LW v_19 b2 nx (.slice (some ⟨g0, 0, none⟩) l.length rc)) := by rw [hw2]; exact F1.out.alloc _
        have FO : Hid (OwT v_19 (w.heap.size + 2) b1 (.slice (some ⟨g0, 0, none⟩) l.length rc) l) := by rw [hw2]; exact FO.out.alloc _
        have FS : Hid (SrcT v_19 sb B a1 n1 c1 (0 + 1 + 1 + 1 + 1)) := by rw [hw2]; exact FS.out.alloc _
        have FK : Hid (Keeps sb w v_19) := by rw [hw2]; exact FK.out.alloc _
        rw [← hw2, ← hbb]
        clear hbb hw2
        have mv := F1.out.c1
        refine hK.out _ _ (by (try dsimp only); first | exact mv | go_keep) (fun hHeld => ?_)
        clear hK K
        try simp only [Act.put, List.getElem_toArray, List.getElem_cons_succ, List.getElem_cons_zero, List.setIfInBounds_toArray, List.set_cons_zero, List.set_cons_succ]
        refine wpAnyH_ready (rs := [5]) (by kernel_rfl) (by simp) ?_
        refine (AllReadyH.cons rfl (fun K hK => ?_) AllReadyH.nil)
        go_simp
        refine hK.out _ _ (by (try dsimp only); first | exact mv | go_keep) (fun hHeld => ?_)
        clear hK K
        try simp only [Act.put, List.getElem_toArray, List.getElem_cons_succ, List.getElem_cons_zero, List.setIfInBounds_toArray, List.set_cons_zero, List.set_cons_succ]
        refine wpAnyH_ready (rs := [6]) (by kernel_rfl) (by simp) ?_
        refine (AllReadyH.cons rfl (fun K hK => ?_) AllReadyH.nil)
        go_simp
        refine (l1Next_t sb B a1 n1 c1 _ (l.length : Int) _ FS.out (by omega) (by omega) (by omega)).mono ?_
        rintro e v_20 ⟨ix, rfl, hix, hs, hk⟩
        have G0 : Hid (HW v_20 w.heap.size (⟨0, 0, 0, 0, 0, 0, 0, 0, 0, 0, 0, 0⟩ : Hs)) := G0.out.keeps hk (by omega)
        have G1 : Hid (LW v_20 (w.heap.size + 1) 0 (.slice none 0 0)) := G1.out.keeps hk (by omega)
        have F0 : Hid (HW v_20 b1 h) := F0.out.keeps hk (by omega)
        have F1 : Hid (LW v_20 b2 nx (.slice (some ⟨g0, 0, none⟩) l.length rc)) := F1.out.keeps hk (by omega)
        have FO : Hid (OwT v_20 (w.heap.size + 2) b1 (.slice (some ⟨g0, 0, none⟩) l.length rc) l) := FO.out.keeps hk (by omega)
        have FS : Hid (SrcT v_20 sb B a1 n1 c1 ((0 + 1 + 1 + 1 + 1) + 1)) := hs
        have FK : Hid (Keeps sb w v_20) := FK.out.trans hk
        have FZ : Hid (PWz v_20 pb) := FZ.out.keeps hk (by omega)
        clear hs hk
        have mv := F1.out.c1
        try dsimp only
        refine hK.out _ _ (by (try dsimp only); first | exact mv | go_keep) (fun hHeld => ?_)
        clear hK K
        try simp only [Act.put, List.getElem_toArray, List.getElem_cons_succ, List.getElem_cons_zero, List.setIfInBounds_toArray, List.set_cons_zero, List.set_cons_succ]
        refine tkz 7 rfl ?_
        refine wpAnyH_ready (rs := [8]) (by kernel_rfl) (by simp) ?_
        refine (AllReadyH.cons rfl (fun K hK => ?_) AllReadyH.nil)
        obtain ⟨p, hp⟩ : ∃ p, l[ix]? = some p := ⟨_, List.getElem?_eq_getElem (by omega)⟩
        obtain ⟨d0, d1, d2, d3, d4, d5, d6⟩ := FO.out.o.ow.p7 hp
        go_simp
        refine hK.out _ _ (by (try dsimp only); first | exact mv | go_keep) (fun hHeld => ?_)
        clear hK K
        try simp only [Act.put, List.getElem_toArray, List.getElem_cons_succ, List.getElem_cons_zero, List.setIfInBounds_toArray, List.set_cons_zero, List.set_cons_succ]
        refine wpAnyH_ready (rs := [10]) (by kernel_rfl) (by simp) ?_
        refine (AllReadyH.cons rfl (fun K hK => ?_) AllReadyH.nil)
        obtain ⟨z0, z1, z2, z3, z4, z5, z6, z7, z8, z9, za, zb, zc, zd⟩ := FZ.out
        go_simp
        obtain ⟨v_21, hw2⟩ : ∃ v_21, v_21 = putP v_20 pb 0 p := ⟨_, rfl⟩
        change K _ (putP v_20 pb 0 p)
        rw [← hw2]
        clear z0 z1 z2 z3 z4 z5 z6 z7 z8 z9 za zb zc zd
        have G0 : Hid (HW v_21 w.heap.size (⟨0, 0, 0, 0, 0, 0, 0, 0, 0, 0, 0, 0⟩ : Hs)) := by rw [hw2]; exact G0.out.below (below_putP (Below.refl (w.heap.size + 1) _) (by omega) _ _) (by omega)
        have G1 : Hid (LW v_21 (w.heap.size + 1) 0 (.slice none 0 0)) := by rw [hw2]; exact G1.out.below (below_putP (Below.refl (w.heap.size + 2) _) (by omega) _ _) (by omega)
        have F0 : Hid (HW v_21 b1 h) := by rw [hw2]; exact F0.out.below (below_putP (Below.refl (b1 + 1) _) (by omega) _ _) (by omega)
        have F1 : Hid (LW v_21 b2 nx (.slice (some ⟨g0, 0, none⟩) l.length rc)) := by rw [hw2]; exact F1.out.below (below_putP (Below.refl (b2 + 1) _) (by omega) _ _) (by omega)
        have FO : Hid (OwT v_21 (w.heap.size + 2) b1 (.slice (some ⟨g0, 0, none⟩) l.length rc) l) := by rw [hw2]; exact FO.out.belowC (below_putP (Below.refl b1 _) (by omega) _ _) (Nat.le_refl _)
        have FS : Hid (SrcT v_21 sb B a1 n1 c1 ((0 + 1 + 1 + 1 + 1) + 1)) := by rw [hw2]; exact FS.out.belowL (below_putP (Below.refl (sb + 1) _) (by omega) _ _) (by omega)
        have FK : Hid (Keeps sb w v_21) := by rw [hw2]; exact FK.out.belowL (below_putP (Below.refl w.heap.size _) (by omega) _ _) (Nat.le_refl _)
        have FZ : Hid (P7 v_21 pb 0 p) := by rw [hw2]; exact FZ.out.put p
        clear hw2
        have mv := F1.out.c1
        refine hK.out _ _ (by (try dsimp only); first | exact mv | go_keep) (fun hHeld => ?_)
        clear hK K
        try simp only [Act.put, List.getElem_toArray, List.getElem_cons_succ, List.getElem_cons_zero, List.setIfInBounds_toArray, List.set_cons_zero, List.set_cons_succ]
        refine wpAnyH_done (by kernel_rfl) ?_ _
        go_wp2_with fail
        go_meet
        case rel => exact ⟨pb, p, rfl, FZ.out, by omega, G0.out, G1.out, F0.out, F1.out, FO.out, FS.out, FK.out⟩
    case rest =>
      obtain ⟨pb, p, rfl, hFP, hsp, h0, h1, h2, h3, h4, hs_, hk_⟩ := hcut
      clear G0 G1 F0 F1 FO FS FK
      have FP : Hid (P7 wc pb 0 p) := hFP
      have G0 : Hid (HW wc w.heap.size (⟨0, 0, 0, 0, 0, 0, 0, 0, 0, 0, 0, 0⟩ : Hs)) := h0
      have G1 : Hid (LW wc (w.heap.size + 1) 0 (.slice none 0 0)) := h1
      have F0 : Hid (HW wc b1 h) := h2
      have F1 : Hid (LW wc b2 nx (.slice (some ⟨g0, 0, none⟩) l.length rc)) := h3
      have FO : Hid (OwT wc (w.heap.size + 2) b1 (.slice (some ⟨g0, 0, none⟩) l.length rc) l) := h4
      have FS : Hid (SrcT wc sb B a1 n1 c1 (0 + 1 + 1 + 1 + 1 + 1)) := hs_
      have FK : Hid (Keeps sb w wc) := hk_
      clear hFP h0 h1 h2 h3 h4 hs_ hk_
      obtain ⟨z0, z1, z2, z3, z4, z5, z6⟩ := FP.out
      go_upto_region 11 with (go_at_call 33; refine (l1Pick_at_t sb B 2 [p.fr, p.tw] a1 n1 c1 (0 + 1 + 1 + 1 + 1 + 1) wc _ rfl FS.out (by omega) (by simp) (by simp)).mono ?_; rintro e wd ⟨v6, rfl, hs, hk⟩; have G0 : Hid (HW wd w.heap.size (⟨0, 0, 0, 0, 0, 0, 0, 0, 0, 0, 0, 0⟩ : Hs)) := G0.out.keeps hk (by omega); have G1 : Hid (LW wd (w.heap.size + 1) 0 (.slice none 0 0)) := G1.out.keeps hk (by omega); have F0 : Hid (HW wd b1 h) := F0.out.keeps hk (by omega); have F1 : Hid (LW wd b2 nx (.slice (some ⟨g0, 0, none⟩) l.length rc)) := F1.out.keeps hk (by omega); have FO : Hid (OwT wd (w.heap.size + 2) b1 (.slice (some ⟨g0, 0, none⟩) l.length rc) l) := FO.out.keeps hk (by omega); have FK : Hid (Keeps sb w wd) := FK.out.trans hk; have FS : Hid (SrcT wd sb B a1 n1 c1 (0 + 1 + 1 + 1 + 1 + 1 + 1)) := hs; clear hs hk)
      clear z0 z1 z2 z3 z4 z5 z6 FP
      have FB : Hid (Below w.heap.size w wd) := FK.out.below (by omega) (Nat.le_refl _)
      have F0 : Hid (HAt wd b1 h) := F0.out.hat
      have FO : Hid (Own wd (w.heap.size + 2) (.slice (some ⟨g0, 0, none⟩) l.length rc) l) := FO.out.o
      have F0 : Hid (HAt wd.drew b1 h) := F0.out.below (Below.refl _ _).drew F0.out.lt
      have F1 : Hid (LW wd.drew b2 nx (.slice (some ⟨g0, 0, none⟩) l.length rc)) := F1.out.below (Below.refl _ _).drew F1.out.lt
      have G0 : Hid (HW wd.drew w.heap.size (⟨0, 0, 0, 0, 0, 0, 0, 0, 0, 0, 0, 0⟩ : Hs)) := G0.out.below (Below.refl _ _).drew G0.out.lt
      have G1 : Hid (LW wd.drew (w.heap.size + 1) 0 (.slice none 0 0)) := G1.out.below (Below.refl _ _).drew G1.out.lt
      have FO : Hid (Own wd.drew (w.heap.size + 2) (.slice (some ⟨g0, 0, none⟩) l.length rc) l) := FO.out.drew
      have FB : Hid (Below w.heap.size w wd.drew) := FB.out.drew
      obtain ⟨x0_0, x0_1, x0_2, x0_3, x0_4, x0_5, x0_6, x0_7, x0_8, x0_9, x0_10, x0_11⟩ := F0.out
      have mn := F1.out.c0
      have mv := F1.out.c1
      refine wp_region_held_drew (S := (fun w'' => w''.cell? ⟨b1, 0, none⟩ = some (.int .i64 h.fl) ∧ w''.cell? ⟨b1, 1, none⟩ = some (.int .i64 h.gp) ∧ w''.cell? ⟨b1, 2, none⟩ = some (.int .i64 h.ln) ∧ w''.cell? ⟨b1, 3, none⟩ = some (.int .i64 h.rf) ∧ w''.cell? ⟨b1, 4, none⟩ = some (.int .i64 h.sp) ∧ w''.cell? ⟨b1, 5, none⟩ = some (.int .i64 h.pu) ∧ w''.cell? ⟨b1, 6, none⟩ = some (.int .i64 h.br) ∧ w''.cell? ⟨b1, 7, none⟩ = some (.int .i64 h.dr) ∧ w''.cell? ⟨b1, 8, none⟩ = some (.int .i64 h.lv) ∧ w''.cell? ⟨b1, 9, none⟩ = some (.int .i64 h.dO) ∧ w''.cell? ⟨b1, 10, none⟩ = some (.int .i64 h.ld) ∧ w''.cell? ⟨b1, 11, none⟩ = some (.int .i64 h.qu) ∧ w''.cell? ⟨b2, 0, none⟩ = some (.int .i64 nx) ∧ w''.cell? ⟨b2, 1, none⟩ = some (.slice (some ⟨g0, 0, none⟩) l.length rc))) (by kernel_rfl) (by (try dsimp only); first | exact ⟨x0_0, x0_1, x0_2, x0_3, x0_4, x0_5, x0_6, x0_7, x0_8, x0_9, x0_10, x0_11, mn, mv⟩ | go_keep) (fun hHeld => ?_)
      obtain ⟨v_22, hw1⟩ : ∃ v_22, v_22 = wd.drew := ⟨_, rfl⟩
      have F0 : Hid (HAt v_22 b1 h) := by rw [hw1]; exact F0.out
      have F1 : Hid (LW v_22 b2 nx (.slice (some ⟨g0, 0, none⟩) l.length rc)) := by rw [hw1]; exact F1.out
      have G0 : Hid (HW v_22 w.heap.size (⟨0, 0, 0, 0, 0, 0, 0, 0, 0, 0, 0, 0⟩ : Hs)) := by rw [hw1]; exact G0.out
      have G1 : Hid (LW v_22 (w.heap.size + 1) 0 (.slice none 0 0)) := by rw [hw1]; exact G1.out
      have FO : Hid (Own v_22 (w.heap.size + 2) (.slice (some ⟨g0, 0, none⟩) l.length rc) l) := by rw [hw1]; exact FO.out
      have FB : Hid (Below w.heap.size w v_22) := by rw [hw1]; exact FB.out
      rw [← hw1] at hHeld ⊢
      clear hw1
      obtain ⟨x0_0, x0_1, x0_2, x0_3, x0_4, x0_5, x0_6, x0_7, x0_8, x0_9, x0_10, x0_11⟩ := F0.out
      have mn := F1.out.c0
      have mv := F1.out.c1
      refine tkz 0 rfl ?_
      refine tkz 1 rfl ?_
      refine tkz 2 rfl ?_
      refine tkz 3 rfl ?_
      refine tkz 4 rfl ?_
      refine wpAnyH_ready (rs := [5]) (by kernel_rfl) (by simp) ?_
      refine (AllReadyH.cons rfl (fun K hK => ?_) AllReadyH.nil)
      obtain ⟨d0, d1, d2, d3, d4, d5, d6, d7, d8, d9, d10, d11, e0, e1, e2, e3, e4, e5, e6, e7, e8, e9, e10, e11⟩ := G0.out
      try dsimp only at d0 d1 d2 d3 d4 d5 d6 d7 d8 d9 d10 d11
      go_simp
      obtain ⟨v_23, hw2⟩ : ∃ v_23, v_23 = putH v_22 w.heap.size h := ⟨_, rfl⟩
      change K _ (putH v_22 w.heap.size h)
      rw [← hw2]
      clear d0 e0 d1 e1 d2 e2 d3 e3 d4 e4 d5 e5 d6 e6 d7 e7 d8 e8 d9 e9 d10 e10 d11 e11
      have F0 : Hid (HAt v_23 b1 h) := by rw [hw2]; exact F0.out.put_h (by omega) h
      have F1 : Hid (LW v_23 b2 nx (.slice (some ⟨g0, 0, none⟩) l.length rc)) := by rw [hw2]; exact F1.out.put_h (by omega) h
      have G0 : Hid (HW v_23 w.heap.size h) := by rw [hw2]; exact G0.out.put h
      have G1 : Hid (LW v_23 (w.heap.size + 1) 0 (.slice none 0 0)) := by rw [hw2]; exact G1.out.put_h (by omega) h
      have FO : Hid (Own v_23 (w.heap.size + 2) (.slice (some ⟨g0, 0, none⟩) l.length rc) l) := by rw [hw2]; exact FO.out.put_h (by omega) h
      have FB : Hid (Below w.heap.size w v_23) := by rw [hw2]; exact below_putH FB.out (Nat.le_refl _) h
      clear hw2
      obtain ⟨x0_0, x0_1, x0_2, x0_3, x0_4, x0_5, x0_6, x0_7, x0_8, x0_9, x0_10, x0_11⟩ := F0.out
      have mn := F1.out.c0
      have mv := F1.out.c1
      refine hK.out _ _ (by (try dsimp only); first | exact ⟨x0_0, x0_1, x0_2, x0_3, x0_4, x0_5, x0_6, x0_7, x0_8, x0_9, x0_10, x0_11, mn, mv⟩ | go_keep) (fun hHeld => ?_)
      clear hK K
      try simp only [Act.put, List.getElem_toArray, List.getElem_cons_succ, List.getElem_cons_zero, List.setIfInBounds_toArray, List.set_cons_zero, List.set_cons_succ]
      refine wpAnyH_ready (rs := [6]) (by kernel_rfl) (by simp) ?_
      refine (AllReadyH.cons rfl (fun K hK => ?_) AllReadyH.nil)
      obtain ⟨r0, r1, r2, r3⟩ := G1.out
      go_simp
      obtain ⟨v_24, hw2⟩ : ∃ v_24, v_24 = putL2 v_23 (w.heap.size + 1) nx (.slice (some ⟨g0, 0, none⟩) l.length rc) := ⟨_, rfl⟩
      change K _ (putL2 v_23 (w.heap.size + 1) nx (.slice (some ⟨g0, 0, none⟩) l.length rc))
      rw [← hw2]
      clear r0 r1 r2 r3
      have F0 : Hid (HAt v_24 b1 h) := by rw [hw2]; exact F0.out.putL2_o (by omega) _ _
      have F1 : Hid (LW v_24 b2 nx (.slice (some ⟨g0, 0, none⟩) l.length rc)) := by rw [hw2]; exact F1.out.putL2_o (by omega) _ _
      have G0 : Hid (HW v_24 w.heap.size h) := by rw [hw2]; exact G0.out.below (below_putL2 (Below.refl (w.heap.size + 1) _) (Nat.le_refl _) _ _) (by omega)
      have G1 : Hid (LW v_24 (w.heap.size + 1) nx (.slice (some ⟨g0, 0, none⟩) l.length rc)) := by rw [hw2]; exact G1.out.setL2 _ _
      have FO : Hid (Own v_24 (w.heap.size + 2) (.slice (some ⟨g0, 0, none⟩) l.length rc) l) := by rw [hw2]; exact FO.out.putL2_o (by omega) _ _
      have FB : Hid (Below w.heap.size w v_24) := by rw [hw2]; exact below_putL2 FB.out (by omega) _ _
      clear hw2
      obtain ⟨x0_0, x0_1, x0_2, x0_3, x0_4, x0_5, x0_6, x0_7, x0_8, x0_9, x0_10, x0_11⟩ := F0.out
      have mn := F1.out.c0
      have mv := F1.out.c1
      refine hK.out _ _ (by (try dsimp only); first | exact ⟨x0_0, x0_1, x0_2, x0_3, x0_4, x0_5, x0_6, x0_7, x0_8, x0_9, x0_10, x0_11, mn, mv⟩ | go_keep) (fun hHeld => ?_)
      clear hK K
      try simp only [Act.put, List.getElem_toArray, List.getElem_cons_succ, List.getElem_cons_zero, List.setIfInBounds_toArray, List.set_cons_zero, List.set_cons_succ]
      refine tkz 7 rfl ?_
      refine tkz 8 rfl ?_
      refine tkz 9 rfl ?_
      refine wpAnyH_done (by kernel_rfl) ?_ _
      obtain ⟨d0, d1, d2, d3, d4, d5, d6, d7, d8, d9, d10, d11, e0, e1, e2, e3, e4, e5, e6, e7, e8, e9, e10, e11⟩ := G0.out
      obtain ⟨k0, k1, k2, k3⟩ := G1.out
      go_wp2_with fail
      exact bodyPost_ret (v := .tuple #[.agg #[.int .i64 h.fl, .int .i64 h.gp, .int .i64 h.ln, .int .i64 h.rf, .int .i64 h.sp, .int .i64 h.pu, .int .i64 h.br, .int .i64 h.dr, .int .i64 h.lv, .int .i64 h.dO, .int .i64 h.ld, .int .i64 h.qu], .agg #[.int .i64 nx, .slice (some ⟨g0, 0, none⟩) l.length rc], .int .i64 p.sh, .int .i64 p.ca, .int .i64 v6]) (by simp [results, Try.results13, go_sem, d0, d1, d2, d3, d4, d5, d6, d7, d8, d9, d10, d11, k0, k1]) rfl ⟨h, nx, some ⟨g0, 0, none⟩, rc, l, p.sh, p.ca, v6, rfl, FO.out.base (by omega), hl60, FB.out⟩
  · go_upto_region 11 with fail
    have FB : Hid (Below w.heap.size w w9) := FK.out.below (by omega) (Nat.le_refl _)
    have F0 : Hid (HAt w9 b1 h) := F0.out.hat
    have FO : Hid (Own w9 (w.heap.size + 2) (.slice (some ⟨g0, 0, none⟩) l.length rc) l) := FO.out.o
    have F0 : Hid (HAt w9.drew b1 h) := F0.out.below (Below.refl _ _).drew F0.out.lt
    have F1 : Hid (LW w9.drew b2 nx (.slice (some ⟨g0, 0, none⟩) l.length rc)) := F1.out.below (Below.refl _ _).drew F1.out.lt
    have G0 : Hid (HW w9.drew w.heap.size (⟨0, 0, 0, 0, 0, 0, 0, 0, 0, 0, 0, 0⟩ : Hs)) := G0.out.below (Below.refl _ _).drew G0.out.lt
    have G1 : Hid (LW w9.drew (w.heap.size + 1) 0 (.slice none 0 0)) := G1.out.below (Below.refl _ _).drew G1.out.lt
    have FO : Hid (Own w9.drew (w.heap.size + 2) (.slice (some ⟨g0, 0, none⟩) l.length rc) l) := FO.out.drew
    have FB : Hid (Below w.heap.size w w9.drew) := FB.out.drew
    obtain ⟨x0_0, x0_1, x0_2, x0_3, x0_4, x0_5, x0_6, x0_7, x0_8, x0_9, x0_10, x0_11⟩ := F0.out
    have mn := F1.out.c0
    have mv := F1.out.c1
    refine wp_region_held_drew (S := (fun w'' => w''.cell? ⟨b1, 0, none⟩ = some (.int .i64 h.fl) ∧ w''.cell? ⟨b1, 1, none⟩ = some (.int .i64 h.gp) ∧ w''.cell? ⟨b1, 2, none⟩ = some (.int .i64 h.ln) ∧ w''.cell? ⟨b1, 3, none⟩ = some (.int .i64 h.rf) ∧ w''.cell? ⟨b1, 4, none⟩ = some (.int .i64 h.sp) ∧ w''.cell? ⟨b1, 5, none⟩ = some (.int .i64 h.pu) ∧ w''.cell? ⟨b1, 6, none⟩ = some (.int .i64 h.br) ∧ w''.cell? ⟨b1, 7, none⟩ = some (.int .i64 h.dr) ∧ w''.cell? ⟨b1, 8, none⟩ = some (.int .i64 h.lv) ∧ w''.cell? ⟨b1, 9, none⟩ = some (.int .i64 h.dO) ∧ w''.cell? ⟨b1, 10, none⟩ = some (.int .i64 h.ld) ∧ w''.cell? ⟨b1, 11, none⟩ = some (.int .i64 h.qu) ∧ w''.cell? ⟨b2, 0, none⟩ = some (.int .i64 nx) ∧ w''.cell? ⟨b2, 1, none⟩ = some (.slice (some ⟨g0, 0, none⟩) l.length rc))) (by kernel_rfl) (by (try dsimp only); first | exact ⟨x0_0, x0_1, x0_2, x0_3, x0_4, x0_5, x0_6, x0_7, x0_8, x0_9, x0_10, x0_11, mn, mv⟩ | go_keep) (fun hHeld => ?_)
    obtain ⟨v_25, hw1⟩ : ∃ v_25, v_25 = w9.drew := ⟨_, rfl⟩
    have F0 : Hid (HAt v_25 b1 h) := by rw [hw1]; exact F0.out
    have F1 : Hid (LW v_25 b2 nx (.slice (some ⟨g0, 0, none⟩) l.length rc)) := by rw [hw1]; exact F1.out
    have G0 : Hid (HW v_25 w.heap.size (⟨0, 0, 0, 0, 0, 0, 0, 0, 0, 0, 0, 0⟩ : Hs)) := by rw [hw1]; exact G0.out
    have G1 : Hid (LW v_25 (w.heap.size + 1) 0 (.slice none 0 0)) := by rw [hw1]; exact G1.out
    have FO : Hid (Own v_25 (w.heap.size + 2) (.slice (some ⟨g0, 0, none⟩) l.length rc) l) := by rw [hw1]; exact FO.out
    have FB : Hid (Below w.heap.size w v_25) := by rw [hw1]; exact FB.out
    rw [← hw1] at hHeld ⊢
    clear hw1
    obtain ⟨x0_0, x0_1, x0_2, x0_3, x0_4, x0_5, x0_6, x0_7, x0_8, x0_9, x0_10, x0_11⟩ := F0.out
    have mn := F1.out.c0
    have mv := F1.out.c1
    refine tkz 0 rfl ?_
    refine tkz 1 rfl ?_
    refine tkz 2 rfl ?_
    refine tkz 3 rfl ?_
    refine tkz 4 rfl ?_
    refine wpAnyH_ready (rs := [5]) (by kernel_rfl) (by simp) ?_
    refine (AllReadyH.cons rfl (fun K hK => ?_) AllReadyH.nil)
    obtain ⟨d0, d1, d2, d3, d4, d5, d6, d7, d8, d9, d10, d11, e0, e1, e2, e3, e4, e5, e6, e7, e8, e9, e10, e11⟩ := G0.out
    try dsimp only at d0 d1 d2 d3 d4 d5 d6 d7 d8 d9 d10 d11
    go_simp
    obtain ⟨v_26, hw2⟩ : ∃ v_26, v_26 = putH v_25 w.heap.size h := ⟨_, rfl⟩
    change K _ (putH v_25 w.heap.size h)
    rw [← hw2]
    clear d0 e0 d1 e1 d2 e2 d3 e3 d4 e4 d5 e5 d6 e6 d7 e7 d8 e8 d9 e9 d10 e10 d11 e11
    have F0 : Hid (HAt v_26 b1 h) := by rw [hw2]; exact F0.out.put_h (by omega) h
    have F1 : Hid (LW v_26 b2 nx (.slice (some ⟨g0, 0, none⟩) l.length rc)) := by rw [hw2]; exact F1.out.put_h (by omega) h
    have G0 : Hid (HW v_26 w.heap.size h) := by rw [hw2]; exact G0.out.put h
    have G1 : Hid (LW v_26 (w.heap.size + 1) 0 (.slice none 0 0)) := by rw [hw2]; exact G1.out.put_h (by omega) h
    have FO : Hid (Own v_26 (w.heap.size + 2) (.slice (some ⟨g0, 0, none⟩) l.length rc) l) := by rw [hw2]; exact FO.out.put_h (by omega) h
    have FB : Hid (Below w.heap.size w v_26) := by rw [hw2]; exact below_putH FB.out (Nat.le_refl _) h
    clear hw2
    obtain ⟨x0_0, x0_1, x0_2, x0_3, x0_4, x0_5, x0_6, x0_7, x0_8, x0_9, x0_10, x0_11⟩ := F0.out
    have mn := F1.out.c0
    have mv := F1.out.c1
    refine hK.out _ _ (by (try dsimp only); first | exact ⟨x0_0, x0_1, x0_2, x0_3, x0_4, x0_5, x0_6, x0_7, x0_8, x0_9, x0_10, x0_11, mn, mv⟩ | go_keep) (fun hHeld => ?_)
    clear hK K
    try simp only [Act.put, List.getElem_toArray, List.getElem_cons_succ, List.getElem_cons_zero, List.setIfInBounds_toArray, List.set_cons_zero, List.set_cons_succ]
    refine wpAnyH_ready (rs := [6]) (by kernel_rfl) (by simp) ?_
    refine (AllReadyH.cons rfl (fun K hK => ?_) AllReadyH.nil)
    obtain ⟨r0, r1, r2, r3⟩ := G1.out
    go_simp
    obtain ⟨v_27, hw2⟩ : ∃ v_27, v_27 = putL2 v_26 (w.heap.size + 1) nx (.slice (some ⟨g0, 0, none⟩) l.length rc) := ⟨_, rfl⟩
    change K _ (putL2 v_26 (w.heap.size + 1) nx (.slice (some ⟨g0, 0, none⟩) l.length rc))
    rw [← hw2]
    clear r0 r1 r2 r3
    have F0 : Hid (HAt v_27 b1 h) := by rw [hw2]; exact F0.out.putL2_o (by omega) _ _
    have F1 : Hid (LW v_27 b2 nx (.slice (some ⟨g0, 0, none⟩) l.length rc)) := by rw [hw2]; exact F1.out.putL2_o (by omega) _ _
    have G0 : Hid (HW v_27 w.heap.size h) := by rw [hw2]; exact G0.out.below (below_putL2 (Below.refl (w.heap.size + 1) _) (Nat.le_refl _) _ _) (by omega)
    have G1 : Hid (LW v_27 (w.heap.size + 1) nx (.slice (some ⟨g0, 0, none⟩) l.length rc)) := by rw [hw2]; exact G1.out.setL2 _ _
    have FO : Hid (Own v_27 (w.heap.size + 2) (.slice (some ⟨g0, 0, none⟩) l.length rc) l) := by rw [hw2]; exact FO.out.putL2_o (by omega) _ _
    have FB : Hid (Below w.heap.size w v_27) := by rw [hw2]; exact below_putL2 FB.out (by omega) _ _
    clear hw2
    obtain ⟨x0_0, x0_1, x0_2, x0_3, x0_4, x0_5, x0_6, x0_7, x0_8, x0_9, x0_10, x0_11⟩ := F0.out
    have mn := F1.out.c0
    have mv := F1.out.c1
    refine hK.out _ _ (by (try dsimp only); first | exact ⟨x0_0, x0_1, x0_2, x0_3, x0_4, x0_5, x0_6, x0_7, x0_8, x0_9, x0_10, x0_11, mn, mv⟩ | go_keep) (fun hHeld => ?_)
    clear hK K
    try simp only [Act.put, List.getElem_toArray, List.getElem_cons_succ, List.getElem_cons_zero, List.setIfInBounds_toArray, List.set_cons_zero, List.set_cons_succ]
    refine tkz 7 rfl ?_
    refine tkz 8 rfl ?_
    refine tkz 9 rfl ?_
    refine wpAnyH_done (by kernel_rfl) ?_ _
    obtain ⟨d0, d1, d2, d3, d4, d5, d6, d7, d8, d9, d10, d11, e0, e1, e2, e3, e4, e5, e6, e7, e8, e9, e10, e11⟩ := G0.out
    obtain ⟨k0, k1, k2, k3⟩ := G1.out
    go_wp2_with fail
    exact bodyPost_ret (v := .tuple #[.agg #[.int .i64 h.fl, .int .i64 h.gp, .int .i64 h.ln, .int .i64 h.rf, .int .i64 h.sp, .int .i64 h.pu, .int .i64 h.br, .int .i64 h.dr, .int .i64 h.lv, .int .i64 h.dO, .int .i64 h.ld, .int .i64 h.qu], .agg #[.int .i64 nx, .slice (some ⟨g0, 0, none⟩) l.length rc], .int .i64 v3, .int .i64 v4, .int .i64 v5]) (by simp [results, Try.results13, go_sem, d0, d1, d2, d3, d4, d5, d6, d7, d8, d9, d10, d11, k0, k1]) rfl ⟨h, nx, some ⟨g0, 0, none⟩, rc, l, v3, v4, v5, rfl, FO.out.base (by omega), hl60, FB.out⟩

end Go.Proofs.Ytoekhkolakielaa
