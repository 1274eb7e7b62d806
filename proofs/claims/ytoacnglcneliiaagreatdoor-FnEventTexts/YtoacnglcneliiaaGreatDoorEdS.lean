/-
  A house and a list of events are drawn.
-/
import Derived.Test.YtoacnglcneliiaaGreatDoorEdR
import Derived.Test.YtoacnglcneliiaaGreatDoorParI
import Derived.Test.YtoacnglcneliiaaGreatDoorHouseB
namespace Go.Proofs.YtoacnglcneliiaaGreatDoor
open Go.RowKit Pl
set_option linter.unusedSimpArgs false
set_option linter.unusedVariables false

/-- A house and events in a row of their own. -/
def isLs (w : World) (e : Ending) (w' : World) : Prop := ∃ (h : Hs) (va : Option Addr) (vc : Nat) (l : List Ev), e = .returned (.tuple #[.agg #[.int .i64 h.fl, .int .i64 h.gp, .int .i64 h.ln, .int .i64 h.rf, .int .i64 h.sp, .int .i64 h.pu, .int .i64 h.br, .int .i64 h.dr, .int .i64 h.lv, .int .i64 h.dO, .int .i64 h.ld, .int .i64 h.qu], .slice va l.length vc]) ∧ OwnE w' w.heap.size (.slice va l.length vc) l ∧ l.length ≤ 201 ∧ Below w.heap.size w w'
theorem l2Bent_t (sb B : Nat) (a : Option Addr) (len cap T : Nat) (w : World) (h : SrcT w sb B a len cap T) (hT : T ≤ 700000) :
    Calls Tryz.prog 25 #[.pointer (some ⟨sb, 0, none⟩)] w fun e w' => ∃ h : Hs, e = .returned (.agg #[.int .i64 h.fl, .int .i64 h.gp, .int .i64 h.ln, .int .i64 h.rf, .int .i64 h.sp, .int .i64 h.pu, .int .i64 h.br, .int .i64 h.dr, .int .i64 h.lv, .int .i64 h.dO, .int .i64 h.ld, .int .i64 h.qu]) ∧ SrcT w' sb B a len cap (T + 60) ∧ Keeps sb w w' := by
  obtain ⟨t, ht, h⟩ := h
  refine (l2Bent_src sb B a len cap t w h (by omega)).mono ?_
  rintro e w' ⟨v, t', he, ht', hs, hk⟩
  exact ⟨v, he, ⟨_, by omega, hs⟩, hk⟩
theorem codeIn_up {w : World} {B C : Nat} {a : Option Addr} {len : Nat} (h : CodeIn w B a len) (hC : B ≤ C) : CodeIn w C a len := by
  refine ⟨h.1, ?_⟩
  rcases h.2 with h0 | ⟨b, off, e, hb, hc⟩
  · exact Or.inl h0
  · exact Or.inr ⟨b, off, e, by omega, hc⟩
set_option maxRecDepth 20000 in
set_option maxHeartbeats 16000000 in
theorem l10List_any (a : Option Addr) (len cap : Nat) (w : World) (hc : CodeIn w w.heap.size a len) :
    Calls Tryz.prog 9 #[.slice a len cap] w (isLs w) := by
  obtain ⟨b0, hb0⟩ : ∃ b0, b0 = w.heap.size := ⟨_, rfl⟩
  obtain ⟨sb, hsb⟩ : ∃ sb, sb = w.heap.size + 1 := ⟨_, rfl⟩
  obtain ⟨W0, hW0⟩ : ∃ W0, W0 = w.alloc (.cells #[.int .i64 0, .int .i64 0, .int .i64 0, .int .i64 0, .int .i64 0, .int .i64 0, .int .i64 0, .int .i64 0, .int .i64 0, .int .i64 0, .int .i64 0, .int .i64 0] 25) := ⟨_, rfl⟩
  have hsz : W0.heap.size = sb := by rw [hW0, hsb]; simp
  have HC : Hid (CodeIn W0 w.heap.size a len) := by rw [hW0]; exact hc.keep fun b off _ hb => World.cell?_alloc_past _ _ _ hb
  have F0 : Hid (Blk W0 b0 [.int .i64 0, .int .i64 0, .int .i64 0, .int .i64 0, .int .i64 0, .int .i64 0, .int .i64 0, .int .i64 0, .int .i64 0, .int .i64 0, .int .i64 0, .int .i64 0]) := by rw [hW0]; exact Blk.at_ w #[.int .i64 0, .int .i64 0, .int .i64 0, .int .i64 0, .int .i64 0, .int .i64 0, .int .i64 0, .int .i64 0, .int .i64 0, .int .i64 0, .int .i64 0, .int .i64 0] _ _ hb0
  have FK : Hid (Keeps sb w W0) := by rw [hW0]; exact (Keeps.refl _ _).alloc _
  have CSRC := l1Source_t w.heap.size a len cap W0 (by omega) HC.out
  rw [hsz] at CSRC
  have HW0 : Hid (W0 = w.alloc (.cells #[.int .i64 0, .int .i64 0, .int .i64 0, .int .i64 0, .int .i64 0, .int .i64 0, .int .i64 0, .int .i64 0, .int .i64 0, .int .i64 0, .int .i64 0, .int .i64 0] 25)) := hW0
  have HB0 : Hid (b0 = w.heap.size) := hb0
  have h0s : b0 < sb := by omega
  have h0w : w.heap.size ≤ b0 := by omega
  have h0v : b0 ≤ w.heap.size := by omega
  clear hW0 hc hsz hb0 HC hsb
  unfold isLs
  go_enter Tryz.func9, Tryz.ntmps9
  go_upto_region 1 with fail
  rw [← HW0.out, ← HB0.out]
  clear HW0 HB0
  go_upto_region 2 with (go_at_call 21; refine CSRC.mono ?_; rintro e w1 ⟨rfl, hs, hk⟩; have F0 : Hid (Blk w1 b0 [.int .i64 0, .int .i64 0, .int .i64 0, .int .i64 0, .int .i64 0, .int .i64 0, .int .i64 0, .int .i64 0, .int .i64 0, .int .i64 0, .int .i64 0, .int .i64 0]) := F0.out.of (hk.block _ F0.out.lt (by omega)); have FK : Hid (Keeps sb w w1) := FK.out.trans hk; have FS : Hid (SrcT w1 sb w.heap.size a len cap (0)) := hs; clear hs hk)
  go_upto_region 3 with (first | (go_at_call 22; refine (l2House_t sb _ a len cap 0 _ FS.out (by omega)).mono ?_; rintro e w2 ⟨h, rfl, hsm, hs, hk⟩; have F0 : Hid (Blk w2 b0 [.int .i64 0, .int .i64 0, .int .i64 0, .int .i64 0, .int .i64 0, .int .i64 0, .int .i64 0, .int .i64 0, .int .i64 0, .int .i64 0, .int .i64 0, .int .i64 0]) := F0.out.of (hk.block _ F0.out.lt (by omega)); have FK : Hid (Keeps sb w w2) := FK.out.trans hk; have FS : Hid (SrcT w2 sb w.heap.size a len cap (0 + 40)) := hs; clear hs hk) | (refine store_new [.int .i64 h.fl, .int .i64 h.gp, .int .i64 h.ln, .int .i64 h.rf, .int .i64 h.sp, .int .i64 h.pu, .int .i64 h.br, .int .i64 h.dr, .int .i64 h.lv, .int .i64 h.dO, .int .i64 h.ld, .int .i64 h.qu] 25 _ _ (by kernel_rfl) (by kernel_rfl) (by kernel_rfl) rfl rfl rfl rfl ?_))
  obtain ⟨b5, hb5⟩ : ∃ b, b = w2.heap.size := ⟨_, rfl⟩
  obtain ⟨w3, hw3⟩ : ∃ W, W = w2.alloc (.cells #[.int .i64 h.fl, .int .i64 h.gp, .int .i64 h.ln, .int .i64 h.rf, .int .i64 h.sp, .int .i64 h.pu, .int .i64 h.br, .int .i64 h.dr, .int .i64 h.lv, .int .i64 h.dO, .int .i64 h.ld, .int .i64 h.qu] 25) := ⟨_, rfl⟩
  have hs5 : sb < b5 := by rw [hb5]; exact FS.out.lt
  have h3z : w3.heap.size = b5 + 1 := by rw [hw3, hb5]; simp
  have F0 : Hid (Blk w3 b0 [.int .i64 0, .int .i64 0, .int .i64 0, .int .i64 0, .int .i64 0, .int .i64 0, .int .i64 0, .int .i64 0, .int .i64 0, .int .i64 0, .int .i64 0, .int .i64 0]) := by rw [hw3]; exact F0.out.alloc _
  have F5 : Hid (Blk w3 b5 [.int .i64 h.fl, .int .i64 h.gp, .int .i64 h.ln, .int .i64 h.rf, .int .i64 h.sp, .int .i64 h.pu, .int .i64 h.br, .int .i64 h.dr, .int .i64 h.lv, .int .i64 h.dO, .int .i64 h.ld, .int .i64 h.qu]) := by rw [hw3]; exact Blk.at_ w2 #[.int .i64 h.fl, .int .i64 h.gp, .int .i64 h.ln, .int .i64 h.rf, .int .i64 h.sp, .int .i64 h.pu, .int .i64 h.br, .int .i64 h.dr, .int .i64 h.lv, .int .i64 h.dO, .int .i64 h.ld, .int .i64 h.qu] _ _ hb5
  have FK : Hid (Keeps sb w w3) := by rw [hw3]; exact FK.out.alloc _
  have FS : Hid (SrcT w3 sb w.heap.size a len cap (0 + 40)) := by rw [hw3]; exact FS.out.alloc _
  (try simp only [Act.put])
  rw [← hw3, ← hb5]
  clear hw3 hb5
  have CE := l10Events_t h (by have := hsm.fl1; omega) (by have := hsm.fl2; omega) sb _ a len cap (0 + 40) w3 FS.out (by omega)
  rw [h3z] at CE
  clear h3z
  go_upto_region 4 with (first | (refine load_blk 25 _ Tryz.underlying25 (by kernel_rfl) F5.out rfl rfl rfl ?_) | (go_at_call 23; refine CE.mono ?_; rintro e w4 ⟨v, l, rfl, ho, hl201, hs, hk⟩; have FO : Hid (OwnE w4 (b5 + 1) v l) := ho; have F0 : Hid (Blk w4 b0 [.int .i64 0, .int .i64 0, .int .i64 0, .int .i64 0, .int .i64 0, .int .i64 0, .int .i64 0, .int .i64 0, .int .i64 0, .int .i64 0, .int .i64 0, .int .i64 0]) := F0.out.of (hk.block _ F0.out.lt (by omega)); have FK : Hid (Keeps sb w w4) := FK.out.trans hk; have FS : Hid (SrcT w4 sb w.heap.size a len cap (0 + 40 + 1000)) := hs; have F5 : Hid (Blk w4 b5 [.int .i64 h.fl, .int .i64 h.gp, .int .i64 h.ln, .int .i64 h.rf, .int .i64 h.sp, .int .i64 h.pu, .int .i64 h.br, .int .i64 h.dr, .int .i64 h.lv, .int .i64 h.dO, .int .i64 h.ld, .int .i64 h.qu]) := F5.out.of (hk.block _ F5.out.lt (by omega)); clear hs hk; clear ho))
  go_upto_if 15 with (go_at_call 24; refine (l1Chance_t sb _ a len cap (0 + 40 + 1000) 40 _ FS.out (by omega) (by omega) (by omega)).mono ?_; rintro e w5 ⟨cc, rfl, hs, hk⟩; have F0 : Hid (Blk w5 b0 [.int .i64 0, .int .i64 0, .int .i64 0, .int .i64 0, .int .i64 0, .int .i64 0, .int .i64 0, .int .i64 0, .int .i64 0, .int .i64 0, .int .i64 0, .int .i64 0]) := F0.out.of (hk.block _ F0.out.lt (by omega)); have FK : Hid (Keeps sb w w5) := FK.out.trans hk; have FS : Hid (SrcT w5 sb w.heap.size a len cap (0 + 40 + 1000 + 1)) := hs; have F5 : Hid (Blk w5 b5 [.int .i64 h.fl, .int .i64 h.gp, .int .i64 h.ln, .int .i64 h.rf, .int .i64 h.sp, .int .i64 h.pu, .int .i64 h.br, .int .i64 h.dr, .int .i64 h.lv, .int .i64 h.dO, .int .i64 h.ld, .int .i64 h.qu]) := F5.out.of (hk.block _ F5.out.lt (by omega)); have FO : Hid (OwnE w5 (b5 + 1) v l) := FO.out.keeps hk (by omega); clear hs hk)
  cases cc
  · go_wp2_with (first | (refine load_blk 25 _ Tryz.underlying25 (by kernel_rfl) F5.out rfl rfl rfl ?_) | (refine store_blk [.int .i64 h.fl, .int .i64 h.gp, .int .i64 h.ln, .int .i64 h.rf, .int .i64 h.sp, .int .i64 h.pu, .int .i64 h.br, .int .i64 h.dr, .int .i64 h.lv, .int .i64 h.dO, .int .i64 h.ld, .int .i64 h.qu] 25 _ _ (by kernel_rfl) (by kernel_rfl) (by kernel_rfl) F0.out rfl rfl rfl rfl ?_))
    obtain ⟨Wf, hWf⟩ : ∃ Wf, Wf = w5.setRow b0 [.int .i64 h.fl, .int .i64 h.gp, .int .i64 h.ln, .int .i64 h.rf, .int .i64 h.sp, .int .i64 h.pu, .int .i64 h.br, .int .i64 h.dr, .int .i64 h.lv, .int .i64 h.dO, .int .i64 h.ld, .int .i64 h.qu].toArray := ⟨_, rfl⟩
    have G : Blk Wf b0 [.int .i64 h.fl, .int .i64 h.gp, .int .i64 h.ln, .int .i64 h.rf, .int .i64 h.sp, .int .i64 h.pu, .int .i64 h.br, .int .i64 h.dr, .int .i64 h.lv, .int .i64 h.dO, .int .i64 h.ld, .int .i64 h.qu] := by rw [hWf]; exact F0.out.row [.int .i64 h.fl, .int .i64 h.gp, .int .i64 h.ln, .int .i64 h.rf, .int .i64 h.sp, .int .i64 h.pu, .int .i64 h.br, .int .i64 h.dr, .int .i64 h.lv, .int .i64 h.dO, .int .i64 h.ld, .int .i64 h.qu]
    have hO : OwnE Wf w.heap.size v l := by rw [hWf]; exact ownE_base (ownE_row FO.out (by omega) _) (by omega)
    have hB : Below w.heap.size w Wf := by rw [hWf]; exact below_row (FK.out.below (by omega) (Nat.le_refl _)) (by omega) _
    rw [← hWf]
    clear hWf
    have g0_ := G.c 0 _ rfl
    have g1_ := G.c 1 _ rfl
    have g2_ := G.c 2 _ rfl
    have g3_ := G.c 3 _ rfl
    have g4_ := G.c 4 _ rfl
    have g5_ := G.c 5 _ rfl
    have g6_ := G.c 6 _ rfl
    have g7_ := G.c 7 _ rfl
    have g8_ := G.c 8 _ rfl
    have g9_ := G.c 9 _ rfl
    have g10_ := G.c 10 _ rfl
    have g11_ := G.c 11 _ rfl
    obtain ⟨va, vc, rfl, -⟩ := hO.pin
    exact bodyPost_ret (v := .tuple #[.agg #[.int .i64 h.fl, .int .i64 h.gp, .int .i64 h.ln, .int .i64 h.rf, .int .i64 h.sp, .int .i64 h.pu, .int .i64 h.br, .int .i64 h.dr, .int .i64 h.lv, .int .i64 h.dO, .int .i64 h.ld, .int .i64 h.qu], .slice va l.length vc]) (by simp [results, Tryz.results9, go_sem, g0_, g1_, g2_, g3_, g4_, g5_, g6_, g7_, g8_, g9_, g10_, g11_]) rfl ⟨h, va, vc, l, rfl, hO, hl201, hB⟩
  · go_upto_region 6 with (first | (go_at_call 25; refine (l2Bent_t sb _ a len cap (0 + 40 + 1000 + 1) _ FS.out (by omega)).mono ?_; rintro e w6 ⟨g, rfl, hs, hk⟩; have F0 : Hid (Blk w6 b0 [.int .i64 0, .int .i64 0, .int .i64 0, .int .i64 0, .int .i64 0, .int .i64 0, .int .i64 0, .int .i64 0, .int .i64 0, .int .i64 0, .int .i64 0, .int .i64 0]) := F0.out.of (hk.block _ F0.out.lt (by omega)); have FK : Hid (Keeps sb w w6) := FK.out.trans hk; have FS : Hid (SrcT w6 sb w.heap.size a len cap (0 + 40 + 1000 + 1 + 60)) := hs; have F5 : Hid (Blk w6 b5 [.int .i64 h.fl, .int .i64 h.gp, .int .i64 h.ln, .int .i64 h.rf, .int .i64 h.sp, .int .i64 h.pu, .int .i64 h.br, .int .i64 h.dr, .int .i64 h.lv, .int .i64 h.dO, .int .i64 h.ld, .int .i64 h.qu]) := F5.out.of (hk.block _ F5.out.lt (by omega)); have FO : Hid (OwnE w6 (b5 + 1) v l) := FO.out.keeps hk (by omega); clear hs hk) | (refine store_blk [.int .i64 g.fl, .int .i64 g.gp, .int .i64 g.ln, .int .i64 g.rf, .int .i64 g.sp, .int .i64 g.pu, .int .i64 g.br, .int .i64 g.dr, .int .i64 g.lv, .int .i64 g.dO, .int .i64 g.ld, .int .i64 g.qu] 25 _ _ (by kernel_rfl) (by kernel_rfl) (by kernel_rfl) F5.out rfl rfl rfl rfl ?_))
    obtain ⟨w7, hw7⟩ : ∃ W, W = w6.setRow b5 [.int .i64 g.fl, .int .i64 g.gp, .int .i64 g.ln, .int .i64 g.rf, .int .i64 g.sp, .int .i64 g.pu, .int .i64 g.br, .int .i64 g.dr, .int .i64 g.lv, .int .i64 g.dO, .int .i64 g.ld, .int .i64 g.qu].toArray := ⟨_, rfl⟩
    have F0 : Hid (Blk w7 b0 [.int .i64 0, .int .i64 0, .int .i64 0, .int .i64 0, .int .i64 0, .int .i64 0, .int .i64 0, .int .i64 0, .int .i64 0, .int .i64 0, .int .i64 0, .int .i64 0]) := by rw [hw7]; exact F0.out.row_other (by omega) _
    have FO : Hid (OwnE w7 (b5 + 1) v l) := by rw [hw7]; exact ownE_row FO.out (by omega) _
    have F5 : Hid (Blk w7 b5 [.int .i64 g.fl, .int .i64 g.gp, .int .i64 g.ln, .int .i64 g.rf, .int .i64 g.sp, .int .i64 g.pu, .int .i64 g.br, .int .i64 g.dr, .int .i64 g.lv, .int .i64 g.dO, .int .i64 g.ld, .int .i64 g.qu]) := by rw [hw7]; exact F5.out.row [.int .i64 g.fl, .int .i64 g.gp, .int .i64 g.ln, .int .i64 g.rf, .int .i64 g.sp, .int .i64 g.pu, .int .i64 g.br, .int .i64 g.dr, .int .i64 g.lv, .int .i64 g.dO, .int .i64 g.ld, .int .i64 g.qu]
    have FK : Hid (Keeps sb w w7) := by rw [hw7]; exact ⟨FK.out.os, FK.out.tape, FK.out.output, Nat.le_trans FK.out.size (by simp [World.setRow]), fun i hi hn => (setRow_other w6 b5 i _ (by omega)).trans (FK.out.block i hi hn)⟩
    rw [← hw7]
    clear hw7
    go_wp2_with (first | (refine load_blk 25 _ Tryz.underlying25 (by kernel_rfl) F5.out rfl rfl rfl ?_) | (refine store_blk [.int .i64 g.fl, .int .i64 g.gp, .int .i64 g.ln, .int .i64 g.rf, .int .i64 g.sp, .int .i64 g.pu, .int .i64 g.br, .int .i64 g.dr, .int .i64 g.lv, .int .i64 g.dO, .int .i64 g.ld, .int .i64 g.qu] 25 _ _ (by kernel_rfl) (by kernel_rfl) (by kernel_rfl) F0.out rfl rfl rfl rfl ?_))
    obtain ⟨Wf, hWf⟩ : ∃ Wf, Wf = w7.setRow b0 [.int .i64 g.fl, .int .i64 g.gp, .int .i64 g.ln, .int .i64 g.rf, .int .i64 g.sp, .int .i64 g.pu, .int .i64 g.br, .int .i64 g.dr, .int .i64 g.lv, .int .i64 g.dO, .int .i64 g.ld, .int .i64 g.qu].toArray := ⟨_, rfl⟩
    have G : Blk Wf b0 [.int .i64 g.fl, .int .i64 g.gp, .int .i64 g.ln, .int .i64 g.rf, .int .i64 g.sp, .int .i64 g.pu, .int .i64 g.br, .int .i64 g.dr, .int .i64 g.lv, .int .i64 g.dO, .int .i64 g.ld, .int .i64 g.qu] := by rw [hWf]; exact F0.out.row [.int .i64 g.fl, .int .i64 g.gp, .int .i64 g.ln, .int .i64 g.rf, .int .i64 g.sp, .int .i64 g.pu, .int .i64 g.br, .int .i64 g.dr, .int .i64 g.lv, .int .i64 g.dO, .int .i64 g.ld, .int .i64 g.qu]
    have hO : OwnE Wf w.heap.size v l := by rw [hWf]; exact ownE_base (ownE_row FO.out (by omega) _) (by omega)
    have hB : Below w.heap.size w Wf := by rw [hWf]; exact below_row (FK.out.below (by omega) (Nat.le_refl _)) (by omega) _
    rw [← hWf]
    clear hWf
    have g0_ := G.c 0 _ rfl
    have g1_ := G.c 1 _ rfl
    have g2_ := G.c 2 _ rfl
    have g3_ := G.c 3 _ rfl
    have g4_ := G.c 4 _ rfl
    have g5_ := G.c 5 _ rfl
    have g6_ := G.c 6 _ rfl
    have g7_ := G.c 7 _ rfl
    have g8_ := G.c 8 _ rfl
    have g9_ := G.c 9 _ rfl
    have g10_ := G.c 10 _ rfl
    have g11_ := G.c 11 _ rfl
    obtain ⟨va, vc, rfl, -⟩ := hO.pin
    exact bodyPost_ret (v := .tuple #[.agg #[.int .i64 g.fl, .int .i64 g.gp, .int .i64 g.ln, .int .i64 g.rf, .int .i64 g.sp, .int .i64 g.pu, .int .i64 g.br, .int .i64 g.dr, .int .i64 g.lv, .int .i64 g.dO, .int .i64 g.ld, .int .i64 g.qu], .slice va l.length vc]) (by simp [results, Tryz.results9, go_sem, g0_, g1_, g2_, g3_, g4_, g5_, g6_, g7_, g8_, g9_, g10_, g11_]) rfl ⟨g, va, vc, l, rfl, hO, hl201, hB⟩
set_option maxRecDepth 20000 in
theorem DrawFormatEvents_any (a : Option Addr) (len cap : Nat) (w : World) (hc : CodeIn w w.heap.size a len) :
    Calls Tryz.prog 5 #[.slice a len cap] w (isLs w) := by
  obtain ⟨b0, hb0⟩ : ∃ b0, b0 = w.heap.size := ⟨_, rfl⟩
  obtain ⟨W0, hW0⟩ : ∃ W0, W0 = w.alloc (.cells #[.int .i64 0, .int .i64 0, .int .i64 0, .int .i64 0, .int .i64 0, .int .i64 0, .int .i64 0, .int .i64 0, .int .i64 0, .int .i64 0, .int .i64 0, .int .i64 0] 25) := ⟨_, rfl⟩
  have hsz : W0.heap.size = b0 + 1 := by rw [hW0, hb0]; simp
  have HC : CodeIn W0 W0.heap.size a len := by
    rw [hW0]
    exact codeIn_up (hc.keep fun b off _ hb => World.cell?_alloc_past _ _ _ hb) (by simp)
  have F0 : Hid (Blk W0 b0 [.int .i64 0, .int .i64 0, .int .i64 0, .int .i64 0, .int .i64 0, .int .i64 0, .int .i64 0, .int .i64 0, .int .i64 0, .int .i64 0, .int .i64 0, .int .i64 0]) := by rw [hW0]; exact Blk.at_ w #[.int .i64 0, .int .i64 0, .int .i64 0, .int .i64 0, .int .i64 0, .int .i64 0, .int .i64 0, .int .i64 0, .int .i64 0, .int .i64 0, .int .i64 0, .int .i64 0] _ _ hb0
  have FB : Hid (Below w.heap.size w W0) := by rw [hW0]; exact (Below.refl _ _).alloc (Nat.le_refl _) _
  have CL := l10List_any a len cap W0 HC
  unfold isLs at CL
  rw [hsz] at CL
  have HW0 : Hid (W0 = w.alloc (.cells #[.int .i64 0, .int .i64 0, .int .i64 0, .int .i64 0, .int .i64 0, .int .i64 0, .int .i64 0, .int .i64 0, .int .i64 0, .int .i64 0, .int .i64 0, .int .i64 0] 25)) := hW0
  have HB0 : Hid (b0 = w.heap.size) := hb0
  have h0w : w.heap.size ≤ b0 := by omega
  clear hW0 hc hsz hb0 HC
  unfold isLs
  go_enter Tryz.func5, Tryz.ntmps5
  go_upto_region 1 with fail
  rw [← HW0.out, ← HB0.out]
  clear HW0 HB0
  go_wp2_with (first | (go_at_call 9; refine CL.mono ?_; rintro e w1 ⟨h, va, vc, l, rfl, ho, hl201, hb⟩; have F0 : Hid (Blk w1 b0 [.int .i64 0, .int .i64 0, .int .i64 0, .int .i64 0, .int .i64 0, .int .i64 0, .int .i64 0, .int .i64 0, .int .i64 0, .int .i64 0, .int .i64 0, .int .i64 0]) := F0.out.below hb (by omega); have FO : Hid (OwnE w1 (b0 + 1) (.slice va l.length vc) l) := ho; have FB : Hid (Below w.heap.size w w1) := FB.out.trans (hb.mono (by omega)); clear ho hb) | (refine store_blk [.int .i64 h.fl, .int .i64 h.gp, .int .i64 h.ln, .int .i64 h.rf, .int .i64 h.sp, .int .i64 h.pu, .int .i64 h.br, .int .i64 h.dr, .int .i64 h.lv, .int .i64 h.dO, .int .i64 h.ld, .int .i64 h.qu] 25 _ _ (by kernel_rfl) (by kernel_rfl) (by kernel_rfl) F0.out rfl rfl rfl rfl ?_))
  obtain ⟨Wf, hWf⟩ : ∃ Wf, Wf = w1.setRow b0 [.int .i64 h.fl, .int .i64 h.gp, .int .i64 h.ln, .int .i64 h.rf, .int .i64 h.sp, .int .i64 h.pu, .int .i64 h.br, .int .i64 h.dr, .int .i64 h.lv, .int .i64 h.dO, .int .i64 h.ld, .int .i64 h.qu].toArray := ⟨_, rfl⟩
  have G : Blk Wf b0 [.int .i64 h.fl, .int .i64 h.gp, .int .i64 h.ln, .int .i64 h.rf, .int .i64 h.sp, .int .i64 h.pu, .int .i64 h.br, .int .i64 h.dr, .int .i64 h.lv, .int .i64 h.dO, .int .i64 h.ld, .int .i64 h.qu] := by rw [hWf]; exact F0.out.row [.int .i64 h.fl, .int .i64 h.gp, .int .i64 h.ln, .int .i64 h.rf, .int .i64 h.sp, .int .i64 h.pu, .int .i64 h.br, .int .i64 h.dr, .int .i64 h.lv, .int .i64 h.dO, .int .i64 h.ld, .int .i64 h.qu]
  have hO : OwnE Wf w.heap.size (.slice va l.length vc) l := by rw [hWf]; exact ownE_base (ownE_row FO.out (by omega) _) (by omega)
  have hB : Below w.heap.size w Wf := by rw [hWf]; exact below_row FB.out (by omega) _
  rw [← hWf]
  clear hWf
  have g0_ := G.c 0 _ rfl
  have g1_ := G.c 1 _ rfl
  have g2_ := G.c 2 _ rfl
  have g3_ := G.c 3 _ rfl
  have g4_ := G.c 4 _ rfl
  have g5_ := G.c 5 _ rfl
  have g6_ := G.c 6 _ rfl
  have g7_ := G.c 7 _ rfl
  have g8_ := G.c 8 _ rfl
  have g9_ := G.c 9 _ rfl
  have g10_ := G.c 10 _ rfl
  have g11_ := G.c 11 _ rfl
  exact bodyPost_ret (v := .tuple #[.agg #[.int .i64 h.fl, .int .i64 h.gp, .int .i64 h.ln, .int .i64 h.rf, .int .i64 h.sp, .int .i64 h.pu, .int .i64 h.br, .int .i64 h.dr, .int .i64 h.lv, .int .i64 h.dO, .int .i64 h.ld, .int .i64 h.qu], .slice va l.length vc]) (by simp [results, Tryz.results5, go_sem, g0_, g1_, g2_, g3_, g4_, g5_, g6_, g7_, g8_, g9_, g10_, g11_]) rfl ⟨h, va, vc, l, rfl, hO, hl201, hB⟩
end Go.Proofs.YtoacnglcneliiaaGreatDoor
