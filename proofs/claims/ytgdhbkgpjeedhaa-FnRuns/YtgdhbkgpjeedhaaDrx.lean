/-
  Draws: a house, a car and a floor.
-/
import Derived.Test.YtgdhbkgpjeedhaaDrw
import Derived.Test.YtgdhbkgpjeedhaaHouseB
import Derived.Test.YtgdhbkgpjeedhaaCarX
import Derived.Test.YtgdhbkgpjeedhaaEnG
import Derived.Deep.DeepCutAuto
namespace Go.Proofs.Ytgdhbkgpjeedhaa
open Go.RowKit Pl
set_option linter.unusedSimpArgs false
set_option linter.unusedVariables false

theorem l2BentB_t (sb B : Nat) (a : Option Addr) (len cap T : Nat) (w : World) (h : SrcT w sb B a len cap T) (hT : T ≤ 800000) :
    Calls Try.prog 42 #[.pointer (some ⟨sb, 0, none⟩)] w fun e w' => ∃ h : Hs, e = .returned (.agg #[.int .i64 h.fl, .int .i64 h.gp, .int .i64 h.ln, .int .i64 h.rf, .int .i64 h.sp, .int .i64 h.pu, .int .i64 h.br, .int .i64 h.dr, .int .i64 h.lv, .int .i64 h.dO, .int .i64 h.ld, .int .i64 h.qu]) ∧ ((0 ≤ h.ld ∧ h.ld ≤ 21) ∧ (1 ≤ h.fl ∧ h.fl ≤ 13)) ∧ SrcT w' sb B a len cap (T + 60) ∧ Keeps sb w w' := by
  obtain ⟨t, ht, h⟩ := h
  refine (l2BentB_src sb B a len cap t w h (by omega)).mono ?_
  rintro e w' ⟨v, t', he, ht', hs, hk, h1, h2⟩
  exact ⟨v, he, ⟨h1, h2⟩, ⟨_, by omega, hs⟩, hk⟩
theorem SrcT.row {w : World} {sb B : Nat} {a : Option Addr} {len cap T : Nat} (h : SrcT w sb B a len cap T) (b : Nat) (vs : Array Value) (hb : b ≠ sb) (hB : B ≤ b) : SrcT (w.setRow b vs) sb B a len cap T := by
  obtain ⟨t, ht, h⟩ := h
  refine ⟨t, ht, ?_⟩
  have hcell : ∀ (k o : Nat), k ≠ b → (w.setRow b vs).cell? ⟨k, o, none⟩ = w.cell? ⟨k, o, none⟩ := fun k o hk => World.cell?_of_block (w := w) (setRow_other w b k vs hk)
  exact ⟨by have := h.lt; simpa using this, h.hB, (hcell sb 0 (Ne.symm hb)).trans h.c0, (hcell sb 1 (Ne.symm hb)).trans h.c1, (World.frozen?_of_block (w := w) (setRow_other w b sb vs (Ne.symm hb))).trans h.fz, h.hc.keep fun c off hc _ => hcell c off (by omega)⟩
theorem Keeps.row {sb b : Nat} {a w : World} (h : Keeps sb a w) (hb : a.heap.size ≤ b) (vs : Array Value) : Keeps sb a (w.setRow b vs) :=
  ⟨h.os, h.tape, h.output, by simpa using h.size, fun i hi hn => (setRow_other w b i vs (by omega)).trans (h.block i hi hn)⟩
theorem SrcT.putB {sb B : Nat} {a : Option Addr} {len cap T : Nat} {b : Nat} (hb : b ≠ sb) (hB : B ≤ b) : ∀ (vs : List Value) (k : Nat) {w : World}, SrcT w sb B a len cap T → SrcT (putB w b k vs) sb B a len cap T
  | [], _, _, h => h
  | v :: vs, k, _, h => SrcT.putB hb hB vs (k + 1) (h.other b k v hb hB)
theorem Keeps.putB {sb b : Nat} {a : World} (hb : a.heap.size ≤ b) : ∀ (vs : List Value) (k : Nat) {w : World}, Keeps sb a w → Keeps sb a (putB w b k vs)
  | [], _, _, h => h
  | v :: vs, k, _, h => Keeps.putB hb vs (k + 1) (h.own hb _ _)
set_option maxRecDepth 20000 in
set_option maxHeartbeats 32000000 in
theorem l4Draw_any (a : Option Addr) (len cap : Nat) (w : World) (hc : CodeIn w w.heap.size a len) :
    Calls Try.prog 15 #[.slice a len cap] w fun e w' => ∃ (h : Hs) (c : Cs) (f : Int), e = .returned (.tuple #[.agg #[.int .i64 h.fl, .int .i64 h.gp, .int .i64 h.ln, .int .i64 h.rf, .int .i64 h.sp, .int .i64 h.pu, .int .i64 h.br, .int .i64 h.dr, .int .i64 h.lv, .int .i64 h.dO, .int .i64 h.ld, .int .i64 h.qu], .agg #[.int .i64 c.pos, .int .i64 c.vel, .int .i64 c.door], .int .i64 f]) ∧ ((0 ≤ h.ld ∧ h.ld ≤ 21) ∧ (1 ≤ h.fl ∧ h.fl ≤ 13)) ∧ Below w.heap.size w w' := by
  obtain ⟨b0, hb0⟩ : ∃ b0, b0 = w.heap.size := ⟨_, rfl⟩
  obtain ⟨b1, hb1⟩ : ∃ b1, b1 = b0 + 1 := ⟨_, rfl⟩
  obtain ⟨W0, hW0⟩ : ∃ W0, W0 = (w.alloc (.cells #[.int .i64 0, .int .i64 0, .int .i64 0, .int .i64 0, .int .i64 0, .int .i64 0, .int .i64 0, .int .i64 0, .int .i64 0, .int .i64 0, .int .i64 0, .int .i64 0] 25)).alloc (.cells #[.int .i64 0, .int .i64 0, .int .i64 0] 27) := ⟨_, rfl⟩
  have FB0 : Below w.heap.size w W0 := by rw [hW0]; exact ((Below.refl _ _).alloc (Nat.le_refl _) _).alloc (by simp) _
  have HC : Hid (CodeIn W0 w.heap.size a len) := hc.keep fun b off hb _ => FB0.cell (p := ⟨b, off, none⟩) hb
  obtain ⟨sb, hsb⟩ : ∃ sb, sb = W0.heap.size := ⟨_, rfl⟩
  have F0 : Hid (Blk W0 b0 [.int .i64 0, .int .i64 0, .int .i64 0, .int .i64 0, .int .i64 0, .int .i64 0, .int .i64 0, .int .i64 0, .int .i64 0, .int .i64 0, .int .i64 0, .int .i64 0]) := by rw [hW0]; exact (Blk.at_ w #[.int .i64 0, .int .i64 0, .int .i64 0, .int .i64 0, .int .i64 0, .int .i64 0, .int .i64 0, .int .i64 0, .int .i64 0, .int .i64 0, .int .i64 0, .int .i64 0] _ _ hb0).alloc _
  have F1 : Hid (Blk W0 b1 [.int .i64 0, .int .i64 0, .int .i64 0]) := by rw [hW0]; exact Blk.at_ _ #[.int .i64 0, .int .i64 0, .int .i64 0] _ _ (by simp; omega)
  have l0 : b0 < sb := by rw [hsb]; exact F0.out.lt
  have l1 : b1 < sb := by rw [hsb]; exact F1.out.lt
  have l01 : b0 < b1 := by omega
  have leb0 : w.heap.size ≤ b0 := by omega
  have leb1 : w.heap.size ≤ b1 := by omega
  have FK : Hid (Keeps sb w W0) := by rw [hW0]; exact ((Keeps.refl _ _).alloc _).alloc _
  have HSB : Hid (sb = W0.heap.size) := hsb
  have HSZ : Hid (w.heap.size ≤ W0.heap.size) := FB0.size
  clear hsb hc FB0
  go_enter Try.func15, Try.ntmps15
  go_upto_region 1 with fail
  rw [← hb0, ← hb1, ← hW0]
  clear hb0 hb1 hW0
  go_upto_region 2 with (go_at_call 16; refine (l1Source_t w.heap.size a len cap _ HSZ.out HC.out).mono ?_; rw [← HSB.out]; rintro e w1 ⟨rfl, hs, hk⟩; have F0 : Hid (Blk w1 b0 [.int .i64 0, .int .i64 0, .int .i64 0, .int .i64 0, .int .i64 0, .int .i64 0, .int .i64 0, .int .i64 0, .int .i64 0, .int .i64 0, .int .i64 0, .int .i64 0]) := F0.out.keeps hk (by omega); have F1 : Hid (Blk w1 b1 [.int .i64 0, .int .i64 0, .int .i64 0]) := F1.out.keeps hk (by omega); have FS : Hid (SrcT w1 sb w.heap.size a len cap 0) := hs; have FK : Hid (Keeps sb w w1) := FK.out.trans hk; clear hs hk)
  clear HC HSB HSZ
  go_upto_region 3 with (first | (go_at_call 37; refine (l2House_t sb _ a len cap _ _ FS.out (by omega)).mono ?_; rintro e w2 ⟨h, rfl, hsm, hs, hk⟩; have HSm : Hid (Small h) := hsm; have F0 : Hid (Blk w2 b0 [.int .i64 0, .int .i64 0, .int .i64 0, .int .i64 0, .int .i64 0, .int .i64 0, .int .i64 0, .int .i64 0, .int .i64 0, .int .i64 0, .int .i64 0, .int .i64 0]) := F0.out.keeps hk (by omega); have F1 : Hid (Blk w2 b1 [.int .i64 0, .int .i64 0, .int .i64 0]) := F1.out.keeps hk (by omega); have FS : Hid (SrcT w2 sb w.heap.size a len cap (0 + 40)) := hs; have FK : Hid (Keeps sb w w2) := FK.out.trans hk; clear hs hk; clear hsm) | (refine store_new [.int .i64 h.fl, .int .i64 h.gp, .int .i64 h.ln, .int .i64 h.rf, .int .i64 h.sp, .int .i64 h.pu, .int .i64 h.br, .int .i64 h.dr, .int .i64 h.lv, .int .i64 h.dO, .int .i64 h.ld, .int .i64 h.qu] 25 _ _ (by kernel_rfl) (by kernel_rfl) (by kernel_rfl) rfl rfl rfl rfl ?_))
  obtain ⟨b2, hbb⟩ : ∃ b2, b2 = w2.heap.size := ⟨_, rfl⟩
  obtain ⟨w3, hw2⟩ : ∃ w3, w3 = w2.alloc (.cells #[.int .i64 h.fl, .int .i64 h.gp, .int .i64 h.ln, .int .i64 h.rf, .int .i64 h.sp, .int .i64 h.pu, .int .i64 h.br, .int .i64 h.dr, .int .i64 h.lv, .int .i64 h.dO, .int .i64 h.ld, .int .i64 h.qu] 25) := ⟨_, rfl⟩
  have nb2s : sb < b2 := by rw [hbb]; exact FS.out.lt
  have nb2b0 : b0 < b2 := by rw [hbb]; exact F0.out.lt
  have nb2b1 : b1 < b2 := by rw [hbb]; exact F1.out.lt
  have F0 : Hid (Blk w3 b0 [.int .i64 0, .int .i64 0, .int .i64 0, .int .i64 0, .int .i64 0, .int .i64 0, .int .i64 0, .int .i64 0, .int .i64 0, .int .i64 0, .int .i64 0, .int .i64 0]) := by rw [hw2]; exact F0.out.alloc _
  have F1 : Hid (Blk w3 b1 [.int .i64 0, .int .i64 0, .int .i64 0]) := by rw [hw2]; exact F1.out.alloc _
  have F2 : Hid (Blk w3 b2 [.int .i64 h.fl, .int .i64 h.gp, .int .i64 h.ln, .int .i64 h.rf, .int .i64 h.sp, .int .i64 h.pu, .int .i64 h.br, .int .i64 h.dr, .int .i64 h.lv, .int .i64 h.dO, .int .i64 h.ld, .int .i64 h.qu]) := by rw [hw2]; exact Blk.at_ w2 #[.int .i64 h.fl, .int .i64 h.gp, .int .i64 h.ln, .int .i64 h.rf, .int .i64 h.sp, .int .i64 h.pu, .int .i64 h.br, .int .i64 h.dr, .int .i64 h.lv, .int .i64 h.dO, .int .i64 h.ld, .int .i64 h.qu] _ _ hbb
  have FS : Hid (SrcT w3 sb w.heap.size a len cap (0 + 40)) := by rw [hw2]; exact FS.out.alloc _
  have FK : Hid (Keeps sb w w3) := by rw [hw2]; exact FK.out.alloc _
  (try simp only [Act.put])
  rw [← hw2, ← hbb]
  clear hbb hw2
  have HO : Hid h.Ok := HSm.out.ok
  have s1 := HSm.out.fl1; have s2 := HSm.out.fl2; have s3 := HSm.out.ld1; have s4 := HSm.out.ld2
  go_upto_region 4 with (first | (refine load_blk 25 _ Try.underlying25 (by kernel_rfl) F2.out rfl rfl rfl ?_) | (go_at_call 38; refine (l3DrawCar_t h HO.out sb _ a len cap _ _ FS.out (by omega)).mono ?_; rintro e w4 ⟨g, rfl, hs, hk⟩; have F0 : Hid (Blk w4 b0 [.int .i64 0, .int .i64 0, .int .i64 0, .int .i64 0, .int .i64 0, .int .i64 0, .int .i64 0, .int .i64 0, .int .i64 0, .int .i64 0, .int .i64 0, .int .i64 0]) := F0.out.keeps hk (by omega); have F1 : Hid (Blk w4 b1 [.int .i64 0, .int .i64 0, .int .i64 0]) := F1.out.keeps hk (by omega); have F2 : Hid (Blk w4 b2 [.int .i64 h.fl, .int .i64 h.gp, .int .i64 h.ln, .int .i64 h.rf, .int .i64 h.sp, .int .i64 h.pu, .int .i64 h.br, .int .i64 h.dr, .int .i64 h.lv, .int .i64 h.dO, .int .i64 h.ld, .int .i64 h.qu]) := F2.out.keeps hk (by omega); have FS : Hid (SrcT w4 sb w.heap.size a len cap ((0 + 40) + 40)) := hs; have FK : Hid (Keeps sb w w4) := FK.out.trans hk; clear hs hk) | (refine store_new [.int .i64 g.pos, .int .i64 g.vel, .int .i64 g.door] 27 _ _ (by kernel_rfl) (by kernel_rfl) (by kernel_rfl) rfl rfl rfl rfl ?_))
  obtain ⟨b3, hbb⟩ : ∃ b3, b3 = w4.heap.size := ⟨_, rfl⟩
  obtain ⟨w5, hw2⟩ : ∃ w5, w5 = w4.alloc (.cells #[.int .i64 g.pos, .int .i64 g.vel, .int .i64 g.door] 27) := ⟨_, rfl⟩
  have nb3s : sb < b3 := by rw [hbb]; exact FS.out.lt
  have nb3b0 : b0 < b3 := by rw [hbb]; exact F0.out.lt
  have nb3b1 : b1 < b3 := by rw [hbb]; exact F1.out.lt
  have nb3b2 : b2 < b3 := by rw [hbb]; exact F2.out.lt
  have F0 : Hid (Blk w5 b0 [.int .i64 0, .int .i64 0, .int .i64 0, .int .i64 0, .int .i64 0, .int .i64 0, .int .i64 0, .int .i64 0, .int .i64 0, .int .i64 0, .int .i64 0, .int .i64 0]) := by rw [hw2]; exact F0.out.alloc _
  have F1 : Hid (Blk w5 b1 [.int .i64 0, .int .i64 0, .int .i64 0]) := by rw [hw2]; exact F1.out.alloc _
  have F2 : Hid (Blk w5 b2 [.int .i64 h.fl, .int .i64 h.gp, .int .i64 h.ln, .int .i64 h.rf, .int .i64 h.sp, .int .i64 h.pu, .int .i64 h.br, .int .i64 h.dr, .int .i64 h.lv, .int .i64 h.dO, .int .i64 h.ld, .int .i64 h.qu]) := by rw [hw2]; exact F2.out.alloc _
  have F3 : Hid (Blk w5 b3 [.int .i64 g.pos, .int .i64 g.vel, .int .i64 g.door]) := by rw [hw2]; exact Blk.at_ w4 #[.int .i64 g.pos, .int .i64 g.vel, .int .i64 g.door] _ _ hbb
  have FS : Hid (SrcT w5 sb w.heap.size a len cap ((0 + 40) + 40)) := by rw [hw2]; exact FS.out.alloc _
  have FK : Hid (Keeps sb w w5) := by rw [hw2]; exact FK.out.alloc _
  (try simp only [Act.put])
  rw [← hw2, ← hbb]
  clear hbb hw2
  have c0 := F2.out.c 0 _ rfl
  go_upto_region 5 with (go_at_call 39; refine (l1Next_tW sb _ a len cap _ (h.fl + 2) _ FS.out (by omega) (by omega) (by omega)).mono ?_; rintro e w6 ⟨v, rfl, hv, hs, hk⟩; have F0 : Hid (Blk w6 b0 [.int .i64 0, .int .i64 0, .int .i64 0, .int .i64 0, .int .i64 0, .int .i64 0, .int .i64 0, .int .i64 0, .int .i64 0, .int .i64 0, .int .i64 0, .int .i64 0]) := F0.out.keeps hk (by omega); have F1 : Hid (Blk w6 b1 [.int .i64 0, .int .i64 0, .int .i64 0]) := F1.out.keeps hk (by omega); have F2 : Hid (Blk w6 b2 [.int .i64 h.fl, .int .i64 h.gp, .int .i64 h.ln, .int .i64 h.rf, .int .i64 h.sp, .int .i64 h.pu, .int .i64 h.br, .int .i64 h.dr, .int .i64 h.lv, .int .i64 h.dO, .int .i64 h.ld, .int .i64 h.qu]) := F2.out.keeps hk (by omega); have F3 : Hid (Blk w6 b3 [.int .i64 g.pos, .int .i64 g.vel, .int .i64 g.door]) := F3.out.keeps hk (by omega); have FS : Hid (SrcT w6 sb w.heap.size a len cap (((0 + 40) + 40) + 1)) := hs; have FK : Hid (Keeps sb w w6) := FK.out.trans hk; clear hs hk)
  clear c0
  go_upto_if 23 with (go_at_call 40; refine (l1Chance_t sb _ a len cap _ 4 _ FS.out (by omega) (by omega) (by omega)).mono ?_; rintro e w7 ⟨ch, rfl, hs, hk⟩; have F0 : Hid (Blk w7 b0 [.int .i64 0, .int .i64 0, .int .i64 0, .int .i64 0, .int .i64 0, .int .i64 0, .int .i64 0, .int .i64 0, .int .i64 0, .int .i64 0, .int .i64 0, .int .i64 0]) := F0.out.keeps hk (by omega); have F1 : Hid (Blk w7 b1 [.int .i64 0, .int .i64 0, .int .i64 0]) := F1.out.keeps hk (by omega); have F2 : Hid (Blk w7 b2 [.int .i64 h.fl, .int .i64 h.gp, .int .i64 h.ln, .int .i64 h.rf, .int .i64 h.sp, .int .i64 h.pu, .int .i64 h.br, .int .i64 h.dr, .int .i64 h.lv, .int .i64 h.dO, .int .i64 h.ld, .int .i64 h.qu]) := F2.out.keeps hk (by omega); have F3 : Hid (Blk w7 b3 [.int .i64 g.pos, .int .i64 g.vel, .int .i64 g.door]) := F3.out.keeps hk (by omega); have FS : Hid (SrcT w7 sb w.heap.size a len cap ((((0 + 40) + 40) + 1) + 1)) := hs; have FK : Hid (Keeps sb w w7) := FK.out.trans hk; clear hs hk)
  go_cut [8] from 9 to 50 (fun u wx => ∃ f : Int, u = .int .i64 f ∧ Blk wx b0 [.int .i64 0, .int .i64 0, .int .i64 0, .int .i64 0, .int .i64 0, .int .i64 0, .int .i64 0, .int .i64 0, .int .i64 0, .int .i64 0, .int .i64 0, .int .i64 0] ∧ Blk wx b1 [.int .i64 0, .int .i64 0, .int .i64 0] ∧ Blk wx b2 [.int .i64 h.fl, .int .i64 h.gp, .int .i64 h.ln, .int .i64 h.rf, .int .i64 h.sp, .int .i64 h.pu, .int .i64 h.br, .int .i64 h.dr, .int .i64 h.lv, .int .i64 h.dO, .int .i64 h.ld, .int .i64 h.qu] ∧ Blk wx b3 [.int .i64 g.pos, .int .i64 g.vel, .int .i64 g.door] ∧ SrcT wx sb w.heap.size a len cap ((((0 + 40) + 40) + 1) + 1) ∧ Keeps sb w wx)
  case first =>
    have k0 := F3.out.c 0 _ rfl
    cases ch
    · go_wp2_with fail
      go_meet
      case rel => exact ⟨_, rfl, F0.out, F1.out, F2.out, F3.out, FS.out, FK.out⟩
    · go_wp2_with (first | (refine load_blk 25 _ Try.underlying25 (by kernel_rfl) F2.out rfl rfl rfl ?_) | (go_at_call 41; refine (l2Near_w h HO.out _ _).mono ?_; rintro e w8 ⟨f, rfl, hb⟩; have F0 : Hid (Blk w8 b0 [.int .i64 0, .int .i64 0, .int .i64 0, .int .i64 0, .int .i64 0, .int .i64 0, .int .i64 0, .int .i64 0, .int .i64 0, .int .i64 0, .int .i64 0, .int .i64 0]) := F0.out.below hb F0.out.lt; have F1 : Hid (Blk w8 b1 [.int .i64 0, .int .i64 0, .int .i64 0]) := F1.out.below hb F1.out.lt; have F2 : Hid (Blk w8 b2 [.int .i64 h.fl, .int .i64 h.gp, .int .i64 h.ln, .int .i64 h.rf, .int .i64 h.sp, .int .i64 h.pu, .int .i64 h.br, .int .i64 h.dr, .int .i64 h.lv, .int .i64 h.dO, .int .i64 h.ld, .int .i64 h.qu]) := F2.out.below hb F2.out.lt; have F3 : Hid (Blk w8 b3 [.int .i64 g.pos, .int .i64 g.vel, .int .i64 g.door]) := F3.out.below hb F3.out.lt; have FS : Hid (SrcT w8 sb w.heap.size a len cap ((((0 + 40) + 40) + 1) + 1)) := FS.out.below hb; have FK : Hid (Keeps sb w w8) := FK.out.of_below hb; clear hb))
      go_meet
      case rel => exact ⟨_, rfl, F0.out, F1.out, F2.out, F3.out, FS.out, FK.out⟩
  case rest =>
  obtain ⟨f, rfl, h_F0, h_F1, h_F2, h_F3, h_S, h_K⟩ := hcut
  have F0 : Hid (Blk wc b0 [.int .i64 0, .int .i64 0, .int .i64 0, .int .i64 0, .int .i64 0, .int .i64 0, .int .i64 0, .int .i64 0, .int .i64 0, .int .i64 0, .int .i64 0, .int .i64 0]) := h_F0
  have F1 : Hid (Blk wc b1 [.int .i64 0, .int .i64 0, .int .i64 0]) := h_F1
  have F2 : Hid (Blk wc b2 [.int .i64 h.fl, .int .i64 h.gp, .int .i64 h.ln, .int .i64 h.rf, .int .i64 h.sp, .int .i64 h.pu, .int .i64 h.br, .int .i64 h.dr, .int .i64 h.lv, .int .i64 h.dO, .int .i64 h.ld, .int .i64 h.qu]) := h_F2
  have F3 : Hid (Blk wc b3 [.int .i64 g.pos, .int .i64 g.vel, .int .i64 g.door]) := h_F3
  have FS : Hid (SrcT wc sb w.heap.size a len cap ((((0 + 40) + 40) + 1) + 1)) := h_S
  have FK : Hid (Keeps sb w wc) := h_K
  clear h_F0 h_F1 h_F2 h_F3 h_S h_K
  obtain ⟨wa, hwa⟩ : ∃ q, q = wc := ⟨_, rfl⟩
  rw [← hwa] at F0 F1 F2 F3 FS FK ⊢
  clear hwa
  go_upto_if 29 with (go_at_call 40; refine (l1Chance_t sb _ a len cap _ 3 _ FS.out (by omega) (by omega) (by omega)).mono ?_; rintro e w8 ⟨ch, rfl, hs, hk⟩; have F0 : Hid (Blk w8 b0 [.int .i64 0, .int .i64 0, .int .i64 0, .int .i64 0, .int .i64 0, .int .i64 0, .int .i64 0, .int .i64 0, .int .i64 0, .int .i64 0, .int .i64 0, .int .i64 0]) := F0.out.keeps hk (by omega); have F1 : Hid (Blk w8 b1 [.int .i64 0, .int .i64 0, .int .i64 0]) := F1.out.keeps hk (by omega); have F2 : Hid (Blk w8 b2 [.int .i64 h.fl, .int .i64 h.gp, .int .i64 h.ln, .int .i64 h.rf, .int .i64 h.sp, .int .i64 h.pu, .int .i64 h.br, .int .i64 h.dr, .int .i64 h.lv, .int .i64 h.dO, .int .i64 h.ld, .int .i64 h.qu]) := F2.out.keeps hk (by omega); have F3 : Hid (Blk w8 b3 [.int .i64 g.pos, .int .i64 g.vel, .int .i64 g.door]) := F3.out.keeps hk (by omega); have FS : Hid (SrcT w8 sb w.heap.size a len cap (((((0 + 40) + 40) + 1) + 1) + 1)) := hs; have FK : Hid (Keeps sb w w8) := FK.out.trans hk; clear hs hk)
  go_cut [8] from 9 to 50 (fun u wx => u = .int .i64 f ∧ ∃ g2 : Cs, Blk wx b0 [.int .i64 0, .int .i64 0, .int .i64 0, .int .i64 0, .int .i64 0, .int .i64 0, .int .i64 0, .int .i64 0, .int .i64 0, .int .i64 0, .int .i64 0, .int .i64 0] ∧ Blk wx b1 [.int .i64 0, .int .i64 0, .int .i64 0] ∧ Blk wx b2 [.int .i64 h.fl, .int .i64 h.gp, .int .i64 h.ln, .int .i64 h.rf, .int .i64 h.sp, .int .i64 h.pu, .int .i64 h.br, .int .i64 h.dr, .int .i64 h.lv, .int .i64 h.dO, .int .i64 h.ld, .int .i64 h.qu] ∧ Blk wx b3 [.int .i64 g2.pos, .int .i64 g2.vel, .int .i64 g2.door] ∧ SrcT wx sb w.heap.size a len cap (((((0 + 40) + 40) + 1) + 1) + 1) ∧ Keeps sb w wx)
  case first =>
    have k2 := F3.out.c 2 _ rfl
    have kf2 := F3.out.f 2 (Nat.le_of_ble_eq_true rfl)
    cases ch
    · go_wp2_with fail
      go_meet
      case rel => exact ⟨rfl, g, F0.out, F1.out, F2.out, F3.out, FS.out, FK.out⟩
    · go_wp2_with fail
      go_meet
      case rel => exact ⟨rfl, ⟨g.pos, g.vel, 0⟩, F0.out.other (by omega), F1.out.other (by omega), F2.out.other (by omega), F3.out.set (.int .i64 0) (Nat.le_of_ble_eq_true rfl), FS.out.other _ _ _ (by omega) (by omega), FK.out.own (by omega) _ _⟩
  case rest =>
  obtain ⟨rfl, g2, h_F0, h_F1, h_F2, h_F3, h_S, h_K⟩ := hcut
  have F0 : Hid (Blk wc b0 [.int .i64 0, .int .i64 0, .int .i64 0, .int .i64 0, .int .i64 0, .int .i64 0, .int .i64 0, .int .i64 0, .int .i64 0, .int .i64 0, .int .i64 0, .int .i64 0]) := h_F0
  have F1 : Hid (Blk wc b1 [.int .i64 0, .int .i64 0, .int .i64 0]) := h_F1
  have F2 : Hid (Blk wc b2 [.int .i64 h.fl, .int .i64 h.gp, .int .i64 h.ln, .int .i64 h.rf, .int .i64 h.sp, .int .i64 h.pu, .int .i64 h.br, .int .i64 h.dr, .int .i64 h.lv, .int .i64 h.dO, .int .i64 h.ld, .int .i64 h.qu]) := h_F2
  have F3 : Hid (Blk wc b3 [.int .i64 g2.pos, .int .i64 g2.vel, .int .i64 g2.door]) := h_F3
  have FS : Hid (SrcT wc sb w.heap.size a len cap (((((0 + 40) + 40) + 1) + 1) + 1)) := h_S
  have FK : Hid (Keeps sb w wc) := h_K
  clear h_F0 h_F1 h_F2 h_F3 h_S h_K
  obtain ⟨wb, hwb⟩ : ∃ q, q = wc := ⟨_, rfl⟩
  rw [← hwb] at F0 F1 F2 F3 FS FK ⊢
  clear hwb
  go_upto_if 32 with (go_at_call 40; refine (l1Chance_t sb _ a len cap _ 30 _ FS.out (by omega) (by omega) (by omega)).mono ?_; rintro e w9 ⟨ch, rfl, hs, hk⟩; have F0 : Hid (Blk w9 b0 [.int .i64 0, .int .i64 0, .int .i64 0, .int .i64 0, .int .i64 0, .int .i64 0, .int .i64 0, .int .i64 0, .int .i64 0, .int .i64 0, .int .i64 0, .int .i64 0]) := F0.out.keeps hk (by omega); have F1 : Hid (Blk w9 b1 [.int .i64 0, .int .i64 0, .int .i64 0]) := F1.out.keeps hk (by omega); have F2 : Hid (Blk w9 b2 [.int .i64 h.fl, .int .i64 h.gp, .int .i64 h.ln, .int .i64 h.rf, .int .i64 h.sp, .int .i64 h.pu, .int .i64 h.br, .int .i64 h.dr, .int .i64 h.lv, .int .i64 h.dO, .int .i64 h.ld, .int .i64 h.qu]) := F2.out.keeps hk (by omega); have F3 : Hid (Blk w9 b3 [.int .i64 g2.pos, .int .i64 g2.vel, .int .i64 g2.door]) := F3.out.keeps hk (by omega); have FS : Hid (SrcT w9 sb w.heap.size a len cap ((((((0 + 40) + 40) + 1) + 1) + 1) + 1)) := hs; have FK : Hid (Keeps sb w w9) := FK.out.trans hk; clear hs hk)
  go_cut [8] from 9 to 50 (fun u wx => u = .int .i64 f ∧ ∃ h2 : Hs, ((0 ≤ h2.ld ∧ h2.ld ≤ 21) ∧ (1 ≤ h2.fl ∧ h2.fl ≤ 13)) ∧ Blk wx b0 [.int .i64 0, .int .i64 0, .int .i64 0, .int .i64 0, .int .i64 0, .int .i64 0, .int .i64 0, .int .i64 0, .int .i64 0, .int .i64 0, .int .i64 0, .int .i64 0] ∧ Blk wx b1 [.int .i64 0, .int .i64 0, .int .i64 0] ∧ Blk wx b2 [.int .i64 h2.fl, .int .i64 h2.gp, .int .i64 h2.ln, .int .i64 h2.rf, .int .i64 h2.sp, .int .i64 h2.pu, .int .i64 h2.br, .int .i64 h2.dr, .int .i64 h2.lv, .int .i64 h2.dO, .int .i64 h2.ld, .int .i64 h2.qu] ∧ Blk wx b3 [.int .i64 g2.pos, .int .i64 g2.vel, .int .i64 g2.door] ∧ SrcT wx sb w.heap.size a len cap (((((((0 + 40) + 40) + 1) + 1) + 1) + 1) + 60) ∧ Keeps sb w wx)
  case first =>
    cases ch
    · go_wp2_with fail
      go_meet
      case rel => exact ⟨rfl, h, ⟨⟨by omega, by omega⟩, ⟨by omega, by omega⟩⟩, F0.out, F1.out, F2.out, F3.out, FS.out.more (by omega), FK.out⟩
    · go_wp2_with (first | (go_at_call 42; refine (l2BentB_t sb _ a len cap _ _ FS.out (by omega)).mono ?_; rintro e wd ⟨h3, rfl, hbd, hs, hk⟩; have HBD : Hid ((0 ≤ h3.ld ∧ h3.ld ≤ 21) ∧ (1 ≤ h3.fl ∧ h3.fl ≤ 13)) := hbd; clear hbd; have F0 : Hid (Blk wd b0 [.int .i64 0, .int .i64 0, .int .i64 0, .int .i64 0, .int .i64 0, .int .i64 0, .int .i64 0, .int .i64 0, .int .i64 0, .int .i64 0, .int .i64 0, .int .i64 0]) := F0.out.keeps hk (by omega); have F1 : Hid (Blk wd b1 [.int .i64 0, .int .i64 0, .int .i64 0]) := F1.out.keeps hk (by omega); have F2 : Hid (Blk wd b2 [.int .i64 h.fl, .int .i64 h.gp, .int .i64 h.ln, .int .i64 h.rf, .int .i64 h.sp, .int .i64 h.pu, .int .i64 h.br, .int .i64 h.dr, .int .i64 h.lv, .int .i64 h.dO, .int .i64 h.ld, .int .i64 h.qu]) := F2.out.keeps hk (by omega); have F3 : Hid (Blk wd b3 [.int .i64 g2.pos, .int .i64 g2.vel, .int .i64 g2.door]) := F3.out.keeps hk (by omega); have FS : Hid (SrcT wd sb w.heap.size a len cap (((((((0 + 40) + 40) + 1) + 1) + 1) + 1) + 60)) := hs; have FK : Hid (Keeps sb w wd) := FK.out.trans hk; clear hs hk) | (refine store_blk [.int .i64 h3.fl, .int .i64 h3.gp, .int .i64 h3.ln, .int .i64 h3.rf, .int .i64 h3.sp, .int .i64 h3.pu, .int .i64 h3.br, .int .i64 h3.dr, .int .i64 h3.lv, .int .i64 h3.dO, .int .i64 h3.ld, .int .i64 h3.qu] 25 _ _ (by kernel_rfl) (by kernel_rfl) (by kernel_rfl) F2.out rfl rfl rfl rfl ?_))
      go_meet
      case rel => exact ⟨rfl, h3, HBD.out, F0.out.row_other (by omega) _, F1.out.row_other (by omega) _, F2.out.row [.int .i64 h3.fl, .int .i64 h3.gp, .int .i64 h3.ln, .int .i64 h3.rf, .int .i64 h3.sp, .int .i64 h3.pu, .int .i64 h3.br, .int .i64 h3.dr, .int .i64 h3.lv, .int .i64 h3.dO, .int .i64 h3.ld, .int .i64 h3.qu], F3.out.row_other (by omega) _, FS.out.row _ _ (by omega) (by omega), FK.out.row (by omega) _⟩
  case rest =>
  obtain ⟨rfl, h2, hbd, h_F0, h_F1, h_F2, h_F3, h_S, h_K⟩ := hcut
  have F0 : Hid (Blk wc b0 [.int .i64 0, .int .i64 0, .int .i64 0, .int .i64 0, .int .i64 0, .int .i64 0, .int .i64 0, .int .i64 0, .int .i64 0, .int .i64 0, .int .i64 0, .int .i64 0]) := h_F0
  have F1 : Hid (Blk wc b1 [.int .i64 0, .int .i64 0, .int .i64 0]) := h_F1
  have F2 : Hid (Blk wc b2 [.int .i64 h2.fl, .int .i64 h2.gp, .int .i64 h2.ln, .int .i64 h2.rf, .int .i64 h2.sp, .int .i64 h2.pu, .int .i64 h2.br, .int .i64 h2.dr, .int .i64 h2.lv, .int .i64 h2.dO, .int .i64 h2.ld, .int .i64 h2.qu]) := h_F2
  have F3 : Hid (Blk wc b3 [.int .i64 g2.pos, .int .i64 g2.vel, .int .i64 g2.door]) := h_F3
  have FS : Hid (SrcT wc sb w.heap.size a len cap (((((((0 + 40) + 40) + 1) + 1) + 1) + 1) + 60)) := h_S
  have FK : Hid (Keeps sb w wc) := h_K
  clear h_F0 h_F1 h_F2 h_F3 h_S h_K
  obtain ⟨wq, hwq⟩ : ∃ q, q = wc := ⟨_, rfl⟩
  rw [← hwq] at F0 F1 F2 F3 FS FK ⊢
  clear hwq
  have HBD : Hid ((0 ≤ h2.ld ∧ h2.ld ≤ 21) ∧ (1 ≤ h2.fl ∧ h2.fl ≤ 13)) := hbd
  have ew : IntKind.i64.wrap (h2.fl + 1) = h2.fl + 1 := IntWalk.i64_in _ (by omega)
  clear hbd
  go_upto_region 11 with fail
  have F0 : Hid (Blk wq.drew b0 [.int .i64 0, .int .i64 0, .int .i64 0, .int .i64 0, .int .i64 0, .int .i64 0, .int .i64 0, .int .i64 0, .int .i64 0, .int .i64 0, .int .i64 0, .int .i64 0]) := F0.out.below (Below.refl _ _).drew F0.out.lt
  have F1 : Hid (Blk wq.drew b1 [.int .i64 0, .int .i64 0, .int .i64 0]) := F1.out.below (Below.refl _ _).drew F1.out.lt
  have F2 : Hid (Blk wq.drew b2 [.int .i64 h2.fl, .int .i64 h2.gp, .int .i64 h2.ln, .int .i64 h2.rf, .int .i64 h2.sp, .int .i64 h2.pu, .int .i64 h2.br, .int .i64 h2.dr, .int .i64 h2.lv, .int .i64 h2.dO, .int .i64 h2.ld, .int .i64 h2.qu]) := F2.out.below (Below.refl _ _).drew F2.out.lt
  have F3 : Hid (Blk wq.drew b3 [.int .i64 g2.pos, .int .i64 g2.vel, .int .i64 g2.door]) := F3.out.below (Below.refl _ _).drew F3.out.lt
  have FS : Hid (SrcT wq.drew sb w.heap.size a len cap (((((((0 + 40) + 40) + 1) + 1) + 1) + 1) + 60)) := FS.out.drew
  have FK : Hid (Keeps sb w wq.drew) := FK.out.of_below (Below.refl _ _).drew
  refine wp_region_held_drew (S := (fun w'' => Blk w'' b2 ([.int .i64 h2.fl, .int .i64 h2.gp, .int .i64 h2.ln, .int .i64 h2.rf, .int .i64 h2.sp, .int .i64 h2.pu, .int .i64 h2.br, .int .i64 h2.dr, .int .i64 h2.lv, .int .i64 h2.dO, .int .i64 h2.ld, .int .i64 h2.qu]) ∧ Blk w'' b3 ([.int .i64 g2.pos, .int .i64 g2.vel, .int .i64 g2.door]))) (by kernel_rfl) (by (try dsimp only); first | exact ⟨F2.out, F3.out⟩ | go_keep) (fun hHeld => ?_)
  obtain ⟨v_1, hw1⟩ : ∃ v_1, v_1 = wq.drew := ⟨_, rfl⟩
  have F0 : Hid (Blk v_1 b0 [.int .i64 0, .int .i64 0, .int .i64 0, .int .i64 0, .int .i64 0, .int .i64 0, .int .i64 0, .int .i64 0, .int .i64 0, .int .i64 0, .int .i64 0, .int .i64 0]) := by rw [hw1]; exact F0.out
  have F1 : Hid (Blk v_1 b1 [.int .i64 0, .int .i64 0, .int .i64 0]) := by rw [hw1]; exact F1.out
  have F2 : Hid (Blk v_1 b2 [.int .i64 h2.fl, .int .i64 h2.gp, .int .i64 h2.ln, .int .i64 h2.rf, .int .i64 h2.sp, .int .i64 h2.pu, .int .i64 h2.br, .int .i64 h2.dr, .int .i64 h2.lv, .int .i64 h2.dO, .int .i64 h2.ld, .int .i64 h2.qu]) := by rw [hw1]; exact F2.out
  have F3 : Hid (Blk v_1 b3 [.int .i64 g2.pos, .int .i64 g2.vel, .int .i64 g2.door]) := by rw [hw1]; exact F3.out
  have FS : Hid (SrcT v_1 sb w.heap.size a len cap (((((((0 + 40) + 40) + 1) + 1) + 1) + 1) + 60)) := by rw [hw1]; exact FS.out
  have FK : Hid (Keeps sb w v_1) := by rw [hw1]; exact FK.out
  rw [← hw1] at hHeld ⊢
  clear hw1
  refine tkz 0 rfl ?_ (hy := Or.inl ⟨by kernel_rfl, fun wx hSw => exec_load_blk 25 _ Try.underlying25 (by kernel_rfl) rfl rfl hSw.1⟩)
  refine tkz 1 rfl ?_ (hy := Or.inl ⟨by kernel_rfl, fun wx hSw => exec_load_blk 27 _ Try.underlying27 (by kernel_rfl) rfl rfl hSw.2⟩)
  refine tkz 2 rfl ?_
  refine tkz 3 rfl ?_
  refine tkz 4 rfl ?_
  refine tkz 5 rfl ?_
  refine tkz 6 rfl ?_
  refine tkz 7 rfl ?_
  refine tkz 8 rfl ?_
  refine tkz 9 rfl ?_
  refine tkz 10 rfl ?_
  refine tkz 11 rfl ?_
  refine tkz 12 rfl ?_ (hy := Or.inl ⟨by kernel_rfl, by (intro wx hSw; have hq0_0 := hSw.1.c 0 _ rfl; (try dsimp only at hSw); go_simp <;> with_reducible rfl)⟩)
  refine tkz 13 rfl ?_
  refine wpAnyH_ready (rs := [14]) (by kernel_rfl) (by simp) ?_
  refine (AllReadyH.cons rfl (fun K hK => ?_) AllReadyH.nil)
  go_simp
  obtain ⟨lb0, hbb⟩ : ∃ lb0, lb0 = v_1.heap.size := ⟨_, rfl⟩
  obtain ⟨v_2, hw2⟩ : ∃ v_2, v_2 = v_1.alloc (.cells #[.int .i64 f, .int .i64 f, .int .i64 f, .int .i64 f, .int .i64 f, .int .i64 f, .int .i64 f, .int .i64 f, .int .i64 (-2), .int .i64 (h2.fl + 1)] 2) := ⟨_, rfl⟩
  have nlb0_0 := F0.out.lt
  rw [← hbb] at nlb0_0
  have nlb0_1 := F1.out.lt
  rw [← hbb] at nlb0_1
  have nlb0_2 := F2.out.lt
  rw [← hbb] at nlb0_2
  have nlb0_3 := F3.out.lt
  rw [← hbb] at nlb0_3
  have nlb0_s := FS.out.lt
  rw [← hbb] at nlb0_s
  have FL0 : Hid (LstAt v_2 lb0 [f, f, f, f, f, f, f, f, (-2), (h2.fl + 1)]) := by rw [hw2]; exact LstAt.new v_1 [f, f, f, f, f, f, f, f, (-2), (h2.fl + 1)] 2 lb0 hbb (by simp)
  have F0 : Hid (Blk v_2 b0 [.int .i64 0, .int .i64 0, .int .i64 0, .int .i64 0, .int .i64 0, .int .i64 0, .int .i64 0, .int .i64 0, .int .i64 0, .int .i64 0, .int .i64 0, .int .i64 0]) := by rw [hw2]; exact F0.out.alloc _
  have F1 : Hid (Blk v_2 b1 [.int .i64 0, .int .i64 0, .int .i64 0]) := by rw [hw2]; exact F1.out.alloc _
  have F2 : Hid (Blk v_2 b2 [.int .i64 h2.fl, .int .i64 h2.gp, .int .i64 h2.ln, .int .i64 h2.rf, .int .i64 h2.sp, .int .i64 h2.pu, .int .i64 h2.br, .int .i64 h2.dr, .int .i64 h2.lv, .int .i64 h2.dO, .int .i64 h2.ld, .int .i64 h2.qu]) := by rw [hw2]; exact F2.out.alloc _
  have F3 : Hid (Blk v_2 b3 [.int .i64 g2.pos, .int .i64 g2.vel, .int .i64 g2.door]) := by rw [hw2]; exact F3.out.alloc _
  have FS : Hid (SrcT v_2 sb w.heap.size a len cap (((((((0 + 40) + 40) + 1) + 1) + 1) + 1) + 60)) := by rw [hw2]; exact FS.out.alloc _
  have FK : Hid (Keeps sb w v_2) := by rw [hw2]; exact FK.out.alloc _
  rw [← hw2, ← hbb]
  clear hbb hw2
  refine hK.out _ _ (by (try dsimp only); first | exact ⟨F2.out, F3.out⟩ | go_keep) (fun hHeld => ?_)
  clear hK K
  try simp only [Act.put, List.getElem_toArray, List.getElem_cons_succ, List.getElem_cons_zero, List.setIfInBounds_toArray, List.set_cons_zero, List.set_cons_succ]
  refine wpAnyH_ready (rs := [15]) (by kernel_rfl) (by simp) ?_
  refine (AllReadyH.cons rfl (fun K hK => ?_) AllReadyH.nil)
  go_simp
  refine (l1Pick_t sb _ lb0 [f, f, f, f, f, f, f, f, (-2), (h2.fl + 1)] (fun _ => True) (fun _ _ => trivial) a len cap _ _ FS.out (by omega) FL0.out (by simp) (by omega)).mono ?_
  rintro e v_3 ⟨v9, rfl, -, hs, hk⟩
  have F0 : Hid (Blk v_3 b0 [.int .i64 0, .int .i64 0, .int .i64 0, .int .i64 0, .int .i64 0, .int .i64 0, .int .i64 0, .int .i64 0, .int .i64 0, .int .i64 0, .int .i64 0, .int .i64 0]) := F0.out.keeps hk (by omega)
  have F1 : Hid (Blk v_3 b1 [.int .i64 0, .int .i64 0, .int .i64 0]) := F1.out.keeps hk (by omega)
  have F2 : Hid (Blk v_3 b2 [.int .i64 h2.fl, .int .i64 h2.gp, .int .i64 h2.ln, .int .i64 h2.rf, .int .i64 h2.sp, .int .i64 h2.pu, .int .i64 h2.br, .int .i64 h2.dr, .int .i64 h2.lv, .int .i64 h2.dO, .int .i64 h2.ld, .int .i64 h2.qu]) := F2.out.keeps hk (by omega)
  have F3 : Hid (Blk v_3 b3 [.int .i64 g2.pos, .int .i64 g2.vel, .int .i64 g2.door]) := F3.out.keeps hk (by omega)
  have FS : Hid (SrcT v_3 sb w.heap.size a len cap ((((((((0 + 40) + 40) + 1) + 1) + 1) + 1) + 60) + 1)) := hs
  have FK : Hid (Keeps sb w v_3) := FK.out.trans hk
  have FL0 : Hid (LstAt v_3 lb0 [f, f, f, f, f, f, f, f, (-2), (h2.fl + 1)]) := FL0.out.keeps hk (by omega)
  clear hs hk
  try dsimp only
  refine hK.out _ _ (by (try dsimp only); first | exact ⟨F2.out, F3.out⟩ | go_keep) (fun hHeld => ?_)
  clear hK K
  try simp only [Act.put, List.getElem_toArray, List.getElem_cons_succ, List.getElem_cons_zero, List.setIfInBounds_toArray, List.set_cons_zero, List.set_cons_succ]
  refine wpAnyH_ready (rs := [16]) (by kernel_rfl) (by simp) ?_
  refine (AllReadyH.cons rfl (fun K hK => ?_) AllReadyH.nil)
  refine step_ofE rfl ?_
  refine wp_store_whole [.int .i64 h2.fl, .int .i64 h2.gp, .int .i64 h2.ln, .int .i64 h2.rf, .int .i64 h2.sp, .int .i64 h2.pu, .int .i64 h2.br, .int .i64 h2.dr, .int .i64 h2.lv, .int .i64 h2.dO, .int .i64 h2.ld, .int .i64 h2.qu] 25 _ _ (by kernel_rfl) (by kernel_rfl) F0.out rfl rfl rfl rfl ?_
  obtain ⟨v_4, hw2⟩ : ∃ q, q = putB v_3 b0 0 [.int .i64 h2.fl, .int .i64 h2.gp, .int .i64 h2.ln, .int .i64 h2.rf, .int .i64 h2.sp, .int .i64 h2.pu, .int .i64 h2.br, .int .i64 h2.dr, .int .i64 h2.lv, .int .i64 h2.dO, .int .i64 h2.ld, .int .i64 h2.qu] := ⟨_, rfl⟩
  rw [← hw2]
  have F0 : Hid (Blk v_4 b0 [.int .i64 h2.fl, .int .i64 h2.gp, .int .i64 h2.ln, .int .i64 h2.rf, .int .i64 h2.sp, .int .i64 h2.pu, .int .i64 h2.br, .int .i64 h2.dr, .int .i64 h2.lv, .int .i64 h2.dO, .int .i64 h2.ld, .int .i64 h2.qu]) := by rw [hw2]; exact F0.out.put [.int .i64 h2.fl, .int .i64 h2.gp, .int .i64 h2.ln, .int .i64 h2.rf, .int .i64 h2.sp, .int .i64 h2.pu, .int .i64 h2.br, .int .i64 h2.dr, .int .i64 h2.lv, .int .i64 h2.dO, .int .i64 h2.ld, .int .i64 h2.qu] rfl
  have F1 : Hid (Blk v_4 b1 [.int .i64 0, .int .i64 0, .int .i64 0]) := by rw [hw2]; exact Blk.putB_other (by omega) _ 0 F1.out
  have F2 : Hid (Blk v_4 b2 [.int .i64 h2.fl, .int .i64 h2.gp, .int .i64 h2.ln, .int .i64 h2.rf, .int .i64 h2.sp, .int .i64 h2.pu, .int .i64 h2.br, .int .i64 h2.dr, .int .i64 h2.lv, .int .i64 h2.dO, .int .i64 h2.ld, .int .i64 h2.qu]) := by rw [hw2]; exact Blk.putB_other (by omega) _ 0 F2.out
  have F3 : Hid (Blk v_4 b3 [.int .i64 g2.pos, .int .i64 g2.vel, .int .i64 g2.door]) := by rw [hw2]; exact Blk.putB_other (by omega) _ 0 F3.out
  have FS : Hid (SrcT v_4 sb w.heap.size a len cap ((((((((0 + 40) + 40) + 1) + 1) + 1) + 1) + 60) + 1)) := by rw [hw2]; exact SrcT.putB (by omega) (by omega) _ 0 FS.out
  have FK : Hid (Keeps sb w v_4) := by rw [hw2]; exact Keeps.putB (by omega) _ 0 FK.out
  clear hw2
  refine hK.out _ _ (by (try dsimp only); first | exact ⟨F2.out, F3.out⟩ | go_keep) (fun hHeld => ?_)
  clear hK K
  try simp only [Act.put, List.getElem_toArray, List.getElem_cons_succ, List.getElem_cons_zero, List.setIfInBounds_toArray, List.set_cons_zero, List.set_cons_succ]
  refine wpAnyH_ready (rs := [17]) (by kernel_rfl) (by simp) ?_
  refine (AllReadyH.cons rfl (fun K hK => ?_) AllReadyH.nil)
  refine step_ofE rfl ?_
  refine wp_store_whole [.int .i64 g2.pos, .int .i64 g2.vel, .int .i64 g2.door] 27 _ _ (by kernel_rfl) (by kernel_rfl) F1.out rfl rfl rfl rfl ?_
  obtain ⟨v_5, hw2⟩ : ∃ q, q = putB v_4 b1 0 [.int .i64 g2.pos, .int .i64 g2.vel, .int .i64 g2.door] := ⟨_, rfl⟩
  rw [← hw2]
  have F0 : Hid (Blk v_5 b0 [.int .i64 h2.fl, .int .i64 h2.gp, .int .i64 h2.ln, .int .i64 h2.rf, .int .i64 h2.sp, .int .i64 h2.pu, .int .i64 h2.br, .int .i64 h2.dr, .int .i64 h2.lv, .int .i64 h2.dO, .int .i64 h2.ld, .int .i64 h2.qu]) := by rw [hw2]; exact Blk.putB_other (by omega) _ 0 F0.out
  have F1 : Hid (Blk v_5 b1 [.int .i64 g2.pos, .int .i64 g2.vel, .int .i64 g2.door]) := by rw [hw2]; exact F1.out.put [.int .i64 g2.pos, .int .i64 g2.vel, .int .i64 g2.door] rfl
  have F2 : Hid (Blk v_5 b2 [.int .i64 h2.fl, .int .i64 h2.gp, .int .i64 h2.ln, .int .i64 h2.rf, .int .i64 h2.sp, .int .i64 h2.pu, .int .i64 h2.br, .int .i64 h2.dr, .int .i64 h2.lv, .int .i64 h2.dO, .int .i64 h2.ld, .int .i64 h2.qu]) := by rw [hw2]; exact Blk.putB_other (by omega) _ 0 F2.out
  have F3 : Hid (Blk v_5 b3 [.int .i64 g2.pos, .int .i64 g2.vel, .int .i64 g2.door]) := by rw [hw2]; exact Blk.putB_other (by omega) _ 0 F3.out
  have FS : Hid (SrcT v_5 sb w.heap.size a len cap ((((((((0 + 40) + 40) + 1) + 1) + 1) + 1) + 60) + 1)) := by rw [hw2]; exact SrcT.putB (by omega) (by omega) _ 0 FS.out
  have FK : Hid (Keeps sb w v_5) := by rw [hw2]; exact Keeps.putB (by omega) _ 0 FK.out
  clear hw2
  refine hK.out _ _ (by (try dsimp only); first | exact ⟨F2.out, F3.out⟩ | go_keep) (fun hHeld => ?_)
  clear hK K
  try simp only [Act.put, List.getElem_toArray, List.getElem_cons_succ, List.getElem_cons_zero, List.setIfInBounds_toArray, List.set_cons_zero, List.set_cons_succ]
  refine tkz 18 rfl ?_
  refine wpAnyH_done (by kernel_rfl) ?_ _
  have FB : Below w.heap.size w v_5 := FK.out.below (by omega) (Nat.le_refl _)
  have d0 := F0.out.c 0 _ rfl
  have d1 := F0.out.c 1 _ rfl
  have d2 := F0.out.c 2 _ rfl
  have d3 := F0.out.c 3 _ rfl
  have d4 := F0.out.c 4 _ rfl
  have d5 := F0.out.c 5 _ rfl
  have d6 := F0.out.c 6 _ rfl
  have d7 := F0.out.c 7 _ rfl
  have d8 := F0.out.c 8 _ rfl
  have d9 := F0.out.c 9 _ rfl
  have d10 := F0.out.c 10 _ rfl
  have d11 := F0.out.c 11 _ rfl
  have k0 := F1.out.c 0 _ rfl
  have k1 := F1.out.c 1 _ rfl
  have k2 := F1.out.c 2 _ rfl
  go_wp2_with fail
  exact bodyPost_ret (v := .tuple #[.agg #[.int .i64 h2.fl, .int .i64 h2.gp, .int .i64 h2.ln, .int .i64 h2.rf, .int .i64 h2.sp, .int .i64 h2.pu, .int .i64 h2.br, .int .i64 h2.dr, .int .i64 h2.lv, .int .i64 h2.dO, .int .i64 h2.ld, .int .i64 h2.qu], .agg #[.int .i64 g2.pos, .int .i64 g2.vel, .int .i64 g2.door], .int .i64 v9]) (by simp [results, Try.results15, go_sem, d0, d1, d2, d3, d4, d5, d6, d7, d8, d9, d10, d11, k0, k1, k2]) rfl ⟨h2, g2, v9, rfl, HBD.out, FB⟩
end Go.Proofs.Ytgdhbkgpjeedhaa
