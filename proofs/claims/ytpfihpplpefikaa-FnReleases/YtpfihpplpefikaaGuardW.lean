/-
  The shaft that the bytes draw: some shaft, and nothing that was there has turned.
-/
import Derived.Test.YtpfihpplpefikaaCarX
import Derived.Test.YtpfihpplpefikaaCarY
import Derived.Test.YtpfihpplpefikaaDrawL
import Derived.Test.YtpfihpplpefikaaCarU
import Derived.Deep.DeepCutAuto
namespace Go.Proofs.Ytpfihpplpefikaa
open Go.RowKit Pl
set_option linter.unusedSimpArgs false
set_option linter.unusedVariables false

theorem R6.keeps {W w : World} {b sb : Nat} (a : R6 W b) (hk : Keeps sb W w) (hne : b ≠ sb) : R6 w b := a.of (fun o => hk.cell (p := ⟨b, o, none⟩) a.lt hne) (fun o => World.frozen?_of_block (w := W) (a := ⟨b, o, none⟩) (hk.block b a.lt hne))
theorem SW.keeps {W w : World} {b sb : Nat} {s : Sh} (a : SW W b s) (hk : Keeps sb W w) (hne : b ≠ sb) : SW w b s := a.of (fun o => hk.cell (p := ⟨b, o, none⟩) a.lt hne) (fun o => World.frozen?_of_block (w := W) (a := ⟨b, o, none⟩) (hk.block b a.lt hne))
theorem SW.set_lp {W : World} {b : Nat} {s : Sh} (a : SW W b s) (y : Int) : SW (W.setCell ⟨b, 0, none⟩ (.int .i64 y)) b (⟨⟨y, s.lo.vel, s.lo.door⟩, ⟨s.up.pos, s.up.vel, s.up.door⟩⟩ : Sh) :=
  ⟨World.cell?_setCell_same _ _ _ a.c0, (World.cell?_setCell_other _ _ _ _ (by simp)).trans a.c1, (World.cell?_setCell_other _ _ _ _ (by simp)).trans a.c2, (World.cell?_setCell_other _ _ _ _ (by simp)).trans a.c3, (World.cell?_setCell_other _ _ _ _ (by simp)).trans a.c4, (World.cell?_setCell_other _ _ _ _ (by simp)).trans a.c5, (World.frozen?_setCell _ _ _ _).trans a.f0, (World.frozen?_setCell _ _ _ _).trans a.f1, (World.frozen?_setCell _ _ _ _).trans a.f2, (World.frozen?_setCell _ _ _ _).trans a.f3, (World.frozen?_setCell _ _ _ _).trans a.f4, (World.frozen?_setCell _ _ _ _).trans a.f5⟩
theorem SW.set_lv {W : World} {b : Nat} {s : Sh} (a : SW W b s) (y : Int) : SW (W.setCell ⟨b, 1, none⟩ (.int .i64 y)) b (⟨⟨s.lo.pos, y, s.lo.door⟩, ⟨s.up.pos, s.up.vel, s.up.door⟩⟩ : Sh) :=
  ⟨(World.cell?_setCell_other _ _ _ _ (by simp)).trans a.c0, World.cell?_setCell_same _ _ _ a.c1, (World.cell?_setCell_other _ _ _ _ (by simp)).trans a.c2, (World.cell?_setCell_other _ _ _ _ (by simp)).trans a.c3, (World.cell?_setCell_other _ _ _ _ (by simp)).trans a.c4, (World.cell?_setCell_other _ _ _ _ (by simp)).trans a.c5, (World.frozen?_setCell _ _ _ _).trans a.f0, (World.frozen?_setCell _ _ _ _).trans a.f1, (World.frozen?_setCell _ _ _ _).trans a.f2, (World.frozen?_setCell _ _ _ _).trans a.f3, (World.frozen?_setCell _ _ _ _).trans a.f4, (World.frozen?_setCell _ _ _ _).trans a.f5⟩
theorem SW.set_up {W : World} {b : Nat} {s : Sh} (a : SW W b s) (y : Int) : SW (W.setCell ⟨b, 3, none⟩ (.int .i64 y)) b (⟨⟨s.lo.pos, s.lo.vel, s.lo.door⟩, ⟨y, s.up.vel, s.up.door⟩⟩ : Sh) :=
  ⟨(World.cell?_setCell_other _ _ _ _ (by simp)).trans a.c0, (World.cell?_setCell_other _ _ _ _ (by simp)).trans a.c1, (World.cell?_setCell_other _ _ _ _ (by simp)).trans a.c2, World.cell?_setCell_same _ _ _ a.c3, (World.cell?_setCell_other _ _ _ _ (by simp)).trans a.c4, (World.cell?_setCell_other _ _ _ _ (by simp)).trans a.c5, (World.frozen?_setCell _ _ _ _).trans a.f0, (World.frozen?_setCell _ _ _ _).trans a.f1, (World.frozen?_setCell _ _ _ _).trans a.f2, (World.frozen?_setCell _ _ _ _).trans a.f3, (World.frozen?_setCell _ _ _ _).trans a.f4, (World.frozen?_setCell _ _ _ _).trans a.f5⟩
theorem SW.set_uv {W : World} {b : Nat} {s : Sh} (a : SW W b s) (y : Int) : SW (W.setCell ⟨b, 4, none⟩ (.int .i64 y)) b (⟨⟨s.lo.pos, s.lo.vel, s.lo.door⟩, ⟨s.up.pos, y, s.up.door⟩⟩ : Sh) :=
  ⟨(World.cell?_setCell_other _ _ _ _ (by simp)).trans a.c0, (World.cell?_setCell_other _ _ _ _ (by simp)).trans a.c1, (World.cell?_setCell_other _ _ _ _ (by simp)).trans a.c2, (World.cell?_setCell_other _ _ _ _ (by simp)).trans a.c3, World.cell?_setCell_same _ _ _ a.c4, (World.cell?_setCell_other _ _ _ _ (by simp)).trans a.c5, (World.frozen?_setCell _ _ _ _).trans a.f0, (World.frozen?_setCell _ _ _ _).trans a.f1, (World.frozen?_setCell _ _ _ _).trans a.f2, (World.frozen?_setCell _ _ _ _).trans a.f3, (World.frozen?_setCell _ _ _ _).trans a.f4, (World.frozen?_setCell _ _ _ _).trans a.f5⟩
theorem SW.put3_other {W : World} {b k : Nat} {s : Sh} (a : SW W b s) (hne : b ≠ k) (g : Cs) : SW (put3 W k g) b s := ((a.other hne).other hne).other hne
theorem R6.put3_other {W : World} {b k : Nat} (a : R6 W b) (hne : b ≠ k) (g : Cs) : R6 (put3 W k g) b := ((a.other hne).other hne).other hne
set_option maxRecDepth 20000 in
set_option maxHeartbeats 16000000 in
theorem l3Shaft_t (h : Hs) (o : h.Ok) (sb B : Nat) (a : Option Addr) (len cap T : Nat) (w : World) (hS : SrcT w sb B a len cap T) (hT : T ≤ 700000) :
    Calls Try.prog 50 #[.pointer (some ⟨sb, 0, none⟩), .agg #[.int .i64 h.fl, .int .i64 h.gp, .int .i64 h.ln, .int .i64 h.rf, .int .i64 h.sp, .int .i64 h.pu, .int .i64 h.br, .int .i64 h.dr, .int .i64 h.lv, .int .i64 h.dO, .int .i64 h.ld, .int .i64 h.qu]] w fun e w' => ∃ g : Sh, e = .returned (.agg #[.int .i64 g.lo.pos, .int .i64 g.lo.vel, .int .i64 g.lo.door, .int .i64 g.up.pos, .int .i64 g.up.vel, .int .i64 g.up.door]) ∧ SrcT w' sb B a len cap (T + 100) ∧ Keeps sb w w' := by
  have g1 := o.gp1; have g2 := o.gp2
  have hlt := hS.lt
  have hB := hS.hB
  have HO : Hid h.Ok := o
  clear o
  obtain ⟨W0, hW0⟩ : ∃ W0, W0 = ((w.alloc (.cells #[.int .i64 h.fl, .int .i64 h.gp, .int .i64 h.ln, .int .i64 h.rf, .int .i64 h.sp, .int .i64 h.pu, .int .i64 h.br, .int .i64 h.dr, .int .i64 h.lv, .int .i64 h.dO, .int .i64 h.ld, .int .i64 h.qu] 25)).alloc (.cells #[.int .i64 0, .int .i64 0, .int .i64 0, .int .i64 0, .int .i64 0, .int .i64 0] 40)) := ⟨_, rfl⟩
  have F0 : Hid (HAt W0 w.heap.size h) := by rw [hW0]; exact (HAt.at_ w h _ _ (by simp)).alloc _
  have F1 : Hid (R6 W0 (w.heap.size + 1)) := by rw [hW0]; exact R6.at_ _ _ _ (by simp)
  have FS : Hid (SrcT W0 sb B a len cap T) := by rw [hW0]; exact (hS.alloc _).alloc _
  have FK : Hid (Keeps sb w W0) := by rw [hW0]; exact ((Keeps.refl _ _).alloc _).alloc _
  have HW0 : Hid (W0 = ((w.alloc (.cells #[.int .i64 h.fl, .int .i64 h.gp, .int .i64 h.ln, .int .i64 h.rf, .int .i64 h.sp, .int .i64 h.pu, .int .i64 h.br, .int .i64 h.dr, .int .i64 h.lv, .int .i64 h.dO, .int .i64 h.ld, .int .i64 h.qu] 25)).alloc (.cells #[.int .i64 0, .int .i64 0, .int .i64 0, .int .i64 0, .int .i64 0, .int .i64 0] 40))) := hW0
  clear hW0 hS
  go_enter Try.func50, Try.ntmps50
  go_wp2_with fail
  rw [← HW0.out]
  clear HW0
  refine (l3DrawCar_t h HO.out sb B a len cap _ _ FS.out (by omega)).mono ?_
  rintro e w1 ⟨c1, rfl, hs, hk⟩
  have F0 : Hid (HAt w1 w.heap.size h) := F0.out.keeps hk (by omega)
  have F1 : Hid (R6 w1 (w.heap.size + 1)) := F1.out.keeps hk (by omega)
  have FS : Hid (SrcT w1 sb B a len cap (T + 40)) := hs
  have FK : Hid (Keeps sb w w1) := FK.out.trans hk
  clear hs hk
  go_upto_region 2 with fail
  obtain ⟨b1, hbb⟩ : ∃ b1, b1 = w1.heap.size := ⟨_, rfl⟩
  obtain ⟨w2, hw2⟩ : ∃ w2, w2 = w1.alloc (.cells #[.int .i64 c1.pos, .int .i64 c1.vel, .int .i64 c1.door] 38) := ⟨_, rfl⟩
  have lb1S := FS.out.lt
  rw [← hbb] at lb1S
  have lb1F0 := F0.out.lt
  rw [← hbb] at lb1F0
  have F0 : Hid (HAt w2 w.heap.size h) := by rw [hw2]; exact F0.out.alloc _
  have lb1F1 := F1.out.lt
  rw [← hbb] at lb1F1
  have F1 : Hid (R6 w2 (w.heap.size + 1)) := by rw [hw2]; exact F1.out.alloc _
  have FS : Hid (SrcT w2 sb B a len cap (T + 40)) := by rw [hw2]; exact FS.out.alloc _
  have FK : Hid (Keeps sb w w2) := by rw [hw2]; exact FK.out.alloc _
  have F2 : Hid (CW w2 b1 c1) := by rw [hw2]; exact CW.at_ w1 c1 _ b1 hbb
  rw [← hw2, ← hbb]
  clear hbb hw2
  obtain ⟨x0_0, x0_1, x0_2, x0_3, x0_4, x0_5, x0_6, x0_7, x0_8, x0_9, x0_10, x0_11⟩ := F0.out
  go_wp2_with fail
  clear x0_0 x0_1 x0_2 x0_3 x0_4 x0_5 x0_6 x0_7 x0_8 x0_9 x0_10 x0_11
  refine (l3DrawCar_t h HO.out sb B a len cap _ _ FS.out (by omega)).mono ?_
  rintro e w3 ⟨c2, rfl, hs, hk⟩
  have F0 : Hid (HAt w3 w.heap.size h) := F0.out.keeps hk (by omega)
  have F1 : Hid (R6 w3 (w.heap.size + 1)) := F1.out.keeps hk (by omega)
  have F2 : Hid (CW w3 b1 c1) := F2.out.keeps hk (by omega)
  have FS : Hid (SrcT w3 sb B a len cap (T + 40 + 40)) := hs
  have FK : Hid (Keeps sb w w3) := FK.out.trans hk
  clear hs hk
  go_upto_region 3 with fail
  obtain ⟨b2, hbb⟩ : ∃ b2, b2 = w3.heap.size := ⟨_, rfl⟩
  obtain ⟨w4, hw2⟩ : ∃ w4, w4 = w3.alloc (.cells #[.int .i64 c2.pos, .int .i64 c2.vel, .int .i64 c2.door] 38) := ⟨_, rfl⟩
  have lb2S := FS.out.lt
  rw [← hbb] at lb2S
  have lb2F0 := F0.out.lt
  rw [← hbb] at lb2F0
  have F0 : Hid (HAt w4 w.heap.size h) := by rw [hw2]; exact F0.out.alloc _
  have lb2F1 := F1.out.lt
  rw [← hbb] at lb2F1
  have F1 : Hid (R6 w4 (w.heap.size + 1)) := by rw [hw2]; exact F1.out.alloc _
  have lb2F2 := F2.out.lt
  rw [← hbb] at lb2F2
  have F2 : Hid (CW w4 b1 c1) := by rw [hw2]; exact F2.out.alloc _
  have FS : Hid (SrcT w4 sb B a len cap (T + 40 + 40)) := by rw [hw2]; exact FS.out.alloc _
  have FK : Hid (Keeps sb w w4) := by rw [hw2]; exact FK.out.alloc _
  have F3 : Hid (CW w4 b2 c2) := by rw [hw2]; exact CW.at_ w3 c2 _ b2 hbb
  rw [← hw2, ← hbb]
  clear hbb hw2
  obtain ⟨x2_0, x2_1, x2_2, y2_0, y2_1, y2_2⟩ := F2.out
  obtain ⟨x3_0, x3_1, x3_2, y3_0, y3_1, y3_2⟩ := F3.out
  go_upto_if 20 with fail
  go_cut [5, 6] (fun p q wx => p = .pointer (some ⟨b1, 0, none⟩) ∧ q = .pointer (some ⟨b2, 0, none⟩) ∧ ∃ d1 d2 : Cs, HAt wx w.heap.size h ∧ R6 wx (w.heap.size + 1) ∧ CW wx b1 d1 ∧ CW wx b2 d2 ∧ SrcT wx sb B a len cap (T + 80) ∧ Keeps sb w wx)
  case first =>
    by_cases gt : c2.pos < c1.pos
    · go_upto_region 5 with fail
      obtain ⟨b7, hbb⟩ : ∃ b7, b7 = w4.heap.size := ⟨_, rfl⟩
      obtain ⟨w5, hw2⟩ : ∃ w5, w5 = w4.alloc (.cells #[.int .i64 c1.pos, .int .i64 c1.vel, .int .i64 c1.door] 38) := ⟨_, rfl⟩
      have lb7S := FS.out.lt
      rw [← hbb] at lb7S
      have lb7F0 := F0.out.lt
      rw [← hbb] at lb7F0
      have F0 : Hid (HAt w5 w.heap.size h) := by rw [hw2]; exact F0.out.alloc _
      have lb7F1 := F1.out.lt
      rw [← hbb] at lb7F1
      have F1 : Hid (R6 w5 (w.heap.size + 1)) := by rw [hw2]; exact F1.out.alloc _
      have lb7F2 := F2.out.lt
      rw [← hbb] at lb7F2
      have F2 : Hid (CW w5 b1 c1) := by rw [hw2]; exact F2.out.alloc _
      have lb7F3 := F3.out.lt
      rw [← hbb] at lb7F3
      have F3 : Hid (CW w5 b2 c2) := by rw [hw2]; exact F3.out.alloc _
      have FS : Hid (SrcT w5 sb B a len cap (T + 40 + 40)) := by rw [hw2]; exact FS.out.alloc _
      have FK : Hid (Keeps sb w w5) := by rw [hw2]; exact FK.out.alloc _
      have F7 : Hid (CW w5 b7 c1) := by rw [hw2]; exact CW.at_ w4 c1 _ b7 hbb
      rw [← hw2, ← hbb]
      clear hbb hw2
      obtain ⟨x2_0, x2_1, x2_2, y2_0, y2_1, y2_2⟩ := F2.out
      obtain ⟨x3_0, x3_1, x3_2, y3_0, y3_1, y3_2⟩ := F3.out
      go_upto_region 6 with fail
      obtain ⟨w6, hw2⟩ : ∃ w6, w6 = put3 w5 b1 c2 := ⟨_, rfl⟩
      have F0 : Hid (HAt w6 w.heap.size h) := by rw [hw2]; exact F0.out.put3_other (by omega) c2
      have F1 : Hid (R6 w6 (w.heap.size + 1)) := by rw [hw2]; exact F1.out.put3_other (by omega) c2
      have F2 : Hid (CW w6 b1 c2) := by rw [hw2]; exact F2.out.put c2
      have F3 : Hid (CW w6 b2 c2) := by rw [hw2]; exact F3.out.put_other (by omega) c2
      have F7 : Hid (CW w6 b7 c1) := by rw [hw2]; exact F7.out.put_other (by omega) c2
      have FS : Hid (SrcT w6 sb B a len cap (T + 40 + 40)) := by rw [hw2]; exact FS.out.put3 b1 c2 (by omega) (by omega)
      have FK : Hid (Keeps sb w w6) := by rw [hw2]; exact FK.out.put3 (by omega) c2
      change Code.wp _ _ _ _ (put3 w5 b1 c2)
      rw [← hw2]
      clear hw2
      obtain ⟨x7_0, x7_1, x7_2, y7_0, y7_1, y7_2⟩ := F7.out
      obtain ⟨x3_0, x3_1, x3_2, y3_0, y3_1, y3_2⟩ := F3.out
      go_wp2
      go_meet
      case rel => exact ⟨rfl, rfl, c2, c1, F0.out.put3_other (by omega) c1, F1.out.put3_other (by omega) c1, F2.out.put_other (by omega) c1, F3.out.put c1, FS.out.put3 b2 c1 (by omega) (by omega), FK.out.put3 (by omega) c1⟩
    · go_wp2
      go_meet
      case rel => exact ⟨rfl, rfl, c1, c2, F0.out, F1.out, F2.out, F3.out, FS.out, FK.out⟩
  case rest =>
    obtain ⟨rfl, rfl, d1, d2, h0, h1, h2, h3, h4, h5⟩ := hcut
    have F0 : Hid (HAt wc w.heap.size h) := h0
    have F1 : Hid (R6 wc (w.heap.size + 1)) := h1
    have F2 : Hid (CW wc b1 d1) := h2
    have F3 : Hid (CW wc b2 d2) := h3
    have FS : Hid (SrcT wc sb B a len cap (T + 80)) := h4
    have FK : Hid (Keeps sb w wc) := h5
    clear h0 h1 h2 h3 h4 h5
    obtain ⟨x2_0, x2_1, x2_2, y2_0, y2_1, y2_2⟩ := F2.out
    obtain ⟨x3_0, x3_1, x3_2, y3_0, y3_1, y3_2⟩ := F3.out
    go_upto_region 8 with fail
    obtain ⟨b3, hbb⟩ : ∃ b3, b3 = wc.heap.size := ⟨_, rfl⟩
    obtain ⟨w8, hw2⟩ : ∃ w8, w8 = wc.alloc (.cells #[.int .i64 d1.pos, .int .i64 d1.vel, .int .i64 d1.door, .int .i64 d2.pos, .int .i64 d2.vel, .int .i64 d2.door] 40) := ⟨_, rfl⟩
    have lb3S := FS.out.lt
    rw [← hbb] at lb3S
    have lb3F0 := F0.out.lt
    rw [← hbb] at lb3F0
    have F0 : Hid (HAt w8 w.heap.size h) := by rw [hw2]; exact F0.out.alloc _
    have lb3F1 := F1.out.lt
    rw [← hbb] at lb3F1
    have F1 : Hid (R6 w8 (w.heap.size + 1)) := by rw [hw2]; exact F1.out.alloc _
    have lb3F2 := F2.out.lt
    rw [← hbb] at lb3F2
    have F2 : Hid (CW w8 b1 d1) := by rw [hw2]; exact F2.out.alloc _
    have lb3F3 := F3.out.lt
    rw [← hbb] at lb3F3
    have F3 : Hid (CW w8 b2 d2) := by rw [hw2]; exact F3.out.alloc _
    have FS : Hid (SrcT w8 sb B a len cap (T + 80)) := by rw [hw2]; exact FS.out.alloc _
    have FK : Hid (Keeps sb w w8) := by rw [hw2]; exact FK.out.alloc _
    have F4 : Hid (SW w8 b3 (⟨d1, d2⟩ : Sh)) := by rw [hw2]; exact SW.at_ wc (⟨d1, d2⟩ : Sh) _ b3 hbb
    rw [← hw2, ← hbb]
    clear hbb hw2
    go_wp2_with fail
    go_loopw [9] (fun nn wr => ∃ (n : Nat) (x : Sh), nn = .int .i64 (n : Int) ∧ n ≤ 6 ∧ HAt wr w.heap.size h ∧ R6 wr (w.heap.size + 1) ∧ SW wr b3 x ∧ SrcT wr sb B a len cap (T + 80 + n) ∧ Keeps sb w wr) (fun nn _ => (6 - intOf nn).toNat)
    case atStart => exact ⟨0, (⟨d1, d2⟩ : Sh), rfl, by omega, F0.out, F1.out, F4.out, FS.out, FK.out⟩
    case round =>
      obtain ⟨n, x, rfl, n6, h0, h1, h2, h3, h4⟩ := hrel
      have F0 : Hid (HAt wr w.heap.size h) := h0
      have F1 : Hid (R6 wr (w.heap.size + 1)) := h1
      have F4 : Hid (SW wr b3 x) := h2
      have FS : Hid (SrcT wr sb B a len cap (T + 80 + n)) := h3
      have FK : Hid (Keeps sb w wr) := h4
      clear h0 h1 h2 h3 h4
      obtain ⟨x0_0, x0_1, x0_2, x0_3, x0_4, x0_5, x0_6, x0_7, x0_8, x0_9, x0_10, x0_11⟩ := F0.out
      obtain ⟨x4_0, x4_1, x4_2, x4_3, x4_4, x4_5, y4_0, y4_1, y4_2, y4_3, y4_4, y4_5⟩ := F4.out
      by_cases hn : n < 6
      · have hn' : (n : Int) < 6 := by omega
        by_cases hs : h.shaft x = 0
        · go_wp2_with (go_at_call 31; refine (specShaftFault_any h x _).mono ?_; rw [hs]; rintro e w9 ⟨rfl, hb⟩; have F0 : Hid (HAt w9 w.heap.size h) := F0.out.below hb F0.out.lt; have F1 : Hid (R6 w9 (w.heap.size + 1)) := F1.out.below hb F1.out.lt; have F4 : Hid (SW w9 b3 x) := F4.out.below hb F4.out.lt; have FS : Hid (SrcT w9 sb B a len cap (T + 80 + n)) := FS.out.below hb; have FK : Hid (Keeps sb w w9) := FK.out.of_below hb; clear hb; obtain ⟨x0_0, x0_1, x0_2, x0_3, x0_4, x0_5, x0_6, x0_7, x0_8, x0_9, x0_10, x0_11⟩ := F0.out; obtain ⟨x4_0, x4_1, x4_2, x4_3, x4_4, x4_5, y4_0, y4_1, y4_2, y4_3, y4_4, y4_5⟩ := F4.out; obtain ⟨x1_0, x1_1, x1_2, x1_3, x1_4, x1_5, y1_0, y1_1, y1_2, y1_3, y1_4, y1_5⟩ := F1.out)
          change bodyPost _ _ _ _ _ (put6 w9 (w.heap.size + 1) x)
          obtain ⟨Wf, hWf⟩ : ∃ Wf, put6 w9 (w.heap.size + 1) x = Wf := ⟨_, rfl⟩
          have HRf : SW Wf (w.heap.size + 1) x := hWf ▸ F1.out.put _
          have HSf : SrcT Wf sb B a len cap (T + 100) := hWf ▸ ((((((FS.out.other _ _ _ (by omega) (by omega)).other _ _ _ (by omega) (by omega)).other _ _ _ (by omega) (by omega)).other _ _ _ (by omega) (by omega)).other _ _ _ (by omega) (by omega)).other _ _ _ (by omega) (by omega)).more (by omega)
          have HKf : Keeps sb w Wf := hWf ▸ (((((FK.out.own (by omega) _ _).own (by omega) _ _).own (by omega) _ _).own (by omega) _ _).own (by omega) _ _).own (by omega) _ _
          rw [hWf]
          clear hWf
          obtain ⟨d0, d1_, d2_, d3, d4, d5, -, -, -, -, -, -⟩ := HRf
          exact bodyPost_ret (v := .agg #[.int .i64 x.lo.pos, .int .i64 x.lo.vel, .int .i64 x.lo.door, .int .i64 x.up.pos, .int .i64 x.up.vel, .int .i64 x.up.door]) (by simp [results, Try.results50, go_sem, d0, d1_, d2_, d3, d4, d5]) rfl (by first | exact ⟨x, rfl, HSf, HKf⟩ | exact ⟨⟨x, rfl⟩, HSf, HKf⟩)
        · have hne : (h.shaft x != 0) = true := by simpa using hs
          clear hs
          go_wp2_with (go_at_call 31; refine (specShaftFault_any h x _).mono ?_; rintro e w9 ⟨rfl, hb⟩; have F0 : Hid (HAt w9 w.heap.size h) := F0.out.below hb F0.out.lt; have F1 : Hid (R6 w9 (w.heap.size + 1)) := F1.out.below hb F1.out.lt; have F4 : Hid (SW w9 b3 x) := F4.out.below hb F4.out.lt; have FS : Hid (SrcT w9 sb B a len cap (T + 80 + n)) := FS.out.below hb; have FK : Hid (Keeps sb w w9) := FK.out.of_below hb; clear hb; obtain ⟨x0_0, x0_1, x0_2, x0_3, x0_4, x0_5, x0_6, x0_7, x0_8, x0_9, x0_10, x0_11⟩ := F0.out; obtain ⟨x4_0, x4_1, x4_2, x4_3, x4_4, x4_5, y4_0, y4_1, y4_2, y4_3, y4_4, y4_5⟩ := F4.out)
          clear x0_0 x0_1 x0_2 x0_3 x0_4 x0_5 x0_6 x0_7 x0_8 x0_9 x0_10 x0_11
          clear x4_0 y4_0 x4_1 y4_1 x4_2 y4_2 x4_3 y4_3 x4_4 y4_4 x4_5 y4_5
          clear hne
          go_cut [9] (fun nn wx => nn = .int .i64 (n : Int) ∧ ∃ x : Sh, HAt wx w.heap.size h ∧ R6 wx (w.heap.size + 1) ∧ SW wx b3 x ∧ SrcT wx sb B a len cap (T + 80 + n) ∧ Keeps sb w wx)
          case first =>
            have F0 : Hid (HAt w9.drew w.heap.size h) := F0.out.below (Below.refl _ _).drew F0.out.lt
            have F1 : Hid (R6 w9.drew (w.heap.size + 1)) := F1.out.below (Below.refl _ _).drew F1.out.lt
            have F4 : Hid (SW w9.drew b3 x) := F4.out.below (Below.refl _ _).drew F4.out.lt
            have FS : Hid (SrcT w9.drew sb B a len cap (T + 80 + n)) := FS.out.drew
            have FK : Hid (Keeps sb w w9.drew) := FK.out.of_below (Below.refl _ _).drew
            obtain ⟨x0_0, x0_1, x0_2, x0_3, x0_4, x0_5, x0_6, x0_7, x0_8, x0_9, x0_10, x0_11⟩ := F0.out
            refine wp_region_held_drew (S := (fun w'' => w''.cell? ⟨w.heap.size, 0, none⟩ = some (.int .i64 h.fl) ∧ w''.cell? ⟨w.heap.size, 1, none⟩ = some (.int .i64 h.gp) ∧ w''.cell? ⟨w.heap.size, 2, none⟩ = some (.int .i64 h.ln) ∧ w''.cell? ⟨w.heap.size, 3, none⟩ = some (.int .i64 h.rf) ∧ w''.cell? ⟨w.heap.size, 4, none⟩ = some (.int .i64 h.sp) ∧ w''.cell? ⟨w.heap.size, 5, none⟩ = some (.int .i64 h.pu) ∧ w''.cell? ⟨w.heap.size, 6, none⟩ = some (.int .i64 h.br) ∧ w''.cell? ⟨w.heap.size, 7, none⟩ = some (.int .i64 h.dr) ∧ w''.cell? ⟨w.heap.size, 8, none⟩ = some (.int .i64 h.lv) ∧ w''.cell? ⟨w.heap.size, 9, none⟩ = some (.int .i64 h.dO) ∧ w''.cell? ⟨w.heap.size, 10, none⟩ = some (.int .i64 h.ld) ∧ w''.cell? ⟨w.heap.size, 11, none⟩ = some (.int .i64 h.qu))) (by kernel_rfl) (by (try dsimp only); first | exact ⟨x0_0, x0_1, x0_2, x0_3, x0_4, x0_5, x0_6, x0_7, x0_8, x0_9, x0_10, x0_11⟩ | go_keep) (fun hHeld => ?_)
            obtain ⟨v_1, hw1⟩ : ∃ v_1, v_1 = w9.drew := ⟨_, rfl⟩
            have F0 : Hid (HAt v_1 w.heap.size h) := by rw [hw1]; exact F0.out
            have F1 : Hid (R6 v_1 (w.heap.size + 1)) := by rw [hw1]; exact F1.out
            have F4 : Hid (SW v_1 b3 x) := by rw [hw1]; exact F4.out
            have FS : Hid (SrcT v_1 sb B a len cap (T + 80 + n)) := by rw [hw1]; exact FS.out
            have FK : Hid (Keeps sb w v_1) := by rw [hw1]; exact FK.out
            rw [← hw1] at hHeld ⊢
            clear hw1
            obtain ⟨x0_0, x0_1, x0_2, x0_3, x0_4, x0_5, x0_6, x0_7, x0_8, x0_9, x0_10, x0_11⟩ := F0.out
            refine tkz 0 rfl ?_
            refine tkz 2 rfl ?_
            refine tkz 3 rfl ?_
            refine tkz 5 rfl ?_
            refine tkz 6 rfl ?_
            refine tkz 7 rfl ?_
            refine wpAnyH_ready (rs := [1, 4]) (by kernel_rfl) (by simp) ?_
            refine (AllReadyH.cons rfl (fun K hK => ?_) (AllReadyH.cons rfl (fun K hK => ?_) AllReadyH.nil))
            · go_simp
              refine (specLow_below h HO.out _).mono ?_
              rintro e v_2 ⟨rfl, hb⟩
              have F0 : Hid (HAt v_2 w.heap.size h) := F0.out.below hb F0.out.lt
              have F1 : Hid (R6 v_2 (w.heap.size + 1)) := F1.out.below hb F1.out.lt
              have F4 : Hid (SW v_2 b3 x) := F4.out.below hb F4.out.lt
              have FS : Hid (SrcT v_2 sb B a len cap (T + 80 + n)) := FS.out.below hb
              have FK : Hid (Keeps sb w v_2) := FK.out.of_below hb
              clear hb
              obtain ⟨x0_0, x0_1, x0_2, x0_3, x0_4, x0_5, x0_6, x0_7, x0_8, x0_9, x0_10, x0_11⟩ := F0.out
              try dsimp only
              refine hK.out _ _ (by (try dsimp only); first | exact ⟨x0_0, x0_1, x0_2, x0_3, x0_4, x0_5, x0_6, x0_7, x0_8, x0_9, x0_10, x0_11⟩ | go_keep) (fun hHeld => ?_)
              clear hK K
              try simp only [Act.put, List.getElem_toArray, List.getElem_cons_succ, List.getElem_cons_zero, List.setIfInBounds_toArray, List.set_cons_zero, List.set_cons_succ]
              refine wpAnyH_ready (rs := [4]) (by kernel_rfl) (by simp) ?_
              refine (AllReadyH.cons rfl (fun K hK => ?_) AllReadyH.nil)
              obtain ⟨x4_0, x4_1, x4_2, x4_3, x4_4, x4_5, y4_0, y4_1, y4_2, y4_3, y4_4, y4_5⟩ := F4.out
              go_simp
              refine hK.out _ _ (by (try dsimp only); first | exact ⟨x0_0, x0_1, x0_2, x0_3, x0_4, x0_5, x0_6, x0_7, x0_8, x0_9, x0_10, x0_11⟩ | go_keep) (fun hHeld => ?_)
              clear hK K
              try simp only [Act.put, List.getElem_toArray, List.getElem_cons_succ, List.getElem_cons_zero, List.setIfInBounds_toArray, List.set_cons_zero, List.set_cons_succ]
              refine tkz 8 rfl ?_
              refine wpAnyH_ready (rs := [9]) (by kernel_rfl) (by simp) ?_
              refine (AllReadyH.cons rfl (fun K hK => ?_) AllReadyH.nil)
              go_simp
              refine (l1Max_any _ _ _).mono ?_
              rintro e w_ ⟨rfl, hw⟩
              obtain rfl := hw.symm
              clear hw
              try dsimp only
              refine hK.out _ _ (by (try dsimp only); first | exact ⟨x0_0, x0_1, x0_2, x0_3, x0_4, x0_5, x0_6, x0_7, x0_8, x0_9, x0_10, x0_11⟩ | go_keep) (fun hHeld => ?_)
              clear hK K
              try simp only [Act.put, List.getElem_toArray, List.getElem_cons_succ, List.getElem_cons_zero, List.setIfInBounds_toArray, List.set_cons_zero, List.set_cons_succ]
              refine tkz 10 rfl ?_
              refine tkz 11 rfl ?_
              refine wpAnyH_ready (rs := [12]) (by kernel_rfl) (by simp) ?_
              refine (AllReadyH.cons rfl (fun K hK => ?_) AllReadyH.nil)
              obtain ⟨x4_0, x4_1, x4_2, x4_3, x4_4, x4_5, y4_0, y4_1, y4_2, y4_3, y4_4, y4_5⟩ := F4.out
              go_simp
              refine hK.out _ _ (by (try dsimp only); first | ((repeat' apply And.intro) <;> ((repeat rw [cellS (by omega)]); assumption)) | go_keep) (fun hHeld => ?_)
              clear hK K
              try simp only [Act.put, List.getElem_toArray, List.getElem_cons_succ, List.getElem_cons_zero, List.setIfInBounds_toArray, List.set_cons_zero, List.set_cons_succ]
              refine wpAnyH_done (by kernel_rfl) ?_ _
              go_wp2_with fail
              go_meet
              case rel => exact ⟨rfl, _, F0.out.other (by omega), F1.out.other (by omega), F4.out.set_lp _, FS.out.other b3 _ _ (by omega) (by omega), FK.out.own (by omega) _ _⟩
            · obtain ⟨x4_0, x4_1, x4_2, x4_3, x4_4, x4_5, y4_0, y4_1, y4_2, y4_3, y4_4, y4_5⟩ := F4.out
              go_simp
              refine hK.out _ _ (by (try dsimp only); first | exact ⟨x0_0, x0_1, x0_2, x0_3, x0_4, x0_5, x0_6, x0_7, x0_8, x0_9, x0_10, x0_11⟩ | go_keep) (fun hHeld => ?_)
              clear hK K
              try simp only [Act.put, List.getElem_toArray, List.getElem_cons_succ, List.getElem_cons_zero, List.setIfInBounds_toArray, List.set_cons_zero, List.set_cons_succ]
              refine tkz 8 rfl ?_
              refine wpAnyH_ready (rs := [1]) (by kernel_rfl) (by simp) ?_
              refine (AllReadyH.cons rfl (fun K hK => ?_) AllReadyH.nil)
              go_simp
              refine (specLow_below h HO.out _).mono ?_
              rintro e v_3 ⟨rfl, hb⟩
              have F0 : Hid (HAt v_3 w.heap.size h) := F0.out.below hb F0.out.lt
              have F1 : Hid (R6 v_3 (w.heap.size + 1)) := F1.out.below hb F1.out.lt
              have F4 : Hid (SW v_3 b3 x) := F4.out.below hb F4.out.lt
              have FS : Hid (SrcT v_3 sb B a len cap (T + 80 + n)) := FS.out.below hb
              have FK : Hid (Keeps sb w v_3) := FK.out.of_below hb
              clear hb
              obtain ⟨x0_0, x0_1, x0_2, x0_3, x0_4, x0_5, x0_6, x0_7, x0_8, x0_9, x0_10, x0_11⟩ := F0.out
              try dsimp only
              refine hK.out _ _ (by (try dsimp only); first | exact ⟨x0_0, x0_1, x0_2, x0_3, x0_4, x0_5, x0_6, x0_7, x0_8, x0_9, x0_10, x0_11⟩ | go_keep) (fun hHeld => ?_)
              clear hK K
              try simp only [Act.put, List.getElem_toArray, List.getElem_cons_succ, List.getElem_cons_zero, List.setIfInBounds_toArray, List.set_cons_zero, List.set_cons_succ]
              refine wpAnyH_ready (rs := [9]) (by kernel_rfl) (by simp) ?_
              refine (AllReadyH.cons rfl (fun K hK => ?_) AllReadyH.nil)
              go_simp
              refine (l1Max_any _ _ _).mono ?_
              rintro e w_ ⟨rfl, hw⟩
              obtain rfl := hw.symm
              clear hw
              try dsimp only
              refine hK.out _ _ (by (try dsimp only); first | exact ⟨x0_0, x0_1, x0_2, x0_3, x0_4, x0_5, x0_6, x0_7, x0_8, x0_9, x0_10, x0_11⟩ | go_keep) (fun hHeld => ?_)
              clear hK K
              try simp only [Act.put, List.getElem_toArray, List.getElem_cons_succ, List.getElem_cons_zero, List.setIfInBounds_toArray, List.set_cons_zero, List.set_cons_succ]
              refine tkz 10 rfl ?_
              refine tkz 11 rfl ?_
              refine wpAnyH_ready (rs := [12]) (by kernel_rfl) (by simp) ?_
              refine (AllReadyH.cons rfl (fun K hK => ?_) AllReadyH.nil)
              obtain ⟨x4_0, x4_1, x4_2, x4_3, x4_4, x4_5, y4_0, y4_1, y4_2, y4_3, y4_4, y4_5⟩ := F4.out
              go_simp
              refine hK.out _ _ (by (try dsimp only); first | ((repeat' apply And.intro) <;> ((repeat rw [cellS (by omega)]); assumption)) | go_keep) (fun hHeld => ?_)
              clear hK K
              try simp only [Act.put, List.getElem_toArray, List.getElem_cons_succ, List.getElem_cons_zero, List.setIfInBounds_toArray, List.set_cons_zero, List.set_cons_succ]
              refine wpAnyH_done (by kernel_rfl) ?_ _
              go_wp2_with fail
              go_meet
              case rel => exact ⟨rfl, _, F0.out.other (by omega), F1.out.other (by omega), F4.out.set_lp _, FS.out.other b3 _ _ (by omega) (by omega), FK.out.own (by omega) _ _⟩
          case rest =>
            obtain ⟨rfl, x2, h0, h1, h2, h3, h4⟩ := hcut
            have F0 : Hid (HAt wc w.heap.size h) := h0
            have F1 : Hid (R6 wc (w.heap.size + 1)) := h1
            have F4 : Hid (SW wc b3 x2) := h2
            have FS : Hid (SrcT wc sb B a len cap (T + 80 + n)) := h3
            have FK : Hid (Keeps sb w wc) := h4
            clear h0 h1 h2 h3 h4
            obtain ⟨wd, hwd⟩ : ∃ wd, wd = wc := ⟨_, rfl⟩
            subst hwd
            go_upto_region 12 with fail
            go_cut [9] (fun nn wx => nn = .int .i64 (n : Int) ∧ ∃ x : Sh, HAt wx w.heap.size h ∧ R6 wx (w.heap.size + 1) ∧ SW wx b3 x ∧ SrcT wx sb B a len cap (T + 80 + n) ∧ Keeps sb w wx)
            case first =>
              have F0 : Hid (HAt wd.drew w.heap.size h) := F0.out.below (Below.refl _ _).drew F0.out.lt
              have F1 : Hid (R6 wd.drew (w.heap.size + 1)) := F1.out.below (Below.refl _ _).drew F1.out.lt
              have F4 : Hid (SW wd.drew b3 x2) := F4.out.below (Below.refl _ _).drew F4.out.lt
              have FS : Hid (SrcT wd.drew sb B a len cap (T + 80 + n)) := FS.out.drew
              have FK : Hid (Keeps sb w wd.drew) := FK.out.of_below (Below.refl _ _).drew
              obtain ⟨x0_0, x0_1, x0_2, x0_3, x0_4, x0_5, x0_6, x0_7, x0_8, x0_9, x0_10, x0_11⟩ := F0.out
              refine wp_region_held_drew (S := (fun w'' => w''.cell? ⟨w.heap.size, 0, none⟩ = some (.int .i64 h.fl) ∧ w''.cell? ⟨w.heap.size, 1, none⟩ = some (.int .i64 h.gp) ∧ w''.cell? ⟨w.heap.size, 2, none⟩ = some (.int .i64 h.ln) ∧ w''.cell? ⟨w.heap.size, 3, none⟩ = some (.int .i64 h.rf) ∧ w''.cell? ⟨w.heap.size, 4, none⟩ = some (.int .i64 h.sp) ∧ w''.cell? ⟨w.heap.size, 5, none⟩ = some (.int .i64 h.pu) ∧ w''.cell? ⟨w.heap.size, 6, none⟩ = some (.int .i64 h.br) ∧ w''.cell? ⟨w.heap.size, 7, none⟩ = some (.int .i64 h.dr) ∧ w''.cell? ⟨w.heap.size, 8, none⟩ = some (.int .i64 h.lv) ∧ w''.cell? ⟨w.heap.size, 9, none⟩ = some (.int .i64 h.dO) ∧ w''.cell? ⟨w.heap.size, 10, none⟩ = some (.int .i64 h.ld) ∧ w''.cell? ⟨w.heap.size, 11, none⟩ = some (.int .i64 h.qu))) (by kernel_rfl) (by (try dsimp only); first | exact ⟨x0_0, x0_1, x0_2, x0_3, x0_4, x0_5, x0_6, x0_7, x0_8, x0_9, x0_10, x0_11⟩ | go_keep) (fun hHeld => ?_)
              obtain ⟨v_4, hw1⟩ : ∃ v_4, v_4 = wd.drew := ⟨_, rfl⟩
              have F0 : Hid (HAt v_4 w.heap.size h) := by rw [hw1]; exact F0.out
              have F1 : Hid (R6 v_4 (w.heap.size + 1)) := by rw [hw1]; exact F1.out
              have F4 : Hid (SW v_4 b3 x2) := by rw [hw1]; exact F4.out
              have FS : Hid (SrcT v_4 sb B a len cap (T + 80 + n)) := by rw [hw1]; exact FS.out
              have FK : Hid (Keeps sb w v_4) := by rw [hw1]; exact FK.out
              rw [← hw1] at hHeld ⊢
              clear hw1
              obtain ⟨x0_0, x0_1, x0_2, x0_3, x0_4, x0_5, x0_6, x0_7, x0_8, x0_9, x0_10, x0_11⟩ := F0.out
              refine tkz 0 rfl ?_
              refine tkz 2 rfl ?_
              refine tkz 3 rfl ?_
              refine tkz 5 rfl ?_
              refine tkz 6 rfl ?_
              refine tkz 7 rfl ?_
              refine wpAnyH_ready (rs := [1, 4]) (by kernel_rfl) (by simp) ?_
              refine (AllReadyH.cons rfl (fun K hK => ?_) (AllReadyH.cons rfl (fun K hK => ?_) AllReadyH.nil))
              · go_simp
                refine (specHigh_below h HO.out _).mono ?_
                rintro e v_5 ⟨rfl, hb⟩
                have F0 : Hid (HAt v_5 w.heap.size h) := F0.out.below hb F0.out.lt
                have F1 : Hid (R6 v_5 (w.heap.size + 1)) := F1.out.below hb F1.out.lt
                have F4 : Hid (SW v_5 b3 x2) := F4.out.below hb F4.out.lt
                have FS : Hid (SrcT v_5 sb B a len cap (T + 80 + n)) := FS.out.below hb
                have FK : Hid (Keeps sb w v_5) := FK.out.of_below hb
                clear hb
                obtain ⟨x0_0, x0_1, x0_2, x0_3, x0_4, x0_5, x0_6, x0_7, x0_8, x0_9, x0_10, x0_11⟩ := F0.out
                try dsimp only
                refine hK.out _ _ (by (try dsimp only); first | exact ⟨x0_0, x0_1, x0_2, x0_3, x0_4, x0_5, x0_6, x0_7, x0_8, x0_9, x0_10, x0_11⟩ | go_keep) (fun hHeld => ?_)
                clear hK K
                try simp only [Act.put, List.getElem_toArray, List.getElem_cons_succ, List.getElem_cons_zero, List.setIfInBounds_toArray, List.set_cons_zero, List.set_cons_succ]
                refine wpAnyH_ready (rs := [4]) (by kernel_rfl) (by simp) ?_
                refine (AllReadyH.cons rfl (fun K hK => ?_) AllReadyH.nil)
                obtain ⟨x4_0, x4_1, x4_2, x4_3, x4_4, x4_5, y4_0, y4_1, y4_2, y4_3, y4_4, y4_5⟩ := F4.out
                go_simp
                refine hK.out _ _ (by (try dsimp only); first | exact ⟨x0_0, x0_1, x0_2, x0_3, x0_4, x0_5, x0_6, x0_7, x0_8, x0_9, x0_10, x0_11⟩ | go_keep) (fun hHeld => ?_)
                clear hK K
                try simp only [Act.put, List.getElem_toArray, List.getElem_cons_succ, List.getElem_cons_zero, List.setIfInBounds_toArray, List.set_cons_zero, List.set_cons_succ]
                refine tkz 8 rfl ?_
                refine wpAnyH_ready (rs := [9]) (by kernel_rfl) (by simp) ?_
                refine (AllReadyH.cons rfl (fun K hK => ?_) AllReadyH.nil)
                go_simp
                refine (l1Min_any _ _ _).mono ?_
                rintro e w_ ⟨rfl, hw⟩
                obtain rfl := hw.symm
                clear hw
                try dsimp only
                refine hK.out _ _ (by (try dsimp only); first | exact ⟨x0_0, x0_1, x0_2, x0_3, x0_4, x0_5, x0_6, x0_7, x0_8, x0_9, x0_10, x0_11⟩ | go_keep) (fun hHeld => ?_)
                clear hK K
                try simp only [Act.put, List.getElem_toArray, List.getElem_cons_succ, List.getElem_cons_zero, List.setIfInBounds_toArray, List.set_cons_zero, List.set_cons_succ]
                refine tkz 10 rfl ?_
                refine tkz 11 rfl ?_
                refine wpAnyH_ready (rs := [12]) (by kernel_rfl) (by simp) ?_
                refine (AllReadyH.cons rfl (fun K hK => ?_) AllReadyH.nil)
                obtain ⟨x4_0, x4_1, x4_2, x4_3, x4_4, x4_5, y4_0, y4_1, y4_2, y4_3, y4_4, y4_5⟩ := F4.out
                go_simp
                refine hK.out _ _ (by (try dsimp only); first | ((repeat' apply And.intro) <;> ((repeat rw [cellS (by omega)]); assumption)) | go_keep) (fun hHeld => ?_)
                clear hK K
                try simp only [Act.put, List.getElem_toArray, List.getElem_cons_succ, List.getElem_cons_zero, List.setIfInBounds_toArray, List.set_cons_zero, List.set_cons_succ]
                refine wpAnyH_done (by kernel_rfl) ?_ _
                go_wp2_with fail
                go_meet
                case rel => exact ⟨rfl, _, F0.out.other (by omega), F1.out.other (by omega), F4.out.set_up _, FS.out.other b3 _ _ (by omega) (by omega), FK.out.own (by omega) _ _⟩
              · obtain ⟨x4_0, x4_1, x4_2, x4_3, x4_4, x4_5, y4_0, y4_1, y4_2, y4_3, y4_4, y4_5⟩ := F4.out
                go_simp
                refine hK.out _ _ (by (try dsimp only); first | exact ⟨x0_0, x0_1, x0_2, x0_3, x0_4, x0_5, x0_6, x0_7, x0_8, x0_9, x0_10, x0_11⟩ | go_keep) (fun hHeld => ?_)
                clear hK K
                try simp only [Act.put, List.getElem_toArray, List.getElem_cons_succ, List.getElem_cons_zero, List.setIfInBounds_toArray, List.set_cons_zero, List.set_cons_succ]
                refine tkz 8 rfl ?_
                refine wpAnyH_ready (rs := [1]) (by kernel_rfl) (by simp) ?_
                refine (AllReadyH.cons rfl (fun K hK => ?_) AllReadyH.nil)
                go_simp
                refine (specHigh_below h HO.out _).mono ?_
                rintro e v_6 ⟨rfl, hb⟩
                have F0 : Hid (HAt v_6 w.heap.size h) := F0.out.below hb F0.out.lt
                have F1 : Hid (R6 v_6 (w.heap.size + 1)) := F1.out.below hb F1.out.lt
                have F4 : Hid (SW v_6 b3 x2) := F4.out.below hb F4.out.lt
                have FS : Hid (SrcT v_6 sb B a len cap (T + 80 + n)) := FS.out.below hb
                have FK : Hid (Keeps sb w v_6) := FK.out.of_below hb
                clear hb
                obtain ⟨x0_0, x0_1, x0_2, x0_3, x0_4, x0_5, x0_6, x0_7, x0_8, x0_9, x0_10, x0_11⟩ := F0.out
                try dsimp only
                refine hK.out _ _ (by (try dsimp only); first | exact ⟨x0_0, x0_1, x0_2, x0_3, x0_4, x0_5, x0_6, x0_7, x0_8, x0_9, x0_10, x0_11⟩ | go_keep) (fun hHeld => ?_)
                clear hK K
                try simp only [Act.put, List.getElem_toArray, List.getElem_cons_succ, List.getElem_cons_zero, List.setIfInBounds_toArray, List.set_cons_zero, List.set_cons_succ]
                refine wpAnyH_ready (rs := [9]) (by kernel_rfl) (by simp) ?_
                refine (AllReadyH.cons rfl (fun K hK => ?_) AllReadyH.nil)
                go_simp
                refine (l1Min_any _ _ _).mono ?_
                rintro e w_ ⟨rfl, hw⟩
                obtain rfl := hw.symm
                clear hw
                try dsimp only
                refine hK.out _ _ (by (try dsimp only); first | exact ⟨x0_0, x0_1, x0_2, x0_3, x0_4, x0_5, x0_6, x0_7, x0_8, x0_9, x0_10, x0_11⟩ | go_keep) (fun hHeld => ?_)
                clear hK K
                try simp only [Act.put, List.getElem_toArray, List.getElem_cons_succ, List.getElem_cons_zero, List.setIfInBounds_toArray, List.set_cons_zero, List.set_cons_succ]
                refine tkz 10 rfl ?_
                refine tkz 11 rfl ?_
                refine wpAnyH_ready (rs := [12]) (by kernel_rfl) (by simp) ?_
                refine (AllReadyH.cons rfl (fun K hK => ?_) AllReadyH.nil)
                obtain ⟨x4_0, x4_1, x4_2, x4_3, x4_4, x4_5, y4_0, y4_1, y4_2, y4_3, y4_4, y4_5⟩ := F4.out
                go_simp
                refine hK.out _ _ (by (try dsimp only); first | ((repeat' apply And.intro) <;> ((repeat rw [cellS (by omega)]); assumption)) | go_keep) (fun hHeld => ?_)
                clear hK K
                try simp only [Act.put, List.getElem_toArray, List.getElem_cons_succ, List.getElem_cons_zero, List.setIfInBounds_toArray, List.set_cons_zero, List.set_cons_succ]
                refine wpAnyH_done (by kernel_rfl) ?_ _
                go_wp2_with fail
                go_meet
                case rel => exact ⟨rfl, _, F0.out.other (by omega), F1.out.other (by omega), F4.out.set_up _, FS.out.other b3 _ _ (by omega) (by omega), FK.out.own (by omega) _ _⟩
            case rest =>
              obtain ⟨rfl, x3, h0, h1, h2, h3, h4⟩ := hcut
              have F0 : Hid (HAt wc w.heap.size h) := h0
              have F1 : Hid (R6 wc (w.heap.size + 1)) := h1
              have F4 : Hid (SW wc b3 x3) := h2
              have FS : Hid (SrcT wc sb B a len cap (T + 80 + n)) := h3
              have FK : Hid (Keeps sb w wc) := h4
              clear h0 h1 h2 h3 h4
              by_cases n2 : 2 < n
              · have n2' : (2 : Int) < n := by omega
                go_wp2_with fail
                refine (l1Chance_t sb B a len cap _ _ _ FS.out (by omega) (by omega) (by omega)).mono ?_
                rintro e w10 ⟨vb, rfl, hs, hk⟩
                have F0 : Hid (HAt w10 w.heap.size h) := F0.out.keeps hk (by omega)
                have F1 : Hid (R6 w10 (w.heap.size + 1)) := F1.out.keeps hk (by omega)
                have F4 : Hid (SW w10 b3 x3) := F4.out.keeps hk (by omega)
                have FS : Hid (SrcT w10 sb B a len cap (T + 80 + n + 1)) := hs
                have FK : Hid (Keeps sb w w10) := FK.out.trans hk
                clear hs hk
                cases vb with
                | true =>
                  go_wp2
                  go_roundw
                  case rel => exact ⟨n + 1, _, rfl, by omega, F0.out, F1.out, F4.out, FS.out, FK.out⟩
                  case measure => simp [intOf]; omega
                | false =>
                  obtain ⟨x4_0, x4_1, x4_2, x4_3, x4_4, x4_5, y4_0, y4_1, y4_2, y4_3, y4_4, y4_5⟩ := F4.out
                  go_wp2
                  go_roundw
                  case rel => exact ⟨n + 1, _, rfl, by omega, (F0.out.other (by omega)).other (by omega), (F1.out.other (by omega)).other (by omega), (F4.out.set_lv 0).set_uv 0, (FS.out.other _ _ _ (by omega) (by omega)).other _ _ _ (by omega) (by omega), (FK.out.own (by omega) _ _).own (by omega) _ _⟩
                  case measure => simp [intOf]; omega
              · have n2' : (n : Int) ≤ 2 := by omega
                go_wp2
                go_roundw
                case rel => exact ⟨n + 1, _, rfl, by omega, F0.out, F1.out, F4.out, FS.out.more (by omega), FK.out⟩
                case measure => simp [intOf]; omega
      · have hn' : ¬ (n : Int) < 6 := by omega
        obtain ⟨x1_0, x1_1, x1_2, x1_3, x1_4, x1_5, y1_0, y1_1, y1_2, y1_3, y1_4, y1_5⟩ := F1.out
        go_wp2
        change bodyPost _ _ _ _ _ (put6 wr (w.heap.size + 1) x)
        obtain ⟨Wf, hWf⟩ : ∃ Wf, put6 wr (w.heap.size + 1) x = Wf := ⟨_, rfl⟩
        have HRf : SW Wf (w.heap.size + 1) x := hWf ▸ F1.out.put _
        have HSf : SrcT Wf sb B a len cap (T + 100) := hWf ▸ ((((((FS.out.other _ _ _ (by omega) (by omega)).other _ _ _ (by omega) (by omega)).other _ _ _ (by omega) (by omega)).other _ _ _ (by omega) (by omega)).other _ _ _ (by omega) (by omega)).other _ _ _ (by omega) (by omega)).more (by omega)
        have HKf : Keeps sb w Wf := hWf ▸ (((((FK.out.own (by omega) _ _).own (by omega) _ _).own (by omega) _ _).own (by omega) _ _).own (by omega) _ _).own (by omega) _ _
        rw [hWf]
        clear hWf
        obtain ⟨d0, d1_, d2_, d3, d4, d5, -, -, -, -, -, -⟩ := HRf
        exact bodyPost_ret (v := .agg #[.int .i64 x.lo.pos, .int .i64 x.lo.vel, .int .i64 x.lo.door, .int .i64 x.up.pos, .int .i64 x.up.vel, .int .i64 x.up.door]) (by simp [results, Try.results50, go_sem, d0, d1_, d2_, d3, d4, d5]) rfl (by first | exact ⟨x, rfl, HSf, HKf⟩ | exact ⟨⟨x, rfl⟩, HSf, HKf⟩)
end Go.Proofs.Ytpfihpplpefikaa
