/-
  The house, the shaft and the two commands that the bytes draw.
-/
import Derived.Test.YtpfihpplpefikaaGuardW
namespace Go.Proofs.Ytpfihpplpefikaa
open Go.RowKit Pl
set_option linter.unusedSimpArgs false
set_option linter.unusedVariables false

theorem HAt.putH_o {W : World} {b k : Nat} {h : Hs} (a : HAt W b h) (hne : b ≠ k) (g : Hs) : HAt (putH W k g) b h := ((((((((((((a).other hne).other hne).other hne).other hne).other hne).other hne).other hne).other hne).other hne).other hne).other hne).other hne
theorem HAt.put6_o {W : World} {b k : Nat} {h : Hs} (a : HAt W b h) (hne : b ≠ k) (t : Sh) : HAt (put6 W k t) b h := ((((((a).other hne).other hne).other hne).other hne).other hne).other hne
theorem HAt.putX_o {W : World} {b k : Nat} {h : Hs} (a : HAt W b h) (hne : b ≠ k) (y : Cm) : HAt (putX W k y) b h := (((a).other hne).other hne).other hne
theorem SW.putH_o {W : World} {b k : Nat} {s : Sh} (a : SW W b s) (hne : b ≠ k) (g : Hs) : SW (putH W k g) b s := ((((((((((((a).other hne).other hne).other hne).other hne).other hne).other hne).other hne).other hne).other hne).other hne).other hne).other hne
theorem SW.put6_o {W : World} {b k : Nat} {s : Sh} (a : SW W b s) (hne : b ≠ k) (t : Sh) : SW (put6 W k t) b s := ((((((a).other hne).other hne).other hne).other hne).other hne).other hne
theorem SW.putX_o {W : World} {b k : Nat} {s : Sh} (a : SW W b s) (hne : b ≠ k) (y : Cm) : SW (putX W k y) b s := (((a).other hne).other hne).other hne
theorem XW.putH_o {W : World} {b k : Nat} {x : Cm} (a : XW W b x) (hne : b ≠ k) (g : Hs) : XW (putH W k g) b x := ((((((((((((a).other hne).other hne).other hne).other hne).other hne).other hne).other hne).other hne).other hne).other hne).other hne).other hne
theorem XW.put6_o {W : World} {b k : Nat} {x : Cm} (a : XW W b x) (hne : b ≠ k) (t : Sh) : XW (put6 W k t) b x := ((((((a).other hne).other hne).other hne).other hne).other hne).other hne
theorem XW.putX_o {W : World} {b k : Nat} {x : Cm} (a : XW W b x) (hne : b ≠ k) (y : Cm) : XW (putX W k y) b x := (((a).other hne).other hne).other hne
theorem R6.putH_o {W : World} {b k : Nat} (a : R6 W b) (hne : b ≠ k) (g : Hs) : R6 (putH W k g) b := ((((((((((((a).other hne).other hne).other hne).other hne).other hne).other hne).other hne).other hne).other hne).other hne).other hne).other hne
theorem R6.put6_o {W : World} {b k : Nat} (a : R6 W b) (hne : b ≠ k) (t : Sh) : R6 (put6 W k t) b := ((((((a).other hne).other hne).other hne).other hne).other hne).other hne
theorem R6.putX_o {W : World} {b k : Nat} (a : R6 W b) (hne : b ≠ k) (y : Cm) : R6 (putX W k y) b := (((a).other hne).other hne).other hne
theorem HW.putH_o {W : World} {b k : Nat} {h : Hs} (a : HW W b h) (hne : b ≠ k) (g : Hs) : HW (putH W k g) b h := ((((((((((((a).other hne).other hne).other hne).other hne).other hne).other hne).other hne).other hne).other hne).other hne).other hne).other hne
theorem HW.put6_o {W : World} {b k : Nat} {h : Hs} (a : HW W b h) (hne : b ≠ k) (t : Sh) : HW (put6 W k t) b h := ((((((a).other hne).other hne).other hne).other hne).other hne).other hne
theorem HW.putX_o {W : World} {b k : Nat} {h : Hs} (a : HW W b h) (hne : b ≠ k) (y : Cm) : HW (putX W k y) b h := (((a).other hne).other hne).other hne
theorem SrcT.putH_o {w : World} {sb B : Nat} {a : Option Addr} {len cap T : Nat} (h : SrcT w sb B a len cap T) (b : Nat) (g : Hs) (hb : b ≠ sb) (hB : B ≤ b) : SrcT (putH w b g) sb B a len cap T := ((((((((((((h).other b _ _ hb hB).other b _ _ hb hB).other b _ _ hb hB).other b _ _ hb hB).other b _ _ hb hB).other b _ _ hb hB).other b _ _ hb hB).other b _ _ hb hB).other b _ _ hb hB).other b _ _ hb hB).other b _ _ hb hB).other b _ _ hb hB
theorem Keeps.putH_o {sb b : Nat} {a w : World} (h : Keeps sb a w) (hb : a.heap.size ≤ b) (g : Hs) : Keeps sb a (putH w b g) := ((((((((((((h).own hb _ _).own hb _ _).own hb _ _).own hb _ _).own hb _ _).own hb _ _).own hb _ _).own hb _ _).own hb _ _).own hb _ _).own hb _ _).own hb _ _
theorem SrcT.put6_o {w : World} {sb B : Nat} {a : Option Addr} {len cap T : Nat} (h : SrcT w sb B a len cap T) (b : Nat) (g : Sh) (hb : b ≠ sb) (hB : B ≤ b) : SrcT (put6 w b g) sb B a len cap T := ((((((h).other b _ _ hb hB).other b _ _ hb hB).other b _ _ hb hB).other b _ _ hb hB).other b _ _ hb hB).other b _ _ hb hB
theorem Keeps.put6_o {sb b : Nat} {a w : World} (h : Keeps sb a w) (hb : a.heap.size ≤ b) (g : Sh) : Keeps sb a (put6 w b g) := ((((((h).own hb _ _).own hb _ _).own hb _ _).own hb _ _).own hb _ _).own hb _ _
set_option maxRecDepth 20000 in
set_option maxHeartbeats 16000000 in
theorem l5Draw_t (sb B : Nat) (a : Option Addr) (len cap T : Nat) (w : World) (hS : SrcT w sb B a len cap T) (hT : T ≤ 600000) :
    Calls Try.prog 30 #[.pointer (some ⟨sb, 0, none⟩)] w fun e w' => ∃ (h : Hs) (s : Sh) (x y : Cm), e = .returned (.tuple #[.agg #[.int .i64 h.fl, .int .i64 h.gp, .int .i64 h.ln, .int .i64 h.rf, .int .i64 h.sp, .int .i64 h.pu, .int .i64 h.br, .int .i64 h.dr, .int .i64 h.lv, .int .i64 h.dO, .int .i64 h.ld, .int .i64 h.qu], .agg #[.int .i64 s.lo.pos, .int .i64 s.lo.vel, .int .i64 s.lo.door, .int .i64 s.up.pos, .int .i64 s.up.vel, .int .i64 s.up.door], .agg #[.int .i64 x.push, .bool x.brk, .bool x.opn], .agg #[.int .i64 y.push, .bool y.brk, .bool y.opn]]) ∧ h.Ok ∧ SrcT w' sb B a len cap (T + 200) ∧ Keeps sb w w' := by
  have hlt := hS.lt
  have hB := hS.hB
  obtain ⟨W0, hW0⟩ : ∃ W0, W0 = ((((w.alloc (.cells #[.int .i64 0, .int .i64 0, .int .i64 0, .int .i64 0, .int .i64 0, .int .i64 0, .int .i64 0, .int .i64 0, .int .i64 0, .int .i64 0, .int .i64 0, .int .i64 0] 25)).alloc (.cells #[.int .i64 0, .int .i64 0, .int .i64 0, .int .i64 0, .int .i64 0, .int .i64 0] 40)).alloc (.cells #[.int .i64 0, .bool false, .bool false] 58)).alloc (.cells #[.int .i64 0, .bool false, .bool false] 58)) := ⟨_, rfl⟩
  have G0 : Hid (HW W0 w.heap.size (⟨0, 0, 0, 0, 0, 0, 0, 0, 0, 0, 0, 0⟩ : Hs)) := by rw [hW0]; exact (((HW.new w (⟨0, 0, 0, 0, 0, 0, 0, 0, 0, 0, 0, 0⟩ : Hs) _).alloc _).alloc _).alloc _
  have G1 : Hid (R6 W0 (w.heap.size + 1)) := by rw [hW0]; exact ((R6.at_ _ _ _ (by simp)).alloc _).alloc _
  have G2 : Hid (XW W0 (w.heap.size + 2) (⟨0, false, false⟩ : Cm)) := by rw [hW0]; exact (XW.at_ _ (⟨0, false, false⟩ : Cm) _ _ (by simp)).alloc _
  have G3 : Hid (XW W0 (w.heap.size + 3) (⟨0, false, false⟩ : Cm)) := by rw [hW0]; exact XW.at_ _ (⟨0, false, false⟩ : Cm) _ _ (by simp)
  have FS : Hid (SrcT W0 sb B a len cap T) := by rw [hW0]; exact (((hS.alloc _).alloc _).alloc _).alloc _
  have FK : Hid (Keeps sb w W0) := by rw [hW0]; exact ((((Keeps.refl _ _).alloc _).alloc _).alloc _).alloc _
  have HW0 : Hid (W0 = ((((w.alloc (.cells #[.int .i64 0, .int .i64 0, .int .i64 0, .int .i64 0, .int .i64 0, .int .i64 0, .int .i64 0, .int .i64 0, .int .i64 0, .int .i64 0, .int .i64 0, .int .i64 0] 25)).alloc (.cells #[.int .i64 0, .int .i64 0, .int .i64 0, .int .i64 0, .int .i64 0, .int .i64 0] 40)).alloc (.cells #[.int .i64 0, .bool false, .bool false] 58)).alloc (.cells #[.int .i64 0, .bool false, .bool false] 58))) := hW0
  clear hW0 hS
  go_enter Try.func30, Try.ntmps30
  go_wp2_with fail
  rw [← HW0.out]
  clear HW0
  refine (l2House_t sb B a len cap _ _ FS.out (by omega)).mono ?_
  rintro e w1 ⟨h, rfl, hsm, hs, hk⟩
  have HO : Hid h.Ok := hsm.ok
  have HF : Hid (h.fault = 0) := hsm.fault
  clear hsm
  have G0 : Hid (HW w1 w.heap.size (⟨0, 0, 0, 0, 0, 0, 0, 0, 0, 0, 0, 0⟩ : Hs)) := G0.out.keeps hk (by omega)
  have G1 : Hid (R6 w1 (w.heap.size + 1)) := G1.out.keeps hk (by omega)
  have G2 : Hid (XW w1 (w.heap.size + 2) (⟨0, false, false⟩ : Cm)) := G2.out.keeps hk (by omega)
  have G3 : Hid (XW w1 (w.heap.size + 3) (⟨0, false, false⟩ : Cm)) := G3.out.keeps hk (by omega)
  have FS : Hid (SrcT w1 sb B a len cap (T + 40)) := hs
  have FK : Hid (Keeps sb w w1) := FK.out.trans hk
  clear hs hk
  go_upto_region 2 with fail
  obtain ⟨b1, hbb⟩ : ∃ b1, b1 = w1.heap.size := ⟨_, rfl⟩
  obtain ⟨w2, hw2⟩ : ∃ w2, w2 = w1.alloc (.cells #[.int .i64 h.fl, .int .i64 h.gp, .int .i64 h.ln, .int .i64 h.rf, .int .i64 h.sp, .int .i64 h.pu, .int .i64 h.br, .int .i64 h.dr, .int .i64 h.lv, .int .i64 h.dO, .int .i64 h.ld, .int .i64 h.qu] 25) := ⟨_, rfl⟩
  have lb1S := FS.out.lt
  rw [← hbb] at lb1S
  have lb1G0 := G0.out.lt
  rw [← hbb] at lb1G0
  have G0 : Hid (HW w2 w.heap.size (⟨0, 0, 0, 0, 0, 0, 0, 0, 0, 0, 0, 0⟩ : Hs)) := by rw [hw2]; exact G0.out.alloc _
  have lb1G1 := G1.out.lt
  rw [← hbb] at lb1G1
  have G1 : Hid (R6 w2 (w.heap.size + 1)) := by rw [hw2]; exact G1.out.alloc _
  have lb1G2 := G2.out.lt
  rw [← hbb] at lb1G2
  have G2 : Hid (XW w2 (w.heap.size + 2) (⟨0, false, false⟩ : Cm)) := by rw [hw2]; exact G2.out.alloc _
  have lb1G3 := G3.out.lt
  rw [← hbb] at lb1G3
  have G3 : Hid (XW w2 (w.heap.size + 3) (⟨0, false, false⟩ : Cm)) := by rw [hw2]; exact G3.out.alloc _
  have FS : Hid (SrcT w2 sb B a len cap (T + 40)) := by rw [hw2]; exact FS.out.alloc _
  have FK : Hid (Keeps sb w w2) := by rw [hw2]; exact FK.out.alloc _
  have F0 : Hid (HAt w2 b1 h) := by rw [hw2]; exact HAt.at_ w1 h _ b1 hbb
  rw [← hw2, ← hbb]
  clear hbb hw2
  obtain ⟨x0_0, x0_1, x0_2, x0_3, x0_4, x0_5, x0_6, x0_7, x0_8, x0_9, x0_10, x0_11⟩ := F0.out
  go_wp2_with fail
  clear x0_0 x0_1 x0_2 x0_3 x0_4 x0_5 x0_6 x0_7 x0_8 x0_9 x0_10 x0_11
  refine (l3Shaft_t h HO.out sb B a len cap _ _ FS.out (by omega)).mono ?_
  rintro e w3 ⟨x, rfl, hs, hk⟩
  have G0 : Hid (HW w3 w.heap.size (⟨0, 0, 0, 0, 0, 0, 0, 0, 0, 0, 0, 0⟩ : Hs)) := G0.out.keeps hk (by omega)
  have G1 : Hid (R6 w3 (w.heap.size + 1)) := G1.out.keeps hk (by omega)
  have G2 : Hid (XW w3 (w.heap.size + 2) (⟨0, false, false⟩ : Cm)) := G2.out.keeps hk (by omega)
  have G3 : Hid (XW w3 (w.heap.size + 3) (⟨0, false, false⟩ : Cm)) := G3.out.keeps hk (by omega)
  have F0 : Hid (HAt w3 b1 h) := F0.out.keeps hk (by omega)
  have FS : Hid (SrcT w3 sb B a len cap (T + 40 + 100)) := hs
  have FK : Hid (Keeps sb w w3) := FK.out.trans hk
  clear hs hk
  go_upto_region 3 with fail
  obtain ⟨b2, hbb⟩ : ∃ b2, b2 = w3.heap.size := ⟨_, rfl⟩
  obtain ⟨w4, hw2⟩ : ∃ w4, w4 = w3.alloc (.cells #[.int .i64 x.lo.pos, .int .i64 x.lo.vel, .int .i64 x.lo.door, .int .i64 x.up.pos, .int .i64 x.up.vel, .int .i64 x.up.door] 40) := ⟨_, rfl⟩
  have lb2S := FS.out.lt
  rw [← hbb] at lb2S
  have lb2G0 := G0.out.lt
  rw [← hbb] at lb2G0
  have G0 : Hid (HW w4 w.heap.size (⟨0, 0, 0, 0, 0, 0, 0, 0, 0, 0, 0, 0⟩ : Hs)) := by rw [hw2]; exact G0.out.alloc _
  have lb2G1 := G1.out.lt
  rw [← hbb] at lb2G1
  have G1 : Hid (R6 w4 (w.heap.size + 1)) := by rw [hw2]; exact G1.out.alloc _
  have lb2G2 := G2.out.lt
  rw [← hbb] at lb2G2
  have G2 : Hid (XW w4 (w.heap.size + 2) (⟨0, false, false⟩ : Cm)) := by rw [hw2]; exact G2.out.alloc _
  have lb2G3 := G3.out.lt
  rw [← hbb] at lb2G3
  have G3 : Hid (XW w4 (w.heap.size + 3) (⟨0, false, false⟩ : Cm)) := by rw [hw2]; exact G3.out.alloc _
  have lb2F0 := F0.out.lt
  rw [← hbb] at lb2F0
  have F0 : Hid (HAt w4 b1 h) := by rw [hw2]; exact F0.out.alloc _
  have FS : Hid (SrcT w4 sb B a len cap (T + 40 + 100)) := by rw [hw2]; exact FS.out.alloc _
  have FK : Hid (Keeps sb w w4) := by rw [hw2]; exact FK.out.alloc _
  have F4 : Hid (SW w4 b2 x) := by rw [hw2]; exact SW.at_ w3 x _ b2 hbb
  rw [← hw2, ← hbb]
  clear hbb hw2
  go_cut [29] (fun c wx => ∃ vb : Bool, c = .bool vb ∧ (vb = true → h.carC x.lo = 0 ∧ h.carC x.up = 0) ∧ HW wx w.heap.size (⟨0, 0, 0, 0, 0, 0, 0, 0, 0, 0, 0, 0⟩ : Hs) ∧ R6 wx (w.heap.size + 1) ∧ XW wx (w.heap.size + 2) (⟨0, false, false⟩ : Cm) ∧ XW wx (w.heap.size + 3) (⟨0, false, false⟩ : Cm) ∧ HAt wx b1 h ∧ SW wx b2 x ∧ SrcT wx sb B a len cap (T + 40 + 100 + 1) ∧ Keeps sb w wx)
  case first =>
    go_wp2_with fail
    refine (l1Chance_t sb B a len cap _ _ _ FS.out (by omega) (by omega) (by omega)).mono ?_
    rintro e w5 ⟨vb, rfl, hs, hk⟩
    have G0 : Hid (HW w5 w.heap.size (⟨0, 0, 0, 0, 0, 0, 0, 0, 0, 0, 0, 0⟩ : Hs)) := G0.out.keeps hk (by omega)
    have G1 : Hid (R6 w5 (w.heap.size + 1)) := G1.out.keeps hk (by omega)
    have G2 : Hid (XW w5 (w.heap.size + 2) (⟨0, false, false⟩ : Cm)) := G2.out.keeps hk (by omega)
    have G3 : Hid (XW w5 (w.heap.size + 3) (⟨0, false, false⟩ : Cm)) := G3.out.keeps hk (by omega)
    have F0 : Hid (HAt w5 b1 h) := F0.out.keeps hk (by omega)
    have F4 : Hid (SW w5 b2 x) := F4.out.keeps hk (by omega)
    have FS : Hid (SrcT w5 sb B a len cap (T + 40 + 100 + 1)) := hs
    have FK : Hid (Keeps sb w w5) := FK.out.trans hk
    clear hs hk
    obtain ⟨x0_0, x0_1, x0_2, x0_3, x0_4, x0_5, x0_6, x0_7, x0_8, x0_9, x0_10, x0_11⟩ := F0.out
    obtain ⟨x4_0, x4_1, x4_2, x4_3, x4_4, x4_5, y4_0, y4_1, y4_2, y4_3, y4_4, y4_5⟩ := F4.out
    cases vb with
    | false =>
      go_wp2
      go_meet
      case rel => exact ⟨false, rfl, fun e => Bool.noConfusion e, G0.out, G1.out, G2.out, G3.out, F0.out, F4.out, FS.out, FK.out⟩
    | true =>
      cases k1 : (h.carC x.lo == 0) with
      | false =>
        go_wp2_with (go_at_call 51; refine (l3Car_any h HO.out _ _).mono ?_; rintro e w6 ⟨rfl, hb⟩; have G0 : Hid (HW w6 w.heap.size (⟨0, 0, 0, 0, 0, 0, 0, 0, 0, 0, 0, 0⟩ : Hs)) := G0.out.below hb G0.out.lt; have G1 : Hid (R6 w6 (w.heap.size + 1)) := G1.out.below hb G1.out.lt; have G2 : Hid (XW w6 (w.heap.size + 2) (⟨0, false, false⟩ : Cm)) := G2.out.below hb G2.out.lt; have G3 : Hid (XW w6 (w.heap.size + 3) (⟨0, false, false⟩ : Cm)) := G3.out.below hb G3.out.lt; have F0 : Hid (HAt w6 b1 h) := F0.out.below hb F0.out.lt; have F4 : Hid (SW w6 b2 x) := F4.out.below hb F4.out.lt; have FS : Hid (SrcT w6 sb B a len cap (T + 40 + 100 + 1)) := FS.out.below hb; have FK : Hid (Keeps sb w w6) := FK.out.of_below hb; clear hb; obtain ⟨x0_0, x0_1, x0_2, x0_3, x0_4, x0_5, x0_6, x0_7, x0_8, x0_9, x0_10, x0_11⟩ := F0.out; obtain ⟨x4_0, x4_1, x4_2, x4_3, x4_4, x4_5, y4_0, y4_1, y4_2, y4_3, y4_4, y4_5⟩ := F4.out)
        go_meet
        case rel => exact ⟨false, rfl, fun e => Bool.noConfusion e, G0.out, G1.out, G2.out, G3.out, F0.out, F4.out, FS.out, FK.out⟩
      | true =>
        cases k2 : (h.carC x.up == 0) with
        | false =>
          go_wp2_with (go_at_call 51; refine (l3Car_any h HO.out _ _).mono ?_; rintro e w6 ⟨rfl, hb⟩; have G0 : Hid (HW w6 w.heap.size (⟨0, 0, 0, 0, 0, 0, 0, 0, 0, 0, 0, 0⟩ : Hs)) := G0.out.below hb G0.out.lt; have G1 : Hid (R6 w6 (w.heap.size + 1)) := G1.out.below hb G1.out.lt; have G2 : Hid (XW w6 (w.heap.size + 2) (⟨0, false, false⟩ : Cm)) := G2.out.below hb G2.out.lt; have G3 : Hid (XW w6 (w.heap.size + 3) (⟨0, false, false⟩ : Cm)) := G3.out.below hb G3.out.lt; have F0 : Hid (HAt w6 b1 h) := F0.out.below hb F0.out.lt; have F4 : Hid (SW w6 b2 x) := F4.out.below hb F4.out.lt; have FS : Hid (SrcT w6 sb B a len cap (T + 40 + 100 + 1)) := FS.out.below hb; have FK : Hid (Keeps sb w w6) := FK.out.of_below hb; clear hb; obtain ⟨x0_0, x0_1, x0_2, x0_3, x0_4, x0_5, x0_6, x0_7, x0_8, x0_9, x0_10, x0_11⟩ := F0.out; obtain ⟨x4_0, x4_1, x4_2, x4_3, x4_4, x4_5, y4_0, y4_1, y4_2, y4_3, y4_4, y4_5⟩ := F4.out)
          go_meet
          case rel => exact ⟨false, rfl, fun e => Bool.noConfusion e, G0.out, G1.out, G2.out, G3.out, F0.out, F4.out, FS.out, FK.out⟩
        | true =>
          go_wp2_with (go_at_call 51; refine (l3Car_any h HO.out _ _).mono ?_; rintro e w6 ⟨rfl, hb⟩; have G0 : Hid (HW w6 w.heap.size (⟨0, 0, 0, 0, 0, 0, 0, 0, 0, 0, 0, 0⟩ : Hs)) := G0.out.below hb G0.out.lt; have G1 : Hid (R6 w6 (w.heap.size + 1)) := G1.out.below hb G1.out.lt; have G2 : Hid (XW w6 (w.heap.size + 2) (⟨0, false, false⟩ : Cm)) := G2.out.below hb G2.out.lt; have G3 : Hid (XW w6 (w.heap.size + 3) (⟨0, false, false⟩ : Cm)) := G3.out.below hb G3.out.lt; have F0 : Hid (HAt w6 b1 h) := F0.out.below hb F0.out.lt; have F4 : Hid (SW w6 b2 x) := F4.out.below hb F4.out.lt; have FS : Hid (SrcT w6 sb B a len cap (T + 40 + 100 + 1)) := FS.out.below hb; have FK : Hid (Keeps sb w w6) := FK.out.of_below hb; clear hb; obtain ⟨x0_0, x0_1, x0_2, x0_3, x0_4, x0_5, x0_6, x0_7, x0_8, x0_9, x0_10, x0_11⟩ := F0.out; obtain ⟨x4_0, x4_1, x4_2, x4_3, x4_4, x4_5, y4_0, y4_1, y4_2, y4_3, y4_4, y4_5⟩ := F4.out)
          go_meet
          case rel => exact ⟨true, rfl, fun _ => ⟨by simpa using k1, by simpa using k2⟩, G0.out, G1.out, G2.out, G3.out, F0.out, F4.out, FS.out, FK.out⟩
  case rest =>
    obtain ⟨vb, rfl, hcar, h0, h1, h2, h3, h4, h5, h6, h7⟩ := hcut
    have G0 : Hid (HW wc w.heap.size (⟨0, 0, 0, 0, 0, 0, 0, 0, 0, 0, 0, 0⟩ : Hs)) := h0
    have G1 : Hid (R6 wc (w.heap.size + 1)) := h1
    have G2 : Hid (XW wc (w.heap.size + 2) (⟨0, false, false⟩ : Cm)) := h2
    have G3 : Hid (XW wc (w.heap.size + 3) (⟨0, false, false⟩ : Cm)) := h3
    have F0 : Hid (HAt wc b1 h) := h4
    have F4 : Hid (SW wc b2 x) := h5
    have FS : Hid (SrcT wc sb B a len cap (T + 40 + 100 + 1)) := h6
    have FK : Hid (Keeps sb w wc) := h7
    clear h0 h1 h2 h3 h4 h5 h6 h7
    obtain ⟨wd, hwd⟩ : ∃ wd, wd = wc := ⟨_, rfl⟩
    subst hwd
    go_upto_if 29 with fail
    go_cut [7] (fun p wx => p = .pointer (some ⟨b2, 0, none⟩) ∧ ∃ x : Sh, HW wx w.heap.size (⟨0, 0, 0, 0, 0, 0, 0, 0, 0, 0, 0, 0⟩ : Hs) ∧ R6 wx (w.heap.size + 1) ∧ XW wx (w.heap.size + 2) (⟨0, false, false⟩ : Cm) ∧ XW wx (w.heap.size + 3) (⟨0, false, false⟩ : Cm) ∧ HAt wx b1 h ∧ SW wx b2 x ∧ SrcT wx sb B a len cap (T + 40 + 100 + 2) ∧ Keeps sb w wx)
    case first =>
      cases vb with
      | false =>
        go_wp2
        go_meet
        case rel => exact ⟨rfl, x, G0.out, G1.out, G2.out, G3.out, F0.out, F4.out, FS.out.more (by omega), FK.out⟩
      | true =>
        obtain ⟨k1, k2⟩ := hcar rfl
        have el := car_env (Hs.car_zero (by rw [Hs.car_ok HF.out]; exact k1))
        have eu := car_env (Hs.car_zero (by rw [Hs.car_ok HF.out]; exact k2))
        clear hcar k1 k2
        go_wp2_with fail
        have G0 : Hid (HW wd.drew w.heap.size (⟨0, 0, 0, 0, 0, 0, 0, 0, 0, 0, 0, 0⟩ : Hs)) := G0.out.below (Below.refl _ _).drew G0.out.lt
        have G1 : Hid (R6 wd.drew (w.heap.size + 1)) := G1.out.below (Below.refl _ _).drew G1.out.lt
        have G2 : Hid (XW wd.drew (w.heap.size + 2) (⟨0, false, false⟩ : Cm)) := G2.out.below (Below.refl _ _).drew G2.out.lt
        have G3 : Hid (XW wd.drew (w.heap.size + 3) (⟨0, false, false⟩ : Cm)) := G3.out.below (Below.refl _ _).drew G3.out.lt
        have F0 : Hid (HAt wd.drew b1 h) := F0.out.below (Below.refl _ _).drew F0.out.lt
        have F4 : Hid (SW wd.drew b2 x) := F4.out.below (Below.refl _ _).drew F4.out.lt
        have FS : Hid (SrcT wd.drew sb B a len cap (T + 40 + 100 + 1)) := FS.out.drew
        have FK : Hid (Keeps sb w wd.drew) := FK.out.of_below (Below.refl _ _).drew
        obtain ⟨x0_0, x0_1, x0_2, x0_3, x0_4, x0_5, x0_6, x0_7, x0_8, x0_9, x0_10, x0_11⟩ := F0.out
        have z0_ := F4.out.c0
        have z1_ := F4.out.c1
        have z4_ := F4.out.c4
        refine wp_region_held_drew (S := (fun w'' => w''.cell? ⟨b1, 0, none⟩ = some (.int .i64 h.fl) ∧ w''.cell? ⟨b1, 1, none⟩ = some (.int .i64 h.gp) ∧ w''.cell? ⟨b1, 2, none⟩ = some (.int .i64 h.ln) ∧ w''.cell? ⟨b1, 3, none⟩ = some (.int .i64 h.rf) ∧ w''.cell? ⟨b1, 4, none⟩ = some (.int .i64 h.sp) ∧ w''.cell? ⟨b1, 5, none⟩ = some (.int .i64 h.pu) ∧ w''.cell? ⟨b1, 6, none⟩ = some (.int .i64 h.br) ∧ w''.cell? ⟨b1, 7, none⟩ = some (.int .i64 h.dr) ∧ w''.cell? ⟨b1, 8, none⟩ = some (.int .i64 h.lv) ∧ w''.cell? ⟨b1, 9, none⟩ = some (.int .i64 h.dO) ∧ w''.cell? ⟨b1, 10, none⟩ = some (.int .i64 h.ld) ∧ w''.cell? ⟨b1, 11, none⟩ = some (.int .i64 h.qu) ∧ w''.cell? ⟨b2, 0, none⟩ = some (.int .i64 x.lo.pos) ∧ w''.cell? ⟨b2, 1, none⟩ = some (.int .i64 x.lo.vel) ∧ w''.cell? ⟨b2, 4, none⟩ = some (.int .i64 x.up.vel))) (by kernel_rfl) (by (try dsimp only); first | exact ⟨x0_0, x0_1, x0_2, x0_3, x0_4, x0_5, x0_6, x0_7, x0_8, x0_9, x0_10, x0_11, z0_, z1_, z4_⟩ | go_keep) (fun hHeld => ?_)
        obtain ⟨v_1, hw1⟩ : ∃ v_1, v_1 = wd.drew := ⟨_, rfl⟩
        have G0 : Hid (HW v_1 w.heap.size (⟨0, 0, 0, 0, 0, 0, 0, 0, 0, 0, 0, 0⟩ : Hs)) := by rw [hw1]; exact G0.out
        have G1 : Hid (R6 v_1 (w.heap.size + 1)) := by rw [hw1]; exact G1.out
        have G2 : Hid (XW v_1 (w.heap.size + 2) (⟨0, false, false⟩ : Cm)) := by rw [hw1]; exact G2.out
        have G3 : Hid (XW v_1 (w.heap.size + 3) (⟨0, false, false⟩ : Cm)) := by rw [hw1]; exact G3.out
        have F0 : Hid (HAt v_1 b1 h) := by rw [hw1]; exact F0.out
        have F4 : Hid (SW v_1 b2 x) := by rw [hw1]; exact F4.out
        have FS : Hid (SrcT v_1 sb B a len cap (T + 40 + 100 + 1)) := by rw [hw1]; exact FS.out
        have FK : Hid (Keeps sb w v_1) := by rw [hw1]; exact FK.out
        rw [← hw1] at hHeld ⊢
        clear hw1
        obtain ⟨x0_0, x0_1, x0_2, x0_3, x0_4, x0_5, x0_6, x0_7, x0_8, x0_9, x0_10, x0_11⟩ := F0.out
        have z0_ := F4.out.c0
        have z1_ := F4.out.c1
        have z4_ := F4.out.c4
        refine tkz 0 rfl ?_
        refine tkz 1 rfl ?_
        refine tkz 2 rfl ?_
        refine tkz 3 rfl ?_
        refine tkz 4 rfl ?_
        refine tkz 5 rfl ?_
        refine tkz 6 rfl ?_
        refine tkz 8 rfl ?_
        refine tkz 9 rfl ?_
        refine tkz 11 rfl ?_
        refine tkz 12 rfl ?_
        refine tkz 15 rfl ?_
        refine tkz 16 rfl ?_
        refine tkz 17 rfl ?_
        refine tkz 19 rfl ?_
        refine tkz 20 rfl ?_
        refine tkz 21 rfl ?_
        refine tkz 24 rfl ?_
        refine wpAnyH_ready (rs := [7, 13, 18]) (by kernel_rfl) (by simp) ?_
        refine (AllReadyH.cons rfl (fun K hK => ?_) (AllReadyH.cons rfl (fun K hK => ?_) (AllReadyH.cons rfl (fun K hK => ?_) AllReadyH.nil)))
        · go_simp
          refine (l3High_any h HO.out _ _ (by omega) (by omega) (by omega) (by omega) _).mono ?_
          rintro e v_2 ⟨rfl, hb⟩
          have G0 : Hid (HW v_2 w.heap.size (⟨0, 0, 0, 0, 0, 0, 0, 0, 0, 0, 0, 0⟩ : Hs)) := G0.out.below hb G0.out.lt
          have G1 : Hid (R6 v_2 (w.heap.size + 1)) := G1.out.below hb G1.out.lt
          have G2 : Hid (XW v_2 (w.heap.size + 2) (⟨0, false, false⟩ : Cm)) := G2.out.below hb G2.out.lt
          have G3 : Hid (XW v_2 (w.heap.size + 3) (⟨0, false, false⟩ : Cm)) := G3.out.below hb G3.out.lt
          have F0 : Hid (HAt v_2 b1 h) := F0.out.below hb F0.out.lt
          have F4 : Hid (SW v_2 b2 x) := F4.out.below hb F4.out.lt
          have FS : Hid (SrcT v_2 sb B a len cap (T + 40 + 100 + 1)) := FS.out.below hb
          have FK : Hid (Keeps sb w v_2) := FK.out.of_below hb
          clear hb
          obtain ⟨x0_0, x0_1, x0_2, x0_3, x0_4, x0_5, x0_6, x0_7, x0_8, x0_9, x0_10, x0_11⟩ := F0.out
          have z0_ := F4.out.c0
          have z1_ := F4.out.c1
          have z4_ := F4.out.c4
          try dsimp only
          refine hK.out _ _ (by (try dsimp only); first | exact ⟨x0_0, x0_1, x0_2, x0_3, x0_4, x0_5, x0_6, x0_7, x0_8, x0_9, x0_10, x0_11, z0_, z1_, z4_⟩ | go_keep) (fun hHeld => ?_)
          clear hK K
          try simp only [Act.put, List.getElem_toArray, List.getElem_cons_succ, List.getElem_cons_zero, List.setIfInBounds_toArray, List.set_cons_zero, List.set_cons_succ]
          refine tkz 10 rfl ?_
          refine wpAnyH_ready (rs := [13, 18]) (by kernel_rfl) (by simp) ?_
          refine (AllReadyH.cons rfl (fun K hK => ?_) (AllReadyH.cons rfl (fun K hK => ?_) AllReadyH.nil))
          · obtain ⟨x4_0, x4_1, x4_2, x4_3, x4_4, x4_5, y4_0, y4_1, y4_2, y4_3, y4_4, y4_5⟩ := F4.out
            go_simp
            refine hK.out _ _ (by (try dsimp only); first | exact ⟨x0_0, x0_1, x0_2, x0_3, x0_4, x0_5, x0_6, x0_7, x0_8, x0_9, x0_10, x0_11, z0_, z1_, z4_⟩ | go_keep) (fun hHeld => ?_)
            clear hK K
            try simp only [Act.put, List.getElem_toArray, List.getElem_cons_succ, List.getElem_cons_zero, List.setIfInBounds_toArray, List.set_cons_zero, List.set_cons_succ]
            refine tkz 14 rfl ?_
            refine wpAnyH_ready (rs := [18]) (by kernel_rfl) (by simp) ?_
            refine (AllReadyH.cons rfl (fun K hK => ?_) AllReadyH.nil)
            obtain ⟨x4_0, x4_1, x4_2, x4_3, x4_4, x4_5, y4_0, y4_1, y4_2, y4_3, y4_4, y4_5⟩ := F4.out
            go_simp
            refine hK.out _ _ (by (try dsimp only); first | exact ⟨x0_0, x0_1, x0_2, x0_3, x0_4, x0_5, x0_6, x0_7, x0_8, x0_9, x0_10, x0_11, z0_, z1_, z4_⟩ | go_keep) (fun hHeld => ?_)
            clear hK K
            try simp only [Act.put, List.getElem_toArray, List.getElem_cons_succ, List.getElem_cons_zero, List.setIfInBounds_toArray, List.set_cons_zero, List.set_cons_succ]
            refine wpAnyH_ready (rs := [22]) (by kernel_rfl) (by simp) ?_
            refine (AllReadyH.cons rfl (fun K hK => ?_) AllReadyH.nil)
            go_simp
            refine (l3Low_any h HO.out _ _ (by omega) (by omega) (by omega) (by omega) _).mono ?_
            rintro e v_3 ⟨rfl, hb⟩
            have G0 : Hid (HW v_3 w.heap.size (⟨0, 0, 0, 0, 0, 0, 0, 0, 0, 0, 0, 0⟩ : Hs)) := G0.out.below hb G0.out.lt
            have G1 : Hid (R6 v_3 (w.heap.size + 1)) := G1.out.below hb G1.out.lt
            have G2 : Hid (XW v_3 (w.heap.size + 2) (⟨0, false, false⟩ : Cm)) := G2.out.below hb G2.out.lt
            have G3 : Hid (XW v_3 (w.heap.size + 3) (⟨0, false, false⟩ : Cm)) := G3.out.below hb G3.out.lt
            have F0 : Hid (HAt v_3 b1 h) := F0.out.below hb F0.out.lt
            have F4 : Hid (SW v_3 b2 x) := F4.out.below hb F4.out.lt
            have FS : Hid (SrcT v_3 sb B a len cap (T + 40 + 100 + 1)) := FS.out.below hb
            have FK : Hid (Keeps sb w v_3) := FK.out.of_below hb
            clear hb
            obtain ⟨x0_0, x0_1, x0_2, x0_3, x0_4, x0_5, x0_6, x0_7, x0_8, x0_9, x0_10, x0_11⟩ := F0.out
            have z0_ := F4.out.c0
            have z1_ := F4.out.c1
            have z4_ := F4.out.c4
            try dsimp only
            refine hK.out _ _ (by (try dsimp only); first | exact ⟨x0_0, x0_1, x0_2, x0_3, x0_4, x0_5, x0_6, x0_7, x0_8, x0_9, x0_10, x0_11, z0_, z1_, z4_⟩ | go_keep) (fun hHeld => ?_)
            clear hK K
            try simp only [Act.put, List.getElem_toArray, List.getElem_cons_succ, List.getElem_cons_zero, List.setIfInBounds_toArray, List.set_cons_zero, List.set_cons_succ]
            refine tkz 23 rfl ?_
            refine wpAnyH_ready (rs := [25]) (by kernel_rfl) (by simp) ?_
            refine (AllReadyH.cons rfl (fun K hK => ?_) AllReadyH.nil)
            go_simp
            refine (l1Next_t sb B a len cap _ _ _ FS.out (by omega) (by omega) (by omega)).mono ?_
            rintro e v_4 ⟨v, rfl, hv, hs, hk⟩
            have G0 : Hid (HW v_4 w.heap.size (⟨0, 0, 0, 0, 0, 0, 0, 0, 0, 0, 0, 0⟩ : Hs)) := G0.out.keeps hk (by omega)
            have G1 : Hid (R6 v_4 (w.heap.size + 1)) := G1.out.keeps hk (by omega)
            have G2 : Hid (XW v_4 (w.heap.size + 2) (⟨0, false, false⟩ : Cm)) := G2.out.keeps hk (by omega)
            have G3 : Hid (XW v_4 (w.heap.size + 3) (⟨0, false, false⟩ : Cm)) := G3.out.keeps hk (by omega)
            have F0 : Hid (HAt v_4 b1 h) := F0.out.keeps hk (by omega)
            have F4 : Hid (SW v_4 b2 x) := F4.out.keeps hk (by omega)
            have FS : Hid (SrcT v_4 sb B a len cap ((T + 40 + 100 + 1) + 1)) := hs
            have FK : Hid (Keeps sb w v_4) := FK.out.trans hk
            clear hs hk
            obtain ⟨x0_0, x0_1, x0_2, x0_3, x0_4, x0_5, x0_6, x0_7, x0_8, x0_9, x0_10, x0_11⟩ := F0.out
            have z0_ := F4.out.c0
            have z1_ := F4.out.c1
            have z4_ := F4.out.c4
            try dsimp only
            refine hK.out _ _ (by (try dsimp only); first | exact ⟨x0_0, x0_1, x0_2, x0_3, x0_4, x0_5, x0_6, x0_7, x0_8, x0_9, x0_10, x0_11, z0_, z1_, z4_⟩ | go_keep) (fun hHeld => ?_)
            clear hK K
            try simp only [Act.put, List.getElem_toArray, List.getElem_cons_succ, List.getElem_cons_zero, List.setIfInBounds_toArray, List.set_cons_zero, List.set_cons_succ]
            refine tkz 26 rfl ?_
            refine tkz 27 rfl ?_
            refine tkz 28 rfl ?_
            refine wpAnyH_ready (rs := [29]) (by kernel_rfl) (by simp) ?_
            refine (AllReadyH.cons rfl (fun K hK => ?_) AllReadyH.nil)
            obtain ⟨x4_0, x4_1, x4_2, x4_3, x4_4, x4_5, y4_0, y4_1, y4_2, y4_3, y4_4, y4_5⟩ := F4.out
            go_simp
            refine hK.out _ _ (by (try dsimp only); first | ((repeat' apply And.intro) <;> first | ((rw [cellS (by omega)]); assumption) | (rw [World.cell?_setCell_other _ _ _ _ (by simp)]; assumption)) | ((repeat' apply And.intro) <;> ((repeat rw [cellS (by omega)]); assumption)) | go_keep) (fun hHeld => ?_)
            clear hK K
            try simp only [Act.put, List.getElem_toArray, List.getElem_cons_succ, List.getElem_cons_zero, List.setIfInBounds_toArray, List.set_cons_zero, List.set_cons_succ]
            refine wpAnyH_done (by kernel_rfl) ?_ _
            go_wp2_with fail
            go_meet
            case rel => exact ⟨rfl, _, G0.out.other (by omega), G1.out.other (by omega), G2.out.other (by omega), G3.out.other (by omega), F0.out.other (by omega), F4.out.set_up _, FS.out.other b2 _ _ (by omega) (by omega), FK.out.own (by omega) _ _⟩
          · obtain ⟨x4_0, x4_1, x4_2, x4_3, x4_4, x4_5, y4_0, y4_1, y4_2, y4_3, y4_4, y4_5⟩ := F4.out
            go_simp
            refine hK.out _ _ (by (try dsimp only); first | exact ⟨x0_0, x0_1, x0_2, x0_3, x0_4, x0_5, x0_6, x0_7, x0_8, x0_9, x0_10, x0_11, z0_, z1_, z4_⟩ | go_keep) (fun hHeld => ?_)
            clear hK K
            try simp only [Act.put, List.getElem_toArray, List.getElem_cons_succ, List.getElem_cons_zero, List.setIfInBounds_toArray, List.set_cons_zero, List.set_cons_succ]
            refine wpAnyH_ready (rs := [13, 22]) (by kernel_rfl) (by simp) ?_
            refine (AllReadyH.cons rfl (fun K hK => ?_) (AllReadyH.cons rfl (fun K hK => ?_) AllReadyH.nil))
            · obtain ⟨x4_0, x4_1, x4_2, x4_3, x4_4, x4_5, y4_0, y4_1, y4_2, y4_3, y4_4, y4_5⟩ := F4.out
              go_simp
              refine hK.out _ _ (by (try dsimp only); first | exact ⟨x0_0, x0_1, x0_2, x0_3, x0_4, x0_5, x0_6, x0_7, x0_8, x0_9, x0_10, x0_11, z0_, z1_, z4_⟩ | go_keep) (fun hHeld => ?_)
              clear hK K
              try simp only [Act.put, List.getElem_toArray, List.getElem_cons_succ, List.getElem_cons_zero, List.setIfInBounds_toArray, List.set_cons_zero, List.set_cons_succ]
              refine tkz 14 rfl ?_
              refine wpAnyH_ready (rs := [22]) (by kernel_rfl) (by simp) ?_
              refine (AllReadyH.cons rfl (fun K hK => ?_) AllReadyH.nil)
              go_simp
              refine (l3Low_any h HO.out _ _ (by omega) (by omega) (by omega) (by omega) _).mono ?_
              rintro e v_5 ⟨rfl, hb⟩
              have G0 : Hid (HW v_5 w.heap.size (⟨0, 0, 0, 0, 0, 0, 0, 0, 0, 0, 0, 0⟩ : Hs)) := G0.out.below hb G0.out.lt
              have G1 : Hid (R6 v_5 (w.heap.size + 1)) := G1.out.below hb G1.out.lt
              have G2 : Hid (XW v_5 (w.heap.size + 2) (⟨0, false, false⟩ : Cm)) := G2.out.below hb G2.out.lt
              have G3 : Hid (XW v_5 (w.heap.size + 3) (⟨0, false, false⟩ : Cm)) := G3.out.below hb G3.out.lt
              have F0 : Hid (HAt v_5 b1 h) := F0.out.below hb F0.out.lt
              have F4 : Hid (SW v_5 b2 x) := F4.out.below hb F4.out.lt
              have FS : Hid (SrcT v_5 sb B a len cap (T + 40 + 100 + 1)) := FS.out.below hb
              have FK : Hid (Keeps sb w v_5) := FK.out.of_below hb
              clear hb
              obtain ⟨x0_0, x0_1, x0_2, x0_3, x0_4, x0_5, x0_6, x0_7, x0_8, x0_9, x0_10, x0_11⟩ := F0.out
              have z0_ := F4.out.c0
              have z1_ := F4.out.c1
              have z4_ := F4.out.c4
              try dsimp only
              refine hK.out _ _ (by (try dsimp only); first | exact ⟨x0_0, x0_1, x0_2, x0_3, x0_4, x0_5, x0_6, x0_7, x0_8, x0_9, x0_10, x0_11, z0_, z1_, z4_⟩ | go_keep) (fun hHeld => ?_)
              clear hK K
              try simp only [Act.put, List.getElem_toArray, List.getElem_cons_succ, List.getElem_cons_zero, List.setIfInBounds_toArray, List.set_cons_zero, List.set_cons_succ]
              refine tkz 23 rfl ?_
              refine wpAnyH_ready (rs := [25]) (by kernel_rfl) (by simp) ?_
              refine (AllReadyH.cons rfl (fun K hK => ?_) AllReadyH.nil)
              go_simp
              refine (l1Next_t sb B a len cap _ _ _ FS.out (by omega) (by omega) (by omega)).mono ?_
              rintro e v_6 ⟨v, rfl, hv, hs, hk⟩
              have G0 : Hid (HW v_6 w.heap.size (⟨0, 0, 0, 0, 0, 0, 0, 0, 0, 0, 0, 0⟩ : Hs)) := G0.out.keeps hk (by omega)
              have G1 : Hid (R6 v_6 (w.heap.size + 1)) := G1.out.keeps hk (by omega)
              have G2 : Hid (XW v_6 (w.heap.size + 2) (⟨0, false, false⟩ : Cm)) := G2.out.keeps hk (by omega)
              have G3 : Hid (XW v_6 (w.heap.size + 3) (⟨0, false, false⟩ : Cm)) := G3.out.keeps hk (by omega)
              have F0 : Hid (HAt v_6 b1 h) := F0.out.keeps hk (by omega)
              have F4 : Hid (SW v_6 b2 x) := F4.out.keeps hk (by omega)
              have FS : Hid (SrcT v_6 sb B a len cap ((T + 40 + 100 + 1) + 1)) := hs
              have FK : Hid (Keeps sb w v_6) := FK.out.trans hk
              clear hs hk
              obtain ⟨x0_0, x0_1, x0_2, x0_3, x0_4, x0_5, x0_6, x0_7, x0_8, x0_9, x0_10, x0_11⟩ := F0.out
              have z0_ := F4.out.c0
              have z1_ := F4.out.c1
              have z4_ := F4.out.c4
              try dsimp only
              refine hK.out _ _ (by (try dsimp only); first | exact ⟨x0_0, x0_1, x0_2, x0_3, x0_4, x0_5, x0_6, x0_7, x0_8, x0_9, x0_10, x0_11, z0_, z1_, z4_⟩ | go_keep) (fun hHeld => ?_)
              clear hK K
              try simp only [Act.put, List.getElem_toArray, List.getElem_cons_succ, List.getElem_cons_zero, List.setIfInBounds_toArray, List.set_cons_zero, List.set_cons_succ]
              refine tkz 26 rfl ?_
              refine tkz 27 rfl ?_
              refine tkz 28 rfl ?_
              refine wpAnyH_ready (rs := [29]) (by kernel_rfl) (by simp) ?_
              refine (AllReadyH.cons rfl (fun K hK => ?_) AllReadyH.nil)
              obtain ⟨x4_0, x4_1, x4_2, x4_3, x4_4, x4_5, y4_0, y4_1, y4_2, y4_3, y4_4, y4_5⟩ := F4.out
              go_simp
              refine hK.out _ _ (by (try dsimp only); first | ((repeat' apply And.intro) <;> first | ((rw [cellS (by omega)]); assumption) | (rw [World.cell?_setCell_other _ _ _ _ (by simp)]; assumption)) | ((repeat' apply And.intro) <;> ((repeat rw [cellS (by omega)]); assumption)) | go_keep) (fun hHeld => ?_)
              clear hK K
              try simp only [Act.put, List.getElem_toArray, List.getElem_cons_succ, List.getElem_cons_zero, List.setIfInBounds_toArray, List.set_cons_zero, List.set_cons_succ]
              refine wpAnyH_done (by kernel_rfl) ?_ _
              go_wp2_with fail
              go_meet
              case rel => exact ⟨rfl, _, G0.out.other (by omega), G1.out.other (by omega), G2.out.other (by omega), G3.out.other (by omega), F0.out.other (by omega), F4.out.set_up _, FS.out.other b2 _ _ (by omega) (by omega), FK.out.own (by omega) _ _⟩
            · go_simp
              refine (l3Low_any h HO.out _ _ (by omega) (by omega) (by omega) (by omega) _).mono ?_
              rintro e v_7 ⟨rfl, hb⟩
              have G0 : Hid (HW v_7 w.heap.size (⟨0, 0, 0, 0, 0, 0, 0, 0, 0, 0, 0, 0⟩ : Hs)) := G0.out.below hb G0.out.lt
              have G1 : Hid (R6 v_7 (w.heap.size + 1)) := G1.out.below hb G1.out.lt
              have G2 : Hid (XW v_7 (w.heap.size + 2) (⟨0, false, false⟩ : Cm)) := G2.out.below hb G2.out.lt
              have G3 : Hid (XW v_7 (w.heap.size + 3) (⟨0, false, false⟩ : Cm)) := G3.out.below hb G3.out.lt
              have F0 : Hid (HAt v_7 b1 h) := F0.out.below hb F0.out.lt
              have F4 : Hid (SW v_7 b2 x) := F4.out.below hb F4.out.lt
              have FS : Hid (SrcT v_7 sb B a len cap (T + 40 + 100 + 1)) := FS.out.below hb
              have FK : Hid (Keeps sb w v_7) := FK.out.of_below hb
              clear hb
              obtain ⟨x0_0, x0_1, x0_2, x0_3, x0_4, x0_5, x0_6, x0_7, x0_8, x0_9, x0_10, x0_11⟩ := F0.out
              have z0_ := F4.out.c0
              have z1_ := F4.out.c1
              have z4_ := F4.out.c4
              try dsimp only
              refine hK.out _ _ (by (try dsimp only); first | exact ⟨x0_0, x0_1, x0_2, x0_3, x0_4, x0_5, x0_6, x0_7, x0_8, x0_9, x0_10, x0_11, z0_, z1_, z4_⟩ | go_keep) (fun hHeld => ?_)
              clear hK K
              try simp only [Act.put, List.getElem_toArray, List.getElem_cons_succ, List.getElem_cons_zero, List.setIfInBounds_toArray, List.set_cons_zero, List.set_cons_succ]
              refine wpAnyH_ready (rs := [13, 25]) (by kernel_rfl) (by simp) ?_
              refine (AllReadyH.cons rfl (fun K hK => ?_) (AllReadyH.cons rfl (fun K hK => ?_) AllReadyH.nil))
              · obtain ⟨x4_0, x4_1, x4_2, x4_3, x4_4, x4_5, y4_0, y4_1, y4_2, y4_3, y4_4, y4_5⟩ := F4.out
                go_simp
                refine hK.out _ _ (by (try dsimp only); first | exact ⟨x0_0, x0_1, x0_2, x0_3, x0_4, x0_5, x0_6, x0_7, x0_8, x0_9, x0_10, x0_11, z0_, z1_, z4_⟩ | go_keep) (fun hHeld => ?_)
                clear hK K
                try simp only [Act.put, List.getElem_toArray, List.getElem_cons_succ, List.getElem_cons_zero, List.setIfInBounds_toArray, List.set_cons_zero, List.set_cons_succ]
                refine tkz 14 rfl ?_
                refine tkz 23 rfl ?_
                refine wpAnyH_ready (rs := [25]) (by kernel_rfl) (by simp) ?_
                refine (AllReadyH.cons rfl (fun K hK => ?_) AllReadyH.nil)
                go_simp
                refine (l1Next_t sb B a len cap _ _ _ FS.out (by omega) (by omega) (by omega)).mono ?_
                rintro e v_8 ⟨v, rfl, hv, hs, hk⟩
                have G0 : Hid (HW v_8 w.heap.size (⟨0, 0, 0, 0, 0, 0, 0, 0, 0, 0, 0, 0⟩ : Hs)) := G0.out.keeps hk (by omega)
                have G1 : Hid (R6 v_8 (w.heap.size + 1)) := G1.out.keeps hk (by omega)
                have G2 : Hid (XW v_8 (w.heap.size + 2) (⟨0, false, false⟩ : Cm)) := G2.out.keeps hk (by omega)
                have G3 : Hid (XW v_8 (w.heap.size + 3) (⟨0, false, false⟩ : Cm)) := G3.out.keeps hk (by omega)
                have F0 : Hid (HAt v_8 b1 h) := F0.out.keeps hk (by omega)
                have F4 : Hid (SW v_8 b2 x) := F4.out.keeps hk (by omega)
                have FS : Hid (SrcT v_8 sb B a len cap ((T + 40 + 100 + 1) + 1)) := hs
                have FK : Hid (Keeps sb w v_8) := FK.out.trans hk
                clear hs hk
                obtain ⟨x0_0, x0_1, x0_2, x0_3, x0_4, x0_5, x0_6, x0_7, x0_8, x0_9, x0_10, x0_11⟩ := F0.out
                have z0_ := F4.out.c0
                have z1_ := F4.out.c1
                have z4_ := F4.out.c4
                try dsimp only
                refine hK.out _ _ (by (try dsimp only); first | exact ⟨x0_0, x0_1, x0_2, x0_3, x0_4, x0_5, x0_6, x0_7, x0_8, x0_9, x0_10, x0_11, z0_, z1_, z4_⟩ | go_keep) (fun hHeld => ?_)
                clear hK K
                try simp only [Act.put, List.getElem_toArray, List.getElem_cons_succ, List.getElem_cons_zero, List.setIfInBounds_toArray, List.set_cons_zero, List.set_cons_succ]
                refine tkz 26 rfl ?_
                refine tkz 27 rfl ?_
                refine tkz 28 rfl ?_
                refine wpAnyH_ready (rs := [29]) (by kernel_rfl) (by simp) ?_
                refine (AllReadyH.cons rfl (fun K hK => ?_) AllReadyH.nil)
                obtain ⟨x4_0, x4_1, x4_2, x4_3, x4_4, x4_5, y4_0, y4_1, y4_2, y4_3, y4_4, y4_5⟩ := F4.out
                go_simp
                refine hK.out _ _ (by (try dsimp only); first | ((repeat' apply And.intro) <;> first | ((rw [cellS (by omega)]); assumption) | (rw [World.cell?_setCell_other _ _ _ _ (by simp)]; assumption)) | ((repeat' apply And.intro) <;> ((repeat rw [cellS (by omega)]); assumption)) | go_keep) (fun hHeld => ?_)
                clear hK K
                try simp only [Act.put, List.getElem_toArray, List.getElem_cons_succ, List.getElem_cons_zero, List.setIfInBounds_toArray, List.set_cons_zero, List.set_cons_succ]
                refine wpAnyH_done (by kernel_rfl) ?_ _
                go_wp2_with fail
                go_meet
                case rel => exact ⟨rfl, _, G0.out.other (by omega), G1.out.other (by omega), G2.out.other (by omega), G3.out.other (by omega), F0.out.other (by omega), F4.out.set_up _, FS.out.other b2 _ _ (by omega) (by omega), FK.out.own (by omega) _ _⟩
              · go_simp
                refine (l1Next_t sb B a len cap _ _ _ FS.out (by omega) (by omega) (by omega)).mono ?_
                rintro e v_9 ⟨v, rfl, hv, hs, hk⟩
                have G0 : Hid (HW v_9 w.heap.size (⟨0, 0, 0, 0, 0, 0, 0, 0, 0, 0, 0, 0⟩ : Hs)) := G0.out.keeps hk (by omega)
                have G1 : Hid (R6 v_9 (w.heap.size + 1)) := G1.out.keeps hk (by omega)
                have G2 : Hid (XW v_9 (w.heap.size + 2) (⟨0, false, false⟩ : Cm)) := G2.out.keeps hk (by omega)
                have G3 : Hid (XW v_9 (w.heap.size + 3) (⟨0, false, false⟩ : Cm)) := G3.out.keeps hk (by omega)
                have F0 : Hid (HAt v_9 b1 h) := F0.out.keeps hk (by omega)
                have F4 : Hid (SW v_9 b2 x) := F4.out.keeps hk (by omega)
                have FS : Hid (SrcT v_9 sb B a len cap ((T + 40 + 100 + 1) + 1)) := hs
                have FK : Hid (Keeps sb w v_9) := FK.out.trans hk
                clear hs hk
                obtain ⟨x0_0, x0_1, x0_2, x0_3, x0_4, x0_5, x0_6, x0_7, x0_8, x0_9, x0_10, x0_11⟩ := F0.out
                have z0_ := F4.out.c0
                have z1_ := F4.out.c1
                have z4_ := F4.out.c4
                try dsimp only
                refine hK.out _ _ (by (try dsimp only); first | exact ⟨x0_0, x0_1, x0_2, x0_3, x0_4, x0_5, x0_6, x0_7, x0_8, x0_9, x0_10, x0_11, z0_, z1_, z4_⟩ | go_keep) (fun hHeld => ?_)
                clear hK K
                try simp only [Act.put, List.getElem_toArray, List.getElem_cons_succ, List.getElem_cons_zero, List.setIfInBounds_toArray, List.set_cons_zero, List.set_cons_succ]
                refine wpAnyH_ready (rs := [13]) (by kernel_rfl) (by simp) ?_
                refine (AllReadyH.cons rfl (fun K hK => ?_) AllReadyH.nil)
                obtain ⟨x4_0, x4_1, x4_2, x4_3, x4_4, x4_5, y4_0, y4_1, y4_2, y4_3, y4_4, y4_5⟩ := F4.out
                go_simp
                refine hK.out _ _ (by (try dsimp only); first | exact ⟨x0_0, x0_1, x0_2, x0_3, x0_4, x0_5, x0_6, x0_7, x0_8, x0_9, x0_10, x0_11, z0_, z1_, z4_⟩ | go_keep) (fun hHeld => ?_)
                clear hK K
                try simp only [Act.put, List.getElem_toArray, List.getElem_cons_succ, List.getElem_cons_zero, List.setIfInBounds_toArray, List.set_cons_zero, List.set_cons_succ]
                refine tkz 14 rfl ?_
                refine tkz 23 rfl ?_
                refine tkz 26 rfl ?_
                refine tkz 27 rfl ?_
                refine tkz 28 rfl ?_
                refine wpAnyH_ready (rs := [29]) (by kernel_rfl) (by simp) ?_
                refine (AllReadyH.cons rfl (fun K hK => ?_) AllReadyH.nil)
                obtain ⟨x4_0, x4_1, x4_2, x4_3, x4_4, x4_5, y4_0, y4_1, y4_2, y4_3, y4_4, y4_5⟩ := F4.out
                go_simp
                refine hK.out _ _ (by (try dsimp only); first | ((repeat' apply And.intro) <;> first | ((rw [cellS (by omega)]); assumption) | (rw [World.cell?_setCell_other _ _ _ _ (by simp)]; assumption)) | ((repeat' apply And.intro) <;> ((repeat rw [cellS (by omega)]); assumption)) | go_keep) (fun hHeld => ?_)
                clear hK K
                try simp only [Act.put, List.getElem_toArray, List.getElem_cons_succ, List.getElem_cons_zero, List.setIfInBounds_toArray, List.set_cons_zero, List.set_cons_succ]
                refine wpAnyH_done (by kernel_rfl) ?_ _
                go_wp2_with fail
                go_meet
                case rel => exact ⟨rfl, _, G0.out.other (by omega), G1.out.other (by omega), G2.out.other (by omega), G3.out.other (by omega), F0.out.other (by omega), F4.out.set_up _, FS.out.other b2 _ _ (by omega) (by omega), FK.out.own (by omega) _ _⟩
        · obtain ⟨x4_0, x4_1, x4_2, x4_3, x4_4, x4_5, y4_0, y4_1, y4_2, y4_3, y4_4, y4_5⟩ := F4.out
          go_simp
          refine hK.out _ _ (by (try dsimp only); first | exact ⟨x0_0, x0_1, x0_2, x0_3, x0_4, x0_5, x0_6, x0_7, x0_8, x0_9, x0_10, x0_11, z0_, z1_, z4_⟩ | go_keep) (fun hHeld => ?_)
          clear hK K
          try simp only [Act.put, List.getElem_toArray, List.getElem_cons_succ, List.getElem_cons_zero, List.setIfInBounds_toArray, List.set_cons_zero, List.set_cons_succ]
          refine wpAnyH_ready (rs := [7, 18]) (by kernel_rfl) (by simp) ?_
          refine (AllReadyH.cons rfl (fun K hK => ?_) (AllReadyH.cons rfl (fun K hK => ?_) AllReadyH.nil))
          · go_simp
            refine (l3High_any h HO.out _ _ (by omega) (by omega) (by omega) (by omega) _).mono ?_
            rintro e v_10 ⟨rfl, hb⟩
            have G0 : Hid (HW v_10 w.heap.size (⟨0, 0, 0, 0, 0, 0, 0, 0, 0, 0, 0, 0⟩ : Hs)) := G0.out.below hb G0.out.lt
            have G1 : Hid (R6 v_10 (w.heap.size + 1)) := G1.out.below hb G1.out.lt
            have G2 : Hid (XW v_10 (w.heap.size + 2) (⟨0, false, false⟩ : Cm)) := G2.out.below hb G2.out.lt
            have G3 : Hid (XW v_10 (w.heap.size + 3) (⟨0, false, false⟩ : Cm)) := G3.out.below hb G3.out.lt
            have F0 : Hid (HAt v_10 b1 h) := F0.out.below hb F0.out.lt
            have F4 : Hid (SW v_10 b2 x) := F4.out.below hb F4.out.lt
            have FS : Hid (SrcT v_10 sb B a len cap (T + 40 + 100 + 1)) := FS.out.below hb
            have FK : Hid (Keeps sb w v_10) := FK.out.of_below hb
            clear hb
            obtain ⟨x0_0, x0_1, x0_2, x0_3, x0_4, x0_5, x0_6, x0_7, x0_8, x0_9, x0_10, x0_11⟩ := F0.out
            have z0_ := F4.out.c0
            have z1_ := F4.out.c1
            have z4_ := F4.out.c4
            try dsimp only
            refine hK.out _ _ (by (try dsimp only); first | exact ⟨x0_0, x0_1, x0_2, x0_3, x0_4, x0_5, x0_6, x0_7, x0_8, x0_9, x0_10, x0_11, z0_, z1_, z4_⟩ | go_keep) (fun hHeld => ?_)
            clear hK K
            try simp only [Act.put, List.getElem_toArray, List.getElem_cons_succ, List.getElem_cons_zero, List.setIfInBounds_toArray, List.set_cons_zero, List.set_cons_succ]
            refine tkz 10 rfl ?_
            refine tkz 14 rfl ?_
            refine wpAnyH_ready (rs := [18]) (by kernel_rfl) (by simp) ?_
            refine (AllReadyH.cons rfl (fun K hK => ?_) AllReadyH.nil)
            obtain ⟨x4_0, x4_1, x4_2, x4_3, x4_4, x4_5, y4_0, y4_1, y4_2, y4_3, y4_4, y4_5⟩ := F4.out
            go_simp
            refine hK.out _ _ (by (try dsimp only); first | exact ⟨x0_0, x0_1, x0_2, x0_3, x0_4, x0_5, x0_6, x0_7, x0_8, x0_9, x0_10, x0_11, z0_, z1_, z4_⟩ | go_keep) (fun hHeld => ?_)
            clear hK K
            try simp only [Act.put, List.getElem_toArray, List.getElem_cons_succ, List.getElem_cons_zero, List.setIfInBounds_toArray, List.set_cons_zero, List.set_cons_succ]
            refine wpAnyH_ready (rs := [22]) (by kernel_rfl) (by simp) ?_
            refine (AllReadyH.cons rfl (fun K hK => ?_) AllReadyH.nil)
            go_simp
            refine (l3Low_any h HO.out _ _ (by omega) (by omega) (by omega) (by omega) _).mono ?_
            rintro e v_11 ⟨rfl, hb⟩
            have G0 : Hid (HW v_11 w.heap.size (⟨0, 0, 0, 0, 0, 0, 0, 0, 0, 0, 0, 0⟩ : Hs)) := G0.out.below hb G0.out.lt
            have G1 : Hid (R6 v_11 (w.heap.size + 1)) := G1.out.below hb G1.out.lt
            have G2 : Hid (XW v_11 (w.heap.size + 2) (⟨0, false, false⟩ : Cm)) := G2.out.below hb G2.out.lt
            have G3 : Hid (XW v_11 (w.heap.size + 3) (⟨0, false, false⟩ : Cm)) := G3.out.below hb G3.out.lt
            have F0 : Hid (HAt v_11 b1 h) := F0.out.below hb F0.out.lt
            have F4 : Hid (SW v_11 b2 x) := F4.out.below hb F4.out.lt
            have FS : Hid (SrcT v_11 sb B a len cap (T + 40 + 100 + 1)) := FS.out.below hb
            have FK : Hid (Keeps sb w v_11) := FK.out.of_below hb
            clear hb
            obtain ⟨x0_0, x0_1, x0_2, x0_3, x0_4, x0_5, x0_6, x0_7, x0_8, x0_9, x0_10, x0_11⟩ := F0.out
            have z0_ := F4.out.c0
            have z1_ := F4.out.c1
            have z4_ := F4.out.c4
            try dsimp only
            refine hK.out _ _ (by (try dsimp only); first | exact ⟨x0_0, x0_1, x0_2, x0_3, x0_4, x0_5, x0_6, x0_7, x0_8, x0_9, x0_10, x0_11, z0_, z1_, z4_⟩ | go_keep) (fun hHeld => ?_)
            clear hK K
            try simp only [Act.put, List.getElem_toArray, List.getElem_cons_succ, List.getElem_cons_zero, List.setIfInBounds_toArray, List.set_cons_zero, List.set_cons_succ]
            refine tkz 23 rfl ?_
            refine wpAnyH_ready (rs := [25]) (by kernel_rfl) (by simp) ?_
            refine (AllReadyH.cons rfl (fun K hK => ?_) AllReadyH.nil)
            go_simp
            refine (l1Next_t sb B a len cap _ _ _ FS.out (by omega) (by omega) (by omega)).mono ?_
            rintro e v_12 ⟨v, rfl, hv, hs, hk⟩
            have G0 : Hid (HW v_12 w.heap.size (⟨0, 0, 0, 0, 0, 0, 0, 0, 0, 0, 0, 0⟩ : Hs)) := G0.out.keeps hk (by omega)
            have G1 : Hid (R6 v_12 (w.heap.size + 1)) := G1.out.keeps hk (by omega)
            have G2 : Hid (XW v_12 (w.heap.size + 2) (⟨0, false, false⟩ : Cm)) := G2.out.keeps hk (by omega)
            have G3 : Hid (XW v_12 (w.heap.size + 3) (⟨0, false, false⟩ : Cm)) := G3.out.keeps hk (by omega)
            have F0 : Hid (HAt v_12 b1 h) := F0.out.keeps hk (by omega)
            have F4 : Hid (SW v_12 b2 x) := F4.out.keeps hk (by omega)
            have FS : Hid (SrcT v_12 sb B a len cap ((T + 40 + 100 + 1) + 1)) := hs
            have FK : Hid (Keeps sb w v_12) := FK.out.trans hk
            clear hs hk
            obtain ⟨x0_0, x0_1, x0_2, x0_3, x0_4, x0_5, x0_6, x0_7, x0_8, x0_9, x0_10, x0_11⟩ := F0.out
            have z0_ := F4.out.c0
            have z1_ := F4.out.c1
            have z4_ := F4.out.c4
            try dsimp only
            refine hK.out _ _ (by (try dsimp only); first | exact ⟨x0_0, x0_1, x0_2, x0_3, x0_4, x0_5, x0_6, x0_7, x0_8, x0_9, x0_10, x0_11, z0_, z1_, z4_⟩ | go_keep) (fun hHeld => ?_)
            clear hK K
            try simp only [Act.put, List.getElem_toArray, List.getElem_cons_succ, List.getElem_cons_zero, List.setIfInBounds_toArray, List.set_cons_zero, List.set_cons_succ]
            refine tkz 26 rfl ?_
            refine tkz 27 rfl ?_
            refine tkz 28 rfl ?_
            refine wpAnyH_ready (rs := [29]) (by kernel_rfl) (by simp) ?_
            refine (AllReadyH.cons rfl (fun K hK => ?_) AllReadyH.nil)
            obtain ⟨x4_0, x4_1, x4_2, x4_3, x4_4, x4_5, y4_0, y4_1, y4_2, y4_3, y4_4, y4_5⟩ := F4.out
            go_simp
            refine hK.out _ _ (by (try dsimp only); first | ((repeat' apply And.intro) <;> first | ((rw [cellS (by omega)]); assumption) | (rw [World.cell?_setCell_other _ _ _ _ (by simp)]; assumption)) | ((repeat' apply And.intro) <;> ((repeat rw [cellS (by omega)]); assumption)) | go_keep) (fun hHeld => ?_)
            clear hK K
            try simp only [Act.put, List.getElem_toArray, List.getElem_cons_succ, List.getElem_cons_zero, List.setIfInBounds_toArray, List.set_cons_zero, List.set_cons_succ]
            refine wpAnyH_done (by kernel_rfl) ?_ _
            go_wp2_with fail
            go_meet
            case rel => exact ⟨rfl, _, G0.out.other (by omega), G1.out.other (by omega), G2.out.other (by omega), G3.out.other (by omega), F0.out.other (by omega), F4.out.set_up _, FS.out.other b2 _ _ (by omega) (by omega), FK.out.own (by omega) _ _⟩
          · obtain ⟨x4_0, x4_1, x4_2, x4_3, x4_4, x4_5, y4_0, y4_1, y4_2, y4_3, y4_4, y4_5⟩ := F4.out
            go_simp
            refine hK.out _ _ (by (try dsimp only); first | exact ⟨x0_0, x0_1, x0_2, x0_3, x0_4, x0_5, x0_6, x0_7, x0_8, x0_9, x0_10, x0_11, z0_, z1_, z4_⟩ | go_keep) (fun hHeld => ?_)
            clear hK K
            try simp only [Act.put, List.getElem_toArray, List.getElem_cons_succ, List.getElem_cons_zero, List.setIfInBounds_toArray, List.set_cons_zero, List.set_cons_succ]
            refine wpAnyH_ready (rs := [7]) (by kernel_rfl) (by simp) ?_
            refine (AllReadyH.cons rfl (fun K hK => ?_) AllReadyH.nil)
            go_simp
            refine (l3High_any h HO.out _ _ (by omega) (by omega) (by omega) (by omega) _).mono ?_
            rintro e v_13 ⟨rfl, hb⟩
            have G0 : Hid (HW v_13 w.heap.size (⟨0, 0, 0, 0, 0, 0, 0, 0, 0, 0, 0, 0⟩ : Hs)) := G0.out.below hb G0.out.lt
            have G1 : Hid (R6 v_13 (w.heap.size + 1)) := G1.out.below hb G1.out.lt
            have G2 : Hid (XW v_13 (w.heap.size + 2) (⟨0, false, false⟩ : Cm)) := G2.out.below hb G2.out.lt
            have G3 : Hid (XW v_13 (w.heap.size + 3) (⟨0, false, false⟩ : Cm)) := G3.out.below hb G3.out.lt
            have F0 : Hid (HAt v_13 b1 h) := F0.out.below hb F0.out.lt
            have F4 : Hid (SW v_13 b2 x) := F4.out.below hb F4.out.lt
            have FS : Hid (SrcT v_13 sb B a len cap (T + 40 + 100 + 1)) := FS.out.below hb
            have FK : Hid (Keeps sb w v_13) := FK.out.of_below hb
            clear hb
            obtain ⟨x0_0, x0_1, x0_2, x0_3, x0_4, x0_5, x0_6, x0_7, x0_8, x0_9, x0_10, x0_11⟩ := F0.out
            have z0_ := F4.out.c0
            have z1_ := F4.out.c1
            have z4_ := F4.out.c4
            try dsimp only
            refine hK.out _ _ (by (try dsimp only); first | exact ⟨x0_0, x0_1, x0_2, x0_3, x0_4, x0_5, x0_6, x0_7, x0_8, x0_9, x0_10, x0_11, z0_, z1_, z4_⟩ | go_keep) (fun hHeld => ?_)
            clear hK K
            try simp only [Act.put, List.getElem_toArray, List.getElem_cons_succ, List.getElem_cons_zero, List.setIfInBounds_toArray, List.set_cons_zero, List.set_cons_succ]
            refine tkz 10 rfl ?_
            refine tkz 14 rfl ?_
            refine wpAnyH_ready (rs := [22]) (by kernel_rfl) (by simp) ?_
            refine (AllReadyH.cons rfl (fun K hK => ?_) AllReadyH.nil)
            go_simp
            refine (l3Low_any h HO.out _ _ (by omega) (by omega) (by omega) (by omega) _).mono ?_
            rintro e v_14 ⟨rfl, hb⟩
            have G0 : Hid (HW v_14 w.heap.size (⟨0, 0, 0, 0, 0, 0, 0, 0, 0, 0, 0, 0⟩ : Hs)) := G0.out.below hb G0.out.lt
            have G1 : Hid (R6 v_14 (w.heap.size + 1)) := G1.out.below hb G1.out.lt
            have G2 : Hid (XW v_14 (w.heap.size + 2) (⟨0, false, false⟩ : Cm)) := G2.out.below hb G2.out.lt
            have G3 : Hid (XW v_14 (w.heap.size + 3) (⟨0, false, false⟩ : Cm)) := G3.out.below hb G3.out.lt
            have F0 : Hid (HAt v_14 b1 h) := F0.out.below hb F0.out.lt
            have F4 : Hid (SW v_14 b2 x) := F4.out.below hb F4.out.lt
            have FS : Hid (SrcT v_14 sb B a len cap (T + 40 + 100 + 1)) := FS.out.below hb
            have FK : Hid (Keeps sb w v_14) := FK.out.of_below hb
            clear hb
            obtain ⟨x0_0, x0_1, x0_2, x0_3, x0_4, x0_5, x0_6, x0_7, x0_8, x0_9, x0_10, x0_11⟩ := F0.out
            have z0_ := F4.out.c0
            have z1_ := F4.out.c1
            have z4_ := F4.out.c4
            try dsimp only
            refine hK.out _ _ (by (try dsimp only); first | exact ⟨x0_0, x0_1, x0_2, x0_3, x0_4, x0_5, x0_6, x0_7, x0_8, x0_9, x0_10, x0_11, z0_, z1_, z4_⟩ | go_keep) (fun hHeld => ?_)
            clear hK K
            try simp only [Act.put, List.getElem_toArray, List.getElem_cons_succ, List.getElem_cons_zero, List.setIfInBounds_toArray, List.set_cons_zero, List.set_cons_succ]
            refine tkz 23 rfl ?_
            refine wpAnyH_ready (rs := [25]) (by kernel_rfl) (by simp) ?_
            refine (AllReadyH.cons rfl (fun K hK => ?_) AllReadyH.nil)
            go_simp
            refine (l1Next_t sb B a len cap _ _ _ FS.out (by omega) (by omega) (by omega)).mono ?_
            rintro e v_15 ⟨v, rfl, hv, hs, hk⟩
            have G0 : Hid (HW v_15 w.heap.size (⟨0, 0, 0, 0, 0, 0, 0, 0, 0, 0, 0, 0⟩ : Hs)) := G0.out.keeps hk (by omega)
            have G1 : Hid (R6 v_15 (w.heap.size + 1)) := G1.out.keeps hk (by omega)
            have G2 : Hid (XW v_15 (w.heap.size + 2) (⟨0, false, false⟩ : Cm)) := G2.out.keeps hk (by omega)
            have G3 : Hid (XW v_15 (w.heap.size + 3) (⟨0, false, false⟩ : Cm)) := G3.out.keeps hk (by omega)
            have F0 : Hid (HAt v_15 b1 h) := F0.out.keeps hk (by omega)
            have F4 : Hid (SW v_15 b2 x) := F4.out.keeps hk (by omega)
            have FS : Hid (SrcT v_15 sb B a len cap ((T + 40 + 100 + 1) + 1)) := hs
            have FK : Hid (Keeps sb w v_15) := FK.out.trans hk
            clear hs hk
            obtain ⟨x0_0, x0_1, x0_2, x0_3, x0_4, x0_5, x0_6, x0_7, x0_8, x0_9, x0_10, x0_11⟩ := F0.out
            have z0_ := F4.out.c0
            have z1_ := F4.out.c1
            have z4_ := F4.out.c4
            try dsimp only
            refine hK.out _ _ (by (try dsimp only); first | exact ⟨x0_0, x0_1, x0_2, x0_3, x0_4, x0_5, x0_6, x0_7, x0_8, x0_9, x0_10, x0_11, z0_, z1_, z4_⟩ | go_keep) (fun hHeld => ?_)
            clear hK K
            try simp only [Act.put, List.getElem_toArray, List.getElem_cons_succ, List.getElem_cons_zero, List.setIfInBounds_toArray, List.set_cons_zero, List.set_cons_succ]
            refine tkz 26 rfl ?_
            refine tkz 27 rfl ?_
            refine tkz 28 rfl ?_
            refine wpAnyH_ready (rs := [29]) (by kernel_rfl) (by simp) ?_
            refine (AllReadyH.cons rfl (fun K hK => ?_) AllReadyH.nil)
            obtain ⟨x4_0, x4_1, x4_2, x4_3, x4_4, x4_5, y4_0, y4_1, y4_2, y4_3, y4_4, y4_5⟩ := F4.out
            go_simp
            refine hK.out _ _ (by (try dsimp only); first | ((repeat' apply And.intro) <;> first | ((rw [cellS (by omega)]); assumption) | (rw [World.cell?_setCell_other _ _ _ _ (by simp)]; assumption)) | ((repeat' apply And.intro) <;> ((repeat rw [cellS (by omega)]); assumption)) | go_keep) (fun hHeld => ?_)
            clear hK K
            try simp only [Act.put, List.getElem_toArray, List.getElem_cons_succ, List.getElem_cons_zero, List.setIfInBounds_toArray, List.set_cons_zero, List.set_cons_succ]
            refine wpAnyH_done (by kernel_rfl) ?_ _
            go_wp2_with fail
            go_meet
            case rel => exact ⟨rfl, _, G0.out.other (by omega), G1.out.other (by omega), G2.out.other (by omega), G3.out.other (by omega), F0.out.other (by omega), F4.out.set_up _, FS.out.other b2 _ _ (by omega) (by omega), FK.out.own (by omega) _ _⟩
        · obtain ⟨x4_0, x4_1, x4_2, x4_3, x4_4, x4_5, y4_0, y4_1, y4_2, y4_3, y4_4, y4_5⟩ := F4.out
          go_simp
          refine hK.out _ _ (by (try dsimp only); first | exact ⟨x0_0, x0_1, x0_2, x0_3, x0_4, x0_5, x0_6, x0_7, x0_8, x0_9, x0_10, x0_11, z0_, z1_, z4_⟩ | go_keep) (fun hHeld => ?_)
          clear hK K
          try simp only [Act.put, List.getElem_toArray, List.getElem_cons_succ, List.getElem_cons_zero, List.setIfInBounds_toArray, List.set_cons_zero, List.set_cons_succ]
          refine wpAnyH_ready (rs := [7, 13]) (by kernel_rfl) (by simp) ?_
          refine (AllReadyH.cons rfl (fun K hK => ?_) (AllReadyH.cons rfl (fun K hK => ?_) AllReadyH.nil))
          · go_simp
            refine (l3High_any h HO.out _ _ (by omega) (by omega) (by omega) (by omega) _).mono ?_
            rintro e v_16 ⟨rfl, hb⟩
            have G0 : Hid (HW v_16 w.heap.size (⟨0, 0, 0, 0, 0, 0, 0, 0, 0, 0, 0, 0⟩ : Hs)) := G0.out.below hb G0.out.lt
            have G1 : Hid (R6 v_16 (w.heap.size + 1)) := G1.out.below hb G1.out.lt
            have G2 : Hid (XW v_16 (w.heap.size + 2) (⟨0, false, false⟩ : Cm)) := G2.out.below hb G2.out.lt
            have G3 : Hid (XW v_16 (w.heap.size + 3) (⟨0, false, false⟩ : Cm)) := G3.out.below hb G3.out.lt
            have F0 : Hid (HAt v_16 b1 h) := F0.out.below hb F0.out.lt
            have F4 : Hid (SW v_16 b2 x) := F4.out.below hb F4.out.lt
            have FS : Hid (SrcT v_16 sb B a len cap (T + 40 + 100 + 1)) := FS.out.below hb
            have FK : Hid (Keeps sb w v_16) := FK.out.of_below hb
            clear hb
            obtain ⟨x0_0, x0_1, x0_2, x0_3, x0_4, x0_5, x0_6, x0_7, x0_8, x0_9, x0_10, x0_11⟩ := F0.out
            have z0_ := F4.out.c0
            have z1_ := F4.out.c1
            have z4_ := F4.out.c4
            try dsimp only
            refine hK.out _ _ (by (try dsimp only); first | exact ⟨x0_0, x0_1, x0_2, x0_3, x0_4, x0_5, x0_6, x0_7, x0_8, x0_9, x0_10, x0_11, z0_, z1_, z4_⟩ | go_keep) (fun hHeld => ?_)
            clear hK K
            try simp only [Act.put, List.getElem_toArray, List.getElem_cons_succ, List.getElem_cons_zero, List.setIfInBounds_toArray, List.set_cons_zero, List.set_cons_succ]
            refine tkz 10 rfl ?_
            refine wpAnyH_ready (rs := [13, 22]) (by kernel_rfl) (by simp) ?_
            refine (AllReadyH.cons rfl (fun K hK => ?_) (AllReadyH.cons rfl (fun K hK => ?_) AllReadyH.nil))
            · obtain ⟨x4_0, x4_1, x4_2, x4_3, x4_4, x4_5, y4_0, y4_1, y4_2, y4_3, y4_4, y4_5⟩ := F4.out
              go_simp
              refine hK.out _ _ (by (try dsimp only); first | exact ⟨x0_0, x0_1, x0_2, x0_3, x0_4, x0_5, x0_6, x0_7, x0_8, x0_9, x0_10, x0_11, z0_, z1_, z4_⟩ | go_keep) (fun hHeld => ?_)
              clear hK K
              try simp only [Act.put, List.getElem_toArray, List.getElem_cons_succ, List.getElem_cons_zero, List.setIfInBounds_toArray, List.set_cons_zero, List.set_cons_succ]
              refine tkz 14 rfl ?_
              refine wpAnyH_ready (rs := [22]) (by kernel_rfl) (by simp) ?_
              refine (AllReadyH.cons rfl (fun K hK => ?_) AllReadyH.nil)
              go_simp
              refine (l3Low_any h HO.out _ _ (by omega) (by omega) (by omega) (by omega) _).mono ?_
              rintro e v_17 ⟨rfl, hb⟩
              have G0 : Hid (HW v_17 w.heap.size (⟨0, 0, 0, 0, 0, 0, 0, 0, 0, 0, 0, 0⟩ : Hs)) := G0.out.below hb G0.out.lt
              have G1 : Hid (R6 v_17 (w.heap.size + 1)) := G1.out.below hb G1.out.lt
              have G2 : Hid (XW v_17 (w.heap.size + 2) (⟨0, false, false⟩ : Cm)) := G2.out.below hb G2.out.lt
              have G3 : Hid (XW v_17 (w.heap.size + 3) (⟨0, false, false⟩ : Cm)) := G3.out.below hb G3.out.lt
              have F0 : Hid (HAt v_17 b1 h) := F0.out.below hb F0.out.lt
              have F4 : Hid (SW v_17 b2 x) := F4.out.below hb F4.out.lt
              have FS : Hid (SrcT v_17 sb B a len cap (T + 40 + 100 + 1)) := FS.out.below hb
              have FK : Hid (Keeps sb w v_17) := FK.out.of_below hb
              clear hb
              obtain ⟨x0_0, x0_1, x0_2, x0_3, x0_4, x0_5, x0_6, x0_7, x0_8, x0_9, x0_10, x0_11⟩ := F0.out
              have z0_ := F4.out.c0
              have z1_ := F4.out.c1
              have z4_ := F4.out.c4
              try dsimp only
              refine hK.out _ _ (by (try dsimp only); first | exact ⟨x0_0, x0_1, x0_2, x0_3, x0_4, x0_5, x0_6, x0_7, x0_8, x0_9, x0_10, x0_11, z0_, z1_, z4_⟩ | go_keep) (fun hHeld => ?_)
              clear hK K
              try simp only [Act.put, List.getElem_toArray, List.getElem_cons_succ, List.getElem_cons_zero, List.setIfInBounds_toArray, List.set_cons_zero, List.set_cons_succ]
              refine tkz 23 rfl ?_
              refine wpAnyH_ready (rs := [25]) (by kernel_rfl) (by simp) ?_
              refine (AllReadyH.cons rfl (fun K hK => ?_) AllReadyH.nil)
              go_simp
              refine (l1Next_t sb B a len cap _ _ _ FS.out (by omega) (by omega) (by omega)).mono ?_
              rintro e v_18 ⟨v, rfl, hv, hs, hk⟩
              have G0 : Hid (HW v_18 w.heap.size (⟨0, 0, 0, 0, 0, 0, 0, 0, 0, 0, 0, 0⟩ : Hs)) := G0.out.keeps hk (by omega)
              have G1 : Hid (R6 v_18 (w.heap.size + 1)) := G1.out.keeps hk (by omega)
              have G2 : Hid (XW v_18 (w.heap.size + 2) (⟨0, false, false⟩ : Cm)) := G2.out.keeps hk (by omega)
              have G3 : Hid (XW v_18 (w.heap.size + 3) (⟨0, false, false⟩ : Cm)) := G3.out.keeps hk (by omega)
              have F0 : Hid (HAt v_18 b1 h) := F0.out.keeps hk (by omega)
              have F4 : Hid (SW v_18 b2 x) := F4.out.keeps hk (by omega)
              have FS : Hid (SrcT v_18 sb B a len cap ((T + 40 + 100 + 1) + 1)) := hs
              have FK : Hid (Keeps sb w v_18) := FK.out.trans hk
              clear hs hk
              obtain ⟨x0_0, x0_1, x0_2, x0_3, x0_4, x0_5, x0_6, x0_7, x0_8, x0_9, x0_10, x0_11⟩ := F0.out
              have z0_ := F4.out.c0
              have z1_ := F4.out.c1
              have z4_ := F4.out.c4
              try dsimp only
              refine hK.out _ _ (by (try dsimp only); first | exact ⟨x0_0, x0_1, x0_2, x0_3, x0_4, x0_5, x0_6, x0_7, x0_8, x0_9, x0_10, x0_11, z0_, z1_, z4_⟩ | go_keep) (fun hHeld => ?_)
              clear hK K
              try simp only [Act.put, List.getElem_toArray, List.getElem_cons_succ, List.getElem_cons_zero, List.setIfInBounds_toArray, List.set_cons_zero, List.set_cons_succ]
              refine tkz 26 rfl ?_
              refine tkz 27 rfl ?_
              refine tkz 28 rfl ?_
              refine wpAnyH_ready (rs := [29]) (by kernel_rfl) (by simp) ?_
              refine (AllReadyH.cons rfl (fun K hK => ?_) AllReadyH.nil)
              obtain ⟨x4_0, x4_1, x4_2, x4_3, x4_4, x4_5, y4_0, y4_1, y4_2, y4_3, y4_4, y4_5⟩ := F4.out
              go_simp
              refine hK.out _ _ (by (try dsimp only); first | ((repeat' apply And.intro) <;> first | ((rw [cellS (by omega)]); assumption) | (rw [World.cell?_setCell_other _ _ _ _ (by simp)]; assumption)) | ((repeat' apply And.intro) <;> ((repeat rw [cellS (by omega)]); assumption)) | go_keep) (fun hHeld => ?_)
              clear hK K
              try simp only [Act.put, List.getElem_toArray, List.getElem_cons_succ, List.getElem_cons_zero, List.setIfInBounds_toArray, List.set_cons_zero, List.set_cons_succ]
              refine wpAnyH_done (by kernel_rfl) ?_ _
              go_wp2_with fail
              go_meet
              case rel => exact ⟨rfl, _, G0.out.other (by omega), G1.out.other (by omega), G2.out.other (by omega), G3.out.other (by omega), F0.out.other (by omega), F4.out.set_up _, FS.out.other b2 _ _ (by omega) (by omega), FK.out.own (by omega) _ _⟩
            · go_simp
              refine (l3Low_any h HO.out _ _ (by omega) (by omega) (by omega) (by omega) _).mono ?_
              rintro e v_19 ⟨rfl, hb⟩
              have G0 : Hid (HW v_19 w.heap.size (⟨0, 0, 0, 0, 0, 0, 0, 0, 0, 0, 0, 0⟩ : Hs)) := G0.out.below hb G0.out.lt
              have G1 : Hid (R6 v_19 (w.heap.size + 1)) := G1.out.below hb G1.out.lt
              have G2 : Hid (XW v_19 (w.heap.size + 2) (⟨0, false, false⟩ : Cm)) := G2.out.below hb G2.out.lt
              have G3 : Hid (XW v_19 (w.heap.size + 3) (⟨0, false, false⟩ : Cm)) := G3.out.below hb G3.out.lt
              have F0 : Hid (HAt v_19 b1 h) := F0.out.below hb F0.out.lt
              have F4 : Hid (SW v_19 b2 x) := F4.out.below hb F4.out.lt
              have FS : Hid (SrcT v_19 sb B a len cap (T + 40 + 100 + 1)) := FS.out.below hb
              have FK : Hid (Keeps sb w v_19) := FK.out.of_below hb
              clear hb
              obtain ⟨x0_0, x0_1, x0_2, x0_3, x0_4, x0_5, x0_6, x0_7, x0_8, x0_9, x0_10, x0_11⟩ := F0.out
              have z0_ := F4.out.c0
              have z1_ := F4.out.c1
              have z4_ := F4.out.c4
              try dsimp only
              refine hK.out _ _ (by (try dsimp only); first | exact ⟨x0_0, x0_1, x0_2, x0_3, x0_4, x0_5, x0_6, x0_7, x0_8, x0_9, x0_10, x0_11, z0_, z1_, z4_⟩ | go_keep) (fun hHeld => ?_)
              clear hK K
              try simp only [Act.put, List.getElem_toArray, List.getElem_cons_succ, List.getElem_cons_zero, List.setIfInBounds_toArray, List.set_cons_zero, List.set_cons_succ]
              refine wpAnyH_ready (rs := [13, 25]) (by kernel_rfl) (by simp) ?_
              refine (AllReadyH.cons rfl (fun K hK => ?_) (AllReadyH.cons rfl (fun K hK => ?_) AllReadyH.nil))
              · obtain ⟨x4_0, x4_1, x4_2, x4_3, x4_4, x4_5, y4_0, y4_1, y4_2, y4_3, y4_4, y4_5⟩ := F4.out
                go_simp
                refine hK.out _ _ (by (try dsimp only); first | exact ⟨x0_0, x0_1, x0_2, x0_3, x0_4, x0_5, x0_6, x0_7, x0_8, x0_9, x0_10, x0_11, z0_, z1_, z4_⟩ | go_keep) (fun hHeld => ?_)
                clear hK K
                try simp only [Act.put, List.getElem_toArray, List.getElem_cons_succ, List.getElem_cons_zero, List.setIfInBounds_toArray, List.set_cons_zero, List.set_cons_succ]
                refine tkz 14 rfl ?_
                refine tkz 23 rfl ?_
                refine wpAnyH_ready (rs := [25]) (by kernel_rfl) (by simp) ?_
                refine (AllReadyH.cons rfl (fun K hK => ?_) AllReadyH.nil)
                go_simp
                refine (l1Next_t sb B a len cap _ _ _ FS.out (by omega) (by omega) (by omega)).mono ?_
                rintro e v_20 ⟨v, rfl, hv, hs, hk⟩
                have G0 : Hid (HW v_20 w.heap.size (⟨0, 0, 0, 0, 0, 0, 0, 0, 0, 0, 0, 0⟩ : Hs)) := G0.out.keeps hk (by omega)
                have G1 : Hid (R6 v_20 (w.heap.size + 1)) := G1.out.keeps hk (by omega)
                have G2 : Hid (XW v_20 (w.heap.size + 2) (⟨0, false, false⟩ : Cm)) := G2.out.keeps hk (by omega)
                have G3 : Hid (XW v_20 (w.heap.size + 3) (⟨0, false, false⟩ : Cm)) := G3.out.keeps hk (by omega)
                have F0 : Hid (HAt v_20 b1 h) := F0.out.keeps hk (by omega)
                have F4 : Hid (SW v_20 b2 x) := F4.out.keeps hk (by omega)
                have FS : Hid (SrcT v_20 sb B a len cap ((T + 40 + 100 + 1) + 1)) := hs
                have FK : Hid (Keeps sb w v_20) := FK.out.trans hk
                clear hs hk
                obtain ⟨x0_0, x0_1, x0_2, x0_3, x0_4, x0_5, x0_6, x0_7, x0_8, x0_9, x0_10, x0_11⟩ := F0.out
                have z0_ := F4.out.c0
                have z1_ := F4.out.c1
                have z4_ := F4.out.c4
                try dsimp only
                refine hK.out _ _ (by (try dsimp only); first | exact ⟨x0_0, x0_1, x0_2, x0_3, x0_4, x0_5, x0_6, x0_7, x0_8, x0_9, x0_10, x0_11, z0_, z1_, z4_⟩ | go_keep) (fun hHeld => ?_)
                clear hK K
                try simp only [Act.put, List.getElem_toArray, List.getElem_cons_succ, List.getElem_cons_zero, List.setIfInBounds_toArray, List.set_cons_zero, List.set_cons_succ]
                refine tkz 26 rfl ?_
                refine tkz 27 rfl ?_
                refine tkz 28 rfl ?_
                refine wpAnyH_ready (rs := [29]) (by kernel_rfl) (by simp) ?_
                refine (AllReadyH.cons rfl (fun K hK => ?_) AllReadyH.nil)
                obtain ⟨x4_0, x4_1, x4_2, x4_3, x4_4, x4_5, y4_0, y4_1, y4_2, y4_3, y4_4, y4_5⟩ := F4.out
                go_simp
                refine hK.out _ _ (by (try dsimp only); first | ((repeat' apply And.intro) <;> first | ((rw [cellS (by omega)]); assumption) | (rw [World.cell?_setCell_other _ _ _ _ (by simp)]; assumption)) | ((repeat' apply And.intro) <;> ((repeat rw [cellS (by omega)]); assumption)) | go_keep) (fun hHeld => ?_)
                clear hK K
                try simp only [Act.put, List.getElem_toArray, List.getElem_cons_succ, List.getElem_cons_zero, List.setIfInBounds_toArray, List.set_cons_zero, List.set_cons_succ]
                refine wpAnyH_done (by kernel_rfl) ?_ _
                go_wp2_with fail
                go_meet
                case rel => exact ⟨rfl, _, G0.out.other (by omega), G1.out.other (by omega), G2.out.other (by omega), G3.out.other (by omega), F0.out.other (by omega), F4.out.set_up _, FS.out.other b2 _ _ (by omega) (by omega), FK.out.own (by omega) _ _⟩
              · go_simp
                refine (l1Next_t sb B a len cap _ _ _ FS.out (by omega) (by omega) (by omega)).mono ?_
                rintro e v_21 ⟨v, rfl, hv, hs, hk⟩
                have G0 : Hid (HW v_21 w.heap.size (⟨0, 0, 0, 0, 0, 0, 0, 0, 0, 0, 0, 0⟩ : Hs)) := G0.out.keeps hk (by omega)
                have G1 : Hid (R6 v_21 (w.heap.size + 1)) := G1.out.keeps hk (by omega)
                have G2 : Hid (XW v_21 (w.heap.size + 2) (⟨0, false, false⟩ : Cm)) := G2.out.keeps hk (by omega)
                have G3 : Hid (XW v_21 (w.heap.size + 3) (⟨0, false, false⟩ : Cm)) := G3.out.keeps hk (by omega)
                have F0 : Hid (HAt v_21 b1 h) := F0.out.keeps hk (by omega)
                have F4 : Hid (SW v_21 b2 x) := F4.out.keeps hk (by omega)
                have FS : Hid (SrcT v_21 sb B a len cap ((T + 40 + 100 + 1) + 1)) := hs
                have FK : Hid (Keeps sb w v_21) := FK.out.trans hk
                clear hs hk
                obtain ⟨x0_0, x0_1, x0_2, x0_3, x0_4, x0_5, x0_6, x0_7, x0_8, x0_9, x0_10, x0_11⟩ := F0.out
                have z0_ := F4.out.c0
                have z1_ := F4.out.c1
                have z4_ := F4.out.c4
                try dsimp only
                refine hK.out _ _ (by (try dsimp only); first | exact ⟨x0_0, x0_1, x0_2, x0_3, x0_4, x0_5, x0_6, x0_7, x0_8, x0_9, x0_10, x0_11, z0_, z1_, z4_⟩ | go_keep) (fun hHeld => ?_)
                clear hK K
                try simp only [Act.put, List.getElem_toArray, List.getElem_cons_succ, List.getElem_cons_zero, List.setIfInBounds_toArray, List.set_cons_zero, List.set_cons_succ]
                refine wpAnyH_ready (rs := [13]) (by kernel_rfl) (by simp) ?_
                refine (AllReadyH.cons rfl (fun K hK => ?_) AllReadyH.nil)
                obtain ⟨x4_0, x4_1, x4_2, x4_3, x4_4, x4_5, y4_0, y4_1, y4_2, y4_3, y4_4, y4_5⟩ := F4.out
                go_simp
                refine hK.out _ _ (by (try dsimp only); first | exact ⟨x0_0, x0_1, x0_2, x0_3, x0_4, x0_5, x0_6, x0_7, x0_8, x0_9, x0_10, x0_11, z0_, z1_, z4_⟩ | go_keep) (fun hHeld => ?_)
                clear hK K
                try simp only [Act.put, List.getElem_toArray, List.getElem_cons_succ, List.getElem_cons_zero, List.setIfInBounds_toArray, List.set_cons_zero, List.set_cons_succ]
                refine tkz 14 rfl ?_
                refine tkz 23 rfl ?_
                refine tkz 26 rfl ?_
                refine tkz 27 rfl ?_
                refine tkz 28 rfl ?_
                refine wpAnyH_ready (rs := [29]) (by kernel_rfl) (by simp) ?_
                refine (AllReadyH.cons rfl (fun K hK => ?_) AllReadyH.nil)
                obtain ⟨x4_0, x4_1, x4_2, x4_3, x4_4, x4_5, y4_0, y4_1, y4_2, y4_3, y4_4, y4_5⟩ := F4.out
                go_simp
                refine hK.out _ _ (by (try dsimp only); first | ((repeat' apply And.intro) <;> first | ((rw [cellS (by omega)]); assumption) | (rw [World.cell?_setCell_other _ _ _ _ (by simp)]; assumption)) | ((repeat' apply And.intro) <;> ((repeat rw [cellS (by omega)]); assumption)) | go_keep) (fun hHeld => ?_)
                clear hK K
                try simp only [Act.put, List.getElem_toArray, List.getElem_cons_succ, List.getElem_cons_zero, List.setIfInBounds_toArray, List.set_cons_zero, List.set_cons_succ]
                refine wpAnyH_done (by kernel_rfl) ?_ _
                go_wp2_with fail
                go_meet
                case rel => exact ⟨rfl, _, G0.out.other (by omega), G1.out.other (by omega), G2.out.other (by omega), G3.out.other (by omega), F0.out.other (by omega), F4.out.set_up _, FS.out.other b2 _ _ (by omega) (by omega), FK.out.own (by omega) _ _⟩
          · obtain ⟨x4_0, x4_1, x4_2, x4_3, x4_4, x4_5, y4_0, y4_1, y4_2, y4_3, y4_4, y4_5⟩ := F4.out
            go_simp
            refine hK.out _ _ (by (try dsimp only); first | exact ⟨x0_0, x0_1, x0_2, x0_3, x0_4, x0_5, x0_6, x0_7, x0_8, x0_9, x0_10, x0_11, z0_, z1_, z4_⟩ | go_keep) (fun hHeld => ?_)
            clear hK K
            try simp only [Act.put, List.getElem_toArray, List.getElem_cons_succ, List.getElem_cons_zero, List.setIfInBounds_toArray, List.set_cons_zero, List.set_cons_succ]
            refine wpAnyH_ready (rs := [7]) (by kernel_rfl) (by simp) ?_
            refine (AllReadyH.cons rfl (fun K hK => ?_) AllReadyH.nil)
            go_simp
            refine (l3High_any h HO.out _ _ (by omega) (by omega) (by omega) (by omega) _).mono ?_
            rintro e v_22 ⟨rfl, hb⟩
            have G0 : Hid (HW v_22 w.heap.size (⟨0, 0, 0, 0, 0, 0, 0, 0, 0, 0, 0, 0⟩ : Hs)) := G0.out.below hb G0.out.lt
            have G1 : Hid (R6 v_22 (w.heap.size + 1)) := G1.out.below hb G1.out.lt
            have G2 : Hid (XW v_22 (w.heap.size + 2) (⟨0, false, false⟩ : Cm)) := G2.out.below hb G2.out.lt
            have G3 : Hid (XW v_22 (w.heap.size + 3) (⟨0, false, false⟩ : Cm)) := G3.out.below hb G3.out.lt
            have F0 : Hid (HAt v_22 b1 h) := F0.out.below hb F0.out.lt
            have F4 : Hid (SW v_22 b2 x) := F4.out.below hb F4.out.lt
            have FS : Hid (SrcT v_22 sb B a len cap (T + 40 + 100 + 1)) := FS.out.below hb
            have FK : Hid (Keeps sb w v_22) := FK.out.of_below hb
            clear hb
            obtain ⟨x0_0, x0_1, x0_2, x0_3, x0_4, x0_5, x0_6, x0_7, x0_8, x0_9, x0_10, x0_11⟩ := F0.out
            have z0_ := F4.out.c0
            have z1_ := F4.out.c1
            have z4_ := F4.out.c4
            try dsimp only
            refine hK.out _ _ (by (try dsimp only); first | exact ⟨x0_0, x0_1, x0_2, x0_3, x0_4, x0_5, x0_6, x0_7, x0_8, x0_9, x0_10, x0_11, z0_, z1_, z4_⟩ | go_keep) (fun hHeld => ?_)
            clear hK K
            try simp only [Act.put, List.getElem_toArray, List.getElem_cons_succ, List.getElem_cons_zero, List.setIfInBounds_toArray, List.set_cons_zero, List.set_cons_succ]
            refine tkz 10 rfl ?_
            refine tkz 14 rfl ?_
            refine wpAnyH_ready (rs := [22]) (by kernel_rfl) (by simp) ?_
            refine (AllReadyH.cons rfl (fun K hK => ?_) AllReadyH.nil)
            go_simp
            refine (l3Low_any h HO.out _ _ (by omega) (by omega) (by omega) (by omega) _).mono ?_
            rintro e v_23 ⟨rfl, hb⟩
            have G0 : Hid (HW v_23 w.heap.size (⟨0, 0, 0, 0, 0, 0, 0, 0, 0, 0, 0, 0⟩ : Hs)) := G0.out.below hb G0.out.lt
            have G1 : Hid (R6 v_23 (w.heap.size + 1)) := G1.out.below hb G1.out.lt
            have G2 : Hid (XW v_23 (w.heap.size + 2) (⟨0, false, false⟩ : Cm)) := G2.out.below hb G2.out.lt
            have G3 : Hid (XW v_23 (w.heap.size + 3) (⟨0, false, false⟩ : Cm)) := G3.out.below hb G3.out.lt
            have F0 : Hid (HAt v_23 b1 h) := F0.out.below hb F0.out.lt
            have F4 : Hid (SW v_23 b2 x) := F4.out.below hb F4.out.lt
            have FS : Hid (SrcT v_23 sb B a len cap (T + 40 + 100 + 1)) := FS.out.below hb
            have FK : Hid (Keeps sb w v_23) := FK.out.of_below hb
            clear hb
            obtain ⟨x0_0, x0_1, x0_2, x0_3, x0_4, x0_5, x0_6, x0_7, x0_8, x0_9, x0_10, x0_11⟩ := F0.out
            have z0_ := F4.out.c0
            have z1_ := F4.out.c1
            have z4_ := F4.out.c4
            try dsimp only
            refine hK.out _ _ (by (try dsimp only); first | exact ⟨x0_0, x0_1, x0_2, x0_3, x0_4, x0_5, x0_6, x0_7, x0_8, x0_9, x0_10, x0_11, z0_, z1_, z4_⟩ | go_keep) (fun hHeld => ?_)
            clear hK K
            try simp only [Act.put, List.getElem_toArray, List.getElem_cons_succ, List.getElem_cons_zero, List.setIfInBounds_toArray, List.set_cons_zero, List.set_cons_succ]
            refine tkz 23 rfl ?_
            refine wpAnyH_ready (rs := [25]) (by kernel_rfl) (by simp) ?_
            refine (AllReadyH.cons rfl (fun K hK => ?_) AllReadyH.nil)
            go_simp
            refine (l1Next_t sb B a len cap _ _ _ FS.out (by omega) (by omega) (by omega)).mono ?_
            rintro e v_24 ⟨v, rfl, hv, hs, hk⟩
            have G0 : Hid (HW v_24 w.heap.size (⟨0, 0, 0, 0, 0, 0, 0, 0, 0, 0, 0, 0⟩ : Hs)) := G0.out.keeps hk (by omega)
            have G1 : Hid (R6 v_24 (w.heap.size + 1)) := G1.out.keeps hk (by omega)
            have G2 : Hid (XW v_24 (w.heap.size + 2) (⟨0, false, false⟩ : Cm)) := G2.out.keeps hk (by omega)
            have G3 : Hid (XW v_24 (w.heap.size + 3) (⟨0, false, false⟩ : Cm)) := G3.out.keeps hk (by omega)
            have F0 : Hid (HAt v_24 b1 h) := F0.out.keeps hk (by omega)
            have F4 : Hid (SW v_24 b2 x) := F4.out.keeps hk (by omega)
            have FS : Hid (SrcT v_24 sb B a len cap ((T + 40 + 100 + 1) + 1)) := hs
            have FK : Hid (Keeps sb w v_24) := FK.out.trans hk
            clear hs hk
            obtain ⟨x0_0, x0_1, x0_2, x0_3, x0_4, x0_5, x0_6, x0_7, x0_8, x0_9, x0_10, x0_11⟩ := F0.out
            have z0_ := F4.out.c0
            have z1_ := F4.out.c1
            have z4_ := F4.out.c4
            try dsimp only
            refine hK.out _ _ (by (try dsimp only); first | exact ⟨x0_0, x0_1, x0_2, x0_3, x0_4, x0_5, x0_6, x0_7, x0_8, x0_9, x0_10, x0_11, z0_, z1_, z4_⟩ | go_keep) (fun hHeld => ?_)
            clear hK K
            try simp only [Act.put, List.getElem_toArray, List.getElem_cons_succ, List.getElem_cons_zero, List.setIfInBounds_toArray, List.set_cons_zero, List.set_cons_succ]
            refine tkz 26 rfl ?_
            refine tkz 27 rfl ?_
            refine tkz 28 rfl ?_
            refine wpAnyH_ready (rs := [29]) (by kernel_rfl) (by simp) ?_
            refine (AllReadyH.cons rfl (fun K hK => ?_) AllReadyH.nil)
            obtain ⟨x4_0, x4_1, x4_2, x4_3, x4_4, x4_5, y4_0, y4_1, y4_2, y4_3, y4_4, y4_5⟩ := F4.out
            go_simp
            refine hK.out _ _ (by (try dsimp only); first | ((repeat' apply And.intro) <;> first | ((rw [cellS (by omega)]); assumption) | (rw [World.cell?_setCell_other _ _ _ _ (by simp)]; assumption)) | ((repeat' apply And.intro) <;> ((repeat rw [cellS (by omega)]); assumption)) | go_keep) (fun hHeld => ?_)
            clear hK K
            try simp only [Act.put, List.getElem_toArray, List.getElem_cons_succ, List.getElem_cons_zero, List.setIfInBounds_toArray, List.set_cons_zero, List.set_cons_succ]
            refine wpAnyH_done (by kernel_rfl) ?_ _
            go_wp2_with fail
            go_meet
            case rel => exact ⟨rfl, _, G0.out.other (by omega), G1.out.other (by omega), G2.out.other (by omega), G3.out.other (by omega), F0.out.other (by omega), F4.out.set_up _, FS.out.other b2 _ _ (by omega) (by omega), FK.out.own (by omega) _ _⟩
    case rest =>
      obtain ⟨rfl, x, h0, h1, h2, h3, h4, h5, h6, h7⟩ := hcut
      have G0 : Hid (HW wc w.heap.size (⟨0, 0, 0, 0, 0, 0, 0, 0, 0, 0, 0, 0⟩ : Hs)) := h0
      have G1 : Hid (R6 wc (w.heap.size + 1)) := h1
      have G2 : Hid (XW wc (w.heap.size + 2) (⟨0, false, false⟩ : Cm)) := h2
      have G3 : Hid (XW wc (w.heap.size + 3) (⟨0, false, false⟩ : Cm)) := h3
      have F0 : Hid (HAt wc b1 h) := h4
      have F4 : Hid (SW wc b2 x) := h5
      have FS : Hid (SrcT wc sb B a len cap (T + 40 + 100 + 2)) := h6
      have FK : Hid (Keeps sb w wc) := h7
      clear h0 h1 h2 h3 h4 h5 h6 h7
      obtain ⟨x0_0, x0_1, x0_2, x0_3, x0_4, x0_5, x0_6, x0_7, x0_8, x0_9, x0_10, x0_11⟩ := F0.out
      go_wp2_with fail
      clear x0_0 x0_1 x0_2 x0_3 x0_4 x0_5 x0_6 x0_7 x0_8 x0_9 x0_10 x0_11
      refine (l3Command_t h HO.out sb B a len cap _ _ FS.out (by omega)).mono ?_
      rintro e w8 ⟨c1, rfl, hs, hk⟩
      have G0 : Hid (HW w8 w.heap.size (⟨0, 0, 0, 0, 0, 0, 0, 0, 0, 0, 0, 0⟩ : Hs)) := G0.out.keeps hk (by omega)
      have G1 : Hid (R6 w8 (w.heap.size + 1)) := G1.out.keeps hk (by omega)
      have G2 : Hid (XW w8 (w.heap.size + 2) (⟨0, false, false⟩ : Cm)) := G2.out.keeps hk (by omega)
      have G3 : Hid (XW w8 (w.heap.size + 3) (⟨0, false, false⟩ : Cm)) := G3.out.keeps hk (by omega)
      have F0 : Hid (HAt w8 b1 h) := F0.out.keeps hk (by omega)
      have F4 : Hid (SW w8 b2 x) := F4.out.keeps hk (by omega)
      have FS : Hid (SrcT w8 sb B a len cap (T + 40 + 100 + 2 + 10)) := hs
      have FK : Hid (Keeps sb w w8) := FK.out.trans hk
      clear hs hk
      go_upto_region 6 with fail
      obtain ⟨b3, hbb⟩ : ∃ b3, b3 = w8.heap.size := ⟨_, rfl⟩
      obtain ⟨w9, hw2⟩ : ∃ w9, w9 = w8.alloc (.cells #[.int .i64 c1.push, .bool c1.brk, .bool c1.opn] 58) := ⟨_, rfl⟩
      have lb3S := FS.out.lt
      rw [← hbb] at lb3S
      have lb3G0 := G0.out.lt
      rw [← hbb] at lb3G0
      have G0 : Hid (HW w9 w.heap.size (⟨0, 0, 0, 0, 0, 0, 0, 0, 0, 0, 0, 0⟩ : Hs)) := by rw [hw2]; exact G0.out.alloc _
      have lb3G1 := G1.out.lt
      rw [← hbb] at lb3G1
      have G1 : Hid (R6 w9 (w.heap.size + 1)) := by rw [hw2]; exact G1.out.alloc _
      have lb3G2 := G2.out.lt
      rw [← hbb] at lb3G2
      have G2 : Hid (XW w9 (w.heap.size + 2) (⟨0, false, false⟩ : Cm)) := by rw [hw2]; exact G2.out.alloc _
      have lb3G3 := G3.out.lt
      rw [← hbb] at lb3G3
      have G3 : Hid (XW w9 (w.heap.size + 3) (⟨0, false, false⟩ : Cm)) := by rw [hw2]; exact G3.out.alloc _
      have lb3F0 := F0.out.lt
      rw [← hbb] at lb3F0
      have F0 : Hid (HAt w9 b1 h) := by rw [hw2]; exact F0.out.alloc _
      have lb3F4 := F4.out.lt
      rw [← hbb] at lb3F4
      have F4 : Hid (SW w9 b2 x) := by rw [hw2]; exact F4.out.alloc _
      have FS : Hid (SrcT w9 sb B a len cap (T + 40 + 100 + 2 + 10)) := by rw [hw2]; exact FS.out.alloc _
      have FK : Hid (Keeps sb w w9) := by rw [hw2]; exact FK.out.alloc _
      have F5 : Hid (XW w9 b3 c1) := by rw [hw2]; exact XW.at_ w8 c1 _ b3 hbb
      rw [← hw2, ← hbb]
      clear hbb hw2
      have F1 : Hid (SW w9 b2 x) := F4.out
      have F2 : Hid (XW w9 b3 c1) := F5.out
      have G0 : Hid (HW w9.drew w.heap.size (⟨0, 0, 0, 0, 0, 0, 0, 0, 0, 0, 0, 0⟩ : Hs)) := G0.out.below (Below.refl _ _).drew G0.out.lt
      have G1 : Hid (R6 w9.drew (w.heap.size + 1)) := G1.out.below (Below.refl _ _).drew G1.out.lt
      have G2 : Hid (XW w9.drew (w.heap.size + 2) (⟨0, false, false⟩ : Cm)) := G2.out.below (Below.refl _ _).drew G2.out.lt
      have G3 : Hid (XW w9.drew (w.heap.size + 3) (⟨0, false, false⟩ : Cm)) := G3.out.below (Below.refl _ _).drew G3.out.lt
      have F0 : Hid (HAt w9.drew b1 h) := F0.out.below (Below.refl _ _).drew F0.out.lt
      have F1 : Hid (SW w9.drew b2 x) := F1.out.below (Below.refl _ _).drew F1.out.lt
      have F2 : Hid (XW w9.drew b3 c1) := F2.out.below (Below.refl _ _).drew F2.out.lt
      have FS : Hid (SrcT w9.drew sb B a len cap (T + 40 + 100 + 2 + 10)) := FS.out.drew
      have FK : Hid (Keeps sb w w9.drew) := FK.out.of_below (Below.refl _ _).drew
      obtain ⟨x0_0, x0_1, x0_2, x0_3, x0_4, x0_5, x0_6, x0_7, x0_8, x0_9, x0_10, x0_11⟩ := F0.out
      obtain ⟨x1_0, x1_1, x1_2, x1_3, x1_4, x1_5, y1_0, y1_1, y1_2, y1_3, y1_4, y1_5⟩ := F1.out
      obtain ⟨x2_0, x2_1, x2_2, y2_0, y2_1, y2_2⟩ := F2.out
      refine wp_region_held_drew (S := (fun w'' => w''.cell? ⟨b1, 0, none⟩ = some (.int .i64 h.fl) ∧ w''.cell? ⟨b1, 1, none⟩ = some (.int .i64 h.gp) ∧ w''.cell? ⟨b1, 2, none⟩ = some (.int .i64 h.ln) ∧ w''.cell? ⟨b1, 3, none⟩ = some (.int .i64 h.rf) ∧ w''.cell? ⟨b1, 4, none⟩ = some (.int .i64 h.sp) ∧ w''.cell? ⟨b1, 5, none⟩ = some (.int .i64 h.pu) ∧ w''.cell? ⟨b1, 6, none⟩ = some (.int .i64 h.br) ∧ w''.cell? ⟨b1, 7, none⟩ = some (.int .i64 h.dr) ∧ w''.cell? ⟨b1, 8, none⟩ = some (.int .i64 h.lv) ∧ w''.cell? ⟨b1, 9, none⟩ = some (.int .i64 h.dO) ∧ w''.cell? ⟨b1, 10, none⟩ = some (.int .i64 h.ld) ∧ w''.cell? ⟨b1, 11, none⟩ = some (.int .i64 h.qu) ∧ w''.cell? ⟨b2, 0, none⟩ = some (.int .i64 x.lo.pos) ∧ w''.cell? ⟨b2, 1, none⟩ = some (.int .i64 x.lo.vel) ∧ w''.cell? ⟨b2, 2, none⟩ = some (.int .i64 x.lo.door) ∧ w''.cell? ⟨b2, 3, none⟩ = some (.int .i64 x.up.pos) ∧ w''.cell? ⟨b2, 4, none⟩ = some (.int .i64 x.up.vel) ∧ w''.cell? ⟨b2, 5, none⟩ = some (.int .i64 x.up.door) ∧ w''.cell? ⟨b3, 0, none⟩ = some (.int .i64 c1.push) ∧ w''.cell? ⟨b3, 1, none⟩ = some (.bool c1.brk) ∧ w''.cell? ⟨b3, 2, none⟩ = some (.bool c1.opn))) (by kernel_rfl) (by (try dsimp only); first | exact ⟨x0_0, x0_1, x0_2, x0_3, x0_4, x0_5, x0_6, x0_7, x0_8, x0_9, x0_10, x0_11, x1_0, x1_1, x1_2, x1_3, x1_4, x1_5, x2_0, x2_1, x2_2⟩ | go_keep) (fun hHeld => ?_)
      obtain ⟨v_25, hw1⟩ : ∃ v_25, v_25 = w9.drew := ⟨_, rfl⟩
      have G0 : Hid (HW v_25 w.heap.size (⟨0, 0, 0, 0, 0, 0, 0, 0, 0, 0, 0, 0⟩ : Hs)) := by rw [hw1]; exact G0.out
      have G1 : Hid (R6 v_25 (w.heap.size + 1)) := by rw [hw1]; exact G1.out
      have G2 : Hid (XW v_25 (w.heap.size + 2) (⟨0, false, false⟩ : Cm)) := by rw [hw1]; exact G2.out
      have G3 : Hid (XW v_25 (w.heap.size + 3) (⟨0, false, false⟩ : Cm)) := by rw [hw1]; exact G3.out
      have F0 : Hid (HAt v_25 b1 h) := by rw [hw1]; exact F0.out
      have F1 : Hid (SW v_25 b2 x) := by rw [hw1]; exact F1.out
      have F2 : Hid (XW v_25 b3 c1) := by rw [hw1]; exact F2.out
      have FS : Hid (SrcT v_25 sb B a len cap (T + 40 + 100 + 2 + 10)) := by rw [hw1]; exact FS.out
      have FK : Hid (Keeps sb w v_25) := by rw [hw1]; exact FK.out
      rw [← hw1] at hHeld ⊢
      clear hw1
      obtain ⟨x0_0, x0_1, x0_2, x0_3, x0_4, x0_5, x0_6, x0_7, x0_8, x0_9, x0_10, x0_11⟩ := F0.out
      obtain ⟨x1_0, x1_1, x1_2, x1_3, x1_4, x1_5, y1_0, y1_1, y1_2, y1_3, y1_4, y1_5⟩ := F1.out
      obtain ⟨x2_0, x2_1, x2_2, y2_0, y2_1, y2_2⟩ := F2.out
      refine tkz 0 rfl ?_
      refine tkz 1 rfl ?_
      refine tkz 2 rfl ?_
      refine tkz 3 rfl ?_
      refine tkz 4 rfl ?_
      refine wpAnyH_ready (rs := [5]) (by kernel_rfl) (by simp) ?_
      refine (AllReadyH.cons rfl (fun K hK => ?_) AllReadyH.nil)
      go_simp
      refine (l3Command_t h HO.out sb B a len cap _ _ FS.out (by omega)).mono ?_
      rintro e v_26 ⟨c2, rfl, hs, hk⟩
      have G0 : Hid (HW v_26 w.heap.size (⟨0, 0, 0, 0, 0, 0, 0, 0, 0, 0, 0, 0⟩ : Hs)) := G0.out.keeps hk (by omega)
      have G1 : Hid (R6 v_26 (w.heap.size + 1)) := G1.out.keeps hk (by omega)
      have G2 : Hid (XW v_26 (w.heap.size + 2) (⟨0, false, false⟩ : Cm)) := G2.out.keeps hk (by omega)
      have G3 : Hid (XW v_26 (w.heap.size + 3) (⟨0, false, false⟩ : Cm)) := G3.out.keeps hk (by omega)
      have F0 : Hid (HAt v_26 b1 h) := F0.out.keeps hk (by omega)
      have F1 : Hid (SW v_26 b2 x) := F1.out.keeps hk (by omega)
      have F2 : Hid (XW v_26 b3 c1) := F2.out.keeps hk (by omega)
      have FS : Hid (SrcT v_26 sb B a len cap ((T + 40 + 100 + 2 + 10) + 10)) := hs
      have FK : Hid (Keeps sb w v_26) := FK.out.trans hk
      clear hs hk
      obtain ⟨x0_0, x0_1, x0_2, x0_3, x0_4, x0_5, x0_6, x0_7, x0_8, x0_9, x0_10, x0_11⟩ := F0.out
      obtain ⟨x1_0, x1_1, x1_2, x1_3, x1_4, x1_5, y1_0, y1_1, y1_2, y1_3, y1_4, y1_5⟩ := F1.out
      obtain ⟨x2_0, x2_1, x2_2, y2_0, y2_1, y2_2⟩ := F2.out
      try dsimp only
      refine hK.out _ _ (by (try dsimp only); first | exact ⟨x0_0, x0_1, x0_2, x0_3, x0_4, x0_5, x0_6, x0_7, x0_8, x0_9, x0_10, x0_11, x1_0, x1_1, x1_2, x1_3, x1_4, x1_5, x2_0, x2_1, x2_2⟩ | go_keep) (fun hHeld => ?_)
      clear hK K
      try simp only [Act.put, List.getElem_toArray, List.getElem_cons_succ, List.getElem_cons_zero, List.setIfInBounds_toArray, List.set_cons_zero, List.set_cons_succ]
      refine wpAnyH_ready (rs := [6]) (by kernel_rfl) (by simp) ?_
      refine (AllReadyH.cons rfl (fun K hK => ?_) AllReadyH.nil)
      obtain ⟨d0, d1, d2, d3, d4, d5, d6, d7, d8, d9, d10, d11, e0, e1, e2, e3, e4, e5, e6, e7, e8, e9, e10, e11⟩ := G0.out
      try dsimp only at d0 d1 d2 d3 d4 d5 d6 d7 d8 d9 d10 d11
      go_simp
      obtain ⟨v_27, hw2⟩ : ∃ v_27, v_27 = putH v_26 w.heap.size h := ⟨_, rfl⟩
      change K _ (putH v_26 w.heap.size h)
      rw [← hw2]
      clear d0 d1 d2 d3 d4 d5 d6 d7 d8 d9 d10 d11 e0 e1 e2 e3 e4 e5 e6 e7 e8 e9 e10 e11
      have G0 : Hid (HW v_27 w.heap.size h) := by rw [hw2]; exact G0.out.put h
      have G1 : Hid (R6 v_27 (w.heap.size + 1)) := by rw [hw2]; exact G1.out.putH_o (by omega) h
      have G2 : Hid (XW v_27 (w.heap.size + 2) (⟨0, false, false⟩ : Cm)) := by rw [hw2]; exact G2.out.putH_o (by omega) h
      have G3 : Hid (XW v_27 (w.heap.size + 3) (⟨0, false, false⟩ : Cm)) := by rw [hw2]; exact G3.out.putH_o (by omega) h
      have F0 : Hid (HAt v_27 b1 h) := by rw [hw2]; exact F0.out.putH_o (by omega) h
      have F1 : Hid (SW v_27 b2 x) := by rw [hw2]; exact F1.out.putH_o (by omega) h
      have F2 : Hid (XW v_27 b3 c1) := by rw [hw2]; exact F2.out.putH_o (by omega) h
      have FS : Hid (SrcT v_27 sb B a len cap ((T + 40 + 100 + 2 + 10) + 10)) := by rw [hw2]; exact FS.out.putH_o _ h (by omega) (by omega)
      have FK : Hid (Keeps sb w v_27) := by rw [hw2]; exact FK.out.putH_o (by omega) h
      clear hw2
      obtain ⟨x0_0, x0_1, x0_2, x0_3, x0_4, x0_5, x0_6, x0_7, x0_8, x0_9, x0_10, x0_11⟩ := F0.out
      obtain ⟨x1_0, x1_1, x1_2, x1_3, x1_4, x1_5, y1_0, y1_1, y1_2, y1_3, y1_4, y1_5⟩ := F1.out
      obtain ⟨x2_0, x2_1, x2_2, y2_0, y2_1, y2_2⟩ := F2.out
      refine hK.out _ _ (by (try dsimp only); first | exact ⟨x0_0, x0_1, x0_2, x0_3, x0_4, x0_5, x0_6, x0_7, x0_8, x0_9, x0_10, x0_11, x1_0, x1_1, x1_2, x1_3, x1_4, x1_5, x2_0, x2_1, x2_2⟩ | go_keep) (fun hHeld => ?_)
      clear hK K
      try simp only [Act.put, List.getElem_toArray, List.getElem_cons_succ, List.getElem_cons_zero, List.setIfInBounds_toArray, List.set_cons_zero, List.set_cons_succ]
      refine wpAnyH_ready (rs := [7]) (by kernel_rfl) (by simp) ?_
      refine (AllReadyH.cons rfl (fun K hK => ?_) AllReadyH.nil)
      obtain ⟨r0, r1, r2, r3, r4, r5, s0, s1, s2, s3, s4, s5⟩ := G1.out
      go_simp
      obtain ⟨v_28, hw2⟩ : ∃ v_28, v_28 = put6 v_27 (w.heap.size + 1) x := ⟨_, rfl⟩
      change K _ (put6 v_27 (w.heap.size + 1) x)
      rw [← hw2]
      clear r0 r1 r2 r3 r4 r5 s0 s1 s2 s3 s4 s5
      have G0 : Hid (HW v_28 w.heap.size h) := by rw [hw2]; exact G0.out.put6_o (by omega) x
      have G1 : Hid (SW v_28 (w.heap.size + 1) x) := by rw [hw2]; exact G1.out.put x
      have G2 : Hid (XW v_28 (w.heap.size + 2) (⟨0, false, false⟩ : Cm)) := by rw [hw2]; exact G2.out.put6_o (by omega) x
      have G3 : Hid (XW v_28 (w.heap.size + 3) (⟨0, false, false⟩ : Cm)) := by rw [hw2]; exact G3.out.put6_o (by omega) x
      have F0 : Hid (HAt v_28 b1 h) := by rw [hw2]; exact F0.out.put6_o (by omega) x
      have F1 : Hid (SW v_28 b2 x) := by rw [hw2]; exact F1.out.put6_o (by omega) x
      have F2 : Hid (XW v_28 b3 c1) := by rw [hw2]; exact F2.out.put6_o (by omega) x
      have FS : Hid (SrcT v_28 sb B a len cap ((T + 40 + 100 + 2 + 10) + 10)) := by rw [hw2]; exact FS.out.put6_o _ x (by omega) (by omega)
      have FK : Hid (Keeps sb w v_28) := by rw [hw2]; exact FK.out.put6_o (by omega) x
      clear hw2
      obtain ⟨x0_0, x0_1, x0_2, x0_3, x0_4, x0_5, x0_6, x0_7, x0_8, x0_9, x0_10, x0_11⟩ := F0.out
      obtain ⟨x1_0, x1_1, x1_2, x1_3, x1_4, x1_5, y1_0, y1_1, y1_2, y1_3, y1_4, y1_5⟩ := F1.out
      obtain ⟨x2_0, x2_1, x2_2, y2_0, y2_1, y2_2⟩ := F2.out
      refine hK.out _ _ (by (try dsimp only); first | exact ⟨x0_0, x0_1, x0_2, x0_3, x0_4, x0_5, x0_6, x0_7, x0_8, x0_9, x0_10, x0_11, x1_0, x1_1, x1_2, x1_3, x1_4, x1_5, x2_0, x2_1, x2_2⟩ | go_keep) (fun hHeld => ?_)
      clear hK K
      try simp only [Act.put, List.getElem_toArray, List.getElem_cons_succ, List.getElem_cons_zero, List.setIfInBounds_toArray, List.set_cons_zero, List.set_cons_succ]
      refine wpAnyH_ready (rs := [8]) (by kernel_rfl) (by simp) ?_
      refine (AllReadyH.cons rfl (fun K hK => ?_) AllReadyH.nil)
      obtain ⟨r0, r1, r2, s0, s1, s2⟩ := G2.out
      try dsimp only at r0 r1 r2
      go_simp
      obtain ⟨v_29, hw2⟩ : ∃ v_29, v_29 = putX v_28 (w.heap.size + 2) c1 := ⟨_, rfl⟩
      change K _ (putX v_28 (w.heap.size + 2) c1)
      rw [← hw2]
      clear r0 r1 r2 s0 s1 s2
      have G0 : Hid (HW v_29 w.heap.size h) := by rw [hw2]; exact G0.out.putX_o (by omega) c1
      have G1 : Hid (SW v_29 (w.heap.size + 1) x) := by rw [hw2]; exact G1.out.putX_o (by omega) c1
      have G2 : Hid (XW v_29 (w.heap.size + 2) c1) := by rw [hw2]; exact G2.out.put c1
      have G3 : Hid (XW v_29 (w.heap.size + 3) (⟨0, false, false⟩ : Cm)) := by rw [hw2]; exact G3.out.putX_o (by omega) c1
      have F0 : Hid (HAt v_29 b1 h) := by rw [hw2]; exact F0.out.putX_o (by omega) c1
      have F1 : Hid (SW v_29 b2 x) := by rw [hw2]; exact F1.out.putX_o (by omega) c1
      have F2 : Hid (XW v_29 b3 c1) := by rw [hw2]; exact F2.out.putX_o (by omega) c1
      have FS : Hid (SrcT v_29 sb B a len cap ((T + 40 + 100 + 2 + 10) + 10)) := by rw [hw2]; exact FS.out.putX _ c1 (by omega) (by omega)
      have FK : Hid (Keeps sb w v_29) := by rw [hw2]; exact FK.out.putX (by omega) c1
      clear hw2
      obtain ⟨x0_0, x0_1, x0_2, x0_3, x0_4, x0_5, x0_6, x0_7, x0_8, x0_9, x0_10, x0_11⟩ := F0.out
      obtain ⟨x1_0, x1_1, x1_2, x1_3, x1_4, x1_5, y1_0, y1_1, y1_2, y1_3, y1_4, y1_5⟩ := F1.out
      obtain ⟨x2_0, x2_1, x2_2, y2_0, y2_1, y2_2⟩ := F2.out
      refine hK.out _ _ (by (try dsimp only); first | exact ⟨x0_0, x0_1, x0_2, x0_3, x0_4, x0_5, x0_6, x0_7, x0_8, x0_9, x0_10, x0_11, x1_0, x1_1, x1_2, x1_3, x1_4, x1_5, x2_0, x2_1, x2_2⟩ | go_keep) (fun hHeld => ?_)
      clear hK K
      try simp only [Act.put, List.getElem_toArray, List.getElem_cons_succ, List.getElem_cons_zero, List.setIfInBounds_toArray, List.set_cons_zero, List.set_cons_succ]
      refine wpAnyH_ready (rs := [9]) (by kernel_rfl) (by simp) ?_
      refine (AllReadyH.cons rfl (fun K hK => ?_) AllReadyH.nil)
      obtain ⟨r0, r1, r2, s0, s1, s2⟩ := G3.out
      try dsimp only at r0 r1 r2
      go_simp
      obtain ⟨v_30, hw2⟩ : ∃ v_30, v_30 = putX v_29 (w.heap.size + 3) c2 := ⟨_, rfl⟩
      change K _ (putX v_29 (w.heap.size + 3) c2)
      rw [← hw2]
      clear r0 r1 r2 s0 s1 s2
      have G0 : Hid (HW v_30 w.heap.size h) := by rw [hw2]; exact G0.out.putX_o (by omega) c2
      have G1 : Hid (SW v_30 (w.heap.size + 1) x) := by rw [hw2]; exact G1.out.putX_o (by omega) c2
      have G2 : Hid (XW v_30 (w.heap.size + 2) c1) := by rw [hw2]; exact G2.out.putX_o (by omega) c2
      have G3 : Hid (XW v_30 (w.heap.size + 3) c2) := by rw [hw2]; exact G3.out.put c2
      have F0 : Hid (HAt v_30 b1 h) := by rw [hw2]; exact F0.out.putX_o (by omega) c2
      have F1 : Hid (SW v_30 b2 x) := by rw [hw2]; exact F1.out.putX_o (by omega) c2
      have F2 : Hid (XW v_30 b3 c1) := by rw [hw2]; exact F2.out.putX_o (by omega) c2
      have FS : Hid (SrcT v_30 sb B a len cap ((T + 40 + 100 + 2 + 10) + 10)) := by rw [hw2]; exact FS.out.putX _ c2 (by omega) (by omega)
      have FK : Hid (Keeps sb w v_30) := by rw [hw2]; exact FK.out.putX (by omega) c2
      clear hw2
      obtain ⟨x0_0, x0_1, x0_2, x0_3, x0_4, x0_5, x0_6, x0_7, x0_8, x0_9, x0_10, x0_11⟩ := F0.out
      obtain ⟨x1_0, x1_1, x1_2, x1_3, x1_4, x1_5, y1_0, y1_1, y1_2, y1_3, y1_4, y1_5⟩ := F1.out
      obtain ⟨x2_0, x2_1, x2_2, y2_0, y2_1, y2_2⟩ := F2.out
      refine hK.out _ _ (by (try dsimp only); first | exact ⟨x0_0, x0_1, x0_2, x0_3, x0_4, x0_5, x0_6, x0_7, x0_8, x0_9, x0_10, x0_11, x1_0, x1_1, x1_2, x1_3, x1_4, x1_5, x2_0, x2_1, x2_2⟩ | go_keep) (fun hHeld => ?_)
      clear hK K
      try simp only [Act.put, List.getElem_toArray, List.getElem_cons_succ, List.getElem_cons_zero, List.setIfInBounds_toArray, List.set_cons_zero, List.set_cons_succ]
      refine wpAnyH_done (by kernel_rfl) ?_ _
      obtain ⟨d0, d1, d2, d3, d4, d5, d6, d7, d8, d9, d10, d11, e0, e1, e2, e3, e4, e5, e6, e7, e8, e9, e10, e11⟩ := G0.out
      obtain ⟨k0, k1, k2, k3, k4, k5, -, -, -, -, -, -⟩ := G1.out
      obtain ⟨j0, j1, j2, -, -, -⟩ := G2.out
      obtain ⟨i0, i1, i2, -, -, -⟩ := G3.out
      go_wp2_with fail
      exact bodyPost_ret (v := .tuple #[.agg #[.int .i64 h.fl, .int .i64 h.gp, .int .i64 h.ln, .int .i64 h.rf, .int .i64 h.sp, .int .i64 h.pu, .int .i64 h.br, .int .i64 h.dr, .int .i64 h.lv, .int .i64 h.dO, .int .i64 h.ld, .int .i64 h.qu], .agg #[.int .i64 x.lo.pos, .int .i64 x.lo.vel, .int .i64 x.lo.door, .int .i64 x.up.pos, .int .i64 x.up.vel, .int .i64 x.up.door], .agg #[.int .i64 c1.push, .bool c1.brk, .bool c1.opn], .agg #[.int .i64 c2.push, .bool c2.brk, .bool c2.opn]]) (by simp [results, Try.results30, go_sem, d0, d1, d2, d3, d4, d5, d6, d7, d8, d9, d10, d11, k0, k1, k2, k3, k4, k5, j0, j1, j2, i0, i1, i2]) rfl (by first | exact ⟨h, x, c1, c2, rfl, HO.out, FS.out.more (by omega), FK.out⟩ | exact ⟨h, ⟨x, c1, c2, rfl⟩, HO.out, FS.out.more (by omega), FK.out⟩)
end Go.Proofs.Ytpfihpplpefikaa
