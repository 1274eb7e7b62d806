/-
  Books: BookRun, as the program answers.
-/
import Derived.Test.YtngdfckknkgdgaaEnH
import Derived.Test.YtngdfckknkgdgaaCarI
import Derived.Test.YtngdfckknkgdgaaHouseG
import Derived.Deep.DeepCutAuto
namespace Go.Proofs.Ytngdfckknkgdgaa
open Go.RowKit Pl
set_option linter.unusedSimpArgs false
set_option linter.unusedVariables false

set_option maxRecDepth 20000 in
set_option maxHeartbeats 32000000 in
theorem implBookRun_any (h : Hs) (c : Cs) (f r t : Int) (w : World) :
    Calls Try.prog 26 #[.agg #[.int .i64 h.fl, .int .i64 h.gp, .int .i64 h.ln, .int .i64 h.rf, .int .i64 h.sp, .int .i64 h.pu, .int .i64 h.br, .int .i64 h.dr, .int .i64 h.lv, .int .i64 h.dO, .int .i64 h.ld, .int .i64 h.qu], .agg #[.int .i64 c.pos, .int .i64 c.vel, .int .i64 c.door], .int .i64 f, .int .i64 r, .int .i64 t] w (isBk w (Hs.bkV h c f r t)) := by
  obtain ⟨R, hR⟩ : ∃ R, Hs.bkV h c f r t = R := ⟨_, rfl⟩
  rw [hR]
  have HR : Hid (Hs.bkV h c f r t = R) := hR
  obtain ⟨ka, hka⟩ : ∃ ka, Hs.askK h c r = ka := ⟨_, rfl⟩
  have HA : Hid (Hs.askK h c r = ka) := hka
  clear hR hka
  obtain ⟨b0, hb0⟩ : ∃ b0, b0 = w.heap.size := ⟨_, rfl⟩
  obtain ⟨b1, hb1⟩ : ∃ b1, b1 = b0 + 1 := ⟨_, rfl⟩
  obtain ⟨b3, hb3⟩ : ∃ b3, b3 = b1 + 1 := ⟨_, rfl⟩
  obtain ⟨W0, hW0⟩ : ∃ W0, W0 = ((w.alloc (.cells #[.int .i64 h.fl, .int .i64 h.gp, .int .i64 h.ln, .int .i64 h.rf, .int .i64 h.sp, .int .i64 h.pu, .int .i64 h.br, .int .i64 h.dr, .int .i64 h.lv, .int .i64 h.dO, .int .i64 h.ld, .int .i64 h.qu] 27)).alloc (.cells #[.int .i64 c.pos, .int .i64 c.vel, .int .i64 c.door] 34)).alloc (.cells #[.int .i64 0, .int .i64 0, .int .i64 0, .int .i64 0, .int .i64 0, .int .i64 0, .int .i64 0] 40) := ⟨_, rfl⟩
  have F0 : Hid (Blk W0 b0 [.int .i64 h.fl, .int .i64 h.gp, .int .i64 h.ln, .int .i64 h.rf, .int .i64 h.sp, .int .i64 h.pu, .int .i64 h.br, .int .i64 h.dr, .int .i64 h.lv, .int .i64 h.dO, .int .i64 h.ld, .int .i64 h.qu]) := by rw [hW0]; exact (((Blk.at_ _ #[.int .i64 h.fl, .int .i64 h.gp, .int .i64 h.ln, .int .i64 h.rf, .int .i64 h.sp, .int .i64 h.pu, .int .i64 h.br, .int .i64 h.dr, .int .i64 h.lv, .int .i64 h.dO, .int .i64 h.ld, .int .i64 h.qu] _ _ hb0).alloc _).alloc _)
  have F1 : Hid (Blk W0 b1 [.int .i64 c.pos, .int .i64 c.vel, .int .i64 c.door]) := by rw [hW0]; exact ((Blk.at_ _ #[.int .i64 c.pos, .int .i64 c.vel, .int .i64 c.door] _ _ (by simp; omega)).alloc _)
  have F3 : Hid (Blk W0 b3 [.int .i64 0, .int .i64 0, .int .i64 0, .int .i64 0, .int .i64 0, .int .i64 0, .int .i64 0]) := by rw [hW0]; exact (Blk.at_ _ #[.int .i64 0, .int .i64 0, .int .i64 0, .int .i64 0, .int .i64 0, .int .i64 0, .int .i64 0] _ _ (by simp; omega))
  have FB : Hid (Below w.heap.size w W0) := by rw [hW0]; exact ((((Below.refl _ _).alloc (Nat.le_refl _) _).alloc (by simp) _).alloc (by simp; omega) _)
  have leb0 : w.heap.size ≤ b0 := by omega
  have leb1 : w.heap.size ≤ b1 := by omega
  have leb3 : w.heap.size ≤ b3 := by omega
  have l01 : b0 < b1 := by omega
  have l12 : b1 < b3 := by omega
  go_enter Try.func26, Try.ntmps26
  go_upto_region 1 with fail
  rw [← hb0, ← hb1, ← hb3, ← hW0]
  clear hb0 hb1 hb3 hW0
  go_upto_region 2 with (first | (refine load_blk 27 _ Try.underlying27 (by kernel_rfl) F0.out rfl rfl rfl ?_) | (refine load_blk 34 _ Try.underlying34 (by kernel_rfl) F1.out rfl rfl rfl ?_) | (go_at_call 45; refine (loadFault_any h c r _).mono ?_; rw [HA.out]; rintro e w1 ⟨rfl, hb⟩; have F0 : Hid (Blk w1 b0 [.int .i64 h.fl, .int .i64 h.gp, .int .i64 h.ln, .int .i64 h.rf, .int .i64 h.sp, .int .i64 h.pu, .int .i64 h.br, .int .i64 h.dr, .int .i64 h.lv, .int .i64 h.dO, .int .i64 h.ld, .int .i64 h.qu]) := F0.out.below hb F0.out.lt; have F1 : Hid (Blk w1 b1 [.int .i64 c.pos, .int .i64 c.vel, .int .i64 c.door]) := F1.out.below hb F1.out.lt; have F3 : Hid (Blk w1 b3 [.int .i64 0, .int .i64 0, .int .i64 0, .int .i64 0, .int .i64 0, .int .i64 0, .int .i64 0]) := F3.out.below hb F3.out.lt; have FB : Hid (Below w.heap.size w w1) := FB.out.trans (hb.mono FB.out.size); clear hb))
  by_cases hz : ka = 0
  case neg =>
    have hn : (ka != 0) = true := by simpa using hz
    have ER : Hid (Bks.bad ka = R) := by show _ = R; rw [← HR.out]; unfold Hs.bkV; rw [HA.out, if_neg hz]
    go_wp2_with (refine store_blk [.int .i64 ka, .int .i64 0, .int .i64 0, .int .i64 0, .int .i64 0, .int .i64 0, .int .i64 0] 40 _ _ (by kernel_rfl) (by kernel_rfl) (by kernel_rfl) F3.out rfl rfl rfl rfl ?_)
    exact bodyPost_ret (v := .agg #[.int .i64 ka, .int .i64 0, .int .i64 0, .int .i64 0, .int .i64 0, .int .i64 0, .int .i64 0]) ((F3.out.row [.int .i64 ka, .int .i64 0, .int .i64 0, .int .i64 0, .int .i64 0, .int .i64 0, .int .i64 0]).res _ Try.results26 Try.underlying40 (by kernel_rfl) rfl) rfl ⟨ret_bk (R := Bks.bad ka) ER.out, below_row FB.out leb3 _⟩
  case pos =>
  subst hz
  cases hf : inB f (-1) h.fl with
  | false =>
    have ER : Hid (Bks.bad 3 = R) := by show _ = R; rw [← HR.out]; unfold Hs.bkV; rw [HA.out, if_pos rfl, if_neg (by rw [hf]; simp)]
    go_wp2_with (first | (refine load_blk 27 _ Try.underlying27 (by kernel_rfl) F0.out rfl rfl rfl ?_) | (go_at_call 54; refine (hasPlace_any h f _).mono ?_; rw [hf]; rintro e w2 ⟨rfl, hb⟩; have F0 : Hid (Blk w2 b0 [.int .i64 h.fl, .int .i64 h.gp, .int .i64 h.ln, .int .i64 h.rf, .int .i64 h.sp, .int .i64 h.pu, .int .i64 h.br, .int .i64 h.dr, .int .i64 h.lv, .int .i64 h.dO, .int .i64 h.ld, .int .i64 h.qu]) := F0.out.below hb F0.out.lt; have F1 : Hid (Blk w2 b1 [.int .i64 c.pos, .int .i64 c.vel, .int .i64 c.door]) := F1.out.below hb F1.out.lt; have F3 : Hid (Blk w2 b3 [.int .i64 0, .int .i64 0, .int .i64 0, .int .i64 0, .int .i64 0, .int .i64 0, .int .i64 0]) := F3.out.below hb F3.out.lt; have FB : Hid (Below w.heap.size w w2) := FB.out.trans (hb.mono FB.out.size); clear hb) | (refine store_blk [.int .i64 3, .int .i64 0, .int .i64 0, .int .i64 0, .int .i64 0, .int .i64 0, .int .i64 0] 40 _ _ (by kernel_rfl) (by kernel_rfl) (by kernel_rfl) F3.out rfl rfl rfl rfl ?_))
    exact bodyPost_ret (v := .agg #[.int .i64 3, .int .i64 0, .int .i64 0, .int .i64 0, .int .i64 0, .int .i64 0, .int .i64 0]) ((F3.out.row [.int .i64 3, .int .i64 0, .int .i64 0, .int .i64 0, .int .i64 0, .int .i64 0, .int .i64 0]).res _ Try.results26 Try.underlying40 (by kernel_rfl) rfl) rfl ⟨ret_bk (R := Bks.bad 3) ER.out, below_row FB.out leb3 _⟩
  | true =>
    cases ht : inB t 0 3000 with
    | false =>
      have ER : Hid (Bks.bad 3 = R) := by show _ = R; rw [← HR.out]; unfold Hs.bkV; rw [HA.out, if_pos rfl, if_neg (by rw [ht]; simp)]
      go_wp2_with (first | (refine load_blk 27 _ Try.underlying27 (by kernel_rfl) F0.out rfl rfl rfl ?_) | (go_at_call 54; refine (hasPlace_any h f _).mono ?_; rw [hf]; rintro e w2 ⟨rfl, hb⟩; have F0 : Hid (Blk w2 b0 [.int .i64 h.fl, .int .i64 h.gp, .int .i64 h.ln, .int .i64 h.rf, .int .i64 h.sp, .int .i64 h.pu, .int .i64 h.br, .int .i64 h.dr, .int .i64 h.lv, .int .i64 h.dO, .int .i64 h.ld, .int .i64 h.qu]) := F0.out.below hb F0.out.lt; have F1 : Hid (Blk w2 b1 [.int .i64 c.pos, .int .i64 c.vel, .int .i64 c.door]) := F1.out.below hb F1.out.lt; have F3 : Hid (Blk w2 b3 [.int .i64 0, .int .i64 0, .int .i64 0, .int .i64 0, .int .i64 0, .int .i64 0, .int .i64 0]) := F3.out.below hb F3.out.lt; have FB : Hid (Below w.heap.size w w2) := FB.out.trans (hb.mono FB.out.size); clear hb) | (go_at_call 47; refine (isWithin_any _ _ _ _).mono ?_; rw [ht]; rintro e w' ⟨rfl, hw⟩; obtain rfl := hw.symm; clear hw) | (refine store_blk [.int .i64 3, .int .i64 0, .int .i64 0, .int .i64 0, .int .i64 0, .int .i64 0, .int .i64 0] 40 _ _ (by kernel_rfl) (by kernel_rfl) (by kernel_rfl) F3.out rfl rfl rfl rfl ?_))
      exact bodyPost_ret (v := .agg #[.int .i64 3, .int .i64 0, .int .i64 0, .int .i64 0, .int .i64 0, .int .i64 0, .int .i64 0]) ((F3.out.row [.int .i64 3, .int .i64 0, .int .i64 0, .int .i64 0, .int .i64 0, .int .i64 0, .int .i64 0]).res _ Try.results26 Try.underlying40 (by kernel_rfl) rfl) rfl ⟨ret_bk (R := Bks.bad 3) ER.out, below_row FB.out leb3 _⟩
    | true =>
      have c12 := F1.out.c 2 _ rfl
      by_cases dz : c.door = 0
      case neg =>
        have hn : (c.door != 0) = true := by simpa using dz
        go_upto_region 6 with (first | (refine load_blk 27 _ Try.underlying27 (by kernel_rfl) F0.out rfl rfl rfl ?_) | (go_at_call 54; refine (hasPlace_any h f _).mono ?_; rw [hf]; rintro e w2 ⟨rfl, hb⟩; have F0 : Hid (Blk w2 b0 [.int .i64 h.fl, .int .i64 h.gp, .int .i64 h.ln, .int .i64 h.rf, .int .i64 h.sp, .int .i64 h.pu, .int .i64 h.br, .int .i64 h.dr, .int .i64 h.lv, .int .i64 h.dO, .int .i64 h.ld, .int .i64 h.qu]) := F0.out.below hb F0.out.lt; have F1 : Hid (Blk w2 b1 [.int .i64 c.pos, .int .i64 c.vel, .int .i64 c.door]) := F1.out.below hb F1.out.lt; have F3 : Hid (Blk w2 b3 [.int .i64 0, .int .i64 0, .int .i64 0, .int .i64 0, .int .i64 0, .int .i64 0, .int .i64 0]) := F3.out.below hb F3.out.lt; have FB : Hid (Below w.heap.size w w2) := FB.out.trans (hb.mono FB.out.size); clear hb) | (go_at_call 47; refine (isWithin_any _ _ _ _).mono ?_; rw [ht]; rintro e w' ⟨rfl, hw⟩; obtain rfl := hw.symm; clear hw))
        have c12 := F1.out.c 2 _ rfl
        have ER : Hid (Bks.bad 1 = R) := by show _ = R; rw [← HR.out]; unfold Hs.bkV; rw [HA.out, if_pos rfl, if_pos ⟨hf, ht⟩, if_neg dz]
        go_wp2_with (refine store_blk [.int .i64 1, .int .i64 0, .int .i64 0, .int .i64 0, .int .i64 0, .int .i64 0, .int .i64 0] 40 _ _ (by kernel_rfl) (by kernel_rfl) (by kernel_rfl) F3.out rfl rfl rfl rfl ?_)
        exact bodyPost_ret (v := .agg #[.int .i64 1, .int .i64 0, .int .i64 0, .int .i64 0, .int .i64 0, .int .i64 0, .int .i64 0]) ((F3.out.row [.int .i64 1, .int .i64 0, .int .i64 0, .int .i64 0, .int .i64 0, .int .i64 0, .int .i64 0]).res _ Try.results26 Try.underlying40 (by kernel_rfl) rfl) rfl ⟨ret_bk (R := Bks.bad 1) ER.out, below_row FB.out leb3 _⟩
      case pos =>
      have dn : (c.door != 0) = false := by simpa using dz
      have ER : Hid (Hs.bkR h f r t.toNat c Bk.no = R) := by show _ = R; rw [← HR.out]; unfold Hs.bkV; rw [HA.out, if_pos rfl, if_pos ⟨hf, ht⟩, if_pos dz]
      have az := Hs.ask_zero HA.out
      have k := Hs.car_zero az.1
      have fb := inB_iff.1 hf
      have tb := inB_iff.1 ht
      have HO : Hid h.Ok := k.ok
      have r1 := az.2.1
      have r3 : r ≤ 20 := by have := k.ok.ld2; omega
      have CT : ∀ pb W, Blk W pb [.int .i64 h.fl, .int .i64 h.gp, .int .i64 h.ln, .int .i64 h.rf, .int .i64 h.sp, .int .i64 h.pu, .int .i64 h.br, .int .i64 h.dr, .int .i64 h.lv, .int .i64 h.dO, .int .i64 h.ld, .int .i64 h.qu, .int .i64 (massN r), .int .i64 0, .int .i64 0, .int .i64 0, .int .i64 0, .int .i64 c.pos, .int .i64 c.vel, .int .i64 c.door] → Calls Try.prog 55 #[.pointer (some ⟨pb, 0, none⟩), .int .i64 f, .int .i64 t] W fun e w' => e = .returned (.tuple #[]) ∧ ∃ (g : Cs) (q : Bk), ((inB g.pos h.low h.high = true ∧ R = ⟨0, q, g⟩) ∨ (inB g.pos h.low h.high = false ∧ R = Bks.bad 3)) ∧ Blk w' pb [.int .i64 h.fl, .int .i64 h.gp, .int .i64 h.ln, .int .i64 h.rf, .int .i64 h.sp, .int .i64 h.pu, .int .i64 h.br, .int .i64 h.dr, .int .i64 h.lv, .int .i64 h.dO, .int .i64 h.ld, .int .i64 h.qu, .int .i64 (massN r), .int .i64 0, .int .i64 q.i, .int .i64 q.o, .int .i64 q.l, .int .i64 g.pos, .int .i64 g.vel, .int .i64 g.door] ∧ Below pb W w' := fun pb W hW => bkRun_any h c f r t k dz fb.1 fb.2 az.2.1 az.2.2 tb.1 tb.2 R ER.out pb W hW
      clear az k fb tb dz HR HA ER
      go_upto_region 6 with (first | (refine load_blk 27 _ Try.underlying27 (by kernel_rfl) F0.out rfl rfl rfl ?_) | (go_at_call 54; refine (hasPlace_any h f _).mono ?_; rw [hf]; rintro e w2 ⟨rfl, hb⟩; have F0 : Hid (Blk w2 b0 [.int .i64 h.fl, .int .i64 h.gp, .int .i64 h.ln, .int .i64 h.rf, .int .i64 h.sp, .int .i64 h.pu, .int .i64 h.br, .int .i64 h.dr, .int .i64 h.lv, .int .i64 h.dO, .int .i64 h.ld, .int .i64 h.qu]) := F0.out.below hb F0.out.lt; have F1 : Hid (Blk w2 b1 [.int .i64 c.pos, .int .i64 c.vel, .int .i64 c.door]) := F1.out.below hb F1.out.lt; have F3 : Hid (Blk w2 b3 [.int .i64 0, .int .i64 0, .int .i64 0, .int .i64 0, .int .i64 0, .int .i64 0, .int .i64 0]) := F3.out.below hb F3.out.lt; have FB : Hid (Below w.heap.size w w2) := FB.out.trans (hb.mono FB.out.size); clear hb) | (go_at_call 47; refine (isWithin_any _ _ _ _).mono ?_; rw [ht]; rintro e w' ⟨rfl, hw⟩; obtain rfl := hw.symm; clear hw))
      have c12 := F1.out.c 2 _ rfl
      go_upto_region 9 with (first | (refine load_blk 27 _ Try.underlying27 (by kernel_rfl) F0.out rfl rfl rfl ?_) | (refine load_blk 34 _ Try.underlying34 (by kernel_rfl) F1.out rfl rfl rfl ?_) | (go_at_call 48; refine (newBook_any h c r r1 r3 _).mono ?_; rintro e w3 ⟨rfl, hb⟩; have F0 : Hid (Blk w3 b0 [.int .i64 h.fl, .int .i64 h.gp, .int .i64 h.ln, .int .i64 h.rf, .int .i64 h.sp, .int .i64 h.pu, .int .i64 h.br, .int .i64 h.dr, .int .i64 h.lv, .int .i64 h.dO, .int .i64 h.ld, .int .i64 h.qu]) := F0.out.below hb F0.out.lt; have F1 : Hid (Blk w3 b1 [.int .i64 c.pos, .int .i64 c.vel, .int .i64 c.door]) := F1.out.below hb F1.out.lt; have F3 : Hid (Blk w3 b3 [.int .i64 0, .int .i64 0, .int .i64 0, .int .i64 0, .int .i64 0, .int .i64 0, .int .i64 0]) := F3.out.below hb F3.out.lt; have FB : Hid (Below w.heap.size w w3) := FB.out.trans (hb.mono FB.out.size); clear hb) | (refine store_new [.int .i64 h.fl, .int .i64 h.gp, .int .i64 h.ln, .int .i64 h.rf, .int .i64 h.sp, .int .i64 h.pu, .int .i64 h.br, .int .i64 h.dr, .int .i64 h.lv, .int .i64 h.dO, .int .i64 h.ld, .int .i64 h.qu, .int .i64 (massN r), .int .i64 0, .int .i64 0, .int .i64 0, .int .i64 0, .int .i64 c.pos, .int .i64 c.vel, .int .i64 c.door] 62 _ _ (by kernel_rfl) (by kernel_rfl) (by kernel_rfl) rfl rfl rfl rfl ?_))
      have FB0 := FB
      obtain ⟨pb, hbb⟩ : ∃ pb, pb = w3.heap.size := ⟨_, rfl⟩
      obtain ⟨w4, hw2⟩ : ∃ w4, w4 = w3.alloc (.cells #[.int .i64 h.fl, .int .i64 h.gp, .int .i64 h.ln, .int .i64 h.rf, .int .i64 h.sp, .int .i64 h.pu, .int .i64 h.br, .int .i64 h.dr, .int .i64 h.lv, .int .i64 h.dO, .int .i64 h.ld, .int .i64 h.qu, .int .i64 (massN r), .int .i64 0, .int .i64 0, .int .i64 0, .int .i64 0, .int .i64 c.pos, .int .i64 c.vel, .int .i64 c.door] 62) := ⟨_, rfl⟩
      have npbb0 : b0 < pb := by rw [hbb]; exact F0.out.lt
      have npbb1 : b1 < pb := by rw [hbb]; exact F1.out.lt
      have npbb3 : b3 < pb := by rw [hbb]; exact F3.out.lt
      have F0 : Hid (Blk w4 b0 [.int .i64 h.fl, .int .i64 h.gp, .int .i64 h.ln, .int .i64 h.rf, .int .i64 h.sp, .int .i64 h.pu, .int .i64 h.br, .int .i64 h.dr, .int .i64 h.lv, .int .i64 h.dO, .int .i64 h.ld, .int .i64 h.qu]) := by rw [hw2]; exact F0.out.alloc _
      have F1 : Hid (Blk w4 b1 [.int .i64 c.pos, .int .i64 c.vel, .int .i64 c.door]) := by rw [hw2]; exact F1.out.alloc _
      have F3 : Hid (Blk w4 b3 [.int .i64 0, .int .i64 0, .int .i64 0, .int .i64 0, .int .i64 0, .int .i64 0, .int .i64 0]) := by rw [hw2]; exact F3.out.alloc _
      have FP : Hid (Blk w4 pb [.int .i64 h.fl, .int .i64 h.gp, .int .i64 h.ln, .int .i64 h.rf, .int .i64 h.sp, .int .i64 h.pu, .int .i64 h.br, .int .i64 h.dr, .int .i64 h.lv, .int .i64 h.dO, .int .i64 h.ld, .int .i64 h.qu, .int .i64 (massN r), .int .i64 0, .int .i64 0, .int .i64 0, .int .i64 0, .int .i64 c.pos, .int .i64 c.vel, .int .i64 c.door]) := by rw [hw2]; exact Blk.at_ w3 #[.int .i64 h.fl, .int .i64 h.gp, .int .i64 h.ln, .int .i64 h.rf, .int .i64 h.sp, .int .i64 h.pu, .int .i64 h.br, .int .i64 h.dr, .int .i64 h.lv, .int .i64 h.dO, .int .i64 h.ld, .int .i64 h.qu, .int .i64 (massN r), .int .i64 0, .int .i64 0, .int .i64 0, .int .i64 0, .int .i64 c.pos, .int .i64 c.vel, .int .i64 c.door] _ _ hbb
      have FB : Hid (Below w.heap.size w w4) := by rw [hw2]; exact FB.out.alloc FB.out.size _
      have lepb : w.heap.size ≤ pb := by rw [hbb]; exact FB0.out.size
      rw [← hw2, ← hbb]
      clear hbb hw2 FB0
      go_upto_region 10 with (go_at_call 55; refine (CT pb _ FP.out).mono ?_; rintro e w5 ⟨rfl, g, q, hE, hP, hb⟩; have F0 : Hid (Blk w5 b0 [.int .i64 h.fl, .int .i64 h.gp, .int .i64 h.ln, .int .i64 h.rf, .int .i64 h.sp, .int .i64 h.pu, .int .i64 h.br, .int .i64 h.dr, .int .i64 h.lv, .int .i64 h.dO, .int .i64 h.ld, .int .i64 h.qu]) := F0.out.below hb (by omega); have F1 : Hid (Blk w5 b1 [.int .i64 c.pos, .int .i64 c.vel, .int .i64 c.door]) := F1.out.below hb (by omega); have F3 : Hid (Blk w5 b3 [.int .i64 0, .int .i64 0, .int .i64 0, .int .i64 0, .int .i64 0, .int .i64 0, .int .i64 0]) := F3.out.below hb (by omega); have FP : Hid (Blk w5 pb [.int .i64 h.fl, .int .i64 h.gp, .int .i64 h.ln, .int .i64 h.rf, .int .i64 h.sp, .int .i64 h.pu, .int .i64 h.br, .int .i64 h.dr, .int .i64 h.lv, .int .i64 h.dO, .int .i64 h.ld, .int .i64 h.qu, .int .i64 (massN r), .int .i64 0, .int .i64 q.i, .int .i64 q.o, .int .i64 q.l, .int .i64 g.pos, .int .i64 g.vel, .int .i64 g.door]) := hP; have FB : Hid (Below w.heap.size w w5) := FB.out.trans (hb.mono lepb); have HE : Hid ((inB g.pos h.low h.high = true ∧ R = ⟨0, q, g⟩) ∨ (inB g.pos h.low h.high = false ∧ R = Bks.bad 3)) := hE; clear hb hP hE)
      rcases HE.out with ⟨hi, hq⟩ | ⟨hi, hq⟩
      · have ER3 : Hid ((⟨0, q, g⟩ : Bks) = R) := hq.symm
        clear hq HE CT
        go_wp2_with (first | (go_at_call 50; refine (told_in h HO.out g r q hi pb _ FP.out).mono ?_; rintro e w6 ⟨rfl, hb⟩; have F0 : Hid (Blk w6 b0 [.int .i64 h.fl, .int .i64 h.gp, .int .i64 h.ln, .int .i64 h.rf, .int .i64 h.sp, .int .i64 h.pu, .int .i64 h.br, .int .i64 h.dr, .int .i64 h.lv, .int .i64 h.dO, .int .i64 h.ld, .int .i64 h.qu]) := F0.out.below hb F0.out.lt; have F1 : Hid (Blk w6 b1 [.int .i64 c.pos, .int .i64 c.vel, .int .i64 c.door]) := F1.out.below hb F1.out.lt; have F3 : Hid (Blk w6 b3 [.int .i64 0, .int .i64 0, .int .i64 0, .int .i64 0, .int .i64 0, .int .i64 0, .int .i64 0]) := F3.out.below hb F3.out.lt; have FP : Hid (Blk w6 pb [.int .i64 h.fl, .int .i64 h.gp, .int .i64 h.ln, .int .i64 h.rf, .int .i64 h.sp, .int .i64 h.pu, .int .i64 h.br, .int .i64 h.dr, .int .i64 h.lv, .int .i64 h.dO, .int .i64 h.ld, .int .i64 h.qu, .int .i64 (massN r), .int .i64 0, .int .i64 q.i, .int .i64 q.o, .int .i64 q.l, .int .i64 g.pos, .int .i64 g.vel, .int .i64 g.door]) := FP.out.below hb FP.out.lt; have FB : Hid (Below w.heap.size w w6) := FB.out.trans (hb.mono FB.out.size); clear hb) | (refine store_blk [.int .i64 0, .int .i64 q.i, .int .i64 q.o, .int .i64 q.l, .int .i64 g.pos, .int .i64 g.vel, .int .i64 g.door] 40 _ _ (by kernel_rfl) (by kernel_rfl) (by kernel_rfl) F3.out rfl rfl rfl rfl ?_))
        exact bodyPost_ret (v := .agg #[.int .i64 0, .int .i64 q.i, .int .i64 q.o, .int .i64 q.l, .int .i64 g.pos, .int .i64 g.vel, .int .i64 g.door]) ((F3.out.row [.int .i64 0, .int .i64 q.i, .int .i64 q.o, .int .i64 q.l, .int .i64 g.pos, .int .i64 g.vel, .int .i64 g.door]).res _ Try.results26 Try.underlying40 (by kernel_rfl) rfl) rfl ⟨ret_bk (R := ⟨0, q, g⟩) ER3.out, below_row FB.out leb3 _⟩
      · have ER3 : Hid (Bks.bad 3 = R) := hq.symm
        clear hq HE CT
        go_wp2_with (first | (go_at_call 50; refine (told_out h HO.out g r q hi pb _ FP.out).mono ?_; rintro e w6 ⟨rfl, hb⟩; have F0 : Hid (Blk w6 b0 [.int .i64 h.fl, .int .i64 h.gp, .int .i64 h.ln, .int .i64 h.rf, .int .i64 h.sp, .int .i64 h.pu, .int .i64 h.br, .int .i64 h.dr, .int .i64 h.lv, .int .i64 h.dO, .int .i64 h.ld, .int .i64 h.qu]) := F0.out.below hb F0.out.lt; have F1 : Hid (Blk w6 b1 [.int .i64 c.pos, .int .i64 c.vel, .int .i64 c.door]) := F1.out.below hb F1.out.lt; have F3 : Hid (Blk w6 b3 [.int .i64 0, .int .i64 0, .int .i64 0, .int .i64 0, .int .i64 0, .int .i64 0, .int .i64 0]) := F3.out.below hb F3.out.lt; have FP : Hid (Blk w6 pb [.int .i64 h.fl, .int .i64 h.gp, .int .i64 h.ln, .int .i64 h.rf, .int .i64 h.sp, .int .i64 h.pu, .int .i64 h.br, .int .i64 h.dr, .int .i64 h.lv, .int .i64 h.dO, .int .i64 h.ld, .int .i64 h.qu, .int .i64 (massN r), .int .i64 0, .int .i64 q.i, .int .i64 q.o, .int .i64 q.l, .int .i64 g.pos, .int .i64 g.vel, .int .i64 g.door]) := FP.out.below hb FP.out.lt; have FB : Hid (Below w.heap.size w w6) := FB.out.trans (hb.mono FB.out.size); clear hb) | (refine store_blk [.int .i64 3, .int .i64 0, .int .i64 0, .int .i64 0, .int .i64 0, .int .i64 0, .int .i64 0] 40 _ _ (by kernel_rfl) (by kernel_rfl) (by kernel_rfl) F3.out rfl rfl rfl rfl ?_))
        exact bodyPost_ret (v := .agg #[.int .i64 3, .int .i64 0, .int .i64 0, .int .i64 0, .int .i64 0, .int .i64 0, .int .i64 0]) ((F3.out.row [.int .i64 3, .int .i64 0, .int .i64 0, .int .i64 0, .int .i64 0, .int .i64 0, .int .i64 0]).res _ Try.results26 Try.underlying40 (by kernel_rfl) rfl) rfl ⟨ret_bk (R := Bks.bad 3) ER3.out, below_row FB.out leb3 _⟩
end Go.Proofs.Ytngdfckknkgdgaa
