/-
  The law's groups and their results: held, compared, marked.
-/
import Derived.Test.YtdkikijnjkoddaaGreatGrpE
namespace Go.Proofs.YtdkikijnjkoddaaGreat
open Go.RowKit Pl
set_option linter.unusedSimpArgs false
set_option linter.unusedVariables false

set_option maxRecDepth 20000 in
set_option maxHeartbeats 16000000 in
theorem heldGroup_any (B : Nat) (h : Hs) (dv : Value) (nx : Int) (pv : Value) (tk : Int) (rc : Bool) (n m : Nat) (k : Int) (k1 : 0 ≤ k) (k2 : k ≤ 100) (hld : n ≤ 1048576) (hlp : m ≤ 1048576) (w : World) (hd : OwnD w B dv (markLD k n)) (hp : Own w B pv (markL (k + 13 * n) m)) :
    Calls Tryz.prog 32 #[.agg #[.int .i64 h.fl, .int .i64 h.gp, .int .i64 h.ln, .int .i64 h.rf, .int .i64 h.sp, .int .i64 h.pu, .int .i64 h.br, .int .i64 h.dr, .int .i64 h.lv, .int .i64 h.dO, .int .i64 h.ld, .int .i64 h.qu, dv, .int .i64 nx, pv, .int .i64 tk, .bool rc], .int .i64 k] w fun e w' => e = .returned (.int .i64 (k + 13 * n + 7 * m)) ∧ Below w.heap.size w w' := by
  have F0 : Hid (Blk (w.alloc (.cells #[.int .i64 h.fl, .int .i64 h.gp, .int .i64 h.ln, .int .i64 h.rf, .int .i64 h.sp, .int .i64 h.pu, .int .i64 h.br, .int .i64 h.dr, .int .i64 h.lv, .int .i64 h.dO, .int .i64 h.ld, .int .i64 h.qu, dv, .int .i64 nx, pv, .int .i64 tk, .bool rc] 37)) w.heap.size (gvs h dv nx pv tk rc)) := Blk.at_ w #[.int .i64 h.fl, .int .i64 h.gp, .int .i64 h.ln, .int .i64 h.rf, .int .i64 h.sp, .int .i64 h.pu, .int .i64 h.br, .int .i64 h.dr, .int .i64 h.lv, .int .i64 h.dO, .int .i64 h.ld, .int .i64 h.qu, dv, .int .i64 nx, pv, .int .i64 tk, .bool rc] _ _ rfl
  have HD : Hid (OwnD (w.alloc (.cells #[.int .i64 h.fl, .int .i64 h.gp, .int .i64 h.ln, .int .i64 h.rf, .int .i64 h.sp, .int .i64 h.pu, .int .i64 h.br, .int .i64 h.dr, .int .i64 h.lv, .int .i64 h.dO, .int .i64 h.ld, .int .i64 h.qu, dv, .int .i64 nx, pv, .int .i64 tk, .bool rc] 37)) B dv (markLD k n)) := hd.alloc _
  have HP : Hid (Own (w.alloc (.cells #[.int .i64 h.fl, .int .i64 h.gp, .int .i64 h.ln, .int .i64 h.rf, .int .i64 h.sp, .int .i64 h.pu, .int .i64 h.br, .int .i64 h.dr, .int .i64 h.lv, .int .i64 h.dO, .int .i64 h.ld, .int .i64 h.qu, dv, .int .i64 nx, pv, .int .i64 tk, .bool rc] 37)) B pv (markL (k + 13 * n) m)) := hp.alloc _
  have FB : Hid (Below w.heap.size w (w.alloc (.cells #[.int .i64 h.fl, .int .i64 h.gp, .int .i64 h.ln, .int .i64 h.rf, .int .i64 h.sp, .int .i64 h.pu, .int .i64 h.br, .int .i64 h.dr, .int .i64 h.lv, .int .i64 h.dO, .int .i64 h.ld, .int .i64 h.qu, dv, .int .i64 nx, pv, .int .i64 tk, .bool rc] 37))) := (Below.refl _ _).alloc (Nat.le_refl _) _
  have q1 : ¬ (k + 13 * (n : Int) < 0) := by omega
  have q2 : ¬ (k + 13 * (n : Int) + 7 * (m : Int) < 0) := by omega
  obtain ⟨W0, hW0⟩ : ∃ W0, W0 = (w.alloc (.cells #[.int .i64 h.fl, .int .i64 h.gp, .int .i64 h.ln, .int .i64 h.rf, .int .i64 h.sp, .int .i64 h.pu, .int .i64 h.br, .int .i64 h.dr, .int .i64 h.lv, .int .i64 h.dO, .int .i64 h.ld, .int .i64 h.qu, dv, .int .i64 nx, pv, .int .i64 tk, .bool rc] 37)) := ⟨_, rfl⟩
  rw [← hW0] at F0 HD HP FB
  have HW0 : Hid (W0 = (w.alloc (.cells #[.int .i64 h.fl, .int .i64 h.gp, .int .i64 h.ln, .int .i64 h.rf, .int .i64 h.sp, .int .i64 h.pu, .int .i64 h.br, .int .i64 h.dr, .int .i64 h.lv, .int .i64 h.dO, .int .i64 h.ld, .int .i64 h.qu, dv, .int .i64 nx, pv, .int .i64 tk, .bool rc] 37))) := hW0
  clear hW0 hd hp
  go_enter Tryz.func32, Tryz.ntmps32
  go_upto_region 1 with fail
  rw [← HW0.out]
  have x12 := F0.out.c 12 _ rfl
  have x13 := F0.out.c 13 _ rfl
  have x14 := F0.out.c 14 _ rfl
  go_wp2_with (first | (go_at_call 67; refine (heldDeckS_any B dv n k k1 (by omega) hld _ HD.out).mono ?_; rintro e w' ⟨rfl, hw⟩; obtain rfl := hw.symm; clear hw) | (go_at_call 68; refine (heldLedger_anyW B nx pv m (k + 13 * n) (by omega) (by omega) hlp _ HP.out).mono ?_; rintro e w2 ⟨rfl, hb⟩; have FB : Hid (Below w.heap.size w w2) := FB.out.trans (hb.mono FB.out.size); clear hb))
  go_ret
  exact ⟨rfl, FB.out⟩
set_option maxRecDepth 20000 in
set_option maxHeartbeats 32000000 in
theorem eqGroupResult_same (kc id : Int) (h : Hs) (ds : List Dk) (da da' : Option Addr) (dc dc' : Nat) (nx : Int) (ps : List Pe) (pa pa' : Option Addr) (pc pc' : Nat) (tk : Int) (rc : Bool) (hld : ds.length ≤ 1048576) (hlp : ps.length ≤ 1048576) (w : World)
    (hD : DIn w w.heap.size da ds) (hD' : DIn w w.heap.size da' ds) (hP : PIn w w.heap.size pa ps) (hP' : PIn w w.heap.size pa' ps) :
    Calls Tryz.prog 8 #[.agg #[.int .i64 kc, .int .i64 id, .int .i64 h.fl, .int .i64 h.gp, .int .i64 h.ln, .int .i64 h.rf, .int .i64 h.sp, .int .i64 h.pu, .int .i64 h.br, .int .i64 h.dr, .int .i64 h.lv, .int .i64 h.dO, .int .i64 h.ld, .int .i64 h.qu, .slice da ds.length dc, .int .i64 nx, .slice pa ps.length pc, .int .i64 tk, .bool rc], .agg #[.int .i64 kc, .int .i64 id, .int .i64 h.fl, .int .i64 h.gp, .int .i64 h.ln, .int .i64 h.rf, .int .i64 h.sp, .int .i64 h.pu, .int .i64 h.br, .int .i64 h.dr, .int .i64 h.lv, .int .i64 h.dO, .int .i64 h.ld, .int .i64 h.qu, .slice da' ds.length dc', .int .i64 nx, .slice pa' ps.length pc', .int .i64 tk, .bool rc]] w fun e w' => e = .returned (.bool true) ∧ Below w.heap.size w w' := by
  have HD : Hid (DIn w w.heap.size da ds) := hD
  have HE : Hid (DIn w w.heap.size da' ds) := hD'
  have HP : Hid (PIn w w.heap.size pa ps) := hP
  have HQ : Hid (PIn w w.heap.size pa' ps) := hP'
  clear hD hD' hP hP'
  have F0 : Hid (Blk ((w.alloc (.cells #[.int .i64 kc, .int .i64 id, .int .i64 h.fl, .int .i64 h.gp, .int .i64 h.ln, .int .i64 h.rf, .int .i64 h.sp, .int .i64 h.pu, .int .i64 h.br, .int .i64 h.dr, .int .i64 h.lv, .int .i64 h.dO, .int .i64 h.ld, .int .i64 h.qu, .slice da ds.length dc, .int .i64 nx, .slice pa ps.length pc, .int .i64 tk, .bool rc] 39)).alloc (.cells #[.int .i64 kc, .int .i64 id, .int .i64 h.fl, .int .i64 h.gp, .int .i64 h.ln, .int .i64 h.rf, .int .i64 h.sp, .int .i64 h.pu, .int .i64 h.br, .int .i64 h.dr, .int .i64 h.lv, .int .i64 h.dO, .int .i64 h.ld, .int .i64 h.qu, .slice da' ds.length dc', .int .i64 nx, .slice pa' ps.length pc', .int .i64 tk, .bool rc] 39)) w.heap.size [.int .i64 kc, .int .i64 id, .int .i64 h.fl, .int .i64 h.gp, .int .i64 h.ln, .int .i64 h.rf, .int .i64 h.sp, .int .i64 h.pu, .int .i64 h.br, .int .i64 h.dr, .int .i64 h.lv, .int .i64 h.dO, .int .i64 h.ld, .int .i64 h.qu, .slice da ds.length dc, .int .i64 nx, .slice pa ps.length pc, .int .i64 tk, .bool rc]) := (Blk.at_ w #[.int .i64 kc, .int .i64 id, .int .i64 h.fl, .int .i64 h.gp, .int .i64 h.ln, .int .i64 h.rf, .int .i64 h.sp, .int .i64 h.pu, .int .i64 h.br, .int .i64 h.dr, .int .i64 h.lv, .int .i64 h.dO, .int .i64 h.ld, .int .i64 h.qu, .slice da ds.length dc, .int .i64 nx, .slice pa ps.length pc, .int .i64 tk, .bool rc] _ _ rfl).alloc _
  have F1 : Hid (Blk ((w.alloc (.cells #[.int .i64 kc, .int .i64 id, .int .i64 h.fl, .int .i64 h.gp, .int .i64 h.ln, .int .i64 h.rf, .int .i64 h.sp, .int .i64 h.pu, .int .i64 h.br, .int .i64 h.dr, .int .i64 h.lv, .int .i64 h.dO, .int .i64 h.ld, .int .i64 h.qu, .slice da ds.length dc, .int .i64 nx, .slice pa ps.length pc, .int .i64 tk, .bool rc] 39)).alloc (.cells #[.int .i64 kc, .int .i64 id, .int .i64 h.fl, .int .i64 h.gp, .int .i64 h.ln, .int .i64 h.rf, .int .i64 h.sp, .int .i64 h.pu, .int .i64 h.br, .int .i64 h.dr, .int .i64 h.lv, .int .i64 h.dO, .int .i64 h.ld, .int .i64 h.qu, .slice da' ds.length dc', .int .i64 nx, .slice pa' ps.length pc', .int .i64 tk, .bool rc] 39)) (w.heap.size + 1) [.int .i64 kc, .int .i64 id, .int .i64 h.fl, .int .i64 h.gp, .int .i64 h.ln, .int .i64 h.rf, .int .i64 h.sp, .int .i64 h.pu, .int .i64 h.br, .int .i64 h.dr, .int .i64 h.lv, .int .i64 h.dO, .int .i64 h.ld, .int .i64 h.qu, .slice da' ds.length dc', .int .i64 nx, .slice pa' ps.length pc', .int .i64 tk, .bool rc]) := Blk.at_ _ #[.int .i64 kc, .int .i64 id, .int .i64 h.fl, .int .i64 h.gp, .int .i64 h.ln, .int .i64 h.rf, .int .i64 h.sp, .int .i64 h.pu, .int .i64 h.br, .int .i64 h.dr, .int .i64 h.lv, .int .i64 h.dO, .int .i64 h.ld, .int .i64 h.qu, .slice da' ds.length dc', .int .i64 nx, .slice pa' ps.length pc', .int .i64 tk, .bool rc] _ _ (by simp)
  have FB : Hid (Below w.heap.size w ((w.alloc (.cells #[.int .i64 kc, .int .i64 id, .int .i64 h.fl, .int .i64 h.gp, .int .i64 h.ln, .int .i64 h.rf, .int .i64 h.sp, .int .i64 h.pu, .int .i64 h.br, .int .i64 h.dr, .int .i64 h.lv, .int .i64 h.dO, .int .i64 h.ld, .int .i64 h.qu, .slice da ds.length dc, .int .i64 nx, .slice pa ps.length pc, .int .i64 tk, .bool rc] 39)).alloc (.cells #[.int .i64 kc, .int .i64 id, .int .i64 h.fl, .int .i64 h.gp, .int .i64 h.ln, .int .i64 h.rf, .int .i64 h.sp, .int .i64 h.pu, .int .i64 h.br, .int .i64 h.dr, .int .i64 h.lv, .int .i64 h.dO, .int .i64 h.ld, .int .i64 h.qu, .slice da' ds.length dc', .int .i64 nx, .slice pa' ps.length pc', .int .i64 tk, .bool rc] 39))) := ((Below.refl _ _).alloc (Nat.le_refl _) _).alloc (by simp) _
  obtain ⟨W0, hW0⟩ : ∃ W0, W0 = ((w.alloc (.cells #[.int .i64 kc, .int .i64 id, .int .i64 h.fl, .int .i64 h.gp, .int .i64 h.ln, .int .i64 h.rf, .int .i64 h.sp, .int .i64 h.pu, .int .i64 h.br, .int .i64 h.dr, .int .i64 h.lv, .int .i64 h.dO, .int .i64 h.ld, .int .i64 h.qu, .slice da ds.length dc, .int .i64 nx, .slice pa ps.length pc, .int .i64 tk, .bool rc] 39)).alloc (.cells #[.int .i64 kc, .int .i64 id, .int .i64 h.fl, .int .i64 h.gp, .int .i64 h.ln, .int .i64 h.rf, .int .i64 h.sp, .int .i64 h.pu, .int .i64 h.br, .int .i64 h.dr, .int .i64 h.lv, .int .i64 h.dO, .int .i64 h.ld, .int .i64 h.qu, .slice da' ds.length dc', .int .i64 nx, .slice pa' ps.length pc', .int .i64 tk, .bool rc] 39)) := ⟨_, rfl⟩
  rw [← hW0] at F0 F1 FB
  have HW0 : Hid (W0 = ((w.alloc (.cells #[.int .i64 kc, .int .i64 id, .int .i64 h.fl, .int .i64 h.gp, .int .i64 h.ln, .int .i64 h.rf, .int .i64 h.sp, .int .i64 h.pu, .int .i64 h.br, .int .i64 h.dr, .int .i64 h.lv, .int .i64 h.dO, .int .i64 h.ld, .int .i64 h.qu, .slice da ds.length dc, .int .i64 nx, .slice pa ps.length pc, .int .i64 tk, .bool rc] 39)).alloc (.cells #[.int .i64 kc, .int .i64 id, .int .i64 h.fl, .int .i64 h.gp, .int .i64 h.ln, .int .i64 h.rf, .int .i64 h.sp, .int .i64 h.pu, .int .i64 h.br, .int .i64 h.dr, .int .i64 h.lv, .int .i64 h.dO, .int .i64 h.ld, .int .i64 h.qu, .slice da' ds.length dc', .int .i64 nx, .slice pa' ps.length pc', .int .i64 tk, .bool rc] 39))) := hW0
  clear hW0
  go_enter Tryz.func8, Tryz.ntmps8
  go_upto_region 1 with fail
  rw [← HW0.out]
  have x0 := F0.out.c 0 _ rfl
  have x1 := F0.out.c 1 _ rfl
  have x2 := F0.out.c 2 _ rfl
  have x3 := F0.out.c 3 _ rfl
  have x4 := F0.out.c 4 _ rfl
  have x5 := F0.out.c 5 _ rfl
  have x6 := F0.out.c 6 _ rfl
  have x7 := F0.out.c 7 _ rfl
  have x8 := F0.out.c 8 _ rfl
  have x9 := F0.out.c 9 _ rfl
  have x10 := F0.out.c 10 _ rfl
  have x11 := F0.out.c 11 _ rfl
  have x12 := F0.out.c 12 _ rfl
  have x13 := F0.out.c 13 _ rfl
  have x14 := F0.out.c 14 _ rfl
  have x15 := F0.out.c 15 _ rfl
  have x16 := F0.out.c 16 _ rfl
  have x17 := F0.out.c 17 _ rfl
  have x18 := F0.out.c 18 _ rfl
  have y0 := F1.out.c 0 _ rfl
  have y1 := F1.out.c 1 _ rfl
  have y2 := F1.out.c 2 _ rfl
  have y3 := F1.out.c 3 _ rfl
  have y4 := F1.out.c 4 _ rfl
  have y5 := F1.out.c 5 _ rfl
  have y6 := F1.out.c 6 _ rfl
  have y7 := F1.out.c 7 _ rfl
  have y8 := F1.out.c 8 _ rfl
  have y9 := F1.out.c 9 _ rfl
  have y10 := F1.out.c 10 _ rfl
  have y11 := F1.out.c 11 _ rfl
  have y12 := F1.out.c 12 _ rfl
  have y13 := F1.out.c 13 _ rfl
  have y14 := F1.out.c 14 _ rfl
  have y15 := F1.out.c 15 _ rfl
  have y16 := F1.out.c 16 _ rfl
  have y17 := F1.out.c 17 _ rfl
  have y18 := F1.out.c 18 _ rfl
  go_wp2_with (go_at_call 9; refine (eqGroup_same h ds da da' dc dc' nx ps pa pa' pc pc' tk rc hld hlp _ ((HD.out.below FB.out (Nat.le_refl _)).mono FB.out.size) ((HE.out.below FB.out (Nat.le_refl _)).mono FB.out.size) ((HP.out.below FB.out (Nat.le_refl _)).mono FB.out.size) ((HQ.out.below FB.out (Nat.le_refl _)).mono FB.out.size)).mono ?_; rintro e w1 ⟨rfl, hb⟩; have FB : Hid (Below w.heap.size w w1) := FB.out.trans (hb.mono FB.out.size); clear hb)
  go_ret
  exact ⟨rfl, FB.out⟩
set_option maxRecDepth 20000 in
set_option maxHeartbeats 32000000 in
theorem markGroupResult_any (B : Nat) (kc id : Int) (h : Hs) (dv : Value) (nx : Int) (pv : Value) (tk : Int) (rc : Bool) (ds : List Dk) (ps : List Pe) (k : Int) (k1 : 0 ≤ k) (k2 : k ≤ 100) (hld : ds.length ≤ 1048576) (hlp : ps.length ≤ 1048576) (w : World) (hd : OwnD w B dv ds) (hp : Own w B pv ps) (ne : ∀ j, dv.ownBlock = some j → pv.ownBlock ≠ some j) :
    Calls Tryz.prog 11 #[.agg #[.int .i64 kc, .int .i64 id, .int .i64 h.fl, .int .i64 h.gp, .int .i64 h.ln, .int .i64 h.rf, .int .i64 h.sp, .int .i64 h.pu, .int .i64 h.br, .int .i64 h.dr, .int .i64 h.lv, .int .i64 h.dO, .int .i64 h.ld, .int .i64 h.qu, dv, .int .i64 nx, pv, .int .i64 tk, .bool rc], .int .i64 k] w fun e w' => e = .returned (.int .i64 (k + 13 * ds.length + 7 * ps.length)) ∧ OwnD w' B dv (markLD k ds.length) ∧ Own w' B pv (markL (k + 13 * ds.length) ps.length) ∧ Turn2 w w' dv pv := by
  have F0 : Hid (Blk (w.alloc (.cells #[.int .i64 kc, .int .i64 id, .int .i64 h.fl, .int .i64 h.gp, .int .i64 h.ln, .int .i64 h.rf, .int .i64 h.sp, .int .i64 h.pu, .int .i64 h.br, .int .i64 h.dr, .int .i64 h.lv, .int .i64 h.dO, .int .i64 h.ld, .int .i64 h.qu, dv, .int .i64 nx, pv, .int .i64 tk, .bool rc] 39)) w.heap.size [.int .i64 kc, .int .i64 id, .int .i64 h.fl, .int .i64 h.gp, .int .i64 h.ln, .int .i64 h.rf, .int .i64 h.sp, .int .i64 h.pu, .int .i64 h.br, .int .i64 h.dr, .int .i64 h.lv, .int .i64 h.dO, .int .i64 h.ld, .int .i64 h.qu, dv, .int .i64 nx, pv, .int .i64 tk, .bool rc]) := Blk.at_ w #[.int .i64 kc, .int .i64 id, .int .i64 h.fl, .int .i64 h.gp, .int .i64 h.ln, .int .i64 h.rf, .int .i64 h.sp, .int .i64 h.pu, .int .i64 h.br, .int .i64 h.dr, .int .i64 h.lv, .int .i64 h.dO, .int .i64 h.ld, .int .i64 h.qu, dv, .int .i64 nx, pv, .int .i64 tk, .bool rc] _ _ rfl
  have HD : Hid (OwnD (w.alloc (.cells #[.int .i64 kc, .int .i64 id, .int .i64 h.fl, .int .i64 h.gp, .int .i64 h.ln, .int .i64 h.rf, .int .i64 h.sp, .int .i64 h.pu, .int .i64 h.br, .int .i64 h.dr, .int .i64 h.lv, .int .i64 h.dO, .int .i64 h.ld, .int .i64 h.qu, dv, .int .i64 nx, pv, .int .i64 tk, .bool rc] 39)) B dv ds) := hd.alloc _
  have HP : Hid (Own (w.alloc (.cells #[.int .i64 kc, .int .i64 id, .int .i64 h.fl, .int .i64 h.gp, .int .i64 h.ln, .int .i64 h.rf, .int .i64 h.sp, .int .i64 h.pu, .int .i64 h.br, .int .i64 h.dr, .int .i64 h.lv, .int .i64 h.dO, .int .i64 h.ld, .int .i64 h.qu, dv, .int .i64 nx, pv, .int .i64 tk, .bool rc] 39)) B pv ps) := hp.alloc _
  have HT : Hid (Turn2 w (w.alloc (.cells #[.int .i64 kc, .int .i64 id, .int .i64 h.fl, .int .i64 h.gp, .int .i64 h.ln, .int .i64 h.rf, .int .i64 h.sp, .int .i64 h.pu, .int .i64 h.br, .int .i64 h.dr, .int .i64 h.lv, .int .i64 h.dO, .int .i64 h.ld, .int .i64 h.qu, dv, .int .i64 nx, pv, .int .i64 tk, .bool rc] 39)) dv pv) := Turn2.alloc w _ _ _
  obtain ⟨W0, hW0⟩ : ∃ W0, W0 = (w.alloc (.cells #[.int .i64 kc, .int .i64 id, .int .i64 h.fl, .int .i64 h.gp, .int .i64 h.ln, .int .i64 h.rf, .int .i64 h.sp, .int .i64 h.pu, .int .i64 h.br, .int .i64 h.dr, .int .i64 h.lv, .int .i64 h.dO, .int .i64 h.ld, .int .i64 h.qu, dv, .int .i64 nx, pv, .int .i64 tk, .bool rc] 39)) := ⟨_, rfl⟩
  rw [← hW0] at F0 HD HP HT
  have HW0 : Hid (W0 = (w.alloc (.cells #[.int .i64 kc, .int .i64 id, .int .i64 h.fl, .int .i64 h.gp, .int .i64 h.ln, .int .i64 h.rf, .int .i64 h.sp, .int .i64 h.pu, .int .i64 h.br, .int .i64 h.dr, .int .i64 h.lv, .int .i64 h.dO, .int .i64 h.ld, .int .i64 h.qu, dv, .int .i64 nx, pv, .int .i64 tk, .bool rc] 39))) := hW0
  have NE : Hid (∀ j, dv.ownBlock = some j → pv.ownBlock ≠ some j) := ne
  clear hW0 hd hp ne
  go_enter Tryz.func11, Tryz.ntmps11
  go_upto_region 1 with fail
  rw [← HW0.out]
  have x0 := F0.out.c 0 _ rfl
  have x1 := F0.out.c 1 _ rfl
  have x2 := F0.out.c 2 _ rfl
  have x3 := F0.out.c 3 _ rfl
  have x4 := F0.out.c 4 _ rfl
  have x5 := F0.out.c 5 _ rfl
  have x6 := F0.out.c 6 _ rfl
  have x7 := F0.out.c 7 _ rfl
  have x8 := F0.out.c 8 _ rfl
  have x9 := F0.out.c 9 _ rfl
  have x10 := F0.out.c 10 _ rfl
  have x11 := F0.out.c 11 _ rfl
  have x12 := F0.out.c 12 _ rfl
  have x13 := F0.out.c 13 _ rfl
  have x14 := F0.out.c 14 _ rfl
  have x15 := F0.out.c 15 _ rfl
  have x16 := F0.out.c 16 _ rfl
  have x17 := F0.out.c 17 _ rfl
  have x18 := F0.out.c 18 _ rfl
  go_wp2_with (go_at_call 10; refine (markGroup_any B h dv nx pv tk rc ds ps k k1 k2 hld hlp _ HD.out HP.out NE.out).mono ?_; rintro e w1 ⟨rfl, h1, h2, h3⟩; have HD : Hid (OwnD w1 B dv (markLD k ds.length)) := h1; have HP : Hid (Own w1 B pv (markL (k + 13 * ds.length) ps.length)) := h2; have HT : Hid (Turn2 w w1 dv pv) := HT.out.trans h3; clear h1 h2 h3)
  go_ret
  exact ⟨rfl, HD.out, HP.out, HT.out⟩
set_option maxRecDepth 20000 in
set_option maxHeartbeats 32000000 in
theorem heldGroupResult_any (B : Nat) (kc id : Int) (h : Hs) (dv : Value) (nx : Int) (pv : Value) (tk : Int) (rc : Bool) (n m : Nat) (k : Int) (k1 : 0 ≤ k) (k2 : k ≤ 100) (hld : n ≤ 1048576) (hlp : m ≤ 1048576) (w : World) (hd : OwnD w B dv (markLD k n)) (hp : Own w B pv (markL (k + 13 * n) m)) :
    Calls Tryz.prog 12 #[.agg #[.int .i64 kc, .int .i64 id, .int .i64 h.fl, .int .i64 h.gp, .int .i64 h.ln, .int .i64 h.rf, .int .i64 h.sp, .int .i64 h.pu, .int .i64 h.br, .int .i64 h.dr, .int .i64 h.lv, .int .i64 h.dO, .int .i64 h.ld, .int .i64 h.qu, dv, .int .i64 nx, pv, .int .i64 tk, .bool rc], .int .i64 k] w fun e w' => e = .returned (.int .i64 (k + 13 * n + 7 * m)) ∧ Below w.heap.size w w' := by
  have F0 : Hid (Blk (w.alloc (.cells #[.int .i64 kc, .int .i64 id, .int .i64 h.fl, .int .i64 h.gp, .int .i64 h.ln, .int .i64 h.rf, .int .i64 h.sp, .int .i64 h.pu, .int .i64 h.br, .int .i64 h.dr, .int .i64 h.lv, .int .i64 h.dO, .int .i64 h.ld, .int .i64 h.qu, dv, .int .i64 nx, pv, .int .i64 tk, .bool rc] 39)) w.heap.size [.int .i64 kc, .int .i64 id, .int .i64 h.fl, .int .i64 h.gp, .int .i64 h.ln, .int .i64 h.rf, .int .i64 h.sp, .int .i64 h.pu, .int .i64 h.br, .int .i64 h.dr, .int .i64 h.lv, .int .i64 h.dO, .int .i64 h.ld, .int .i64 h.qu, dv, .int .i64 nx, pv, .int .i64 tk, .bool rc]) := Blk.at_ w #[.int .i64 kc, .int .i64 id, .int .i64 h.fl, .int .i64 h.gp, .int .i64 h.ln, .int .i64 h.rf, .int .i64 h.sp, .int .i64 h.pu, .int .i64 h.br, .int .i64 h.dr, .int .i64 h.lv, .int .i64 h.dO, .int .i64 h.ld, .int .i64 h.qu, dv, .int .i64 nx, pv, .int .i64 tk, .bool rc] _ _ rfl
  have HD : Hid (OwnD (w.alloc (.cells #[.int .i64 kc, .int .i64 id, .int .i64 h.fl, .int .i64 h.gp, .int .i64 h.ln, .int .i64 h.rf, .int .i64 h.sp, .int .i64 h.pu, .int .i64 h.br, .int .i64 h.dr, .int .i64 h.lv, .int .i64 h.dO, .int .i64 h.ld, .int .i64 h.qu, dv, .int .i64 nx, pv, .int .i64 tk, .bool rc] 39)) B dv (markLD k n)) := hd.alloc _
  have HP : Hid (Own (w.alloc (.cells #[.int .i64 kc, .int .i64 id, .int .i64 h.fl, .int .i64 h.gp, .int .i64 h.ln, .int .i64 h.rf, .int .i64 h.sp, .int .i64 h.pu, .int .i64 h.br, .int .i64 h.dr, .int .i64 h.lv, .int .i64 h.dO, .int .i64 h.ld, .int .i64 h.qu, dv, .int .i64 nx, pv, .int .i64 tk, .bool rc] 39)) B pv (markL (k + 13 * n) m)) := hp.alloc _
  have FB : Hid (Below w.heap.size w (w.alloc (.cells #[.int .i64 kc, .int .i64 id, .int .i64 h.fl, .int .i64 h.gp, .int .i64 h.ln, .int .i64 h.rf, .int .i64 h.sp, .int .i64 h.pu, .int .i64 h.br, .int .i64 h.dr, .int .i64 h.lv, .int .i64 h.dO, .int .i64 h.ld, .int .i64 h.qu, dv, .int .i64 nx, pv, .int .i64 tk, .bool rc] 39))) := (Below.refl _ _).alloc (Nat.le_refl _) _
  have q2 : ¬ (k + 13 * (n : Int) + 7 * (m : Int) < 0) := by omega
  obtain ⟨W0, hW0⟩ : ∃ W0, W0 = (w.alloc (.cells #[.int .i64 kc, .int .i64 id, .int .i64 h.fl, .int .i64 h.gp, .int .i64 h.ln, .int .i64 h.rf, .int .i64 h.sp, .int .i64 h.pu, .int .i64 h.br, .int .i64 h.dr, .int .i64 h.lv, .int .i64 h.dO, .int .i64 h.ld, .int .i64 h.qu, dv, .int .i64 nx, pv, .int .i64 tk, .bool rc] 39)) := ⟨_, rfl⟩
  rw [← hW0] at F0 HD HP FB
  have HW0 : Hid (W0 = (w.alloc (.cells #[.int .i64 kc, .int .i64 id, .int .i64 h.fl, .int .i64 h.gp, .int .i64 h.ln, .int .i64 h.rf, .int .i64 h.sp, .int .i64 h.pu, .int .i64 h.br, .int .i64 h.dr, .int .i64 h.lv, .int .i64 h.dO, .int .i64 h.ld, .int .i64 h.qu, dv, .int .i64 nx, pv, .int .i64 tk, .bool rc] 39))) := hW0
  clear hW0 hd hp
  go_enter Tryz.func12, Tryz.ntmps12
  go_upto_region 1 with fail
  rw [← HW0.out]
  have x0 := F0.out.c 0 _ rfl
  have x1 := F0.out.c 1 _ rfl
  have x2 := F0.out.c 2 _ rfl
  have x3 := F0.out.c 3 _ rfl
  have x4 := F0.out.c 4 _ rfl
  have x5 := F0.out.c 5 _ rfl
  have x6 := F0.out.c 6 _ rfl
  have x7 := F0.out.c 7 _ rfl
  have x8 := F0.out.c 8 _ rfl
  have x9 := F0.out.c 9 _ rfl
  have x10 := F0.out.c 10 _ rfl
  have x11 := F0.out.c 11 _ rfl
  have x12 := F0.out.c 12 _ rfl
  have x13 := F0.out.c 13 _ rfl
  have x14 := F0.out.c 14 _ rfl
  have x15 := F0.out.c 15 _ rfl
  have x16 := F0.out.c 16 _ rfl
  have x17 := F0.out.c 17 _ rfl
  have x18 := F0.out.c 18 _ rfl
  go_wp2_with (go_at_call 32; refine (heldGroup_any B h dv nx pv tk rc n m k k1 k2 hld hlp _ HD.out HP.out).mono ?_; rintro e w1 ⟨rfl, hb⟩; have FB : Hid (Below w.heap.size w w1) := FB.out.trans (hb.mono FB.out.size); clear hb)
  go_ret
  exact ⟨rfl, FB.out⟩
end Go.Proofs.YtdkikijnjkoddaaGreat
