/-
  The law's group, turned into the program's, and compared.
-/
import Derived.Test.YtnfdplfifpmhoaaGreatDoorGrpC
import Derived.Deep.RegionHeld3
namespace Go.Proofs.YtnfdplfifpmhoaaGreatDoor
open Go.RowKit Pl
set_option linter.unusedSimpArgs false
set_option linter.unusedVariables false

theorem OwD.putB {B g n cap b : Nat} {l : List Dk} (hne : g ≠ b) : ∀ (vs : List Value) (k : Nat) (W : World), OwD W B g n cap l → OwD (putB W b k vs) B g n cap l := by
  intro vs
  induction vs with
  | nil => intro k W h; exact h
  | cons v vs ih => intro k W h; exact ih (k + 1) _ (h.other (p := ⟨b, k, none⟩) hne v)
theorem Ow.putB {B g n cap b : Nat} {l : List Pe} (hne : g ≠ b) : ∀ (vs : List Value) (k : Nat) (W : World), Ow W B g n cap l → Ow (putB W b k vs) B g n cap l := by
  intro vs
  induction vs with
  | nil => intro k W h; exact h
  | cons v vs ih => intro k W h; exact ih (k + 1) _ (h.other (p := ⟨b, k, none⟩) hne v)
theorem OwD.row {W : World} {B g n cap b : Nat} {l : List Dk} (h : OwD W B g n cap l) (hne : g ≠ b) (vs : Array Value) : OwD (W.setRow b vs) B g n cap l :=
  h.kept (row := some b) ⟨rfl, rfl, rfl, by simp, fun i _ hi => setRow_other W b i vs (fun e => hi (by rw [e]))⟩ (by simpa using hne)
theorem Ow.row {W : World} {B g n cap b : Nat} {l : List Pe} (h : Ow W B g n cap l) (hne : g ≠ b) (vs : Array Value) : Ow (W.setRow b vs) B g n cap l :=
  h.kept (row := some b) ⟨rfl, rfl, rfl, by simp, fun i _ hi => setRow_other W b i vs (fun e => hi (by rw [e]))⟩ (by simpa using hne)
theorem GO.row {W : World} {B gd gp b : Nat} {ds : List Dk} {ps : List Pe} (h : GO W B gd gp ds ps) (h1 : gd ≠ b) (h2 : gp ≠ b) (vs : Array Value) : GO (W.setRow b vs) B gd gp ds ps := ⟨h.d.row h1 vs, h.p.row h2 vs, h.ne⟩
theorem GO.putB {W : World} {B gd gp b : Nat} {ds : List Dk} {ps : List Pe} (h : GO W B gd gp ds ps) (h1 : gd ≠ b) (h2 : gp ≠ b) (vs : List Value) (k : Nat) : GO (Go.Proofs.YtnfdplfifpmhoaaGreatDoor.putB W b k vs) B gd gp ds ps := ⟨OwD.putB h1 vs k W h.d, Ow.putB h2 vs k W h.p, h.ne⟩
set_option maxRecDepth 20000 in
set_option maxHeartbeats 32000000 in
theorem toGroup_any (h : Hs) (ds : List Dk) (da : Option Addr) (dc : Nat) (nx : Int) (ps : List Pe) (pa : Option Addr) (pc : Nat) (tk : Int) (rc : Bool) (hld : ds.length ≤ 1048576) (hlp : ps.length ≤ 1048576) (w : World) (hD : DIn w w.heap.size da ds) (hP : PIn w w.heap.size pa ps) :
    Calls Tryz.prog 6 #[.agg #[.int .i64 h.fl, .int .i64 h.gp, .int .i64 h.ln, .int .i64 h.rf, .int .i64 h.sp, .int .i64 h.pu, .int .i64 h.br, .int .i64 h.dr, .int .i64 h.lv, .int .i64 h.dO, .int .i64 h.ld, .int .i64 h.qu, .slice da ds.length dc, .int .i64 nx, .slice pa ps.length pc, .int .i64 tk, .bool rc]] w fun e w' => ∃ gd gp, e = .returned (.agg #[.int .i64 h.fl, .int .i64 h.gp, .int .i64 h.ln, .int .i64 h.rf, .int .i64 h.sp, .int .i64 h.pu, .int .i64 h.br, .int .i64 h.dr, .int .i64 h.lv, .int .i64 h.dO, .int .i64 h.ld, .int .i64 h.qu, .slice (some ⟨gd, 0, none⟩) ds.length ds.length, .int .i64 nx, .slice (some ⟨gp, 0, none⟩) ps.length ps.length, .int .i64 tk, .bool rc]) ∧ GO w' w.heap.size gd gp ds ps ∧ Below w.heap.size w w' := by
  have HD : Hid (DIn w w.heap.size da ds) := hD
  have HP : Hid (PIn w w.heap.size pa ps) := hP
  clear hD hP
  have F0 : Hid (Blk (((w.alloc (.cells #[.int .i64 h.fl, .int .i64 h.gp, .int .i64 h.ln, .int .i64 h.rf, .int .i64 h.sp, .int .i64 h.pu, .int .i64 h.br, .int .i64 h.dr, .int .i64 h.lv, .int .i64 h.dO, .int .i64 h.ld, .int .i64 h.qu, .slice da ds.length dc, .int .i64 nx, .slice pa ps.length pc, .int .i64 tk, .bool rc] 29)).alloc (.cells #[.int .i64 0, .int .i64 0, .int .i64 0, .int .i64 0, .int .i64 0, .int .i64 0, .int .i64 0, .int .i64 0, .int .i64 0, .int .i64 0, .int .i64 0, .int .i64 0, .slice none 0 0, .int .i64 0, .slice none 0 0, .int .i64 0, .bool false] 38)).alloc (.cells #[.int .i64 0, .int .i64 0, .int .i64 0, .int .i64 0, .int .i64 0, .int .i64 0, .int .i64 0, .int .i64 0, .int .i64 0, .int .i64 0, .int .i64 0, .int .i64 0, .slice none 0 0, .int .i64 0, .slice none 0 0, .int .i64 0, .bool false] 38)) w.heap.size (gvs h (.slice da ds.length dc) nx (.slice pa ps.length pc) tk rc)) := ((Blk.at_ w #[.int .i64 h.fl, .int .i64 h.gp, .int .i64 h.ln, .int .i64 h.rf, .int .i64 h.sp, .int .i64 h.pu, .int .i64 h.br, .int .i64 h.dr, .int .i64 h.lv, .int .i64 h.dO, .int .i64 h.ld, .int .i64 h.qu, .slice da ds.length dc, .int .i64 nx, .slice pa ps.length pc, .int .i64 tk, .bool rc] _ _ rfl).alloc _).alloc _
  have F1 : Hid (Blk (((w.alloc (.cells #[.int .i64 h.fl, .int .i64 h.gp, .int .i64 h.ln, .int .i64 h.rf, .int .i64 h.sp, .int .i64 h.pu, .int .i64 h.br, .int .i64 h.dr, .int .i64 h.lv, .int .i64 h.dO, .int .i64 h.ld, .int .i64 h.qu, .slice da ds.length dc, .int .i64 nx, .slice pa ps.length pc, .int .i64 tk, .bool rc] 29)).alloc (.cells #[.int .i64 0, .int .i64 0, .int .i64 0, .int .i64 0, .int .i64 0, .int .i64 0, .int .i64 0, .int .i64 0, .int .i64 0, .int .i64 0, .int .i64 0, .int .i64 0, .slice none 0 0, .int .i64 0, .slice none 0 0, .int .i64 0, .bool false] 38)).alloc (.cells #[.int .i64 0, .int .i64 0, .int .i64 0, .int .i64 0, .int .i64 0, .int .i64 0, .int .i64 0, .int .i64 0, .int .i64 0, .int .i64 0, .int .i64 0, .int .i64 0, .slice none 0 0, .int .i64 0, .slice none 0 0, .int .i64 0, .bool false] 38)) (w.heap.size + 1) (gvs zeroH (.slice none 0 0) 0 (.slice none 0 0) 0 false)) := (Blk.at_ _ #[.int .i64 0, .int .i64 0, .int .i64 0, .int .i64 0, .int .i64 0, .int .i64 0, .int .i64 0, .int .i64 0, .int .i64 0, .int .i64 0, .int .i64 0, .int .i64 0, .slice none 0 0, .int .i64 0, .slice none 0 0, .int .i64 0, .bool false] _ _ (by simp)).alloc _
  have F2 : Hid (Blk (((w.alloc (.cells #[.int .i64 h.fl, .int .i64 h.gp, .int .i64 h.ln, .int .i64 h.rf, .int .i64 h.sp, .int .i64 h.pu, .int .i64 h.br, .int .i64 h.dr, .int .i64 h.lv, .int .i64 h.dO, .int .i64 h.ld, .int .i64 h.qu, .slice da ds.length dc, .int .i64 nx, .slice pa ps.length pc, .int .i64 tk, .bool rc] 29)).alloc (.cells #[.int .i64 0, .int .i64 0, .int .i64 0, .int .i64 0, .int .i64 0, .int .i64 0, .int .i64 0, .int .i64 0, .int .i64 0, .int .i64 0, .int .i64 0, .int .i64 0, .slice none 0 0, .int .i64 0, .slice none 0 0, .int .i64 0, .bool false] 38)).alloc (.cells #[.int .i64 0, .int .i64 0, .int .i64 0, .int .i64 0, .int .i64 0, .int .i64 0, .int .i64 0, .int .i64 0, .int .i64 0, .int .i64 0, .int .i64 0, .int .i64 0, .slice none 0 0, .int .i64 0, .slice none 0 0, .int .i64 0, .bool false] 38)) (w.heap.size + 2) (gvs zeroH (.slice none 0 0) 0 (.slice none 0 0) 0 false)) := Blk.at_ _ #[.int .i64 0, .int .i64 0, .int .i64 0, .int .i64 0, .int .i64 0, .int .i64 0, .int .i64 0, .int .i64 0, .int .i64 0, .int .i64 0, .int .i64 0, .int .i64 0, .slice none 0 0, .int .i64 0, .slice none 0 0, .int .i64 0, .bool false] _ _ (by simp)
  have FB : Hid (Below w.heap.size w (((w.alloc (.cells #[.int .i64 h.fl, .int .i64 h.gp, .int .i64 h.ln, .int .i64 h.rf, .int .i64 h.sp, .int .i64 h.pu, .int .i64 h.br, .int .i64 h.dr, .int .i64 h.lv, .int .i64 h.dO, .int .i64 h.ld, .int .i64 h.qu, .slice da ds.length dc, .int .i64 nx, .slice pa ps.length pc, .int .i64 tk, .bool rc] 29)).alloc (.cells #[.int .i64 0, .int .i64 0, .int .i64 0, .int .i64 0, .int .i64 0, .int .i64 0, .int .i64 0, .int .i64 0, .int .i64 0, .int .i64 0, .int .i64 0, .int .i64 0, .slice none 0 0, .int .i64 0, .slice none 0 0, .int .i64 0, .bool false] 38)).alloc (.cells #[.int .i64 0, .int .i64 0, .int .i64 0, .int .i64 0, .int .i64 0, .int .i64 0, .int .i64 0, .int .i64 0, .int .i64 0, .int .i64 0, .int .i64 0, .int .i64 0, .slice none 0 0, .int .i64 0, .slice none 0 0, .int .i64 0, .bool false] 38))) := (((Below.refl _ _).alloc (Nat.le_refl _) _).alloc (by simp) _).alloc (by simp; omega) _
  obtain ⟨W0, hW0⟩ : ∃ W0, W0 = (((w.alloc (.cells #[.int .i64 h.fl, .int .i64 h.gp, .int .i64 h.ln, .int .i64 h.rf, .int .i64 h.sp, .int .i64 h.pu, .int .i64 h.br, .int .i64 h.dr, .int .i64 h.lv, .int .i64 h.dO, .int .i64 h.ld, .int .i64 h.qu, .slice da ds.length dc, .int .i64 nx, .slice pa ps.length pc, .int .i64 tk, .bool rc] 29)).alloc (.cells #[.int .i64 0, .int .i64 0, .int .i64 0, .int .i64 0, .int .i64 0, .int .i64 0, .int .i64 0, .int .i64 0, .int .i64 0, .int .i64 0, .int .i64 0, .int .i64 0, .slice none 0 0, .int .i64 0, .slice none 0 0, .int .i64 0, .bool false] 38)).alloc (.cells #[.int .i64 0, .int .i64 0, .int .i64 0, .int .i64 0, .int .i64 0, .int .i64 0, .int .i64 0, .int .i64 0, .int .i64 0, .int .i64 0, .int .i64 0, .int .i64 0, .slice none 0 0, .int .i64 0, .slice none 0 0, .int .i64 0, .bool false] 38)) := ⟨_, rfl⟩
  rw [← hW0] at F0 F1 F2 FB
  have HW0 : Hid (W0 = (((w.alloc (.cells #[.int .i64 h.fl, .int .i64 h.gp, .int .i64 h.ln, .int .i64 h.rf, .int .i64 h.sp, .int .i64 h.pu, .int .i64 h.br, .int .i64 h.dr, .int .i64 h.lv, .int .i64 h.dO, .int .i64 h.ld, .int .i64 h.qu, .slice da ds.length dc, .int .i64 nx, .slice pa ps.length pc, .int .i64 tk, .bool rc] 29)).alloc (.cells #[.int .i64 0, .int .i64 0, .int .i64 0, .int .i64 0, .int .i64 0, .int .i64 0, .int .i64 0, .int .i64 0, .int .i64 0, .int .i64 0, .int .i64 0, .int .i64 0, .slice none 0 0, .int .i64 0, .slice none 0 0, .int .i64 0, .bool false] 38)).alloc (.cells #[.int .i64 0, .int .i64 0, .int .i64 0, .int .i64 0, .int .i64 0, .int .i64 0, .int .i64 0, .int .i64 0, .int .i64 0, .int .i64 0, .int .i64 0, .int .i64 0, .slice none 0 0, .int .i64 0, .slice none 0 0, .int .i64 0, .bool false] 38))) := hW0
  clear hW0
  go_enter Tryz.func6, Tryz.ntmps6
  go_upto_region 2 with fail
  rw [← HW0.out]
  clear HW0
  have x0 := F0.out.c 0 _ rfl
  have x1 := F0.out.c 1 _ rfl
  have x2 := F0.out.c 2 _ rfl
  have x3 := F0.out.c 3 _ rfl
  have x4 := F0.out.c 4 _ rfl
  have x5 := F0.out.c 5 _ rfl
  have x6 := F0.out.c 6 _ rfl
  have x7 := F0.out.c 7 _ rfl
  have x8 := F0.out.c 8 _ rfl
  have x9 := F0.out.c 9 _ rfl
  have x10 := F0.out.c 10 _ rfl
  have x11 := F0.out.c 11 _ rfl
  have x12 := F0.out.c 12 _ rfl
  have x13 := F0.out.c 13 _ rfl
  have x14 := F0.out.c 14 _ rfl
  have x15 := F0.out.c 15 _ rfl
  have x16 := F0.out.c 16 _ rfl
  go_upto_region 3 with (go_at_call 15; refine (toHouse_any h _).mono ?_; rintro e w1 ⟨rfl, hb⟩; have F0 : Hid (Blk w1 w.heap.size (gvs h (.slice da ds.length dc) nx (.slice pa ps.length pc) tk rc)) := F0.out.below hb F0.out.lt; have F1 : Hid (Blk w1 (w.heap.size + 1) (gvs zeroH (.slice none 0 0) 0 (.slice none 0 0) 0 false)) := F1.out.below hb F1.out.lt; have F2 : Hid (Blk w1 (w.heap.size + 2) (gvs zeroH (.slice none 0 0) 0 (.slice none 0 0) 0 false)) := F2.out.below hb F2.out.lt; have FB : Hid (Below w.heap.size w w1) := FB.out.trans (hb.mono FB.out.size); clear hb; have y0 := F2.out.c 0 _ rfl; have y1 := F2.out.c 1 _ rfl; have y2 := F2.out.c 2 _ rfl; have y3 := F2.out.c 3 _ rfl; have y4 := F2.out.c 4 _ rfl; have y5 := F2.out.c 5 _ rfl; have y6 := F2.out.c 6 _ rfl; have y7 := F2.out.c 7 _ rfl; have y8 := F2.out.c 8 _ rfl; have y9 := F2.out.c 9 _ rfl; have y10 := F2.out.c 10 _ rfl; have y11 := F2.out.c 11 _ rfl; have yf0 := F2.out.f 0 (Nat.le_of_ble_eq_true rfl); have yf1 := F2.out.f 1 (Nat.le_of_ble_eq_true rfl); have yf2 := F2.out.f 2 (Nat.le_of_ble_eq_true rfl); have yf3 := F2.out.f 3 (Nat.le_of_ble_eq_true rfl); have yf4 := F2.out.f 4 (Nat.le_of_ble_eq_true rfl); have yf5 := F2.out.f 5 (Nat.le_of_ble_eq_true rfl); have yf6 := F2.out.f 6 (Nat.le_of_ble_eq_true rfl); have yf7 := F2.out.f 7 (Nat.le_of_ble_eq_true rfl); have yf8 := F2.out.f 8 (Nat.le_of_ble_eq_true rfl); have yf9 := F2.out.f 9 (Nat.le_of_ble_eq_true rfl); have yf10 := F2.out.f 10 (Nat.le_of_ble_eq_true rfl); have yf11 := F2.out.f 11 (Nat.le_of_ble_eq_true rfl))
  have l2 := F2.out.lt
  obtain ⟨W1, hw_⟩ : ∃ W1, W1 = (((((((((((w1.setCell ⟨w.heap.size + 2, 0, none⟩ (.int .i64 h.fl)).setCell ⟨w.heap.size + 2, 1, none⟩ (.int .i64 h.gp)).setCell ⟨w.heap.size + 2, 2, none⟩ (.int .i64 h.ln)).setCell ⟨w.heap.size + 2, 3, none⟩ (.int .i64 h.rf)).setCell ⟨w.heap.size + 2, 4, none⟩ (.int .i64 h.sp)).setCell ⟨w.heap.size + 2, 5, none⟩ (.int .i64 h.pu)).setCell ⟨w.heap.size + 2, 6, none⟩ (.int .i64 h.br)).setCell ⟨w.heap.size + 2, 7, none⟩ (.int .i64 h.dr)).setCell ⟨w.heap.size + 2, 8, none⟩ (.int .i64 h.lv)).setCell ⟨w.heap.size + 2, 9, none⟩ (.int .i64 h.dO)).setCell ⟨w.heap.size + 2, 10, none⟩ (.int .i64 h.ld)).setCell ⟨w.heap.size + 2, 11, none⟩ (.int .i64 h.qu) := ⟨_, rfl⟩
  rw [← hw_]
  have F2 : Hid (Blk W1 (w.heap.size + 2) (gvs h (.slice none 0 0) 0 (.slice none 0 0) 0 false)) := by rw [hw_]; exact putB_set [.int .i64 h.fl, .int .i64 h.gp, .int .i64 h.ln, .int .i64 h.rf, .int .i64 h.sp, .int .i64 h.pu, .int .i64 h.br, .int .i64 h.dr, .int .i64 h.lv, .int .i64 h.dO, .int .i64 h.ld, .int .i64 h.qu] _ 0 w1 F2.out (Nat.le_of_ble_eq_true rfl)
  have F0 : Hid (Blk W1 w.heap.size (gvs h (.slice da ds.length dc) nx (.slice pa ps.length pc) tk rc)) := by rw [hw_]; exact Blk.putB_other (by omega) [.int .i64 h.fl, .int .i64 h.gp, .int .i64 h.ln, .int .i64 h.rf, .int .i64 h.sp, .int .i64 h.pu, .int .i64 h.br, .int .i64 h.dr, .int .i64 h.lv, .int .i64 h.dO, .int .i64 h.ld, .int .i64 h.qu] 0 F0.out
  have F1 : Hid (Blk W1 (w.heap.size + 1) (gvs zeroH (.slice none 0 0) 0 (.slice none 0 0) 0 false)) := by rw [hw_]; exact Blk.putB_other (by omega) [.int .i64 h.fl, .int .i64 h.gp, .int .i64 h.ln, .int .i64 h.rf, .int .i64 h.sp, .int .i64 h.pu, .int .i64 h.br, .int .i64 h.dr, .int .i64 h.lv, .int .i64 h.dO, .int .i64 h.ld, .int .i64 h.qu] 0 F1.out
  have FB : Hid (Below w.heap.size w W1) := by rw [hw_]; exact below_putB FB.out (by omega) [.int .i64 h.fl, .int .i64 h.gp, .int .i64 h.ln, .int .i64 h.rf, .int .i64 h.sp, .int .i64 h.pu, .int .i64 h.br, .int .i64 h.dr, .int .i64 h.lv, .int .i64 h.dO, .int .i64 h.ld, .int .i64 h.qu] 0
  clear hw_
  clear y0 yf0 y1 yf1 y2 yf2 y3 yf3 y4 yf4 y5 yf5 y6 yf6 y7 yf7 y8 yf8 y9 yf9 y10 yf10 y11 yf11
  have x0 := F0.out.c 0 _ rfl
  have x1 := F0.out.c 1 _ rfl
  have x2 := F0.out.c 2 _ rfl
  have x3 := F0.out.c 3 _ rfl
  have x4 := F0.out.c 4 _ rfl
  have x5 := F0.out.c 5 _ rfl
  have x6 := F0.out.c 6 _ rfl
  have x7 := F0.out.c 7 _ rfl
  have x8 := F0.out.c 8 _ rfl
  have x9 := F0.out.c 9 _ rfl
  have x10 := F0.out.c 10 _ rfl
  have x11 := F0.out.c 11 _ rfl
  have x12 := F0.out.c 12 _ rfl
  have x13 := F0.out.c 13 _ rfl
  have x14 := F0.out.c 14 _ rfl
  have x15 := F0.out.c 15 _ rfl
  have x16 := F0.out.c 16 _ rfl
  have ll := F2.out.lt
  go_upto_region 4 with (go_at_call 16; refine (toDeckS_any da dc ds hld _ ((HD.out.below FB.out (Nat.le_refl _)).mono FB.out.size)).mono ?_; rintro e w2 ⟨gd, rfl, ho, hb⟩; have GD : Hid (OwD w2 w.heap.size gd ds.length ds.length ds) := ho.base FB.out.size; have lgd := ho.bl.1; clear ho; have F0 : Hid (Blk w2 w.heap.size (gvs h (.slice da ds.length dc) nx (.slice pa ps.length pc) tk rc)) := F0.out.below hb F0.out.lt; have F1 : Hid (Blk w2 (w.heap.size + 1) (gvs zeroH (.slice none 0 0) 0 (.slice none 0 0) 0 false)) := F1.out.below hb F1.out.lt; have F2 : Hid (Blk w2 (w.heap.size + 2) (gvs h (.slice none 0 0) 0 (.slice none 0 0) 0 false)) := F2.out.below hb F2.out.lt; have FB : Hid (Below w.heap.size w w2) := FB.out.trans (hb.mono FB.out.size); clear hb; have y12 := F2.out.c 12 _ rfl; have yf12 := F2.out.f 12 (Nat.le_of_ble_eq_true rfl))
  obtain ⟨W2, hw_⟩ : ∃ W2, W2 = w2.setCell ⟨w.heap.size + 2, 12, none⟩ (.slice (some ⟨gd, 0, none⟩) ds.length ds.length) := ⟨_, rfl⟩
  rw [← hw_]
  have F2 : Hid (Blk W2 (w.heap.size + 2) (gvs h (.slice (some ⟨gd, 0, none⟩) ds.length ds.length) 0 (.slice none 0 0) 0 false)) := by rw [hw_]; exact putB_set [.slice (some ⟨gd, 0, none⟩) ds.length ds.length] _ 12 w2 F2.out (Nat.le_of_ble_eq_true rfl)
  have F0 : Hid (Blk W2 w.heap.size (gvs h (.slice da ds.length dc) nx (.slice pa ps.length pc) tk rc)) := by rw [hw_]; exact Blk.putB_other (by omega) [.slice (some ⟨gd, 0, none⟩) ds.length ds.length] 12 F0.out
  have F1 : Hid (Blk W2 (w.heap.size + 1) (gvs zeroH (.slice none 0 0) 0 (.slice none 0 0) 0 false)) := by rw [hw_]; exact Blk.putB_other (by omega) [.slice (some ⟨gd, 0, none⟩) ds.length ds.length] 12 F1.out
  have GD : Hid (OwD W2 w.heap.size gd ds.length ds.length ds) := by rw [hw_]; exact GD.out.other (by simp; omega) _
  have FB : Hid (Below w.heap.size w W2) := by rw [hw_]; exact below_putB FB.out (by omega) [.slice (some ⟨gd, 0, none⟩) ds.length ds.length] 12
  clear hw_
  clear y12 yf12
  have x0 := F0.out.c 0 _ rfl
  have x1 := F0.out.c 1 _ rfl
  have x2 := F0.out.c 2 _ rfl
  have x3 := F0.out.c 3 _ rfl
  have x4 := F0.out.c 4 _ rfl
  have x5 := F0.out.c 5 _ rfl
  have x6 := F0.out.c 6 _ rfl
  have x7 := F0.out.c 7 _ rfl
  have x8 := F0.out.c 8 _ rfl
  have x9 := F0.out.c 9 _ rfl
  have x10 := F0.out.c 10 _ rfl
  have x11 := F0.out.c 11 _ rfl
  have x12 := F0.out.c 12 _ rfl
  have x13 := F0.out.c 13 _ rfl
  have x14 := F0.out.c 14 _ rfl
  have x15 := F0.out.c 15 _ rfl
  have x16 := F0.out.c 16 _ rfl
  have lm := F2.out.lt
  have lgs := GD.out.bl.2
  go_upto_region 5 with (go_at_call 17; refine (toLedger_any nx pa pc ps hlp _ ((HP.out.below FB.out (Nat.le_refl _)).mono FB.out.size)).mono ?_; rintro e w3 ⟨gp, rfl, ho, hb⟩; have GP : Hid (Ow w3 w.heap.size gp ps.length ps.length ps) := ho.base FB.out.size; have lgp := ho.bl.1; clear ho; have GD : Hid (OwD w3 w.heap.size gd ds.length ds.length ds) := GD.out.below hb GD.out.bl.2; have F0 : Hid (Blk w3 w.heap.size (gvs h (.slice da ds.length dc) nx (.slice pa ps.length pc) tk rc)) := F0.out.below hb F0.out.lt; have F1 : Hid (Blk w3 (w.heap.size + 1) (gvs zeroH (.slice none 0 0) 0 (.slice none 0 0) 0 false)) := F1.out.below hb F1.out.lt; have F2 : Hid (Blk w3 (w.heap.size + 2) (gvs h (.slice (some ⟨gd, 0, none⟩) ds.length ds.length) 0 (.slice none 0 0) 0 false)) := F2.out.below hb F2.out.lt; have FB : Hid (Below w.heap.size w w3) := FB.out.trans (hb.mono FB.out.size); clear hb; have y13 := F2.out.c 13 _ rfl; have y14 := F2.out.c 14 _ rfl; have yf13 := F2.out.f 13 (Nat.le_of_ble_eq_true rfl); have yf14 := F2.out.f 14 (Nat.le_of_ble_eq_true rfl))
  obtain ⟨W3, hw_⟩ : ∃ W3, W3 = (w3.setCell ⟨w.heap.size + 2, 13, none⟩ (.int .i64 nx)).setCell ⟨w.heap.size + 2, 14, none⟩ (.slice (some ⟨gp, 0, none⟩) ps.length ps.length) := ⟨_, rfl⟩
  rw [← hw_]
  have F2 : Hid (Blk W3 (w.heap.size + 2) (gvs h (.slice (some ⟨gd, 0, none⟩) ds.length ds.length) nx (.slice (some ⟨gp, 0, none⟩) ps.length ps.length) 0 false)) := by rw [hw_]; exact putB_set [.int .i64 nx, .slice (some ⟨gp, 0, none⟩) ps.length ps.length] _ 13 w3 F2.out (Nat.le_of_ble_eq_true rfl)
  have F0 : Hid (Blk W3 w.heap.size (gvs h (.slice da ds.length dc) nx (.slice pa ps.length pc) tk rc)) := by rw [hw_]; exact Blk.putB_other (by omega) [.int .i64 nx, .slice (some ⟨gp, 0, none⟩) ps.length ps.length] 13 F0.out
  have F1 : Hid (Blk W3 (w.heap.size + 1) (gvs zeroH (.slice none 0 0) 0 (.slice none 0 0) 0 false)) := by rw [hw_]; exact Blk.putB_other (by omega) [.int .i64 nx, .slice (some ⟨gp, 0, none⟩) ps.length ps.length] 13 F1.out
  have GD : Hid (OwD W3 w.heap.size gd ds.length ds.length ds) := by rw [hw_]; exact (GD.out.other (p := ⟨w.heap.size + 2, 13, none⟩) (by simp; omega) _).other (p := ⟨w.heap.size + 2, 14, none⟩) (by simp; omega) _
  have GP : Hid (Ow W3 w.heap.size gp ps.length ps.length ps) := by rw [hw_]; exact (GP.out.other (p := ⟨w.heap.size + 2, 13, none⟩) (by simp; omega) _).other (p := ⟨w.heap.size + 2, 14, none⟩) (by simp; omega) _
  have FB : Hid (Below w.heap.size w W3) := by rw [hw_]; exact below_putB FB.out (by omega) [.int .i64 nx, .slice (some ⟨gp, 0, none⟩) ps.length ps.length] 13
  clear hw_
  clear y13 yf13 y14 yf14
  have x0 := F0.out.c 0 _ rfl
  have x1 := F0.out.c 1 _ rfl
  have x2 := F0.out.c 2 _ rfl
  have x3 := F0.out.c 3 _ rfl
  have x4 := F0.out.c 4 _ rfl
  have x5 := F0.out.c 5 _ rfl
  have x6 := F0.out.c 6 _ rfl
  have x7 := F0.out.c 7 _ rfl
  have x8 := F0.out.c 8 _ rfl
  have x9 := F0.out.c 9 _ rfl
  have x10 := F0.out.c 10 _ rfl
  have x11 := F0.out.c 11 _ rfl
  have x12 := F0.out.c 12 _ rfl
  have x13 := F0.out.c 13 _ rfl
  have x14 := F0.out.c 14 _ rfl
  have x15 := F0.out.c 15 _ rfl
  have x16 := F0.out.c 16 _ rfl
  have y15 := F2.out.c 15 _ rfl
  have y16 := F2.out.c 16 _ rfl
  have yf15 := F2.out.f 15 (Nat.le_of_ble_eq_true rfl)
  have yf16 := F2.out.f 16 (Nat.le_of_ble_eq_true rfl)
  go_upto_region 7 with fail
  obtain ⟨W4, hw_⟩ : ∃ W4, W4 = (W3.setCell ⟨w.heap.size + 2, 15, none⟩ (.int .i64 tk)).setCell ⟨w.heap.size + 2, 16, none⟩ (.bool rc) := ⟨_, rfl⟩
  rw [← hw_]
  have F2 : Hid (Blk W4 (w.heap.size + 2) (gvs h (.slice (some ⟨gd, 0, none⟩) ds.length ds.length) nx (.slice (some ⟨gp, 0, none⟩) ps.length ps.length) tk rc)) := by rw [hw_]; exact putB_set [.int .i64 tk, .bool rc] _ 15 W3 F2.out (Nat.le_of_ble_eq_true rfl)
  have F1 : Hid (Blk W4 (w.heap.size + 1) (gvs zeroH (.slice none 0 0) 0 (.slice none 0 0) 0 false)) := by rw [hw_]; exact Blk.putB_other (by omega) [.int .i64 tk, .bool rc] 15 F1.out
  have GD : Hid (OwD W4 w.heap.size gd ds.length ds.length ds) := by rw [hw_]; exact (GD.out.other (p := ⟨w.heap.size + 2, 15, none⟩) (by simp; omega) _).other (p := ⟨w.heap.size + 2, 16, none⟩) (by simp; omega) _
  have GP : Hid (Ow W4 w.heap.size gp ps.length ps.length ps) := by rw [hw_]; exact (GP.out.other (p := ⟨w.heap.size + 2, 15, none⟩) (by simp; omega) _).other (p := ⟨w.heap.size + 2, 16, none⟩) (by simp; omega) _
  have FB : Hid (Below w.heap.size w W4) := by rw [hw_]; exact below_putB FB.out (by omega) [.int .i64 tk, .bool rc] 15
  clear hw_
  clear y15 yf15 y16 yf16
  have GG : Hid (GO W4 w.heap.size gd gp ds ps) := ⟨GD.out, GP.out, by omega⟩
  go_wp2_with (first | (refine load_blk 38 _ Tryz.underlying38 (by kernel_rfl) F2.out rfl rfl rfl ?_) | (refine store_blk (gvs h (.slice (some ⟨gd, 0, none⟩) ds.length ds.length) nx (.slice (some ⟨gp, 0, none⟩) ps.length ps.length) tk rc) 38 _ _ (by kernel_rfl) (by kernel_rfl) (by kernel_rfl) F1.out rfl rfl rfl rfl ?_))
  exact bodyPost_ret (v := .agg #[.int .i64 h.fl, .int .i64 h.gp, .int .i64 h.ln, .int .i64 h.rf, .int .i64 h.sp, .int .i64 h.pu, .int .i64 h.br, .int .i64 h.dr, .int .i64 h.lv, .int .i64 h.dO, .int .i64 h.ld, .int .i64 h.qu, .slice (some ⟨gd, 0, none⟩) ds.length ds.length, .int .i64 nx, .slice (some ⟨gp, 0, none⟩) ps.length ps.length, .int .i64 tk, .bool rc]) ((F1.out.row (gvs h (.slice (some ⟨gd, 0, none⟩) ds.length ds.length) nx (.slice (some ⟨gp, 0, none⟩) ps.length ps.length) tk rc)).res _ Tryz.results6 Tryz.underlying38 (by kernel_rfl) rfl) rfl ⟨gd, gp, rfl, GG.out.row (by omega) (by omega) _, below_row FB.out (by omega) _⟩
set_option maxRecDepth 20000 in
set_option maxHeartbeats 16000000 in
theorem eqHouse_same (h : Hs) (w : World) :
    Calls Tryz.prog 24 #[.agg #[.int .i64 h.fl, .int .i64 h.gp, .int .i64 h.ln, .int .i64 h.rf, .int .i64 h.sp, .int .i64 h.pu, .int .i64 h.br, .int .i64 h.dr, .int .i64 h.lv, .int .i64 h.dO, .int .i64 h.ld, .int .i64 h.qu], .agg #[.int .i64 h.fl, .int .i64 h.gp, .int .i64 h.ln, .int .i64 h.rf, .int .i64 h.sp, .int .i64 h.pu, .int .i64 h.br, .int .i64 h.dr, .int .i64 h.lv, .int .i64 h.dO, .int .i64 h.ld, .int .i64 h.qu]] w fun e w' => e = .returned (.bool true) ∧ Below w.heap.size w w' := by
  go_enter Tryz.func24, Tryz.ntmps24
  go_wp2
  go_ret
  exact ⟨rfl, by repeat (first | exact Below.refl _ _ | (refine Below.alloc ?_ ?_ _) | (refine Below.setCell ?_ ?_ _) | (simp; omega) | simp)⟩
set_option maxRecDepth 20000 in
set_option maxHeartbeats 16000000 in
theorem eqDeck_same (d : Dk) (w : World) :
    Calls Tryz.prog 43 #[.agg #[.int .i64 d.sh.lo.pos, .int .i64 d.sh.lo.vel, .int .i64 d.sh.lo.door, .int .i64 d.sh.up.pos, .int .i64 d.sh.up.vel, .int .i64 d.sh.up.door, .int .i64 d.sp.l.lo, .int .i64 d.sp.l.hi, .int .i64 d.sp.u.lo, .int .i64 d.sp.u.hi, .int .i64 d.pl, .int .i64 d.pu, .bool d.hd], .agg #[.int .i64 d.sh.lo.pos, .int .i64 d.sh.lo.vel, .int .i64 d.sh.lo.door, .int .i64 d.sh.up.pos, .int .i64 d.sh.up.vel, .int .i64 d.sh.up.door, .int .i64 d.sp.l.lo, .int .i64 d.sp.l.hi, .int .i64 d.sp.u.lo, .int .i64 d.sp.u.hi, .int .i64 d.pl, .int .i64 d.pu, .bool d.hd]] w fun e w' => e = .returned (.bool true) ∧ Below w.heap.size w w' := by
  have F0 : Hid (Blk ((w.alloc (.cells #[.int .i64 d.sh.lo.pos, .int .i64 d.sh.lo.vel, .int .i64 d.sh.lo.door, .int .i64 d.sh.up.pos, .int .i64 d.sh.up.vel, .int .i64 d.sh.up.door, .int .i64 d.sp.l.lo, .int .i64 d.sp.l.hi, .int .i64 d.sp.u.lo, .int .i64 d.sp.u.hi, .int .i64 d.pl, .int .i64 d.pu, .bool d.hd] 55)).alloc (.cells #[.int .i64 d.sh.lo.pos, .int .i64 d.sh.lo.vel, .int .i64 d.sh.lo.door, .int .i64 d.sh.up.pos, .int .i64 d.sh.up.vel, .int .i64 d.sh.up.door, .int .i64 d.sp.l.lo, .int .i64 d.sp.l.hi, .int .i64 d.sp.u.lo, .int .i64 d.sp.u.hi, .int .i64 d.pl, .int .i64 d.pu, .bool d.hd] 55)) w.heap.size (cellsD d)) := (Blk.at_ w #[.int .i64 d.sh.lo.pos, .int .i64 d.sh.lo.vel, .int .i64 d.sh.lo.door, .int .i64 d.sh.up.pos, .int .i64 d.sh.up.vel, .int .i64 d.sh.up.door, .int .i64 d.sp.l.lo, .int .i64 d.sp.l.hi, .int .i64 d.sp.u.lo, .int .i64 d.sp.u.hi, .int .i64 d.pl, .int .i64 d.pu, .bool d.hd] _ _ rfl).alloc _
  have F1 : Hid (Blk ((w.alloc (.cells #[.int .i64 d.sh.lo.pos, .int .i64 d.sh.lo.vel, .int .i64 d.sh.lo.door, .int .i64 d.sh.up.pos, .int .i64 d.sh.up.vel, .int .i64 d.sh.up.door, .int .i64 d.sp.l.lo, .int .i64 d.sp.l.hi, .int .i64 d.sp.u.lo, .int .i64 d.sp.u.hi, .int .i64 d.pl, .int .i64 d.pu, .bool d.hd] 55)).alloc (.cells #[.int .i64 d.sh.lo.pos, .int .i64 d.sh.lo.vel, .int .i64 d.sh.lo.door, .int .i64 d.sh.up.pos, .int .i64 d.sh.up.vel, .int .i64 d.sh.up.door, .int .i64 d.sp.l.lo, .int .i64 d.sp.l.hi, .int .i64 d.sp.u.lo, .int .i64 d.sp.u.hi, .int .i64 d.pl, .int .i64 d.pu, .bool d.hd] 55)) (w.heap.size + 1) (cellsD d)) := Blk.at_ _ #[.int .i64 d.sh.lo.pos, .int .i64 d.sh.lo.vel, .int .i64 d.sh.lo.door, .int .i64 d.sh.up.pos, .int .i64 d.sh.up.vel, .int .i64 d.sh.up.door, .int .i64 d.sp.l.lo, .int .i64 d.sp.l.hi, .int .i64 d.sp.u.lo, .int .i64 d.sp.u.hi, .int .i64 d.pl, .int .i64 d.pu, .bool d.hd] _ _ (by simp)
  have FB : Hid (Below w.heap.size w ((w.alloc (.cells #[.int .i64 d.sh.lo.pos, .int .i64 d.sh.lo.vel, .int .i64 d.sh.lo.door, .int .i64 d.sh.up.pos, .int .i64 d.sh.up.vel, .int .i64 d.sh.up.door, .int .i64 d.sp.l.lo, .int .i64 d.sp.l.hi, .int .i64 d.sp.u.lo, .int .i64 d.sp.u.hi, .int .i64 d.pl, .int .i64 d.pu, .bool d.hd] 55)).alloc (.cells #[.int .i64 d.sh.lo.pos, .int .i64 d.sh.lo.vel, .int .i64 d.sh.lo.door, .int .i64 d.sh.up.pos, .int .i64 d.sh.up.vel, .int .i64 d.sh.up.door, .int .i64 d.sp.l.lo, .int .i64 d.sp.l.hi, .int .i64 d.sp.u.lo, .int .i64 d.sp.u.hi, .int .i64 d.pl, .int .i64 d.pu, .bool d.hd] 55))) := ((Below.refl _ _).alloc (Nat.le_refl _) _).alloc (by simp) _
  obtain ⟨W0, hW0⟩ : ∃ W0, W0 = ((w.alloc (.cells #[.int .i64 d.sh.lo.pos, .int .i64 d.sh.lo.vel, .int .i64 d.sh.lo.door, .int .i64 d.sh.up.pos, .int .i64 d.sh.up.vel, .int .i64 d.sh.up.door, .int .i64 d.sp.l.lo, .int .i64 d.sp.l.hi, .int .i64 d.sp.u.lo, .int .i64 d.sp.u.hi, .int .i64 d.pl, .int .i64 d.pu, .bool d.hd] 55)).alloc (.cells #[.int .i64 d.sh.lo.pos, .int .i64 d.sh.lo.vel, .int .i64 d.sh.lo.door, .int .i64 d.sh.up.pos, .int .i64 d.sh.up.vel, .int .i64 d.sh.up.door, .int .i64 d.sp.l.lo, .int .i64 d.sp.l.hi, .int .i64 d.sp.u.lo, .int .i64 d.sp.u.hi, .int .i64 d.pl, .int .i64 d.pu, .bool d.hd] 55)) := ⟨_, rfl⟩
  rw [← hW0] at F0 F1 FB
  have HW0 : Hid (W0 = ((w.alloc (.cells #[.int .i64 d.sh.lo.pos, .int .i64 d.sh.lo.vel, .int .i64 d.sh.lo.door, .int .i64 d.sh.up.pos, .int .i64 d.sh.up.vel, .int .i64 d.sh.up.door, .int .i64 d.sp.l.lo, .int .i64 d.sp.l.hi, .int .i64 d.sp.u.lo, .int .i64 d.sp.u.hi, .int .i64 d.pl, .int .i64 d.pu, .bool d.hd] 55)).alloc (.cells #[.int .i64 d.sh.lo.pos, .int .i64 d.sh.lo.vel, .int .i64 d.sh.lo.door, .int .i64 d.sh.up.pos, .int .i64 d.sh.up.vel, .int .i64 d.sh.up.door, .int .i64 d.sp.l.lo, .int .i64 d.sp.l.hi, .int .i64 d.sp.u.lo, .int .i64 d.sp.u.hi, .int .i64 d.pl, .int .i64 d.pu, .bool d.hd] 55))) := hW0
  clear hW0
  go_enter Tryz.func43, Tryz.ntmps43
  go_upto_region 1 with fail
  rw [← HW0.out]
  clear HW0
  have x0 := F0.out.c 0 _ rfl
  have x1 := F0.out.c 1 _ rfl
  have x2 := F0.out.c 2 _ rfl
  have x3 := F0.out.c 3 _ rfl
  have x4 := F0.out.c 4 _ rfl
  have x5 := F0.out.c 5 _ rfl
  have x6 := F0.out.c 6 _ rfl
  have x7 := F0.out.c 7 _ rfl
  have x8 := F0.out.c 8 _ rfl
  have x9 := F0.out.c 9 _ rfl
  have x10 := F0.out.c 10 _ rfl
  have x11 := F0.out.c 11 _ rfl
  have x12 := F0.out.c 12 _ rfl
  have y0 := F1.out.c 0 _ rfl
  have y1 := F1.out.c 1 _ rfl
  have y2 := F1.out.c 2 _ rfl
  have y3 := F1.out.c 3 _ rfl
  have y4 := F1.out.c 4 _ rfl
  have y5 := F1.out.c 5 _ rfl
  have y6 := F1.out.c 6 _ rfl
  have y7 := F1.out.c 7 _ rfl
  have y8 := F1.out.c 8 _ rfl
  have y9 := F1.out.c 9 _ rfl
  have y10 := F1.out.c 10 _ rfl
  have y11 := F1.out.c 11 _ rfl
  have y12 := F1.out.c 12 _ rfl
  go_wp2_with (first | (go_at_call 68; refine (eqShaft_same d.sh _).mono ?_; rintro e w1 ⟨rfl, hb⟩; have F0 : Hid (Blk w1 w.heap.size (cellsD d)) := F0.out.below hb F0.out.lt; have F1 : Hid (Blk w1 (w.heap.size + 1) (cellsD d)) := F1.out.below hb F1.out.lt; have FB : Hid (Below w.heap.size w w1) := FB.out.trans (hb.mono FB.out.size); clear hb; have x0 := F0.out.c 0 _ rfl; have x1 := F0.out.c 1 _ rfl; have x2 := F0.out.c 2 _ rfl; have x3 := F0.out.c 3 _ rfl; have x4 := F0.out.c 4 _ rfl; have x5 := F0.out.c 5 _ rfl; have x6 := F0.out.c 6 _ rfl; have x7 := F0.out.c 7 _ rfl; have x8 := F0.out.c 8 _ rfl; have x9 := F0.out.c 9 _ rfl; have x10 := F0.out.c 10 _ rfl; have x11 := F0.out.c 11 _ rfl; have x12 := F0.out.c 12 _ rfl; have y0 := F1.out.c 0 _ rfl; have y1 := F1.out.c 1 _ rfl; have y2 := F1.out.c 2 _ rfl; have y3 := F1.out.c 3 _ rfl; have y4 := F1.out.c 4 _ rfl; have y5 := F1.out.c 5 _ rfl; have y6 := F1.out.c 6 _ rfl; have y7 := F1.out.c 7 _ rfl; have y8 := F1.out.c 8 _ rfl; have y9 := F1.out.c 9 _ rfl; have y10 := F1.out.c 10 _ rfl; have y11 := F1.out.c 11 _ rfl; have y12 := F1.out.c 12 _ rfl) | (go_at_call 69; refine (eqSpans_same d.sp _).mono ?_; rintro e w1 ⟨rfl, hb⟩; have F0 : Hid (Blk w1 w.heap.size (cellsD d)) := F0.out.below hb F0.out.lt; have F1 : Hid (Blk w1 (w.heap.size + 1) (cellsD d)) := F1.out.below hb F1.out.lt; have FB : Hid (Below w.heap.size w w1) := FB.out.trans (hb.mono FB.out.size); clear hb; have x0 := F0.out.c 0 _ rfl; have x1 := F0.out.c 1 _ rfl; have x2 := F0.out.c 2 _ rfl; have x3 := F0.out.c 3 _ rfl; have x4 := F0.out.c 4 _ rfl; have x5 := F0.out.c 5 _ rfl; have x6 := F0.out.c 6 _ rfl; have x7 := F0.out.c 7 _ rfl; have x8 := F0.out.c 8 _ rfl; have x9 := F0.out.c 9 _ rfl; have x10 := F0.out.c 10 _ rfl; have x11 := F0.out.c 11 _ rfl; have x12 := F0.out.c 12 _ rfl; have y0 := F1.out.c 0 _ rfl; have y1 := F1.out.c 1 _ rfl; have y2 := F1.out.c 2 _ rfl; have y3 := F1.out.c 3 _ rfl; have y4 := F1.out.c 4 _ rfl; have y5 := F1.out.c 5 _ rfl; have y6 := F1.out.c 6 _ rfl; have y7 := F1.out.c 7 _ rfl; have y8 := F1.out.c 8 _ rfl; have y9 := F1.out.c 9 _ rfl; have y10 := F1.out.c 10 _ rfl; have y11 := F1.out.c 11 _ rfl; have y12 := F1.out.c 12 _ rfl))
  go_ret
  exact ⟨rfl, FB.out⟩
set_option maxRecDepth 20000 in
set_option maxHeartbeats 16000000 in
theorem eqDeckS_same (a a' : Option Addr) (cap cap' : Nat) (l : List Dk) (hl : l.length ≤ 1048576) (w : World) (h0 : DIn w w.heap.size a l) (h1 : DIn w w.heap.size a' l) :
    Calls Tryz.prog 25 #[.slice a l.length cap, .slice a' l.length cap'] w fun e w' => e = .returned (.bool true) ∧ Below w.heap.size w w' := by
  have H0 : Hid (DIn w w.heap.size a l) := h0
  have H1 : Hid (DIn w w.heap.size a' l) := h1
  clear h0 h1
  go_enter Tryz.func25, Tryz.ntmps25
  go_wp2_with fail
  go_loopw [5] (fun ii wr => ∃ i : Nat, ii = .int .i64 i ∧ i ≤ l.length ∧ Below w.heap.size w wr) (fun ii _ => l.length - (intOf ii).toNat)
  case atStart => exact ⟨0, rfl, by omega, Below.refl _ _⟩
  case round =>
    obtain ⟨i, rfl, hi, hb⟩ := hrel
    have FB : Hid (Below w.heap.size w wr) := hb
    by_cases hlt : i < l.length
    · obtain ⟨p, hp⟩ : ∃ p, l[i]? = some p := ⟨_, List.getElem?_eq_getElem hlt⟩
      rcases H0.out with h0 | ⟨b, o, rfl, hbl, h13⟩
      · rw [h0] at hlt; simp at hlt
      rcases H1.out with h0 | ⟨b', o', rfl, hbl', h13'⟩
      · rw [h0] at hlt; simp at hlt
      have F0 : Hid (D13 wr b (o + i * 13) p) := (h13 i p hp).below hb hbl
      have F1 : Hid (D13 wr b' (o' + i * 13) p) := (h13' i p hp).below hb hbl'
      clear hp h13 h13' hb
      go_wp2_with fail
      have F0 : Hid (D13 wr.drew b (o + i * 13) p) := F0.out.below (Below.refl _ _).drew F0.out.lt
      have F1 : Hid (D13 wr.drew b' (o' + i * 13) p) := F1.out.below (Below.refl _ _).drew F1.out.lt
      have FB : Hid (Below w.heap.size w wr.drew) := FB.out.drew
      have m0 := F0.out.c0
      have m1 := F0.out.c1
      have m2 := F0.out.c2
      have m3 := F0.out.c3
      have m4 := F0.out.c4
      have m5 := F0.out.c5
      have m6 := F0.out.c6
      have m7 := F0.out.c7
      have m8 := F0.out.c8
      have m9 := F0.out.c9
      have m10 := F0.out.c10
      have m11 := F0.out.c11
      have m12 := F0.out.c12
      have n0 := F1.out.c0
      have n1 := F1.out.c1
      have n2 := F1.out.c2
      have n3 := F1.out.c3
      have n4 := F1.out.c4
      have n5 := F1.out.c5
      have n6 := F1.out.c6
      have n7 := F1.out.c7
      have n8 := F1.out.c8
      have n9 := F1.out.c9
      have n10 := F1.out.c10
      have n11 := F1.out.c11
      have n12 := F1.out.c12
      refine wp_region_held_drew (S := (fun w'' => w''.cell? ⟨b, o + i * 13, none⟩ = some (.int .i64 p.sh.lo.pos) ∧ w''.cell? ⟨b, o + i * 13 + 1, none⟩ = some (.int .i64 p.sh.lo.vel) ∧ w''.cell? ⟨b, o + i * 13 + 2, none⟩ = some (.int .i64 p.sh.lo.door) ∧ w''.cell? ⟨b, o + i * 13 + 3, none⟩ = some (.int .i64 p.sh.up.pos) ∧ w''.cell? ⟨b, o + i * 13 + 4, none⟩ = some (.int .i64 p.sh.up.vel) ∧ w''.cell? ⟨b, o + i * 13 + 5, none⟩ = some (.int .i64 p.sh.up.door) ∧ w''.cell? ⟨b, o + i * 13 + 6, none⟩ = some (.int .i64 p.sp.l.lo) ∧ w''.cell? ⟨b, o + i * 13 + 7, none⟩ = some (.int .i64 p.sp.l.hi) ∧ w''.cell? ⟨b, o + i * 13 + 8, none⟩ = some (.int .i64 p.sp.u.lo) ∧ w''.cell? ⟨b, o + i * 13 + 9, none⟩ = some (.int .i64 p.sp.u.hi) ∧ w''.cell? ⟨b, o + i * 13 + 10, none⟩ = some (.int .i64 p.pl) ∧ w''.cell? ⟨b, o + i * 13 + 11, none⟩ = some (.int .i64 p.pu) ∧ w''.cell? ⟨b, o + i * 13 + 12, none⟩ = some (.bool p.hd) ∧ w''.cell? ⟨b', o' + i * 13, none⟩ = some (.int .i64 p.sh.lo.pos) ∧ w''.cell? ⟨b', o' + i * 13 + 1, none⟩ = some (.int .i64 p.sh.lo.vel) ∧ w''.cell? ⟨b', o' + i * 13 + 2, none⟩ = some (.int .i64 p.sh.lo.door) ∧ w''.cell? ⟨b', o' + i * 13 + 3, none⟩ = some (.int .i64 p.sh.up.pos) ∧ w''.cell? ⟨b', o' + i * 13 + 4, none⟩ = some (.int .i64 p.sh.up.vel) ∧ w''.cell? ⟨b', o' + i * 13 + 5, none⟩ = some (.int .i64 p.sh.up.door) ∧ w''.cell? ⟨b', o' + i * 13 + 6, none⟩ = some (.int .i64 p.sp.l.lo) ∧ w''.cell? ⟨b', o' + i * 13 + 7, none⟩ = some (.int .i64 p.sp.l.hi) ∧ w''.cell? ⟨b', o' + i * 13 + 8, none⟩ = some (.int .i64 p.sp.u.lo) ∧ w''.cell? ⟨b', o' + i * 13 + 9, none⟩ = some (.int .i64 p.sp.u.hi) ∧ w''.cell? ⟨b', o' + i * 13 + 10, none⟩ = some (.int .i64 p.pl) ∧ w''.cell? ⟨b', o' + i * 13 + 11, none⟩ = some (.int .i64 p.pu) ∧ w''.cell? ⟨b', o' + i * 13 + 12, none⟩ = some (.bool p.hd))) (by kernel_rfl) (by (try dsimp only); first | exact ⟨m0, m1, m2, m3, m4, m5, m6, m7, m8, m9, m10, m11, m12, n0, n1, n2, n3, n4, n5, n6, n7, n8, n9, n10, n11, n12⟩ | go_keep) (fun hHeld => ?_)
      obtain ⟨v_1, hw1⟩ : ∃ v_1, v_1 = wr.drew := ⟨_, rfl⟩
      have F0 : Hid (D13 v_1 b (o + i * 13) p) := by rw [hw1]; exact F0.out
      have F1 : Hid (D13 v_1 b' (o' + i * 13) p) := by rw [hw1]; exact F1.out
      have FB : Hid (Below w.heap.size w v_1) := by rw [hw1]; exact FB.out
      rw [← hw1] at hHeld ⊢
      clear hw1
      have m0 := F0.out.c0
      have m1 := F0.out.c1
      have m2 := F0.out.c2
      have m3 := F0.out.c3
      have m4 := F0.out.c4
      have m5 := F0.out.c5
      have m6 := F0.out.c6
      have m7 := F0.out.c7
      have m8 := F0.out.c8
      have m9 := F0.out.c9
      have m10 := F0.out.c10
      have m11 := F0.out.c11
      have m12 := F0.out.c12
      have n0 := F1.out.c0
      have n1 := F1.out.c1
      have n2 := F1.out.c2
      have n3 := F1.out.c3
      have n4 := F1.out.c4
      have n5 := F1.out.c5
      have n6 := F1.out.c6
      have n7 := F1.out.c7
      have n8 := F1.out.c8
      have n9 := F1.out.c9
      have n10 := F1.out.c10
      have n11 := F1.out.c11
      have n12 := F1.out.c12
      refine tkz 0 rfl ?_
      refine tkz 1 rfl ?_
      refine tkz 2 rfl ?_
      refine tkz 3 rfl ?_
      refine tkz 4 rfl ?_
      refine tkz 5 rfl ?_
      refine tkz 6 rfl ?_
      refine tkz 7 rfl ?_
      refine wpAnyH_ready (rs := [8]) (by kernel_rfl) (by simp) ?_
      refine (AllReadyH.cons rfl (fun K hK => ?_) AllReadyH.nil)
      go_simp
      refine (eqDeck_same p _).mono ?_
      rintro e v_2 ⟨rfl, hb⟩
      have F0 : Hid (D13 v_2 b (o + i * 13) p) := F0.out.below hb F0.out.lt
      have F1 : Hid (D13 v_2 b' (o' + i * 13) p) := F1.out.below hb F1.out.lt
      have FB : Hid (Below w.heap.size w v_2) := FB.out.trans (hb.mono FB.out.size)
      clear hb
      have m0 := F0.out.c0
      have m1 := F0.out.c1
      have m2 := F0.out.c2
      have m3 := F0.out.c3
      have m4 := F0.out.c4
      have m5 := F0.out.c5
      have m6 := F0.out.c6
      have m7 := F0.out.c7
      have m8 := F0.out.c8
      have m9 := F0.out.c9
      have m10 := F0.out.c10
      have m11 := F0.out.c11
      have m12 := F0.out.c12
      have n0 := F1.out.c0
      have n1 := F1.out.c1
      have n2 := F1.out.c2
      have n3 := F1.out.c3
      have n4 := F1.out.c4
      have n5 := F1.out.c5
      have n6 := F1.out.c6
      have n7 := F1.out.c7
      have n8 := F1.out.c8
      have n9 := F1.out.c9
      have n10 := F1.out.c10
      have n11 := F1.out.c11
      have n12 := F1.out.c12
      try dsimp only
      refine hK.out _ _ (by (try dsimp only); first | exact ⟨m0, m1, m2, m3, m4, m5, m6, m7, m8, m9, m10, m11, m12, n0, n1, n2, n3, n4, n5, n6, n7, n8, n9, n10, n11, n12⟩ | go_keep) (fun hHeld => ?_)
      clear hK K
      try simp only [Act.put, List.getElem_toArray, List.getElem_cons_succ, List.getElem_cons_zero, List.setIfInBounds_toArray, List.set_cons_zero, List.set_cons_succ]
      refine tkz 9 rfl ?_
      refine wpAnyH_done (by kernel_rfl) ?_ _
      go_wp2_with fail
      go_roundw
      case rel => exact ⟨i + 1, by simp, by omega, FB.out⟩
      case measure => simp [intOf]; omega
    · have ei : i = l.length := by omega
      subst ei
      clear hb
      go_wp2_with fail
      go_ret
      exact ⟨rfl, FB.out⟩
set_option maxRecDepth 20000 in
set_option maxHeartbeats 32000000 in
theorem eqGroup_same (h : Hs) (ds : List Dk) (da da' : Option Addr) (dc dc' : Nat) (nx : Int) (ps : List Pe) (pa pa' : Option Addr) (pc pc' : Nat) (tk : Int) (rc : Bool) (hld : ds.length ≤ 1048576) (hlp : ps.length ≤ 1048576) (w : World)
    (hD : DIn w w.heap.size da ds) (hD' : DIn w w.heap.size da' ds) (hP : PIn w w.heap.size pa ps) (hP' : PIn w w.heap.size pa' ps) :
    Calls Tryz.prog 8 #[.agg #[.int .i64 h.fl, .int .i64 h.gp, .int .i64 h.ln, .int .i64 h.rf, .int .i64 h.sp, .int .i64 h.pu, .int .i64 h.br, .int .i64 h.dr, .int .i64 h.lv, .int .i64 h.dO, .int .i64 h.ld, .int .i64 h.qu, .slice da ds.length dc, .int .i64 nx, .slice pa ps.length pc, .int .i64 tk, .bool rc], .agg #[.int .i64 h.fl, .int .i64 h.gp, .int .i64 h.ln, .int .i64 h.rf, .int .i64 h.sp, .int .i64 h.pu, .int .i64 h.br, .int .i64 h.dr, .int .i64 h.lv, .int .i64 h.dO, .int .i64 h.ld, .int .i64 h.qu, .slice da' ds.length dc', .int .i64 nx, .slice pa' ps.length pc', .int .i64 tk, .bool rc]] w fun e w' => e = .returned (.bool true) ∧ Below w.heap.size w w' := by
  have HD : Hid (DIn w w.heap.size da ds) := hD
  have HE : Hid (DIn w w.heap.size da' ds) := hD'
  have HP : Hid (PIn w w.heap.size pa ps) := hP
  have HQ : Hid (PIn w w.heap.size pa' ps) := hP'
  clear hD hD' hP hP'
  have F0 : Hid (Blk ((w.alloc (.cells #[.int .i64 h.fl, .int .i64 h.gp, .int .i64 h.ln, .int .i64 h.rf, .int .i64 h.sp, .int .i64 h.pu, .int .i64 h.br, .int .i64 h.dr, .int .i64 h.lv, .int .i64 h.dO, .int .i64 h.ld, .int .i64 h.qu, .slice da ds.length dc, .int .i64 nx, .slice pa ps.length pc, .int .i64 tk, .bool rc] 38)).alloc (.cells #[.int .i64 h.fl, .int .i64 h.gp, .int .i64 h.ln, .int .i64 h.rf, .int .i64 h.sp, .int .i64 h.pu, .int .i64 h.br, .int .i64 h.dr, .int .i64 h.lv, .int .i64 h.dO, .int .i64 h.ld, .int .i64 h.qu, .slice da' ds.length dc', .int .i64 nx, .slice pa' ps.length pc', .int .i64 tk, .bool rc] 38)) w.heap.size (gvs h (.slice da ds.length dc) nx (.slice pa ps.length pc) tk rc)) := (Blk.at_ w #[.int .i64 h.fl, .int .i64 h.gp, .int .i64 h.ln, .int .i64 h.rf, .int .i64 h.sp, .int .i64 h.pu, .int .i64 h.br, .int .i64 h.dr, .int .i64 h.lv, .int .i64 h.dO, .int .i64 h.ld, .int .i64 h.qu, .slice da ds.length dc, .int .i64 nx, .slice pa ps.length pc, .int .i64 tk, .bool rc] _ _ rfl).alloc _
  have F1 : Hid (Blk ((w.alloc (.cells #[.int .i64 h.fl, .int .i64 h.gp, .int .i64 h.ln, .int .i64 h.rf, .int .i64 h.sp, .int .i64 h.pu, .int .i64 h.br, .int .i64 h.dr, .int .i64 h.lv, .int .i64 h.dO, .int .i64 h.ld, .int .i64 h.qu, .slice da ds.length dc, .int .i64 nx, .slice pa ps.length pc, .int .i64 tk, .bool rc] 38)).alloc (.cells #[.int .i64 h.fl, .int .i64 h.gp, .int .i64 h.ln, .int .i64 h.rf, .int .i64 h.sp, .int .i64 h.pu, .int .i64 h.br, .int .i64 h.dr, .int .i64 h.lv, .int .i64 h.dO, .int .i64 h.ld, .int .i64 h.qu, .slice da' ds.length dc', .int .i64 nx, .slice pa' ps.length pc', .int .i64 tk, .bool rc] 38)) (w.heap.size + 1) (gvs h (.slice da' ds.length dc') nx (.slice pa' ps.length pc') tk rc)) := Blk.at_ _ #[.int .i64 h.fl, .int .i64 h.gp, .int .i64 h.ln, .int .i64 h.rf, .int .i64 h.sp, .int .i64 h.pu, .int .i64 h.br, .int .i64 h.dr, .int .i64 h.lv, .int .i64 h.dO, .int .i64 h.ld, .int .i64 h.qu, .slice da' ds.length dc', .int .i64 nx, .slice pa' ps.length pc', .int .i64 tk, .bool rc] _ _ (by simp)
  have FB : Hid (Below w.heap.size w ((w.alloc (.cells #[.int .i64 h.fl, .int .i64 h.gp, .int .i64 h.ln, .int .i64 h.rf, .int .i64 h.sp, .int .i64 h.pu, .int .i64 h.br, .int .i64 h.dr, .int .i64 h.lv, .int .i64 h.dO, .int .i64 h.ld, .int .i64 h.qu, .slice da ds.length dc, .int .i64 nx, .slice pa ps.length pc, .int .i64 tk, .bool rc] 38)).alloc (.cells #[.int .i64 h.fl, .int .i64 h.gp, .int .i64 h.ln, .int .i64 h.rf, .int .i64 h.sp, .int .i64 h.pu, .int .i64 h.br, .int .i64 h.dr, .int .i64 h.lv, .int .i64 h.dO, .int .i64 h.ld, .int .i64 h.qu, .slice da' ds.length dc', .int .i64 nx, .slice pa' ps.length pc', .int .i64 tk, .bool rc] 38))) := ((Below.refl _ _).alloc (Nat.le_refl _) _).alloc (by simp) _
  obtain ⟨W0, hW0⟩ : ∃ W0, W0 = ((w.alloc (.cells #[.int .i64 h.fl, .int .i64 h.gp, .int .i64 h.ln, .int .i64 h.rf, .int .i64 h.sp, .int .i64 h.pu, .int .i64 h.br, .int .i64 h.dr, .int .i64 h.lv, .int .i64 h.dO, .int .i64 h.ld, .int .i64 h.qu, .slice da ds.length dc, .int .i64 nx, .slice pa ps.length pc, .int .i64 tk, .bool rc] 38)).alloc (.cells #[.int .i64 h.fl, .int .i64 h.gp, .int .i64 h.ln, .int .i64 h.rf, .int .i64 h.sp, .int .i64 h.pu, .int .i64 h.br, .int .i64 h.dr, .int .i64 h.lv, .int .i64 h.dO, .int .i64 h.ld, .int .i64 h.qu, .slice da' ds.length dc', .int .i64 nx, .slice pa' ps.length pc', .int .i64 tk, .bool rc] 38)) := ⟨_, rfl⟩
  rw [← hW0] at F0 F1 FB
  have HW0 : Hid (W0 = ((w.alloc (.cells #[.int .i64 h.fl, .int .i64 h.gp, .int .i64 h.ln, .int .i64 h.rf, .int .i64 h.sp, .int .i64 h.pu, .int .i64 h.br, .int .i64 h.dr, .int .i64 h.lv, .int .i64 h.dO, .int .i64 h.ld, .int .i64 h.qu, .slice da ds.length dc, .int .i64 nx, .slice pa ps.length pc, .int .i64 tk, .bool rc] 38)).alloc (.cells #[.int .i64 h.fl, .int .i64 h.gp, .int .i64 h.ln, .int .i64 h.rf, .int .i64 h.sp, .int .i64 h.pu, .int .i64 h.br, .int .i64 h.dr, .int .i64 h.lv, .int .i64 h.dO, .int .i64 h.ld, .int .i64 h.qu, .slice da' ds.length dc', .int .i64 nx, .slice pa' ps.length pc', .int .i64 tk, .bool rc] 38))) := hW0
  clear hW0
  go_enter Tryz.func8, Tryz.ntmps8
  go_upto_region 1 with fail
  rw [← HW0.out]
  clear HW0
  have x0 := F0.out.c 0 _ rfl
  have x1 := F0.out.c 1 _ rfl
  have x2 := F0.out.c 2 _ rfl
  have x3 := F0.out.c 3 _ rfl
  have x4 := F0.out.c 4 _ rfl
  have x5 := F0.out.c 5 _ rfl
  have x6 := F0.out.c 6 _ rfl
  have x7 := F0.out.c 7 _ rfl
  have x8 := F0.out.c 8 _ rfl
  have x9 := F0.out.c 9 _ rfl
  have x10 := F0.out.c 10 _ rfl
  have x11 := F0.out.c 11 _ rfl
  have x12 := F0.out.c 12 _ rfl
  have x13 := F0.out.c 13 _ rfl
  have x14 := F0.out.c 14 _ rfl
  have x15 := F0.out.c 15 _ rfl
  have x16 := F0.out.c 16 _ rfl
  have y0 := F1.out.c 0 _ rfl
  have y1 := F1.out.c 1 _ rfl
  have y2 := F1.out.c 2 _ rfl
  have y3 := F1.out.c 3 _ rfl
  have y4 := F1.out.c 4 _ rfl
  have y5 := F1.out.c 5 _ rfl
  have y6 := F1.out.c 6 _ rfl
  have y7 := F1.out.c 7 _ rfl
  have y8 := F1.out.c 8 _ rfl
  have y9 := F1.out.c 9 _ rfl
  have y10 := F1.out.c 10 _ rfl
  have y11 := F1.out.c 11 _ rfl
  have y12 := F1.out.c 12 _ rfl
  have y13 := F1.out.c 13 _ rfl
  have y14 := F1.out.c 14 _ rfl
  have y15 := F1.out.c 15 _ rfl
  have y16 := F1.out.c 16 _ rfl
  go_wp2_with (first | (go_at_call 24; refine (eqHouse_same h _).mono ?_; rintro e w1 ⟨rfl, hb⟩; have F0 : Hid (Blk w1 w.heap.size (gvs h (.slice da ds.length dc) nx (.slice pa ps.length pc) tk rc)) := F0.out.below hb F0.out.lt; have F1 : Hid (Blk w1 (w.heap.size + 1) (gvs h (.slice da' ds.length dc') nx (.slice pa' ps.length pc') tk rc)) := F1.out.below hb F1.out.lt; have FB : Hid (Below w.heap.size w w1) := FB.out.trans (hb.mono FB.out.size); clear hb; have x0 := F0.out.c 0 _ rfl; have x1 := F0.out.c 1 _ rfl; have x2 := F0.out.c 2 _ rfl; have x3 := F0.out.c 3 _ rfl; have x4 := F0.out.c 4 _ rfl; have x5 := F0.out.c 5 _ rfl; have x6 := F0.out.c 6 _ rfl; have x7 := F0.out.c 7 _ rfl; have x8 := F0.out.c 8 _ rfl; have x9 := F0.out.c 9 _ rfl; have x10 := F0.out.c 10 _ rfl; have x11 := F0.out.c 11 _ rfl; have x12 := F0.out.c 12 _ rfl; have x13 := F0.out.c 13 _ rfl; have x14 := F0.out.c 14 _ rfl; have x15 := F0.out.c 15 _ rfl; have x16 := F0.out.c 16 _ rfl; have y0 := F1.out.c 0 _ rfl; have y1 := F1.out.c 1 _ rfl; have y2 := F1.out.c 2 _ rfl; have y3 := F1.out.c 3 _ rfl; have y4 := F1.out.c 4 _ rfl; have y5 := F1.out.c 5 _ rfl; have y6 := F1.out.c 6 _ rfl; have y7 := F1.out.c 7 _ rfl; have y8 := F1.out.c 8 _ rfl; have y9 := F1.out.c 9 _ rfl; have y10 := F1.out.c 10 _ rfl; have y11 := F1.out.c 11 _ rfl; have y12 := F1.out.c 12 _ rfl; have y13 := F1.out.c 13 _ rfl; have y14 := F1.out.c 14 _ rfl; have y15 := F1.out.c 15 _ rfl; have y16 := F1.out.c 16 _ rfl) | (go_at_call 25; refine (eqDeckS_same da da' dc dc' ds hld _ ((HD.out.below FB.out (Nat.le_refl _)).mono FB.out.size) ((HE.out.below FB.out (Nat.le_refl _)).mono FB.out.size)).mono ?_; rintro e w1 ⟨rfl, hb⟩; have F0 : Hid (Blk w1 w.heap.size (gvs h (.slice da ds.length dc) nx (.slice pa ps.length pc) tk rc)) := F0.out.below hb F0.out.lt; have F1 : Hid (Blk w1 (w.heap.size + 1) (gvs h (.slice da' ds.length dc') nx (.slice pa' ps.length pc') tk rc)) := F1.out.below hb F1.out.lt; have FB : Hid (Below w.heap.size w w1) := FB.out.trans (hb.mono FB.out.size); clear hb; have x0 := F0.out.c 0 _ rfl; have x1 := F0.out.c 1 _ rfl; have x2 := F0.out.c 2 _ rfl; have x3 := F0.out.c 3 _ rfl; have x4 := F0.out.c 4 _ rfl; have x5 := F0.out.c 5 _ rfl; have x6 := F0.out.c 6 _ rfl; have x7 := F0.out.c 7 _ rfl; have x8 := F0.out.c 8 _ rfl; have x9 := F0.out.c 9 _ rfl; have x10 := F0.out.c 10 _ rfl; have x11 := F0.out.c 11 _ rfl; have x12 := F0.out.c 12 _ rfl; have x13 := F0.out.c 13 _ rfl; have x14 := F0.out.c 14 _ rfl; have x15 := F0.out.c 15 _ rfl; have x16 := F0.out.c 16 _ rfl; have y0 := F1.out.c 0 _ rfl; have y1 := F1.out.c 1 _ rfl; have y2 := F1.out.c 2 _ rfl; have y3 := F1.out.c 3 _ rfl; have y4 := F1.out.c 4 _ rfl; have y5 := F1.out.c 5 _ rfl; have y6 := F1.out.c 6 _ rfl; have y7 := F1.out.c 7 _ rfl; have y8 := F1.out.c 8 _ rfl; have y9 := F1.out.c 9 _ rfl; have y10 := F1.out.c 10 _ rfl; have y11 := F1.out.c 11 _ rfl; have y12 := F1.out.c 12 _ rfl; have y13 := F1.out.c 13 _ rfl; have y14 := F1.out.c 14 _ rfl; have y15 := F1.out.c 15 _ rfl; have y16 := F1.out.c 16 _ rfl) | (go_at_call 26; refine (eqLedger_same nx pa pa' pc pc' ps hlp _ ((HP.out.below FB.out (Nat.le_refl _)).mono FB.out.size) ((HQ.out.below FB.out (Nat.le_refl _)).mono FB.out.size)).mono ?_; rintro e w1 ⟨rfl, hb⟩; have F0 : Hid (Blk w1 w.heap.size (gvs h (.slice da ds.length dc) nx (.slice pa ps.length pc) tk rc)) := F0.out.below hb F0.out.lt; have F1 : Hid (Blk w1 (w.heap.size + 1) (gvs h (.slice da' ds.length dc') nx (.slice pa' ps.length pc') tk rc)) := F1.out.below hb F1.out.lt; have FB : Hid (Below w.heap.size w w1) := FB.out.trans (hb.mono FB.out.size); clear hb; have x0 := F0.out.c 0 _ rfl; have x1 := F0.out.c 1 _ rfl; have x2 := F0.out.c 2 _ rfl; have x3 := F0.out.c 3 _ rfl; have x4 := F0.out.c 4 _ rfl; have x5 := F0.out.c 5 _ rfl; have x6 := F0.out.c 6 _ rfl; have x7 := F0.out.c 7 _ rfl; have x8 := F0.out.c 8 _ rfl; have x9 := F0.out.c 9 _ rfl; have x10 := F0.out.c 10 _ rfl; have x11 := F0.out.c 11 _ rfl; have x12 := F0.out.c 12 _ rfl; have x13 := F0.out.c 13 _ rfl; have x14 := F0.out.c 14 _ rfl; have x15 := F0.out.c 15 _ rfl; have x16 := F0.out.c 16 _ rfl; have y0 := F1.out.c 0 _ rfl; have y1 := F1.out.c 1 _ rfl; have y2 := F1.out.c 2 _ rfl; have y3 := F1.out.c 3 _ rfl; have y4 := F1.out.c 4 _ rfl; have y5 := F1.out.c 5 _ rfl; have y6 := F1.out.c 6 _ rfl; have y7 := F1.out.c 7 _ rfl; have y8 := F1.out.c 8 _ rfl; have y9 := F1.out.c 9 _ rfl; have y10 := F1.out.c 10 _ rfl; have y11 := F1.out.c 11 _ rfl; have y12 := F1.out.c 12 _ rfl; have y13 := F1.out.c 13 _ rfl; have y14 := F1.out.c 14 _ rfl; have y15 := F1.out.c 15 _ rfl; have y16 := F1.out.c 16 _ rfl))
  go_ret
  exact ⟨rfl, FB.out⟩
end Go.Proofs.YtnfdplfifpmhoaaGreatDoor
