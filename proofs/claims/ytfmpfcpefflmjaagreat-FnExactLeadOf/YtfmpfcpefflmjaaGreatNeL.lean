/-
  The program's group: LeadOf.
-/
import Derived.Test.YtfmpfcpefflmjaaGreatNeI
import Derived.Test.YtfmpfcpefflmjaaGreatNeB
import Derived.BigGuardPart
import Derived.Deep.DeepCutAuto
namespace Go.Proofs.YtfmpfcpefflmjaaGreat
open Go.RowKit Pl
set_option linter.unusedSimpArgs false
set_option linter.unusedVariables false

theorem load_arr {ops : Array Oper} {rest : List Oper} {o : Oper} {act : Act} {w : World} {Q : Exit → Act → World → Prop} {b : Nat} {vs : List Value} (T : TypeId) (x : Operand) {n : Nat} {e : TypeId} (hu : Tryz.prog.underlying T = some (.array n e)) (hi : (Tryz.prog.info? T).map (·.size) = some vs.toArray.size) (hB : Blk w b vs)
    (hgd : o.guard = none) (ho : o.op = .load T x) (hx : act.eval x = .pointer (some ⟨b, 0, none⟩)) (h : wpList Tryz.prog ops Q rest (act.put o.dst (.agg vs.toArray)) w) : wpList Tryz.prog ops Q (o :: rest) act w := by
  obtain ⟨T', h'⟩ := hB.o
  exact wpList_load_row hgd T x ho b hx T' vs.toArray (0, 0) (.array n e) h' hu rfl hi h
theorem Blk.resA {fn : Func} {p : Tmp} {T : TypeId} {b : Nat} {vs : List Value} {w : World} {n : Nat} {e : TypeId} (hB : Blk w b vs) (tmps : Array Value) (h : fn.results = #[.cell p T]) (hu : Tryz.prog.underlying T = some (.array n e)) (hi : (Tryz.prog.info? T).map (·.size) = some vs.toArray.size) (hp : tmps.getD p undef = .pointer (some ⟨b, 0, none⟩)) :
    (results fn tmps).run Tryz.prog w = .ok (.agg vs.toArray) w := by
  obtain ⟨T', h'⟩ := hB.o
  exact results_cell_row h tmps w b T' vs.toArray (0, 0) (.array n e) hp h' hu rfl hi
set_option maxRecDepth 20000 in
set_option maxHeartbeats 32000000 in
theorem needsIn_any (h : Hs) (ds : List Dk) (da : Option Addr) (dc : Nat) (nx : Int) (ps : List Pe) (pa : Option Addr) (pc : Nat) (tk : Int) (rc : Bool) (sh : Int) (gf : Gr.fault ⟨h, ds, ⟨nx, ps⟩, tk, rc⟩ = 0) (s0 : 0 ≤ sh) (s1 : sh < ds.length) (hld : ds.length ≤ 1048576) (hlp : ps.length ≤ 1048576) (w : World) (hD : DIn w w.heap.size da ds) (hP : PIn w w.heap.size pa ps) :
    Calls Tryz.prog 20 #[.agg #[.int .i64 h.fl, .int .i64 h.gp, .int .i64 h.ln, .int .i64 h.rf, .int .i64 h.sp, .int .i64 h.pu, .int .i64 h.br, .int .i64 h.dr, .int .i64 h.lv, .int .i64 h.dO, .int .i64 h.ld, .int .i64 h.qu, .slice da ds.length dc, .int .i64 nx, .slice pa ps.length pc, .int .i64 tk, .bool rc], .int .i64 sh] w fun e w' => e = .returned (.agg #[.int .i64 (need8 h ds ps rc sh 0).1, .int .i64 (need8 h ds ps rc sh 0).2.1, .int .i64 (need8 h ds ps rc sh 0).2.2, .int .i64 (need8 h ds ps rc sh 1).1, .int .i64 (need8 h ds ps rc sh 1).2.1, .int .i64 (need8 h ds ps rc sh 1).2.2]) ∧ Below w.heap.size w w' := by
  have HD : Hid (DIn w w.heap.size da ds) := hD
  have HP : Hid (PIn w w.heap.size pa ps) := hP
  have F0 : Hid (Blk ((w.alloc (.cells #[.int .i64 h.fl, .int .i64 h.gp, .int .i64 h.ln, .int .i64 h.rf, .int .i64 h.sp, .int .i64 h.pu, .int .i64 h.br, .int .i64 h.dr, .int .i64 h.lv, .int .i64 h.dO, .int .i64 h.ld, .int .i64 h.qu, .slice da ds.length dc, .int .i64 nx, .slice pa ps.length pc, .int .i64 tk, .bool rc] 40)).alloc (.cells #[.int .i64 0, .int .i64 0, .int .i64 0, .int .i64 0, .int .i64 0, .int .i64 0] 57)) w.heap.size (gvs h (.slice da ds.length dc) nx (.slice pa ps.length pc) tk rc)) := (Blk.at_ w #[.int .i64 h.fl, .int .i64 h.gp, .int .i64 h.ln, .int .i64 h.rf, .int .i64 h.sp, .int .i64 h.pu, .int .i64 h.br, .int .i64 h.dr, .int .i64 h.lv, .int .i64 h.dO, .int .i64 h.ld, .int .i64 h.qu, .slice da ds.length dc, .int .i64 nx, .slice pa ps.length pc, .int .i64 tk, .bool rc] _ _ rfl).alloc _
  have F1 : Hid (Blk ((w.alloc (.cells #[.int .i64 h.fl, .int .i64 h.gp, .int .i64 h.ln, .int .i64 h.rf, .int .i64 h.sp, .int .i64 h.pu, .int .i64 h.br, .int .i64 h.dr, .int .i64 h.lv, .int .i64 h.dO, .int .i64 h.ld, .int .i64 h.qu, .slice da ds.length dc, .int .i64 nx, .slice pa ps.length pc, .int .i64 tk, .bool rc] 40)).alloc (.cells #[.int .i64 0, .int .i64 0, .int .i64 0, .int .i64 0, .int .i64 0, .int .i64 0] 57)) (w.heap.size + 1) [.int .i64 0, .int .i64 0, .int .i64 0, .int .i64 0, .int .i64 0, .int .i64 0]) := Blk.at_ _ #[.int .i64 0, .int .i64 0, .int .i64 0, .int .i64 0, .int .i64 0, .int .i64 0] _ _ (by simp)
  have FB : Hid (Below w.heap.size w ((w.alloc (.cells #[.int .i64 h.fl, .int .i64 h.gp, .int .i64 h.ln, .int .i64 h.rf, .int .i64 h.sp, .int .i64 h.pu, .int .i64 h.br, .int .i64 h.dr, .int .i64 h.lv, .int .i64 h.dO, .int .i64 h.ld, .int .i64 h.qu, .slice da ds.length dc, .int .i64 nx, .slice pa ps.length pc, .int .i64 tk, .bool rc] 40)).alloc (.cells #[.int .i64 0, .int .i64 0, .int .i64 0, .int .i64 0, .int .i64 0, .int .i64 0] 57))) := ((Below.refl _ _).alloc (Nat.le_refl _) _).alloc (by simp) _
  obtain ⟨W0, hW0⟩ : ∃ W0, W0 = ((w.alloc (.cells #[.int .i64 h.fl, .int .i64 h.gp, .int .i64 h.ln, .int .i64 h.rf, .int .i64 h.sp, .int .i64 h.pu, .int .i64 h.br, .int .i64 h.dr, .int .i64 h.lv, .int .i64 h.dO, .int .i64 h.ld, .int .i64 h.qu, .slice da ds.length dc, .int .i64 nx, .slice pa ps.length pc, .int .i64 tk, .bool rc] 40)).alloc (.cells #[.int .i64 0, .int .i64 0, .int .i64 0, .int .i64 0, .int .i64 0, .int .i64 0] 57)) := ⟨_, rfl⟩
  rw [← hW0] at F0 F1 FB
  have HW0 : Hid (W0 = ((w.alloc (.cells #[.int .i64 h.fl, .int .i64 h.gp, .int .i64 h.ln, .int .i64 h.rf, .int .i64 h.sp, .int .i64 h.pu, .int .i64 h.br, .int .i64 h.dr, .int .i64 h.lv, .int .i64 h.dO, .int .i64 h.ld, .int .i64 h.qu, .slice da ds.length dc, .int .i64 nx, .slice pa ps.length pc, .int .i64 tk, .bool rc] 40)).alloc (.cells #[.int .i64 0, .int .i64 0, .int .i64 0, .int .i64 0, .int .i64 0, .int .i64 0] 57))) := hW0
  clear hW0 hD hP
  have HF : Hid (Gr.fault ⟨h, ds, ⟨nx, ps⟩, tk, rc⟩ = 0) := gf
  clear gf
  go_enter Tryz.func20, Tryz.ntmps20
  go_upto_region 1 with fail
  rw [← HW0.out]
  clear HW0
  have F0 : Hid (Blk W0.drew w.heap.size (gvs h (.slice da ds.length dc) nx (.slice pa ps.length pc) tk rc)) := F0.out.below (Below.refl _ _).drew F0.out.lt
  have F1 : Hid (Blk W0.drew (w.heap.size + 1) [.int .i64 0, .int .i64 0, .int .i64 0, .int .i64 0, .int .i64 0, .int .i64 0]) := F1.out.below (Below.refl _ _).drew F1.out.lt
  have FB : Hid (Below w.heap.size w W0.drew) := FB.out.drew
  have x0 := F0.out.c 0 _ rfl
  have x1 := F0.out.c 1 _ rfl
  have x2 := F0.out.c 2 _ rfl
  have x3 := F0.out.c 3 _ rfl
  have x4 := F0.out.c 4 _ rfl
  have x5 := F0.out.c 5 _ rfl
  have x6 := F0.out.c 6 _ rfl
  have x7 := F0.out.c 7 _ rfl
  have x8 := F0.out.c 8 _ rfl
  have x9 := F0.out.c 9 _ rfl
  have x10 := F0.out.c 10 _ rfl
  have x11 := F0.out.c 11 _ rfl
  have x12 := F0.out.c 12 _ rfl
  have x13 := F0.out.c 13 _ rfl
  have x14 := F0.out.c 14 _ rfl
  have x15 := F0.out.c 15 _ rfl
  have x16 := F0.out.c 16 _ rfl
  refine wp_region_held_drew (S := (fun w'' => w''.cell? ⟨w.heap.size, 0, none⟩ = some (.int .i64 h.fl) ∧ w''.cell? ⟨w.heap.size, 1, none⟩ = some (.int .i64 h.gp) ∧ w''.cell? ⟨w.heap.size, 2, none⟩ = some (.int .i64 h.ln) ∧ w''.cell? ⟨w.heap.size, 3, none⟩ = some (.int .i64 h.rf) ∧ w''.cell? ⟨w.heap.size, 4, none⟩ = some (.int .i64 h.sp) ∧ w''.cell? ⟨w.heap.size, 5, none⟩ = some (.int .i64 h.pu) ∧ w''.cell? ⟨w.heap.size, 6, none⟩ = some (.int .i64 h.br) ∧ w''.cell? ⟨w.heap.size, 7, none⟩ = some (.int .i64 h.dr) ∧ w''.cell? ⟨w.heap.size, 8, none⟩ = some (.int .i64 h.lv) ∧ w''.cell? ⟨w.heap.size, 9, none⟩ = some (.int .i64 h.dO) ∧ w''.cell? ⟨w.heap.size, 10, none⟩ = some (.int .i64 h.ld) ∧ w''.cell? ⟨w.heap.size, 11, none⟩ = some (.int .i64 h.qu) ∧ w''.cell? ⟨w.heap.size, 12, none⟩ = some (.slice da ds.length dc) ∧ w''.cell? ⟨w.heap.size, 13, none⟩ = some (.int .i64 nx) ∧ w''.cell? ⟨w.heap.size, 14, none⟩ = some (.slice pa ps.length pc) ∧ w''.cell? ⟨w.heap.size, 15, none⟩ = some (.int .i64 tk) ∧ w''.cell? ⟨w.heap.size, 16, none⟩ = some (.bool rc))) (by kernel_rfl) (by (try dsimp only); first | exact ⟨x0, x1, x2, x3, x4, x5, x6, x7, x8, x9, x10, x11, x12, x13, x14, x15, x16⟩ | go_keep) (fun hHeld => ?_)
  obtain ⟨v_1, hw1⟩ : ∃ v_1, v_1 = W0.drew := ⟨_, rfl⟩
  have F0 : Hid (Blk v_1 w.heap.size (gvs h (.slice da ds.length dc) nx (.slice pa ps.length pc) tk rc)) := by rw [hw1]; exact F0.out
  have F1 : Hid (Blk v_1 (w.heap.size + 1) [.int .i64 0, .int .i64 0, .int .i64 0, .int .i64 0, .int .i64 0, .int .i64 0]) := by rw [hw1]; exact F1.out
  have FB : Hid (Below w.heap.size w v_1) := by rw [hw1]; exact FB.out
  rw [← hw1] at hHeld ⊢
  clear hw1
  have x0 := F0.out.c 0 _ rfl
  have x1 := F0.out.c 1 _ rfl
  have x2 := F0.out.c 2 _ rfl
  have x3 := F0.out.c 3 _ rfl
  have x4 := F0.out.c 4 _ rfl
  have x5 := F0.out.c 5 _ rfl
  have x6 := F0.out.c 6 _ rfl
  have x7 := F0.out.c 7 _ rfl
  have x8 := F0.out.c 8 _ rfl
  have x9 := F0.out.c 9 _ rfl
  have x10 := F0.out.c 10 _ rfl
  have x11 := F0.out.c 11 _ rfl
  have x12 := F0.out.c 12 _ rfl
  have x13 := F0.out.c 13 _ rfl
  have x14 := F0.out.c 14 _ rfl
  have x15 := F0.out.c 15 _ rfl
  have x16 := F0.out.c 16 _ rfl
  refine tkz 0 rfl ?_
  refine tkz 1 rfl ?_
  refine tkz 3 rfl ?_
  refine tkz 4 rfl ?_
  refine wpAnyH_ready (rs := [2]) (by kernel_rfl) (by simp) ?_
  refine (AllReadyH.cons rfl (fun K hK => ?_) AllReadyH.nil)
  go_simp
  refine (needIn_any h ds da dc nx ps pa pc tk rc sh _ HF.out s0 s1 (by omega) (by omega) hld hlp _ ((HD.out.below FB.out (Nat.le_refl _)).mono FB.out.size) ((HP.out.below FB.out (Nat.le_refl _)).mono FB.out.size)).mono ?_
  rintro e v_2 ⟨rfl, hb⟩
  have F0 : Hid (Blk v_2 w.heap.size (gvs h (.slice da ds.length dc) nx (.slice pa ps.length pc) tk rc)) := F0.out.below hb F0.out.lt
  have F1 : Hid (Blk v_2 (w.heap.size + 1) [.int .i64 0, .int .i64 0, .int .i64 0, .int .i64 0, .int .i64 0, .int .i64 0]) := F1.out.below hb F1.out.lt
  have FB : Hid (Below w.heap.size w v_2) := FB.out.trans (hb.mono FB.out.size)
  clear hb
  have x0 := F0.out.c 0 _ rfl
  have x1 := F0.out.c 1 _ rfl
  have x2 := F0.out.c 2 _ rfl
  have x3 := F0.out.c 3 _ rfl
  have x4 := F0.out.c 4 _ rfl
  have x5 := F0.out.c 5 _ rfl
  have x6 := F0.out.c 6 _ rfl
  have x7 := F0.out.c 7 _ rfl
  have x8 := F0.out.c 8 _ rfl
  have x9 := F0.out.c 9 _ rfl
  have x10 := F0.out.c 10 _ rfl
  have x11 := F0.out.c 11 _ rfl
  have x12 := F0.out.c 12 _ rfl
  have x13 := F0.out.c 13 _ rfl
  have x14 := F0.out.c 14 _ rfl
  have x15 := F0.out.c 15 _ rfl
  have x16 := F0.out.c 16 _ rfl
  try dsimp only
  refine hK.out _ _ (by (try dsimp only); first | exact ⟨x0, x1, x2, x3, x4, x5, x6, x7, x8, x9, x10, x11, x12, x13, x14, x15, x16⟩ | go_keep) (fun hHeld => ?_)
  clear hK K
  try simp only [Act.put, List.getElem_toArray, List.getElem_cons_succ, List.getElem_cons_zero, List.setIfInBounds_toArray, List.set_cons_zero, List.set_cons_succ]
  refine wpAnyH_ready (rs := [5]) (by kernel_rfl) (by simp) ?_
  refine (AllReadyH.cons rfl (fun K hK => ?_) AllReadyH.nil)
  go_simp
  refine (needIn_any h ds da dc nx ps pa pc tk rc sh _ HF.out s0 s1 (by omega) (by omega) hld hlp _ ((HD.out.below FB.out (Nat.le_refl _)).mono FB.out.size) ((HP.out.below FB.out (Nat.le_refl _)).mono FB.out.size)).mono ?_
  rintro e v_3 ⟨rfl, hb⟩
  have F0 : Hid (Blk v_3 w.heap.size (gvs h (.slice da ds.length dc) nx (.slice pa ps.length pc) tk rc)) := F0.out.below hb F0.out.lt
  have F1 : Hid (Blk v_3 (w.heap.size + 1) [.int .i64 0, .int .i64 0, .int .i64 0, .int .i64 0, .int .i64 0, .int .i64 0]) := F1.out.below hb F1.out.lt
  have FB : Hid (Below w.heap.size w v_3) := FB.out.trans (hb.mono FB.out.size)
  clear hb
  have x0 := F0.out.c 0 _ rfl
  have x1 := F0.out.c 1 _ rfl
  have x2 := F0.out.c 2 _ rfl
  have x3 := F0.out.c 3 _ rfl
  have x4 := F0.out.c 4 _ rfl
  have x5 := F0.out.c 5 _ rfl
  have x6 := F0.out.c 6 _ rfl
  have x7 := F0.out.c 7 _ rfl
  have x8 := F0.out.c 8 _ rfl
  have x9 := F0.out.c 9 _ rfl
  have x10 := F0.out.c 10 _ rfl
  have x11 := F0.out.c 11 _ rfl
  have x12 := F0.out.c 12 _ rfl
  have x13 := F0.out.c 13 _ rfl
  have x14 := F0.out.c 14 _ rfl
  have x15 := F0.out.c 15 _ rfl
  have x16 := F0.out.c 16 _ rfl
  try dsimp only
  refine hK.out _ _ (by (try dsimp only); first | exact ⟨x0, x1, x2, x3, x4, x5, x6, x7, x8, x9, x10, x11, x12, x13, x14, x15, x16⟩ | go_keep) (fun hHeld => ?_)
  clear hK K
  try simp only [Act.put, List.getElem_toArray, List.getElem_cons_succ, List.getElem_cons_zero, List.setIfInBounds_toArray, List.set_cons_zero, List.set_cons_succ]
  refine tkz 6 rfl ?_
  refine wpAnyH_ready (rs := [7]) (by kernel_rfl) (by simp) ?_
  refine (AllReadyH.cons rfl (fun K hK => ?_) AllReadyH.nil)
  have z0 := F1.out.c 0 _ rfl
  have z1 := F1.out.c 1 _ rfl
  have z2 := F1.out.c 2 _ rfl
  have z3 := F1.out.c 3 _ rfl
  have z4 := F1.out.c 4 _ rfl
  have z5 := F1.out.c 5 _ rfl
  have zf0 := F1.out.f 0 (Nat.le_of_ble_eq_true rfl)
  have zf1 := F1.out.f 1 (Nat.le_of_ble_eq_true rfl)
  have zf2 := F1.out.f 2 (Nat.le_of_ble_eq_true rfl)
  have zf3 := F1.out.f 3 (Nat.le_of_ble_eq_true rfl)
  have zf4 := F1.out.f 4 (Nat.le_of_ble_eq_true rfl)
  have zf5 := F1.out.f 5 (Nat.le_of_ble_eq_true rfl)
  go_simp
  obtain ⟨v_4, hw2⟩ : ∃ v_4, v_4 = putB v_3 (w.heap.size + 1) 0 [.int .i64 (need8 h ds ps rc sh 0).1, .int .i64 (need8 h ds ps rc sh 0).2.1, .int .i64 (need8 h ds ps rc sh 0).2.2, .int .i64 (need8 h ds ps rc sh 1).1, .int .i64 (need8 h ds ps rc sh 1).2.1, .int .i64 (need8 h ds ps rc sh 1).2.2] := ⟨_, rfl⟩
  change K _ (putB v_3 (w.heap.size + 1) 0 [.int .i64 (need8 h ds ps rc sh 0).1, .int .i64 (need8 h ds ps rc sh 0).2.1, .int .i64 (need8 h ds ps rc sh 0).2.2, .int .i64 (need8 h ds ps rc sh 1).1, .int .i64 (need8 h ds ps rc sh 1).2.1, .int .i64 (need8 h ds ps rc sh 1).2.2])
  rw [← hw2]
  clear z0 zf0 z1 zf1 z2 zf2 z3 zf3 z4 zf4 z5 zf5
  have F0 : Hid (Blk v_4 w.heap.size (gvs h (.slice da ds.length dc) nx (.slice pa ps.length pc) tk rc)) := by rw [hw2]; exact Blk.putB_other (by omega) [.int .i64 (need8 h ds ps rc sh 0).1, .int .i64 (need8 h ds ps rc sh 0).2.1, .int .i64 (need8 h ds ps rc sh 0).2.2, .int .i64 (need8 h ds ps rc sh 1).1, .int .i64 (need8 h ds ps rc sh 1).2.1, .int .i64 (need8 h ds ps rc sh 1).2.2] 0 F0.out
  have F1 : Hid (Blk v_4 (w.heap.size + 1) [.int .i64 (need8 h ds ps rc sh 0).1, .int .i64 (need8 h ds ps rc sh 0).2.1, .int .i64 (need8 h ds ps rc sh 0).2.2, .int .i64 (need8 h ds ps rc sh 1).1, .int .i64 (need8 h ds ps rc sh 1).2.1, .int .i64 (need8 h ds ps rc sh 1).2.2]) := by rw [hw2]; exact F1.out.put [.int .i64 (need8 h ds ps rc sh 0).1, .int .i64 (need8 h ds ps rc sh 0).2.1, .int .i64 (need8 h ds ps rc sh 0).2.2, .int .i64 (need8 h ds ps rc sh 1).1, .int .i64 (need8 h ds ps rc sh 1).2.1, .int .i64 (need8 h ds ps rc sh 1).2.2] rfl
  have FB : Hid (Below w.heap.size w v_4) := by rw [hw2]; exact below_putB FB.out (by omega) _ _
  clear hw2
  have x0 := F0.out.c 0 _ rfl
  have x1 := F0.out.c 1 _ rfl
  have x2 := F0.out.c 2 _ rfl
  have x3 := F0.out.c 3 _ rfl
  have x4 := F0.out.c 4 _ rfl
  have x5 := F0.out.c 5 _ rfl
  have x6 := F0.out.c 6 _ rfl
  have x7 := F0.out.c 7 _ rfl
  have x8 := F0.out.c 8 _ rfl
  have x9 := F0.out.c 9 _ rfl
  have x10 := F0.out.c 10 _ rfl
  have x11 := F0.out.c 11 _ rfl
  have x12 := F0.out.c 12 _ rfl
  have x13 := F0.out.c 13 _ rfl
  have x14 := F0.out.c 14 _ rfl
  have x15 := F0.out.c 15 _ rfl
  have x16 := F0.out.c 16 _ rfl
  refine hK.out _ _ (by (try dsimp only); first | exact ⟨x0, x1, x2, x3, x4, x5, x6, x7, x8, x9, x10, x11, x12, x13, x14, x15, x16⟩ | go_keep) (fun hHeld => ?_)
  clear hK K
  try simp only [Act.put, List.getElem_toArray, List.getElem_cons_succ, List.getElem_cons_zero, List.setIfInBounds_toArray, List.set_cons_zero, List.set_cons_succ]
  refine wpAnyH_done (by kernel_rfl) ?_ _
  go_wp2_with fail
  exact bodyPost_ret (v := .agg #[.int .i64 (need8 h ds ps rc sh 0).1, .int .i64 (need8 h ds ps rc sh 0).2.1, .int .i64 (need8 h ds ps rc sh 0).2.2, .int .i64 (need8 h ds ps rc sh 1).1, .int .i64 (need8 h ds ps rc sh 1).2.1, .int .i64 (need8 h ds ps rc sh 1).2.2]) (F1.out.resA _ Tryz.results20 Tryz.underlying57 (by kernel_rfl) rfl) rfl ⟨rfl, FB.out⟩
set_option maxRecDepth 20000 in
set_option maxHeartbeats 8000000 in
theorem isNeeded_any (ak ai af bk bi bf : Int) (w : World) :
    Calls Tryz.prog 21 #[.agg #[.int .i64 ak, .int .i64 ai, .int .i64 af, .int .i64 bk, .int .i64 bi, .int .i64 bf]] w fun e w' => e = .returned (.bool (decide (ak = 0 ∨ bk = 0))) ∧ Below w.heap.size w w' := by
  have FB : Hid (Below w.heap.size w (w.alloc (.cells #[.int .i64 ak, .int .i64 ai, .int .i64 af, .int .i64 bk, .int .i64 bi, .int .i64 bf] 57))) := (Below.refl _ _).alloc (Nat.le_refl _) _
  by_cases k1 : ak = 0
  · have e1 : (ak == 0) = true := by simpa using k1
    have e2 : decide (ak = 0 ∨ bk = 0) = true := decide_eq_true (Or.inl k1)
    rw [e2]
    clear k1 e2
    go_enter Tryz.func21, Tryz.ntmps21
    go_wp2_with fail
    go_ret
    exact ⟨rfl, FB.out⟩
  · have e1 : (ak == 0) = false := by simpa using k1
    by_cases k2 : bk = 0
    · have e3 : (bk == 0) = true := by simpa using k2
      have e2 : decide (ak = 0 ∨ bk = 0) = true := decide_eq_true (Or.inr k2)
      rw [e2]
      clear k1 k2 e2
      go_enter Tryz.func21, Tryz.ntmps21
      go_wp2_with fail
      go_ret
      exact ⟨rfl, FB.out⟩
    · have e3 : (bk == 0) = false := by simpa using k2
      have e2 : decide (ak = 0 ∨ bk = 0) = false := decide_eq_false (fun q => q.elim k1 k2)
      rw [e2]
      clear k1 k2 e2
      go_enter Tryz.func21, Tryz.ntmps21
      go_wp2_with fail
      go_ret
      exact ⟨rfl, FB.out⟩
set_option maxRecDepth 20000 in
set_option maxHeartbeats 32000000 in
theorem leadOf_any (ak ai af bk bi bf : Int) (hn : ak = 0 ∨ bk = 0) (w : World) :
    Calls Tryz.prog 22 #[.agg #[.int .i64 ak, .int .i64 ai, .int .i64 af, .int .i64 bk, .int .i64 bi, .int .i64 bf]] w fun e w' => e = .returned (.int .i64 (lead8 (ak, ai, af) (bk, bi, bf))) ∧ Below w.heap.size w w' := by
  have F0 : Hid (Blk (w.alloc (.cells #[.int .i64 ak, .int .i64 ai, .int .i64 af, .int .i64 bk, .int .i64 bi, .int .i64 bf] 57)) w.heap.size [.int .i64 ak, .int .i64 ai, .int .i64 af, .int .i64 bk, .int .i64 bi, .int .i64 bf]) := Blk.at_ w #[.int .i64 ak, .int .i64 ai, .int .i64 af, .int .i64 bk, .int .i64 bi, .int .i64 bf] _ _ rfl
  have FB : Hid (Below w.heap.size w (w.alloc (.cells #[.int .i64 ak, .int .i64 ai, .int .i64 af, .int .i64 bk, .int .i64 bi, .int .i64 bf] 57))) := (Below.refl _ _).alloc (Nat.le_refl _) _
  obtain ⟨W0, hW0⟩ : ∃ W0, W0 = (w.alloc (.cells #[.int .i64 ak, .int .i64 ai, .int .i64 af, .int .i64 bk, .int .i64 bi, .int .i64 bf] 57)) := ⟨_, rfl⟩
  rw [← hW0] at F0 FB
  have HW0 : Hid (W0 = (w.alloc (.cells #[.int .i64 ak, .int .i64 ai, .int .i64 af, .int .i64 bk, .int .i64 bi, .int .i64 bf] 57))) := hW0
  clear hW0
  go_enter Tryz.func22, Tryz.ntmps22
  go_upto_region 1 with fail
  rw [← HW0.out]
  clear HW0
  go_cut [3, 4] (fun p q wx => ∃ la lb, p = .pointer (some ⟨la, 0, none⟩) ∧ q = .pointer (some ⟨lb, 0, none⟩) ∧ Blk wx la [.int .i64 ak, .int .i64 ai, .int .i64 af] ∧ Blk wx lb [.int .i64 bk, .int .i64 bi, .int .i64 bf] ∧ Below w.heap.size w wx)
  case first =>
    have F0 : Hid (Blk W0.drew w.heap.size [.int .i64 ak, .int .i64 ai, .int .i64 af, .int .i64 bk, .int .i64 bi, .int .i64 bf]) := F0.out.below (Below.refl _ _).drew F0.out.lt
    have FB : Hid (Below w.heap.size w W0.drew) := FB.out.drew
    have x0 := F0.out.c 0 _ rfl
    have x1 := F0.out.c 1 _ rfl
    have x2 := F0.out.c 2 _ rfl
    have x3 := F0.out.c 3 _ rfl
    have x4 := F0.out.c 4 _ rfl
    have x5 := F0.out.c 5 _ rfl
    refine wp_region_held_drew (S := (fun w'' => w''.cell? ⟨w.heap.size, 0, none⟩ = some (.int .i64 ak) ∧ w''.cell? ⟨w.heap.size, 1, none⟩ = some (.int .i64 ai) ∧ w''.cell? ⟨w.heap.size, 2, none⟩ = some (.int .i64 af) ∧ w''.cell? ⟨w.heap.size, 3, none⟩ = some (.int .i64 bk) ∧ w''.cell? ⟨w.heap.size, 4, none⟩ = some (.int .i64 bi) ∧ w''.cell? ⟨w.heap.size, 5, none⟩ = some (.int .i64 bf))) (by kernel_rfl) (by (try dsimp only); first | exact ⟨x0, x1, x2, x3, x4, x5⟩ | go_keep) (fun hHeld => ?_)
    obtain ⟨v_5, hw1⟩ : ∃ v_5, v_5 = W0.drew := ⟨_, rfl⟩
    have F0 : Hid (Blk v_5 w.heap.size [.int .i64 ak, .int .i64 ai, .int .i64 af, .int .i64 bk, .int .i64 bi, .int .i64 bf]) := by rw [hw1]; exact F0.out
    have FB : Hid (Below w.heap.size w v_5) := by rw [hw1]; exact FB.out
    rw [← hw1] at hHeld ⊢
    clear hw1
    have x0 := F0.out.c 0 _ rfl
    have x1 := F0.out.c 1 _ rfl
    have x2 := F0.out.c 2 _ rfl
    have x3 := F0.out.c 3 _ rfl
    have x4 := F0.out.c 4 _ rfl
    have x5 := F0.out.c 5 _ rfl
    refine tkz 0 rfl ?_
    refine tkz 1 rfl ?_
    refine tkz 2 rfl ?_
    refine tkz 3 rfl ?_
    refine wpAnyH_ready (rs := [4, 5]) (by kernel_rfl) (by simp) ?_
    refine (AllReadyH.cons rfl (fun K hK => ?_) (AllReadyH.cons rfl (fun K hK => ?_) AllReadyH.nil))
    · go_simp
      obtain ⟨la, hbb⟩ : ∃ la, la = v_5.heap.size := ⟨_, rfl⟩
      obtain ⟨v_6, hw2⟩ : ∃ v_6, v_6 = v_5.alloc (.cells #[.int .i64 0, .int .i64 0, .int .i64 0] 56) := ⟨_, rfl⟩
      have nla_0 := F0.out.lt
      rw [← hbb] at nla_0
      have FA : Hid (Blk v_6 la [.int .i64 0, .int .i64 0, .int .i64 0]) := by rw [hw2]; exact Blk.at_ v_5 #[.int .i64 0, .int .i64 0, .int .i64 0] _ _ hbb
      have F0 : Hid (Blk v_6 w.heap.size [.int .i64 ak, .int .i64 ai, .int .i64 af, .int .i64 bk, .int .i64 bi, .int .i64 bf]) := by rw [hw2]; exact F0.out.alloc _
      have FB : Hid (Below w.heap.size w v_6) := by rw [hw2]; exact FB.out.alloc FB.out.size _
      rw [← hw2, ← hbb]
      clear hbb hw2
      have x0 := F0.out.c 0 _ rfl
      have x1 := F0.out.c 1 _ rfl
      have x2 := F0.out.c 2 _ rfl
      have x3 := F0.out.c 3 _ rfl
      have x4 := F0.out.c 4 _ rfl
      have x5 := F0.out.c 5 _ rfl
      refine hK.out _ _ (by (try dsimp only); first | exact ⟨x0, x1, x2, x3, x4, x5⟩ | go_keep) (fun hHeld => ?_)
      clear hK K
      try simp only [Act.put, List.getElem_toArray, List.getElem_cons_succ, List.getElem_cons_zero, List.setIfInBounds_toArray, List.set_cons_zero, List.set_cons_succ]
      refine wpAnyH_ready (rs := [5]) (by kernel_rfl) (by simp) ?_
      refine (AllReadyH.cons rfl (fun K hK => ?_) AllReadyH.nil)
      go_simp
      obtain ⟨lb, hbb⟩ : ∃ lb, lb = v_6.heap.size := ⟨_, rfl⟩
      obtain ⟨v_7, hw2⟩ : ∃ v_7, v_7 = v_6.alloc (.cells #[.int .i64 0, .int .i64 0, .int .i64 0] 56) := ⟨_, rfl⟩
      have nlb_0 := F0.out.lt
      rw [← hbb] at nlb_0
      have nlb_2 := FA.out.lt
      rw [← hbb] at nlb_2
      have FC : Hid (Blk v_7 lb [.int .i64 0, .int .i64 0, .int .i64 0]) := by rw [hw2]; exact Blk.at_ v_6 #[.int .i64 0, .int .i64 0, .int .i64 0] _ _ hbb
      have F0 : Hid (Blk v_7 w.heap.size [.int .i64 ak, .int .i64 ai, .int .i64 af, .int .i64 bk, .int .i64 bi, .int .i64 bf]) := by rw [hw2]; exact F0.out.alloc _
      have FB : Hid (Below w.heap.size w v_7) := by rw [hw2]; exact FB.out.alloc FB.out.size _
      have FA : Hid (Blk v_7 la [.int .i64 0, .int .i64 0, .int .i64 0]) := by rw [hw2]; exact FA.out.alloc _
      rw [← hw2, ← hbb]
      clear hbb hw2
      have x0 := F0.out.c 0 _ rfl
      have x1 := F0.out.c 1 _ rfl
      have x2 := F0.out.c 2 _ rfl
      have x3 := F0.out.c 3 _ rfl
      have x4 := F0.out.c 4 _ rfl
      have x5 := F0.out.c 5 _ rfl
      refine hK.out _ _ (by (try dsimp only); first | exact ⟨x0, x1, x2, x3, x4, x5⟩ | go_keep) (fun hHeld => ?_)
      clear hK K
      try simp only [Act.put, List.getElem_toArray, List.getElem_cons_succ, List.getElem_cons_zero, List.setIfInBounds_toArray, List.set_cons_zero, List.set_cons_succ]
      refine wpAnyH_ready (rs := [6]) (by kernel_rfl) (by simp) ?_
      refine (AllReadyH.cons rfl (fun K hK => ?_) AllReadyH.nil)
      have z0 := FA.out.c 0 _ rfl
      have z1 := FA.out.c 1 _ rfl
      have z2 := FA.out.c 2 _ rfl
      have zf0 := FA.out.f 0 (Nat.le_of_ble_eq_true rfl)
      have zf1 := FA.out.f 1 (Nat.le_of_ble_eq_true rfl)
      have zf2 := FA.out.f 2 (Nat.le_of_ble_eq_true rfl)
      go_simp
      obtain ⟨v_8, hw2⟩ : ∃ v_8, v_8 = putB v_7 la 0 [.int .i64 ak, .int .i64 ai, .int .i64 af] := ⟨_, rfl⟩
      change K _ (putB v_7 la 0 [.int .i64 ak, .int .i64 ai, .int .i64 af])
      rw [← hw2]
      clear z0 z1 z2 zf0 zf1 zf2
      have F0 : Hid (Blk v_8 w.heap.size [.int .i64 ak, .int .i64 ai, .int .i64 af, .int .i64 bk, .int .i64 bi, .int .i64 bf]) := by rw [hw2]; exact Blk.putB_other (by omega) [.int .i64 ak, .int .i64 ai, .int .i64 af] 0 F0.out
      have FB : Hid (Below w.heap.size w v_8) := by rw [hw2]; exact below_putB FB.out (by omega) _ _
      have FA : Hid (Blk v_8 la [.int .i64 ak, .int .i64 ai, .int .i64 af]) := by rw [hw2]; exact FA.out.put [.int .i64 ak, .int .i64 ai, .int .i64 af] rfl
      have FC : Hid (Blk v_8 lb [.int .i64 0, .int .i64 0, .int .i64 0]) := by rw [hw2]; exact Blk.putB_other (by omega) [.int .i64 ak, .int .i64 ai, .int .i64 af] 0 FC.out
      clear hw2
      have x0 := F0.out.c 0 _ rfl
      have x1 := F0.out.c 1 _ rfl
      have x2 := F0.out.c 2 _ rfl
      have x3 := F0.out.c 3 _ rfl
      have x4 := F0.out.c 4 _ rfl
      have x5 := F0.out.c 5 _ rfl
      refine hK.out _ _ (by (try dsimp only); first | exact ⟨x0, x1, x2, x3, x4, x5⟩ | go_keep) (fun hHeld => ?_)
      clear hK K
      try simp only [Act.put, List.getElem_toArray, List.getElem_cons_succ, List.getElem_cons_zero, List.setIfInBounds_toArray, List.set_cons_zero, List.set_cons_succ]
      refine wpAnyH_ready (rs := [7]) (by kernel_rfl) (by simp) ?_
      refine (AllReadyH.cons rfl (fun K hK => ?_) AllReadyH.nil)
      have z0 := FC.out.c 0 _ rfl
      have z1 := FC.out.c 1 _ rfl
      have z2 := FC.out.c 2 _ rfl
      have zf0 := FC.out.f 0 (Nat.le_of_ble_eq_true rfl)
      have zf1 := FC.out.f 1 (Nat.le_of_ble_eq_true rfl)
      have zf2 := FC.out.f 2 (Nat.le_of_ble_eq_true rfl)
      go_simp
      obtain ⟨v_9, hw2⟩ : ∃ v_9, v_9 = putB v_8 lb 0 [.int .i64 bk, .int .i64 bi, .int .i64 bf] := ⟨_, rfl⟩
      change K _ (putB v_8 lb 0 [.int .i64 bk, .int .i64 bi, .int .i64 bf])
      rw [← hw2]
      clear z0 z1 z2 zf0 zf1 zf2
      have F0 : Hid (Blk v_9 w.heap.size [.int .i64 ak, .int .i64 ai, .int .i64 af, .int .i64 bk, .int .i64 bi, .int .i64 bf]) := by rw [hw2]; exact Blk.putB_other (by omega) [.int .i64 bk, .int .i64 bi, .int .i64 bf] 0 F0.out
      have FB : Hid (Below w.heap.size w v_9) := by rw [hw2]; exact below_putB FB.out (by omega) _ _
      have FA : Hid (Blk v_9 la [.int .i64 ak, .int .i64 ai, .int .i64 af]) := by rw [hw2]; exact Blk.putB_other (by omega) [.int .i64 bk, .int .i64 bi, .int .i64 bf] 0 FA.out
      have FC : Hid (Blk v_9 lb [.int .i64 bk, .int .i64 bi, .int .i64 bf]) := by rw [hw2]; exact FC.out.put [.int .i64 bk, .int .i64 bi, .int .i64 bf] rfl
      clear hw2
      have x0 := F0.out.c 0 _ rfl
      have x1 := F0.out.c 1 _ rfl
      have x2 := F0.out.c 2 _ rfl
      have x3 := F0.out.c 3 _ rfl
      have x4 := F0.out.c 4 _ rfl
      have x5 := F0.out.c 5 _ rfl
      refine hK.out _ _ (by (try dsimp only); first | exact ⟨x0, x1, x2, x3, x4, x5⟩ | go_keep) (fun hHeld => ?_)
      clear hK K
      try simp only [Act.put, List.getElem_toArray, List.getElem_cons_succ, List.getElem_cons_zero, List.setIfInBounds_toArray, List.set_cons_zero, List.set_cons_succ]
      refine wpAnyH_done (by kernel_rfl) ?_ _
      go_wp2_with fail
      go_meet
      case rel => exact ⟨la, lb, rfl, rfl, FA.out, FC.out, FB.out⟩
    · go_simp
      obtain ⟨lb, hbb⟩ : ∃ lb, lb = v_5.heap.size := ⟨_, rfl⟩
      obtain ⟨v_10, hw2⟩ : ∃ v_10, v_10 = v_5.alloc (.cells #[.int .i64 0, .int .i64 0, .int .i64 0] 56) := ⟨_, rfl⟩
      have nlb_0 := F0.out.lt
      rw [← hbb] at nlb_0
      have FC : Hid (Blk v_10 lb [.int .i64 0, .int .i64 0, .int .i64 0]) := by rw [hw2]; exact Blk.at_ v_5 #[.int .i64 0, .int .i64 0, .int .i64 0] _ _ hbb
      have F0 : Hid (Blk v_10 w.heap.size [.int .i64 ak, .int .i64 ai, .int .i64 af, .int .i64 bk, .int .i64 bi, .int .i64 bf]) := by rw [hw2]; exact F0.out.alloc _
      have FB : Hid (Below w.heap.size w v_10) := by rw [hw2]; exact FB.out.alloc FB.out.size _
      rw [← hw2, ← hbb]
      clear hbb hw2
      have x0 := F0.out.c 0 _ rfl
      have x1 := F0.out.c 1 _ rfl
      have x2 := F0.out.c 2 _ rfl
      have x3 := F0.out.c 3 _ rfl
      have x4 := F0.out.c 4 _ rfl
      have x5 := F0.out.c 5 _ rfl
      refine hK.out _ _ (by (try dsimp only); first | exact ⟨x0, x1, x2, x3, x4, x5⟩ | go_keep) (fun hHeld => ?_)
      clear hK K
      try simp only [Act.put, List.getElem_toArray, List.getElem_cons_succ, List.getElem_cons_zero, List.setIfInBounds_toArray, List.set_cons_zero, List.set_cons_succ]
      refine wpAnyH_ready (rs := [4]) (by kernel_rfl) (by simp) ?_
      refine (AllReadyH.cons rfl (fun K hK => ?_) AllReadyH.nil)
      go_simp
      obtain ⟨la, hbb⟩ : ∃ la, la = v_10.heap.size := ⟨_, rfl⟩
      obtain ⟨v_11, hw2⟩ : ∃ v_11, v_11 = v_10.alloc (.cells #[.int .i64 0, .int .i64 0, .int .i64 0] 56) := ⟨_, rfl⟩
      have nla_0 := F0.out.lt
      rw [← hbb] at nla_0
      have nla_2 := FC.out.lt
      rw [← hbb] at nla_2
      have FA : Hid (Blk v_11 la [.int .i64 0, .int .i64 0, .int .i64 0]) := by rw [hw2]; exact Blk.at_ v_10 #[.int .i64 0, .int .i64 0, .int .i64 0] _ _ hbb
      have F0 : Hid (Blk v_11 w.heap.size [.int .i64 ak, .int .i64 ai, .int .i64 af, .int .i64 bk, .int .i64 bi, .int .i64 bf]) := by rw [hw2]; exact F0.out.alloc _
      have FB : Hid (Below w.heap.size w v_11) := by rw [hw2]; exact FB.out.alloc FB.out.size _
      have FC : Hid (Blk v_11 lb [.int .i64 0, .int .i64 0, .int .i64 0]) := by rw [hw2]; exact FC.out.alloc _
      rw [← hw2, ← hbb]
      clear hbb hw2
      have x0 := F0.out.c 0 _ rfl
      have x1 := F0.out.c 1 _ rfl
      have x2 := F0.out.c 2 _ rfl
      have x3 := F0.out.c 3 _ rfl
      have x4 := F0.out.c 4 _ rfl
      have x5 := F0.out.c 5 _ rfl
      refine hK.out _ _ (by (try dsimp only); first | exact ⟨x0, x1, x2, x3, x4, x5⟩ | go_keep) (fun hHeld => ?_)
      clear hK K
      try simp only [Act.put, List.getElem_toArray, List.getElem_cons_succ, List.getElem_cons_zero, List.setIfInBounds_toArray, List.set_cons_zero, List.set_cons_succ]
      refine wpAnyH_ready (rs := [6]) (by kernel_rfl) (by simp) ?_
      refine (AllReadyH.cons rfl (fun K hK => ?_) AllReadyH.nil)
      have z0 := FA.out.c 0 _ rfl
      have z1 := FA.out.c 1 _ rfl
      have z2 := FA.out.c 2 _ rfl
      have zf0 := FA.out.f 0 (Nat.le_of_ble_eq_true rfl)
      have zf1 := FA.out.f 1 (Nat.le_of_ble_eq_true rfl)
      have zf2 := FA.out.f 2 (Nat.le_of_ble_eq_true rfl)
      go_simp
      obtain ⟨v_12, hw2⟩ : ∃ v_12, v_12 = putB v_11 la 0 [.int .i64 ak, .int .i64 ai, .int .i64 af] := ⟨_, rfl⟩
      change K _ (putB v_11 la 0 [.int .i64 ak, .int .i64 ai, .int .i64 af])
      rw [← hw2]
      clear z0 z1 z2 zf0 zf1 zf2
      have F0 : Hid (Blk v_12 w.heap.size [.int .i64 ak, .int .i64 ai, .int .i64 af, .int .i64 bk, .int .i64 bi, .int .i64 bf]) := by rw [hw2]; exact Blk.putB_other (by omega) [.int .i64 ak, .int .i64 ai, .int .i64 af] 0 F0.out
      have FB : Hid (Below w.heap.size w v_12) := by rw [hw2]; exact below_putB FB.out (by omega) _ _
      have FC : Hid (Blk v_12 lb [.int .i64 0, .int .i64 0, .int .i64 0]) := by rw [hw2]; exact Blk.putB_other (by omega) [.int .i64 ak, .int .i64 ai, .int .i64 af] 0 FC.out
      have FA : Hid (Blk v_12 la [.int .i64 ak, .int .i64 ai, .int .i64 af]) := by rw [hw2]; exact FA.out.put [.int .i64 ak, .int .i64 ai, .int .i64 af] rfl
      clear hw2
      have x0 := F0.out.c 0 _ rfl
      have x1 := F0.out.c 1 _ rfl
      have x2 := F0.out.c 2 _ rfl
      have x3 := F0.out.c 3 _ rfl
      have x4 := F0.out.c 4 _ rfl
      have x5 := F0.out.c 5 _ rfl
      refine hK.out _ _ (by (try dsimp only); first | exact ⟨x0, x1, x2, x3, x4, x5⟩ | go_keep) (fun hHeld => ?_)
      clear hK K
      try simp only [Act.put, List.getElem_toArray, List.getElem_cons_succ, List.getElem_cons_zero, List.setIfInBounds_toArray, List.set_cons_zero, List.set_cons_succ]
      refine wpAnyH_ready (rs := [7]) (by kernel_rfl) (by simp) ?_
      refine (AllReadyH.cons rfl (fun K hK => ?_) AllReadyH.nil)
      have z0 := FC.out.c 0 _ rfl
      have z1 := FC.out.c 1 _ rfl
      have z2 := FC.out.c 2 _ rfl
      have zf0 := FC.out.f 0 (Nat.le_of_ble_eq_true rfl)
      have zf1 := FC.out.f 1 (Nat.le_of_ble_eq_true rfl)
      have zf2 := FC.out.f 2 (Nat.le_of_ble_eq_true rfl)
      go_simp
      obtain ⟨v_13, hw2⟩ : ∃ v_13, v_13 = putB v_12 lb 0 [.int .i64 bk, .int .i64 bi, .int .i64 bf] := ⟨_, rfl⟩
      change K _ (putB v_12 lb 0 [.int .i64 bk, .int .i64 bi, .int .i64 bf])
      rw [← hw2]
      clear z0 z1 z2 zf0 zf1 zf2
      have F0 : Hid (Blk v_13 w.heap.size [.int .i64 ak, .int .i64 ai, .int .i64 af, .int .i64 bk, .int .i64 bi, .int .i64 bf]) := by rw [hw2]; exact Blk.putB_other (by omega) [.int .i64 bk, .int .i64 bi, .int .i64 bf] 0 F0.out
      have FB : Hid (Below w.heap.size w v_13) := by rw [hw2]; exact below_putB FB.out (by omega) _ _
      have FC : Hid (Blk v_13 lb [.int .i64 bk, .int .i64 bi, .int .i64 bf]) := by rw [hw2]; exact FC.out.put [.int .i64 bk, .int .i64 bi, .int .i64 bf] rfl
      have FA : Hid (Blk v_13 la [.int .i64 ak, .int .i64 ai, .int .i64 af]) := by rw [hw2]; exact Blk.putB_other (by omega) [.int .i64 bk, .int .i64 bi, .int .i64 bf] 0 FA.out
      clear hw2
      have x0 := F0.out.c 0 _ rfl
      have x1 := F0.out.c 1 _ rfl
      have x2 := F0.out.c 2 _ rfl
      have x3 := F0.out.c 3 _ rfl
      have x4 := F0.out.c 4 _ rfl
      have x5 := F0.out.c 5 _ rfl
      refine hK.out _ _ (by (try dsimp only); first | exact ⟨x0, x1, x2, x3, x4, x5⟩ | go_keep) (fun hHeld => ?_)
      clear hK K
      try simp only [Act.put, List.getElem_toArray, List.getElem_cons_succ, List.getElem_cons_zero, List.setIfInBounds_toArray, List.set_cons_zero, List.set_cons_succ]
      refine wpAnyH_done (by kernel_rfl) ?_ _
      go_wp2_with fail
      go_meet
      case rel => exact ⟨la, lb, rfl, rfl, FA.out, FC.out, FB.out⟩
  case rest =>
    obtain ⟨la, lb, rfl, rfl, h1, h2, h3⟩ := hcut
    have FB : Hid (Below w.heap.size w wc) := h3
    have a0 := h1.c 0 _ rfl
    have a1 := h1.c 1 _ rfl
    have b0 := h2.c 0 _ rfl
    have b1 := h2.c 1 _ rfl
    clear h1 h2 h3
    by_cases k1 : ak = 0 <;> by_cases k2 : bk = 0 <;> by_cases k3 : ai < bi
    all_goals
      have q2 : (bk != 0) = decide (bk ≠ 0) := by by_cases z : bk = 0 <;> simp [z]
      have q3 : (ak == 0) = decide (ak = 0) := by by_cases z : ak = 0 <;> simp [z]
      simp [k1] at q3
      simp [k2] at q2
      first
        | (exfalso; rcases hn with z | z; exact k1 z; exact k2 z)
        | (go_wp2_with fail
           go_ret
           exact ⟨ret_int (by unfold lead8; simp [k1, k2, k3]), FB.out⟩)
set_option maxRecDepth 20000 in
set_option maxHeartbeats 32000000 in
theorem implLeadOf_any (h : Hs) (ds : List Dk) (da : Option Addr) (dc : Nat) (nx : Int) (ps : List Pe) (pa : Option Addr) (pc : Nat) (tk : Int) (rc : Bool) (sh : Int) (hld : ds.length ≤ 1048576) (hlp : ps.length ≤ 1048576) (w : World) (hD : DIn w w.heap.size da ds) (hP : PIn w w.heap.size pa ps) :
    Calls Tryz.prog 7 #[.agg #[.int .i64 h.fl, .int .i64 h.gp, .int .i64 h.ln, .int .i64 h.rf, .int .i64 h.sp, .int .i64 h.pu, .int .i64 h.br, .int .i64 h.dr, .int .i64 h.lv, .int .i64 h.dO, .int .i64 h.ld, .int .i64 h.qu, .slice da ds.length dc, .int .i64 nx, .slice pa ps.length pc, .int .i64 tk, .bool rc], .int .i64 sh] w fun e w' => e = .returned (.agg #[.int .i64 (Gr.leadOf ⟨h, ds, ⟨nx, ps⟩, tk, rc⟩ sh).1, .int .i64 (Gr.leadOf ⟨h, ds, ⟨nx, ps⟩, tk, rc⟩ sh).2.1, .int .i64 (Gr.leadOf ⟨h, ds, ⟨nx, ps⟩, tk, rc⟩ sh).2.2]) ∧ Below w.heap.size w w' := by
  have HD : Hid (DIn w w.heap.size da ds) := hD
  have HP : Hid (PIn w w.heap.size pa ps) := hP
  have F0 : Hid (Blk ((w.alloc (.cells #[.int .i64 h.fl, .int .i64 h.gp, .int .i64 h.ln, .int .i64 h.rf, .int .i64 h.sp, .int .i64 h.pu, .int .i64 h.br, .int .i64 h.dr, .int .i64 h.lv, .int .i64 h.dO, .int .i64 h.ld, .int .i64 h.qu, .slice da ds.length dc, .int .i64 nx, .slice pa ps.length pc, .int .i64 tk, .bool rc] 40)).alloc (.cells #[.int .i64 0, .int .i64 0, .int .i64 0] 32)) w.heap.size (gvs h (.slice da ds.length dc) nx (.slice pa ps.length pc) tk rc)) := (Blk.at_ w #[.int .i64 h.fl, .int .i64 h.gp, .int .i64 h.ln, .int .i64 h.rf, .int .i64 h.sp, .int .i64 h.pu, .int .i64 h.br, .int .i64 h.dr, .int .i64 h.lv, .int .i64 h.dO, .int .i64 h.ld, .int .i64 h.qu, .slice da ds.length dc, .int .i64 nx, .slice pa ps.length pc, .int .i64 tk, .bool rc] _ _ rfl).alloc _
  have F1 : Hid (Blk ((w.alloc (.cells #[.int .i64 h.fl, .int .i64 h.gp, .int .i64 h.ln, .int .i64 h.rf, .int .i64 h.sp, .int .i64 h.pu, .int .i64 h.br, .int .i64 h.dr, .int .i64 h.lv, .int .i64 h.dO, .int .i64 h.ld, .int .i64 h.qu, .slice da ds.length dc, .int .i64 nx, .slice pa ps.length pc, .int .i64 tk, .bool rc] 40)).alloc (.cells #[.int .i64 0, .int .i64 0, .int .i64 0] 32)) (w.heap.size + 1) [.int .i64 0, .int .i64 0, .int .i64 0]) := Blk.at_ _ #[.int .i64 0, .int .i64 0, .int .i64 0] _ _ (by simp)
  have FB : Hid (Below w.heap.size w ((w.alloc (.cells #[.int .i64 h.fl, .int .i64 h.gp, .int .i64 h.ln, .int .i64 h.rf, .int .i64 h.sp, .int .i64 h.pu, .int .i64 h.br, .int .i64 h.dr, .int .i64 h.lv, .int .i64 h.dO, .int .i64 h.ld, .int .i64 h.qu, .slice da ds.length dc, .int .i64 nx, .slice pa ps.length pc, .int .i64 tk, .bool rc] 40)).alloc (.cells #[.int .i64 0, .int .i64 0, .int .i64 0] 32))) := ((Below.refl _ _).alloc (Nat.le_refl _) _).alloc (by simp) _
  obtain ⟨W0, hW0⟩ : ∃ W0, W0 = ((w.alloc (.cells #[.int .i64 h.fl, .int .i64 h.gp, .int .i64 h.ln, .int .i64 h.rf, .int .i64 h.sp, .int .i64 h.pu, .int .i64 h.br, .int .i64 h.dr, .int .i64 h.lv, .int .i64 h.dO, .int .i64 h.ld, .int .i64 h.qu, .slice da ds.length dc, .int .i64 nx, .slice pa ps.length pc, .int .i64 tk, .bool rc] 40)).alloc (.cells #[.int .i64 0, .int .i64 0, .int .i64 0] 32)) := ⟨_, rfl⟩
  rw [← hW0] at F0 F1 FB
  have HW0 : Hid (W0 = ((w.alloc (.cells #[.int .i64 h.fl, .int .i64 h.gp, .int .i64 h.ln, .int .i64 h.rf, .int .i64 h.sp, .int .i64 h.pu, .int .i64 h.br, .int .i64 h.dr, .int .i64 h.lv, .int .i64 h.dO, .int .i64 h.ld, .int .i64 h.qu, .slice da ds.length dc, .int .i64 nx, .slice pa ps.length pc, .int .i64 tk, .bool rc] 40)).alloc (.cells #[.int .i64 0, .int .i64 0, .int .i64 0] 32))) := hW0
  clear hW0 hD hP
  unfold Gr.leadOf
  by_cases kf : Gr.fault ⟨h, ds, ⟨nx, ps⟩, tk, rc⟩ = 0
  case neg =>
    rw [if_neg kf]
    obtain ⟨k, hk⟩ : ∃ k, Gr.fault ⟨h, ds, ⟨nx, ps⟩, tk, rc⟩ = k := ⟨_, rfl⟩
    rw [hk] at kf ⊢
    have HF : Hid (Gr.fault ⟨h, ds, ⟨nx, ps⟩, tk, rc⟩ = k) := hk
    have e1 : (k != 0) = true := by simpa using kf
    clear hk kf
    go_enter Tryz.func7, Tryz.ntmps7
    go_upto_region 1 with fail
    rw [← HW0.out]
    go_wp2_with (first | (refine load_blk 40 _ Tryz.underlying40 (by kernel_rfl) F0.out rfl rfl rfl ?_) | (go_at_call 18; refine (implGroupFault_any h ds da dc nx ps pa pc tk rc hld hlp _ ((HD.out.below FB.out (Nat.le_refl _)).mono FB.out.size) ((HP.out.below FB.out (Nat.le_refl _)).mono FB.out.size)).mono ?_; rw [HF.out]; rintro e w1 ⟨rfl, hb⟩; have F0 : Hid (Blk w1 w.heap.size (gvs h (.slice da ds.length dc) nx (.slice pa ps.length pc) tk rc)) := F0.out.below hb F0.out.lt; have F1 : Hid (Blk w1 (w.heap.size + 1) [.int .i64 0, .int .i64 0, .int .i64 0]) := F1.out.below hb F1.out.lt; have FB : Hid (Below w.heap.size w w1) := FB.out.trans (hb.mono FB.out.size); clear hb) | (refine store_blk [.int .i64 k, .int .i64 0, .int .i64 0] 32 _ _ (by kernel_rfl) (by kernel_rfl) (by kernel_rfl) F1.out rfl rfl rfl rfl ?_))
    exact bodyPost_ret (v := .agg #[.int .i64 k, .int .i64 0, .int .i64 0]) ((F1.out.row [.int .i64 k, .int .i64 0, .int .i64 0]).res _ Tryz.results7 Tryz.underlying32 (by kernel_rfl) rfl) rfl ⟨rfl, below_row FB.out (by omega) _⟩
  have HF : Hid (Gr.fault ⟨h, ds, ⟨nx, ps⟩, tk, rc⟩ = 0) := kf
  obtain ⟨hf, nn, hdk, hle, -⟩ := Gr.fault_parts kf
  dsimp only at hf nn hdk hle
  have oo := Hs.ok_of (Hs.fault_zero hf).1
  have HO : Hid h.Ok := oo
  rw [if_pos kf]
  dsimp only
  clear kf
  have en : IntKind.i64.wrap ((ds.length : Int) - 1) = (ds.length : Int) - 1 := IntWalk.i64_in _ (by omega)
  clear hdk hle hf oo
  obtain ⟨a, ha⟩ : ∃ a, need8 h ds ps rc sh 0 = a := ⟨_, rfl⟩
  obtain ⟨b, hb_⟩ : ∃ b, need8 h ds ps rc sh 1 = b := ⟨_, rfl⟩
  have HA : Hid (need8 h ds ps rc sh 0 = a) := ha
  have HB : Hid (need8 h ds ps rc sh 1 = b) := hb_
  rw [ha, hb_]
  clear ha hb_
  cases k1 : inB sh 0 ((ds.length : Int) - 1)
  · have KD : Hid (inB sh 0 ((ds.length : Int) - 1) = false) := k1
    rw [if_neg (by simp)]
    go_enter Tryz.func7, Tryz.ntmps7
    go_upto_region 1 with fail
    rw [← HW0.out]
    go_wp2_with (first | (refine load_blk 40 _ Tryz.underlying40 (by kernel_rfl) F0.out rfl rfl rfl ?_) | (go_at_call 18; refine (implGroupFault_any h ds da dc nx ps pa pc tk rc hld hlp _ ((HD.out.below FB.out (Nat.le_refl _)).mono FB.out.size) ((HP.out.below FB.out (Nat.le_refl _)).mono FB.out.size)).mono ?_; rw [HF.out]; rintro e w1 ⟨rfl, hb⟩; have F0 : Hid (Blk w1 w.heap.size (gvs h (.slice da ds.length dc) nx (.slice pa ps.length pc) tk rc)) := F0.out.below hb F0.out.lt; have F1 : Hid (Blk w1 (w.heap.size + 1) [.int .i64 0, .int .i64 0, .int .i64 0]) := F1.out.below hb F1.out.lt; have FB : Hid (Below w.heap.size w w1) := FB.out.trans (hb.mono FB.out.size); clear hb) | (go_at_call 19; refine (isDeck_any h da ds.length dc nx pa ps.length pc tk rc sh hld _).mono ?_; rw [KD.out]; rintro e w2 ⟨rfl, hb⟩; have F0 : Hid (Blk w2 w.heap.size (gvs h (.slice da ds.length dc) nx (.slice pa ps.length pc) tk rc)) := F0.out.below hb F0.out.lt; have F1 : Hid (Blk w2 (w.heap.size + 1) [.int .i64 0, .int .i64 0, .int .i64 0]) := F1.out.below hb F1.out.lt; have FB : Hid (Below w.heap.size w w2) := FB.out.trans (hb.mono FB.out.size); clear hb; have x0 := F0.out.c 0 _ rfl; have x1 := F0.out.c 1 _ rfl; have x2 := F0.out.c 2 _ rfl; have x3 := F0.out.c 3 _ rfl; have x4 := F0.out.c 4 _ rfl; have x5 := F0.out.c 5 _ rfl; have x6 := F0.out.c 6 _ rfl; have x7 := F0.out.c 7 _ rfl; have x8 := F0.out.c 8 _ rfl; have x9 := F0.out.c 9 _ rfl; have x10 := F0.out.c 10 _ rfl; have x11 := F0.out.c 11 _ rfl; have x12 := F0.out.c 12 _ rfl; have x13 := F0.out.c 13 _ rfl; have x14 := F0.out.c 14 _ rfl; have x15 := F0.out.c 15 _ rfl; have x16 := F0.out.c 16 _ rfl) | (refine store_blk [.int .i64 3, .int .i64 0, .int .i64 0] 32 _ _ (by kernel_rfl) (by kernel_rfl) (by kernel_rfl) F1.out rfl rfl rfl rfl ?_))
    exact bodyPost_ret (v := .agg #[.int .i64 3, .int .i64 0, .int .i64 0]) ((F1.out.row [.int .i64 3, .int .i64 0, .int .i64 0]).res _ Tryz.results7 Tryz.underlying32 (by kernel_rfl) rfl) rfl ⟨rfl, below_row FB.out (by omega) _⟩
  have KD : Hid (inB sh 0 ((ds.length : Int) - 1) = true) := k1
  rw [if_pos rfl]
  have sb := inB_iff.1 k1
  obtain ⟨v, hv⟩ : ∃ v, lead8 a b = v := ⟨_, rfl⟩
  rw [hv]
  have HV : Hid (lead8 (a.1, a.2.1, a.2.2) (b.1, b.2.1, b.2.2) = v) := hv
  have vv : v < 0 ↔ ¬ (a.1 = 0 ∨ b.1 = 0) := by
    rw [← hv]
    unfold lead8
    by_cases q1 : a.1 = 0 <;> by_cases q2 : b.1 = 0 <;> simp [q1, q2]
    all_goals (first | (split <;> omega) | omega)
  clear hv
  by_cases kn : a.1 = 0 ∨ b.1 = 0
  · have KN : Hid (decide (a.1 = 0 ∨ b.1 = 0) = true) := decide_eq_true kn
    have KO : Hid (a.1 = 0 ∨ b.1 = 0) := kn
    rw [if_neg (fun z => vv.1 z kn)]
    clear kn vv
    go_enter Tryz.func7, Tryz.ntmps7
    go_upto_region 1 with fail
    rw [← HW0.out]
    go_upto_region 7 with (first | (refine load_blk 40 _ Tryz.underlying40 (by kernel_rfl) F0.out rfl rfl rfl ?_) | (go_at_call 18; refine (implGroupFault_any h ds da dc nx ps pa pc tk rc hld hlp _ ((HD.out.below FB.out (Nat.le_refl _)).mono FB.out.size) ((HP.out.below FB.out (Nat.le_refl _)).mono FB.out.size)).mono ?_; rw [HF.out]; rintro e w1 ⟨rfl, hb⟩; have F0 : Hid (Blk w1 w.heap.size (gvs h (.slice da ds.length dc) nx (.slice pa ps.length pc) tk rc)) := F0.out.below hb F0.out.lt; have F1 : Hid (Blk w1 (w.heap.size + 1) [.int .i64 0, .int .i64 0, .int .i64 0]) := F1.out.below hb F1.out.lt; have FB : Hid (Below w.heap.size w w1) := FB.out.trans (hb.mono FB.out.size); clear hb) | (go_at_call 19; refine (isDeck_any h da ds.length dc nx pa ps.length pc tk rc sh hld _).mono ?_; rw [KD.out]; rintro e w2 ⟨rfl, hb⟩; have F0 : Hid (Blk w2 w.heap.size (gvs h (.slice da ds.length dc) nx (.slice pa ps.length pc) tk rc)) := F0.out.below hb F0.out.lt; have F1 : Hid (Blk w2 (w.heap.size + 1) [.int .i64 0, .int .i64 0, .int .i64 0]) := F1.out.below hb F1.out.lt; have FB : Hid (Below w.heap.size w w2) := FB.out.trans (hb.mono FB.out.size); clear hb; have x0 := F0.out.c 0 _ rfl; have x1 := F0.out.c 1 _ rfl; have x2 := F0.out.c 2 _ rfl; have x3 := F0.out.c 3 _ rfl; have x4 := F0.out.c 4 _ rfl; have x5 := F0.out.c 5 _ rfl; have x6 := F0.out.c 6 _ rfl; have x7 := F0.out.c 7 _ rfl; have x8 := F0.out.c 8 _ rfl; have x9 := F0.out.c 9 _ rfl; have x10 := F0.out.c 10 _ rfl; have x11 := F0.out.c 11 _ rfl; have x12 := F0.out.c 12 _ rfl; have x13 := F0.out.c 13 _ rfl; have x14 := F0.out.c 14 _ rfl; have x15 := F0.out.c 15 _ rfl; have x16 := F0.out.c 16 _ rfl) | (go_at_call 20; refine (needsIn_any h ds da dc nx ps pa pc tk rc sh HF.out sb.1 (by omega) hld hlp _ ((HD.out.below FB.out (Nat.le_refl _)).mono FB.out.size) ((HP.out.below FB.out (Nat.le_refl _)).mono FB.out.size)).mono ?_; rw [HA.out, HB.out]; rintro e w3 ⟨rfl, hb⟩; have F0 : Hid (Blk w3 w.heap.size (gvs h (.slice da ds.length dc) nx (.slice pa ps.length pc) tk rc)) := F0.out.below hb F0.out.lt; have F1 : Hid (Blk w3 (w.heap.size + 1) [.int .i64 0, .int .i64 0, .int .i64 0]) := F1.out.below hb F1.out.lt; have FB : Hid (Below w.heap.size w w3) := FB.out.trans (hb.mono FB.out.size); clear hb) | (refine store_new [.int .i64 a.1, .int .i64 a.2.1, .int .i64 a.2.2, .int .i64 b.1, .int .i64 b.2.1, .int .i64 b.2.2] 57 _ _ (by kernel_rfl) (by kernel_rfl) (by kernel_rfl) rfl rfl rfl rfl ?_))
    obtain ⟨nb, hnb⟩ : ∃ nb, nb = w3.heap.size := ⟨_, rfl⟩
    obtain ⟨W4, hW4⟩ : ∃ W4, W4 = w3.alloc (.cells ([.int .i64 a.1, .int .i64 a.2.1, .int .i64 a.2.2, .int .i64 b.1, .int .i64 b.2.1, .int .i64 b.2.2] : List Value).toArray 57) := ⟨_, rfl⟩
    have F1 : Hid (Blk W4 (w.heap.size + 1) [.int .i64 0, .int .i64 0, .int .i64 0]) := by rw [hW4]; exact F1.out.alloc _
    have FN : Hid (Blk W4 nb [.int .i64 a.1, .int .i64 a.2.1, .int .i64 a.2.2, .int .i64 b.1, .int .i64 b.2.1, .int .i64 b.2.2]) := by rw [hW4]; exact Blk.at_ w3 ([.int .i64 a.1, .int .i64 a.2.1, .int .i64 a.2.2, .int .i64 b.1, .int .i64 b.2.1, .int .i64 b.2.2] : List Value).toArray _ _ hnb
    have FB : Hid (Below w.heap.size w W4) := by rw [hW4]; exact FB.out.alloc FB.out.size _
    rw [← hW4, ← hnb]
    clear hW4 hnb
    go_wp2_with (first | (refine load_arr 57 _ Tryz.underlying57 (by kernel_rfl) FN.out rfl rfl rfl ?_) | (go_at_call 21; refine (isNeeded_any a.1 a.2.1 a.2.2 b.1 b.2.1 b.2.2 _).mono ?_; rw [KN.out]; rintro e w5 ⟨rfl, hb⟩; have F1 : Hid (Blk w5 (w.heap.size + 1) [.int .i64 0, .int .i64 0, .int .i64 0]) := F1.out.below hb F1.out.lt; have FN : Hid (Blk w5 nb [.int .i64 a.1, .int .i64 a.2.1, .int .i64 a.2.2, .int .i64 b.1, .int .i64 b.2.1, .int .i64 b.2.2]) := FN.out.below hb FN.out.lt; have FB : Hid (Below w.heap.size w w5) := FB.out.trans (hb.mono FB.out.size); clear hb) | (go_at_call 22; refine (leadOf_any a.1 a.2.1 a.2.2 b.1 b.2.1 b.2.2 KO.out _).mono ?_; rw [HV.out]; rintro e w5 ⟨rfl, hb⟩; have F1 : Hid (Blk w5 (w.heap.size + 1) [.int .i64 0, .int .i64 0, .int .i64 0]) := F1.out.below hb F1.out.lt; have FN : Hid (Blk w5 nb [.int .i64 a.1, .int .i64 a.2.1, .int .i64 a.2.2, .int .i64 b.1, .int .i64 b.2.1, .int .i64 b.2.2]) := FN.out.below hb FN.out.lt; have FB : Hid (Below w.heap.size w w5) := FB.out.trans (hb.mono FB.out.size); clear hb) | (refine store_blk [.int .i64 0, .int .i64 sh, .int .i64 v] 32 _ _ (by kernel_rfl) (by kernel_rfl) (by kernel_rfl) F1.out rfl rfl rfl rfl ?_))
    exact bodyPost_ret (v := .agg #[.int .i64 0, .int .i64 sh, .int .i64 v]) ((F1.out.row [.int .i64 0, .int .i64 sh, .int .i64 v]).res _ Tryz.results7 Tryz.underlying32 (by kernel_rfl) rfl) rfl ⟨rfl, below_row FB.out (by omega) _⟩
  · have KN : Hid (decide (a.1 = 0 ∨ b.1 = 0) = false) := decide_eq_false kn
    rw [if_pos (vv.2 kn)]
    clear kn vv
    go_enter Tryz.func7, Tryz.ntmps7
    go_upto_region 1 with fail
    rw [← HW0.out]
    go_upto_region 7 with (first | (refine load_blk 40 _ Tryz.underlying40 (by kernel_rfl) F0.out rfl rfl rfl ?_) | (go_at_call 18; refine (implGroupFault_any h ds da dc nx ps pa pc tk rc hld hlp _ ((HD.out.below FB.out (Nat.le_refl _)).mono FB.out.size) ((HP.out.below FB.out (Nat.le_refl _)).mono FB.out.size)).mono ?_; rw [HF.out]; rintro e w1 ⟨rfl, hb⟩; have F0 : Hid (Blk w1 w.heap.size (gvs h (.slice da ds.length dc) nx (.slice pa ps.length pc) tk rc)) := F0.out.below hb F0.out.lt; have F1 : Hid (Blk w1 (w.heap.size + 1) [.int .i64 0, .int .i64 0, .int .i64 0]) := F1.out.below hb F1.out.lt; have FB : Hid (Below w.heap.size w w1) := FB.out.trans (hb.mono FB.out.size); clear hb) | (go_at_call 19; refine (isDeck_any h da ds.length dc nx pa ps.length pc tk rc sh hld _).mono ?_; rw [KD.out]; rintro e w2 ⟨rfl, hb⟩; have F0 : Hid (Blk w2 w.heap.size (gvs h (.slice da ds.length dc) nx (.slice pa ps.length pc) tk rc)) := F0.out.below hb F0.out.lt; have F1 : Hid (Blk w2 (w.heap.size + 1) [.int .i64 0, .int .i64 0, .int .i64 0]) := F1.out.below hb F1.out.lt; have FB : Hid (Below w.heap.size w w2) := FB.out.trans (hb.mono FB.out.size); clear hb; have x0 := F0.out.c 0 _ rfl; have x1 := F0.out.c 1 _ rfl; have x2 := F0.out.c 2 _ rfl; have x3 := F0.out.c 3 _ rfl; have x4 := F0.out.c 4 _ rfl; have x5 := F0.out.c 5 _ rfl; have x6 := F0.out.c 6 _ rfl; have x7 := F0.out.c 7 _ rfl; have x8 := F0.out.c 8 _ rfl; have x9 := F0.out.c 9 _ rfl; have x10 := F0.out.c 10 _ rfl; have x11 := F0.out.c 11 _ rfl; have x12 := F0.out.c 12 _ rfl; have x13 := F0.out.c 13 _ rfl; have x14 := F0.out.c 14 _ rfl; have x15 := F0.out.c 15 _ rfl; have x16 := F0.out.c 16 _ rfl) | (go_at_call 20; refine (needsIn_any h ds da dc nx ps pa pc tk rc sh HF.out sb.1 (by omega) hld hlp _ ((HD.out.below FB.out (Nat.le_refl _)).mono FB.out.size) ((HP.out.below FB.out (Nat.le_refl _)).mono FB.out.size)).mono ?_; rw [HA.out, HB.out]; rintro e w3 ⟨rfl, hb⟩; have F0 : Hid (Blk w3 w.heap.size (gvs h (.slice da ds.length dc) nx (.slice pa ps.length pc) tk rc)) := F0.out.below hb F0.out.lt; have F1 : Hid (Blk w3 (w.heap.size + 1) [.int .i64 0, .int .i64 0, .int .i64 0]) := F1.out.below hb F1.out.lt; have FB : Hid (Below w.heap.size w w3) := FB.out.trans (hb.mono FB.out.size); clear hb) | (refine store_new [.int .i64 a.1, .int .i64 a.2.1, .int .i64 a.2.2, .int .i64 b.1, .int .i64 b.2.1, .int .i64 b.2.2] 57 _ _ (by kernel_rfl) (by kernel_rfl) (by kernel_rfl) rfl rfl rfl rfl ?_))
    obtain ⟨nb, hnb⟩ : ∃ nb, nb = w3.heap.size := ⟨_, rfl⟩
    obtain ⟨W4, hW4⟩ : ∃ W4, W4 = w3.alloc (.cells ([.int .i64 a.1, .int .i64 a.2.1, .int .i64 a.2.2, .int .i64 b.1, .int .i64 b.2.1, .int .i64 b.2.2] : List Value).toArray 57) := ⟨_, rfl⟩
    have F1 : Hid (Blk W4 (w.heap.size + 1) [.int .i64 0, .int .i64 0, .int .i64 0]) := by rw [hW4]; exact F1.out.alloc _
    have FN : Hid (Blk W4 nb [.int .i64 a.1, .int .i64 a.2.1, .int .i64 a.2.2, .int .i64 b.1, .int .i64 b.2.1, .int .i64 b.2.2]) := by rw [hW4]; exact Blk.at_ w3 ([.int .i64 a.1, .int .i64 a.2.1, .int .i64 a.2.2, .int .i64 b.1, .int .i64 b.2.1, .int .i64 b.2.2] : List Value).toArray _ _ hnb
    have FB : Hid (Below w.heap.size w W4) := by rw [hW4]; exact FB.out.alloc FB.out.size _
    rw [← hW4, ← hnb]
    clear hW4 hnb
    go_wp2_with (first | (refine load_arr 57 _ Tryz.underlying57 (by kernel_rfl) FN.out rfl rfl rfl ?_) | (go_at_call 21; refine (isNeeded_any a.1 a.2.1 a.2.2 b.1 b.2.1 b.2.2 _).mono ?_; rw [KN.out]; rintro e w5 ⟨rfl, hb⟩; have F1 : Hid (Blk w5 (w.heap.size + 1) [.int .i64 0, .int .i64 0, .int .i64 0]) := F1.out.below hb F1.out.lt; have FN : Hid (Blk w5 nb [.int .i64 a.1, .int .i64 a.2.1, .int .i64 a.2.2, .int .i64 b.1, .int .i64 b.2.1, .int .i64 b.2.2]) := FN.out.below hb FN.out.lt; have FB : Hid (Below w.heap.size w w5) := FB.out.trans (hb.mono FB.out.size); clear hb) | fail | (refine store_blk [.int .i64 4, .int .i64 0, .int .i64 0] 32 _ _ (by kernel_rfl) (by kernel_rfl) (by kernel_rfl) F1.out rfl rfl rfl rfl ?_))
    exact bodyPost_ret (v := .agg #[.int .i64 4, .int .i64 0, .int .i64 0]) ((F1.out.row [.int .i64 4, .int .i64 0, .int .i64 0]).res _ Tryz.results7 Tryz.underlying32 (by kernel_rfl) rfl) rfl ⟨rfl, below_row FB.out (by omega) _⟩
end Go.Proofs.YtfmpfcpefflmjaaGreat
