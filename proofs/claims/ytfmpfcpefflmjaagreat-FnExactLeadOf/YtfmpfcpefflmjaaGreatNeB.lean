/-
  The base of what follows: plain numbers, cells, contracts of the smallest functions.
-/
import Derived.Test.YtfmpfcpefflmjaaGreatGfS
import Derived.Test.YtfmpfcpefflmjaaGreatPKo
import Derived.Test.YtfmpfcpefflmjaaGreatNeA
import Derived.Test.YtfmpfcpefflmjaaGreatSpanB
import Derived.Test.YtfmpfcpefflmjaaGreatCarS
import Derived.BigGuardPart
import Derived.Deep.DeepCutAuto
/-
  The model's group: what is needed in a car, and who leads.
-/
namespace Go.Proofs.YtfmpfcpefflmjaaGreat
open Go.RowKit Pl
set_option linter.unusedSimpArgs false
set_option linter.unusedVariables false

set_option maxRecDepth 20000 in
set_option maxHeartbeats 16000000 in
theorem l8Floor_any (h : Hs) (o : h.Ok) (c : Cs) (w : World) :
    Calls Tryz.prog 52 #[.agg #[.int .i64 h.fl, .int .i64 h.gp, .int .i64 h.ln, .int .i64 h.rf, .int .i64 h.sp, .int .i64 h.pu, .int .i64 h.br, .int .i64 h.dr, .int .i64 h.lv, .int .i64 h.dO, .int .i64 h.ld, .int .i64 h.qu], .agg #[.int .i64 c.pos, .int .i64 c.vel, .int .i64 c.door]] w fun e w' => e = .returned (.int .i64 (floor8 h c)) ∧ Below w.heap.size w w' := by
  have f1 := o.fl1; have f2 := o.fl2
  have ew : IntKind.i64.wrap (h.fl - 1) = h.fl - 1 := IntWalk.i64_in _ (by omega)
  obtain ⟨v, hv⟩ : ∃ v, Hs.at6 h c.pos = v := ⟨_, rfl⟩
  unfold floor8
  rw [hv]
  have HV : Hid (Hs.at6 h c.pos = v) := hv
  have HO : Hid h.Ok := o
  clear hv o f1 f2
  have F0 : Hid (HAt ((w.alloc (.cells #[.int .i64 h.fl, .int .i64 h.gp, .int .i64 h.ln, .int .i64 h.rf, .int .i64 h.sp, .int .i64 h.pu, .int .i64 h.br, .int .i64 h.dr, .int .i64 h.lv, .int .i64 h.dO, .int .i64 h.ld, .int .i64 h.qu] 34)).alloc (.cells #[.int .i64 c.pos, .int .i64 c.vel, .int .i64 c.door] 67)) w.heap.size h) := (HAt.at_ w h _ _ (by simp)).alloc _
  have F1 : Hid (CW ((w.alloc (.cells #[.int .i64 h.fl, .int .i64 h.gp, .int .i64 h.ln, .int .i64 h.rf, .int .i64 h.sp, .int .i64 h.pu, .int .i64 h.br, .int .i64 h.dr, .int .i64 h.lv, .int .i64 h.dO, .int .i64 h.ld, .int .i64 h.qu] 34)).alloc (.cells #[.int .i64 c.pos, .int .i64 c.vel, .int .i64 c.door] 67)) (w.heap.size + 1) c) := CW.at_ (w.alloc (.cells #[.int .i64 h.fl, .int .i64 h.gp, .int .i64 h.ln, .int .i64 h.rf, .int .i64 h.sp, .int .i64 h.pu, .int .i64 h.br, .int .i64 h.dr, .int .i64 h.lv, .int .i64 h.dO, .int .i64 h.ld, .int .i64 h.qu] 34)) c _ _ (by simp)
  have FB : Hid (Below w.heap.size w ((w.alloc (.cells #[.int .i64 h.fl, .int .i64 h.gp, .int .i64 h.ln, .int .i64 h.rf, .int .i64 h.sp, .int .i64 h.pu, .int .i64 h.br, .int .i64 h.dr, .int .i64 h.lv, .int .i64 h.dO, .int .i64 h.ld, .int .i64 h.qu] 34)).alloc (.cells #[.int .i64 c.pos, .int .i64 c.vel, .int .i64 c.door] 67))) := (((Below.refl _ _).alloc (Nat.le_refl _) _).alloc (by simp <;> omega) _)
  go_enter Tryz.func52, Tryz.ntmps52
  go_wp2_with fail
  have F0 : Hid (HAt ((w.alloc (.cells #[.int .i64 h.fl, .int .i64 h.gp, .int .i64 h.ln, .int .i64 h.rf, .int .i64 h.sp, .int .i64 h.pu, .int .i64 h.br, .int .i64 h.dr, .int .i64 h.lv, .int .i64 h.dO, .int .i64 h.ld, .int .i64 h.qu] 34)).alloc (.cells #[.int .i64 c.pos, .int .i64 c.vel, .int .i64 c.door] 67)).drew w.heap.size h) := F0.out.below (Below.refl _ _).drew F0.out.lt
  have F1 : Hid (CW ((w.alloc (.cells #[.int .i64 h.fl, .int .i64 h.gp, .int .i64 h.ln, .int .i64 h.rf, .int .i64 h.sp, .int .i64 h.pu, .int .i64 h.br, .int .i64 h.dr, .int .i64 h.lv, .int .i64 h.dO, .int .i64 h.ld, .int .i64 h.qu] 34)).alloc (.cells #[.int .i64 c.pos, .int .i64 c.vel, .int .i64 c.door] 67)).drew (w.heap.size + 1) c) := F1.out.below (Below.refl _ _).drew F1.out.lt
  have FB : Hid (Below w.heap.size w ((w.alloc (.cells #[.int .i64 h.fl, .int .i64 h.gp, .int .i64 h.ln, .int .i64 h.rf, .int .i64 h.sp, .int .i64 h.pu, .int .i64 h.br, .int .i64 h.dr, .int .i64 h.lv, .int .i64 h.dO, .int .i64 h.ld, .int .i64 h.qu] 34)).alloc (.cells #[.int .i64 c.pos, .int .i64 c.vel, .int .i64 c.door] 67)).drew) := FB.out.drew
  obtain ⟨x0_0, x0_1, x0_2, x0_3, x0_4, x0_5, x0_6, x0_7, x0_8, x0_9, x0_10, x0_11⟩ := F0.out
  obtain ⟨x1_0, x1_1, x1_2, y1_0, y1_1, y1_2⟩ := F1.out
  refine wp_region_held_drew (S := (fun w'' => w''.cell? ⟨w.heap.size, 0, none⟩ = some (.int .i64 h.fl) ∧ w''.cell? ⟨w.heap.size, 1, none⟩ = some (.int .i64 h.gp) ∧ w''.cell? ⟨w.heap.size, 2, none⟩ = some (.int .i64 h.ln) ∧ w''.cell? ⟨w.heap.size, 3, none⟩ = some (.int .i64 h.rf) ∧ w''.cell? ⟨w.heap.size, 4, none⟩ = some (.int .i64 h.sp) ∧ w''.cell? ⟨w.heap.size, 5, none⟩ = some (.int .i64 h.pu) ∧ w''.cell? ⟨w.heap.size, 6, none⟩ = some (.int .i64 h.br) ∧ w''.cell? ⟨w.heap.size, 7, none⟩ = some (.int .i64 h.dr) ∧ w''.cell? ⟨w.heap.size, 8, none⟩ = some (.int .i64 h.lv) ∧ w''.cell? ⟨w.heap.size, 9, none⟩ = some (.int .i64 h.dO) ∧ w''.cell? ⟨w.heap.size, 10, none⟩ = some (.int .i64 h.ld) ∧ w''.cell? ⟨w.heap.size, 11, none⟩ = some (.int .i64 h.qu) ∧ w''.cell? ⟨(w.heap.size + 1), 0, none⟩ = some (.int .i64 c.pos) ∧ w''.cell? ⟨(w.heap.size + 1), 1, none⟩ = some (.int .i64 c.vel) ∧ w''.cell? ⟨(w.heap.size + 1), 2, none⟩ = some (.int .i64 c.door))) (by kernel_rfl) (by (try dsimp only); first | exact ⟨x0_0, x0_1, x0_2, x0_3, x0_4, x0_5, x0_6, x0_7, x0_8, x0_9, x0_10, x0_11, x1_0, x1_1, x1_2⟩ | go_keep) (fun hHeld => ?_)
  obtain ⟨v_1, hw1⟩ : ∃ v_1, v_1 = ((w.alloc (.cells #[.int .i64 h.fl, .int .i64 h.gp, .int .i64 h.ln, .int .i64 h.rf, .int .i64 h.sp, .int .i64 h.pu, .int .i64 h.br, .int .i64 h.dr, .int .i64 h.lv, .int .i64 h.dO, .int .i64 h.ld, .int .i64 h.qu] 34)).alloc (.cells #[.int .i64 c.pos, .int .i64 c.vel, .int .i64 c.door] 67)).drew := ⟨_, rfl⟩
  have F0 : Hid (HAt v_1 w.heap.size h) := by rw [hw1]; exact F0.out
  have F1 : Hid (CW v_1 (w.heap.size + 1) c) := by rw [hw1]; exact F1.out
  have FB : Hid (Below w.heap.size w v_1) := by rw [hw1]; exact FB.out
  rw [← hw1] at hHeld ⊢
  clear hw1
  obtain ⟨x0_0, x0_1, x0_2, x0_3, x0_4, x0_5, x0_6, x0_7, x0_8, x0_9, x0_10, x0_11⟩ := F0.out
  obtain ⟨x1_0, x1_1, x1_2, y1_0, y1_1, y1_2⟩ := F1.out
  refine tkz 0 rfl ?_
  refine tkz 1 rfl ?_
  refine tkz 2 rfl ?_
  refine tkz 3 rfl ?_
  refine tkz 4 rfl ?_
  refine wpAnyH_ready (rs := [5]) (by kernel_rfl) (by simp) ?_
  refine (AllReadyH.cons rfl (fun K hK => ?_) AllReadyH.nil)
  go_simp
  refine (l6At_any h HO.out c _).mono ?_
  rintro e v_2 ⟨rfl, hb⟩
  have F0 : Hid (HAt v_2 w.heap.size h) := F0.out.below hb F0.out.lt
  have F1 : Hid (CW v_2 (w.heap.size + 1) c) := F1.out.below hb F1.out.lt
  have FB : Hid (Below w.heap.size w v_2) := FB.out.trans (hb.mono FB.out.size)
  clear hb
  obtain ⟨x0_0, x0_1, x0_2, x0_3, x0_4, x0_5, x0_6, x0_7, x0_8, x0_9, x0_10, x0_11⟩ := F0.out
  obtain ⟨x1_0, x1_1, x1_2, y1_0, y1_1, y1_2⟩ := F1.out
  try dsimp only
  refine hK.out _ _ (by (try dsimp only); first | exact ⟨x0_0, x0_1, x0_2, x0_3, x0_4, x0_5, x0_6, x0_7, x0_8, x0_9, x0_10, x0_11, x1_0, x1_1, x1_2⟩ | go_keep) (fun hHeld => ?_)
  clear hK K
  try simp only [Act.put, List.getElem_toArray, List.getElem_cons_succ, List.getElem_cons_zero, List.setIfInBounds_toArray, List.set_cons_zero, List.set_cons_succ]
  refine wpAnyH_ready (rs := [6]) (by kernel_rfl) (by simp) ?_
  refine (AllReadyH.cons rfl (fun K hK => ?_) AllReadyH.nil)
  go_simp
  refine (l1Min_any _ _ _).mono ?_
  rintro e w_ ⟨rfl, hw⟩
  obtain rfl := hw.symm
  clear hw
  try dsimp only
  refine hK.out _ _ (by (try dsimp only); first | exact ⟨x0_0, x0_1, x0_2, x0_3, x0_4, x0_5, x0_6, x0_7, x0_8, x0_9, x0_10, x0_11, x1_0, x1_1, x1_2⟩ | go_keep) (fun hHeld => ?_)
  clear hK K
  try simp only [Act.put, List.getElem_toArray, List.getElem_cons_succ, List.getElem_cons_zero, List.setIfInBounds_toArray, List.set_cons_zero, List.set_cons_succ]
  refine wpAnyH_ready (rs := [7]) (by kernel_rfl) (by simp) ?_
  refine (AllReadyH.cons rfl (fun K hK => ?_) AllReadyH.nil)
  go_simp
  refine (l1Max_any _ _ _).mono ?_
  rintro e w_ ⟨rfl, hw⟩
  obtain rfl := hw.symm
  clear hw
  try dsimp only
  refine hK.out _ _ (by (try dsimp only); first | exact ⟨x0_0, x0_1, x0_2, x0_3, x0_4, x0_5, x0_6, x0_7, x0_8, x0_9, x0_10, x0_11, x1_0, x1_1, x1_2⟩ | go_keep) (fun hHeld => ?_)
  clear hK K
  try simp only [Act.put, List.getElem_toArray, List.getElem_cons_succ, List.getElem_cons_zero, List.setIfInBounds_toArray, List.set_cons_zero, List.set_cons_succ]
  refine tkz 8 rfl ?_
  refine wpAnyH_done (by kernel_rfl) ?_ _
  go_wp2_with fail
  go_ret
  exact ⟨ret_int (by rw [HV.out]), FB.out⟩
set_option maxRecDepth 20000 in
set_option maxHeartbeats 8000000 in
theorem l8Car_any (b o : Nat) (d : Dk) (ca : Int) (w : World) (hd : D13 w b o d) :
    Calls Tryz.prog 53 #[.pointer (some ⟨b, o, none⟩), .int .i64 ca] w fun e w' => e = .returned (.agg #[.int .i64 (carAt d.sh ca).pos, .int .i64 (carAt d.sh ca).vel, .int .i64 (carAt d.sh ca).door]) ∧ Below w.heap.size w w' := by
  have HD : Hid (D13 (w.alloc (.cells #[.int .i64 0, .int .i64 0, .int .i64 0] 67)) b o d) := hd.alloc _
  have F1 : Hid (Blk (w.alloc (.cells #[.int .i64 0, .int .i64 0, .int .i64 0] 67)) w.heap.size [.int .i64 0, .int .i64 0, .int .i64 0]) := Blk.at_ w #[.int .i64 0, .int .i64 0, .int .i64 0] _ _ rfl
  have FB : Hid (Below w.heap.size w (w.alloc (.cells #[.int .i64 0, .int .i64 0, .int .i64 0] 67))) := (Below.refl _ _).alloc (Nat.le_refl _) _
  obtain ⟨W0, hW0⟩ : ∃ W0, W0 = w.alloc (.cells #[.int .i64 0, .int .i64 0, .int .i64 0] 67) := ⟨_, rfl⟩
  rw [← hW0] at HD F1 FB
  have HW0 : Hid (W0 = w.alloc (.cells #[.int .i64 0, .int .i64 0, .int .i64 0] 67)) := hW0
  clear hW0 hd
  unfold carAt
  by_cases k : ca = 0
  · rw [if_pos k]
    have e1 : (ca == 0) = true := by simpa using k
    clear k
    go_enter Tryz.func53, Tryz.ntmps53
    go_upto_region 1 with fail
    rw [← HW0.out]
    obtain ⟨c0, c1, c2, c3, c4, c5, c6, c7, c8, c9, c10, c11, c12⟩ := HD.out
    go_wp2_with (refine store_blk [.int .i64 d.sh.lo.pos, .int .i64 d.sh.lo.vel, .int .i64 d.sh.lo.door] 67 _ _ (by kernel_rfl) (by kernel_rfl) (by kernel_rfl) F1.out rfl rfl rfl rfl ?_)
    exact bodyPost_ret (v := .agg #[.int .i64 d.sh.lo.pos, .int .i64 d.sh.lo.vel, .int .i64 d.sh.lo.door]) ((F1.out.row [.int .i64 d.sh.lo.pos, .int .i64 d.sh.lo.vel, .int .i64 d.sh.lo.door]).res _ Tryz.results53 Tryz.underlying67 (by kernel_rfl) rfl) rfl ⟨rfl, below_row FB.out (by omega) _⟩
  · rw [if_neg k]
    have e1 : (ca == 0) = false := by simpa using k
    clear k
    go_enter Tryz.func53, Tryz.ntmps53
    go_upto_region 1 with fail
    rw [← HW0.out]
    obtain ⟨c0, c1, c2, c3, c4, c5, c6, c7, c8, c9, c10, c11, c12⟩ := HD.out
    go_wp2_with (refine store_blk [.int .i64 d.sh.up.pos, .int .i64 d.sh.up.vel, .int .i64 d.sh.up.door] 67 _ _ (by kernel_rfl) (by kernel_rfl) (by kernel_rfl) F1.out rfl rfl rfl rfl ?_)
    exact bodyPost_ret (v := .agg #[.int .i64 d.sh.up.pos, .int .i64 d.sh.up.vel, .int .i64 d.sh.up.door]) ((F1.out.row [.int .i64 d.sh.up.pos, .int .i64 d.sh.up.vel, .int .i64 d.sh.up.door]).res _ Tryz.results53 Tryz.underlying67 (by kernel_rfl) rfl) rfl ⟨rfl, below_row FB.out (by omega) _⟩
set_option maxRecDepth 20000 in
set_option maxHeartbeats 32000000 in
theorem l8Need_any (gb : Nat) (h : Hs) (ds : List Dk) (da : Option Addr) (dc : Nat) (nx : Int) (ps : List Pe) (pa : Option Addr) (pc : Nat) (tk : Int) (rc : Bool) (sh ca : Int) (oh : h.Ok) (s0 : 0 ≤ sh) (s1 : sh < ds.length) (hld : ds.length ≤ 1048576) (hlp : ps.length ≤ 1048576) (r : Int × Int × Int) (hr : need8 h ds ps rc sh ca = r) (w : World) (hG : Blk w gb (gvs h (.slice da ds.length dc) nx (.slice pa ps.length pc) tk rc)) (hD : DIn w w.heap.size da ds) (hP : PIn w w.heap.size pa ps) :
    Calls Tryz.prog 32 #[.pointer (some ⟨gb, 0, none⟩), .int .i64 sh, .int .i64 ca] w fun e w' => e = .returned (.agg #[.int .i64 r.1, .int .i64 r.2.1, .int .i64 r.2.2]) ∧ Below w.heap.size w w' := by
  have HO : Hid h.Ok := oh
  have HD : Hid (DIn w w.heap.size da ds) := hD
  have HP : Hid (PIn w w.heap.size pa ps) := hP
  have FG : Hid (Blk (w.alloc (.cells #[.int .i64 0, .int .i64 0, .int .i64 0] 56)) gb (gvs h (.slice da ds.length dc) nx (.slice pa ps.length pc) tk rc)) := hG.alloc _
  have lg := hG.lt
  have F1 : Hid (Blk (w.alloc (.cells #[.int .i64 0, .int .i64 0, .int .i64 0] 56)) w.heap.size [.int .i64 0, .int .i64 0, .int .i64 0]) := Blk.at_ w #[.int .i64 0, .int .i64 0, .int .i64 0] _ _ rfl
  have FB : Hid (Below w.heap.size w (w.alloc (.cells #[.int .i64 0, .int .i64 0, .int .i64 0] 56))) := (Below.refl _ _).alloc (Nat.le_refl _) _
  obtain ⟨W0, hW0⟩ : ∃ W0, W0 = (w.alloc (.cells #[.int .i64 0, .int .i64 0, .int .i64 0] 56)) := ⟨_, rfl⟩
  rw [← hW0] at FG F1 FB
  have HW0 : Hid (W0 = (w.alloc (.cells #[.int .i64 0, .int .i64 0, .int .i64 0] 56))) := hW0
  clear hW0 hG hD hP oh
  unfold need8 at hr
  cases rc
  · have HR : Hid (Hs.need h ps sh ca = r) := by
      rw [if_neg (by simp)] at hr
      exact hr
    clear hr
    go_enter Tryz.func32, Tryz.ntmps32
    go_upto_region 1 with fail
    rw [← HW0.out]
    clear HW0
    have m16 := FG.out.c 16 _ rfl
    go_upto_region 2 with fail
    clear m16
    have FG : Hid (Blk W0.drew gb (gvs h (.slice da ds.length dc) nx (.slice pa ps.length pc) tk false)) := FG.out.below (Below.refl _ _).drew FG.out.lt
    have F1 : Hid (Blk W0.drew w.heap.size [.int .i64 0, .int .i64 0, .int .i64 0]) := F1.out.below (Below.refl _ _).drew F1.out.lt
    have FB : Hid (Below w.heap.size w W0.drew) := FB.out.drew
    have m0 := FG.out.c 0 _ rfl
    have m1 := FG.out.c 1 _ rfl
    have m2 := FG.out.c 2 _ rfl
    have m3 := FG.out.c 3 _ rfl
    have m4 := FG.out.c 4 _ rfl
    have m5 := FG.out.c 5 _ rfl
    have m6 := FG.out.c 6 _ rfl
    have m7 := FG.out.c 7 _ rfl
    have m8 := FG.out.c 8 _ rfl
    have m9 := FG.out.c 9 _ rfl
    have m10 := FG.out.c 10 _ rfl
    have m11 := FG.out.c 11 _ rfl
    have m12 := FG.out.c 12 _ rfl
    have m13 := FG.out.c 13 _ rfl
    have m14 := FG.out.c 14 _ rfl
    have m15 := FG.out.c 15 _ rfl
    have m16 := FG.out.c 16 _ rfl
    refine wp_region_held_drew (S := (fun w'' => w''.cell? ⟨gb, 0, none⟩ = some (.int .i64 h.fl) ∧ w''.cell? ⟨gb, 1, none⟩ = some (.int .i64 h.gp) ∧ w''.cell? ⟨gb, 2, none⟩ = some (.int .i64 h.ln) ∧ w''.cell? ⟨gb, 3, none⟩ = some (.int .i64 h.rf) ∧ w''.cell? ⟨gb, 4, none⟩ = some (.int .i64 h.sp) ∧ w''.cell? ⟨gb, 5, none⟩ = some (.int .i64 h.pu) ∧ w''.cell? ⟨gb, 6, none⟩ = some (.int .i64 h.br) ∧ w''.cell? ⟨gb, 7, none⟩ = some (.int .i64 h.dr) ∧ w''.cell? ⟨gb, 8, none⟩ = some (.int .i64 h.lv) ∧ w''.cell? ⟨gb, 9, none⟩ = some (.int .i64 h.dO) ∧ w''.cell? ⟨gb, 10, none⟩ = some (.int .i64 h.ld) ∧ w''.cell? ⟨gb, 11, none⟩ = some (.int .i64 h.qu) ∧ w''.cell? ⟨gb, 12, none⟩ = some (.slice da ds.length dc) ∧ w''.cell? ⟨gb, 13, none⟩ = some (.int .i64 nx) ∧ w''.cell? ⟨gb, 14, none⟩ = some (.slice pa ps.length pc) ∧ w''.cell? ⟨gb, 15, none⟩ = some (.int .i64 tk) ∧ w''.cell? ⟨gb, 16, none⟩ = some (.bool false))) (by kernel_rfl) (by (try dsimp only); first | exact ⟨m0, m1, m2, m3, m4, m5, m6, m7, m8, m9, m10, m11, m12, m13, m14, m15, m16⟩ | go_keep) (fun hHeld => ?_)
    obtain ⟨v_3, hw1⟩ : ∃ v_3, v_3 = W0.drew := ⟨_, rfl⟩
    have FG : Hid (Blk v_3 gb (gvs h (.slice da ds.length dc) nx (.slice pa ps.length pc) tk false)) := by rw [hw1]; exact FG.out
    have F1 : Hid (Blk v_3 w.heap.size [.int .i64 0, .int .i64 0, .int .i64 0]) := by rw [hw1]; exact F1.out
    have FB : Hid (Below w.heap.size w v_3) := by rw [hw1]; exact FB.out
    rw [← hw1] at hHeld ⊢
    clear hw1
    have m0 := FG.out.c 0 _ rfl
    have m1 := FG.out.c 1 _ rfl
    have m2 := FG.out.c 2 _ rfl
    have m3 := FG.out.c 3 _ rfl
    have m4 := FG.out.c 4 _ rfl
    have m5 := FG.out.c 5 _ rfl
    have m6 := FG.out.c 6 _ rfl
    have m7 := FG.out.c 7 _ rfl
    have m8 := FG.out.c 8 _ rfl
    have m9 := FG.out.c 9 _ rfl
    have m10 := FG.out.c 10 _ rfl
    have m11 := FG.out.c 11 _ rfl
    have m12 := FG.out.c 12 _ rfl
    have m13 := FG.out.c 13 _ rfl
    have m14 := FG.out.c 14 _ rfl
    have m15 := FG.out.c 15 _ rfl
    have m16 := FG.out.c 16 _ rfl
    refine tkz 0 rfl ?_
    refine tkz 1 rfl ?_
    refine tkz 2 rfl ?_
    refine tkz 3 rfl ?_
    refine tkz 4 rfl ?_
    refine tkz 5 rfl ?_
    refine tkz 6 rfl ?_
    refine tkz 7 rfl ?_
    refine tkz 8 rfl ?_
    refine wpAnyH_ready (rs := [9]) (by kernel_rfl) (by simp) ?_
    refine (AllReadyH.cons rfl (fun K hK => ?_) AllReadyH.nil)
    go_simp
    refine (l7Need_anyO h gb 13 nx pa pc ps sh ca hlp r HR.out _ ⟨FG.out.c 13 _ rfl, FG.out.c 14 _ rfl⟩ ((HP.out.below FB.out (Nat.le_refl _)).mono FB.out.size)).mono ?_
    rintro e v_4 ⟨rfl, hb⟩
    have FG : Hid (Blk v_4 gb (gvs h (.slice da ds.length dc) nx (.slice pa ps.length pc) tk false)) := FG.out.below hb FG.out.lt
    have F1 : Hid (Blk v_4 w.heap.size [.int .i64 0, .int .i64 0, .int .i64 0]) := F1.out.below hb F1.out.lt
    have FB : Hid (Below w.heap.size w v_4) := FB.out.trans (hb.mono FB.out.size)
    clear hb
    have m0 := FG.out.c 0 _ rfl
    have m1 := FG.out.c 1 _ rfl
    have m2 := FG.out.c 2 _ rfl
    have m3 := FG.out.c 3 _ rfl
    have m4 := FG.out.c 4 _ rfl
    have m5 := FG.out.c 5 _ rfl
    have m6 := FG.out.c 6 _ rfl
    have m7 := FG.out.c 7 _ rfl
    have m8 := FG.out.c 8 _ rfl
    have m9 := FG.out.c 9 _ rfl
    have m10 := FG.out.c 10 _ rfl
    have m11 := FG.out.c 11 _ rfl
    have m12 := FG.out.c 12 _ rfl
    have m13 := FG.out.c 13 _ rfl
    have m14 := FG.out.c 14 _ rfl
    have m15 := FG.out.c 15 _ rfl
    have m16 := FG.out.c 16 _ rfl
    try dsimp only
    refine hK.out _ _ (by (try dsimp only); first | exact ⟨m0, m1, m2, m3, m4, m5, m6, m7, m8, m9, m10, m11, m12, m13, m14, m15, m16⟩ | go_keep) (fun hHeld => ?_)
    clear hK K
    try simp only [Act.put, List.getElem_toArray, List.getElem_cons_succ, List.getElem_cons_zero, List.setIfInBounds_toArray, List.set_cons_zero, List.set_cons_succ]
    refine wpAnyH_ready (rs := [10]) (by kernel_rfl) (by simp) ?_
    refine (AllReadyH.cons rfl (fun K hK => ?_) AllReadyH.nil)
    have z0 := F1.out.c 0 _ rfl
    have z1 := F1.out.c 1 _ rfl
    have z2 := F1.out.c 2 _ rfl
    have zf0 := F1.out.f 0 (Nat.le_of_ble_eq_true rfl)
    have zf1 := F1.out.f 1 (Nat.le_of_ble_eq_true rfl)
    have zf2 := F1.out.f 2 (Nat.le_of_ble_eq_true rfl)
    go_simp
    obtain ⟨v_5, hw2⟩ : ∃ v_5, v_5 = putB v_4 w.heap.size 0 [.int .i64 r.1, .int .i64 r.2.1, .int .i64 r.2.2] := ⟨_, rfl⟩
    change K _ (putB v_4 w.heap.size 0 [.int .i64 r.1, .int .i64 r.2.1, .int .i64 r.2.2])
    rw [← hw2]
    clear z0 z1 z2 zf0 zf1 zf2
    have FG : Hid (Blk v_5 gb (gvs h (.slice da ds.length dc) nx (.slice pa ps.length pc) tk false)) := by rw [hw2]; exact Blk.putB_other (by omega) [.int .i64 r.1, .int .i64 r.2.1, .int .i64 r.2.2] 0 FG.out
    have F1 : Hid (Blk v_5 w.heap.size [.int .i64 r.1, .int .i64 r.2.1, .int .i64 r.2.2]) := by rw [hw2]; exact F1.out.put [.int .i64 r.1, .int .i64 r.2.1, .int .i64 r.2.2] rfl
    have FB : Hid (Below w.heap.size w v_5) := by rw [hw2]; exact below_putB FB.out (by omega) _ _
    clear hw2
    have m0 := FG.out.c 0 _ rfl
    have m1 := FG.out.c 1 _ rfl
    have m2 := FG.out.c 2 _ rfl
    have m3 := FG.out.c 3 _ rfl
    have m4 := FG.out.c 4 _ rfl
    have m5 := FG.out.c 5 _ rfl
    have m6 := FG.out.c 6 _ rfl
    have m7 := FG.out.c 7 _ rfl
    have m8 := FG.out.c 8 _ rfl
    have m9 := FG.out.c 9 _ rfl
    have m10 := FG.out.c 10 _ rfl
    have m11 := FG.out.c 11 _ rfl
    have m12 := FG.out.c 12 _ rfl
    have m13 := FG.out.c 13 _ rfl
    have m14 := FG.out.c 14 _ rfl
    have m15 := FG.out.c 15 _ rfl
    have m16 := FG.out.c 16 _ rfl
    refine hK.out _ _ (by (try dsimp only); first | exact ⟨m0, m1, m2, m3, m4, m5, m6, m7, m8, m9, m10, m11, m12, m13, m14, m15, m16⟩ | go_keep) (fun hHeld => ?_)
    clear hK K
    try simp only [Act.put, List.getElem_toArray, List.getElem_cons_succ, List.getElem_cons_zero, List.setIfInBounds_toArray, List.set_cons_zero, List.set_cons_succ]
    refine wpAnyH_done (by kernel_rfl) ?_ _
    go_wp2_with fail
    exact bodyPost_ret (v := .agg #[.int .i64 r.1, .int .i64 r.2.1, .int .i64 r.2.2]) (F1.out.res _ Tryz.results32 Tryz.underlying56 (by kernel_rfl) rfl) rfl ⟨rfl, FB.out⟩
  · have HR : Hid (rec8 h ps (shOf ds sh) sh ca = r) := by
      rw [if_pos rfl] at hr
      exact hr
    clear hr
    obtain ⟨n, hn⟩ : ∃ n : Nat, sh = (n : Int) := ⟨sh.toNat, by omega⟩
    subst hn
    obtain ⟨d, hd⟩ : ∃ d, ds[n]? = some d := ⟨_, List.getElem?_eq_getElem (by omega)⟩
    have HR : Hid (rec8 h ps d.sh (n : Int) ca = r) := by
      have q := HR.out
      unfold shOf at q
      rw [Int.toNat_natCast, hd] at q
      exact q
    rcases HD.out with hz | ⟨b', o', ha, hbl', h13⟩
    · rw [hz] at s1; simp at s1; omega
    subst ha
    have HE : Hid (D13 w b' (o' + n * 13) d) := h13 n d hd
    have HBL : Hid (b' < w.heap.size) := hbl'
    clear h13 hd hbl'
    go_enter Tryz.func32, Tryz.ntmps32
    go_upto_region 1 with fail
    rw [← HW0.out]
    clear HW0
    have m16 := FG.out.c 16 _ rfl
    go_wp2_with fail
    clear m16
    go_loopw [7] (fun ii wr => ∃ i : Nat, ii = .int .i64 i ∧ i ≤ ps.length ∧ (∀ (j : Nat) q, j < i → ps[j]? = some q → ridB (n : Int) ca q = false) ∧ Blk wr gb (gvs h (.slice (some ⟨b', o', none⟩) ds.length dc) nx (.slice pa ps.length pc) tk true) ∧ Blk wr w.heap.size [.int .i64 0, .int .i64 0, .int .i64 0] ∧ Below w.heap.size w wr) (fun ii _ => ps.length - (intOf ii).toNat)
    case atStart => exact ⟨0, rfl, by omega, fun j q hj => absurd hj (by omega), FG.out, F1.out, FB.out⟩
    case round =>
      obtain ⟨i, rfl, hi, hok, h0, h1, h2⟩ := hrel
      have HOK : Hid (∀ (j : Nat) q, j < i → ps[j]? = some q → ridB (n : Int) ca q = false) := hok
      have FG : Hid (Blk wr gb (gvs h (.slice (some ⟨b', o', none⟩) ds.length dc) nx (.slice pa ps.length pc) tk true)) := h0
      have F1 : Hid (Blk wr w.heap.size [.int .i64 0, .int .i64 0, .int .i64 0]) := h1
      have FB : Hid (Below w.heap.size w wr) := h2
      clear hok h0 h1 h2
      have m14 := FG.out.c 14 _ rfl
      by_cases hlt : i < ps.length
      · obtain ⟨p, hp⟩ : ∃ p, ps[i]? = some p := ⟨_, List.getElem?_eq_getElem hlt⟩
        have HHIT : Hid (ridB (n : Int) ca p = true → r = (0, p.id, floor8 h (carAt d.sh ca))) := fun z => by rw [← HR.out]; exact rec_hit hp z HOK.out
        have HN : Hid (ridB (n : Int) ca p = false → ∀ (j : Nat) q, j < i + 1 → ps[j]? = some q → ridB (n : Int) ca q = false) := by
          intro z j q hj hq
          by_cases ej : j = i
          · subst ej
            rw [hp] at hq
            cases hq
            exact z
          · exact HOK.out j q (by omega) hq
        rcases HP.out with hz | ⟨b, o, ha, hbl, h7⟩
        · rw [hz] at hlt; simp at hlt
        subst ha
        obtain ⟨c0, c1, c2, c3, c4, c5, c6⟩ := (h7 i p hp).below FB.out hbl
        clear h7 hp HOK HR
        go_upto_region 7 with fail
        obtain ⟨pb, hpb⟩ : ∃ pb, pb = wr.heap.size := ⟨_, rfl⟩
        have lpb : w.heap.size < pb := by rw [hpb]; exact F1.out.lt
        obtain ⟨W1, hW1⟩ : ∃ W1, W1 = wr.alloc (.cells #[.int .i64 p.id, .int .i64 p.fr, .int .i64 p.tw, .int .i64 p.sh, .int .i64 p.ca, .int .i64 p.st, .int .i64 p.pl] 81) := ⟨_, rfl⟩
        have FG : Hid (Blk W1 gb (gvs h (.slice (some ⟨b', o', none⟩) ds.length dc) nx (.slice (some ⟨b, o, none⟩) ps.length pc) tk true)) := by rw [hW1]; exact FG.out.alloc _
        have F1 : Hid (Blk W1 w.heap.size [.int .i64 0, .int .i64 0, .int .i64 0]) := by rw [hW1]; exact F1.out.alloc _
        have FP : Hid (Blk W1 pb (cells7 p)) := by rw [hW1]; exact Blk.at_ wr #[.int .i64 p.id, .int .i64 p.fr, .int .i64 p.tw, .int .i64 p.sh, .int .i64 p.ca, .int .i64 p.st, .int .i64 p.pl] _ _ hpb
        have FB : Hid (Below w.heap.size w W1) := by rw [hW1]; exact FB.out.alloc FB.out.size _
        rw [← hW1, ← hpb]
        clear hW1 hpb c0 c1 c2 c3 c4 c5 c6 m14
        have z0 := FP.out.c 0 _ rfl
        have z1 := FP.out.c 1 _ rfl
        have z2 := FP.out.c 2 _ rfl
        have z3 := FP.out.c 3 _ rfl
        have z4 := FP.out.c 4 _ rfl
        have z5 := FP.out.c 5 _ rfl
        have z6 := FP.out.c 6 _ rfl
        cases a1 : (p.sh == (n : Int)) <;> cases a2 : (p.ca == ca) <;> cases a3 : (p.st == 1)
        case true.true.true =>
          have er := HHIT.out (by unfold ridB; rw [a1, a2, a3]; rfl)
          subst er
          have FE : Hid (D13 W1 b' (o' + n * 13) d) := HE.out.below FB.out HBL.out
          clear HHIT HN
          go_upto_region 8 with fail
          have FG : Hid (Blk W1.drew gb (gvs h (.slice (some ⟨b', o', none⟩) ds.length dc) nx (.slice (some ⟨b, o, none⟩) ps.length pc) tk true)) := FG.out.below (Below.refl _ _).drew FG.out.lt
          have F1 : Hid (Blk W1.drew w.heap.size [.int .i64 0, .int .i64 0, .int .i64 0]) := F1.out.below (Below.refl _ _).drew F1.out.lt
          have FP : Hid (Blk W1.drew pb (cells7 p)) := FP.out.below (Below.refl _ _).drew FP.out.lt
          have FE : Hid (D13 W1.drew b' (o' + n * 13) d) := FE.out.below (Below.refl _ _).drew FE.out.lt
          have FB : Hid (Below w.heap.size w W1.drew) := FB.out.drew
          have m0 := FG.out.c 0 _ rfl
          have m1 := FG.out.c 1 _ rfl
          have m2 := FG.out.c 2 _ rfl
          have m3 := FG.out.c 3 _ rfl
          have m4 := FG.out.c 4 _ rfl
          have m5 := FG.out.c 5 _ rfl
          have m6 := FG.out.c 6 _ rfl
          have m7 := FG.out.c 7 _ rfl
          have m8 := FG.out.c 8 _ rfl
          have m9 := FG.out.c 9 _ rfl
          have m10 := FG.out.c 10 _ rfl
          have m11 := FG.out.c 11 _ rfl
          have m12 := FG.out.c 12 _ rfl
          have m13 := FG.out.c 13 _ rfl
          have m14 := FG.out.c 14 _ rfl
          have m15 := FG.out.c 15 _ rfl
          have m16 := FG.out.c 16 _ rfl
          have n0 := FP.out.c 0 _ rfl
          refine wp_region_held_drew (S := (fun w'' => w''.cell? ⟨gb, 0, none⟩ = some (.int .i64 h.fl) ∧ w''.cell? ⟨gb, 1, none⟩ = some (.int .i64 h.gp) ∧ w''.cell? ⟨gb, 2, none⟩ = some (.int .i64 h.ln) ∧ w''.cell? ⟨gb, 3, none⟩ = some (.int .i64 h.rf) ∧ w''.cell? ⟨gb, 4, none⟩ = some (.int .i64 h.sp) ∧ w''.cell? ⟨gb, 5, none⟩ = some (.int .i64 h.pu) ∧ w''.cell? ⟨gb, 6, none⟩ = some (.int .i64 h.br) ∧ w''.cell? ⟨gb, 7, none⟩ = some (.int .i64 h.dr) ∧ w''.cell? ⟨gb, 8, none⟩ = some (.int .i64 h.lv) ∧ w''.cell? ⟨gb, 9, none⟩ = some (.int .i64 h.dO) ∧ w''.cell? ⟨gb, 10, none⟩ = some (.int .i64 h.ld) ∧ w''.cell? ⟨gb, 11, none⟩ = some (.int .i64 h.qu) ∧ w''.cell? ⟨gb, 12, none⟩ = some (.slice (some ⟨b', o', none⟩) ds.length dc) ∧ w''.cell? ⟨gb, 13, none⟩ = some (.int .i64 nx) ∧ w''.cell? ⟨gb, 14, none⟩ = some (.slice (some ⟨b, o, none⟩) ps.length pc) ∧ w''.cell? ⟨gb, 15, none⟩ = some (.int .i64 tk) ∧ w''.cell? ⟨gb, 16, none⟩ = some (.bool true) ∧ w''.cell? ⟨pb, 0, none⟩ = some (.int .i64 p.id))) (by kernel_rfl) (by (try dsimp only); first | exact ⟨m0, m1, m2, m3, m4, m5, m6, m7, m8, m9, m10, m11, m12, m13, m14, m15, m16, n0⟩ | go_keep) (fun hHeld => ?_)
          obtain ⟨v_6, hw1⟩ : ∃ v_6, v_6 = W1.drew := ⟨_, rfl⟩
          have FG : Hid (Blk v_6 gb (gvs h (.slice (some ⟨b', o', none⟩) ds.length dc) nx (.slice (some ⟨b, o, none⟩) ps.length pc) tk true)) := by rw [hw1]; exact FG.out
          have F1 : Hid (Blk v_6 w.heap.size [.int .i64 0, .int .i64 0, .int .i64 0]) := by rw [hw1]; exact F1.out
          have FP : Hid (Blk v_6 pb (cells7 p)) := by rw [hw1]; exact FP.out
          have FE : Hid (D13 v_6 b' (o' + n * 13) d) := by rw [hw1]; exact FE.out
          have FB : Hid (Below w.heap.size w v_6) := by rw [hw1]; exact FB.out
          rw [← hw1] at hHeld ⊢
          clear hw1
          have m0 := FG.out.c 0 _ rfl
          have m1 := FG.out.c 1 _ rfl
          have m2 := FG.out.c 2 _ rfl
          have m3 := FG.out.c 3 _ rfl
          have m4 := FG.out.c 4 _ rfl
          have m5 := FG.out.c 5 _ rfl
          have m6 := FG.out.c 6 _ rfl
          have m7 := FG.out.c 7 _ rfl
          have m8 := FG.out.c 8 _ rfl
          have m9 := FG.out.c 9 _ rfl
          have m10 := FG.out.c 10 _ rfl
          have m11 := FG.out.c 11 _ rfl
          have m12 := FG.out.c 12 _ rfl
          have m13 := FG.out.c 13 _ rfl
          have m14 := FG.out.c 14 _ rfl
          have m15 := FG.out.c 15 _ rfl
          have m16 := FG.out.c 16 _ rfl
          have n0 := FP.out.c 0 _ rfl
          refine tkz 0 rfl ?_
          refine tkz 1 rfl ?_
          refine tkz 2 rfl ?_
          refine tkz 3 rfl ?_
          refine tkz 4 rfl ?_
          refine tkz 5 rfl ?_
          refine tkz 6 rfl ?_
          refine tkz 7 rfl ?_
          refine tkz 8 rfl ?_
          refine tkz 9 rfl ?_
          refine tkz 10 rfl ?_
          refine tkz 11 rfl ?_
          refine tkz 12 rfl ?_
          refine wpAnyH_ready (rs := [13]) (by kernel_rfl) (by simp) ?_
          refine (AllReadyH.cons rfl (fun K hK => ?_) AllReadyH.nil)
          go_simp
          refine (l8Car_any b' (o' + n * 13) d ca _ FE.out).mono ?_
          rintro e v_7 ⟨rfl, hb⟩
          have FG : Hid (Blk v_7 gb (gvs h (.slice (some ⟨b', o', none⟩) ds.length dc) nx (.slice (some ⟨b, o, none⟩) ps.length pc) tk true)) := FG.out.below hb FG.out.lt
          have F1 : Hid (Blk v_7 w.heap.size [.int .i64 0, .int .i64 0, .int .i64 0]) := F1.out.below hb F1.out.lt
          have FP : Hid (Blk v_7 pb (cells7 p)) := FP.out.below hb FP.out.lt
          have FE : Hid (D13 v_7 b' (o' + n * 13) d) := FE.out.below hb FE.out.lt
          have FB : Hid (Below w.heap.size w v_7) := FB.out.trans (hb.mono FB.out.size)
          clear hb
          have m0 := FG.out.c 0 _ rfl
          have m1 := FG.out.c 1 _ rfl
          have m2 := FG.out.c 2 _ rfl
          have m3 := FG.out.c 3 _ rfl
          have m4 := FG.out.c 4 _ rfl
          have m5 := FG.out.c 5 _ rfl
          have m6 := FG.out.c 6 _ rfl
          have m7 := FG.out.c 7 _ rfl
          have m8 := FG.out.c 8 _ rfl
          have m9 := FG.out.c 9 _ rfl
          have m10 := FG.out.c 10 _ rfl
          have m11 := FG.out.c 11 _ rfl
          have m12 := FG.out.c 12 _ rfl
          have m13 := FG.out.c 13 _ rfl
          have m14 := FG.out.c 14 _ rfl
          have m15 := FG.out.c 15 _ rfl
          have m16 := FG.out.c 16 _ rfl
          have n0 := FP.out.c 0 _ rfl
          try dsimp only
          refine hK.out _ _ (by (try dsimp only); first | exact ⟨m0, m1, m2, m3, m4, m5, m6, m7, m8, m9, m10, m11, m12, m13, m14, m15, m16, n0⟩ | go_keep) (fun hHeld => ?_)
          clear hK K
          try simp only [Act.put, List.getElem_toArray, List.getElem_cons_succ, List.getElem_cons_zero, List.setIfInBounds_toArray, List.set_cons_zero, List.set_cons_succ]
          refine wpAnyH_ready (rs := [14]) (by kernel_rfl) (by simp) ?_
          refine (AllReadyH.cons rfl (fun K hK => ?_) AllReadyH.nil)
          go_simp
          refine (l8Floor_any h HO.out (carAt d.sh ca) _).mono ?_
          rintro e v_8 ⟨rfl, hb⟩
          have FG : Hid (Blk v_8 gb (gvs h (.slice (some ⟨b', o', none⟩) ds.length dc) nx (.slice (some ⟨b, o, none⟩) ps.length pc) tk true)) := FG.out.below hb FG.out.lt
          have F1 : Hid (Blk v_8 w.heap.size [.int .i64 0, .int .i64 0, .int .i64 0]) := F1.out.below hb F1.out.lt
          have FP : Hid (Blk v_8 pb (cells7 p)) := FP.out.below hb FP.out.lt
          have FE : Hid (D13 v_8 b' (o' + n * 13) d) := FE.out.below hb FE.out.lt
          have FB : Hid (Below w.heap.size w v_8) := FB.out.trans (hb.mono FB.out.size)
          clear hb
          have m0 := FG.out.c 0 _ rfl
          have m1 := FG.out.c 1 _ rfl
          have m2 := FG.out.c 2 _ rfl
          have m3 := FG.out.c 3 _ rfl
          have m4 := FG.out.c 4 _ rfl
          have m5 := FG.out.c 5 _ rfl
          have m6 := FG.out.c 6 _ rfl
          have m7 := FG.out.c 7 _ rfl
          have m8 := FG.out.c 8 _ rfl
          have m9 := FG.out.c 9 _ rfl
          have m10 := FG.out.c 10 _ rfl
          have m11 := FG.out.c 11 _ rfl
          have m12 := FG.out.c 12 _ rfl
          have m13 := FG.out.c 13 _ rfl
          have m14 := FG.out.c 14 _ rfl
          have m15 := FG.out.c 15 _ rfl
          have m16 := FG.out.c 16 _ rfl
          have n0 := FP.out.c 0 _ rfl
          try dsimp only
          refine hK.out _ _ (by (try dsimp only); first | exact ⟨m0, m1, m2, m3, m4, m5, m6, m7, m8, m9, m10, m11, m12, m13, m14, m15, m16, n0⟩ | go_keep) (fun hHeld => ?_)
          clear hK K
          try simp only [Act.put, List.getElem_toArray, List.getElem_cons_succ, List.getElem_cons_zero, List.setIfInBounds_toArray, List.set_cons_zero, List.set_cons_succ]
          refine tkz 15 rfl ?_
          refine wpAnyH_ready (rs := [16]) (by kernel_rfl) (by simp) ?_
          refine (AllReadyH.cons rfl (fun K hK => ?_) AllReadyH.nil)
          have z0 := F1.out.c 0 _ rfl
          have z1 := F1.out.c 1 _ rfl
          have z2 := F1.out.c 2 _ rfl
          have zf0 := F1.out.f 0 (Nat.le_of_ble_eq_true rfl)
          have zf1 := F1.out.f 1 (Nat.le_of_ble_eq_true rfl)
          have zf2 := F1.out.f 2 (Nat.le_of_ble_eq_true rfl)
          go_simp
          obtain ⟨v_9, hw2⟩ : ∃ v_9, v_9 = putB v_8 w.heap.size 0 [.int .i64 0, .int .i64 p.id, .int .i64 (floor8 h (carAt d.sh ca))] := ⟨_, rfl⟩
          change K _ (putB v_8 w.heap.size 0 [.int .i64 0, .int .i64 p.id, .int .i64 (floor8 h (carAt d.sh ca))])
          rw [← hw2]
          clear z0 z1 z2 zf0 zf1 zf2
          have FG : Hid (Blk v_9 gb (gvs h (.slice (some ⟨b', o', none⟩) ds.length dc) nx (.slice (some ⟨b, o, none⟩) ps.length pc) tk true)) := by rw [hw2]; exact Blk.putB_other (by omega) [.int .i64 0, .int .i64 p.id, .int .i64 (floor8 h (carAt d.sh ca))] 0 FG.out
          have F1 : Hid (Blk v_9 w.heap.size [.int .i64 0, .int .i64 p.id, .int .i64 (floor8 h (carAt d.sh ca))]) := by rw [hw2]; exact F1.out.put [.int .i64 0, .int .i64 p.id, .int .i64 (floor8 h (carAt d.sh ca))] rfl
          have FP : Hid (Blk v_9 pb (cells7 p)) := by rw [hw2]; exact Blk.putB_other (by omega) [.int .i64 0, .int .i64 p.id, .int .i64 (floor8 h (carAt d.sh ca))] 0 FP.out
          have FB : Hid (Below w.heap.size w v_9) := by rw [hw2]; exact below_putB FB.out (by omega) _ _
          clear hw2
          have m0 := FG.out.c 0 _ rfl
          have m1 := FG.out.c 1 _ rfl
          have m2 := FG.out.c 2 _ rfl
          have m3 := FG.out.c 3 _ rfl
          have m4 := FG.out.c 4 _ rfl
          have m5 := FG.out.c 5 _ rfl
          have m6 := FG.out.c 6 _ rfl
          have m7 := FG.out.c 7 _ rfl
          have m8 := FG.out.c 8 _ rfl
          have m9 := FG.out.c 9 _ rfl
          have m10 := FG.out.c 10 _ rfl
          have m11 := FG.out.c 11 _ rfl
          have m12 := FG.out.c 12 _ rfl
          have m13 := FG.out.c 13 _ rfl
          have m14 := FG.out.c 14 _ rfl
          have m15 := FG.out.c 15 _ rfl
          have m16 := FG.out.c 16 _ rfl
          have n0 := FP.out.c 0 _ rfl
          refine hK.out _ _ (by (try dsimp only); first | exact ⟨m0, m1, m2, m3, m4, m5, m6, m7, m8, m9, m10, m11, m12, m13, m14, m15, m16, n0⟩ | go_keep) (fun hHeld => ?_)
          clear hK K
          try simp only [Act.put, List.getElem_toArray, List.getElem_cons_succ, List.getElem_cons_zero, List.setIfInBounds_toArray, List.set_cons_zero, List.set_cons_succ]
          refine wpAnyH_done (by kernel_rfl) ?_ _
          go_wp2_with fail
          exact bodyPost_ret (v := .agg #[.int .i64 0, .int .i64 p.id, .int .i64 (floor8 h (carAt d.sh ca))]) (F1.out.res _ Tryz.results32 Tryz.underlying56 (by kernel_rfl) rfl) rfl ⟨rfl, FB.out⟩
        all_goals
          have HM : Hid (∀ (j : Nat) q, j < i + 1 → ps[j]? = some q → ridB (n : Int) ca q = false) := HN.out (by unfold ridB; rw [a1, a2, a3]; rfl)
          clear HN HHIT
          go_wp2_with fail
          go_roundw
          case rel => exact ⟨i + 1, by simp, by omega, HM.out, FG.out, F1.out, FB.out⟩
          case measure => simp [intOf]; omega
      · have ei : i = ps.length := by omega
        subst ei
        have er : r = (4, 0, 0) := by rw [← HR.out]; exact rec_none HOK.out
        subst er
        clear HOK HR
        go_wp2_with (refine store_blk [.int .i64 4, .int .i64 0, .int .i64 0] 56 _ _ (by kernel_rfl) (by kernel_rfl) (by kernel_rfl) F1.out rfl rfl rfl rfl ?_)
        exact bodyPost_ret (v := .agg #[.int .i64 4, .int .i64 0, .int .i64 0]) ((F1.out.row [.int .i64 4, .int .i64 0, .int .i64 0]).res _ Tryz.results32 Tryz.underlying56 (by kernel_rfl) rfl) rfl ⟨rfl, below_row FB.out (by omega) _⟩
end Go.Proofs.YtfmpfcpefflmjaaGreat

/-
  The model's group: NeedIn, LeadOf.
-/
namespace Go.Proofs.YtfmpfcpefflmjaaGreat
open Go.RowKit Pl
set_option linter.unusedSimpArgs false
set_option linter.unusedVariables false

set_option maxRecDepth 20000 in
set_option maxHeartbeats 32000000 in
theorem l8Lead_any (gb : Nat) (h : Hs) (ds : List Dk) (da : Option Addr) (dc : Nat) (nx : Int) (ps : List Pe) (pa : Option Addr) (pc : Nat) (tk : Int) (rc : Bool) (sh : Int) (oh : h.Ok) (s0 : 0 ≤ sh) (s1 : sh < ds.length) (hld : ds.length ≤ 1048576) (hlp : ps.length ≤ 1048576) (a b : Int × Int × Int) (ha : need8 h ds ps rc sh 0 = a) (hb_ : need8 h ds ps rc sh 1 = b) (w : World) (hG : Blk w gb (gvs h (.slice da ds.length dc) nx (.slice pa ps.length pc) tk rc)) (hD : DIn w w.heap.size da ds) (hP : PIn w w.heap.size pa ps) :
    Calls Tryz.prog 14 #[.pointer (some ⟨gb, 0, none⟩), .int .i64 sh] w fun e w' => e = .returned (.int .i64 (lead8 a b)) ∧ Below w.heap.size w w' := by
  have HO : Hid h.Ok := oh
  have HD : Hid (DIn w w.heap.size da ds) := hD
  have HP : Hid (PIn w w.heap.size pa ps) := hP
  have FG : Hid (Blk w gb (gvs h (.slice da ds.length dc) nx (.slice pa ps.length pc) tk rc)) := hG
  have HA : Hid (need8 h ds ps rc sh 0 = a) := ha
  have HB : Hid (need8 h ds ps rc sh 1 = b) := hb_
  have FB : Hid (Below w.heap.size w w) := Below.refl _ _
  clear hG hD hP oh ha hb_
  go_enter Tryz.func14, Tryz.ntmps14
  go_upto_region 2 with (first | (go_at_call 32; refine (l8Need_any gb h ds da dc nx ps pa pc tk rc sh 0 HO.out s0 s1 hld hlp a HA.out _ FG.out ((HD.out.below FB.out (Nat.le_refl _)).mono FB.out.size) ((HP.out.below FB.out (Nat.le_refl _)).mono FB.out.size)).mono ?_; rintro e w1 ⟨rfl, hb⟩; have FG : Hid (Blk w1 gb (gvs h (.slice da ds.length dc) nx (.slice pa ps.length pc) tk rc)) := FG.out.below hb FG.out.lt; have FB : Hid (Below w.heap.size w w1) := FB.out.trans (hb.mono FB.out.size); clear hb) | (refine store_new [.int .i64 a.1, .int .i64 a.2.1, .int .i64 a.2.2] 56 _ _ (by kernel_rfl) (by kernel_rfl) (by kernel_rfl) rfl rfl rfl rfl ?_))
  obtain ⟨ab, hab⟩ : ∃ ab, ab = w1.heap.size := ⟨_, rfl⟩
  obtain ⟨W1, hW1⟩ : ∃ W1, W1 = w1.alloc (.cells ([.int .i64 a.1, .int .i64 a.2.1, .int .i64 a.2.2] : List Value).toArray 56) := ⟨_, rfl⟩
  have FG : Hid (Blk W1 gb (gvs h (.slice da ds.length dc) nx (.slice pa ps.length pc) tk rc)) := by rw [hW1]; exact FG.out.alloc _
  have Nab : Hid (Blk W1 ab [.int .i64 a.1, .int .i64 a.2.1, .int .i64 a.2.2]) := by rw [hW1]; exact Blk.at_ w1 ([.int .i64 a.1, .int .i64 a.2.1, .int .i64 a.2.2] : List Value).toArray _ _ hab
  have FB : Hid (Below w.heap.size w W1) := by rw [hW1]; exact FB.out.alloc FB.out.size _
  rw [← hW1, ← hab]
  clear hW1 hab
  go_upto_region 3 with (first | (go_at_call 32; refine (l8Need_any gb h ds da dc nx ps pa pc tk rc sh 1 HO.out s0 s1 hld hlp b HB.out _ FG.out ((HD.out.below FB.out (Nat.le_refl _)).mono FB.out.size) ((HP.out.below FB.out (Nat.le_refl _)).mono FB.out.size)).mono ?_; rintro e w2 ⟨rfl, hb⟩; have FG : Hid (Blk w2 gb (gvs h (.slice da ds.length dc) nx (.slice pa ps.length pc) tk rc)) := FG.out.below hb FG.out.lt; have Nab : Hid (Blk w2 ab [.int .i64 a.1, .int .i64 a.2.1, .int .i64 a.2.2]) := Nab.out.below hb Nab.out.lt; have FB : Hid (Below w.heap.size w w2) := FB.out.trans (hb.mono FB.out.size); clear hb) | (refine store_new [.int .i64 b.1, .int .i64 b.2.1, .int .i64 b.2.2] 56 _ _ (by kernel_rfl) (by kernel_rfl) (by kernel_rfl) rfl rfl rfl rfl ?_))
  obtain ⟨bb, hbb⟩ : ∃ bb, bb = w2.heap.size := ⟨_, rfl⟩
  obtain ⟨W2, hW2⟩ : ∃ W2, W2 = w2.alloc (.cells ([.int .i64 b.1, .int .i64 b.2.1, .int .i64 b.2.2] : List Value).toArray 56) := ⟨_, rfl⟩
  have FG : Hid (Blk W2 gb (gvs h (.slice da ds.length dc) nx (.slice pa ps.length pc) tk rc)) := by rw [hW2]; exact FG.out.alloc _
  have Nab : Hid (Blk W2 ab [.int .i64 a.1, .int .i64 a.2.1, .int .i64 a.2.2]) := by rw [hW2]; exact Nab.out.alloc _
  have Nbb : Hid (Blk W2 bb [.int .i64 b.1, .int .i64 b.2.1, .int .i64 b.2.2]) := by rw [hW2]; exact Blk.at_ w2 ([.int .i64 b.1, .int .i64 b.2.1, .int .i64 b.2.2] : List Value).toArray _ _ hbb
  have FB : Hid (Below w.heap.size w W2) := by rw [hW2]; exact FB.out.alloc FB.out.size _
  rw [← hW2, ← hbb]
  clear hW2 hbb
  have a0 := Nab.out.c 0 _ rfl
  have a1 := Nab.out.c 1 _ rfl
  have b0 := Nbb.out.c 0 _ rfl
  have b1 := Nbb.out.c 1 _ rfl
  obtain ⟨ak, ai, af⟩ := a
  obtain ⟨bk, bi, bf⟩ := b
  dsimp only at a0 a1 b0 b1
  obtain ⟨v, hv⟩ : ∃ v, lead8 (ak, ai, af) (bk, bi, bf) = v := ⟨_, rfl⟩
  have HV : Hid (lead8 (ak, ai, af) (bk, bi, bf) = v) := hv
  clear hv
  by_cases k1 : ak = 0 <;> by_cases k2 : bk = 0 <;> by_cases k3 : ai < bi
  all_goals
    have q1 : (ak != 0) = decide (ak ≠ 0) := by by_cases z : ak = 0 <;> simp [z]
    have q2 : (bk != 0) = decide (bk ≠ 0) := by by_cases z : bk = 0 <;> simp [z]
    have q3 : (ak == 0) = decide (ak = 0) := by by_cases z : ak = 0 <;> simp [z]
    have e0 : lead8 (ak, ai, af) (bk, bi, bf) = lead8 (ak, ai, af) (bk, bi, bf) := rfl
    unfold lead8 at e0
    simp [k1, k2, k3] at e0
    have HE : Hid _ := e0
    clear e0
    simp [k1] at q1 q3
    simp [k2] at q2
    go_wp2_with fail
    go_ret
    exact ⟨ret_int (by first | exact HE.out | exact HE.out.symm | (unfold lead8; simp [k1, k2, k3])), FB.out⟩
end Go.Proofs.YtfmpfcpefflmjaaGreat

/-
  The model's group: LeadOf.
-/
namespace Go.Proofs.YtfmpfcpefflmjaaGreat
open Go.RowKit Pl
set_option linter.unusedSimpArgs false
set_option linter.unusedVariables false

set_option maxRecDepth 20000 in
set_option maxHeartbeats 32000000 in
theorem specLeadOf_any (h : Hs) (ds : List Dk) (da : Option Addr) (dc : Nat) (nx : Int) (ps : List Pe) (pa : Option Addr) (pc : Nat) (tk : Int) (rc : Bool) (sh : Int) (hld : ds.length ≤ 1048576) (hlp : ps.length ≤ 1048576) (w : World) (hD : DIn w w.heap.size da ds) (hP : PIn w w.heap.size pa ps) :
    Calls Tryz.prog 5 #[.agg #[.int .i64 h.fl, .int .i64 h.gp, .int .i64 h.ln, .int .i64 h.rf, .int .i64 h.sp, .int .i64 h.pu, .int .i64 h.br, .int .i64 h.dr, .int .i64 h.lv, .int .i64 h.dO, .int .i64 h.ld, .int .i64 h.qu, .slice da ds.length dc, .int .i64 nx, .slice pa ps.length pc, .int .i64 tk, .bool rc], .int .i64 sh] w fun e w' => e = .returned (.agg #[.int .i64 (Gr.leadOf ⟨h, ds, ⟨nx, ps⟩, tk, rc⟩ sh).1, .int .i64 (Gr.leadOf ⟨h, ds, ⟨nx, ps⟩, tk, rc⟩ sh).2.1, .int .i64 (Gr.leadOf ⟨h, ds, ⟨nx, ps⟩, tk, rc⟩ sh).2.2]) ∧ Below w.heap.size w w' := by
  have HD : Hid (DIn w w.heap.size da ds) := hD
  have HP : Hid (PIn w w.heap.size pa ps) := hP
  have F0 : Hid (Blk ((w.alloc (.cells #[.int .i64 h.fl, .int .i64 h.gp, .int .i64 h.ln, .int .i64 h.rf, .int .i64 h.sp, .int .i64 h.pu, .int .i64 h.br, .int .i64 h.dr, .int .i64 h.lv, .int .i64 h.dO, .int .i64 h.ld, .int .i64 h.qu, .slice da ds.length dc, .int .i64 nx, .slice pa ps.length pc, .int .i64 tk, .bool rc] 40)).alloc (.cells #[.int .i64 0, .int .i64 0, .int .i64 0] 32)) w.heap.size (gvs h (.slice da ds.length dc) nx (.slice pa ps.length pc) tk rc)) := (Blk.at_ w #[.int .i64 h.fl, .int .i64 h.gp, .int .i64 h.ln, .int .i64 h.rf, .int .i64 h.sp, .int .i64 h.pu, .int .i64 h.br, .int .i64 h.dr, .int .i64 h.lv, .int .i64 h.dO, .int .i64 h.ld, .int .i64 h.qu, .slice da ds.length dc, .int .i64 nx, .slice pa ps.length pc, .int .i64 tk, .bool rc] _ _ rfl).alloc _
  have F1 : Hid (Blk ((w.alloc (.cells #[.int .i64 h.fl, .int .i64 h.gp, .int .i64 h.ln, .int .i64 h.rf, .int .i64 h.sp, .int .i64 h.pu, .int .i64 h.br, .int .i64 h.dr, .int .i64 h.lv, .int .i64 h.dO, .int .i64 h.ld, .int .i64 h.qu, .slice da ds.length dc, .int .i64 nx, .slice pa ps.length pc, .int .i64 tk, .bool rc] 40)).alloc (.cells #[.int .i64 0, .int .i64 0, .int .i64 0] 32)) (w.heap.size + 1) [.int .i64 0, .int .i64 0, .int .i64 0]) := Blk.at_ _ #[.int .i64 0, .int .i64 0, .int .i64 0] _ _ (by simp)
  have FB : Hid (Below w.heap.size w ((w.alloc (.cells #[.int .i64 h.fl, .int .i64 h.gp, .int .i64 h.ln, .int .i64 h.rf, .int .i64 h.sp, .int .i64 h.pu, .int .i64 h.br, .int .i64 h.dr, .int .i64 h.lv, .int .i64 h.dO, .int .i64 h.ld, .int .i64 h.qu, .slice da ds.length dc, .int .i64 nx, .slice pa ps.length pc, .int .i64 tk, .bool rc] 40)).alloc (.cells #[.int .i64 0, .int .i64 0, .int .i64 0] 32))) := ((Below.refl _ _).alloc (Nat.le_refl _) _).alloc (by simp) _
  obtain ⟨W0, hW0⟩ : ∃ W0, W0 = ((w.alloc (.cells #[.int .i64 h.fl, .int .i64 h.gp, .int .i64 h.ln, .int .i64 h.rf, .int .i64 h.sp, .int .i64 h.pu, .int .i64 h.br, .int .i64 h.dr, .int .i64 h.lv, .int .i64 h.dO, .int .i64 h.ld, .int .i64 h.qu, .slice da ds.length dc, .int .i64 nx, .slice pa ps.length pc, .int .i64 tk, .bool rc] 40)).alloc (.cells #[.int .i64 0, .int .i64 0, .int .i64 0] 32)) := ⟨_, rfl⟩
  rw [← hW0] at F0 F1 FB
  have HW0 : Hid (W0 = ((w.alloc (.cells #[.int .i64 h.fl, .int .i64 h.gp, .int .i64 h.ln, .int .i64 h.rf, .int .i64 h.sp, .int .i64 h.pu, .int .i64 h.br, .int .i64 h.dr, .int .i64 h.lv, .int .i64 h.dO, .int .i64 h.ld, .int .i64 h.qu, .slice da ds.length dc, .int .i64 nx, .slice pa ps.length pc, .int .i64 tk, .bool rc] 40)).alloc (.cells #[.int .i64 0, .int .i64 0, .int .i64 0] 32))) := hW0
  clear hW0 hD hP
  unfold Gr.leadOf
  by_cases kf : Gr.fault ⟨h, ds, ⟨nx, ps⟩, tk, rc⟩ = 0
  case neg =>
    rw [if_neg kf]
    obtain ⟨k, hk⟩ : ∃ k, Gr.fault ⟨h, ds, ⟨nx, ps⟩, tk, rc⟩ = k := ⟨_, rfl⟩
    rw [hk] at kf ⊢
    have HF : Hid (Gr.fault ⟨h, ds, ⟨nx, ps⟩, tk, rc⟩ = k) := hk
    have e1 : (k != 0) = true := by simpa using kf
    clear hk kf
    go_enter Tryz.func5, Tryz.ntmps5
    go_upto_region 1 with fail
    rw [← HW0.out]
    go_wp2_with (first | (refine load_blk 40 _ Tryz.underlying40 (by kernel_rfl) F0.out rfl rfl rfl ?_) | (go_at_call 12; refine (specGroupFault_any h ds da dc nx ps pa pc tk rc hld hlp _ ((HD.out.below FB.out (Nat.le_refl _)).mono FB.out.size) ((HP.out.below FB.out (Nat.le_refl _)).mono FB.out.size)).mono ?_; rw [HF.out]; rintro e w1 ⟨rfl, hb⟩; have F0 : Hid (Blk w1 w.heap.size (gvs h (.slice da ds.length dc) nx (.slice pa ps.length pc) tk rc)) := F0.out.below hb F0.out.lt; have F1 : Hid (Blk w1 (w.heap.size + 1) [.int .i64 0, .int .i64 0, .int .i64 0]) := F1.out.below hb F1.out.lt; have FB : Hid (Below w.heap.size w w1) := FB.out.trans (hb.mono FB.out.size); clear hb) | (refine store_blk [.int .i64 k, .int .i64 0, .int .i64 0] 32 _ _ (by kernel_rfl) (by kernel_rfl) (by kernel_rfl) F1.out rfl rfl rfl rfl ?_))
    exact bodyPost_ret (v := .agg #[.int .i64 k, .int .i64 0, .int .i64 0]) ((F1.out.row [.int .i64 k, .int .i64 0, .int .i64 0]).res _ Tryz.results5 Tryz.underlying32 (by kernel_rfl) rfl) rfl ⟨rfl, below_row FB.out (by omega) _⟩
  have HF : Hid (Gr.fault ⟨h, ds, ⟨nx, ps⟩, tk, rc⟩ = 0) := kf
  obtain ⟨hf, nn, hdk, hle, -⟩ := Gr.fault_parts kf
  dsimp only at hf nn hdk hle
  have oo := Hs.ok_of (Hs.fault_zero hf).1
  have HO : Hid h.Ok := oo
  rw [if_pos kf]
  dsimp only
  clear kf
  have en : IntKind.i64.wrap ((ds.length : Int) - 1) = (ds.length : Int) - 1 := IntWalk.i64_in _ (by omega)
  clear hdk hle hf oo
  obtain ⟨a, ha⟩ : ∃ a, need8 h ds ps rc sh 0 = a := ⟨_, rfl⟩
  obtain ⟨b, hb_⟩ : ∃ b, need8 h ds ps rc sh 1 = b := ⟨_, rfl⟩
  have HA : Hid (need8 h ds ps rc sh 0 = a) := ha
  have HB : Hid (need8 h ds ps rc sh 1 = b) := hb_
  rw [ha, hb_]
  clear ha hb_
  cases k1 : inB sh 0 ((ds.length : Int) - 1)
  · rw [if_neg (by simp)]
    go_enter Tryz.func5, Tryz.ntmps5
    go_upto_region 1 with fail
    rw [← HW0.out]
    go_wp2_with (first | (refine load_blk 40 _ Tryz.underlying40 (by kernel_rfl) F0.out rfl rfl rfl ?_) | (go_at_call 12; refine (specGroupFault_any h ds da dc nx ps pa pc tk rc hld hlp _ ((HD.out.below FB.out (Nat.le_refl _)).mono FB.out.size) ((HP.out.below FB.out (Nat.le_refl _)).mono FB.out.size)).mono ?_; rw [HF.out]; rintro e w1 ⟨rfl, hb⟩; have F0 : Hid (Blk w1 w.heap.size (gvs h (.slice da ds.length dc) nx (.slice pa ps.length pc) tk rc)) := F0.out.below hb F0.out.lt; have F1 : Hid (Blk w1 (w.heap.size + 1) [.int .i64 0, .int .i64 0, .int .i64 0]) := F1.out.below hb F1.out.lt; have FB : Hid (Below w.heap.size w w1) := FB.out.trans (hb.mono FB.out.size); clear hb; have x12 := F0.out.c 12 _ rfl) | (go_at_call 13; refine (l1In_any _ _ _ _).mono ?_; rintro e w' ⟨rfl, hw⟩; obtain rfl := hw.symm; clear hw) | (refine store_blk [.int .i64 3, .int .i64 0, .int .i64 0] 32 _ _ (by kernel_rfl) (by kernel_rfl) (by kernel_rfl) F1.out rfl rfl rfl rfl ?_))
    exact bodyPost_ret (v := .agg #[.int .i64 3, .int .i64 0, .int .i64 0]) ((F1.out.row [.int .i64 3, .int .i64 0, .int .i64 0]).res _ Tryz.results5 Tryz.underlying32 (by kernel_rfl) rfl) rfl ⟨rfl, below_row FB.out (by omega) _⟩
  rw [if_pos rfl]
  have sb := inB_iff.1 k1
  obtain ⟨v, hv⟩ : ∃ v, lead8 a b = v := ⟨_, rfl⟩
  rw [hv]
  have HV : Hid (lead8 a b = v) := hv
  clear hv
  by_cases kv : v < 0
  · rw [if_pos kv]
    have e1 : decide (v < 0) = true := decide_eq_true kv
    clear kv
    go_enter Tryz.func5, Tryz.ntmps5
    go_upto_region 1 with fail
    rw [← HW0.out]
    go_wp2_with (first | (refine load_blk 40 _ Tryz.underlying40 (by kernel_rfl) F0.out rfl rfl rfl ?_) | (go_at_call 12; refine (specGroupFault_any h ds da dc nx ps pa pc tk rc hld hlp _ ((HD.out.below FB.out (Nat.le_refl _)).mono FB.out.size) ((HP.out.below FB.out (Nat.le_refl _)).mono FB.out.size)).mono ?_; rw [HF.out]; rintro e w1 ⟨rfl, hb⟩; have F0 : Hid (Blk w1 w.heap.size (gvs h (.slice da ds.length dc) nx (.slice pa ps.length pc) tk rc)) := F0.out.below hb F0.out.lt; have F1 : Hid (Blk w1 (w.heap.size + 1) [.int .i64 0, .int .i64 0, .int .i64 0]) := F1.out.below hb F1.out.lt; have FB : Hid (Below w.heap.size w w1) := FB.out.trans (hb.mono FB.out.size); clear hb; have x12 := F0.out.c 12 _ rfl) | (go_at_call 13; refine (l1In_any _ _ _ _).mono ?_; rintro e w' ⟨rfl, hw⟩; obtain rfl := hw.symm; clear hw) | (go_at_call 14; refine (l8Lead_any w.heap.size h ds da dc nx ps pa pc tk rc sh HO.out sb.1 (by omega) hld hlp a b HA.out HB.out _ F0.out ((HD.out.below FB.out (Nat.le_refl _)).mono FB.out.size) ((HP.out.below FB.out (Nat.le_refl _)).mono FB.out.size)).mono ?_; rw [HV.out]; rintro e w3 ⟨rfl, hb⟩; have F0 : Hid (Blk w3 w.heap.size (gvs h (.slice da ds.length dc) nx (.slice pa ps.length pc) tk rc)) := F0.out.below hb F0.out.lt; have F1 : Hid (Blk w3 (w.heap.size + 1) [.int .i64 0, .int .i64 0, .int .i64 0]) := F1.out.below hb F1.out.lt; have FB : Hid (Below w.heap.size w w3) := FB.out.trans (hb.mono FB.out.size); clear hb) | (refine store_blk [.int .i64 4, .int .i64 0, .int .i64 0] 32 _ _ (by kernel_rfl) (by kernel_rfl) (by kernel_rfl) F1.out rfl rfl rfl rfl ?_))
    exact bodyPost_ret (v := .agg #[.int .i64 4, .int .i64 0, .int .i64 0]) ((F1.out.row [.int .i64 4, .int .i64 0, .int .i64 0]).res _ Tryz.results5 Tryz.underlying32 (by kernel_rfl) rfl) rfl ⟨rfl, below_row FB.out (by omega) _⟩
  · rw [if_neg kv]
    have e1 : decide (v < 0) = false := decide_eq_false kv
    clear kv
    go_enter Tryz.func5, Tryz.ntmps5
    go_upto_region 1 with fail
    rw [← HW0.out]
    go_wp2_with (first | (refine load_blk 40 _ Tryz.underlying40 (by kernel_rfl) F0.out rfl rfl rfl ?_) | (go_at_call 12; refine (specGroupFault_any h ds da dc nx ps pa pc tk rc hld hlp _ ((HD.out.below FB.out (Nat.le_refl _)).mono FB.out.size) ((HP.out.below FB.out (Nat.le_refl _)).mono FB.out.size)).mono ?_; rw [HF.out]; rintro e w1 ⟨rfl, hb⟩; have F0 : Hid (Blk w1 w.heap.size (gvs h (.slice da ds.length dc) nx (.slice pa ps.length pc) tk rc)) := F0.out.below hb F0.out.lt; have F1 : Hid (Blk w1 (w.heap.size + 1) [.int .i64 0, .int .i64 0, .int .i64 0]) := F1.out.below hb F1.out.lt; have FB : Hid (Below w.heap.size w w1) := FB.out.trans (hb.mono FB.out.size); clear hb; have x12 := F0.out.c 12 _ rfl) | (go_at_call 13; refine (l1In_any _ _ _ _).mono ?_; rintro e w' ⟨rfl, hw⟩; obtain rfl := hw.symm; clear hw) | (go_at_call 14; refine (l8Lead_any w.heap.size h ds da dc nx ps pa pc tk rc sh HO.out sb.1 (by omega) hld hlp a b HA.out HB.out _ F0.out ((HD.out.below FB.out (Nat.le_refl _)).mono FB.out.size) ((HP.out.below FB.out (Nat.le_refl _)).mono FB.out.size)).mono ?_; rw [HV.out]; rintro e w3 ⟨rfl, hb⟩; have F0 : Hid (Blk w3 w.heap.size (gvs h (.slice da ds.length dc) nx (.slice pa ps.length pc) tk rc)) := F0.out.below hb F0.out.lt; have F1 : Hid (Blk w3 (w.heap.size + 1) [.int .i64 0, .int .i64 0, .int .i64 0]) := F1.out.below hb F1.out.lt; have FB : Hid (Below w.heap.size w w3) := FB.out.trans (hb.mono FB.out.size); clear hb) | (refine store_blk [.int .i64 0, .int .i64 sh, .int .i64 v] 32 _ _ (by kernel_rfl) (by kernel_rfl) (by kernel_rfl) F1.out rfl rfl rfl rfl ?_))
    exact bodyPost_ret (v := .agg #[.int .i64 0, .int .i64 sh, .int .i64 v]) ((F1.out.row [.int .i64 0, .int .i64 sh, .int .i64 v]).res _ Tryz.results5 Tryz.underlying32 (by kernel_rfl) rfl) rfl ⟨rfl, below_row FB.out (by omega) _⟩
theorem eqWhereResult_same (k id fl : Int) (w : World) :
    Calls Tryz.prog 8 #[.agg #[.int .i64 k, .int .i64 id, .int .i64 fl], .agg #[.int .i64 k, .int .i64 id, .int .i64 fl]] w fun e w' => e = .returned (.bool true) ∧ Below w.heap.size w w' := by
  go_enter Tryz.func8, Tryz.ntmps8
  go_wp2
  go_ret
  exact ⟨rfl, by repeat (first | exact Below.refl _ _ | (refine Below.alloc ?_ ?_ _) | (refine Below.setCell ?_ ?_ _) | (simp; omega) | simp)⟩
end Go.Proofs.YtfmpfcpefflmjaaGreat
