/-
  The program's group: what is needed in a car.
-/
import Derived.Test.YtfmpfcpefflmjaaGreatGfI
import Derived.Test.YtfmpfcpefflmjaaGreatNeA
import Derived.Test.YtfmpfcpefflmjaaGreatLedJ
import Derived.Test.YtfmpfcpefflmjaaGreatSpanKf
import Derived.Test.YtfmpfcpefflmjaaGreatHouseI
import Derived.BigGuardPart
import Derived.Deep.DeepCutAuto
namespace Go.Proofs.YtfmpfcpefflmjaaGreat
open Go.RowKit Pl
set_option linter.unusedSimpArgs false
set_option linter.unusedVariables false

set_option maxRecDepth 20000 in
set_option maxHeartbeats 16000000 in
theorem stopOf_any (h : Hs) (o : h.Ok) (c : Cs) (kc : CarOk h c) (w : World) :
    Calls Tryz.prog 67 #[.agg #[.int .i64 h.fl, .int .i64 h.gp, .int .i64 h.ln, .int .i64 h.rf, .int .i64 h.sp, .int .i64 h.pu, .int .i64 h.br, .int .i64 h.dr, .int .i64 h.lv, .int .i64 h.dO, .int .i64 h.ld, .int .i64 h.qu], .agg #[.int .i64 c.pos, .int .i64 c.vel, .int .i64 c.door]] w fun e w' => e = .returned (.int .i64 (floor8 h c)) ∧ Below w.heap.size w w' := by
  have f1 := o.fl1; have f2 := o.fl2
  have ew : IntKind.i64.wrap (h.fl - 1) = h.fl - 1 := IntWalk.i64_in _ (by omega)
  obtain ⟨v, hv⟩ : ∃ v, Hs.at6 h c.pos = v := ⟨_, rfl⟩
  unfold floor8
  rw [hv]
  have HV : Hid (Hs.at6 h c.pos = v) := hv
  have HK : Hid (CarOk h c) := kc
  clear hv o kc
  have F0 : Hid (HAt ((w.alloc (.cells #[.int .i64 h.fl, .int .i64 h.gp, .int .i64 h.ln, .int .i64 h.rf, .int .i64 h.sp, .int .i64 h.pu, .int .i64 h.br, .int .i64 h.dr, .int .i64 h.lv, .int .i64 h.dO, .int .i64 h.ld, .int .i64 h.qu] 34)).alloc (.cells #[.int .i64 c.pos, .int .i64 c.vel, .int .i64 c.door] 67)) w.heap.size h) := (HAt.at_ w h _ _ (by simp)).alloc _
  have F1 : Hid (CW ((w.alloc (.cells #[.int .i64 h.fl, .int .i64 h.gp, .int .i64 h.ln, .int .i64 h.rf, .int .i64 h.sp, .int .i64 h.pu, .int .i64 h.br, .int .i64 h.dr, .int .i64 h.lv, .int .i64 h.dO, .int .i64 h.ld, .int .i64 h.qu] 34)).alloc (.cells #[.int .i64 c.pos, .int .i64 c.vel, .int .i64 c.door] 67)) (w.heap.size + 1) c) := CW.at_ (w.alloc (.cells #[.int .i64 h.fl, .int .i64 h.gp, .int .i64 h.ln, .int .i64 h.rf, .int .i64 h.sp, .int .i64 h.pu, .int .i64 h.br, .int .i64 h.dr, .int .i64 h.lv, .int .i64 h.dO, .int .i64 h.ld, .int .i64 h.qu] 34)) c _ _ (by simp)
  have FB : Hid (Below w.heap.size w ((w.alloc (.cells #[.int .i64 h.fl, .int .i64 h.gp, .int .i64 h.ln, .int .i64 h.rf, .int .i64 h.sp, .int .i64 h.pu, .int .i64 h.br, .int .i64 h.dr, .int .i64 h.lv, .int .i64 h.dO, .int .i64 h.ld, .int .i64 h.qu] 34)).alloc (.cells #[.int .i64 c.pos, .int .i64 c.vel, .int .i64 c.door] 67))) := (((Below.refl _ _).alloc (Nat.le_refl _) _).alloc (by simp <;> omega) _)
  go_enter Tryz.func67, Tryz.ntmps67
  go_wp2_with fail
  have F0 : Hid (HAt ((w.alloc (.cells #[.int .i64 h.fl, .int .i64 h.gp, .int .i64 h.ln, .int .i64 h.rf, .int .i64 h.sp, .int .i64 h.pu, .int .i64 h.br, .int .i64 h.dr, .int .i64 h.lv, .int .i64 h.dO, .int .i64 h.ld, .int .i64 h.qu] 34)).alloc (.cells #[.int .i64 c.pos, .int .i64 c.vel, .int .i64 c.door] 67)).drew w.heap.size h) := F0.out.below (Below.refl _ _).drew F0.out.lt
  have F1 : Hid (CW ((w.alloc (.cells #[.int .i64 h.fl, .int .i64 h.gp, .int .i64 h.ln, .int .i64 h.rf, .int .i64 h.sp, .int .i64 h.pu, .int .i64 h.br, .int .i64 h.dr, .int .i64 h.lv, .int .i64 h.dO, .int .i64 h.ld, .int .i64 h.qu] 34)).alloc (.cells #[.int .i64 c.pos, .int .i64 c.vel, .int .i64 c.door] 67)).drew (w.heap.size + 1) c) := F1.out.below (Below.refl _ _).drew F1.out.lt
  have FB : Hid (Below w.heap.size w ((w.alloc (.cells #[.int .i64 h.fl, .int .i64 h.gp, .int .i64 h.ln, .int .i64 h.rf, .int .i64 h.sp, .int .i64 h.pu, .int .i64 h.br, .int .i64 h.dr, .int .i64 h.lv, .int .i64 h.dO, .int .i64 h.ld, .int .i64 h.qu] 34)).alloc (.cells #[.int .i64 c.pos, .int .i64 c.vel, .int .i64 c.door] 67)).drew) := FB.out.drew
  obtain ⟨x0_0, x0_1, x0_2, x0_3, x0_4, x0_5, x0_6, x0_7, x0_8, x0_9, x0_10, x0_11⟩ := F0.out
  obtain ⟨x1_0, x1_1, x1_2, y1_0, y1_1, y1_2⟩ := F1.out
  refine wp_region_held_drew (S := (fun w'' => w''.cell? ⟨w.heap.size, 0, none⟩ = some (.int .i64 h.fl) ∧ w''.cell? ⟨w.heap.size, 1, none⟩ = some (.int .i64 h.gp) ∧ w''.cell? ⟨w.heap.size, 2, none⟩ = some (.int .i64 h.ln) ∧ w''.cell? ⟨w.heap.size, 3, none⟩ = some (.int .i64 h.rf) ∧ w''.cell? ⟨w.heap.size, 4, none⟩ = some (.int .i64 h.sp) ∧ w''.cell? ⟨w.heap.size, 5, none⟩ = some (.int .i64 h.pu) ∧ w''.cell? ⟨w.heap.size, 6, none⟩ = some (.int .i64 h.br) ∧ w''.cell? ⟨w.heap.size, 7, none⟩ = some (.int .i64 h.dr) ∧ w''.cell? ⟨w.heap.size, 8, none⟩ = some (.int .i64 h.lv) ∧ w''.cell? ⟨w.heap.size, 9, none⟩ = some (.int .i64 h.dO) ∧ w''.cell? ⟨w.heap.size, 10, none⟩ = some (.int .i64 h.ld) ∧ w''.cell? ⟨w.heap.size, 11, none⟩ = some (.int .i64 h.qu) ∧ w''.cell? ⟨(w.heap.size + 1), 0, none⟩ = some (.int .i64 c.pos) ∧ w''.cell? ⟨(w.heap.size + 1), 1, none⟩ = some (.int .i64 c.vel) ∧ w''.cell? ⟨(w.heap.size + 1), 2, none⟩ = some (.int .i64 c.door))) (by kernel_rfl) (by (try dsimp only); first | exact ⟨x0_0, x0_1, x0_2, x0_3, x0_4, x0_5, x0_6, x0_7, x0_8, x0_9, x0_10, x0_11, x1_0, x1_1, x1_2⟩ | go_keep) (fun hHeld => ?_)
  obtain ⟨v_1, hw1⟩ : ∃ v_1, v_1 = ((w.alloc (.cells #[.int .i64 h.fl, .int .i64 h.gp, .int .i64 h.ln, .int .i64 h.rf, .int .i64 h.sp, .int .i64 h.pu, .int .i64 h.br, .int .i64 h.dr, .int .i64 h.lv, .int .i64 h.dO, .int .i64 h.ld, .int .i64 h.qu] 34)).alloc (.cells #[.int .i64 c.pos, .int .i64 c.vel, .int .i64 c.door] 67)).drew := ⟨_, rfl⟩
  have F0 : Hid (HAt v_1 w.heap.size h) := by rw [hw1]; exact F0.out
  have F1 : Hid (CW v_1 (w.heap.size + 1) c) := by rw [hw1]; exact F1.out
  have FB : Hid (Below w.heap.size w v_1) := by rw [hw1]; exact FB.out
  rw [← hw1] at hHeld ⊢
  clear hw1
  obtain ⟨x0_0, x0_1, x0_2, x0_3, x0_4, x0_5, x0_6, x0_7, x0_8, x0_9, x0_10, x0_11⟩ := F0.out
  obtain ⟨x1_0, x1_1, x1_2, y1_0, y1_1, y1_2⟩ := F1.out
  refine tkz 0 rfl ?_
  refine tkz 1 rfl ?_
  refine tkz 3 rfl ?_
  refine tkz 4 rfl ?_
  refine tkz 5 rfl ?_
  refine wpAnyH_ready (rs := [2]) (by kernel_rfl) (by simp) ?_
  refine (AllReadyH.cons rfl (fun K hK => ?_) AllReadyH.nil)
  go_simp
  refine (floorOf_any h c HK.out v HV.out _).mono ?_
  rintro e v_2 ⟨rfl, hb⟩
  have F0 : Hid (HAt v_2 w.heap.size h) := F0.out.below hb F0.out.lt
  have F1 : Hid (CW v_2 (w.heap.size + 1) c) := F1.out.below hb F1.out.lt
  have FB : Hid (Below w.heap.size w v_2) := FB.out.trans (hb.mono FB.out.size)
  clear hb
  obtain ⟨x0_0, x0_1, x0_2, x0_3, x0_4, x0_5, x0_6, x0_7, x0_8, x0_9, x0_10, x0_11⟩ := F0.out
  obtain ⟨x1_0, x1_1, x1_2, y1_0, y1_1, y1_2⟩ := F1.out
  try dsimp only
  refine hK.out _ _ (by (try dsimp only); first | exact ⟨x0_0, x0_1, x0_2, x0_3, x0_4, x0_5, x0_6, x0_7, x0_8, x0_9, x0_10, x0_11, x1_0, x1_1, x1_2⟩ | go_keep) (fun hHeld => ?_)
  clear hK K
  try simp only [Act.put, List.getElem_toArray, List.getElem_cons_succ, List.getElem_cons_zero, List.setIfInBounds_toArray, List.set_cons_zero, List.set_cons_succ]
  refine wpAnyH_ready (rs := [6]) (by kernel_rfl) (by simp) ?_
  refine (AllReadyH.cons rfl (fun K hK => ?_) AllReadyH.nil)
  go_simp
  refine (bounded_any _ _ _ _).mono ?_
  rintro e w_ ⟨rfl, hw⟩
  obtain rfl := hw.symm
  clear hw
  try dsimp only
  refine hK.out _ _ (by (try dsimp only); first | exact ⟨x0_0, x0_1, x0_2, x0_3, x0_4, x0_5, x0_6, x0_7, x0_8, x0_9, x0_10, x0_11, x1_0, x1_1, x1_2⟩ | go_keep) (fun hHeld => ?_)
  clear hK K
  try simp only [Act.put, List.getElem_toArray, List.getElem_cons_succ, List.getElem_cons_zero, List.setIfInBounds_toArray, List.set_cons_zero, List.set_cons_succ]
  refine tkz 7 rfl ?_
  refine wpAnyH_done (by kernel_rfl) ?_ _
  go_wp2_with fail
  go_ret
  exact ⟨ret_int (by unfold cl; (repeat' split) <;> omega), FB.out⟩
set_option maxRecDepth 20000 in
set_option maxHeartbeats 8000000 in
theorem carOf_any (s : Sh) (ca : Int) (h0 : 0 ≤ ca) (h1 : ca ≤ 1) (w : World) :
    Calls Tryz.prog 68 #[.agg #[.int .i64 s.lo.pos, .int .i64 s.lo.vel, .int .i64 s.lo.door, .int .i64 s.up.pos, .int .i64 s.up.vel, .int .i64 s.up.door], .int .i64 ca] w fun e w' => e = .returned (.agg #[.int .i64 (carAt s ca).pos, .int .i64 (carAt s ca).vel, .int .i64 (carAt s ca).door]) ∧ Below w.heap.size w w' := by
  have F0 : Hid (Blk ((w.alloc (.cells #[.int .i64 s.lo.pos, .int .i64 s.lo.vel, .int .i64 s.lo.door, .int .i64 s.up.pos, .int .i64 s.up.vel, .int .i64 s.up.door] 69)).alloc (.cells #[.int .i64 0, .int .i64 0, .int .i64 0] 67)) w.heap.size [.int .i64 s.lo.pos, .int .i64 s.lo.vel, .int .i64 s.lo.door, .int .i64 s.up.pos, .int .i64 s.up.vel, .int .i64 s.up.door]) := (Blk.at_ w #[.int .i64 s.lo.pos, .int .i64 s.lo.vel, .int .i64 s.lo.door, .int .i64 s.up.pos, .int .i64 s.up.vel, .int .i64 s.up.door] _ _ rfl).alloc _
  have F1 : Hid (Blk ((w.alloc (.cells #[.int .i64 s.lo.pos, .int .i64 s.lo.vel, .int .i64 s.lo.door, .int .i64 s.up.pos, .int .i64 s.up.vel, .int .i64 s.up.door] 69)).alloc (.cells #[.int .i64 0, .int .i64 0, .int .i64 0] 67)) (w.heap.size + 1) [.int .i64 0, .int .i64 0, .int .i64 0]) := Blk.at_ _ #[.int .i64 0, .int .i64 0, .int .i64 0] _ _ (by simp)
  have FB : Hid (Below w.heap.size w ((w.alloc (.cells #[.int .i64 s.lo.pos, .int .i64 s.lo.vel, .int .i64 s.lo.door, .int .i64 s.up.pos, .int .i64 s.up.vel, .int .i64 s.up.door] 69)).alloc (.cells #[.int .i64 0, .int .i64 0, .int .i64 0] 67))) := ((Below.refl _ _).alloc (Nat.le_refl _) _).alloc (by simp) _
  obtain ⟨W0, hW0⟩ : ∃ W0, W0 = ((w.alloc (.cells #[.int .i64 s.lo.pos, .int .i64 s.lo.vel, .int .i64 s.lo.door, .int .i64 s.up.pos, .int .i64 s.up.vel, .int .i64 s.up.door] 69)).alloc (.cells #[.int .i64 0, .int .i64 0, .int .i64 0] 67)) := ⟨_, rfl⟩
  rw [← hW0] at F0 F1 FB
  have HW0 : Hid (W0 = ((w.alloc (.cells #[.int .i64 s.lo.pos, .int .i64 s.lo.vel, .int .i64 s.lo.door, .int .i64 s.up.pos, .int .i64 s.up.vel, .int .i64 s.up.door] 69)).alloc (.cells #[.int .i64 0, .int .i64 0, .int .i64 0] 67))) := hW0
  clear hW0
  have kc : ca = 0 ∨ ca = 1 := by omega
  clear h0 h1
  rcases kc with k | k
  · subst k
    have i0 : ∀ w : World, (Instr.index 137 (.agg #[.int .i64 s.lo.pos, .int .i64 s.lo.vel, .int .i64 s.lo.door, .int .i64 s.up.pos, .int .i64 s.up.vel, .int .i64 s.up.door]) (.int .i64 0)).run Tryz.prog w = .ok (.agg #[.int .i64 s.lo.pos, .int .i64 s.lo.vel, .int .i64 s.lo.door]) w := fun w => by kernel_rfl
    go_enter Tryz.func68, Tryz.ntmps68
    go_upto_region 1 with fail
    rw [← HW0.out]
    have x0 := F0.out.c 0 _ rfl
    have x1 := F0.out.c 1 _ rfl
    have x2 := F0.out.c 2 _ rfl
    have x3 := F0.out.c 3 _ rfl
    have x4 := F0.out.c 4 _ rfl
    have x5 := F0.out.c 5 _ rfl
    go_wp2_with (refine store_blk [.int .i64 s.lo.pos, .int .i64 s.lo.vel, .int .i64 s.lo.door] 67 _ _ (by kernel_rfl) (by kernel_rfl) (by kernel_rfl) F1.out rfl rfl rfl rfl ?_)
    exact bodyPost_ret (v := .agg #[.int .i64 s.lo.pos, .int .i64 s.lo.vel, .int .i64 s.lo.door]) ((F1.out.row [.int .i64 s.lo.pos, .int .i64 s.lo.vel, .int .i64 s.lo.door]).res _ Tryz.results68 Tryz.underlying67 (by kernel_rfl) rfl) rfl ⟨rfl, below_row FB.out (by omega) _⟩
  · subst k
    have i0 : ∀ w : World, (Instr.index 137 (.agg #[.int .i64 s.lo.pos, .int .i64 s.lo.vel, .int .i64 s.lo.door, .int .i64 s.up.pos, .int .i64 s.up.vel, .int .i64 s.up.door]) (.int .i64 1)).run Tryz.prog w = .ok (.agg #[.int .i64 s.up.pos, .int .i64 s.up.vel, .int .i64 s.up.door]) w := fun w => by kernel_rfl
    go_enter Tryz.func68, Tryz.ntmps68
    go_upto_region 1 with fail
    rw [← HW0.out]
    have x0 := F0.out.c 0 _ rfl
    have x1 := F0.out.c 1 _ rfl
    have x2 := F0.out.c 2 _ rfl
    have x3 := F0.out.c 3 _ rfl
    have x4 := F0.out.c 4 _ rfl
    have x5 := F0.out.c 5 _ rfl
    go_wp2_with (refine store_blk [.int .i64 s.up.pos, .int .i64 s.up.vel, .int .i64 s.up.door] 67 _ _ (by kernel_rfl) (by kernel_rfl) (by kernel_rfl) F1.out rfl rfl rfl rfl ?_)
    exact bodyPost_ret (v := .agg #[.int .i64 s.up.pos, .int .i64 s.up.vel, .int .i64 s.up.door]) ((F1.out.row [.int .i64 s.up.pos, .int .i64 s.up.vel, .int .i64 s.up.door]).res _ Tryz.results68 Tryz.underlying67 (by kernel_rfl) rfl) rfl ⟨rfl, below_row FB.out (by omega) _⟩
theorem OwI.cases {w : World} {B : Nat} {v : Value} {l : List Int} (h : OwI w B v l) : (v = .slice none 0 0 ∧ l = []) ∨ ∃ g cap, v = .slice (some ⟨g, 0, none⟩) l.length cap := by
  rcases h.2 with ⟨e, hn⟩ | ⟨g, cap, cur, e, hB, hg, hc, hm, _⟩
  · exact Or.inl ⟨e, List.eq_nil_of_length_eq_zero hn⟩
  · exact Or.inr ⟨g, cap, e⟩
theorem rid_w (sh ca : Int) (p : Pe) : isW 1 sh ca p = ridB sh ca p := by
  unfold isW ridB
  cases (p.st == 1) <;> cases (p.sh == sh) <;> cases (p.ca == ca) <;> rfl
theorem rec_riders (h : Hs) (ps : List Pe) (s : Sh) (sh ca : Int) : rec8 h ps s sh ca = (match riders sh ca ps with | [] => (4, 0, 0) | i :: _ => (0, i, floor8 h (carAt s ca))) := by
  have e : isW 1 sh ca = ridB sh ca := funext (rid_w sh ca)
  unfold rec8 riders
  rw [e, ← List.head?_filter]
  cases ps.filter (ridB sh ca) with
  | nil => rfl
  | cons p l => rfl
set_option maxRecDepth 20000 in
set_option maxHeartbeats 32000000 in
theorem needIn_any (h : Hs) (ds : List Dk) (da : Option Addr) (dc : Nat) (nx : Int) (ps : List Pe) (pa : Option Addr) (pc : Nat) (tk : Int) (rc : Bool) (sh ca : Int) (gf : Gr.fault ⟨h, ds, ⟨nx, ps⟩, tk, rc⟩ = 0) (s0 : 0 ≤ sh) (s1 : sh < ds.length) (c0 : 0 ≤ ca) (c1 : ca ≤ 1) (hld : ds.length ≤ 1048576) (hlp : ps.length ≤ 1048576) (w : World) (hD : DIn w w.heap.size da ds) (hP : PIn w w.heap.size pa ps) :
    Calls Tryz.prog 39 #[.agg #[.int .i64 h.fl, .int .i64 h.gp, .int .i64 h.ln, .int .i64 h.rf, .int .i64 h.sp, .int .i64 h.pu, .int .i64 h.br, .int .i64 h.dr, .int .i64 h.lv, .int .i64 h.dO, .int .i64 h.ld, .int .i64 h.qu, .slice da ds.length dc, .int .i64 nx, .slice pa ps.length pc, .int .i64 tk, .bool rc], .int .i64 sh, .int .i64 ca] w fun e w' => e = .returned (.agg #[.int .i64 (need8 h ds ps rc sh ca).1, .int .i64 (need8 h ds ps rc sh ca).2.1, .int .i64 (need8 h ds ps rc sh ca).2.2]) ∧ Below w.heap.size w w' := by
  have HD : Hid (DIn w w.heap.size da ds) := hD
  have HP : Hid (PIn w w.heap.size pa ps) := hP
  have F0 : Hid (Blk ((w.alloc (.cells #[.int .i64 h.fl, .int .i64 h.gp, .int .i64 h.ln, .int .i64 h.rf, .int .i64 h.sp, .int .i64 h.pu, .int .i64 h.br, .int .i64 h.dr, .int .i64 h.lv, .int .i64 h.dO, .int .i64 h.ld, .int .i64 h.qu, .slice da ds.length dc, .int .i64 nx, .slice pa ps.length pc, .int .i64 tk, .bool rc] 40)).alloc (.cells #[.int .i64 0, .int .i64 0, .int .i64 0] 56)) w.heap.size (gvs h (.slice da ds.length dc) nx (.slice pa ps.length pc) tk rc)) := (Blk.at_ w #[.int .i64 h.fl, .int .i64 h.gp, .int .i64 h.ln, .int .i64 h.rf, .int .i64 h.sp, .int .i64 h.pu, .int .i64 h.br, .int .i64 h.dr, .int .i64 h.lv, .int .i64 h.dO, .int .i64 h.ld, .int .i64 h.qu, .slice da ds.length dc, .int .i64 nx, .slice pa ps.length pc, .int .i64 tk, .bool rc] _ _ rfl).alloc _
  have F1 : Hid (Blk ((w.alloc (.cells #[.int .i64 h.fl, .int .i64 h.gp, .int .i64 h.ln, .int .i64 h.rf, .int .i64 h.sp, .int .i64 h.pu, .int .i64 h.br, .int .i64 h.dr, .int .i64 h.lv, .int .i64 h.dO, .int .i64 h.ld, .int .i64 h.qu, .slice da ds.length dc, .int .i64 nx, .slice pa ps.length pc, .int .i64 tk, .bool rc] 40)).alloc (.cells #[.int .i64 0, .int .i64 0, .int .i64 0] 56)) (w.heap.size + 1) [.int .i64 0, .int .i64 0, .int .i64 0]) := Blk.at_ _ #[.int .i64 0, .int .i64 0, .int .i64 0] _ _ (by simp)
  have FB : Hid (Below w.heap.size w ((w.alloc (.cells #[.int .i64 h.fl, .int .i64 h.gp, .int .i64 h.ln, .int .i64 h.rf, .int .i64 h.sp, .int .i64 h.pu, .int .i64 h.br, .int .i64 h.dr, .int .i64 h.lv, .int .i64 h.dO, .int .i64 h.ld, .int .i64 h.qu, .slice da ds.length dc, .int .i64 nx, .slice pa ps.length pc, .int .i64 tk, .bool rc] 40)).alloc (.cells #[.int .i64 0, .int .i64 0, .int .i64 0] 56))) := ((Below.refl _ _).alloc (Nat.le_refl _) _).alloc (by simp) _
  obtain ⟨W0, hW0⟩ : ∃ W0, W0 = ((w.alloc (.cells #[.int .i64 h.fl, .int .i64 h.gp, .int .i64 h.ln, .int .i64 h.rf, .int .i64 h.sp, .int .i64 h.pu, .int .i64 h.br, .int .i64 h.dr, .int .i64 h.lv, .int .i64 h.dO, .int .i64 h.ld, .int .i64 h.qu, .slice da ds.length dc, .int .i64 nx, .slice pa ps.length pc, .int .i64 tk, .bool rc] 40)).alloc (.cells #[.int .i64 0, .int .i64 0, .int .i64 0] 56)) := ⟨_, rfl⟩
  rw [← hW0] at F0 F1 FB
  have HW0 : Hid (W0 = ((w.alloc (.cells #[.int .i64 h.fl, .int .i64 h.gp, .int .i64 h.ln, .int .i64 h.rf, .int .i64 h.sp, .int .i64 h.pu, .int .i64 h.br, .int .i64 h.dr, .int .i64 h.lv, .int .i64 h.dO, .int .i64 h.ld, .int .i64 h.qu, .slice da ds.length dc, .int .i64 nx, .slice pa ps.length pc, .int .i64 tk, .bool rc] 40)).alloc (.cells #[.int .i64 0, .int .i64 0, .int .i64 0] 56))) := hW0
  clear hW0 hD hP
  obtain ⟨hf, nn, hdk, hle, -⟩ := Gr.fault_parts gf
  dsimp only at hf nn hdk hle
  have oo := Hs.ok_of (Hs.fault_zero hf).1
  have HO : Hid h.Ok := oo
  clear gf
  obtain ⟨r, hr⟩ : ∃ r, need8 h ds ps rc sh ca = r := ⟨_, rfl⟩
  rw [hr]
  unfold need8 at hr
  cases rc
  · have HR : Hid (Hs.needK h ⟨nx, ps⟩ sh ca = r) := by
      rw [if_neg (by simp)] at hr
      rw [← hr]
      unfold Hs.needK
      have f1 := oo.fl1
      have ka : Hs.askd h ⟨nx, ps⟩ sh ca 0 = 0 := by
        unfold Hs.askd
        rw [if_pos hle, if_pos ⟨by unfold carB; rw [inB_yes s0 (by omega), inB_yes c0 c1]; rfl, inB_yes (Int.le_refl _) (by omega)⟩]
      rw [if_pos ka]
      exact rfl
    clear hr hdk hle oo hf
    go_enter Tryz.func39, Tryz.ntmps39
    go_upto_region 1 with fail
    rw [← HW0.out]
    have x0 := F0.out.c 0 _ rfl
    have x1 := F0.out.c 1 _ rfl
    have x2 := F0.out.c 2 _ rfl
    have x3 := F0.out.c 3 _ rfl
    have x4 := F0.out.c 4 _ rfl
    have x5 := F0.out.c 5 _ rfl
    have x6 := F0.out.c 6 _ rfl
    have x7 := F0.out.c 7 _ rfl
    have x8 := F0.out.c 8 _ rfl
    have x9 := F0.out.c 9 _ rfl
    have x10 := F0.out.c 10 _ rfl
    have x11 := F0.out.c 11 _ rfl
    have x12 := F0.out.c 12 _ rfl
    have x13 := F0.out.c 13 _ rfl
    have x14 := F0.out.c 14 _ rfl
    have x15 := F0.out.c 15 _ rfl
    have x16 := F0.out.c 16 _ rfl
    go_wp2_with (first | (go_at_call 65; refine (implNeedOf_any h ⟨nx, ps⟩ sh ca pa pc hlp _ ((HP.out.below FB.out (Nat.le_refl _)).mono FB.out.size)).mono ?_; rw [HR.out]; rintro e w1 ⟨rfl, hb⟩; have F0 : Hid (Blk w1 w.heap.size (gvs h (.slice da ds.length dc) nx (.slice pa ps.length pc) tk false)) := F0.out.below hb F0.out.lt; have F1 : Hid (Blk w1 (w.heap.size + 1) [.int .i64 0, .int .i64 0, .int .i64 0]) := F1.out.below hb F1.out.lt; have FB : Hid (Below w.heap.size w w1) := FB.out.trans (hb.mono FB.out.size); clear hb) | (refine store_blk [.int .i64 r.1, .int .i64 r.2.1, .int .i64 r.2.2] 56 _ _ (by kernel_rfl) (by kernel_rfl) (by kernel_rfl) F1.out rfl rfl rfl rfl ?_))
    exact bodyPost_ret (v := .agg #[.int .i64 r.1, .int .i64 r.2.1, .int .i64 r.2.2]) ((F1.out.row [.int .i64 r.1, .int .i64 r.2.1, .int .i64 r.2.2]).res _ Tryz.results39 Tryz.underlying56 (by kernel_rfl) rfl) rfl ⟨rfl, below_row FB.out (by omega) _⟩
  · obtain ⟨n, hn⟩ : ∃ n : Nat, sh = (n : Int) := ⟨sh.toNat, by omega⟩
    subst hn
    obtain ⟨d, hd⟩ : ∃ d, ds[n]? = some d := ⟨_, List.getElem?_eq_getElem (by omega)⟩
    have HR : Hid (rec8 h ps d.sh (n : Int) ca = r) := by
      rw [if_pos rfl] at hr
      unfold shOf at hr
      rw [Int.toNat_natCast, hd] at hr
      exact hr
    have HK : Hid (CarOk h (carAt d.sh ca)) := by
      have q := decks_zero hdk n d hd
      unfold Hs.deck at q
      split at q
      case isFalse z => exact absurd q z
      case isTrue z =>
        obtain ⟨k1, k2, _⟩ := shaft_parts z
        unfold carAt
        split
        · exact Hs.car_zero k1
        · exact Hs.car_zero k2
    rcases HD.out with hz | ⟨b', o', ha, hbl', h13⟩
    · rw [hz] at s1; simp at s1; omega
    subst ha
    have HE : Hid (D13 w b' (o' + n * 13) d) := h13 n d hd
    have HBL : Hid (b' < w.heap.size) := hbl'
    clear h13 hd hr hdk hle oo hf
    go_enter Tryz.func39, Tryz.ntmps39
    go_upto_region 1 with fail
    rw [← HW0.out]
    have x0 := F0.out.c 0 _ rfl
    have x1 := F0.out.c 1 _ rfl
    have x2 := F0.out.c 2 _ rfl
    have x3 := F0.out.c 3 _ rfl
    have x4 := F0.out.c 4 _ rfl
    have x5 := F0.out.c 5 _ rfl
    have x6 := F0.out.c 6 _ rfl
    have x7 := F0.out.c 7 _ rfl
    have x8 := F0.out.c 8 _ rfl
    have x9 := F0.out.c 9 _ rfl
    have x10 := F0.out.c 10 _ rfl
    have x11 := F0.out.c 11 _ rfl
    have x12 := F0.out.c 12 _ rfl
    have x13 := F0.out.c 13 _ rfl
    have x14 := F0.out.c 14 _ rfl
    have x15 := F0.out.c 15 _ rfl
    have x16 := F0.out.c 16 _ rfl
    go_upto_region 4 with (go_at_call 66; refine (ridersIn_any ps pa pc (n : Int) ca hlp _ ((HP.out.below FB.out (Nat.le_refl _)).mono FB.out.size)).mono ?_; rintro e w1 ⟨v, rfl, ho, hb⟩; have FC : Hid (OwI w1 w.heap.size v (riders (n : Int) ca ps)) := ho.base FB.out.size; have lv : ∀ k, v.ownBlock = some k → w.heap.size + 1 < k := fun k hk => Nat.lt_of_lt_of_le F1.out.lt (ho.lt k hk).1; clear ho; have F0 : Hid (Blk w1 w.heap.size (gvs h (.slice (some ⟨b', o', none⟩) ds.length dc) nx (.slice pa ps.length pc) tk true)) := F0.out.below hb F0.out.lt; have F1 : Hid (Blk w1 (w.heap.size + 1) [.int .i64 0, .int .i64 0, .int .i64 0]) := F1.out.below hb F1.out.lt; have FB : Hid (Below w.heap.size w w1) := FB.out.trans (hb.mono FB.out.size); clear hb)
    have HRR : Hid ((match riders (n : Int) ca ps with | [] => (4, 0, 0) | i :: _ => (0, i, floor8 h (carAt d.sh ca))) = r) := by rw [← rec_riders]; exact HR.out
    obtain ⟨rl, hrl⟩ : ∃ rl, riders (n : Int) ca ps = rl := ⟨_, rfl⟩
    rw [hrl] at FC HRR
    clear hrl HR
    cases rl with
    | nil =>
      have er : r = (4, 0, 0) := HRR.out.symm
      subst er
      obtain ⟨a, cap, rfl⟩ := FC.out.sl
      clear HRR FC lv
      go_wp2_with (refine store_blk [.int .i64 4, .int .i64 0, .int .i64 0] 56 _ _ (by kernel_rfl) (by kernel_rfl) (by kernel_rfl) F1.out rfl rfl rfl rfl ?_)
      exact bodyPost_ret (v := .agg #[.int .i64 4, .int .i64 0, .int .i64 0]) ((F1.out.row [.int .i64 4, .int .i64 0, .int .i64 0]).res _ Tryz.results39 Tryz.underlying56 (by kernel_rfl) rfl) rfl ⟨rfl, below_row FB.out (by omega) _⟩
    | cons i l =>
      have er : r = (0, i, floor8 h (carAt d.sh ca)) := HRR.out.symm
      subst er
      rcases FC.out.cases with ⟨_, hz⟩ | ⟨rg, rcap, rfl⟩
      · cases hz
      have lr := lv rg rfl
      have ll : ¬ ((((i :: l).length : Nat) : Int) = 0) := by simp; omega
      have lz : ((((i :: l).length : Nat) : Int) == 0) = false := by simp; omega
      clear HRR lv
      have FE : Hid (D13 w1 b' (o' + n * 13) d) := HE.out.below FB.out HBL.out
      go_upto_region 6 with fail
      have F0 : Hid (Blk w1.drew w.heap.size (gvs h (.slice (some ⟨b', o', none⟩) ds.length dc) nx (.slice pa ps.length pc) tk true)) := F0.out.below (Below.refl _ _).drew F0.out.lt
      have F1 : Hid (Blk w1.drew (w.heap.size + 1) [.int .i64 0, .int .i64 0, .int .i64 0]) := F1.out.below (Below.refl _ _).drew F1.out.lt
      have FC : Hid (OwI w1.drew w.heap.size (.slice (some ⟨rg, 0, none⟩) (i :: l).length rcap) (i :: l)) := FC.out.drew
      have FE : Hid (D13 w1.drew b' (o' + n * 13) d) := FE.out.below (Below.refl _ _).drew FE.out.lt
      have FB : Hid (Below w.heap.size w w1.drew) := FB.out.drew
      have x0 := F0.out.c 0 _ rfl
      have x1 := F0.out.c 1 _ rfl
      have x2 := F0.out.c 2 _ rfl
      have x3 := F0.out.c 3 _ rfl
      have x4 := F0.out.c 4 _ rfl
      have x5 := F0.out.c 5 _ rfl
      have x6 := F0.out.c 6 _ rfl
      have x7 := F0.out.c 7 _ rfl
      have x8 := F0.out.c 8 _ rfl
      have x9 := F0.out.c 9 _ rfl
      have x10 := F0.out.c 10 _ rfl
      have x11 := F0.out.c 11 _ rfl
      have x12 := F0.out.c 12 _ rfl
      have x13 := F0.out.c 13 _ rfl
      have x14 := F0.out.c 14 _ rfl
      have x15 := F0.out.c 15 _ rfl
      have x16 := F0.out.c 16 _ rfl
      have ri := FC.out.cell (i := 0) rfl
      have dd0 := FE.out.c0
      have dd1 := FE.out.c1
      have dd2 := FE.out.c2
      have dd3 := FE.out.c3
      have dd4 := FE.out.c4
      have dd5 := FE.out.c5
      refine wp_region_held_drew (S := (fun w'' => w''.cell? ⟨w.heap.size, 0, none⟩ = some (.int .i64 h.fl) ∧ w''.cell? ⟨w.heap.size, 1, none⟩ = some (.int .i64 h.gp) ∧ w''.cell? ⟨w.heap.size, 2, none⟩ = some (.int .i64 h.ln) ∧ w''.cell? ⟨w.heap.size, 3, none⟩ = some (.int .i64 h.rf) ∧ w''.cell? ⟨w.heap.size, 4, none⟩ = some (.int .i64 h.sp) ∧ w''.cell? ⟨w.heap.size, 5, none⟩ = some (.int .i64 h.pu) ∧ w''.cell? ⟨w.heap.size, 6, none⟩ = some (.int .i64 h.br) ∧ w''.cell? ⟨w.heap.size, 7, none⟩ = some (.int .i64 h.dr) ∧ w''.cell? ⟨w.heap.size, 8, none⟩ = some (.int .i64 h.lv) ∧ w''.cell? ⟨w.heap.size, 9, none⟩ = some (.int .i64 h.dO) ∧ w''.cell? ⟨w.heap.size, 10, none⟩ = some (.int .i64 h.ld) ∧ w''.cell? ⟨w.heap.size, 11, none⟩ = some (.int .i64 h.qu) ∧ w''.cell? ⟨w.heap.size, 12, none⟩ = some (.slice (some ⟨b', o', none⟩) ds.length dc) ∧ w''.cell? ⟨w.heap.size, 13, none⟩ = some (.int .i64 nx) ∧ w''.cell? ⟨w.heap.size, 14, none⟩ = some (.slice pa ps.length pc) ∧ w''.cell? ⟨w.heap.size, 15, none⟩ = some (.int .i64 tk) ∧ w''.cell? ⟨w.heap.size, 16, none⟩ = some (.bool true) ∧ w''.cell? ⟨rg, 0, none⟩ = some (.int .i64 i) ∧ w''.cell? ⟨b', o' + n * 13, none⟩ = some (.int .i64 d.sh.lo.pos) ∧ w''.cell? ⟨b', o' + n * 13 + 1, none⟩ = some (.int .i64 d.sh.lo.vel) ∧ w''.cell? ⟨b', o' + n * 13 + 2, none⟩ = some (.int .i64 d.sh.lo.door) ∧ w''.cell? ⟨b', o' + n * 13 + 3, none⟩ = some (.int .i64 d.sh.up.pos) ∧ w''.cell? ⟨b', o' + n * 13 + 4, none⟩ = some (.int .i64 d.sh.up.vel) ∧ w''.cell? ⟨b', o' + n * 13 + 5, none⟩ = some (.int .i64 d.sh.up.door))) (by kernel_rfl) (by (try dsimp only); first | exact ⟨x0, x1, x2, x3, x4, x5, x6, x7, x8, x9, x10, x11, x12, x13, x14, x15, x16, ri, dd0, dd1, dd2, dd3, dd4, dd5⟩ | go_keep) (fun hHeld => ?_)
      obtain ⟨v_3, hw1⟩ : ∃ v_3, v_3 = w1.drew := ⟨_, rfl⟩
      have F0 : Hid (Blk v_3 w.heap.size (gvs h (.slice (some ⟨b', o', none⟩) ds.length dc) nx (.slice pa ps.length pc) tk true)) := by rw [hw1]; exact F0.out
      have F1 : Hid (Blk v_3 (w.heap.size + 1) [.int .i64 0, .int .i64 0, .int .i64 0]) := by rw [hw1]; exact F1.out
      have FC : Hid (OwI v_3 w.heap.size (.slice (some ⟨rg, 0, none⟩) (i :: l).length rcap) (i :: l)) := by rw [hw1]; exact FC.out
      have FE : Hid (D13 v_3 b' (o' + n * 13) d) := by rw [hw1]; exact FE.out
      have FB : Hid (Below w.heap.size w v_3) := by rw [hw1]; exact FB.out
      rw [← hw1] at hHeld ⊢
      clear hw1
      have x0 := F0.out.c 0 _ rfl
      have x1 := F0.out.c 1 _ rfl
      have x2 := F0.out.c 2 _ rfl
      have x3 := F0.out.c 3 _ rfl
      have x4 := F0.out.c 4 _ rfl
      have x5 := F0.out.c 5 _ rfl
      have x6 := F0.out.c 6 _ rfl
      have x7 := F0.out.c 7 _ rfl
      have x8 := F0.out.c 8 _ rfl
      have x9 := F0.out.c 9 _ rfl
      have x10 := F0.out.c 10 _ rfl
      have x11 := F0.out.c 11 _ rfl
      have x12 := F0.out.c 12 _ rfl
      have x13 := F0.out.c 13 _ rfl
      have x14 := F0.out.c 14 _ rfl
      have x15 := F0.out.c 15 _ rfl
      have x16 := F0.out.c 16 _ rfl
      have ri := FC.out.cell (i := 0) rfl
      have dd0 := FE.out.c0
      have dd1 := FE.out.c1
      have dd2 := FE.out.c2
      have dd3 := FE.out.c3
      have dd4 := FE.out.c4
      have dd5 := FE.out.c5
      refine tkz 0 rfl ?_
      refine tkz 1 rfl ?_
      refine tkz 2 rfl ?_
      refine tkz 3 rfl ?_
      refine tkz 4 rfl ?_
      refine tkz 5 rfl ?_
      refine tkz 6 rfl ?_
      refine tkz 7 rfl ?_
      refine tkz 8 rfl ?_
      refine tkz 9 rfl ?_
      refine tkz 10 rfl ?_
      refine tkz 11 rfl ?_
      refine wpAnyH_ready (rs := [12]) (by kernel_rfl) (by simp) ?_
      refine (AllReadyH.cons rfl (fun K hK => ?_) AllReadyH.nil)
      go_simp
      refine (carOf_any d.sh ca c0 c1 _).mono ?_
      rintro e v_4 ⟨rfl, hb⟩
      have F0 : Hid (Blk v_4 w.heap.size (gvs h (.slice (some ⟨b', o', none⟩) ds.length dc) nx (.slice pa ps.length pc) tk true)) := F0.out.below hb F0.out.lt
      have F1 : Hid (Blk v_4 (w.heap.size + 1) [.int .i64 0, .int .i64 0, .int .i64 0]) := F1.out.below hb F1.out.lt
      have FC : Hid (OwI v_4 w.heap.size (.slice (some ⟨rg, 0, none⟩) (i :: l).length rcap) (i :: l)) := FC.out.below hb (fun k hk => (FC.out.lt k hk).2)
      have FE : Hid (D13 v_4 b' (o' + n * 13) d) := FE.out.below hb FE.out.lt
      have FB : Hid (Below w.heap.size w v_4) := FB.out.trans (hb.mono FB.out.size)
      clear hb
      have x0 := F0.out.c 0 _ rfl
      have x1 := F0.out.c 1 _ rfl
      have x2 := F0.out.c 2 _ rfl
      have x3 := F0.out.c 3 _ rfl
      have x4 := F0.out.c 4 _ rfl
      have x5 := F0.out.c 5 _ rfl
      have x6 := F0.out.c 6 _ rfl
      have x7 := F0.out.c 7 _ rfl
      have x8 := F0.out.c 8 _ rfl
      have x9 := F0.out.c 9 _ rfl
      have x10 := F0.out.c 10 _ rfl
      have x11 := F0.out.c 11 _ rfl
      have x12 := F0.out.c 12 _ rfl
      have x13 := F0.out.c 13 _ rfl
      have x14 := F0.out.c 14 _ rfl
      have x15 := F0.out.c 15 _ rfl
      have x16 := F0.out.c 16 _ rfl
      have ri := FC.out.cell (i := 0) rfl
      have dd0 := FE.out.c0
      have dd1 := FE.out.c1
      have dd2 := FE.out.c2
      have dd3 := FE.out.c3
      have dd4 := FE.out.c4
      have dd5 := FE.out.c5
      try dsimp only
      refine hK.out _ _ (by (try dsimp only); first | exact ⟨x0, x1, x2, x3, x4, x5, x6, x7, x8, x9, x10, x11, x12, x13, x14, x15, x16, ri, dd0, dd1, dd2, dd3, dd4, dd5⟩ | go_keep) (fun hHeld => ?_)
      clear hK K
      try simp only [Act.put, List.getElem_toArray, List.getElem_cons_succ, List.getElem_cons_zero, List.setIfInBounds_toArray, List.set_cons_zero, List.set_cons_succ]
      refine wpAnyH_ready (rs := [13]) (by kernel_rfl) (by simp) ?_
      refine (AllReadyH.cons rfl (fun K hK => ?_) AllReadyH.nil)
      go_simp
      refine (stopOf_any h HO.out (carAt d.sh ca) HK.out _).mono ?_
      rintro e v_5 ⟨rfl, hb⟩
      have F0 : Hid (Blk v_5 w.heap.size (gvs h (.slice (some ⟨b', o', none⟩) ds.length dc) nx (.slice pa ps.length pc) tk true)) := F0.out.below hb F0.out.lt
      have F1 : Hid (Blk v_5 (w.heap.size + 1) [.int .i64 0, .int .i64 0, .int .i64 0]) := F1.out.below hb F1.out.lt
      have FC : Hid (OwI v_5 w.heap.size (.slice (some ⟨rg, 0, none⟩) (i :: l).length rcap) (i :: l)) := FC.out.below hb (fun k hk => (FC.out.lt k hk).2)
      have FE : Hid (D13 v_5 b' (o' + n * 13) d) := FE.out.below hb FE.out.lt
      have FB : Hid (Below w.heap.size w v_5) := FB.out.trans (hb.mono FB.out.size)
      clear hb
      have x0 := F0.out.c 0 _ rfl
      have x1 := F0.out.c 1 _ rfl
      have x2 := F0.out.c 2 _ rfl
      have x3 := F0.out.c 3 _ rfl
      have x4 := F0.out.c 4 _ rfl
      have x5 := F0.out.c 5 _ rfl
      have x6 := F0.out.c 6 _ rfl
      have x7 := F0.out.c 7 _ rfl
      have x8 := F0.out.c 8 _ rfl
      have x9 := F0.out.c 9 _ rfl
      have x10 := F0.out.c 10 _ rfl
      have x11 := F0.out.c 11 _ rfl
      have x12 := F0.out.c 12 _ rfl
      have x13 := F0.out.c 13 _ rfl
      have x14 := F0.out.c 14 _ rfl
      have x15 := F0.out.c 15 _ rfl
      have x16 := F0.out.c 16 _ rfl
      have ri := FC.out.cell (i := 0) rfl
      have dd0 := FE.out.c0
      have dd1 := FE.out.c1
      have dd2 := FE.out.c2
      have dd3 := FE.out.c3
      have dd4 := FE.out.c4
      have dd5 := FE.out.c5
      try dsimp only
      refine hK.out _ _ (by (try dsimp only); first | exact ⟨x0, x1, x2, x3, x4, x5, x6, x7, x8, x9, x10, x11, x12, x13, x14, x15, x16, ri, dd0, dd1, dd2, dd3, dd4, dd5⟩ | go_keep) (fun hHeld => ?_)
      clear hK K
      try simp only [Act.put, List.getElem_toArray, List.getElem_cons_succ, List.getElem_cons_zero, List.setIfInBounds_toArray, List.set_cons_zero, List.set_cons_succ]
      refine tkz 14 rfl ?_
      refine wpAnyH_ready (rs := [15]) (by kernel_rfl) (by simp) ?_
      refine (AllReadyH.cons rfl (fun K hK => ?_) AllReadyH.nil)
      have z0 := F1.out.c 0 _ rfl
      have z1 := F1.out.c 1 _ rfl
      have z2 := F1.out.c 2 _ rfl
      have zf0 := F1.out.f 0 (Nat.le_of_ble_eq_true rfl)
      have zf1 := F1.out.f 1 (Nat.le_of_ble_eq_true rfl)
      have zf2 := F1.out.f 2 (Nat.le_of_ble_eq_true rfl)
      go_simp
      obtain ⟨v_6, hw2⟩ : ∃ v_6, v_6 = putB v_5 (w.heap.size + 1) 0 [.int .i64 0, .int .i64 i, .int .i64 (floor8 h (carAt d.sh ca))] := ⟨_, rfl⟩
      change K _ (putB v_5 (w.heap.size + 1) 0 [.int .i64 0, .int .i64 i, .int .i64 (floor8 h (carAt d.sh ca))])
      rw [← hw2]
      clear z0 z1 z2 zf0 zf1 zf2
      have F0 : Hid (Blk v_6 w.heap.size (gvs h (.slice (some ⟨b', o', none⟩) ds.length dc) nx (.slice pa ps.length pc) tk true)) := by rw [hw2]; exact Blk.putB_other (by omega) [.int .i64 0, .int .i64 i, .int .i64 (floor8 h (carAt d.sh ca))] 0 F0.out
      have F1 : Hid (Blk v_6 (w.heap.size + 1) [.int .i64 0, .int .i64 i, .int .i64 (floor8 h (carAt d.sh ca))]) := by rw [hw2]; exact F1.out.put [.int .i64 0, .int .i64 i, .int .i64 (floor8 h (carAt d.sh ca))] rfl
      have FC : Hid (OwI v_6 w.heap.size (.slice (some ⟨rg, 0, none⟩) (i :: l).length rcap) (i :: l)) := by rw [hw2]; exact (((FC.out.other (p := ⟨w.heap.size + 1, 0, none⟩) (fun e => by have q : rg = w.heap.size + 1 := Option.some.inj e; omega) _).other (p := ⟨w.heap.size + 1, 1, none⟩) (fun e => by have q : rg = w.heap.size + 1 := Option.some.inj e; omega) _).other (p := ⟨w.heap.size + 1, 2, none⟩) (fun e => by have q : rg = w.heap.size + 1 := Option.some.inj e; omega) _)
      have FE : Hid (D13 v_6 b' (o' + n * 13) d) := by rw [hw2]; exact FE.out.below (below_putB (Below.refl (w.heap.size + 1) _) (Nat.le_refl _) [.int .i64 0, .int .i64 i, .int .i64 (floor8 h (carAt d.sh ca))] 0) (by omega)
      have FB : Hid (Below w.heap.size w v_6) := by rw [hw2]; exact below_putB FB.out (by omega) _ _
      clear hw2
      have x0 := F0.out.c 0 _ rfl
      have x1 := F0.out.c 1 _ rfl
      have x2 := F0.out.c 2 _ rfl
      have x3 := F0.out.c 3 _ rfl
      have x4 := F0.out.c 4 _ rfl
      have x5 := F0.out.c 5 _ rfl
      have x6 := F0.out.c 6 _ rfl
      have x7 := F0.out.c 7 _ rfl
      have x8 := F0.out.c 8 _ rfl
      have x9 := F0.out.c 9 _ rfl
      have x10 := F0.out.c 10 _ rfl
      have x11 := F0.out.c 11 _ rfl
      have x12 := F0.out.c 12 _ rfl
      have x13 := F0.out.c 13 _ rfl
      have x14 := F0.out.c 14 _ rfl
      have x15 := F0.out.c 15 _ rfl
      have x16 := F0.out.c 16 _ rfl
      have ri := FC.out.cell (i := 0) rfl
      have dd0 := FE.out.c0
      have dd1 := FE.out.c1
      have dd2 := FE.out.c2
      have dd3 := FE.out.c3
      have dd4 := FE.out.c4
      have dd5 := FE.out.c5
      refine hK.out _ _ (by (try dsimp only); first | exact ⟨x0, x1, x2, x3, x4, x5, x6, x7, x8, x9, x10, x11, x12, x13, x14, x15, x16, ri, dd0, dd1, dd2, dd3, dd4, dd5⟩ | go_keep) (fun hHeld => ?_)
      clear hK K
      try simp only [Act.put, List.getElem_toArray, List.getElem_cons_succ, List.getElem_cons_zero, List.setIfInBounds_toArray, List.set_cons_zero, List.set_cons_succ]
      refine wpAnyH_done (by kernel_rfl) ?_ _
      go_wp2_with fail
      exact bodyPost_ret (v := .agg #[.int .i64 0, .int .i64 i, .int .i64 (floor8 h (carAt d.sh ca))]) (F1.out.res _ Tryz.results39 Tryz.underlying56 (by kernel_rfl) rfl) rfl ⟨rfl, FB.out⟩
end Go.Proofs.YtfmpfcpefflmjaaGreat
