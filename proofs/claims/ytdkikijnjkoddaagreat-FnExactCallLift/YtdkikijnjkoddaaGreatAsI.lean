/-
  The program's group: to which car a call goes.
-/
import Derived.Test.YtdkikijnjkoddaaGreatGfI
import Derived.Test.YtdkikijnjkoddaaGreatAsS
import Derived.Test.YtdkikijnjkoddaaGreatLdA
import Derived.BigGuardPart
import Derived.Deep.DeepCutAuto
namespace Go.Proofs.YtdkikijnjkoddaaGreat
open Go.RowKit Pl
set_option linter.unusedSimpArgs false
set_option linter.unusedVariables false

set_option maxRecDepth 20000 in
set_option maxHeartbeats 8000000 in
theorem preferredCar_any (h : Hs) (f t : Int) (f0 : 0 ≤ f) (f1 : f ≤ 11) (t0 : 0 ≤ t) (t1 : t ≤ 11) (w : World) :
    Calls Tryz.prog 54 #[.agg #[.int .i64 h.fl, .int .i64 h.gp, .int .i64 h.ln, .int .i64 h.rf, .int .i64 h.sp, .int .i64 h.pu, .int .i64 h.br, .int .i64 h.dr, .int .i64 h.lv, .int .i64 h.dO, .int .i64 h.ld, .int .i64 h.qu], .int .i64 f, .int .i64 t] w fun e w' => e = .returned (.int .i64 (Hs.pref h f t)) ∧ Below w.heap.size w w' := by
  have ew : IntKind.i64.wrap (f + t) = f + t := IntWalk.i64_in _ (by omega)
  have HB : Hid (Below w.heap.size w (w.alloc (.cells #[.int .i64 h.fl, .int .i64 h.gp, .int .i64 h.ln, .int .i64 h.rf, .int .i64 h.sp, .int .i64 h.pu, .int .i64 h.br, .int .i64 h.dr, .int .i64 h.lv, .int .i64 h.dO, .int .i64 h.ld, .int .i64 h.qu] 31))) := (Below.refl _ _).alloc (Nat.le_refl _) _
  unfold Hs.pref
  by_cases c : f + t < h.fl
  · rw [if_pos c]
    have d : decide (f + t < h.fl) = true := decide_eq_true c
    clear c
    go_enter Tryz.func54, Tryz.ntmps54
    go_wp2_with fail
    go_ret
    exact ⟨rfl, HB.out⟩
  · rw [if_neg c]
    have d : decide (f + t < h.fl) = false := decide_eq_false c
    clear c
    go_enter Tryz.func54, Tryz.ntmps54
    go_wp2_with fail
    go_ret
    exact ⟨rfl, HB.out⟩
theorem otherCar_any (c : Int) (h0 : 0 ≤ c) (h1 : c ≤ 1) (w : World) :
    Calls Tryz.prog 55 #[.int .i64 c] w fun e w' => e = .returned (.int .i64 (1 - c)) ∧ w' = w := by
  have ew : IntKind.i64.wrap (1 - c) = 1 - c := IntWalk.i64_in _ (by omega)
  go_enter Tryz.func55, Tryz.ntmps55
  go_wp2_with fail
  go_ret
  exact ⟨rfl, rfl⟩
set_option maxRecDepth 20000 in
set_option maxHeartbeats 16000000 in
theorem usersOf_any (h : Hs) (ds : List Dk) (da : Option Addr) (dc : Nat) (nx : Int) (ps : List Pe) (pa : Option Addr) (pc : Nat) (tk : Int) (rc : Bool) (sh ca : Int) (hlp : ps.length ≤ 1048576) (w : World) (hP : PIn w w.heap.size pa ps) :
    Calls Tryz.prog 56 #[.agg #[.int .i64 h.fl, .int .i64 h.gp, .int .i64 h.ln, .int .i64 h.rf, .int .i64 h.sp, .int .i64 h.pu, .int .i64 h.br, .int .i64 h.dr, .int .i64 h.lv, .int .i64 h.dO, .int .i64 h.ld, .int .i64 h.qu, .slice da ds.length dc, .int .i64 nx, .slice pa ps.length pc, .int .i64 tk, .bool rc], .int .i64 sh, .int .i64 ca] w fun e w' => e = .returned (.int .i64 (ps.countP (useB sh ca))) ∧ Below w.heap.size w w' := by
  have HP : Hid (PIn w w.heap.size pa ps) := hP
  have F0 : Hid (Blk (w.alloc (.cells #[.int .i64 h.fl, .int .i64 h.gp, .int .i64 h.ln, .int .i64 h.rf, .int .i64 h.sp, .int .i64 h.pu, .int .i64 h.br, .int .i64 h.dr, .int .i64 h.lv, .int .i64 h.dO, .int .i64 h.ld, .int .i64 h.qu, .slice da ds.length dc, .int .i64 nx, .slice pa ps.length pc, .int .i64 tk, .bool rc] 37)) w.heap.size (gvs h (.slice da ds.length dc) nx (.slice pa ps.length pc) tk rc)) := Blk.at_ w #[.int .i64 h.fl, .int .i64 h.gp, .int .i64 h.ln, .int .i64 h.rf, .int .i64 h.sp, .int .i64 h.pu, .int .i64 h.br, .int .i64 h.dr, .int .i64 h.lv, .int .i64 h.dO, .int .i64 h.ld, .int .i64 h.qu, .slice da ds.length dc, .int .i64 nx, .slice pa ps.length pc, .int .i64 tk, .bool rc] _ _ rfl
  have FB : Hid (Below w.heap.size w (w.alloc (.cells #[.int .i64 h.fl, .int .i64 h.gp, .int .i64 h.ln, .int .i64 h.rf, .int .i64 h.sp, .int .i64 h.pu, .int .i64 h.br, .int .i64 h.dr, .int .i64 h.lv, .int .i64 h.dO, .int .i64 h.ld, .int .i64 h.qu, .slice da ds.length dc, .int .i64 nx, .slice pa ps.length pc, .int .i64 tk, .bool rc] 37))) := (Below.refl _ _).alloc (Nat.le_refl _) _
  obtain ⟨W0, hW0⟩ : ∃ W0, W0 = (w.alloc (.cells #[.int .i64 h.fl, .int .i64 h.gp, .int .i64 h.ln, .int .i64 h.rf, .int .i64 h.sp, .int .i64 h.pu, .int .i64 h.br, .int .i64 h.dr, .int .i64 h.lv, .int .i64 h.dO, .int .i64 h.ld, .int .i64 h.qu, .slice da ds.length dc, .int .i64 nx, .slice pa ps.length pc, .int .i64 tk, .bool rc] 37)) := ⟨_, rfl⟩
  rw [← hW0] at F0 FB
  have HW0 : Hid (W0 = (w.alloc (.cells #[.int .i64 h.fl, .int .i64 h.gp, .int .i64 h.ln, .int .i64 h.rf, .int .i64 h.sp, .int .i64 h.pu, .int .i64 h.br, .int .i64 h.dr, .int .i64 h.lv, .int .i64 h.dO, .int .i64 h.ld, .int .i64 h.qu, .slice da ds.length dc, .int .i64 nx, .slice pa ps.length pc, .int .i64 tk, .bool rc] 37))) := hW0
  clear hW0 hP
  go_enter Tryz.func56, Tryz.ntmps56
  go_upto_region 1 with fail
  rw [← HW0.out]
  have x14 := F0.out.c 14 _ rfl
  go_wp2_with fail
  clear x14
  go_loopw [7, 14] (fun nn ii wr => ∃ i : Nat, ii = .int .i64 i ∧ i ≤ ps.length ∧ nn = .int .i64 ((ps.take i).countP (useB sh ca)) ∧ Blk wr w.heap.size (gvs h (.slice da ds.length dc) nx (.slice pa ps.length pc) tk rc) ∧ Below w.heap.size w wr) (fun _ ii _ => ps.length - (intOf ii).toNat)
  case atStart => exact ⟨0, rfl, by omega, by simp, F0.out, FB.out⟩
  case round =>
    obtain ⟨i, rfl, hi, rfl, h0, h1⟩ := hrel
    have F0 : Hid (Blk wr w.heap.size (gvs h (.slice da ds.length dc) nx (.slice pa ps.length pc) tk rc)) := h0
    have FB : Hid (Below w.heap.size w wr) := h1
    clear h0 h1
    by_cases hlt : i < ps.length
    · obtain ⟨p, hp⟩ : ∃ p, ps[i]? = some p := ⟨_, List.getElem?_eq_getElem hlt⟩
      rcases HP.out with hz | ⟨b, o, ha, hbl, h7⟩
      · rw [hz] at hlt; simp at hlt
      subst ha
      obtain ⟨c0, c1, c2, c3, c4, c5, c6⟩ := (h7 i p hp).below FB.out hbl
      have hc1 : (ps.take i).countP (useB sh ca) ≤ i := Nat.le_trans List.countP_le_length (by rw [List.length_take]; omega)
      have ew : IntKind.i64.wrap (((ps.take i).countP (useB sh ca) : Int) + 1) = ((ps.take i).countP (useB sh ca) : Int) + 1 := IntWalk.i64_in _ (by omega)
      have HE : Hid ((ps.take (i + 1)).countP (useB sh ca) = (ps.take i).countP (useB sh ca) + (if (isW 0 sh ca p || isW 1 sh ca p) = true then 1 else 0)) := countP_take hp
      clear h7 hp hc1
      go_upto_region 5 with fail
      obtain ⟨pb, hpb⟩ : ∃ pb, pb = wr.heap.size := ⟨_, rfl⟩
      obtain ⟨W1, hW1⟩ : ∃ W1, W1 = wr.alloc (.cells #[.int .i64 p.id, .int .i64 p.fr, .int .i64 p.tw, .int .i64 p.sh, .int .i64 p.ca, .int .i64 p.st, .int .i64 p.pl] 89) := ⟨_, rfl⟩
      have F0 : Hid (Blk W1 w.heap.size (gvs h (.slice da ds.length dc) nx (.slice (some ⟨b, o, none⟩) ps.length pc) tk rc)) := by rw [hW1]; exact F0.out.alloc _
      have FP : Hid (Blk W1 pb (cells7 p)) := by rw [hW1]; exact Blk.at_ wr #[.int .i64 p.id, .int .i64 p.fr, .int .i64 p.tw, .int .i64 p.sh, .int .i64 p.ca, .int .i64 p.st, .int .i64 p.pl] _ _ hpb
      have FB : Hid (Below w.heap.size w W1) := by rw [hW1]; exact FB.out.alloc FB.out.size _
      rw [← hW1, ← hpb]
      clear hW1 hpb c0 c1 c2 c3 c4 c5 c6
      have z0 := FP.out.c 0 _ rfl
      have z1 := FP.out.c 1 _ rfl
      have z2 := FP.out.c 2 _ rfl
      have z3 := FP.out.c 3 _ rfl
      have z4 := FP.out.c 4 _ rfl
      have z5 := FP.out.c 5 _ rfl
      have z6 := FP.out.c 6 _ rfl
      cases a1 : isW 0 sh ca p <;> cases a2 : isW 1 sh ca p
      all_goals
        rw [a1, a2] at HE
        go_wp2_with (go_at_call 88; refine (isWith_any p _ sh ca _).mono ?_; (first | rw [a1] | rw [a2]); rintro e w2 ⟨rfl, hb⟩; have F0 : Hid (Blk w2 w.heap.size (gvs h (.slice da ds.length dc) nx (.slice (some ⟨b, o, none⟩) ps.length pc) tk rc)) := F0.out.below hb F0.out.lt; have FP : Hid (Blk w2 pb (cells7 p)) := FP.out.below hb FP.out.lt; have FB : Hid (Below w.heap.size w w2) := FB.out.trans (hb.mono FB.out.size); clear hb; have z0 := FP.out.c 0 _ rfl; have z1 := FP.out.c 1 _ rfl; have z2 := FP.out.c 2 _ rfl; have z3 := FP.out.c 3 _ rfl; have z4 := FP.out.c 4 _ rfl; have z5 := FP.out.c 5 _ rfl; have z6 := FP.out.c 6 _ rfl)
        go_roundw
        case rel => exact ⟨i + 1, by simp, by omega, by rw [HE.out]; simp, F0.out, FB.out⟩
        case measure => simp [intOf]; omega
    · have ei : i = ps.length := by omega
      subst ei
      go_wp2_with fail
      go_ret
      exact ⟨ret_int (by rw [List.take_length]), FB.out⟩
theorem usersOf_b (h : Hs) (ds : List Dk) (da : Option Addr) (dc : Nat) (nx : Int) (ps : List Pe) (pa : Option Addr) (pc : Nat) (tk : Int) (rc : Bool) (sh ca : Int) (h0 : 0 ≤ sh) (hlp : ps.length ≤ 1048576) (w : World) (hP : PIn w w.heap.size pa ps) :
    Calls Tryz.prog 56 #[.agg #[.int .i64 h.fl, .int .i64 h.gp, .int .i64 h.ln, .int .i64 h.rf, .int .i64 h.sp, .int .i64 h.pu, .int .i64 h.br, .int .i64 h.dr, .int .i64 h.lv, .int .i64 h.dO, .int .i64 h.ld, .int .i64 h.qu, .slice da ds.length dc, .int .i64 nx, .slice pa ps.length pc, .int .i64 tk, .bool rc], .int .i64 sh, .int .i64 ca] w fun e w' => e = .returned (.int .i64 (busy ps sh ca)) ∧ Below w.heap.size w w' := by
  rw [← use_busy h0]
  exact usersOf_any h ds da dc nx ps pa pc tk rc sh ca hlp w hP
set_option maxRecDepth 20000 in
set_option maxHeartbeats 32000000 in
theorem implAssignCall_any (h : Hs) (ds : List Dk) (da : Option Addr) (dc : Nat) (nx : Int) (ps : List Pe) (pa : Option Addr) (pc : Nat) (tk : Int) (rc : Bool) (f t : Int) (hld : ds.length ≤ 1048576) (hlp : ps.length ≤ 1048576) (w : World) (hD : DIn w w.heap.size da ds) (hP : PIn w w.heap.size pa ps) :
    Calls Tryz.prog 24 #[.agg #[.int .i64 h.fl, .int .i64 h.gp, .int .i64 h.ln, .int .i64 h.rf, .int .i64 h.sp, .int .i64 h.pu, .int .i64 h.br, .int .i64 h.dr, .int .i64 h.lv, .int .i64 h.dO, .int .i64 h.ld, .int .i64 h.qu, .slice da ds.length dc, .int .i64 nx, .slice pa ps.length pc, .int .i64 tk, .bool rc], .int .i64 f, .int .i64 t] w fun e w' => e = .returned (.agg #[.int .i64 (Gr.asg ⟨h, ds, ⟨nx, ps⟩, tk, rc⟩ f t).1, .int .i64 (Gr.asg ⟨h, ds, ⟨nx, ps⟩, tk, rc⟩ f t).2.1, .int .i64 (Gr.asg ⟨h, ds, ⟨nx, ps⟩, tk, rc⟩ f t).2.2]) ∧ Below w.heap.size w w' := by
  have HD : Hid (DIn w w.heap.size da ds) := hD
  have HP : Hid (PIn w w.heap.size pa ps) := hP
  have F0 : Hid (Blk ((w.alloc (.cells #[.int .i64 h.fl, .int .i64 h.gp, .int .i64 h.ln, .int .i64 h.rf, .int .i64 h.sp, .int .i64 h.pu, .int .i64 h.br, .int .i64 h.dr, .int .i64 h.lv, .int .i64 h.dO, .int .i64 h.ld, .int .i64 h.qu, .slice da ds.length dc, .int .i64 nx, .slice pa ps.length pc, .int .i64 tk, .bool rc] 37)).alloc (.cells #[.int .i64 0, .int .i64 0, .int .i64 0] 61)) w.heap.size (gvs h (.slice da ds.length dc) nx (.slice pa ps.length pc) tk rc)) := (Blk.at_ w #[.int .i64 h.fl, .int .i64 h.gp, .int .i64 h.ln, .int .i64 h.rf, .int .i64 h.sp, .int .i64 h.pu, .int .i64 h.br, .int .i64 h.dr, .int .i64 h.lv, .int .i64 h.dO, .int .i64 h.ld, .int .i64 h.qu, .slice da ds.length dc, .int .i64 nx, .slice pa ps.length pc, .int .i64 tk, .bool rc] _ _ rfl).alloc _
  have F1 : Hid (Blk ((w.alloc (.cells #[.int .i64 h.fl, .int .i64 h.gp, .int .i64 h.ln, .int .i64 h.rf, .int .i64 h.sp, .int .i64 h.pu, .int .i64 h.br, .int .i64 h.dr, .int .i64 h.lv, .int .i64 h.dO, .int .i64 h.ld, .int .i64 h.qu, .slice da ds.length dc, .int .i64 nx, .slice pa ps.length pc, .int .i64 tk, .bool rc] 37)).alloc (.cells #[.int .i64 0, .int .i64 0, .int .i64 0] 61)) (w.heap.size + 1) [.int .i64 0, .int .i64 0, .int .i64 0]) := Blk.at_ _ #[.int .i64 0, .int .i64 0, .int .i64 0] _ _ (by simp)
  have FB : Hid (Below w.heap.size w ((w.alloc (.cells #[.int .i64 h.fl, .int .i64 h.gp, .int .i64 h.ln, .int .i64 h.rf, .int .i64 h.sp, .int .i64 h.pu, .int .i64 h.br, .int .i64 h.dr, .int .i64 h.lv, .int .i64 h.dO, .int .i64 h.ld, .int .i64 h.qu, .slice da ds.length dc, .int .i64 nx, .slice pa ps.length pc, .int .i64 tk, .bool rc] 37)).alloc (.cells #[.int .i64 0, .int .i64 0, .int .i64 0] 61))) := ((Below.refl _ _).alloc (Nat.le_refl _) _).alloc (by simp) _
  obtain ⟨W0, hW0⟩ : ∃ W0, W0 = ((w.alloc (.cells #[.int .i64 h.fl, .int .i64 h.gp, .int .i64 h.ln, .int .i64 h.rf, .int .i64 h.sp, .int .i64 h.pu, .int .i64 h.br, .int .i64 h.dr, .int .i64 h.lv, .int .i64 h.dO, .int .i64 h.ld, .int .i64 h.qu, .slice da ds.length dc, .int .i64 nx, .slice pa ps.length pc, .int .i64 tk, .bool rc] 37)).alloc (.cells #[.int .i64 0, .int .i64 0, .int .i64 0] 61)) := ⟨_, rfl⟩
  rw [← hW0] at F0 F1 FB
  have HW0 : Hid (W0 = ((w.alloc (.cells #[.int .i64 h.fl, .int .i64 h.gp, .int .i64 h.ln, .int .i64 h.rf, .int .i64 h.sp, .int .i64 h.pu, .int .i64 h.br, .int .i64 h.dr, .int .i64 h.lv, .int .i64 h.dO, .int .i64 h.ld, .int .i64 h.qu, .slice da ds.length dc, .int .i64 nx, .slice pa ps.length pc, .int .i64 tk, .bool rc] 37)).alloc (.cells #[.int .i64 0, .int .i64 0, .int .i64 0] 61))) := hW0
  clear hW0 hD hP
  obtain ⟨r, hr⟩ : ∃ r, Gr.asg ⟨h, ds, ⟨nx, ps⟩, tk, rc⟩ f t = r := ⟨_, rfl⟩
  rw [hr]
  have HR : Hid (Gr.asg ⟨h, ds, ⟨nx, ps⟩, tk, rc⟩ f t = r) := hr
  clear hr
  go_enter Tryz.func24, Tryz.ntmps24
  go_upto_region 1 with fail
  rw [← HW0.out]
  clear HW0
  go_cut [7] (fun c wx => c = .int .i64 (orI (Gr.fault ⟨h, ds, ⟨nx, ps⟩, tk, rc⟩) (Hs.call h f t)) ∧ Blk wx w.heap.size (gvs h (.slice da ds.length dc) nx (.slice pa ps.length pc) tk rc) ∧ Blk wx (w.heap.size + 1) [.int .i64 0, .int .i64 0, .int .i64 0] ∧ Below w.heap.size w wx)
  case first =>
    have F0 : Hid (Blk W0.drew w.heap.size (gvs h (.slice da ds.length dc) nx (.slice pa ps.length pc) tk rc)) := F0.out.below (Below.refl _ _).drew F0.out.lt
    have F1 : Hid (Blk W0.drew (w.heap.size + 1) [.int .i64 0, .int .i64 0, .int .i64 0]) := F1.out.below (Below.refl _ _).drew F1.out.lt
    have FB : Hid (Below w.heap.size w W0.drew) := FB.out.drew
    refine wp_region_held_drew (S := (fun w'' => Blk w'' w.heap.size (gvs h (.slice da ds.length dc) nx (.slice pa ps.length pc) tk rc))) (by kernel_rfl) (by (try dsimp only); first | exact F0.out | go_keep) (fun hHeld => ?_)
    obtain ⟨v_1, hw1⟩ : ∃ v_1, v_1 = W0.drew := ⟨_, rfl⟩
    have F0 : Hid (Blk v_1 w.heap.size (gvs h (.slice da ds.length dc) nx (.slice pa ps.length pc) tk rc)) := by rw [hw1]; exact F0.out
    have F1 : Hid (Blk v_1 (w.heap.size + 1) [.int .i64 0, .int .i64 0, .int .i64 0]) := by rw [hw1]; exact F1.out
    have FB : Hid (Below w.heap.size w v_1) := by rw [hw1]; exact FB.out
    rw [← hw1] at hHeld ⊢
    clear hw1
    refine tkz 0 rfl ?_ (hy := Or.inl ⟨by kernel_rfl, fun wx hSw => exec_load_blk 37 _ Tryz.underlying37 (by kernel_rfl) rfl rfl hSw⟩)
    refine tkz 2 rfl ?_
    refine tkz 3 rfl ?_ (hy := Or.inl ⟨by kernel_rfl, by (intro wx hSw; have hq0_0 := hSw.c 0 _ rfl; have hq0_1 := hSw.c 1 _ rfl; have hq0_2 := hSw.c 2 _ rfl; have hq0_3 := hSw.c 3 _ rfl; have hq0_4 := hSw.c 4 _ rfl; have hq0_5 := hSw.c 5 _ rfl; have hq0_6 := hSw.c 6 _ rfl; have hq0_7 := hSw.c 7 _ rfl; have hq0_8 := hSw.c 8 _ rfl; have hq0_9 := hSw.c 9 _ rfl; have hq0_10 := hSw.c 10 _ rfl; have hq0_11 := hSw.c 11 _ rfl; (try dsimp only at hSw); go_simp <;> with_reducible rfl)⟩)
    refine tkz 4 rfl ?_
    refine tkz 5 rfl ?_
    refine wpAnyH_ready (rs := [1]) (by kernel_rfl) (by simp) ?_
    refine (AllReadyH.cons rfl (fun K hK => ?_) AllReadyH.nil)
    go_simp
    refine (implGroupFault_any h ds da dc nx ps pa pc tk rc hld hlp _ ((HD.out.below FB.out (Nat.le_refl _)).mono FB.out.size) ((HP.out.below FB.out (Nat.le_refl _)).mono FB.out.size)).mono ?_
    rintro e v_2 ⟨rfl, hb⟩
    have F0 : Hid (Blk v_2 w.heap.size (gvs h (.slice da ds.length dc) nx (.slice pa ps.length pc) tk rc)) := F0.out.below hb F0.out.lt
    have F1 : Hid (Blk v_2 (w.heap.size + 1) [.int .i64 0, .int .i64 0, .int .i64 0]) := F1.out.below hb F1.out.lt
    have FB : Hid (Below w.heap.size w v_2) := FB.out.trans (hb.mono FB.out.size)
    clear hb
    try dsimp only
    refine hK.out _ _ (by (try dsimp only); first | exact F0.out | go_keep) (fun hHeld => ?_)
    clear hK K
    try simp only [Act.put, List.getElem_toArray, List.getElem_cons_succ, List.getElem_cons_zero, List.setIfInBounds_toArray, List.set_cons_zero, List.set_cons_succ]
    refine wpAnyH_ready (rs := [6]) (by kernel_rfl) (by simp) ?_
    refine (AllReadyH.cons rfl (fun K hK => ?_) AllReadyH.nil)
    go_simp
    refine (implCallFault_any h f t _).mono ?_
    rintro e v_3 ⟨rfl, hb⟩
    have F0 : Hid (Blk v_3 w.heap.size (gvs h (.slice da ds.length dc) nx (.slice pa ps.length pc) tk rc)) := F0.out.below hb F0.out.lt
    have F1 : Hid (Blk v_3 (w.heap.size + 1) [.int .i64 0, .int .i64 0, .int .i64 0]) := F1.out.below hb F1.out.lt
    have FB : Hid (Below w.heap.size w v_3) := FB.out.trans (hb.mono FB.out.size)
    clear hb
    try dsimp only
    refine hK.out _ _ (by (try dsimp only); first | exact F0.out | go_keep) (fun hHeld => ?_)
    clear hK K
    try simp only [Act.put, List.getElem_toArray, List.getElem_cons_succ, List.getElem_cons_zero, List.setIfInBounds_toArray, List.set_cons_zero, List.set_cons_succ]
    refine wpAnyH_ready (rs := [7]) (by kernel_rfl) (by simp) ?_
    refine (AllReadyH.cons rfl (fun K hK => ?_) AllReadyH.nil)
    go_simp
    obtain ⟨lb0, hbb⟩ : ∃ lb0, lb0 = v_3.heap.size := ⟨_, rfl⟩
    obtain ⟨v_4, hw2⟩ : ∃ v_4, v_4 = v_3.alloc (.cells #[.int .i64 (Gr.fault ⟨h, ds, ⟨nx, ps⟩, tk, rc⟩), .int .i64 (Hs.call h f t)] 2) := ⟨_, rfl⟩
    have nlb0_0 := F0.out.lt
    rw [← hbb] at nlb0_0
    have nlb0_1 := F1.out.lt
    rw [← hbb] at nlb0_1
    have FL0 : Hid (Pr2 v_4 lb0 (Gr.fault ⟨h, ds, ⟨nx, ps⟩, tk, rc⟩) (Hs.call h f t)) := by rw [hw2]; exact Pr2.at_ v_3 _ _ _ lb0 hbb
    have F0 : Hid (Blk v_4 w.heap.size (gvs h (.slice da ds.length dc) nx (.slice pa ps.length pc) tk rc)) := by rw [hw2]; exact F0.out.alloc _
    have F1 : Hid (Blk v_4 (w.heap.size + 1) [.int .i64 0, .int .i64 0, .int .i64 0]) := by rw [hw2]; exact F1.out.alloc _
    have FB : Hid (Below w.heap.size w v_4) := by rw [hw2]; exact FB.out.alloc FB.out.size _
    rw [← hw2, ← hbb]
    clear hbb hw2
    refine hK.out _ _ (by (try dsimp only); first | exact F0.out | go_keep) (fun hHeld => ?_)
    clear hK K
    try simp only [Act.put, List.getElem_toArray, List.getElem_cons_succ, List.getElem_cons_zero, List.setIfInBounds_toArray, List.set_cons_zero, List.set_cons_succ]
    refine wpAnyH_ready (rs := [8]) (by kernel_rfl) (by simp) ?_
    refine (AllReadyH.cons rfl (fun K hK => ?_) AllReadyH.nil)
    go_simp
    refine (or_any (Gr.fault ⟨h, ds, ⟨nx, ps⟩, tk, rc⟩) (Hs.call h f t) _ _ FL0.out.c0 FL0.out.c1).mono ?_
    rintro e w_ ⟨rfl, hw⟩
    obtain rfl := hw.symm
    clear hw
    try dsimp only
    refine hK.out _ _ (by (try dsimp only); first | exact F0.out | go_keep) (fun hHeld => ?_)
    clear hK K
    try simp only [Act.put, List.getElem_toArray, List.getElem_cons_succ, List.getElem_cons_zero, List.setIfInBounds_toArray, List.set_cons_zero, List.set_cons_succ]
    refine tkz 9 rfl ?_
    refine wpAnyH_done (by kernel_rfl) ?_ _
    go_wp2_with fail
    go_meet
    case rel => exact ⟨rfl, F0.out, F1.out, FB.out⟩
  case rest =>
    obtain ⟨rfl, h0, h1, h2⟩ := hcut
    have F0 : Hid (Blk wc w.heap.size (gvs h (.slice da ds.length dc) nx (.slice pa ps.length pc) tk rc)) := h0
    have F1 : Hid (Blk wc (w.heap.size + 1) [.int .i64 0, .int .i64 0, .int .i64 0]) := h1
    have FB : Hid (Below w.heap.size w wc) := h2
    clear h0 h1 h2
    by_cases ko : orI (Gr.fault ⟨h, ds, ⟨nx, ps⟩, tk, rc⟩) (Hs.call h f t) = 0
    case neg =>
      obtain ⟨k, hk⟩ : ∃ k, orI (Gr.fault ⟨h, ds, ⟨nx, ps⟩, tk, rc⟩) (Hs.call h f t) = k := ⟨_, rfl⟩
      have e0 : r = (k, 0, 0) := by
        rw [← HR.out]
        unfold Gr.asg
        unfold orI at hk ko
        by_cases a : Gr.fault ⟨h, ds, ⟨nx, ps⟩, tk, rc⟩ = 0
        · rw [if_pos a] at hk ko ⊢
          dsimp only
          rw [if_neg ko, hk]
        · rw [if_neg a] at hk ⊢
          rw [hk]
      subst e0
      rw [hk] at ko ⊢
      have e1 : (k != 0) = true := by simpa using ko
      clear hk ko HR
      go_wp2_with (refine store_blk [.int .i64 k, .int .i64 0, .int .i64 0] 61 _ _ (by kernel_rfl) (by kernel_rfl) (by kernel_rfl) F1.out rfl rfl rfl rfl ?_)
      exact bodyPost_ret (v := .agg #[.int .i64 k, .int .i64 0, .int .i64 0]) ((F1.out.row [.int .i64 k, .int .i64 0, .int .i64 0]).res _ Tryz.results24 Tryz.underlying61 (by kernel_rfl) rfl) rfl ⟨rfl, below_row FB.out (by omega) _⟩
    have k1 : Gr.fault ⟨h, ds, ⟨nx, ps⟩, tk, rc⟩ = 0 := by
      unfold orI at ko
      by_cases a : Gr.fault ⟨h, ds, ⟨nx, ps⟩, tk, rc⟩ = 0
      · exact a
      · rw [if_neg a] at ko; exact ko
    have k2 : Hs.call h f t = 0 := by
      unfold orI at ko
      rw [if_pos k1] at ko
      exact ko
    rw [ko]
    have e0 : r = (0, asgK ps (Hs.pref h f t) ds.length 2) := by
      rw [← HR.out]
      unfold Gr.asg
      rw [if_pos k1]
      dsimp only
      rw [if_pos k2]
    obtain ⟨hf, -⟩ := Gr.fault_parts k1
    dsimp only at hf
    have oo := Hs.ok_of (Hs.fault_zero hf).1
    have fl2 := oo.fl2
    obtain ⟨⟨f0, f1⟩, t0, t1⟩ := call_parts hf k2
    obtain ⟨p, hp⟩ : ∃ p, Hs.pref h f t = p := ⟨_, rfl⟩
    rw [hp] at e0
    subst e0
    have HPF : Hid (Hs.pref h f t = p) := hp
    have p0 : 0 ≤ p ∧ p ≤ 1 := by rw [← hp]; unfold Hs.pref; split <;> omega
    have i0 : ∀ w : World, (Instr.index 109 (.agg #[.int .i64 p, .int .i64 (1 - p)]) (.int .i64 0)).run Tryz.prog w = .ok (.int .i64 p) w := fun w => by kernel_rfl
    have i1 : ∀ w : World, (Instr.index 109 (.agg #[.int .i64 p, .int .i64 (1 - p)]) (.int .i64 1)).run Tryz.prog w = .ok (.int .i64 (1 - p)) w := fun w => by kernel_rfl
    clear k1 k2 ko hf oo hp HR
    have x0 := F0.out.c 0 _ rfl
    have x1 := F0.out.c 1 _ rfl
    have x2 := F0.out.c 2 _ rfl
    have x3 := F0.out.c 3 _ rfl
    have x4 := F0.out.c 4 _ rfl
    have x5 := F0.out.c 5 _ rfl
    have x6 := F0.out.c 6 _ rfl
    have x7 := F0.out.c 7 _ rfl
    have x8 := F0.out.c 8 _ rfl
    have x9 := F0.out.c 9 _ rfl
    have x10 := F0.out.c 10 _ rfl
    have x11 := F0.out.c 11 _ rfl
    go_upto_region 5 with (go_at_call 54; refine (preferredCar_any h f t f0 (by omega) t0 (by omega) _).mono ?_; rw [HPF.out]; rintro e w2 ⟨rfl, hb⟩; have F0 : Hid (Blk w2 w.heap.size (gvs h (.slice da ds.length dc) nx (.slice pa ps.length pc) tk rc)) := F0.out.below hb F0.out.lt; have F1 : Hid (Blk w2 (w.heap.size + 1) [.int .i64 0, .int .i64 0, .int .i64 0]) := F1.out.below hb F1.out.lt; have FB : Hid (Below w.heap.size w w2) := FB.out.trans (hb.mono FB.out.size); clear hb)
    go_upto_region 6 with fail
    obtain ⟨eb, heb⟩ : ∃ eb, eb = w2.heap.size := ⟨_, rfl⟩
    obtain ⟨W3, hW3⟩ : ∃ W3, W3 = w2.alloc (.cells #[.int .i64 0, .int .i64 0, .int .i64 p] 61) := ⟨_, rfl⟩
    have l1 : w.heap.size + 1 < eb := by rw [heb]; exact F1.out.lt
    have F0 : Hid (Blk W3 w.heap.size (gvs h (.slice da ds.length dc) nx (.slice pa ps.length pc) tk rc)) := by rw [hW3]; exact F0.out.alloc _
    have F1 : Hid (Blk W3 (w.heap.size + 1) [.int .i64 0, .int .i64 0, .int .i64 0]) := by rw [hW3]; exact F1.out.alloc _
    have FE : Hid (Blk W3 eb [.int .i64 0, .int .i64 (asgK ps p ds.length 0).1, .int .i64 (asgK ps p ds.length 0).2]) := by rw [hW3]; exact Blk.at_ w2 #[.int .i64 0, .int .i64 0, .int .i64 p] _ _ heb
    have FB : Hid (Below w.heap.size w W3) := by rw [hW3]; exact FB.out.alloc FB.out.size _
    rw [← hW3, ← heb]
    clear hW3 heb x0 x1 x2 x3 x4 x5 x6 x7 x8 x9 x10 x11
    go_wp2_with (go_at_call 55; refine (otherCar_any p p0.1 p0.2 _).mono ?_; rintro e w' ⟨rfl, hw⟩; obtain rfl := hw.symm; clear hw)
    go_loopw [37] (fun kk wr => ∃ k : Nat, kk = .int .i64 k ∧ k ≤ 2 ∧ Blk wr eb [.int .i64 0, .int .i64 (asgK ps p ds.length k).1, .int .i64 (asgK ps p ds.length k).2] ∧ Blk wr w.heap.size (gvs h (.slice da ds.length dc) nx (.slice pa ps.length pc) tk rc) ∧ Blk wr (w.heap.size + 1) [.int .i64 0, .int .i64 0, .int .i64 0] ∧ Below w.heap.size w wr) (fun kk _ => 2 - (intOf kk).toNat)
    case atStart => exact ⟨0, rfl, by omega, FE.out, F0.out, F1.out, FB.out⟩
    case round =>
      obtain ⟨k, rfl, hk, he, h0, h1, h2⟩ := hrel
      have F0 : Hid (Blk wr w.heap.size (gvs h (.slice da ds.length dc) nx (.slice pa ps.length pc) tk rc)) := h0
      have F1 : Hid (Blk wr (w.heap.size + 1) [.int .i64 0, .int .i64 0, .int .i64 0]) := h1
      have FB : Hid (Below w.heap.size w wr) := h2
      clear h0 h1 h2 FE
      have kc : k = 0 ∨ k = 1 ∨ k = 2 := by omega
      rcases kc with q | q | q
      · subst q
        have FE : Hid (Blk wr eb [.int .i64 0, .int .i64 (asgRow ps p (0, p) 0).1, .int .i64 (asgRow ps p (0, p) 0).2]) := he
        have hb0 : (0 : Int) ≤ ((0 : Int), p).1 := Int.le_refl _
        clear he i1
        have x12 := F0.out.c 12 _ rfl
        go_wp2_with fail
        clear x12
        go_loopw [43] (fun ss wr => ∃ s : Nat, ss = .int .i64 s ∧ s ≤ ds.length ∧ Blk wr eb [.int .i64 0, .int .i64 (asgRow ps p (0, p) s).1, .int .i64 (asgRow ps p (0, p) s).2] ∧ Blk wr w.heap.size (gvs h (.slice da ds.length dc) nx (.slice pa ps.length pc) tk rc) ∧ Blk wr (w.heap.size + 1) [.int .i64 0, .int .i64 0, .int .i64 0] ∧ Below w.heap.size w wr) (fun ss _ => ds.length - (intOf ss).toNat)
        case atStart => exact ⟨0, rfl, by omega, FE.out, F0.out, F1.out, FB.out⟩
        case round =>
          obtain ⟨s, rfl, hs, he, h0, h1, h2⟩ := hrel
          have F0 : Hid (Blk wr w.heap.size (gvs h (.slice da ds.length dc) nx (.slice pa ps.length pc) tk rc)) := h0
          have F1 : Hid (Blk wr (w.heap.size + 1) [.int .i64 0, .int .i64 0, .int .i64 0]) := h1
          have FB : Hid (Below w.heap.size w wr) := h2
          clear h0 h1 h2
          by_cases hlt : s < ds.length
          · have xb := asgRow_bd ps p (0, p) hb0 s
            obtain ⟨x, hx⟩ : ∃ x, (asgRow ps p (0, p) s).1 = x := ⟨_, rfl⟩
            obtain ⟨y, hy⟩ : ∃ y, (asgRow ps p (0, p) s).2 = y := ⟨_, rfl⟩
            have HX := asgRow_next hx hy
            rw [hx] at xb
            rw [hx, hy] at he
            have FE : Hid (Blk wr eb [.int .i64 0, .int .i64 x, .int .i64 y]) := he
            clear hx hy he
            by_cases c : busy ps s p < busy ps x y
            · have lt : decide (busy ps s p < busy ps x y) = true := decide_eq_true c
              have HT : Hid ([Value.int .i64 0, .int .i64 (s : Int), .int .i64 p] = [.int .i64 0, .int .i64 (asgRow ps p (0, p) (s + 1)).1, .int .i64 (asgRow ps p (0, p) (s + 1)).2]) := by rw [HX, if_pos c]; exact rfl
              clear HX c
              go_wp2_with fail
              have F0 : Hid (Blk wr.drew w.heap.size (gvs h (.slice da ds.length dc) nx (.slice pa ps.length pc) tk rc)) := F0.out.below (Below.refl _ _).drew F0.out.lt
              have F1 : Hid (Blk wr.drew (w.heap.size + 1) [.int .i64 0, .int .i64 0, .int .i64 0]) := F1.out.below (Below.refl _ _).drew F1.out.lt
              have FE : Hid (Blk wr.drew eb [.int .i64 0, .int .i64 x, .int .i64 y]) := FE.out.below (Below.refl _ _).drew FE.out.lt
              have FB : Hid (Below w.heap.size w wr.drew) := FB.out.drew
              have e1_ := FE.out.c 1 _ rfl
              have e2_ := FE.out.c 2 _ rfl
              refine wp_region_held_drew (S := (fun w'' => Blk w'' w.heap.size (gvs h (.slice da ds.length dc) nx (.slice pa ps.length pc) tk rc) ∧ w''.cell? ⟨eb, 1, none⟩ = some (.int .i64 x) ∧ w''.cell? ⟨eb, 2, none⟩ = some (.int .i64 y))) (by kernel_rfl) (by (try dsimp only); first | exact ⟨F0.out, e1_, e2_⟩ | go_keep) (fun hHeld => ?_)
              obtain ⟨v_5, hw1⟩ : ∃ v_5, v_5 = wr.drew := ⟨_, rfl⟩
              have F0 : Hid (Blk v_5 w.heap.size (gvs h (.slice da ds.length dc) nx (.slice pa ps.length pc) tk rc)) := by rw [hw1]; exact F0.out
              have F1 : Hid (Blk v_5 (w.heap.size + 1) [.int .i64 0, .int .i64 0, .int .i64 0]) := by rw [hw1]; exact F1.out
              have FE : Hid (Blk v_5 eb [.int .i64 0, .int .i64 x, .int .i64 y]) := by rw [hw1]; exact FE.out
              have FB : Hid (Below w.heap.size w v_5) := by rw [hw1]; exact FB.out
              rw [← hw1] at hHeld ⊢
              clear hw1
              have e1_ := FE.out.c 1 _ rfl
              have e2_ := FE.out.c 2 _ rfl
              refine tkz 0 rfl ?_ (hy := Or.inl ⟨by kernel_rfl, fun wx hSw => exec_load_blk 37 _ Tryz.underlying37 (by kernel_rfl) rfl rfl hSw.1⟩)
              refine tkz 1 rfl ?_
              refine tkz 2 rfl ?_
              refine tkz 4 rfl ?_ (hy := Or.inl ⟨by kernel_rfl, fun wx hSw => exec_load_blk 37 _ Tryz.underlying37 (by kernel_rfl) rfl rfl hSw.1⟩)
              refine tkz 5 rfl ?_
              refine tkz 6 rfl ?_
              refine tkz 7 rfl ?_
              refine tkz 8 rfl ?_
              refine wpAnyH_ready (rs := [3]) (by kernel_rfl) (by simp) ?_
              refine (AllReadyH.cons rfl (fun K hK => ?_) AllReadyH.nil)
              go_simp
              refine (usersOf_b h ds da dc nx ps pa pc tk rc _ _ (by first | exact xb | omega) hlp _ ((HP.out.below FB.out (Nat.le_refl _)).mono FB.out.size)).mono ?_
              rintro e v_6 ⟨rfl, hb⟩
              have F0 : Hid (Blk v_6 w.heap.size (gvs h (.slice da ds.length dc) nx (.slice pa ps.length pc) tk rc)) := F0.out.below hb F0.out.lt
              have F1 : Hid (Blk v_6 (w.heap.size + 1) [.int .i64 0, .int .i64 0, .int .i64 0]) := F1.out.below hb F1.out.lt
              have FE : Hid (Blk v_6 eb [.int .i64 0, .int .i64 x, .int .i64 y]) := FE.out.below hb FE.out.lt
              have FB : Hid (Below w.heap.size w v_6) := FB.out.trans (hb.mono FB.out.size)
              clear hb
              have e1_ := FE.out.c 1 _ rfl
              have e2_ := FE.out.c 2 _ rfl
              try dsimp only
              refine hK.out _ _ (by (try dsimp only); first | exact ⟨F0.out, e1_, e2_⟩ | go_keep) (fun hHeld => ?_)
              clear hK K
              try simp only [Act.put, List.getElem_toArray, List.getElem_cons_succ, List.getElem_cons_zero, List.setIfInBounds_toArray, List.set_cons_zero, List.set_cons_succ]
              refine wpAnyH_ready (rs := [9]) (by kernel_rfl) (by simp) ?_
              refine (AllReadyH.cons rfl (fun K hK => ?_) AllReadyH.nil)
              go_simp
              refine (usersOf_b h ds da dc nx ps pa pc tk rc _ _ (by first | exact xb | omega) hlp _ ((HP.out.below FB.out (Nat.le_refl _)).mono FB.out.size)).mono ?_
              rintro e v_7 ⟨rfl, hb⟩
              have F0 : Hid (Blk v_7 w.heap.size (gvs h (.slice da ds.length dc) nx (.slice pa ps.length pc) tk rc)) := F0.out.below hb F0.out.lt
              have F1 : Hid (Blk v_7 (w.heap.size + 1) [.int .i64 0, .int .i64 0, .int .i64 0]) := F1.out.below hb F1.out.lt
              have FE : Hid (Blk v_7 eb [.int .i64 0, .int .i64 x, .int .i64 y]) := FE.out.below hb FE.out.lt
              have FB : Hid (Below w.heap.size w v_7) := FB.out.trans (hb.mono FB.out.size)
              clear hb
              have e1_ := FE.out.c 1 _ rfl
              have e2_ := FE.out.c 2 _ rfl
              try dsimp only
              refine hK.out _ _ (by (try dsimp only); first | exact ⟨F0.out, e1_, e2_⟩ | go_keep) (fun hHeld => ?_)
              clear hK K
              try simp only [Act.put, List.getElem_toArray, List.getElem_cons_succ, List.getElem_cons_zero, List.setIfInBounds_toArray, List.set_cons_zero, List.set_cons_succ]
              refine tkz 10 rfl ?_
              refine wpAnyH_done (by kernel_rfl) ?_ _
              go_wp2_with (refine store_blk [.int .i64 0, .int .i64 (s : Int), .int .i64 p] 61 _ _ (by kernel_rfl) (by kernel_rfl) (by kernel_rfl) FE.out rfl rfl rfl rfl ?_)
              go_roundw
              case rel => first | exact ⟨s + 1, by simp, by omega, HT.out ▸ FE.out.row [.int .i64 0, .int .i64 (s : Int), .int .i64 p], F0.out.row_other (by omega) _, F1.out.row_other (by omega) _, below_row FB.out (by omega) _⟩ | ((repeat apply Exists.intro); exact ⟨⟨s + 1, by simp, by omega, HT.out ▸ FE.out.row [.int .i64 0, .int .i64 (s : Int), .int .i64 p], F0.out.row_other (by omega) _, F1.out.row_other (by omega) _, below_row FB.out (by omega) _⟩, rfl⟩)
              case measure => simp [intOf]; omega
            · have lt : decide (busy ps s p < busy ps x y) = false := decide_eq_false c
              have HT : Hid ([Value.int .i64 0, .int .i64 x, .int .i64 y] = [.int .i64 0, .int .i64 (asgRow ps p (0, p) (s + 1)).1, .int .i64 (asgRow ps p (0, p) (s + 1)).2]) := by rw [HX, if_neg c]; exact rfl
              clear HX c
              go_wp2_with fail
              have F0 : Hid (Blk wr.drew w.heap.size (gvs h (.slice da ds.length dc) nx (.slice pa ps.length pc) tk rc)) := F0.out.below (Below.refl _ _).drew F0.out.lt
              have F1 : Hid (Blk wr.drew (w.heap.size + 1) [.int .i64 0, .int .i64 0, .int .i64 0]) := F1.out.below (Below.refl _ _).drew F1.out.lt
              have FE : Hid (Blk wr.drew eb [.int .i64 0, .int .i64 x, .int .i64 y]) := FE.out.below (Below.refl _ _).drew FE.out.lt
              have FB : Hid (Below w.heap.size w wr.drew) := FB.out.drew
              have e1_ := FE.out.c 1 _ rfl
              have e2_ := FE.out.c 2 _ rfl
              refine wp_region_held_drew (S := (fun w'' => Blk w'' w.heap.size (gvs h (.slice da ds.length dc) nx (.slice pa ps.length pc) tk rc) ∧ w''.cell? ⟨eb, 1, none⟩ = some (.int .i64 x) ∧ w''.cell? ⟨eb, 2, none⟩ = some (.int .i64 y))) (by kernel_rfl) (by (try dsimp only); first | exact ⟨F0.out, e1_, e2_⟩ | go_keep) (fun hHeld => ?_)
              obtain ⟨v_8, hw1⟩ : ∃ v_8, v_8 = wr.drew := ⟨_, rfl⟩
              have F0 : Hid (Blk v_8 w.heap.size (gvs h (.slice da ds.length dc) nx (.slice pa ps.length pc) tk rc)) := by rw [hw1]; exact F0.out
              have F1 : Hid (Blk v_8 (w.heap.size + 1) [.int .i64 0, .int .i64 0, .int .i64 0]) := by rw [hw1]; exact F1.out
              have FE : Hid (Blk v_8 eb [.int .i64 0, .int .i64 x, .int .i64 y]) := by rw [hw1]; exact FE.out
              have FB : Hid (Below w.heap.size w v_8) := by rw [hw1]; exact FB.out
              rw [← hw1] at hHeld ⊢
              clear hw1
              have e1_ := FE.out.c 1 _ rfl
              have e2_ := FE.out.c 2 _ rfl
              refine tkz 0 rfl ?_ (hy := Or.inl ⟨by kernel_rfl, fun wx hSw => exec_load_blk 37 _ Tryz.underlying37 (by kernel_rfl) rfl rfl hSw.1⟩)
              refine tkz 1 rfl ?_
              refine tkz 2 rfl ?_
              refine tkz 4 rfl ?_ (hy := Or.inl ⟨by kernel_rfl, fun wx hSw => exec_load_blk 37 _ Tryz.underlying37 (by kernel_rfl) rfl rfl hSw.1⟩)
              refine tkz 5 rfl ?_
              refine tkz 6 rfl ?_
              refine tkz 7 rfl ?_
              refine tkz 8 rfl ?_
              refine wpAnyH_ready (rs := [3]) (by kernel_rfl) (by simp) ?_
              refine (AllReadyH.cons rfl (fun K hK => ?_) AllReadyH.nil)
              go_simp
              refine (usersOf_b h ds da dc nx ps pa pc tk rc _ _ (by first | exact xb | omega) hlp _ ((HP.out.below FB.out (Nat.le_refl _)).mono FB.out.size)).mono ?_
              rintro e v_9 ⟨rfl, hb⟩
              have F0 : Hid (Blk v_9 w.heap.size (gvs h (.slice da ds.length dc) nx (.slice pa ps.length pc) tk rc)) := F0.out.below hb F0.out.lt
              have F1 : Hid (Blk v_9 (w.heap.size + 1) [.int .i64 0, .int .i64 0, .int .i64 0]) := F1.out.below hb F1.out.lt
              have FE : Hid (Blk v_9 eb [.int .i64 0, .int .i64 x, .int .i64 y]) := FE.out.below hb FE.out.lt
              have FB : Hid (Below w.heap.size w v_9) := FB.out.trans (hb.mono FB.out.size)
              clear hb
              have e1_ := FE.out.c 1 _ rfl
              have e2_ := FE.out.c 2 _ rfl
              try dsimp only
              refine hK.out _ _ (by (try dsimp only); first | exact ⟨F0.out, e1_, e2_⟩ | go_keep) (fun hHeld => ?_)
              clear hK K
              try simp only [Act.put, List.getElem_toArray, List.getElem_cons_succ, List.getElem_cons_zero, List.setIfInBounds_toArray, List.set_cons_zero, List.set_cons_succ]
              refine wpAnyH_ready (rs := [9]) (by kernel_rfl) (by simp) ?_
              refine (AllReadyH.cons rfl (fun K hK => ?_) AllReadyH.nil)
              go_simp
              refine (usersOf_b h ds da dc nx ps pa pc tk rc _ _ (by first | exact xb | omega) hlp _ ((HP.out.below FB.out (Nat.le_refl _)).mono FB.out.size)).mono ?_
              rintro e v_10 ⟨rfl, hb⟩
              have F0 : Hid (Blk v_10 w.heap.size (gvs h (.slice da ds.length dc) nx (.slice pa ps.length pc) tk rc)) := F0.out.below hb F0.out.lt
              have F1 : Hid (Blk v_10 (w.heap.size + 1) [.int .i64 0, .int .i64 0, .int .i64 0]) := F1.out.below hb F1.out.lt
              have FE : Hid (Blk v_10 eb [.int .i64 0, .int .i64 x, .int .i64 y]) := FE.out.below hb FE.out.lt
              have FB : Hid (Below w.heap.size w v_10) := FB.out.trans (hb.mono FB.out.size)
              clear hb
              have e1_ := FE.out.c 1 _ rfl
              have e2_ := FE.out.c 2 _ rfl
              try dsimp only
              refine hK.out _ _ (by (try dsimp only); first | exact ⟨F0.out, e1_, e2_⟩ | go_keep) (fun hHeld => ?_)
              clear hK K
              try simp only [Act.put, List.getElem_toArray, List.getElem_cons_succ, List.getElem_cons_zero, List.setIfInBounds_toArray, List.set_cons_zero, List.set_cons_succ]
              refine tkz 10 rfl ?_
              refine wpAnyH_done (by kernel_rfl) ?_ _
              go_wp2_with fail
              go_roundw
              case rel => first | exact ⟨s + 1, by simp, by omega, HT.out ▸ FE.out, F0.out, F1.out, FB.out⟩ | ((repeat apply Exists.intro); exact ⟨⟨s + 1, by simp, by omega, HT.out ▸ FE.out, F0.out, F1.out, FB.out⟩, rfl⟩)
              case measure => simp [intOf]; omega
          · have es : s = ds.length := by omega
            subst es
            go_wp2_with fail
            go_roundw
            case rel => exact ⟨1, by simp, by omega, he, F0.out, F1.out, FB.out⟩
            case measure => simp [intOf]
      · subst q
        have FE : Hid (Blk wr eb [.int .i64 0, .int .i64 (asgRow ps (1 - p) (asgRow ps p (0, p) ds.length) 0).1, .int .i64 (asgRow ps (1 - p) (asgRow ps p (0, p) ds.length) 0).2]) := he
        have hb0 : (0 : Int) ≤ (asgRow ps p (0, p) ds.length).1 := asgRow_bd ps p (0, p) (Int.le_refl _) _
        clear he i0
        have x12 := F0.out.c 12 _ rfl
        go_wp2_with fail
        clear x12
        go_loopw [43] (fun ss wr => ∃ s : Nat, ss = .int .i64 s ∧ s ≤ ds.length ∧ Blk wr eb [.int .i64 0, .int .i64 (asgRow ps (1 - p) (asgRow ps p (0, p) ds.length) s).1, .int .i64 (asgRow ps (1 - p) (asgRow ps p (0, p) ds.length) s).2] ∧ Blk wr w.heap.size (gvs h (.slice da ds.length dc) nx (.slice pa ps.length pc) tk rc) ∧ Blk wr (w.heap.size + 1) [.int .i64 0, .int .i64 0, .int .i64 0] ∧ Below w.heap.size w wr) (fun ss _ => ds.length - (intOf ss).toNat)
        case atStart => exact ⟨0, rfl, by omega, FE.out, F0.out, F1.out, FB.out⟩
        case round =>
          obtain ⟨s, rfl, hs, he, h0, h1, h2⟩ := hrel
          have F0 : Hid (Blk wr w.heap.size (gvs h (.slice da ds.length dc) nx (.slice pa ps.length pc) tk rc)) := h0
          have F1 : Hid (Blk wr (w.heap.size + 1) [.int .i64 0, .int .i64 0, .int .i64 0]) := h1
          have FB : Hid (Below w.heap.size w wr) := h2
          clear h0 h1 h2
          by_cases hlt : s < ds.length
          · have xb := asgRow_bd ps (1 - p) (asgRow ps p (0, p) ds.length) hb0 s
            obtain ⟨x, hx⟩ : ∃ x, (asgRow ps (1 - p) (asgRow ps p (0, p) ds.length) s).1 = x := ⟨_, rfl⟩
            obtain ⟨y, hy⟩ : ∃ y, (asgRow ps (1 - p) (asgRow ps p (0, p) ds.length) s).2 = y := ⟨_, rfl⟩
            have HX := asgRow_next hx hy
            rw [hx] at xb
            rw [hx, hy] at he
            have FE : Hid (Blk wr eb [.int .i64 0, .int .i64 x, .int .i64 y]) := he
            clear hx hy he
            by_cases c : busy ps s (1 - p) < busy ps x y
            · have lt : decide (busy ps s (1 - p) < busy ps x y) = true := decide_eq_true c
              have HT : Hid ([Value.int .i64 0, .int .i64 (s : Int), .int .i64 (1 - p)] = [.int .i64 0, .int .i64 (asgRow ps (1 - p) (asgRow ps p (0, p) ds.length) (s + 1)).1, .int .i64 (asgRow ps (1 - p) (asgRow ps p (0, p) ds.length) (s + 1)).2]) := by rw [HX, if_pos c]; exact rfl
              clear HX c
              go_wp2_with fail
              have F0 : Hid (Blk wr.drew w.heap.size (gvs h (.slice da ds.length dc) nx (.slice pa ps.length pc) tk rc)) := F0.out.below (Below.refl _ _).drew F0.out.lt
              have F1 : Hid (Blk wr.drew (w.heap.size + 1) [.int .i64 0, .int .i64 0, .int .i64 0]) := F1.out.below (Below.refl _ _).drew F1.out.lt
              have FE : Hid (Blk wr.drew eb [.int .i64 0, .int .i64 x, .int .i64 y]) := FE.out.below (Below.refl _ _).drew FE.out.lt
              have FB : Hid (Below w.heap.size w wr.drew) := FB.out.drew
              have e1_ := FE.out.c 1 _ rfl
              have e2_ := FE.out.c 2 _ rfl
              refine wp_region_held_drew (S := (fun w'' => Blk w'' w.heap.size (gvs h (.slice da ds.length dc) nx (.slice pa ps.length pc) tk rc) ∧ w''.cell? ⟨eb, 1, none⟩ = some (.int .i64 x) ∧ w''.cell? ⟨eb, 2, none⟩ = some (.int .i64 y))) (by kernel_rfl) (by (try dsimp only); first | exact ⟨F0.out, e1_, e2_⟩ | go_keep) (fun hHeld => ?_)
              obtain ⟨v_11, hw1⟩ : ∃ v_11, v_11 = wr.drew := ⟨_, rfl⟩
              have F0 : Hid (Blk v_11 w.heap.size (gvs h (.slice da ds.length dc) nx (.slice pa ps.length pc) tk rc)) := by rw [hw1]; exact F0.out
              have F1 : Hid (Blk v_11 (w.heap.size + 1) [.int .i64 0, .int .i64 0, .int .i64 0]) := by rw [hw1]; exact F1.out
              have FE : Hid (Blk v_11 eb [.int .i64 0, .int .i64 x, .int .i64 y]) := by rw [hw1]; exact FE.out
              have FB : Hid (Below w.heap.size w v_11) := by rw [hw1]; exact FB.out
              rw [← hw1] at hHeld ⊢
              clear hw1
              have e1_ := FE.out.c 1 _ rfl
              have e2_ := FE.out.c 2 _ rfl
              refine tkz 0 rfl ?_ (hy := Or.inl ⟨by kernel_rfl, fun wx hSw => exec_load_blk 37 _ Tryz.underlying37 (by kernel_rfl) rfl rfl hSw.1⟩)
              refine tkz 1 rfl ?_
              refine tkz 2 rfl ?_
              refine tkz 4 rfl ?_ (hy := Or.inl ⟨by kernel_rfl, fun wx hSw => exec_load_blk 37 _ Tryz.underlying37 (by kernel_rfl) rfl rfl hSw.1⟩)
              refine tkz 5 rfl ?_
              refine tkz 6 rfl ?_
              refine tkz 7 rfl ?_
              refine tkz 8 rfl ?_
              refine wpAnyH_ready (rs := [3]) (by kernel_rfl) (by simp) ?_
              refine (AllReadyH.cons rfl (fun K hK => ?_) AllReadyH.nil)
              go_simp
              refine (usersOf_b h ds da dc nx ps pa pc tk rc _ _ (by first | exact xb | omega) hlp _ ((HP.out.below FB.out (Nat.le_refl _)).mono FB.out.size)).mono ?_
              rintro e v_12 ⟨rfl, hb⟩
              have F0 : Hid (Blk v_12 w.heap.size (gvs h (.slice da ds.length dc) nx (.slice pa ps.length pc) tk rc)) := F0.out.below hb F0.out.lt
              have F1 : Hid (Blk v_12 (w.heap.size + 1) [.int .i64 0, .int .i64 0, .int .i64 0]) := F1.out.below hb F1.out.lt
              have FE : Hid (Blk v_12 eb [.int .i64 0, .int .i64 x, .int .i64 y]) := FE.out.below hb FE.out.lt
              have FB : Hid (Below w.heap.size w v_12) := FB.out.trans (hb.mono FB.out.size)
              clear hb
              have e1_ := FE.out.c 1 _ rfl
              have e2_ := FE.out.c 2 _ rfl
              try dsimp only
              refine hK.out _ _ (by (try dsimp only); first | exact ⟨F0.out, e1_, e2_⟩ | go_keep) (fun hHeld => ?_)
              clear hK K
              try simp only [Act.put, List.getElem_toArray, List.getElem_cons_succ, List.getElem_cons_zero, List.setIfInBounds_toArray, List.set_cons_zero, List.set_cons_succ]
              refine wpAnyH_ready (rs := [9]) (by kernel_rfl) (by simp) ?_
              refine (AllReadyH.cons rfl (fun K hK => ?_) AllReadyH.nil)
              go_simp
              refine (usersOf_b h ds da dc nx ps pa pc tk rc _ _ (by first | exact xb | omega) hlp _ ((HP.out.below FB.out (Nat.le_refl _)).mono FB.out.size)).mono ?_
              rintro e v_13 ⟨rfl, hb⟩
              have F0 : Hid (Blk v_13 w.heap.size (gvs h (.slice da ds.length dc) nx (.slice pa ps.length pc) tk rc)) := F0.out.below hb F0.out.lt
              have F1 : Hid (Blk v_13 (w.heap.size + 1) [.int .i64 0, .int .i64 0, .int .i64 0]) := F1.out.below hb F1.out.lt
              have FE : Hid (Blk v_13 eb [.int .i64 0, .int .i64 x, .int .i64 y]) := FE.out.below hb FE.out.lt
              have FB : Hid (Below w.heap.size w v_13) := FB.out.trans (hb.mono FB.out.size)
              clear hb
              have e1_ := FE.out.c 1 _ rfl
              have e2_ := FE.out.c 2 _ rfl
              try dsimp only
              refine hK.out _ _ (by (try dsimp only); first | exact ⟨F0.out, e1_, e2_⟩ | go_keep) (fun hHeld => ?_)
              clear hK K
              try simp only [Act.put, List.getElem_toArray, List.getElem_cons_succ, List.getElem_cons_zero, List.setIfInBounds_toArray, List.set_cons_zero, List.set_cons_succ]
              refine tkz 10 rfl ?_
              refine wpAnyH_done (by kernel_rfl) ?_ _
              go_wp2_with (refine store_blk [.int .i64 0, .int .i64 (s : Int), .int .i64 (1 - p)] 61 _ _ (by kernel_rfl) (by kernel_rfl) (by kernel_rfl) FE.out rfl rfl rfl rfl ?_)
              go_roundw
              case rel => first | exact ⟨s + 1, by simp, by omega, HT.out ▸ FE.out.row [.int .i64 0, .int .i64 (s : Int), .int .i64 (1 - p)], F0.out.row_other (by omega) _, F1.out.row_other (by omega) _, below_row FB.out (by omega) _⟩ | ((repeat apply Exists.intro); exact ⟨⟨s + 1, by simp, by omega, HT.out ▸ FE.out.row [.int .i64 0, .int .i64 (s : Int), .int .i64 (1 - p)], F0.out.row_other (by omega) _, F1.out.row_other (by omega) _, below_row FB.out (by omega) _⟩, rfl⟩)
              case measure => simp [intOf]; omega
            · have lt : decide (busy ps s (1 - p) < busy ps x y) = false := decide_eq_false c
              have HT : Hid ([Value.int .i64 0, .int .i64 x, .int .i64 y] = [.int .i64 0, .int .i64 (asgRow ps (1 - p) (asgRow ps p (0, p) ds.length) (s + 1)).1, .int .i64 (asgRow ps (1 - p) (asgRow ps p (0, p) ds.length) (s + 1)).2]) := by rw [HX, if_neg c]; exact rfl
              clear HX c
              go_wp2_with fail
              have F0 : Hid (Blk wr.drew w.heap.size (gvs h (.slice da ds.length dc) nx (.slice pa ps.length pc) tk rc)) := F0.out.below (Below.refl _ _).drew F0.out.lt
              have F1 : Hid (Blk wr.drew (w.heap.size + 1) [.int .i64 0, .int .i64 0, .int .i64 0]) := F1.out.below (Below.refl _ _).drew F1.out.lt
              have FE : Hid (Blk wr.drew eb [.int .i64 0, .int .i64 x, .int .i64 y]) := FE.out.below (Below.refl _ _).drew FE.out.lt
              have FB : Hid (Below w.heap.size w wr.drew) := FB.out.drew
              have e1_ := FE.out.c 1 _ rfl
              have e2_ := FE.out.c 2 _ rfl
              refine wp_region_held_drew (S := (fun w'' => Blk w'' w.heap.size (gvs h (.slice da ds.length dc) nx (.slice pa ps.length pc) tk rc) ∧ w''.cell? ⟨eb, 1, none⟩ = some (.int .i64 x) ∧ w''.cell? ⟨eb, 2, none⟩ = some (.int .i64 y))) (by kernel_rfl) (by (try dsimp only); first | exact ⟨F0.out, e1_, e2_⟩ | go_keep) (fun hHeld => ?_)
              obtain ⟨v_14, hw1⟩ : ∃ v_14, v_14 = wr.drew := ⟨_, rfl⟩
              have F0 : Hid (Blk v_14 w.heap.size (gvs h (.slice da ds.length dc) nx (.slice pa ps.length pc) tk rc)) := by rw [hw1]; exact F0.out
              have F1 : Hid (Blk v_14 (w.heap.size + 1) [.int .i64 0, .int .i64 0, .int .i64 0]) := by rw [hw1]; exact F1.out
              have FE : Hid (Blk v_14 eb [.int .i64 0, .int .i64 x, .int .i64 y]) := by rw [hw1]; exact FE.out
              have FB : Hid (Below w.heap.size w v_14) := by rw [hw1]; exact FB.out
              rw [← hw1] at hHeld ⊢
              clear hw1
              have e1_ := FE.out.c 1 _ rfl
              have e2_ := FE.out.c 2 _ rfl
              refine tkz 0 rfl ?_ (hy := Or.inl ⟨by kernel_rfl, fun wx hSw => exec_load_blk 37 _ Tryz.underlying37 (by kernel_rfl) rfl rfl hSw.1⟩)
              refine tkz 1 rfl ?_
              refine tkz 2 rfl ?_
              refine tkz 4 rfl ?_ (hy := Or.inl ⟨by kernel_rfl, fun wx hSw => exec_load_blk 37 _ Tryz.underlying37 (by kernel_rfl) rfl rfl hSw.1⟩)
              refine tkz 5 rfl ?_
              refine tkz 6 rfl ?_
              refine tkz 7 rfl ?_
              refine tkz 8 rfl ?_
              refine wpAnyH_ready (rs := [3]) (by kernel_rfl) (by simp) ?_
              refine (AllReadyH.cons rfl (fun K hK => ?_) AllReadyH.nil)
              go_simp
              refine (usersOf_b h ds da dc nx ps pa pc tk rc _ _ (by first | exact xb | omega) hlp _ ((HP.out.below FB.out (Nat.le_refl _)).mono FB.out.size)).mono ?_
              rintro e v_15 ⟨rfl, hb⟩
              have F0 : Hid (Blk v_15 w.heap.size (gvs h (.slice da ds.length dc) nx (.slice pa ps.length pc) tk rc)) := F0.out.below hb F0.out.lt
              have F1 : Hid (Blk v_15 (w.heap.size + 1) [.int .i64 0, .int .i64 0, .int .i64 0]) := F1.out.below hb F1.out.lt
              have FE : Hid (Blk v_15 eb [.int .i64 0, .int .i64 x, .int .i64 y]) := FE.out.below hb FE.out.lt
              have FB : Hid (Below w.heap.size w v_15) := FB.out.trans (hb.mono FB.out.size)
              clear hb
              have e1_ := FE.out.c 1 _ rfl
              have e2_ := FE.out.c 2 _ rfl
              try dsimp only
              refine hK.out _ _ (by (try dsimp only); first | exact ⟨F0.out, e1_, e2_⟩ | go_keep) (fun hHeld => ?_)
              clear hK K
              try simp only [Act.put, List.getElem_toArray, List.getElem_cons_succ, List.getElem_cons_zero, List.setIfInBounds_toArray, List.set_cons_zero, List.set_cons_succ]
              refine wpAnyH_ready (rs := [9]) (by kernel_rfl) (by simp) ?_
              refine (AllReadyH.cons rfl (fun K hK => ?_) AllReadyH.nil)
              go_simp
              refine (usersOf_b h ds da dc nx ps pa pc tk rc _ _ (by first | exact xb | omega) hlp _ ((HP.out.below FB.out (Nat.le_refl _)).mono FB.out.size)).mono ?_
              rintro e v_16 ⟨rfl, hb⟩
              have F0 : Hid (Blk v_16 w.heap.size (gvs h (.slice da ds.length dc) nx (.slice pa ps.length pc) tk rc)) := F0.out.below hb F0.out.lt
              have F1 : Hid (Blk v_16 (w.heap.size + 1) [.int .i64 0, .int .i64 0, .int .i64 0]) := F1.out.below hb F1.out.lt
              have FE : Hid (Blk v_16 eb [.int .i64 0, .int .i64 x, .int .i64 y]) := FE.out.below hb FE.out.lt
              have FB : Hid (Below w.heap.size w v_16) := FB.out.trans (hb.mono FB.out.size)
              clear hb
              have e1_ := FE.out.c 1 _ rfl
              have e2_ := FE.out.c 2 _ rfl
              try dsimp only
              refine hK.out _ _ (by (try dsimp only); first | exact ⟨F0.out, e1_, e2_⟩ | go_keep) (fun hHeld => ?_)
              clear hK K
              try simp only [Act.put, List.getElem_toArray, List.getElem_cons_succ, List.getElem_cons_zero, List.setIfInBounds_toArray, List.set_cons_zero, List.set_cons_succ]
              refine tkz 10 rfl ?_
              refine wpAnyH_done (by kernel_rfl) ?_ _
              go_wp2_with fail
              go_roundw
              case rel => first | exact ⟨s + 1, by simp, by omega, HT.out ▸ FE.out, F0.out, F1.out, FB.out⟩ | ((repeat apply Exists.intro); exact ⟨⟨s + 1, by simp, by omega, HT.out ▸ FE.out, F0.out, F1.out, FB.out⟩, rfl⟩)
              case measure => simp [intOf]; omega
          · have es : s = ds.length := by omega
            subst es
            go_wp2_with fail
            go_roundw
            case rel => exact ⟨2, by simp, by omega, he, F0.out, F1.out, FB.out⟩
            case measure => simp [intOf]
      · subst q
        have FE : Hid (Blk wr eb [.int .i64 0, .int .i64 (asgK ps p ds.length 2).1, .int .i64 (asgK ps p ds.length 2).2]) := he
        clear he
        go_wp2_with (first | (refine load_blk 61 _ Tryz.underlying61 (by kernel_rfl) FE.out rfl rfl rfl ?_) | (refine store_blk [.int .i64 0, .int .i64 (asgK ps p ds.length 2).1, .int .i64 (asgK ps p ds.length 2).2] 61 _ _ (by kernel_rfl) (by kernel_rfl) (by kernel_rfl) F1.out rfl rfl rfl rfl ?_))
        exact bodyPost_ret (v := .agg #[.int .i64 0, .int .i64 (asgK ps p ds.length 2).1, .int .i64 (asgK ps p ds.length 2).2]) ((F1.out.row [.int .i64 0, .int .i64 (asgK ps p ds.length 2).1, .int .i64 (asgK ps p ds.length 2).2]).res _ Tryz.results24 Tryz.underlying61 (by kernel_rfl) rfl) rfl ⟨rfl, below_row FB.out (by omega) _⟩
end Go.Proofs.YtdkikijnjkoddaaGreat
