/-
  The place in the shaft and the car that the bytes draw.
-/
import Derived.Test.YtgdhbkgpjeedhaaHouseD
import Derived.Test.YtgdhbkgpjeedhaaHouseP
import Derived.Test.YtgdhbkgpjeedhaaHouseN
import Derived.Test.YtgdhbkgpjeedhaaFnd
namespace Go.Proofs.Ytgdhbkgpjeedhaa
open Go.RowKit Pl
set_option linter.unusedSimpArgs false

theorem HAt.keeps {W w : World} {b sb : Nat} {h : Hs} (a : HAt W b h) (hk : Keeps sb W w) (hne : b ≠ sb) : HAt w b h :=
  ⟨(hk.cell (p := ⟨b, 0, none⟩) a.lt hne).trans a.c0, (hk.cell (p := ⟨b, 1, none⟩) a.lt hne).trans a.c1, (hk.cell (p := ⟨b, 2, none⟩) a.lt hne).trans a.c2, (hk.cell (p := ⟨b, 3, none⟩) a.lt hne).trans a.c3, (hk.cell (p := ⟨b, 4, none⟩) a.lt hne).trans a.c4, (hk.cell (p := ⟨b, 5, none⟩) a.lt hne).trans a.c5, (hk.cell (p := ⟨b, 6, none⟩) a.lt hne).trans a.c6, (hk.cell (p := ⟨b, 7, none⟩) a.lt hne).trans a.c7, (hk.cell (p := ⟨b, 8, none⟩) a.lt hne).trans a.c8, (hk.cell (p := ⟨b, 9, none⟩) a.lt hne).trans a.c9, (hk.cell (p := ⟨b, 10, none⟩) a.lt hne).trans a.c10, (hk.cell (p := ⟨b, 11, none⟩) a.lt hne).trans a.c11⟩
theorem CW.keeps {W w : World} {b sb : Nat} {c : Cs} (a : CW W b c) (hk : Keeps sb W w) (hne : b ≠ sb) : CW w b c :=
  a.of (fun o => hk.cell (p := ⟨b, o, none⟩) a.lt hne) (fun o => World.frozen?_of_block (w := W) (a := ⟨b, o, none⟩) (hk.block b a.lt hne))
theorem R3.keeps {W w : World} {b sb : Nat} (a : R3 W b) (hk : Keeps sb W w) (hne : b ≠ sb) : R3 w b :=
  a.of (fun o => hk.cell (p := ⟨b, o, none⟩) a.lt hne) (fun o => World.frozen?_of_block (w := W) (a := ⟨b, o, none⟩) (hk.block b a.lt hne))
theorem XW.keeps {W w : World} {b sb : Nat} {x : Cm} (a : XW W b x) (hk : Keeps sb W w) (hne : b ≠ sb) : XW w b x :=
  a.of (fun o => hk.cell (p := ⟨b, o, none⟩) a.lt hne) (fun o => World.frozen?_of_block (w := W) (a := ⟨b, o, none⟩) (hk.block b a.lt hne))

set_option maxHeartbeats 8000000 in
theorem l2Pos_src (h : Hs) (o : h.Ok) (sb B : Nat) (a : Option Addr) (len cap t : Nat) (w : World) (hS : Src w sb B a len cap t) (ht : t ≤ 900000) :
    Calls Try.prog 57 #[.pointer (some ⟨sb, 0, none⟩), .agg #[.int .i64 h.fl, .int .i64 h.gp, .int .i64 h.ln, .int .i64 h.rf, .int .i64 h.sp, .int .i64 h.pu, .int .i64 h.br, .int .i64 h.dr, .int .i64 h.lv, .int .i64 h.dO, .int .i64 h.ld, .int .i64 h.qu]] w fun e w' => ∃ v : Int, ∃ t', e = .returned (.int .i64 v) ∧ t' ≤ t + 20 ∧ Src w' sb B a len cap t' ∧ Keeps sb w w' := by
  have f1 := o.fl1; have f2 := o.fl2
  have en := o.ends
  have hlt := hS.lt
  have e1 : IntKind.i64.wrap (h.fl + 2) = h.fl + 2 := IntWalk.i64_in _ (by omega)
  have e2 : IntKind.i64.wrap (h.high - h.low) = h.high - h.low := IntWalk.i64_in _ (by omega)
  have e3 : IntKind.i64.wrap (h.high - h.low + 1) = h.high - h.low + 1 := IntWalk.i64_in _ (by omega)
  have HO : Hid h.Ok := o
  have HS : Hid (Src (w.alloc (.cells #[.int .i64 h.fl, .int .i64 h.gp, .int .i64 h.ln, .int .i64 h.rf, .int .i64 h.sp, .int .i64 h.pu, .int .i64 h.br, .int .i64 h.dr, .int .i64 h.lv, .int .i64 h.dO, .int .i64 h.ld, .int .i64 h.qu] 25)).drew sb B a len cap t) := (hS.alloc _).below (Below.refl _ _).drew
  have HK : Hid (Keeps sb w (w.alloc (.cells #[.int .i64 h.fl, .int .i64 h.gp, .int .i64 h.ln, .int .i64 h.rf, .int .i64 h.sp, .int .i64 h.pu, .int .i64 h.br, .int .i64 h.dr, .int .i64 h.lv, .int .i64 h.dO, .int .i64 h.ld, .int .i64 h.qu] 25)).drew) := ((Keeps.refl _ _).alloc _).of_below (Below.refl _ _).drew
  have HH : Hid (HAt (w.alloc (.cells #[.int .i64 h.fl, .int .i64 h.gp, .int .i64 h.ln, .int .i64 h.rf, .int .i64 h.sp, .int .i64 h.pu, .int .i64 h.br, .int .i64 h.dr, .int .i64 h.lv, .int .i64 h.dO, .int .i64 h.ld, .int .i64 h.qu] 25)).drew w.heap.size h) := (HAt.new w h _).drew
  clear o hS
  go_enter Try.func57, Try.ntmps57
  go_wp2_with fail
  refine wp_region_held_drew (S := (fun w'' => w''.cell? ⟨w.heap.size, 0, none⟩ = some (.int .i64 h.fl) ∧ w''.cell? ⟨w.heap.size, 1, none⟩ = some (.int .i64 h.gp) ∧ w''.cell? ⟨w.heap.size, 2, none⟩ = some (.int .i64 h.ln) ∧ w''.cell? ⟨w.heap.size, 3, none⟩ = some (.int .i64 h.rf) ∧ w''.cell? ⟨w.heap.size, 4, none⟩ = some (.int .i64 h.sp) ∧ w''.cell? ⟨w.heap.size, 5, none⟩ = some (.int .i64 h.pu) ∧ w''.cell? ⟨w.heap.size, 6, none⟩ = some (.int .i64 h.br) ∧ w''.cell? ⟨w.heap.size, 7, none⟩ = some (.int .i64 h.dr) ∧ w''.cell? ⟨w.heap.size, 8, none⟩ = some (.int .i64 h.lv) ∧ w''.cell? ⟨w.heap.size, 9, none⟩ = some (.int .i64 h.dO) ∧ w''.cell? ⟨w.heap.size, 10, none⟩ = some (.int .i64 h.ld) ∧ w''.cell? ⟨w.heap.size, 11, none⟩ = some (.int .i64 h.qu))) (by kernel_rfl) (by (try dsimp only); first | exact ⟨x0_0, x0_1, x0_2, x0_3, x0_4, x0_5, x0_6, x0_7, x0_8, x0_9, x0_10, x0_11⟩ | go_keep) (fun hHeld => ?_)
  refine tkz 0 rfl ?_
  refine tkz 1 rfl ?_
  refine tkz 2 rfl ?_
  refine tkz 3 rfl ?_
  refine tkz 4 rfl ?_
  refine tkz 5 rfl ?_
  refine tkz 9 rfl ?_
  refine tkz 10 rfl ?_
  refine tkz 11 rfl ?_
  refine tkz 12 rfl ?_
  refine tkz 13 rfl ?_
  refine tkz 17 rfl ?_
  refine tkz 21 rfl ?_
  refine tkz 23 rfl ?_
  refine tkz 24 rfl ?_
  refine tkz 26 rfl ?_
  refine wpAnyH_ready (rs := [6]) (by kernel_rfl) (by simp) ?_
  refine AllReadyH.cons rfl (fun K hK => ?_) AllReadyH.nil
  go_simp
  refine (l1Next_src sb B a len cap _ _ _ HS.out (by omega) (by omega) (by omega)).mono ?_
  rintro e w1 ⟨v, rfl, hv, hs, hk⟩
  have HS : Hid (Src w1 sb B a len cap _) := hs
  have HK : Hid (Keeps sb w w1) := HK.out.trans hk
  have HH : Hid (HAt w1 w.heap.size h) := HH.out.keeps hk (by omega)
  obtain ⟨x0_0, x0_1, x0_2, x0_3, x0_4, x0_5, x0_6, x0_7, x0_8, x0_9, x0_10, x0_11⟩ := HH.out
  clear hs hk
  have ev : IntKind.i64.wrap ((v : Int) - 1) = (v : Int) - 1 := IntWalk.i64_in _ (by omega)
  try go_wp2_with fail
  refine hK.out _ _ (by (try dsimp only); go_keep) (fun hHeld => ?_)
  clear hK K
  try simp only [Act.put, List.getElem_toArray, List.getElem_cons_succ, List.getElem_cons_zero, List.setIfInBounds_toArray, List.set_cons_zero, List.set_cons_succ]
  refine tkz 7 rfl ?_
  refine wpAnyH_ready (rs := [8]) (by kernel_rfl) (by simp) ?_
  refine AllReadyH.cons rfl (fun K hK => ?_) AllReadyH.nil
  go_simp
  refine (specLevel_below h HO.out _ (by omega) (by omega) _).mono ?_
  rintro e w1 ⟨rfl, hb⟩
  have HS : Hid (Src w1 sb B a len cap _) := HS.out.below hb
  have HK : Hid (Keeps sb w w1) := HK.out.of_below hb
  have HH : Hid (HAt w1 w.heap.size h) := HH.out.below hb HH.out.lt
  obtain ⟨x0_0, x0_1, x0_2, x0_3, x0_4, x0_5, x0_6, x0_7, x0_8, x0_9, x0_10, x0_11⟩ := HH.out
  clear hb
  try go_wp2_with fail
  refine hK.out _ _ (by (try dsimp only); go_keep) (fun hHeld => ?_)
  clear hK K
  try simp only [Act.put, List.getElem_toArray, List.getElem_cons_succ, List.getElem_cons_zero, List.setIfInBounds_toArray, List.set_cons_zero, List.set_cons_succ]
  refine wpAnyH_ready (rs := [14]) (by kernel_rfl) (by simp) ?_
  refine AllReadyH.cons rfl (fun K hK => ?_) AllReadyH.nil
  go_simp
  refine (l1Next_src sb B a len cap _ _ _ HS.out (by omega) (by omega) (by omega)).mono ?_
  rintro e w1 ⟨v, rfl, hv, hs, hk⟩
  have HS : Hid (Src w1 sb B a len cap _) := hs
  have HK : Hid (Keeps sb w w1) := HK.out.trans hk
  have HH : Hid (HAt w1 w.heap.size h) := HH.out.keeps hk (by omega)
  obtain ⟨x0_0, x0_1, x0_2, x0_3, x0_4, x0_5, x0_6, x0_7, x0_8, x0_9, x0_10, x0_11⟩ := HH.out
  clear hs hk
  have ev : IntKind.i64.wrap ((v : Int) - 1) = (v : Int) - 1 := IntWalk.i64_in _ (by omega)
  try go_wp2_with fail
  refine hK.out _ _ (by (try dsimp only); go_keep) (fun hHeld => ?_)
  clear hK K
  try simp only [Act.put, List.getElem_toArray, List.getElem_cons_succ, List.getElem_cons_zero, List.setIfInBounds_toArray, List.set_cons_zero, List.set_cons_succ]
  refine tkz 15 rfl ?_
  refine wpAnyH_ready (rs := [16]) (by kernel_rfl) (by simp) ?_
  refine AllReadyH.cons rfl (fun K hK => ?_) AllReadyH.nil
  go_simp
  refine (specLevel_below h HO.out _ (by omega) (by omega) _).mono ?_
  rintro e w1 ⟨rfl, hb⟩
  have HS : Hid (Src w1 sb B a len cap _) := HS.out.below hb
  have HK : Hid (Keeps sb w w1) := HK.out.of_below hb
  have HH : Hid (HAt w1 w.heap.size h) := HH.out.below hb HH.out.lt
  obtain ⟨x0_0, x0_1, x0_2, x0_3, x0_4, x0_5, x0_6, x0_7, x0_8, x0_9, x0_10, x0_11⟩ := HH.out
  clear hb
  obtain ⟨lb1, lb2⟩ := HO.out.level_bd ((v : Int) - 1) (by omega) (by omega)
  obtain ⟨L, hL⟩ : ∃ L, h.level ((v : Int) - 1) = L := ⟨_, rfl⟩
  rw [hL] at lb1 lb2 ⊢
  clear hL
  try go_wp2_with fail
  refine hK.out _ _ (by (try dsimp only); go_keep) (fun hHeld => ?_)
  clear hK K
  try simp only [Act.put, List.getElem_toArray, List.getElem_cons_succ, List.getElem_cons_zero, List.setIfInBounds_toArray, List.set_cons_zero, List.set_cons_succ]
  refine wpAnyH_ready (rs := [18]) (by kernel_rfl) (by simp) ?_
  refine AllReadyH.cons rfl (fun K hK => ?_) AllReadyH.nil
  go_simp
  refine (l1Next_src sb B a len cap _ _ _ HS.out (by omega) (by omega) (by omega)).mono ?_
  rintro e w1 ⟨v, rfl, hv, hs, hk⟩
  have HS : Hid (Src w1 sb B a len cap _) := hs
  have HK : Hid (Keeps sb w w1) := HK.out.trans hk
  have HH : Hid (HAt w1 w.heap.size h) := HH.out.keeps hk (by omega)
  obtain ⟨x0_0, x0_1, x0_2, x0_3, x0_4, x0_5, x0_6, x0_7, x0_8, x0_9, x0_10, x0_11⟩ := HH.out
  clear hs hk
  have ea : IntKind.i64.wrap (L + (v : Int)) = L + (v : Int) := IntWalk.i64_in _ (by omega)
  have eb : IntKind.i64.wrap (L + (v : Int) - 20) = L + (v : Int) - 20 := IntWalk.i64_in _ (by omega)
  try go_wp2_with fail
  refine hK.out _ _ (by (try dsimp only); go_keep) (fun hHeld => ?_)
  clear hK K
  try simp only [Act.put, List.getElem_toArray, List.getElem_cons_succ, List.getElem_cons_zero, List.setIfInBounds_toArray, List.set_cons_zero, List.set_cons_succ]
  refine tkz 19 rfl ?_
  refine tkz 20 rfl ?_
  refine wpAnyH_ready (rs := [22]) (by kernel_rfl) (by simp) ?_
  refine AllReadyH.cons rfl (fun K hK => ?_) AllReadyH.nil
  go_simp
  refine (specLow_below h HO.out _).mono ?_
  rintro e w1 ⟨rfl, hb⟩
  have HS : Hid (Src w1 sb B a len cap _) := HS.out.below hb
  have HK : Hid (Keeps sb w w1) := HK.out.of_below hb
  have HH : Hid (HAt w1 w.heap.size h) := HH.out.below hb HH.out.lt
  obtain ⟨x0_0, x0_1, x0_2, x0_3, x0_4, x0_5, x0_6, x0_7, x0_8, x0_9, x0_10, x0_11⟩ := HH.out
  clear hb
  try go_wp2_with fail
  refine hK.out _ _ (by (try dsimp only); go_keep) (fun hHeld => ?_)
  clear hK K
  try simp only [Act.put, List.getElem_toArray, List.getElem_cons_succ, List.getElem_cons_zero, List.setIfInBounds_toArray, List.set_cons_zero, List.set_cons_succ]
  refine wpAnyH_ready (rs := [25]) (by kernel_rfl) (by simp) ?_
  refine AllReadyH.cons rfl (fun K hK => ?_) AllReadyH.nil
  go_simp
  refine (specHigh_below h HO.out _).mono ?_
  rintro e w1 ⟨rfl, hb⟩
  have HS : Hid (Src w1 sb B a len cap _) := HS.out.below hb
  have HK : Hid (Keeps sb w w1) := HK.out.of_below hb
  have HH : Hid (HAt w1 w.heap.size h) := HH.out.below hb HH.out.lt
  obtain ⟨x0_0, x0_1, x0_2, x0_3, x0_4, x0_5, x0_6, x0_7, x0_8, x0_9, x0_10, x0_11⟩ := HH.out
  clear hb
  try go_wp2_with fail
  refine hK.out _ _ (by (try dsimp only); go_keep) (fun hHeld => ?_)
  clear hK K
  try simp only [Act.put, List.getElem_toArray, List.getElem_cons_succ, List.getElem_cons_zero, List.setIfInBounds_toArray, List.set_cons_zero, List.set_cons_succ]
  refine wpAnyH_ready (rs := [27]) (by kernel_rfl) (by simp) ?_
  refine AllReadyH.cons rfl (fun K hK => ?_) AllReadyH.nil
  go_simp
  refine (specLow_below h HO.out _).mono ?_
  rintro e w1 ⟨rfl, hb⟩
  have HS : Hid (Src w1 sb B a len cap _) := HS.out.below hb
  have HK : Hid (Keeps sb w w1) := HK.out.of_below hb
  have HH : Hid (HAt w1 w.heap.size h) := HH.out.below hb HH.out.lt
  obtain ⟨x0_0, x0_1, x0_2, x0_3, x0_4, x0_5, x0_6, x0_7, x0_8, x0_9, x0_10, x0_11⟩ := HH.out
  clear hb
  try go_wp2_with fail
  refine hK.out _ _ (by (try dsimp only); go_keep) (fun hHeld => ?_)
  clear hK K
  try simp only [Act.put, List.getElem_toArray, List.getElem_cons_succ, List.getElem_cons_zero, List.setIfInBounds_toArray, List.set_cons_zero, List.set_cons_succ]
  refine tkz 28 rfl ?_
  refine tkz 29 rfl ?_
  refine wpAnyH_ready (rs := [30]) (by kernel_rfl) (by simp) ?_
  refine AllReadyH.cons rfl (fun K hK => ?_) AllReadyH.nil
  go_simp
  refine (l1Next_src sb B a len cap _ _ _ HS.out (by omega) (by omega) (by omega)).mono ?_
  rintro e w1 ⟨v, rfl, hv, hs, hk⟩
  have HS : Hid (Src w1 sb B a len cap _) := hs
  have HK : Hid (Keeps sb w w1) := HK.out.trans hk
  have HH : Hid (HAt w1 w.heap.size h) := HH.out.keeps hk (by omega)
  obtain ⟨x0_0, x0_1, x0_2, x0_3, x0_4, x0_5, x0_6, x0_7, x0_8, x0_9, x0_10, x0_11⟩ := HH.out
  clear hs hk
  have ec : IntKind.i64.wrap (h.low + (v : Int)) = h.low + (v : Int) := IntWalk.i64_in _ (by omega)
  try go_wp2_with fail
  refine hK.out _ _ (by (try dsimp only); go_keep) (fun hHeld => ?_)
  clear hK K
  try simp only [Act.put, List.getElem_toArray, List.getElem_cons_succ, List.getElem_cons_zero, List.setIfInBounds_toArray, List.set_cons_zero, List.set_cons_succ]
  refine tkz 31 rfl ?_
  refine wpAnyH_ready (rs := [32]) (by kernel_rfl) (by simp) ?_
  refine AllReadyH.cons rfl (fun K hK => ?_) AllReadyH.nil
  go_simp
  refine hK.out _ _ (by (try dsimp only); go_keep) (fun hHeld => ?_)
  clear hK K
  try simp only [Act.put, List.getElem_toArray, List.getElem_cons_succ, List.getElem_cons_zero, List.setIfInBounds_toArray, List.set_cons_zero, List.set_cons_succ]
  refine wpAnyH_ready (rs := [33]) (by kernel_rfl) (by simp) ?_
  refine AllReadyH.cons rfl (fun K hK => ?_) AllReadyH.nil
  go_simp
  refine (l1Pick_at sb B 2 [_, _, _] (fun _ => True) (fun _ _ => trivial) a len cap _ _ _ (by simp) HS.out (by omega) (by simp) (by simp)).mono ?_
  rintro e w1 ⟨x, rfl, -, hs, hk⟩
  have HS : Hid (Src w1 sb B a len cap _) := hs
  have HK : Hid (Keeps sb w w1) := HK.out.trans hk
  have HH : Hid (HAt w1 w.heap.size h) := HH.out.keeps hk (by omega)
  obtain ⟨x0_0, x0_1, x0_2, x0_3, x0_4, x0_5, x0_6, x0_7, x0_8, x0_9, x0_10, x0_11⟩ := HH.out
  clear hs hk
  try go_wp2_with fail
  refine hK.out _ _ (by (try dsimp only); go_keep) (fun hHeld => ?_)
  clear hK K
  try simp only [Act.put, List.getElem_toArray, List.getElem_cons_succ, List.getElem_cons_zero, List.setIfInBounds_toArray, List.set_cons_zero, List.set_cons_succ]
  refine tkz 34 rfl ?_
  refine wpAnyH_done (by kernel_rfl) ?_ _
  go_wp2
  go_ret
  exact ⟨x, _, rfl, (by omega), HS.out, HK.out⟩
end Go.Proofs.Ytgdhbkgpjeedhaa
