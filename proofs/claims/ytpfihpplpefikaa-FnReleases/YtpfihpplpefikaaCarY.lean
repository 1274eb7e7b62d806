/-
  The command that the bytes draw: some command, and nothing that was there has turned.
-/
import Derived.Test.YtpfihpplpefikaaDrawT
import Derived.Deep.CutBlock
namespace Go.Proofs.Ytpfihpplpefikaa
open Go.RowKit Pl
set_option linter.unusedSimpArgs false
set_option linter.unusedVariables false

/-- A command, stored whole. -/
def putX (W : World) (b : Nat) (x : Cm) : World := ((W.setCell ⟨b, 0, none⟩ (.int .i64 x.push)).setCell ⟨b, 1, none⟩ (.bool x.brk)).setCell ⟨b, 2, none⟩ (.bool x.opn)
theorem XW.put {W : World} {b : Nat} {c : Cm} (a : XW W b c) (g : Cm) : XW (putX W b g) b g := ((a.set_push g.push).set_brk g.brk).set_opn g.opn
theorem SrcT.putX {w : World} {sb B : Nat} {a : Option Addr} {len cap T : Nat} (h : SrcT w sb B a len cap T) (b : Nat) (g : Cm) (hb : b ≠ sb) (hB : B ≤ b) : SrcT (putX w b g) sb B a len cap T := ((h.other b _ _ hb hB).other b _ _ hb hB).other b _ _ hb hB
theorem Keeps.putX {sb b : Nat} {a w : World} (h : Keeps sb a w) (hb : a.heap.size ≤ b) (g : Cm) : Keeps sb a (putX w b g) := ((h.own hb _ _).own hb _ _).own hb _ _

set_option maxRecDepth 20000 in
set_option maxHeartbeats 16000000 in
theorem l3Command_t (h : Hs) (o : h.Ok) (sb B : Nat) (a : Option Addr) (len cap T : Nat) (w : World) (hS : SrcT w sb B a len cap T) (hT : T ≤ 800000) :
    Calls Try.prog 54 #[.pointer (some ⟨sb, 0, none⟩), .agg #[.int .i64 h.fl, .int .i64 h.gp, .int .i64 h.ln, .int .i64 h.rf, .int .i64 h.sp, .int .i64 h.pu, .int .i64 h.br, .int .i64 h.dr, .int .i64 h.lv, .int .i64 h.dO, .int .i64 h.ld, .int .i64 h.qu]] w fun e w' => ∃ x : Cm, e = .returned (.agg #[.int .i64 x.push, .bool x.brk, .bool x.opn]) ∧ SrcT w' sb B a len cap (T + 10) ∧ Keeps sb w w' := by
  have p1 := o.pu1; have p2 := o.pu2; have s2 := o.sp2
  have hlt := hS.lt
  have hB := hS.hB
  have e1 : IntKind.i64.wrap (2 * h.pu) = 2 * h.pu := IntWalk.i64_in _ (by omega)
  have e2 : IntKind.i64.wrap (2 * h.pu + 1) = 2 * h.pu + 1 := IntWalk.i64_in _ (by omega)
  have e3 : IntKind.i64.wrap (-h.pu) = -h.pu := IntWalk.i64_in _ (by omega)
  clear o
  obtain ⟨W0, hW0⟩ : ∃ W0, W0 = (((w.alloc (.cells #[.int .i64 h.fl, .int .i64 h.gp, .int .i64 h.ln, .int .i64 h.rf, .int .i64 h.sp, .int .i64 h.pu, .int .i64 h.br, .int .i64 h.dr, .int .i64 h.lv, .int .i64 h.dO, .int .i64 h.ld, .int .i64 h.qu] 25)).alloc (.cells #[.int .i64 0, .bool false, .bool false] 58)).alloc (.cells #[.int .i64 0, .bool false, .bool false] 58)) := ⟨_, rfl⟩
  have F0 : Hid (HAt W0 w.heap.size h) := by rw [hW0]; exact ((HAt.at_ w h _ _ (by simp)).alloc _).alloc _
  have F1 : Hid (XW W0 (w.heap.size + 1) (⟨0, false, false⟩ : Cm)) := by rw [hW0]; exact (XW.at_ _ (⟨0, false, false⟩ : Cm) _ _ (by simp)).alloc _
  have F2 : Hid (XW W0 (w.heap.size + 2) (⟨0, false, false⟩ : Cm)) := by rw [hW0]; exact XW.at_ _ (⟨0, false, false⟩ : Cm) _ _ (by simp)
  have FS : Hid (SrcT W0 sb B a len cap T) := by rw [hW0]; exact ((hS.alloc _).alloc _).alloc _
  have FK : Hid (Keeps sb w W0) := by rw [hW0]; exact (((Keeps.refl _ _).alloc _).alloc _).alloc _
  have HW0 : Hid (W0 = (((w.alloc (.cells #[.int .i64 h.fl, .int .i64 h.gp, .int .i64 h.ln, .int .i64 h.rf, .int .i64 h.sp, .int .i64 h.pu, .int .i64 h.br, .int .i64 h.dr, .int .i64 h.lv, .int .i64 h.dO, .int .i64 h.ld, .int .i64 h.qu] 25)).alloc (.cells #[.int .i64 0, .bool false, .bool false] 58)).alloc (.cells #[.int .i64 0, .bool false, .bool false] 58))) := hW0
  clear hW0 hS
  go_enter Try.func54, Try.ntmps54
  go_wp2_with fail
  rw [← HW0.out]
  clear HW0
  refine (l1Next_t sb B a len cap _ _ _ FS.out (by omega) (by omega) (by omega)).mono ?_
  rintro e w2 ⟨v, rfl, hv, hs, hk⟩
  have F0 : Hid (HAt w2 w.heap.size h) := F0.out.keeps hk (by omega)
  have F1 : Hid (XW w2 (w.heap.size + 1) (⟨0, false, false⟩ : Cm)) := F1.out.keeps hk (by omega)
  have F2 : Hid (XW w2 (w.heap.size + 2) (⟨0, false, false⟩ : Cm)) := F2.out.keeps hk (by omega)
  have FS : Hid (SrcT w2 sb B a len cap (T + 1)) := hs
  have FK : Hid (Keeps sb w w2) := FK.out.trans hk
  clear hs hk
  go_upto_block 0 with fail
  go_cut [5] (fun p wx => p = .pointer (some ⟨w.heap.size + 2, 0, none⟩) ∧ ∃ x : Cm, XW wx (w.heap.size + 2) x ∧ HAt wx w.heap.size h ∧ XW wx (w.heap.size + 1) (⟨0, false, false⟩ : Cm) ∧ SrcT wx sb B a len cap (T + 3) ∧ Keeps sb w wx)
  case first =>
    obtain ⟨c0_, c1_, c2_, q0_, q1_, q2_⟩ := F2.out
    try dsimp only at c0_ c1_ c2_
    by_cases h2 : 2 ≤ v
    · have b0 : ((v : Int) == 0) = false := by simp; omega
      have b1 : ((v : Int) == 1) = false := by simp; omega
      clear c0_ c1_ c2_ q0_ q1_ q2_
      go_wp2_with fail
      have F0 : Hid (HAt w2.drew w.heap.size h) := F0.out.below (Below.refl _ _).drew F0.out.lt
      have F1 : Hid (XW w2.drew (w.heap.size + 1) (⟨0, false, false⟩ : Cm)) := F1.out.below (Below.refl _ _).drew F1.out.lt
      have F2 : Hid (XW w2.drew (w.heap.size + 2) (⟨0, false, false⟩ : Cm)) := F2.out.below (Below.refl _ _).drew F2.out.lt
      have FS : Hid (SrcT w2.drew sb B a len cap (T + 1)) := FS.out.drew
      have FK : Hid (Keeps sb w w2.drew) := FK.out.of_below (Below.refl _ _).drew
      obtain ⟨x0_0, x0_1, x0_2, x0_3, x0_4, x0_5, x0_6, x0_7, x0_8, x0_9, x0_10, x0_11⟩ := F0.out
      refine wp_region_held_drew (S := (fun w'' => w''.cell? ⟨w.heap.size, 0, none⟩ = some (.int .i64 h.fl) ∧ w''.cell? ⟨w.heap.size, 1, none⟩ = some (.int .i64 h.gp) ∧ w''.cell? ⟨w.heap.size, 2, none⟩ = some (.int .i64 h.ln) ∧ w''.cell? ⟨w.heap.size, 3, none⟩ = some (.int .i64 h.rf) ∧ w''.cell? ⟨w.heap.size, 4, none⟩ = some (.int .i64 h.sp) ∧ w''.cell? ⟨w.heap.size, 5, none⟩ = some (.int .i64 h.pu) ∧ w''.cell? ⟨w.heap.size, 6, none⟩ = some (.int .i64 h.br) ∧ w''.cell? ⟨w.heap.size, 7, none⟩ = some (.int .i64 h.dr) ∧ w''.cell? ⟨w.heap.size, 8, none⟩ = some (.int .i64 h.lv) ∧ w''.cell? ⟨w.heap.size, 9, none⟩ = some (.int .i64 h.dO) ∧ w''.cell? ⟨w.heap.size, 10, none⟩ = some (.int .i64 h.ld) ∧ w''.cell? ⟨w.heap.size, 11, none⟩ = some (.int .i64 h.qu))) (by kernel_rfl) (by (try dsimp only); first | exact ⟨x0_0, x0_1, x0_2, x0_3, x0_4, x0_5, x0_6, x0_7, x0_8, x0_9, x0_10, x0_11⟩ | go_keep) (fun hHeld => ?_)
      obtain ⟨v_1, hw1⟩ : ∃ v_1, v_1 = w2.drew := ⟨_, rfl⟩
      have F0 : Hid (HAt v_1 w.heap.size h) := by rw [hw1]; exact F0.out
      have F1 : Hid (XW v_1 (w.heap.size + 1) (⟨0, false, false⟩ : Cm)) := by rw [hw1]; exact F1.out
      have F2 : Hid (XW v_1 (w.heap.size + 2) (⟨0, false, false⟩ : Cm)) := by rw [hw1]; exact F2.out
      have FS : Hid (SrcT v_1 sb B a len cap (T + 1)) := by rw [hw1]; exact FS.out
      have FK : Hid (Keeps sb w v_1) := by rw [hw1]; exact FK.out
      rw [← hw1] at hHeld ⊢
      clear hw1
      obtain ⟨x0_0, x0_1, x0_2, x0_3, x0_4, x0_5, x0_6, x0_7, x0_8, x0_9, x0_10, x0_11⟩ := F0.out
      refine tkz 0 rfl ?_
      refine tkz 1 rfl ?_
      refine tkz 2 rfl ?_
      refine tkz 3 rfl ?_
      refine tkz 4 rfl ?_
      refine tkz 5 rfl ?_
      refine tkz 6 rfl ?_
      refine tkz 7 rfl ?_
      refine tkz 8 rfl ?_
      refine tkz 9 rfl ?_
      refine tkz 10 rfl ?_
      refine tkz 12 rfl ?_
      refine tkz 13 rfl ?_
      refine wpAnyH_ready (rs := [11]) (by kernel_rfl) (by simp) ?_
      refine (AllReadyH.cons rfl (fun K hK => ?_) AllReadyH.nil)
      go_simp
      refine (l1Next_t sb B a len cap _ _ _ FS.out (by omega) (by omega) (by omega)).mono ?_
      rintro e v_2 ⟨v2, rfl, hv2, hs, hk⟩
      have F0 : Hid (HAt v_2 w.heap.size h) := F0.out.keeps hk (by omega)
      have F1 : Hid (XW v_2 (w.heap.size + 1) (⟨0, false, false⟩ : Cm)) := F1.out.keeps hk (by omega)
      have F2 : Hid (XW v_2 (w.heap.size + 2) (⟨0, false, false⟩ : Cm)) := F2.out.keeps hk (by omega)
      have FS : Hid (SrcT v_2 sb B a len cap ((T + 1) + 1)) := hs
      have FK : Hid (Keeps sb w v_2) := FK.out.trans hk
      clear hs hk
      obtain ⟨x0_0, x0_1, x0_2, x0_3, x0_4, x0_5, x0_6, x0_7, x0_8, x0_9, x0_10, x0_11⟩ := F0.out
      have ev : IntKind.i64.wrap ((v2 : Int) - h.pu) = (v2 : Int) - h.pu := IntWalk.i64_in _ (by omega)
      try dsimp only
      refine hK.out _ _ (by (try dsimp only); first | exact ⟨x0_0, x0_1, x0_2, x0_3, x0_4, x0_5, x0_6, x0_7, x0_8, x0_9, x0_10, x0_11⟩ | go_keep) (fun hHeld => ?_)
      clear hK K
      try simp only [Act.put, List.getElem_toArray, List.getElem_cons_succ, List.getElem_cons_zero, List.setIfInBounds_toArray, List.set_cons_zero, List.set_cons_succ]
      refine tkz 14 rfl ?_
      refine wpAnyH_ready (rs := [15]) (by kernel_rfl) (by simp) ?_
      refine (AllReadyH.cons rfl (fun K hK => ?_) AllReadyH.nil)
      go_simp
      obtain ⟨lb0, hbb⟩ : ∃ lb0, lb0 = v_2.heap.size := ⟨_, rfl⟩
      obtain ⟨v_3, hw2⟩ : ∃ v_3, v_3 = v_2.alloc (.cells #[.int .i64 0, .int .i64 h.pu, .int .i64 (-h.pu), .int .i64 ((v2 : Int) - h.pu)] 2) := ⟨_, rfl⟩
      have nlb0_0 := F0.out.lt
      rw [← hbb] at nlb0_0
      have nlb0_1 := F1.out.lt
      rw [← hbb] at nlb0_1
      have nlb0_2 := F2.out.lt
      rw [← hbb] at nlb0_2
      have nlb0_s := FS.out.lt
      rw [← hbb] at nlb0_s
      have FL0 : Hid (LstAt v_3 lb0 [0, h.pu, (-h.pu), ((v2 : Int) - h.pu)]) := by rw [hw2]; exact LstAt.new v_2 [0, h.pu, (-h.pu), ((v2 : Int) - h.pu)] 2 lb0 hbb (by simp)
      have F0 : Hid (HAt v_3 w.heap.size h) := by rw [hw2]; exact F0.out.alloc _
      have F1 : Hid (XW v_3 (w.heap.size + 1) (⟨0, false, false⟩ : Cm)) := by rw [hw2]; exact F1.out.alloc _
      have F2 : Hid (XW v_3 (w.heap.size + 2) (⟨0, false, false⟩ : Cm)) := by rw [hw2]; exact F2.out.alloc _
      have FS : Hid (SrcT v_3 sb B a len cap ((T + 1) + 1)) := by rw [hw2]; exact FS.out.alloc _
      have FK : Hid (Keeps sb w v_3) := by rw [hw2]; exact FK.out.alloc _
      rw [← hw2, ← hbb]
      clear hbb hw2
      obtain ⟨x0_0, x0_1, x0_2, x0_3, x0_4, x0_5, x0_6, x0_7, x0_8, x0_9, x0_10, x0_11⟩ := F0.out
      refine hK.out _ _ (by (try dsimp only); first | exact ⟨x0_0, x0_1, x0_2, x0_3, x0_4, x0_5, x0_6, x0_7, x0_8, x0_9, x0_10, x0_11⟩ | go_keep) (fun hHeld => ?_)
      clear hK K
      try simp only [Act.put, List.getElem_toArray, List.getElem_cons_succ, List.getElem_cons_zero, List.setIfInBounds_toArray, List.set_cons_zero, List.set_cons_succ]
      refine wpAnyH_ready (rs := [16]) (by kernel_rfl) (by simp) ?_
      refine (AllReadyH.cons rfl (fun K hK => ?_) AllReadyH.nil)
      go_simp
      refine (l1Pick_t sb B lb0 [0, h.pu, -h.pu, (v2 : Int) - h.pu] (fun _ => True) (fun _ _ => trivial) a len cap _ _ FS.out (by omega) FL0.out (by simp) (by omega)).mono ?_
      rintro e v_4 ⟨y, rfl, -, hs, hk⟩
      have F0 : Hid (HAt v_4 w.heap.size h) := F0.out.keeps hk (by omega)
      have F1 : Hid (XW v_4 (w.heap.size + 1) (⟨0, false, false⟩ : Cm)) := F1.out.keeps hk (by omega)
      have F2 : Hid (XW v_4 (w.heap.size + 2) (⟨0, false, false⟩ : Cm)) := F2.out.keeps hk (by omega)
      have FS : Hid (SrcT v_4 sb B a len cap (((T + 1) + 1) + 1)) := hs
      have FK : Hid (Keeps sb w v_4) := FK.out.trans hk
      have FL0 : Hid (LstAt v_4 lb0 [0, h.pu, (-h.pu), ((v2 : Int) - h.pu)]) := FL0.out.keeps hk (by omega)
      clear hs hk
      obtain ⟨x0_0, x0_1, x0_2, x0_3, x0_4, x0_5, x0_6, x0_7, x0_8, x0_9, x0_10, x0_11⟩ := F0.out
      try dsimp only
      refine hK.out _ _ (by (try dsimp only); first | exact ⟨x0_0, x0_1, x0_2, x0_3, x0_4, x0_5, x0_6, x0_7, x0_8, x0_9, x0_10, x0_11⟩ | go_keep) (fun hHeld => ?_)
      clear hK K
      try simp only [Act.put, List.getElem_toArray, List.getElem_cons_succ, List.getElem_cons_zero, List.setIfInBounds_toArray, List.set_cons_zero, List.set_cons_succ]
      refine tkz 17 rfl ?_
      refine wpAnyH_ready (rs := [18]) (by kernel_rfl) (by simp) ?_
      refine (AllReadyH.cons rfl (fun K hK => ?_) AllReadyH.nil)
      have c0_ := F2.out.c0
      have q0_ := F2.out.f0
      go_simp
      refine hK.out _ _ (by (try dsimp only); first | ((repeat' apply And.intro) <;> ((repeat rw [cellS (by omega)]); assumption)) | go_keep) (fun hHeld => ?_)
      clear hK K
      try simp only [Act.put, List.getElem_toArray, List.getElem_cons_succ, List.getElem_cons_zero, List.setIfInBounds_toArray, List.set_cons_zero, List.set_cons_succ]
      refine wpAnyH_done (by kernel_rfl) ?_ _
      go_wp2_with fail
      go_meet
      case rel => exact ⟨rfl, _, F2.out.set_push _, F0.out.other (by omega), F1.out.other (by omega), (FS.out.other (w.heap.size + 2) _ _ (by omega) (by omega)).more (by omega), FK.out.own (by omega) _ _⟩
    · have hvs : v = 0 ∨ v = 1 := by omega
      clear hv h2
      rcases hvs with rfl | rfl
      · go_wp2
        go_meet
        case rel => exact ⟨rfl, _, F2.out.set_brk _, F0.out.other (by omega), F1.out.other (by omega), (FS.out.other (w.heap.size + 2) _ _ (by omega) (by omega)).more (by omega), FK.out.own (by omega) _ _⟩
      · go_wp2
        go_meet
        case rel => exact ⟨rfl, _, F2.out.set_opn _, F0.out.other (by omega), F1.out.other (by omega), (FS.out.other (w.heap.size + 2) _ _ (by omega) (by omega)).more (by omega), FK.out.own (by omega) _ _⟩
  case rest =>
    obtain ⟨rfl, x, hc, hh, hr, hs, hk⟩ := hcut
    have F0 : Hid (HAt wc w.heap.size h) := hh
    have F1 : Hid (XW wc (w.heap.size + 1) (⟨0, false, false⟩ : Cm)) := hr
    have F2 : Hid (XW wc (w.heap.size + 2) x) := hc
    have FS : Hid (SrcT wc sb B a len cap (T + 3)) := hs
    have FK : Hid (Keeps sb w wc) := hk
    clear hc hh hr hs hk
    go_wp2_with fail
    refine (l1Chance_t sb B a len cap _ _ _ FS.out (by omega) (by omega) (by omega)).mono ?_
    rintro e w4 ⟨vb, rfl, hs, hk⟩
    have F0 : Hid (HAt w4 w.heap.size h) := F0.out.keeps hk (by omega)
    have F1 : Hid (XW w4 (w.heap.size + 1) (⟨0, false, false⟩ : Cm)) := F1.out.keeps hk (by omega)
    have F2 : Hid (XW w4 (w.heap.size + 2) x) := F2.out.keeps hk (by omega)
    have FS : Hid (SrcT w4 sb B a len cap (T + 3 + 1)) := hs
    have FK : Hid (Keeps sb w w4) := FK.out.trans hk
    clear hs hk
    cases vb
    · obtain ⟨c0_, c1_, c2_, q0_, q1_, q2_⟩ := F2.out
      try dsimp only at c0_ c1_ c2_
      obtain ⟨r0_, r1_, r2_, s0_, s1_, s2_⟩ := F1.out
      try dsimp only at r0_ r1_ r2_
      go_wp2_with fail
      clear c0_ c1_ c2_ q0_ q1_ q2_
      clear r0_ r1_ r2_ s0_ s1_ s2_
      change bodyPost _ _ _ _ _ (putX w4 (w.heap.size + 1) x)
      obtain ⟨Wf, hWf⟩ : ∃ Wf, putX w4 (w.heap.size + 1) x = Wf := ⟨_, rfl⟩
      have HRf : XW Wf (w.heap.size + 1) x := hWf ▸ F1.out.put _
      have HSf : SrcT Wf sb B a len cap (T + 3 + 1) := hWf ▸ FS.out.putX _ _ (by omega) (by omega)
      have HKf : Keeps sb w Wf := hWf ▸ FK.out.putX (by omega) _
      rw [hWf]
      clear hWf
      obtain ⟨d0, d1, d2, e0, e1, e2⟩ := HRf
      try dsimp only at d0 d1 d2
      exact bodyPost_ret (v := .agg #[.int .i64 (x).push, .bool (x).brk, .bool (x).opn]) (by simp [results, Try.results54, go_sem, d0, d1, d2]) rfl ⟨x, rfl, HSf.more (by omega), HKf⟩
    · obtain ⟨c0_, c1_, c2_, q0_, q1_, q2_⟩ := F2.out
      obtain ⟨x0_0, x0_1, x0_2, x0_3, x0_4, x0_5, x0_6, x0_7, x0_8, x0_9, x0_10, x0_11⟩ := F0.out
      go_wp2_with fail
      clear c0_ c1_ c2_ q0_ q1_ q2_
      clear x0_0 x0_1 x0_2 x0_3 x0_4 x0_5 x0_6 x0_7 x0_8 x0_9 x0_10 x0_11
      obtain ⟨w5, hw5⟩ : ∃ w5, w5 = w4.setCell ⟨w.heap.size + 2, 1, none⟩ (.bool true) := ⟨_, rfl⟩
      have hzw5 : w5.heap.size = w4.heap.size := by rw [hw5]; simp [World.setCell]
      have F0 : Hid (HAt w5 w.heap.size h) := by rw [hw5]; exact F0.out.other (by omega)
      have F1 : Hid (XW w5 (w.heap.size + 1) (⟨0, false, false⟩ : Cm)) := by rw [hw5]; exact F1.out.other (by omega)
      have F2 : Hid (XW w5 (w.heap.size + 2) (⟨x.push, true, x.opn⟩ : Cm)) := by rw [hw5]; exact F2.out.set_brk _
      have FS : Hid (SrcT w5 sb B a len cap (T + 3 + 1)) := by rw [hw5]; exact FS.out.other (w.heap.size + 2) _ _ (by omega) (by omega)
      have FK : Hid (Keeps sb w w5) := by rw [hw5]; exact FK.out.own (by omega) _ _
      rw [← hw5]
      clear hw5
      refine (l1Pick_at_t sb B 2 [_, _, _] a len cap _ _ _ (by omega) FS.out (by omega) (by simp) (by simp)).mono ?_
      rintro e w6 ⟨y, rfl, hs, hk⟩
      have F0 : Hid (HAt w6 w.heap.size h) := F0.out.keeps hk (by omega)
      have F1 : Hid (XW w6 (w.heap.size + 1) (⟨0, false, false⟩ : Cm)) := F1.out.keeps hk (by omega)
      have F2 : Hid (XW w6 (w.heap.size + 2) (⟨x.push, true, x.opn⟩ : Cm)) := F2.out.keeps hk (by omega)
      have FS : Hid (SrcT w6 sb B a len cap (T + 3 + 1 + 1)) := hs
      have FK : Hid (Keeps sb w w6) := FK.out.trans hk
      clear hs hk
      obtain ⟨c0_, c1_, c2_, q0_, q1_, q2_⟩ := F2.out
      try dsimp only at c0_ c1_ c2_
      go_wp2_with fail
      clear c0_ c1_ c2_ q0_ q1_ q2_
      obtain ⟨w7, hw7⟩ : ∃ w7, w7 = w6.setCell ⟨w.heap.size + 2, 0, none⟩ (.int .i64 y) := ⟨_, rfl⟩
      have hzw7 : w7.heap.size = w6.heap.size := by rw [hw7]; simp [World.setCell]
      have F0 : Hid (HAt w7 w.heap.size h) := by rw [hw7]; exact F0.out.other (by omega)
      have F1 : Hid (XW w7 (w.heap.size + 1) (⟨0, false, false⟩ : Cm)) := by rw [hw7]; exact F1.out.other (by omega)
      have F2 : Hid (XW w7 (w.heap.size + 2) (⟨y, true, x.opn⟩ : Cm)) := by rw [hw7]; exact F2.out.set_push _
      have FS : Hid (SrcT w7 sb B a len cap (T + 3 + 1 + 1)) := by rw [hw7]; exact FS.out.other (w.heap.size + 2) _ _ (by omega) (by omega)
      have FK : Hid (Keeps sb w w7) := by rw [hw7]; exact FK.out.own (by omega) _ _
      rw [← hw7]
      clear hw7
      refine (l1Chance_t sb B a len cap _ _ _ FS.out (by omega) (by omega) (by omega)).mono ?_
      rintro e w8 ⟨vo, rfl, hs, hk⟩
      have F0 : Hid (HAt w8 w.heap.size h) := F0.out.keeps hk (by omega)
      have F1 : Hid (XW w8 (w.heap.size + 1) (⟨0, false, false⟩ : Cm)) := F1.out.keeps hk (by omega)
      have F2 : Hid (XW w8 (w.heap.size + 2) (⟨y, true, x.opn⟩ : Cm)) := F2.out.keeps hk (by omega)
      have FS : Hid (SrcT w8 sb B a len cap (T + 3 + 1 + 1 + 1)) := hs
      have FK : Hid (Keeps sb w w8) := FK.out.trans hk
      clear hs hk
      obtain ⟨c0_, c1_, c2_, q0_, q1_, q2_⟩ := F2.out
      try dsimp only at c0_ c1_ c2_
      obtain ⟨r0_, r1_, r2_, s0_, s1_, s2_⟩ := F1.out
      try dsimp only at r0_ r1_ r2_
      go_wp2_with fail
      clear c0_ c1_ c2_ q0_ q1_ q2_
      clear r0_ r1_ r2_ s0_ s1_ s2_
      obtain ⟨w9, hw9⟩ : ∃ w9, w9 = w8.setCell ⟨w.heap.size + 2, 2, none⟩ (.bool vo) := ⟨_, rfl⟩
      have hzw9 : w9.heap.size = w8.heap.size := by rw [hw9]; simp [World.setCell]
      have F0 : Hid (HAt w9 w.heap.size h) := by rw [hw9]; exact F0.out.other (by omega)
      have F1 : Hid (XW w9 (w.heap.size + 1) (⟨0, false, false⟩ : Cm)) := by rw [hw9]; exact F1.out.other (by omega)
      have F2 : Hid (XW w9 (w.heap.size + 2) (⟨y, true, vo⟩ : Cm)) := by rw [hw9]; exact F2.out.set_opn _
      have FS : Hid (SrcT w9 sb B a len cap (T + 3 + 1 + 1 + 1)) := by rw [hw9]; exact FS.out.other (w.heap.size + 2) _ _ (by omega) (by omega)
      have FK : Hid (Keeps sb w w9) := by rw [hw9]; exact FK.out.own (by omega) _ _
      rw [← hw9]
      clear hw9
      change bodyPost _ _ _ _ _ (putX w9 (w.heap.size + 1) (⟨y, true, vo⟩ : Cm))
      obtain ⟨Wf, hWf⟩ : ∃ Wf, putX w9 (w.heap.size + 1) (⟨y, true, vo⟩ : Cm) = Wf := ⟨_, rfl⟩
      have HRf : XW Wf (w.heap.size + 1) (⟨y, true, vo⟩ : Cm) := hWf ▸ F1.out.put _
      have HSf : SrcT Wf sb B a len cap (T + 3 + 1 + 1 + 1) := hWf ▸ FS.out.putX _ _ (by omega) (by omega)
      have HKf : Keeps sb w Wf := hWf ▸ FK.out.putX (by omega) _
      rw [hWf]
      clear hWf
      obtain ⟨d0, d1, d2, e0, e1, e2⟩ := HRf
      try dsimp only at d0 d1 d2
      exact bodyPost_ret (v := .agg #[.int .i64 ((⟨y, true, vo⟩ : Cm)).push, .bool ((⟨y, true, vo⟩ : Cm)).brk, .bool ((⟨y, true, vo⟩ : Cm)).opn]) (by simp [results, Try.results54, go_sem, d0, d1, d2]) rfl ⟨(⟨y, true, vo⟩ : Cm), rfl, HSf.more (by omega), HKf⟩
end Go.Proofs.Ytpfihpplpefikaa
