/-
  Trips, as the model has them.
-/
import Derived.Test.YthfnphbgjfcdaaaFlyR
import Derived.Test.YthfnphbgjfcdaaaFlyS
import Derived.Test.YthfnphbgjfcdaaaIntA
import Derived.Test.YthfnphbgjfcdaaaFnd
import Derived.Deep.DeepCutAuto
namespace Go.Proofs.Ythfnphbgjfcdaaa
open Go.RowKit Pl
set_option linter.unusedSimpArgs false
set_option linter.unusedVariables false

structure OneF (w : World) (g i : Nat) (x : Int) : Prop where
  c0 : w.cell? ⟨g, i, none⟩ = some (.int .i64 x)
  lt' : g < w.heap.size
theorem OneF.lt {w : World} {g i : Nat} {x : Int} (a : OneF w g i x) : g < w.heap.size := a.lt'
theorem OneF.below {W w : World} {g i B : Nat} {x : Int} (a : OneF W g i x) (hb : Below B W w) (hB : g < B) : OneF w g i x := ⟨(hb.cell (p := ⟨g, i, none⟩) hB).trans a.c0, Nat.lt_of_lt_of_le a.lt' hb.size⟩
theorem OneF.alloc {W : World} {g i : Nat} {x : Int} (a : OneF W g i x) (o : Obj) : OneF (W.alloc o) g i x := a.below ((Below.refl W.heap.size W).alloc (Nat.le_refl _) o) a.lt
set_option maxRecDepth 20000 in
set_option maxHeartbeats 16000000 in
theorem l14Trip_any (h : Hs) (hf : h.fault = 0) (l : List Int) (a : Option Addr) (cap : Nat) (hl : l.length ≤ 30) (hA : flsA h l = true) (w : World) (hI : IIn w a l) :
    Calls Try.prog 30 #[.agg #[.int .i64 h.fl, .int .i64 h.gp, .int .i64 h.ln, .int .i64 h.rf, .int .i64 h.sp, .int .i64 h.pu, .int .i64 h.br, .int .i64 h.dr, .int .i64 h.lv, .int .i64 h.dO, .int .i64 h.ld, .int .i64 h.qu], .slice a l.length cap] w (isAns w (Hs.trpK h l) (Hs.trpV h l)) := by
  have HO : Hid h.Ok := Hs.ok_of (Hs.fault_zero hf).1
  have HF : Hid (h.fault = 0) := hf
  have HFL : Hid (flsA h l = true) := hA
  have HI : Hid (IIn w a l) := hI
  have HT : Hid (Hs.trpT h l = 2 * h.dO * (l.length : Int) + legS h l (l.length - 1)) := rfl
  have HKV : Hid (legB h l (l.length - 1) = true → Hs.trpK h l = 0 ∧ Hs.trpV h l = Hs.trpT h l) := fun z => ⟨(trp_yes z).1, (trp_yes z).2.1⟩
  have HKW : Hid (legB h l (l.length - 1) = false → Hs.trpK h l = 2 ∧ Hs.trpV h l = 0) := fun z => ⟨(trp_no z).1, (trp_no z).2.1⟩
  obtain ⟨K, hK⟩ : ∃ K, Hs.trpK h l = K := ⟨_, rfl⟩
  obtain ⟨V, hV⟩ : ∃ V, Hs.trpV h l = V := ⟨_, rfl⟩
  rw [hK, hV] at HKV HKW ⊢
  have d1 := HO.out.do1
  have d2 := HO.out.do2
  have q2 := mul_small (a := h.dO) (b := (l.length : Int)) (by omega) d2 (by omega) (by omega)
  obtain ⟨D, hD⟩ : ∃ D, 2 * h.dO * (l.length : Int) = D := ⟨_, rfl⟩
  rw [hD] at q2
  have ew1 : IntKind.i64.wrap (2 * h.dO) = 2 * h.dO := IntWalk.i64_in _ (by omega)
  have ew : IntKind.i64.wrap (2 * h.dO * (l.length : Int)) = D := (congrArg _ hD).trans (IntWalk.i64_in _ (by omega))
  have HD : Hid (2 * h.dO * (l.length : Int) = D) := hD
  clear hK hV hD hf hA hI
  obtain ⟨b0, hb0⟩ : ∃ b0, b0 = w.heap.size := ⟨_, rfl⟩
  obtain ⟨b1, hb1⟩ : ∃ b1, b1 = b0 + 1 := ⟨_, rfl⟩
  obtain ⟨W0, hW0⟩ : ∃ W0, W0 = (w.alloc (.cells #[.int .i64 h.fl, .int .i64 h.gp, .int .i64 h.ln, .int .i64 h.rf, .int .i64 h.sp, .int .i64 h.pu, .int .i64 h.br, .int .i64 h.dr, .int .i64 h.lv, .int .i64 h.dO, .int .i64 h.ld, .int .i64 h.qu] 27)).alloc (.cells #[.int .i64 0, .int .i64 0] 25) := ⟨_, rfl⟩
  have F0 : Hid (Blk W0 b0 [.int .i64 h.fl, .int .i64 h.gp, .int .i64 h.ln, .int .i64 h.rf, .int .i64 h.sp, .int .i64 h.pu, .int .i64 h.br, .int .i64 h.dr, .int .i64 h.lv, .int .i64 h.dO, .int .i64 h.ld, .int .i64 h.qu]) := by rw [hW0]; exact ((Blk.at_ _ #[.int .i64 h.fl, .int .i64 h.gp, .int .i64 h.ln, .int .i64 h.rf, .int .i64 h.sp, .int .i64 h.pu, .int .i64 h.br, .int .i64 h.dr, .int .i64 h.lv, .int .i64 h.dO, .int .i64 h.ld, .int .i64 h.qu] _ _ hb0).alloc _)
  have F1 : Hid (Blk W0 b1 [.int .i64 0, .int .i64 0]) := by rw [hW0]; exact (Blk.at_ _ #[.int .i64 0, .int .i64 0] _ _ (by simp; omega))
  have FB : Hid (Below w.heap.size w W0) := by rw [hW0]; exact (((Below.refl _ _).alloc (Nat.le_refl _) _).alloc (by simp) _)
  have leb0 : w.heap.size ≤ b0 := by omega
  have leb1 : w.heap.size ≤ b1 := by omega
  have l01 : b0 < b1 := by omega
  go_enter Try.func30, Try.ntmps30
  go_upto_region 1 with fail
  rw [← hb0, ← hb1, ← hW0]
  clear hb0 hb1 hW0
  have c09 := F0.out.c 9 _ rfl
  go_wp2_with fail
  go_loopw [5, 6] (fun nn ii wr => ∃ (k : Nat), nn = .int .i64 (D + legS h l k) ∧ ii = .int .i64 ((k + 1 : Nat) : Int) ∧ (k = 0 ∨ k + 1 ≤ l.length) ∧ legB h l k = true ∧ Blk wr b0 [.int .i64 h.fl, .int .i64 h.gp, .int .i64 h.ln, .int .i64 h.rf, .int .i64 h.sp, .int .i64 h.pu, .int .i64 h.br, .int .i64 h.dr, .int .i64 h.lv, .int .i64 h.dO, .int .i64 h.ld, .int .i64 h.qu] ∧ Blk wr b1 [.int .i64 0, .int .i64 0] ∧ Below w.heap.size w wr) (fun _ ii _ => l.length - (intOf ii).toNat)
  case atStart => exact ⟨0, by first | (simp [legS, HD.out]; done) | (simp only [legS, Int.add_zero]; first | rfl | (rw [← HD.out]; rfl) | (congr 1; omega)), rfl, Or.inl rfl, rfl, F0.out, F1.out, FB.out⟩
  case round =>
    obtain ⟨k, rfl, rfl, hk, hLB0, h_F0, h_F1, hB⟩ := hrel
    clear F0 F1 FB c09
    have F0 : Hid (Blk wr b0 [.int .i64 h.fl, .int .i64 h.gp, .int .i64 h.ln, .int .i64 h.rf, .int .i64 h.sp, .int .i64 h.pu, .int .i64 h.br, .int .i64 h.dr, .int .i64 h.lv, .int .i64 h.dO, .int .i64 h.ld, .int .i64 h.qu]) := h_F0
    have F1 : Hid (Blk wr b1 [.int .i64 0, .int .i64 0]) := h_F1
    have FB : Hid (Below w.heap.size w wr) := hB
    clear h_F0 h_F1 hB
    have HL0 : Hid (legB h l k = true) := hLB0
    clear hLB0
    by_cases hlt : k + 1 < l.length
    · have hlt' : decide (((k + 1 : Nat) : Int) < (l.length : Int)) = true := decide_eq_true (by omega)
      obtain ⟨x, hx⟩ : ∃ x, l[k]? = some x := ⟨_, List.getElem?_eq_getElem (by omega)⟩
      obtain ⟨y, hy⟩ : ∃ y, l[k + 1]? = some y := ⟨_, List.getElem?_eq_getElem hlt⟩
      have bx := inB_iff.1 (flsA_get HFL.out hx)
      have byy := inB_iff.1 (flsA_get HFL.out hy)
      have HLB : Hid (legB h l (k + 1) = (legB h l k && Hs.fltB h x y)) := by show _ = _; rw [legB, lg_of hx, lg_of hy]
      have bs := legS_bd h l k
      have HS : Hid (legS h l (k + 1) = legS h l k + Hs.fltN h x y) := by show _ = _; rw [legS, lg_of hx, lg_of hy]
      rcases HI.out with h0 | ⟨g, rfl, hg, hcl⟩
      · rw [h0] at hlt; simp at hlt
      have FP : Hid (PairF wr g k x y) := (PairF.mk (hcl k x hx) (hcl (k + 1) y hy) hg).below FB.out hg
      obtain ⟨K1, hK1⟩ : ∃ K1, Hs.fltK h x y = K1 := ⟨_, rfl⟩
      obtain ⟨V1, hV1⟩ : ∃ V1, Hs.fltN h x y = V1 := ⟨_, rfl⟩
      have bv := fltN_bd h x y
      have HT1 : Hid (Hs.fltB h x y = true → K1 = 0) := fun z => hK1.symm.trans (flt_there z rfl).1
      have HT2 : Hid (Hs.fltB h x y = false → K1 = 2 ∧ V1 = 0) := fun z => ⟨hK1.symm.trans (flt_not z).1, hV1.symm.trans (flt_not z).2⟩
      have CF : ∀ W, Calls Try.prog 24 #[.agg #[.int .i64 h.fl, .int .i64 h.gp, .int .i64 h.ln, .int .i64 h.rf, .int .i64 h.sp, .int .i64 h.pu, .int .i64 h.br, .int .i64 h.dr, .int .i64 h.lv, .int .i64 h.dO, .int .i64 h.ld, .int .i64 h.qu], .int .i64 x, .int .i64 y] W (isAns W K1 V1) := fun W => by have z := l14Flight_any h HF.out x y (by omega) (by omega) (by omega) (by omega) W; rw [hK1, hV1] at z; exact z
      rw [hV1] at bv HS
      obtain ⟨B1, hB1⟩ : ∃ B1, Hs.fltB h x y = B1 := ⟨_, rfl⟩
      rw [hB1] at HLB HT1 HT2
      have wi : IntKind.i64.wrap (k : Int) = (k : Int) := IntWalk.i64_in _ (by omega)
      have hd1 : decide ((k : Int) + 1 < (l.length : Int)) = true := decide_eq_true (by omega)
      have hi2 : k < l.length := by omega
      have hj1 : (0 : Int) ≤ (k : Int) + 1 := by omega
      have hj2 : (k : Int) + 1 < (l.length : Int) := by omega
      clear hx hy hK1 hV1 hB1 hcl bx byy
      obtain ⟨S, hS⟩ : ∃ S, legS h l k = S := ⟨_, rfl⟩
      rw [hS] at bs HS ⊢
      have ew2 : IntKind.i64.wrap (D + S + V1) = D + S + V1 := IntWalk.i64_in _ (by omega)
      clear hS
      go_upto_region 5 with fail
      go_cut [7] from 14 to 38 (fun p wx => ∃ b2, p = .pointer (some ⟨b2, 0, none⟩) ∧ b1 < b2 ∧ Blk wx b2 [.int .i64 K1, .int .i64 V1] ∧ Blk wx b0 [.int .i64 h.fl, .int .i64 h.gp, .int .i64 h.ln, .int .i64 h.rf, .int .i64 h.sp, .int .i64 h.pu, .int .i64 h.br, .int .i64 h.dr, .int .i64 h.lv, .int .i64 h.dO, .int .i64 h.ld, .int .i64 h.qu] ∧ Blk wx b1 [.int .i64 0, .int .i64 0] ∧ Below w.heap.size w wx)
      case first =>
        have F0 : Hid (Blk wr.drew b0 [.int .i64 h.fl, .int .i64 h.gp, .int .i64 h.ln, .int .i64 h.rf, .int .i64 h.sp, .int .i64 h.pu, .int .i64 h.br, .int .i64 h.dr, .int .i64 h.lv, .int .i64 h.dO, .int .i64 h.ld, .int .i64 h.qu]) := F0.out.below (Below.refl _ _).drew F0.out.lt
        have F1 : Hid (Blk wr.drew b1 [.int .i64 0, .int .i64 0]) := F1.out.below (Below.refl _ _).drew F1.out.lt
        have FP : Hid (PairF wr.drew g k x y) := FP.out.below (Below.refl _ _).drew FP.out.lt
        have FB : Hid (Below w.heap.size w wr.drew) := FB.out.drew
        have m0 := FP.out.c0
        have m1 := FP.out.c1
        refine wp_region_held_drew (S := (fun w'' => Blk w'' b0 ([.int .i64 h.fl, .int .i64 h.gp, .int .i64 h.ln, .int .i64 h.rf, .int .i64 h.sp, .int .i64 h.pu, .int .i64 h.br, .int .i64 h.dr, .int .i64 h.lv, .int .i64 h.dO, .int .i64 h.ld, .int .i64 h.qu]) ∧ w''.cell? ⟨g, k, none⟩ = some (.int .i64 x) ∧ w''.cell? ⟨g, (k + 1), none⟩ = some (.int .i64 y))) (by kernel_rfl) (by (try dsimp only); first | exact ⟨F0.out, m0, m1⟩ | go_keep) (fun hHeld => ?_)
        obtain ⟨v_1, hw1⟩ : ∃ v_1, v_1 = wr.drew := ⟨_, rfl⟩
        have F0 : Hid (Blk v_1 b0 [.int .i64 h.fl, .int .i64 h.gp, .int .i64 h.ln, .int .i64 h.rf, .int .i64 h.sp, .int .i64 h.pu, .int .i64 h.br, .int .i64 h.dr, .int .i64 h.lv, .int .i64 h.dO, .int .i64 h.ld, .int .i64 h.qu]) := by rw [hw1]; exact F0.out
        have F1 : Hid (Blk v_1 b1 [.int .i64 0, .int .i64 0]) := by rw [hw1]; exact F1.out
        have FP : Hid (PairF v_1 g k x y) := by rw [hw1]; exact FP.out
        have FB : Hid (Below w.heap.size w v_1) := by rw [hw1]; exact FB.out
        rw [← hw1] at hHeld ⊢
        clear hw1
        have m0 := FP.out.c0
        have m1 := FP.out.c1
        refine tkz 0 rfl ?_ (hy := Or.inl ⟨by kernel_rfl, fun wx hSw => exec_load_blk 27 _ Try.underlying27 (by kernel_rfl) rfl rfl hSw.1⟩)
        refine tkz 1 rfl ?_
        refine tkz 2 rfl ?_
        refine tkz 3 rfl ?_
        refine tkz 4 rfl ?_
        refine tkz 5 rfl ?_
        refine tkz 6 rfl ?_
        refine tkz 7 rfl ?_
        refine tkz 8 rfl ?_
        refine tkz 9 rfl ?_
        refine wpAnyH_ready (rs := [10, 11]) (by kernel_rfl) (by simp) ?_
        refine (AllReadyH.cons rfl (fun K hK => ?_) (AllReadyH.cons rfl (fun K hK => ?_) AllReadyH.nil))
        · go_simp
          refine (CF _).mono ?_
          rintro e v_2 ⟨rfl, hb⟩
          have F0 : Hid (Blk v_2 b0 [.int .i64 h.fl, .int .i64 h.gp, .int .i64 h.ln, .int .i64 h.rf, .int .i64 h.sp, .int .i64 h.pu, .int .i64 h.br, .int .i64 h.dr, .int .i64 h.lv, .int .i64 h.dO, .int .i64 h.ld, .int .i64 h.qu]) := F0.out.below hb F0.out.lt
          have F1 : Hid (Blk v_2 b1 [.int .i64 0, .int .i64 0]) := F1.out.below hb F1.out.lt
          have FP : Hid (PairF v_2 g k x y) := FP.out.below hb FP.out.lt
          have FB : Hid (Below w.heap.size w v_2) := FB.out.trans (hb.mono FB.out.size)
          clear hb
          have m0 := FP.out.c0
          have m1 := FP.out.c1
          try dsimp only
          refine hK.out _ _ (by (try dsimp only); first | exact ⟨F0.out, m0, m1⟩ | go_keep) (fun hHeld => ?_)
          clear hK K
          try simp only [Act.put, List.getElem_toArray, List.getElem_cons_succ, List.getElem_cons_zero, List.setIfInBounds_toArray, List.set_cons_zero, List.set_cons_succ]
          refine wpAnyH_ready (rs := [11]) (by kernel_rfl) (by simp) ?_
          refine (AllReadyH.cons rfl (fun K hK => ?_) AllReadyH.nil)
          go_simp
          obtain ⟨b2, hbb⟩ : ∃ b2, b2 = v_2.heap.size := ⟨_, rfl⟩
          obtain ⟨v_3, hw2⟩ : ∃ v_3, v_3 = v_2.alloc (.cells #[.int .i64 0, .int .i64 0] 25) := ⟨_, rfl⟩
          have nb2_0 := F0.out.lt
          rw [← hbb] at nb2_0
          have nb2_1 := F1.out.lt
          rw [← hbb] at nb2_1
          have nb2_2 := FP.out.lt
          rw [← hbb] at nb2_2
          have F2 : Hid (Blk v_3 b2 [.int .i64 0, .int .i64 0]) := by rw [hw2]; exact Blk.at_ v_2 #[.int .i64 0, .int .i64 0] _ _ hbb
          have F0 : Hid (Blk v_3 b0 [.int .i64 h.fl, .int .i64 h.gp, .int .i64 h.ln, .int .i64 h.rf, .int .i64 h.sp, .int .i64 h.pu, .int .i64 h.br, .int .i64 h.dr, .int .i64 h.lv, .int .i64 h.dO, .int .i64 h.ld, .int .i64 h.qu]) := by rw [hw2]; exact F0.out.alloc _
          have F1 : Hid (Blk v_3 b1 [.int .i64 0, .int .i64 0]) := by rw [hw2]; exact F1.out.alloc _
          have FP : Hid (PairF v_3 g k x y) := by rw [hw2]; exact FP.out.alloc _
          have FB : Hid (Below w.heap.size w v_3) := by rw [hw2]; exact FB.out.alloc FB.out.size _
          rw [← hw2, ← hbb]
          clear hbb hw2
          have m0 := FP.out.c0
          have m1 := FP.out.c1
          refine hK.out _ _ (by (try dsimp only); first | exact ⟨F0.out, m0, m1⟩ | go_keep) (fun hHeld => ?_)
          clear hK K
          try simp only [Act.put, List.getElem_toArray, List.getElem_cons_succ, List.getElem_cons_zero, List.setIfInBounds_toArray, List.set_cons_zero, List.set_cons_succ]
          refine wpAnyH_ready (rs := [12]) (by kernel_rfl) (by simp) ?_
          refine (AllReadyH.cons rfl (fun K hK => ?_) AllReadyH.nil)
          have k0 := F2.out.c 0 _ rfl
          have k1 := F2.out.c 1 _ rfl
          have kf0 := F2.out.f 0 (Nat.le_of_ble_eq_true rfl)
          have kf1 := F2.out.f 1 (Nat.le_of_ble_eq_true rfl)
          go_simp
          obtain ⟨v_4, hw2⟩ : ∃ v_4, v_4 = putB v_3 b2 0 [.int .i64 K1, .int .i64 V1] := ⟨_, rfl⟩
          change K _ (putB v_3 b2 0 [.int .i64 K1, .int .i64 V1])
          rw [← hw2]
          clear k0 kf0 k1 kf1
          have F0 : Hid (Blk v_4 b0 [.int .i64 h.fl, .int .i64 h.gp, .int .i64 h.ln, .int .i64 h.rf, .int .i64 h.sp, .int .i64 h.pu, .int .i64 h.br, .int .i64 h.dr, .int .i64 h.lv, .int .i64 h.dO, .int .i64 h.ld, .int .i64 h.qu]) := by rw [hw2]; exact Blk.putB_other (by omega) _ 0 F0.out
          have F1 : Hid (Blk v_4 b1 [.int .i64 0, .int .i64 0]) := by rw [hw2]; exact Blk.putB_other (by omega) _ 0 F1.out
          have FP : Hid (PairF v_4 g k x y) := by rw [hw2]; exact FP.out.putB (by omega) _ 0
          have FB : Hid (Below w.heap.size w v_4) := by rw [hw2]; exact below_putB FB.out (by omega) _ 0
          have F2 : Hid (Blk v_4 b2 [.int .i64 K1, .int .i64 V1]) := by rw [hw2]; exact F2.out.put [.int .i64 K1, .int .i64 V1] rfl
          clear hw2
          have m0 := FP.out.c0
          have m1 := FP.out.c1
          refine hK.out _ _ (by (try dsimp only); first | exact ⟨F0.out, m0, m1⟩ | go_keep) (fun hHeld => ?_)
          clear hK K
          try simp only [Act.put, List.getElem_toArray, List.getElem_cons_succ, List.getElem_cons_zero, List.setIfInBounds_toArray, List.set_cons_zero, List.set_cons_succ]
          refine wpAnyH_done (by kernel_rfl) ?_ _
          go_wp2_with fail
          go_meet
          case rel => exact ⟨b2, rfl, by omega, F2.out, F0.out, F1.out, FB.out⟩
        · go_simp
          obtain ⟨b2, hbb⟩ : ∃ b2, b2 = v_1.heap.size := ⟨_, rfl⟩
          obtain ⟨v_5, hw2⟩ : ∃ v_5, v_5 = v_1.alloc (.cells #[.int .i64 0, .int .i64 0] 25) := ⟨_, rfl⟩
          have nb2_0 := F0.out.lt
          rw [← hbb] at nb2_0
          have nb2_1 := F1.out.lt
          rw [← hbb] at nb2_1
          have nb2_2 := FP.out.lt
          rw [← hbb] at nb2_2
          have F2 : Hid (Blk v_5 b2 [.int .i64 0, .int .i64 0]) := by rw [hw2]; exact Blk.at_ v_1 #[.int .i64 0, .int .i64 0] _ _ hbb
          have F0 : Hid (Blk v_5 b0 [.int .i64 h.fl, .int .i64 h.gp, .int .i64 h.ln, .int .i64 h.rf, .int .i64 h.sp, .int .i64 h.pu, .int .i64 h.br, .int .i64 h.dr, .int .i64 h.lv, .int .i64 h.dO, .int .i64 h.ld, .int .i64 h.qu]) := by rw [hw2]; exact F0.out.alloc _
          have F1 : Hid (Blk v_5 b1 [.int .i64 0, .int .i64 0]) := by rw [hw2]; exact F1.out.alloc _
          have FP : Hid (PairF v_5 g k x y) := by rw [hw2]; exact FP.out.alloc _
          have FB : Hid (Below w.heap.size w v_5) := by rw [hw2]; exact FB.out.alloc FB.out.size _
          rw [← hw2, ← hbb]
          clear hbb hw2
          have m0 := FP.out.c0
          have m1 := FP.out.c1
          refine hK.out _ _ (by (try dsimp only); first | exact ⟨F0.out, m0, m1⟩ | go_keep) (fun hHeld => ?_)
          clear hK K
          try simp only [Act.put, List.getElem_toArray, List.getElem_cons_succ, List.getElem_cons_zero, List.setIfInBounds_toArray, List.set_cons_zero, List.set_cons_succ]
          refine wpAnyH_ready (rs := [10]) (by kernel_rfl) (by simp) ?_
          refine (AllReadyH.cons rfl (fun K hK => ?_) AllReadyH.nil)
          go_simp
          refine (CF _).mono ?_
          rintro e v_6 ⟨rfl, hb⟩
          have F0 : Hid (Blk v_6 b0 [.int .i64 h.fl, .int .i64 h.gp, .int .i64 h.ln, .int .i64 h.rf, .int .i64 h.sp, .int .i64 h.pu, .int .i64 h.br, .int .i64 h.dr, .int .i64 h.lv, .int .i64 h.dO, .int .i64 h.ld, .int .i64 h.qu]) := F0.out.below hb F0.out.lt
          have F1 : Hid (Blk v_6 b1 [.int .i64 0, .int .i64 0]) := F1.out.below hb F1.out.lt
          have FP : Hid (PairF v_6 g k x y) := FP.out.below hb FP.out.lt
          have FB : Hid (Below w.heap.size w v_6) := FB.out.trans (hb.mono FB.out.size)
          have F2 : Hid (Blk v_6 b2 [.int .i64 0, .int .i64 0]) := F2.out.below hb F2.out.lt
          clear hb
          have m0 := FP.out.c0
          have m1 := FP.out.c1
          try dsimp only
          refine hK.out _ _ (by (try dsimp only); first | exact ⟨F0.out, m0, m1⟩ | go_keep) (fun hHeld => ?_)
          clear hK K
          try simp only [Act.put, List.getElem_toArray, List.getElem_cons_succ, List.getElem_cons_zero, List.setIfInBounds_toArray, List.set_cons_zero, List.set_cons_succ]
          refine wpAnyH_ready (rs := [12]) (by kernel_rfl) (by simp) ?_
          refine (AllReadyH.cons rfl (fun K hK => ?_) AllReadyH.nil)
          have k0 := F2.out.c 0 _ rfl
          have k1 := F2.out.c 1 _ rfl
          have kf0 := F2.out.f 0 (Nat.le_of_ble_eq_true rfl)
          have kf1 := F2.out.f 1 (Nat.le_of_ble_eq_true rfl)
          go_simp
          obtain ⟨v_7, hw2⟩ : ∃ v_7, v_7 = putB v_6 b2 0 [.int .i64 K1, .int .i64 V1] := ⟨_, rfl⟩
          change K _ (putB v_6 b2 0 [.int .i64 K1, .int .i64 V1])
          rw [← hw2]
          clear k0 kf0 k1 kf1
          have F0 : Hid (Blk v_7 b0 [.int .i64 h.fl, .int .i64 h.gp, .int .i64 h.ln, .int .i64 h.rf, .int .i64 h.sp, .int .i64 h.pu, .int .i64 h.br, .int .i64 h.dr, .int .i64 h.lv, .int .i64 h.dO, .int .i64 h.ld, .int .i64 h.qu]) := by rw [hw2]; exact Blk.putB_other (by omega) _ 0 F0.out
          have F1 : Hid (Blk v_7 b1 [.int .i64 0, .int .i64 0]) := by rw [hw2]; exact Blk.putB_other (by omega) _ 0 F1.out
          have FP : Hid (PairF v_7 g k x y) := by rw [hw2]; exact FP.out.putB (by omega) _ 0
          have FB : Hid (Below w.heap.size w v_7) := by rw [hw2]; exact below_putB FB.out (by omega) _ 0
          have F2 : Hid (Blk v_7 b2 [.int .i64 K1, .int .i64 V1]) := by rw [hw2]; exact F2.out.put [.int .i64 K1, .int .i64 V1] rfl
          clear hw2
          have m0 := FP.out.c0
          have m1 := FP.out.c1
          refine hK.out _ _ (by (try dsimp only); first | exact ⟨F0.out, m0, m1⟩ | go_keep) (fun hHeld => ?_)
          clear hK K
          try simp only [Act.put, List.getElem_toArray, List.getElem_cons_succ, List.getElem_cons_zero, List.setIfInBounds_toArray, List.set_cons_zero, List.set_cons_succ]
          refine wpAnyH_done (by kernel_rfl) ?_ _
          go_wp2_with fail
          go_meet
          case rel => exact ⟨b2, rfl, by omega, F2.out, F0.out, F1.out, FB.out⟩
      case rest =>
      obtain ⟨b2, rfl, n12, h_F2, h_F0, h_F1, hB⟩ := hcut
      have F2 : Hid (Blk wc b2 [.int .i64 K1, .int .i64 V1]) := h_F2
      clear h_F2 FP
      have F0 : Hid (Blk wc b0 [.int .i64 h.fl, .int .i64 h.gp, .int .i64 h.ln, .int .i64 h.rf, .int .i64 h.sp, .int .i64 h.pu, .int .i64 h.br, .int .i64 h.dr, .int .i64 h.lv, .int .i64 h.dO, .int .i64 h.ld, .int .i64 h.qu]) := h_F0
      have F1 : Hid (Blk wc b1 [.int .i64 0, .int .i64 0]) := h_F1
      have FB : Hid (Below w.heap.size w wc) := hB
      clear h_F0 h_F1 hB
      clear CF
      cases B1 with
      | true =>
        obtain rfl := HT1.out rfl
        have x0 := F2.out.c 0 _ rfl
        have x1 := F2.out.c 1 _ rfl
        have HL1 : Hid (legB h l (k + 1) = true) := by show _ = true; rw [HLB.out, HL0.out]; rfl
        go_wp2_with fail
        go_roundw
        case rel => exact ⟨k + 1, by first | rw [HS.out, Int.add_assoc] | (simp [HS.out]; done) | (simp [HS.out]; omega), by simp, Or.inr (by omega), HL1.out, F0.out, F1.out, FB.out⟩
        case measure => simp [intOf]; omega
      | false =>
        obtain ⟨rfl, rfl⟩ := HT2.out rfl
        have x0 := F2.out.c 0 _ rfl
        have z := HKW.out (legB_down (k := k + 1) (by rw [HLB.out, HL0.out]; rfl) (by omega))
        have HZ : Hid (2 = K ∧ 0 = V) := ⟨z.1.symm, z.2.symm⟩
        clear z
        go_wp2_with (first | (refine load_blk 25 _ Try.underlying25 (by kernel_rfl) F2.out rfl rfl rfl ?_) | (refine store_blk [.int .i64 2, .int .i64 0] 25 _ _ (by kernel_rfl) (by kernel_rfl) (by kernel_rfl) F1.out rfl rfl rfl rfl ?_))
        exact bodyPost_ret (v := .agg #[.int .i64 2, .int .i64 0]) ((F1.out.row [.int .i64 2, .int .i64 0]).res _ Try.results30 Try.underlying25 (by kernel_rfl) rfl) rfl ⟨ret_twoF HZ.out.1 HZ.out.2, below_row FB.out leb1 _⟩
    · have hlt' : decide (((k + 1 : Nat) : Int) < (l.length : Int)) = false := decide_eq_false (by omega)
      have ek : k = l.length - 1 := by omega
      have z := HKV.out (by rw [← ek]; exact HL0.out)
      have HZ : Hid (0 = K ∧ D + legS h l k = V) := ⟨z.1.symm, by rw [z.2, HT.out, HD.out, ek]⟩
      clear z ek
      go_wp2_with (refine store_blk [.int .i64 0, .int .i64 (D + legS h l k)] 25 _ _ (by kernel_rfl) (by kernel_rfl) (by kernel_rfl) F1.out rfl rfl rfl rfl ?_)
      exact bodyPost_ret (v := .agg #[.int .i64 0, .int .i64 (D + legS h l k)]) ((F1.out.row [.int .i64 0, .int .i64 (D + legS h l k)]).res _ Try.results30 Try.underlying25 (by kernel_rfl) rfl) rfl ⟨ret_twoF HZ.out.1 HZ.out.2, below_row FB.out leb1 _⟩
set_option maxRecDepth 20000 in
set_option maxHeartbeats 16000000 in
theorem specTripTicks_any (h : Hs) (l : List Int) (a : Option Addr) (cap : Nat) (hl : l.length ≤ 1048576) (w : World) (hI : IIn w a l) :
    Calls Try.prog 12 #[.agg #[.int .i64 h.fl, .int .i64 h.gp, .int .i64 h.ln, .int .i64 h.rf, .int .i64 h.sp, .int .i64 h.pu, .int .i64 h.br, .int .i64 h.dr, .int .i64 h.lv, .int .i64 h.dO, .int .i64 h.ld, .int .i64 h.qu], .slice a l.length cap] w (isAns w (Hs.tpK h l) (Hs.tpV h l)) := by
  have HI : Hid (IIn w a l) := hI
  clear hI
  obtain ⟨K, hK⟩ : ∃ K, Hs.tpK h l = K := ⟨_, rfl⟩
  obtain ⟨V, hV⟩ : ∃ V, Hs.tpV h l = V := ⟨_, rfl⟩
  rw [hK, hV]
  have HK : Hid (Hs.tpK h l = K) := hK
  have HV : Hid (Hs.tpV h l = V) := hV
  obtain ⟨ka, hka⟩ : ∃ ka, h.fault = ka := ⟨_, rfl⟩
  have HA : Hid (h.fault = ka) := hka
  clear hK hV hka
  obtain ⟨b0, hb0⟩ : ∃ b0, b0 = w.heap.size := ⟨_, rfl⟩
  obtain ⟨b1, hb1⟩ : ∃ b1, b1 = b0 + 1 := ⟨_, rfl⟩
  obtain ⟨W0, hW0⟩ : ∃ W0, W0 = (w.alloc (.cells #[.int .i64 h.fl, .int .i64 h.gp, .int .i64 h.ln, .int .i64 h.rf, .int .i64 h.sp, .int .i64 h.pu, .int .i64 h.br, .int .i64 h.dr, .int .i64 h.lv, .int .i64 h.dO, .int .i64 h.ld, .int .i64 h.qu] 27)).alloc (.cells #[.int .i64 0, .int .i64 0] 25) := ⟨_, rfl⟩
  have F0 : Hid (Blk W0 b0 [.int .i64 h.fl, .int .i64 h.gp, .int .i64 h.ln, .int .i64 h.rf, .int .i64 h.sp, .int .i64 h.pu, .int .i64 h.br, .int .i64 h.dr, .int .i64 h.lv, .int .i64 h.dO, .int .i64 h.ld, .int .i64 h.qu]) := by rw [hW0]; exact ((Blk.at_ _ #[.int .i64 h.fl, .int .i64 h.gp, .int .i64 h.ln, .int .i64 h.rf, .int .i64 h.sp, .int .i64 h.pu, .int .i64 h.br, .int .i64 h.dr, .int .i64 h.lv, .int .i64 h.dO, .int .i64 h.ld, .int .i64 h.qu] _ _ hb0).alloc _)
  have F1 : Hid (Blk W0 b1 [.int .i64 0, .int .i64 0]) := by rw [hW0]; exact (Blk.at_ _ #[.int .i64 0, .int .i64 0] _ _ (by simp; omega))
  have FB : Hid (Below w.heap.size w W0) := by rw [hW0]; exact (((Below.refl _ _).alloc (Nat.le_refl _) _).alloc (by simp) _)
  have leb0 : w.heap.size ≤ b0 := by omega
  have leb1 : w.heap.size ≤ b1 := by omega
  have l01 : b0 < b1 := by omega
  go_enter Try.func12, Try.ntmps12
  go_upto_region 1 with fail
  rw [← hb0, ← hb1, ← hW0]
  clear hb0 hb1 hW0
  go_upto_region 2 with (first | (refine load_blk 27 _ Try.underlying27 (by kernel_rfl) F0.out rfl rfl rfl ?_) | (go_at_call 22; refine (specFault_any h _).mono ?_; rw [HA.out]; rintro e w1 ⟨rfl, hb⟩; have F0 : Hid (Blk w1 b0 [.int .i64 h.fl, .int .i64 h.gp, .int .i64 h.ln, .int .i64 h.rf, .int .i64 h.sp, .int .i64 h.pu, .int .i64 h.br, .int .i64 h.dr, .int .i64 h.lv, .int .i64 h.dO, .int .i64 h.ld, .int .i64 h.qu]) := F0.out.below hb F0.out.lt; have F1 : Hid (Blk w1 b1 [.int .i64 0, .int .i64 0]) := F1.out.below hb F1.out.lt; have FB : Hid (Below w.heap.size w w1) := FB.out.trans (hb.mono FB.out.size); clear hb))
  have c00 := F0.out.c 0 _ rfl
  by_cases hz : ka = 0
  case neg =>
    have hn : (ka != 0) = true := by simpa using hz
    have HZ : Hid (ka = K ∧ 0 = V) := ⟨by rw [← HK.out]; unfold Hs.tpK; rw [HA.out, if_neg hz], by rw [← HV.out]; unfold Hs.tpV; rw [HA.out, if_neg hz]⟩
    go_wp2_with (refine store_blk [.int .i64 ka, .int .i64 0] 25 _ _ (by kernel_rfl) (by kernel_rfl) (by kernel_rfl) F1.out rfl rfl rfl rfl ?_)
    exact bodyPost_ret (v := .agg #[.int .i64 ka, .int .i64 0]) ((F1.out.row [.int .i64 ka, .int .i64 0]).res _ Try.results12 Try.underlying25 (by kernel_rfl) rfl) rfl ⟨ret_twoF HZ.out.1 HZ.out.2, below_row FB.out leb1 _⟩
  case pos =>
  subst hz
  have HO : Hid h.Ok := Hs.ok_of (Hs.fault_zero HA.out).1
  have o1 := HO.out.fl1
  have o2 := HO.out.fl2
  by_cases h30 : l.length ≤ 30
  case neg =>
    have dn : decide ((30 : Int) < (l.length : Int)) = true := decide_eq_true (by omega)
    have HZ : Hid (2 = K ∧ 0 = V) := ⟨by rw [← HK.out]; unfold Hs.tpK; rw [HA.out, if_pos rfl, if_neg h30], by rw [← HV.out]; unfold Hs.tpV; rw [HA.out, if_pos rfl, if_neg h30]⟩
    go_wp2_with (refine store_blk [.int .i64 2, .int .i64 0] 25 _ _ (by kernel_rfl) (by kernel_rfl) (by kernel_rfl) F1.out rfl rfl rfl rfl ?_)
    exact bodyPost_ret (v := .agg #[.int .i64 2, .int .i64 0]) ((F1.out.row [.int .i64 2, .int .i64 0]).res _ Try.results12 Try.underlying25 (by kernel_rfl) rfl) rfl ⟨ret_twoF HZ.out.1 HZ.out.2, below_row FB.out leb1 _⟩
  case pos =>
  have dn : decide ((30 : Int) < (l.length : Int)) = false := decide_eq_false (by omega)
  have HKA : Hid ((if flsA h l = true then Hs.trpK h l else 3) = K) := by show _ = K; rw [← HK.out]; unfold Hs.tpK; rw [HA.out, if_pos rfl, if_pos h30]
  have HVA : Hid ((if flsA h l = true then Hs.trpV h l else 0) = V) := by show _ = V; rw [← HV.out]; unfold Hs.tpV; rw [HA.out, if_pos rfl, if_pos h30]
  clear HK HV hl c00
  go_wp2_with fail
  go_loopw [6] (fun ii wr => ∃ (i : Nat), ii = .int .i64 (i : Int) ∧ i ≤ l.length ∧ (∀ (j : Nat) (x : Int), j < i → l[j]? = some x → inB x 0 (h.fl - 1) = true) ∧ Blk wr b0 [.int .i64 h.fl, .int .i64 h.gp, .int .i64 h.ln, .int .i64 h.rf, .int .i64 h.sp, .int .i64 h.pu, .int .i64 h.br, .int .i64 h.dr, .int .i64 h.lv, .int .i64 h.dO, .int .i64 h.ld, .int .i64 h.qu] ∧ Blk wr b1 [.int .i64 0, .int .i64 0] ∧ Below w.heap.size w wr) (fun ii _ => l.length - (intOf ii).toNat)
  case atStart => exact ⟨0, rfl, by omega, fun j x hj => by omega, F0.out, F1.out, FB.out⟩
  case round =>
    obtain ⟨i, rfl, hi, hall, h_F0, h_F1, hB⟩ := hrel
    clear F0 F1 FB
    have F0 : Hid (Blk wr b0 [.int .i64 h.fl, .int .i64 h.gp, .int .i64 h.ln, .int .i64 h.rf, .int .i64 h.sp, .int .i64 h.pu, .int .i64 h.br, .int .i64 h.dr, .int .i64 h.lv, .int .i64 h.dO, .int .i64 h.ld, .int .i64 h.qu]) := h_F0
    have F1 : Hid (Blk wr b1 [.int .i64 0, .int .i64 0]) := h_F1
    have FB : Hid (Below w.heap.size w wr) := hB
    clear h_F0 h_F1 hB
    have HAL : Hid (∀ (j : Nat) (x : Int), j < i → l[j]? = some x → inB x 0 (h.fl - 1) = true) := hall
    clear hall
    have c00 := F0.out.c 0 _ rfl
    by_cases hlt : i < l.length
    · have hlt' : decide ((i : Int) < (l.length : Int)) = true := decide_eq_true (by omega)
      obtain ⟨x, hx⟩ : ∃ x, l[i]? = some x := ⟨_, List.getElem?_eq_getElem hlt⟩
      have HX : Hid (l[i]? = some x) := hx
      rcases HI.out with h0 | ⟨g, rfl, hg, hcl⟩
      · rw [h0] at hlt; simp at hlt
      have cx := (FB.out.cell (p := ⟨g, i, none⟩) hg).trans (hcl i x hx)
      clear hx hcl
      cases hin : inB x 0 (h.fl - 1) with
      | false =>
        have fz := flsA_no HX.out hin
        have HZ : Hid (3 = K ∧ 0 = V) := ⟨by rw [← HKA.out, fz]; rfl, by rw [← HVA.out, fz]; rfl⟩
        clear fz
        have ew : IntKind.i64.wrap (h.fl - 1) = h.fl - 1 := IntWalk.i64_in _ (by omega)
        have FX : Hid (OneF wr g i x) := ⟨cx, Nat.lt_of_lt_of_le hg FB.out.size⟩
        have CI : ∀ W, Calls Try.prog 23 #[.int .i64 x, .int .i64 0, .int .i64 (h.fl - 1)] W fun e w' => e = .returned (.bool false) ∧ w' = W := fun W => by have z := l1In_any x 0 (h.fl - 1) W; rw [hin] at z; exact z
        clear cx c00
        go_upto_region 9 with fail
        have FX : Hid (OneF wr.drew g i x) := FX.out.below (Below.refl _ _).drew FX.out.lt
        have F0 : Hid (Blk wr.drew b0 [.int .i64 h.fl, .int .i64 h.gp, .int .i64 h.ln, .int .i64 h.rf, .int .i64 h.sp, .int .i64 h.pu, .int .i64 h.br, .int .i64 h.dr, .int .i64 h.lv, .int .i64 h.dO, .int .i64 h.ld, .int .i64 h.qu]) := F0.out.below (Below.refl _ _).drew F0.out.lt
        have F1 : Hid (Blk wr.drew b1 [.int .i64 0, .int .i64 0]) := F1.out.below (Below.refl _ _).drew F1.out.lt
        have FB : Hid (Below w.heap.size w wr.drew) := FB.out.drew
        have m0 := FX.out.c0
        have m1 := F0.out.c 0 _ rfl
        refine wp_region_held_drew (S := (fun w'' => w''.cell? ⟨g, i, none⟩ = some (.int .i64 x) ∧ w''.cell? ⟨b0, 0, none⟩ = some (.int .i64 h.fl))) (by kernel_rfl) (by (try dsimp only); first | exact ⟨m0, m1⟩ | go_keep) (fun hHeld => ?_)
        obtain ⟨v_8, hw1⟩ : ∃ v_8, v_8 = wr.drew := ⟨_, rfl⟩
        have FX : Hid (OneF v_8 g i x) := by rw [hw1]; exact FX.out
        have F0 : Hid (Blk v_8 b0 [.int .i64 h.fl, .int .i64 h.gp, .int .i64 h.ln, .int .i64 h.rf, .int .i64 h.sp, .int .i64 h.pu, .int .i64 h.br, .int .i64 h.dr, .int .i64 h.lv, .int .i64 h.dO, .int .i64 h.ld, .int .i64 h.qu]) := by rw [hw1]; exact F0.out
        have F1 : Hid (Blk v_8 b1 [.int .i64 0, .int .i64 0]) := by rw [hw1]; exact F1.out
        have FB : Hid (Below w.heap.size w v_8) := by rw [hw1]; exact FB.out
        rw [← hw1] at hHeld ⊢
        clear hw1
        have m0 := FX.out.c0
        have m1 := F0.out.c 0 _ rfl
        refine tkz 0 rfl ?_
        refine tkz 1 rfl ?_
        refine tkz 2 rfl ?_
        refine tkz 3 rfl ?_
        refine tkz 4 rfl ?_
        refine tkz 5 rfl ?_
        refine tkz 6 rfl ?_
        refine wpAnyH_ready (rs := [7]) (by kernel_rfl) (by simp) ?_
        refine (AllReadyH.cons rfl (fun K hK => ?_) AllReadyH.nil)
        go_simp
        refine (CI _).mono ?_
        rintro e w_ ⟨rfl, hw⟩
        obtain rfl := hw.symm
        clear hw
        try dsimp only
        refine hK.out _ _ (by (try dsimp only); first | exact ⟨m0, m1⟩ | go_keep) (fun hHeld => ?_)
        clear hK K
        try simp only [Act.put, List.getElem_toArray, List.getElem_cons_succ, List.getElem_cons_zero, List.setIfInBounds_toArray, List.set_cons_zero, List.set_cons_succ]
        refine tkz 8 rfl ?_
        refine wpAnyH_done (by kernel_rfl) ?_ _
        go_wp2_with (refine store_blk [.int .i64 3, .int .i64 0] 25 _ _ (by kernel_rfl) (by kernel_rfl) (by kernel_rfl) F1.out rfl rfl rfl rfl ?_)
        exact bodyPost_ret (v := .agg #[.int .i64 3, .int .i64 0]) ((F1.out.row [.int .i64 3, .int .i64 0]).res _ Try.results12 Try.underlying25 (by kernel_rfl) rfl) rfl ⟨ret_twoF HZ.out.1 HZ.out.2, below_row FB.out leb1 _⟩
      | true =>
        have ew : IntKind.i64.wrap (h.fl - 1) = h.fl - 1 := IntWalk.i64_in _ (by omega)
        have FX : Hid (OneF wr g i x) := ⟨cx, Nat.lt_of_lt_of_le hg FB.out.size⟩
        have CI : ∀ W, Calls Try.prog 23 #[.int .i64 x, .int .i64 0, .int .i64 (h.fl - 1)] W fun e w' => e = .returned (.bool true) ∧ w' = W := fun W => by have z := l1In_any x 0 (h.fl - 1) W; rw [hin] at z; exact z
        clear cx c00
        go_upto_region 9 with fail
        have FX : Hid (OneF wr.drew g i x) := FX.out.below (Below.refl _ _).drew FX.out.lt
        have F0 : Hid (Blk wr.drew b0 [.int .i64 h.fl, .int .i64 h.gp, .int .i64 h.ln, .int .i64 h.rf, .int .i64 h.sp, .int .i64 h.pu, .int .i64 h.br, .int .i64 h.dr, .int .i64 h.lv, .int .i64 h.dO, .int .i64 h.ld, .int .i64 h.qu]) := F0.out.below (Below.refl _ _).drew F0.out.lt
        have F1 : Hid (Blk wr.drew b1 [.int .i64 0, .int .i64 0]) := F1.out.below (Below.refl _ _).drew F1.out.lt
        have FB : Hid (Below w.heap.size w wr.drew) := FB.out.drew
        have m0 := FX.out.c0
        have m1 := F0.out.c 0 _ rfl
        refine wp_region_held_drew (S := (fun w'' => w''.cell? ⟨g, i, none⟩ = some (.int .i64 x) ∧ w''.cell? ⟨b0, 0, none⟩ = some (.int .i64 h.fl))) (by kernel_rfl) (by (try dsimp only); first | exact ⟨m0, m1⟩ | go_keep) (fun hHeld => ?_)
        obtain ⟨v_9, hw1⟩ : ∃ v_9, v_9 = wr.drew := ⟨_, rfl⟩
        have FX : Hid (OneF v_9 g i x) := by rw [hw1]; exact FX.out
        have F0 : Hid (Blk v_9 b0 [.int .i64 h.fl, .int .i64 h.gp, .int .i64 h.ln, .int .i64 h.rf, .int .i64 h.sp, .int .i64 h.pu, .int .i64 h.br, .int .i64 h.dr, .int .i64 h.lv, .int .i64 h.dO, .int .i64 h.ld, .int .i64 h.qu]) := by rw [hw1]; exact F0.out
        have F1 : Hid (Blk v_9 b1 [.int .i64 0, .int .i64 0]) := by rw [hw1]; exact F1.out
        have FB : Hid (Below w.heap.size w v_9) := by rw [hw1]; exact FB.out
        rw [← hw1] at hHeld ⊢
        clear hw1
        have m0 := FX.out.c0
        have m1 := F0.out.c 0 _ rfl
        refine tkz 0 rfl ?_
        refine tkz 1 rfl ?_
        refine tkz 2 rfl ?_
        refine tkz 3 rfl ?_
        refine tkz 4 rfl ?_
        refine tkz 5 rfl ?_
        refine tkz 6 rfl ?_
        refine wpAnyH_ready (rs := [7]) (by kernel_rfl) (by simp) ?_
        refine (AllReadyH.cons rfl (fun K hK => ?_) AllReadyH.nil)
        go_simp
        refine (CI _).mono ?_
        rintro e w_ ⟨rfl, hw⟩
        obtain rfl := hw.symm
        clear hw
        try dsimp only
        refine hK.out _ _ (by (try dsimp only); first | exact ⟨m0, m1⟩ | go_keep) (fun hHeld => ?_)
        clear hK K
        try simp only [Act.put, List.getElem_toArray, List.getElem_cons_succ, List.getElem_cons_zero, List.setIfInBounds_toArray, List.set_cons_zero, List.set_cons_succ]
        refine tkz 8 rfl ?_
        refine wpAnyH_done (by kernel_rfl) ?_ _
        go_wp2_with fail
        go_roundw
        case rel => exact ⟨i + 1, by simp, by omega, alls_step (P := fun z => inB z 0 (h.fl - 1) = true) HAL.out HX.out hin, F0.out, F1.out, FB.out⟩
        case measure => simp [intOf]; omega
    · have hlt' : decide ((i : Int) < (l.length : Int)) = false := decide_eq_false (by omega)
      have fy : flsA h l = true := flsA_all fun j z hz => HAL.out j z (by have := (List.getElem?_eq_some_iff.1 hz).1; omega) hz
      have HFL : Hid (flsA h l = true) := fy
      have HK2 : Hid (Hs.trpK h l = K) := by show _ = K; rw [← HKA.out, if_pos fy]
      have HV2 : Hid (Hs.trpV h l = V) := by show _ = V; rw [← HVA.out, if_pos fy]
      clear fy HKA HVA HAL
      have CT : ∀ W, IIn W a l → Calls Try.prog 30 #[.agg #[.int .i64 h.fl, .int .i64 h.gp, .int .i64 h.ln, .int .i64 h.rf, .int .i64 h.sp, .int .i64 h.pu, .int .i64 h.br, .int .i64 h.dr, .int .i64 h.lv, .int .i64 h.dO, .int .i64 h.ld, .int .i64 h.qu], .slice a l.length cap] W (isAns W K V) := fun W hW => by have z := l14Trip_any h HA.out l a cap h30 HFL.out W hW; rw [HK2.out, HV2.out] at z; exact z
      go_wp2_with (first | (refine load_blk 27 _ Try.underlying27 (by kernel_rfl) F0.out rfl rfl rfl ?_) | (go_at_call 30; refine (CT _ (HI.out.below FB.out)).mono ?_; rintro e w4 ⟨rfl, hb⟩; have F0 : Hid (Blk w4 b0 [.int .i64 h.fl, .int .i64 h.gp, .int .i64 h.ln, .int .i64 h.rf, .int .i64 h.sp, .int .i64 h.pu, .int .i64 h.br, .int .i64 h.dr, .int .i64 h.lv, .int .i64 h.dO, .int .i64 h.ld, .int .i64 h.qu]) := F0.out.below hb F0.out.lt; have F1 : Hid (Blk w4 b1 [.int .i64 0, .int .i64 0]) := F1.out.below hb F1.out.lt; have FB : Hid (Below w.heap.size w w4) := FB.out.trans (hb.mono FB.out.size); clear hb) | (refine store_blk [.int .i64 K, .int .i64 V] 25 _ _ (by kernel_rfl) (by kernel_rfl) (by kernel_rfl) F1.out rfl rfl rfl rfl ?_))
      exact bodyPost_ret (v := .agg #[.int .i64 K, .int .i64 V]) ((F1.out.row [.int .i64 K, .int .i64 V]).res _ Try.results12 Try.underlying25 (by kernel_rfl) rfl) rfl ⟨rfl, below_row FB.out leb1 _⟩
end Go.Proofs.Ythfnphbgjfcdaaa
