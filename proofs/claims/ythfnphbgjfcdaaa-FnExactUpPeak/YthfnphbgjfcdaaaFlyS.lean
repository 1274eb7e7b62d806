/-
  A flight, as the model has it.
-/
import Derived.Test.YthfnphbgjfcdaaaFlyQ
import Derived.Test.YthfnphbgjfcdaaaProfB
import Derived.Test.YthfnphbgjfcdaaaProfA
import Derived.Test.YthfnphbgjfcdaaaCarV
import Derived.Test.YthfnphbgjfcdaaaFnd
import Derived.Deep.DeepCutAuto
namespace Go.Proofs.Ythfnphbgjfcdaaa
open Go.RowKit Pl
set_option linter.unusedSimpArgs false
set_option linter.unusedVariables false

set_option maxRecDepth 20000 in
set_option maxHeartbeats 16000000 in
theorem l14Flight_any (h : Hs) (hf : h.fault = 0) (a b : Int) (q1 : -1 ≤ a) (q2 : a ≤ h.fl) (q3 : -1 ≤ b) (q4 : b ≤ h.fl) (w : World) :
    Calls Try.prog 24 #[.agg #[.int .i64 h.fl, .int .i64 h.gp, .int .i64 h.ln, .int .i64 h.rf, .int .i64 h.sp, .int .i64 h.pu, .int .i64 h.br, .int .i64 h.dr, .int .i64 h.lv, .int .i64 h.dO, .int .i64 h.ld, .int .i64 h.qu], .int .i64 a, .int .i64 b] w (isAns w (Hs.fltK h a b) (Hs.fltN h a b)) := by
  have HO : Hid h.Ok := Hs.ok_of (Hs.fault_zero hf).1
  have HF : Hid (h.fault = 0) := hf
  have HS : Hid (Fl h b ⟨h.level a, 0, 0⟩ (absI (h.level b - h.level a)) 0) := flt_start hf q1 q2
  have fl12 := HO.out.fl2
  have dr1 := HO.out.dr1
  have HKV : Hid (∀ n, (Hs.fltB h a b = true → flN h 3000 (absI (h.level b - h.level a)) 0 = n → Hs.fltK h a b = 0 ∧ Hs.fltN h a b = n)) := fun n h1 h2 => flt_there h1 h2
  have HKW : Hid (Hs.fltB h a b = false → Hs.fltK h a b = 2 ∧ Hs.fltN h a b = 0) := fun h1 => flt_not h1
  have HB0 : Hid (Hs.fltB h a b = flB h 3000 (absI (h.level b - h.level a)) 0) := rfl
  obtain ⟨K, hK⟩ : ∃ K, Hs.fltK h a b = K := ⟨_, rfl⟩
  obtain ⟨V, hV⟩ : ∃ V, Hs.fltN h a b = V := ⟨_, rfl⟩
  rw [hK, hV] at HKV HKW ⊢
  obtain ⟨B, hB⟩ : ∃ B, Hs.fltB h a b = B := ⟨_, rfl⟩
  rw [hB] at HKV HKW HB0
  obtain ⟨L, hL⟩ : ∃ L, h.level a = L := ⟨_, rfl⟩
  have CLv : ∀ W, Calls Try.prog 41 #[.agg #[.int .i64 h.fl, .int .i64 h.gp, .int .i64 h.ln, .int .i64 h.rf, .int .i64 h.sp, .int .i64 h.pu, .int .i64 h.br, .int .i64 h.dr, .int .i64 h.lv, .int .i64 h.dO, .int .i64 h.ld, .int .i64 h.qu], .int .i64 a] W fun e w' => e = .returned (.int .i64 L) ∧ Below W.heap.size W w' := fun W => (specLevel_any h HO.out a q1 (by omega) W).mono (by rintro e w' ⟨rfl, rfl⟩; rw [hL]; exact ⟨rfl, (Below.refl _ _).alloc (Nat.le_refl _) _⟩)
  rw [hL] at HS HKV HB0
  obtain ⟨D, hD⟩ : ∃ D, absI (h.level b - L) = D := ⟨_, rfl⟩
  rw [hD] at HS HKV HB0
  clear hK hV hB hL hD hf
  obtain ⟨b0, hb0⟩ : ∃ b0, b0 = w.heap.size := ⟨_, rfl⟩
  obtain ⟨b1, hb1⟩ : ∃ b1, b1 = b0 + 1 := ⟨_, rfl⟩
  obtain ⟨W0, hW0⟩ : ∃ W0, W0 = (w.alloc (.cells #[.int .i64 h.fl, .int .i64 h.gp, .int .i64 h.ln, .int .i64 h.rf, .int .i64 h.sp, .int .i64 h.pu, .int .i64 h.br, .int .i64 h.dr, .int .i64 h.lv, .int .i64 h.dO, .int .i64 h.ld, .int .i64 h.qu] 27)).alloc (.cells #[.int .i64 0, .int .i64 0] 25) := ⟨_, rfl⟩
  have F0 : Hid (Blk W0 b0 [.int .i64 h.fl, .int .i64 h.gp, .int .i64 h.ln, .int .i64 h.rf, .int .i64 h.sp, .int .i64 h.pu, .int .i64 h.br, .int .i64 h.dr, .int .i64 h.lv, .int .i64 h.dO, .int .i64 h.ld, .int .i64 h.qu]) := by rw [hW0]; exact ((Blk.at_ _ #[.int .i64 h.fl, .int .i64 h.gp, .int .i64 h.ln, .int .i64 h.rf, .int .i64 h.sp, .int .i64 h.pu, .int .i64 h.br, .int .i64 h.dr, .int .i64 h.lv, .int .i64 h.dO, .int .i64 h.ld, .int .i64 h.qu] _ _ hb0).alloc _)
  have F1 : Hid (Blk W0 b1 [.int .i64 0, .int .i64 0]) := by rw [hW0]; exact (Blk.at_ _ #[.int .i64 0, .int .i64 0] _ _ (by simp; omega))
  have FB : Hid (Below w.heap.size w W0) := by rw [hW0]; exact (((Below.refl _ _).alloc (Nat.le_refl _) _).alloc (by simp) _)
  have leb0 : w.heap.size ≤ b0 := by omega
  have leb1 : w.heap.size ≤ b1 := by omega
  have l01 : b0 < b1 := by omega
  go_enter Try.func24, Try.ntmps24
  go_upto_region 1 with fail
  rw [← hb0, ← hb1, ← hW0]
  clear hb0 hb1 hW0
  go_upto_region 2 with (first | (refine load_blk 27 _ Try.underlying27 (by kernel_rfl) F0.out rfl rfl rfl ?_) | (go_at_call 41; refine (CLv _).mono ?_; rintro e w1 ⟨rfl, hb⟩; have F0 : Hid (Blk w1 b0 [.int .i64 h.fl, .int .i64 h.gp, .int .i64 h.ln, .int .i64 h.rf, .int .i64 h.sp, .int .i64 h.pu, .int .i64 h.br, .int .i64 h.dr, .int .i64 h.lv, .int .i64 h.dO, .int .i64 h.ld, .int .i64 h.qu]) := F0.out.below hb F0.out.lt; have F1 : Hid (Blk w1 b1 [.int .i64 0, .int .i64 0]) := F1.out.below hb F1.out.lt; have FB : Hid (Below w.heap.size w w1) := FB.out.trans (hb.mono FB.out.size); clear hb) | (refine store_new [.int .i64 L, .int .i64 0, .int .i64 0] 44 _ _ (by kernel_rfl) (by kernel_rfl) (by kernel_rfl) rfl rfl rfl rfl ?_))
  have FB0 := FB
  obtain ⟨b2, hbb⟩ : ∃ b2, b2 = w1.heap.size := ⟨_, rfl⟩
  obtain ⟨w2, hw2⟩ : ∃ w2, w2 = w1.alloc (.cells #[.int .i64 L, .int .i64 0, .int .i64 0] 44) := ⟨_, rfl⟩
  have nb2b0 : b0 < b2 := by rw [hbb]; exact F0.out.lt
  have nb2b1 : b1 < b2 := by rw [hbb]; exact F1.out.lt
  have F0 : Hid (Blk w2 b0 [.int .i64 h.fl, .int .i64 h.gp, .int .i64 h.ln, .int .i64 h.rf, .int .i64 h.sp, .int .i64 h.pu, .int .i64 h.br, .int .i64 h.dr, .int .i64 h.lv, .int .i64 h.dO, .int .i64 h.ld, .int .i64 h.qu]) := by rw [hw2]; exact F0.out.alloc _
  have F1 : Hid (Blk w2 b1 [.int .i64 0, .int .i64 0]) := by rw [hw2]; exact F1.out.alloc _
  have F2 : Hid (Blk w2 b2 [.int .i64 L, .int .i64 0, .int .i64 0]) := by rw [hw2]; exact Blk.at_ w1 #[.int .i64 L, .int .i64 0, .int .i64 0] _ _ hbb
  have FB : Hid (Below w.heap.size w w2) := by rw [hw2]; exact FB.out.alloc FB.out.size _
  have leb2 : w.heap.size ≤ b2 := by rw [hbb]; exact FB0.out.size
  rw [← hw2, ← hbb]
  clear hbb hw2 FB0
  clear CLv
  go_wp2_with fail
  go_loopw [8] (fun nn wr => ∃ (n : Int) (g : Cs) (d v : Int), nn = .int .i64 n ∧ 0 ≤ n ∧ n ≤ 3000 ∧ Fl h b g d v ∧ B = flB h (3000 - n).toNat d v ∧ flN h 3000 D 0 = n + flN h (3000 - n).toNat d v ∧ Blk wr b0 [.int .i64 h.fl, .int .i64 h.gp, .int .i64 h.ln, .int .i64 h.rf, .int .i64 h.sp, .int .i64 h.pu, .int .i64 h.br, .int .i64 h.dr, .int .i64 h.lv, .int .i64 h.dO, .int .i64 h.ld, .int .i64 h.qu] ∧ Blk wr b1 [.int .i64 0, .int .i64 0] ∧ Blk wr b2 [.int .i64 g.pos, .int .i64 g.vel, .int .i64 g.door] ∧ Below w.heap.size w wr) (fun nn _ => (3000 - intOf nn).toNat)
  case atStart => exact ⟨0, ⟨L, 0, 0⟩, D, 0, rfl, by omega, by omega, HS.out, HB0.out, by rw [Int.zero_add]; rfl, F0.out, F1.out, F2.out, FB.out⟩
  case round =>
    obtain ⟨n, g, d, v, rfl, n1, n2, hfl, hB, hN, h_F0, h_F1, h_F2, hB⟩ := hrel
    clear F0 F1 F2 FB HS HB0
    have F0 : Hid (Blk wr b0 [.int .i64 h.fl, .int .i64 h.gp, .int .i64 h.ln, .int .i64 h.rf, .int .i64 h.sp, .int .i64 h.pu, .int .i64 h.br, .int .i64 h.dr, .int .i64 h.lv, .int .i64 h.dO, .int .i64 h.ld, .int .i64 h.qu]) := h_F0
    have F1 : Hid (Blk wr b1 [.int .i64 0, .int .i64 0]) := h_F1
    have F2 : Hid (Blk wr b2 [.int .i64 g.pos, .int .i64 g.vel, .int .i64 g.door]) := h_F2
    have FB : Hid (Below w.heap.size w wr) := hB
    clear h_F0 h_F1 h_F2 hB
    have HFl : Hid (Fl h b g d v) := hfl
    have HBB : Hid (B = flB h (3000 - n).toNat d v) := hB
    have HNN : Hid (flN h 3000 D 0 = n + flN h (3000 - n).toNat d v) := hN
    have HC : Hid (CarOk h g) := fl_carOk HF.out q3 q4 hfl
    have fr := car_far HC.out
    have HRe : Hid (Hs.reachB h g b = decide (v = 0 ∧ d ≤ h.lv)) := hfl.reach HO.out
    clear hfl hB hN
    have CL : ∀ W, Calls Try.prog 42 #[.agg #[.int .i64 h.fl, .int .i64 h.gp, .int .i64 h.ln, .int .i64 h.rf, .int .i64 h.sp, .int .i64 h.pu, .int .i64 h.br, .int .i64 h.dr, .int .i64 h.lv, .int .i64 h.dO, .int .i64 h.ld, .int .i64 h.qu], .agg #[.int .i64 g.pos, .int .i64 g.vel, .int .i64 g.door], .int .i64 b] W fun e w' => e = .returned (.bool (Hs.reachB h g b)) ∧ Below W.heap.size W w' := fun W => l4Reached_any h HO.out g b q3 (by omega) (by omega) (by omega) W
    cases hr : Hs.reachB h g b with
    | true =>
      have hc : v = 0 ∧ d ≤ h.lv := of_decide_eq_true (HRe.out.symm.trans hr)
      have z := HKV.out n (by rw [HBB.out]; exact flB_there hc) (by rw [HNN.out, flN_there hc]; omega)
      have HZ : Hid (0 = K ∧ n = V) := ⟨z.1.symm, z.2.symm⟩
      rw [hr] at CL
      clear z hc hr HRe
      go_wp2_with (first | (refine load_blk 27 _ Try.underlying27 (by kernel_rfl) F0.out rfl rfl rfl ?_) | (refine load_blk 44 _ Try.underlying44 (by kernel_rfl) F2.out rfl rfl rfl ?_) | (go_at_call 42; refine (CL _).mono ?_; rintro e w3 ⟨rfl, hb⟩; have F0 : Hid (Blk w3 b0 [.int .i64 h.fl, .int .i64 h.gp, .int .i64 h.ln, .int .i64 h.rf, .int .i64 h.sp, .int .i64 h.pu, .int .i64 h.br, .int .i64 h.dr, .int .i64 h.lv, .int .i64 h.dO, .int .i64 h.ld, .int .i64 h.qu]) := F0.out.below hb F0.out.lt; have F1 : Hid (Blk w3 b1 [.int .i64 0, .int .i64 0]) := F1.out.below hb F1.out.lt; have F2 : Hid (Blk w3 b2 [.int .i64 g.pos, .int .i64 g.vel, .int .i64 g.door]) := F2.out.below hb F2.out.lt; have FB : Hid (Below w.heap.size w w3) := FB.out.trans (hb.mono FB.out.size); clear hb) | (refine store_blk [.int .i64 0, .int .i64 n] 25 _ _ (by kernel_rfl) (by kernel_rfl) (by kernel_rfl) F1.out rfl rfl rfl rfl ?_))
      exact bodyPost_ret (v := .agg #[.int .i64 0, .int .i64 n]) ((F1.out.row [.int .i64 0, .int .i64 n]).res _ Try.results24 Try.underlying25 (by kernel_rfl) rfl) rfl ⟨ret_twoF HZ.out.1 HZ.out.2, below_row FB.out leb1 _⟩
    | false =>
      have HNc : Hid (¬ (v = 0 ∧ d ≤ h.lv)) := of_decide_eq_false (HRe.out.symm.trans hr)
      rw [hr] at CL
      clear hr HRe
      by_cases hlt : n < 3000
      · have hn : (n == 3000) = false := by simp; omega
        obtain ⟨x, hx⟩ : ∃ x, Hs.forC h g b = x := ⟨_, rfl⟩
        have fp := forC_push HO.out g b
        obtain ⟨g2, hg2⟩ : ∃ g2, stepC h g x 0 = g2 := ⟨_, rfl⟩
        have F2' := HFl.out.step HO.out q3 q4
        rw [hx] at fp F2'
        rw [hg2] at F2'
        have HF2 : Hid (Fl h b g2 (nD h d v) (nV h d v)) := F2'
        have CX : ∀ W, Calls Try.prog 44 #[.agg #[.int .i64 h.fl, .int .i64 h.gp, .int .i64 h.ln, .int .i64 h.rf, .int .i64 h.sp, .int .i64 h.pu, .int .i64 h.br, .int .i64 h.dr, .int .i64 h.lv, .int .i64 h.dO, .int .i64 h.ld, .int .i64 h.qu], .agg #[.int .i64 g.pos, .int .i64 g.vel, .int .i64 g.door], .int .i64 b] W (isCmd W x) := fun W => l4For_any h HO.out g b q3 (by omega) (by omega) (by omega) (by omega) (by omega) x hx W
        have CS : ∀ W, Calls Try.prog 43 #[.agg #[.int .i64 h.fl, .int .i64 h.gp, .int .i64 h.ln, .int .i64 h.rf, .int .i64 h.sp, .int .i64 h.pu, .int .i64 h.br, .int .i64 h.dr, .int .i64 h.lv, .int .i64 h.dO, .int .i64 h.ld, .int .i64 h.qu], .agg #[.int .i64 g.pos, .int .i64 g.vel, .int .i64 g.door], .agg #[.int .i64 x.push, .bool x.brk, .bool x.opn], .int .i64 0] W fun e w' => e = .returned (.agg #[.int .i64 g2.pos, .int .i64 g2.vel, .int .i64 g2.door]) ∧ Below W.heap.size W w' := fun W => l3Step_any h g x 0 HC.out fp.1 fp.2 (by omega) (by omega) g2 hg2 W
        have et : (3000 - n).toNat = (3000 - (n + 1)).toNat + 1 := by omega
        have HB2 : Hid (B = flB h (3000 - (n + 1)).toNat (nD h d v) (nV h d v)) := by show _ = _; rw [HBB.out, et, flB_go HNc.out]
        have HN2 : Hid (flN h 3000 D 0 = n + 1 + flN h (3000 - (n + 1)).toNat (nD h d v) (nV h d v)) := by show _ = _; rw [HNN.out, et, flN_go HNc.out]; omega
        clear F2' et hx hg2 fp HBB HNN HNc HFl
        go_upto_region 6 with (first | (refine load_blk 27 _ Try.underlying27 (by kernel_rfl) F0.out rfl rfl rfl ?_) | (refine load_blk 44 _ Try.underlying44 (by kernel_rfl) F2.out rfl rfl rfl ?_) | (go_at_call 42; refine (CL _).mono ?_; rintro e w3 ⟨rfl, hb⟩; have F0 : Hid (Blk w3 b0 [.int .i64 h.fl, .int .i64 h.gp, .int .i64 h.ln, .int .i64 h.rf, .int .i64 h.sp, .int .i64 h.pu, .int .i64 h.br, .int .i64 h.dr, .int .i64 h.lv, .int .i64 h.dO, .int .i64 h.ld, .int .i64 h.qu]) := F0.out.below hb F0.out.lt; have F1 : Hid (Blk w3 b1 [.int .i64 0, .int .i64 0]) := F1.out.below hb F1.out.lt; have F2 : Hid (Blk w3 b2 [.int .i64 g.pos, .int .i64 g.vel, .int .i64 g.door]) := F2.out.below hb F2.out.lt; have FB : Hid (Below w.heap.size w w3) := FB.out.trans (hb.mono FB.out.size); clear hb))
        clear CL
        go_cut [8] from 13 to 29 (fun p wx => p = .int .i64 n ∧ Blk wx b2 [.int .i64 g2.pos, .int .i64 g2.vel, .int .i64 g2.door] ∧ Blk wx b0 [.int .i64 h.fl, .int .i64 h.gp, .int .i64 h.ln, .int .i64 h.rf, .int .i64 h.sp, .int .i64 h.pu, .int .i64 h.br, .int .i64 h.dr, .int .i64 h.lv, .int .i64 h.dO, .int .i64 h.ld, .int .i64 h.qu] ∧ Blk wx b1 [.int .i64 0, .int .i64 0] ∧ Below w.heap.size w wx)
        case first =>
          have F0 : Hid (Blk w3.drew b0 [.int .i64 h.fl, .int .i64 h.gp, .int .i64 h.ln, .int .i64 h.rf, .int .i64 h.sp, .int .i64 h.pu, .int .i64 h.br, .int .i64 h.dr, .int .i64 h.lv, .int .i64 h.dO, .int .i64 h.ld, .int .i64 h.qu]) := F0.out.below (Below.refl _ _).drew F0.out.lt
          have F1 : Hid (Blk w3.drew b1 [.int .i64 0, .int .i64 0]) := F1.out.below (Below.refl _ _).drew F1.out.lt
          have F2 : Hid (Blk w3.drew b2 [.int .i64 g.pos, .int .i64 g.vel, .int .i64 g.door]) := F2.out.below (Below.refl _ _).drew F2.out.lt
          have FB : Hid (Below w.heap.size w w3.drew) := FB.out.drew
          refine wp_region_held_drew (S := (fun w'' => Blk w'' b0 ([.int .i64 h.fl, .int .i64 h.gp, .int .i64 h.ln, .int .i64 h.rf, .int .i64 h.sp, .int .i64 h.pu, .int .i64 h.br, .int .i64 h.dr, .int .i64 h.lv, .int .i64 h.dO, .int .i64 h.ld, .int .i64 h.qu]))) (by kernel_rfl) (by (try dsimp only); first | exact F0.out | go_keep) (fun hHeld => ?_)
          obtain ⟨v_1, hw1⟩ : ∃ v_1, v_1 = w3.drew := ⟨_, rfl⟩
          have F0 : Hid (Blk v_1 b0 [.int .i64 h.fl, .int .i64 h.gp, .int .i64 h.ln, .int .i64 h.rf, .int .i64 h.sp, .int .i64 h.pu, .int .i64 h.br, .int .i64 h.dr, .int .i64 h.lv, .int .i64 h.dO, .int .i64 h.ld, .int .i64 h.qu]) := by rw [hw1]; exact F0.out
          have F1 : Hid (Blk v_1 b1 [.int .i64 0, .int .i64 0]) := by rw [hw1]; exact F1.out
          have F2 : Hid (Blk v_1 b2 [.int .i64 g.pos, .int .i64 g.vel, .int .i64 g.door]) := by rw [hw1]; exact F2.out
          have FB : Hid (Below w.heap.size w v_1) := by rw [hw1]; exact FB.out
          rw [← hw1] at hHeld ⊢
          clear hw1
          refine tkz 0 rfl ?_ (hy := Or.inl ⟨by kernel_rfl, fun wx hSw => exec_load_blk 27 _ Try.underlying27 (by kernel_rfl) rfl rfl hSw⟩)
          refine tkz 2 rfl ?_ (hy := Or.inl ⟨by kernel_rfl, fun wx hSw => exec_load_blk 27 _ Try.underlying27 (by kernel_rfl) rfl rfl hSw⟩)
          refine tkz 4 rfl ?_
          refine wpAnyH_ready (rs := [1, 3]) (by kernel_rfl) (by simp) ?_
          refine (AllReadyH.cons rfl (fun K hK => ?_) (AllReadyH.cons rfl (fun K hK => ?_) AllReadyH.nil))
          · have x2_0 := F2.out.c 0 _ rfl
            have x2_1 := F2.out.c 1 _ rfl
            have x2_2 := F2.out.c 2 _ rfl
            go_simp
            refine hK.out _ _ (by (try dsimp only); first | exact F0.out | go_keep) (fun hHeld => ?_)
            clear hK K
            try simp only [Act.put, List.getElem_toArray, List.getElem_cons_succ, List.getElem_cons_zero, List.setIfInBounds_toArray, List.set_cons_zero, List.set_cons_succ]
            refine wpAnyH_ready (rs := [3]) (by kernel_rfl) (by simp) ?_
            refine (AllReadyH.cons rfl (fun K hK => ?_) AllReadyH.nil)
            have x2_0 := F2.out.c 0 _ rfl
            have x2_1 := F2.out.c 1 _ rfl
            have x2_2 := F2.out.c 2 _ rfl
            go_simp
            refine hK.out _ _ (by (try dsimp only); first | exact F0.out | go_keep) (fun hHeld => ?_)
            clear hK K
            try simp only [Act.put, List.getElem_toArray, List.getElem_cons_succ, List.getElem_cons_zero, List.setIfInBounds_toArray, List.set_cons_zero, List.set_cons_succ]
            refine wpAnyH_ready (rs := [5]) (by kernel_rfl) (by simp) ?_
            refine (AllReadyH.cons rfl (fun K hK => ?_) AllReadyH.nil)
            go_simp
            refine (CX _).mono ?_
            rintro e v_2 ⟨rfl, hb⟩
            have F0 : Hid (Blk v_2 b0 [.int .i64 h.fl, .int .i64 h.gp, .int .i64 h.ln, .int .i64 h.rf, .int .i64 h.sp, .int .i64 h.pu, .int .i64 h.br, .int .i64 h.dr, .int .i64 h.lv, .int .i64 h.dO, .int .i64 h.ld, .int .i64 h.qu]) := F0.out.below hb F0.out.lt
            have F1 : Hid (Blk v_2 b1 [.int .i64 0, .int .i64 0]) := F1.out.below hb F1.out.lt
            have F2 : Hid (Blk v_2 b2 [.int .i64 g.pos, .int .i64 g.vel, .int .i64 g.door]) := F2.out.below hb F2.out.lt
            have FB : Hid (Below w.heap.size w v_2) := FB.out.trans (hb.mono FB.out.size)
            clear hb
            try dsimp only
            refine hK.out _ _ (by (try dsimp only); first | exact F0.out | go_keep) (fun hHeld => ?_)
            clear hK K
            try simp only [Act.put, List.getElem_toArray, List.getElem_cons_succ, List.getElem_cons_zero, List.setIfInBounds_toArray, List.set_cons_zero, List.set_cons_succ]
            refine wpAnyH_ready (rs := [6]) (by kernel_rfl) (by simp) ?_
            refine (AllReadyH.cons rfl (fun K hK => ?_) AllReadyH.nil)
            go_simp
            refine (CS _).mono ?_
            rintro e v_3 ⟨rfl, hb⟩
            have F0 : Hid (Blk v_3 b0 [.int .i64 h.fl, .int .i64 h.gp, .int .i64 h.ln, .int .i64 h.rf, .int .i64 h.sp, .int .i64 h.pu, .int .i64 h.br, .int .i64 h.dr, .int .i64 h.lv, .int .i64 h.dO, .int .i64 h.ld, .int .i64 h.qu]) := F0.out.below hb F0.out.lt
            have F1 : Hid (Blk v_3 b1 [.int .i64 0, .int .i64 0]) := F1.out.below hb F1.out.lt
            have F2 : Hid (Blk v_3 b2 [.int .i64 g.pos, .int .i64 g.vel, .int .i64 g.door]) := F2.out.below hb F2.out.lt
            have FB : Hid (Below w.heap.size w v_3) := FB.out.trans (hb.mono FB.out.size)
            clear hb
            try dsimp only
            refine hK.out _ _ (by (try dsimp only); first | exact F0.out | go_keep) (fun hHeld => ?_)
            clear hK K
            try simp only [Act.put, List.getElem_toArray, List.getElem_cons_succ, List.getElem_cons_zero, List.setIfInBounds_toArray, List.set_cons_zero, List.set_cons_succ]
            refine wpAnyH_ready (rs := [7]) (by kernel_rfl) (by simp) ?_
            refine (AllReadyH.cons rfl (fun K hK => ?_) AllReadyH.nil)
            have k0 := F2.out.c 0 _ rfl
            have k1 := F2.out.c 1 _ rfl
            have k2 := F2.out.c 2 _ rfl
            have kf0 := F2.out.f 0 (Nat.le_of_ble_eq_true rfl)
            have kf1 := F2.out.f 1 (Nat.le_of_ble_eq_true rfl)
            have kf2 := F2.out.f 2 (Nat.le_of_ble_eq_true rfl)
            go_simp
            obtain ⟨v_4, hw2⟩ : ∃ v_4, v_4 = putB v_3 b2 0 [.int .i64 g2.pos, .int .i64 g2.vel, .int .i64 g2.door] := ⟨_, rfl⟩
            change K _ (putB v_3 b2 0 [.int .i64 g2.pos, .int .i64 g2.vel, .int .i64 g2.door])
            rw [← hw2]
            clear k0 kf0 k1 kf1 k2 kf2
            have F0 : Hid (Blk v_4 b0 [.int .i64 h.fl, .int .i64 h.gp, .int .i64 h.ln, .int .i64 h.rf, .int .i64 h.sp, .int .i64 h.pu, .int .i64 h.br, .int .i64 h.dr, .int .i64 h.lv, .int .i64 h.dO, .int .i64 h.ld, .int .i64 h.qu]) := by rw [hw2]; exact Blk.putB_other (by omega) _ 0 F0.out
            have F1 : Hid (Blk v_4 b1 [.int .i64 0, .int .i64 0]) := by rw [hw2]; exact Blk.putB_other (by omega) _ 0 F1.out
            have F2 : Hid (Blk v_4 b2 [.int .i64 g2.pos, .int .i64 g2.vel, .int .i64 g2.door]) := by rw [hw2]; exact F2.out.put [.int .i64 g2.pos, .int .i64 g2.vel, .int .i64 g2.door] rfl
            have FB : Hid (Below w.heap.size w v_4) := by rw [hw2]; exact below_putB FB.out (by omega) _ 0
            clear hw2
            refine hK.out _ _ (by (try dsimp only); first | exact F0.out | go_keep) (fun hHeld => ?_)
            clear hK K
            try simp only [Act.put, List.getElem_toArray, List.getElem_cons_succ, List.getElem_cons_zero, List.setIfInBounds_toArray, List.set_cons_zero, List.set_cons_succ]
            refine wpAnyH_done (by kernel_rfl) ?_ _
            go_wp2_with fail
            go_meet
            case rel => exact ⟨rfl, F2.out, F0.out, F1.out, FB.out⟩
          · have x2_0 := F2.out.c 0 _ rfl
            have x2_1 := F2.out.c 1 _ rfl
            have x2_2 := F2.out.c 2 _ rfl
            go_simp
            refine hK.out _ _ (by (try dsimp only); first | exact F0.out | go_keep) (fun hHeld => ?_)
            clear hK K
            try simp only [Act.put, List.getElem_toArray, List.getElem_cons_succ, List.getElem_cons_zero, List.setIfInBounds_toArray, List.set_cons_zero, List.set_cons_succ]
            refine wpAnyH_ready (rs := [1, 5]) (by kernel_rfl) (by simp) ?_
            refine (AllReadyH.cons rfl (fun K hK => ?_) (AllReadyH.cons rfl (fun K hK => ?_) AllReadyH.nil))
            · have x2_0 := F2.out.c 0 _ rfl
              have x2_1 := F2.out.c 1 _ rfl
              have x2_2 := F2.out.c 2 _ rfl
              go_simp
              refine hK.out _ _ (by (try dsimp only); first | exact F0.out | go_keep) (fun hHeld => ?_)
              clear hK K
              try simp only [Act.put, List.getElem_toArray, List.getElem_cons_succ, List.getElem_cons_zero, List.setIfInBounds_toArray, List.set_cons_zero, List.set_cons_succ]
              refine wpAnyH_ready (rs := [5]) (by kernel_rfl) (by simp) ?_
              refine (AllReadyH.cons rfl (fun K hK => ?_) AllReadyH.nil)
              go_simp
              refine (CX _).mono ?_
              rintro e v_5 ⟨rfl, hb⟩
              have F0 : Hid (Blk v_5 b0 [.int .i64 h.fl, .int .i64 h.gp, .int .i64 h.ln, .int .i64 h.rf, .int .i64 h.sp, .int .i64 h.pu, .int .i64 h.br, .int .i64 h.dr, .int .i64 h.lv, .int .i64 h.dO, .int .i64 h.ld, .int .i64 h.qu]) := F0.out.below hb F0.out.lt
              have F1 : Hid (Blk v_5 b1 [.int .i64 0, .int .i64 0]) := F1.out.below hb F1.out.lt
              have F2 : Hid (Blk v_5 b2 [.int .i64 g.pos, .int .i64 g.vel, .int .i64 g.door]) := F2.out.below hb F2.out.lt
              have FB : Hid (Below w.heap.size w v_5) := FB.out.trans (hb.mono FB.out.size)
              clear hb
              try dsimp only
              refine hK.out _ _ (by (try dsimp only); first | exact F0.out | go_keep) (fun hHeld => ?_)
              clear hK K
              try simp only [Act.put, List.getElem_toArray, List.getElem_cons_succ, List.getElem_cons_zero, List.setIfInBounds_toArray, List.set_cons_zero, List.set_cons_succ]
              refine wpAnyH_ready (rs := [6]) (by kernel_rfl) (by simp) ?_
              refine (AllReadyH.cons rfl (fun K hK => ?_) AllReadyH.nil)
              go_simp
              refine (CS _).mono ?_
              rintro e v_6 ⟨rfl, hb⟩
              have F0 : Hid (Blk v_6 b0 [.int .i64 h.fl, .int .i64 h.gp, .int .i64 h.ln, .int .i64 h.rf, .int .i64 h.sp, .int .i64 h.pu, .int .i64 h.br, .int .i64 h.dr, .int .i64 h.lv, .int .i64 h.dO, .int .i64 h.ld, .int .i64 h.qu]) := F0.out.below hb F0.out.lt
              have F1 : Hid (Blk v_6 b1 [.int .i64 0, .int .i64 0]) := F1.out.below hb F1.out.lt
              have F2 : Hid (Blk v_6 b2 [.int .i64 g.pos, .int .i64 g.vel, .int .i64 g.door]) := F2.out.below hb F2.out.lt
              have FB : Hid (Below w.heap.size w v_6) := FB.out.trans (hb.mono FB.out.size)
              clear hb
              try dsimp only
              refine hK.out _ _ (by (try dsimp only); first | exact F0.out | go_keep) (fun hHeld => ?_)
              clear hK K
              try simp only [Act.put, List.getElem_toArray, List.getElem_cons_succ, List.getElem_cons_zero, List.setIfInBounds_toArray, List.set_cons_zero, List.set_cons_succ]
              refine wpAnyH_ready (rs := [7]) (by kernel_rfl) (by simp) ?_
              refine (AllReadyH.cons rfl (fun K hK => ?_) AllReadyH.nil)
              have k0 := F2.out.c 0 _ rfl
              have k1 := F2.out.c 1 _ rfl
              have k2 := F2.out.c 2 _ rfl
              have kf0 := F2.out.f 0 (Nat.le_of_ble_eq_true rfl)
              have kf1 := F2.out.f 1 (Nat.le_of_ble_eq_true rfl)
              have kf2 := F2.out.f 2 (Nat.le_of_ble_eq_true rfl)
              go_simp
              obtain ⟨v_7, hw2⟩ : ∃ v_7, v_7 = putB v_6 b2 0 [.int .i64 g2.pos, .int .i64 g2.vel, .int .i64 g2.door] := ⟨_, rfl⟩
              change K _ (putB v_6 b2 0 [.int .i64 g2.pos, .int .i64 g2.vel, .int .i64 g2.door])
              rw [← hw2]
              clear k0 kf0 k1 kf1 k2 kf2
              have F0 : Hid (Blk v_7 b0 [.int .i64 h.fl, .int .i64 h.gp, .int .i64 h.ln, .int .i64 h.rf, .int .i64 h.sp, .int .i64 h.pu, .int .i64 h.br, .int .i64 h.dr, .int .i64 h.lv, .int .i64 h.dO, .int .i64 h.ld, .int .i64 h.qu]) := by rw [hw2]; exact Blk.putB_other (by omega) _ 0 F0.out
              have F1 : Hid (Blk v_7 b1 [.int .i64 0, .int .i64 0]) := by rw [hw2]; exact Blk.putB_other (by omega) _ 0 F1.out
              have F2 : Hid (Blk v_7 b2 [.int .i64 g2.pos, .int .i64 g2.vel, .int .i64 g2.door]) := by rw [hw2]; exact F2.out.put [.int .i64 g2.pos, .int .i64 g2.vel, .int .i64 g2.door] rfl
              have FB : Hid (Below w.heap.size w v_7) := by rw [hw2]; exact below_putB FB.out (by omega) _ 0
              clear hw2
              refine hK.out _ _ (by (try dsimp only); first | exact F0.out | go_keep) (fun hHeld => ?_)
              clear hK K
              try simp only [Act.put, List.getElem_toArray, List.getElem_cons_succ, List.getElem_cons_zero, List.setIfInBounds_toArray, List.set_cons_zero, List.set_cons_succ]
              refine wpAnyH_done (by kernel_rfl) ?_ _
              go_wp2_with fail
              go_meet
              case rel => exact ⟨rfl, F2.out, F0.out, F1.out, FB.out⟩
            · go_simp
              refine (CX _).mono ?_
              rintro e v_8 ⟨rfl, hb⟩
              have F0 : Hid (Blk v_8 b0 [.int .i64 h.fl, .int .i64 h.gp, .int .i64 h.ln, .int .i64 h.rf, .int .i64 h.sp, .int .i64 h.pu, .int .i64 h.br, .int .i64 h.dr, .int .i64 h.lv, .int .i64 h.dO, .int .i64 h.ld, .int .i64 h.qu]) := F0.out.below hb F0.out.lt
              have F1 : Hid (Blk v_8 b1 [.int .i64 0, .int .i64 0]) := F1.out.below hb F1.out.lt
              have F2 : Hid (Blk v_8 b2 [.int .i64 g.pos, .int .i64 g.vel, .int .i64 g.door]) := F2.out.below hb F2.out.lt
              have FB : Hid (Below w.heap.size w v_8) := FB.out.trans (hb.mono FB.out.size)
              clear hb
              try dsimp only
              refine hK.out _ _ (by (try dsimp only); first | exact F0.out | go_keep) (fun hHeld => ?_)
              clear hK K
              try simp only [Act.put, List.getElem_toArray, List.getElem_cons_succ, List.getElem_cons_zero, List.setIfInBounds_toArray, List.set_cons_zero, List.set_cons_succ]
              refine wpAnyH_ready (rs := [1]) (by kernel_rfl) (by simp) ?_
              refine (AllReadyH.cons rfl (fun K hK => ?_) AllReadyH.nil)
              have x2_0 := F2.out.c 0 _ rfl
              have x2_1 := F2.out.c 1 _ rfl
              have x2_2 := F2.out.c 2 _ rfl
              go_simp
              refine hK.out _ _ (by (try dsimp only); first | exact F0.out | go_keep) (fun hHeld => ?_)
              clear hK K
              try simp only [Act.put, List.getElem_toArray, List.getElem_cons_succ, List.getElem_cons_zero, List.setIfInBounds_toArray, List.set_cons_zero, List.set_cons_succ]
              refine wpAnyH_ready (rs := [6]) (by kernel_rfl) (by simp) ?_
              refine (AllReadyH.cons rfl (fun K hK => ?_) AllReadyH.nil)
              go_simp
              refine (CS _).mono ?_
              rintro e v_9 ⟨rfl, hb⟩
              have F0 : Hid (Blk v_9 b0 [.int .i64 h.fl, .int .i64 h.gp, .int .i64 h.ln, .int .i64 h.rf, .int .i64 h.sp, .int .i64 h.pu, .int .i64 h.br, .int .i64 h.dr, .int .i64 h.lv, .int .i64 h.dO, .int .i64 h.ld, .int .i64 h.qu]) := F0.out.below hb F0.out.lt
              have F1 : Hid (Blk v_9 b1 [.int .i64 0, .int .i64 0]) := F1.out.below hb F1.out.lt
              have F2 : Hid (Blk v_9 b2 [.int .i64 g.pos, .int .i64 g.vel, .int .i64 g.door]) := F2.out.below hb F2.out.lt
              have FB : Hid (Below w.heap.size w v_9) := FB.out.trans (hb.mono FB.out.size)
              clear hb
              try dsimp only
              refine hK.out _ _ (by (try dsimp only); first | exact F0.out | go_keep) (fun hHeld => ?_)
              clear hK K
              try simp only [Act.put, List.getElem_toArray, List.getElem_cons_succ, List.getElem_cons_zero, List.setIfInBounds_toArray, List.set_cons_zero, List.set_cons_succ]
              refine wpAnyH_ready (rs := [7]) (by kernel_rfl) (by simp) ?_
              refine (AllReadyH.cons rfl (fun K hK => ?_) AllReadyH.nil)
              have k0 := F2.out.c 0 _ rfl
              have k1 := F2.out.c 1 _ rfl
              have k2 := F2.out.c 2 _ rfl
              have kf0 := F2.out.f 0 (Nat.le_of_ble_eq_true rfl)
              have kf1 := F2.out.f 1 (Nat.le_of_ble_eq_true rfl)
              have kf2 := F2.out.f 2 (Nat.le_of_ble_eq_true rfl)
              go_simp
              obtain ⟨v_10, hw2⟩ : ∃ v_10, v_10 = putB v_9 b2 0 [.int .i64 g2.pos, .int .i64 g2.vel, .int .i64 g2.door] := ⟨_, rfl⟩
              change K _ (putB v_9 b2 0 [.int .i64 g2.pos, .int .i64 g2.vel, .int .i64 g2.door])
              rw [← hw2]
              clear k0 kf0 k1 kf1 k2 kf2
              have F0 : Hid (Blk v_10 b0 [.int .i64 h.fl, .int .i64 h.gp, .int .i64 h.ln, .int .i64 h.rf, .int .i64 h.sp, .int .i64 h.pu, .int .i64 h.br, .int .i64 h.dr, .int .i64 h.lv, .int .i64 h.dO, .int .i64 h.ld, .int .i64 h.qu]) := by rw [hw2]; exact Blk.putB_other (by omega) _ 0 F0.out
              have F1 : Hid (Blk v_10 b1 [.int .i64 0, .int .i64 0]) := by rw [hw2]; exact Blk.putB_other (by omega) _ 0 F1.out
              have F2 : Hid (Blk v_10 b2 [.int .i64 g2.pos, .int .i64 g2.vel, .int .i64 g2.door]) := by rw [hw2]; exact F2.out.put [.int .i64 g2.pos, .int .i64 g2.vel, .int .i64 g2.door] rfl
              have FB : Hid (Below w.heap.size w v_10) := by rw [hw2]; exact below_putB FB.out (by omega) _ 0
              clear hw2
              refine hK.out _ _ (by (try dsimp only); first | exact F0.out | go_keep) (fun hHeld => ?_)
              clear hK K
              try simp only [Act.put, List.getElem_toArray, List.getElem_cons_succ, List.getElem_cons_zero, List.setIfInBounds_toArray, List.set_cons_zero, List.set_cons_succ]
              refine wpAnyH_done (by kernel_rfl) ?_ _
              go_wp2_with fail
              go_meet
              case rel => exact ⟨rfl, F2.out, F0.out, F1.out, FB.out⟩
        case rest =>
        obtain ⟨rfl, h_F2, h_F0, h_F1, hB⟩ := hcut
        have F0 : Hid (Blk wc b0 [.int .i64 h.fl, .int .i64 h.gp, .int .i64 h.ln, .int .i64 h.rf, .int .i64 h.sp, .int .i64 h.pu, .int .i64 h.br, .int .i64 h.dr, .int .i64 h.lv, .int .i64 h.dO, .int .i64 h.ld, .int .i64 h.qu]) := h_F0
        have F1 : Hid (Blk wc b1 [.int .i64 0, .int .i64 0]) := h_F1
        have F2 : Hid (Blk wc b2 [.int .i64 g2.pos, .int .i64 g2.vel, .int .i64 g2.door]) := h_F2
        have FB : Hid (Below w.heap.size w wc) := hB
        clear h_F0 h_F1 h_F2 hB
        clear CX CS
        go_wp2_with fail
        go_roundw
        case rel => exact ⟨n + 1, g2, nD h d v, nV h d v, rfl, by omega, by omega, HF2.out, HB2.out, HN2.out, F0.out, F1.out, F2.out, FB.out⟩
        case measure => simp [intOf]; omega
      · have hn : (n == 3000) = true := by simp; omega
        have z := HKW.out (by rw [HBB.out, show (3000 - n).toNat = 0 by omega]; exact decide_eq_false HNc.out)
        have HZ : Hid (2 = K ∧ 0 = V) := ⟨z.1.symm, z.2.symm⟩
        clear z
        go_wp2_with (first | (refine load_blk 27 _ Try.underlying27 (by kernel_rfl) F0.out rfl rfl rfl ?_) | (refine load_blk 44 _ Try.underlying44 (by kernel_rfl) F2.out rfl rfl rfl ?_) | (go_at_call 42; refine (CL _).mono ?_; rintro e w3 ⟨rfl, hb⟩; have F0 : Hid (Blk w3 b0 [.int .i64 h.fl, .int .i64 h.gp, .int .i64 h.ln, .int .i64 h.rf, .int .i64 h.sp, .int .i64 h.pu, .int .i64 h.br, .int .i64 h.dr, .int .i64 h.lv, .int .i64 h.dO, .int .i64 h.ld, .int .i64 h.qu]) := F0.out.below hb F0.out.lt; have F1 : Hid (Blk w3 b1 [.int .i64 0, .int .i64 0]) := F1.out.below hb F1.out.lt; have F2 : Hid (Blk w3 b2 [.int .i64 g.pos, .int .i64 g.vel, .int .i64 g.door]) := F2.out.below hb F2.out.lt; have FB : Hid (Below w.heap.size w w3) := FB.out.trans (hb.mono FB.out.size); clear hb) | (refine store_blk [.int .i64 2, .int .i64 0] 25 _ _ (by kernel_rfl) (by kernel_rfl) (by kernel_rfl) F1.out rfl rfl rfl rfl ?_))
        exact bodyPost_ret (v := .agg #[.int .i64 2, .int .i64 0]) ((F1.out.row [.int .i64 2, .int .i64 0]).res _ Try.results24 Try.underlying25 (by kernel_rfl) rfl) rfl ⟨ret_twoF HZ.out.1 HZ.out.2, below_row FB.out leb1 _⟩
set_option maxRecDepth 20000 in
set_option maxHeartbeats 16000000 in
theorem specFlightTicks_any (h : Hs) (a b : Int) (w : World) :
    Calls Try.prog 8 #[.agg #[.int .i64 h.fl, .int .i64 h.gp, .int .i64 h.ln, .int .i64 h.rf, .int .i64 h.sp, .int .i64 h.pu, .int .i64 h.br, .int .i64 h.dr, .int .i64 h.lv, .int .i64 h.dO, .int .i64 h.ld, .int .i64 h.qu], .int .i64 a, .int .i64 b] w (isAns w (Hs.ftK h a b) (Hs.ftV h a b)) := by
  obtain ⟨K, hK⟩ : ∃ K, Hs.ftK h a b = K := ⟨_, rfl⟩
  obtain ⟨V, hV⟩ : ∃ V, Hs.ftV h a b = V := ⟨_, rfl⟩
  rw [hK, hV]
  have HK : Hid (Hs.ftK h a b = K) := hK
  have HV : Hid (Hs.ftV h a b = V) := hV
  obtain ⟨ka, hka⟩ : ∃ ka, h.fault = ka := ⟨_, rfl⟩
  have HA : Hid (h.fault = ka) := hka
  clear hK hV hka
  obtain ⟨b0, hb0⟩ : ∃ b0, b0 = w.heap.size := ⟨_, rfl⟩
  obtain ⟨b1, hb1⟩ : ∃ b1, b1 = b0 + 1 := ⟨_, rfl⟩
  obtain ⟨W0, hW0⟩ : ∃ W0, W0 = (w.alloc (.cells #[.int .i64 h.fl, .int .i64 h.gp, .int .i64 h.ln, .int .i64 h.rf, .int .i64 h.sp, .int .i64 h.pu, .int .i64 h.br, .int .i64 h.dr, .int .i64 h.lv, .int .i64 h.dO, .int .i64 h.ld, .int .i64 h.qu] 27)).alloc (.cells #[.int .i64 0, .int .i64 0] 25) := ⟨_, rfl⟩
  have F0 : Hid (Blk W0 b0 [.int .i64 h.fl, .int .i64 h.gp, .int .i64 h.ln, .int .i64 h.rf, .int .i64 h.sp, .int .i64 h.pu, .int .i64 h.br, .int .i64 h.dr, .int .i64 h.lv, .int .i64 h.dO, .int .i64 h.ld, .int .i64 h.qu]) := by rw [hW0]; exact ((Blk.at_ _ #[.int .i64 h.fl, .int .i64 h.gp, .int .i64 h.ln, .int .i64 h.rf, .int .i64 h.sp, .int .i64 h.pu, .int .i64 h.br, .int .i64 h.dr, .int .i64 h.lv, .int .i64 h.dO, .int .i64 h.ld, .int .i64 h.qu] _ _ hb0).alloc _)
  have F1 : Hid (Blk W0 b1 [.int .i64 0, .int .i64 0]) := by rw [hW0]; exact (Blk.at_ _ #[.int .i64 0, .int .i64 0] _ _ (by simp; omega))
  have FB : Hid (Below w.heap.size w W0) := by rw [hW0]; exact (((Below.refl _ _).alloc (Nat.le_refl _) _).alloc (by simp) _)
  have leb0 : w.heap.size ≤ b0 := by omega
  have leb1 : w.heap.size ≤ b1 := by omega
  have l01 : b0 < b1 := by omega
  go_enter Try.func8, Try.ntmps8
  go_upto_region 1 with fail
  rw [← hb0, ← hb1, ← hW0]
  clear hb0 hb1 hW0
  go_upto_region 2 with (first | (refine load_blk 27 _ Try.underlying27 (by kernel_rfl) F0.out rfl rfl rfl ?_) | (go_at_call 22; refine (specFault_any h _).mono ?_; rw [HA.out]; rintro e w1 ⟨rfl, hb⟩; have F0 : Hid (Blk w1 b0 [.int .i64 h.fl, .int .i64 h.gp, .int .i64 h.ln, .int .i64 h.rf, .int .i64 h.sp, .int .i64 h.pu, .int .i64 h.br, .int .i64 h.dr, .int .i64 h.lv, .int .i64 h.dO, .int .i64 h.ld, .int .i64 h.qu]) := F0.out.below hb F0.out.lt; have F1 : Hid (Blk w1 b1 [.int .i64 0, .int .i64 0]) := F1.out.below hb F1.out.lt; have FB : Hid (Below w.heap.size w w1) := FB.out.trans (hb.mono FB.out.size); clear hb))
  have c00 := F0.out.c 0 _ rfl
  by_cases hz : ka = 0
  case neg =>
    have hn : (ka != 0) = true := by simpa using hz
    have HZ : Hid (ka = K ∧ 0 = V) := ⟨by rw [← HK.out]; unfold Hs.ftK; rw [HA.out, if_neg hz], by rw [← HV.out]; unfold Hs.ftV; rw [HA.out, if_neg hz]⟩
    go_wp2_with (refine store_blk [.int .i64 ka, .int .i64 0] 25 _ _ (by kernel_rfl) (by kernel_rfl) (by kernel_rfl) F1.out rfl rfl rfl rfl ?_)
    exact bodyPost_ret (v := .agg #[.int .i64 ka, .int .i64 0]) ((F1.out.row [.int .i64 ka, .int .i64 0]).res _ Try.results8 Try.underlying25 (by kernel_rfl) rfl) rfl ⟨ret_twoF HZ.out.1 HZ.out.2, below_row FB.out leb1 _⟩
  case pos =>
  subst hz
  cases hf : inB a (-1) h.fl with
  | false =>
    have HZ : Hid (3 = K ∧ 0 = V) := ⟨by rw [← HK.out]; unfold Hs.ftK; rw [HA.out, if_pos rfl, if_neg (by simp [hf])], by rw [← HV.out]; unfold Hs.ftV; rw [HA.out, if_pos rfl, if_neg (by simp [hf])]⟩
    go_wp2_with (first | (go_at_call 23; (fail_if_success have := GF); refine (l1In_any a (-1) h.fl _).mono ?_; rw [hf]; rintro e w' ⟨rfl, hw⟩; obtain rfl := hw.symm; clear hw; have GF := trivial) | (refine store_blk [.int .i64 3, .int .i64 0] 25 _ _ (by kernel_rfl) (by kernel_rfl) (by kernel_rfl) F1.out rfl rfl rfl rfl ?_))
    exact bodyPost_ret (v := .agg #[.int .i64 3, .int .i64 0]) ((F1.out.row [.int .i64 3, .int .i64 0]).res _ Try.results8 Try.underlying25 (by kernel_rfl) rfl) rfl ⟨ret_twoF HZ.out.1 HZ.out.2, below_row FB.out leb1 _⟩
  | true =>
    cases ht : inB b (-1) h.fl with
    | false =>
      have HZ : Hid (3 = K ∧ 0 = V) := ⟨by rw [← HK.out]; unfold Hs.ftK; rw [HA.out, if_pos rfl, if_neg (by simp [ht])], by rw [← HV.out]; unfold Hs.ftV; rw [HA.out, if_pos rfl, if_neg (by simp [ht])]⟩
      go_wp2_with (first | (go_at_call 23; (fail_if_success have := GF); refine (l1In_any a (-1) h.fl _).mono ?_; rw [hf]; rintro e w' ⟨rfl, hw⟩; obtain rfl := hw.symm; clear hw; have GF := trivial) | (go_at_call 23; refine (l1In_any b (-1) h.fl _).mono ?_; rw [ht]; rintro e w' ⟨rfl, hw⟩; obtain rfl := hw.symm; clear hw) | (refine store_blk [.int .i64 3, .int .i64 0] 25 _ _ (by kernel_rfl) (by kernel_rfl) (by kernel_rfl) F1.out rfl rfl rfl rfl ?_))
      exact bodyPost_ret (v := .agg #[.int .i64 3, .int .i64 0]) ((F1.out.row [.int .i64 3, .int .i64 0]).res _ Try.results8 Try.underlying25 (by kernel_rfl) rfl) rfl ⟨ret_twoF HZ.out.1 HZ.out.2, below_row FB.out leb1 _⟩
    | true =>
      have f1 := inB_iff.1 hf
      have f2 := inB_iff.1 ht
      have HK2 : Hid (Hs.fltK h a b = K) := by show _ = K; rw [← HK.out]; unfold Hs.ftK; rw [HA.out, if_pos rfl, if_pos ⟨hf, ht⟩]
      have HV2 : Hid (Hs.fltN h a b = V) := by show _ = V; rw [← HV.out]; unfold Hs.ftV; rw [HA.out, if_pos rfl, if_pos ⟨hf, ht⟩]
      have CF : ∀ W, Calls Try.prog 24 #[.agg #[.int .i64 h.fl, .int .i64 h.gp, .int .i64 h.ln, .int .i64 h.rf, .int .i64 h.sp, .int .i64 h.pu, .int .i64 h.br, .int .i64 h.dr, .int .i64 h.lv, .int .i64 h.dO, .int .i64 h.ld, .int .i64 h.qu], .int .i64 a, .int .i64 b] W (isAns W K V) := fun W => by have z := l14Flight_any h HA.out a b f1.1 f1.2 f2.1 f2.2 W; rw [HK2.out, HV2.out] at z; exact z
      clear HK HV HK2 HV2
      go_wp2_with (first | (refine load_blk 27 _ Try.underlying27 (by kernel_rfl) F0.out rfl rfl rfl ?_) | (go_at_call 23; (fail_if_success have := GF); refine (l1In_any a (-1) h.fl _).mono ?_; rw [hf]; rintro e w' ⟨rfl, hw⟩; obtain rfl := hw.symm; clear hw; have GF := trivial) | (go_at_call 23; refine (l1In_any b (-1) h.fl _).mono ?_; rw [ht]; rintro e w' ⟨rfl, hw⟩; obtain rfl := hw.symm; clear hw) | (go_at_call 24; refine (CF _).mono ?_; rintro e w4 ⟨rfl, hb⟩; have F0 : Hid (Blk w4 b0 [.int .i64 h.fl, .int .i64 h.gp, .int .i64 h.ln, .int .i64 h.rf, .int .i64 h.sp, .int .i64 h.pu, .int .i64 h.br, .int .i64 h.dr, .int .i64 h.lv, .int .i64 h.dO, .int .i64 h.ld, .int .i64 h.qu]) := F0.out.below hb F0.out.lt; have F1 : Hid (Blk w4 b1 [.int .i64 0, .int .i64 0]) := F1.out.below hb F1.out.lt; have FB : Hid (Below w.heap.size w w4) := FB.out.trans (hb.mono FB.out.size); clear hb) | (refine store_blk [.int .i64 K, .int .i64 V] 25 _ _ (by kernel_rfl) (by kernel_rfl) (by kernel_rfl) F1.out rfl rfl rfl rfl ?_))
      exact bodyPost_ret (v := .agg #[.int .i64 K, .int .i64 V]) ((F1.out.row [.int .i64 K, .int .i64 V]).res _ Try.results8 Try.underlying25 (by kernel_rfl) rfl) rfl ⟨rfl, below_row FB.out leb1 _⟩
end Go.Proofs.Ythfnphbgjfcdaaa
