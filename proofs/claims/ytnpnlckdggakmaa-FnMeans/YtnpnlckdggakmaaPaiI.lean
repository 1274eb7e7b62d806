/-
  Pairs of floors that no zone has, as the program has them.
-/
import Derived.Test.YtnpnlckdggakmaaPaiP
import Derived.Test.YtnpnlckdggakmaaZonX
import Derived.Test.YtnpnlckdggakmaaZonY
import Derived.Test.YtnpnlckdggakmaaZonI
import Derived.Deep.DeepCutAuto
namespace Go.Proofs.Ytnpnlckdggakmaa
open Go.RowKit Pl
set_option linter.unusedSimpArgs false
set_option linter.unusedVariables false

theorem implServed_len (h : Hs) (l : List Int) (f t : Int) (a : Option Addr) (cap : Nat) (hl : l.length ≤ 1048576) (n : Nat) (hn : (h.svL l f t).length = n) (w : World) (hI : IIn w a l) :
    Calls Try.prog 14 #[.agg #[.int .i64 h.fl, .int .i64 h.gp, .int .i64 h.ln, .int .i64 h.rf, .int .i64 h.sp, .int .i64 h.pu, .int .i64 h.br, .int .i64 h.dr, .int .i64 h.lv, .int .i64 h.dO, .int .i64 h.ld, .int .i64 h.qu], .slice a l.length cap, .int .i64 f, .int .i64 t] w fun e w' => (∃ K ga gc, e = .returned (.agg #[.int .i64 K, .slice ga n gc])) ∧ Below w.heap.size w w' := by
  refine (implServed_any h l f t a cap hl w hI).mono ?_
  rintro e w' ⟨⟨v, rfl, ho⟩, hb⟩
  obtain ⟨ga, gc, rfl⟩ := ho.sl
  rw [hn]
  exact ⟨⟨_, ga, gc, rfl⟩, hb⟩
set_option maxRecDepth 20000 in
set_option maxHeartbeats 16000000 in
theorem implPairs_any (h : Hs) (l : List Int) (a : Option Addr) (cap : Nat) (hl : l.length ≤ 1048576) (w : World) (hI : IIn w a l) :
    Calls Try.prog 20 #[.agg #[.int .i64 h.fl, .int .i64 h.gp, .int .i64 h.ln, .int .i64 h.rf, .int .i64 h.sp, .int .i64 h.pu, .int .i64 h.br, .int .i64 h.dr, .int .i64 h.lv, .int .i64 h.dO, .int .i64 h.ld, .int .i64 h.qu], .slice a l.length cap] w fun e w' => (∃ v, e = .returned (.agg #[.int .i64 (h.znK l), v]) ∧ OwI w' w.heap.size v (h.plL l)) ∧ Below w.heap.size w w' := by
  have HI : Hid (IIn w a l) := hI
  clear hI
  obtain ⟨K, hK⟩ : ∃ K, h.znK l = K := ⟨_, rfl⟩
  obtain ⟨V, hV⟩ : ∃ V, h.plL l = V := ⟨_, rfl⟩
  rw [hK, hV]
  have HK0 : Hid (h.znK l = K) := hK
  have HV0 : Hid (h.plL l = V) := hV
  clear hK hV
  obtain ⟨b0, hb0⟩ : ∃ b0, b0 = w.heap.size := ⟨_, rfl⟩
  obtain ⟨b1, hb1⟩ : ∃ b1, b1 = b0 + 1 := ⟨_, rfl⟩
  obtain ⟨W0, hW0⟩ : ∃ W0, W0 = (w.alloc (.cells #[.int .i64 h.fl, .int .i64 h.gp, .int .i64 h.ln, .int .i64 h.rf, .int .i64 h.sp, .int .i64 h.pu, .int .i64 h.br, .int .i64 h.dr, .int .i64 h.lv, .int .i64 h.dO, .int .i64 h.ld, .int .i64 h.qu] 25)).alloc (.cells #[.int .i64 0, .slice none 0 0] 30) := ⟨_, rfl⟩
  have F0 : Hid (Blk W0 b0 [.int .i64 h.fl, .int .i64 h.gp, .int .i64 h.ln, .int .i64 h.rf, .int .i64 h.sp, .int .i64 h.pu, .int .i64 h.br, .int .i64 h.dr, .int .i64 h.lv, .int .i64 h.dO, .int .i64 h.ld, .int .i64 h.qu]) := by rw [hW0]; exact ((Blk.at_ _ #[.int .i64 h.fl, .int .i64 h.gp, .int .i64 h.ln, .int .i64 h.rf, .int .i64 h.sp, .int .i64 h.pu, .int .i64 h.br, .int .i64 h.dr, .int .i64 h.lv, .int .i64 h.dO, .int .i64 h.ld, .int .i64 h.qu] _ _ hb0).alloc _)
  have F1 : Hid (Blk W0 b1 [.int .i64 0, .slice none 0 0]) := by rw [hW0]; exact (Blk.at_ _ #[.int .i64 0, .slice none 0 0] _ _ (by simp; omega))
  have FB : Hid (Below w.heap.size w W0) := by rw [hW0]; exact (((Below.refl _ _).alloc (Nat.le_refl _) _).alloc (by simp) _)
  have leb0 : w.heap.size ≤ b0 := by omega
  have leb1 : w.heap.size ≤ b1 := by omega
  have l01 : b0 < b1 := by omega
  go_enter Try.func20, Try.ntmps20
  go_upto_region 1 with fail
  rw [← hb0, ← hb1, ← hW0]
  clear hb0 hb1 hW0
  go_upto_region 2 with (first | (refine load_blk 25 _ Try.underlying25 (by kernel_rfl) F0.out rfl rfl rfl ?_) | (go_at_call 43; refine (implZones_any h l a cap hl _ (HI.out.below FB.out)).mono ?_; rw [HK0.out]; rintro e w1 ⟨rfl, hb⟩; have F0 : Hid (Blk w1 b0 [.int .i64 h.fl, .int .i64 h.gp, .int .i64 h.ln, .int .i64 h.rf, .int .i64 h.sp, .int .i64 h.pu, .int .i64 h.br, .int .i64 h.dr, .int .i64 h.lv, .int .i64 h.dO, .int .i64 h.ld, .int .i64 h.qu]) := F0.out.below hb F0.out.lt; have F1 : Hid (Blk w1 b1 [.int .i64 0, .slice none 0 0]) := F1.out.below hb F1.out.lt; have FB : Hid (Below w.heap.size w w1) := FB.out.trans (hb.mono FB.out.size); clear hb))
  by_cases hz : K = 0
  case neg =>
    have hn : (K != 0) = true := by simpa using hz
    have HV : Hid ([] = V) := by show _ = V; rw [← HV0.out]; unfold Hs.plL; rw [HK0.out, if_neg hz]
    go_wp2_with (refine store_blk [.int .i64 (K), .slice none 0 0] 30 _ _ (by kernel_rfl) (by kernel_rfl) (by kernel_rfl) F1.out rfl rfl rfl rfl ?_)
    exact bodyPost_ret (v := .agg #[.int .i64 (K), .slice none 0 0]) ((F1.out.row [.int .i64 (K), .slice none 0 0]).res _ Try.results20 Try.underlying30 (by kernel_rfl) rfl) rfl ⟨⟨_, rfl, by rw [← HV.out]; exact owi_nil _ _⟩, below_row FB.out leb1 _⟩
  case pos =>
  subst hz
  have o := fl_of (znK_zero HK0.out).1
  obtain ⟨F, hF⟩ : ∃ F : Nat, h.fl = (F : Int) := ⟨h.fl.toNat, by omega⟩
  have HFl : Hid (h.fl = (F : Int)) := hF
  have F12 : F ≤ 12 := by omega
  have HV : Hid (Hs.lostTo h l F F = V) := by show _ = V; rw [← HV0.out]; unfold Hs.plL; rw [HK0.out, if_pos rfl, hF, Int.toNat_natCast]
  clear hF
  obtain ⟨B2, hB2⟩ : ∃ B2, B2 = w1.heap.size := ⟨_, rfl⟩
  have lB0 : b1 < B2 := by rw [hB2]; exact F1.out.lt
  have HB2 : Hid (B2 ≤ w1.heap.size) := by show B2 ≤ _; omega
  have lB2 : w.heap.size ≤ B2 := by omega
  clear hB2
  have cf := F0.out.c 0 _ rfl
  rw [HFl.out] at cf
  go_wp2_with fail
  clear cf
  go_loopw [6, 18] (fun zz ii wr => ∃ (i : Nat) (va : Option Addr) (vc : Nat), zz = .slice va (Hs.lostTo h l F i).length vc ∧ ii = .int .i64 (i : Int) ∧ i ≤ F ∧ OwI wr B2 (.slice va (Hs.lostTo h l F i).length vc) (Hs.lostTo h l F i) ∧ Blk wr b0 [.int .i64 h.fl, .int .i64 h.gp, .int .i64 h.ln, .int .i64 h.rf, .int .i64 h.sp, .int .i64 h.pu, .int .i64 h.br, .int .i64 h.dr, .int .i64 h.lv, .int .i64 h.dO, .int .i64 h.ld, .int .i64 h.qu] ∧ Blk wr b1 [.int .i64 0, .slice none 0 0] ∧ B2 ≤ wr.heap.size ∧ Below w.heap.size w wr) (fun _ ii _ => F - (intOf ii).toNat)
  case atStart => exact ⟨0, none, 0, rfl, rfl, by omega, owi_nil _ _, F0.out, F1.out, HB2.out, FB.out⟩
  case round =>
    obtain ⟨i, va, vc, rfl, rfl, hi, ho, hf0, hf1, hs, hb⟩ := hrel
    clear F0 F1 FB HB2
    have lm := lostTo_len h l F F12 i
    have HM2 : Hid (Hs.lostTo h l F (i + 1) = Hs.lostTo h l F i ++ Hs.lostIn h l i (F - (i + 1))) := rfl
    have HMi : Hid (i = F → Hs.lostTo h l F i = V) := fun e => by rw [e]; exact HV.out
    obtain ⟨M, hM⟩ : ∃ M, Hs.lostTo h l F i = M := ⟨_, rfl⟩
    rw [hM] at ho lm HM2 HMi ⊢
    clear hM
    have FO : Hid (OwI wr B2 (.slice va (M).length vc) (M)) := ho
    have F0 : Hid (Blk wr b0 [.int .i64 h.fl, .int .i64 h.gp, .int .i64 h.ln, .int .i64 h.rf, .int .i64 h.sp, .int .i64 h.pu, .int .i64 h.br, .int .i64 h.dr, .int .i64 h.lv, .int .i64 h.dO, .int .i64 h.ld, .int .i64 h.qu]) := hf0
    have F1 : Hid (Blk wr b1 [.int .i64 0, .slice none 0 0]) := hf1
    have HS : Hid (B2 ≤ wr.heap.size) := hs
    have FB : Hid (Below w.heap.size w wr) := hb
    clear ho hf0 hf1 hs hb
    have cf := F0.out.c 0 _ rfl
    rw [HFl.out] at cf
    by_cases hlt : i < F
    · have hd : decide ((i : Int) < (F : Int)) = true := decide_eq_true (by omega)
      go_wp2_with fail
      go_loopw [6, 8] (fun zz kk wx => ∃ (k : Nat) (va : Option Addr) (vc : Nat) (N : List Int), zz = .slice va (N).length vc ∧ kk = .int .i64 ((i + 1 + k : Nat) : Int) ∧ i + 1 + k ≤ F ∧ N = M ++ Hs.lostIn h l i k ∧ OwI wx B2 (.slice va (N).length vc) (N) ∧ Blk wx b0 [.int .i64 h.fl, .int .i64 h.gp, .int .i64 h.ln, .int .i64 h.rf, .int .i64 h.sp, .int .i64 h.pu, .int .i64 h.br, .int .i64 h.dr, .int .i64 h.lv, .int .i64 h.dO, .int .i64 h.ld, .int .i64 h.qu] ∧ Blk wx b1 [.int .i64 0, .slice none 0 0] ∧ B2 ≤ wx.heap.size ∧ Below w.heap.size w wx) (fun _ kk _ => F - (intOf kk).toNat)
      case atStart => exact ⟨0, va, vc, M, rfl, by simp, by omega, by simp [Hs.lostIn], FO.out, F0.out, F1.out, HS.out, FB.out⟩
      case round =>
        obtain ⟨k, va, vc, N, rfl, rfl, hk, hN, ho, hf0, hf1, hs, hb⟩ := hrel
        clear FO F0 F1 HS FB cf
        have HN : Hid (N = M ++ Hs.lostIn h l i k) := hN
        have ln : N.length ≤ 1000 := by
          rw [hN, List.length_append]
          have := lostIn_len h l i k
          omega
        clear hN
        have FO : Hid (OwI wr B2 (.slice va (N).length vc) (N)) := ho
        have F0 : Hid (Blk wr b0 [.int .i64 h.fl, .int .i64 h.gp, .int .i64 h.ln, .int .i64 h.rf, .int .i64 h.sp, .int .i64 h.pu, .int .i64 h.br, .int .i64 h.dr, .int .i64 h.lv, .int .i64 h.dO, .int .i64 h.ld, .int .i64 h.qu]) := hf0
        have F1 : Hid (Blk wr b1 [.int .i64 0, .slice none 0 0]) := hf1
        have HS : Hid (B2 ≤ wr.heap.size) := hs
        have FB : Hid (Below w.heap.size w wr) := hb
        clear ho hf0 hf1 hs hb
        have cf := F0.out.c 0 _ rfl
        rw [HFl.out] at cf
        by_cases hkl : i + 1 + k < F
        · have hd2 : decide (((i + 1 + k : Nat) : Int) < (F : Int)) = true := decide_eq_true (by omega)
          obtain ⟨b, hb⟩ : ∃ b : Nat, i + 1 + k = b := ⟨_, rfl⟩
          have HBk : Hid (i + 1 + k = b) := hb
          rw [hb] at hd2 hkl ⊢
          obtain ⟨n, hn⟩ : ∃ n, (h.svL l (i : Int) (b : Int)).length = n := ⟨_, rfl⟩
          have HLP : Hid (Hs.lostP h l i (i + 1 + k) = if n = 0 then [(i : Int) * 12 + (b : Int)] else []) := by show _ = _; unfold Hs.lostP; rw [hb, hn]
          have CS : ∀ W, IIn W a l → Calls Try.prog 14 #[.agg #[.int .i64 h.fl, .int .i64 h.gp, .int .i64 h.ln, .int .i64 h.rf, .int .i64 h.sp, .int .i64 h.pu, .int .i64 h.br, .int .i64 h.dr, .int .i64 h.lv, .int .i64 h.dO, .int .i64 h.ld, .int .i64 h.qu], .slice a l.length cap, .int .i64 (i : Int), .int .i64 (b : Int)] W fun e w' => (∃ K ga gc, e = .returned (.agg #[.int .i64 K, .slice ga n gc])) ∧ Below W.heap.size W w' := fun W hW => implServed_len h l _ _ a cap hl n hn W hW
          have ew1 : IntKind.i64.wrap ((i : Int) * 12) = (i : Int) * 12 := IntWalk.i64_in _ (by omega)
          have ew2 : IntKind.i64.wrap ((i : Int) * 12 + (b : Int)) = (i : Int) * 12 + (b : Int) := IntWalk.i64_in _ (by omega)
          clear hb hn
          by_cases hn0 : n = 0
          · subst hn0
            have HN2 : Hid (N ++ [(i : Int) * 12 + (b : Int)] = M ++ Hs.lostIn h l i (k + 1)) := by show _ = _; rw [Hs.lostIn, HLP.out, if_pos rfl, ← List.append_assoc, ← HN.out]
            go_wp2_with (first | (refine load_blk 25 _ Try.underlying25 (by kernel_rfl) F0.out rfl rfl rfl ?_) | (go_at_call 14; refine (CS _ (HI.out.below FB.out)).mono ?_; rintro e w5 ⟨⟨K1, ga, gc, rfl⟩, hb⟩; have ff : ∀ W : World, (Instr.field 30 (.agg #[.int .i64 K1, .slice ga 0 gc]) 1).run Try.prog W = .ok (.slice ga 0 gc) W := fun W => (by kernel_rfl); have FO : Hid (OwI w5 B2 (.slice va (N).length vc) N) := FO.out.below hb (fun k hk => (FO.out.lt k hk).2); have F0 : Hid (Blk w5 b0 [.int .i64 h.fl, .int .i64 h.gp, .int .i64 h.ln, .int .i64 h.rf, .int .i64 h.sp, .int .i64 h.pu, .int .i64 h.br, .int .i64 h.dr, .int .i64 h.lv, .int .i64 h.dO, .int .i64 h.ld, .int .i64 h.qu]) := F0.out.below hb F0.out.lt; have F1 : Hid (Blk w5 b1 [.int .i64 0, .slice none 0 0]) := F1.out.below hb F1.out.lt; have HS : Hid (B2 ≤ w5.heap.size) := Nat.le_trans HS.out hb.size; have FB : Hid (Below w.heap.size w w5) := FB.out.trans (hb.mono FB.out.size); have cf := F0.out.c 0 _ rfl; rw [HFl.out] at cf; clear hb) | (at_builtin; refine app_iG _ B2 _ N ((i : Int) * 12 + (b : Int)) _ _ rfl rfl rfl rfl FO.out ln HS.out ?_; intro a' c' w7 ho2 hg))
            go_roundw
            case rel => first | exact ⟨k + 1, a', c', N ++ [(i : Int) * 12 + (b : Int)], by rw [List.length_append]; rfl, by rw [← HBk.out]; first | rfl | (congr 1; done) | (congr 1; omega), by have := HBk.out; omega, HN2.out, ho2, F0.out.grown hg (fun e => by have := (FO.out.lt b0 e.symm).1; omega), F1.out.grown hg (fun e => by have := (FO.out.lt b1 e.symm).1; omega), Nat.le_trans HS.out hg.size, FB.out.grown hg FB.out.size (fun j hj => Nat.le_trans lB2 (FO.out.lt j hj).1)⟩ | ((repeat apply Exists.intro); exact ⟨⟨k + 1, a', c', N ++ [(i : Int) * 12 + (b : Int)], by rw [List.length_append]; rfl, by rw [← HBk.out]; first | rfl | (congr 1; done) | (congr 1; omega), by have := HBk.out; omega, HN2.out, ho2, F0.out.grown hg (fun e => by have := (FO.out.lt b0 e.symm).1; omega), F1.out.grown hg (fun e => by have := (FO.out.lt b1 e.symm).1; omega), Nat.le_trans HS.out hg.size, FB.out.grown hg FB.out.size (fun j hj => Nat.le_trans lB2 (FO.out.lt j hj).1)⟩, rfl⟩)
            case measure => simp [intOf]; omega
          · have hnn : ((n : Int) == 0) = false := by simpa using hn0
            have hnp : 0 < n := by omega
            have HN2 : Hid (N = M ++ Hs.lostIn h l i (k + 1)) := by show _ = _; rw [Hs.lostIn, HLP.out, if_neg hn0, List.append_nil]; exact HN.out
            clear hn0
            go_wp2_with (first | (refine load_blk 25 _ Try.underlying25 (by kernel_rfl) F0.out rfl rfl rfl ?_) | (go_at_call 14; refine (CS _ (HI.out.below FB.out)).mono ?_; rintro e w5 ⟨⟨K1, ga, gc, rfl⟩, hb⟩; have ff : ∀ W : World, (Instr.field 30 (.agg #[.int .i64 K1, .slice ga n gc]) 1).run Try.prog W = .ok (.slice ga n gc) W := fun W => (by kernel_rfl); have FO : Hid (OwI w5 B2 (.slice va (N).length vc) N) := FO.out.below hb (fun k hk => (FO.out.lt k hk).2); have F0 : Hid (Blk w5 b0 [.int .i64 h.fl, .int .i64 h.gp, .int .i64 h.ln, .int .i64 h.rf, .int .i64 h.sp, .int .i64 h.pu, .int .i64 h.br, .int .i64 h.dr, .int .i64 h.lv, .int .i64 h.dO, .int .i64 h.ld, .int .i64 h.qu]) := F0.out.below hb F0.out.lt; have F1 : Hid (Blk w5 b1 [.int .i64 0, .slice none 0 0]) := F1.out.below hb F1.out.lt; have HS : Hid (B2 ≤ w5.heap.size) := Nat.le_trans HS.out hb.size; have FB : Hid (Below w.heap.size w w5) := FB.out.trans (hb.mono FB.out.size); have cf := F0.out.c 0 _ rfl; rw [HFl.out] at cf; clear hb))
            go_roundw
            case rel => first | exact ⟨k + 1, va, vc, N, rfl, by rw [← HBk.out]; first | rfl | (congr 1; done) | (congr 1; omega), by have := HBk.out; omega, HN2.out, FO.out, F0.out, F1.out, HS.out, FB.out⟩ | ((repeat apply Exists.intro); exact ⟨⟨k + 1, va, vc, N, rfl, by rw [← HBk.out]; first | rfl | (congr 1; done) | (congr 1; omega), by have := HBk.out; omega, HN2.out, FO.out, F0.out, F1.out, HS.out, FB.out⟩, rfl⟩)
            case measure => simp [intOf]; omega
        · have hd2 : decide (((i + 1 + k : Nat) : Int) < (F : Int)) = false := decide_eq_false (by omega)
          have HN3 : Hid (Hs.lostTo h l F (i + 1) = N) := by show _ = N; rw [HM2.out, HN.out, show F - (i + 1) = k by omega]
          go_wp2_with fail
          go_roundw
          case rel => first | exact ⟨i + 1, va, vc, by rw [HN3.out], by simp, by omega, by rw [HN3.out]; exact FO.out, F0.out, F1.out, HS.out, FB.out⟩ | ((repeat apply Exists.intro); exact ⟨⟨i + 1, va, vc, by rw [HN3.out], by simp, by omega, by rw [HN3.out]; exact FO.out, F0.out, F1.out, HS.out, FB.out⟩, rfl⟩)
          case measure => simp [intOf]; omega
    · have hd : decide ((i : Int) < (F : Int)) = false := decide_eq_false (by omega)
      have eV : M = V := HMi.out (by omega)
      subst eV
      have HO : Hid (OwI wr w.heap.size (.slice va (M).length vc) M) := FO.out.base lB2
      have HOb : Hid (∀ j, (Value.slice va M.length vc).ownBlock = some j → b1 < j) := fun j hj => Nat.lt_of_lt_of_le (by omega) (FO.out.lt j hj).1
      have HOV : Hid (OwI (wr.setRow b1 #[.int .i64 0, .slice va M.length vc]) w.heap.size (.slice va M.length vc) M) := OwI.kept (row := some b1) HO.out ⟨rfl, rfl, rfl, by simp, fun k _ hne => setRow_other _ b1 k _ (fun q => hne (by rw [q]))⟩ (Or.inr (fun c => by have := HOb.out b1 c; omega))
      go_wp2_with (refine store_blk [.int .i64 (0), .slice va M.length vc] 30 _ _ (by kernel_rfl) (by kernel_rfl) (by kernel_rfl) F1.out rfl rfl rfl rfl ?_)
      exact bodyPost_ret (v := .agg #[.int .i64 (0), .slice va M.length vc]) ((F1.out.row [.int .i64 (0), .slice va M.length vc]).res _ Try.results20 Try.underlying30 (by kernel_rfl) rfl) rfl ⟨⟨_, rfl, HOV.out⟩, below_row FB.out leb1 _⟩
end Go.Proofs.Ytnpnlckdggakmaa
