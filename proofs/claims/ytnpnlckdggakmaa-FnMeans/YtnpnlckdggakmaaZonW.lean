/-
  Zones that serve a call (the model).
-/
import Derived.Test.YtnpnlckdggakmaaZonV
import Derived.Test.YtnpnlckdggakmaaZonZ
import Derived.Test.YtnpnlckdggakmaaPersE
import Derived.Test.YtnpnlckdggakmaaZonI
namespace Go.Proofs.Ytnpnlckdggakmaa
open Go.RowKit Pl
set_option linter.unusedSimpArgs false
set_option linter.unusedVariables false

set_option maxRecDepth 20000 in
set_option maxHeartbeats 16000000 in
theorem specServed_any (h : Hs) (l : List Int) (f t : Int) (a : Option Addr) (cap : Nat) (hl : l.length ≤ 1048576) (w : World) (hI : IIn w a l) :
    Calls Try.prog 55 #[.agg #[.int .i64 h.fl, .int .i64 h.gp, .int .i64 h.ln, .int .i64 h.rf, .int .i64 h.sp, .int .i64 h.pu, .int .i64 h.br, .int .i64 h.dr, .int .i64 h.lv, .int .i64 h.dO, .int .i64 h.ld, .int .i64 h.qu], .slice a l.length cap, .int .i64 f, .int .i64 t] w fun e w' => (∃ v, e = .returned (.agg #[.int .i64 (h.svK l f t), v]) ∧ OwI w' w.heap.size v (h.svL l f t)) ∧ Below w.heap.size w w' := by
  have HI : Hid (IIn w a l) := hI
  clear hI
  obtain ⟨K, hK⟩ : ∃ K, h.svK l f t = K := ⟨_, rfl⟩
  obtain ⟨V, hV⟩ : ∃ V, h.svL l f t = V := ⟨_, rfl⟩
  rw [hK, hV]
  have HK0 : Hid (h.svK l f t = K) := hK
  have HV0 : Hid (h.svL l f t = V) := hV
  clear hK hV
  obtain ⟨b0, hb0⟩ : ∃ b0, b0 = w.heap.size := ⟨_, rfl⟩
  obtain ⟨b1, hb1⟩ : ∃ b1, b1 = b0 + 1 := ⟨_, rfl⟩
  obtain ⟨W0, hW0⟩ : ∃ W0, W0 = (w.alloc (.cells #[.int .i64 h.fl, .int .i64 h.gp, .int .i64 h.ln, .int .i64 h.rf, .int .i64 h.sp, .int .i64 h.pu, .int .i64 h.br, .int .i64 h.dr, .int .i64 h.lv, .int .i64 h.dO, .int .i64 h.ld, .int .i64 h.qu] 25)).alloc (.cells #[.int .i64 0, .slice none 0 0] 30) := ⟨_, rfl⟩
  have F0 : Hid (Blk W0 b0 [.int .i64 h.fl, .int .i64 h.gp, .int .i64 h.ln, .int .i64 h.rf, .int .i64 h.sp, .int .i64 h.pu, .int .i64 h.br, .int .i64 h.dr, .int .i64 h.lv, .int .i64 h.dO, .int .i64 h.ld, .int .i64 h.qu]) := by rw [hW0]; exact (Blk.at_ w #[.int .i64 h.fl, .int .i64 h.gp, .int .i64 h.ln, .int .i64 h.rf, .int .i64 h.sp, .int .i64 h.pu, .int .i64 h.br, .int .i64 h.dr, .int .i64 h.lv, .int .i64 h.dO, .int .i64 h.ld, .int .i64 h.qu] _ _ hb0).alloc _
  have F1 : Hid (Blk W0 b1 [.int .i64 0, .slice none 0 0]) := by rw [hW0]; exact Blk.at_ _ #[.int .i64 0, .slice none 0 0] _ _ (by simp; omega)
  have FB : Hid (Below w.heap.size w W0) := by rw [hW0]; exact ((Below.refl _ _).alloc (Nat.le_refl _) _).alloc (by simp) _
  have leb0 : w.heap.size ≤ b0 := by omega
  have leb1 : w.heap.size ≤ b1 := by omega
  have l01 : b0 < b1 := by omega
  obtain ⟨kz, hkz⟩ : ∃ kz, h.znK l = kz := ⟨_, rfl⟩
  obtain ⟨kc, hkc⟩ : ∃ kc, Hs.call h f t = kc := ⟨_, rfl⟩
  have HZ : Hid (h.znK l = kz) := hkz
  have HC : Hid (Hs.call h f t = kc) := hkc
  have HKK : Hid ((if kz = 0 then kc else kz) = K) := by show _ = K; rw [← HK0.out]; unfold Hs.svK; rw [hkz, hkc]
  clear hkz hkc
  go_enter Try.func55, Try.ntmps55
  go_upto_region 1 with fail
  rw [← hb0, ← hb1, ← hW0]
  clear hb0 hb1 hW0
  go_upto_region 2 with (first | (refine load_blk 25 _ Try.underlying25 (by kernel_rfl) F0.out rfl rfl rfl ?_) | (go_at_call 54; refine (specZones_any h l a cap hl _ (HI.out.below FB.out)).mono ?_; rw [HZ.out]; rintro e w1 ⟨rfl, hb⟩; have F0 : Hid (Blk w1 b0 [.int .i64 h.fl, .int .i64 h.gp, .int .i64 h.ln, .int .i64 h.rf, .int .i64 h.sp, .int .i64 h.pu, .int .i64 h.br, .int .i64 h.dr, .int .i64 h.lv, .int .i64 h.dO, .int .i64 h.ld, .int .i64 h.qu]) := F0.out.below hb F0.out.lt; have F1 : Hid (Blk w1 b1 [.int .i64 0, .slice none 0 0]) := F1.out.below hb F1.out.lt; have FB : Hid (Below w.heap.size w w1) := FB.out.trans (hb.mono FB.out.size); clear hb))
  by_cases hz : kz = 0
  case neg =>
    have hn : (kz != 0) = true := by simpa using hz
    have HK : Hid ((kz : Int) = K) := by show _ = K; rw [← HKK.out, if_neg hz]
    have HV : Hid ([] = V) := by show _ = V; rw [← HV0.out]; unfold Hs.svL; rw [HK0.out, ← HK.out, if_neg (by first | assumption | decide)]
    go_wp2_with (first | (refine store_blk [.int .i64 (kz), .slice none 0 0] 30 _ _ (by kernel_rfl) (by kernel_rfl) (by kernel_rfl) F1.out rfl rfl rfl rfl ?_))
    exact bodyPost_ret (v := .agg #[.int .i64 (kz), .slice none 0 0]) ((F1.out.row [.int .i64 (kz), .slice none 0 0]).res _ Try.results55 Try.underlying30 (by kernel_rfl) rfl) rfl ⟨⟨_, by rw [HK.out], by rw [← HV.out]; exact owi_nil _ _⟩, below_row FB.out leb1 _⟩
  case pos =>
  subst hz
  go_upto_region 5 with (first | (refine load_blk 25 _ Try.underlying25 (by kernel_rfl) F0.out rfl rfl rfl ?_) | (go_at_call 72; refine (specCallFault_any h f t _).mono ?_; rw [HC.out]; rintro e w2 ⟨rfl, hb⟩; have F0 : Hid (Blk w2 b0 [.int .i64 h.fl, .int .i64 h.gp, .int .i64 h.ln, .int .i64 h.rf, .int .i64 h.sp, .int .i64 h.pu, .int .i64 h.br, .int .i64 h.dr, .int .i64 h.lv, .int .i64 h.dO, .int .i64 h.ld, .int .i64 h.qu]) := F0.out.below hb F0.out.lt; have F1 : Hid (Blk w2 b1 [.int .i64 0, .slice none 0 0]) := F1.out.below hb F1.out.lt; have FB : Hid (Below w.heap.size w w2) := FB.out.trans (hb.mono FB.out.size); clear hb))
  by_cases hz : kc = 0
  case neg =>
    have hn : (kc != 0) = true := by simpa using hz
    have HK : Hid ((kc : Int) = K) := by show _ = K; have z := HKK.out; simpa using z
    have HV : Hid ([] = V) := by show _ = V; rw [← HV0.out]; unfold Hs.svL; rw [HK0.out, ← HK.out, if_neg (by first | assumption | decide)]
    go_wp2_with (first | (refine store_blk [.int .i64 (kc), .slice none 0 0] 30 _ _ (by kernel_rfl) (by kernel_rfl) (by kernel_rfl) F1.out rfl rfl rfl rfl ?_))
    exact bodyPost_ret (v := .agg #[.int .i64 (kc), .slice none 0 0]) ((F1.out.row [.int .i64 (kc), .slice none 0 0]).res _ Try.results55 Try.underlying30 (by kernel_rfl) rfl) rfl ⟨⟨_, by rw [HK.out], by rw [← HV.out]; exact owi_nil _ _⟩, below_row FB.out leb1 _⟩
  case pos =>
  subst hz
  have HK : Hid ((0 : Int) = K) := by show _ = K; have z := HKK.out; simpa using z
  obtain ⟨p, q, rfl, rfl, p12, q12⟩ := call_zero HC.out
  have HV : Hid (plP l p q l.length = V) := by show _ = V; rw [← HV0.out]; unfold Hs.svL; rw [HK0.out, ← HK.out, if_pos rfl, Int.toNat_natCast, Int.toNat_natCast]
  have l6 : l.length ≤ 6 := (znK_zero HZ.out).2.2.1
  go_upto_region 8 with (refine store_new [.int .i64 0, .slice none 0 0] 30 _ _ (by kernel_rfl) (by kernel_rfl) (by kernel_rfl) rfl rfl rfl rfl ?_)
  obtain ⟨b2, hb2⟩ : ∃ b2, b2 = w2.heap.size := ⟨_, rfl⟩
  obtain ⟨w3, hw3⟩ : ∃ w3, w3 = w2.alloc (.cells #[.int .i64 0, .slice none 0 0] 30) := ⟨_, rfl⟩
  have l12 : b1 < b2 := by rw [hb2]; exact F1.out.lt
  have leb2 : w.heap.size ≤ b2 := by omega
  have F2 : Hid (Blk w3 b2 [.int .i64 0, .slice none 0 0]) := by rw [hw3]; exact Blk.at_ w2 #[.int .i64 0, .slice none 0 0] _ _ hb2
  have F0 : Hid (Blk w3 b0 [.int .i64 h.fl, .int .i64 h.gp, .int .i64 h.ln, .int .i64 h.rf, .int .i64 h.sp, .int .i64 h.pu, .int .i64 h.br, .int .i64 h.dr, .int .i64 h.lv, .int .i64 h.dO, .int .i64 h.ld, .int .i64 h.qu]) := by rw [hw3]; exact F0.out.alloc _
  have F1 : Hid (Blk w3 b1 [.int .i64 0, .slice none 0 0]) := by rw [hw3]; exact F1.out.alloc _
  have FB : Hid (Below w.heap.size w w3) := by rw [hw3]; exact FB.out.alloc FB.out.size _
  (try simp only [Act.put])
  rw [← hw3, ← hb2]
  clear hw3 hb2
  obtain ⟨B2, hB2⟩ : ∃ B2, B2 = w3.heap.size := ⟨_, rfl⟩
  have lB2b : b2 < B2 := by rw [hB2]; exact F2.out.lt
  have HB2 : Hid (B2 ≤ w3.heap.size) := by show B2 ≤ _; omega
  have lB2 : w.heap.size ≤ B2 := by omega
  clear hB2
  go_wp2_with fail
  go_loopw [12] (fun ii wr => ∃ (i : Nat) (va : Option Addr) (vc : Nat), ii = .int .i64 (i : Int) ∧ i ≤ l.length ∧ OwI wr B2 (.slice va (plP l p q i).length vc) (plP l p q i) ∧ Blk wr b1 [.int .i64 0, .slice none 0 0] ∧ Blk wr b2 [.int .i64 0, .slice va (plP l p q i).length vc] ∧ B2 ≤ wr.heap.size ∧ Below w.heap.size w wr) (fun ii _ => l.length - (intOf ii).toNat)
  case atStart => exact ⟨0, none, 0, rfl, by omega, owi_nil _ _, F1.out, F2.out, HB2.out, FB.out⟩
  case round =>
    obtain ⟨i, va, vc, rfl, hi, ho, hf1, hf2, hs, hb⟩ := hrel
    have F1 : Hid (Blk wr b1 [.int .i64 0, .slice none 0 0]) := hf1
    have F2 : Hid (Blk wr b2 [.int .i64 0, .slice va (plP l p q i).length vc]) := hf2
    have FB : Hid (Below w.heap.size w wr) := hb
    have HO : Hid (OwI wr B2 (.slice va (plP l p q i).length vc) (plP l p q i)) := ho
    have HS : Hid (B2 ≤ wr.heap.size) := hs
    clear hf1 hf2 hb ho hs HB2 F0
    by_cases hlt : i < l.length
    · obtain ⟨x, hx⟩ : ∃ x, l[i]? = some x := ⟨_, List.getElem?_eq_getElem hlt⟩
      have HP : Hid (plP l p q (i + 1) = plP l p q i ++ (if both x p q = true then [(i : Int)] else [])) := plP_succ p q hx
      obtain ⟨M, hM, -, hM2, -⟩ := zone_nat HZ.out (List.mem_of_getElem? hx)
      rcases HI.out with h0 | ⟨g, rfl, hg, hc⟩
      · rw [h0] at hlt; simp at hlt
      have c0 := (FB.out.cell (p := ⟨g, i, none⟩) hg).trans (hc i x hx)
      rw [hM] at c0 HP
      have HB : Hid (both (M : Int) p q = (M.testBit p && M.testBit q)) := by show _ = _; unfold both; rw [Int.toNat_natCast]
      rw [HB.out] at HP
      have ll : (plP l p q i).length ≤ 6 := Nat.le_trans (plP_len _ _ _ _) (by omega)
      obtain ⟨L, hL⟩ : ∃ L, plP l p q i = L := ⟨_, rfl⟩
      rw [hL] at HP HO ll F2
      clear hx hc hM hL HB
      cases hp : M.testBit p
      · have HE : Hid (plP l p q (i + 1) = L) := by show _ = L; rw [HP.out, hp]; simp
        go_wp2_with (go_at_call 73; (fail_if_success have := GA); refine (l12Has_any M p hM2 p12 _).mono ?_; rw [hp]; rintro e w' ⟨rfl, hw⟩; obtain rfl := hw.symm; clear hw; have GA : Hid True := trivial)
        go_roundw
        case rel => exact ⟨i + 1, va, vc, by simp, by omega, by rw [HE.out]; exact HO.out, F1.out, by rw [HE.out]; exact F2.out, HS.out, FB.out⟩
        case measure => simp [intOf]; omega
      · cases hq : M.testBit q
        · have HE : Hid (plP l p q (i + 1) = L) := by show _ = L; rw [HP.out, hp, hq]; simp
          go_wp2_with (first | (go_at_call 73; (fail_if_success have := GA); refine (l12Has_any M p hM2 p12 _).mono ?_; rw [hp]; rintro e w' ⟨rfl, hw⟩; obtain rfl := hw.symm; clear hw; have GA : Hid True := trivial) | (go_at_call 73; refine (l12Has_any M q hM2 q12 _).mono ?_; rw [hq]; rintro e w' ⟨rfl, hw⟩; obtain rfl := hw.symm; clear hw))
          go_roundw
          case rel => exact ⟨i + 1, va, vc, by simp, by omega, by rw [HE.out]; exact HO.out, F1.out, by rw [HE.out]; exact F2.out, HS.out, FB.out⟩
          case measure => simp [intOf]; omega
        · have HE : Hid (plP l p q (i + 1) = L ++ [(i : Int)]) := by show _ = _; rw [HP.out, hp, hq]; simp
          have y1 := F2.out.c 1 _ rfl
          have y2 := F2.out.f 1 (by simp)
          go_wp2_with (first | (go_at_call 73; (fail_if_success have := GA); refine (l12Has_any M p hM2 p12 _).mono ?_; rw [hp]; rintro e w' ⟨rfl, hw⟩; obtain rfl := hw.symm; clear hw; have GA : Hid True := trivial) | (go_at_call 73; refine (l12Has_any M q hM2 q12 _).mono ?_; rw [hq]; rintro e w' ⟨rfl, hw⟩; obtain rfl := hw.symm; clear hw) | (at_builtin; refine app_iG _ B2 _ L (i : Int) _ _ rfl rfl rfl rfl HO.out (by omega) HS.out ?_; intro a' c' w7 ho2 hg; have G2 : Hid (Blk w7 b2 [.int .i64 0, .slice va L.length vc]) := F2.out.grown hg (fun e => by have := (HO.out.lt b2 e.symm).1; omega); have x1 := G2.out.c 1 _ rfl; have x2 := G2.out.f 1 (by simp)))
          go_roundw
          case rel => exact ⟨i + 1, a', c', by simp, by omega, by rw [HE.out]; exact ho2.other (fun e => by have e2 : B2 ≤ b2 := (ho2.lt b2 e).1; omega) _, (F1.out.grown hg (fun e => by have := (HO.out.lt b1 e.symm).1; omega)).other (by omega), by rw [HE.out, List.length_append]; exact G2.out.set (k := 1) _ (by simp), by have := Nat.le_trans HS.out hg.size; simpa using this, (FB.out.grown hg FB.out.size (fun j hj => Nat.le_trans lB2 (HO.out.lt j hj).1)).setCell leb2 _⟩
          case measure => simp [intOf]; omega
    · have e : i = l.length := by omega
      subst e
      have HO2 : Hid (OwI wr w.heap.size (.slice va (plP l p q l.length).length vc) V) := by
        have z := HO.out.base lB2
        rw [HV.out] at z ⊢
        exact z
      have HOb : Hid (∀ j, (Value.slice va (plP l p q l.length).length vc).ownBlock = some j → b1 < j) := fun j hj => Nat.lt_of_lt_of_le (by omega) (HO.out.lt j hj).1
      rw [HV.out] at HO2 HOb F2
      clear HO HV
      have HO := HO2
      have HOV : Hid (OwI (wr.setRow b1 #[.int .i64 0, .slice va V.length vc]) w.heap.size (.slice va V.length vc) V) := OwI.kept (row := some b1) HO.out ⟨rfl, rfl, rfl, by simp, fun k _ hne => setRow_other _ b1 k _ (fun q => hne (by rw [q]))⟩ (Or.inr (fun c => by have := HOb.out b1 c; omega))
      go_wp2_with (first | (refine load_blk 30 _ Try.underlying30 (by kernel_rfl) F2.out rfl rfl rfl ?_) | (refine store_blk [.int .i64 (0), .slice va V.length vc] 30 _ _ (by kernel_rfl) (by kernel_rfl) (by kernel_rfl) F1.out rfl rfl rfl rfl ?_))
      exact bodyPost_ret (v := .agg #[.int .i64 (0), .slice va V.length vc]) ((F1.out.row [.int .i64 (0), .slice va V.length vc]).res _ Try.results55 Try.underlying30 (by kernel_rfl) rfl) rfl ⟨⟨_, by rw [HK.out], HOV.out⟩, below_row FB.out leb1 _⟩
end Go.Proofs.Ytnpnlckdggakmaa
