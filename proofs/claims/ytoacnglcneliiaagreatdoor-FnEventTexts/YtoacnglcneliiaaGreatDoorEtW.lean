/-
  A text of events is read again: the law's walk.
-/
import Derived.Test.YtoacnglcneliiaaGreatDoorEdS
import Derived.Test.YtoacnglcneliiaaGreatDoorParV
import Derived.Test.YtoacnglcneliiaaGreatDoorAt
import Derived.BigQuiet
namespace Go.Proofs.YtoacnglcneliiaaGreatDoor
open Go.RowKit Go.Shelf Pl
set_option linter.unusedSimpArgs false
set_option linter.unusedVariables false

theorem capE {w : World} {B n c : Nat} {a : Option Addr} {l : List Ev} (h : OwnE w B (.slice a n c) l) : l.length ≤ c := by
  rcases h.2 with ⟨_, hn⟩ | ⟨g, cap, cur, e, _, _, hc, _⟩
  · omega
  · injection e with e1 e2 e3
    omega
theorem einE {w : World} {B n c : Nat} {a : Option Addr} {l : List Ev} (h : OwnE w B (.slice a n c) l) : EIn w w.heap.size a l := by
  obtain ⟨a', c', e, q⟩ := h.pin
  injection e with e1 e2 e3
  subst e1
  exact q
set_option maxRecDepth 20000 in
set_option maxHeartbeats 32000000 in
theorem events_walk (a : Option Addr) (len cap : Nat) (w : World) (hc : CodeIn w w.heap.size a len) (hl : len ≤ 1048576) (eu : Value) (hV : Vr w eu) (hH : Vh w) (hT : Tb w) :
    Calls Tryz.prog 3 #[.slice a len cap] w fun e w' => e = .returned (.bool true) ∧ Below w.heap.size w w' := by
  have HVr : Hid (Vr w eu) := hV
  have HVh : Hid (Vh w) := hH
  have HTb : Hid (Tb w) := hT
  have CD := DrawFormatEvents_any a len cap w hc
  unfold isLs at CD
  clear hV hH hT hc
  go_enter Tryz.func3, Tryz.ntmps3
  go_upto_region 3 with (go_at_call 4; refine (lwBig_no _ _ _ hl _).mono ?_; rintro e w' ⟨rfl, hw⟩; rw [hw]; clear hw)
  go_upto_region 4 with (first | (go_at_call 5; refine CD.mono ?_; rintro e w1 ⟨h, va, vc, l, rfl, ho, hl201, hb⟩; have FO : Hid (OwnE w1 w.heap.size (.slice va l.length vc) l) := ho; have FB : Hid (Below w.heap.size w w1) := hb; clear ho hb) | (refine store_new [.int .i64 h.fl, .int .i64 h.gp, .int .i64 h.ln, .int .i64 h.rf, .int .i64 h.sp, .int .i64 h.pu, .int .i64 h.br, .int .i64 h.dr, .int .i64 h.lv, .int .i64 h.dO, .int .i64 h.ld, .int .i64 h.qu] 25 _ _ (by kernel_rfl) (by kernel_rfl) (by kernel_rfl) rfl rfl rfl rfl ?_))
  obtain ⟨b3, hb3⟩ : ∃ b, b = w1.heap.size := ⟨_, rfl⟩
  obtain ⟨w2, hw2⟩ : ∃ W, W = w1.alloc (.cells #[.int .i64 h.fl, .int .i64 h.gp, .int .i64 h.ln, .int .i64 h.rf, .int .i64 h.sp, .int .i64 h.pu, .int .i64 h.br, .int .i64 h.dr, .int .i64 h.lv, .int .i64 h.dO, .int .i64 h.ld, .int .i64 h.qu] 25) := ⟨_, rfl⟩
  have FH : Hid (Blk w2 b3 [.int .i64 h.fl, .int .i64 h.gp, .int .i64 h.ln, .int .i64 h.rf, .int .i64 h.sp, .int .i64 h.pu, .int .i64 h.br, .int .i64 h.dr, .int .i64 h.lv, .int .i64 h.dO, .int .i64 h.ld, .int .i64 h.qu]) := by rw [hw2]; exact Blk.at_ w1 #[.int .i64 h.fl, .int .i64 h.gp, .int .i64 h.ln, .int .i64 h.rf, .int .i64 h.sp, .int .i64 h.pu, .int .i64 h.br, .int .i64 h.dr, .int .i64 h.lv, .int .i64 h.dO, .int .i64 h.ld, .int .i64 h.qu] _ _ hb3
  have FO : Hid (OwnE w2 w.heap.size (.slice va l.length vc) l) := by rw [hw2]; exact FO.out.alloc _
  have FB : Hid (Below w.heap.size w w2) := by rw [hw2]; exact FB.out.alloc FB.out.size _
  (try simp only [Act.put])
  rw [← hw2, ← hb3]
  clear hw2 hb3 CD
  obtain ⟨tx, htx⟩ : ∃ tx, Hs.fmE h l = tx := ⟨_, rfl⟩
  have CI := fun (va : Option Addr) (vc : Nat) W q t => implFormat_any h l va vc (by omega) W q t
  have CS := fun W q => specFormat_any h l va vc (by omega) (capE FO.out) W q
  rw [htx] at CI CS
  have hts := fm_size h l
  rw [htx] at hts
  have HX : Hid (Hs.fmE h l = tx) := htx
  clear htx
  go_upto_region 5 with (first | (refine load_blk 25 _ Tryz.underlying25 (by kernel_rfl) FH.out rfl rfl rfl ?_) | (go_at_call 6; refine (CI va vc _ (einE FO.out) (HTb.out.below FB.out (Nat.le_refl _))).mono ?_; rintro e w3 ⟨rfl, hb⟩; have FH : Hid (Blk w3 b3 [.int .i64 h.fl, .int .i64 h.gp, .int .i64 h.ln, .int .i64 h.rf, .int .i64 h.sp, .int .i64 h.pu, .int .i64 h.br, .int .i64 h.dr, .int .i64 h.lv, .int .i64 h.dO, .int .i64 h.ld, .int .i64 h.qu]) := FH.out.below hb FH.out.lt; have FO : Hid (OwnE w3 w.heap.size (.slice va l.length vc) l) := FO.out.below hb (fun k hk => (FO.out.lt k hk).2); have FB : Hid (Below w.heap.size w w3) := FB.out.trans (hb.mono FB.out.size); clear hb))
  cases hn : neB tx
  · have hem := toList_eq_nil tx hn
    clear hn
    go_wp2_with (first | (refine load_blk 25 _ Tryz.underlying25 (by kernel_rfl) FH.out rfl rfl rfl ?_) | (go_at_call 7; refine (CS _ (einE FO.out)).mono ?_; rintro e w4 ⟨rfl, hb⟩; have FB : Hid (Below w.heap.size w w4) := FB.out.trans (hb.mono FB.out.size); clear hb))
    go_ret
    exact ⟨by simp [hem], FB.out⟩
  have hem := toList_neq_nil tx hn
  have hem2 : (tx.toList == []) = false := by simpa using hem
  have hem3 : tx.toList.isEmpty = false := by simpa using hem
  have hft := fm_none (h := h) (l := l) (by rw [HX.out]; exact hn)
  have HTR : Hid (Hs.tr h l = 0) := hft.1
  have HTX : Hid (evTx l = tx) := by rw [← HX.out]; exact hft.2.symm
  have HOK : Hid (∀ e ∈ l, OkE e) := tr_okE hft.1
  clear hft hn CS
  obtain ⟨K, hK⟩ : ∃ K, Hs.paK h tx = K := ⟨_, rfl⟩
  obtain ⟨A, hA⟩ : ∃ A, Hs.paA h tx = A := ⟨_, rfl⟩
  obtain ⟨rl, hrl⟩ : ∃ rl, Hs.paV h tx = rl := ⟨_, rfl⟩
  have CP := fun W a b => implParse_any h tx hts eu W a b
  rw [hK, hA, hrl] at CP
  have HK : Hid (Hs.paK h tx = K) := hK
  have HV : Hid (Hs.paV h tx = rl) := hrl
  clear hK hA hrl hts
  go_upto_region 7 with fail
  go_upto_region 8 with (first | (refine load_blk 25 _ Tryz.underlying25 (by kernel_rfl) FH.out rfl rfl rfl ?_) | (go_at_call 8; refine (CP _ (HVr.out.below FB.out (Nat.le_refl _)) (HVh.out.below FB.out (Nat.le_refl _))).mono ?_; rintro e w5 ⟨v, rfl, ho, hb⟩; obtain ⟨s, c, rfl, -⟩ := ho.pin; have FP : Hid (OwnE w5 w.heap.size (.slice s rl.length c) rl) := ownE_base ho FB.out.size; have FH : Hid (Blk w5 b3 [.int .i64 h.fl, .int .i64 h.gp, .int .i64 h.ln, .int .i64 h.rf, .int .i64 h.sp, .int .i64 h.pu, .int .i64 h.br, .int .i64 h.dr, .int .i64 h.lv, .int .i64 h.dO, .int .i64 h.ld, .int .i64 h.qu]) := FH.out.below hb FH.out.lt; have FO : Hid (OwnE w5 w.heap.size (.slice va l.length vc) l) := FO.out.below hb (fun k hk => (FO.out.lt k hk).2); have FB : Hid (Below w.heap.size w w5) := FB.out.trans (hb.mono FB.out.size); clear hb; clear ho) | (refine store_new [.int .i64 K, .int .i64 A, .slice s rl.length c] 31 _ _ (by kernel_rfl) (by kernel_rfl) (by kernel_rfl) rfl rfl rfl rfl ?_))
  obtain ⟨b6, hb6⟩ : ∃ b, b = w5.heap.size := ⟨_, rfl⟩
  obtain ⟨w6, hw6⟩ : ∃ W, W = w5.alloc (.cells #[.int .i64 K, .int .i64 A, .slice s rl.length c] 31) := ⟨_, rfl⟩
  have FR : Hid (Blk w6 b6 [.int .i64 K, .int .i64 A, .slice s rl.length c]) := by rw [hw6]; exact Blk.at_ w5 #[.int .i64 K, .int .i64 A, .slice s rl.length c] _ _ hb6
  have FH : Hid (Blk w6 b3 [.int .i64 h.fl, .int .i64 h.gp, .int .i64 h.ln, .int .i64 h.rf, .int .i64 h.sp, .int .i64 h.pu, .int .i64 h.br, .int .i64 h.dr, .int .i64 h.lv, .int .i64 h.dO, .int .i64 h.ld, .int .i64 h.qu]) := by rw [hw6]; exact FH.out.alloc _
  have FO : Hid (OwnE w6 w.heap.size (.slice va l.length vc) l) := by rw [hw6]; exact FO.out.alloc _
  have FP : Hid (OwnE w6 w.heap.size (.slice s rl.length c) rl) := by rw [hw6]; exact FP.out.alloc _
  have FB : Hid (Below w.heap.size w w6) := by rw [hw6]; exact FB.out.alloc FB.out.size _
  (try simp only [Act.put])
  rw [← hw6, ← hb6]
  clear hw6 hb6 CP hem hem2 hem3
  have k0 := FR.out.c 0 _ rfl
  by_cases hz : 3000 < tx.size
  · have hzi : (3000 : Int) < (tx.size : Int) := by omega
    have HK2 : Hid (K = 2) := by rw [← HK.out, ← HTX.out]; exact pa_many HTR.out (by rw [HTX.out]; exact hz)
    go_wp2_with fail
    go_ret
    exact ⟨by simp [HK2.out], FB.out⟩
  have hzi : ¬ ((3000 : Int) < (tx.size : Int)) := by omega
  have HZ : Hid (¬ 3000 < (evTx l).size) := by rw [HTX.out]; exact hz
  clear hz
  go_wp2_with fail
  go_loopw [7] (fun ii wr => ∃ i : Nat, ii = .int .i64 (i : Int) ∧ i ≤ l.length ∧ (∀ (j : Nat) e, j < i → l[j]? = some e → e.tk ≤ 999999999 ∧ e.id ≤ 999999999) ∧ wr = w6) (fun ii _ => l.length - (intOf ii).toNat)
  case atStart => exact ⟨0, rfl, by omega, fun j e hj => by omega, rfl⟩
  case round =>
    obtain ⟨i, rfl, hi, hsm, hwr⟩ := hrel
    rw [hwr]
    clear hwr
    have HSM : Hid (∀ (j : Nat) e, j < i → l[j]? = some e → e.tk ≤ 999999999 ∧ e.id ≤ 999999999) := hsm
    clear hsm
    by_cases hlt : i < l.length
    · obtain ⟨p, hp⟩ : ∃ p, l[i]? = some p := ⟨_, List.getElem?_eq_getElem hlt⟩
      have hli : (i : Int) < (l.length : Int) := by omega
      have hpm := List.mem_of_getElem? hp
      rcases einE FO.out with h0 | ⟨gb, o, rfl, hbl, h5⟩
      · rw [h0] at hlt; simp at hlt
      obtain ⟨z0, z1, z2, z3, z4⟩ := h5 i p hp
      clear h5
      by_cases ht : 999999999 < p.tk
      · have HK5 : Hid (K = 5) := by rw [← HK.out, ← HTX.out]; exact pa_bad HTR.out HZ.out HOK.out hpm (Or.inl ht)
        clear hp hpm
        go_wp2_with fail
        go_ret
        exact ⟨by simp [HK5.out], FB.out⟩
      by_cases hd : 999999999 < p.id
      · have HK5 : Hid (K = 5) := by rw [← HK.out, ← HTX.out]; exact pa_bad HTR.out HZ.out HOK.out hpm (Or.inr hd)
        clear hp hpm
        go_wp2_with fail
        go_ret
        exact ⟨by simp [HK5.out], FB.out⟩
      have HSM2 : Hid (∀ (j : Nat) e, j < i + 1 → l[j]? = some e → e.tk ≤ 999999999 ∧ e.id ≤ 999999999) := fun j e hj he => by
        rcases Nat.lt_or_ge j i with q | q
        · exact HSM.out j e q he
        · obtain rfl : j = i := by omega
          rw [hp] at he
          cases he
          exact ⟨by omega, by omega⟩
      clear hp hpm
      go_wp2_with fail
      go_roundw
      case rel => exact ⟨i + 1, by simp, by omega, HSM2.out, by first | rfl | trivial⟩
      case measure => simp [intOf]; omega
    · have ei : l.length = i := by omega
      have hge : ¬ ((i : Int) < (l.length : Int)) := by omega
      have hall : ∀ e ∈ l, e.tk ≤ 999999999 ∧ e.id ≤ 999999999 := fun e he => by
        obtain ⟨j, hj, ex⟩ := List.getElem_of_mem he
        exact HSM.out j e (by omega) (by rw [List.getElem?_eq_getElem hj, ex])
      have hg := pa_good HTR.out HZ.out HOK.out hall
      rw [HTX.out] at hg
      have hk0 : K = 0 := by rw [← HK.out]; exact hg.1
      have hrl : rl = l := by rw [← HV.out]; exact hg.2
      subst hk0
      subst hrl
      clear hall hg HSM HK HV HZ ei
      have k0 := FR.out.c 0 _ rfl
      have k2 := FR.out.c 2 _ rfl
      go_wp2_with fail
      go_loopw [8] (fun ii wr => ∃ i : Nat, ii = .int .i64 (i : Int) ∧ i ≤ rl.length ∧ Below w6.heap.size w6 wr) (fun ii _ => rl.length - (intOf ii).toNat)
      case atStart => exact ⟨0, rfl, by omega, Below.refl _ _⟩
      case round =>
        obtain ⟨j, rfl, hj, hb⟩ := hrel
        have FH : Hid (Blk wr b3 [.int .i64 h.fl, .int .i64 h.gp, .int .i64 h.ln, .int .i64 h.rf, .int .i64 h.sp, .int .i64 h.pu, .int .i64 h.br, .int .i64 h.dr, .int .i64 h.lv, .int .i64 h.dO, .int .i64 h.ld, .int .i64 h.qu]) := FH.out.below hb FH.out.lt
        have FR : Hid (Blk wr b6 [.int .i64 0, .int .i64 A, .slice s rl.length c]) := FR.out.below hb FR.out.lt
        have FO : Hid (OwnE wr w.heap.size (.slice va rl.length vc) rl) := FO.out.below hb (fun k hk => (FO.out.lt k hk).2)
        have FP : Hid (OwnE wr w.heap.size (.slice s rl.length c) rl) := FP.out.below hb (fun k hk => (FP.out.lt k hk).2)
        have FB : Hid (Below w.heap.size w wr) := FB.out.trans (hb.mono FB.out.size)
        have FW : Hid (Below w6.heap.size w6 wr) := hb
        clear hb
        have k2 := FR.out.c 2 _ rfl
        by_cases hlt : j < rl.length
        · obtain ⟨p, hp⟩ : ∃ p, rl[j]? = some p := ⟨_, List.getElem?_eq_getElem hlt⟩
          have hli : (j : Int) < (rl.length : Int) := by omega
          rcases einE FO.out with h0 | ⟨gb, o, rfl, hbl, h5⟩
          · rw [h0] at hlt; simp at hlt
          rcases einE FP.out with h0 | ⟨gc, o2, rfl, hbl2, h6⟩
          · rw [h0] at hlt; simp at hlt
          obtain ⟨z0, z1, z2, z3, z4⟩ := h5 j p hp
          obtain ⟨q0, q1, q2, q3, q4⟩ := h6 j p hp
          clear h5 h6 hp
          go_upto_region 20 with fail
          go_quiet (fail)
          go_wp2_with fail
          go_roundw
          case rel => exact ⟨j + 1, by simp, by omega, by first | exact FW.out | exact FW.out.drew | exact below_drawn FW.out rfl⟩
          case measure => simp [intOf]; omega
        · have ej : j = rl.length := by omega
          have hge : ¬ ((j : Int) < (rl.length : Int)) := by omega
          go_wp2_with (first | (refine load_blk 25 _ Tryz.underlying25 (by kernel_rfl) FH.out rfl rfl rfl ?_) | (go_at_call 6; refine (CI s c _ (einE FP.out) (HTb.out.below FB.out (Nat.le_refl _))).mono ?_; rintro e w9 ⟨rfl, hb⟩; have FB : Hid (Below w.heap.size w w9) := FB.out.trans (hb.mono FB.out.size); clear hb))
          go_ret
          exact ⟨by simp, FB.out⟩
end Go.Proofs.YtoacnglcneliiaaGreatDoor
