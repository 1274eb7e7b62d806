/-
  A mean lies between the least and the greatest, and pairs that are lost are served by no zone, whatever the bytes draw.
-/
import Derived.Test.YtnpnlckdggakmaaRows
import Derived.WalkKit
import Derived.ProofKit
import Derived.OpenShut
import Derived.ShutString
import Derived.ChangeOld
import Derived.Below
import Derived.Test.YtnpnlckdggakmaaPaiI
import Derived.Deep.DeepCutAuto
import Derived.Test.YtnpnlckdggakmaaFlyX
import Derived.Test.YtnpnlckdggakmaaPaiP
import Derived.Test.YtnpnlckdggakmaaZonQ
import Derived.Test.YtnpnlckdggakmaaZonR
import Derived.Test.YtnpnlckdggakmaaZonA
import Derived.Test.YtnpnlckdggakmaaZonI
import Derived.Test.YtnpnlckdggakmaaSrcW
import Derived.Test.YtnpnlckdggakmaaGnr
import Derived.Test.YtnpnlckdggakmaaZonW
import Derived.Test.YtnpnlckdggakmaaZonZ
import Derived.Test.YtnpnlckdggakmaaSrc
namespace Go.Proofs.Ytnpnlckdggakmaa
open Go.RowKit Pl

theorem lwBig_no (a : Option Addr) (len cap : Nat) (h : len ≤ 1048576) (w : World) :
    Calls Try.prog 8 #[.slice a len cap] w fun e w' => e = .returned (.bool false) ∧ w' = w := by
  have hd : decide ((1048576 : Int) < (len : Int)) = false := decide_eq_false (by omega)
  go_enter Try.func8, Try.ntmps8
  go_wp2
  go_ret
  exact ⟨rfl, rfl⟩
theorem lwBig_yes (a : Option Addr) (len cap : Nat) (h : 1048576 < len) (hm : len ≤ maxLen) (w : World) :
    Calls Try.prog 8 #[.slice a len cap] w fun e w' => e = .returned (.bool true) ∧ w' = w := by
  unfold maxLen at hm
  have hd : decide ((1048576 : Int) < (len : Int)) = true := decide_eq_true (by omega)
  go_enter Try.func8, Try.ntmps8
  go_wp2
  go_ret
  exact ⟨rfl, rfl⟩

/-- What the shell of a law tells of a slice of bytes that came in. -/
def codeRow (w : World) (a : Option Addr) (len cap : Nat) (zs : List Int) : Prop :=
  (a = none ∧ len = 0 ∧ cap = 0 ∧ zs = []) ∨
  ∃ x, a = some x ∧ len ≤ cap ∧ cap ≤ maxLen ∧ zs.length = cap ∧ (∀ i, i < zs.length → w.cell? (x.add i) = some (.int .u8 (zs.getD i 0))) ∧ ∀ n ∈ zs, (Lit.int .u8 n).wf = true
/-- The bytes lie in a block that was there. -/
def CodeLt (w : World) (a : Option Addr) (len : Nat) : Prop := ∀ b off, a = some ⟨b, off, none⟩ → len ≠ 0 → b < w.heap.size
theorem codeLt_of {w : World} {a : Option Addr} {len cap : Nat} {zs : List Int} (h : codeRow w a len cap zs) : CodeLt w a len := by
  intro b off ha hl
  rcases h with ⟨h1, _⟩ | ⟨x, h1, h2, h3, h4, h5, _⟩
  · rw [h1] at ha; cases ha
  · rw [h1] at ha
    obtain rfl : x = ⟨b, off, none⟩ := by simpa using ha
    have hc0 := h5 0 (by omega)
    have := World.block_lt_of_cell? w _ hc0
    simpa [Addr.add] using this
theorem row_le {w : World} {a : Option Addr} {len cap : Nat} {zs : List Int} (h : codeRow w a len cap zs) : len ≤ maxLen := by
  rcases h with ⟨_, rfl, _, _⟩ | ⟨x, _, h1, h2, _⟩
  · exact Nat.zero_le _
  · omega
theorem codeIn_of {w : World} {a : Option Addr} {len cap : Nat} {zs : List Int} (h : codeRow w a len cap zs) (hl : len ≤ 1048576) (sb : Nat) (hsb : w.heap.size ≤ sb) : CodeIn w sb a len := by
  refine ⟨by omega, ?_⟩
  rcases h with ⟨_, rfl, _, _⟩ | ⟨x, rfl, h1, h2, h3, h4, h5⟩
  · exact Or.inl rfl
  · by_cases h0 : len = 0
    · exact Or.inl h0
    · obtain ⟨b, off, spot⟩ := x
      have hc0 := h4 0 (by omega)
      have hspot : spot = none := by simpa [Addr.add] using World.cell?_spot hc0
      subst hspot
      refine Or.inr ⟨b, off, rfl, ?_, fun i hi => ?_⟩
      · have := World.block_lt_of_cell? w _ hc0
        simp [Addr.add] at this
        omega
      · have hci := h4 i (by omega)
        have hw := getD_all (P := fun n => (Lit.int .u8 n).wf = true) h5 (i := i) (by omega)
        have e : Addr.add ⟨b, off, none⟩ i = ⟨b, off + i, none⟩ := by unfold Addr.add; split <;> simp_all
        rw [e] at hci
        exact ⟨_, hci, (bounds_u8 hw).1, (bounds_u8 hw).2⟩
/-- The bytes can be read as before where nothing that was there has turned. -/
theorem codeIn_below {w W W' : World} {a : Option Addr} {len : Nat} (h : ∀ sb, w.heap.size ≤ sb → CodeIn W sb a len) (hlt : CodeLt w a len) (hb : Below w.heap.size W W') : ∀ sb, w.heap.size ≤ sb → CodeIn W' sb a len := by
  intro sb hsb
  obtain ⟨h1, h2⟩ := h sb hsb
  refine ⟨h1, ?_⟩
  rcases h2 with h2 | ⟨b, off, h3, h4, h5⟩
  · exact Or.inl h2
  · by_cases h0 : len = 0
    · exact Or.inl h0
    · have hblt := hlt b off h3 h0
      refine Or.inr ⟨b, off, h3, h4, fun i hi => ?_⟩
      obtain ⟨z, hz, z1, z2⟩ := h5 i hi
      exact ⟨z, (hb.cell (p := ⟨b, off + i, none⟩) hblt).trans hz, z1, z2⟩
theorem codeIn_drawn {B : Nat} {W W' : World} {a : Option Addr} {len k : Nat} (h : ∀ sb, B ≤ sb → CodeIn W sb a len) (e : W' = W.drewN k) : ∀ sb, B ≤ sb → CodeIn W' sb a len := by
  rw [e]; exact h
theorem below_drawn {B : Nat} {w W W' : World} {k : Nat} (h : Below B w W) (e : W' = W.drewN k) : Below B w W' := by
  rw [e]; exact ⟨h.os, h.tape, h.output, h.size, h.block⟩
end Go.Proofs.Ytnpnlckdggakmaa

namespace Go.Proofs.Ytnpnlckdggakmaa
open Go.RowKit Pl
set_option linter.unusedSimpArgs false
set_option linter.unusedVariables false

theorem specServed_len (h : Hs) (l : List Int) (f t : Int) (a : Option Addr) (cap : Nat) (hl : l.length ≤ 1048576) (n : Nat) (hn : (h.svL l f t).length = n) (w : World) (hI : IIn w a l) :
    Calls Try.prog 55 #[.agg #[.int .i64 h.fl, .int .i64 h.gp, .int .i64 h.ln, .int .i64 h.rf, .int .i64 h.sp, .int .i64 h.pu, .int .i64 h.br, .int .i64 h.dr, .int .i64 h.lv, .int .i64 h.dO, .int .i64 h.ld, .int .i64 h.qu], .slice a l.length cap, .int .i64 f, .int .i64 t] w fun e w' => (∃ K ga gc, e = .returned (.agg #[.int .i64 K, .slice ga n gc])) ∧ Below w.heap.size w w' := by
  refine (specServed_any h l f t a cap hl w hI).mono ?_
  rintro e w' ⟨⟨v, rfl, ho⟩, hb⟩
  obtain ⟨ga, gc, rfl⟩ := ho.sl
  rw [hn]
  exact ⟨⟨_, ga, gc, rfl⟩, hb⟩
set_option maxRecDepth 20000 in
set_option maxHeartbeats 16000000 in
theorem specPairs_any (h : Hs) (l : List Int) (a : Option Addr) (cap : Nat) (hl : l.length ≤ 1048576) (w : World) (hI : IIn w a l) :
    Calls Try.prog 21 #[.agg #[.int .i64 h.fl, .int .i64 h.gp, .int .i64 h.ln, .int .i64 h.rf, .int .i64 h.sp, .int .i64 h.pu, .int .i64 h.br, .int .i64 h.dr, .int .i64 h.lv, .int .i64 h.dO, .int .i64 h.ld, .int .i64 h.qu], .slice a l.length cap] w fun e w' => (∃ v, e = .returned (.agg #[.int .i64 (h.znK l), v]) ∧ OwI w' w.heap.size v (h.plL l)) ∧ Below w.heap.size w w' := by
  have HI : Hid (IIn w a l) := hI
  clear hI
  obtain ⟨K, hK⟩ : ∃ K, h.znK l = K := ⟨_, rfl⟩
  obtain ⟨V, hV⟩ : ∃ V, h.plL l = V := ⟨_, rfl⟩
  rw [hK, hV]
  have HK0 : Hid (h.znK l = K) := hK
  have HV0 : Hid (h.plL l = V) := hV
  clear hK hV
  obtain ⟨b0, hb0⟩ : ∃ b0, b0 = w.heap.size := ⟨_, rfl⟩
  obtain ⟨b1, hb1⟩ : ∃ b1, b1 = b0 + 1 := ⟨_, rfl⟩
  obtain ⟨W0, hW0⟩ : ∃ W0, W0 = (w.alloc (.cells #[.int .i64 h.fl, .int .i64 h.gp, .int .i64 h.ln, .int .i64 h.rf, .int .i64 h.sp, .int .i64 h.pu, .int .i64 h.br, .int .i64 h.dr, .int .i64 h.lv, .int .i64 h.dO, .int .i64 h.ld, .int .i64 h.qu] 25)).alloc (.cells #[.int .i64 0, .slice none 0 0] 30) := ⟨_, rfl⟩
  have F0 : Hid (Blk W0 b0 [.int .i64 h.fl, .int .i64 h.gp, .int .i64 h.ln, .int .i64 h.rf, .int .i64 h.sp, .int .i64 h.pu, .int .i64 h.br, .int .i64 h.dr, .int .i64 h.lv, .int .i64 h.dO, .int .i64 h.ld, .int .i64 h.qu]) := by rw [hW0]; exact ((Blk.at_ _ #[.int .i64 h.fl, .int .i64 h.gp, .int .i64 h.ln, .int .i64 h.rf, .int .i64 h.sp, .int .i64 h.pu, .int .i64 h.br, .int .i64 h.dr, .int .i64 h.lv, .int .i64 h.dO, .int .i64 h.ld, .int .i64 h.qu] _ _ hb0).alloc _)
  have F1 : Hid (Blk W0 b1 [.int .i64 0, .slice none 0 0]) := by rw [hW0]; exact (Blk.at_ _ #[.int .i64 0, .slice none 0 0] _ _ (by simp; omega))
  have FB : Hid (Below w.heap.size w W0) := by rw [hW0]; exact (((Below.refl _ _).alloc (Nat.le_refl _) _).alloc (by simp) _)
  have leb0 : w.heap.size ≤ b0 := by omega
  have leb1 : w.heap.size ≤ b1 := by omega
  have l01 : b0 < b1 := by omega
  go_enter Try.func21, Try.ntmps21
  go_upto_region 1 with fail
  rw [← hb0, ← hb1, ← hW0]
  clear hb0 hb1 hW0
  go_upto_region 2 with (first | (refine load_blk 25 _ Try.underlying25 (by kernel_rfl) F0.out rfl rfl rfl ?_) | (go_at_call 54; refine (specZones_any h l a cap hl _ (HI.out.below FB.out)).mono ?_; rw [HK0.out]; rintro e w1 ⟨rfl, hb⟩; have F0 : Hid (Blk w1 b0 [.int .i64 h.fl, .int .i64 h.gp, .int .i64 h.ln, .int .i64 h.rf, .int .i64 h.sp, .int .i64 h.pu, .int .i64 h.br, .int .i64 h.dr, .int .i64 h.lv, .int .i64 h.dO, .int .i64 h.ld, .int .i64 h.qu]) := F0.out.below hb F0.out.lt; have F1 : Hid (Blk w1 b1 [.int .i64 0, .slice none 0 0]) := F1.out.below hb F1.out.lt; have FB : Hid (Below w.heap.size w w1) := FB.out.trans (hb.mono FB.out.size); clear hb))
  by_cases hz : K = 0
  case neg =>
    have hn : (K != 0) = true := by simpa using hz
    have HV : Hid ([] = V) := by show _ = V; rw [← HV0.out]; unfold Hs.plL; rw [HK0.out, if_neg hz]
    go_wp2_with (refine store_blk [.int .i64 (K), .slice none 0 0] 30 _ _ (by kernel_rfl) (by kernel_rfl) (by kernel_rfl) F1.out rfl rfl rfl rfl ?_)
    exact bodyPost_ret (v := .agg #[.int .i64 (K), .slice none 0 0]) ((F1.out.row [.int .i64 (K), .slice none 0 0]).res _ Try.results21 Try.underlying30 (by kernel_rfl) rfl) rfl ⟨⟨_, rfl, by rw [← HV.out]; exact owi_nil _ _⟩, below_row FB.out leb1 _⟩
  case pos =>
  subst hz
  have o := fl_of (znK_zero HK0.out).1
  obtain ⟨F, hF⟩ : ∃ F : Nat, h.fl = (F : Int) := ⟨h.fl.toNat, by omega⟩
  have HFl : Hid (h.fl = (F : Int)) := hF
  have F12 : F ≤ 12 := by omega
  have HV : Hid (Hs.lostTo h l F F = V) := by show _ = V; rw [← HV0.out]; unfold Hs.plL; rw [HK0.out, if_pos rfl, hF, Int.toNat_natCast]
  clear hF
  go_upto_region 5 with (refine store_new [.int .i64 0, .slice none 0 0] 30 _ _ (by kernel_rfl) (by kernel_rfl) (by kernel_rfl) rfl rfl rfl rfl ?_)
  have FB0 := FB
  obtain ⟨b2, hbb⟩ : ∃ b2, b2 = w1.heap.size := ⟨_, rfl⟩
  obtain ⟨w3, hw2⟩ : ∃ w3, w3 = w1.alloc (.cells #[.int .i64 0, .slice none 0 0] 30) := ⟨_, rfl⟩
  have nb2b0 : b0 < b2 := by rw [hbb]; exact F0.out.lt
  have nb2b1 : b1 < b2 := by rw [hbb]; exact F1.out.lt
  have F0 : Hid (Blk w3 b0 [.int .i64 h.fl, .int .i64 h.gp, .int .i64 h.ln, .int .i64 h.rf, .int .i64 h.sp, .int .i64 h.pu, .int .i64 h.br, .int .i64 h.dr, .int .i64 h.lv, .int .i64 h.dO, .int .i64 h.ld, .int .i64 h.qu]) := by rw [hw2]; exact F0.out.alloc _
  have F1 : Hid (Blk w3 b1 [.int .i64 0, .slice none 0 0]) := by rw [hw2]; exact F1.out.alloc _
  have F2 : Hid (Blk w3 b2 [.int .i64 0, .slice none 0 0]) := by rw [hw2]; exact Blk.at_ w1 #[.int .i64 0, .slice none 0 0] _ _ hbb
  have FB : Hid (Below w.heap.size w w3) := by rw [hw2]; exact FB.out.alloc FB.out.size _
  have leb2 : w.heap.size ≤ b2 := by rw [hbb]; exact FB0.out.size
  rw [← hw2, ← hbb]
  clear hbb hw2 FB0
  obtain ⟨B2, hB2⟩ : ∃ B2, B2 = w3.heap.size := ⟨_, rfl⟩
  have lB0 : b2 < B2 := by rw [hB2]; exact F2.out.lt
  have HB2 : Hid (B2 ≤ w3.heap.size) := by show B2 ≤ _; omega
  have lB2 : w.heap.size ≤ B2 := by omega
  clear hB2
  have cf := F0.out.c 0 _ rfl
  rw [HFl.out] at cf
  go_wp2_with fail
  clear cf
  go_loopw [7] (fun ii wr => ∃ (i : Nat) (va : Option Addr) (vc : Nat), ii = .int .i64 (i : Int) ∧ i ≤ F ∧ OwI wr B2 (.slice va (Hs.lostTo h l F i).length vc) (Hs.lostTo h l F i) ∧ Blk wr b0 [.int .i64 h.fl, .int .i64 h.gp, .int .i64 h.ln, .int .i64 h.rf, .int .i64 h.sp, .int .i64 h.pu, .int .i64 h.br, .int .i64 h.dr, .int .i64 h.lv, .int .i64 h.dO, .int .i64 h.ld, .int .i64 h.qu] ∧ Blk wr b1 [.int .i64 0, .slice none 0 0] ∧ Blk wr b2 [.int .i64 0, .slice va (Hs.lostTo h l F i).length vc] ∧ B2 ≤ wr.heap.size ∧ Below w.heap.size w wr) (fun ii _ => F - (intOf ii).toNat)
  case atStart => exact ⟨0, none, 0, rfl, by omega, owi_nil _ _, F0.out, F1.out, F2.out, HB2.out, FB.out⟩
  case round =>
    obtain ⟨i, va, vc, rfl, hi, ho, hf0, hf1, hf2, hs, hb⟩ := hrel
    clear F0 F1 F2 FB HB2
    have lm := lostTo_len h l F F12 i
    have HM2 : Hid (Hs.lostTo h l F (i + 1) = Hs.lostTo h l F i ++ Hs.lostIn h l i (F - (i + 1))) := rfl
    have HMi : Hid (i = F → Hs.lostTo h l F i = V) := fun e => by rw [e]; exact HV.out
    obtain ⟨M, hM⟩ : ∃ M, Hs.lostTo h l F i = M := ⟨_, rfl⟩
    rw [hM] at ho lm HM2 HMi hf2
    clear hM
    have FO : Hid (OwI wr B2 (.slice va (M).length vc) (M)) := ho
    have F0 : Hid (Blk wr b0 [.int .i64 h.fl, .int .i64 h.gp, .int .i64 h.ln, .int .i64 h.rf, .int .i64 h.sp, .int .i64 h.pu, .int .i64 h.br, .int .i64 h.dr, .int .i64 h.lv, .int .i64 h.dO, .int .i64 h.ld, .int .i64 h.qu]) := hf0
    have F1 : Hid (Blk wr b1 [.int .i64 0, .slice none 0 0]) := hf1
    have F2 : Hid (Blk wr b2 [.int .i64 0, .slice va (M).length vc]) := hf2
    have HS : Hid (B2 ≤ wr.heap.size) := hs
    have FB : Hid (Below w.heap.size w wr) := hb
    clear ho hf0 hf1 hf2 hs hb
    have cf := F0.out.c 0 _ rfl
    rw [HFl.out] at cf
    by_cases hlt : i < F
    · have hd : decide ((i : Int) < (F : Int)) = true := decide_eq_true (by omega)
      go_wp2_with fail
      go_loopw [8] (fun kk wx => ∃ (k : Nat) (va : Option Addr) (vc : Nat) (N : List Int), kk = .int .i64 ((i + 1 + k : Nat) : Int) ∧ i + 1 + k ≤ F ∧ N = M ++ Hs.lostIn h l i k ∧ OwI wx B2 (.slice va (N).length vc) (N) ∧ Blk wx b0 [.int .i64 h.fl, .int .i64 h.gp, .int .i64 h.ln, .int .i64 h.rf, .int .i64 h.sp, .int .i64 h.pu, .int .i64 h.br, .int .i64 h.dr, .int .i64 h.lv, .int .i64 h.dO, .int .i64 h.ld, .int .i64 h.qu] ∧ Blk wx b1 [.int .i64 0, .slice none 0 0] ∧ Blk wx b2 [.int .i64 0, .slice va (N).length vc] ∧ B2 ≤ wx.heap.size ∧ Below w.heap.size w wx) (fun kk _ => F - (intOf kk).toNat)
      case atStart => exact ⟨0, va, vc, M, by simp, by omega, by simp [Hs.lostIn], FO.out, F0.out, F1.out, F2.out, HS.out, FB.out⟩
      case round =>
        obtain ⟨k, va, vc, N, rfl, hk, hN, ho, hf0, hf1, hf2, hs, hb⟩ := hrel
        clear FO F0 F1 F2 HS FB cf
        have HN : Hid (N = M ++ Hs.lostIn h l i k) := hN
        have ln : N.length ≤ 1000 := by
          rw [hN, List.length_append]
          have := lostIn_len h l i k
          omega
        clear hN
        have FO : Hid (OwI wr B2 (.slice va (N).length vc) (N)) := ho
        have F0 : Hid (Blk wr b0 [.int .i64 h.fl, .int .i64 h.gp, .int .i64 h.ln, .int .i64 h.rf, .int .i64 h.sp, .int .i64 h.pu, .int .i64 h.br, .int .i64 h.dr, .int .i64 h.lv, .int .i64 h.dO, .int .i64 h.ld, .int .i64 h.qu]) := hf0
        have F1 : Hid (Blk wr b1 [.int .i64 0, .slice none 0 0]) := hf1
        have F2 : Hid (Blk wr b2 [.int .i64 0, .slice va (N).length vc]) := hf2
        have HS : Hid (B2 ≤ wr.heap.size) := hs
        have FB : Hid (Below w.heap.size w wr) := hb
        clear ho hf0 hf1 hf2 hs hb
        have cf := F0.out.c 0 _ rfl
        rw [HFl.out] at cf
        by_cases hkl : i + 1 + k < F
        · have hd2 : decide (((i + 1 + k : Nat) : Int) < (F : Int)) = true := decide_eq_true (by omega)
          obtain ⟨b, hb⟩ : ∃ b : Nat, i + 1 + k = b := ⟨_, rfl⟩
          have HBk : Hid (i + 1 + k = b) := hb
          rw [hb] at hd2 hkl ⊢
          obtain ⟨n, hn⟩ : ∃ n, (h.svL l (i : Int) (b : Int)).length = n := ⟨_, rfl⟩
          have HLP : Hid (Hs.lostP h l i (i + 1 + k) = if n = 0 then [(i : Int) * 12 + (b : Int)] else []) := by show _ = _; unfold Hs.lostP; rw [hb, hn]
          have CS : ∀ W, IIn W a l → Calls Try.prog 55 #[.agg #[.int .i64 h.fl, .int .i64 h.gp, .int .i64 h.ln, .int .i64 h.rf, .int .i64 h.sp, .int .i64 h.pu, .int .i64 h.br, .int .i64 h.dr, .int .i64 h.lv, .int .i64 h.dO, .int .i64 h.ld, .int .i64 h.qu], .slice a l.length cap, .int .i64 (i : Int), .int .i64 (b : Int)] W fun e w' => (∃ K ga gc, e = .returned (.agg #[.int .i64 K, .slice ga n gc])) ∧ Below W.heap.size W w' := fun W hW => specServed_len h l _ _ a cap hl n hn W hW
          have ew1 : IntKind.i64.wrap ((i : Int) * 12) = (i : Int) * 12 := IntWalk.i64_in _ (by omega)
          have ew2 : IntKind.i64.wrap ((i : Int) * 12 + (b : Int)) = (i : Int) * 12 + (b : Int) := IntWalk.i64_in _ (by omega)
          clear hb hn
          by_cases hn0 : n = 0
          · subst hn0
            have HN2 : Hid (N ++ [(i : Int) * 12 + (b : Int)] = M ++ Hs.lostIn h l i (k + 1)) := by show _ = _; rw [Hs.lostIn, HLP.out, if_pos rfl, ← List.append_assoc, ← HN.out]
            go_wp2_with (first | (refine load_blk 25 _ Try.underlying25 (by kernel_rfl) F0.out rfl rfl rfl ?_) | (go_at_call 55; refine (CS _ (HI.out.below FB.out)).mono ?_; rintro e w5 ⟨⟨K1, ga, gc, rfl⟩, hb⟩; have ff : ∀ W : World, (Instr.field 30 (.agg #[.int .i64 K1, .slice ga 0 gc]) 1).run Try.prog W = .ok (.slice ga 0 gc) W := fun W => (by kernel_rfl); have FO : Hid (OwI w5 B2 (.slice va (N).length vc) N) := FO.out.below hb (fun k hk => (FO.out.lt k hk).2); have F0 : Hid (Blk w5 b0 [.int .i64 h.fl, .int .i64 h.gp, .int .i64 h.ln, .int .i64 h.rf, .int .i64 h.sp, .int .i64 h.pu, .int .i64 h.br, .int .i64 h.dr, .int .i64 h.lv, .int .i64 h.dO, .int .i64 h.ld, .int .i64 h.qu]) := F0.out.below hb F0.out.lt; have F1 : Hid (Blk w5 b1 [.int .i64 0, .slice none 0 0]) := F1.out.below hb F1.out.lt; have F2 : Hid (Blk w5 b2 [.int .i64 0, .slice va (N).length vc]) := F2.out.below hb F2.out.lt; have y1 := F2.out.c 1 _ rfl; have y2 := F2.out.f 1 (by simp); have HS : Hid (B2 ≤ w5.heap.size) := Nat.le_trans HS.out hb.size; have FB : Hid (Below w.heap.size w w5) := FB.out.trans (hb.mono FB.out.size); have cf := F0.out.c 0 _ rfl; rw [HFl.out] at cf; clear hb) | (at_builtin; refine app_iG _ B2 _ N ((i : Int) * 12 + (b : Int)) _ _ rfl rfl rfl rfl FO.out ln HS.out ?_; intro a' c' w7 ho2 hg; have G2 : Hid (Blk w7 b2 [.int .i64 0, .slice va (N).length vc]) := F2.out.grown hg (fun e => by have := (FO.out.lt b2 e.symm).1; omega); have x1 := G2.out.c 1 _ rfl; have x2 := G2.out.f 1 (by simp)))
            go_roundw
            case rel => first | exact ⟨k + 1, a', c', N ++ [(i : Int) * 12 + (b : Int)], by rw [← HBk.out]; first | rfl | (congr 1; done) | (congr 1; omega), by have := HBk.out; omega, HN2.out, ho2.other (fun e => by have e2 : B2 ≤ b2 := (ho2.lt b2 e).1; omega) _, (F0.out.grown hg (fun e => by have := (FO.out.lt b0 e.symm).1; omega)).other (by omega), (F1.out.grown hg (fun e => by have := (FO.out.lt b1 e.symm).1; omega)).other (by omega), by rw [List.length_append]; exact G2.out.set (k := 1) _ (by simp), by have := Nat.le_trans HS.out hg.size; simpa using this, (FB.out.grown hg FB.out.size (fun j hj => Nat.le_trans lB2 (FO.out.lt j hj).1)).setCell leb2 _⟩ | ((repeat apply Exists.intro); exact ⟨⟨k + 1, a', c', N ++ [(i : Int) * 12 + (b : Int)], by rw [← HBk.out]; first | rfl | (congr 1; done) | (congr 1; omega), by have := HBk.out; omega, HN2.out, ho2.other (fun e => by have e2 : B2 ≤ b2 := (ho2.lt b2 e).1; omega) _, (F0.out.grown hg (fun e => by have := (FO.out.lt b0 e.symm).1; omega)).other (by omega), (F1.out.grown hg (fun e => by have := (FO.out.lt b1 e.symm).1; omega)).other (by omega), by rw [List.length_append]; exact G2.out.set (k := 1) _ (by simp), by have := Nat.le_trans HS.out hg.size; simpa using this, (FB.out.grown hg FB.out.size (fun j hj => Nat.le_trans lB2 (FO.out.lt j hj).1)).setCell leb2 _⟩, rfl⟩)
            case measure => simp [intOf]; omega
          · have hnn : ((n : Int) == 0) = false := by simpa using hn0
            have hnp : 0 < n := by omega
            have HN2 : Hid (N = M ++ Hs.lostIn h l i (k + 1)) := by show _ = _; rw [Hs.lostIn, HLP.out, if_neg hn0, List.append_nil]; exact HN.out
            clear hn0
            go_wp2_with (first | (refine load_blk 25 _ Try.underlying25 (by kernel_rfl) F0.out rfl rfl rfl ?_) | (go_at_call 55; refine (CS _ (HI.out.below FB.out)).mono ?_; rintro e w5 ⟨⟨K1, ga, gc, rfl⟩, hb⟩; have ff : ∀ W : World, (Instr.field 30 (.agg #[.int .i64 K1, .slice ga n gc]) 1).run Try.prog W = .ok (.slice ga n gc) W := fun W => (by kernel_rfl); have FO : Hid (OwI w5 B2 (.slice va (N).length vc) N) := FO.out.below hb (fun k hk => (FO.out.lt k hk).2); have F0 : Hid (Blk w5 b0 [.int .i64 h.fl, .int .i64 h.gp, .int .i64 h.ln, .int .i64 h.rf, .int .i64 h.sp, .int .i64 h.pu, .int .i64 h.br, .int .i64 h.dr, .int .i64 h.lv, .int .i64 h.dO, .int .i64 h.ld, .int .i64 h.qu]) := F0.out.below hb F0.out.lt; have F1 : Hid (Blk w5 b1 [.int .i64 0, .slice none 0 0]) := F1.out.below hb F1.out.lt; have F2 : Hid (Blk w5 b2 [.int .i64 0, .slice va (N).length vc]) := F2.out.below hb F2.out.lt; have y1 := F2.out.c 1 _ rfl; have y2 := F2.out.f 1 (by simp); have HS : Hid (B2 ≤ w5.heap.size) := Nat.le_trans HS.out hb.size; have FB : Hid (Below w.heap.size w w5) := FB.out.trans (hb.mono FB.out.size); have cf := F0.out.c 0 _ rfl; rw [HFl.out] at cf; clear hb))
            go_roundw
            case rel => first | exact ⟨k + 1, va, vc, N, by rw [← HBk.out]; first | rfl | (congr 1; done) | (congr 1; omega), by have := HBk.out; omega, HN2.out, FO.out, F0.out, F1.out, F2.out, HS.out, FB.out⟩ | ((repeat apply Exists.intro); exact ⟨⟨k + 1, va, vc, N, by rw [← HBk.out]; first | rfl | (congr 1; done) | (congr 1; omega), by have := HBk.out; omega, HN2.out, FO.out, F0.out, F1.out, F2.out, HS.out, FB.out⟩, rfl⟩)
            case measure => simp [intOf]; omega
        · have hd2 : decide (((i + 1 + k : Nat) : Int) < (F : Int)) = false := decide_eq_false (by omega)
          have HN3 : Hid (Hs.lostTo h l F (i + 1) = N) := by show _ = N; rw [HM2.out, HN.out, show F - (i + 1) = k by omega]
          go_wp2_with fail
          go_roundw
          case rel => first | exact ⟨i + 1, va, vc, by simp, by omega, by rw [HN3.out]; exact FO.out, F0.out, F1.out, by rw [HN3.out]; exact F2.out, HS.out, FB.out⟩ | ((repeat apply Exists.intro); exact ⟨⟨i + 1, va, vc, by simp, by omega, by rw [HN3.out]; exact FO.out, F0.out, F1.out, by rw [HN3.out]; exact F2.out, HS.out, FB.out⟩, rfl⟩)
          case measure => simp [intOf]; omega
    · have hd : decide ((i : Int) < (F : Int)) = false := decide_eq_false (by omega)
      have eV : M = V := HMi.out (by omega)
      subst eV
      have HO : Hid (OwI wr w.heap.size (.slice va (M).length vc) M) := FO.out.base lB2
      have HOb : Hid (∀ j, (Value.slice va M.length vc).ownBlock = some j → b1 < j) := fun j hj => Nat.lt_of_lt_of_le (by omega) (FO.out.lt j hj).1
      have HOV : Hid (OwI (wr.setRow b1 #[.int .i64 0, .slice va M.length vc]) w.heap.size (.slice va M.length vc) M) := OwI.kept (row := some b1) HO.out ⟨rfl, rfl, rfl, by simp, fun k _ hne => setRow_other _ b1 k _ (fun q => hne (by rw [q]))⟩ (Or.inr (fun c => by have := HOb.out b1 c; omega))
      go_wp2_with (first | (refine load_blk 30 _ Try.underlying30 (by kernel_rfl) F2.out rfl rfl rfl ?_) | (refine store_blk [.int .i64 (0), .slice va M.length vc] 30 _ _ (by kernel_rfl) (by kernel_rfl) (by kernel_rfl) F1.out rfl rfl rfl rfl ?_))
      exact bodyPost_ret (v := .agg #[.int .i64 (0), .slice va M.length vc]) ((F1.out.row [.int .i64 (0), .slice va M.length vc]).res _ Try.results21 Try.underlying30 (by kernel_rfl) rfl) rfl ⟨⟨_, rfl, HOV.out⟩, below_row FB.out leb1 _⟩
end Go.Proofs.Ytnpnlckdggakmaa

namespace Go.Proofs.Ytnpnlckdggakmaa
open Go.RowKit Pl
set_option linter.unusedSimpArgs false
set_option linter.unusedVariables false

theorem keeps_grown {sb : Nat} {W W' : World} (h : Keeps sb W W') : W.grownBy W' (some sb) := ⟨h.os, h.tape, h.output, h.size, fun k hk hne => h.block k hk (fun e => hne (by rw [e]))⟩
theorem OwI.keepsM {W W' : World} {B sb : Nat} {v : Value} {l : List Int} (h : OwI W B v l) (hk : Keeps sb W W') (hB : sb < B) : OwI W' B v l :=
  OwI.kept h (keeps_grown hk) (Or.inr (fun e => by have := (h.lt sb e).1; omega))
theorem SrcT.grownM {W W' : World} {sb B : Nat} {row : Option Nat} {a : Option Addr} {len cap T : Nat} (h : SrcT W sb B a len cap T) (hg : W.grownBy W' row) (hr : ∀ k, row = some k → sb < k) : SrcT W' sb B a len cap T := by
  obtain ⟨t, ht, h⟩ := h
  have hB := h.hB
  have hb : Below (sb + 1) W W' := ⟨hg.os, hg.tape, hg.output, hg.size, fun k hk => hg.block k (Nat.lt_of_lt_of_le hk h.lt) (fun e => by have := hr k e.symm; omega)⟩
  exact ⟨t, ht, Nat.lt_of_lt_of_le h.lt hb.size, h.hB, (hb.cell (p := ⟨sb, 0, none⟩) (Nat.lt_succ_self _)).trans h.c0, (hb.cell (p := ⟨sb, 1, none⟩) (Nat.lt_succ_self _)).trans h.c1, (hb.frozen (p := ⟨sb, 1, none⟩) (Nat.lt_succ_self _)).trans h.fz, h.hc.keep fun b off hlt _ => hb.cell (p := ⟨b, off, none⟩) (show b < sb + 1 by omega)⟩
theorem Keeps.grownM {sb : Nat} {a W W' : World} {row : Option Nat} (h : Keeps sb a W) (hg : W.grownBy W' row) (hr : ∀ k, row = some k → a.heap.size ≤ k) : Keeps sb a W' :=
  ⟨hg.os.trans h.os, hg.tape.trans h.tape, hg.output.trans h.output, Nat.le_trans h.size hg.size, fun k hk hn => (hg.block k (Nat.lt_of_lt_of_le hk h.size) (fun e => by have := hr k e.symm; omega)).trans (h.block k hk hn)⟩
theorem CodeIn.upM {w : World} {B C : Nat} {a : Option Addr} {len : Nat} (h : CodeIn w B a len) (hB : B ≤ C) : CodeIn w C a len := by
  obtain ⟨h1, h2⟩ := h
  refine ⟨h1, ?_⟩
  rcases h2 with h2 | ⟨b, off, h3, h4, h5⟩
  · exact Or.inl h2
  · exact Or.inr ⟨b, off, h3, by omega, h5⟩
theorem own_emptyM (w : World) (B : Nat) (hB : B ≤ w.heap.size) : OwI (w.alloc (.cells #[] 2)) B (.slice (some ⟨w.heap.size, 0, none⟩) 0 0) [] :=
  ⟨rfl, Or.inr ⟨w.heap.size, 0, #[], rfl, hB, heap_alloc_last w _, Nat.le_refl _, by unfold maxLen; omega, rfl, rfl⟩⟩
set_option maxRecDepth 20000 in
set_option maxHeartbeats 16000000 in
theorem l12Zones_t (h : Hs) (f1 : 2 ≤ h.fl) (f2 : h.fl ≤ 12) (sb B : Nat) (a : Option Addr) (len cap T : Nat) (w : World) (hS : SrcT w sb B a len cap T) (hT : T ≤ 700000) :
    Calls Try.prog 69 #[.pointer (some ⟨sb, 0, none⟩), .agg #[.int .i64 h.fl, .int .i64 h.gp, .int .i64 h.ln, .int .i64 h.rf, .int .i64 h.sp, .int .i64 h.pu, .int .i64 h.br, .int .i64 h.dr, .int .i64 h.lv, .int .i64 h.dO, .int .i64 h.ld, .int .i64 h.qu]] w fun e w' => ∃ v l, e = .returned v ∧ OwI w' w.heap.size v l ∧ l.length ≤ 7 ∧ SrcT w' sb B a len cap (T + 100) ∧ Keeps sb w w' := by
  have lsb := hS.lt
  obtain ⟨b0, hb0⟩ : ∃ b0, b0 = w.heap.size := ⟨_, rfl⟩
  obtain ⟨W0, hW0⟩ : ∃ W0, W0 = w.alloc (.cells #[.int .i64 h.fl, .int .i64 h.gp, .int .i64 h.ln, .int .i64 h.rf, .int .i64 h.sp, .int .i64 h.pu, .int .i64 h.br, .int .i64 h.dr, .int .i64 h.lv, .int .i64 h.dO, .int .i64 h.ld, .int .i64 h.qu] 25) := ⟨_, rfl⟩
  have F0 : Hid (Blk W0 b0 [.int .i64 h.fl, .int .i64 h.gp, .int .i64 h.ln, .int .i64 h.rf, .int .i64 h.sp, .int .i64 h.pu, .int .i64 h.br, .int .i64 h.dr, .int .i64 h.lv, .int .i64 h.dO, .int .i64 h.ld, .int .i64 h.qu]) := by rw [hW0]; exact Blk.at_ _ #[.int .i64 h.fl, .int .i64 h.gp, .int .i64 h.ln, .int .i64 h.rf, .int .i64 h.sp, .int .i64 h.pu, .int .i64 h.br, .int .i64 h.dr, .int .i64 h.lv, .int .i64 h.dO, .int .i64 h.ld, .int .i64 h.qu] _ _ hb0
  have FS : Hid (SrcT W0 sb B a len cap T) := by rw [hW0]; exact hS.alloc _
  have FK : Hid (Keeps sb w W0) := by rw [hW0]; exact (Keeps.refl _ _).alloc _
  have n0 : sb < b0 := by omega
  have lw : w.heap.size ≤ b0 := by omega
  clear hS
  go_enter Try.func69, Try.ntmps69
  go_upto_region 1 with fail
  rw [← hb0, ← hW0]
  clear hb0 hW0
  obtain ⟨B2, hB2⟩ : ∃ B2, B2 = W0.heap.size := ⟨_, rfl⟩
  have FO : Hid (OwI (W0.alloc (.cells #[] 2)) B2 (.slice (some ⟨B2, 0, none⟩) 0 0) []) := by rw [hB2]; exact own_emptyM W0 _ (Nat.le_refl _)
  have l02 : b0 < B2 := by rw [hB2]; exact F0.out.lt
  have lB : sb < B2 := by omega
  have l2w : w.heap.size ≤ B2 := by omega
  have F0 : Hid (Blk (W0.alloc (.cells #[] 2)) b0 [.int .i64 h.fl, .int .i64 h.gp, .int .i64 h.ln, .int .i64 h.rf, .int .i64 h.sp, .int .i64 h.pu, .int .i64 h.br, .int .i64 h.dr, .int .i64 h.lv, .int .i64 h.dO, .int .i64 h.ld, .int .i64 h.qu]) := F0.out.alloc _
  have FS : Hid (SrcT (W0.alloc (.cells #[] 2)) sb B a len cap T) := FS.out.alloc _
  have FK : Hid (Keeps sb w (W0.alloc (.cells #[] 2))) := FK.out.alloc _
  have HS : Hid (B2 ≤ (W0.alloc (.cells #[] 2)).heap.size) := by show B2 ≤ _; rw [hB2]; simp
  go_upto_region 2 with fail
  rw [← hB2]
  obtain ⟨w1, hw1⟩ : ∃ w1, w1 = W0.alloc (.cells #[] 2) := ⟨_, rfl⟩
  rw [← hw1] at FO F0 FS FK HS ⊢
  clear hw1 hB2
  go_wp2_with (go_at_call 34; refine (l1Pick_t sb B w1.heap.size [1, 2, 3, 4, 6, 7, 0] (fun y => 0 ≤ y ∧ y ≤ 7) (by intro y hy; simp at hy; omega) a len cap T _ (FS.out.alloc _) (by omega) (LstAt.new w1 [1, 2, 3, 4, 6, 7, 0] 2 _ rfl (by simp)) (by simp) (by have := FS.out.lt; omega)).mono ?_; rintro e w2 ⟨k0, rfl, hk0, hs, hk⟩; have F0 : Hid (Blk w2 b0 [.int .i64 h.fl, .int .i64 h.gp, .int .i64 h.ln, .int .i64 h.rf, .int .i64 h.sp, .int .i64 h.pu, .int .i64 h.br, .int .i64 h.dr, .int .i64 h.lv, .int .i64 h.dO, .int .i64 h.ld, .int .i64 h.qu]) := (F0.out.alloc _).keeps hk (by omega); have FO : Hid (OwI w2 B2 (.slice (some ⟨B2, 0, none⟩) 0 0) []) := (FO.out.alloc _).keepsM hk lB; have HS : Hid (B2 ≤ w2.heap.size) := Nat.le_trans HS.out (Nat.le_trans (by simp) hk.size); have FS : Hid (SrcT w2 sb B a len cap (T + 1)) := hs; have FK : Hid (Keeps sb w w2) := (FK.out.alloc _).trans hk; clear hs hk)
  go_loopw [5, 6] (fun zz kk wr => ∃ (k : Int) (va : Option Addr) (vc : Nat) (L : List Int), zz = .slice va L.length vc ∧ kk = .int .i64 k ∧ 0 ≤ k ∧ (L.length : Int) + k ≤ 7 ∧ OwI wr B2 (.slice va L.length vc) L ∧ Blk wr b0 [.int .i64 h.fl, .int .i64 h.gp, .int .i64 h.ln, .int .i64 h.rf, .int .i64 h.sp, .int .i64 h.pu, .int .i64 h.br, .int .i64 h.dr, .int .i64 h.lv, .int .i64 h.dO, .int .i64 h.ld, .int .i64 h.qu] ∧ B2 ≤ wr.heap.size ∧ SrcT wr sb B a len cap (T + 1 + 5 * L.length) ∧ Keeps sb w wr) (fun _ kk _ => (intOf kk).toNat)
  case atStart => exact ⟨k0, some ⟨B2, 0, none⟩, 0, [], rfl, rfl, hk0.1, by simp; omega, FO.out, F0.out, HS.out, FS.out, FK.out⟩
  case round =>
    obtain ⟨k, va, vc, L, rfl, rfl, k1, k7, ho, hf0, hs0, hsr, hkp⟩ := hrel
    clear F0 FO FS FK HS
    have FO : Hid (OwI wr B2 (.slice va L.length vc) L) := ho
    have F0 : Hid (Blk wr b0 [.int .i64 h.fl, .int .i64 h.gp, .int .i64 h.ln, .int .i64 h.rf, .int .i64 h.sp, .int .i64 h.pu, .int .i64 h.br, .int .i64 h.dr, .int .i64 h.lv, .int .i64 h.dO, .int .i64 h.ld, .int .i64 h.qu]) := hf0
    have HS : Hid (B2 ≤ wr.heap.size) := hs0
    have FS : Hid (SrcT wr sb B a len cap (T + 1 + 5 * L.length)) := hsr
    have FK : Hid (Keeps sb w wr) := hkp
    clear ho hf0 hs0 hsr hkp
    by_cases hlt : 0 < k
    · have hd : decide (0 < k) = true := decide_eq_true hlt
      have ll : L.length ≤ 6 := by omega
      have ek : IntKind.i64.wrap (k - 1) = k - 1 := IntWalk.i64_in _ (by omega)
      go_upto_region 6 with (first | (refine load_blk 25 _ Try.underlying25 (by kernel_rfl) F0.out rfl rfl rfl ?_) | (go_at_call 82; refine (l12Mask_t h (by omega) (by omega) sb B a len cap (T + 1 + 5 * L.length) _ FS.out (by omega)).mono ?_; rintro e w4 ⟨m, rfl, hs, hk⟩; have F0 : Hid (Blk w4 b0 [.int .i64 h.fl, .int .i64 h.gp, .int .i64 h.ln, .int .i64 h.rf, .int .i64 h.sp, .int .i64 h.pu, .int .i64 h.br, .int .i64 h.dr, .int .i64 h.lv, .int .i64 h.dO, .int .i64 h.ld, .int .i64 h.qu]) := F0.out.keeps hk (by omega); have FO : Hid (OwI w4 B2 (.slice va L.length vc) L) := FO.out.keepsM hk lB; have HS : Hid (B2 ≤ w4.heap.size) := Nat.le_trans HS.out hk.size; have FS : Hid (SrcT w4 sb B a len cap ((T + 1 + 5 * L.length) + 4)) := hs; have FK : Hid (Keeps sb w w4) := FK.out.trans hk; clear hs hk))
      cases hr : h.right m with
      | false =>
        go_wp2_with (first | (refine load_blk 25 _ Try.underlying25 (by kernel_rfl) F0.out rfl rfl rfl ?_) | (go_at_call 70; refine (l12Right_any h m (by omega) (by omega) _).mono ?_; rw [hr]; rintro e w5 ⟨rfl, hb⟩; have F0 : Hid (Blk w5 b0 [.int .i64 h.fl, .int .i64 h.gp, .int .i64 h.ln, .int .i64 h.rf, .int .i64 h.sp, .int .i64 h.pu, .int .i64 h.br, .int .i64 h.dr, .int .i64 h.lv, .int .i64 h.dO, .int .i64 h.ld, .int .i64 h.qu]) := F0.out.below hb F0.out.lt; have FO : Hid (OwI w5 B2 (.slice va L.length vc) L) := FO.out.below hb (fun k hk => (FO.out.lt k hk).2); have HS : Hid (B2 ≤ w5.heap.size) := Nat.le_trans HS.out hb.size; have FS : Hid (SrcT w5 sb B a len cap ((T + 1 + 5 * L.length) + 4)) := FS.out.below hb; have FK : Hid (Keeps sb w w5) := FK.out.of_below hb; clear hb) | (go_at_call 34; refine (l1Pick_at_t sb B 2 [1, 3, 1, 3, m] a len cap ((T + 1 + 5 * L.length) + 4) w5 _ rfl FS.out (by omega) (by simp) (by simp)).mono ?_; rintro e w6 ⟨m2, rfl, hs, hk⟩; have F0 : Hid (Blk w6 b0 [.int .i64 h.fl, .int .i64 h.gp, .int .i64 h.ln, .int .i64 h.rf, .int .i64 h.sp, .int .i64 h.pu, .int .i64 h.br, .int .i64 h.dr, .int .i64 h.lv, .int .i64 h.dO, .int .i64 h.ld, .int .i64 h.qu]) := F0.out.keeps hk (by omega); have FO : Hid (OwI w6 B2 (.slice va L.length vc) L) := FO.out.keepsM hk lB; have HS : Hid (B2 ≤ w6.heap.size) := Nat.le_trans HS.out hk.size; have FS : Hid (SrcT w6 sb B a len cap ((T + 1 + 5 * L.length) + 4 + 1)) := hs; have FK : Hid (Keeps sb w w6) := FK.out.trans hk; clear hs hk) | (at_builtin; refine app_iG _ B2 _ L m2 _ _ rfl rfl rfl rfl FO.out (by omega) HS.out ?_; intro a' c' w8 ho2 hg))
        go_roundw
        case rel => exact ⟨k - 1, a', c', L ++ [m2], by rw [List.length_append]; rfl, rfl, by omega, by rw [List.length_append]; simp; omega, ho2, F0.out.grown hg (fun e => by have := (FO.out.lt b0 e.symm).1; omega), Nat.le_trans HS.out hg.size, (FS.out.grownM hg (fun j hj => by have := (FO.out.lt j hj).1; omega)).more (by rw [List.length_append]; simp; omega), FK.out.grownM hg (fun j hj => by have := (FO.out.lt j hj).1; omega)⟩
        case measure => simp [intOf]; omega
      | true =>
        by_cases hm0 : m = 0
        · have hn0 : (m == 0) = true := by simpa using hm0
          have HM : Hid (m = 0) := hm0
          clear hm0
          go_wp2_with (first | (refine load_blk 25 _ Try.underlying25 (by kernel_rfl) F0.out rfl rfl rfl ?_) | (go_at_call 70; refine (l12Right_any h m (by omega) (by omega) _).mono ?_; rw [hr]; rintro e w5 ⟨rfl, hb⟩; have F0 : Hid (Blk w5 b0 [.int .i64 h.fl, .int .i64 h.gp, .int .i64 h.ln, .int .i64 h.rf, .int .i64 h.sp, .int .i64 h.pu, .int .i64 h.br, .int .i64 h.dr, .int .i64 h.lv, .int .i64 h.dO, .int .i64 h.ld, .int .i64 h.qu]) := F0.out.below hb F0.out.lt; have FO : Hid (OwI w5 B2 (.slice va L.length vc) L) := FO.out.below hb (fun k hk => (FO.out.lt k hk).2); have HS : Hid (B2 ≤ w5.heap.size) := Nat.le_trans HS.out hb.size; have FS : Hid (SrcT w5 sb B a len cap ((T + 1 + 5 * L.length) + 4)) := FS.out.below hb; have FK : Hid (Keeps sb w w5) := FK.out.of_below hb; clear hb) | (go_at_call 34; refine (l1Pick_at_t sb B 2 [1, 3, 1, 3, m] a len cap ((T + 1 + 5 * L.length) + 4) w5 _ rfl FS.out (by omega) (by simp) (by simp)).mono ?_; rintro e w6 ⟨m2, rfl, hs, hk⟩; have F0 : Hid (Blk w6 b0 [.int .i64 h.fl, .int .i64 h.gp, .int .i64 h.ln, .int .i64 h.rf, .int .i64 h.sp, .int .i64 h.pu, .int .i64 h.br, .int .i64 h.dr, .int .i64 h.lv, .int .i64 h.dO, .int .i64 h.ld, .int .i64 h.qu]) := F0.out.keeps hk (by omega); have FO : Hid (OwI w6 B2 (.slice va L.length vc) L) := FO.out.keepsM hk lB; have HS : Hid (B2 ≤ w6.heap.size) := Nat.le_trans HS.out hk.size; have FS : Hid (SrcT w6 sb B a len cap ((T + 1 + 5 * L.length) + 4 + 1)) := hs; have FK : Hid (Keeps sb w w6) := FK.out.trans hk; clear hs hk) | (at_builtin; refine app_iG _ B2 _ L m2 _ _ rfl rfl rfl rfl FO.out (by omega) HS.out ?_; intro a' c' w8 ho2 hg))
          go_roundw
          case rel => exact ⟨k - 1, a', c', L ++ [m2], by rw [List.length_append]; rfl, rfl, by omega, by rw [List.length_append]; simp; omega, ho2, F0.out.grown hg (fun e => by have := (FO.out.lt b0 e.symm).1; omega), Nat.le_trans HS.out hg.size, (FS.out.grownM hg (fun j hj => by have := (FO.out.lt j hj).1; omega)).more (by rw [List.length_append]; simp; omega), FK.out.grownM hg (fun j hj => by have := (FO.out.lt j hj).1; omega)⟩
          case measure => simp [intOf]; omega
        · have hn0 : (m == 0) = false := by simpa using hm0
          clear hm0
          go_wp2_with (first | (refine load_blk 25 _ Try.underlying25 (by kernel_rfl) F0.out rfl rfl rfl ?_) | (go_at_call 70; refine (l12Right_any h m (by omega) (by omega) _).mono ?_; rw [hr]; rintro e w5 ⟨rfl, hb⟩; have F0 : Hid (Blk w5 b0 [.int .i64 h.fl, .int .i64 h.gp, .int .i64 h.ln, .int .i64 h.rf, .int .i64 h.sp, .int .i64 h.pu, .int .i64 h.br, .int .i64 h.dr, .int .i64 h.lv, .int .i64 h.dO, .int .i64 h.ld, .int .i64 h.qu]) := F0.out.below hb F0.out.lt; have FO : Hid (OwI w5 B2 (.slice va L.length vc) L) := FO.out.below hb (fun k hk => (FO.out.lt k hk).2); have HS : Hid (B2 ≤ w5.heap.size) := Nat.le_trans HS.out hb.size; have FS : Hid (SrcT w5 sb B a len cap ((T + 1 + 5 * L.length) + 4)) := FS.out.below hb; have FK : Hid (Keeps sb w w5) := FK.out.of_below hb; clear hb) | (at_builtin; refine app_iG _ B2 _ L m _ _ rfl rfl rfl rfl FO.out (by omega) HS.out ?_; intro a' c' w8 ho2 hg))
          go_roundw
          case rel => exact ⟨k - 1, a', c', L ++ [m], by rw [List.length_append]; rfl, rfl, by omega, by rw [List.length_append]; simp; omega, ho2, F0.out.grown hg (fun e => by have := (FO.out.lt b0 e.symm).1; omega), Nat.le_trans HS.out hg.size, (FS.out.grownM hg (fun j hj => by have := (FO.out.lt j hj).1; omega)).more (by rw [List.length_append]; simp; omega), FK.out.grownM hg (fun j hj => by have := (FO.out.lt j hj).1; omega)⟩
          case measure => simp [intOf]; omega
    · have hd : decide (0 < k) = false := decide_eq_false hlt
      go_wp2_with fail
      go_ret
      first | exact ⟨_, L, rfl, FO.out.base l2w, by omega, FS.out.more (by omega), FK.out⟩ | exact ⟨_, rfl, ⟨L, FO.out.base l2w, by omega, FS.out.more (by omega), FK.out⟩⟩ | (refine ⟨L, ?_⟩; exact ⟨FO.out.base l2w, by omega, FS.out.more (by omega), FK.out⟩)
set_option maxRecDepth 20000 in
set_option maxHeartbeats 16000000 in
theorem l12Both_any (a : Option Addr) (len cap : Nat) (w : World) (hc : CodeIn w w.heap.size a len) :
    Calls Try.prog 53 #[.slice a len cap] w fun e w' => ∃ (h : Hs) (va : Option Addr) (vc : Nat) (l : List Int), e = .returned (.tuple #[.agg #[.int .i64 h.fl, .int .i64 h.gp, .int .i64 h.ln, .int .i64 h.rf, .int .i64 h.sp, .int .i64 h.pu, .int .i64 h.br, .int .i64 h.dr, .int .i64 h.lv, .int .i64 h.dO, .int .i64 h.ld, .int .i64 h.qu], .slice va l.length vc]) ∧ OwI w' w.heap.size (.slice va l.length vc) l ∧ l.length ≤ 7 ∧ Below w.heap.size w w' := by
  obtain ⟨b0, hb0⟩ : ∃ b0, b0 = w.heap.size := ⟨_, rfl⟩
  obtain ⟨W0, hW0⟩ : ∃ W0, W0 = w.alloc (.cells #[.int .i64 0, .int .i64 0, .int .i64 0, .int .i64 0, .int .i64 0, .int .i64 0, .int .i64 0, .int .i64 0, .int .i64 0, .int .i64 0, .int .i64 0, .int .i64 0] 25) := ⟨_, rfl⟩
  have FB0 : Below w.heap.size w W0 := by rw [hW0]; exact (Below.refl _ _).alloc (Nat.le_refl _) _
  have HC : Hid (CodeIn W0 w.heap.size a len) := hc.keep fun b off hb _ => FB0.cell (p := ⟨b, off, none⟩) hb
  obtain ⟨sb, hsb⟩ : ∃ sb, sb = W0.heap.size := ⟨_, rfl⟩
  have F0 : Hid (Blk W0 b0 [.int .i64 0, .int .i64 0, .int .i64 0, .int .i64 0, .int .i64 0, .int .i64 0, .int .i64 0, .int .i64 0, .int .i64 0, .int .i64 0, .int .i64 0, .int .i64 0]) := by rw [hW0]; exact Blk.at_ w #[.int .i64 0, .int .i64 0, .int .i64 0, .int .i64 0, .int .i64 0, .int .i64 0, .int .i64 0, .int .i64 0, .int .i64 0, .int .i64 0, .int .i64 0, .int .i64 0] _ _ hb0
  have l0 : b0 < sb := by rw [hsb]; exact F0.out.lt
  have leb0 : w.heap.size ≤ b0 := by omega
  have FK : Hid (Keeps sb w W0) := by rw [hW0]; exact (Keeps.refl _ _).alloc _
  have HSB : Hid (sb = W0.heap.size) := hsb
  have HSZ : Hid (w.heap.size ≤ W0.heap.size) := FB0.size
  clear hsb hc FB0
  go_enter Try.func53, Try.ntmps53
  go_upto_region 1 with fail
  rw [← hb0, ← hW0]
  clear hb0 hW0
  go_upto_region 2 with (go_at_call 32; refine (l1Source_t w.heap.size a len cap _ HSZ.out HC.out).mono ?_; rw [← HSB.out]; rintro e w1 ⟨rfl, hs, hk⟩; have F0 : Hid (Blk w1 b0 [.int .i64 0, .int .i64 0, .int .i64 0, .int .i64 0, .int .i64 0, .int .i64 0, .int .i64 0, .int .i64 0, .int .i64 0, .int .i64 0, .int .i64 0, .int .i64 0]) := F0.out.keeps hk (by omega); have FS : Hid (SrcT w1 sb w.heap.size a len cap 0) := hs; have FK : Hid (Keeps sb w w1) := FK.out.trans hk; clear hs hk)
  clear HC HSB HSZ
  go_upto_region 3 with (first | (go_at_call 57; refine (l2House_t sb _ a len cap _ _ FS.out (by omega)).mono ?_; rintro e w2 ⟨h, rfl, hsm, hs, hk⟩; have F0 : Hid (Blk w2 b0 [.int .i64 0, .int .i64 0, .int .i64 0, .int .i64 0, .int .i64 0, .int .i64 0, .int .i64 0, .int .i64 0, .int .i64 0, .int .i64 0, .int .i64 0, .int .i64 0]) := F0.out.keeps hk (by omega); have FS : Hid (SrcT w2 sb w.heap.size a len cap (0 + 40)) := hs; have FK : Hid (Keeps sb w w2) := FK.out.trans hk; clear hs hk) | (refine store_new [.int .i64 h.fl, .int .i64 h.gp, .int .i64 h.ln, .int .i64 h.rf, .int .i64 h.sp, .int .i64 h.pu, .int .i64 h.br, .int .i64 h.dr, .int .i64 h.lv, .int .i64 h.dO, .int .i64 h.ld, .int .i64 h.qu] 25 _ _ (by kernel_rfl) (by kernel_rfl) (by kernel_rfl) rfl rfl rfl rfl ?_))
  have f1 := hsm.fl1
  have f2 := hsm.fl2
  clear hsm
  obtain ⟨b2, hbb⟩ : ∃ b2, b2 = w2.heap.size := ⟨_, rfl⟩
  obtain ⟨w3, hw2⟩ : ∃ w3, w3 = w2.alloc (.cells #[.int .i64 h.fl, .int .i64 h.gp, .int .i64 h.ln, .int .i64 h.rf, .int .i64 h.sp, .int .i64 h.pu, .int .i64 h.br, .int .i64 h.dr, .int .i64 h.lv, .int .i64 h.dO, .int .i64 h.ld, .int .i64 h.qu] 25) := ⟨_, rfl⟩
  have n2s : sb < b2 := by rw [hbb]; exact FS.out.lt
  have F0 : Hid (Blk w3 b0 [.int .i64 0, .int .i64 0, .int .i64 0, .int .i64 0, .int .i64 0, .int .i64 0, .int .i64 0, .int .i64 0, .int .i64 0, .int .i64 0, .int .i64 0, .int .i64 0]) := by rw [hw2]; exact F0.out.alloc _
  have F2 : Hid (Blk w3 b2 [.int .i64 h.fl, .int .i64 h.gp, .int .i64 h.ln, .int .i64 h.rf, .int .i64 h.sp, .int .i64 h.pu, .int .i64 h.br, .int .i64 h.dr, .int .i64 h.lv, .int .i64 h.dO, .int .i64 h.ld, .int .i64 h.qu]) := by rw [hw2]; exact Blk.at_ w2 #[.int .i64 h.fl, .int .i64 h.gp, .int .i64 h.ln, .int .i64 h.rf, .int .i64 h.sp, .int .i64 h.pu, .int .i64 h.br, .int .i64 h.dr, .int .i64 h.lv, .int .i64 h.dO, .int .i64 h.ld, .int .i64 h.qu] _ _ hbb
  have FS : Hid (SrcT w3 sb w.heap.size a len cap (0 + 40)) := by rw [hw2]; exact FS.out.alloc _
  have FK : Hid (Keeps sb w w3) := by rw [hw2]; exact FK.out.alloc _
  (try simp only [Act.put])
  rw [← hw2, ← hbb]
  clear hbb hw2
  obtain ⟨B3, hB3⟩ : ∃ B3, B3 = w3.heap.size := ⟨_, rfl⟩
  have l23 : b2 < B3 := by rw [hB3]; exact F2.out.lt
  have HB3 : Hid (B3 ≤ w3.heap.size) := by show B3 ≤ _; omega
  clear hB3
  go_upto_region 4 with (first | (refine load_blk 25 _ Try.underlying25 (by kernel_rfl) F2.out rfl rfl rfl ?_) | (go_at_call 69; refine (l12Zones_t h f1 (by omega) sb _ a len cap (0 + 40) _ FS.out (by omega)).mono ?_; rintro e w4 ⟨vv, L, rfl, ho, hL7, hs, hk⟩; obtain ⟨va, vc, rfl⟩ := ho.sl; have FO : Hid (OwI w4 B3 (.slice va L.length vc) L) := ho.base HB3.out; have HB3 : Hid (B3 ≤ w4.heap.size) := Nat.le_trans HB3.out hk.size; have F0 : Hid (Blk w4 b0 [.int .i64 0, .int .i64 0, .int .i64 0, .int .i64 0, .int .i64 0, .int .i64 0, .int .i64 0, .int .i64 0, .int .i64 0, .int .i64 0, .int .i64 0, .int .i64 0]) := F0.out.keeps hk (by omega); have F2 : Hid (Blk w4 b2 [.int .i64 h.fl, .int .i64 h.gp, .int .i64 h.ln, .int .i64 h.rf, .int .i64 h.sp, .int .i64 h.pu, .int .i64 h.br, .int .i64 h.dr, .int .i64 h.lv, .int .i64 h.dO, .int .i64 h.ld, .int .i64 h.qu]) := F2.out.keeps hk (by omega); have FS : Hid (SrcT w4 sb w.heap.size a len cap (0 + 40 + 100)) := hs; have FK : Hid (Keeps sb w w4) := FK.out.trans hk; clear hs hk ho))
  go_upto_if 15 with (go_at_call 51; refine (l1Chance_t sb _ a len cap _ 40 _ FS.out (by omega) (by omega) (by omega)).mono ?_; rintro e w5 ⟨q, rfl, hs, hk⟩; have FO : Hid (OwI w5 B3 (.slice va L.length vc) L) := FO.out.keepsM hk (by omega); have HB3 : Hid (B3 ≤ w5.heap.size) := Nat.le_trans HB3.out hk.size; have F0 : Hid (Blk w5 b0 [.int .i64 0, .int .i64 0, .int .i64 0, .int .i64 0, .int .i64 0, .int .i64 0, .int .i64 0, .int .i64 0, .int .i64 0, .int .i64 0, .int .i64 0, .int .i64 0]) := F0.out.keeps hk (by omega); have F2 : Hid (Blk w5 b2 [.int .i64 h.fl, .int .i64 h.gp, .int .i64 h.ln, .int .i64 h.rf, .int .i64 h.sp, .int .i64 h.pu, .int .i64 h.br, .int .i64 h.dr, .int .i64 h.lv, .int .i64 h.dO, .int .i64 h.ld, .int .i64 h.qu]) := F2.out.keeps hk (by omega); have FS : Hid (SrcT w5 sb w.heap.size a len cap (0 + 40 + 100 + 1)) := hs; have FK : Hid (Keeps sb w w5) := FK.out.trans hk; clear hs hk)
  cases q with
  | true =>
    go_upto_region 6 with (first | (go_at_call 33; refine (l2BentB_tG sb _ a len cap _ _ FS.out (by omega)).mono ?_; rintro e w6 ⟨h2, rfl, -, hs, hk⟩; have FO : Hid (OwI w6 B3 (.slice va L.length vc) L) := FO.out.keepsM hk (by omega); have HB3 : Hid (B3 ≤ w6.heap.size) := Nat.le_trans HB3.out hk.size; have F0 : Hid (Blk w6 b0 [.int .i64 0, .int .i64 0, .int .i64 0, .int .i64 0, .int .i64 0, .int .i64 0, .int .i64 0, .int .i64 0, .int .i64 0, .int .i64 0, .int .i64 0, .int .i64 0]) := F0.out.keeps hk (by omega); have F2 : Hid (Blk w6 b2 [.int .i64 h.fl, .int .i64 h.gp, .int .i64 h.ln, .int .i64 h.rf, .int .i64 h.sp, .int .i64 h.pu, .int .i64 h.br, .int .i64 h.dr, .int .i64 h.lv, .int .i64 h.dO, .int .i64 h.ld, .int .i64 h.qu]) := F2.out.keeps hk (by omega); have FK : Hid (Keeps sb w w6) := FK.out.trans hk; clear hs hk FS) | (refine store_blk [.int .i64 h2.fl, .int .i64 h2.gp, .int .i64 h2.ln, .int .i64 h2.rf, .int .i64 h2.sp, .int .i64 h2.pu, .int .i64 h2.br, .int .i64 h2.dr, .int .i64 h2.lv, .int .i64 h2.dO, .int .i64 h2.ld, .int .i64 h2.qu] 25 _ _ (by kernel_rfl) (by kernel_rfl) (by kernel_rfl) F2.out rfl rfl rfl rfl ?_))
    obtain ⟨w7, hw7⟩ : ∃ w7, w7 = w6.setRow b2 [.int .i64 h2.fl, .int .i64 h2.gp, .int .i64 h2.ln, .int .i64 h2.rf, .int .i64 h2.sp, .int .i64 h2.pu, .int .i64 h2.br, .int .i64 h2.dr, .int .i64 h2.lv, .int .i64 h2.dO, .int .i64 h2.ld, .int .i64 h2.qu].toArray := ⟨_, rfl⟩
    try rw [← hw7]
    have F2 : Hid (Blk w7 b2 [.int .i64 h2.fl, .int .i64 h2.gp, .int .i64 h2.ln, .int .i64 h2.rf, .int .i64 h2.sp, .int .i64 h2.pu, .int .i64 h2.br, .int .i64 h2.dr, .int .i64 h2.lv, .int .i64 h2.dO, .int .i64 h2.ld, .int .i64 h2.qu]) := by rw [hw7]; exact F2.out.row [.int .i64 h2.fl, .int .i64 h2.gp, .int .i64 h2.ln, .int .i64 h2.rf, .int .i64 h2.sp, .int .i64 h2.pu, .int .i64 h2.br, .int .i64 h2.dr, .int .i64 h2.lv, .int .i64 h2.dO, .int .i64 h2.ld, .int .i64 h2.qu]
    have F0 : Hid (Blk w7 b0 [.int .i64 0, .int .i64 0, .int .i64 0, .int .i64 0, .int .i64 0, .int .i64 0, .int .i64 0, .int .i64 0, .int .i64 0, .int .i64 0, .int .i64 0, .int .i64 0]) := by rw [hw7]; exact F0.out.row_other (by omega) _
    have FO : Hid (OwI w7 B3 (.slice va L.length vc) L) := by rw [hw7]; exact OwI.kept (row := some b2) FO.out ⟨rfl, rfl, rfl, by simp, fun k _ hne => setRow_other _ b2 k _ (fun q => hne (by rw [q]))⟩ (Or.inr (fun c => by have := (FO.out.lt b2 c).1; omega))
    have FK : Hid (Keeps sb w w7) := by rw [hw7]; exact Keeps.rowG FK.out (by omega) _
    clear hw7
    go_wp2_with (first | (refine load_blk 25 _ Try.underlying25 (by kernel_rfl) F2.out rfl rfl rfl ?_) | (refine store_blk [.int .i64 h2.fl, .int .i64 h2.gp, .int .i64 h2.ln, .int .i64 h2.rf, .int .i64 h2.sp, .int .i64 h2.pu, .int .i64 h2.br, .int .i64 h2.dr, .int .i64 h2.lv, .int .i64 h2.dO, .int .i64 h2.ld, .int .i64 h2.qu] 25 _ _ (by kernel_rfl) (by kernel_rfl) (by kernel_rfl) F0.out rfl rfl rfl rfl ?_))
    have G0 := F0.out.row [.int .i64 h2.fl, .int .i64 h2.gp, .int .i64 h2.ln, .int .i64 h2.rf, .int .i64 h2.sp, .int .i64 h2.pu, .int .i64 h2.br, .int .i64 h2.dr, .int .i64 h2.lv, .int .i64 h2.dO, .int .i64 h2.ld, .int .i64 h2.qu]
    have GB : Below w.heap.size w (w7.setRow b0 [.int .i64 h2.fl, .int .i64 h2.gp, .int .i64 h2.ln, .int .i64 h2.rf, .int .i64 h2.sp, .int .i64 h2.pu, .int .i64 h2.br, .int .i64 h2.dr, .int .i64 h2.lv, .int .i64 h2.dO, .int .i64 h2.ld, .int .i64 h2.qu].toArray) := below_row (FK.out.below (by omega) (Nat.le_refl _)) leb0 _
    have GO : OwI (w7.setRow b0 [.int .i64 h2.fl, .int .i64 h2.gp, .int .i64 h2.ln, .int .i64 h2.rf, .int .i64 h2.sp, .int .i64 h2.pu, .int .i64 h2.br, .int .i64 h2.dr, .int .i64 h2.lv, .int .i64 h2.dO, .int .i64 h2.ld, .int .i64 h2.qu].toArray) w.heap.size (.slice va L.length vc) L := OwI.kept (row := some b0) (FO.out.base (by omega)) ⟨rfl, rfl, rfl, by simp, fun k _ hne => setRow_other _ b0 k _ (fun q => hne (by rw [q]))⟩ (Or.inr (fun c => by have := (FO.out.lt b0 c).1; omega))
    have d0 := G0.c 0 _ rfl
    have d1 := G0.c 1 _ rfl
    have d2 := G0.c 2 _ rfl
    have d3 := G0.c 3 _ rfl
    have d4 := G0.c 4 _ rfl
    have d5 := G0.c 5 _ rfl
    have d6 := G0.c 6 _ rfl
    have d7 := G0.c 7 _ rfl
    have d8 := G0.c 8 _ rfl
    have d9 := G0.c 9 _ rfl
    have d10 := G0.c 10 _ rfl
    have d11 := G0.c 11 _ rfl
    exact bodyPost_ret (v := .tuple #[.agg #[.int .i64 h2.fl, .int .i64 h2.gp, .int .i64 h2.ln, .int .i64 h2.rf, .int .i64 h2.sp, .int .i64 h2.pu, .int .i64 h2.br, .int .i64 h2.dr, .int .i64 h2.lv, .int .i64 h2.dO, .int .i64 h2.ld, .int .i64 h2.qu], .slice va L.length vc]) (by simp [results, Try.results53, go_sem, d0, d1, d2, d3, d4, d5, d6, d7, d8, d9, d10, d11]) rfl ⟨h2, va, vc, L, rfl, GO, hL7, GB⟩
  | false =>
    go_upto_region 6 with fail
    go_wp2_with (first | (refine load_blk 25 _ Try.underlying25 (by kernel_rfl) F2.out rfl rfl rfl ?_) | (refine store_blk [.int .i64 h.fl, .int .i64 h.gp, .int .i64 h.ln, .int .i64 h.rf, .int .i64 h.sp, .int .i64 h.pu, .int .i64 h.br, .int .i64 h.dr, .int .i64 h.lv, .int .i64 h.dO, .int .i64 h.ld, .int .i64 h.qu] 25 _ _ (by kernel_rfl) (by kernel_rfl) (by kernel_rfl) F0.out rfl rfl rfl rfl ?_))
    have G0 := F0.out.row [.int .i64 h.fl, .int .i64 h.gp, .int .i64 h.ln, .int .i64 h.rf, .int .i64 h.sp, .int .i64 h.pu, .int .i64 h.br, .int .i64 h.dr, .int .i64 h.lv, .int .i64 h.dO, .int .i64 h.ld, .int .i64 h.qu]
    have GB : Below w.heap.size w (w5.setRow b0 [.int .i64 h.fl, .int .i64 h.gp, .int .i64 h.ln, .int .i64 h.rf, .int .i64 h.sp, .int .i64 h.pu, .int .i64 h.br, .int .i64 h.dr, .int .i64 h.lv, .int .i64 h.dO, .int .i64 h.ld, .int .i64 h.qu].toArray) := below_row (FK.out.below (by omega) (Nat.le_refl _)) leb0 _
    have GO : OwI (w5.setRow b0 [.int .i64 h.fl, .int .i64 h.gp, .int .i64 h.ln, .int .i64 h.rf, .int .i64 h.sp, .int .i64 h.pu, .int .i64 h.br, .int .i64 h.dr, .int .i64 h.lv, .int .i64 h.dO, .int .i64 h.ld, .int .i64 h.qu].toArray) w.heap.size (.slice va L.length vc) L := OwI.kept (row := some b0) (FO.out.base (by omega)) ⟨rfl, rfl, rfl, by simp, fun k _ hne => setRow_other _ b0 k _ (fun q => hne (by rw [q]))⟩ (Or.inr (fun c => by have := (FO.out.lt b0 c).1; omega))
    have d0 := G0.c 0 _ rfl
    have d1 := G0.c 1 _ rfl
    have d2 := G0.c 2 _ rfl
    have d3 := G0.c 3 _ rfl
    have d4 := G0.c 4 _ rfl
    have d5 := G0.c 5 _ rfl
    have d6 := G0.c 6 _ rfl
    have d7 := G0.c 7 _ rfl
    have d8 := G0.c 8 _ rfl
    have d9 := G0.c 9 _ rfl
    have d10 := G0.c 10 _ rfl
    have d11 := G0.c 11 _ rfl
    exact bodyPost_ret (v := .tuple #[.agg #[.int .i64 h.fl, .int .i64 h.gp, .int .i64 h.ln, .int .i64 h.rf, .int .i64 h.sp, .int .i64 h.pu, .int .i64 h.br, .int .i64 h.dr, .int .i64 h.lv, .int .i64 h.dO, .int .i64 h.ld, .int .i64 h.qu], .slice va L.length vc]) (by simp [results, Try.results53, go_sem, d0, d1, d2, d3, d4, d5, d6, d7, d8, d9, d10, d11]) rfl ⟨h, va, vc, L, rfl, GO, hL7, GB⟩
set_option maxRecDepth 20000 in
set_option maxHeartbeats 16000000 in
theorem DrawPairsLost_any (a : Option Addr) (len cap : Nat) (w : World) (hc : CodeIn w w.heap.size a len) :
    Calls Try.prog 19 #[.slice a len cap] w fun e w' => ∃ (h : Hs) (va : Option Addr) (vc : Nat) (l : List Int), e = .returned (.tuple #[.agg #[.int .i64 h.fl, .int .i64 h.gp, .int .i64 h.ln, .int .i64 h.rf, .int .i64 h.sp, .int .i64 h.pu, .int .i64 h.br, .int .i64 h.dr, .int .i64 h.lv, .int .i64 h.dO, .int .i64 h.ld, .int .i64 h.qu], .slice va l.length vc]) ∧ OwI w' w.heap.size (.slice va l.length vc) l ∧ l.length ≤ 7 ∧ Below w.heap.size w w' := by
  obtain ⟨b0, hb0⟩ : ∃ b0, b0 = w.heap.size := ⟨_, rfl⟩
  obtain ⟨W0, hW0⟩ : ∃ W0, W0 = w.alloc (.cells #[.int .i64 0, .int .i64 0, .int .i64 0, .int .i64 0, .int .i64 0, .int .i64 0, .int .i64 0, .int .i64 0, .int .i64 0, .int .i64 0, .int .i64 0, .int .i64 0] 25) := ⟨_, rfl⟩
  have FB : Hid (Below w.heap.size w W0) := by rw [hW0]; exact (Below.refl _ _).alloc (Nat.le_refl _) _
  have HC : Hid (CodeIn W0 W0.heap.size a len) := (hc.keep fun b off hb _ => FB.out.cell (p := ⟨b, off, none⟩) hb).upM FB.out.size
  have F0 : Hid (Blk W0 b0 [.int .i64 0, .int .i64 0, .int .i64 0, .int .i64 0, .int .i64 0, .int .i64 0, .int .i64 0, .int .i64 0, .int .i64 0, .int .i64 0, .int .i64 0, .int .i64 0]) := by rw [hW0]; exact Blk.at_ w #[.int .i64 0, .int .i64 0, .int .i64 0, .int .i64 0, .int .i64 0, .int .i64 0, .int .i64 0, .int .i64 0, .int .i64 0, .int .i64 0, .int .i64 0, .int .i64 0] _ _ hb0
  have leb0 : w.heap.size ≤ b0 := by omega
  obtain ⟨B1, hB1⟩ : ∃ B1, B1 = W0.heap.size := ⟨_, rfl⟩
  have l01 : b0 < B1 := by rw [hB1]; exact F0.out.lt
  have HB1 : Hid (B1 = W0.heap.size) := hB1
  clear hc hB1
  go_enter Try.func19, Try.ntmps19
  go_upto_region 1 with fail
  rw [← hb0, ← hW0]
  clear hb0 hW0
  go_wp2_with (first | (go_at_call 53; refine (l12Both_any a len cap _ HC.out).mono ?_; rintro e w1 ⟨h, va, vc, L, rfl, ho, hL7, hb⟩; have FO : Hid (OwI w1 B1 (.slice va L.length vc) L) := (by rw [HB1.out]; exact ho); have F0 : Hid (Blk w1 b0 [.int .i64 0, .int .i64 0, .int .i64 0, .int .i64 0, .int .i64 0, .int .i64 0, .int .i64 0, .int .i64 0, .int .i64 0, .int .i64 0, .int .i64 0, .int .i64 0]) := F0.out.below hb F0.out.lt; have FB : Hid (Below w.heap.size w w1) := FB.out.trans (hb.mono FB.out.size); clear ho hb) | (refine store_blk [.int .i64 h.fl, .int .i64 h.gp, .int .i64 h.ln, .int .i64 h.rf, .int .i64 h.sp, .int .i64 h.pu, .int .i64 h.br, .int .i64 h.dr, .int .i64 h.lv, .int .i64 h.dO, .int .i64 h.ld, .int .i64 h.qu] 25 _ _ (by kernel_rfl) (by kernel_rfl) (by kernel_rfl) F0.out rfl rfl rfl rfl ?_))
  have G0 := F0.out.row [.int .i64 h.fl, .int .i64 h.gp, .int .i64 h.ln, .int .i64 h.rf, .int .i64 h.sp, .int .i64 h.pu, .int .i64 h.br, .int .i64 h.dr, .int .i64 h.lv, .int .i64 h.dO, .int .i64 h.ld, .int .i64 h.qu]
  have GB : Below w.heap.size w (w1.setRow b0 [.int .i64 h.fl, .int .i64 h.gp, .int .i64 h.ln, .int .i64 h.rf, .int .i64 h.sp, .int .i64 h.pu, .int .i64 h.br, .int .i64 h.dr, .int .i64 h.lv, .int .i64 h.dO, .int .i64 h.ld, .int .i64 h.qu].toArray) := below_row FB.out leb0 _
  have GO : OwI (w1.setRow b0 [.int .i64 h.fl, .int .i64 h.gp, .int .i64 h.ln, .int .i64 h.rf, .int .i64 h.sp, .int .i64 h.pu, .int .i64 h.br, .int .i64 h.dr, .int .i64 h.lv, .int .i64 h.dO, .int .i64 h.ld, .int .i64 h.qu].toArray) w.heap.size (.slice va L.length vc) L := OwI.kept (row := some b0) (FO.out.base (by omega)) ⟨rfl, rfl, rfl, by simp, fun k _ hne => setRow_other _ b0 k _ (fun q => hne (by rw [q]))⟩ (Or.inr (fun c => by have := (FO.out.lt b0 c).1; omega))
  have d0 := G0.c 0 _ rfl
  have d1 := G0.c 1 _ rfl
  have d2 := G0.c 2 _ rfl
  have d3 := G0.c 3 _ rfl
  have d4 := G0.c 4 _ rfl
  have d5 := G0.c 5 _ rfl
  have d6 := G0.c 6 _ rfl
  have d7 := G0.c 7 _ rfl
  have d8 := G0.c 8 _ rfl
  have d9 := G0.c 9 _ rfl
  have d10 := G0.c 10 _ rfl
  have d11 := G0.c 11 _ rfl
  exact bodyPost_ret (v := .tuple #[.agg #[.int .i64 h.fl, .int .i64 h.gp, .int .i64 h.ln, .int .i64 h.rf, .int .i64 h.sp, .int .i64 h.pu, .int .i64 h.br, .int .i64 h.dr, .int .i64 h.lv, .int .i64 h.dO, .int .i64 h.ld, .int .i64 h.qu], .slice va L.length vc]) (by simp [results, Try.results19, go_sem, d0, d1, d2, d3, d4, d5, d6, d7, d8, d9, d10, d11]) rfl ⟨h, va, vc, L, rfl, GO, hL7, GB⟩
set_option maxRecDepth 20000 in
set_option maxHeartbeats 16000000 in
theorem DrawMeanUp_any (a : Option Addr) (len cap : Nat) (w : World) (hc : CodeIn w w.heap.size a len) :
    Calls Try.prog 16 #[.slice a len cap] w fun e w' => ∃ (va : Option Addr) (vc : Nat) (l : List Int), e = .returned (.slice va l.length vc) ∧ OwI w' w.heap.size (.slice va l.length vc) l ∧ l.length ≤ 61 ∧ Below w.heap.size w w' := by
  obtain ⟨sb, hsb⟩ : ∃ sb, sb = w.heap.size := ⟨_, rfl⟩
  have HSB : Hid (sb = w.heap.size) := hsb
  have HC : Hid (CodeIn w w.heap.size a len) := hc
  clear hc hsb
  go_enter Try.func16, Try.ntmps16
  go_upto_region 2 with (go_at_call 32; refine (l1Source_t w.heap.size a len cap _ (Nat.le_refl _) HC.out).mono ?_; rw [← HSB.out]; rintro e w1 ⟨rfl, hs, hk⟩; have FS : Hid (SrcT w1 sb sb a len cap 0) := (by have z := hs; exact z); have FK : Hid (Keeps sb w w1) := hk; clear hs hk)
  have FS : Hid (SrcT w1 sb w.heap.size a len cap 0) := by rw [← HSB.out]; exact FS.out
  clear HC
  obtain ⟨B2, hB2⟩ : ∃ B2, B2 = w1.heap.size := ⟨_, rfl⟩
  obtain ⟨w1a, hw1⟩ : ∃ w1a, w1a = w1.alloc (.cells #[] 2) := ⟨_, rfl⟩
  have lB : sb < B2 := by rw [hB2]; exact FS.out.lt
  have lsw : w.heap.size ≤ sb := by rw [HSB.out]; exact Nat.le_refl _
  have FO : Hid (OwI w1a B2 (.slice (some ⟨B2, 0, none⟩) 0 0) []) := by rw [hw1, hB2]; exact own_emptyM w1 _ (Nat.le_refl _)
  have HS : Hid (B2 ≤ w1a.heap.size) := by show B2 ≤ _; rw [hw1, hB2]; simp
  have FS : Hid (SrcT w1a sb w.heap.size a len cap 0) := by rw [hw1]; exact FS.out.alloc _
  have FK : Hid (Keeps sb w w1a) := by rw [hw1]; exact FK.out.alloc _
  go_upto_region 3 with fail
  rw [← hw1, ← hB2]
  clear hw1 hB2 HSB
  go_wp2_with (first | (go_at_call 50; (fail_if_success have := GY1); refine (l1Next_tW sb _ a len cap 0 6 _ FS.out (by omega) (by omega) (by omega)).mono ?_; rintro e w2 ⟨v1, rfl, hv1, hs, hk⟩; have FO : Hid (OwI w2 B2 (.slice (some ⟨B2, 0, none⟩) 0 0) []) := FO.out.keepsM hk lB; have HS : Hid (B2 ≤ w2.heap.size) := Nat.le_trans HS.out hk.size; have FS : Hid (SrcT w2 sb w.heap.size a len cap (0 + 1)) := hs; have FK : Hid (Keeps sb w w2) := FK.out.trans hk; clear hs hk; have GY1 := trivial) | (go_at_call 50; refine (l1Next_tW sb _ a len cap (0 + 1) 6 _ FS.out (by omega) (by omega) (by omega)).mono ?_; rintro e w3 ⟨v2, rfl, hv2, hs, hk⟩; have FO : Hid (OwI w3 B2 (.slice (some ⟨B2, 0, none⟩) 0 0) []) := FO.out.keepsM hk lB; have HS : Hid (B2 ≤ w3.heap.size) := Nat.le_trans HS.out hk.size; have FS : Hid (SrcT w3 sb w.heap.size a len cap (0 + 1 + 1)) := hs; have FK : Hid (Keeps sb w w3) := FK.out.trans hk; clear hs hk) | (go_at_call 34; refine (l1Pick_t sb _ w3.heap.size [(v1 : Int), (v2 : Int), 0, 60, 61] (fun y => 0 ≤ y ∧ y ≤ 61) (by intro y hy; simp at hy; omega) a len cap (0 + 1 + 1) _ (FS.out.alloc _) (by omega) (LstAt.new w3 [(v1 : Int), (v2 : Int), 0, 60, 61] 2 _ rfl (by simp)) (by simp) (by have := FS.out.lt; omega)).mono ?_; rintro e w4 ⟨k0, rfl, hk0, hs, hk⟩; have FO : Hid (OwI w4 B2 (.slice (some ⟨B2, 0, none⟩) 0 0) []) := (FO.out.alloc _).keepsM hk lB; have HS : Hid (B2 ≤ w4.heap.size) := Nat.le_trans HS.out (Nat.le_trans (by simp) hk.size); have FS : Hid (SrcT w4 sb w.heap.size a len cap (0 + 1 + 1 + 1)) := hs; have FK : Hid (Keeps sb w w4) := (FK.out.alloc _).trans hk; clear hs hk))
  go_loopw [4, 5] (fun zz kk wr => ∃ (k : Int) (va : Option Addr) (vc : Nat) (L : List Int), zz = .slice va L.length vc ∧ kk = .int .i64 k ∧ 0 ≤ k ∧ (L.length : Int) + k ≤ 61 ∧ OwI wr B2 (.slice va L.length vc) L ∧ B2 ≤ wr.heap.size ∧ SrcT wr sb w.heap.size a len cap (3 + 3 * L.length) ∧ Keeps sb w wr) (fun _ kk _ => (intOf kk).toNat)
  case atStart => exact ⟨k0, some ⟨B2, 0, none⟩, 0, [], rfl, rfl, hk0.1, by simp; omega, FO.out, HS.out, FS.out, FK.out⟩
  case round =>
    obtain ⟨k, va, vc, L, rfl, rfl, k1, k7, ho, hs0, hsr, hkp⟩ := hrel
    clear FO FS FK HS
    have FO : Hid (OwI wr B2 (.slice va L.length vc) L) := ho
    have HS : Hid (B2 ≤ wr.heap.size) := hs0
    have FS : Hid (SrcT wr sb w.heap.size a len cap (3 + 3 * L.length)) := hsr
    have FK : Hid (Keeps sb w wr) := hkp
    clear ho hs0 hsr hkp hv1 hv2
    by_cases hlt : 0 < k
    · have hd : decide (0 < k) = true := decide_eq_true hlt
      have ll : L.length ≤ 60 := by omega
      have ek : IntKind.i64.wrap (k - 1) = k - 1 := IntWalk.i64_in _ (by omega)
      go_wp2_with (first | (go_at_call 50; (fail_if_success have := GX1); refine (l1Next_tW sb _ a len cap (3 + 3 * L.length) 90 _ FS.out (by omega) (by omega) (by omega)).mono ?_; rintro e w4 ⟨v1, rfl, -, hs, hk⟩; have FO : Hid (OwI w4 B2 (.slice va L.length vc) L) := FO.out.keepsM hk lB; have HS : Hid (B2 ≤ w4.heap.size) := Nat.le_trans HS.out hk.size; have FS : Hid (SrcT w4 sb w.heap.size a len cap ((3 + 3 * L.length) + 1)) := hs; have FK : Hid (Keeps sb w w4) := FK.out.trans hk; clear hs hk; have GX1 := trivial) | (go_at_call 50; refine (l1Next_tW sb _ a len cap ((3 + 3 * L.length) + 1) 90 _ FS.out (by omega) (by omega) (by omega)).mono ?_; rintro e w5 ⟨v2, rfl, -, hs, hk⟩; have FO : Hid (OwI w5 B2 (.slice va L.length vc) L) := FO.out.keepsM hk lB; have HS : Hid (B2 ≤ w5.heap.size) := Nat.le_trans HS.out hk.size; have FS : Hid (SrcT w5 sb w.heap.size a len cap ((3 + 3 * L.length) + 1 + 1)) := hs; have FK : Hid (Keeps sb w w5) := FK.out.trans hk; clear hs hk) | (go_at_call 34; refine (l1Pick_at_t sb _ 2 [(v1 : Int), (v2 : Int), 1000000000000000] a len cap ((3 + 3 * L.length) + 1 + 1) w5 _ rfl FS.out (by omega) (by simp) (by simp)).mono ?_; rintro e w6 ⟨x, rfl, hs, hk⟩; have FO : Hid (OwI w6 B2 (.slice va L.length vc) L) := FO.out.keepsM hk lB; have HS : Hid (B2 ≤ w6.heap.size) := Nat.le_trans HS.out hk.size; have FS : Hid (SrcT w6 sb w.heap.size a len cap ((3 + 3 * L.length) + 1 + 1 + 1)) := hs; have FK : Hid (Keeps sb w w6) := FK.out.trans hk; clear hs hk) | (at_builtin; refine app_iG _ B2 _ L x _ _ rfl rfl rfl rfl FO.out (by omega) HS.out ?_; intro a' c' w8 ho2 hg))
      go_roundw
      case rel => exact ⟨k - 1, a', c', L ++ [x], by rw [List.length_append]; rfl, rfl, by omega, by rw [List.length_append]; simp; omega, ho2, Nat.le_trans HS.out hg.size, (FS.out.grownM hg (fun j hj => by have := (FO.out.lt j hj).1; omega)).more (by rw [List.length_append]; simp; omega), FK.out.grownM hg (fun j hj => by have := (FO.out.lt j hj).1; omega)⟩
      case measure => simp [intOf]; omega
    · have hd : decide (0 < k) = false := decide_eq_false hlt
      have ll : L.length ≤ 61 := by omega
      by_cases hL0 : L = []
      · subst hL0
        go_wp2_with fail
        go_ret
        exact ⟨va, vc, [], rfl, FO.out.base (by omega), by simp, FK.out.below (by omega) (Nat.le_refl _)⟩
      · have lpos : 0 < L.length := List.length_pos_iff.2 hL0
        have dl : decide ((0 : Int) < (L.length : Int)) = true := decide_eq_true (by omega)
        go_upto_if 36 with (go_at_call 51; refine (l1Chance_t sb _ a len cap (3 + 3 * L.length) 12 _ FS.out (by omega) (by omega) (by omega)).mono ?_; rintro e w9 ⟨q, rfl, hs, hk⟩; have FO : Hid (OwI w9 B2 (.slice va L.length vc) L) := FO.out.keepsM hk lB; have HS : Hid (B2 ≤ w9.heap.size) := Nat.le_trans HS.out hk.size; have FS : Hid (SrcT w9 sb w.heap.size a len cap ((3 + 3 * L.length) + 1)) := hs; have FK : Hid (Keeps sb w w9) := FK.out.trans hk; clear hs hk)
        cases q with
        | false =>
          go_wp2_with fail
          go_ret
          exact ⟨va, vc, L, rfl, FO.out.base (by omega), ll, FK.out.below (by omega) (Nat.le_refl _)⟩
        | true =>
          rcases FO.out.cases with ⟨_, h0⟩ | ⟨g, gc, e⟩
          · exact absurd h0 hL0
          injection e with e1 e2 e3
          subst e1
          clear e2 e3
          have lg := FO.out.lt g rfl
          go_upto_region 8 with fail
          go_wp2_with (go_at_call 34; refine (l1Pick_at_t sb _ 2 [-1, 1000000000000001] a len cap ((3 + 3 * L.length) + 1) w9 _ rfl FS.out (by omega) (by simp) (by simp)).mono ?_; rintro e w10 ⟨x, rfl, hs, hk⟩; have FO : Hid (OwI w10 B2 (.slice (some ⟨g, 0, none⟩) L.length vc) L) := FO.out.keepsM hk lB; have FK : Hid (Keeps sb w w10) := FK.out.trans hk; have cg := FO.out.cell (i := 0) (List.getElem?_eq_getElem lpos); have fg := FO.out.fz 0; clear hs hk)
          go_ret
          refine ⟨some ⟨g, 0, none⟩, vc, L.set 0 x, by rw [List.length_set]; rfl, ?_, by rw [List.length_set]; exact ll, (FK.out.own (by omega) _ _).below (by omega) (Nat.le_refl _)⟩
          rw [List.length_set]
          exact (FO.out.set 0 x).base (by omega)
end Go.Proofs.Ytnpnlckdggakmaa

namespace Go.Proofs.Ytnpnlckdggakmaa
open Go.RowKit Pl
set_option linter.unusedSimpArgs false
set_option linter.unusedVariables false

theorem mean_ok {l : List Int} (e : meanK l = 0) : ¬ l.length = 0 ∧ l.length ≤ 60 ∧ meanV l = (sumF l l.length + (l.length : Int) - 1) / (l.length : Int) := by
  have e0 := e
  unfold meanK at e
  split at e
  · cases e
  · rename_i h0
    split at e
    · rename_i h60
      refine ⟨h0, h60, ?_⟩
      unfold meanV
      rw [if_pos e0]
    · cases e
theorem sumF_between {l : List Int} {lo hi : Int} (h : ∀ x ∈ l, lo ≤ x ∧ x ≤ hi) : ∀ k : Nat, k ≤ l.length → lo * (k : Int) ≤ sumF l k ∧ sumF l k ≤ hi * (k : Int)
  | 0, _ => by simp [sumF]
  | k + 1, hk => by
    have a := sumF_between h k (by omega)
    obtain ⟨x, hx⟩ : ∃ x, l[k]? = some x := ⟨_, List.getElem?_eq_getElem (by omega)⟩
    have b := h x (List.mem_of_getElem? hx)
    have e1 : lo * ((k + 1 : Nat) : Int) = lo * (k : Int) + lo := by rw [Int.natCast_add, Int.mul_add]; simp
    have e2 : hi * ((k + 1 : Nat) : Int) = hi * (k : Int) + hi := by rw [Int.natCast_add, Int.mul_add]; simp
    rw [sumF, lg_of hx, e1, e2]
    omega
theorem mean_between {l : List Int} (e : meanK l = 0) {lo hi : Int} (h : ∀ x ∈ l, lo ≤ x ∧ x ≤ hi) : lo ≤ meanV l ∧ meanV l ≤ hi := by
  obtain ⟨h0, h60, ev⟩ := mean_ok e
  have s := sumF_between h l.length (Nat.le_refl _)
  rw [ev]
  obtain ⟨n, hn⟩ : ∃ n : Int, (l.length : Int) = n := ⟨_, rfl⟩
  have n1 : 1 ≤ n := by omega
  rw [hn] at s ⊢
  constructor
  · refine (Int.le_ediv_iff_mul_le (by omega)).2 ?_
    omega
  · refine Int.le_of_lt_add_one ((Int.ediv_lt_iff_lt_mul (by omega)).2 ?_)
    rw [Int.add_mul]
    omega
theorem lostIn_mem (h : Hs) (l : List Int) (a : Nat) : ∀ k x, x ∈ Hs.lostIn h l a k → ∃ b : Nat, b < a + 1 + k ∧ x = (a : Int) * 12 + (b : Int) ∧ (h.svL l (a : Int) (b : Int)).length = 0
  | 0, x, hx => by simp [Hs.lostIn] at hx
  | k + 1, x, hx => by
    rw [Hs.lostIn, List.mem_append] at hx
    rcases hx with hx | hx
    · obtain ⟨b, b1, b2, b3⟩ := lostIn_mem h l a k x hx
      exact ⟨b, by omega, b2, b3⟩
    · unfold Hs.lostP at hx
      split at hx
      · rename_i e
        exact ⟨a + 1 + k, by omega, List.mem_singleton.1 hx, e⟩
      · cases hx
theorem lostTo_mem (h : Hs) (l : List Int) (F : Nat) : ∀ n x, n ≤ F → x ∈ Hs.lostTo h l F n → ∃ a b : Nat, a < F ∧ b < F ∧ x = (a : Int) * 12 + (b : Int) ∧ (h.svL l (a : Int) (b : Int)).length = 0
  | 0, x, _, hx => by simp [Hs.lostTo] at hx
  | n + 1, x, hn, hx => by
    rw [Hs.lostTo, List.mem_append] at hx
    rcases hx with hx | hx
    · exact lostTo_mem h l F n x (by omega) hx
    · obtain ⟨b, b1, b2, b3⟩ := lostIn_mem h l n (F - (n + 1)) x hx
      exact ⟨n, b, by omega, by omega, b2, b3⟩
theorem lost_mem {h : Hs} {l : List Int} {x : Int} (hx : x ∈ h.plL l) : ∃ a b : Nat, a < 12 ∧ b < 12 ∧ x = (a : Int) * 12 + (b : Int) ∧ (h.svL l (a : Int) (b : Int)).length = 0 := by
  unfold Hs.plL at hx
  split at hx
  · rename_i e
    have o := fl_of (znK_zero e).1
    obtain ⟨a, b, a1, b1, e1, e2⟩ := lostTo_mem h l _ _ x (Nat.le_refl _) hx
    exact ⟨a, b, by omega, by omega, e1, e2⟩
  · cases hx
theorem quo_rem {a b : Nat} (hb : b < 12) {x : Int} (e : x = (a : Int) * 12 + (b : Int)) : Int.tdiv x 12 = (a : Int) ∧ Int.tmod x 12 = (b : Int) ∧ x / 12 = (a : Int) ∧ x % 12 = (b : Int) := by
  have h1 : x / 12 = (a : Int) := by omega
  have h2 : x % 12 = (b : Int) := by omega
  refine ⟨?_, ?_, h1, h2⟩
  · rw [Int.tdiv_eq_ediv_of_nonneg (by omega)]; exact h1
  · rw [Int.tmod_eq_emod_of_nonneg (by omega)]; exact h2
theorem plL_small {h : Hs} {l : List Int} : (h.plL l).length ≤ 144 := by
  unfold Hs.plL
  split
  · rename_i e
    have o := fl_of (znK_zero e).1
    have := lostTo_len h l h.fl.toNat (by omega) h.fl.toNat
    omega
  · simp
structure C1m (w : World) (b o : Nat) (x : Int) : Prop where
  c : w.cell? ⟨b, o, none⟩ = some (.int .i64 x)
theorem C1m.lt {w : World} {b o : Nat} {x : Int} (a : C1m w b o x) : b < w.heap.size := World.block_lt_of_cell? w _ a.c
theorem C1m.below {W w : World} {b o B : Nat} {x : Int} (a : C1m W b o x) (hb : Below B W w) (hB : b < B) : C1m w b o x := ⟨(hb.cell (p := ⟨b, o, none⟩) hB).trans a.c⟩
theorem fieldM0 (k : Int) (v : Value) (w : World) : (Instr.field 30 (.agg #[.int .i64 k, v]) 0).run Try.prog w = .ok (.int .i64 k) w := by kernel_rfl
theorem fieldM1 (k : Int) (a : Option Addr) (n c : Nat) (w : World) : (Instr.field 30 (.agg #[.int .i64 k, .slice a n c]) 1).run Try.prog w = .ok (.slice a n c) w := by kernel_rfl
theorem fieldMr (k a : Int) (w : World) : (Instr.field 40 (.agg #[.int .i64 k, .int .i64 a]) 0).run Try.prog w = .ok (.int .i64 k) w := by kernel_rfl
theorem bd_step {l : List Int} {i : Nat} {x lo hi lo' hi' : Int} (h : ∀ (j : Nat) (z : Int), j < i → l[j]? = some z → lo ≤ z ∧ z ≤ hi) (hx : l[i]? = some x) (h1 : lo' ≤ lo) (h2 : lo' ≤ x) (h3 : hi ≤ hi') (h4 : x ≤ hi') : ∀ (j : Nat) (z : Int), j < i + 1 → l[j]? = some z → lo' ≤ z ∧ z ≤ hi' := by
  intro j z hj hz
  by_cases e : j = i
  · subst e
    rw [hx] at hz
    rw [← Option.some.inj hz]
    exact ⟨h2, h4⟩
  · have := h j z (by omega) hz
    omega
end Go.Proofs.Ytnpnlckdggakmaa

namespace Go.Proofs.Ytnpnlckdggakmaa
open Go.RowKit Pl
set_option linter.unusedSimpArgs false
set_option linter.unusedVariables false

set_option maxRecDepth 20000 in
set_option maxHeartbeats 32000000 in
theorem means_walk (a0 : Option Addr) (len0 cap0 : Nat) (w : World) (hc : CodeIn w w.heap.size a0 len0) (hbig : len0 ≤ 1048576) :
    Calls Try.prog 4 #[.slice a0 len0 cap0] w fun e w' => e = .returned (.bool true) ∧ Below w.heap.size w w' := by
  have HC : Hid (CodeIn w w.heap.size a0 len0) := hc
  clear hc
  go_enter Try.func4, Try.ntmps4
  go_upto_region 4 with (first | (go_at_call 8; refine (lwBig_no _ _ _ hbig _).mono ?_; rintro e w' ⟨rfl, hw⟩; obtain rfl := hw.symm; clear hw) | (go_at_call 16; refine (DrawMeanUp_any a0 len0 cap0 _ HC.out).mono ?_; rintro e w1 ⟨va, vc, l, rfl, ho, hl61, hb⟩; have FO : Hid (OwI w1 w.heap.size (.slice va l.length vc) l) := ho; have FB : Hid (Below w.heap.size w w1) := hb; clear hb ho))
  clear hbig
  obtain ⟨kz, hkz⟩ : ∃ kz, meanK l = kz := ⟨_, rfl⟩
  obtain ⟨V, hV⟩ : ∃ V, meanV l = V := ⟨_, rfl⟩
  have HKZ : Hid (meanK l = kz) := hkz
  have HV : Hid (meanV l = V) := hV
  have C1 : ∀ W, IIn W va l → Calls Try.prog 17 #[.slice va l.length vc] W (isAns W kz V) := fun W hW => by have q := implMeanUp_any l va vc (by omega) W hW; rw [hkz, hV] at q; exact q
  have C2 : ∀ W, IIn W va l → Calls Try.prog 18 #[.slice va l.length vc] W (isAns W kz V) := fun W hW => by have q := specMeanUp_any l va vc (by omega) W hW; rw [hkz, hV] at q; exact q
  clear hkz hV
  go_upto_region 5 with (first | (go_at_call 17; refine (C1 _ FO.out.iin).mono ?_; rintro e w3 ⟨rfl, hb⟩; have FO : Hid (OwI w3 w.heap.size (.slice va l.length vc) l) := FO.out.below hb (fun k hk => (FO.out.lt k hk).2); have FB : Hid (Below w.heap.size w w3) := FB.out.trans (hb.mono FB.out.size); clear hb) | (refine store_new [.int .i64 kz, .int .i64 V] 40 _ _ (by kernel_rfl) (by kernel_rfl) (by kernel_rfl) rfl rfl rfl rfl ?_))
  have FB0 := FB
  obtain ⟨b1, hbb⟩ : ∃ b1, b1 = w3.heap.size := ⟨_, rfl⟩
  obtain ⟨w4, hw2⟩ : ∃ w4, w4 = w3.alloc (.cells #[.int .i64 kz, .int .i64 V] 40) := ⟨_, rfl⟩
  have F1 : Hid (Blk w4 b1 [.int .i64 kz, .int .i64 V]) := by rw [hw2]; exact Blk.at_ w3 #[.int .i64 kz, .int .i64 V] _ _ hbb
  have FO : Hid (OwI w4 w.heap.size (.slice va l.length vc) l) := by rw [hw2]; exact FO.out.alloc _
  have FB : Hid (Below w.heap.size w w4) := by rw [hw2]; exact FB.out.alloc FB.out.size _
  have leb1 : w.heap.size ≤ b1 := by rw [hbb]; exact FB0.out.size
  (try simp only [Act.put])
  rw [← hw2, ← hbb]
  clear hbb hw2 FB0
  have z0 := F1.out.c 0 _ rfl
  by_cases hk : kz = 0
  case neg =>
    have hn : (kz != 0) = true := by simpa using hk
    have hee : (kz == kz) = true := by simp
    have fi := fieldMr
    clear hk
    go_upto_region 6 with fail
    clear z0
    have F1 : Hid (Blk w4.drew b1 [.int .i64 kz, .int .i64 V]) := F1.out.below (Below.refl _ _).drew F1.out.lt
    have FB : Hid (Below w.heap.size w w4.drew) := FB.out.drew
    have FO : Hid (OwI w4.drew w.heap.size (.slice va l.length vc) l) := FO.out.drew
    refine wp_region_held_drew (S := (fun w'' => Blk w'' b1 ([.int .i64 kz, .int .i64 V]))) (by kernel_rfl) (by (try dsimp only); first | exact F1.out | go_keep) (fun hHeld => ?_)
    obtain ⟨v_1, hw1⟩ : ∃ v_1, v_1 = w4.drew := ⟨_, rfl⟩
    have F1 : Hid (Blk v_1 b1 [.int .i64 kz, .int .i64 V]) := by rw [hw1]; exact F1.out
    have FB : Hid (Below w.heap.size w v_1) := by rw [hw1]; exact FB.out
    have FO : Hid (OwI v_1 w.heap.size (.slice va l.length vc) l) := by rw [hw1]; exact FO.out
    rw [← hw1] at hHeld ⊢
    clear hw1
    refine tkz 0 rfl ?_
    refine tkz 3 rfl ?_
    refine tkz 4 rfl ?_ (hy := Or.inl ⟨by kernel_rfl, by (intro wx hSw; have hq0_0 := hSw.c 0 _ rfl; (try dsimp only at hSw); go_simp <;> with_reducible rfl)⟩)
    refine wpAnyH_ready (rs := [1]) (by kernel_rfl) (by simp) ?_
    refine (AllReadyH.cons rfl (fun K hK => ?_) AllReadyH.nil)
    go_simp
    refine (C2 _ FO.out.iin).mono ?_
    rintro e v_2 ⟨rfl, hb⟩
    have F1 : Hid (Blk v_2 b1 [.int .i64 kz, .int .i64 V]) := F1.out.below hb F1.out.lt
    have FB : Hid (Below w.heap.size w v_2) := FB.out.trans (hb.mono FB.out.size)
    have FO : Hid (OwI v_2 w.heap.size (.slice va l.length vc) l) := FO.out.below hb (fun k hk => (FO.out.lt k hk).2)
    clear hb
    try dsimp only
    refine hK.out _ _ (by (try dsimp only); first | exact F1.out | go_keep) (fun hHeld => ?_)
    clear hK K
    try simp only [Act.put, List.getElem_toArray, List.getElem_cons_succ, List.getElem_cons_zero, List.setIfInBounds_toArray, List.set_cons_zero, List.set_cons_succ]
    refine tkz 2 rfl ?_
    refine tkz 5 rfl ?_
    refine tkz 6 rfl ?_
    refine wpAnyH_done (by kernel_rfl) ?_ _
    go_wp2
    go_ret
    exact ⟨by first | rfl | simp, FB.out⟩
  case pos =>
  subst hk
  obtain ⟨l0, l60, -⟩ := mean_ok HKZ.out
  have HMB : Hid (∀ lo hi : Int, (∀ x ∈ l, lo ≤ x ∧ x ≤ hi) → lo ≤ V ∧ V ≤ hi) := fun lo hi h => by have q := mean_between HKZ.out h; rw [HV.out] at q; exact q
  have lpos : 0 < l.length := by omega
  obtain ⟨x0, hx0⟩ : ∃ x0, l[0]? = some x0 := ⟨_, List.getElem?_eq_getElem lpos⟩
  rcases FO.out.cases with ⟨_, h0⟩ | ⟨g, gc, e⟩
  · rw [h0] at lpos; simp at lpos
  injection e with e1 e2 e3
  subst e1
  clear e2 e3
  have c0 := FO.out.cell hx0
  clear C1 C2 HKZ HV hl61 l0
  go_wp2_with fail
  clear c0 z0
  go_loopw [5, 6, 7] (fun aa bb ii wr => ∃ (lo hi : Int) (i : Nat), aa = .int .i64 lo ∧ bb = .int .i64 hi ∧ ii = .int .i64 (i : Int) ∧ i ≤ l.length ∧ (∀ (j : Nat) (z : Int), j < i → l[j]? = some z → lo ≤ z ∧ z ≤ hi) ∧ wr = w4) (fun _ _ ii _ => l.length - (intOf ii).toNat)
  case atStart => exact ⟨x0, x0, 0, rfl, rfl, rfl, by omega, fun j z hj => by omega, rfl⟩
  case round =>
    obtain ⟨lo, hi, i, rfl, rfl, rfl, hil, hall, hw4⟩ := hrel
    subst hw4
    have HAL : Hid (∀ (j : Nat) (z : Int), j < i → l[j]? = some z → lo ≤ z ∧ z ≤ hi) := hall
    clear hall
    by_cases hlt : i < l.length
    · have hd : decide ((i : Int) < (l.length : Int)) = true := decide_eq_true (by omega)
      obtain ⟨x, hx⟩ : ∃ x, l[i]? = some x := ⟨_, List.getElem?_eq_getElem hlt⟩
      have HX : Hid (l[i]? = some x) := hx
      have cx := FO.out.cell hx
      clear hx
      by_cases h1 : x < lo
      · have d1 : decide (x < lo) = true := decide_eq_true h1
        by_cases h2 : hi < x
        · have d2 : decide (hi < x) = true := decide_eq_true h2
          go_wp2_with fail
          go_roundw
          case rel => exact ⟨x, x, i + 1, rfl, rfl, by simp, by omega, bd_step HAL.out HX.out (by omega) (by omega) (by omega) (by omega), by first | rfl | trivial⟩
          case measure => simp [intOf]; omega
        · have d2 : decide (hi < x) = false := decide_eq_false h2
          go_wp2_with fail
          go_roundw
          case rel => exact ⟨x, hi, i + 1, rfl, rfl, by simp, by omega, bd_step HAL.out HX.out (by omega) (by omega) (by omega) (by omega), by first | rfl | trivial⟩
          case measure => simp [intOf]; omega
      · have d1 : decide (x < lo) = false := decide_eq_false h1
        by_cases h2 : hi < x
        · have d2 : decide (hi < x) = true := decide_eq_true h2
          go_wp2_with fail
          go_roundw
          case rel => exact ⟨lo, x, i + 1, rfl, rfl, by simp, by omega, bd_step HAL.out HX.out (by omega) (by omega) (by omega) (by omega), by first | rfl | trivial⟩
          case measure => simp [intOf]; omega
        · have d2 : decide (hi < x) = false := decide_eq_false h2
          go_wp2_with fail
          go_roundw
          case rel => exact ⟨lo, hi, i + 1, rfl, rfl, by simp, by omega, bd_step HAL.out HX.out (by omega) (by omega) (by omega) (by omega), by first | rfl | trivial⟩
          case measure => simp [intOf]; omega
    · have hd : decide ((i : Int) < (l.length : Int)) = false := decide_eq_false (by omega)
      have vb := HMB.out lo hi (fun z hz => by
        obtain ⟨j, hj⟩ := List.getElem?_of_mem hz
        exact HAL.out j z (by have := (List.getElem?_eq_some_iff.1 hj).1; omega) hj)
      have dlo : decide (V ≥ lo) = true := decide_eq_true vb.1
      have dhi : decide (V ≤ hi) = true := decide_eq_true vb.2
      have dlo2 : lo ≤ V := vb.1
      have dhi2 : V ≤ hi := vb.2
      have HC2 : Hid (CodeIn wr wr.heap.size a0 len0) := (HC.out.keep fun b off hb _ => FB.out.cell (p := ⟨b, off, none⟩) hb).upM FB.out.size
      clear vb HMB HAL HC
      go_upto_region 17 with (first | (go_at_call 19; refine (DrawPairsLost_any a0 len0 cap0 _ HC2.out).mono ?_; rintro e w5 ⟨h, za, zc, Z, rfl, ho, hZ7, hb⟩; have FZ : Hid (OwI w5 w.heap.size (.slice za Z.length zc) Z) := ho.base FB.out.size; have F1 : Hid (Blk w5 b1 [.int .i64 0, .int .i64 V]) := F1.out.below hb F1.out.lt; have FB : Hid (Below w.heap.size w w5) := FB.out.trans (hb.mono FB.out.size); clear hb; clear ho) | (refine store_new [.int .i64 h.fl, .int .i64 h.gp, .int .i64 h.ln, .int .i64 h.rf, .int .i64 h.sp, .int .i64 h.pu, .int .i64 h.br, .int .i64 h.dr, .int .i64 h.lv, .int .i64 h.dO, .int .i64 h.ld, .int .i64 h.qu] 25 _ _ (by kernel_rfl) (by kernel_rfl) (by kernel_rfl) rfl rfl rfl rfl ?_))
      clear HC2 FO
      have FB0 := FB
      obtain ⟨b0, hbb⟩ : ∃ b0, b0 = w5.heap.size := ⟨_, rfl⟩
      obtain ⟨w6, hw2⟩ : ∃ w6, w6 = w5.alloc (.cells #[.int .i64 h.fl, .int .i64 h.gp, .int .i64 h.ln, .int .i64 h.rf, .int .i64 h.sp, .int .i64 h.pu, .int .i64 h.br, .int .i64 h.dr, .int .i64 h.lv, .int .i64 h.dO, .int .i64 h.ld, .int .i64 h.qu] 25) := ⟨_, rfl⟩
      have nb0b1 : b1 < b0 := by rw [hbb]; exact F1.out.lt
      have F1 : Hid (Blk w6 b1 [.int .i64 0, .int .i64 V]) := by rw [hw2]; exact F1.out.alloc _
      have F0 : Hid (Blk w6 b0 [.int .i64 h.fl, .int .i64 h.gp, .int .i64 h.ln, .int .i64 h.rf, .int .i64 h.sp, .int .i64 h.pu, .int .i64 h.br, .int .i64 h.dr, .int .i64 h.lv, .int .i64 h.dO, .int .i64 h.ld, .int .i64 h.qu]) := by rw [hw2]; exact Blk.at_ w5 #[.int .i64 h.fl, .int .i64 h.gp, .int .i64 h.ln, .int .i64 h.rf, .int .i64 h.sp, .int .i64 h.pu, .int .i64 h.br, .int .i64 h.dr, .int .i64 h.lv, .int .i64 h.dO, .int .i64 h.ld, .int .i64 h.qu] _ _ hbb
      have FZ : Hid (OwI w6 w.heap.size (.slice za Z.length zc) Z) := by rw [hw2]; exact FZ.out.alloc _
      have FB : Hid (Below w.heap.size w w6) := by rw [hw2]; exact FB.out.alloc FB.out.size _
      have leb0 : w.heap.size ≤ b0 := by rw [hbb]; exact FB0.out.size
      (try simp only [Act.put])
      rw [← hw2, ← hbb]
      clear hbb hw2 FB0
      obtain ⟨kp, hkp⟩ : ∃ kp, h.znK Z = kp := ⟨_, rfl⟩
      obtain ⟨P, hP⟩ : ∃ P, h.plL Z = P := ⟨_, rfl⟩
      have CP : ∀ W, IIn W za Z → Calls Try.prog 20 #[.agg #[.int .i64 h.fl, .int .i64 h.gp, .int .i64 h.ln, .int .i64 h.rf, .int .i64 h.sp, .int .i64 h.pu, .int .i64 h.br, .int .i64 h.dr, .int .i64 h.lv, .int .i64 h.dO, .int .i64 h.ld, .int .i64 h.qu], .slice za Z.length zc] W fun e w' => (∃ v, e = .returned (.agg #[.int .i64 kp, v]) ∧ OwI w' W.heap.size v P) ∧ Below W.heap.size W w' := fun W hW => by have q := implPairs_any h Z za zc (by omega) W hW; rw [hkp, hP] at q; exact q
      have CQ : ∀ W, IIn W za Z → Calls Try.prog 21 #[.agg #[.int .i64 h.fl, .int .i64 h.gp, .int .i64 h.ln, .int .i64 h.rf, .int .i64 h.sp, .int .i64 h.pu, .int .i64 h.br, .int .i64 h.dr, .int .i64 h.lv, .int .i64 h.dO, .int .i64 h.ld, .int .i64 h.qu], .slice za Z.length zc] W fun e w' => (∃ v, e = .returned (.agg #[.int .i64 kp, v]) ∧ OwI w' W.heap.size v P) ∧ Below W.heap.size W w' := fun W hW => by have q := specPairs_any h Z za zc (by omega) W hW; rw [hkp, hP] at q; exact q
      have HLM : Hid (∀ x ∈ P, ∃ a b : Nat, a < 12 ∧ b < 12 ∧ x = (a : Int) * 12 + (b : Int) ∧ (h.svL Z (a : Int) (b : Int)).length = 0) := fun x hx => lost_mem (by rw [hP]; exact hx)
      have pl : P.length ≤ 144 := by rw [← hP]; exact plL_small
      clear hkp hP
      go_upto_region 18 with (first | (refine load_blk 25 _ Try.underlying25 (by kernel_rfl) F0.out rfl rfl rfl ?_) | (go_at_call 20; refine (CP _ FZ.out.iin).mono ?_; rintro e w7 ⟨⟨vv, rfl, ho⟩, hb⟩; obtain ⟨pa, pc, rfl⟩ := ho.sl; have FP : Hid (OwI w7 w.heap.size (.slice pa P.length pc) P) := ho.base FB.out.size; have FZ : Hid (OwI w7 w.heap.size (.slice za Z.length zc) Z) := FZ.out.below hb (fun k hk => (FZ.out.lt k hk).2); have F1 : Hid (Blk w7 b1 [.int .i64 0, .int .i64 V]) := F1.out.below hb F1.out.lt; have F0 : Hid (Blk w7 b0 [.int .i64 h.fl, .int .i64 h.gp, .int .i64 h.ln, .int .i64 h.rf, .int .i64 h.sp, .int .i64 h.pu, .int .i64 h.br, .int .i64 h.dr, .int .i64 h.lv, .int .i64 h.dO, .int .i64 h.ld, .int .i64 h.qu]) := F0.out.below hb F0.out.lt; have FB : Hid (Below w.heap.size w w7) := FB.out.trans (hb.mono FB.out.size); clear hb; clear ho) | (refine store_new [.int .i64 kp, .slice pa P.length pc] 30 _ _ (by kernel_rfl) (by kernel_rfl) (by kernel_rfl) rfl rfl rfl rfl ?_))
      have FB0 := FB
      obtain ⟨b2, hbb⟩ : ∃ b2, b2 = w7.heap.size := ⟨_, rfl⟩
      obtain ⟨w8, hw2⟩ : ∃ w8, w8 = w7.alloc (.cells #[.int .i64 kp, .slice pa P.length pc] 30) := ⟨_, rfl⟩
      have nb2b1 : b1 < b2 := by rw [hbb]; exact F1.out.lt
      have nb2b0 : b0 < b2 := by rw [hbb]; exact F0.out.lt
      have F1 : Hid (Blk w8 b1 [.int .i64 0, .int .i64 V]) := by rw [hw2]; exact F1.out.alloc _
      have F0 : Hid (Blk w8 b0 [.int .i64 h.fl, .int .i64 h.gp, .int .i64 h.ln, .int .i64 h.rf, .int .i64 h.sp, .int .i64 h.pu, .int .i64 h.br, .int .i64 h.dr, .int .i64 h.lv, .int .i64 h.dO, .int .i64 h.ld, .int .i64 h.qu]) := by rw [hw2]; exact F0.out.alloc _
      have F2 : Hid (Blk w8 b2 [.int .i64 kp, .slice pa P.length pc]) := by rw [hw2]; exact Blk.at_ w7 #[.int .i64 kp, .slice pa P.length pc] _ _ hbb
      have FZ : Hid (OwI w8 w.heap.size (.slice za Z.length zc) Z) := by rw [hw2]; exact FZ.out.alloc _
      have FP : Hid (OwI w8 w.heap.size (.slice pa P.length pc) P) := by rw [hw2]; exact FP.out.alloc _
      have FB : Hid (Below w.heap.size w w8) := by rw [hw2]; exact FB.out.alloc FB.out.size _
      have leb2 : w.heap.size ≤ b2 := by rw [hbb]; exact FB0.out.size
      (try simp only [Act.put])
      rw [← hw2, ← hbb]
      clear hbb hw2 FB0
      have z0 := F2.out.c 0 _ rfl
      by_cases hk : kp = 0
      case neg =>
        have hn : (kp != 0) = true := by simpa using hk
        have hee : (kp == kp) = true := by simp
        have fi := fieldM0
        clear hk
        go_upto_region 19 with fail
        clear z0
        have F1 : Hid (Blk w8.drew b1 [.int .i64 0, .int .i64 V]) := F1.out.below (Below.refl _ _).drew F1.out.lt
        have F0 : Hid (Blk w8.drew b0 [.int .i64 h.fl, .int .i64 h.gp, .int .i64 h.ln, .int .i64 h.rf, .int .i64 h.sp, .int .i64 h.pu, .int .i64 h.br, .int .i64 h.dr, .int .i64 h.lv, .int .i64 h.dO, .int .i64 h.ld, .int .i64 h.qu]) := F0.out.below (Below.refl _ _).drew F0.out.lt
        have F2 : Hid (Blk w8.drew b2 [.int .i64 kp, .slice pa P.length pc]) := F2.out.below (Below.refl _ _).drew F2.out.lt
        have FB : Hid (Below w.heap.size w w8.drew) := FB.out.drew
        have FZ : Hid (OwI w8.drew w.heap.size (.slice za Z.length zc) Z) := FZ.out.drew
        have FP : Hid (OwI w8.drew w.heap.size (.slice pa P.length pc) P) := FP.out.drew
        refine wp_region_held_drew (S := (fun w'' => Blk w'' b0 ([.int .i64 h.fl, .int .i64 h.gp, .int .i64 h.ln, .int .i64 h.rf, .int .i64 h.sp, .int .i64 h.pu, .int .i64 h.br, .int .i64 h.dr, .int .i64 h.lv, .int .i64 h.dO, .int .i64 h.ld, .int .i64 h.qu]) ∧ Blk w'' b1 ([.int .i64 0, .int .i64 V]) ∧ Blk w'' b2 ([.int .i64 kp, .slice pa P.length pc]))) (by kernel_rfl) (by (try dsimp only); first | exact ⟨F0.out, F1.out, F2.out⟩ | go_keep) (fun hHeld => ?_)
        obtain ⟨v_3, hw1⟩ : ∃ v_3, v_3 = w8.drew := ⟨_, rfl⟩
        have F1 : Hid (Blk v_3 b1 [.int .i64 0, .int .i64 V]) := by rw [hw1]; exact F1.out
        have F0 : Hid (Blk v_3 b0 [.int .i64 h.fl, .int .i64 h.gp, .int .i64 h.ln, .int .i64 h.rf, .int .i64 h.sp, .int .i64 h.pu, .int .i64 h.br, .int .i64 h.dr, .int .i64 h.lv, .int .i64 h.dO, .int .i64 h.ld, .int .i64 h.qu]) := by rw [hw1]; exact F0.out
        have F2 : Hid (Blk v_3 b2 [.int .i64 kp, .slice pa P.length pc]) := by rw [hw1]; exact F2.out
        have FB : Hid (Below w.heap.size w v_3) := by rw [hw1]; exact FB.out
        have FZ : Hid (OwI v_3 w.heap.size (.slice za Z.length zc) Z) := by rw [hw1]; exact FZ.out
        have FP : Hid (OwI v_3 w.heap.size (.slice pa P.length pc) P) := by rw [hw1]; exact FP.out
        rw [← hw1] at hHeld ⊢
        clear hw1
        refine tkz 0 rfl ?_ (hy := Or.inl ⟨by kernel_rfl, fun wx hSw => exec_load_blk 25 _ Try.underlying25 (by kernel_rfl) rfl rfl hSw.1⟩)
        refine tkz 1 rfl ?_
        refine tkz 4 rfl ?_
        refine tkz 5 rfl ?_ (hy := Or.inl ⟨by kernel_rfl, by (intro wx hSw; have hq2_0 := hSw.2.2.c 0 _ rfl; (try dsimp only at hSw); go_simp <;> with_reducible rfl)⟩)
        refine wpAnyH_ready (rs := [2]) (by kernel_rfl) (by simp) ?_
        refine (AllReadyH.cons rfl (fun K hK => ?_) AllReadyH.nil)
        go_simp
        refine (CQ _ FZ.out.iin).mono ?_
        rintro e v_4 ⟨⟨vv, rfl, ho⟩, hb⟩
        have F1 : Hid (Blk v_4 b1 [.int .i64 0, .int .i64 V]) := F1.out.below hb F1.out.lt
        have F0 : Hid (Blk v_4 b0 [.int .i64 h.fl, .int .i64 h.gp, .int .i64 h.ln, .int .i64 h.rf, .int .i64 h.sp, .int .i64 h.pu, .int .i64 h.br, .int .i64 h.dr, .int .i64 h.lv, .int .i64 h.dO, .int .i64 h.ld, .int .i64 h.qu]) := F0.out.below hb F0.out.lt
        have F2 : Hid (Blk v_4 b2 [.int .i64 kp, .slice pa P.length pc]) := F2.out.below hb F2.out.lt
        have FB : Hid (Below w.heap.size w v_4) := FB.out.trans (hb.mono FB.out.size)
        have FZ : Hid (OwI v_4 w.heap.size (.slice za Z.length zc) Z) := FZ.out.below hb (fun k hk => (FZ.out.lt k hk).2)
        have FP : Hid (OwI v_4 w.heap.size (.slice pa P.length pc) P) := FP.out.below hb (fun k hk => (FP.out.lt k hk).2)
        clear hb
        try dsimp only
        refine hK.out _ _ (by (try dsimp only); first | exact ⟨F0.out, F1.out, F2.out⟩ | go_keep) (fun hHeld => ?_)
        clear hK K
        try simp only [Act.put, List.getElem_toArray, List.getElem_cons_succ, List.getElem_cons_zero, List.setIfInBounds_toArray, List.set_cons_zero, List.set_cons_succ]
        refine tkz 3 rfl ?_
        refine tkz 6 rfl ?_
        refine tkz 7 rfl ?_
        refine tkz 8 rfl ?_
        refine tkz 9 rfl ?_ (hy := Or.inl ⟨by kernel_rfl, by (intro wx hSw; have hq1_1 := hSw.2.1.c 1 _ rfl; (try dsimp only at hSw); go_simp <;> with_reducible rfl)⟩)
        refine tkz 10 rfl ?_
        refine tkz 11 rfl ?_
        refine tkz 12 rfl ?_
        refine tkz 13 rfl ?_
        refine tkz 14 rfl ?_
        refine tkz 15 rfl ?_ (hy := Or.inl ⟨by kernel_rfl, by (intro wx hSw; have hq1_1 := hSw.2.1.c 1 _ rfl; (try dsimp only at hSw); go_simp <;> with_reducible rfl)⟩)
        refine tkz 16 rfl ?_
        refine tkz 17 rfl ?_
        refine tkz 18 rfl ?_
        refine tkz 19 rfl ?_
        refine wpAnyH_done (by kernel_rfl) ?_ _
        go_wp2
        go_ret
        exact ⟨by first | rfl | simp, FB.out⟩
      case pos =>
      subst hk
      go_wp2_with fail
      clear z0 CP
      go_loopw [11] (fun ii wr => ∃ (i : Nat), ii = .int .i64 (i : Int) ∧ i ≤ P.length ∧ OwI wr w.heap.size (.slice za Z.length zc) Z ∧ OwI wr w.heap.size (.slice pa P.length pc) P ∧ Blk wr b1 [.int .i64 0, .int .i64 V] ∧ Blk wr b0 [.int .i64 h.fl, .int .i64 h.gp, .int .i64 h.ln, .int .i64 h.rf, .int .i64 h.sp, .int .i64 h.pu, .int .i64 h.br, .int .i64 h.dr, .int .i64 h.lv, .int .i64 h.dO, .int .i64 h.ld, .int .i64 h.qu] ∧ Blk wr b2 [.int .i64 0, .slice pa P.length pc] ∧ Below w.heap.size w wr) (fun ii _ => P.length - (intOf ii).toNat)
      case atStart => exact ⟨0, rfl, by omega, FZ.out, FP.out, F1.out, F0.out, F2.out, FB.out⟩
      case round =>
        obtain ⟨i2, rfl, hi2, hz, hp, h_F1, h_F0, h_F2, hB⟩ := hrel
        clear F0 F1 F2 FB FZ FP
        have F1 : Hid (Blk wr b1 [.int .i64 0, .int .i64 V]) := h_F1
        have F0 : Hid (Blk wr b0 [.int .i64 h.fl, .int .i64 h.gp, .int .i64 h.ln, .int .i64 h.rf, .int .i64 h.sp, .int .i64 h.pu, .int .i64 h.br, .int .i64 h.dr, .int .i64 h.lv, .int .i64 h.dO, .int .i64 h.ld, .int .i64 h.qu]) := h_F0
        have F2 : Hid (Blk wr b2 [.int .i64 0, .slice pa P.length pc]) := h_F2
        have FB : Hid (Below w.heap.size w wr) := hB
        clear h_F1 h_F0 h_F2 hB
        have FZ : Hid (OwI wr w.heap.size (.slice za Z.length zc) Z) := hz
        clear hz
        have x21 := F2.out.c 1 _ rfl
        by_cases hlt2 : i2 < P.length
        · have hd2 : decide ((i2 : Int) < (P.length : Int)) = true := decide_eq_true (by omega)
          obtain ⟨x, hx⟩ : ∃ x, P[i2]? = some x := ⟨_, List.getElem?_eq_getElem hlt2⟩
          obtain ⟨qa, qb, qa1, qb1, ex, eS⟩ := HLM.out x (List.mem_of_getElem? hx)
          obtain ⟨r1, r2, r3, r4⟩ := quo_rem qb1 ex
          have CV : ∀ W, IIn W za Z → Calls Try.prog 14 #[.agg #[.int .i64 h.fl, .int .i64 h.gp, .int .i64 h.ln, .int .i64 h.rf, .int .i64 h.sp, .int .i64 h.pu, .int .i64 h.br, .int .i64 h.dr, .int .i64 h.lv, .int .i64 h.dO, .int .i64 h.ld, .int .i64 h.qu], .slice za Z.length zc, .int .i64 (qa : Int), .int .i64 (qb : Int)] W fun e w' => (∃ K ga gc, e = .returned (.agg #[.int .i64 K, .slice ga 0 gc])) ∧ Below W.heap.size W w' := fun W hW => implServed_len h Z _ _ za zc (by omega) 0 eS W hW
          rcases hp.cases with ⟨_, h0⟩ | ⟨gp, gpc, e⟩
          · rw [h0] at hlt2; simp at hlt2
          injection e with e1 e2 e3
          subst e1
          clear e2 e3
          have FX : Hid (C1m wr gp i2 x) := ⟨hp.cell hx⟩
          have FP : Hid (OwI wr w.heap.size (.slice (some ⟨gp, 0, none⟩) P.length pc) P) := hp
          obtain ⟨AI, hAI⟩ : ∃ AI, (qa : Int) = AI := ⟨_, rfl⟩
          obtain ⟨BI, hBI⟩ : ∃ BI, (qb : Int) = BI := ⟨_, rfl⟩
          rw [hAI, hBI] at CV
          rw [hAI] at r1 r3
          rw [hBI] at r2 r4
          have ew1 : IntKind.i64.wrap AI = AI := IntWalk.i64_in _ (by omega)
          have ew2 : IntKind.i64.wrap BI = BI := IntWalk.i64_in _ (by omega)
          have fi := fieldM1
          have hj : (i2 : Int) < (P.length : Int) := by omega
          clear ex eS hx hp hAI hBI qa1 qb1
          go_upto_region 23 with fail
          clear x21
          have FX : Hid (C1m wr.drew gp i2 x) := FX.out.below (Below.refl _ _).drew FX.out.lt
          have F1 : Hid (Blk wr.drew b1 [.int .i64 0, .int .i64 V]) := F1.out.below (Below.refl _ _).drew F1.out.lt
          have F0 : Hid (Blk wr.drew b0 [.int .i64 h.fl, .int .i64 h.gp, .int .i64 h.ln, .int .i64 h.rf, .int .i64 h.sp, .int .i64 h.pu, .int .i64 h.br, .int .i64 h.dr, .int .i64 h.lv, .int .i64 h.dO, .int .i64 h.ld, .int .i64 h.qu]) := F0.out.below (Below.refl _ _).drew F0.out.lt
          have F2 : Hid (Blk wr.drew b2 [.int .i64 0, .slice (some ⟨gp, 0, none⟩) P.length pc]) := F2.out.below (Below.refl _ _).drew F2.out.lt
          have FB : Hid (Below w.heap.size w wr.drew) := FB.out.drew
          have FZ : Hid (OwI wr.drew w.heap.size (.slice za Z.length zc) Z) := FZ.out.drew
          have FP : Hid (OwI wr.drew w.heap.size (.slice (some ⟨gp, 0, none⟩) P.length pc) P) := FP.out.drew
          have cx := FX.out.c
          refine wp_region_held_drew (S := (fun w'' => Blk w'' b0 ([.int .i64 h.fl, .int .i64 h.gp, .int .i64 h.ln, .int .i64 h.rf, .int .i64 h.sp, .int .i64 h.pu, .int .i64 h.br, .int .i64 h.dr, .int .i64 h.lv, .int .i64 h.dO, .int .i64 h.ld, .int .i64 h.qu]) ∧ Blk w'' b2 ([.int .i64 0, .slice (some ⟨gp, 0, none⟩) P.length pc]) ∧ w''.cell? ⟨gp, i2, none⟩ = some (.int .i64 x))) (by kernel_rfl) (by (try dsimp only); first | exact ⟨F0.out, F2.out, cx⟩ | go_keep) (fun hHeld => ?_)
          obtain ⟨v_5, hw1⟩ : ∃ v_5, v_5 = wr.drew := ⟨_, rfl⟩
          have FX : Hid (C1m v_5 gp i2 x) := by rw [hw1]; exact FX.out
          have F1 : Hid (Blk v_5 b1 [.int .i64 0, .int .i64 V]) := by rw [hw1]; exact F1.out
          have F0 : Hid (Blk v_5 b0 [.int .i64 h.fl, .int .i64 h.gp, .int .i64 h.ln, .int .i64 h.rf, .int .i64 h.sp, .int .i64 h.pu, .int .i64 h.br, .int .i64 h.dr, .int .i64 h.lv, .int .i64 h.dO, .int .i64 h.ld, .int .i64 h.qu]) := by rw [hw1]; exact F0.out
          have F2 : Hid (Blk v_5 b2 [.int .i64 0, .slice (some ⟨gp, 0, none⟩) P.length pc]) := by rw [hw1]; exact F2.out
          have FB : Hid (Below w.heap.size w v_5) := by rw [hw1]; exact FB.out
          have FZ : Hid (OwI v_5 w.heap.size (.slice za Z.length zc) Z) := by rw [hw1]; exact FZ.out
          have FP : Hid (OwI v_5 w.heap.size (.slice (some ⟨gp, 0, none⟩) P.length pc) P) := by rw [hw1]; exact FP.out
          rw [← hw1] at hHeld ⊢
          clear hw1
          have cx := FX.out.c
          refine tkz 0 rfl ?_ (hy := Or.inl ⟨by kernel_rfl, fun wx hSw => exec_load_blk 25 _ Try.underlying25 (by kernel_rfl) rfl rfl hSw.1⟩)
          refine tkz 1 rfl ?_
          refine tkz 2 rfl ?_
          refine tkz 3 rfl ?_ (hy := Or.inl ⟨by kernel_rfl, by (intro wx hSw; have hq1_1 := hSw.2.1.c 1 _ rfl; (try dsimp only at hSw); go_simp <;> with_reducible rfl)⟩)
          refine tkz 4 rfl ?_
          refine tkz 5 rfl ?_
          refine tkz 6 rfl ?_
          refine tkz 7 rfl ?_
          refine tkz 8 rfl ?_
          refine tkz 9 rfl ?_ (hy := Or.inl ⟨by kernel_rfl, by (intro wx hSw; have hq1_1 := hSw.2.1.c 1 _ rfl; (try dsimp only at hSw); go_simp <;> with_reducible rfl)⟩)
          refine tkz 10 rfl ?_
          refine tkz 11 rfl ?_
          refine tkz 12 rfl ?_
          refine tkz 13 rfl ?_
          refine wpAnyH_ready (rs := [14]) (by kernel_rfl) (by simp) ?_
          refine (AllReadyH.cons rfl (fun K hK => ?_) AllReadyH.nil)
          go_simp
          refine (CV _ FZ.out.iin).mono ?_
          rintro e v_6 ⟨⟨K1, ga, gc, rfl⟩, hb⟩
          have FX : Hid (C1m v_6 gp i2 x) := FX.out.below hb FX.out.lt
          have F1 : Hid (Blk v_6 b1 [.int .i64 0, .int .i64 V]) := F1.out.below hb F1.out.lt
          have F0 : Hid (Blk v_6 b0 [.int .i64 h.fl, .int .i64 h.gp, .int .i64 h.ln, .int .i64 h.rf, .int .i64 h.sp, .int .i64 h.pu, .int .i64 h.br, .int .i64 h.dr, .int .i64 h.lv, .int .i64 h.dO, .int .i64 h.ld, .int .i64 h.qu]) := F0.out.below hb F0.out.lt
          have F2 : Hid (Blk v_6 b2 [.int .i64 0, .slice (some ⟨gp, 0, none⟩) P.length pc]) := F2.out.below hb F2.out.lt
          have FB : Hid (Below w.heap.size w v_6) := FB.out.trans (hb.mono FB.out.size)
          have FZ : Hid (OwI v_6 w.heap.size (.slice za Z.length zc) Z) := FZ.out.below hb (fun k hk => (FZ.out.lt k hk).2)
          have FP : Hid (OwI v_6 w.heap.size (.slice (some ⟨gp, 0, none⟩) P.length pc) P) := FP.out.below hb (fun k hk => (FP.out.lt k hk).2)
          clear hb
          have cx := FX.out.c
          try dsimp only
          refine hK.out _ _ (by (try dsimp only); first | exact ⟨F0.out, F2.out, cx⟩ | go_keep) (fun hHeld => ?_)
          clear hK K
          try simp only [Act.put, List.getElem_toArray, List.getElem_cons_succ, List.getElem_cons_zero, List.setIfInBounds_toArray, List.set_cons_zero, List.set_cons_succ]
          refine tkz 15 rfl ?_
          refine wpAnyH_ready (rs := [16]) (by kernel_rfl) (by simp) ?_
          refine (AllReadyH.cons rfl (fun K hK => ?_) AllReadyH.nil)
          go_simp
          refine hK.out _ _ (by (try dsimp only); first | exact ⟨F0.out, F2.out, cx⟩ | go_keep) (fun hHeld => ?_)
          clear hK K
          try simp only [Act.put, List.getElem_toArray, List.getElem_cons_succ, List.getElem_cons_zero, List.setIfInBounds_toArray, List.set_cons_zero, List.set_cons_succ]
          refine tkz 17 rfl ?_
          refine wpAnyH_done (by kernel_rfl) ?_ _
          go_wp2_with fail
          go_roundw
          case rel => exact ⟨i2 + 1, by simp, by omega, FZ.out, FP.out, F1.out, F0.out, F2.out, FB.out⟩
          case measure => simp [intOf]; omega
        · have hd2 : decide ((i2 : Int) < (P.length : Int)) = false := decide_eq_false (by omega)
          have FP : Hid (OwI wr w.heap.size (.slice pa P.length pc) P) := hp
          have fi := fieldM1
          have hpp : ((P.length : Int) == (P.length : Int)) = true := by simp
          clear hp
          go_upto_region 25 with fail
          clear x21
          have F1 : Hid (Blk wr.drew b1 [.int .i64 0, .int .i64 V]) := F1.out.below (Below.refl _ _).drew F1.out.lt
          have F0 : Hid (Blk wr.drew b0 [.int .i64 h.fl, .int .i64 h.gp, .int .i64 h.ln, .int .i64 h.rf, .int .i64 h.sp, .int .i64 h.pu, .int .i64 h.br, .int .i64 h.dr, .int .i64 h.lv, .int .i64 h.dO, .int .i64 h.ld, .int .i64 h.qu]) := F0.out.below (Below.refl _ _).drew F0.out.lt
          have F2 : Hid (Blk wr.drew b2 [.int .i64 0, .slice pa P.length pc]) := F2.out.below (Below.refl _ _).drew F2.out.lt
          have FB : Hid (Below w.heap.size w wr.drew) := FB.out.drew
          have FZ : Hid (OwI wr.drew w.heap.size (.slice za Z.length zc) Z) := FZ.out.drew
          have FP : Hid (OwI wr.drew w.heap.size (.slice pa P.length pc) P) := FP.out.drew
          refine wp_region_held_drew (S := (fun w'' => Blk w'' b0 ([.int .i64 h.fl, .int .i64 h.gp, .int .i64 h.ln, .int .i64 h.rf, .int .i64 h.sp, .int .i64 h.pu, .int .i64 h.br, .int .i64 h.dr, .int .i64 h.lv, .int .i64 h.dO, .int .i64 h.ld, .int .i64 h.qu]) ∧ Blk w'' b1 ([.int .i64 0, .int .i64 V]) ∧ Blk w'' b2 ([.int .i64 0, .slice pa P.length pc]))) (by kernel_rfl) (by (try dsimp only); first | exact ⟨F0.out, F1.out, F2.out⟩ | go_keep) (fun hHeld => ?_)
          obtain ⟨v_7, hw1⟩ : ∃ v_7, v_7 = wr.drew := ⟨_, rfl⟩
          have F1 : Hid (Blk v_7 b1 [.int .i64 0, .int .i64 V]) := by rw [hw1]; exact F1.out
          have F0 : Hid (Blk v_7 b0 [.int .i64 h.fl, .int .i64 h.gp, .int .i64 h.ln, .int .i64 h.rf, .int .i64 h.sp, .int .i64 h.pu, .int .i64 h.br, .int .i64 h.dr, .int .i64 h.lv, .int .i64 h.dO, .int .i64 h.ld, .int .i64 h.qu]) := by rw [hw1]; exact F0.out
          have F2 : Hid (Blk v_7 b2 [.int .i64 0, .slice pa P.length pc]) := by rw [hw1]; exact F2.out
          have FB : Hid (Below w.heap.size w v_7) := by rw [hw1]; exact FB.out
          have FZ : Hid (OwI v_7 w.heap.size (.slice za Z.length zc) Z) := by rw [hw1]; exact FZ.out
          have FP : Hid (OwI v_7 w.heap.size (.slice pa P.length pc) P) := by rw [hw1]; exact FP.out
          rw [← hw1] at hHeld ⊢
          clear hw1
          refine tkz 0 rfl ?_
          refine tkz 1 rfl ?_ (hy := Or.inl ⟨by kernel_rfl, by (intro wx hSw; have hq1_1 := hSw.2.1.c 1 _ rfl; (try dsimp only at hSw); go_simp <;> with_reducible rfl)⟩)
          refine tkz 2 rfl ?_
          refine tkz 3 rfl ?_
          refine tkz 4 rfl ?_
          refine tkz 5 rfl ?_
          refine tkz 6 rfl ?_ (hy := Or.inl ⟨by kernel_rfl, by (intro wx hSw; have hq1_1 := hSw.2.1.c 1 _ rfl; (try dsimp only at hSw); go_simp <;> with_reducible rfl)⟩)
          refine tkz 7 rfl ?_
          refine tkz 8 rfl ?_
          refine tkz 9 rfl ?_
          refine tkz 10 rfl ?_
          refine tkz 11 rfl ?_
          refine tkz 12 rfl ?_ (hy := Or.inl ⟨by kernel_rfl, by (intro wx hSw; have hq2_1 := hSw.2.2.c 1 _ rfl; (try dsimp only at hSw); go_simp <;> with_reducible rfl)⟩)
          refine tkz 14 rfl ?_ (hy := Or.inl ⟨by kernel_rfl, fun wx hSw => exec_load_blk 25 _ Try.underlying25 (by kernel_rfl) rfl rfl hSw.1⟩)
          refine tkz 15 rfl ?_
          refine wpAnyH_ready (rs := [13, 16]) (by kernel_rfl) (by simp) ?_
          refine (AllReadyH.cons rfl (fun K hK => ?_) (AllReadyH.cons rfl (fun K hK => ?_) AllReadyH.nil))
          · go_simp
            refine hK.out _ _ (by (try dsimp only); first | exact ⟨F0.out, F1.out, F2.out⟩ | go_keep) (fun hHeld => ?_)
            clear hK K
            try simp only [Act.put, List.getElem_toArray, List.getElem_cons_succ, List.getElem_cons_zero, List.setIfInBounds_toArray, List.set_cons_zero, List.set_cons_succ]
            refine wpAnyH_ready (rs := [16]) (by kernel_rfl) (by simp) ?_
            refine (AllReadyH.cons rfl (fun K hK => ?_) AllReadyH.nil)
            go_simp
            refine (CQ _ FZ.out.iin).mono ?_
            rintro e v_8 ⟨⟨vv, rfl, ho⟩, hb⟩
            have F1 : Hid (Blk v_8 b1 [.int .i64 0, .int .i64 V]) := F1.out.below hb F1.out.lt
            have F0 : Hid (Blk v_8 b0 [.int .i64 h.fl, .int .i64 h.gp, .int .i64 h.ln, .int .i64 h.rf, .int .i64 h.sp, .int .i64 h.pu, .int .i64 h.br, .int .i64 h.dr, .int .i64 h.lv, .int .i64 h.dO, .int .i64 h.ld, .int .i64 h.qu]) := F0.out.below hb F0.out.lt
            have F2 : Hid (Blk v_8 b2 [.int .i64 0, .slice pa P.length pc]) := F2.out.below hb F2.out.lt
            have FB : Hid (Below w.heap.size w v_8) := FB.out.trans (hb.mono FB.out.size)
            have FZ : Hid (OwI v_8 w.heap.size (.slice za Z.length zc) Z) := FZ.out.below hb (fun k hk => (FZ.out.lt k hk).2)
            have FP : Hid (OwI v_8 w.heap.size (.slice pa P.length pc) P) := FP.out.below hb (fun k hk => (FP.out.lt k hk).2)
            clear hb
            obtain ⟨ga, gc, rfl⟩ := ho.sl
            clear ho
            try dsimp only
            refine hK.out _ _ (by (try dsimp only); first | exact ⟨F0.out, F1.out, F2.out⟩ | go_keep) (fun hHeld => ?_)
            clear hK K
            try simp only [Act.put, List.getElem_toArray, List.getElem_cons_succ, List.getElem_cons_zero, List.setIfInBounds_toArray, List.set_cons_zero, List.set_cons_succ]
            refine tkz 17 rfl ?_
            refine wpAnyH_ready (rs := [18]) (by kernel_rfl) (by simp) ?_
            refine (AllReadyH.cons rfl (fun K hK => ?_) AllReadyH.nil)
            go_simp
            refine hK.out _ _ (by (try dsimp only); first | exact ⟨F0.out, F1.out, F2.out⟩ | go_keep) (fun hHeld => ?_)
            clear hK K
            try simp only [Act.put, List.getElem_toArray, List.getElem_cons_succ, List.getElem_cons_zero, List.setIfInBounds_toArray, List.set_cons_zero, List.set_cons_succ]
            refine tkz 19 rfl ?_
            refine tkz 20 rfl ?_
            refine tkz 21 rfl ?_
            refine wpAnyH_done (by kernel_rfl) ?_ _
            go_wp2
            go_ret
            exact ⟨by first | rfl | simp, FB.out⟩
          · go_simp
            refine (CQ _ FZ.out.iin).mono ?_
            rintro e v_9 ⟨⟨vv, rfl, ho⟩, hb⟩
            have F1 : Hid (Blk v_9 b1 [.int .i64 0, .int .i64 V]) := F1.out.below hb F1.out.lt
            have F0 : Hid (Blk v_9 b0 [.int .i64 h.fl, .int .i64 h.gp, .int .i64 h.ln, .int .i64 h.rf, .int .i64 h.sp, .int .i64 h.pu, .int .i64 h.br, .int .i64 h.dr, .int .i64 h.lv, .int .i64 h.dO, .int .i64 h.ld, .int .i64 h.qu]) := F0.out.below hb F0.out.lt
            have F2 : Hid (Blk v_9 b2 [.int .i64 0, .slice pa P.length pc]) := F2.out.below hb F2.out.lt
            have FB : Hid (Below w.heap.size w v_9) := FB.out.trans (hb.mono FB.out.size)
            have FZ : Hid (OwI v_9 w.heap.size (.slice za Z.length zc) Z) := FZ.out.below hb (fun k hk => (FZ.out.lt k hk).2)
            have FP : Hid (OwI v_9 w.heap.size (.slice pa P.length pc) P) := FP.out.below hb (fun k hk => (FP.out.lt k hk).2)
            clear hb
            obtain ⟨ga, gc, rfl⟩ := ho.sl
            clear ho
            try dsimp only
            refine hK.out _ _ (by (try dsimp only); first | exact ⟨F0.out, F1.out, F2.out⟩ | go_keep) (fun hHeld => ?_)
            clear hK K
            try simp only [Act.put, List.getElem_toArray, List.getElem_cons_succ, List.getElem_cons_zero, List.setIfInBounds_toArray, List.set_cons_zero, List.set_cons_succ]
            refine tkz 17 rfl ?_
            refine wpAnyH_ready (rs := [13, 18]) (by kernel_rfl) (by simp) ?_
            refine (AllReadyH.cons rfl (fun K hK => ?_) (AllReadyH.cons rfl (fun K hK => ?_) AllReadyH.nil))
            · go_simp
              refine hK.out _ _ (by (try dsimp only); first | exact ⟨F0.out, F1.out, F2.out⟩ | go_keep) (fun hHeld => ?_)
              clear hK K
              try simp only [Act.put, List.getElem_toArray, List.getElem_cons_succ, List.getElem_cons_zero, List.setIfInBounds_toArray, List.set_cons_zero, List.set_cons_succ]
              refine wpAnyH_ready (rs := [18]) (by kernel_rfl) (by simp) ?_
              refine (AllReadyH.cons rfl (fun K hK => ?_) AllReadyH.nil)
              go_simp
              refine hK.out _ _ (by (try dsimp only); first | exact ⟨F0.out, F1.out, F2.out⟩ | go_keep) (fun hHeld => ?_)
              clear hK K
              try simp only [Act.put, List.getElem_toArray, List.getElem_cons_succ, List.getElem_cons_zero, List.setIfInBounds_toArray, List.set_cons_zero, List.set_cons_succ]
              refine tkz 19 rfl ?_
              refine tkz 20 rfl ?_
              refine tkz 21 rfl ?_
              refine wpAnyH_done (by kernel_rfl) ?_ _
              go_wp2
              go_ret
              exact ⟨by first | rfl | simp, FB.out⟩
            · go_simp
              refine hK.out _ _ (by (try dsimp only); first | exact ⟨F0.out, F1.out, F2.out⟩ | go_keep) (fun hHeld => ?_)
              clear hK K
              try simp only [Act.put, List.getElem_toArray, List.getElem_cons_succ, List.getElem_cons_zero, List.setIfInBounds_toArray, List.set_cons_zero, List.set_cons_succ]
              refine wpAnyH_ready (rs := [13]) (by kernel_rfl) (by simp) ?_
              refine (AllReadyH.cons rfl (fun K hK => ?_) AllReadyH.nil)
              go_simp
              refine hK.out _ _ (by (try dsimp only); first | exact ⟨F0.out, F1.out, F2.out⟩ | go_keep) (fun hHeld => ?_)
              clear hK K
              try simp only [Act.put, List.getElem_toArray, List.getElem_cons_succ, List.getElem_cons_zero, List.setIfInBounds_toArray, List.set_cons_zero, List.set_cons_succ]
              refine tkz 19 rfl ?_
              refine tkz 20 rfl ?_
              refine tkz 21 rfl ?_
              refine wpAnyH_done (by kernel_rfl) ?_ _
              go_wp2
              go_ret
              exact ⟨by first | rfl | simp, FB.out⟩
end Go.Proofs.Ytnpnlckdggakmaa

namespace Go.Proofs.Ytnpnlckdggakmaa.fnMeans
open Go.ChangeShapes Go.WideShapes Go.ChangeAt Go.RowKit
open Go.ChangeMaps (open_string shut_string)
set_option linter.unusedVariables false

theorem own : ownKnob Try.prog.godebug = none := by kernel_rfl
theorem laidOut : laidOutB Try.prog = true := by kernel_rfl

/-- WHAT THE WALK IS TOLD OF A SLICE OF INTEGERS THAT CAME IN: it is nil; or it leads to a row of 'cap' cells, the numbers 'zs' (the first 'len' are its elements, the rest its spare room), each fitting its kind. -/
def IsRow (k : IntKind) (w : World) (a : Option Addr) (len cap : Nat) (zs : List Int) : Prop :=
  (a = none ∧ len = 0 ∧ cap = 0 ∧ zs = []) ∨
  ∃ x, a = some x ∧ len ≤ cap ∧ cap ≤ maxLen ∧ zs.length = cap ∧ (∀ i, i < zs.length → w.cell? (x.add i) = some (.int k (zs.getD i 0))) ∧ ∀ n ∈ zs, (Lit.int k n).wf = true

/-! ### STEP 1: THE WALK: the Go text returns true, AND WRITES NOTHING THAT WAS THERE: 'Below w.heap.size w w'' (Derived/Below.lean: '.refl', '.alloc', '.drew', '.setCell' at a new block, '.trans'). Open each 'IsRow' by 'rcases' AHEAD of 'go_enter'; part every test ahead of the walk. -/
set_option maxHeartbeats 4000000 in
theorem walk (a0 : Option Addr) (len0 cap0 : Nat) (z0 : List Int) (w : World) (w0 : IsRow .u8 w a0 len0 cap0 z0) :
    Calls Try.prog 4 #[.slice a0 len0 cap0] w fun e w' => e = .returned (.bool true) ∧ Below w.heap.size w w' := by
  by_cases hbig : len0 ≤ 1048576
  · exact means_walk a0 len0 cap0 w (codeIn_of w0 hbig _ (Nat.le_refl _)) hbig
  · have hm : len0 ≤ maxLen := row_le w0
    clear w0
    go_enter Try.func4, Try.ntmps4
    go_wp2_with (go_at_call 8; refine (lwBig_yes _ _ _ (by omega) hm _).mono ?_; rintro e w' ⟨rfl, rfl⟩)
    go_ret
    exact ⟨rfl, Below.refl _ _⟩

/-! ### THE ROW's STEP: WRITTEN OUT: LEAVE IT -/
set_option maxRecDepth 100000 in
theorem lifted (os : Os) (started : os.Started) (H : Type) (enc : TypeId × Value → H) :
    ReturnsInHanded {} Try.checked os 4 .any (Rows.fnMeansSpec.pre6 enc Try.prog Try.f4 Rows.fnMeansRow.domain false) (Rows.fnMeansSpec.post enc Try.prog Try.f4 false true false false) := by
  refine returnsInHanded_of_change (C := Try.checked) own started (by kernel_rfl) Try.func4
    (ChangeSpec.witness6 (enc := enc) (C := Try.checked) false ⟨#[], #[.slice none 0 0], []⟩ 8 (by kernel_rfl) (by kernel_rfl) (by kernel_rfl) (by kernel_rfl)) ?_
  intro W base args ds gs before hval0 hW hcnd _
  have hval : ∀ (j : Nat) t v, Try.f4.params[j]? = some t → args[j]? = some v → Value.okWide Try.prog W .any base t v := hval0
  have hW' := hW
  obtain ⟨p, q, hA0, hV, rfl, hfz, hnd⟩ := hW
  have hA : DataW.TrodAll enc Try.prog W 0 (fun _ => true) true Try.f4.params.toList args.toList ds p := hA0
  rw [Try.params4] at hA hval
  obtain ⟨v0, vs0, d0, ds0, p0, q0, hargs, rfl, rfl, h0, r0⟩ := trodAll_cons hA
  obtain ⟨rfl, rfl, rfl⟩ := trodAll_nil r0
  obtain rfl : args = #[v0] := by cases args; simp_all
  obtain ⟨rfl, rfl⟩ := trodVars_none hV
  obtain ⟨a0, len0, cap0, rfl⟩ := okWide_slice Try.underlying22 (hval 0 22 v0 rfl rfl)
  have k0 := h0
  have lt0 : ∀ x ∈ p0, x.block < W.heap.size := by obtain ⟨m, hm⟩ := k0; exact DataW.trod_lt m _ _ _ hm
  obtain ⟨z0, w0⟩ : ∃ zs, IsRow .u8 W a0 len0 cap0 zs := by
    obtain ⟨fuel, hf⟩ := h0
    rcases open_ints Try.underlying22 Try.underlying5 (by kernel_rfl) hf with ⟨hcs, _⟩ | ⟨x, l, c, zs, hcs, _, hl, hm, hz, _, hcell, hwz⟩
    · simp [Value.cells] at hcs
      obtain ⟨rfl, rfl, rfl⟩ := hcs
      exact ⟨[], .inl ⟨rfl, rfl, rfl, rfl⟩⟩
    · simp [Value.cells] at hcs
      obtain ⟨rfl, rfl, rfl⟩ := hcs
      exact ⟨zs, .inr ⟨_, rfl, hl, hm, by simpa using hz, hcell, hwz⟩⟩
  clear hA0 hval0
  refine (walk a0 len0 cap0 z0 W w0).mono fun e W' ⟨he, bel⟩ => ?_
  subst he
  exact ⟨_, rfl, _, _, _, [], _, [], hW', trodAll_mk1 (shut_bool Try.underlying4 _), (trodAll_cons_mk (Below.trod laidOut (by kernel_rfl) (of_decide_eq_true (by kernel_rfl)) k0 bel lt0) trodAll_mk0), rfl, bel.frame _, fun h => by cases h⟩

theorem over : Rows.fnMeansRow.holds Try.pinned (OpenSpec.ofChange Rows.fnMeansSpec) :=
  OpenClaim.holds_of_wide 4 Try.f4 rfl rfl rfl rfl rfl rfl rfl ⟨rfl, rfl, rfl, rfl, rfl⟩ rfl rfl rfl rfl rfl (by kernel_rfl) Try.func4 (by kernel_rfl)
    (of_decide_eq_true (by kernel_rfl)) (by unfold Func.isWrapper; first | (rw [if_pos (by decide +kernel)]; kernel_rfl) | (rw [if_neg (by decide +kernel)]; exact ⟨rfl, rfl⟩))
    (fun os started H enc _ => lifted os started H enc)

/-- ████ THE STATEMENT ████ -/
theorem proved : Rows.FnMeansSaid := over
end Go.Proofs.Ytnpnlckdggakmaa.fnMeans

namespace Go.Proofs.Ytnpnlckdggakmaa
theorem fnMeans_holds : Rows.FnMeansSaid := fnMeans.proved
#print axioms fnMeans_holds
end Go.Proofs.Ytnpnlckdggakmaa
