/-
  What the other draws of chapter 1 leave: numbers of int64, whatever the bytes are; nothing that was there has turned.
-/
import Derived.Test.YtdpapffocfogkaaDraw
namespace Go.Proofs.Ytdpapffocfogkaa
open Go.RowKit Pl

set_option maxHeartbeats 1000000 in
theorem l1Draw_src (sb : Nat) (a : Option Addr) (len cap t : Nat) (w : World) (h : Src w sb a len cap t) (ht : t ≤ 999990) :
    Calls Try.prog 45 #[.pointer (some ⟨sb, 0, none⟩)] w fun e w' => ∃ x y : Int, e = .returned (.tuple #[.int .i64 x, .int .i64 y]) ∧ I64 x ∧ I64 y ∧ Keeps sb w w' := by
  have HS : Hid (Src w sb a len cap t) := h
  have HK : Hid (Keeps sb w w) := Keeps.refl _ _
  clear h
  go_enter Try.func45, Try.ntmps45
  go_wp2_with (go_at_call 35; refine (l1Next_src sb a len cap _ _ _ HS.out (by omega) (by omega) (by omega)).mono ?_; rintro e w' ⟨v, rfl, hv, hs, hk⟩; have HK : Hid (Keeps sb w w') := HK.out.trans hk; have HS : Hid _ := hs; clear hk hs)
  refine (l1Pick_list sb 2 [_, _, _, _, _, _] I64 ?hP a len cap _ _ w HK.out HS.out (by omega) (by simp) (by simp)).mono ?_
  case hP => intro y hy; simp at hy; unfold I64; omega
  rintro e w' ⟨x, rfl, hx, hs, hk⟩
  have HK : Hid (Keeps sb w w') := hk
  have HS : Hid (Src w' sb a len cap _) := hs
  have HV : Hid (I64 x) := hx
  clear hk hs hx
  go_wp2_with (go_at_call 35; refine (l1Next_src sb a len cap _ _ _ HS.out (by omega) (by omega) (by omega)).mono ?_; rintro e w' ⟨v, rfl, hv, hs, hk⟩; have HK : Hid (Keeps sb w w') := HK.out.trans hk; have HS : Hid _ := hs; clear hk hs)
  refine (l1Pick_list sb 2 [_, _, _, _, _] I64 ?hP2 a len cap _ _ w HK.out HS.out (by omega) (by simp) (by simp)).mono ?_
  case hP2 => intro y hy; simp at hy; unfold I64; omega
  rintro e w' ⟨y, rfl, hy, hs, hk⟩
  have HK : Hid (Keeps sb w w') := hk
  have HW : Hid (I64 y) := hy
  clear hk hs hy
  go_wp2
  go_ret2
  exact ⟨x, y, rfl, HV.out, HW.out, HK.out⟩

theorem DrawStopPath_any (a : Option Addr) (len cap : Nat) (w : World) (hc : CodeIn w w.heap.size a len) :
    Calls Try.prog 19 #[.slice a len cap] w fun e w' => ∃ x y : Int, e = .returned (.tuple #[.int .i64 x, .int .i64 y]) ∧ I64 x ∧ I64 y ∧ Below w.heap.size w w' := by
  have HC : Hid (CodeIn w w.heap.size a len) := hc
  clear hc
  go_enter Try.func19, Try.ntmps19
  go_wp2_with (first | (go_at_call 28; refine (l1Source_any a len cap _ HC.out).mono ?_; rintro e w' ⟨rfl, hs, hk⟩; have HK : Hid (Keeps w.heap.size w w') := hk; have HS : Hid _ := hs; clear hk hs) | (go_at_call 45; refine (l1Draw_src w.heap.size a len cap _ _ HS.out (by omega)).mono ?_; rintro e w' ⟨x, y, rfl, hx, hy, hk⟩; have HX : Hid (I64 x) := hx; have HY : Hid (I64 y) := hy; have HK : Hid (Keeps w.heap.size w w') := HK.out.trans hk; clear hx hy hk))
  go_ret2
  exact ⟨x, y, rfl, HX.out, HY.out, HK.out.below (Nat.le_refl _) (Nat.le_refl _)⟩

set_option maxHeartbeats 1000000 in
theorem DrawSpeedFor_any (a : Option Addr) (len cap : Nat) (w : World) (hc : CodeIn w w.heap.size a len) :
    Calls Try.prog 25 #[.slice a len cap] w fun e w' => ∃ x y : Int, e = .returned (.tuple #[.int .i64 x, .int .i64 y]) ∧ I64 x ∧ I64 y ∧ Below w.heap.size w w' := by
  have HC : Hid (CodeIn w w.heap.size a len) := hc
  clear hc
  obtain ⟨sb, hsb⟩ : ∃ sb, sb = w.heap.size := ⟨_, rfl⟩
  have HSB : Hid (w.heap.size ≤ sb) := by rw [hsb]; exact Nat.le_refl _
  go_enter Try.func25, Try.ntmps25
  go_wp2_with (first | (go_at_call 28; refine (l1Source_any a len cap _ HC.out).mono ?_; rw [← hsb]; clear hsb; rintro e w' ⟨rfl, hs, hk⟩; have HK : Hid (Keeps sb w w') := hk; have HS : Hid _ := hs; clear hk hs) | (go_at_call 35; refine (l1Next_src sb a len cap _ _ _ HS.out (by omega) (by omega) (by omega)).mono ?_; rintro e w' ⟨v, rfl, hv, hs, hk⟩; have HK : Hid (Keeps sb w w') := HK.out.trans hk; have HS : Hid _ := hs; clear hk hs))
  refine (l1Pick_list sb 2 [_, _, _, _, _, _] I64 ?hP a len cap _ _ w HK.out HS.out (by omega) (by simp) (by simp)).mono ?_
  case hP => intro y hy; simp at hy; unfold I64; omega
  rintro e w' ⟨x, rfl, hx, hs, hk⟩
  have HK : Hid (Keeps sb w w') := hk
  have HS : Hid (Src w' sb a len cap _) := hs
  have HV : Hid (I64 x) := hx
  clear hk hs hx
  go_wp2_with (go_at_call 35; refine (l1Next_src sb a len cap _ _ _ HS.out (by omega) (by omega) (by omega)).mono ?_; rintro e w' ⟨v, rfl, hv, hs, hk⟩; have HK : Hid (Keeps sb w w') := HK.out.trans hk; have HS : Hid _ := hs; clear hk hs)
  refine (l1Pick_list sb 2 [_, _, _, _] I64 ?hP2 a len cap _ _ w HK.out HS.out (by omega) (by simp) (by simp)).mono ?_
  case hP2 => intro y hy; simp at hy; unfold I64; omega
  rintro e w' ⟨y, rfl, hy, hs, hk⟩
  have HK : Hid (Keeps sb w w') := hk
  have HW : Hid (I64 y) := hy
  clear hk hs hy
  go_wp2
  go_ret2
  exact ⟨x, y, rfl, HV.out, HW.out, HK.out.below HSB.out (Nat.le_refl _)⟩
end Go.Proofs.Ytdpapffocfogkaa
