/-
  The draws of RootDown and RoundUp: numbers of int64, whatever the bytes are; nothing that was there has turned.
-/
import Derived.Test.YtdpapffocfogkaaDraw
namespace Go.Proofs.Ytdpapffocfogkaa
open Go.RowKit Pl

theorem l1Max_any (a b : Int) (w : World) :
    Calls Try.prog 37 #[.int .i64 a, .int .i64 b] w fun e w' => ∃ m, e = .returned (.int .i64 m) ∧ (m = a ∨ m = b) ∧ w' = w := by
  by_cases h : b < a
  · go_enter Try.func37, Try.ntmps37
    go_wp2
    go_ret
    exact ⟨a, rfl, Or.inl rfl, rfl⟩
  · go_enter Try.func37, Try.ntmps37
    go_wp2
    go_ret
    exact ⟨b, rfl, Or.inr rfl, rfl⟩

theorem sq_small (v : Nat) (h : (v : Int) < 30000) : 0 ≤ (v : Int) * v ∧ (v : Int) * v ≤ 900000000 := by
  refine ⟨Int.mul_nonneg (by omega) (by omega), ?_⟩
  have : (v : Int) * v ≤ 30000 * 30000 := Int.mul_le_mul (by omega) (by omega) (by omega) (by omega)
  omega

set_option maxHeartbeats 1000000 in
theorem DrawRootDown_any (a : Option Addr) (len cap : Nat) (w : World) (hc : CodeIn w w.heap.size a len) :
    Calls Try.prog 13 #[.slice a len cap] w fun e w' => ∃ x : Int, e = .returned (.int .i64 x) ∧ I64 x ∧ Below w.heap.size w w' := by
  have HC : Hid (CodeIn w w.heap.size a len) := hc
  clear hc
  obtain ⟨sb, hsb⟩ : ∃ sb, sb = w.heap.size := ⟨_, rfl⟩
  have HSB : Hid (w.heap.size ≤ sb) := by rw [hsb]; exact Nat.le_refl _
  go_enter Try.func13, Try.ntmps13
  go_wp2_with (first | (go_at_call 28; refine (l1Source_any a len cap _ HC.out).mono ?_; rw [← hsb]; clear hsb; rintro e w' ⟨rfl, hs, hk⟩; have HK : Hid (Keeps sb w w') := hk; have HS : Hid _ := hs; clear hk hs) | (go_at_call 35; refine (l1Next_src sb a len cap _ _ _ HS.out (by omega) (by omega) (by omega)).mono ?_; rintro e w' ⟨v, rfl, hv, hs, hk⟩; have hsq := sq_small v hv; have HK : Hid (Keeps sb w w') := HK.out.trans hk; have HS : Hid _ := hs; clear hk hs) | (go_at_call 37; refine (l1Max_any _ _ _).mono ?_; rintro e w'' ⟨m, rfl, hm, hw⟩; obtain rfl := hw.symm))
  refine (l1Pick_list sb 2 [_, _, _, _, _, _, _] I64 ?hP a len cap _ _ w HK.out HS.out (by omega) (by simp) (by simp)).mono ?_
  case hP => intro y hy; simp at hy; unfold I64; omega
  rintro e w' ⟨x, rfl, hx, hs, hk⟩
  have HK : Hid (Keeps sb w w') := hk
  have HV : Hid (I64 x) := hx
  clear hk hs hx
  go_wp2
  go_ret
  exact ⟨x, rfl, HV.out, HK.out.below HSB.out (Nat.le_refl _)⟩

set_option maxHeartbeats 1000000 in
theorem DrawRoundUp_any (a : Option Addr) (len cap : Nat) (w : World) (hc : CodeIn w w.heap.size a len) :
    Calls Try.prog 16 #[.slice a len cap] w fun e w' => ∃ x y : Int, e = .returned (.tuple #[.int .i64 x, .int .i64 y]) ∧ I64 x ∧ I64 y ∧ Below w.heap.size w w' := by
  have HC : Hid (CodeIn w w.heap.size a len) := hc
  clear hc
  obtain ⟨sb, hsb⟩ : ∃ sb, sb = w.heap.size := ⟨_, rfl⟩
  have HSB : Hid (w.heap.size ≤ sb) := by rw [hsb]; exact Nat.le_refl _
  go_enter Try.func16, Try.ntmps16
  go_wp2_with (first | (go_at_call 28; refine (l1Source_any a len cap _ HC.out).mono ?_; rw [← hsb]; clear hsb; rintro e w' ⟨rfl, hs, hk⟩; have HK : Hid (Keeps sb w w') := hk; have HS : Hid _ := hs; clear hk hs) | (go_at_call 35; refine (l1Next_src sb a len cap _ _ _ HS.out (by omega) (by omega) (by omega)).mono ?_; rintro e w' ⟨v, rfl, hv, hs, hk⟩; have HK : Hid (Keeps sb w w') := HK.out.trans hk; have HS : Hid _ := hs; clear hk hs))
  refine (l1Pick_list sb 2 [_, _, _, _, _, _] I64 ?hP a len cap _ _ w HK.out HS.out (by omega) (by simp) (by simp)).mono ?_
  case hP => intro y hy; simp at hy; unfold I64; omega
  rintro e w' ⟨x, rfl, hx, hs, hk⟩
  have HK : Hid (Keeps sb w w') := hk
  have HS : Hid (Src w' sb a len cap _) := hs
  have HV : Hid (I64 x) := hx
  clear hk hs hx
  go_wp2_with (go_at_call 35; refine (l1Next_src sb a len cap _ _ _ HS.out (by omega) (by omega) (by omega)).mono ?_; rintro e w' ⟨v, rfl, hv, hs, hk⟩; have HK : Hid (Keeps sb w w') := HK.out.trans hk; have HS : Hid _ := hs; clear hk hs)
  refine (l1Pick_list sb 2 [_, _, _, _, _] I64 ?hP2 a len cap _ _ w HK.out HS.out (by omega) (by simp) (by simp)).mono ?_
  case hP2 => intro y hy; simp at hy; unfold I64; omega
  rintro e w' ⟨y, rfl, hy, hs, hk⟩
  have HK : Hid (Keeps sb w w') := hk
  have HW : Hid (I64 y) := hy
  clear hk hs hy
  go_wp2
  go_ret2
  exact ⟨x, y, rfl, HV.out, HW.out, HK.out.below HSB.out (Nat.le_refl _)⟩
end Go.Proofs.Ytdpapffocfogkaa
