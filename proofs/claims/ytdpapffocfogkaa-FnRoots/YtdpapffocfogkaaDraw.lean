/-
  What the draws of chapter 1 leave: two numbers of int64, whatever the bytes are; nothing that was there has turned.
-/
import Derived.Test.YtdpapffocfogkaaSrc
namespace Go.Proofs.Ytdpapffocfogkaa
open Go.RowKit Pl

/-- A number of int64. -/
def I64 (v : Int) : Prop := -9223372036854775808 ≤ v ∧ v ≤ 9223372036854775807

set_option maxHeartbeats 1000000 in
theorem l1Wide_src (sb : Nat) (a : Option Addr) (len cap t : Nat) (w : World) (h : Src w sb a len cap t) (ht : t ≤ 999990) :
    Calls Try.prog 29 #[.pointer (some ⟨sb, 0, none⟩)] w fun e w' => ∃ v : Int, e = .returned (.int .i64 v) ∧ I64 v ∧ Src w' sb a len cap (t + 1 + 1 + 1 + 1) ∧ Keeps sb w w' := by
  have HS : Hid (Src w sb a len cap t) := h
  have HK : Hid (Keeps sb w w) := Keeps.refl _ _
  clear h
  go_enter Try.func29, Try.ntmps29
  go_wp2_with (first | (go_at_call 35; refine (l1Next_src sb a len cap _ _ _ HS.out (by omega) (by omega) (by omega)).mono ?_; rintro e w' ⟨v, rfl, hv, hs, hk⟩; have HK : Hid (Keeps sb w w') := HK.out.trans hk; have HS : Hid _ := hs; clear hk hs))
  refine (l1Pick_list sb 2 [_, _, _, _, _, _, _, _, _, _] I64 ?hP a len cap _ _ w HK.out HS.out (by omega) (by simp) (by simp)).mono ?_
  case hP => intro y hy; simp at hy; unfold I64; omega
  rintro e w' ⟨v, rfl, hv, hs, hk⟩
  have HK : Hid (Keeps sb w w') := hk
  have HS : Hid (Src w' sb a len cap (t + 1 + 1 + 1 + 1)) := hs
  have HV : Hid (I64 v) := hv
  clear hk hs hv
  go_wp2
  go_ret
  exact ⟨v, rfl, HV.out, HS.out, HK.out⟩

theorem DrawAddTop_any (a : Option Addr) (len cap : Nat) (w : World) (hc : CodeIn w w.heap.size a len) :
    Calls Try.prog 8 #[.slice a len cap] w fun e w' => ∃ x y : Int, e = .returned (.tuple #[.int .i64 x, .int .i64 y]) ∧ I64 x ∧ I64 y ∧ Below w.heap.size w w' := by
  have HC : Hid (CodeIn w w.heap.size a len) := hc
  clear hc
  go_enter Try.func8, Try.ntmps8
  go_wp2_with (first | (go_at_call 28; refine (l1Source_any a len cap _ HC.out).mono ?_; rintro e w' ⟨rfl, hs, hk⟩; have HK : Hid (Keeps w.heap.size w w') := hk; have HS : Hid _ := hs; clear hk hs) | (go_at_call 29; refine (l1Wide_src w.heap.size a len cap _ _ HS.out (by omega)).mono ?_; rintro e w' ⟨v, rfl, hv, hs, hk⟩; have HV : Hid (I64 v) := hv; have HK : Hid (Keeps w.heap.size w w') := HK.out.trans hk; have HS : Hid _ := hs; clear hv hk hs))
  go_ret2
  exact ⟨_, _, rfl, by assumption, by assumption, HK.out.below (Nat.le_refl _) (Nat.le_refl _)⟩
theorem DrawMulTop_any (a : Option Addr) (len cap : Nat) (w : World) (hc : CodeIn w w.heap.size a len) :
    Calls Try.prog 9 #[.slice a len cap] w fun e w' => ∃ x y : Int, e = .returned (.tuple #[.int .i64 x, .int .i64 y]) ∧ I64 x ∧ I64 y ∧ Below w.heap.size w w' := by
  have HC : Hid (CodeIn w w.heap.size a len) := hc
  clear hc
  go_enter Try.func9, Try.ntmps9
  go_wp2_with (first | (go_at_call 28; refine (l1Source_any a len cap _ HC.out).mono ?_; rintro e w' ⟨rfl, hs, hk⟩; have HK : Hid (Keeps w.heap.size w w') := hk; have HS : Hid _ := hs; clear hk hs) | (go_at_call 29; refine (l1Wide_src w.heap.size a len cap _ _ HS.out (by omega)).mono ?_; rintro e w' ⟨v, rfl, hv, hs, hk⟩; have HV : Hid (I64 v) := hv; have HK : Hid (Keeps w.heap.size w w') := HK.out.trans hk; have HS : Hid _ := hs; clear hv hk hs))
  go_ret2
  exact ⟨_, _, rfl, by assumption, by assumption, HK.out.below (Nat.le_refl _) (Nat.le_refl _)⟩
end Go.Proofs.Ytdpapffocfogkaa
