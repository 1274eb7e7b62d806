/-
  The program's texts: a number, a line.
-/
import Derived.Test.YtnfdplfifpmhoaaGreatDoorFmtA
import Derived.Test.YtnfdplfifpmhoaaGreatDoorShf
import Derived.Lib.AppendIntMem
import Derived.Laws.Concat
import Derived.BigGuardPart
namespace Go.Proofs.YtnfdplfifpmhoaaGreatDoor
open Go.RowKit Pl
set_option linter.unusedSimpArgs false
set_option linter.unusedVariables false

/-- The library's table of powers of ten reads as it is laid. -/
def Tb (w : World) : Prop := Lib.TabBelow Tryz.prog w.heap.size w "internal/strconv.uint64pow10" .u64 Lib.pow10Tab
theorem Tb.below {W w : World} {B : Nat} (h : Tb W) (hb : Below B W w) (hB : W.heap.size ≤ B) : Tb w := fun w' h' => h w' ((hb.mono hB).trans (h'.mono hb.size))
theorem fmtInt_any (n : Int) (hn : i64N n) (w : World) (hT : Tb w) : Calls Tryz.prog 42 #[.int .i64 n, .int .i64 10] w fun e w' => e = .returned (.string (itB n)) ∧ Below w.heap.size w w' := by
  refine Calls.mono (Any.strconv_FormatInt_10 Shf.fmt n hn.1 hn.2 w (Lib.TabBelow.here hT)) ?_
  rintro e w' ⟨he, k, os, rfl⟩
  exact ⟨he, Lib.below_grow _ w (Nat.le_refl _) k os⟩
set_option maxRecDepth 20000 in
set_option maxHeartbeats 16000000 in
theorem phrase_any (s : ByteArray) (l : List Int) (g cap : Nat) (hl : l.length ≤ 200) (hs : s.size ≤ 100000) (hi : ∀ n ∈ l, i64N n) (w : World) (hN : NIn w g l) (hT : Tb w) :
    Calls Tryz.prog 22 #[.string s, .slice (some ⟨g, 0, none⟩) l.length cap] w fun e w' => e = .returned (.string (phr s l)) ∧ Below w.heap.size w w' := by
  have HN : Hid (NIn w g l) := hN
  have HT : Hid (Tb w) := hT
  clear hN hT
  go_enter Tryz.func22, Tryz.ntmps22
  go_wp2_with fail
  go_loopw [0, 9] (fun ss ii wr => ∃ (i : Nat) (u : ByteArray), ii = .int .i64 (i : Int) ∧ ss = .string u ∧ u = phr s (l.take i) ∧ i ≤ l.length ∧ Below w.heap.size w wr) (fun _ ii _ => l.length - (intOf ii).toNat)
  case atStart => exact ⟨0, s, rfl, rfl, rfl, by omega, Below.refl _ _⟩
  case round =>
    obtain ⟨i, u, rfl, rfl, hu, hin, hB⟩ := hrel
    have FB : Hid (Below w.heap.size w wr) := hB
    have us := phr_take hi s i
    rw [← hu] at us
    have HU : Hid (u = phr s (l.take i)) := hu
    clear hu hB
    by_cases hlt : i < l.length
    · obtain ⟨n, hn⟩ : ∃ n, l[i]? = some n := ⟨_, List.getElem?_eq_getElem hlt⟩
      have nb := hi n (List.mem_of_getElem? hn)
      have ns := itB_size nb
      have NW : NIn wr g l := HN.out.below FB.out HN.out.1
      have c0 := NW.2 i n hn
      have HU2 : Hid (phr s (l.take (i + 1)) = u ++ ((⟨#[32]⟩ : ByteArray) ++ itB n)) := by rw [phr_snoc hn, HU.out]; exact rfl
      obtain ⟨bn, hbn⟩ : ∃ bn, itB n = bn := ⟨_, rfl⟩
      rw [hbn] at ns HU2
      have HBN : Hid (itB n = bn) := hbn
      have s1 : ¬ (9223372036854775807 < 1 + bn.size) := by omega
      have s3 : ¬ (9223372036854775807 < u.size + (1 + bn.size)) := by omega
      clear hn hbn HN HU us ns NW
      go_wp2_with (go_at_call 42; refine (fmtInt_any n nb _ (HT.out.below FB.out (Nat.le_refl _))).mono ?_; rw [HBN.out]; rintro e w1 ⟨rfl, hb⟩; have FB : Hid (Below w.heap.size w w1) := FB.out.trans (hb.mono FB.out.size); clear hb)
      go_roundw
      case rel => exact ⟨i + 1, _, by simp, rfl, by rw [HU2.out], by omega, FB.out⟩
      case measure => simp [intOf]; omega
    · have ei : i = l.length := by omega
      have hge : (l.length : Int) ≤ (i : Int) := by omega
      have HU3 : Hid (u = phr s l) := by have := HU.out; rw [ei, List.take_length] at this; exact this
      clear ei HU
      go_wp2_with fail
      go_ret
      exact ⟨ret_str HU3.out, FB.out⟩
set_option maxRecDepth 20000 in
set_option maxHeartbeats 16000000 in
theorem lineOf_any (s : ByteArray) (l : List Int) (g cap : Nat) (hl : l.length ≤ 200) (hs : s.size ≤ 100000) (hi : ∀ n ∈ l, i64N n) (w : World) (hN : NIn w g l) (hT : Tb w) :
    Calls Tryz.prog 19 #[.string s, .slice (some ⟨g, 0, none⟩) l.length cap] w fun e w' => e = .returned (.string (phr s l ++ ⟨#[10]⟩)) ∧ Below w.heap.size w w' := by
  have ps := phr_size l hi s
  have s1 : ¬ (9223372036854775807 < (phr s l).size + 1) := by omega
  have HN : Hid (NIn w g l) := hN
  clear hN
  go_enter Tryz.func19, Tryz.ntmps19
  go_wp2_with (go_at_call 22; refine (phrase_any s l g cap hl hs hi _ HN.out hT).mono ?_; rintro e w1 ⟨rfl, hb⟩)
  go_ret
  exact ⟨rfl, hb⟩
end Go.Proofs.YtnfdplfifpmhoaaGreatDoor
