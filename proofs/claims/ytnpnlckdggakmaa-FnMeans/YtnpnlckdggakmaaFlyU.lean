/-
  Sums over a type of their own.
-/
import Derived.Test.YtnpnlckdggakmaaFlyR
import Derived.Test.YtnpnlckdggakmaaIntA
import Derived.Test.YtnpnlckdggakmaaFnd
import Derived.Deep.DeepCutAuto
namespace Go.Proofs.Ytnpnlckdggakmaa
open Go.RowKit Pl
set_option linter.unusedSimpArgs false
set_option linter.unusedVariables false

set_option maxRecDepth 20000 in
set_option maxHeartbeats 16000000 in
theorem with_any (c s : Int) (l : List Int) (a : Option Addr) (cap : Nat) (c1 : 0 ≤ c) (c2 : c ≤ 1000) (s1 : 0 ≤ s) (s2 : s ≤ 100000000000000000) (hl : l.length ≤ 60) (hx : ∀ x ∈ l, 0 ≤ x ∧ x ≤ 1000000000000000) (w : World) (hI : IIn w a l) :
    Calls Try.prog 68 #[.agg #[.int .i64 c, .int .i64 s], .slice a l.length cap] w (isAns w (c + (l.length : Int)) (s + sumF l l.length)) := by
  have HI : Hid (IIn w a l) := hI
  have HX : Hid (∀ x ∈ l, 0 ≤ x ∧ x ≤ 1000000000000000) := hx
  have HS : Hid (∀ k : Nat, 0 ≤ sumF l k ∧ sumF l k ≤ 1000000000000000 * (k : Int)) := sumF_bd (by omega) hx
  clear hI hx
  obtain ⟨b0, hb0⟩ : ∃ b0, b0 = w.heap.size := ⟨_, rfl⟩
  obtain ⟨b1, hb1⟩ : ∃ b1, b1 = b0 + 1 := ⟨_, rfl⟩
  obtain ⟨W0, hW0⟩ : ∃ W0, W0 = (w.alloc (.cells #[.int .i64 c, .int .i64 s] 74)).alloc (.cells #[.int .i64 0, .int .i64 0] 74) := ⟨_, rfl⟩
  have F0 : Hid (Blk W0 b0 [.int .i64 c, .int .i64 s]) := by rw [hW0]; exact ((Blk.at_ _ #[.int .i64 c, .int .i64 s] _ _ hb0).alloc _)
  have F1 : Hid (Blk W0 b1 [.int .i64 0, .int .i64 0]) := by rw [hW0]; exact (Blk.at_ _ #[.int .i64 0, .int .i64 0] _ _ (by simp; omega))
  have FB : Hid (Below w.heap.size w W0) := by rw [hW0]; exact (((Below.refl _ _).alloc (Nat.le_refl _) _).alloc (by simp) _)
  have leb0 : w.heap.size ≤ b0 := by omega
  have leb1 : w.heap.size ≤ b1 := by omega
  have l01 : b0 < b1 := by omega
  go_enter Try.func68, Try.ntmps68
  go_upto_region 1 with fail
  rw [← hb0, ← hb1, ← hW0]
  clear hb0 hb1 hW0
  go_wp2_with fail
  go_loopw [9] (fun ii wr => ∃ (i : Nat), ii = .int .i64 (i : Int) ∧ i ≤ l.length ∧ Blk wr b0 [.int .i64 (c + (i : Int)), .int .i64 (s + sumF l i)] ∧ Blk wr b1 [.int .i64 0, .int .i64 0] ∧ Below w.heap.size w wr) (fun ii _ => l.length - (intOf ii).toNat)
  case atStart => exact ⟨0, rfl, by omega, by have z := F0.out; simpa [sumF] using z, F1.out, FB.out⟩
  case round =>
    obtain ⟨i, rfl, hi, h_F0, h_F1, hB⟩ := hrel
    clear F0 F1 FB
    have F0 : Hid (Blk wr b0 [.int .i64 (c + (i : Int)), .int .i64 (s + sumF l i)]) := h_F0
    have F1 : Hid (Blk wr b1 [.int .i64 0, .int .i64 0]) := h_F1
    have FB : Hid (Below w.heap.size w wr) := hB
    clear h_F0 h_F1 hB
    by_cases hlt : i < l.length
    · have hlt' : decide ((i : Int) < (l.length : Int)) = true := decide_eq_true (by omega)
      obtain ⟨x, hx⟩ : ∃ x, l[i]? = some x := ⟨_, List.getElem?_eq_getElem hlt⟩
      have bx := HX.out x (List.mem_of_getElem? hx)
      have bs := HS.out i
      have HE : Hid (sumF l (i + 1) = sumF l i + x) := by show _ = _; rw [sumF, lg_of hx]
      rcases HI.out with h0 | ⟨g, rfl, hg, hcl⟩
      · rw [h0] at hlt; simp at hlt
      have cx := (FB.out.cell (p := ⟨g, i, none⟩) hg).trans (hcl i x hx)
      clear hx hcl
      obtain ⟨S, hS⟩ : ∃ S, sumF l i = S := ⟨_, rfl⟩
      rw [hS] at bs HE F0
      clear hS
      have ew1 : IntKind.i64.wrap (c + (i : Int) + 1) = c + (i : Int) + 1 := IntWalk.i64_in _ (by omega)
      have ew2 : IntKind.i64.wrap (s + S + x) = s + S + x := IntWalk.i64_in _ (by omega)
      have y0 := F0.out.c 0 _ rfl
      have y1 := F0.out.c 1 _ rfl
      have yf0 := F0.out.f 0 (Nat.le_of_ble_eq_true rfl)
      have yf1 := F0.out.f 1 (Nat.le_of_ble_eq_true rfl)
      go_wp2_with fail
      go_roundw
      case rel => exact ⟨i + 1, by simp, by omega, by have z := (F0.out.set (k := 0) (.int .i64 (c + (i : Int) + 1)) (by simp)).set (k := 1) (.int .i64 (s + S + x)) (by simp); rw [HE.out, ← Int.add_assoc, show c + ((i + 1 : Nat) : Int) = c + (i : Int) + 1 by omega]; simpa using z, (F1.out.other (by omega)).other (by omega), (FB.out.setCell (by omega) _).setCell (by omega) _⟩
      case measure => simp [intOf]; omega
    · have hlt' : decide ((i : Int) < (l.length : Int)) = false := decide_eq_false (by omega)
      have e : i = l.length := by omega
      subst e
      go_wp2_with (first | (refine load_blk 74 _ Try.underlying74 (by kernel_rfl) F0.out rfl rfl rfl ?_) | (refine store_blk [.int .i64 (c + (l.length : Int)), .int .i64 (s + sumF l l.length)] 74 _ _ (by kernel_rfl) (by kernel_rfl) (by kernel_rfl) F1.out rfl rfl rfl rfl ?_))
      exact bodyPost_ret (v := .agg #[.int .i64 (c + (l.length : Int)), .int .i64 (s + sumF l l.length)]) ((F1.out.row [.int .i64 (c + (l.length : Int)), .int .i64 (s + sumF l l.length)]).res _ Try.results68 Try.underlying74 (by kernel_rfl) rfl) rfl ⟨rfl, below_row FB.out leb1 _⟩
set_option maxRecDepth 20000 in
set_option maxHeartbeats 16000000 in
theorem tallyOf_any (l : List Int) (a : Option Addr) (cap : Nat) (hl : l.length ≤ 60) (hx : ∀ x ∈ l, 0 ≤ x ∧ x ≤ 1000000000000000) (w : World) (hI : IIn w a l) :
    Calls Try.prog 52 #[.slice a l.length cap] w (isAns w (l.length : Int) (sumF l l.length)) := by
  have HI : Hid (IIn w a l) := hI
  have CW : ∀ W, IIn W a l → Calls Try.prog 68 #[.agg #[.int .i64 0, .int .i64 0], .slice a l.length cap] W (isAns W (l.length : Int) (sumF l l.length)) := fun W hW => by have z := with_any 0 0 l a cap (by omega) (by omega) (by omega) (by omega) hl hx W hW; rw [Int.zero_add, Int.zero_add] at z; exact z
  clear hI hx
  obtain ⟨b1, hb1⟩ : ∃ b1, b1 = w.heap.size := ⟨_, rfl⟩
  obtain ⟨W0, hW0⟩ : ∃ W0, W0 = w.alloc (.cells #[.int .i64 0, .int .i64 0] 74) := ⟨_, rfl⟩
  have F1 : Hid (Blk W0 b1 [.int .i64 0, .int .i64 0]) := by rw [hW0]; exact (Blk.at_ _ #[.int .i64 0, .int .i64 0] _ _ hb1)
  have FB : Hid (Below w.heap.size w W0) := by rw [hW0]; exact ((Below.refl _ _).alloc (Nat.le_refl _) _)
  have leb1 : w.heap.size ≤ b1 := by omega
  go_enter Try.func52, Try.ntmps52
  go_upto_region 1 with fail
  rw [← hb1, ← hW0]
  clear hb1 hW0
  go_wp2_with (first | (go_at_call 68; refine (CW _ (HI.out.below FB.out)).mono ?_; rintro e w2 ⟨rfl, hb⟩; have F1 : Hid (Blk w2 b1 [.int .i64 0, .int .i64 0]) := F1.out.below hb F1.out.lt; have FB : Hid (Below w.heap.size w w2) := FB.out.trans (hb.mono FB.out.size); clear hb) | (refine store_blk [.int .i64 ((l.length : Int)), .int .i64 (sumF l l.length)] 74 _ _ (by kernel_rfl) (by kernel_rfl) (by kernel_rfl) F1.out rfl rfl rfl rfl ?_))
  exact bodyPost_ret (v := .agg #[.int .i64 ((l.length : Int)), .int .i64 (sumF l l.length)]) ((F1.out.row [.int .i64 ((l.length : Int)), .int .i64 (sumF l l.length)]).res _ Try.results52 Try.underlying74 (by kernel_rfl) rfl) rfl ⟨rfl, below_row FB.out leb1 _⟩
end Go.Proofs.Ytnpnlckdggakmaa
