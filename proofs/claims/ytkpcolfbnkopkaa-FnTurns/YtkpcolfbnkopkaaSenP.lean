/-
  What the draws of chapter 11 leave: numbers of int64, whatever the bytes are; nothing that was there has turned.
-/
import Derived.Test.YtkpcolfbnkopkaaSrc
import Derived.Test.YtkpcolfbnkopkaaSenA
namespace Go.Proofs.Ytkpcolfbnkopkaa
open Go.RowKit Pl
set_option linter.unusedSimpArgs false
set_option linter.unusedVariables false

def IsI (v : Int) : Prop := -9223372036854775808 ≤ v ∧ v ≤ 9223372036854775807
set_option maxRecDepth 20000 in
set_option maxHeartbeats 8000000 in
theorem l1WideP (sb B : Nat) (a : Option Addr) (len cap t : Nat) (w : World) (h : Src w sb B a len cap t) (ht : t ≤ 999900) :
    Calls Try.prog 39 #[.pointer (some ⟨sb, 0, none⟩)] w fun e w' => ∃ v : Int, e = .returned (.int .i64 v) ∧ IsI v ∧ Src w' sb B a len cap (t + 4) ∧ Keeps sb w w' := by
  have HS : Hid (Src w sb B a len cap t) := h
  have HK : Hid (Keeps sb w w) := Keeps.refl _ _
  clear h
  go_enter Try.func39, Try.ntmps39
  go_wp2_with (go_at_call 37; refine (l1Next_src sb B a len cap _ _ _ HS.out (by omega) (by omega) (by omega)).mono ?_; rintro e w' ⟨v, rfl, hv, hs, hk⟩; have HK : Hid (Keeps sb w w') := HK.out.trans hk; have HS : Hid _ := hs; clear hk hs)
  refine (l1Pick_list sb B 2 [_, _, _, _, _, _, _, _, _, _] IsI ?hP a len cap _ _ w HK.out HS.out (by omega) (by simp) (by simp)).mono ?_
  case hP => intro y hy; simp at hy; unfold IsI at *; omega
  rintro e w' ⟨x, rfl, hvx, hs, hk⟩
  have HK : Hid (Keeps sb w w') := hk
  have HS : Hid (Src w' sb B a len cap _) := hs
  clear hk hs
  have HV : Hid (IsI x) := hvx
  clear hvx
  go_wp2
  go_ret
  exact ⟨x, rfl, HV.out, HS.out, HK.out⟩
set_option maxRecDepth 20000 in
set_option maxHeartbeats 8000000 in
theorem l11CountP (sb B : Nat) (a : Option Addr) (len cap t : Nat) (w : World) (h : Src w sb B a len cap t) (ht : t ≤ 999900) :
    Calls Try.prog 29 #[.pointer (some ⟨sb, 0, none⟩)] w fun e w' => ∃ v : Int, e = .returned (.int .i64 v) ∧ IsI v ∧ Src w' sb B a len cap (t + 3) ∧ Keeps sb w w' := by
  have HS : Hid (Src w sb B a len cap t) := h
  have HK : Hid (Keeps sb w w) := Keeps.refl _ _
  clear h
  go_enter Try.func29, Try.ntmps29
  go_wp2_with (go_at_call 37; refine (l1Next_src sb B a len cap _ _ _ HS.out (by omega) (by omega) (by omega)).mono ?_; rintro e w' ⟨v, rfl, hv, hs, hk⟩; have HK : Hid (Keeps sb w w') := HK.out.trans hk; have HS : Hid _ := hs; clear hk hs)
  refine (l1Pick_list sb B 2 [_, _, _, _, _, _, _, _] IsI ?hP a len cap _ _ w HK.out HS.out (by omega) (by simp) (by simp)).mono ?_
  case hP => intro y hy; simp at hy; unfold IsI at *; omega
  rintro e w' ⟨x, rfl, hvx, hs, hk⟩
  have HK : Hid (Keeps sb w w') := hk
  have HS : Hid (Src w' sb B a len cap _) := hs
  clear hk hs
  have HV : Hid (IsI x) := hvx
  clear hvx
  go_wp2
  go_ret
  exact ⟨x, rfl, HV.out, HS.out, HK.out⟩
set_option maxRecDepth 20000 in
set_option maxHeartbeats 8000000 in
theorem DrawGrayOfP (a : Option Addr) (len cap : Nat) (w : World) (hc : CodeIn w w.heap.size a len) :
    Calls Try.prog 10 #[.slice a len cap] w fun e w' => ∃ x : Int, e = .returned (.int .i64 x) ∧ IsI x ∧ Below w.heap.size w w' := by
  have HC : Hid (CodeIn w w.heap.size a len) := hc
  clear hc
  obtain ⟨B, hB⟩ : ∃ B, B = w.heap.size := ⟨_, rfl⟩
  have HCB : Hid (CodeIn w B a len) := by rw [hB]; exact HC.out
  have HBB : Hid (B = w.heap.size) := hB
  clear hB
  obtain ⟨sb, hsb⟩ : ∃ sb, sb = w.heap.size := ⟨_, rfl⟩
  have HSB : Hid (sb = w.heap.size) := hsb
  clear hsb
  go_enter Try.func10, Try.ntmps10
  go_wp2_with (first | (go_at_call 30; refine (l1Source_any B a len cap _ (by rw [HBB.out]; exact Nat.le_refl _) HCB.out).mono ?_; rw [← HSB.out]; rintro e w' ⟨rfl, hs, hk⟩; have HK : Hid (Keeps sb w w') := hk; have HS : Hid _ := hs; clear hk hs) | (go_at_call 29; refine (l11CountP sb B a len cap _ _ HS.out (by omega)).mono ?_; rintro e w' ⟨x, rfl, hv, hs, hk⟩; have HK : Hid (Keeps sb w w') := HK.out.trans hk; have HS : Hid _ := hs; clear hk hs))
  have HV : Hid (IsI x) := hv
  clear hv
  go_ret
  exact ⟨x, rfl, HV.out, HK.out.below (by rw [HSB.out]; exact Nat.le_refl _) (Nat.le_refl _)⟩
set_option maxRecDepth 20000 in
set_option maxHeartbeats 8000000 in
theorem DrawTurnDeltaP (a : Option Addr) (len cap : Nat) (w : World) (hc : CodeIn w w.heap.size a len) :
    Calls Try.prog 17 #[.slice a len cap] w fun e w' => ∃ x y : Int, e = .returned (.tuple #[.int .i64 x, .int .i64 y]) ∧ Below w.heap.size w w' := by
  have HC : Hid (CodeIn w w.heap.size a len) := hc
  clear hc
  obtain ⟨B, hB⟩ : ∃ B, B = w.heap.size := ⟨_, rfl⟩
  have HCB : Hid (CodeIn w B a len) := by rw [hB]; exact HC.out
  have HBB : Hid (B = w.heap.size) := hB
  clear hB
  obtain ⟨sb, hsb⟩ : ∃ sb, sb = w.heap.size := ⟨_, rfl⟩
  have HSB : Hid (sb = w.heap.size) := hsb
  clear hsb
  go_enter Try.func17, Try.ntmps17
  go_wp2_with (first | (go_at_call 30; refine (l1Source_any B a len cap _ (by rw [HBB.out]; exact Nat.le_refl _) HCB.out).mono ?_; rw [← HSB.out]; rintro e w' ⟨rfl, hs, hk⟩; have HK : Hid (Keeps sb w w') := hk; have HS : Hid _ := hs; clear hk hs) | (go_at_call 29; refine (l11CountP sb B a len cap _ _ HS.out (by omega)).mono ?_; (fail_if_success have := GX); rintro e w' ⟨x, rfl, hv, hs, hk⟩; have HK : Hid (Keeps sb w w') := HK.out.trans hk; have HS : Hid _ := hs; have GX : Hid (IsI x) := hv; clear hk hs hv) | (go_at_call 29; refine (l11CountP sb B a len cap _ _ HS.out (by omega)).mono ?_; rintro e w' ⟨z, rfl, hv, hs, hk⟩; have HK : Hid (Keeps sb w w') := HK.out.trans hk; have HS : Hid _ := hs; clear hk hs) | (go_at_call 37; refine (l1Next_src sb B a len cap _ _ _ HS.out (by omega) (by omega) (by omega)).mono ?_; rintro e w' ⟨v, rfl, hv, hs, hk⟩; have HK : Hid (Keeps sb w w') := HK.out.trans hk; have HS : Hid _ := hs; clear hk hs))
  refine (l1Pick_list sb B 2 [_, _, _] (fun _ => True) ?hP a len cap _ _ w HK.out HS.out (by omega) (by simp) (by simp)).mono ?_
  case hP => intro y hy; trivial
  rintro e w' ⟨y, rfl, hvy, hs, hk⟩
  have HK : Hid (Keeps sb w w') := hk
  have HS : Hid (Src w' sb B a len cap _) := hs
  clear hk hs
  go_wp2
  go_ret2
  exact ⟨x, y, rfl, HK.out.below (by rw [HSB.out]; exact Nat.le_refl _) (Nat.le_refl _)⟩
set_option maxRecDepth 20000 in
set_option maxHeartbeats 8000000 in
theorem DrawVoteThreeP (a : Option Addr) (len cap : Nat) (w : World) (hc : CodeIn w w.heap.size a len) :
    Calls Try.prog 20 #[.slice a len cap] w fun e w' => ∃ x y z m : Int, e = .returned (.tuple #[.int .i64 x, .int .i64 y, .int .i64 z, .int .i64 m]) ∧ IsI x ∧ IsI y ∧ IsI z ∧ Below w.heap.size w w' := by
  have HC : Hid (CodeIn w w.heap.size a len) := hc
  clear hc
  obtain ⟨B, hB⟩ : ∃ B, B = w.heap.size := ⟨_, rfl⟩
  have HCB : Hid (CodeIn w B a len) := by rw [hB]; exact HC.out
  have HBB : Hid (B = w.heap.size) := hB
  clear hB
  obtain ⟨sb, hsb⟩ : ∃ sb, sb = w.heap.size := ⟨_, rfl⟩
  have HSB : Hid (sb = w.heap.size) := hsb
  clear hsb
  go_enter Try.func20, Try.ntmps20
  go_wp2_with (first | (go_at_call 30; refine (l1Source_any B a len cap _ (by rw [HBB.out]; exact Nat.le_refl _) HCB.out).mono ?_; rw [← HSB.out]; rintro e w' ⟨rfl, hs, hk⟩; have HK : Hid (Keeps sb w w') := hk; have HS : Hid _ := hs; clear hk hs) | (go_at_call 37; refine (l1Next_src sb B a len cap _ _ _ HS.out (by omega) (by omega) (by omega)).mono ?_; rintro e w' ⟨v, rfl, hv, hs, hk⟩; have HK : Hid (Keeps sb w w') := HK.out.trans hk; have HS : Hid _ := hs; clear hk hs) | (go_at_call 39; refine (l1WideP sb B a len cap _ _ HS.out (by omega)).mono ?_; rintro e w' ⟨u1, rfl, hv, hs, hk⟩; have HK : Hid (Keeps sb w w') := HK.out.trans hk; have HS : Hid _ := hs; clear hk hs))
  refine (l1Pick_list sb B 2 [_, _, _] IsI ?h1 a len cap _ _ w HK.out HS.out (by omega) (by simp) (by simp)).mono ?_
  case h1 => intro y hy; simp at hy; unfold IsI at *; omega
  rintro e w' ⟨x, rfl, hvx, hs, hk⟩
  have HK : Hid (Keeps sb w w') := hk
  have HS : Hid (Src w' sb B a len cap _) := hs
  clear hk hs
  go_wp2_with (first | (go_at_call 37; refine (l1Next_src sb B a len cap _ _ _ HS.out (by omega) (by omega) (by omega)).mono ?_; rintro e w' ⟨v, rfl, hv, hs, hk⟩; have HK : Hid (Keeps sb w w') := HK.out.trans hk; have HS : Hid _ := hs; clear hk hs) | (go_at_call 39; refine (l1WideP sb B a len cap _ _ HS.out (by omega)).mono ?_; rintro e w' ⟨u2, rfl, hv, hs, hk⟩; have HK : Hid (Keeps sb w w') := HK.out.trans hk; have HS : Hid _ := hs; clear hk hs))
  refine (l1Pick_list sb B 2 [_, _, _, _] IsI ?h2 a len cap _ _ w HK.out HS.out (by omega) (by simp) (by simp)).mono ?_
  case h2 => intro y hy; simp at hy; unfold IsI at *; omega
  rintro e w' ⟨y, rfl, hvy, hs, hk⟩
  have HK : Hid (Keeps sb w w') := hk
  have HS : Hid (Src w' sb B a len cap _) := hs
  clear hk hs
  go_wp2_with (first | (go_at_call 37; refine (l1Next_src sb B a len cap _ _ _ HS.out (by omega) (by omega) (by omega)).mono ?_; rintro e w' ⟨v, rfl, hv, hs, hk⟩; have HK : Hid (Keeps sb w w') := HK.out.trans hk; have HS : Hid _ := hs; clear hk hs) | (go_at_call 39; refine (l1WideP sb B a len cap _ _ HS.out (by omega)).mono ?_; rintro e w' ⟨u3, rfl, hv, hs, hk⟩; have HK : Hid (Keeps sb w w') := HK.out.trans hk; have HS : Hid _ := hs; clear hk hs))
  refine (l1Pick_list sb B 2 [_, _, _] IsI ?h3 a len cap _ _ w HK.out HS.out (by omega) (by simp) (by simp)).mono ?_
  case h3 => intro y hy; simp at hy; unfold IsI at *; omega
  rintro e w' ⟨z, rfl, hvz, hs, hk⟩
  have HK : Hid (Keeps sb w w') := hk
  have HS : Hid (Src w' sb B a len cap _) := hs
  clear hk hs
  go_wp2_with (go_at_call 37; refine (l1Next_src sb B a len cap _ _ _ HS.out (by omega) (by omega) (by omega)).mono ?_; rintro e w' ⟨v, rfl, hv, hs, hk⟩; have HK : Hid (Keeps sb w w') := HK.out.trans hk; have HS : Hid _ := hs; clear hk hs)
  refine (l1Pick_list sb B 2 [_, _, _, _, _] (fun _ => True) ?h4 a len cap _ _ w HK.out HS.out (by omega) (by simp) (by simp)).mono ?_
  case h4 => intro y hy; trivial
  rintro e w' ⟨m, rfl, hvm, hs, hk⟩
  have HK : Hid (Keeps sb w w') := hk
  have HS : Hid (Src w' sb B a len cap _) := hs
  clear hk hs
  have X : Hid (IsI x) := hvx
  have Y : Hid (IsI y) := hvy
  have Z : Hid (IsI z) := hvz
  clear hvx hvy hvz
  go_wp2
  exact bodyPost_ret (v := .tuple #[.int .i64 x, .int .i64 y, .int .i64 z, .int .i64 m]) (by simp [results, Try.results20, go_sem]) rfl ⟨x, y, z, m, rfl, X.out, Y.out, Z.out, HK.out.below (by rw [HSB.out]; exact Nat.le_refl _) (Nat.le_refl _)⟩
set_option maxRecDepth 20000 in
set_option maxHeartbeats 8000000 in
theorem DrawPackReadingP (a : Option Addr) (len cap : Nat) (w : World) (hc : CodeIn w w.heap.size a len) :
    Calls Try.prog 23 #[.slice a len cap] w fun e w' => ∃ p v : Int, e = .returned (.agg #[.int .i64 p, .int .i64 v]) ∧ Below w.heap.size w w' := by
  have HC : Hid (CodeIn w w.heap.size a len) := hc
  clear hc
  have F : Hid (Blk (w.alloc (.cells #[.int .i64 0, .int .i64 0] 39)) w.heap.size [.int .i64 0, .int .i64 0]) := Blk.at_ w _ _ _ rfl
  have FB : Hid (Below w.heap.size w (w.alloc (.cells #[.int .i64 0, .int .i64 0] 39))) := (Below.refl _ _).alloc (Nat.le_refl _) _
  obtain ⟨sb, hsb⟩ : ∃ sb, sb = w.heap.size + 1 := ⟨_, rfl⟩
  have HSZ : Hid ((w.alloc (.cells #[.int .i64 0, .int .i64 0] 39)).heap.size = sb) := by show _ = sb; rw [hsb]; simp
  have HSB : Hid (sb = w.heap.size + 1) := hsb
  clear hsb
  go_enter Try.func23, Try.ntmps23
  go_wp2_with (first | (go_at_call 30; refine (l1Source_any w.heap.size a len cap _ (by simp) (HC.out.keep fun b off _ hb => World.cell?_alloc_past _ _ _ hb)).mono ?_; rw [HSZ.out]; rintro e w1 ⟨rfl, hs, hk⟩; have F : Hid (Blk w1 w.heap.size [.int .i64 0, .int .i64 0]) := F.out.of (hk.block _ F.out.lt (by have := HSB.out; omega)); have FB : Hid (Below w.heap.size w w1) := FB.out.trans (hk.below (by have := HSB.out; omega) (by simp)); have HK : Hid (Keeps sb w1 w1) := Keeps.refl _ _; have HS : Hid _ := hs; clear hk hs) | (go_at_call 37; refine (l1Next_src sb w.heap.size a len cap _ _ _ HS.out (by omega) (by omega) (by omega)).mono ?_; rintro e w' ⟨v, rfl, hv, hs, hk⟩; have HK : Hid (Keeps sb w1 w') := HK.out.trans hk; have HS : Hid _ := hs; clear hk hs))
  refine (l1Pick_list sb w.heap.size 2 [_, _, _, _, _, _] (fun _ => True) ?h1 a len cap _ _ w1 HK.out HS.out (by omega) (by simp) (by simp)).mono ?_
  case h1 => intro y hy; trivial
  rintro e w' ⟨p, rfl, hvp, hs, hk⟩
  have HK : Hid (Keeps sb w1 w') := hk
  have HS : Hid (Src w' sb w.heap.size a len cap _) := hs
  clear hk hs
  go_wp2_with (go_at_call 37; refine (l1Next_src sb w.heap.size a len cap _ _ _ HS.out (by omega) (by omega) (by omega)).mono ?_; rintro e w' ⟨v, rfl, hv, hs, hk⟩; have HK : Hid (Keeps sb w1 w') := HK.out.trans hk; have HS : Hid _ := hs; clear hk hs)
  refine (l1Pick_list sb w.heap.size 2 [_, _, _, _, _, _, _] (fun _ => True) ?h2 a len cap _ _ w1 HK.out HS.out (by omega) (by simp) (by simp)).mono ?_
  case h2 => intro y hy; trivial
  rintro e w' ⟨v', rfl, hvq, hs, hk⟩
  have HK : Hid (Keeps sb w1 w') := hk
  have HS : Hid (Src w' sb w.heap.size a len cap _) := hs
  clear hk hs
  have F : Hid (Blk w' w.heap.size [.int .i64 0, .int .i64 0]) := F.out.of (HK.out.block _ F.out.lt (by have := HSB.out; omega))
  have FB : Hid (Below w.heap.size w w') := FB.out.trans (HK.out.below (by have := HSB.out; omega) FB.out.size)
  go_wp2_with (refine store_blk [.int .i64 p, .int .i64 v'] 39 _ _ (by kernel_rfl) (by kernel_rfl) (by kernel_rfl) F.out rfl rfl rfl rfl ?_)
  exact bodyPost_ret (v := .agg #[.int .i64 p, .int .i64 v']) ((F.out.row [.int .i64 p, .int .i64 v']).res _ Try.results23 Try.underlying39 (by kernel_rfl) rfl) rfl ⟨p, v', rfl, below_row FB.out (Nat.le_refl _) _⟩
end Go.Proofs.Ytkpcolfbnkopkaa
