/-
  SpeedFor, the program's and the model's: both answer the greatest speed from which the path is still enough to stop.
-/
import Derived.Test.YtgdhbkgpjeedhaaFnd
import Derived.Test.YtgdhbkgpjeedhaaHalve
import Derived.Deep.QuietTactic
import Derived.BigQuiet
import Derived.Deep.Draws
namespace Go.Proofs.Ytgdhbkgpjeedhaa
open Go.RowKit Pl

/-- May this speed still be stopped on the path? -/
def spB (path b s : Int) : Bool := decide (s + stopP s b ≤ path)
theorem spB_falls (path b : Int) (hb : 1 ≤ b) (top : Int) : Falls (spB path b) top := by
  intro x y h0 h1 _ h3
  unfold spB at *
  have h3 : y + stopP y b ≤ path := of_decide_eq_true h3
  have := stop_le x y b h0 h1 hb
  exact decide_eq_true (by omega)
theorem stopP_bd (s b : Int) (h0 : 0 ≤ s) (h1 : s ≤ 2000) (hb : 1 ≤ b) : -4002000 ≤ stopP s b ∧ stopP s b ≤ 4000000 := by
  obtain ⟨b1, b2, b3, b4, b5, b6, b7⟩ := stop_bds s b _ h0 h1 hb rfl
  unfold stopP; omega

theorem speedFits_any (path b m : Int) (a a' : Addr) (h0 : 0 ≤ m) (h1 : m ≤ 2000) (hb : 1 ≤ b) (hb2 : b ≤ 2000) (w : World) (hc : w.cell? a = some (.int .i64 b)) (hc' : w.cell? a' = some (.int .i64 path)) :
    Calls Try.prog 75 #[.int .i64 m, .pointer (some a), .pointer (some a')] w fun e w' => e = .returned (.bool (spB path b m)) ∧ ∃ k, w' = w.drewN k := by
  have hp := stopP_bd m b h0 h1 hb
  go_enter Try.func75, Try.ntmps75
  go_wp2_with fail
  go_quiet ((go_at_call 71; exact Calls.quiet_of_same (pathToStop_any _ _ h0 h1 hb hb2 _)))
  go_wp2
  go_ret
  exact ⟨rfl, _, rfl⟩

theorem greatestFit_speed (path b : Int) (hb : 1 ≤ b) (hb2 : b ≤ 2000) (a a' : Addr) (w : World) (hc : w.cell? a = some (.int .i64 b)) (hc' : w.cell? a' = some (.int .i64 path)) :
    Calls Try.prog 74 #[.int .i64 2000, .func (.func 75) #[] #[.pointer (some a), .pointer (some a')]] w fun e w' => ∃ r, e = .returned (.int .i64 r) ∧ Best (spB path b) 2000 r ∧ ∃ k, w' = w.drewN k := by
  go_enter Try.func74, Try.ntmps74
  go_wp2
  go_loopw [5, 6] (fun l h wr => ∃ (lo hi : Int) (k : Nat), l = .int .i64 lo ∧ h = .int .i64 hi ∧ wr = w.drewN k ∧ Within (spB path b) 2000 lo hi) (fun l h _ => (intOf h - intOf l).toNat)
  case atStart => exact ⟨0, 2000, 0, rfl, rfl, rfl, Within.start _ (by omega)⟩
  case round =>
    obtain ⟨lo, hi, k, rfl, rfl, rfl, hin⟩ := hrel
    have h1 : 0 ≤ lo := hin.1
    have h2 : hi ≤ 2000 := hin.2.2.1
    by_cases hlt : lo < hi
    · have HF : Hid (Falls (spB path b) 2000) := spB_falls path b hb _
      cases hf : spB path b (hi - (hi - lo) / 2) with
      | true =>
        go_wp2_with (go_at_call 75; refine (speedFits_any path b _ a a' (by omega) (by omega) hb hb2 _ (by simpa using hc) (by simpa using hc')).mono ?_; rintro e w' ⟨rfl, j, rfl⟩)
        go_roundw
        case rel => exact ⟨_, hi, _, rfl, rfl, rfl, hin.yes (by omega) (by omega) hf⟩
        case measure => simp [intOf]; omega
      | false =>
        go_wp2_with (go_at_call 75; refine (speedFits_any path b _ a a' (by omega) (by omega) hb hb2 _ (by simpa using hc) (by simpa using hc')).mono ?_; rintro e w' ⟨rfl, j, rfl⟩)
        go_roundw
        case rel => exact ⟨lo, _, _, rfl, rfl, rfl, Within.no HF.out hin (by omega) (by omega) hf⟩
        case measure => simp [intOf]; omega
    · go_wp2
      go_ret
      exact ⟨lo, rfl, hin.done (by omega), k, rfl⟩

theorem grown_trans {a b c : World} (h : Grown a b) (g : Grown b c) : Grown a c :=
  ⟨World.keptBut_trans h.1 g.1, fun x => (g.2.1 x).trans (h.2.1 x), Nat.le_trans h.2.2 g.2.2⟩
theorem grown_drewN {W w : World} {k : Nat} (h : Grown W w) : Grown W (w.drewN k) := h
/-- The world that the program's SpeedFor leaves: its two arguments' blocks and its result's. -/
abbrev speedW (w : World) (p b c v : Int) : World := ((w.alloc (.cells #[.int .i64 p] 2)).alloc (.cells #[.int .i64 b] 2)).alloc (.cells #[.int .i64 c, .int .i64 v] 31)
theorem box_fst (w : World) (x y z t : Value) (T T' : TypeId) : (((w.alloc (.cells #[x] T)).alloc (.cells #[y] T)).alloc (.cells #[z, t] T')).cell? ⟨w.heap.size, 0, none⟩ = some x := by
  rw [World.cell?_alloc_past _ _ _ (by simp; omega), World.cell?_alloc_past _ _ _ (by simp)]; simp
theorem box_snd (w : World) (x y z t : Value) (T T' : TypeId) : (((w.alloc (.cells #[x] T)).alloc (.cells #[y] T)).alloc (.cells #[z, t] T')).cell? ⟨w.heap.size + 1, 0, none⟩ = some y := by
  rw [World.cell?_alloc_past _ _ _ (by simp), World.cell?_alloc_at _ _ _ _ (by simp)]; simp

theorem implSpeedFor_in (p b : Int) (h1 : 0 ≤ p) (h2 : p ≤ 1000000000000000) (h3 : 1 ≤ b) (h4 : b ≤ 2000) (w : World) :
    Calls Try.prog 68 #[.int .i64 p, .int .i64 b] w fun e w' => ∃ r, Best (spB p b) 2000 r ∧ e = .returned (.agg #[.int .i64 0, .int .i64 r]) ∧ Grown w w' ∧ Below w.heap.size w w' := by
  have i1 : inB p 0 1000000000000000 = true := inB_yes h1 h2
  have i2 : inB b 1 2000 = true := inB_yes h3 h4
  go_enter Try.func68, Try.ntmps68
  go_wp2_with (first | (go_at_call 28; refine (isWithin_any _ _ _ _).mono ?_; rintro e w' ⟨rfl, rfl⟩) | (go_at_call 74; refine (greatestFit_speed p b h3 h4 _ _ _ (box_snd _ _ _ _ _ _ _) (box_fst _ _ _ _ _ _ _)).mono ?_; rintro e w' ⟨r, rfl, hb, k, rfl⟩))
  exact bodyPost_ret (v := .agg #[.int .i64 0, .int .i64 r]) (by simp [results, Try.results68, go_sem]) rfl ⟨r, hb, rfl, ((grown_drewN ((((Grown.refl _).alloc _ _).alloc _ _).alloc _ _)).setCell (by simp; omega) _).setCell (by simp; omega) _, ((below_drewN ((((Below.refl _ _).alloc (Nat.le_refl _) _).alloc (by simp) _).alloc (by simp; omega) _) k).setCell (by simp; omega) _).setCell (by simp; omega) _⟩
theorem implSpeedFor_out (p b : Int) (h : ¬ (0 ≤ p ∧ p ≤ 1000000000000000 ∧ 1 ≤ b ∧ b ≤ 2000)) (w : World) :
    Calls Try.prog 68 #[.int .i64 p, .int .i64 b] w fun e w' => e = .returned (.agg #[.int .i64 3, .int .i64 0]) ∧ w' = speedW w p b 3 0 := by
  by_cases ha : p < 0 ∨ 1000000000000000 < p
  · have i1 : inB p 0 1000000000000000 = false := inB_no ha
    clear h
    go_enter Try.func68, Try.ntmps68
    go_wp2_with (go_at_call 28; refine (isWithin_any _ _ _ _).mono ?_; rintro e w' ⟨rfl, rfl⟩)
    exact bodyPost_ret (v := .agg #[.int .i64 3, .int .i64 0]) (by simp [results, Try.results68, go_sem]) rfl ⟨rfl, rfl⟩
  · have i1 : inB p 0 1000000000000000 = true := inB_yes (by omega) (by omega)
    have i2 : inB b 1 2000 = false := inB_no (by omega)
    clear h ha
    go_enter Try.func68, Try.ntmps68
    go_wp2_with (go_at_call 28; refine (isWithin_any _ _ _ _).mono ?_; rintro e w' ⟨rfl, rfl⟩)
    exact bodyPost_ret (v := .agg #[.int .i64 3, .int .i64 0]) (by simp [results, Try.results68, go_sem]) rfl ⟨rfl, rfl⟩

end Go.Proofs.Ytgdhbkgpjeedhaa
