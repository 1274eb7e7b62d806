/-
  The model's house: the nearest floor.
-/
import Derived.Test.YtgdhbkgpjeedhaaHouseL
namespace Go.Proofs.Ytgdhbkgpjeedhaa
open Go.RowKit Pl

theorem specLevel_below (h : Hs) (o : h.Ok) (f : Int) (f1 : -1 ≤ f) (f2 : f ≤ 12) (w : World) :
    Calls Try.prog 27 #[.agg #[.int .i64 h.fl, .int .i64 h.gp, .int .i64 h.ln, .int .i64 h.rf, .int .i64 h.sp, .int .i64 h.pu, .int .i64 h.br, .int .i64 h.dr, .int .i64 h.lv, .int .i64 h.dO, .int .i64 h.ld, .int .i64 h.qu], .int .i64 f] w fun e w' => e = .returned (.int .i64 (h.level f)) ∧ Below w.heap.size w w' :=
  (specLevel_any h o f f1 f2 w).mono fun e w' ⟨he, hw⟩ => ⟨he, by rw [hw]; exact (Below.refl _ _).alloc (Nat.le_refl _) _⟩

theorem l1Abs_any (a : Int) (h1 : -9223372036854775807 ≤ a) (h2 : a ≤ 9223372036854775807) (w : World) :
    Calls Try.prog 26 #[.int .i64 a] w fun e w' => e = .returned (.int .i64 (absI a)) ∧ w' = w := by
  by_cases h : a < 0
  · have e : Hid (absI a = -a) := by unfold absI; rw [if_pos h]; exact rfl
    go_enter Try.func26, Try.ntmps26
    go_wp2
    go_ret
    exact ⟨ret_int e.out.symm, rfl⟩
  · have e : Hid (absI a = a) := by unfold absI; rw [if_neg h]; exact rfl
    go_enter Try.func26, Try.ntmps26
    go_wp2
    go_ret
    exact ⟨ret_int e.out.symm, rfl⟩

set_option maxHeartbeats 4000000 in
theorem specNear_any (h : Hs) (o : h.Ok) (p : Int) (p1 : -4611686018427387904 ≤ p) (p2 : p ≤ 4611686018427387904) (w : World) :
    Calls Try.prog 41 #[.agg #[.int .i64 h.fl, .int .i64 h.gp, .int .i64 h.ln, .int .i64 h.rf, .int .i64 h.sp, .int .i64 h.pu, .int .i64 h.br, .int .i64 h.dr, .int .i64 h.lv, .int .i64 h.dO, .int .i64 h.ld, .int .i64 h.qu], .int .i64 p] w fun e w' => ∃ r, h.NearTo p (h.fl + 1) r ∧ e = .returned (.int .i64 r) ∧ Below w.heap.size w w' := by
  have l1 := o.fl1; have l2 := o.fl2
  have HO : Hid h.Ok := o
  have HH : Hid (HAt (w.alloc (.cells #[.int .i64 h.fl, .int .i64 h.gp, .int .i64 h.ln, .int .i64 h.rf, .int .i64 h.sp, .int .i64 h.pu, .int .i64 h.br, .int .i64 h.dr, .int .i64 h.lv, .int .i64 h.dO, .int .i64 h.ld, .int .i64 h.qu] 25)) w.heap.size h) := HAt.new w h _
  have HB : Hid (Below w.heap.size w (w.alloc (.cells #[.int .i64 h.fl, .int .i64 h.gp, .int .i64 h.ln, .int .i64 h.rf, .int .i64 h.sp, .int .i64 h.pu, .int .i64 h.br, .int .i64 h.dr, .int .i64 h.lv, .int .i64 h.dO, .int .i64 h.ld, .int .i64 h.qu] 25))) := (Below.refl _ _).alloc (Nat.le_refl _) _
  clear o
  go_enter Try.func41, Try.ntmps41
  go_wp2
  go_loopw [5, 6] (fun b f wr => ∃ r n : Int, b = .int .i64 r ∧ f = .int .i64 n ∧ 0 ≤ n ∧ n ≤ h.fl + 1 ∧ h.NearTo p n r ∧ HAt wr w.heap.size h ∧ Below w.heap.size w wr) (fun _ f _ => (h.fl + 1 - intOf f).toNat)
  case atStart => exact ⟨-1, 0, rfl, rfl, by omega, by omega, Hs.NearTo.start h p, HH.out, HB.out⟩
  case round =>
    obtain ⟨r, n, rfl, rfl, n1, n2, hnear, hat, hbel⟩ := hrel
    have r1 := hnear.lo
    have r2 := hnear.hi
    have HN : Hid (h.NearTo p n r) := hnear
    have HH : Hid (HAt wr w.heap.size h) := hat
    have HB : Hid (Below w.heap.size w wr) := hbel
    obtain ⟨q0, q1, q2, q3, q4, q5, q6, q7, q8, q9, q10, q11⟩ := hat
    clear hnear hbel
    by_cases hlt : n ≤ h.fl
    · obtain ⟨v1, v2⟩ := HO.out.level_bd n (by omega) (by omega)
      obtain ⟨v3, v4⟩ := HO.out.level_bd r (by omega) (by omega)
      have e1 : IntKind.i64.wrap (p - h.level n) = p - h.level n := IntWalk.i64_in _ (by omega)
      have e2 : IntKind.i64.wrap (p - h.level r) = p - h.level r := IntWalk.i64_in _ (by omega)
      have HH : Hid (HAt wr.drew w.heap.size h) := HH.out.drew
      have HB : Hid (Below w.heap.size w wr.drew) := HB.out.drew
      by_cases hd : absI (p - h.level n) < absI (p - h.level r)
      · have hd' : decide (absI (p - h.level n) < absI (p - h.level r)) = true := decide_eq_true hd
        have HD : Hid (h.dist p n < h.dist p r) := hd
        clear hd
        go_wp2_with fail
        go_region_held3 (fun w'' => w''.cell? ⟨w.heap.size, 0, none⟩ = some (.int .i64 h.fl) ∧ w''.cell? ⟨w.heap.size, 1, none⟩ = some (.int .i64 h.gp) ∧ w''.cell? ⟨w.heap.size, 2, none⟩ = some (.int .i64 h.ln) ∧ w''.cell? ⟨w.heap.size, 3, none⟩ = some (.int .i64 h.rf) ∧ w''.cell? ⟨w.heap.size, 4, none⟩ = some (.int .i64 h.sp) ∧ w''.cell? ⟨w.heap.size, 5, none⟩ = some (.int .i64 h.pu) ∧ w''.cell? ⟨w.heap.size, 6, none⟩ = some (.int .i64 h.br) ∧ w''.cell? ⟨w.heap.size, 7, none⟩ = some (.int .i64 h.dr) ∧ w''.cell? ⟨w.heap.size, 8, none⟩ = some (.int .i64 h.lv) ∧ w''.cell? ⟨w.heap.size, 9, none⟩ = some (.int .i64 h.dO) ∧ w''.cell? ⟨w.heap.size, 10, none⟩ = some (.int .i64 h.ld) ∧ w''.cell? ⟨w.heap.size, 11, none⟩ = some (.int .i64 h.qu)) (go_keep) (first | (go_at_call 27; refine (specLevel_below h HO.out _ (by omega) (by omega) _).mono ?_; rintro e w1 ⟨rfl, hb⟩; have HH : Hid (HAt w1 w.heap.size h) := HH.out.below hb HH.out.lt; have HB : Hid (Below w.heap.size w w1) := HB.out.trans (hb.mono HB.out.size); obtain ⟨q0, q1, q2, q3, q4, q5, q6, q7, q8, q9, q10, q11⟩ := HH.out; clear hb) | (go_at_call 26; refine (l1Abs_any _ (by omega) (by omega) _).mono ?_; rintro e w2 ⟨rfl, hw⟩; obtain rfl := hw.symm))
        go_wp2
        go_roundw
        case rel => exact ⟨n, n + 1, rfl, rfl, by omega, by omega, HN.out.take n1 HD.out, HH.out, HB.out⟩
        case measure => simp [intOf]; omega
      · have hd' : decide (absI (p - h.level n) < absI (p - h.level r)) = false := decide_eq_false hd
        have HD : Hid (¬ h.dist p n < h.dist p r) := hd
        clear hd
        go_wp2_with fail
        go_region_held3 (fun w'' => w''.cell? ⟨w.heap.size, 0, none⟩ = some (.int .i64 h.fl) ∧ w''.cell? ⟨w.heap.size, 1, none⟩ = some (.int .i64 h.gp) ∧ w''.cell? ⟨w.heap.size, 2, none⟩ = some (.int .i64 h.ln) ∧ w''.cell? ⟨w.heap.size, 3, none⟩ = some (.int .i64 h.rf) ∧ w''.cell? ⟨w.heap.size, 4, none⟩ = some (.int .i64 h.sp) ∧ w''.cell? ⟨w.heap.size, 5, none⟩ = some (.int .i64 h.pu) ∧ w''.cell? ⟨w.heap.size, 6, none⟩ = some (.int .i64 h.br) ∧ w''.cell? ⟨w.heap.size, 7, none⟩ = some (.int .i64 h.dr) ∧ w''.cell? ⟨w.heap.size, 8, none⟩ = some (.int .i64 h.lv) ∧ w''.cell? ⟨w.heap.size, 9, none⟩ = some (.int .i64 h.dO) ∧ w''.cell? ⟨w.heap.size, 10, none⟩ = some (.int .i64 h.ld) ∧ w''.cell? ⟨w.heap.size, 11, none⟩ = some (.int .i64 h.qu)) (go_keep) (first | (go_at_call 27; refine (specLevel_below h HO.out _ (by omega) (by omega) _).mono ?_; rintro e w1 ⟨rfl, hb⟩; have HH : Hid (HAt w1 w.heap.size h) := HH.out.below hb HH.out.lt; have HB : Hid (Below w.heap.size w w1) := HB.out.trans (hb.mono HB.out.size); obtain ⟨q0, q1, q2, q3, q4, q5, q6, q7, q8, q9, q10, q11⟩ := HH.out; clear hb) | (go_at_call 26; refine (l1Abs_any _ (by omega) (by omega) _).mono ?_; rintro e w2 ⟨rfl, hw⟩; obtain rfl := hw.symm))
        go_wp2
        go_roundw
        case rel => exact ⟨r, n + 1, rfl, rfl, by omega, by omega, HN.out.stay (by have := HD.out; omega), HH.out, HB.out⟩
        case measure => simp [intOf]; omega
    · obtain rfl : n = h.fl + 1 := by omega
      go_wp2
      go_ret
      exact ⟨r, HN.out, rfl, HB.out⟩
end Go.Proofs.Ytgdhbkgpjeedhaa
