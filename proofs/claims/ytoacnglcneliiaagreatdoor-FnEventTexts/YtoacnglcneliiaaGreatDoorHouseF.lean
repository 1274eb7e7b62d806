/-
  The model's house: its fault.
-/
import Derived.Test.YtoacnglcneliiaaGreatDoorHouseR
import Derived.Test.YtoacnglcneliiaaGreatDoorFnd
import Derived.Deep.RegionWith
namespace Go.Proofs.YtoacnglcneliiaaGreatDoor
open Go.RowKit Pl

set_option maxHeartbeats 2000000 in
theorem specFault_any (h : Hs) (w : World) :
    Calls Tryz.prog 29 #[.agg #[.int .i64 h.fl, .int .i64 h.gp, .int .i64 h.ln, .int .i64 h.rf, .int .i64 h.sp, .int .i64 h.pu, .int .i64 h.br, .int .i64 h.dr, .int .i64 h.lv, .int .i64 h.dO, .int .i64 h.ld, .int .i64 h.qu]] w fun e w' => e = .returned (.int .i64 h.fault) ∧ Below w.heap.size w w' := by
  cases hr : h.rangeB with
  | false =>
    have hf : Hid (h.fault = 3) := Hs.fault_out hr
    go_enter Tryz.func29, Tryz.ntmps29
    go_wp2_with (go_at_call 57; refine (specRange_any h _).mono ?_; rintro e w' ⟨rfl, hw⟩; obtain rfl := hw.symm)
    go_ret
    exact ⟨ret_int hf.out.symm, ((Below.refl _ _).alloc (Nat.le_refl _) _).alloc (by simp) _⟩
  | true =>
    have o := Hs.ok_of hr
    by_cases n1 : h.gp < h.apart
    · have hf : Hid (h.fault = 1) := Hs.fault_near hr (Or.inl n1)
      have hd : decide (h.gp < h.apart) = true := decide_eq_true n1
      have HO : Hid h.Ok := o
      clear o
      go_enter Tryz.func29, Tryz.ntmps29
      go_wp2_with (go_at_call 57; refine (specRange_any h _).mono ?_; rintro e w' ⟨rfl, hw⟩; obtain rfl := hw.symm)
      first | (go_region_with (go_at_call 46; refine (specApart_any h HO.out _).mono ?_; rintro e w' ⟨rfl, k, hw⟩; obtain rfl := hw.symm)) | fail
      all_goals
        go_wp2
        go_ret
        exact ⟨ret_int hf.out.symm, by repeat (first | exact Below.refl _ _ | apply Below.drew | apply below_drewN | (refine Below.alloc ?_ ?_ _) | (simp; omega) | simp)⟩
    · have hd : decide (h.gp < h.apart) = false := decide_eq_false n1
      have HO : Hid h.Ok := o
      clear o
      by_cases n2 : h.rf < h.apart
      · have hf : Hid (h.fault = 1) := Hs.fault_near hr (Or.inr n2)
        have hd2 : decide (h.rf < h.apart) = true := decide_eq_true n2
        go_enter Tryz.func29, Tryz.ntmps29
        go_wp2_with (go_at_call 57; refine (specRange_any h _).mono ?_; rintro e w' ⟨rfl, hw⟩; obtain rfl := hw.symm)
        go_region_held3 (fun w' => w'.cell? ⟨w.heap.size, 0, none⟩ = some (.int .i64 h.fl) ∧ w'.cell? ⟨w.heap.size, 1, none⟩ = some (.int .i64 h.gp) ∧ w'.cell? ⟨w.heap.size, 2, none⟩ = some (.int .i64 h.ln) ∧ w'.cell? ⟨w.heap.size, 3, none⟩ = some (.int .i64 h.rf) ∧ w'.cell? ⟨w.heap.size, 4, none⟩ = some (.int .i64 h.sp) ∧ w'.cell? ⟨w.heap.size, 5, none⟩ = some (.int .i64 h.pu) ∧ w'.cell? ⟨w.heap.size, 6, none⟩ = some (.int .i64 h.br) ∧ w'.cell? ⟨w.heap.size, 7, none⟩ = some (.int .i64 h.dr) ∧ w'.cell? ⟨w.heap.size, 8, none⟩ = some (.int .i64 h.lv) ∧ w'.cell? ⟨w.heap.size, 9, none⟩ = some (.int .i64 h.dO) ∧ w'.cell? ⟨w.heap.size, 10, none⟩ = some (.int .i64 h.ld) ∧ w'.cell? ⟨w.heap.size, 11, none⟩ = some (.int .i64 h.qu)) (go_keep) ((go_at_call 46; refine (specApart_any h HO.out _).mono ?_; rintro e w' ⟨rfl, k, hw⟩; obtain rfl := hw.symm))
        all_goals
          go_wp2
          go_ret
          exact ⟨ret_int hf.out.symm, by repeat (first | exact Below.refl _ _ | apply Below.drew | apply below_drewN | (refine Below.alloc ?_ ?_ _) | (simp; omega) | simp)⟩
      · have hf : Hid (h.fault = 0) := Hs.fault_ok hr (by omega)
        have hd2 : decide (h.rf < h.apart) = false := decide_eq_false n2
        go_enter Tryz.func29, Tryz.ntmps29
        go_wp2_with (go_at_call 57; refine (specRange_any h _).mono ?_; rintro e w' ⟨rfl, hw⟩; obtain rfl := hw.symm)
        go_region_held3 (fun w' => w'.cell? ⟨w.heap.size, 0, none⟩ = some (.int .i64 h.fl) ∧ w'.cell? ⟨w.heap.size, 1, none⟩ = some (.int .i64 h.gp) ∧ w'.cell? ⟨w.heap.size, 2, none⟩ = some (.int .i64 h.ln) ∧ w'.cell? ⟨w.heap.size, 3, none⟩ = some (.int .i64 h.rf) ∧ w'.cell? ⟨w.heap.size, 4, none⟩ = some (.int .i64 h.sp) ∧ w'.cell? ⟨w.heap.size, 5, none⟩ = some (.int .i64 h.pu) ∧ w'.cell? ⟨w.heap.size, 6, none⟩ = some (.int .i64 h.br) ∧ w'.cell? ⟨w.heap.size, 7, none⟩ = some (.int .i64 h.dr) ∧ w'.cell? ⟨w.heap.size, 8, none⟩ = some (.int .i64 h.lv) ∧ w'.cell? ⟨w.heap.size, 9, none⟩ = some (.int .i64 h.dO) ∧ w'.cell? ⟨w.heap.size, 10, none⟩ = some (.int .i64 h.ld) ∧ w'.cell? ⟨w.heap.size, 11, none⟩ = some (.int .i64 h.qu)) (go_keep) ((go_at_call 46; refine (specApart_any h HO.out _).mono ?_; rintro e w' ⟨rfl, k, hw⟩; obtain rfl := hw.symm))
        all_goals
          go_wp2
          go_ret
          exact ⟨ret_int hf.out.symm, by repeat (first | exact Below.refl _ _ | apply Below.drew | apply below_drewN | (refine Below.alloc ?_ ?_ _) | (simp; omega) | simp)⟩
end Go.Proofs.YtoacnglcneliiaaGreatDoor
