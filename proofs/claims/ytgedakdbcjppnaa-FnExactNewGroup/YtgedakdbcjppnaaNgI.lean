/-
  The program's new group.
-/
import Derived.Test.YtgedakdbcjppnaaGrpR
import Derived.Test.YtgedakdbcjppnaaCarL
import Derived.Test.YtgedakdbcjppnaaSpanK
import Derived.BigGuardPart
namespace Go.Proofs.Ytgedakdbcjppnaa
open Go.RowKit Pl
set_option linter.unusedSimpArgs false
set_option linter.unusedVariables false

theorem fresh_both (h : Hs) (hf : h.fault = 0) : CarOk h (freshS h).lo ∧ CarOk h (freshS h).up := by
  have o := Hs.ok_of (Hs.fault_zero hf).1
  have b := o.stop_bd
  have m : 0 ≤ (h.fl - 1) * h.gp := Int.mul_nonneg (by have := o.fl1; omega) (by have := o.gp1; omega)
  have k1 := o.rf1; have k2 := o.sp1; have k3 := o.lv1; have k4 := o.do1; have k5 := o.fl1
  have e : h.level (h.fl - 1) = (h.fl - 1) * h.gp := by unfold Hs.level; rw [if_neg (by omega), if_neg (by omega)]
  have l1 : h.low ≤ 0 := by unfold Hs.low Hs.room; omega
  have l2 : (h.fl - 1) * h.gp ≤ h.high := by unfold Hs.high Hs.room; omega
  refine ⟨⟨hf, l1, by show (0 : Int) ≤ _; omega, by show _ ≤ (0 : Int); omega, by show (0 : Int) ≤ _; omega, Int.le_refl _, by show (0 : Int) ≤ _; omega, Or.inl rfl⟩, ⟨hf, ?_, ?_, by show _ ≤ (0 : Int); omega, by show (0 : Int) ≤ _; omega, Int.le_refl _, by show (0 : Int) ≤ _; omega, Or.inl rfl⟩⟩
  · show _ ≤ h.level (h.fl - 1); omega
  · show h.level (h.fl - 1) ≤ _; omega
theorem fresh_lo (h : Hs) (hf : h.fault = 0) : CarOk h (freshS h).lo := (fresh_both h hf).1
theorem fresh_up (h : Hs) (hf : h.fault = 0) : CarOk h (freshS h).up := (fresh_both h hf).2
set_option maxRecDepth 20000 in
set_option maxHeartbeats 16000000 in
theorem implNewGroup_no (h : Hs) (n : Int) (hf : h.fault ≠ 0) (w : World) : Calls Try.prog 6 #[.agg #[.int .i64 h.fl, .int .i64 h.gp, .int .i64 h.ln, .int .i64 h.rf, .int .i64 h.sp, .int .i64 h.pu, .int .i64 h.br, .int .i64 h.dr, .int .i64 h.lv, .int .i64 h.dO, .int .i64 h.ld, .int .i64 h.qu], .int .i64 n] w (isGrp w h.fault 0 zeroH [] 0 [] 0 false) := by
  have hn : (h.fault != 0) = true := by simpa using hf
  clear hf
  have F0 : Hid (Blk ((w.alloc (.cells #[.int .i64 h.fl, .int .i64 h.gp, .int .i64 h.ln, .int .i64 h.rf, .int .i64 h.sp, .int .i64 h.pu, .int .i64 h.br, .int .i64 h.dr, .int .i64 h.lv, .int .i64 h.dO, .int .i64 h.ld, .int .i64 h.qu] 24)).alloc (.cells #[.int .i64 0, .int .i64 0, .int .i64 0, .int .i64 0, .int .i64 0, .int .i64 0, .int .i64 0, .int .i64 0, .int .i64 0, .int .i64 0, .int .i64 0, .int .i64 0, .int .i64 0, .int .i64 0, .slice none 0 0, .int .i64 0, .slice none 0 0, .int .i64 0, .bool false] 32)) w.heap.size [.int .i64 h.fl, .int .i64 h.gp, .int .i64 h.ln, .int .i64 h.rf, .int .i64 h.sp, .int .i64 h.pu, .int .i64 h.br, .int .i64 h.dr, .int .i64 h.lv, .int .i64 h.dO, .int .i64 h.ld, .int .i64 h.qu]) := (Blk.at_ w #[.int .i64 h.fl, .int .i64 h.gp, .int .i64 h.ln, .int .i64 h.rf, .int .i64 h.sp, .int .i64 h.pu, .int .i64 h.br, .int .i64 h.dr, .int .i64 h.lv, .int .i64 h.dO, .int .i64 h.ld, .int .i64 h.qu] _ _ rfl).alloc _
  have F1 : Hid (Blk ((w.alloc (.cells #[.int .i64 h.fl, .int .i64 h.gp, .int .i64 h.ln, .int .i64 h.rf, .int .i64 h.sp, .int .i64 h.pu, .int .i64 h.br, .int .i64 h.dr, .int .i64 h.lv, .int .i64 h.dO, .int .i64 h.ld, .int .i64 h.qu] 24)).alloc (.cells #[.int .i64 0, .int .i64 0, .int .i64 0, .int .i64 0, .int .i64 0, .int .i64 0, .int .i64 0, .int .i64 0, .int .i64 0, .int .i64 0, .int .i64 0, .int .i64 0, .int .i64 0, .int .i64 0, .slice none 0 0, .int .i64 0, .slice none 0 0, .int .i64 0, .bool false] 32)) (w.heap.size + 1) [.int .i64 0, .int .i64 0, .int .i64 0, .int .i64 0, .int .i64 0, .int .i64 0, .int .i64 0, .int .i64 0, .int .i64 0, .int .i64 0, .int .i64 0, .int .i64 0, .int .i64 0, .int .i64 0, .slice none 0 0, .int .i64 0, .slice none 0 0, .int .i64 0, .bool false]) := Blk.at_ _ #[.int .i64 0, .int .i64 0, .int .i64 0, .int .i64 0, .int .i64 0, .int .i64 0, .int .i64 0, .int .i64 0, .int .i64 0, .int .i64 0, .int .i64 0, .int .i64 0, .int .i64 0, .int .i64 0, .slice none 0 0, .int .i64 0, .slice none 0 0, .int .i64 0, .bool false] _ _ (by simp)
  have FB : Hid (Below w.heap.size w ((w.alloc (.cells #[.int .i64 h.fl, .int .i64 h.gp, .int .i64 h.ln, .int .i64 h.rf, .int .i64 h.sp, .int .i64 h.pu, .int .i64 h.br, .int .i64 h.dr, .int .i64 h.lv, .int .i64 h.dO, .int .i64 h.ld, .int .i64 h.qu] 24)).alloc (.cells #[.int .i64 0, .int .i64 0, .int .i64 0, .int .i64 0, .int .i64 0, .int .i64 0, .int .i64 0, .int .i64 0, .int .i64 0, .int .i64 0, .int .i64 0, .int .i64 0, .int .i64 0, .int .i64 0, .slice none 0 0, .int .i64 0, .slice none 0 0, .int .i64 0, .bool false] 32))) := ((Below.refl _ _).alloc (Nat.le_refl _) _).alloc (by simp) _
  obtain ⟨W0, hW0⟩ : ∃ W0, W0 = ((w.alloc (.cells #[.int .i64 h.fl, .int .i64 h.gp, .int .i64 h.ln, .int .i64 h.rf, .int .i64 h.sp, .int .i64 h.pu, .int .i64 h.br, .int .i64 h.dr, .int .i64 h.lv, .int .i64 h.dO, .int .i64 h.ld, .int .i64 h.qu] 24)).alloc (.cells #[.int .i64 0, .int .i64 0, .int .i64 0, .int .i64 0, .int .i64 0, .int .i64 0, .int .i64 0, .int .i64 0, .int .i64 0, .int .i64 0, .int .i64 0, .int .i64 0, .int .i64 0, .int .i64 0, .slice none 0 0, .int .i64 0, .slice none 0 0, .int .i64 0, .bool false] 32)) := ⟨_, rfl⟩
  rw [← hW0] at F0 F1 FB
  have HW0 : Hid (W0 = ((w.alloc (.cells #[.int .i64 h.fl, .int .i64 h.gp, .int .i64 h.ln, .int .i64 h.rf, .int .i64 h.sp, .int .i64 h.pu, .int .i64 h.br, .int .i64 h.dr, .int .i64 h.lv, .int .i64 h.dO, .int .i64 h.ld, .int .i64 h.qu] 24)).alloc (.cells #[.int .i64 0, .int .i64 0, .int .i64 0, .int .i64 0, .int .i64 0, .int .i64 0, .int .i64 0, .int .i64 0, .int .i64 0, .int .i64 0, .int .i64 0, .int .i64 0, .int .i64 0, .int .i64 0, .slice none 0 0, .int .i64 0, .slice none 0 0, .int .i64 0, .bool false] 32))) := hW0
  clear hW0
  go_enter Try.func6, Try.ntmps6
  go_upto_region 1 with fail
  rw [← HW0.out]
  go_wp2_with (first | (refine load_blk 24 _ Try.underlying24 (by kernel_rfl) F0.out rfl rfl rfl ?_) | (go_at_call 14; refine (implFault_any h _).mono ?_; rintro e w1 ⟨rfl, hb⟩; have F0 : Hid (Blk w1 w.heap.size [.int .i64 h.fl, .int .i64 h.gp, .int .i64 h.ln, .int .i64 h.rf, .int .i64 h.sp, .int .i64 h.pu, .int .i64 h.br, .int .i64 h.dr, .int .i64 h.lv, .int .i64 h.dO, .int .i64 h.ld, .int .i64 h.qu]) := F0.out.below hb F0.out.lt; have F1 : Hid (Blk w1 (w.heap.size + 1) [.int .i64 0, .int .i64 0, .int .i64 0, .int .i64 0, .int .i64 0, .int .i64 0, .int .i64 0, .int .i64 0, .int .i64 0, .int .i64 0, .int .i64 0, .int .i64 0, .int .i64 0, .int .i64 0, .slice none 0 0, .int .i64 0, .slice none 0 0, .int .i64 0, .bool false]) := F1.out.below hb F1.out.lt; have FB : Hid (Below w.heap.size w w1) := FB.out.trans (hb.mono FB.out.size); clear hb) | (refine store_blk [.int .i64 h.fault, .int .i64 0, .int .i64 0, .int .i64 0, .int .i64 0, .int .i64 0, .int .i64 0, .int .i64 0, .int .i64 0, .int .i64 0, .int .i64 0, .int .i64 0, .int .i64 0, .int .i64 0, .slice none 0 0, .int .i64 0, .slice none 0 0, .int .i64 0, .bool false] 32 _ _ (by kernel_rfl) (by kernel_rfl) (by kernel_rfl) F1.out rfl rfl rfl rfl ?_))
  exact bodyPost_ret (v := .agg #[.int .i64 h.fault, .int .i64 0, .int .i64 0, .int .i64 0, .int .i64 0, .int .i64 0, .int .i64 0, .int .i64 0, .int .i64 0, .int .i64 0, .int .i64 0, .int .i64 0, .int .i64 0, .int .i64 0, .slice none 0 0, .int .i64 0, .slice none 0 0, .int .i64 0, .bool false]) ((F1.out.row [.int .i64 h.fault, .int .i64 0, .int .i64 0, .int .i64 0, .int .i64 0, .int .i64 0, .int .i64 0, .int .i64 0, .int .i64 0, .int .i64 0, .int .i64 0, .int .i64 0, .int .i64 0, .int .i64 0, .slice none 0 0, .int .i64 0, .slice none 0 0, .int .i64 0, .bool false]).res _ Try.results6 Try.underlying32 (by kernel_rfl) rfl) rfl (isGrp.no (below_row FB.out (by omega) _))
set_option maxRecDepth 20000 in
set_option maxHeartbeats 16000000 in
theorem implNewGroup_out (h : Hs) (n : Int) (hf : h.fault = 0) (hn : inB n 1 3 = false) (w : World) : Calls Try.prog 6 #[.agg #[.int .i64 h.fl, .int .i64 h.gp, .int .i64 h.ln, .int .i64 h.rf, .int .i64 h.sp, .int .i64 h.pu, .int .i64 h.br, .int .i64 h.dr, .int .i64 h.lv, .int .i64 h.dO, .int .i64 h.ld, .int .i64 h.qu], .int .i64 n] w (isGrp w 3 0 zeroH [] 0 [] 0 false) := by
  have F0 : Hid (Blk ((w.alloc (.cells #[.int .i64 h.fl, .int .i64 h.gp, .int .i64 h.ln, .int .i64 h.rf, .int .i64 h.sp, .int .i64 h.pu, .int .i64 h.br, .int .i64 h.dr, .int .i64 h.lv, .int .i64 h.dO, .int .i64 h.ld, .int .i64 h.qu] 24)).alloc (.cells #[.int .i64 0, .int .i64 0, .int .i64 0, .int .i64 0, .int .i64 0, .int .i64 0, .int .i64 0, .int .i64 0, .int .i64 0, .int .i64 0, .int .i64 0, .int .i64 0, .int .i64 0, .int .i64 0, .slice none 0 0, .int .i64 0, .slice none 0 0, .int .i64 0, .bool false] 32)) w.heap.size [.int .i64 h.fl, .int .i64 h.gp, .int .i64 h.ln, .int .i64 h.rf, .int .i64 h.sp, .int .i64 h.pu, .int .i64 h.br, .int .i64 h.dr, .int .i64 h.lv, .int .i64 h.dO, .int .i64 h.ld, .int .i64 h.qu]) := (Blk.at_ w #[.int .i64 h.fl, .int .i64 h.gp, .int .i64 h.ln, .int .i64 h.rf, .int .i64 h.sp, .int .i64 h.pu, .int .i64 h.br, .int .i64 h.dr, .int .i64 h.lv, .int .i64 h.dO, .int .i64 h.ld, .int .i64 h.qu] _ _ rfl).alloc _
  have F1 : Hid (Blk ((w.alloc (.cells #[.int .i64 h.fl, .int .i64 h.gp, .int .i64 h.ln, .int .i64 h.rf, .int .i64 h.sp, .int .i64 h.pu, .int .i64 h.br, .int .i64 h.dr, .int .i64 h.lv, .int .i64 h.dO, .int .i64 h.ld, .int .i64 h.qu] 24)).alloc (.cells #[.int .i64 0, .int .i64 0, .int .i64 0, .int .i64 0, .int .i64 0, .int .i64 0, .int .i64 0, .int .i64 0, .int .i64 0, .int .i64 0, .int .i64 0, .int .i64 0, .int .i64 0, .int .i64 0, .slice none 0 0, .int .i64 0, .slice none 0 0, .int .i64 0, .bool false] 32)) (w.heap.size + 1) [.int .i64 0, .int .i64 0, .int .i64 0, .int .i64 0, .int .i64 0, .int .i64 0, .int .i64 0, .int .i64 0, .int .i64 0, .int .i64 0, .int .i64 0, .int .i64 0, .int .i64 0, .int .i64 0, .slice none 0 0, .int .i64 0, .slice none 0 0, .int .i64 0, .bool false]) := Blk.at_ _ #[.int .i64 0, .int .i64 0, .int .i64 0, .int .i64 0, .int .i64 0, .int .i64 0, .int .i64 0, .int .i64 0, .int .i64 0, .int .i64 0, .int .i64 0, .int .i64 0, .int .i64 0, .int .i64 0, .slice none 0 0, .int .i64 0, .slice none 0 0, .int .i64 0, .bool false] _ _ (by simp)
  have FB : Hid (Below w.heap.size w ((w.alloc (.cells #[.int .i64 h.fl, .int .i64 h.gp, .int .i64 h.ln, .int .i64 h.rf, .int .i64 h.sp, .int .i64 h.pu, .int .i64 h.br, .int .i64 h.dr, .int .i64 h.lv, .int .i64 h.dO, .int .i64 h.ld, .int .i64 h.qu] 24)).alloc (.cells #[.int .i64 0, .int .i64 0, .int .i64 0, .int .i64 0, .int .i64 0, .int .i64 0, .int .i64 0, .int .i64 0, .int .i64 0, .int .i64 0, .int .i64 0, .int .i64 0, .int .i64 0, .int .i64 0, .slice none 0 0, .int .i64 0, .slice none 0 0, .int .i64 0, .bool false] 32))) := ((Below.refl _ _).alloc (Nat.le_refl _) _).alloc (by simp) _
  obtain ⟨W0, hW0⟩ : ∃ W0, W0 = ((w.alloc (.cells #[.int .i64 h.fl, .int .i64 h.gp, .int .i64 h.ln, .int .i64 h.rf, .int .i64 h.sp, .int .i64 h.pu, .int .i64 h.br, .int .i64 h.dr, .int .i64 h.lv, .int .i64 h.dO, .int .i64 h.ld, .int .i64 h.qu] 24)).alloc (.cells #[.int .i64 0, .int .i64 0, .int .i64 0, .int .i64 0, .int .i64 0, .int .i64 0, .int .i64 0, .int .i64 0, .int .i64 0, .int .i64 0, .int .i64 0, .int .i64 0, .int .i64 0, .int .i64 0, .slice none 0 0, .int .i64 0, .slice none 0 0, .int .i64 0, .bool false] 32)) := ⟨_, rfl⟩
  rw [← hW0] at F0 F1 FB
  have HW0 : Hid (W0 = ((w.alloc (.cells #[.int .i64 h.fl, .int .i64 h.gp, .int .i64 h.ln, .int .i64 h.rf, .int .i64 h.sp, .int .i64 h.pu, .int .i64 h.br, .int .i64 h.dr, .int .i64 h.lv, .int .i64 h.dO, .int .i64 h.ld, .int .i64 h.qu] 24)).alloc (.cells #[.int .i64 0, .int .i64 0, .int .i64 0, .int .i64 0, .int .i64 0, .int .i64 0, .int .i64 0, .int .i64 0, .int .i64 0, .int .i64 0, .int .i64 0, .int .i64 0, .int .i64 0, .int .i64 0, .slice none 0 0, .int .i64 0, .slice none 0 0, .int .i64 0, .bool false] 32))) := hW0
  clear hW0
  go_enter Try.func6, Try.ntmps6
  go_upto_region 1 with fail
  rw [← HW0.out]
  go_wp2_with (first | (refine load_blk 24 _ Try.underlying24 (by kernel_rfl) F0.out rfl rfl rfl ?_) | (go_at_call 14; refine (implFault_any h _).mono ?_; rw [hf]; rintro e w1 ⟨rfl, hb⟩; have F0 : Hid (Blk w1 w.heap.size [.int .i64 h.fl, .int .i64 h.gp, .int .i64 h.ln, .int .i64 h.rf, .int .i64 h.sp, .int .i64 h.pu, .int .i64 h.br, .int .i64 h.dr, .int .i64 h.lv, .int .i64 h.dO, .int .i64 h.ld, .int .i64 h.qu]) := F0.out.below hb F0.out.lt; have F1 : Hid (Blk w1 (w.heap.size + 1) [.int .i64 0, .int .i64 0, .int .i64 0, .int .i64 0, .int .i64 0, .int .i64 0, .int .i64 0, .int .i64 0, .int .i64 0, .int .i64 0, .int .i64 0, .int .i64 0, .int .i64 0, .int .i64 0, .slice none 0 0, .int .i64 0, .slice none 0 0, .int .i64 0, .bool false]) := F1.out.below hb F1.out.lt; have FB : Hid (Below w.heap.size w w1) := FB.out.trans (hb.mono FB.out.size); clear hb) | (go_at_call 15; refine (isWithin_any n 1 3 _).mono ?_; rw [hn]; rintro e w' ⟨rfl, hw⟩; obtain rfl := hw.symm; clear hw) | (refine store_blk [.int .i64 3, .int .i64 0, .int .i64 0, .int .i64 0, .int .i64 0, .int .i64 0, .int .i64 0, .int .i64 0, .int .i64 0, .int .i64 0, .int .i64 0, .int .i64 0, .int .i64 0, .int .i64 0, .slice none 0 0, .int .i64 0, .slice none 0 0, .int .i64 0, .bool false] 32 _ _ (by kernel_rfl) (by kernel_rfl) (by kernel_rfl) F1.out rfl rfl rfl rfl ?_))
  exact bodyPost_ret (v := .agg #[.int .i64 3, .int .i64 0, .int .i64 0, .int .i64 0, .int .i64 0, .int .i64 0, .int .i64 0, .int .i64 0, .int .i64 0, .int .i64 0, .int .i64 0, .int .i64 0, .int .i64 0, .int .i64 0, .slice none 0 0, .int .i64 0, .slice none 0 0, .int .i64 0, .bool false]) ((F1.out.row [.int .i64 3, .int .i64 0, .int .i64 0, .int .i64 0, .int .i64 0, .int .i64 0, .int .i64 0, .int .i64 0, .int .i64 0, .int .i64 0, .int .i64 0, .int .i64 0, .int .i64 0, .int .i64 0, .slice none 0 0, .int .i64 0, .slice none 0 0, .int .i64 0, .bool false]).res _ Try.results6 Try.underlying32 (by kernel_rfl) rfl) rfl (isGrp.no (below_row FB.out (by omega) _))
theorem rep_at {d z : Dk} {i n : Nat} (h : i < n) : (List.replicate i d ++ List.replicate (n - i) z)[i]? = some z := by
  rw [List.getElem?_append_right (by rw [List.length_replicate]; omega), List.length_replicate, Nat.sub_self, List.getElem?_replicate, if_pos (by omega)]
theorem rep_set {d z : Dk} {i n : Nat} (h : i < n) : (List.replicate i d ++ List.replicate (n - i) z).set i d = List.replicate (i + 1) d ++ List.replicate (n - (i + 1)) z := by
  rw [List.set_append_right _ _ (by rw [List.length_replicate]; omega), List.length_replicate, Nat.sub_self, show n - i = (n - (i + 1)) + 1 by omega, List.replicate_succ, List.set_cons_zero, List.replicate_succ', List.append_assoc]
  rfl
theorem OwD.putS {w : World} {B g n cap : Nat} {l : List Dk} (h : OwD w B g n cap l) {i : Nat} {p : Dk} (s : Sh) (hp : l[i]? = some p) : OwD (Go.Proofs.Ytgedakdbcjppnaa.putB w g (i * 13) [.int .i64 s.lo.pos, .int .i64 s.lo.vel, .int .i64 s.lo.door, .int .i64 s.up.pos, .int .i64 s.up.vel, .int .i64 s.up.door]) B g n cap (l.set i ⟨s, p.sp, p.pl, p.pu, p.hd⟩) := by
  have s1 := h.set (k := 0) (u := .int .i64 (s.lo.pos)) (q := ⟨⟨⟨s.lo.pos, p.sh.lo.vel, p.sh.lo.door⟩, ⟨p.sh.up.pos, p.sh.up.vel, p.sh.up.door⟩⟩, ⟨⟨p.sp.l.lo, p.sp.l.hi⟩, ⟨p.sp.u.lo, p.sp.u.hi⟩⟩, p.pl, p.pu, p.hd⟩) hp (by omega) rfl
  have s2 := s1.set (k := 1) (u := .int .i64 (s.lo.vel)) (q := ⟨⟨⟨s.lo.pos, s.lo.vel, p.sh.lo.door⟩, ⟨p.sh.up.pos, p.sh.up.vel, p.sh.up.door⟩⟩, ⟨⟨p.sp.l.lo, p.sp.l.hi⟩, ⟨p.sp.u.lo, p.sp.u.hi⟩⟩, p.pl, p.pu, p.hd⟩) (get_setD hp) (by omega) rfl
  have s3 := s2.set (k := 2) (u := .int .i64 (s.lo.door)) (q := ⟨⟨⟨s.lo.pos, s.lo.vel, s.lo.door⟩, ⟨p.sh.up.pos, p.sh.up.vel, p.sh.up.door⟩⟩, ⟨⟨p.sp.l.lo, p.sp.l.hi⟩, ⟨p.sp.u.lo, p.sp.u.hi⟩⟩, p.pl, p.pu, p.hd⟩) (get_setD (get_setD hp)) (by omega) rfl
  have s4 := s3.set (k := 3) (u := .int .i64 (s.up.pos)) (q := ⟨⟨⟨s.lo.pos, s.lo.vel, s.lo.door⟩, ⟨s.up.pos, p.sh.up.vel, p.sh.up.door⟩⟩, ⟨⟨p.sp.l.lo, p.sp.l.hi⟩, ⟨p.sp.u.lo, p.sp.u.hi⟩⟩, p.pl, p.pu, p.hd⟩) (get_setD (get_setD (get_setD hp))) (by omega) rfl
  have s5 := s4.set (k := 4) (u := .int .i64 (s.up.vel)) (q := ⟨⟨⟨s.lo.pos, s.lo.vel, s.lo.door⟩, ⟨s.up.pos, s.up.vel, p.sh.up.door⟩⟩, ⟨⟨p.sp.l.lo, p.sp.l.hi⟩, ⟨p.sp.u.lo, p.sp.u.hi⟩⟩, p.pl, p.pu, p.hd⟩) (get_setD (get_setD (get_setD (get_setD hp)))) (by omega) rfl
  have s6 := s5.set (k := 5) (u := .int .i64 (s.up.door)) (q := ⟨⟨⟨s.lo.pos, s.lo.vel, s.lo.door⟩, ⟨s.up.pos, s.up.vel, s.up.door⟩⟩, ⟨⟨p.sp.l.lo, p.sp.l.hi⟩, ⟨p.sp.u.lo, p.sp.u.hi⟩⟩, p.pl, p.pu, p.hd⟩) (get_setD (get_setD (get_setD (get_setD (get_setD hp))))) (by omega) rfl
  simp only [List.set_set] at s6
  exact s6
theorem OwD.putX {w : World} {B g n cap : Nat} {l : List Dk} (h : OwD w B g n cap l) {i : Nat} {p : Dk} (x : Ss) (hp : l[i]? = some p) : OwD (Go.Proofs.Ytgedakdbcjppnaa.putB w g (i * 13 + 6) [.int .i64 x.l.lo, .int .i64 x.l.hi, .int .i64 x.u.lo, .int .i64 x.u.hi]) B g n cap (l.set i ⟨p.sh, x, p.pl, p.pu, p.hd⟩) := by
  have s1 := h.set (k := 6) (u := .int .i64 (x.l.lo)) (q := ⟨⟨⟨p.sh.lo.pos, p.sh.lo.vel, p.sh.lo.door⟩, ⟨p.sh.up.pos, p.sh.up.vel, p.sh.up.door⟩⟩, ⟨⟨x.l.lo, p.sp.l.hi⟩, ⟨p.sp.u.lo, p.sp.u.hi⟩⟩, p.pl, p.pu, p.hd⟩) hp (by omega) rfl
  have s2 := s1.set (k := 7) (u := .int .i64 (x.l.hi)) (q := ⟨⟨⟨p.sh.lo.pos, p.sh.lo.vel, p.sh.lo.door⟩, ⟨p.sh.up.pos, p.sh.up.vel, p.sh.up.door⟩⟩, ⟨⟨x.l.lo, x.l.hi⟩, ⟨p.sp.u.lo, p.sp.u.hi⟩⟩, p.pl, p.pu, p.hd⟩) (get_setD hp) (by omega) rfl
  have s3 := s2.set (k := 8) (u := .int .i64 (x.u.lo)) (q := ⟨⟨⟨p.sh.lo.pos, p.sh.lo.vel, p.sh.lo.door⟩, ⟨p.sh.up.pos, p.sh.up.vel, p.sh.up.door⟩⟩, ⟨⟨x.l.lo, x.l.hi⟩, ⟨x.u.lo, p.sp.u.hi⟩⟩, p.pl, p.pu, p.hd⟩) (get_setD (get_setD hp)) (by omega) rfl
  have s4 := s3.set (k := 9) (u := .int .i64 (x.u.hi)) (q := ⟨⟨⟨p.sh.lo.pos, p.sh.lo.vel, p.sh.lo.door⟩, ⟨p.sh.up.pos, p.sh.up.vel, p.sh.up.door⟩⟩, ⟨⟨x.l.lo, x.l.hi⟩, ⟨x.u.lo, x.u.hi⟩⟩, p.pl, p.pu, p.hd⟩) (get_setD (get_setD (get_setD hp))) (by omega) rfl
  simp only [List.set_set] at s4
  exact s4
set_option maxRecDepth 20000 in
set_option maxHeartbeats 32000000 in
theorem implNewGroup_yes (h : Hs) (n : Nat) (hf : h.fault = 0) (h1 : 1 ≤ n) (h3 : n ≤ 3) (w : World) : Calls Try.prog 6 #[.agg #[.int .i64 h.fl, .int .i64 h.gp, .int .i64 h.ln, .int .i64 h.rf, .int .i64 h.sp, .int .i64 h.pu, .int .i64 h.br, .int .i64 h.dr, .int .i64 h.lv, .int .i64 h.dO, .int .i64 h.ld, .int .i64 h.qu], .int .i64 (n : Int)] w (isGrp w 0 0 h (List.replicate n (newD h)) 1 [] 0 false) := by
  have hn : inB (n : Int) 1 3 = true := by simp [inB]; omega
  have CF : ∀ W, Calls Try.prog 16 #[.agg #[.int .i64 h.fl, .int .i64 h.gp, .int .i64 h.ln, .int .i64 h.rf, .int .i64 h.sp, .int .i64 h.pu, .int .i64 h.br, .int .i64 h.dr, .int .i64 h.lv, .int .i64 h.dO, .int .i64 h.ld, .int .i64 h.qu]] W (isShaft W 0 (freshS h)) := fun W => implFreshShaft_yes h hf W
  have hd : newD h = ⟨freshS h, ⟨⟨Hs.sensA h (freshS h), Hs.sensA h (freshS h)⟩, ⟨Hs.sensB h (freshS h), Hs.sensB h (freshS h)⟩⟩, 0, 0, false⟩ := rfl
  have KA : Hid (CarOk h (freshS h).lo) := fresh_lo h hf
  have KB : Hid (CarOk h (freshS h).up) := fresh_up h hf
  obtain ⟨s, hs⟩ : ∃ s, freshS h = s := ⟨_, rfl⟩
  rw [hs] at CF hd KA KB
  have HD : Hid (newD h = (⟨s, ⟨⟨Hs.sensA h s, Hs.sensA h s⟩, ⟨Hs.sensB h s, Hs.sensB h s⟩⟩, 0, 0, false⟩ : Dk)) := hd
  have fld : ∀ W, (Instr.field 45 (.agg #[.int .i64 0, .int .i64 s.lo.pos, .int .i64 s.lo.vel, .int .i64 s.lo.door, .int .i64 s.up.pos, .int .i64 s.up.vel, .int .i64 s.up.door]) 1).run Try.prog W = .ok (.agg #[.int .i64 s.lo.pos, .int .i64 s.lo.vel, .int .i64 s.lo.door, .int .i64 s.up.pos, .int .i64 s.up.vel, .int .i64 s.up.door]) W := fun W => by kernel_rfl
  have hmk := make_decks n (by omega)
  clear hs hd
  have F0 : Hid (Blk ((w.alloc (.cells #[.int .i64 h.fl, .int .i64 h.gp, .int .i64 h.ln, .int .i64 h.rf, .int .i64 h.sp, .int .i64 h.pu, .int .i64 h.br, .int .i64 h.dr, .int .i64 h.lv, .int .i64 h.dO, .int .i64 h.ld, .int .i64 h.qu] 24)).alloc (.cells #[.int .i64 0, .int .i64 0, .int .i64 0, .int .i64 0, .int .i64 0, .int .i64 0, .int .i64 0, .int .i64 0, .int .i64 0, .int .i64 0, .int .i64 0, .int .i64 0, .int .i64 0, .int .i64 0, .slice none 0 0, .int .i64 0, .slice none 0 0, .int .i64 0, .bool false] 32)) w.heap.size [.int .i64 h.fl, .int .i64 h.gp, .int .i64 h.ln, .int .i64 h.rf, .int .i64 h.sp, .int .i64 h.pu, .int .i64 h.br, .int .i64 h.dr, .int .i64 h.lv, .int .i64 h.dO, .int .i64 h.ld, .int .i64 h.qu]) := (Blk.at_ w #[.int .i64 h.fl, .int .i64 h.gp, .int .i64 h.ln, .int .i64 h.rf, .int .i64 h.sp, .int .i64 h.pu, .int .i64 h.br, .int .i64 h.dr, .int .i64 h.lv, .int .i64 h.dO, .int .i64 h.ld, .int .i64 h.qu] _ _ rfl).alloc _
  have F1 : Hid (Blk ((w.alloc (.cells #[.int .i64 h.fl, .int .i64 h.gp, .int .i64 h.ln, .int .i64 h.rf, .int .i64 h.sp, .int .i64 h.pu, .int .i64 h.br, .int .i64 h.dr, .int .i64 h.lv, .int .i64 h.dO, .int .i64 h.ld, .int .i64 h.qu] 24)).alloc (.cells #[.int .i64 0, .int .i64 0, .int .i64 0, .int .i64 0, .int .i64 0, .int .i64 0, .int .i64 0, .int .i64 0, .int .i64 0, .int .i64 0, .int .i64 0, .int .i64 0, .int .i64 0, .int .i64 0, .slice none 0 0, .int .i64 0, .slice none 0 0, .int .i64 0, .bool false] 32)) (w.heap.size + 1) [.int .i64 0, .int .i64 0, .int .i64 0, .int .i64 0, .int .i64 0, .int .i64 0, .int .i64 0, .int .i64 0, .int .i64 0, .int .i64 0, .int .i64 0, .int .i64 0, .int .i64 0, .int .i64 0, .slice none 0 0, .int .i64 0, .slice none 0 0, .int .i64 0, .bool false]) := Blk.at_ _ #[.int .i64 0, .int .i64 0, .int .i64 0, .int .i64 0, .int .i64 0, .int .i64 0, .int .i64 0, .int .i64 0, .int .i64 0, .int .i64 0, .int .i64 0, .int .i64 0, .int .i64 0, .int .i64 0, .slice none 0 0, .int .i64 0, .slice none 0 0, .int .i64 0, .bool false] _ _ (by simp)
  have FB : Hid (Below w.heap.size w ((w.alloc (.cells #[.int .i64 h.fl, .int .i64 h.gp, .int .i64 h.ln, .int .i64 h.rf, .int .i64 h.sp, .int .i64 h.pu, .int .i64 h.br, .int .i64 h.dr, .int .i64 h.lv, .int .i64 h.dO, .int .i64 h.ld, .int .i64 h.qu] 24)).alloc (.cells #[.int .i64 0, .int .i64 0, .int .i64 0, .int .i64 0, .int .i64 0, .int .i64 0, .int .i64 0, .int .i64 0, .int .i64 0, .int .i64 0, .int .i64 0, .int .i64 0, .int .i64 0, .int .i64 0, .slice none 0 0, .int .i64 0, .slice none 0 0, .int .i64 0, .bool false] 32))) := ((Below.refl _ _).alloc (Nat.le_refl _) _).alloc (by simp) _
  obtain ⟨W0, hW0⟩ : ∃ W0, W0 = ((w.alloc (.cells #[.int .i64 h.fl, .int .i64 h.gp, .int .i64 h.ln, .int .i64 h.rf, .int .i64 h.sp, .int .i64 h.pu, .int .i64 h.br, .int .i64 h.dr, .int .i64 h.lv, .int .i64 h.dO, .int .i64 h.ld, .int .i64 h.qu] 24)).alloc (.cells #[.int .i64 0, .int .i64 0, .int .i64 0, .int .i64 0, .int .i64 0, .int .i64 0, .int .i64 0, .int .i64 0, .int .i64 0, .int .i64 0, .int .i64 0, .int .i64 0, .int .i64 0, .int .i64 0, .slice none 0 0, .int .i64 0, .slice none 0 0, .int .i64 0, .bool false] 32)) := ⟨_, rfl⟩
  rw [← hW0] at F0 F1 FB
  have HW0 : Hid (W0 = ((w.alloc (.cells #[.int .i64 h.fl, .int .i64 h.gp, .int .i64 h.ln, .int .i64 h.rf, .int .i64 h.sp, .int .i64 h.pu, .int .i64 h.br, .int .i64 h.dr, .int .i64 h.lv, .int .i64 h.dO, .int .i64 h.ld, .int .i64 h.qu] 24)).alloc (.cells #[.int .i64 0, .int .i64 0, .int .i64 0, .int .i64 0, .int .i64 0, .int .i64 0, .int .i64 0, .int .i64 0, .int .i64 0, .int .i64 0, .int .i64 0, .int .i64 0, .int .i64 0, .int .i64 0, .slice none 0 0, .int .i64 0, .slice none 0 0, .int .i64 0, .bool false] 32))) := hW0
  clear hW0
  go_enter Try.func6, Try.ntmps6
  go_upto_region 1 with fail
  rw [← HW0.out]
  clear HW0
  go_upto_region 7 with (first | (refine load_blk 24 _ Try.underlying24 (by kernel_rfl) F0.out rfl rfl rfl ?_) | (go_at_call 14; refine (implFault_any h _).mono ?_; rw [hf]; rintro e w1 ⟨rfl, hb⟩; have F0 : Hid (Blk w1 w.heap.size [.int .i64 h.fl, .int .i64 h.gp, .int .i64 h.ln, .int .i64 h.rf, .int .i64 h.sp, .int .i64 h.pu, .int .i64 h.br, .int .i64 h.dr, .int .i64 h.lv, .int .i64 h.dO, .int .i64 h.ld, .int .i64 h.qu]) := F0.out.below hb F0.out.lt; have F1 : Hid (Blk w1 (w.heap.size + 1) [.int .i64 0, .int .i64 0, .int .i64 0, .int .i64 0, .int .i64 0, .int .i64 0, .int .i64 0, .int .i64 0, .int .i64 0, .int .i64 0, .int .i64 0, .int .i64 0, .int .i64 0, .int .i64 0, .slice none 0 0, .int .i64 0, .slice none 0 0, .int .i64 0, .bool false]) := F1.out.below hb F1.out.lt; have FB : Hid (Below w.heap.size w w1) := FB.out.trans (hb.mono FB.out.size); clear hb) | (go_at_call 15; refine (isWithin_any n 1 3 _).mono ?_; rw [hn]; rintro e w' ⟨rfl, hw⟩; obtain rfl := hw.symm; clear hw))
  clear hmk
  obtain ⟨g, hgb⟩ : ∃ g, g = w1.heap.size := ⟨_, rfl⟩
  obtain ⟨W1, hW1⟩ : ∃ W1, W1 = w1.alloc (.cells (madeCells (cellsD zeroD).toArray (n * 13)) 53) := ⟨_, rfl⟩
  have lg1 := F1.out.lt
  have FO : Hid (OwD W1 (w.heap.size + 2) g n n (List.replicate n zeroD)) := by rw [hW1, hgb]; exact own_madeD n (by omega) w1 _ (by omega)
  rw [← hgb] at lg1
  have F0 : Hid (Blk W1 w.heap.size [.int .i64 h.fl, .int .i64 h.gp, .int .i64 h.ln, .int .i64 h.rf, .int .i64 h.sp, .int .i64 h.pu, .int .i64 h.br, .int .i64 h.dr, .int .i64 h.lv, .int .i64 h.dO, .int .i64 h.ld, .int .i64 h.qu]) := by rw [hW1]; exact F0.out.alloc _
  have F1 : Hid (Blk W1 (w.heap.size + 1) [.int .i64 0, .int .i64 0, .int .i64 0, .int .i64 0, .int .i64 0, .int .i64 0, .int .i64 0, .int .i64 0, .int .i64 0, .int .i64 0, .int .i64 0, .int .i64 0, .int .i64 0, .int .i64 0, .slice none 0 0, .int .i64 0, .slice none 0 0, .int .i64 0, .bool false]) := by rw [hW1]; exact F1.out.alloc _
  have FB : Hid (Below w.heap.size w W1) := by rw [hW1]; exact FB.out.alloc FB.out.size _
  rw [← hW1, ← hgb]
  clear hW1 hgb
  go_wp2_with fail
  go_loopw [22] (fun kk wr => ∃ i : Nat, kk = .int .i64 i ∧ i ≤ n ∧ Blk wr w.heap.size [.int .i64 h.fl, .int .i64 h.gp, .int .i64 h.ln, .int .i64 h.rf, .int .i64 h.sp, .int .i64 h.pu, .int .i64 h.br, .int .i64 h.dr, .int .i64 h.lv, .int .i64 h.dO, .int .i64 h.ld, .int .i64 h.qu] ∧ Blk wr (w.heap.size + 1) [.int .i64 0, .int .i64 0, .int .i64 0, .int .i64 0, .int .i64 0, .int .i64 0, .int .i64 0, .int .i64 0, .int .i64 0, .int .i64 0, .int .i64 0, .int .i64 0, .int .i64 0, .int .i64 0, .slice none 0 0, .int .i64 0, .slice none 0 0, .int .i64 0, .bool false] ∧ OwD wr (w.heap.size + 2) g n n (List.replicate i (⟨s, ⟨⟨Hs.sensA h s, Hs.sensA h s⟩, ⟨Hs.sensB h s, Hs.sensB h s⟩⟩, 0, 0, false⟩ : Dk) ++ List.replicate (n - i) zeroD) ∧ Below w.heap.size w wr) (fun kk _ => n - (intOf kk).toNat)
  case atStart => exact ⟨0, rfl, by omega, F0.out, F1.out, by simpa using FO.out, FB.out⟩
  case round =>
    obtain ⟨i, rfl, hi, hF0, hF1, hFO, hFB⟩ := hrel
    clear F0 F1 FO FB
    have F0 : Hid (Blk wr w.heap.size [.int .i64 h.fl, .int .i64 h.gp, .int .i64 h.ln, .int .i64 h.rf, .int .i64 h.sp, .int .i64 h.pu, .int .i64 h.br, .int .i64 h.dr, .int .i64 h.lv, .int .i64 h.dO, .int .i64 h.ld, .int .i64 h.qu]) := hF0
    have F1 : Hid (Blk wr (w.heap.size + 1) [.int .i64 0, .int .i64 0, .int .i64 0, .int .i64 0, .int .i64 0, .int .i64 0, .int .i64 0, .int .i64 0, .int .i64 0, .int .i64 0, .int .i64 0, .int .i64 0, .int .i64 0, .int .i64 0, .slice none 0 0, .int .i64 0, .slice none 0 0, .int .i64 0, .bool false]) := hF1
    have FO : Hid (OwD wr (w.heap.size + 2) g n n (List.replicate i (⟨s, ⟨⟨Hs.sensA h s, Hs.sensA h s⟩, ⟨Hs.sensB h s, Hs.sensB h s⟩⟩, 0, 0, false⟩ : Dk) ++ List.replicate (n - i) zeroD)) := hFO
    have FB : Hid (Below w.heap.size w wr) := hFB
    clear hF0 hF1 hFO hFB
    by_cases hlt : i < n
    · have HZ : Hid ((List.replicate i (⟨s, ⟨⟨Hs.sensA h s, Hs.sensA h s⟩, ⟨Hs.sensB h s, Hs.sensB h s⟩⟩, 0, 0, false⟩ : Dk) ++ List.replicate (n - i) zeroD)[i]? = some zeroD) := rep_at hlt
      have HE : Hid ((List.replicate i (⟨s, ⟨⟨Hs.sensA h s, Hs.sensA h s⟩, ⟨Hs.sensB h s, Hs.sensB h s⟩⟩, 0, 0, false⟩ : Dk) ++ List.replicate (n - i) zeroD).set i (⟨s, ⟨⟨Hs.sensA h s, Hs.sensA h s⟩, ⟨Hs.sensB h s, Hs.sensB h s⟩⟩, 0, 0, false⟩ : Dk) = List.replicate (i + 1) (⟨s, ⟨⟨Hs.sensA h s, Hs.sensA h s⟩, ⟨Hs.sensB h s, Hs.sensB h s⟩⟩, 0, 0, false⟩ : Dk) ++ List.replicate (n - (i + 1)) zeroD) := rep_set hlt
      go_upto_region 11 with (first | (refine load_blk 24 _ Try.underlying24 (by kernel_rfl) F0.out rfl rfl rfl ?_) | (go_at_call 16; refine (CF _).mono ?_; rintro e w2 ⟨rfl, hb⟩; have FO : Hid (OwD w2 (w.heap.size + 2) g n n (List.replicate i (⟨s, ⟨⟨Hs.sensA h s, Hs.sensA h s⟩, ⟨Hs.sensB h s, Hs.sensB h s⟩⟩, 0, 0, false⟩ : Dk) ++ List.replicate (n - i) zeroD)) := FO.out.below hb FO.out.bl.2; have F0 : Hid (Blk w2 w.heap.size [.int .i64 h.fl, .int .i64 h.gp, .int .i64 h.ln, .int .i64 h.rf, .int .i64 h.sp, .int .i64 h.pu, .int .i64 h.br, .int .i64 h.dr, .int .i64 h.lv, .int .i64 h.dO, .int .i64 h.ld, .int .i64 h.qu]) := F0.out.below hb F0.out.lt; have F1 : Hid (Blk w2 (w.heap.size + 1) [.int .i64 0, .int .i64 0, .int .i64 0, .int .i64 0, .int .i64 0, .int .i64 0, .int .i64 0, .int .i64 0, .int .i64 0, .int .i64 0, .int .i64 0, .int .i64 0, .int .i64 0, .int .i64 0, .slice none 0 0, .int .i64 0, .slice none 0 0, .int .i64 0, .bool false]) := F1.out.below hb F1.out.lt; have FB : Hid (Below w.heap.size w w2) := FB.out.trans (hb.mono FB.out.size); clear hb; obtain ⟨d0, d1, d2, d3, d4, d5, d6, d7, d8, d9, d10, d11, d12⟩ := FO.out.d13 HZ.out; have df0 := FO.out.fz (i * 13); have df1 := FO.out.fz (i * 13 + 1); have df2 := FO.out.fz (i * 13 + 2); have df3 := FO.out.fz (i * 13 + 3); have df4 := FO.out.fz (i * 13 + 4); have df5 := FO.out.fz (i * 13 + 5); have df6 := FO.out.fz (i * 13 + 6); have df7 := FO.out.fz (i * 13 + 7); have df8 := FO.out.fz (i * 13 + 8); have df9 := FO.out.fz (i * 13 + 9); have df10 := FO.out.fz (i * 13 + 10); have df11 := FO.out.fz (i * 13 + 11); have df12 := FO.out.fz (i * 13 + 12)))
      obtain ⟨wq, hwq⟩ : ∃ wq, wq = (((((w2.setCell ⟨g, i * 13, none⟩ (.int .i64 s.lo.pos)).setCell ⟨g, i * 13 + 1, none⟩ (.int .i64 s.lo.vel)).setCell ⟨g, i * 13 + 2, none⟩ (.int .i64 s.lo.door)).setCell ⟨g, i * 13 + 3, none⟩ (.int .i64 s.up.pos)).setCell ⟨g, i * 13 + 4, none⟩ (.int .i64 s.up.vel)).setCell ⟨g, i * 13 + 5, none⟩ (.int .i64 s.up.door) := ⟨_, rfl⟩
      rw [← hwq]
      have F0 : Hid (Blk wq w.heap.size [.int .i64 h.fl, .int .i64 h.gp, .int .i64 h.ln, .int .i64 h.rf, .int .i64 h.sp, .int .i64 h.pu, .int .i64 h.br, .int .i64 h.dr, .int .i64 h.lv, .int .i64 h.dO, .int .i64 h.ld, .int .i64 h.qu]) := by rw [hwq]; exact Blk.putB_other (by omega) [.int .i64 s.lo.pos, .int .i64 s.lo.vel, .int .i64 s.lo.door, .int .i64 s.up.pos, .int .i64 s.up.vel, .int .i64 s.up.door] (i * 13) F0.out
      have F1 : Hid (Blk wq (w.heap.size + 1) [.int .i64 0, .int .i64 0, .int .i64 0, .int .i64 0, .int .i64 0, .int .i64 0, .int .i64 0, .int .i64 0, .int .i64 0, .int .i64 0, .int .i64 0, .int .i64 0, .int .i64 0, .int .i64 0, .slice none 0 0, .int .i64 0, .slice none 0 0, .int .i64 0, .bool false]) := by rw [hwq]; exact Blk.putB_other (by omega) [.int .i64 s.lo.pos, .int .i64 s.lo.vel, .int .i64 s.lo.door, .int .i64 s.up.pos, .int .i64 s.up.vel, .int .i64 s.up.door] (i * 13) F1.out
      have FO : Hid (OwD wq (w.heap.size + 2) g n n ((List.replicate i (⟨s, ⟨⟨Hs.sensA h s, Hs.sensA h s⟩, ⟨Hs.sensB h s, Hs.sensB h s⟩⟩, 0, 0, false⟩ : Dk) ++ List.replicate (n - i) zeroD).set i (⟨s, ⟨⟨0, 0⟩, ⟨0, 0⟩⟩, 0, 0, false⟩ : Dk))) := by rw [hwq]; exact FO.out.putS s HZ.out
      have FB : Hid (Below w.heap.size w wq) := by rw [hwq]; exact below_putB FB.out (by omega) [.int .i64 s.lo.pos, .int .i64 s.lo.vel, .int .i64 s.lo.door, .int .i64 s.up.pos, .int .i64 s.up.vel, .int .i64 s.up.door] (i * 13)
      have HZ : Hid (((List.replicate i (⟨s, ⟨⟨Hs.sensA h s, Hs.sensA h s⟩, ⟨Hs.sensB h s, Hs.sensB h s⟩⟩, 0, 0, false⟩ : Dk) ++ List.replicate (n - i) zeroD).set i (⟨s, ⟨⟨0, 0⟩, ⟨0, 0⟩⟩, 0, 0, false⟩ : Dk))[i]? = some (⟨s, ⟨⟨0, 0⟩, ⟨0, 0⟩⟩, 0, 0, false⟩ : Dk)) := get_setD HZ.out
      clear hwq d0 df0 d1 df1 d2 df2 d3 df3 d4 df4 d5 df5 d6 df6 d7 df7 d8 df8 d9 df9 d10 df10 d11 df11 d12 df12
      have F0 : Hid (Blk wq.drew w.heap.size [.int .i64 h.fl, .int .i64 h.gp, .int .i64 h.ln, .int .i64 h.rf, .int .i64 h.sp, .int .i64 h.pu, .int .i64 h.br, .int .i64 h.dr, .int .i64 h.lv, .int .i64 h.dO, .int .i64 h.ld, .int .i64 h.qu]) := F0.out.below (Below.refl _ _).drew F0.out.lt
      have F1 : Hid (Blk wq.drew (w.heap.size + 1) [.int .i64 0, .int .i64 0, .int .i64 0, .int .i64 0, .int .i64 0, .int .i64 0, .int .i64 0, .int .i64 0, .int .i64 0, .int .i64 0, .int .i64 0, .int .i64 0, .int .i64 0, .int .i64 0, .slice none 0 0, .int .i64 0, .slice none 0 0, .int .i64 0, .bool false]) := F1.out.below (Below.refl _ _).drew F1.out.lt
      have FO : Hid (OwD wq.drew (w.heap.size + 2) g n n ((List.replicate i (⟨s, ⟨⟨Hs.sensA h s, Hs.sensA h s⟩, ⟨Hs.sensB h s, Hs.sensB h s⟩⟩, 0, 0, false⟩ : Dk) ++ List.replicate (n - i) zeroD).set i (⟨s, ⟨⟨0, 0⟩, ⟨0, 0⟩⟩, 0, 0, false⟩ : Dk))) := FO.out.drew
      have HZ : Hid (((List.replicate i (⟨s, ⟨⟨Hs.sensA h s, Hs.sensA h s⟩, ⟨Hs.sensB h s, Hs.sensB h s⟩⟩, 0, 0, false⟩ : Dk) ++ List.replicate (n - i) zeroD).set i (⟨s, ⟨⟨0, 0⟩, ⟨0, 0⟩⟩, 0, 0, false⟩ : Dk))[i]? = some (⟨s, ⟨⟨0, 0⟩, ⟨0, 0⟩⟩, 0, 0, false⟩ : Dk)) := HZ.out
      have FB : Hid (Below w.heap.size w wq.drew) := FB.out.drew
      have d0 := (FO.out.d13 HZ.out).c0
      have d1 := (FO.out.d13 HZ.out).c1
      have d2 := (FO.out.d13 HZ.out).c2
      have d3 := (FO.out.d13 HZ.out).c3
      have d4 := (FO.out.d13 HZ.out).c4
      have d5 := (FO.out.d13 HZ.out).c5
      refine wp_region_held_drew (S := (fun w'' => Blk w'' w.heap.size ([.int .i64 h.fl, .int .i64 h.gp, .int .i64 h.ln, .int .i64 h.rf, .int .i64 h.sp, .int .i64 h.pu, .int .i64 h.br, .int .i64 h.dr, .int .i64 h.lv, .int .i64 h.dO, .int .i64 h.ld, .int .i64 h.qu]) ∧ w''.cell? ⟨g, i * 13, none⟩ = some (.int .i64 s.lo.pos) ∧ w''.cell? ⟨g, i * 13 + 1, none⟩ = some (.int .i64 s.lo.vel) ∧ w''.cell? ⟨g, i * 13 + 2, none⟩ = some (.int .i64 s.lo.door) ∧ w''.cell? ⟨g, i * 13 + 3, none⟩ = some (.int .i64 s.up.pos) ∧ w''.cell? ⟨g, i * 13 + 4, none⟩ = some (.int .i64 s.up.vel) ∧ w''.cell? ⟨g, i * 13 + 5, none⟩ = some (.int .i64 s.up.door))) (by kernel_rfl) (by (try dsimp only); first | exact ⟨F0.out, d0, d1, d2, d3, d4, d5⟩ | go_keep) (fun hHeld => ?_)
      obtain ⟨v_1, hw1⟩ : ∃ v_1, v_1 = wq.drew := ⟨_, rfl⟩
      have F0 : Hid (Blk v_1 w.heap.size [.int .i64 h.fl, .int .i64 h.gp, .int .i64 h.ln, .int .i64 h.rf, .int .i64 h.sp, .int .i64 h.pu, .int .i64 h.br, .int .i64 h.dr, .int .i64 h.lv, .int .i64 h.dO, .int .i64 h.ld, .int .i64 h.qu]) := by rw [hw1]; exact F0.out
      have F1 : Hid (Blk v_1 (w.heap.size + 1) [.int .i64 0, .int .i64 0, .int .i64 0, .int .i64 0, .int .i64 0, .int .i64 0, .int .i64 0, .int .i64 0, .int .i64 0, .int .i64 0, .int .i64 0, .int .i64 0, .int .i64 0, .int .i64 0, .slice none 0 0, .int .i64 0, .slice none 0 0, .int .i64 0, .bool false]) := by rw [hw1]; exact F1.out
      have FO : Hid (OwD v_1 (w.heap.size + 2) g n n ((List.replicate i (⟨s, ⟨⟨Hs.sensA h s, Hs.sensA h s⟩, ⟨Hs.sensB h s, Hs.sensB h s⟩⟩, 0, 0, false⟩ : Dk) ++ List.replicate (n - i) zeroD).set i (⟨s, ⟨⟨0, 0⟩, ⟨0, 0⟩⟩, 0, 0, false⟩ : Dk))) := by rw [hw1]; exact FO.out
      have FB : Hid (Below w.heap.size w v_1) := by rw [hw1]; exact FB.out
      rw [← hw1] at hHeld ⊢
      clear hw1
      have d0 := (FO.out.d13 HZ.out).c0
      have d1 := (FO.out.d13 HZ.out).c1
      have d2 := (FO.out.d13 HZ.out).c2
      have d3 := (FO.out.d13 HZ.out).c3
      have d4 := (FO.out.d13 HZ.out).c4
      have d5 := (FO.out.d13 HZ.out).c5
      refine tkz 0 rfl ?_
      refine tkz 1 rfl ?_
      refine tkz 2 rfl ?_ (hy := Or.inl ⟨by kernel_rfl, fun wx hSw => exec_load_blk 24 _ Try.underlying24 (by kernel_rfl) rfl rfl hSw.1⟩)
      refine tkz 3 rfl ?_
      refine tkz 4 rfl ?_
      refine tkz 5 rfl ?_
      refine tkz 6 rfl ?_
      refine tkz 7 rfl ?_
      refine wpAnyH_ready (rs := [8]) (by kernel_rfl) (by simp) ?_
      refine (AllReadyH.cons rfl (fun K hK => ?_) AllReadyH.nil)
      go_simp
      refine (sensedSpans_any h s KA.out KB.out _).mono ?_
      rintro e v_2 ⟨rfl, hb⟩
      have F0 : Hid (Blk v_2 w.heap.size [.int .i64 h.fl, .int .i64 h.gp, .int .i64 h.ln, .int .i64 h.rf, .int .i64 h.sp, .int .i64 h.pu, .int .i64 h.br, .int .i64 h.dr, .int .i64 h.lv, .int .i64 h.dO, .int .i64 h.ld, .int .i64 h.qu]) := F0.out.below hb F0.out.lt
      have F1 : Hid (Blk v_2 (w.heap.size + 1) [.int .i64 0, .int .i64 0, .int .i64 0, .int .i64 0, .int .i64 0, .int .i64 0, .int .i64 0, .int .i64 0, .int .i64 0, .int .i64 0, .int .i64 0, .int .i64 0, .int .i64 0, .int .i64 0, .slice none 0 0, .int .i64 0, .slice none 0 0, .int .i64 0, .bool false]) := F1.out.below hb F1.out.lt
      have FO : Hid (OwD v_2 (w.heap.size + 2) g n n ((List.replicate i (⟨s, ⟨⟨Hs.sensA h s, Hs.sensA h s⟩, ⟨Hs.sensB h s, Hs.sensB h s⟩⟩, 0, 0, false⟩ : Dk) ++ List.replicate (n - i) zeroD).set i (⟨s, ⟨⟨0, 0⟩, ⟨0, 0⟩⟩, 0, 0, false⟩ : Dk))) := FO.out.below hb FO.out.bl.2
      have HZ : Hid (((List.replicate i (⟨s, ⟨⟨Hs.sensA h s, Hs.sensA h s⟩, ⟨Hs.sensB h s, Hs.sensB h s⟩⟩, 0, 0, false⟩ : Dk) ++ List.replicate (n - i) zeroD).set i (⟨s, ⟨⟨0, 0⟩, ⟨0, 0⟩⟩, 0, 0, false⟩ : Dk))[i]? = some (⟨s, ⟨⟨0, 0⟩, ⟨0, 0⟩⟩, 0, 0, false⟩ : Dk)) := HZ.out
      have FB : Hid (Below w.heap.size w v_2) := FB.out.trans (hb.mono FB.out.size)
      clear hb
      have d0 := (FO.out.d13 HZ.out).c0
      have d1 := (FO.out.d13 HZ.out).c1
      have d2 := (FO.out.d13 HZ.out).c2
      have d3 := (FO.out.d13 HZ.out).c3
      have d4 := (FO.out.d13 HZ.out).c4
      have d5 := (FO.out.d13 HZ.out).c5
      try dsimp only
      refine hK.out _ _ (by (try dsimp only); first | exact ⟨F0.out, d0, d1, d2, d3, d4, d5⟩ | go_keep) (fun hHeld => ?_)
      clear hK K
      try simp only [Act.put, List.getElem_toArray, List.getElem_cons_succ, List.getElem_cons_zero, List.setIfInBounds_toArray, List.set_cons_zero, List.set_cons_succ]
      refine tkz 9 rfl ?_
      refine tkz 10 rfl ?_
      refine wpAnyH_ready (rs := [11]) (by kernel_rfl) (by simp) ?_
      refine (AllReadyH.cons rfl (fun K hK => ?_) AllReadyH.nil)
      have e6 := (FO.out.d13 HZ.out).c6
      have e7 := (FO.out.d13 HZ.out).c7
      have e8 := (FO.out.d13 HZ.out).c8
      have e9 := (FO.out.d13 HZ.out).c9
      have ef6 := FO.out.fz (i * 13 + 6)
      have ef7 := FO.out.fz (i * 13 + 7)
      have ef8 := FO.out.fz (i * 13 + 8)
      have ef9 := FO.out.fz (i * 13 + 9)
      go_simp
      obtain ⟨v_3, hw2⟩ : ∃ v_3, v_3 = (((v_2.setCell ⟨g, i * 13 + 6, none⟩ (.int .i64 (Hs.sensA h s))).setCell ⟨g, i * 13 + 7, none⟩ (.int .i64 (Hs.sensA h s))).setCell ⟨g, i * 13 + 8, none⟩ (.int .i64 (Hs.sensB h s))).setCell ⟨g, i * 13 + 9, none⟩ (.int .i64 (Hs.sensB h s)) := ⟨_, rfl⟩
      change K _ ((((v_2.setCell ⟨g, i * 13 + 6, none⟩ (.int .i64 (Hs.sensA h s))).setCell ⟨g, i * 13 + 7, none⟩ (.int .i64 (Hs.sensA h s))).setCell ⟨g, i * 13 + 8, none⟩ (.int .i64 (Hs.sensB h s))).setCell ⟨g, i * 13 + 9, none⟩ (.int .i64 (Hs.sensB h s)))
      rw [← hw2]
      clear e6 e7 e8 e9 ef6 ef7 ef8 ef9
      have F0 : Hid (Blk v_3 w.heap.size [.int .i64 h.fl, .int .i64 h.gp, .int .i64 h.ln, .int .i64 h.rf, .int .i64 h.sp, .int .i64 h.pu, .int .i64 h.br, .int .i64 h.dr, .int .i64 h.lv, .int .i64 h.dO, .int .i64 h.ld, .int .i64 h.qu]) := by rw [hw2]; exact Blk.putB_other (by omega) [.int .i64 (Hs.sensA h s), .int .i64 (Hs.sensA h s), .int .i64 (Hs.sensB h s), .int .i64 (Hs.sensB h s)] (i * 13 + 6) F0.out
      have F1 : Hid (Blk v_3 (w.heap.size + 1) [.int .i64 0, .int .i64 0, .int .i64 0, .int .i64 0, .int .i64 0, .int .i64 0, .int .i64 0, .int .i64 0, .int .i64 0, .int .i64 0, .int .i64 0, .int .i64 0, .int .i64 0, .int .i64 0, .slice none 0 0, .int .i64 0, .slice none 0 0, .int .i64 0, .bool false]) := by rw [hw2]; exact Blk.putB_other (by omega) [.int .i64 (Hs.sensA h s), .int .i64 (Hs.sensA h s), .int .i64 (Hs.sensB h s), .int .i64 (Hs.sensB h s)] (i * 13 + 6) F1.out
      have FO : Hid (OwD v_3 (w.heap.size + 2) g n n (((List.replicate i (⟨s, ⟨⟨Hs.sensA h s, Hs.sensA h s⟩, ⟨Hs.sensB h s, Hs.sensB h s⟩⟩, 0, 0, false⟩ : Dk) ++ List.replicate (n - i) zeroD).set i (⟨s, ⟨⟨0, 0⟩, ⟨0, 0⟩⟩, 0, 0, false⟩ : Dk)).set i (⟨s, ⟨⟨Hs.sensA h s, Hs.sensA h s⟩, ⟨Hs.sensB h s, Hs.sensB h s⟩⟩, 0, 0, false⟩ : Dk))) := by rw [hw2]; exact FO.out.putX (⟨⟨Hs.sensA h s, Hs.sensA h s⟩, ⟨Hs.sensB h s, Hs.sensB h s⟩⟩ : Ss) HZ.out
      have HZ : Hid ((((List.replicate i (⟨s, ⟨⟨Hs.sensA h s, Hs.sensA h s⟩, ⟨Hs.sensB h s, Hs.sensB h s⟩⟩, 0, 0, false⟩ : Dk) ++ List.replicate (n - i) zeroD).set i (⟨s, ⟨⟨0, 0⟩, ⟨0, 0⟩⟩, 0, 0, false⟩ : Dk)).set i (⟨s, ⟨⟨Hs.sensA h s, Hs.sensA h s⟩, ⟨Hs.sensB h s, Hs.sensB h s⟩⟩, 0, 0, false⟩ : Dk))[i]? = some (⟨s, ⟨⟨Hs.sensA h s, Hs.sensA h s⟩, ⟨Hs.sensB h s, Hs.sensB h s⟩⟩, 0, 0, false⟩ : Dk)) := get_setD HZ.out
      have FB : Hid (Below w.heap.size w v_3) := by rw [hw2]; exact below_putB FB.out (by omega) [.int .i64 (Hs.sensA h s), .int .i64 (Hs.sensA h s), .int .i64 (Hs.sensB h s), .int .i64 (Hs.sensB h s)] (i * 13 + 6)
      clear hw2
      have d0 := (FO.out.d13 HZ.out).c0
      have d1 := (FO.out.d13 HZ.out).c1
      have d2 := (FO.out.d13 HZ.out).c2
      have d3 := (FO.out.d13 HZ.out).c3
      have d4 := (FO.out.d13 HZ.out).c4
      have d5 := (FO.out.d13 HZ.out).c5
      refine hK.out _ _ (by (try dsimp only); first | exact ⟨F0.out, d0, d1, d2, d3, d4, d5⟩ | go_keep) (fun hHeld => ?_)
      clear hK K
      try simp only [Act.put, List.getElem_toArray, List.getElem_cons_succ, List.getElem_cons_zero, List.setIfInBounds_toArray, List.set_cons_zero, List.set_cons_succ]
      refine wpAnyH_done (by kernel_rfl) ?_ _
      rw [List.set_set, HE.out] at FO
      go_wp2_with fail
      go_roundw
      case rel => exact ⟨i + 1, by simp, by omega, F0.out, F1.out, FO.out, FB.out⟩
      case measure => simp [intOf]; omega
    · have ei : i = n := by omega
      subst ei
      have FO : Hid (OwD wr (w.heap.size + 2) g i i (List.replicate i (⟨s, ⟨⟨Hs.sensA h s, Hs.sensA h s⟩, ⟨Hs.sensB h s, Hs.sensB h s⟩⟩, 0, 0, false⟩ : Dk))) := by
        have q := FO.out
        rw [Nat.sub_self, List.replicate_zero, List.append_nil] at q
        exact q
      go_wp2_with (first | (refine load_blk 24 _ Try.underlying24 (by kernel_rfl) F0.out rfl rfl rfl ?_) | (refine store_blk (rvs 0 0 h (.slice (some ⟨g, 0, none⟩) i i) 1 (.slice none 0 0) 0 false) 32 _ _ (by kernel_rfl) (by kernel_rfl) (by kernel_rfl) F1.out rfl rfl rfl rfl ?_))
      refine bodyPost_ret (v := .agg #[.int .i64 0, .int .i64 0, .int .i64 h.fl, .int .i64 h.gp, .int .i64 h.ln, .int .i64 h.rf, .int .i64 h.sp, .int .i64 h.pu, .int .i64 h.br, .int .i64 h.dr, .int .i64 h.lv, .int .i64 h.dO, .int .i64 h.ld, .int .i64 h.qu, .slice (some ⟨g, 0, none⟩) i i, .int .i64 1, .slice none 0 0, .int .i64 0, .bool false]) ((F1.out.row (rvs 0 0 h (.slice (some ⟨g, 0, none⟩) i i) 1 (.slice none 0 0) 0 false)).res _ Try.results6 Try.underlying32 (by kernel_rfl) rfl) rfl ?_
      have hl : (List.replicate i (newD h)).length = i := List.length_replicate ..
      refine ⟨some ⟨g, 0, none⟩, i, none, 0, by rw [hl]; exact rfl, ?_, own_nilP _ _, (fun _ _ e => by cases e), below_row FB.out (by omega) _⟩
      rw [hl, HD.out]
      have q := FO.out.bl.1
      exact ((FO.out.base (show w.heap.size ≤ w.heap.size + 2 by omega)).row (by omega) _).own
end Go.Proofs.Ytgedakdbcjppnaa
