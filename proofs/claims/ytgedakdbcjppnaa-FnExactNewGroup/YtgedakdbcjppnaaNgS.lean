/-
  The model's new group.
-/
import Derived.Test.YtgedakdbcjppnaaGrpR
import Derived.Test.YtgedakdbcjppnaaCarV
import Derived.Test.YtgedakdbcjppnaaSpanD
import Derived.BigGuardPart
namespace Go.Proofs.Ytgedakdbcjppnaa
open Go.RowKit Pl
set_option linter.unusedSimpArgs false
set_option linter.unusedVariables false

set_option maxRecDepth 20000 in
set_option maxHeartbeats 16000000 in
theorem specNewGroup_no (h : Hs) (n : Int) (hf : h.fault ≠ 0) (w : World) : Calls Try.prog 4 #[.agg #[.int .i64 h.fl, .int .i64 h.gp, .int .i64 h.ln, .int .i64 h.rf, .int .i64 h.sp, .int .i64 h.pu, .int .i64 h.br, .int .i64 h.dr, .int .i64 h.lv, .int .i64 h.dO, .int .i64 h.ld, .int .i64 h.qu], .int .i64 n] w (isGrp w h.fault 0 zeroH [] 0 [] 0 false) := by
  have hn : (h.fault != 0) = true := by simpa using hf
  clear hf
  have F0 : Hid (Blk ((w.alloc (.cells #[.int .i64 h.fl, .int .i64 h.gp, .int .i64 h.ln, .int .i64 h.rf, .int .i64 h.sp, .int .i64 h.pu, .int .i64 h.br, .int .i64 h.dr, .int .i64 h.lv, .int .i64 h.dO, .int .i64 h.ld, .int .i64 h.qu] 24)).alloc (.cells #[.int .i64 0, .int .i64 0, .int .i64 0, .int .i64 0, .int .i64 0, .int .i64 0, .int .i64 0, .int .i64 0, .int .i64 0, .int .i64 0, .int .i64 0, .int .i64 0, .int .i64 0, .int .i64 0, .slice none 0 0, .int .i64 0, .slice none 0 0, .int .i64 0, .bool false] 32)) w.heap.size [.int .i64 h.fl, .int .i64 h.gp, .int .i64 h.ln, .int .i64 h.rf, .int .i64 h.sp, .int .i64 h.pu, .int .i64 h.br, .int .i64 h.dr, .int .i64 h.lv, .int .i64 h.dO, .int .i64 h.ld, .int .i64 h.qu]) := (Blk.at_ w #[.int .i64 h.fl, .int .i64 h.gp, .int .i64 h.ln, .int .i64 h.rf, .int .i64 h.sp, .int .i64 h.pu, .int .i64 h.br, .int .i64 h.dr, .int .i64 h.lv, .int .i64 h.dO, .int .i64 h.ld, .int .i64 h.qu] _ _ rfl).alloc _
  have F1 : Hid (Blk ((w.alloc (.cells #[.int .i64 h.fl, .int .i64 h.gp, .int .i64 h.ln, .int .i64 h.rf, .int .i64 h.sp, .int .i64 h.pu, .int .i64 h.br, .int .i64 h.dr, .int .i64 h.lv, .int .i64 h.dO, .int .i64 h.ld, .int .i64 h.qu] 24)).alloc (.cells #[.int .i64 0, .int .i64 0, .int .i64 0, .int .i64 0, .int .i64 0, .int .i64 0, .int .i64 0, .int .i64 0, .int .i64 0, .int .i64 0, .int .i64 0, .int .i64 0, .int .i64 0, .int .i64 0, .slice none 0 0, .int .i64 0, .slice none 0 0, .int .i64 0, .bool false] 32)) (w.heap.size + 1) [.int .i64 0, .int .i64 0, .int .i64 0, .int .i64 0, .int .i64 0, .int .i64 0, .int .i64 0, .int .i64 0, .int .i64 0, .int .i64 0, .int .i64 0, .int .i64 0, .int .i64 0, .int .i64 0, .slice none 0 0, .int .i64 0, .slice none 0 0, .int .i64 0, .bool false]) := Blk.at_ _ #[.int .i64 0, .int .i64 0, .int .i64 0, .int .i64 0, .int .i64 0, .int .i64 0, .int .i64 0, .int .i64 0, .int .i64 0, .int .i64 0, .int .i64 0, .int .i64 0, .int .i64 0, .int .i64 0, .slice none 0 0, .int .i64 0, .slice none 0 0, .int .i64 0, .bool false] _ _ (by simp)
  have FB : Hid (Below w.heap.size w ((w.alloc (.cells #[.int .i64 h.fl, .int .i64 h.gp, .int .i64 h.ln, .int .i64 h.rf, .int .i64 h.sp, .int .i64 h.pu, .int .i64 h.br, .int .i64 h.dr, .int .i64 h.lv, .int .i64 h.dO, .int .i64 h.ld, .int .i64 h.qu] 24)).alloc (.cells #[.int .i64 0, .int .i64 0, .int .i64 0, .int .i64 0, .int .i64 0, .int .i64 0, .int .i64 0, .int .i64 0, .int .i64 0, .int .i64 0, .int .i64 0, .int .i64 0, .int .i64 0, .int .i64 0, .slice none 0 0, .int .i64 0, .slice none 0 0, .int .i64 0, .bool false] 32))) := ((Below.refl _ _).alloc (Nat.le_refl _) _).alloc (by simp) _
  obtain ⟨W0, hW0⟩ : ∃ W0, W0 = ((w.alloc (.cells #[.int .i64 h.fl, .int .i64 h.gp, .int .i64 h.ln, .int .i64 h.rf, .int .i64 h.sp, .int .i64 h.pu, .int .i64 h.br, .int .i64 h.dr, .int .i64 h.lv, .int .i64 h.dO, .int .i64 h.ld, .int .i64 h.qu] 24)).alloc (.cells #[.int .i64 0, .int .i64 0, .int .i64 0, .int .i64 0, .int .i64 0, .int .i64 0, .int .i64 0, .int .i64 0, .int .i64 0, .int .i64 0, .int .i64 0, .int .i64 0, .int .i64 0, .int .i64 0, .slice none 0 0, .int .i64 0, .slice none 0 0, .int .i64 0, .bool false] 32)) := ⟨_, rfl⟩
  rw [← hW0] at F0 F1 FB
  have HW0 : Hid (W0 = ((w.alloc (.cells #[.int .i64 h.fl, .int .i64 h.gp, .int .i64 h.ln, .int .i64 h.rf, .int .i64 h.sp, .int .i64 h.pu, .int .i64 h.br, .int .i64 h.dr, .int .i64 h.lv, .int .i64 h.dO, .int .i64 h.ld, .int .i64 h.qu] 24)).alloc (.cells #[.int .i64 0, .int .i64 0, .int .i64 0, .int .i64 0, .int .i64 0, .int .i64 0, .int .i64 0, .int .i64 0, .int .i64 0, .int .i64 0, .int .i64 0, .int .i64 0, .int .i64 0, .int .i64 0, .slice none 0 0, .int .i64 0, .slice none 0 0, .int .i64 0, .bool false] 32))) := hW0
  clear hW0
  go_enter Try.func4, Try.ntmps4
  go_upto_region 1 with fail
  rw [← HW0.out]
  go_wp2_with (first | (refine load_blk 24 _ Try.underlying24 (by kernel_rfl) F0.out rfl rfl rfl ?_) | (go_at_call 10; refine (specFault_any h _).mono ?_; rintro e w1 ⟨rfl, hb⟩; have F0 : Hid (Blk w1 w.heap.size [.int .i64 h.fl, .int .i64 h.gp, .int .i64 h.ln, .int .i64 h.rf, .int .i64 h.sp, .int .i64 h.pu, .int .i64 h.br, .int .i64 h.dr, .int .i64 h.lv, .int .i64 h.dO, .int .i64 h.ld, .int .i64 h.qu]) := F0.out.below hb F0.out.lt; have F1 : Hid (Blk w1 (w.heap.size + 1) [.int .i64 0, .int .i64 0, .int .i64 0, .int .i64 0, .int .i64 0, .int .i64 0, .int .i64 0, .int .i64 0, .int .i64 0, .int .i64 0, .int .i64 0, .int .i64 0, .int .i64 0, .int .i64 0, .slice none 0 0, .int .i64 0, .slice none 0 0, .int .i64 0, .bool false]) := F1.out.below hb F1.out.lt; have FB : Hid (Below w.heap.size w w1) := FB.out.trans (hb.mono FB.out.size); clear hb) | (refine store_blk [.int .i64 h.fault, .int .i64 0, .int .i64 0, .int .i64 0, .int .i64 0, .int .i64 0, .int .i64 0, .int .i64 0, .int .i64 0, .int .i64 0, .int .i64 0, .int .i64 0, .int .i64 0, .int .i64 0, .slice none 0 0, .int .i64 0, .slice none 0 0, .int .i64 0, .bool false] 32 _ _ (by kernel_rfl) (by kernel_rfl) (by kernel_rfl) F1.out rfl rfl rfl rfl ?_))
  exact bodyPost_ret (v := .agg #[.int .i64 h.fault, .int .i64 0, .int .i64 0, .int .i64 0, .int .i64 0, .int .i64 0, .int .i64 0, .int .i64 0, .int .i64 0, .int .i64 0, .int .i64 0, .int .i64 0, .int .i64 0, .int .i64 0, .slice none 0 0, .int .i64 0, .slice none 0 0, .int .i64 0, .bool false]) ((F1.out.row [.int .i64 h.fault, .int .i64 0, .int .i64 0, .int .i64 0, .int .i64 0, .int .i64 0, .int .i64 0, .int .i64 0, .int .i64 0, .int .i64 0, .int .i64 0, .int .i64 0, .int .i64 0, .int .i64 0, .slice none 0 0, .int .i64 0, .slice none 0 0, .int .i64 0, .bool false]).res _ Try.results4 Try.underlying32 (by kernel_rfl) rfl) rfl (isGrp.no (below_row FB.out (by omega) _))
set_option maxRecDepth 20000 in
set_option maxHeartbeats 16000000 in
theorem specNewGroup_out (h : Hs) (n : Int) (hf : h.fault = 0) (hn : inB n 1 3 = false) (w : World) : Calls Try.prog 4 #[.agg #[.int .i64 h.fl, .int .i64 h.gp, .int .i64 h.ln, .int .i64 h.rf, .int .i64 h.sp, .int .i64 h.pu, .int .i64 h.br, .int .i64 h.dr, .int .i64 h.lv, .int .i64 h.dO, .int .i64 h.ld, .int .i64 h.qu], .int .i64 n] w (isGrp w 3 0 zeroH [] 0 [] 0 false) := by
  have F0 : Hid (Blk ((w.alloc (.cells #[.int .i64 h.fl, .int .i64 h.gp, .int .i64 h.ln, .int .i64 h.rf, .int .i64 h.sp, .int .i64 h.pu, .int .i64 h.br, .int .i64 h.dr, .int .i64 h.lv, .int .i64 h.dO, .int .i64 h.ld, .int .i64 h.qu] 24)).alloc (.cells #[.int .i64 0, .int .i64 0, .int .i64 0, .int .i64 0, .int .i64 0, .int .i64 0, .int .i64 0, .int .i64 0, .int .i64 0, .int .i64 0, .int .i64 0, .int .i64 0, .int .i64 0, .int .i64 0, .slice none 0 0, .int .i64 0, .slice none 0 0, .int .i64 0, .bool false] 32)) w.heap.size [.int .i64 h.fl, .int .i64 h.gp, .int .i64 h.ln, .int .i64 h.rf, .int .i64 h.sp, .int .i64 h.pu, .int .i64 h.br, .int .i64 h.dr, .int .i64 h.lv, .int .i64 h.dO, .int .i64 h.ld, .int .i64 h.qu]) := (Blk.at_ w #[.int .i64 h.fl, .int .i64 h.gp, .int .i64 h.ln, .int .i64 h.rf, .int .i64 h.sp, .int .i64 h.pu, .int .i64 h.br, .int .i64 h.dr, .int .i64 h.lv, .int .i64 h.dO, .int .i64 h.ld, .int .i64 h.qu] _ _ rfl).alloc _
  have F1 : Hid (Blk ((w.alloc (.cells #[.int .i64 h.fl, .int .i64 h.gp, .int .i64 h.ln, .int .i64 h.rf, .int .i64 h.sp, .int .i64 h.pu, .int .i64 h.br, .int .i64 h.dr, .int .i64 h.lv, .int .i64 h.dO, .int .i64 h.ld, .int .i64 h.qu] 24)).alloc (.cells #[.int .i64 0, .int .i64 0, .int .i64 0, .int .i64 0, .int .i64 0, .int .i64 0, .int .i64 0, .int .i64 0, .int .i64 0, .int .i64 0, .int .i64 0, .int .i64 0, .int .i64 0, .int .i64 0, .slice none 0 0, .int .i64 0, .slice none 0 0, .int .i64 0, .bool false] 32)) (w.heap.size + 1) [.int .i64 0, .int .i64 0, .int .i64 0, .int .i64 0, .int .i64 0, .int .i64 0, .int .i64 0, .int .i64 0, .int .i64 0, .int .i64 0, .int .i64 0, .int .i64 0, .int .i64 0, .int .i64 0, .slice none 0 0, .int .i64 0, .slice none 0 0, .int .i64 0, .bool false]) := Blk.at_ _ #[.int .i64 0, .int .i64 0, .int .i64 0, .int .i64 0, .int .i64 0, .int .i64 0, .int .i64 0, .int .i64 0, .int .i64 0, .int .i64 0, .int .i64 0, .int .i64 0, .int .i64 0, .int .i64 0, .slice none 0 0, .int .i64 0, .slice none 0 0, .int .i64 0, .bool false] _ _ (by simp)
  have FB : Hid (Below w.heap.size w ((w.alloc (.cells #[.int .i64 h.fl, .int .i64 h.gp, .int .i64 h.ln, .int .i64 h.rf, .int .i64 h.sp, .int .i64 h.pu, .int .i64 h.br, .int .i64 h.dr, .int .i64 h.lv, .int .i64 h.dO, .int .i64 h.ld, .int .i64 h.qu] 24)).alloc (.cells #[.int .i64 0, .int .i64 0, .int .i64 0, .int .i64 0, .int .i64 0, .int .i64 0, .int .i64 0, .int .i64 0, .int .i64 0, .int .i64 0, .int .i64 0, .int .i64 0, .int .i64 0, .int .i64 0, .slice none 0 0, .int .i64 0, .slice none 0 0, .int .i64 0, .bool false] 32))) := ((Below.refl _ _).alloc (Nat.le_refl _) _).alloc (by simp) _
  obtain ⟨W0, hW0⟩ : ∃ W0, W0 = ((w.alloc (.cells #[.int .i64 h.fl, .int .i64 h.gp, .int .i64 h.ln, .int .i64 h.rf, .int .i64 h.sp, .int .i64 h.pu, .int .i64 h.br, .int .i64 h.dr, .int .i64 h.lv, .int .i64 h.dO, .int .i64 h.ld, .int .i64 h.qu] 24)).alloc (.cells #[.int .i64 0, .int .i64 0, .int .i64 0, .int .i64 0, .int .i64 0, .int .i64 0, .int .i64 0, .int .i64 0, .int .i64 0, .int .i64 0, .int .i64 0, .int .i64 0, .int .i64 0, .int .i64 0, .slice none 0 0, .int .i64 0, .slice none 0 0, .int .i64 0, .bool false] 32)) := ⟨_, rfl⟩
  rw [← hW0] at F0 F1 FB
  have HW0 : Hid (W0 = ((w.alloc (.cells #[.int .i64 h.fl, .int .i64 h.gp, .int .i64 h.ln, .int .i64 h.rf, .int .i64 h.sp, .int .i64 h.pu, .int .i64 h.br, .int .i64 h.dr, .int .i64 h.lv, .int .i64 h.dO, .int .i64 h.ld, .int .i64 h.qu] 24)).alloc (.cells #[.int .i64 0, .int .i64 0, .int .i64 0, .int .i64 0, .int .i64 0, .int .i64 0, .int .i64 0, .int .i64 0, .int .i64 0, .int .i64 0, .int .i64 0, .int .i64 0, .int .i64 0, .int .i64 0, .slice none 0 0, .int .i64 0, .slice none 0 0, .int .i64 0, .bool false] 32))) := hW0
  clear hW0
  go_enter Try.func4, Try.ntmps4
  go_upto_region 1 with fail
  rw [← HW0.out]
  go_wp2_with (first | (refine load_blk 24 _ Try.underlying24 (by kernel_rfl) F0.out rfl rfl rfl ?_) | (go_at_call 10; refine (specFault_any h _).mono ?_; rw [hf]; rintro e w1 ⟨rfl, hb⟩; have F0 : Hid (Blk w1 w.heap.size [.int .i64 h.fl, .int .i64 h.gp, .int .i64 h.ln, .int .i64 h.rf, .int .i64 h.sp, .int .i64 h.pu, .int .i64 h.br, .int .i64 h.dr, .int .i64 h.lv, .int .i64 h.dO, .int .i64 h.ld, .int .i64 h.qu]) := F0.out.below hb F0.out.lt; have F1 : Hid (Blk w1 (w.heap.size + 1) [.int .i64 0, .int .i64 0, .int .i64 0, .int .i64 0, .int .i64 0, .int .i64 0, .int .i64 0, .int .i64 0, .int .i64 0, .int .i64 0, .int .i64 0, .int .i64 0, .int .i64 0, .int .i64 0, .slice none 0 0, .int .i64 0, .slice none 0 0, .int .i64 0, .bool false]) := F1.out.below hb F1.out.lt; have FB : Hid (Below w.heap.size w w1) := FB.out.trans (hb.mono FB.out.size); clear hb) | (go_at_call 11; refine (l1In_any n 1 3 _).mono ?_; rw [hn]; rintro e w' ⟨rfl, hw⟩; obtain rfl := hw.symm; clear hw) | (refine store_blk [.int .i64 3, .int .i64 0, .int .i64 0, .int .i64 0, .int .i64 0, .int .i64 0, .int .i64 0, .int .i64 0, .int .i64 0, .int .i64 0, .int .i64 0, .int .i64 0, .int .i64 0, .int .i64 0, .slice none 0 0, .int .i64 0, .slice none 0 0, .int .i64 0, .bool false] 32 _ _ (by kernel_rfl) (by kernel_rfl) (by kernel_rfl) F1.out rfl rfl rfl rfl ?_))
  exact bodyPost_ret (v := .agg #[.int .i64 3, .int .i64 0, .int .i64 0, .int .i64 0, .int .i64 0, .int .i64 0, .int .i64 0, .int .i64 0, .int .i64 0, .int .i64 0, .int .i64 0, .int .i64 0, .int .i64 0, .int .i64 0, .slice none 0 0, .int .i64 0, .slice none 0 0, .int .i64 0, .bool false]) ((F1.out.row [.int .i64 3, .int .i64 0, .int .i64 0, .int .i64 0, .int .i64 0, .int .i64 0, .int .i64 0, .int .i64 0, .int .i64 0, .int .i64 0, .int .i64 0, .int .i64 0, .int .i64 0, .int .i64 0, .slice none 0 0, .int .i64 0, .slice none 0 0, .int .i64 0, .bool false]).res _ Try.results4 Try.underlying32 (by kernel_rfl) rfl) rfl (isGrp.no (below_row FB.out (by omega) _))
set_option maxRecDepth 20000 in
set_option maxHeartbeats 32000000 in
theorem specNewGroup_yes (h : Hs) (n : Nat) (hf : h.fault = 0) (h1 : 1 ≤ n) (h3 : n ≤ 3) (w : World) : Calls Try.prog 4 #[.agg #[.int .i64 h.fl, .int .i64 h.gp, .int .i64 h.ln, .int .i64 h.rf, .int .i64 h.sp, .int .i64 h.pu, .int .i64 h.br, .int .i64 h.dr, .int .i64 h.lv, .int .i64 h.dO, .int .i64 h.ld, .int .i64 h.qu], .int .i64 (n : Int)] w (isGrp w 0 0 h (List.replicate n (newD h)) 1 [] 0 false) := by
  have o := Hs.ok_of (Hs.fault_zero hf).1
  have HO : Hid h.Ok := o
  clear o
  have hn : inB (n : Int) 1 3 = true := by simp [inB]; omega
  have CF : ∀ W, Calls Try.prog 12 #[.agg #[.int .i64 h.fl, .int .i64 h.gp, .int .i64 h.ln, .int .i64 h.rf, .int .i64 h.sp, .int .i64 h.pu, .int .i64 h.br, .int .i64 h.dr, .int .i64 h.lv, .int .i64 h.dO, .int .i64 h.ld, .int .i64 h.qu]] W (isShaft W 0 (freshS h)) := fun W => specFreshShaft_yes h hf W
  have hd : newD h = ⟨freshS h, ⟨⟨Hs.sensA h (freshS h), Hs.sensA h (freshS h)⟩, ⟨Hs.sensB h (freshS h), Hs.sensB h (freshS h)⟩⟩, 0, 0, false⟩ := rfl
  obtain ⟨s, hs⟩ : ∃ s, freshS h = s := ⟨_, rfl⟩
  rw [hs] at CF hd
  have HD : Hid (newD h = (⟨s, ⟨⟨Hs.sensA h s, Hs.sensA h s⟩, ⟨Hs.sensB h s, Hs.sensB h s⟩⟩, 0, 0, false⟩ : Dk)) := hd
  have fld : ∀ W, (Instr.field 45 (.agg #[.int .i64 0, .int .i64 s.lo.pos, .int .i64 s.lo.vel, .int .i64 s.lo.door, .int .i64 s.up.pos, .int .i64 s.up.vel, .int .i64 s.up.door]) 1).run Try.prog W = .ok (.agg #[.int .i64 s.lo.pos, .int .i64 s.lo.vel, .int .i64 s.lo.door, .int .i64 s.up.pos, .int .i64 s.up.vel, .int .i64 s.up.door]) W := fun W => by kernel_rfl
  clear hs hd
  have F0 : Hid (Blk ((w.alloc (.cells #[.int .i64 h.fl, .int .i64 h.gp, .int .i64 h.ln, .int .i64 h.rf, .int .i64 h.sp, .int .i64 h.pu, .int .i64 h.br, .int .i64 h.dr, .int .i64 h.lv, .int .i64 h.dO, .int .i64 h.ld, .int .i64 h.qu] 24)).alloc (.cells #[.int .i64 0, .int .i64 0, .int .i64 0, .int .i64 0, .int .i64 0, .int .i64 0, .int .i64 0, .int .i64 0, .int .i64 0, .int .i64 0, .int .i64 0, .int .i64 0, .int .i64 0, .int .i64 0, .slice none 0 0, .int .i64 0, .slice none 0 0, .int .i64 0, .bool false] 32)) w.heap.size [.int .i64 h.fl, .int .i64 h.gp, .int .i64 h.ln, .int .i64 h.rf, .int .i64 h.sp, .int .i64 h.pu, .int .i64 h.br, .int .i64 h.dr, .int .i64 h.lv, .int .i64 h.dO, .int .i64 h.ld, .int .i64 h.qu]) := (Blk.at_ w #[.int .i64 h.fl, .int .i64 h.gp, .int .i64 h.ln, .int .i64 h.rf, .int .i64 h.sp, .int .i64 h.pu, .int .i64 h.br, .int .i64 h.dr, .int .i64 h.lv, .int .i64 h.dO, .int .i64 h.ld, .int .i64 h.qu] _ _ rfl).alloc _
  have F1 : Hid (Blk ((w.alloc (.cells #[.int .i64 h.fl, .int .i64 h.gp, .int .i64 h.ln, .int .i64 h.rf, .int .i64 h.sp, .int .i64 h.pu, .int .i64 h.br, .int .i64 h.dr, .int .i64 h.lv, .int .i64 h.dO, .int .i64 h.ld, .int .i64 h.qu] 24)).alloc (.cells #[.int .i64 0, .int .i64 0, .int .i64 0, .int .i64 0, .int .i64 0, .int .i64 0, .int .i64 0, .int .i64 0, .int .i64 0, .int .i64 0, .int .i64 0, .int .i64 0, .int .i64 0, .int .i64 0, .slice none 0 0, .int .i64 0, .slice none 0 0, .int .i64 0, .bool false] 32)) (w.heap.size + 1) [.int .i64 0, .int .i64 0, .int .i64 0, .int .i64 0, .int .i64 0, .int .i64 0, .int .i64 0, .int .i64 0, .int .i64 0, .int .i64 0, .int .i64 0, .int .i64 0, .int .i64 0, .int .i64 0, .slice none 0 0, .int .i64 0, .slice none 0 0, .int .i64 0, .bool false]) := Blk.at_ _ #[.int .i64 0, .int .i64 0, .int .i64 0, .int .i64 0, .int .i64 0, .int .i64 0, .int .i64 0, .int .i64 0, .int .i64 0, .int .i64 0, .int .i64 0, .int .i64 0, .int .i64 0, .int .i64 0, .slice none 0 0, .int .i64 0, .slice none 0 0, .int .i64 0, .bool false] _ _ (by simp)
  have FB : Hid (Below w.heap.size w ((w.alloc (.cells #[.int .i64 h.fl, .int .i64 h.gp, .int .i64 h.ln, .int .i64 h.rf, .int .i64 h.sp, .int .i64 h.pu, .int .i64 h.br, .int .i64 h.dr, .int .i64 h.lv, .int .i64 h.dO, .int .i64 h.ld, .int .i64 h.qu] 24)).alloc (.cells #[.int .i64 0, .int .i64 0, .int .i64 0, .int .i64 0, .int .i64 0, .int .i64 0, .int .i64 0, .int .i64 0, .int .i64 0, .int .i64 0, .int .i64 0, .int .i64 0, .int .i64 0, .int .i64 0, .slice none 0 0, .int .i64 0, .slice none 0 0, .int .i64 0, .bool false] 32))) := ((Below.refl _ _).alloc (Nat.le_refl _) _).alloc (by simp) _
  obtain ⟨W0, hW0⟩ : ∃ W0, W0 = ((w.alloc (.cells #[.int .i64 h.fl, .int .i64 h.gp, .int .i64 h.ln, .int .i64 h.rf, .int .i64 h.sp, .int .i64 h.pu, .int .i64 h.br, .int .i64 h.dr, .int .i64 h.lv, .int .i64 h.dO, .int .i64 h.ld, .int .i64 h.qu] 24)).alloc (.cells #[.int .i64 0, .int .i64 0, .int .i64 0, .int .i64 0, .int .i64 0, .int .i64 0, .int .i64 0, .int .i64 0, .int .i64 0, .int .i64 0, .int .i64 0, .int .i64 0, .int .i64 0, .int .i64 0, .slice none 0 0, .int .i64 0, .slice none 0 0, .int .i64 0, .bool false] 32)) := ⟨_, rfl⟩
  rw [← hW0] at F0 F1 FB
  have HW0 : Hid (W0 = ((w.alloc (.cells #[.int .i64 h.fl, .int .i64 h.gp, .int .i64 h.ln, .int .i64 h.rf, .int .i64 h.sp, .int .i64 h.pu, .int .i64 h.br, .int .i64 h.dr, .int .i64 h.lv, .int .i64 h.dO, .int .i64 h.ld, .int .i64 h.qu] 24)).alloc (.cells #[.int .i64 0, .int .i64 0, .int .i64 0, .int .i64 0, .int .i64 0, .int .i64 0, .int .i64 0, .int .i64 0, .int .i64 0, .int .i64 0, .int .i64 0, .int .i64 0, .int .i64 0, .int .i64 0, .slice none 0 0, .int .i64 0, .slice none 0 0, .int .i64 0, .bool false] 32))) := hW0
  clear hW0
  go_enter Try.func4, Try.ntmps4
  go_upto_region 1 with fail
  rw [← HW0.out]
  clear HW0
  go_upto_region 7 with (first | (refine load_blk 24 _ Try.underlying24 (by kernel_rfl) F0.out rfl rfl rfl ?_) | (go_at_call 10; refine (specFault_any h _).mono ?_; rw [hf]; rintro e w1 ⟨rfl, hb⟩; have F0 : Hid (Blk w1 w.heap.size [.int .i64 h.fl, .int .i64 h.gp, .int .i64 h.ln, .int .i64 h.rf, .int .i64 h.sp, .int .i64 h.pu, .int .i64 h.br, .int .i64 h.dr, .int .i64 h.lv, .int .i64 h.dO, .int .i64 h.ld, .int .i64 h.qu]) := F0.out.below hb F0.out.lt; have F1 : Hid (Blk w1 (w.heap.size + 1) [.int .i64 0, .int .i64 0, .int .i64 0, .int .i64 0, .int .i64 0, .int .i64 0, .int .i64 0, .int .i64 0, .int .i64 0, .int .i64 0, .int .i64 0, .int .i64 0, .int .i64 0, .int .i64 0, .slice none 0 0, .int .i64 0, .slice none 0 0, .int .i64 0, .bool false]) := F1.out.below hb F1.out.lt; have FB : Hid (Below w.heap.size w w1) := FB.out.trans (hb.mono FB.out.size); clear hb) | (go_at_call 11; refine (l1In_any n 1 3 _).mono ?_; rw [hn]; rintro e w' ⟨rfl, hw⟩; obtain rfl := hw.symm; clear hw) | (refine store_new (gvs h (.slice none 0 0) 1 (.slice none 0 0) 0 false) 30 _ _ (by kernel_rfl) (by kernel_rfl) (by kernel_rfl) rfl rfl rfl rfl ?_))
  obtain ⟨gb, hgb⟩ : ∃ gb, gb = w1.heap.size := ⟨_, rfl⟩
  obtain ⟨W1, hW1⟩ : ∃ W1, W1 = w1.alloc (.cells (gvs h (.slice none 0 0) 1 (.slice none 0 0) 0 false).toArray 30) := ⟨_, rfl⟩
  have lg1 := F1.out.lt
  rw [← hgb] at lg1
  have F0 : Hid (Blk W1 w.heap.size [.int .i64 h.fl, .int .i64 h.gp, .int .i64 h.ln, .int .i64 h.rf, .int .i64 h.sp, .int .i64 h.pu, .int .i64 h.br, .int .i64 h.dr, .int .i64 h.lv, .int .i64 h.dO, .int .i64 h.ld, .int .i64 h.qu]) := by rw [hW1]; exact F0.out.alloc _
  have F1 : Hid (Blk W1 (w.heap.size + 1) [.int .i64 0, .int .i64 0, .int .i64 0, .int .i64 0, .int .i64 0, .int .i64 0, .int .i64 0, .int .i64 0, .int .i64 0, .int .i64 0, .int .i64 0, .int .i64 0, .int .i64 0, .int .i64 0, .slice none 0 0, .int .i64 0, .slice none 0 0, .int .i64 0, .bool false]) := by rw [hW1]; exact F1.out.alloc _
  have FG : Hid (Blk W1 gb (gvs h (.slice none 0 0) 1 (.slice none 0 0) 0 false)) := by rw [hW1]; exact Blk.at_ w1 (gvs h (.slice none 0 0) 1 (.slice none 0 0) 0 false).toArray _ _ hgb
  have FB : Hid (Below w.heap.size w W1) := by rw [hW1]; exact FB.out.alloc FB.out.size _
  rw [← hW1, ← hgb]
  clear hW1 hgb
  go_wp2_with fail
  go_loopw [7] (fun kk wr => ∃ i : Nat, kk = .int .i64 i ∧ i ≤ n ∧ ∃ da dc, Blk wr w.heap.size [.int .i64 h.fl, .int .i64 h.gp, .int .i64 h.ln, .int .i64 h.rf, .int .i64 h.sp, .int .i64 h.pu, .int .i64 h.br, .int .i64 h.dr, .int .i64 h.lv, .int .i64 h.dO, .int .i64 h.ld, .int .i64 h.qu] ∧ Blk wr (w.heap.size + 1) [.int .i64 0, .int .i64 0, .int .i64 0, .int .i64 0, .int .i64 0, .int .i64 0, .int .i64 0, .int .i64 0, .int .i64 0, .int .i64 0, .int .i64 0, .int .i64 0, .int .i64 0, .int .i64 0, .slice none 0 0, .int .i64 0, .slice none 0 0, .int .i64 0, .bool false] ∧ Blk wr gb (gvs h (.slice da i dc) 1 (.slice none 0 0) 0 false) ∧ OwnD wr (gb + 1) (.slice da i dc) (List.replicate i (⟨s, ⟨⟨Hs.sensA h s, Hs.sensA h s⟩, ⟨Hs.sensB h s, Hs.sensB h s⟩⟩, 0, 0, false⟩ : Dk)) ∧ Below w.heap.size w wr) (fun kk _ => n - (intOf kk).toNat)
  case atStart => exact ⟨0, rfl, by omega, none, 0, F0.out, F1.out, FG.out, own_nilD _ _, FB.out⟩
  case round =>
    obtain ⟨i, rfl, hi, da, dc, hF0, hF1, hFG, hFD, hFB⟩ := hrel
    clear F0 F1 FG FB
    have F0 : Hid (Blk wr w.heap.size [.int .i64 h.fl, .int .i64 h.gp, .int .i64 h.ln, .int .i64 h.rf, .int .i64 h.sp, .int .i64 h.pu, .int .i64 h.br, .int .i64 h.dr, .int .i64 h.lv, .int .i64 h.dO, .int .i64 h.ld, .int .i64 h.qu]) := hF0
    have F1 : Hid (Blk wr (w.heap.size + 1) [.int .i64 0, .int .i64 0, .int .i64 0, .int .i64 0, .int .i64 0, .int .i64 0, .int .i64 0, .int .i64 0, .int .i64 0, .int .i64 0, .int .i64 0, .int .i64 0, .int .i64 0, .int .i64 0, .slice none 0 0, .int .i64 0, .slice none 0 0, .int .i64 0, .bool false]) := hF1
    have FG : Hid (Blk wr gb (gvs h (.slice da i dc) 1 (.slice none 0 0) 0 false)) := hFG
    have FD : Hid (OwnD wr (gb + 1) (.slice da i dc) (List.replicate i (⟨s, ⟨⟨Hs.sensA h s, Hs.sensA h s⟩, ⟨Hs.sensB h s, Hs.sensB h s⟩⟩, 0, 0, false⟩ : Dk))) := hFD
    have FB : Hid (Below w.heap.size w wr) := hFB
    clear hF0 hF1 hFG hFD hFB
    by_cases hlt : i < n
    · go_upto_region 11 with (first | (refine load_blk 24 _ Try.underlying24 (by kernel_rfl) F0.out rfl rfl rfl ?_) | (go_at_call 12; refine (CF _).mono ?_; rintro e w2 ⟨rfl, hb⟩; have FD : Hid (OwnD w2 (gb + 1) (.slice da i dc) (List.replicate i (⟨s, ⟨⟨Hs.sensA h s, Hs.sensA h s⟩, ⟨Hs.sensB h s, Hs.sensB h s⟩⟩, 0, 0, false⟩ : Dk))) := FD.out.below hb (fun k hk => (FD.out.lt k hk).2); have F0 : Hid (Blk w2 w.heap.size [.int .i64 h.fl, .int .i64 h.gp, .int .i64 h.ln, .int .i64 h.rf, .int .i64 h.sp, .int .i64 h.pu, .int .i64 h.br, .int .i64 h.dr, .int .i64 h.lv, .int .i64 h.dO, .int .i64 h.ld, .int .i64 h.qu]) := F0.out.below hb F0.out.lt; have F1 : Hid (Blk w2 (w.heap.size + 1) [.int .i64 0, .int .i64 0, .int .i64 0, .int .i64 0, .int .i64 0, .int .i64 0, .int .i64 0, .int .i64 0, .int .i64 0, .int .i64 0, .int .i64 0, .int .i64 0, .int .i64 0, .int .i64 0, .slice none 0 0, .int .i64 0, .slice none 0 0, .int .i64 0, .bool false]) := F1.out.below hb F1.out.lt; have FG : Hid (Blk w2 gb (gvs h (.slice da i dc) 1 (.slice none 0 0) 0 false)) := FG.out.below hb FG.out.lt; have FB : Hid (Below w.heap.size w w2) := FB.out.trans (hb.mono FB.out.size); clear hb) | (refine store_new [.int .i64 s.lo.pos, .int .i64 s.lo.vel, .int .i64 s.lo.door, .int .i64 s.up.pos, .int .i64 s.up.vel, .int .i64 s.up.door] 43 _ _ (by kernel_rfl) (by kernel_rfl) (by kernel_rfl) rfl rfl rfl rfl ?_))
      obtain ⟨sb, hsb⟩ : ∃ sb, sb = w2.heap.size := ⟨_, rfl⟩
      obtain ⟨wq, hwq⟩ : ∃ wq, wq = w2.alloc (.cells ([.int .i64 s.lo.pos, .int .i64 s.lo.vel, .int .i64 s.lo.door, .int .i64 s.up.pos, .int .i64 s.up.vel, .int .i64 s.up.door] : List Value).toArray 43) := ⟨_, rfl⟩
      have lsb := FG.out.lt
      have nsb : Hid (∀ k, (Value.slice da i dc).ownBlock = some k → k < sb) := fun k hk => by rw [hsb]; exact (FD.out.lt k hk).2
      rw [← hsb] at lsb
      have F0 : Hid (Blk wq w.heap.size [.int .i64 h.fl, .int .i64 h.gp, .int .i64 h.ln, .int .i64 h.rf, .int .i64 h.sp, .int .i64 h.pu, .int .i64 h.br, .int .i64 h.dr, .int .i64 h.lv, .int .i64 h.dO, .int .i64 h.ld, .int .i64 h.qu]) := by rw [hwq]; exact F0.out.alloc _
      have F1 : Hid (Blk wq (w.heap.size + 1) [.int .i64 0, .int .i64 0, .int .i64 0, .int .i64 0, .int .i64 0, .int .i64 0, .int .i64 0, .int .i64 0, .int .i64 0, .int .i64 0, .int .i64 0, .int .i64 0, .int .i64 0, .int .i64 0, .slice none 0 0, .int .i64 0, .slice none 0 0, .int .i64 0, .bool false]) := by rw [hwq]; exact F1.out.alloc _
      have FG : Hid (Blk wq gb (gvs h (.slice da i dc) 1 (.slice none 0 0) 0 false)) := by rw [hwq]; exact FG.out.alloc _
      have FD : Hid (OwnD wq (gb + 1) (.slice da i dc) (List.replicate i (⟨s, ⟨⟨Hs.sensA h s, Hs.sensA h s⟩, ⟨Hs.sensB h s, Hs.sensB h s⟩⟩, 0, 0, false⟩ : Dk))) := by rw [hwq]; exact FD.out.alloc _
      have FS : Hid (Blk wq sb [.int .i64 s.lo.pos, .int .i64 s.lo.vel, .int .i64 s.lo.door, .int .i64 s.up.pos, .int .i64 s.up.vel, .int .i64 s.up.door]) := by rw [hwq]; exact Blk.at_ w2 ([.int .i64 s.lo.pos, .int .i64 s.lo.vel, .int .i64 s.lo.door, .int .i64 s.up.pos, .int .i64 s.up.vel, .int .i64 s.up.door] : List Value).toArray _ _ hsb
      have FB : Hid (Below w.heap.size w wq) := by rw [hwq]; exact FB.out.alloc FB.out.size _
      rw [← hwq, ← hsb]
      clear hwq hsb
      have F0 : Hid (Blk wq.drew w.heap.size [.int .i64 h.fl, .int .i64 h.gp, .int .i64 h.ln, .int .i64 h.rf, .int .i64 h.sp, .int .i64 h.pu, .int .i64 h.br, .int .i64 h.dr, .int .i64 h.lv, .int .i64 h.dO, .int .i64 h.ld, .int .i64 h.qu]) := F0.out.below (Below.refl _ _).drew F0.out.lt
      have F1 : Hid (Blk wq.drew (w.heap.size + 1) [.int .i64 0, .int .i64 0, .int .i64 0, .int .i64 0, .int .i64 0, .int .i64 0, .int .i64 0, .int .i64 0, .int .i64 0, .int .i64 0, .int .i64 0, .int .i64 0, .int .i64 0, .int .i64 0, .slice none 0 0, .int .i64 0, .slice none 0 0, .int .i64 0, .bool false]) := F1.out.below (Below.refl _ _).drew F1.out.lt
      have FG : Hid (Blk wq.drew gb (gvs h (.slice da i dc) 1 (.slice none 0 0) 0 false)) := FG.out.below (Below.refl _ _).drew FG.out.lt
      have FD : Hid (OwnD wq.drew (gb + 1) (.slice da i dc) (List.replicate i (⟨s, ⟨⟨Hs.sensA h s, Hs.sensA h s⟩, ⟨Hs.sensB h s, Hs.sensB h s⟩⟩, 0, 0, false⟩ : Dk))) := FD.out.drew
      have FS : Hid (Blk wq.drew sb [.int .i64 s.lo.pos, .int .i64 s.lo.vel, .int .i64 s.lo.door, .int .i64 s.up.pos, .int .i64 s.up.vel, .int .i64 s.up.door]) := FS.out.below (Below.refl _ _).drew FS.out.lt
      have FB : Hid (Below w.heap.size w wq.drew) := FB.out.drew
      refine wp_region_held_drew (S := (fun w'' => Blk w'' w.heap.size ([.int .i64 h.fl, .int .i64 h.gp, .int .i64 h.ln, .int .i64 h.rf, .int .i64 h.sp, .int .i64 h.pu, .int .i64 h.br, .int .i64 h.dr, .int .i64 h.lv, .int .i64 h.dO, .int .i64 h.ld, .int .i64 h.qu]) ∧ Blk w'' sb ([.int .i64 s.lo.pos, .int .i64 s.lo.vel, .int .i64 s.lo.door, .int .i64 s.up.pos, .int .i64 s.up.vel, .int .i64 s.up.door]))) (by kernel_rfl) (by (try dsimp only); first | exact ⟨F0.out, FS.out⟩ | go_keep) (fun hHeld => ?_)
      obtain ⟨v_1, hw1⟩ : ∃ v_1, v_1 = wq.drew := ⟨_, rfl⟩
      have F0 : Hid (Blk v_1 w.heap.size [.int .i64 h.fl, .int .i64 h.gp, .int .i64 h.ln, .int .i64 h.rf, .int .i64 h.sp, .int .i64 h.pu, .int .i64 h.br, .int .i64 h.dr, .int .i64 h.lv, .int .i64 h.dO, .int .i64 h.ld, .int .i64 h.qu]) := by rw [hw1]; exact F0.out
      have F1 : Hid (Blk v_1 (w.heap.size + 1) [.int .i64 0, .int .i64 0, .int .i64 0, .int .i64 0, .int .i64 0, .int .i64 0, .int .i64 0, .int .i64 0, .int .i64 0, .int .i64 0, .int .i64 0, .int .i64 0, .int .i64 0, .int .i64 0, .slice none 0 0, .int .i64 0, .slice none 0 0, .int .i64 0, .bool false]) := by rw [hw1]; exact F1.out
      have FG : Hid (Blk v_1 gb (gvs h (.slice da i dc) 1 (.slice none 0 0) 0 false)) := by rw [hw1]; exact FG.out
      have FD : Hid (OwnD v_1 (gb + 1) (.slice da i dc) (List.replicate i (⟨s, ⟨⟨Hs.sensA h s, Hs.sensA h s⟩, ⟨Hs.sensB h s, Hs.sensB h s⟩⟩, 0, 0, false⟩ : Dk))) := by rw [hw1]; exact FD.out
      have FS : Hid (Blk v_1 sb [.int .i64 s.lo.pos, .int .i64 s.lo.vel, .int .i64 s.lo.door, .int .i64 s.up.pos, .int .i64 s.up.vel, .int .i64 s.up.door]) := by rw [hw1]; exact FS.out
      have FB : Hid (Below w.heap.size w v_1) := by rw [hw1]; exact FB.out
      rw [← hw1] at hHeld ⊢
      clear hw1
      refine tkz 0 rfl ?_
      refine tkz 2 rfl ?_ (hy := Or.inl ⟨by kernel_rfl, fun wx hSw => exec_load_blk 43 _ Try.underlying43 (by kernel_rfl) rfl rfl hSw.2⟩)
      refine tkz 3 rfl ?_ (hy := Or.inl ⟨by kernel_rfl, fun wx hSw => exec_load_blk 24 _ Try.underlying24 (by kernel_rfl) rfl rfl hSw.1⟩)
      refine tkz 4 rfl ?_ (hy := Or.inl ⟨by kernel_rfl, fun wx hSw => exec_load_blk 43 _ Try.underlying43 (by kernel_rfl) rfl rfl hSw.2⟩)
      refine wpAnyH_ready (rs := [1, 5]) (by kernel_rfl) (by simp) ?_
      refine (AllReadyH.cons rfl (fun K hK => ?_) (AllReadyH.cons rfl (fun K hK => ?_) AllReadyH.nil))
      · have x12 := FG.out.c 12 _ rfl
        go_simp
        refine hK.out _ _ (by (try dsimp only); first | exact ⟨F0.out, FS.out⟩ | go_keep) (fun hHeld => ?_)
        clear hK K
        try simp only [Act.put, List.getElem_toArray, List.getElem_cons_succ, List.getElem_cons_zero, List.setIfInBounds_toArray, List.set_cons_zero, List.set_cons_succ]
        refine wpAnyH_ready (rs := [5]) (by kernel_rfl) (by simp) ?_
        refine (AllReadyH.cons rfl (fun K hK => ?_) AllReadyH.nil)
        go_simp
        refine (l6Sensed_any h HO.out s _).mono ?_
        rintro e v_2 ⟨rfl, hb⟩
        have F0 : Hid (Blk v_2 w.heap.size [.int .i64 h.fl, .int .i64 h.gp, .int .i64 h.ln, .int .i64 h.rf, .int .i64 h.sp, .int .i64 h.pu, .int .i64 h.br, .int .i64 h.dr, .int .i64 h.lv, .int .i64 h.dO, .int .i64 h.ld, .int .i64 h.qu]) := F0.out.below hb F0.out.lt
        have F1 : Hid (Blk v_2 (w.heap.size + 1) [.int .i64 0, .int .i64 0, .int .i64 0, .int .i64 0, .int .i64 0, .int .i64 0, .int .i64 0, .int .i64 0, .int .i64 0, .int .i64 0, .int .i64 0, .int .i64 0, .int .i64 0, .int .i64 0, .slice none 0 0, .int .i64 0, .slice none 0 0, .int .i64 0, .bool false]) := F1.out.below hb F1.out.lt
        have FG : Hid (Blk v_2 gb (gvs h (.slice da i dc) 1 (.slice none 0 0) 0 false)) := FG.out.below hb FG.out.lt
        have FD : Hid (OwnD v_2 (gb + 1) (.slice da i dc) (List.replicate i (⟨s, ⟨⟨Hs.sensA h s, Hs.sensA h s⟩, ⟨Hs.sensB h s, Hs.sensB h s⟩⟩, 0, 0, false⟩ : Dk))) := FD.out.below hb (fun k hk => (FD.out.lt k hk).2)
        have FS : Hid (Blk v_2 sb [.int .i64 s.lo.pos, .int .i64 s.lo.vel, .int .i64 s.lo.door, .int .i64 s.up.pos, .int .i64 s.up.vel, .int .i64 s.up.door]) := FS.out.below hb FS.out.lt
        have FB : Hid (Below w.heap.size w v_2) := FB.out.trans (hb.mono FB.out.size)
        clear hb
        try dsimp only
        refine hK.out _ _ (by (try dsimp only); first | exact ⟨F0.out, FS.out⟩ | go_keep) (fun hHeld => ?_)
        clear hK K
        try simp only [Act.put, List.getElem_toArray, List.getElem_cons_succ, List.getElem_cons_zero, List.setIfInBounds_toArray, List.set_cons_zero, List.set_cons_succ]
        refine tkz 6 rfl ?_
        refine wpAnyH_ready (rs := [7]) (by kernel_rfl) (by simp) ?_
        refine (AllReadyH.cons rfl (fun K hK => ?_) AllReadyH.nil)
        refine step_at rfl ?_
        go_simp
        obtain ⟨nb, hnb⟩ : ∃ nb, nb = v_2.heap.size := ⟨_, rfl⟩
        have ln0 := FG.out.lt
        have ln1 := FS.out.lt
        rw [← hnb] at ln0 ln1
        obtain ⟨v_3, hw2⟩ : ∃ v_3, v_3 = v_2.alloc (.cells #[.int .i64 s.lo.pos, .int .i64 s.lo.vel, .int .i64 s.lo.door, .int .i64 s.up.pos, .int .i64 s.up.vel, .int .i64 s.up.door, .int .i64 (Hs.sensA h s), .int .i64 (Hs.sensA h s), .int .i64 (Hs.sensB h s), .int .i64 (Hs.sensB h s), .int .i64 0, .int .i64 0, .bool false] 53) := ⟨_, rfl⟩
        have F0 : Hid (Blk v_3 w.heap.size [.int .i64 h.fl, .int .i64 h.gp, .int .i64 h.ln, .int .i64 h.rf, .int .i64 h.sp, .int .i64 h.pu, .int .i64 h.br, .int .i64 h.dr, .int .i64 h.lv, .int .i64 h.dO, .int .i64 h.ld, .int .i64 h.qu]) := by rw [hw2]; exact F0.out.alloc _
        have F1 : Hid (Blk v_3 (w.heap.size + 1) [.int .i64 0, .int .i64 0, .int .i64 0, .int .i64 0, .int .i64 0, .int .i64 0, .int .i64 0, .int .i64 0, .int .i64 0, .int .i64 0, .int .i64 0, .int .i64 0, .int .i64 0, .int .i64 0, .slice none 0 0, .int .i64 0, .slice none 0 0, .int .i64 0, .bool false]) := by rw [hw2]; exact F1.out.alloc _
        have FG : Hid (Blk v_3 gb (gvs h (.slice da i dc) 1 (.slice none 0 0) 0 false)) := by rw [hw2]; exact FG.out.alloc _
        have FD : Hid (OwnD v_3 (gb + 1) (.slice da i dc) (List.replicate i (⟨s, ⟨⟨Hs.sensA h s, Hs.sensA h s⟩, ⟨Hs.sensB h s, Hs.sensB h s⟩⟩, 0, 0, false⟩ : Dk))) := by rw [hw2]; exact FD.out.alloc _
        have FS : Hid (Blk v_3 sb [.int .i64 s.lo.pos, .int .i64 s.lo.vel, .int .i64 s.lo.door, .int .i64 s.up.pos, .int .i64 s.up.vel, .int .i64 s.up.door]) := by rw [hw2]; exact FS.out.alloc _
        have FB : Hid (Below w.heap.size w v_3) := by rw [hw2]; exact FB.out.alloc FB.out.size _
        have FN : Hid (Blk v_3 nb (cellsD (⟨s, ⟨⟨Hs.sensA h s, Hs.sensA h s⟩, ⟨Hs.sensB h s, Hs.sensB h s⟩⟩, 0, 0, false⟩ : Dk))) := by rw [hw2]; exact Blk.at_ v_2 (cellsD (⟨s, ⟨⟨Hs.sensA h s, Hs.sensA h s⟩, ⟨Hs.sensB h s, Hs.sensB h s⟩⟩, 0, 0, false⟩ : Dk)).toArray _ _ hnb
        rw [← hw2, ← hnb]
        clear hw2 hnb
        refine hK.out _ _ (by (try dsimp only); first | exact ⟨F0.out, FS.out⟩ | go_keep) (fun hHeld => ?_)
        clear hK K
        try simp only [Act.put, List.getElem_toArray, List.getElem_cons_succ, List.getElem_cons_zero, List.setIfInBounds_toArray, List.set_cons_zero, List.set_cons_succ]
        refine wpAnyH_ready (rs := [8]) (by kernel_rfl) (by simp) ?_
        refine (AllReadyH.cons rfl (fun K hK => ?_) AllReadyH.nil)
        refine step_at rfl ?_
        refine wp_append_dk (gb + 1) (.slice da i dc) (List.replicate i (⟨s, ⟨⟨Hs.sensA h s, Hs.sensA h s⟩, ⟨Hs.sensB h s, Hs.sensB h s⟩⟩, 0, 0, false⟩ : Dk)) [(⟨s, ⟨⟨Hs.sensA h s, Hs.sensA h s⟩, ⟨Hs.sensB h s, Hs.sensB h s⟩⟩, 0, 0, false⟩ : Dk)] (List.replicate (i + 1) (⟨s, ⟨⟨Hs.sensA h s, Hs.sensA h s⟩, ⟨Hs.sensB h s, Hs.sensB h s⟩⟩, 0, 0, false⟩ : Dk)) (i + 1) (by rw [List.replicate_succ']) (List.length_replicate ..) rfl FD.out nb 0 1 rfl (fun j p hp => by cases j with | zero => (simp at hp; subst hp; exact ⟨FN.out.c 0 _ rfl, FN.out.c 1 _ rfl, FN.out.c 2 _ rfl, FN.out.c 3 _ rfl, FN.out.c 4 _ rfl, FN.out.c 5 _ rfl, FN.out.c 6 _ rfl, FN.out.c 7 _ rfl, FN.out.c 8 _ rfl, FN.out.c 9 _ rfl, FN.out.c 10 _ rfl, FN.out.c 11 _ rfl, FN.out.c 12 _ rfl⟩) | succ j => simp at hp) (Or.inr (by simp)) (by rw [List.length_replicate]; simp; omega) (by have := FG.out.lt; omega) ?_
        intro g4 c4 v_4 ho hg
        have F0 : Hid (Blk v_4 w.heap.size [.int .i64 h.fl, .int .i64 h.gp, .int .i64 h.ln, .int .i64 h.rf, .int .i64 h.sp, .int .i64 h.pu, .int .i64 h.br, .int .i64 h.dr, .int .i64 h.lv, .int .i64 h.dO, .int .i64 h.ld, .int .i64 h.qu]) := F0.out.grown hg (fun e => by have := (FD.out.lt _ e.symm).1; omega)
        have F1 : Hid (Blk v_4 (w.heap.size + 1) [.int .i64 0, .int .i64 0, .int .i64 0, .int .i64 0, .int .i64 0, .int .i64 0, .int .i64 0, .int .i64 0, .int .i64 0, .int .i64 0, .int .i64 0, .int .i64 0, .int .i64 0, .int .i64 0, .slice none 0 0, .int .i64 0, .slice none 0 0, .int .i64 0, .bool false]) := F1.out.grown hg (fun e => by have := (FD.out.lt _ e.symm).1; omega)
        have FG : Hid (Blk v_4 gb (gvs h (.slice da i dc) 1 (.slice none 0 0) 0 false)) := FG.out.grown hg (fun e => by have := (FD.out.lt _ e.symm).1; omega)
        have FS : Hid (Blk v_4 sb [.int .i64 s.lo.pos, .int .i64 s.lo.vel, .int .i64 s.lo.door, .int .i64 s.up.pos, .int .i64 s.up.vel, .int .i64 s.up.door]) := FS.out.grown hg (fun e => by have := nsb.out _ e.symm; omega)
        have FB : Hid (Below w.heap.size w v_4) := below_grown FB.out hg (fun j hj => by have := (FD.out.lt j hj).1; omega) FB.out.size
        have FD : Hid (OwnD v_4 (gb + 1) (.slice (some ⟨g4, 0, none⟩) (i + 1) c4) (List.replicate (i + 1) (⟨s, ⟨⟨Hs.sensA h s, Hs.sensA h s⟩, ⟨Hs.sensB h s, Hs.sensB h s⟩⟩, 0, 0, false⟩ : Dk))) := ho
        have lg4 := (FD.out.lt g4 rfl).1
        clear ho hg
        refine hK.out _ _ (by (try dsimp only); first | exact ⟨F0.out, FS.out⟩ | go_keep) (fun hHeld => ?_)
        clear hK K
        try simp only [Act.put, List.getElem_toArray, List.getElem_cons_succ, List.getElem_cons_zero, List.setIfInBounds_toArray, List.set_cons_zero, List.set_cons_succ]
        refine tkz 9 rfl ?_
        refine wpAnyH_ready (rs := [10]) (by kernel_rfl) (by simp) ?_
        refine (AllReadyH.cons rfl (fun K hK => ?_) AllReadyH.nil)
        have k12 := FG.out.c 12 _ rfl
        have kf12 := FG.out.f 12 (Nat.le_of_ble_eq_true rfl)
        go_simp
        obtain ⟨v_5, hw2⟩ : ∃ v_5, v_5 = v_4.setCell ⟨gb, 12, none⟩ (.slice (some ⟨g4, 0, none⟩) (i + 1) c4) := ⟨_, rfl⟩
        change K _ (v_4.setCell ⟨gb, 12, none⟩ (.slice (some ⟨g4, 0, none⟩) (i + 1) c4))
        rw [← hw2]
        clear k12 kf12
        have F0 : Hid (Blk v_5 w.heap.size [.int .i64 h.fl, .int .i64 h.gp, .int .i64 h.ln, .int .i64 h.rf, .int .i64 h.sp, .int .i64 h.pu, .int .i64 h.br, .int .i64 h.dr, .int .i64 h.lv, .int .i64 h.dO, .int .i64 h.ld, .int .i64 h.qu]) := by rw [hw2]; exact F0.out.other (by omega)
        have F1 : Hid (Blk v_5 (w.heap.size + 1) [.int .i64 0, .int .i64 0, .int .i64 0, .int .i64 0, .int .i64 0, .int .i64 0, .int .i64 0, .int .i64 0, .int .i64 0, .int .i64 0, .int .i64 0, .int .i64 0, .int .i64 0, .int .i64 0, .slice none 0 0, .int .i64 0, .slice none 0 0, .int .i64 0, .bool false]) := by rw [hw2]; exact F1.out.other (by omega)
        have FG : Hid (Blk v_5 gb (gvs h (.slice (some ⟨g4, 0, none⟩) (i + 1) c4) 1 (.slice none 0 0) 0 false)) := by rw [hw2]; exact FG.out.set _ (Nat.le_of_ble_eq_true rfl)
        have FS : Hid (Blk v_5 sb [.int .i64 s.lo.pos, .int .i64 s.lo.vel, .int .i64 s.lo.door, .int .i64 s.up.pos, .int .i64 s.up.vel, .int .i64 s.up.door]) := by rw [hw2]; exact FS.out.other (by omega)
        have FB : Hid (Below w.heap.size w v_5) := by rw [hw2]; exact FB.out.setCell (by show w.heap.size ≤ gb; omega) _
        have FD : Hid (OwnD v_5 (gb + 1) (.slice (some ⟨g4, 0, none⟩) (i + 1) c4) (List.replicate (i + 1) (⟨s, ⟨⟨Hs.sensA h s, Hs.sensA h s⟩, ⟨Hs.sensB h s, Hs.sensB h s⟩⟩, 0, 0, false⟩ : Dk))) := by rw [hw2]; exact FD.out.other (fun e => by have e2 : g4 = gb := Option.some.inj e; omega) _
        clear hw2
        refine hK.out _ _ (by (try dsimp only); first | exact ⟨F0.out, FS.out⟩ | go_keep) (fun hHeld => ?_)
        clear hK K
        try simp only [Act.put, List.getElem_toArray, List.getElem_cons_succ, List.getElem_cons_zero, List.setIfInBounds_toArray, List.set_cons_zero, List.set_cons_succ]
        refine wpAnyH_done (by kernel_rfl) ?_ _
        go_wp2_with fail
        go_roundw
        case rel => exact ⟨i + 1, by simp, by omega, some ⟨g4, 0, none⟩, c4, F0.out, F1.out, FG.out, FD.out, FB.out⟩
        case measure => simp [intOf]; omega
      · go_simp
        refine (l6Sensed_any h HO.out s _).mono ?_
        rintro e v_6 ⟨rfl, hb⟩
        have F0 : Hid (Blk v_6 w.heap.size [.int .i64 h.fl, .int .i64 h.gp, .int .i64 h.ln, .int .i64 h.rf, .int .i64 h.sp, .int .i64 h.pu, .int .i64 h.br, .int .i64 h.dr, .int .i64 h.lv, .int .i64 h.dO, .int .i64 h.ld, .int .i64 h.qu]) := F0.out.below hb F0.out.lt
        have F1 : Hid (Blk v_6 (w.heap.size + 1) [.int .i64 0, .int .i64 0, .int .i64 0, .int .i64 0, .int .i64 0, .int .i64 0, .int .i64 0, .int .i64 0, .int .i64 0, .int .i64 0, .int .i64 0, .int .i64 0, .int .i64 0, .int .i64 0, .slice none 0 0, .int .i64 0, .slice none 0 0, .int .i64 0, .bool false]) := F1.out.below hb F1.out.lt
        have FG : Hid (Blk v_6 gb (gvs h (.slice da i dc) 1 (.slice none 0 0) 0 false)) := FG.out.below hb FG.out.lt
        have FD : Hid (OwnD v_6 (gb + 1) (.slice da i dc) (List.replicate i (⟨s, ⟨⟨Hs.sensA h s, Hs.sensA h s⟩, ⟨Hs.sensB h s, Hs.sensB h s⟩⟩, 0, 0, false⟩ : Dk))) := FD.out.below hb (fun k hk => (FD.out.lt k hk).2)
        have FS : Hid (Blk v_6 sb [.int .i64 s.lo.pos, .int .i64 s.lo.vel, .int .i64 s.lo.door, .int .i64 s.up.pos, .int .i64 s.up.vel, .int .i64 s.up.door]) := FS.out.below hb FS.out.lt
        have FB : Hid (Below w.heap.size w v_6) := FB.out.trans (hb.mono FB.out.size)
        clear hb
        try dsimp only
        refine hK.out _ _ (by (try dsimp only); first | exact ⟨F0.out, FS.out⟩ | go_keep) (fun hHeld => ?_)
        clear hK K
        try simp only [Act.put, List.getElem_toArray, List.getElem_cons_succ, List.getElem_cons_zero, List.setIfInBounds_toArray, List.set_cons_zero, List.set_cons_succ]
        refine tkz 6 rfl ?_
        refine wpAnyH_ready (rs := [1, 7]) (by kernel_rfl) (by simp) ?_
        refine (AllReadyH.cons rfl (fun K hK => ?_) (AllReadyH.cons rfl (fun K hK => ?_) AllReadyH.nil))
        · have x12 := FG.out.c 12 _ rfl
          go_simp
          refine hK.out _ _ (by (try dsimp only); first | exact ⟨F0.out, FS.out⟩ | go_keep) (fun hHeld => ?_)
          clear hK K
          try simp only [Act.put, List.getElem_toArray, List.getElem_cons_succ, List.getElem_cons_zero, List.setIfInBounds_toArray, List.set_cons_zero, List.set_cons_succ]
          refine wpAnyH_ready (rs := [7]) (by kernel_rfl) (by simp) ?_
          refine (AllReadyH.cons rfl (fun K hK => ?_) AllReadyH.nil)
          refine step_at rfl ?_
          go_simp
          obtain ⟨nb, hnb⟩ : ∃ nb, nb = v_6.heap.size := ⟨_, rfl⟩
          have ln0 := FG.out.lt
          have ln1 := FS.out.lt
          rw [← hnb] at ln0 ln1
          obtain ⟨v_7, hw2⟩ : ∃ v_7, v_7 = v_6.alloc (.cells #[.int .i64 s.lo.pos, .int .i64 s.lo.vel, .int .i64 s.lo.door, .int .i64 s.up.pos, .int .i64 s.up.vel, .int .i64 s.up.door, .int .i64 (Hs.sensA h s), .int .i64 (Hs.sensA h s), .int .i64 (Hs.sensB h s), .int .i64 (Hs.sensB h s), .int .i64 0, .int .i64 0, .bool false] 53) := ⟨_, rfl⟩
          have F0 : Hid (Blk v_7 w.heap.size [.int .i64 h.fl, .int .i64 h.gp, .int .i64 h.ln, .int .i64 h.rf, .int .i64 h.sp, .int .i64 h.pu, .int .i64 h.br, .int .i64 h.dr, .int .i64 h.lv, .int .i64 h.dO, .int .i64 h.ld, .int .i64 h.qu]) := by rw [hw2]; exact F0.out.alloc _
          have F1 : Hid (Blk v_7 (w.heap.size + 1) [.int .i64 0, .int .i64 0, .int .i64 0, .int .i64 0, .int .i64 0, .int .i64 0, .int .i64 0, .int .i64 0, .int .i64 0, .int .i64 0, .int .i64 0, .int .i64 0, .int .i64 0, .int .i64 0, .slice none 0 0, .int .i64 0, .slice none 0 0, .int .i64 0, .bool false]) := by rw [hw2]; exact F1.out.alloc _
          have FG : Hid (Blk v_7 gb (gvs h (.slice da i dc) 1 (.slice none 0 0) 0 false)) := by rw [hw2]; exact FG.out.alloc _
          have FD : Hid (OwnD v_7 (gb + 1) (.slice da i dc) (List.replicate i (⟨s, ⟨⟨Hs.sensA h s, Hs.sensA h s⟩, ⟨Hs.sensB h s, Hs.sensB h s⟩⟩, 0, 0, false⟩ : Dk))) := by rw [hw2]; exact FD.out.alloc _
          have FS : Hid (Blk v_7 sb [.int .i64 s.lo.pos, .int .i64 s.lo.vel, .int .i64 s.lo.door, .int .i64 s.up.pos, .int .i64 s.up.vel, .int .i64 s.up.door]) := by rw [hw2]; exact FS.out.alloc _
          have FB : Hid (Below w.heap.size w v_7) := by rw [hw2]; exact FB.out.alloc FB.out.size _
          have FN : Hid (Blk v_7 nb (cellsD (⟨s, ⟨⟨Hs.sensA h s, Hs.sensA h s⟩, ⟨Hs.sensB h s, Hs.sensB h s⟩⟩, 0, 0, false⟩ : Dk))) := by rw [hw2]; exact Blk.at_ v_6 (cellsD (⟨s, ⟨⟨Hs.sensA h s, Hs.sensA h s⟩, ⟨Hs.sensB h s, Hs.sensB h s⟩⟩, 0, 0, false⟩ : Dk)).toArray _ _ hnb
          rw [← hw2, ← hnb]
          clear hw2 hnb
          refine hK.out _ _ (by (try dsimp only); first | exact ⟨F0.out, FS.out⟩ | go_keep) (fun hHeld => ?_)
          clear hK K
          try simp only [Act.put, List.getElem_toArray, List.getElem_cons_succ, List.getElem_cons_zero, List.setIfInBounds_toArray, List.set_cons_zero, List.set_cons_succ]
          refine wpAnyH_ready (rs := [8]) (by kernel_rfl) (by simp) ?_
          refine (AllReadyH.cons rfl (fun K hK => ?_) AllReadyH.nil)
          refine step_at rfl ?_
          refine wp_append_dk (gb + 1) (.slice da i dc) (List.replicate i (⟨s, ⟨⟨Hs.sensA h s, Hs.sensA h s⟩, ⟨Hs.sensB h s, Hs.sensB h s⟩⟩, 0, 0, false⟩ : Dk)) [(⟨s, ⟨⟨Hs.sensA h s, Hs.sensA h s⟩, ⟨Hs.sensB h s, Hs.sensB h s⟩⟩, 0, 0, false⟩ : Dk)] (List.replicate (i + 1) (⟨s, ⟨⟨Hs.sensA h s, Hs.sensA h s⟩, ⟨Hs.sensB h s, Hs.sensB h s⟩⟩, 0, 0, false⟩ : Dk)) (i + 1) (by rw [List.replicate_succ']) (List.length_replicate ..) rfl FD.out nb 0 1 rfl (fun j p hp => by cases j with | zero => (simp at hp; subst hp; exact ⟨FN.out.c 0 _ rfl, FN.out.c 1 _ rfl, FN.out.c 2 _ rfl, FN.out.c 3 _ rfl, FN.out.c 4 _ rfl, FN.out.c 5 _ rfl, FN.out.c 6 _ rfl, FN.out.c 7 _ rfl, FN.out.c 8 _ rfl, FN.out.c 9 _ rfl, FN.out.c 10 _ rfl, FN.out.c 11 _ rfl, FN.out.c 12 _ rfl⟩) | succ j => simp at hp) (Or.inr (by simp)) (by rw [List.length_replicate]; simp; omega) (by have := FG.out.lt; omega) ?_
          intro g4 c4 v_8 ho hg
          have F0 : Hid (Blk v_8 w.heap.size [.int .i64 h.fl, .int .i64 h.gp, .int .i64 h.ln, .int .i64 h.rf, .int .i64 h.sp, .int .i64 h.pu, .int .i64 h.br, .int .i64 h.dr, .int .i64 h.lv, .int .i64 h.dO, .int .i64 h.ld, .int .i64 h.qu]) := F0.out.grown hg (fun e => by have := (FD.out.lt _ e.symm).1; omega)
          have F1 : Hid (Blk v_8 (w.heap.size + 1) [.int .i64 0, .int .i64 0, .int .i64 0, .int .i64 0, .int .i64 0, .int .i64 0, .int .i64 0, .int .i64 0, .int .i64 0, .int .i64 0, .int .i64 0, .int .i64 0, .int .i64 0, .int .i64 0, .slice none 0 0, .int .i64 0, .slice none 0 0, .int .i64 0, .bool false]) := F1.out.grown hg (fun e => by have := (FD.out.lt _ e.symm).1; omega)
          have FG : Hid (Blk v_8 gb (gvs h (.slice da i dc) 1 (.slice none 0 0) 0 false)) := FG.out.grown hg (fun e => by have := (FD.out.lt _ e.symm).1; omega)
          have FS : Hid (Blk v_8 sb [.int .i64 s.lo.pos, .int .i64 s.lo.vel, .int .i64 s.lo.door, .int .i64 s.up.pos, .int .i64 s.up.vel, .int .i64 s.up.door]) := FS.out.grown hg (fun e => by have := nsb.out _ e.symm; omega)
          have FB : Hid (Below w.heap.size w v_8) := below_grown FB.out hg (fun j hj => by have := (FD.out.lt j hj).1; omega) FB.out.size
          have FD : Hid (OwnD v_8 (gb + 1) (.slice (some ⟨g4, 0, none⟩) (i + 1) c4) (List.replicate (i + 1) (⟨s, ⟨⟨Hs.sensA h s, Hs.sensA h s⟩, ⟨Hs.sensB h s, Hs.sensB h s⟩⟩, 0, 0, false⟩ : Dk))) := ho
          have lg4 := (FD.out.lt g4 rfl).1
          clear ho hg
          refine hK.out _ _ (by (try dsimp only); first | exact ⟨F0.out, FS.out⟩ | go_keep) (fun hHeld => ?_)
          clear hK K
          try simp only [Act.put, List.getElem_toArray, List.getElem_cons_succ, List.getElem_cons_zero, List.setIfInBounds_toArray, List.set_cons_zero, List.set_cons_succ]
          refine tkz 9 rfl ?_
          refine wpAnyH_ready (rs := [10]) (by kernel_rfl) (by simp) ?_
          refine (AllReadyH.cons rfl (fun K hK => ?_) AllReadyH.nil)
          have k12 := FG.out.c 12 _ rfl
          have kf12 := FG.out.f 12 (Nat.le_of_ble_eq_true rfl)
          go_simp
          obtain ⟨v_9, hw2⟩ : ∃ v_9, v_9 = v_8.setCell ⟨gb, 12, none⟩ (.slice (some ⟨g4, 0, none⟩) (i + 1) c4) := ⟨_, rfl⟩
          change K _ (v_8.setCell ⟨gb, 12, none⟩ (.slice (some ⟨g4, 0, none⟩) (i + 1) c4))
          rw [← hw2]
          clear k12 kf12
          have F0 : Hid (Blk v_9 w.heap.size [.int .i64 h.fl, .int .i64 h.gp, .int .i64 h.ln, .int .i64 h.rf, .int .i64 h.sp, .int .i64 h.pu, .int .i64 h.br, .int .i64 h.dr, .int .i64 h.lv, .int .i64 h.dO, .int .i64 h.ld, .int .i64 h.qu]) := by rw [hw2]; exact F0.out.other (by omega)
          have F1 : Hid (Blk v_9 (w.heap.size + 1) [.int .i64 0, .int .i64 0, .int .i64 0, .int .i64 0, .int .i64 0, .int .i64 0, .int .i64 0, .int .i64 0, .int .i64 0, .int .i64 0, .int .i64 0, .int .i64 0, .int .i64 0, .int .i64 0, .slice none 0 0, .int .i64 0, .slice none 0 0, .int .i64 0, .bool false]) := by rw [hw2]; exact F1.out.other (by omega)
          have FG : Hid (Blk v_9 gb (gvs h (.slice (some ⟨g4, 0, none⟩) (i + 1) c4) 1 (.slice none 0 0) 0 false)) := by rw [hw2]; exact FG.out.set _ (Nat.le_of_ble_eq_true rfl)
          have FS : Hid (Blk v_9 sb [.int .i64 s.lo.pos, .int .i64 s.lo.vel, .int .i64 s.lo.door, .int .i64 s.up.pos, .int .i64 s.up.vel, .int .i64 s.up.door]) := by rw [hw2]; exact FS.out.other (by omega)
          have FB : Hid (Below w.heap.size w v_9) := by rw [hw2]; exact FB.out.setCell (by show w.heap.size ≤ gb; omega) _
          have FD : Hid (OwnD v_9 (gb + 1) (.slice (some ⟨g4, 0, none⟩) (i + 1) c4) (List.replicate (i + 1) (⟨s, ⟨⟨Hs.sensA h s, Hs.sensA h s⟩, ⟨Hs.sensB h s, Hs.sensB h s⟩⟩, 0, 0, false⟩ : Dk))) := by rw [hw2]; exact FD.out.other (fun e => by have e2 : g4 = gb := Option.some.inj e; omega) _
          clear hw2
          refine hK.out _ _ (by (try dsimp only); first | exact ⟨F0.out, FS.out⟩ | go_keep) (fun hHeld => ?_)
          clear hK K
          try simp only [Act.put, List.getElem_toArray, List.getElem_cons_succ, List.getElem_cons_zero, List.setIfInBounds_toArray, List.set_cons_zero, List.set_cons_succ]
          refine wpAnyH_done (by kernel_rfl) ?_ _
          go_wp2_with fail
          go_roundw
          case rel => exact ⟨i + 1, by simp, by omega, some ⟨g4, 0, none⟩, c4, F0.out, F1.out, FG.out, FD.out, FB.out⟩
          case measure => simp [intOf]; omega
        · refine step_at rfl ?_
          go_simp
          obtain ⟨nb, hnb⟩ : ∃ nb, nb = v_6.heap.size := ⟨_, rfl⟩
          have ln0 := FG.out.lt
          have ln1 := FS.out.lt
          rw [← hnb] at ln0 ln1
          obtain ⟨v_10, hw2⟩ : ∃ v_10, v_10 = v_6.alloc (.cells #[.int .i64 s.lo.pos, .int .i64 s.lo.vel, .int .i64 s.lo.door, .int .i64 s.up.pos, .int .i64 s.up.vel, .int .i64 s.up.door, .int .i64 (Hs.sensA h s), .int .i64 (Hs.sensA h s), .int .i64 (Hs.sensB h s), .int .i64 (Hs.sensB h s), .int .i64 0, .int .i64 0, .bool false] 53) := ⟨_, rfl⟩
          have F0 : Hid (Blk v_10 w.heap.size [.int .i64 h.fl, .int .i64 h.gp, .int .i64 h.ln, .int .i64 h.rf, .int .i64 h.sp, .int .i64 h.pu, .int .i64 h.br, .int .i64 h.dr, .int .i64 h.lv, .int .i64 h.dO, .int .i64 h.ld, .int .i64 h.qu]) := by rw [hw2]; exact F0.out.alloc _
          have F1 : Hid (Blk v_10 (w.heap.size + 1) [.int .i64 0, .int .i64 0, .int .i64 0, .int .i64 0, .int .i64 0, .int .i64 0, .int .i64 0, .int .i64 0, .int .i64 0, .int .i64 0, .int .i64 0, .int .i64 0, .int .i64 0, .int .i64 0, .slice none 0 0, .int .i64 0, .slice none 0 0, .int .i64 0, .bool false]) := by rw [hw2]; exact F1.out.alloc _
          have FG : Hid (Blk v_10 gb (gvs h (.slice da i dc) 1 (.slice none 0 0) 0 false)) := by rw [hw2]; exact FG.out.alloc _
          have FD : Hid (OwnD v_10 (gb + 1) (.slice da i dc) (List.replicate i (⟨s, ⟨⟨Hs.sensA h s, Hs.sensA h s⟩, ⟨Hs.sensB h s, Hs.sensB h s⟩⟩, 0, 0, false⟩ : Dk))) := by rw [hw2]; exact FD.out.alloc _
          have FS : Hid (Blk v_10 sb [.int .i64 s.lo.pos, .int .i64 s.lo.vel, .int .i64 s.lo.door, .int .i64 s.up.pos, .int .i64 s.up.vel, .int .i64 s.up.door]) := by rw [hw2]; exact FS.out.alloc _
          have FB : Hid (Below w.heap.size w v_10) := by rw [hw2]; exact FB.out.alloc FB.out.size _
          have FN : Hid (Blk v_10 nb (cellsD (⟨s, ⟨⟨Hs.sensA h s, Hs.sensA h s⟩, ⟨Hs.sensB h s, Hs.sensB h s⟩⟩, 0, 0, false⟩ : Dk))) := by rw [hw2]; exact Blk.at_ v_6 (cellsD (⟨s, ⟨⟨Hs.sensA h s, Hs.sensA h s⟩, ⟨Hs.sensB h s, Hs.sensB h s⟩⟩, 0, 0, false⟩ : Dk)).toArray _ _ hnb
          rw [← hw2, ← hnb]
          clear hw2 hnb
          refine hK.out _ _ (by (try dsimp only); first | exact ⟨F0.out, FS.out⟩ | go_keep) (fun hHeld => ?_)
          clear hK K
          try simp only [Act.put, List.getElem_toArray, List.getElem_cons_succ, List.getElem_cons_zero, List.setIfInBounds_toArray, List.set_cons_zero, List.set_cons_succ]
          refine wpAnyH_ready (rs := [1]) (by kernel_rfl) (by simp) ?_
          refine (AllReadyH.cons rfl (fun K hK => ?_) AllReadyH.nil)
          have x12 := FG.out.c 12 _ rfl
          go_simp
          refine hK.out _ _ (by (try dsimp only); first | exact ⟨F0.out, FS.out⟩ | go_keep) (fun hHeld => ?_)
          clear hK K
          try simp only [Act.put, List.getElem_toArray, List.getElem_cons_succ, List.getElem_cons_zero, List.setIfInBounds_toArray, List.set_cons_zero, List.set_cons_succ]
          refine wpAnyH_ready (rs := [8]) (by kernel_rfl) (by simp) ?_
          refine (AllReadyH.cons rfl (fun K hK => ?_) AllReadyH.nil)
          refine step_at rfl ?_
          refine wp_append_dk (gb + 1) (.slice da i dc) (List.replicate i (⟨s, ⟨⟨Hs.sensA h s, Hs.sensA h s⟩, ⟨Hs.sensB h s, Hs.sensB h s⟩⟩, 0, 0, false⟩ : Dk)) [(⟨s, ⟨⟨Hs.sensA h s, Hs.sensA h s⟩, ⟨Hs.sensB h s, Hs.sensB h s⟩⟩, 0, 0, false⟩ : Dk)] (List.replicate (i + 1) (⟨s, ⟨⟨Hs.sensA h s, Hs.sensA h s⟩, ⟨Hs.sensB h s, Hs.sensB h s⟩⟩, 0, 0, false⟩ : Dk)) (i + 1) (by rw [List.replicate_succ']) (List.length_replicate ..) rfl FD.out nb 0 1 rfl (fun j p hp => by cases j with | zero => (simp at hp; subst hp; exact ⟨FN.out.c 0 _ rfl, FN.out.c 1 _ rfl, FN.out.c 2 _ rfl, FN.out.c 3 _ rfl, FN.out.c 4 _ rfl, FN.out.c 5 _ rfl, FN.out.c 6 _ rfl, FN.out.c 7 _ rfl, FN.out.c 8 _ rfl, FN.out.c 9 _ rfl, FN.out.c 10 _ rfl, FN.out.c 11 _ rfl, FN.out.c 12 _ rfl⟩) | succ j => simp at hp) (Or.inr (by simp)) (by rw [List.length_replicate]; simp; omega) (by have := FG.out.lt; omega) ?_
          intro g4 c4 v_11 ho hg
          have F0 : Hid (Blk v_11 w.heap.size [.int .i64 h.fl, .int .i64 h.gp, .int .i64 h.ln, .int .i64 h.rf, .int .i64 h.sp, .int .i64 h.pu, .int .i64 h.br, .int .i64 h.dr, .int .i64 h.lv, .int .i64 h.dO, .int .i64 h.ld, .int .i64 h.qu]) := F0.out.grown hg (fun e => by have := (FD.out.lt _ e.symm).1; omega)
          have F1 : Hid (Blk v_11 (w.heap.size + 1) [.int .i64 0, .int .i64 0, .int .i64 0, .int .i64 0, .int .i64 0, .int .i64 0, .int .i64 0, .int .i64 0, .int .i64 0, .int .i64 0, .int .i64 0, .int .i64 0, .int .i64 0, .int .i64 0, .slice none 0 0, .int .i64 0, .slice none 0 0, .int .i64 0, .bool false]) := F1.out.grown hg (fun e => by have := (FD.out.lt _ e.symm).1; omega)
          have FG : Hid (Blk v_11 gb (gvs h (.slice da i dc) 1 (.slice none 0 0) 0 false)) := FG.out.grown hg (fun e => by have := (FD.out.lt _ e.symm).1; omega)
          have FS : Hid (Blk v_11 sb [.int .i64 s.lo.pos, .int .i64 s.lo.vel, .int .i64 s.lo.door, .int .i64 s.up.pos, .int .i64 s.up.vel, .int .i64 s.up.door]) := FS.out.grown hg (fun e => by have := nsb.out _ e.symm; omega)
          have FB : Hid (Below w.heap.size w v_11) := below_grown FB.out hg (fun j hj => by have := (FD.out.lt j hj).1; omega) FB.out.size
          have FD : Hid (OwnD v_11 (gb + 1) (.slice (some ⟨g4, 0, none⟩) (i + 1) c4) (List.replicate (i + 1) (⟨s, ⟨⟨Hs.sensA h s, Hs.sensA h s⟩, ⟨Hs.sensB h s, Hs.sensB h s⟩⟩, 0, 0, false⟩ : Dk))) := ho
          have lg4 := (FD.out.lt g4 rfl).1
          clear ho hg
          refine hK.out _ _ (by (try dsimp only); first | exact ⟨F0.out, FS.out⟩ | go_keep) (fun hHeld => ?_)
          clear hK K
          try simp only [Act.put, List.getElem_toArray, List.getElem_cons_succ, List.getElem_cons_zero, List.setIfInBounds_toArray, List.set_cons_zero, List.set_cons_succ]
          refine tkz 9 rfl ?_
          refine wpAnyH_ready (rs := [10]) (by kernel_rfl) (by simp) ?_
          refine (AllReadyH.cons rfl (fun K hK => ?_) AllReadyH.nil)
          have k12 := FG.out.c 12 _ rfl
          have kf12 := FG.out.f 12 (Nat.le_of_ble_eq_true rfl)
          go_simp
          obtain ⟨v_12, hw2⟩ : ∃ v_12, v_12 = v_11.setCell ⟨gb, 12, none⟩ (.slice (some ⟨g4, 0, none⟩) (i + 1) c4) := ⟨_, rfl⟩
          change K _ (v_11.setCell ⟨gb, 12, none⟩ (.slice (some ⟨g4, 0, none⟩) (i + 1) c4))
          rw [← hw2]
          clear k12 kf12
          have F0 : Hid (Blk v_12 w.heap.size [.int .i64 h.fl, .int .i64 h.gp, .int .i64 h.ln, .int .i64 h.rf, .int .i64 h.sp, .int .i64 h.pu, .int .i64 h.br, .int .i64 h.dr, .int .i64 h.lv, .int .i64 h.dO, .int .i64 h.ld, .int .i64 h.qu]) := by rw [hw2]; exact F0.out.other (by omega)
          have F1 : Hid (Blk v_12 (w.heap.size + 1) [.int .i64 0, .int .i64 0, .int .i64 0, .int .i64 0, .int .i64 0, .int .i64 0, .int .i64 0, .int .i64 0, .int .i64 0, .int .i64 0, .int .i64 0, .int .i64 0, .int .i64 0, .int .i64 0, .slice none 0 0, .int .i64 0, .slice none 0 0, .int .i64 0, .bool false]) := by rw [hw2]; exact F1.out.other (by omega)
          have FG : Hid (Blk v_12 gb (gvs h (.slice (some ⟨g4, 0, none⟩) (i + 1) c4) 1 (.slice none 0 0) 0 false)) := by rw [hw2]; exact FG.out.set _ (Nat.le_of_ble_eq_true rfl)
          have FS : Hid (Blk v_12 sb [.int .i64 s.lo.pos, .int .i64 s.lo.vel, .int .i64 s.lo.door, .int .i64 s.up.pos, .int .i64 s.up.vel, .int .i64 s.up.door]) := by rw [hw2]; exact FS.out.other (by omega)
          have FB : Hid (Below w.heap.size w v_12) := by rw [hw2]; exact FB.out.setCell (by show w.heap.size ≤ gb; omega) _
          have FD : Hid (OwnD v_12 (gb + 1) (.slice (some ⟨g4, 0, none⟩) (i + 1) c4) (List.replicate (i + 1) (⟨s, ⟨⟨Hs.sensA h s, Hs.sensA h s⟩, ⟨Hs.sensB h s, Hs.sensB h s⟩⟩, 0, 0, false⟩ : Dk))) := by rw [hw2]; exact FD.out.other (fun e => by have e2 : g4 = gb := Option.some.inj e; omega) _
          clear hw2
          refine hK.out _ _ (by (try dsimp only); first | exact ⟨F0.out, FS.out⟩ | go_keep) (fun hHeld => ?_)
          clear hK K
          try simp only [Act.put, List.getElem_toArray, List.getElem_cons_succ, List.getElem_cons_zero, List.setIfInBounds_toArray, List.set_cons_zero, List.set_cons_succ]
          refine wpAnyH_done (by kernel_rfl) ?_ _
          go_wp2_with fail
          go_roundw
          case rel => exact ⟨i + 1, by simp, by omega, some ⟨g4, 0, none⟩, c4, F0.out, F1.out, FG.out, FD.out, FB.out⟩
          case measure => simp [intOf]; omega
    · have ei : i = n := by omega
      subst ei
      go_wp2_with (first | (refine load_blk 30 _ Try.underlying30 (by kernel_rfl) FG.out rfl rfl rfl ?_) | (refine store_blk (rvs 0 0 h (.slice da i dc) 1 (.slice none 0 0) 0 false) 32 _ _ (by kernel_rfl) (by kernel_rfl) (by kernel_rfl) F1.out rfl rfl rfl rfl ?_))
      refine bodyPost_ret (v := .agg #[.int .i64 0, .int .i64 0, .int .i64 h.fl, .int .i64 h.gp, .int .i64 h.ln, .int .i64 h.rf, .int .i64 h.sp, .int .i64 h.pu, .int .i64 h.br, .int .i64 h.dr, .int .i64 h.lv, .int .i64 h.dO, .int .i64 h.ld, .int .i64 h.qu, .slice da i dc, .int .i64 1, .slice none 0 0, .int .i64 0, .bool false]) ((F1.out.row (rvs 0 0 h (.slice da i dc) 1 (.slice none 0 0) 0 false)).res _ Try.results4 Try.underlying32 (by kernel_rfl) rfl) rfl ?_
      have hl : (List.replicate i (newD h)).length = i := List.length_replicate ..
      refine ⟨da, dc, none, 0, by rw [hl]; exact rfl, ?_, own_nilP _ _, (fun _ _ e => by cases e), below_row FB.out (by omega) _⟩
      rw [hl, HD.out]
      have q := FD.out.base (show w.heap.size ≤ gb + 1 by omega)
      exact q.kept (row := some (w.heap.size + 1)) ⟨rfl, rfl, rfl, by simp, fun j _ hj => setRow_other _ _ j _ (fun e => hj (by rw [e]))⟩ (Or.inr (fun e => by have := (FD.out.lt _ e).1; omega))
end Go.Proofs.Ytgedakdbcjppnaa
