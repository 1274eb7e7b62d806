/-
  For every group, floor and goal CallLift answers as the model does, changes nothing, and its answer owns its memory.
-/
import Derived.Test.YtdkikijnjkoddaaGreatRows
import Derived.WalkKit
import Derived.ProofKit
import Derived.OpenShut
import Derived.ChangeOld
import Derived.Below
import Derived.Test.YtdkikijnjkoddaaGreatGpR
import Derived.Test.YtdkikijnjkoddaaGreatOpL
import Derived.Test.YtdkikijnjkoddaaGreatLfS
import Derived.Test.YtdkikijnjkoddaaGreatCpy
import Derived.Test.YtdkikijnjkoddaaGreatAsI
import Derived.Test.YtdkikijnjkoddaaGreatLedL
import Derived.Test.YtdkikijnjkoddaaGreatPersT
import Derived.BigGuardPart
namespace Go.Proofs.YtdkikijnjkoddaaGreat
open Go.RowKit Pl
set_option linter.unusedSimpArgs false
set_option linter.unusedVariables false

theorem freeL_le (l : List Pe) : (freeL l).length ≤ l.length := by
  unfold freeL
  split
  · rw [List.length_eraseIdx]
    split <;> omega
  · exact Nat.le_refl _
set_option maxRecDepth 20000 in
set_option maxHeartbeats 32000000 in
theorem implCallLift_no (h : Hs) (ds : List Dk) (gd dc : Nat) (nx : Int) (ps : List Pe) (gp pc : Nat) (tk : Int) (rc : Bool) (f t : Int) (hf : Gr.fault ⟨h, ds, ⟨nx, ps⟩, tk, rc⟩ ≠ 0) (hld : ds.length ≤ 1048576) (hlp : ps.length ≤ 1048576) (w : World) (hI : GI w gd gp ds ps) : Calls Tryz.prog 7 #[.agg #[.int .i64 h.fl, .int .i64 h.gp, .int .i64 h.ln, .int .i64 h.rf, .int .i64 h.sp, .int .i64 h.pu, .int .i64 h.br, .int .i64 h.dr, .int .i64 h.lv, .int .i64 h.dO, .int .i64 h.ld, .int .i64 h.qu, .slice (some ⟨gd, 0, none⟩) ds.length dc, .int .i64 nx, .slice (some ⟨gp, 0, none⟩) ps.length pc, .int .i64 tk, .bool rc], .int .i64 f, .int .i64 t] w (isGrp w (Gr.fault ⟨h, ds, ⟨nx, ps⟩, tk, rc⟩) 0 zeroH [] 0 [] 0 false) := by
  have hn : (Gr.fault ⟨h, ds, ⟨nx, ps⟩, tk, rc⟩ != 0) = true := by simpa using hf
  clear hf
  have F0 : Hid (Blk ((w.alloc (.cells #[.int .i64 h.fl, .int .i64 h.gp, .int .i64 h.ln, .int .i64 h.rf, .int .i64 h.sp, .int .i64 h.pu, .int .i64 h.br, .int .i64 h.dr, .int .i64 h.lv, .int .i64 h.dO, .int .i64 h.ld, .int .i64 h.qu, .slice (some ⟨gd, 0, none⟩) ds.length dc, .int .i64 nx, .slice (some ⟨gp, 0, none⟩) ps.length pc, .int .i64 tk, .bool rc] 37)).alloc (.cells #[.int .i64 0, .int .i64 0, .int .i64 0, .int .i64 0, .int .i64 0, .int .i64 0, .int .i64 0, .int .i64 0, .int .i64 0, .int .i64 0, .int .i64 0, .int .i64 0, .int .i64 0, .int .i64 0, .slice none 0 0, .int .i64 0, .slice none 0 0, .int .i64 0, .bool false] 39)) w.heap.size (gvs h (.slice (some ⟨gd, 0, none⟩) ds.length dc) nx (.slice (some ⟨gp, 0, none⟩) ps.length pc) tk rc)) := (Blk.at_ w #[.int .i64 h.fl, .int .i64 h.gp, .int .i64 h.ln, .int .i64 h.rf, .int .i64 h.sp, .int .i64 h.pu, .int .i64 h.br, .int .i64 h.dr, .int .i64 h.lv, .int .i64 h.dO, .int .i64 h.ld, .int .i64 h.qu, .slice (some ⟨gd, 0, none⟩) ds.length dc, .int .i64 nx, .slice (some ⟨gp, 0, none⟩) ps.length pc, .int .i64 tk, .bool rc] _ _ rfl).alloc _
  have F1 : Hid (Blk ((w.alloc (.cells #[.int .i64 h.fl, .int .i64 h.gp, .int .i64 h.ln, .int .i64 h.rf, .int .i64 h.sp, .int .i64 h.pu, .int .i64 h.br, .int .i64 h.dr, .int .i64 h.lv, .int .i64 h.dO, .int .i64 h.ld, .int .i64 h.qu, .slice (some ⟨gd, 0, none⟩) ds.length dc, .int .i64 nx, .slice (some ⟨gp, 0, none⟩) ps.length pc, .int .i64 tk, .bool rc] 37)).alloc (.cells #[.int .i64 0, .int .i64 0, .int .i64 0, .int .i64 0, .int .i64 0, .int .i64 0, .int .i64 0, .int .i64 0, .int .i64 0, .int .i64 0, .int .i64 0, .int .i64 0, .int .i64 0, .int .i64 0, .slice none 0 0, .int .i64 0, .slice none 0 0, .int .i64 0, .bool false] 39)) (w.heap.size + 1) ([.int .i64 0, .int .i64 0, .int .i64 0, .int .i64 0, .int .i64 0, .int .i64 0, .int .i64 0, .int .i64 0, .int .i64 0, .int .i64 0, .int .i64 0, .int .i64 0, .int .i64 0, .int .i64 0, .slice none 0 0, .int .i64 0, .slice none 0 0, .int .i64 0, .bool false])) := Blk.at_ _ #[.int .i64 0, .int .i64 0, .int .i64 0, .int .i64 0, .int .i64 0, .int .i64 0, .int .i64 0, .int .i64 0, .int .i64 0, .int .i64 0, .int .i64 0, .int .i64 0, .int .i64 0, .int .i64 0, .slice none 0 0, .int .i64 0, .slice none 0 0, .int .i64 0, .bool false] _ _ (by simp)
  have FB : Hid (Below w.heap.size w ((w.alloc (.cells #[.int .i64 h.fl, .int .i64 h.gp, .int .i64 h.ln, .int .i64 h.rf, .int .i64 h.sp, .int .i64 h.pu, .int .i64 h.br, .int .i64 h.dr, .int .i64 h.lv, .int .i64 h.dO, .int .i64 h.ld, .int .i64 h.qu, .slice (some ⟨gd, 0, none⟩) ds.length dc, .int .i64 nx, .slice (some ⟨gp, 0, none⟩) ps.length pc, .int .i64 tk, .bool rc] 37)).alloc (.cells #[.int .i64 0, .int .i64 0, .int .i64 0, .int .i64 0, .int .i64 0, .int .i64 0, .int .i64 0, .int .i64 0, .int .i64 0, .int .i64 0, .int .i64 0, .int .i64 0, .int .i64 0, .int .i64 0, .slice none 0 0, .int .i64 0, .slice none 0 0, .int .i64 0, .bool false] 39))) := ((Below.refl _ _).alloc (Nat.le_refl _) _).alloc (by simp) _
  have FI : Hid (GI ((w.alloc (.cells #[.int .i64 h.fl, .int .i64 h.gp, .int .i64 h.ln, .int .i64 h.rf, .int .i64 h.sp, .int .i64 h.pu, .int .i64 h.br, .int .i64 h.dr, .int .i64 h.lv, .int .i64 h.dO, .int .i64 h.ld, .int .i64 h.qu, .slice (some ⟨gd, 0, none⟩) ds.length dc, .int .i64 nx, .slice (some ⟨gp, 0, none⟩) ps.length pc, .int .i64 tk, .bool rc] 37)).alloc (.cells #[.int .i64 0, .int .i64 0, .int .i64 0, .int .i64 0, .int .i64 0, .int .i64 0, .int .i64 0, .int .i64 0, .int .i64 0, .int .i64 0, .int .i64 0, .int .i64 0, .int .i64 0, .int .i64 0, .slice none 0 0, .int .i64 0, .slice none 0 0, .int .i64 0, .bool false] 39)) gd gp ds ps) := (hI.alloc _).alloc _
  have LI : Hid (gd < w.heap.size ∧ gp < w.heap.size) := ⟨hI.ld, hI.lp⟩
  obtain ⟨W0, hW0⟩ : ∃ W0, W0 = ((w.alloc (.cells #[.int .i64 h.fl, .int .i64 h.gp, .int .i64 h.ln, .int .i64 h.rf, .int .i64 h.sp, .int .i64 h.pu, .int .i64 h.br, .int .i64 h.dr, .int .i64 h.lv, .int .i64 h.dO, .int .i64 h.ld, .int .i64 h.qu, .slice (some ⟨gd, 0, none⟩) ds.length dc, .int .i64 nx, .slice (some ⟨gp, 0, none⟩) ps.length pc, .int .i64 tk, .bool rc] 37)).alloc (.cells #[.int .i64 0, .int .i64 0, .int .i64 0, .int .i64 0, .int .i64 0, .int .i64 0, .int .i64 0, .int .i64 0, .int .i64 0, .int .i64 0, .int .i64 0, .int .i64 0, .int .i64 0, .int .i64 0, .slice none 0 0, .int .i64 0, .slice none 0 0, .int .i64 0, .bool false] 39)) := ⟨_, rfl⟩
  rw [← hW0] at F0 F1 FB FI
  have HW0 : Hid (W0 = ((w.alloc (.cells #[.int .i64 h.fl, .int .i64 h.gp, .int .i64 h.ln, .int .i64 h.rf, .int .i64 h.sp, .int .i64 h.pu, .int .i64 h.br, .int .i64 h.dr, .int .i64 h.lv, .int .i64 h.dO, .int .i64 h.ld, .int .i64 h.qu, .slice (some ⟨gd, 0, none⟩) ds.length dc, .int .i64 nx, .slice (some ⟨gp, 0, none⟩) ps.length pc, .int .i64 tk, .bool rc] 37)).alloc (.cells #[.int .i64 0, .int .i64 0, .int .i64 0, .int .i64 0, .int .i64 0, .int .i64 0, .int .i64 0, .int .i64 0, .int .i64 0, .int .i64 0, .int .i64 0, .int .i64 0, .int .i64 0, .int .i64 0, .slice none 0 0, .int .i64 0, .slice none 0 0, .int .i64 0, .bool false] 39))) := hW0
  clear hW0 hI
  go_enter Tryz.func7, Tryz.ntmps7
  go_upto_region 1 with fail
  rw [← HW0.out]
  clear HW0
  go_wp2_with (first | (refine load_blk 37 _ Tryz.underlying37 (by kernel_rfl) F0.out rfl rfl rfl ?_) | (go_at_call 23; refine (implGroupFault_any h ds (some ⟨gd, 0, none⟩) dc nx ps (some ⟨gp, 0, none⟩) pc tk rc hld hlp _ FI.out.din FI.out.pin).mono ?_; rintro e w1 ⟨rfl, hb⟩; have F0 : Hid (Blk w1 w.heap.size (gvs h (.slice (some ⟨gd, 0, none⟩) ds.length dc) nx (.slice (some ⟨gp, 0, none⟩) ps.length pc) tk rc)) := F0.out.below hb F0.out.lt; have F1 : Hid (Blk w1 (w.heap.size + 1) ([.int .i64 0, .int .i64 0, .int .i64 0, .int .i64 0, .int .i64 0, .int .i64 0, .int .i64 0, .int .i64 0, .int .i64 0, .int .i64 0, .int .i64 0, .int .i64 0, .int .i64 0, .int .i64 0, .slice none 0 0, .int .i64 0, .slice none 0 0, .int .i64 0, .bool false])) := F1.out.below hb F1.out.lt; have FI : Hid (GI w1 gd gp ds ps) := FI.out.below hb FI.out.ld FI.out.lp; have FB : Hid (Below w.heap.size w w1) := FB.out.trans (hb.mono FB.out.size); clear hb) | (refine store_blk ([.int .i64 (Gr.fault ⟨h, ds, ⟨nx, ps⟩, tk, rc⟩), .int .i64 0, .int .i64 0, .int .i64 0, .int .i64 0, .int .i64 0, .int .i64 0, .int .i64 0, .int .i64 0, .int .i64 0, .int .i64 0, .int .i64 0, .int .i64 0, .int .i64 0, .slice none 0 0, .int .i64 0, .slice none 0 0, .int .i64 0, .bool false]) 39 _ _ (by kernel_rfl) (by kernel_rfl) (by kernel_rfl) F1.out rfl rfl rfl rfl ?_))
  exact bodyPost_ret (v := .agg #[.int .i64 (Gr.fault ⟨h, ds, ⟨nx, ps⟩, tk, rc⟩), .int .i64 0, .int .i64 0, .int .i64 0, .int .i64 0, .int .i64 0, .int .i64 0, .int .i64 0, .int .i64 0, .int .i64 0, .int .i64 0, .int .i64 0, .int .i64 0, .int .i64 0, .slice none 0 0, .int .i64 0, .slice none 0 0, .int .i64 0, .bool false]) ((F1.out.row [.int .i64 (Gr.fault ⟨h, ds, ⟨nx, ps⟩, tk, rc⟩), .int .i64 0, .int .i64 0, .int .i64 0, .int .i64 0, .int .i64 0, .int .i64 0, .int .i64 0, .int .i64 0, .int .i64 0, .int .i64 0, .int .i64 0, .int .i64 0, .int .i64 0, .slice none 0 0, .int .i64 0, .slice none 0 0, .int .i64 0, .bool false]).res _ Tryz.results7 Tryz.underlying39 (by kernel_rfl) rfl) rfl (isGrp.no (below_row FB.out (by omega) _))
set_option maxRecDepth 20000 in
set_option maxHeartbeats 32000000 in
theorem implCallLift_dn (h : Hs) (ds : List Dk) (gd dc : Nat) (nx : Int) (ps : List Pe) (gp pc : Nat) (tk : Int) (rc : Bool) (f t : Int) (hf : Gr.fault ⟨h, ds, ⟨nx, ps⟩, tk, rc⟩ = 0) (hr : rc = true) (hld : ds.length ≤ 1048576) (hlp : ps.length ≤ 1048576) (w : World) (hI : GI w gd gp ds ps) : Calls Tryz.prog 7 #[.agg #[.int .i64 h.fl, .int .i64 h.gp, .int .i64 h.ln, .int .i64 h.rf, .int .i64 h.sp, .int .i64 h.pu, .int .i64 h.br, .int .i64 h.dr, .int .i64 h.lv, .int .i64 h.dO, .int .i64 h.ld, .int .i64 h.qu, .slice (some ⟨gd, 0, none⟩) ds.length dc, .int .i64 nx, .slice (some ⟨gp, 0, none⟩) ps.length pc, .int .i64 tk, .bool rc], .int .i64 f, .int .i64 t] w (isGrp w 8 0 zeroH [] 0 [] 0 false) := by
  subst hr
  have F0 : Hid (Blk ((w.alloc (.cells #[.int .i64 h.fl, .int .i64 h.gp, .int .i64 h.ln, .int .i64 h.rf, .int .i64 h.sp, .int .i64 h.pu, .int .i64 h.br, .int .i64 h.dr, .int .i64 h.lv, .int .i64 h.dO, .int .i64 h.ld, .int .i64 h.qu, .slice (some ⟨gd, 0, none⟩) ds.length dc, .int .i64 nx, .slice (some ⟨gp, 0, none⟩) ps.length pc, .int .i64 tk, .bool true] 37)).alloc (.cells #[.int .i64 0, .int .i64 0, .int .i64 0, .int .i64 0, .int .i64 0, .int .i64 0, .int .i64 0, .int .i64 0, .int .i64 0, .int .i64 0, .int .i64 0, .int .i64 0, .int .i64 0, .int .i64 0, .slice none 0 0, .int .i64 0, .slice none 0 0, .int .i64 0, .bool false] 39)) w.heap.size (gvs h (.slice (some ⟨gd, 0, none⟩) ds.length dc) nx (.slice (some ⟨gp, 0, none⟩) ps.length pc) tk true)) := (Blk.at_ w #[.int .i64 h.fl, .int .i64 h.gp, .int .i64 h.ln, .int .i64 h.rf, .int .i64 h.sp, .int .i64 h.pu, .int .i64 h.br, .int .i64 h.dr, .int .i64 h.lv, .int .i64 h.dO, .int .i64 h.ld, .int .i64 h.qu, .slice (some ⟨gd, 0, none⟩) ds.length dc, .int .i64 nx, .slice (some ⟨gp, 0, none⟩) ps.length pc, .int .i64 tk, .bool true] _ _ rfl).alloc _
  have F1 : Hid (Blk ((w.alloc (.cells #[.int .i64 h.fl, .int .i64 h.gp, .int .i64 h.ln, .int .i64 h.rf, .int .i64 h.sp, .int .i64 h.pu, .int .i64 h.br, .int .i64 h.dr, .int .i64 h.lv, .int .i64 h.dO, .int .i64 h.ld, .int .i64 h.qu, .slice (some ⟨gd, 0, none⟩) ds.length dc, .int .i64 nx, .slice (some ⟨gp, 0, none⟩) ps.length pc, .int .i64 tk, .bool true] 37)).alloc (.cells #[.int .i64 0, .int .i64 0, .int .i64 0, .int .i64 0, .int .i64 0, .int .i64 0, .int .i64 0, .int .i64 0, .int .i64 0, .int .i64 0, .int .i64 0, .int .i64 0, .int .i64 0, .int .i64 0, .slice none 0 0, .int .i64 0, .slice none 0 0, .int .i64 0, .bool false] 39)) (w.heap.size + 1) ([.int .i64 0, .int .i64 0, .int .i64 0, .int .i64 0, .int .i64 0, .int .i64 0, .int .i64 0, .int .i64 0, .int .i64 0, .int .i64 0, .int .i64 0, .int .i64 0, .int .i64 0, .int .i64 0, .slice none 0 0, .int .i64 0, .slice none 0 0, .int .i64 0, .bool false])) := Blk.at_ _ #[.int .i64 0, .int .i64 0, .int .i64 0, .int .i64 0, .int .i64 0, .int .i64 0, .int .i64 0, .int .i64 0, .int .i64 0, .int .i64 0, .int .i64 0, .int .i64 0, .int .i64 0, .int .i64 0, .slice none 0 0, .int .i64 0, .slice none 0 0, .int .i64 0, .bool false] _ _ (by simp)
  have FB : Hid (Below w.heap.size w ((w.alloc (.cells #[.int .i64 h.fl, .int .i64 h.gp, .int .i64 h.ln, .int .i64 h.rf, .int .i64 h.sp, .int .i64 h.pu, .int .i64 h.br, .int .i64 h.dr, .int .i64 h.lv, .int .i64 h.dO, .int .i64 h.ld, .int .i64 h.qu, .slice (some ⟨gd, 0, none⟩) ds.length dc, .int .i64 nx, .slice (some ⟨gp, 0, none⟩) ps.length pc, .int .i64 tk, .bool true] 37)).alloc (.cells #[.int .i64 0, .int .i64 0, .int .i64 0, .int .i64 0, .int .i64 0, .int .i64 0, .int .i64 0, .int .i64 0, .int .i64 0, .int .i64 0, .int .i64 0, .int .i64 0, .int .i64 0, .int .i64 0, .slice none 0 0, .int .i64 0, .slice none 0 0, .int .i64 0, .bool false] 39))) := ((Below.refl _ _).alloc (Nat.le_refl _) _).alloc (by simp) _
  have FI : Hid (GI ((w.alloc (.cells #[.int .i64 h.fl, .int .i64 h.gp, .int .i64 h.ln, .int .i64 h.rf, .int .i64 h.sp, .int .i64 h.pu, .int .i64 h.br, .int .i64 h.dr, .int .i64 h.lv, .int .i64 h.dO, .int .i64 h.ld, .int .i64 h.qu, .slice (some ⟨gd, 0, none⟩) ds.length dc, .int .i64 nx, .slice (some ⟨gp, 0, none⟩) ps.length pc, .int .i64 tk, .bool true] 37)).alloc (.cells #[.int .i64 0, .int .i64 0, .int .i64 0, .int .i64 0, .int .i64 0, .int .i64 0, .int .i64 0, .int .i64 0, .int .i64 0, .int .i64 0, .int .i64 0, .int .i64 0, .int .i64 0, .int .i64 0, .slice none 0 0, .int .i64 0, .slice none 0 0, .int .i64 0, .bool false] 39)) gd gp ds ps) := (hI.alloc _).alloc _
  have LI : Hid (gd < w.heap.size ∧ gp < w.heap.size) := ⟨hI.ld, hI.lp⟩
  obtain ⟨W0, hW0⟩ : ∃ W0, W0 = ((w.alloc (.cells #[.int .i64 h.fl, .int .i64 h.gp, .int .i64 h.ln, .int .i64 h.rf, .int .i64 h.sp, .int .i64 h.pu, .int .i64 h.br, .int .i64 h.dr, .int .i64 h.lv, .int .i64 h.dO, .int .i64 h.ld, .int .i64 h.qu, .slice (some ⟨gd, 0, none⟩) ds.length dc, .int .i64 nx, .slice (some ⟨gp, 0, none⟩) ps.length pc, .int .i64 tk, .bool true] 37)).alloc (.cells #[.int .i64 0, .int .i64 0, .int .i64 0, .int .i64 0, .int .i64 0, .int .i64 0, .int .i64 0, .int .i64 0, .int .i64 0, .int .i64 0, .int .i64 0, .int .i64 0, .int .i64 0, .int .i64 0, .slice none 0 0, .int .i64 0, .slice none 0 0, .int .i64 0, .bool false] 39)) := ⟨_, rfl⟩
  rw [← hW0] at F0 F1 FB FI
  have HW0 : Hid (W0 = ((w.alloc (.cells #[.int .i64 h.fl, .int .i64 h.gp, .int .i64 h.ln, .int .i64 h.rf, .int .i64 h.sp, .int .i64 h.pu, .int .i64 h.br, .int .i64 h.dr, .int .i64 h.lv, .int .i64 h.dO, .int .i64 h.ld, .int .i64 h.qu, .slice (some ⟨gd, 0, none⟩) ds.length dc, .int .i64 nx, .slice (some ⟨gp, 0, none⟩) ps.length pc, .int .i64 tk, .bool true] 37)).alloc (.cells #[.int .i64 0, .int .i64 0, .int .i64 0, .int .i64 0, .int .i64 0, .int .i64 0, .int .i64 0, .int .i64 0, .int .i64 0, .int .i64 0, .int .i64 0, .int .i64 0, .int .i64 0, .int .i64 0, .slice none 0 0, .int .i64 0, .slice none 0 0, .int .i64 0, .bool false] 39))) := hW0
  clear hW0 hI
  go_enter Tryz.func7, Tryz.ntmps7
  go_upto_region 1 with fail
  rw [← HW0.out]
  clear HW0
  have x16 := F0.out.c 16 _ rfl
  go_wp2_with (first | (refine load_blk 37 _ Tryz.underlying37 (by kernel_rfl) F0.out rfl rfl rfl ?_) | (go_at_call 23; refine (implGroupFault_any h ds (some ⟨gd, 0, none⟩) dc nx ps (some ⟨gp, 0, none⟩) pc tk true hld hlp _ FI.out.din FI.out.pin).mono ?_; rw [hf]; rintro e w1 ⟨rfl, hb⟩; have F0 : Hid (Blk w1 w.heap.size (gvs h (.slice (some ⟨gd, 0, none⟩) ds.length dc) nx (.slice (some ⟨gp, 0, none⟩) ps.length pc) tk true)) := F0.out.below hb F0.out.lt; have F1 : Hid (Blk w1 (w.heap.size + 1) ([.int .i64 0, .int .i64 0, .int .i64 0, .int .i64 0, .int .i64 0, .int .i64 0, .int .i64 0, .int .i64 0, .int .i64 0, .int .i64 0, .int .i64 0, .int .i64 0, .int .i64 0, .int .i64 0, .slice none 0 0, .int .i64 0, .slice none 0 0, .int .i64 0, .bool false])) := F1.out.below hb F1.out.lt; have FI : Hid (GI w1 gd gp ds ps) := FI.out.below hb FI.out.ld FI.out.lp; have FB : Hid (Below w.heap.size w w1) := FB.out.trans (hb.mono FB.out.size); clear hb; have x16 := F0.out.c 16 _ rfl) | (refine store_blk ([.int .i64 8, .int .i64 0, .int .i64 0, .int .i64 0, .int .i64 0, .int .i64 0, .int .i64 0, .int .i64 0, .int .i64 0, .int .i64 0, .int .i64 0, .int .i64 0, .int .i64 0, .int .i64 0, .slice none 0 0, .int .i64 0, .slice none 0 0, .int .i64 0, .bool false]) 39 _ _ (by kernel_rfl) (by kernel_rfl) (by kernel_rfl) F1.out rfl rfl rfl rfl ?_))
  exact bodyPost_ret (v := .agg #[.int .i64 8, .int .i64 0, .int .i64 0, .int .i64 0, .int .i64 0, .int .i64 0, .int .i64 0, .int .i64 0, .int .i64 0, .int .i64 0, .int .i64 0, .int .i64 0, .int .i64 0, .int .i64 0, .slice none 0 0, .int .i64 0, .slice none 0 0, .int .i64 0, .bool false]) ((F1.out.row [.int .i64 8, .int .i64 0, .int .i64 0, .int .i64 0, .int .i64 0, .int .i64 0, .int .i64 0, .int .i64 0, .int .i64 0, .int .i64 0, .int .i64 0, .int .i64 0, .int .i64 0, .int .i64 0, .slice none 0 0, .int .i64 0, .slice none 0 0, .int .i64 0, .bool false]).res _ Tryz.results7 Tryz.underlying39 (by kernel_rfl) rfl) rfl (isGrp.no (below_row FB.out (by omega) _))
set_option maxRecDepth 20000 in
set_option maxHeartbeats 32000000 in
theorem implCallLift_cf (h : Hs) (ds : List Dk) (gd dc : Nat) (nx : Int) (ps : List Pe) (gp pc : Nat) (tk : Int) (rc : Bool) (f t : Int) (hf : Gr.fault ⟨h, ds, ⟨nx, ps⟩, tk, rc⟩ = 0) (hr : rc = false) (hc : Hs.call h f t ≠ 0) (hld : ds.length ≤ 1048576) (hlp : ps.length ≤ 1048576) (w : World) (hI : GI w gd gp ds ps) : Calls Tryz.prog 7 #[.agg #[.int .i64 h.fl, .int .i64 h.gp, .int .i64 h.ln, .int .i64 h.rf, .int .i64 h.sp, .int .i64 h.pu, .int .i64 h.br, .int .i64 h.dr, .int .i64 h.lv, .int .i64 h.dO, .int .i64 h.ld, .int .i64 h.qu, .slice (some ⟨gd, 0, none⟩) ds.length dc, .int .i64 nx, .slice (some ⟨gp, 0, none⟩) ps.length pc, .int .i64 tk, .bool rc], .int .i64 f, .int .i64 t] w (isGrp w (Hs.call h f t) 0 zeroH [] 0 [] 0 false) := by
  subst hr
  obtain ⟨q1, q2, q3, q4, q5, q6, q7⟩ := Gr.fault_parts hf
  have HA : Hid (Gr.asg ⟨h, ds, ⟨nx, ps⟩, tk, false⟩ f t = (Hs.call h f t, 0, 0)) := by unfold Gr.asg; rw [if_pos hf, if_neg hc]; exact rfl
  have hn : (Hs.call h f t != 0) = true := by simpa using hc
  clear hc
  clear q1 q2 q3 q4 q5 q6 q7
  have F0 : Hid (Blk ((w.alloc (.cells #[.int .i64 h.fl, .int .i64 h.gp, .int .i64 h.ln, .int .i64 h.rf, .int .i64 h.sp, .int .i64 h.pu, .int .i64 h.br, .int .i64 h.dr, .int .i64 h.lv, .int .i64 h.dO, .int .i64 h.ld, .int .i64 h.qu, .slice (some ⟨gd, 0, none⟩) ds.length dc, .int .i64 nx, .slice (some ⟨gp, 0, none⟩) ps.length pc, .int .i64 tk, .bool false] 37)).alloc (.cells #[.int .i64 0, .int .i64 0, .int .i64 0, .int .i64 0, .int .i64 0, .int .i64 0, .int .i64 0, .int .i64 0, .int .i64 0, .int .i64 0, .int .i64 0, .int .i64 0, .int .i64 0, .int .i64 0, .slice none 0 0, .int .i64 0, .slice none 0 0, .int .i64 0, .bool false] 39)) w.heap.size (gvs h (.slice (some ⟨gd, 0, none⟩) ds.length dc) nx (.slice (some ⟨gp, 0, none⟩) ps.length pc) tk false)) := (Blk.at_ w #[.int .i64 h.fl, .int .i64 h.gp, .int .i64 h.ln, .int .i64 h.rf, .int .i64 h.sp, .int .i64 h.pu, .int .i64 h.br, .int .i64 h.dr, .int .i64 h.lv, .int .i64 h.dO, .int .i64 h.ld, .int .i64 h.qu, .slice (some ⟨gd, 0, none⟩) ds.length dc, .int .i64 nx, .slice (some ⟨gp, 0, none⟩) ps.length pc, .int .i64 tk, .bool false] _ _ rfl).alloc _
  have F1 : Hid (Blk ((w.alloc (.cells #[.int .i64 h.fl, .int .i64 h.gp, .int .i64 h.ln, .int .i64 h.rf, .int .i64 h.sp, .int .i64 h.pu, .int .i64 h.br, .int .i64 h.dr, .int .i64 h.lv, .int .i64 h.dO, .int .i64 h.ld, .int .i64 h.qu, .slice (some ⟨gd, 0, none⟩) ds.length dc, .int .i64 nx, .slice (some ⟨gp, 0, none⟩) ps.length pc, .int .i64 tk, .bool false] 37)).alloc (.cells #[.int .i64 0, .int .i64 0, .int .i64 0, .int .i64 0, .int .i64 0, .int .i64 0, .int .i64 0, .int .i64 0, .int .i64 0, .int .i64 0, .int .i64 0, .int .i64 0, .int .i64 0, .int .i64 0, .slice none 0 0, .int .i64 0, .slice none 0 0, .int .i64 0, .bool false] 39)) (w.heap.size + 1) ([.int .i64 0, .int .i64 0, .int .i64 0, .int .i64 0, .int .i64 0, .int .i64 0, .int .i64 0, .int .i64 0, .int .i64 0, .int .i64 0, .int .i64 0, .int .i64 0, .int .i64 0, .int .i64 0, .slice none 0 0, .int .i64 0, .slice none 0 0, .int .i64 0, .bool false])) := Blk.at_ _ #[.int .i64 0, .int .i64 0, .int .i64 0, .int .i64 0, .int .i64 0, .int .i64 0, .int .i64 0, .int .i64 0, .int .i64 0, .int .i64 0, .int .i64 0, .int .i64 0, .int .i64 0, .int .i64 0, .slice none 0 0, .int .i64 0, .slice none 0 0, .int .i64 0, .bool false] _ _ (by simp)
  have FB : Hid (Below w.heap.size w ((w.alloc (.cells #[.int .i64 h.fl, .int .i64 h.gp, .int .i64 h.ln, .int .i64 h.rf, .int .i64 h.sp, .int .i64 h.pu, .int .i64 h.br, .int .i64 h.dr, .int .i64 h.lv, .int .i64 h.dO, .int .i64 h.ld, .int .i64 h.qu, .slice (some ⟨gd, 0, none⟩) ds.length dc, .int .i64 nx, .slice (some ⟨gp, 0, none⟩) ps.length pc, .int .i64 tk, .bool false] 37)).alloc (.cells #[.int .i64 0, .int .i64 0, .int .i64 0, .int .i64 0, .int .i64 0, .int .i64 0, .int .i64 0, .int .i64 0, .int .i64 0, .int .i64 0, .int .i64 0, .int .i64 0, .int .i64 0, .int .i64 0, .slice none 0 0, .int .i64 0, .slice none 0 0, .int .i64 0, .bool false] 39))) := ((Below.refl _ _).alloc (Nat.le_refl _) _).alloc (by simp) _
  have FI : Hid (GI ((w.alloc (.cells #[.int .i64 h.fl, .int .i64 h.gp, .int .i64 h.ln, .int .i64 h.rf, .int .i64 h.sp, .int .i64 h.pu, .int .i64 h.br, .int .i64 h.dr, .int .i64 h.lv, .int .i64 h.dO, .int .i64 h.ld, .int .i64 h.qu, .slice (some ⟨gd, 0, none⟩) ds.length dc, .int .i64 nx, .slice (some ⟨gp, 0, none⟩) ps.length pc, .int .i64 tk, .bool false] 37)).alloc (.cells #[.int .i64 0, .int .i64 0, .int .i64 0, .int .i64 0, .int .i64 0, .int .i64 0, .int .i64 0, .int .i64 0, .int .i64 0, .int .i64 0, .int .i64 0, .int .i64 0, .int .i64 0, .int .i64 0, .slice none 0 0, .int .i64 0, .slice none 0 0, .int .i64 0, .bool false] 39)) gd gp ds ps) := (hI.alloc _).alloc _
  have LI : Hid (gd < w.heap.size ∧ gp < w.heap.size) := ⟨hI.ld, hI.lp⟩
  obtain ⟨W0, hW0⟩ : ∃ W0, W0 = ((w.alloc (.cells #[.int .i64 h.fl, .int .i64 h.gp, .int .i64 h.ln, .int .i64 h.rf, .int .i64 h.sp, .int .i64 h.pu, .int .i64 h.br, .int .i64 h.dr, .int .i64 h.lv, .int .i64 h.dO, .int .i64 h.ld, .int .i64 h.qu, .slice (some ⟨gd, 0, none⟩) ds.length dc, .int .i64 nx, .slice (some ⟨gp, 0, none⟩) ps.length pc, .int .i64 tk, .bool false] 37)).alloc (.cells #[.int .i64 0, .int .i64 0, .int .i64 0, .int .i64 0, .int .i64 0, .int .i64 0, .int .i64 0, .int .i64 0, .int .i64 0, .int .i64 0, .int .i64 0, .int .i64 0, .int .i64 0, .int .i64 0, .slice none 0 0, .int .i64 0, .slice none 0 0, .int .i64 0, .bool false] 39)) := ⟨_, rfl⟩
  rw [← hW0] at F0 F1 FB FI
  have HW0 : Hid (W0 = ((w.alloc (.cells #[.int .i64 h.fl, .int .i64 h.gp, .int .i64 h.ln, .int .i64 h.rf, .int .i64 h.sp, .int .i64 h.pu, .int .i64 h.br, .int .i64 h.dr, .int .i64 h.lv, .int .i64 h.dO, .int .i64 h.ld, .int .i64 h.qu, .slice (some ⟨gd, 0, none⟩) ds.length dc, .int .i64 nx, .slice (some ⟨gp, 0, none⟩) ps.length pc, .int .i64 tk, .bool false] 37)).alloc (.cells #[.int .i64 0, .int .i64 0, .int .i64 0, .int .i64 0, .int .i64 0, .int .i64 0, .int .i64 0, .int .i64 0, .int .i64 0, .int .i64 0, .int .i64 0, .int .i64 0, .int .i64 0, .int .i64 0, .slice none 0 0, .int .i64 0, .slice none 0 0, .int .i64 0, .bool false] 39))) := hW0
  clear hW0 hI
  go_enter Tryz.func7, Tryz.ntmps7
  go_upto_region 1 with fail
  rw [← HW0.out]
  clear HW0
  go_upto_region 7 with (first | (refine load_blk 37 _ Tryz.underlying37 (by kernel_rfl) F0.out rfl rfl rfl ?_) | (go_at_call 23; refine (implGroupFault_any h ds (some ⟨gd, 0, none⟩) dc nx ps (some ⟨gp, 0, none⟩) pc tk false hld hlp _ FI.out.din FI.out.pin).mono ?_; rw [hf]; rintro e w1 ⟨rfl, hb⟩; have F0 : Hid (Blk w1 w.heap.size (gvs h (.slice (some ⟨gd, 0, none⟩) ds.length dc) nx (.slice (some ⟨gp, 0, none⟩) ps.length pc) tk false)) := F0.out.below hb F0.out.lt; have F1 : Hid (Blk w1 (w.heap.size + 1) ([.int .i64 0, .int .i64 0, .int .i64 0, .int .i64 0, .int .i64 0, .int .i64 0, .int .i64 0, .int .i64 0, .int .i64 0, .int .i64 0, .int .i64 0, .int .i64 0, .int .i64 0, .int .i64 0, .slice none 0 0, .int .i64 0, .slice none 0 0, .int .i64 0, .bool false])) := F1.out.below hb F1.out.lt; have FI : Hid (GI w1 gd gp ds ps) := FI.out.below hb FI.out.ld FI.out.lp; have FB : Hid (Below w.heap.size w w1) := FB.out.trans (hb.mono FB.out.size); clear hb; have x16 := F0.out.c 16 _ rfl; have x0 := F0.out.c 0 _ rfl; have x1 := F0.out.c 1 _ rfl; have x2 := F0.out.c 2 _ rfl; have x3 := F0.out.c 3 _ rfl; have x4 := F0.out.c 4 _ rfl; have x5 := F0.out.c 5 _ rfl; have x6 := F0.out.c 6 _ rfl; have x7 := F0.out.c 7 _ rfl; have x8 := F0.out.c 8 _ rfl; have x9 := F0.out.c 9 _ rfl; have x10 := F0.out.c 10 _ rfl; have x11 := F0.out.c 11 _ rfl) | (go_at_call 24; refine (implAssignCall_any h ds (some ⟨gd, 0, none⟩) dc nx ps (some ⟨gp, 0, none⟩) pc tk false f t hld hlp _ FI.out.din FI.out.pin).mono ?_; rw [HA.out]; rintro e w3 ⟨rfl, hb⟩; have F0 : Hid (Blk w3 w.heap.size (gvs h (.slice (some ⟨gd, 0, none⟩) ds.length dc) nx (.slice (some ⟨gp, 0, none⟩) ps.length pc) tk false)) := F0.out.below hb F0.out.lt; have F1 : Hid (Blk w3 (w.heap.size + 1) ([.int .i64 0, .int .i64 0, .int .i64 0, .int .i64 0, .int .i64 0, .int .i64 0, .int .i64 0, .int .i64 0, .int .i64 0, .int .i64 0, .int .i64 0, .int .i64 0, .int .i64 0, .int .i64 0, .slice none 0 0, .int .i64 0, .slice none 0 0, .int .i64 0, .bool false])) := F1.out.below hb F1.out.lt; have FI : Hid (GI w3 gd gp ds ps) := FI.out.below hb FI.out.ld FI.out.lp; have FB : Hid (Below w.heap.size w w3) := FB.out.trans (hb.mono FB.out.size); clear hb) | (refine store_new ([.int .i64 (Hs.call h f t), .int .i64 0, .int .i64 0]) 61 _ _ (by kernel_rfl) (by kernel_rfl) (by kernel_rfl) rfl rfl rfl rfl ?_))
  obtain ⟨wb, hwb⟩ : ∃ b, b = w3.heap.size := ⟨_, rfl⟩
  obtain ⟨W4, hW⟩ : ∃ W, W = w3.alloc (.cells ([.int .i64 (Hs.call h f t), .int .i64 0, .int .i64 0]).toArray 61) := ⟨_, rfl⟩
  have lw := F1.out.lt
  rw [← hwb] at lw
  have F0 : Hid (Blk W4 w.heap.size (gvs h (.slice (some ⟨gd, 0, none⟩) ds.length dc) nx (.slice (some ⟨gp, 0, none⟩) ps.length pc) tk false)) := by rw [hW]; exact F0.out.alloc _
  have F1 : Hid (Blk W4 (w.heap.size + 1) ([.int .i64 0, .int .i64 0, .int .i64 0, .int .i64 0, .int .i64 0, .int .i64 0, .int .i64 0, .int .i64 0, .int .i64 0, .int .i64 0, .int .i64 0, .int .i64 0, .int .i64 0, .int .i64 0, .slice none 0 0, .int .i64 0, .slice none 0 0, .int .i64 0, .bool false])) := by rw [hW]; exact F1.out.alloc _
  have FI : Hid (GI W4 gd gp ds ps) := by rw [hW]; exact FI.out.alloc _
  have FB : Hid (Below w.heap.size w W4) := by rw [hW]; exact FB.out.alloc FB.out.size _
  have FW : Hid (Blk W4 wb ([.int .i64 (Hs.call h f t), .int .i64 0, .int .i64 0])) := by rw [hW]; exact Blk.at_ w3 ([.int .i64 (Hs.call h f t), .int .i64 0, .int .i64 0]).toArray _ _ hwb
  rw [← hW, ← hwb]
  clear hW hwb
  have y0 := FW.out.c 0 _ rfl
  have y1 := FW.out.c 1 _ rfl
  have y2 := FW.out.c 2 _ rfl
  go_wp2_with (refine store_blk ([.int .i64 (Hs.call h f t), .int .i64 0, .int .i64 0, .int .i64 0, .int .i64 0, .int .i64 0, .int .i64 0, .int .i64 0, .int .i64 0, .int .i64 0, .int .i64 0, .int .i64 0, .int .i64 0, .int .i64 0, .slice none 0 0, .int .i64 0, .slice none 0 0, .int .i64 0, .bool false]) 39 _ _ (by kernel_rfl) (by kernel_rfl) (by kernel_rfl) F1.out rfl rfl rfl rfl ?_)
  exact bodyPost_ret (v := .agg #[.int .i64 (Hs.call h f t), .int .i64 0, .int .i64 0, .int .i64 0, .int .i64 0, .int .i64 0, .int .i64 0, .int .i64 0, .int .i64 0, .int .i64 0, .int .i64 0, .int .i64 0, .int .i64 0, .int .i64 0, .slice none 0 0, .int .i64 0, .slice none 0 0, .int .i64 0, .bool false]) ((F1.out.row [.int .i64 (Hs.call h f t), .int .i64 0, .int .i64 0, .int .i64 0, .int .i64 0, .int .i64 0, .int .i64 0, .int .i64 0, .int .i64 0, .int .i64 0, .int .i64 0, .int .i64 0, .int .i64 0, .int .i64 0, .slice none 0 0, .int .i64 0, .slice none 0 0, .int .i64 0, .bool false]).res _ Tryz.results7 Tryz.underlying39 (by kernel_rfl) rfl) rfl (isGrp.no (below_row FB.out (by omega) _))
set_option maxRecDepth 20000 in
set_option maxHeartbeats 32000000 in
theorem implCallLift_ad (h : Hs) (ds : List Dk) (gd dc : Nat) (nx : Int) (ps : List Pe) (gp pc : Nat) (tk : Int) (rc : Bool) (f t : Int) (hf : Gr.fault ⟨h, ds, ⟨nx, ps⟩, tk, rc⟩ = 0) (hr : rc = false) (hc : Hs.call h f t = 0) (hk : Hs.addC h ⟨nx, ps⟩ f t (asgK ps (Hs.pref h f t) ds.length 2).1 (asgK ps (Hs.pref h f t) ds.length 2).2 ≠ 0) (hld : ds.length ≤ 1048576) (hlp : ps.length ≤ 1048576) (w : World) (hI : GI w gd gp ds ps) : Calls Tryz.prog 7 #[.agg #[.int .i64 h.fl, .int .i64 h.gp, .int .i64 h.ln, .int .i64 h.rf, .int .i64 h.sp, .int .i64 h.pu, .int .i64 h.br, .int .i64 h.dr, .int .i64 h.lv, .int .i64 h.dO, .int .i64 h.ld, .int .i64 h.qu, .slice (some ⟨gd, 0, none⟩) ds.length dc, .int .i64 nx, .slice (some ⟨gp, 0, none⟩) ps.length pc, .int .i64 tk, .bool rc], .int .i64 f, .int .i64 t] w (isGrp w (Hs.addC h ⟨nx, ps⟩ f t (asgK ps (Hs.pref h f t) ds.length 2).1 (asgK ps (Hs.pref h f t) ds.length 2).2) 0 zeroH [] 0 [] 0 false) := by
  subst hr
  obtain ⟨q1, q2, q3, q4, q5, q6, q7⟩ := Gr.fault_parts hf
  obtain ⟨sh, hsh⟩ : ∃ s, (asgK ps (Hs.pref h f t) ds.length 2).1 = s := ⟨_, rfl⟩
  obtain ⟨ca, hca⟩ : ∃ s, (asgK ps (Hs.pref h f t) ds.length 2).2 = s := ⟨_, rfl⟩
  have HA : Hid (Gr.asg ⟨h, ds, ⟨nx, ps⟩, tk, false⟩ f t = (0, sh, ca)) := by unfold Gr.asg; rw [if_pos hf, if_pos hc, ← hsh, ← hca]; exact rfl
  rw [hsh, hca] at hk ⊢
  have hK : Hs.addK h ⟨nx, ps⟩ f t sh ca = Hs.addC h ⟨nx, ps⟩ f t sh ca := if_pos q4
  have HK : Hid (Hs.addK h ⟨nx, ps⟩ f t sh ca = Hs.addC h ⟨nx, ps⟩ f t sh ca ∧ Hs.addI h ⟨nx, ps⟩ f t sh ca = 0 ∧ Hs.addV h ⟨nx, ps⟩ f t sh ca = ⟨0, []⟩) := ⟨hK, if_neg (by rw [hK]; exact hk), if_neg (by rw [hK]; exact hk)⟩
  have hn : (Hs.addC h ⟨nx, ps⟩ f t sh ca != 0) = true := by simpa using hk
  clear hk hK
  clear hsh hca
  clear q1 q2 q3 q4 q5 q6 q7
  have F0 : Hid (Blk ((w.alloc (.cells #[.int .i64 h.fl, .int .i64 h.gp, .int .i64 h.ln, .int .i64 h.rf, .int .i64 h.sp, .int .i64 h.pu, .int .i64 h.br, .int .i64 h.dr, .int .i64 h.lv, .int .i64 h.dO, .int .i64 h.ld, .int .i64 h.qu, .slice (some ⟨gd, 0, none⟩) ds.length dc, .int .i64 nx, .slice (some ⟨gp, 0, none⟩) ps.length pc, .int .i64 tk, .bool false] 37)).alloc (.cells #[.int .i64 0, .int .i64 0, .int .i64 0, .int .i64 0, .int .i64 0, .int .i64 0, .int .i64 0, .int .i64 0, .int .i64 0, .int .i64 0, .int .i64 0, .int .i64 0, .int .i64 0, .int .i64 0, .slice none 0 0, .int .i64 0, .slice none 0 0, .int .i64 0, .bool false] 39)) w.heap.size (gvs h (.slice (some ⟨gd, 0, none⟩) ds.length dc) nx (.slice (some ⟨gp, 0, none⟩) ps.length pc) tk false)) := (Blk.at_ w #[.int .i64 h.fl, .int .i64 h.gp, .int .i64 h.ln, .int .i64 h.rf, .int .i64 h.sp, .int .i64 h.pu, .int .i64 h.br, .int .i64 h.dr, .int .i64 h.lv, .int .i64 h.dO, .int .i64 h.ld, .int .i64 h.qu, .slice (some ⟨gd, 0, none⟩) ds.length dc, .int .i64 nx, .slice (some ⟨gp, 0, none⟩) ps.length pc, .int .i64 tk, .bool false] _ _ rfl).alloc _
  have F1 : Hid (Blk ((w.alloc (.cells #[.int .i64 h.fl, .int .i64 h.gp, .int .i64 h.ln, .int .i64 h.rf, .int .i64 h.sp, .int .i64 h.pu, .int .i64 h.br, .int .i64 h.dr, .int .i64 h.lv, .int .i64 h.dO, .int .i64 h.ld, .int .i64 h.qu, .slice (some ⟨gd, 0, none⟩) ds.length dc, .int .i64 nx, .slice (some ⟨gp, 0, none⟩) ps.length pc, .int .i64 tk, .bool false] 37)).alloc (.cells #[.int .i64 0, .int .i64 0, .int .i64 0, .int .i64 0, .int .i64 0, .int .i64 0, .int .i64 0, .int .i64 0, .int .i64 0, .int .i64 0, .int .i64 0, .int .i64 0, .int .i64 0, .int .i64 0, .slice none 0 0, .int .i64 0, .slice none 0 0, .int .i64 0, .bool false] 39)) (w.heap.size + 1) ([.int .i64 0, .int .i64 0, .int .i64 0, .int .i64 0, .int .i64 0, .int .i64 0, .int .i64 0, .int .i64 0, .int .i64 0, .int .i64 0, .int .i64 0, .int .i64 0, .int .i64 0, .int .i64 0, .slice none 0 0, .int .i64 0, .slice none 0 0, .int .i64 0, .bool false])) := Blk.at_ _ #[.int .i64 0, .int .i64 0, .int .i64 0, .int .i64 0, .int .i64 0, .int .i64 0, .int .i64 0, .int .i64 0, .int .i64 0, .int .i64 0, .int .i64 0, .int .i64 0, .int .i64 0, .int .i64 0, .slice none 0 0, .int .i64 0, .slice none 0 0, .int .i64 0, .bool false] _ _ (by simp)
  have FB : Hid (Below w.heap.size w ((w.alloc (.cells #[.int .i64 h.fl, .int .i64 h.gp, .int .i64 h.ln, .int .i64 h.rf, .int .i64 h.sp, .int .i64 h.pu, .int .i64 h.br, .int .i64 h.dr, .int .i64 h.lv, .int .i64 h.dO, .int .i64 h.ld, .int .i64 h.qu, .slice (some ⟨gd, 0, none⟩) ds.length dc, .int .i64 nx, .slice (some ⟨gp, 0, none⟩) ps.length pc, .int .i64 tk, .bool false] 37)).alloc (.cells #[.int .i64 0, .int .i64 0, .int .i64 0, .int .i64 0, .int .i64 0, .int .i64 0, .int .i64 0, .int .i64 0, .int .i64 0, .int .i64 0, .int .i64 0, .int .i64 0, .int .i64 0, .int .i64 0, .slice none 0 0, .int .i64 0, .slice none 0 0, .int .i64 0, .bool false] 39))) := ((Below.refl _ _).alloc (Nat.le_refl _) _).alloc (by simp) _
  have FI : Hid (GI ((w.alloc (.cells #[.int .i64 h.fl, .int .i64 h.gp, .int .i64 h.ln, .int .i64 h.rf, .int .i64 h.sp, .int .i64 h.pu, .int .i64 h.br, .int .i64 h.dr, .int .i64 h.lv, .int .i64 h.dO, .int .i64 h.ld, .int .i64 h.qu, .slice (some ⟨gd, 0, none⟩) ds.length dc, .int .i64 nx, .slice (some ⟨gp, 0, none⟩) ps.length pc, .int .i64 tk, .bool false] 37)).alloc (.cells #[.int .i64 0, .int .i64 0, .int .i64 0, .int .i64 0, .int .i64 0, .int .i64 0, .int .i64 0, .int .i64 0, .int .i64 0, .int .i64 0, .int .i64 0, .int .i64 0, .int .i64 0, .int .i64 0, .slice none 0 0, .int .i64 0, .slice none 0 0, .int .i64 0, .bool false] 39)) gd gp ds ps) := (hI.alloc _).alloc _
  have LI : Hid (gd < w.heap.size ∧ gp < w.heap.size) := ⟨hI.ld, hI.lp⟩
  obtain ⟨W0, hW0⟩ : ∃ W0, W0 = ((w.alloc (.cells #[.int .i64 h.fl, .int .i64 h.gp, .int .i64 h.ln, .int .i64 h.rf, .int .i64 h.sp, .int .i64 h.pu, .int .i64 h.br, .int .i64 h.dr, .int .i64 h.lv, .int .i64 h.dO, .int .i64 h.ld, .int .i64 h.qu, .slice (some ⟨gd, 0, none⟩) ds.length dc, .int .i64 nx, .slice (some ⟨gp, 0, none⟩) ps.length pc, .int .i64 tk, .bool false] 37)).alloc (.cells #[.int .i64 0, .int .i64 0, .int .i64 0, .int .i64 0, .int .i64 0, .int .i64 0, .int .i64 0, .int .i64 0, .int .i64 0, .int .i64 0, .int .i64 0, .int .i64 0, .int .i64 0, .int .i64 0, .slice none 0 0, .int .i64 0, .slice none 0 0, .int .i64 0, .bool false] 39)) := ⟨_, rfl⟩
  rw [← hW0] at F0 F1 FB FI
  have HW0 : Hid (W0 = ((w.alloc (.cells #[.int .i64 h.fl, .int .i64 h.gp, .int .i64 h.ln, .int .i64 h.rf, .int .i64 h.sp, .int .i64 h.pu, .int .i64 h.br, .int .i64 h.dr, .int .i64 h.lv, .int .i64 h.dO, .int .i64 h.ld, .int .i64 h.qu, .slice (some ⟨gd, 0, none⟩) ds.length dc, .int .i64 nx, .slice (some ⟨gp, 0, none⟩) ps.length pc, .int .i64 tk, .bool false] 37)).alloc (.cells #[.int .i64 0, .int .i64 0, .int .i64 0, .int .i64 0, .int .i64 0, .int .i64 0, .int .i64 0, .int .i64 0, .int .i64 0, .int .i64 0, .int .i64 0, .int .i64 0, .int .i64 0, .int .i64 0, .slice none 0 0, .int .i64 0, .slice none 0 0, .int .i64 0, .bool false] 39))) := hW0
  clear hW0 hI
  go_enter Tryz.func7, Tryz.ntmps7
  go_upto_region 1 with fail
  rw [← HW0.out]
  clear HW0
  go_upto_region 7 with (first | (refine load_blk 37 _ Tryz.underlying37 (by kernel_rfl) F0.out rfl rfl rfl ?_) | (go_at_call 23; refine (implGroupFault_any h ds (some ⟨gd, 0, none⟩) dc nx ps (some ⟨gp, 0, none⟩) pc tk false hld hlp _ FI.out.din FI.out.pin).mono ?_; rw [hf]; rintro e w1 ⟨rfl, hb⟩; have F0 : Hid (Blk w1 w.heap.size (gvs h (.slice (some ⟨gd, 0, none⟩) ds.length dc) nx (.slice (some ⟨gp, 0, none⟩) ps.length pc) tk false)) := F0.out.below hb F0.out.lt; have F1 : Hid (Blk w1 (w.heap.size + 1) ([.int .i64 0, .int .i64 0, .int .i64 0, .int .i64 0, .int .i64 0, .int .i64 0, .int .i64 0, .int .i64 0, .int .i64 0, .int .i64 0, .int .i64 0, .int .i64 0, .int .i64 0, .int .i64 0, .slice none 0 0, .int .i64 0, .slice none 0 0, .int .i64 0, .bool false])) := F1.out.below hb F1.out.lt; have FI : Hid (GI w1 gd gp ds ps) := FI.out.below hb FI.out.ld FI.out.lp; have FB : Hid (Below w.heap.size w w1) := FB.out.trans (hb.mono FB.out.size); clear hb; have x16 := F0.out.c 16 _ rfl; have x0 := F0.out.c 0 _ rfl; have x1 := F0.out.c 1 _ rfl; have x2 := F0.out.c 2 _ rfl; have x3 := F0.out.c 3 _ rfl; have x4 := F0.out.c 4 _ rfl; have x5 := F0.out.c 5 _ rfl; have x6 := F0.out.c 6 _ rfl; have x7 := F0.out.c 7 _ rfl; have x8 := F0.out.c 8 _ rfl; have x9 := F0.out.c 9 _ rfl; have x10 := F0.out.c 10 _ rfl; have x11 := F0.out.c 11 _ rfl) | (go_at_call 24; refine (implAssignCall_any h ds (some ⟨gd, 0, none⟩) dc nx ps (some ⟨gp, 0, none⟩) pc tk false f t hld hlp _ FI.out.din FI.out.pin).mono ?_; rw [HA.out]; rintro e w3 ⟨rfl, hb⟩; have F0 : Hid (Blk w3 w.heap.size (gvs h (.slice (some ⟨gd, 0, none⟩) ds.length dc) nx (.slice (some ⟨gp, 0, none⟩) ps.length pc) tk false)) := F0.out.below hb F0.out.lt; have F1 : Hid (Blk w3 (w.heap.size + 1) ([.int .i64 0, .int .i64 0, .int .i64 0, .int .i64 0, .int .i64 0, .int .i64 0, .int .i64 0, .int .i64 0, .int .i64 0, .int .i64 0, .int .i64 0, .int .i64 0, .int .i64 0, .int .i64 0, .slice none 0 0, .int .i64 0, .slice none 0 0, .int .i64 0, .bool false])) := F1.out.below hb F1.out.lt; have FI : Hid (GI w3 gd gp ds ps) := FI.out.below hb FI.out.ld FI.out.lp; have FB : Hid (Below w.heap.size w w3) := FB.out.trans (hb.mono FB.out.size); clear hb) | (refine store_new ([.int .i64 0, .int .i64 sh, .int .i64 ca]) 61 _ _ (by kernel_rfl) (by kernel_rfl) (by kernel_rfl) rfl rfl rfl rfl ?_))
  obtain ⟨wb, hwb⟩ : ∃ b, b = w3.heap.size := ⟨_, rfl⟩
  obtain ⟨W4, hW⟩ : ∃ W, W = w3.alloc (.cells ([.int .i64 0, .int .i64 sh, .int .i64 ca]).toArray 61) := ⟨_, rfl⟩
  have lw := F1.out.lt
  rw [← hwb] at lw
  have F0 : Hid (Blk W4 w.heap.size (gvs h (.slice (some ⟨gd, 0, none⟩) ds.length dc) nx (.slice (some ⟨gp, 0, none⟩) ps.length pc) tk false)) := by rw [hW]; exact F0.out.alloc _
  have F1 : Hid (Blk W4 (w.heap.size + 1) ([.int .i64 0, .int .i64 0, .int .i64 0, .int .i64 0, .int .i64 0, .int .i64 0, .int .i64 0, .int .i64 0, .int .i64 0, .int .i64 0, .int .i64 0, .int .i64 0, .int .i64 0, .int .i64 0, .slice none 0 0, .int .i64 0, .slice none 0 0, .int .i64 0, .bool false])) := by rw [hW]; exact F1.out.alloc _
  have FI : Hid (GI W4 gd gp ds ps) := by rw [hW]; exact FI.out.alloc _
  have FB : Hid (Below w.heap.size w W4) := by rw [hW]; exact FB.out.alloc FB.out.size _
  have FW : Hid (Blk W4 wb ([.int .i64 0, .int .i64 sh, .int .i64 ca])) := by rw [hW]; exact Blk.at_ w3 ([.int .i64 0, .int .i64 sh, .int .i64 ca]).toArray _ _ hwb
  rw [← hW, ← hwb]
  clear hW hwb
  have y0 := FW.out.c 0 _ rfl
  have y1 := FW.out.c 1 _ rfl
  have y2 := FW.out.c 2 _ rfl
  have x0 := F0.out.c 0 _ rfl
  have x1 := F0.out.c 1 _ rfl
  have x2 := F0.out.c 2 _ rfl
  have x3 := F0.out.c 3 _ rfl
  have x4 := F0.out.c 4 _ rfl
  have x5 := F0.out.c 5 _ rfl
  have x6 := F0.out.c 6 _ rfl
  have x7 := F0.out.c 7 _ rfl
  have x8 := F0.out.c 8 _ rfl
  have x9 := F0.out.c 9 _ rfl
  have x10 := F0.out.c 10 _ rfl
  have x11 := F0.out.c 11 _ rfl
  have x12 := F0.out.c 12 _ rfl
  have x13 := F0.out.c 13 _ rfl
  have x14 := F0.out.c 14 _ rfl
  go_upto_region 10 with (first | (go_at_call 25; refine ((implAddCall_any h ⟨nx, ps⟩ f t sh ca gp 0 pc hlp _ FI.out.lp FI.out.p).mono (fun _ _ q => q.s)).mono ?_; rw [HK.out.1, HK.out.2.1, HK.out.2.2]; rintro e w5 ⟨pa3, pc3, rfl, ho, hb⟩; have FP : Hid (Own w5 (w.heap.size + 2) (.slice pa3 0 pc3) []) := Own.base ho (by have := F1.out.lt; omega); have np : Hid (∀ k, (Value.slice pa3 0 pc3).ownBlock = some k → wb < k) := (fun k hk => by have := (ho.lt k hk).1; have := FW.out.lt; omega); have F0 : Hid (Blk w5 w.heap.size (gvs h (.slice (some ⟨gd, 0, none⟩) ds.length dc) nx (.slice (some ⟨gp, 0, none⟩) ps.length pc) tk false)) := F0.out.below hb F0.out.lt; have F1 : Hid (Blk w5 (w.heap.size + 1) ([.int .i64 0, .int .i64 0, .int .i64 0, .int .i64 0, .int .i64 0, .int .i64 0, .int .i64 0, .int .i64 0, .int .i64 0, .int .i64 0, .int .i64 0, .int .i64 0, .int .i64 0, .int .i64 0, .slice none 0 0, .int .i64 0, .slice none 0 0, .int .i64 0, .bool false])) := F1.out.below hb F1.out.lt; have FI : Hid (GI w5 gd gp ds ps) := FI.out.below hb FI.out.ld FI.out.lp; have FB : Hid (Below w.heap.size w w5) := FB.out.trans (hb.mono FB.out.size); have FW : Hid (Blk w5 wb [.int .i64 0, .int .i64 sh, .int .i64 ca]) := FW.out.below hb FW.out.lt; clear hb; clear ho) | (refine store_new ([.int .i64 (Hs.addC h ⟨nx, ps⟩ f t sh ca), .int .i64 0, .int .i64 0, .slice pa3 0 pc3]) 64 _ _ (by kernel_rfl) (by kernel_rfl) (by kernel_rfl) rfl rfl rfl rfl ?_))
  obtain ⟨lb, hlb⟩ : ∃ b, b = w5.heap.size := ⟨_, rfl⟩
  obtain ⟨W6, hW⟩ : ∃ W, W = w5.alloc (.cells ([.int .i64 (Hs.addC h ⟨nx, ps⟩ f t sh ca), .int .i64 0, .int .i64 0, .slice pa3 0 pc3] : List Value).toArray 64) := ⟨_, rfl⟩
  have np2 : Hid (∀ k, (Value.slice pa3 0 pc3).ownBlock = some k → k < lb) := fun k hk => by rw [hlb]; exact (FP.out.lt k hk).2
  have ll := FW.out.lt
  rw [← hlb] at ll
  have F0 : Hid (Blk W6 w.heap.size (gvs h (.slice (some ⟨gd, 0, none⟩) ds.length dc) nx (.slice (some ⟨gp, 0, none⟩) ps.length pc) tk false)) := by rw [hW]; exact F0.out.alloc _
  have F1 : Hid (Blk W6 (w.heap.size + 1) ([.int .i64 0, .int .i64 0, .int .i64 0, .int .i64 0, .int .i64 0, .int .i64 0, .int .i64 0, .int .i64 0, .int .i64 0, .int .i64 0, .int .i64 0, .int .i64 0, .int .i64 0, .int .i64 0, .slice none 0 0, .int .i64 0, .slice none 0 0, .int .i64 0, .bool false])) := by rw [hW]; exact F1.out.alloc _
  have FI : Hid (GI W6 gd gp ds ps) := by rw [hW]; exact FI.out.alloc _
  have FB : Hid (Below w.heap.size w W6) := by rw [hW]; exact FB.out.alloc FB.out.size _
  have FP : Hid (Own W6 (w.heap.size + 2) (.slice pa3 0 pc3) []) := by rw [hW]; exact FP.out.alloc _
  have FL : Hid (Blk W6 lb [.int .i64 (Hs.addC h ⟨nx, ps⟩ f t sh ca), .int .i64 0, .int .i64 0, .slice pa3 0 pc3]) := by rw [hW]; exact Blk.at_ w5 ([.int .i64 (Hs.addC h ⟨nx, ps⟩ f t sh ca), .int .i64 0, .int .i64 0, .slice pa3 0 pc3] : List Value).toArray _ _ hlb
  rw [← hW, ← hlb]
  clear hW hlb y0 y1 y2 x0 x1 x2 x3 x4 x5 x6 x7 x8 x9 x10 x11 x12 x13 x14
  have z0 := FL.out.c 0 _ rfl
  go_wp2_with (refine store_blk ([.int .i64 (Hs.addC h ⟨nx, ps⟩ f t sh ca), .int .i64 0, .int .i64 0, .int .i64 0, .int .i64 0, .int .i64 0, .int .i64 0, .int .i64 0, .int .i64 0, .int .i64 0, .int .i64 0, .int .i64 0, .int .i64 0, .int .i64 0, .slice none 0 0, .int .i64 0, .slice none 0 0, .int .i64 0, .bool false]) 39 _ _ (by kernel_rfl) (by kernel_rfl) (by kernel_rfl) F1.out rfl rfl rfl rfl ?_)
  exact bodyPost_ret (v := .agg #[.int .i64 (Hs.addC h ⟨nx, ps⟩ f t sh ca), .int .i64 0, .int .i64 0, .int .i64 0, .int .i64 0, .int .i64 0, .int .i64 0, .int .i64 0, .int .i64 0, .int .i64 0, .int .i64 0, .int .i64 0, .int .i64 0, .int .i64 0, .slice none 0 0, .int .i64 0, .slice none 0 0, .int .i64 0, .bool false]) ((F1.out.row [.int .i64 (Hs.addC h ⟨nx, ps⟩ f t sh ca), .int .i64 0, .int .i64 0, .int .i64 0, .int .i64 0, .int .i64 0, .int .i64 0, .int .i64 0, .int .i64 0, .int .i64 0, .int .i64 0, .int .i64 0, .int .i64 0, .int .i64 0, .slice none 0 0, .int .i64 0, .slice none 0 0, .int .i64 0, .bool false]).res _ Tryz.results7 Tryz.underlying39 (by kernel_rfl) rfl) rfl (isGrp.no (below_row FB.out (by omega) _))
set_option maxRecDepth 20000 in
set_option maxHeartbeats 32000000 in
theorem implCallLift_yes (h : Hs) (ds : List Dk) (gd dc : Nat) (nx : Int) (ps : List Pe) (gp pc : Nat) (tk : Int) (rc : Bool) (f t : Int) (hf : Gr.fault ⟨h, ds, ⟨nx, ps⟩, tk, rc⟩ = 0) (hr : rc = false) (hc : Hs.call h f t = 0) (hk : Hs.addC h ⟨nx, ps⟩ f t (asgK ps (Hs.pref h f t) ds.length 2).1 (asgK ps (Hs.pref h f t) ds.length 2).2 = 0) (hld : ds.length ≤ 1048576) (hlp : ps.length ≤ 1048576) (w : World) (hI : GI w gd gp ds ps) : Calls Tryz.prog 7 #[.agg #[.int .i64 h.fl, .int .i64 h.gp, .int .i64 h.ln, .int .i64 h.rf, .int .i64 h.sp, .int .i64 h.pu, .int .i64 h.br, .int .i64 h.dr, .int .i64 h.lv, .int .i64 h.dO, .int .i64 h.ld, .int .i64 h.qu, .slice (some ⟨gd, 0, none⟩) ds.length dc, .int .i64 nx, .slice (some ⟨gp, 0, none⟩) ps.length pc, .int .i64 tk, .bool rc], .int .i64 f, .int .i64 t] w (isGrp w 0 nx h ds (nx + 1) (freeL ps ++ [(⟨nx, f, t, (asgK ps (Hs.pref h f t) ds.length 2).1, (asgK ps (Hs.pref h f t) ds.length 2).2, 0, 0⟩ : Pe)]) tk rc) := by
  subst hr
  obtain ⟨q1, q2, q3, q4, q5, q6, q7⟩ := Gr.fault_parts hf
  obtain ⟨sh, hsh⟩ : ∃ s, (asgK ps (Hs.pref h f t) ds.length 2).1 = s := ⟨_, rfl⟩
  obtain ⟨ca, hca⟩ : ∃ s, (asgK ps (Hs.pref h f t) ds.length 2).2 = s := ⟨_, rfl⟩
  have HA : Hid (Gr.asg ⟨h, ds, ⟨nx, ps⟩, tk, false⟩ f t = (0, sh, ca)) := by unfold Gr.asg; rw [if_pos hf, if_pos hc, ← hsh, ← hca]; exact rfl
  rw [hsh, hca] at hk ⊢
  have hK : Hs.addK h ⟨nx, ps⟩ f t sh ca = Hs.addC h ⟨nx, ps⟩ f t sh ca := if_pos q4
  obtain ⟨LP, hLP⟩ : ∃ L, freeL ps ++ [(⟨nx, f, t, sh, ca, 0, 0⟩ : Pe)] = L := ⟨_, rfl⟩
  have HK : Hid (Hs.addK h ⟨nx, ps⟩ f t sh ca = 0 ∧ Hs.addI h ⟨nx, ps⟩ f t sh ca = nx ∧ Hs.addV h ⟨nx, ps⟩ f t sh ca = ⟨nx + 1, LP⟩) := ⟨hK.trans hk, if_pos (hK.trans hk), (if_pos (hK.trans hk)).trans (by rw [← hLP])⟩
  rw [hLP]
  clear hk hK hLP
  clear hsh hca
  clear q1 q2 q3 q4 q5 q6 q7
  have F0 : Hid (Blk ((w.alloc (.cells #[.int .i64 h.fl, .int .i64 h.gp, .int .i64 h.ln, .int .i64 h.rf, .int .i64 h.sp, .int .i64 h.pu, .int .i64 h.br, .int .i64 h.dr, .int .i64 h.lv, .int .i64 h.dO, .int .i64 h.ld, .int .i64 h.qu, .slice (some ⟨gd, 0, none⟩) ds.length dc, .int .i64 nx, .slice (some ⟨gp, 0, none⟩) ps.length pc, .int .i64 tk, .bool false] 37)).alloc (.cells #[.int .i64 0, .int .i64 0, .int .i64 0, .int .i64 0, .int .i64 0, .int .i64 0, .int .i64 0, .int .i64 0, .int .i64 0, .int .i64 0, .int .i64 0, .int .i64 0, .int .i64 0, .int .i64 0, .slice none 0 0, .int .i64 0, .slice none 0 0, .int .i64 0, .bool false] 39)) w.heap.size (gvs h (.slice (some ⟨gd, 0, none⟩) ds.length dc) nx (.slice (some ⟨gp, 0, none⟩) ps.length pc) tk false)) := (Blk.at_ w #[.int .i64 h.fl, .int .i64 h.gp, .int .i64 h.ln, .int .i64 h.rf, .int .i64 h.sp, .int .i64 h.pu, .int .i64 h.br, .int .i64 h.dr, .int .i64 h.lv, .int .i64 h.dO, .int .i64 h.ld, .int .i64 h.qu, .slice (some ⟨gd, 0, none⟩) ds.length dc, .int .i64 nx, .slice (some ⟨gp, 0, none⟩) ps.length pc, .int .i64 tk, .bool false] _ _ rfl).alloc _
  have F1 : Hid (Blk ((w.alloc (.cells #[.int .i64 h.fl, .int .i64 h.gp, .int .i64 h.ln, .int .i64 h.rf, .int .i64 h.sp, .int .i64 h.pu, .int .i64 h.br, .int .i64 h.dr, .int .i64 h.lv, .int .i64 h.dO, .int .i64 h.ld, .int .i64 h.qu, .slice (some ⟨gd, 0, none⟩) ds.length dc, .int .i64 nx, .slice (some ⟨gp, 0, none⟩) ps.length pc, .int .i64 tk, .bool false] 37)).alloc (.cells #[.int .i64 0, .int .i64 0, .int .i64 0, .int .i64 0, .int .i64 0, .int .i64 0, .int .i64 0, .int .i64 0, .int .i64 0, .int .i64 0, .int .i64 0, .int .i64 0, .int .i64 0, .int .i64 0, .slice none 0 0, .int .i64 0, .slice none 0 0, .int .i64 0, .bool false] 39)) (w.heap.size + 1) ([.int .i64 0, .int .i64 0, .int .i64 0, .int .i64 0, .int .i64 0, .int .i64 0, .int .i64 0, .int .i64 0, .int .i64 0, .int .i64 0, .int .i64 0, .int .i64 0, .int .i64 0, .int .i64 0, .slice none 0 0, .int .i64 0, .slice none 0 0, .int .i64 0, .bool false])) := Blk.at_ _ #[.int .i64 0, .int .i64 0, .int .i64 0, .int .i64 0, .int .i64 0, .int .i64 0, .int .i64 0, .int .i64 0, .int .i64 0, .int .i64 0, .int .i64 0, .int .i64 0, .int .i64 0, .int .i64 0, .slice none 0 0, .int .i64 0, .slice none 0 0, .int .i64 0, .bool false] _ _ (by simp)
  have FB : Hid (Below w.heap.size w ((w.alloc (.cells #[.int .i64 h.fl, .int .i64 h.gp, .int .i64 h.ln, .int .i64 h.rf, .int .i64 h.sp, .int .i64 h.pu, .int .i64 h.br, .int .i64 h.dr, .int .i64 h.lv, .int .i64 h.dO, .int .i64 h.ld, .int .i64 h.qu, .slice (some ⟨gd, 0, none⟩) ds.length dc, .int .i64 nx, .slice (some ⟨gp, 0, none⟩) ps.length pc, .int .i64 tk, .bool false] 37)).alloc (.cells #[.int .i64 0, .int .i64 0, .int .i64 0, .int .i64 0, .int .i64 0, .int .i64 0, .int .i64 0, .int .i64 0, .int .i64 0, .int .i64 0, .int .i64 0, .int .i64 0, .int .i64 0, .int .i64 0, .slice none 0 0, .int .i64 0, .slice none 0 0, .int .i64 0, .bool false] 39))) := ((Below.refl _ _).alloc (Nat.le_refl _) _).alloc (by simp) _
  have FI : Hid (GI ((w.alloc (.cells #[.int .i64 h.fl, .int .i64 h.gp, .int .i64 h.ln, .int .i64 h.rf, .int .i64 h.sp, .int .i64 h.pu, .int .i64 h.br, .int .i64 h.dr, .int .i64 h.lv, .int .i64 h.dO, .int .i64 h.ld, .int .i64 h.qu, .slice (some ⟨gd, 0, none⟩) ds.length dc, .int .i64 nx, .slice (some ⟨gp, 0, none⟩) ps.length pc, .int .i64 tk, .bool false] 37)).alloc (.cells #[.int .i64 0, .int .i64 0, .int .i64 0, .int .i64 0, .int .i64 0, .int .i64 0, .int .i64 0, .int .i64 0, .int .i64 0, .int .i64 0, .int .i64 0, .int .i64 0, .int .i64 0, .int .i64 0, .slice none 0 0, .int .i64 0, .slice none 0 0, .int .i64 0, .bool false] 39)) gd gp ds ps) := (hI.alloc _).alloc _
  have LI : Hid (gd < w.heap.size ∧ gp < w.heap.size) := ⟨hI.ld, hI.lp⟩
  obtain ⟨W0, hW0⟩ : ∃ W0, W0 = ((w.alloc (.cells #[.int .i64 h.fl, .int .i64 h.gp, .int .i64 h.ln, .int .i64 h.rf, .int .i64 h.sp, .int .i64 h.pu, .int .i64 h.br, .int .i64 h.dr, .int .i64 h.lv, .int .i64 h.dO, .int .i64 h.ld, .int .i64 h.qu, .slice (some ⟨gd, 0, none⟩) ds.length dc, .int .i64 nx, .slice (some ⟨gp, 0, none⟩) ps.length pc, .int .i64 tk, .bool false] 37)).alloc (.cells #[.int .i64 0, .int .i64 0, .int .i64 0, .int .i64 0, .int .i64 0, .int .i64 0, .int .i64 0, .int .i64 0, .int .i64 0, .int .i64 0, .int .i64 0, .int .i64 0, .int .i64 0, .int .i64 0, .slice none 0 0, .int .i64 0, .slice none 0 0, .int .i64 0, .bool false] 39)) := ⟨_, rfl⟩
  rw [← hW0] at F0 F1 FB FI
  have HW0 : Hid (W0 = ((w.alloc (.cells #[.int .i64 h.fl, .int .i64 h.gp, .int .i64 h.ln, .int .i64 h.rf, .int .i64 h.sp, .int .i64 h.pu, .int .i64 h.br, .int .i64 h.dr, .int .i64 h.lv, .int .i64 h.dO, .int .i64 h.ld, .int .i64 h.qu, .slice (some ⟨gd, 0, none⟩) ds.length dc, .int .i64 nx, .slice (some ⟨gp, 0, none⟩) ps.length pc, .int .i64 tk, .bool false] 37)).alloc (.cells #[.int .i64 0, .int .i64 0, .int .i64 0, .int .i64 0, .int .i64 0, .int .i64 0, .int .i64 0, .int .i64 0, .int .i64 0, .int .i64 0, .int .i64 0, .int .i64 0, .int .i64 0, .int .i64 0, .slice none 0 0, .int .i64 0, .slice none 0 0, .int .i64 0, .bool false] 39))) := hW0
  clear hW0 hI
  go_enter Tryz.func7, Tryz.ntmps7
  go_upto_region 1 with fail
  rw [← HW0.out]
  clear HW0
  go_upto_region 7 with (first | (refine load_blk 37 _ Tryz.underlying37 (by kernel_rfl) F0.out rfl rfl rfl ?_) | (go_at_call 23; refine (implGroupFault_any h ds (some ⟨gd, 0, none⟩) dc nx ps (some ⟨gp, 0, none⟩) pc tk false hld hlp _ FI.out.din FI.out.pin).mono ?_; rw [hf]; rintro e w1 ⟨rfl, hb⟩; have F0 : Hid (Blk w1 w.heap.size (gvs h (.slice (some ⟨gd, 0, none⟩) ds.length dc) nx (.slice (some ⟨gp, 0, none⟩) ps.length pc) tk false)) := F0.out.below hb F0.out.lt; have F1 : Hid (Blk w1 (w.heap.size + 1) ([.int .i64 0, .int .i64 0, .int .i64 0, .int .i64 0, .int .i64 0, .int .i64 0, .int .i64 0, .int .i64 0, .int .i64 0, .int .i64 0, .int .i64 0, .int .i64 0, .int .i64 0, .int .i64 0, .slice none 0 0, .int .i64 0, .slice none 0 0, .int .i64 0, .bool false])) := F1.out.below hb F1.out.lt; have FI : Hid (GI w1 gd gp ds ps) := FI.out.below hb FI.out.ld FI.out.lp; have FB : Hid (Below w.heap.size w w1) := FB.out.trans (hb.mono FB.out.size); clear hb; have x16 := F0.out.c 16 _ rfl; have x0 := F0.out.c 0 _ rfl; have x1 := F0.out.c 1 _ rfl; have x2 := F0.out.c 2 _ rfl; have x3 := F0.out.c 3 _ rfl; have x4 := F0.out.c 4 _ rfl; have x5 := F0.out.c 5 _ rfl; have x6 := F0.out.c 6 _ rfl; have x7 := F0.out.c 7 _ rfl; have x8 := F0.out.c 8 _ rfl; have x9 := F0.out.c 9 _ rfl; have x10 := F0.out.c 10 _ rfl; have x11 := F0.out.c 11 _ rfl) | (go_at_call 24; refine (implAssignCall_any h ds (some ⟨gd, 0, none⟩) dc nx ps (some ⟨gp, 0, none⟩) pc tk false f t hld hlp _ FI.out.din FI.out.pin).mono ?_; rw [HA.out]; rintro e w3 ⟨rfl, hb⟩; have F0 : Hid (Blk w3 w.heap.size (gvs h (.slice (some ⟨gd, 0, none⟩) ds.length dc) nx (.slice (some ⟨gp, 0, none⟩) ps.length pc) tk false)) := F0.out.below hb F0.out.lt; have F1 : Hid (Blk w3 (w.heap.size + 1) ([.int .i64 0, .int .i64 0, .int .i64 0, .int .i64 0, .int .i64 0, .int .i64 0, .int .i64 0, .int .i64 0, .int .i64 0, .int .i64 0, .int .i64 0, .int .i64 0, .int .i64 0, .int .i64 0, .slice none 0 0, .int .i64 0, .slice none 0 0, .int .i64 0, .bool false])) := F1.out.below hb F1.out.lt; have FI : Hid (GI w3 gd gp ds ps) := FI.out.below hb FI.out.ld FI.out.lp; have FB : Hid (Below w.heap.size w w3) := FB.out.trans (hb.mono FB.out.size); clear hb) | (refine store_new ([.int .i64 0, .int .i64 sh, .int .i64 ca]) 61 _ _ (by kernel_rfl) (by kernel_rfl) (by kernel_rfl) rfl rfl rfl rfl ?_))
  obtain ⟨wb, hwb⟩ : ∃ b, b = w3.heap.size := ⟨_, rfl⟩
  obtain ⟨W4, hW⟩ : ∃ W, W = w3.alloc (.cells ([.int .i64 0, .int .i64 sh, .int .i64 ca]).toArray 61) := ⟨_, rfl⟩
  have lw := F1.out.lt
  rw [← hwb] at lw
  have F0 : Hid (Blk W4 w.heap.size (gvs h (.slice (some ⟨gd, 0, none⟩) ds.length dc) nx (.slice (some ⟨gp, 0, none⟩) ps.length pc) tk false)) := by rw [hW]; exact F0.out.alloc _
  have F1 : Hid (Blk W4 (w.heap.size + 1) ([.int .i64 0, .int .i64 0, .int .i64 0, .int .i64 0, .int .i64 0, .int .i64 0, .int .i64 0, .int .i64 0, .int .i64 0, .int .i64 0, .int .i64 0, .int .i64 0, .int .i64 0, .int .i64 0, .slice none 0 0, .int .i64 0, .slice none 0 0, .int .i64 0, .bool false])) := by rw [hW]; exact F1.out.alloc _
  have FI : Hid (GI W4 gd gp ds ps) := by rw [hW]; exact FI.out.alloc _
  have FB : Hid (Below w.heap.size w W4) := by rw [hW]; exact FB.out.alloc FB.out.size _
  have FW : Hid (Blk W4 wb ([.int .i64 0, .int .i64 sh, .int .i64 ca])) := by rw [hW]; exact Blk.at_ w3 ([.int .i64 0, .int .i64 sh, .int .i64 ca]).toArray _ _ hwb
  rw [← hW, ← hwb]
  clear hW hwb
  have y0 := FW.out.c 0 _ rfl
  have y1 := FW.out.c 1 _ rfl
  have y2 := FW.out.c 2 _ rfl
  have x0 := F0.out.c 0 _ rfl
  have x1 := F0.out.c 1 _ rfl
  have x2 := F0.out.c 2 _ rfl
  have x3 := F0.out.c 3 _ rfl
  have x4 := F0.out.c 4 _ rfl
  have x5 := F0.out.c 5 _ rfl
  have x6 := F0.out.c 6 _ rfl
  have x7 := F0.out.c 7 _ rfl
  have x8 := F0.out.c 8 _ rfl
  have x9 := F0.out.c 9 _ rfl
  have x10 := F0.out.c 10 _ rfl
  have x11 := F0.out.c 11 _ rfl
  have x12 := F0.out.c 12 _ rfl
  have x13 := F0.out.c 13 _ rfl
  have x14 := F0.out.c 14 _ rfl
  go_upto_region 10 with (first | (go_at_call 25; refine ((implAddCall_any h ⟨nx, ps⟩ f t sh ca gp 0 pc hlp _ FI.out.lp FI.out.p).mono (fun _ _ q => q.s)).mono ?_; rw [HK.out.1, HK.out.2.1, HK.out.2.2]; rintro e w5 ⟨pa3, pc3, rfl, ho, hb⟩; have FP : Hid (Own w5 (w.heap.size + 2) (.slice pa3 LP.length pc3) LP) := Own.base ho (by have := F1.out.lt; omega); have np : Hid (∀ k, (Value.slice pa3 LP.length pc3).ownBlock = some k → wb < k) := (fun k hk => by have := (ho.lt k hk).1; have := FW.out.lt; omega); have F0 : Hid (Blk w5 w.heap.size (gvs h (.slice (some ⟨gd, 0, none⟩) ds.length dc) nx (.slice (some ⟨gp, 0, none⟩) ps.length pc) tk false)) := F0.out.below hb F0.out.lt; have F1 : Hid (Blk w5 (w.heap.size + 1) ([.int .i64 0, .int .i64 0, .int .i64 0, .int .i64 0, .int .i64 0, .int .i64 0, .int .i64 0, .int .i64 0, .int .i64 0, .int .i64 0, .int .i64 0, .int .i64 0, .int .i64 0, .int .i64 0, .slice none 0 0, .int .i64 0, .slice none 0 0, .int .i64 0, .bool false])) := F1.out.below hb F1.out.lt; have FI : Hid (GI w5 gd gp ds ps) := FI.out.below hb FI.out.ld FI.out.lp; have FB : Hid (Below w.heap.size w w5) := FB.out.trans (hb.mono FB.out.size); have FW : Hid (Blk w5 wb [.int .i64 0, .int .i64 sh, .int .i64 ca]) := FW.out.below hb FW.out.lt; clear hb; clear ho) | (refine store_new ([.int .i64 0, .int .i64 nx, .int .i64 (nx + 1), .slice pa3 LP.length pc3]) 64 _ _ (by kernel_rfl) (by kernel_rfl) (by kernel_rfl) rfl rfl rfl rfl ?_))
  obtain ⟨lb, hlb⟩ : ∃ b, b = w5.heap.size := ⟨_, rfl⟩
  obtain ⟨W6, hW⟩ : ∃ W, W = w5.alloc (.cells ([.int .i64 0, .int .i64 nx, .int .i64 (nx + 1), .slice pa3 LP.length pc3] : List Value).toArray 64) := ⟨_, rfl⟩
  have np2 : Hid (∀ k, (Value.slice pa3 LP.length pc3).ownBlock = some k → k < lb) := fun k hk => by rw [hlb]; exact (FP.out.lt k hk).2
  have ll := FW.out.lt
  rw [← hlb] at ll
  have F0 : Hid (Blk W6 w.heap.size (gvs h (.slice (some ⟨gd, 0, none⟩) ds.length dc) nx (.slice (some ⟨gp, 0, none⟩) ps.length pc) tk false)) := by rw [hW]; exact F0.out.alloc _
  have F1 : Hid (Blk W6 (w.heap.size + 1) ([.int .i64 0, .int .i64 0, .int .i64 0, .int .i64 0, .int .i64 0, .int .i64 0, .int .i64 0, .int .i64 0, .int .i64 0, .int .i64 0, .int .i64 0, .int .i64 0, .int .i64 0, .int .i64 0, .slice none 0 0, .int .i64 0, .slice none 0 0, .int .i64 0, .bool false])) := by rw [hW]; exact F1.out.alloc _
  have FI : Hid (GI W6 gd gp ds ps) := by rw [hW]; exact FI.out.alloc _
  have FB : Hid (Below w.heap.size w W6) := by rw [hW]; exact FB.out.alloc FB.out.size _
  have FP : Hid (Own W6 (w.heap.size + 2) (.slice pa3 LP.length pc3) LP) := by rw [hW]; exact FP.out.alloc _
  have FL : Hid (Blk W6 lb [.int .i64 0, .int .i64 nx, .int .i64 (nx + 1), .slice pa3 LP.length pc3]) := by rw [hW]; exact Blk.at_ w5 ([.int .i64 0, .int .i64 nx, .int .i64 (nx + 1), .slice pa3 LP.length pc3] : List Value).toArray _ _ hlb
  rw [← hW, ← hlb]
  clear hW hlb y0 y1 y2 x0 x1 x2 x3 x4 x5 x6 x7 x8 x9 x10 x11 x12 x13 x14
  have z0 := FL.out.c 0 _ rfl
  go_upto_region 13 with (first | (refine load_blk 37 _ Tryz.underlying37 (by kernel_rfl) F0.out rfl rfl rfl ?_) | (go_at_call 26; refine (copiedGroup_any h ds gd dc nx ps gp pc tk false hld hlp _ FI.out).mono ?_; rintro e w7 ⟨g1, c1, g2, c2, rfl, ho1, ho2, ne12, hb⟩; have q1 := FL.out.lt; have FD : Hid (OwD w7 (lb + 1) g1 ds.length c1 ds) := ho1.base (by omega); have F0 : Hid (Blk w7 w.heap.size (gvs h (.slice (some ⟨gd, 0, none⟩) ds.length dc) nx (.slice (some ⟨gp, 0, none⟩) ps.length pc) tk false)) := F0.out.below hb F0.out.lt; have F1 : Hid (Blk w7 (w.heap.size + 1) ([.int .i64 0, .int .i64 0, .int .i64 0, .int .i64 0, .int .i64 0, .int .i64 0, .int .i64 0, .int .i64 0, .int .i64 0, .int .i64 0, .int .i64 0, .int .i64 0, .int .i64 0, .int .i64 0, .slice none 0 0, .int .i64 0, .slice none 0 0, .int .i64 0, .bool false])) := F1.out.below hb F1.out.lt; have FB : Hid (Below w.heap.size w w7) := FB.out.trans (hb.mono FB.out.size); have FL : Hid (Blk w7 lb [.int .i64 0, .int .i64 nx, .int .i64 (nx + 1), .slice pa3 LP.length pc3]) := FL.out.below hb FL.out.lt; have FP : Hid (Own w7 (w.heap.size + 2) (.slice pa3 LP.length pc3) LP) := FP.out.below hb (fun k hk => (FP.out.lt k hk).2); clear hb; clear ho1 ho2 q1) | (refine store_new (gvs h (.slice (some ⟨g1, 0, none⟩) ds.length c1) nx (.slice (some ⟨g2, 0, none⟩) ps.length c2) tk false) 37 _ _ (by kernel_rfl) (by kernel_rfl) (by kernel_rfl) rfl rfl rfl rfl ?_))
  obtain ⟨gb, hgb⟩ : ∃ b, b = w7.heap.size := ⟨_, rfl⟩
  obtain ⟨W8, hW⟩ : ∃ W, W = w7.alloc (.cells (gvs h (.slice (some ⟨g1, 0, none⟩) ds.length c1) nx (.slice (some ⟨g2, 0, none⟩) ps.length c2) tk false).toArray 37) := ⟨_, rfl⟩
  have lg0 := F1.out.lt
  rw [← hgb] at lg0
  have lg1 := FD.out.bl.2
  rw [← hgb] at lg1
  have lg2 := FL.out.lt
  rw [← hgb] at lg2
  have F0 : Hid (Blk W8 w.heap.size (gvs h (.slice (some ⟨gd, 0, none⟩) ds.length dc) nx (.slice (some ⟨gp, 0, none⟩) ps.length pc) tk false)) := by rw [hW]; exact F0.out.alloc _
  have F1 : Hid (Blk W8 (w.heap.size + 1) ([.int .i64 0, .int .i64 0, .int .i64 0, .int .i64 0, .int .i64 0, .int .i64 0, .int .i64 0, .int .i64 0, .int .i64 0, .int .i64 0, .int .i64 0, .int .i64 0, .int .i64 0, .int .i64 0, .slice none 0 0, .int .i64 0, .slice none 0 0, .int .i64 0, .bool false])) := by rw [hW]; exact F1.out.alloc _
  have FB : Hid (Below w.heap.size w W8) := by rw [hW]; exact FB.out.alloc FB.out.size _
  have FL : Hid (Blk W8 lb [.int .i64 0, .int .i64 nx, .int .i64 (nx + 1), .slice pa3 LP.length pc3]) := by rw [hW]; exact FL.out.alloc _
  have FP : Hid (Own W8 (w.heap.size + 2) (.slice pa3 LP.length pc3) LP) := by rw [hW]; exact FP.out.alloc _
  have FD : Hid (OwD W8 (lb + 1) g1 ds.length c1 ds) := by rw [hW]; exact FD.out.alloc _
  have FG : Hid (Blk W8 gb (gvs h (.slice (some ⟨g1, 0, none⟩) ds.length c1) nx (.slice (some ⟨g2, 0, none⟩) ps.length c2) tk false)) := by rw [hW]; exact Blk.at_ w7 (gvs h (.slice (some ⟨g1, 0, none⟩) ds.length c1) nx (.slice (some ⟨g2, 0, none⟩) ps.length c2) tk false).toArray _ _ hgb
  rw [← hW, ← hgb]
  clear hW hgb
  have lgd := FD.out.bl.1
  have z1 := FL.out.c 1 _ rfl
  have z2 := FL.out.c 2 _ rfl
  have z3 := FL.out.c 3 _ rfl
  have k13 := FG.out.c 13 _ rfl
  have k14 := FG.out.c 14 _ rfl
  have kf13 := FG.out.f 13 (Nat.le_of_ble_eq_true rfl)
  have kf14 := FG.out.f 14 (Nat.le_of_ble_eq_true rfl)
  go_upto_region 14 with fail
  obtain ⟨W9, hw_⟩ : ∃ W, W = (W8.setCell ⟨gb, 13, none⟩ (.int .i64 (nx + 1))).setCell ⟨gb, 14, none⟩ (.slice pa3 LP.length pc3) := ⟨_, rfl⟩
  rw [← hw_]
  have FG : Hid (Blk W9 gb (gvs h (.slice (some ⟨g1, 0, none⟩) ds.length c1) (nx + 1) (.slice pa3 LP.length pc3) tk false)) := by rw [hw_]; exact putB_set [.int .i64 (nx + 1), .slice pa3 LP.length pc3] _ 13 W8 FG.out (Nat.le_of_ble_eq_true rfl)
  have F1 : Hid (Blk W9 (w.heap.size + 1) ([.int .i64 0, .int .i64 0, .int .i64 0, .int .i64 0, .int .i64 0, .int .i64 0, .int .i64 0, .int .i64 0, .int .i64 0, .int .i64 0, .int .i64 0, .int .i64 0, .int .i64 0, .int .i64 0, .slice none 0 0, .int .i64 0, .slice none 0 0, .int .i64 0, .bool false])) := by rw [hw_]; exact Blk.putB_other (by omega) [.int .i64 (nx + 1), .slice pa3 LP.length pc3] 13 F1.out
  have FL : Hid (Blk W9 lb [.int .i64 0, .int .i64 nx, .int .i64 (nx + 1), .slice pa3 LP.length pc3]) := by rw [hw_]; exact Blk.putB_other (by omega) [.int .i64 (nx + 1), .slice pa3 LP.length pc3] 13 FL.out
  have FD : Hid (OwD W9 (lb + 1) g1 ds.length c1 ds) := by rw [hw_]; exact OwD.putB (by omega) [.int .i64 (nx + 1), .slice pa3 LP.length pc3] 13 _ FD.out
  have FP : Hid (Own W9 (w.heap.size + 2) (.slice pa3 LP.length pc3) LP) := by rw [hw_]; exact (FP.out.other (p := ⟨gb, 13, none⟩) (fun e => by have q := np2.out _ e; exact absurd q (by show ¬ gb < lb; omega)) _).other (p := ⟨gb, 14, none⟩) (fun e => by have q := np2.out _ e; exact absurd q (by show ¬ gb < lb; omega)) _
  have FB : Hid (Below w.heap.size w W9) := by rw [hw_]; exact below_putB FB.out (by omega) [.int .i64 (nx + 1), .slice pa3 LP.length pc3] 13
  clear hw_ z0 z1 z2 z3 k13 k14 kf13 kf14
  have z1 := FL.out.c 1 _ rfl
  go_wp2_with (first | (refine load_blk 37 _ Tryz.underlying37 (by kernel_rfl) FG.out rfl rfl rfl ?_) | (refine store_blk (rvs 0 nx h (.slice (some ⟨g1, 0, none⟩) ds.length c1) (nx + 1) (.slice pa3 LP.length pc3) tk false) 39 _ _ (by kernel_rfl) (by kernel_rfl) (by kernel_rfl) F1.out rfl rfl rfl rfl ?_))
  refine bodyPost_ret (v := .agg #[.int .i64 0, .int .i64 nx, .int .i64 h.fl, .int .i64 h.gp, .int .i64 h.ln, .int .i64 h.rf, .int .i64 h.sp, .int .i64 h.pu, .int .i64 h.br, .int .i64 h.dr, .int .i64 h.lv, .int .i64 h.dO, .int .i64 h.ld, .int .i64 h.qu, .slice (some ⟨g1, 0, none⟩) ds.length c1, .int .i64 (nx + 1), .slice pa3 LP.length pc3, .int .i64 tk, .bool false]) ((F1.out.row (rvs 0 nx h (.slice (some ⟨g1, 0, none⟩) ds.length c1) (nx + 1) (.slice pa3 LP.length pc3) tk false)).res _ Tryz.results7 Tryz.underlying39 (by kernel_rfl) rfl) rfl ?_
  have o1 := ((FD.out.row (b := w.heap.size + 1) (by have := FD.out.bl.1; omega) (rvs 0 nx h (.slice (some ⟨g1, 0, none⟩) ds.length c1) (nx + 1) (.slice pa3 LP.length pc3) tk false).toArray).base (show w.heap.size ≤ lb + 1 by omega)).own
  have o2 := Own.base (FP.out.kept (grown_row (w := W9) (g := w.heap.size + 1) (rvs 0 nx h (.slice (some ⟨g1, 0, none⟩) ds.length c1) (nx + 1) (.slice pa3 LP.length pc3) tk false).toArray) (Or.inr (fun e => by have e2 := np.out _ e; omega))) (show w.heap.size ≤ w.heap.size + 2 by omega)
  exact ⟨some ⟨g1, 0, none⟩, c1, pa3, pc3, rfl, o1, o2, (fun j e1 e2 => by have a1 : g1 = j := Option.some.inj e1; have a2 := np2.out _ e2; have a3 := FD.out.bl.1; omega), below_row FB.out (by omega) _⟩
end Go.Proofs.YtdkikijnjkoddaaGreat

namespace Go.Proofs.YtdkikijnjkoddaaGreat.fnExactCallLift
open Go.ChangeShapes Go.WideShapes Go.ChangeAt Go.RowKit
set_option linter.unusedVariables false
set_option linter.unusedSimpArgs false

theorem own : ownKnob Tryz.prog.godebug = none := by kernel_rfl
theorem laidOut : laidOutB Tryz.prog = true := by kernel_rfl

set_option maxRecDepth 20000 in
set_option maxHeartbeats 32000000 in
theorem walk (a0 : Pl.Gr) (a1 : Int) (a2 : Int) (d0 : Option Addr) (e0 : Nat) (p0 : Option Addr) (n0 : Nat) (w0 : a0.ds.length ≤ maxLen) (l0 : a0.led.ps.length ≤ maxLen) (w1 : (Lit.int .i64 a1).wf = true) (w2 : (Lit.int .i64 a2).wf = true) (w : World) (q0 : DIn w w.heap.size d0 a0.ds) (r0 : PIn w w.heap.size p0 a0.led.ps) :
    Calls Tryz.prog 3 #[.agg #[.int .i64 a0.h.fl, .int .i64 a0.h.gp, .int .i64 a0.h.ln, .int .i64 a0.h.rf, .int .i64 a0.h.sp, .int .i64 a0.h.pu, .int .i64 a0.h.br, .int .i64 a0.h.dr, .int .i64 a0.h.lv, .int .i64 a0.h.dO, .int .i64 a0.h.ld, .int .i64 a0.h.qu, .slice d0 a0.ds.length e0, .int .i64 a0.led.nx, .slice p0 a0.led.ps.length n0, .int .i64 a0.tk, .bool a0.rc], .int .i64 a1, .int .i64 a2] w fun e w' => e = .returned (.bool true) ∧ Below w.heap.size w w' := by
  obtain ⟨h, ds, ⟨nx, ps⟩, tk, rc⟩ := a0
  dsimp only at q0 r0 w0 l0 ⊢
  have HD : Hid (DIn w w.heap.size d0 ds) := q0
  have HP : Hid (PIn w w.heap.size p0 ps) := r0
  clear q0 r0
  have F0 : Hid (Blk (w.alloc (.cells #[.int .i64 h.fl, .int .i64 h.gp, .int .i64 h.ln, .int .i64 h.rf, .int .i64 h.sp, .int .i64 h.pu, .int .i64 h.br, .int .i64 h.dr, .int .i64 h.lv, .int .i64 h.dO, .int .i64 h.ld, .int .i64 h.qu, .slice d0 ds.length e0, .int .i64 nx, .slice p0 ps.length n0, .int .i64 tk, .bool rc] 29)) w.heap.size (gvs h (.slice d0 ds.length e0) nx (.slice p0 ps.length n0) tk rc)) := Blk.at_ w #[.int .i64 h.fl, .int .i64 h.gp, .int .i64 h.ln, .int .i64 h.rf, .int .i64 h.sp, .int .i64 h.pu, .int .i64 h.br, .int .i64 h.dr, .int .i64 h.lv, .int .i64 h.dO, .int .i64 h.ld, .int .i64 h.qu, .slice d0 ds.length e0, .int .i64 nx, .slice p0 ps.length n0, .int .i64 tk, .bool rc] _ _ rfl
  have FB : Hid (Below w.heap.size w (w.alloc (.cells #[.int .i64 h.fl, .int .i64 h.gp, .int .i64 h.ln, .int .i64 h.rf, .int .i64 h.sp, .int .i64 h.pu, .int .i64 h.br, .int .i64 h.dr, .int .i64 h.lv, .int .i64 h.dO, .int .i64 h.ld, .int .i64 h.qu, .slice d0 ds.length e0, .int .i64 nx, .slice p0 ps.length n0, .int .i64 tk, .bool rc] 29))) := (Below.refl _ _).alloc (Nat.le_refl _) _
  obtain ⟨W0, hW0⟩ : ∃ W0, W0 = (w.alloc (.cells #[.int .i64 h.fl, .int .i64 h.gp, .int .i64 h.ln, .int .i64 h.rf, .int .i64 h.sp, .int .i64 h.pu, .int .i64 h.br, .int .i64 h.dr, .int .i64 h.lv, .int .i64 h.dO, .int .i64 h.ld, .int .i64 h.qu, .slice d0 ds.length e0, .int .i64 nx, .slice p0 ps.length n0, .int .i64 tk, .bool rc] 29)) := ⟨_, rfl⟩
  rw [← hW0] at F0 FB
  have HW0 : Hid (W0 = (w.alloc (.cells #[.int .i64 h.fl, .int .i64 h.gp, .int .i64 h.ln, .int .i64 h.rf, .int .i64 h.sp, .int .i64 h.pu, .int .i64 h.br, .int .i64 h.dr, .int .i64 h.lv, .int .i64 h.dO, .int .i64 h.ld, .int .i64 h.qu, .slice d0 ds.length e0, .int .i64 nx, .slice p0 ps.length n0, .int .i64 tk, .bool rc] 29))) := hW0
  clear hW0
  by_cases hl : ds.length + ps.length ≤ 1048576
  case neg =>
    have hs : (if (1048576 : Int) < (ds.length : Int) + ps.length then (-1 : Int) else 1048576 - ds.length - ps.length) = -1 := if_pos (by omega)
    go_enter Tryz.func3, Tryz.ntmps3
    go_upto_region 2 with fail
    rw [← HW0.out]
    go_wp2_with (first | (refine load_blk 29 _ Tryz.underlying29 (by kernel_rfl) F0.out rfl rfl rfl ?_) | (go_at_call 4; refine (szGroup_any h d0 ds.length e0 nx p0 ps.length n0 tk rc w0 l0 _).mono ?_; rw [hs]; rintro e w1 ⟨rfl, hb⟩; have FB : Hid (Below w.heap.size w w1) := FB.out.trans (hb.mono FB.out.size); clear hb))
    go_ret
    exact ⟨by simp, FB.out⟩
  have hld : ds.length ≤ 1048576 := by omega
  have hlp : ps.length ≤ 1048576 := by omega
  obtain ⟨kc, id, hr, dr, nr, pr, tr, rr, hrd, hrp, CS, CI⟩ : ∃ (kc id : Int) (hr : Pl.Hs) (dr : List Pl.Dk) (nr : Int) (pr : List Pl.Pe) (tr : Int) (rr : Bool), dr.length ≤ 1048576 ∧ pr.length ≤ 1048576 ∧ (∀ (gd gp : Nat) (W : World), GO W w.heap.size gd gp ds ps → Calls Tryz.prog 5 #[.agg #[.int .i64 h.fl, .int .i64 h.gp, .int .i64 h.ln, .int .i64 h.rf, .int .i64 h.sp, .int .i64 h.pu, .int .i64 h.br, .int .i64 h.dr, .int .i64 h.lv, .int .i64 h.dO, .int .i64 h.ld, .int .i64 h.qu, .slice (some ⟨gd, 0, none⟩) ds.length ds.length, .int .i64 nx, .slice (some ⟨gp, 0, none⟩) ps.length ps.length, .int .i64 tk, .bool rc], .int .i64 a1, .int .i64 a2] W (isGrp W kc id hr dr nr pr tr rr)) ∧ (∀ (gd gp : Nat) (W : World), GO W w.heap.size gd gp ds ps → Calls Tryz.prog 7 #[.agg #[.int .i64 h.fl, .int .i64 h.gp, .int .i64 h.ln, .int .i64 h.rf, .int .i64 h.sp, .int .i64 h.pu, .int .i64 h.br, .int .i64 h.dr, .int .i64 h.lv, .int .i64 h.dO, .int .i64 h.ld, .int .i64 h.qu, .slice (some ⟨gd, 0, none⟩) ds.length ds.length, .int .i64 nx, .slice (some ⟨gp, 0, none⟩) ps.length ps.length, .int .i64 tk, .bool rc], .int .i64 a1, .int .i64 a2] W (isGrp W kc id hr dr nr pr tr rr)) := by
    by_cases hf : Gr.fault ⟨h, ds, ⟨nx, ps⟩, tk, rc⟩ = 0
    case neg => exact ⟨_, _, _, _, _, _, _, _, by simp, by simp, fun gd gp W ho => specCallLift_no h ds gd ds.length nx ps gp ps.length tk rc a1 a2 hf hld hlp W ho.gi, fun gd gp W ho => implCallLift_no h ds gd ds.length nx ps gp ps.length tk rc a1 a2 hf hld hlp W ho.gi⟩
    cases hr : rc
    case true => subst hr; exact ⟨_, _, _, _, _, _, _, _, by simp, by simp, fun gd gp W ho => specCallLift_dn h ds gd ds.length nx ps gp ps.length tk true a1 a2 hf rfl hld hlp W ho.gi, fun gd gp W ho => implCallLift_dn h ds gd ds.length nx ps gp ps.length tk true a1 a2 hf rfl hld hlp W ho.gi⟩
    subst hr
    by_cases hc : Hs.call h a1 a2 = 0
    case neg => exact ⟨_, _, _, _, _, _, _, _, by simp, by simp, fun gd gp W ho => specCallLift_cf h ds gd ds.length nx ps gp ps.length tk false a1 a2 hf rfl hc hld hlp W ho.gi, fun gd gp W ho => implCallLift_cf h ds gd ds.length nx ps gp ps.length tk false a1 a2 hf rfl hc hld hlp W ho.gi⟩
    by_cases hk : Hs.addC h ⟨nx, ps⟩ a1 a2 (asgK ps (Hs.pref h a1 a2) ds.length 2).1 (asgK ps (Hs.pref h a1 a2) ds.length 2).2 = 0
    case neg => exact ⟨_, _, _, _, _, _, _, _, by simp, by simp, fun gd gp W ho => specCallLift_ad h ds gd ds.length nx ps gp ps.length tk false a1 a2 hf rfl hc hk hld hlp W ho.gi, fun gd gp W ho => implCallLift_ad h ds gd ds.length nx ps gp ps.length tk false a1 a2 hf rfl hc hk hld hlp W ho.gi⟩
    have q60 := (led_small (Gr.fault_parts hf).2.2.2.1).2.2
    dsimp only at q60
    exact ⟨_, _, _, _, _, _, _, _, hld, by rw [List.length_append]; have := freeL_le ps; simp only [List.length_cons, List.length_nil]; omega, fun gd gp W ho => specCallLift_yes h ds gd ds.length nx ps gp ps.length tk false a1 a2 hf rfl hc hk hld hlp W ho.gi, fun gd gp W ho => implCallLift_yes h ds gd ds.length nx ps gp ps.length tk false a1 a2 hf rfl hc hk hld hlp W ho.gi⟩
  have hs : (if (1048576 : Int) < (ds.length : Int) + ps.length then (-1 : Int) else 1048576 - ds.length - ps.length) = 1048576 - ds.length - ps.length := if_neg (by omega)
  have hs2 : ¬ ((1048576 : Int) - ds.length - ps.length < 0) := by omega
  go_enter Tryz.func3, Tryz.ntmps3
  go_upto_region 2 with fail
  rw [← HW0.out]
  clear HW0
  go_upto_region 5 with (first | (refine load_blk 29 _ Tryz.underlying29 (by kernel_rfl) F0.out rfl rfl rfl ?_) | (go_at_call 4; refine (szGroup_any h d0 ds.length e0 nx p0 ps.length n0 tk rc w0 l0 _).mono ?_; rw [hs]; rintro e w1 ⟨rfl, hb⟩; have F0 : Hid (Blk w1 w.heap.size (gvs h (.slice d0 ds.length e0) nx (.slice p0 ps.length n0) tk rc)) := F0.out.below hb F0.out.lt; have FB : Hid (Below w.heap.size w w1) := FB.out.trans (hb.mono FB.out.size); clear hb))
  clear hs hs2
  go_upto_region 6 with (first | (refine load_blk 29 _ Tryz.underlying29 (by kernel_rfl) F0.out rfl rfl rfl ?_) | (go_at_call 6; refine (toGroup_any h ds d0 e0 nx ps p0 n0 tk rc hld hlp _ ((HD.out.below FB.out (Nat.le_refl _)).mono FB.out.size) ((HP.out.below FB.out (Nat.le_refl _)).mono FB.out.size)).mono ?_; rintro e w2 ⟨gd1, gp1, rfl, ho, hb⟩; have O1 : Hid (GO w2 w.heap.size gd1 gp1 ds ps) := ho.base FB.out.size; clear ho; have F0 : Hid (Blk w2 w.heap.size (gvs h (.slice d0 ds.length e0) nx (.slice p0 ps.length n0) tk rc)) := F0.out.below hb F0.out.lt; have FB : Hid (Below w.heap.size w w2) := FB.out.trans (hb.mono FB.out.size); clear hb) | (go_at_call 5; refine (CS gd1 gp1 _ O1.out).mono ?_; rintro e v1 ⟨da1, dc1, pa1, pc1, rfl, hd_, hp_, ne1_, hb⟩; have NE1 : Hid (∀ j, (Value.slice da1 dr.length dc1).ownBlock = some j → (Value.slice pa1 pr.length pc1).ownBlock ≠ some j) := ne1_; have D1 : Hid (OwnD v1 w.heap.size (.slice da1 dr.length dc1) dr) := hd_.base FB.out.size; have P1 : Hid (Own v1 w.heap.size (.slice pa1 pr.length pc1) pr) := Own.base' hp_ FB.out.size; have F0 : Hid (Blk v1 w.heap.size (gvs h (.slice d0 ds.length e0) nx (.slice p0 ps.length n0) tk rc)) := F0.out.below hb F0.out.lt; have FB : Hid (Below w.heap.size w v1) := FB.out.trans (hb.mono FB.out.size); clear hb hd_ hp_ ne1_) | (refine store_new (rvs kc id hr (.slice da1 dr.length dc1) nr (.slice pa1 pr.length pc1) tr rr) 39 _ _ (by kernel_rfl) (by kernel_rfl) (by kernel_rfl) rfl rfl rfl rfl ?_))
  obtain ⟨br1, hbr⟩ : ∃ b, b = v1.heap.size := ⟨_, rfl⟩
  obtain ⟨W1, hW⟩ : ∃ W, W = v1.alloc (.cells (rvs kc id hr (.slice da1 dr.length dc1) nr (.slice pa1 pr.length pc1) tr rr).toArray 39) := ⟨_, rfl⟩
  have od1 : Hid (∀ k, (Value.slice da1 dr.length dc1).ownBlock = some k → w.heap.size ≤ k ∧ k < br1) := fun k hk => by rw [hbr]; exact D1.out.lt k hk
  have op1 : Hid (∀ k, (Value.slice pa1 pr.length pc1).ownBlock = some k → w.heap.size ≤ k ∧ k < br1) := fun k hk => by rw [hbr]; exact P1.out.lt k hk
  have lt_F0_1 := F0.out.lt
  rw [← hbr] at lt_F0_1
  have lt_b_1 := FB.out.size
  rw [← hbr] at lt_b_1
  have F0 : Hid (Blk W1 w.heap.size (gvs h (.slice d0 ds.length e0) nx (.slice p0 ps.length n0) tk rc)) := by rw [hW]; exact F0.out.alloc _
  have FB : Hid (Below w.heap.size w W1) := by rw [hW]; exact FB.out.alloc FB.out.size _
  have D1 : Hid (OwnD W1 w.heap.size (.slice da1 dr.length dc1) (dr)) := by rw [hW]; exact D1.out.alloc _
  have P1 : Hid (Own W1 w.heap.size (.slice pa1 pr.length pc1) (pr)) := by rw [hW]; exact P1.out.alloc _
  have R1 : Hid (Blk W1 br1 (rvs kc id hr (.slice da1 dr.length dc1) nr (.slice pa1 pr.length pc1) tr rr)) := by rw [hW]; exact Blk.at_ v1 (rvs kc id hr (.slice da1 dr.length dc1) nr (.slice pa1 pr.length pc1) tr rr).toArray _ _ hbr
  rw [← hW, ← hbr]
  clear hW hbr
  clear O1
  go_upto_region 7 with (first | (refine load_blk 29 _ Tryz.underlying29 (by kernel_rfl) F0.out rfl rfl rfl ?_) | (go_at_call 6; refine (toGroup_any h ds d0 e0 nx ps p0 n0 tk rc hld hlp _ ((HD.out.below FB.out (Nat.le_refl _)).mono FB.out.size) ((HP.out.below FB.out (Nat.le_refl _)).mono FB.out.size)).mono ?_; rintro e w3 ⟨gd2, gp2, rfl, ho, hb⟩; have O2 : Hid (GO w3 w.heap.size gd2 gp2 ds ps) := ho.base FB.out.size; have lo2 : br1 < gd2 ∧ br1 < gp2 := ⟨Nat.lt_of_lt_of_le R1.out.lt ho.ge.1, Nat.lt_of_lt_of_le R1.out.lt ho.ge.2⟩; clear ho; have F0 : Hid (Blk w3 w.heap.size (gvs h (.slice d0 ds.length e0) nx (.slice p0 ps.length n0) tk rc)) := F0.out.below hb F0.out.lt; have R1 : Hid (Blk w3 br1 (rvs kc id hr (.slice da1 dr.length dc1) nr (.slice pa1 pr.length pc1) tr rr)) := R1.out.below hb R1.out.lt; have D1 : Hid (OwnD w3 w.heap.size (.slice da1 dr.length dc1) (dr)) := D1.out.below hb (fun k hk => (D1.out.lt k hk).2); have P1 : Hid (Own w3 w.heap.size (.slice pa1 pr.length pc1) (pr)) := P1.out.below hb (fun k hk => (P1.out.lt k hk).2); have FB : Hid (Below w.heap.size w w3) := FB.out.trans (hb.mono FB.out.size); clear hb) | (refine store_new (gvs h (.slice (some ⟨gd2, 0, none⟩) ds.length ds.length) nx (.slice (some ⟨gp2, 0, none⟩) ps.length ps.length) tk rc) 37 _ _ (by kernel_rfl) (by kernel_rfl) (by kernel_rfl) rfl rfl rfl rfl ?_))
  obtain ⟨bx, hbx⟩ : ∃ b, b = w3.heap.size := ⟨_, rfl⟩
  obtain ⟨W3, hW⟩ : ∃ W, W = w3.alloc (.cells (gvs h (.slice (some ⟨gd2, 0, none⟩) ds.length ds.length) nx (.slice (some ⟨gp2, 0, none⟩) ps.length ps.length) tk rc).toArray 37) := ⟨_, rfl⟩
  have lx2 := O2.out.lt
  rw [← hbx] at lx2
  have F0 : Hid (Blk W3 w.heap.size (gvs h (.slice d0 ds.length e0) nx (.slice p0 ps.length n0) tk rc)) := by rw [hW]; exact F0.out.alloc _
  have R1 : Hid (Blk W3 br1 (rvs kc id hr (.slice da1 dr.length dc1) nr (.slice pa1 pr.length pc1) tr rr)) := by rw [hW]; exact R1.out.alloc _
  have D1 : Hid (OwnD W3 w.heap.size (.slice da1 dr.length dc1) (dr)) := by rw [hW]; exact D1.out.alloc _
  have P1 : Hid (Own W3 w.heap.size (.slice pa1 pr.length pc1) (pr)) := by rw [hW]; exact P1.out.alloc _
  have FB : Hid (Below w.heap.size w W3) := by rw [hW]; exact FB.out.alloc FB.out.size _
  have O2 : Hid (GO W3 w.heap.size gd2 gp2 ds ps) := by rw [hW]; exact O2.out.alloc _
  have FX : Hid (Blk W3 bx (gvs h (.slice (some ⟨gd2, 0, none⟩) ds.length ds.length) nx (.slice (some ⟨gp2, 0, none⟩) ps.length ps.length) tk rc)) := by rw [hW]; exact Blk.at_ w3 (gvs h (.slice (some ⟨gd2, 0, none⟩) ds.length ds.length) nx (.slice (some ⟨gp2, 0, none⟩) ps.length ps.length) tk rc).toArray _ _ hbx
  rw [← hW, ← hbx]
  clear hW hbx
  obtain ⟨B2, hB2⟩ : ∃ B2, B2 = bx + 1 := ⟨_, rfl⟩
  have hB : B2 ≤ W3.heap.size := (by have := FX.out.lt; omega)
  go_upto_region 8 with (first | (refine load_blk 37 _ Tryz.underlying37 (by kernel_rfl) FX.out rfl rfl rfl ?_) | (go_at_call 7; refine (CI gd2 gp2 _ O2.out).mono ?_; rintro e v2 ⟨da2, dc2, pa2, pc2, rfl, hd_, hp_, ne2_, hb⟩; have NE2 : Hid (∀ j, (Value.slice da2 dr.length dc2).ownBlock = some j → (Value.slice pa2 pr.length pc2).ownBlock ≠ some j) := ne2_; have D2 : Hid (OwnD v2 B2 (.slice da2 dr.length dc2) dr) := hd_.base hB; have P2 : Hid (Own v2 B2 (.slice pa2 pr.length pc2) pr) := Own.base' hp_ hB; have F0 : Hid (Blk v2 w.heap.size (gvs h (.slice d0 ds.length e0) nx (.slice p0 ps.length n0) tk rc)) := F0.out.below hb F0.out.lt; have R1 : Hid (Blk v2 br1 (rvs kc id hr (.slice da1 dr.length dc1) nr (.slice pa1 pr.length pc1) tr rr)) := R1.out.below hb R1.out.lt; have D1 : Hid (OwnD v2 w.heap.size (.slice da1 dr.length dc1) (dr)) := D1.out.below hb (fun k hk => (D1.out.lt k hk).2); have P1 : Hid (Own v2 w.heap.size (.slice pa1 pr.length pc1) (pr)) := P1.out.below hb (fun k hk => (P1.out.lt k hk).2); have FB : Hid (Below w.heap.size w v2) := FB.out.trans (hb.mono FB.out.size); have O2 : Hid (GO v2 w.heap.size gd2 gp2 ds ps) := O2.out.below hb O2.out.lt; have FX : Hid (Blk v2 bx (gvs h (.slice (some ⟨gd2, 0, none⟩) ds.length ds.length) nx (.slice (some ⟨gp2, 0, none⟩) ps.length ps.length) tk rc)) := FX.out.below hb FX.out.lt; clear hb hd_ hp_ ne2_) | (refine store_new (rvs kc id hr (.slice da2 dr.length dc2) nr (.slice pa2 pr.length pc2) tr rr) 39 _ _ (by kernel_rfl) (by kernel_rfl) (by kernel_rfl) rfl rfl rfl rfl ?_))
  obtain ⟨br2, hbr⟩ : ∃ b, b = v2.heap.size := ⟨_, rfl⟩
  obtain ⟨W4, hW⟩ : ∃ W, W = v2.alloc (.cells (rvs kc id hr (.slice da2 dr.length dc2) nr (.slice pa2 pr.length pc2) tr rr).toArray 39) := ⟨_, rfl⟩
  have od2 : Hid (∀ k, (Value.slice da2 dr.length dc2).ownBlock = some k → B2 ≤ k ∧ k < br2) := fun k hk => by rw [hbr]; exact D2.out.lt k hk
  have op2 : Hid (∀ k, (Value.slice pa2 pr.length pc2).ownBlock = some k → B2 ≤ k ∧ k < br2) := fun k hk => by rw [hbr]; exact P2.out.lt k hk
  have lt_F0_2 := F0.out.lt
  rw [← hbr] at lt_F0_2
  have lt_R1_2 := R1.out.lt
  rw [← hbr] at lt_R1_2
  have lt_b_2 := FB.out.size
  rw [← hbr] at lt_b_2
  have lt_O2_2 := O2.out.lt
  rw [← hbr] at lt_O2_2
  have lt_FX_2 := FX.out.lt
  rw [← hbr] at lt_FX_2
  have F0 : Hid (Blk W4 w.heap.size (gvs h (.slice d0 ds.length e0) nx (.slice p0 ps.length n0) tk rc)) := by rw [hW]; exact F0.out.alloc _
  have R1 : Hid (Blk W4 br1 (rvs kc id hr (.slice da1 dr.length dc1) nr (.slice pa1 pr.length pc1) tr rr)) := by rw [hW]; exact R1.out.alloc _
  have D1 : Hid (OwnD W4 w.heap.size (.slice da1 dr.length dc1) (dr)) := by rw [hW]; exact D1.out.alloc _
  have P1 : Hid (Own W4 w.heap.size (.slice pa1 pr.length pc1) (pr)) := by rw [hW]; exact P1.out.alloc _
  have FB : Hid (Below w.heap.size w W4) := by rw [hW]; exact FB.out.alloc FB.out.size _
  have O2 : Hid (GO W4 w.heap.size gd2 gp2 ds ps) := by rw [hW]; exact O2.out.alloc _
  have FX : Hid (Blk W4 bx (gvs h (.slice (some ⟨gd2, 0, none⟩) ds.length ds.length) nx (.slice (some ⟨gp2, 0, none⟩) ps.length ps.length) tk rc)) := by rw [hW]; exact FX.out.alloc _
  have D2 : Hid (OwnD W4 B2 (.slice da2 dr.length dc2) (dr)) := by rw [hW]; exact D2.out.alloc _
  have P2 : Hid (Own W4 B2 (.slice pa2 pr.length pc2) (pr)) := by rw [hW]; exact P2.out.alloc _
  have R2 : Hid (Blk W4 br2 (rvs kc id hr (.slice da2 dr.length dc2) nr (.slice pa2 pr.length pc2) tr rr)) := by rw [hW]; exact Blk.at_ v2 (rvs kc id hr (.slice da2 dr.length dc2) nr (.slice pa2 pr.length pc2) tr rr).toArray _ _ hbr
  rw [← hW, ← hbr]
  clear hW hbr
  have q1 : ¬ ((1 : Int) + 13 * (dr.length : Int) + 7 * (pr.length : Int) < 0) := by omega
  have q2 : ¬ ((1 : Int) + 13 * (ds.length : Int) + 7 * (ps.length : Int) < 0) := by omega
  go_upto_region 10 with (first | (refine load_blk 39 _ Tryz.underlying39 (by kernel_rfl) R2.out rfl rfl rfl ?_) | (refine load_blk 39 _ Tryz.underlying39 (by kernel_rfl) R1.out rfl rfl rfl ?_) | (go_at_call 8; refine (eqGroupResult_same kc id hr dr da2 da1 dc2 dc1 nr pr pa2 pa1 pc2 pc1 tr rr hrd hrp _ D2.out.din D1.out.din P2.out.din P1.out.din).mono ?_; rintro e w5 ⟨rfl, hb⟩; have F0 : Hid (Blk w5 w.heap.size (gvs h (.slice d0 ds.length e0) nx (.slice p0 ps.length n0) tk rc)) := F0.out.below hb F0.out.lt; have R1 : Hid (Blk w5 br1 (rvs kc id hr (.slice da1 dr.length dc1) nr (.slice pa1 pr.length pc1) tr rr)) := R1.out.below hb R1.out.lt; have D1 : Hid (OwnD w5 w.heap.size (.slice da1 dr.length dc1) (dr)) := D1.out.below hb (fun k hk => (D1.out.lt k hk).2); have P1 : Hid (Own w5 w.heap.size (.slice pa1 pr.length pc1) (pr)) := P1.out.below hb (fun k hk => (P1.out.lt k hk).2); have FB : Hid (Below w.heap.size w w5) := FB.out.trans (hb.mono FB.out.size); have O2 : Hid (GO w5 w.heap.size gd2 gp2 ds ps) := O2.out.below hb O2.out.lt; have FX : Hid (Blk w5 bx (gvs h (.slice (some ⟨gd2, 0, none⟩) ds.length ds.length) nx (.slice (some ⟨gp2, 0, none⟩) ps.length ps.length) tk rc)) := FX.out.below hb FX.out.lt; have R2 : Hid (Blk w5 br2 (rvs kc id hr (.slice da2 dr.length dc2) nr (.slice pa2 pr.length pc2) tr rr)) := R2.out.below hb R2.out.lt; have D2 : Hid (OwnD w5 B2 (.slice da2 dr.length dc2) (dr)) := D2.out.below hb (fun k hk => (D2.out.lt k hk).2); have P2 : Hid (Own w5 B2 (.slice pa2 pr.length pc2) (pr)) := P2.out.below hb (fun k hk => (P2.out.lt k hk).2); clear hb))
  have F0 : Hid (Blk w5.drew w.heap.size (gvs h (.slice d0 ds.length e0) nx (.slice p0 ps.length n0) tk rc)) := F0.out.below (Below.refl _ _).drew F0.out.lt
  have R1 : Hid (Blk w5.drew br1 (rvs kc id hr (.slice da1 dr.length dc1) nr (.slice pa1 pr.length pc1) tr rr)) := R1.out.below (Below.refl _ _).drew R1.out.lt
  have D1 : Hid (OwnD w5.drew w.heap.size (.slice da1 dr.length dc1) (dr)) := D1.out.drew
  have P1 : Hid (Own w5.drew w.heap.size (.slice pa1 pr.length pc1) (pr)) := P1.out.drew
  have FB : Hid (Below w.heap.size w w5.drew) := FB.out.drew
  have O2 : Hid (GO w5.drew w.heap.size gd2 gp2 ds ps) := O2.out.below (Below.refl _ _).drew O2.out.lt
  have FX : Hid (Blk w5.drew bx (gvs h (.slice (some ⟨gd2, 0, none⟩) ds.length ds.length) nx (.slice (some ⟨gp2, 0, none⟩) ps.length ps.length) tk rc)) := FX.out.below (Below.refl _ _).drew FX.out.lt
  have R2 : Hid (Blk w5.drew br2 (rvs kc id hr (.slice da2 dr.length dc2) nr (.slice pa2 pr.length pc2) tr rr)) := R2.out.below (Below.refl _ _).drew R2.out.lt
  have D2 : Hid (OwnD w5.drew B2 (.slice da2 dr.length dc2) (dr)) := D2.out.drew
  have P2 : Hid (Own w5.drew B2 (.slice pa2 pr.length pc2) (pr)) := P2.out.drew
  refine wp_region_held_drew (S := (fun w'' => Blk w'' w.heap.size (gvs h (.slice d0 ds.length e0) nx (.slice p0 ps.length n0) tk rc) ∧ Blk w'' bx (gvs h (.slice (some ⟨gd2, 0, none⟩) ds.length ds.length) nx (.slice (some ⟨gp2, 0, none⟩) ps.length ps.length) tk rc))) (by kernel_rfl) (by (try dsimp only); first | exact ⟨F0.out, FX.out⟩ | go_keep) (fun hHeld => ?_)
  obtain ⟨v_1, hw1⟩ : ∃ v_1, v_1 = w5.drew := ⟨_, rfl⟩
  have F0 : Hid (Blk v_1 w.heap.size (gvs h (.slice d0 ds.length e0) nx (.slice p0 ps.length n0) tk rc)) := by rw [hw1]; exact F0.out
  have R1 : Hid (Blk v_1 br1 (rvs kc id hr (.slice da1 dr.length dc1) nr (.slice pa1 pr.length pc1) tr rr)) := by rw [hw1]; exact R1.out
  have D1 : Hid (OwnD v_1 w.heap.size (.slice da1 dr.length dc1) (dr)) := by rw [hw1]; exact D1.out
  have P1 : Hid (Own v_1 w.heap.size (.slice pa1 pr.length pc1) (pr)) := by rw [hw1]; exact P1.out
  have FB : Hid (Below w.heap.size w v_1) := by rw [hw1]; exact FB.out
  have O2 : Hid (GO v_1 w.heap.size gd2 gp2 ds ps) := by rw [hw1]; exact O2.out
  have FX : Hid (Blk v_1 bx (gvs h (.slice (some ⟨gd2, 0, none⟩) ds.length ds.length) nx (.slice (some ⟨gp2, 0, none⟩) ps.length ps.length) tk rc)) := by rw [hw1]; exact FX.out
  have R2 : Hid (Blk v_1 br2 (rvs kc id hr (.slice da2 dr.length dc2) nr (.slice pa2 pr.length pc2) tr rr)) := by rw [hw1]; exact R2.out
  have D2 : Hid (OwnD v_1 B2 (.slice da2 dr.length dc2) (dr)) := by rw [hw1]; exact D2.out
  have P2 : Hid (Own v_1 B2 (.slice pa2 pr.length pc2) (pr)) := by rw [hw1]; exact P2.out
  rw [← hw1] at hHeld ⊢
  clear hw1
  refine tkz 0 rfl ?_ (hy := Or.inl ⟨by kernel_rfl, fun wx hSw => exec_load_blk 37 _ Tryz.underlying37 (by kernel_rfl) rfl rfl hSw.2⟩)
  refine tkz 1 rfl ?_ (hy := Or.inl ⟨by kernel_rfl, fun wx hSw => exec_load_blk 29 _ Tryz.underlying29 (by kernel_rfl) rfl rfl hSw.1⟩)
  refine wpAnyH_ready (rs := [2]) (by kernel_rfl) (by simp) ?_
  refine (AllReadyH.cons rfl (fun K hK => ?_) AllReadyH.nil)
  go_simp
  refine (toGroup_any h ds d0 e0 nx ps p0 n0 tk rc hld hlp _ ((HD.out.below FB.out (Nat.le_refl _)).mono FB.out.size) ((HP.out.below FB.out (Nat.le_refl _)).mono FB.out.size)).mono ?_
  rintro e v_2 ⟨gd3, gp3, rfl, ho, hb⟩
  have O3 : Hid (GO v_2 w.heap.size gd3 gp3 ds ps) := ho.base FB.out.size
  have F0 : Hid (Blk v_2 w.heap.size (gvs h (.slice d0 ds.length e0) nx (.slice p0 ps.length n0) tk rc)) := F0.out.below hb F0.out.lt
  have R1 : Hid (Blk v_2 br1 (rvs kc id hr (.slice da1 dr.length dc1) nr (.slice pa1 pr.length pc1) tr rr)) := R1.out.below hb R1.out.lt
  have D1 : Hid (OwnD v_2 w.heap.size (.slice da1 dr.length dc1) (dr)) := D1.out.below hb (fun k hk => (D1.out.lt k hk).2)
  have P1 : Hid (Own v_2 w.heap.size (.slice pa1 pr.length pc1) (pr)) := P1.out.below hb (fun k hk => (P1.out.lt k hk).2)
  have FB : Hid (Below w.heap.size w v_2) := FB.out.trans (hb.mono FB.out.size)
  have O2 : Hid (GO v_2 w.heap.size gd2 gp2 ds ps) := O2.out.below hb O2.out.lt
  have FX : Hid (Blk v_2 bx (gvs h (.slice (some ⟨gd2, 0, none⟩) ds.length ds.length) nx (.slice (some ⟨gp2, 0, none⟩) ps.length ps.length) tk rc)) := FX.out.below hb FX.out.lt
  have R2 : Hid (Blk v_2 br2 (rvs kc id hr (.slice da2 dr.length dc2) nr (.slice pa2 pr.length pc2) tr rr)) := R2.out.below hb R2.out.lt
  have D2 : Hid (OwnD v_2 B2 (.slice da2 dr.length dc2) (dr)) := D2.out.below hb (fun k hk => (D2.out.lt k hk).2)
  have P2 : Hid (Own v_2 B2 (.slice pa2 pr.length pc2) (pr)) := P2.out.below hb (fun k hk => (P2.out.lt k hk).2)
  clear hb
  clear ho
  try dsimp only
  refine hK.out _ _ (by (try dsimp only); first | exact ⟨F0.out, FX.out⟩ | go_keep) (fun hHeld => ?_)
  clear hK K
  try simp only [Act.put, List.getElem_toArray, List.getElem_cons_succ, List.getElem_cons_zero, List.setIfInBounds_toArray, List.set_cons_zero, List.set_cons_succ]
  refine wpAnyH_ready (rs := [3]) (by kernel_rfl) (by simp) ?_
  refine (AllReadyH.cons rfl (fun K hK => ?_) AllReadyH.nil)
  go_simp
  refine (eqGroup_same h ds (some ⟨gd2, 0, none⟩) (some ⟨gd3, 0, none⟩) ds.length ds.length nx ps (some ⟨gp2, 0, none⟩) (some ⟨gp3, 0, none⟩) ps.length ps.length tk rc hld hlp _ O2.out.din O3.out.din O2.out.pin O3.out.pin).mono ?_
  rintro e v_3 ⟨rfl, hb⟩
  have F0 : Hid (Blk v_3 w.heap.size (gvs h (.slice d0 ds.length e0) nx (.slice p0 ps.length n0) tk rc)) := F0.out.below hb F0.out.lt
  have R1 : Hid (Blk v_3 br1 (rvs kc id hr (.slice da1 dr.length dc1) nr (.slice pa1 pr.length pc1) tr rr)) := R1.out.below hb R1.out.lt
  have D1 : Hid (OwnD v_3 w.heap.size (.slice da1 dr.length dc1) (dr)) := D1.out.below hb (fun k hk => (D1.out.lt k hk).2)
  have P1 : Hid (Own v_3 w.heap.size (.slice pa1 pr.length pc1) (pr)) := P1.out.below hb (fun k hk => (P1.out.lt k hk).2)
  have FB : Hid (Below w.heap.size w v_3) := FB.out.trans (hb.mono FB.out.size)
  have O2 : Hid (GO v_3 w.heap.size gd2 gp2 ds ps) := O2.out.below hb O2.out.lt
  have FX : Hid (Blk v_3 bx (gvs h (.slice (some ⟨gd2, 0, none⟩) ds.length ds.length) nx (.slice (some ⟨gp2, 0, none⟩) ps.length ps.length) tk rc)) := FX.out.below hb FX.out.lt
  have R2 : Hid (Blk v_3 br2 (rvs kc id hr (.slice da2 dr.length dc2) nr (.slice pa2 pr.length pc2) tr rr)) := R2.out.below hb R2.out.lt
  have D2 : Hid (OwnD v_3 B2 (.slice da2 dr.length dc2) (dr)) := D2.out.below hb (fun k hk => (D2.out.lt k hk).2)
  have P2 : Hid (Own v_3 B2 (.slice pa2 pr.length pc2) (pr)) := P2.out.below hb (fun k hk => (P2.out.lt k hk).2)
  have O3 : Hid (GO v_3 w.heap.size gd3 gp3 ds ps) := O3.out.below hb O3.out.lt
  clear hb
  try dsimp only
  refine hK.out _ _ (by (try dsimp only); first | exact ⟨F0.out, FX.out⟩ | go_keep) (fun hHeld => ?_)
  clear hK K
  try simp only [Act.put, List.getElem_toArray, List.getElem_cons_succ, List.getElem_cons_zero, List.setIfInBounds_toArray, List.set_cons_zero, List.set_cons_succ]
  refine tkz 4 rfl ?_
  refine wpAnyH_done (by kernel_rfl) ?_ _
  obtain ⟨w6, hw6⟩ : ∃ W, W = v_3 := ⟨_, rfl⟩
  subst hw6
  go_upto_region 24 with (first | (refine load_blk 37 _ Tryz.underlying37 (by kernel_rfl) FX.out rfl rfl rfl ?_) | (refine load_blk 39 _ Tryz.underlying39 (by kernel_rfl) R2.out rfl rfl rfl ?_) | (refine load_blk 39 _ Tryz.underlying39 (by kernel_rfl) R1.out rfl rfl rfl ?_) | (refine load_blkg 39 _ Tryz.underlying39 (by kernel_rfl) R2.out (by kernel_rfl) rfl rfl ?_) | (refine load_blkg 39 _ Tryz.underlying39 (by kernel_rfl) R1.out (by kernel_rfl) rfl rfl ?_) | (go_at_call 10; refine (markGroup_any w.heap.size h (.slice (some ⟨gd2, 0, none⟩) ds.length ds.length) nx (.slice (some ⟨gp2, 0, none⟩) ps.length ps.length) tk rc ds ps 1 (by omega) (by omega) hld hlp _ O2.out.d.own O2.out.p.own (fun j e1 e2 => by have a1 : gd2 = j := Option.some.inj e1; have a2 : gp2 = j := Option.some.inj e2; have := O2.out.ne; omega)).mono ?_; rintro e w7 ⟨rfl, hd_, hp_, ht⟩; have F0 : Hid (Blk w7 w.heap.size (gvs h (.slice d0 ds.length e0) nx (.slice p0 ps.length n0) tk rc)) := F0.out.turn ht (fun e => by have e2 : gd2 = w.heap.size := Option.some.inj e; omega) (fun e => by have e2 : gp2 = w.heap.size := Option.some.inj e; omega); have R1 : Hid (Blk w7 br1 (rvs kc id hr (.slice da1 dr.length dc1) nr (.slice pa1 pr.length pc1) tr rr)) := R1.out.turn ht (fun e => by have e2 : gd2 = br1 := Option.some.inj e; omega) (fun e => by have e2 : gp2 = br1 := Option.some.inj e; omega); have D1 : Hid (OwnD w7 w.heap.size (.slice da1 dr.length dc1) (dr)) := D1.out.turn ht (fun k hk e => by have a : gd2 = k := Option.some.inj e; have b := od1.out k hk; omega) (fun k hk e => by have a : gp2 = k := Option.some.inj e; have b := od1.out k hk; omega); have P1 : Hid (Own w7 w.heap.size (.slice pa1 pr.length pc1) (pr)) := P1.out.turn ht (fun k hk e => by have a : gd2 = k := Option.some.inj e; have b := op1.out k hk; omega) (fun k hk e => by have a : gp2 = k := Option.some.inj e; have b := op1.out k hk; omega); have FB : Hid (Below w.heap.size w w7) := ht.below' FB.out (fun j hj => by have e2 : gd2 = j := Option.some.inj hj; omega) (fun j hj => by have e2 : gp2 = j := Option.some.inj hj; omega) FB.out.size; have R2 : Hid (Blk w7 br2 (rvs kc id hr (.slice da2 dr.length dc2) nr (.slice pa2 pr.length pc2) tr rr)) := R2.out.turn ht (fun e => by have e2 : gd2 = br2 := Option.some.inj e; omega) (fun e => by have e2 : gp2 = br2 := Option.some.inj e; omega); have D2 : Hid (OwnD w7 B2 (.slice da2 dr.length dc2) (dr)) := D2.out.turn ht (fun k hk e => by have a : gd2 = k := Option.some.inj e; have b := od2.out k hk; omega) (fun k hk e => by have a : gp2 = k := Option.some.inj e; have b := od2.out k hk; omega); have P2 : Hid (Own w7 B2 (.slice pa2 pr.length pc2) (pr)) := P2.out.turn ht (fun k hk e => by have a : gd2 = k := Option.some.inj e; have b := op2.out k hk; omega) (fun k hk e => by have a : gp2 = k := Option.some.inj e; have b := op2.out k hk; omega); clear ht hd_ hp_) | (go_at_call 8; refine (eqGroupResult_same kc id hr dr da2 da1 dc2 dc1 nr pr pa2 pa1 pc2 pc1 tr rr hrd hrp _ D2.out.din D1.out.din P2.out.din P1.out.din).mono ?_; rintro e w8 ⟨rfl, hb⟩; have F0 : Hid (Blk w8 w.heap.size (gvs h (.slice d0 ds.length e0) nx (.slice p0 ps.length n0) tk rc)) := F0.out.below hb F0.out.lt; have R1 : Hid (Blk w8 br1 (rvs kc id hr (.slice da1 dr.length dc1) nr (.slice pa1 pr.length pc1) tr rr)) := R1.out.below hb R1.out.lt; have D1 : Hid (OwnD w8 w.heap.size (.slice da1 dr.length dc1) (dr)) := D1.out.below hb (fun k hk => (D1.out.lt k hk).2); have P1 : Hid (Own w8 w.heap.size (.slice pa1 pr.length pc1) (pr)) := P1.out.below hb (fun k hk => (P1.out.lt k hk).2); have FB : Hid (Below w.heap.size w w8) := FB.out.trans (hb.mono FB.out.size); have R2 : Hid (Blk w8 br2 (rvs kc id hr (.slice da2 dr.length dc2) nr (.slice pa2 pr.length pc2) tr rr)) := R2.out.below hb R2.out.lt; have D2 : Hid (OwnD w8 B2 (.slice da2 dr.length dc2) (dr)) := D2.out.below hb (fun k hk => (D2.out.lt k hk).2); have P2 : Hid (Own w8 B2 (.slice pa2 pr.length pc2) (pr)) := P2.out.below hb (fun k hk => (P2.out.lt k hk).2); clear hb) | (go_at_call 11; refine (markGroupResult_any B2 kc id hr (.slice da2 dr.length dc2) nr (.slice pa2 pr.length pc2) tr rr dr pr 1 (by omega) (by omega) hrd hrp _ D2.out P2.out NE2.out).mono ?_; rintro e w9 ⟨rfl, hd_, hp_, ht⟩; have F0 : Hid (Blk w9 w.heap.size (gvs h (.slice d0 ds.length e0) nx (.slice p0 ps.length n0) tk rc)) := F0.out.turn ht (fun e => by have := (od2.out _ e).1; omega) (fun e => by have := (op2.out _ e).1; omega); have R1 : Hid (Blk w9 br1 (rvs kc id hr (.slice da1 dr.length dc1) nr (.slice pa1 pr.length pc1) tr rr)) := R1.out.turn ht (fun e => by have := (od2.out _ e).1; omega) (fun e => by have := (op2.out _ e).1; omega); have D1 : Hid (OwnD w9 w.heap.size (.slice da1 dr.length dc1) (dr)) := D1.out.turn ht (fun k hk e => by have a := (od2.out _ e).1; have b := (od1.out k hk).2; omega) (fun k hk e => by have a := (op2.out _ e).1; have b := (od1.out k hk).2; omega); have P1 : Hid (Own w9 w.heap.size (.slice pa1 pr.length pc1) (pr)) := P1.out.turn ht (fun k hk e => by have a := (od2.out _ e).1; have b := (op1.out k hk).2; omega) (fun k hk e => by have a := (op2.out _ e).1; have b := (op1.out k hk).2; omega); have FB : Hid (Below w.heap.size w w9) := ht.below' FB.out (fun j hj => by have := (od2.out j hj).1; omega) (fun j hj => by have := (op2.out j hj).1; omega) FB.out.size; have R2 : Hid (Blk w9 br2 (rvs kc id hr (.slice da2 dr.length dc2) nr (.slice pa2 pr.length pc2) tr rr)) := R2.out.turn ht (fun e => by have := (od2.out _ e).2; omega) (fun e => by have := (op2.out _ e).2; omega); have D2 : Hid (OwnD w9 B2 (.slice da2 dr.length dc2) ((markLD 1 dr.length))) := hd_; have P2 : Hid (Own w9 B2 (.slice pa2 pr.length pc2) ((markL (1 + 13 * dr.length) pr.length))) := hp_; clear ht hd_ hp_) | (go_at_call 12; refine (heldGroupResult_any B2 kc id hr (.slice da2 dr.length dc2) nr (.slice pa2 pr.length pc2) tr rr dr.length pr.length 1 (by omega) (by omega) hrd hrp _ D2.out P2.out).mono ?_; rintro e w10 ⟨rfl, hb⟩; have F0 : Hid (Blk w10 w.heap.size (gvs h (.slice d0 ds.length e0) nx (.slice p0 ps.length n0) tk rc)) := F0.out.below hb F0.out.lt; have R1 : Hid (Blk w10 br1 (rvs kc id hr (.slice da1 dr.length dc1) nr (.slice pa1 pr.length pc1) tr rr)) := R1.out.below hb R1.out.lt; have D1 : Hid (OwnD w10 w.heap.size (.slice da1 dr.length dc1) (dr)) := D1.out.below hb (fun k hk => (D1.out.lt k hk).2); have P1 : Hid (Own w10 w.heap.size (.slice pa1 pr.length pc1) (pr)) := P1.out.below hb (fun k hk => (P1.out.lt k hk).2); have FB : Hid (Below w.heap.size w w10) := FB.out.trans (hb.mono FB.out.size); have R2 : Hid (Blk w10 br2 (rvs kc id hr (.slice da2 dr.length dc2) nr (.slice pa2 pr.length pc2) tr rr)) := R2.out.below hb R2.out.lt; have D2 : Hid (OwnD w10 B2 (.slice da2 dr.length dc2) ((markLD 1 dr.length))) := D2.out.below hb (fun k hk => (D2.out.lt k hk).2); have P2 : Hid (Own w10 B2 (.slice pa2 pr.length pc2) ((markL (1 + 13 * dr.length) pr.length))) := P2.out.below hb (fun k hk => (P2.out.lt k hk).2); clear hb))
  go_upto_region 25 with (first | (refine load_blk 29 _ Tryz.underlying29 (by kernel_rfl) F0.out rfl rfl rfl ?_) | (go_at_call 6; refine (toGroup_any h ds d0 e0 nx ps p0 n0 tk rc hld hlp _ ((HD.out.below FB.out (Nat.le_refl _)).mono FB.out.size) ((HP.out.below FB.out (Nat.le_refl _)).mono FB.out.size)).mono ?_; rintro e w11 ⟨gd4, gp4, rfl, ho, hb⟩; have O4 : Hid (GO w11 w.heap.size gd4 gp4 ds ps) := ho.base FB.out.size; clear ho; have F0 : Hid (Blk w11 w.heap.size (gvs h (.slice d0 ds.length e0) nx (.slice p0 ps.length n0) tk rc)) := F0.out.below hb F0.out.lt; have R1 : Hid (Blk w11 br1 (rvs kc id hr (.slice da1 dr.length dc1) nr (.slice pa1 pr.length pc1) tr rr)) := R1.out.below hb R1.out.lt; have D1 : Hid (OwnD w11 w.heap.size (.slice da1 dr.length dc1) (dr)) := D1.out.below hb (fun k hk => (D1.out.lt k hk).2); have P1 : Hid (Own w11 w.heap.size (.slice pa1 pr.length pc1) (pr)) := P1.out.below hb (fun k hk => (P1.out.lt k hk).2); have FB : Hid (Below w.heap.size w w11) := FB.out.trans (hb.mono FB.out.size); have R2 : Hid (Blk w11 br2 (rvs kc id hr (.slice da2 dr.length dc2) nr (.slice pa2 pr.length pc2) tr rr)) := R2.out.below hb R2.out.lt; have D2 : Hid (OwnD w11 B2 (.slice da2 dr.length dc2) ((markLD 1 dr.length))) := D2.out.below hb (fun k hk => (D2.out.lt k hk).2); have P2 : Hid (Own w11 B2 (.slice pa2 pr.length pc2) ((markL (1 + 13 * dr.length) pr.length))) := P2.out.below hb (fun k hk => (P2.out.lt k hk).2); clear hb) | (go_at_call 7; refine (CI gd4 gp4 _ O4.out).mono ?_; rintro e v3 ⟨da3, dc3, pa3, pc3, rfl, hd_, hp_, ne3_, hb⟩; have NE3 : Hid (∀ j, (Value.slice da3 dr.length dc3).ownBlock = some j → (Value.slice pa3 pr.length pc3).ownBlock ≠ some j) := ne3_; have D3 : Hid (OwnD v3 w.heap.size (.slice da3 dr.length dc3) dr) := hd_.base FB.out.size; have P3 : Hid (Own v3 w.heap.size (.slice pa3 pr.length pc3) pr) := Own.base' hp_ FB.out.size; have F0 : Hid (Blk v3 w.heap.size (gvs h (.slice d0 ds.length e0) nx (.slice p0 ps.length n0) tk rc)) := F0.out.below hb F0.out.lt; have R1 : Hid (Blk v3 br1 (rvs kc id hr (.slice da1 dr.length dc1) nr (.slice pa1 pr.length pc1) tr rr)) := R1.out.below hb R1.out.lt; have D1 : Hid (OwnD v3 w.heap.size (.slice da1 dr.length dc1) (dr)) := D1.out.below hb (fun k hk => (D1.out.lt k hk).2); have P1 : Hid (Own v3 w.heap.size (.slice pa1 pr.length pc1) (pr)) := P1.out.below hb (fun k hk => (P1.out.lt k hk).2); have FB : Hid (Below w.heap.size w v3) := FB.out.trans (hb.mono FB.out.size); have R2 : Hid (Blk v3 br2 (rvs kc id hr (.slice da2 dr.length dc2) nr (.slice pa2 pr.length pc2) tr rr)) := R2.out.below hb R2.out.lt; have D2 : Hid (OwnD v3 B2 (.slice da2 dr.length dc2) ((markLD 1 dr.length))) := D2.out.below hb (fun k hk => (D2.out.lt k hk).2); have P2 : Hid (Own v3 B2 (.slice pa2 pr.length pc2) ((markL (1 + 13 * dr.length) pr.length))) := P2.out.below hb (fun k hk => (P2.out.lt k hk).2); clear hb hd_ hp_ ne3_) | (refine store_new (rvs kc id hr (.slice da3 dr.length dc3) nr (.slice pa3 pr.length pc3) tr rr) 39 _ _ (by kernel_rfl) (by kernel_rfl) (by kernel_rfl) rfl rfl rfl rfl ?_))
  obtain ⟨br3, hbr⟩ : ∃ b, b = v3.heap.size := ⟨_, rfl⟩
  obtain ⟨W12, hW⟩ : ∃ W, W = v3.alloc (.cells (rvs kc id hr (.slice da3 dr.length dc3) nr (.slice pa3 pr.length pc3) tr rr).toArray 39) := ⟨_, rfl⟩
  have od3 : Hid (∀ k, (Value.slice da3 dr.length dc3).ownBlock = some k → w.heap.size ≤ k ∧ k < br3) := fun k hk => by rw [hbr]; exact D3.out.lt k hk
  have op3 : Hid (∀ k, (Value.slice pa3 pr.length pc3).ownBlock = some k → w.heap.size ≤ k ∧ k < br3) := fun k hk => by rw [hbr]; exact P3.out.lt k hk
  have lt_F0_3 := F0.out.lt
  rw [← hbr] at lt_F0_3
  have lt_R1_3 := R1.out.lt
  rw [← hbr] at lt_R1_3
  have lt_b_3 := FB.out.size
  rw [← hbr] at lt_b_3
  have lt_R2_3 := R2.out.lt
  rw [← hbr] at lt_R2_3
  have F0 : Hid (Blk W12 w.heap.size (gvs h (.slice d0 ds.length e0) nx (.slice p0 ps.length n0) tk rc)) := by rw [hW]; exact F0.out.alloc _
  have R1 : Hid (Blk W12 br1 (rvs kc id hr (.slice da1 dr.length dc1) nr (.slice pa1 pr.length pc1) tr rr)) := by rw [hW]; exact R1.out.alloc _
  have D1 : Hid (OwnD W12 w.heap.size (.slice da1 dr.length dc1) (dr)) := by rw [hW]; exact D1.out.alloc _
  have P1 : Hid (Own W12 w.heap.size (.slice pa1 pr.length pc1) (pr)) := by rw [hW]; exact P1.out.alloc _
  have FB : Hid (Below w.heap.size w W12) := by rw [hW]; exact FB.out.alloc FB.out.size _
  have R2 : Hid (Blk W12 br2 (rvs kc id hr (.slice da2 dr.length dc2) nr (.slice pa2 pr.length pc2) tr rr)) := by rw [hW]; exact R2.out.alloc _
  have D2 : Hid (OwnD W12 B2 (.slice da2 dr.length dc2) ((markLD 1 dr.length))) := by rw [hW]; exact D2.out.alloc _
  have P2 : Hid (Own W12 B2 (.slice pa2 pr.length pc2) ((markL (1 + 13 * dr.length) pr.length))) := by rw [hW]; exact P2.out.alloc _
  have D3 : Hid (OwnD W12 w.heap.size (.slice da3 dr.length dc3) (dr)) := by rw [hW]; exact D3.out.alloc _
  have P3 : Hid (Own W12 w.heap.size (.slice pa3 pr.length pc3) (pr)) := by rw [hW]; exact P3.out.alloc _
  have R3 : Hid (Blk W12 br3 (rvs kc id hr (.slice da3 dr.length dc3) nr (.slice pa3 pr.length pc3) tr rr)) := by rw [hW]; exact Blk.at_ v3 (rvs kc id hr (.slice da3 dr.length dc3) nr (.slice pa3 pr.length pc3) tr rr).toArray _ _ hbr
  rw [← hW, ← hbr]
  clear hW hbr
  go_wp2_with (first | (refine load_blk 39 _ Tryz.underlying39 (by kernel_rfl) R3.out rfl rfl rfl ?_) | (refine load_blk 39 _ Tryz.underlying39 (by kernel_rfl) R2.out rfl rfl rfl ?_) | (refine load_blk 39 _ Tryz.underlying39 (by kernel_rfl) R1.out rfl rfl rfl ?_) | (go_at_call 8; refine (eqGroupResult_same kc id hr dr da3 da1 dc3 dc1 nr pr pa3 pa1 pc3 pc1 tr rr hrd hrp _ D3.out.din D1.out.din P3.out.din P1.out.din).mono ?_; rintro e w13 ⟨rfl, hb⟩; have F0 : Hid (Blk w13 w.heap.size (gvs h (.slice d0 ds.length e0) nx (.slice p0 ps.length n0) tk rc)) := F0.out.below hb F0.out.lt; have R1 : Hid (Blk w13 br1 (rvs kc id hr (.slice da1 dr.length dc1) nr (.slice pa1 pr.length pc1) tr rr)) := R1.out.below hb R1.out.lt; have D1 : Hid (OwnD w13 w.heap.size (.slice da1 dr.length dc1) (dr)) := D1.out.below hb (fun k hk => (D1.out.lt k hk).2); have P1 : Hid (Own w13 w.heap.size (.slice pa1 pr.length pc1) (pr)) := P1.out.below hb (fun k hk => (P1.out.lt k hk).2); have FB : Hid (Below w.heap.size w w13) := FB.out.trans (hb.mono FB.out.size); have R2 : Hid (Blk w13 br2 (rvs kc id hr (.slice da2 dr.length dc2) nr (.slice pa2 pr.length pc2) tr rr)) := R2.out.below hb R2.out.lt; have D2 : Hid (OwnD w13 B2 (.slice da2 dr.length dc2) ((markLD 1 dr.length))) := D2.out.below hb (fun k hk => (D2.out.lt k hk).2); have P2 : Hid (Own w13 B2 (.slice pa2 pr.length pc2) ((markL (1 + 13 * dr.length) pr.length))) := P2.out.below hb (fun k hk => (P2.out.lt k hk).2); clear hb) | (go_at_call 12; refine (heldGroupResult_any B2 kc id hr (.slice da2 dr.length dc2) nr (.slice pa2 pr.length pc2) tr rr dr.length pr.length 1 (by omega) (by omega) hrd hrp _ D2.out P2.out).mono ?_; rintro e w14 ⟨rfl, hb⟩; have FB : Hid (Below w.heap.size w w14) := FB.out.trans (hb.mono FB.out.size); clear hb))
  go_ret
  exact ⟨by simp, FB.out⟩

set_option maxRecDepth 100000 in
theorem lifted (os : Os) (started : os.Started) (H : Type) (enc : TypeId × Value → H) :
    ReturnsInHanded {} Tryz.checked os 3 .any (Rows.fnExactCallLiftSpec.pre6 enc Tryz.prog Tryz.f3 Rows.fnExactCallLiftRow.domain false) (Rows.fnExactCallLiftSpec.post enc Tryz.prog Tryz.f3 false true false false) := by
  refine returnsInHanded_of_change (C := Tryz.checked) own started (by kernel_rfl) Tryz.func3
    (ChangeSpec.witness6 (enc := enc) (C := Tryz.checked) false ⟨#[], #[.agg #[.int .i64 0, .int .i64 0, .int .i64 0, .int .i64 0, .int .i64 0, .int .i64 0, .int .i64 0, .int .i64 0, .int .i64 0, .int .i64 0, .int .i64 0, .int .i64 0, .slice none 0 0, .int .i64 0, .slice none 0 0, .int .i64 0, .bool false], .int .i64 0, .int .i64 0], []⟩ 8 (by kernel_rfl) (by kernel_rfl) (by kernel_rfl) (by kernel_rfl)) ?_
  intro W base args ds gs before hval0 hW hcnd _
  have hval : ∀ (j : Nat) t v, Tryz.f3.params[j]? = some t → args[j]? = some v → Value.okWide Tryz.prog W .any base t v := hval0
  have hW' := hW
  obtain ⟨p, q, hA0, hV, rfl, hfz, hnd⟩ := hW
  have hA : DataW.TrodAll enc Tryz.prog W 0 (fun _ => true) true Tryz.f3.params.toList args.toList ds p := hA0
  rw [Tryz.params3] at hA hval
  obtain ⟨v0, vs0, d0, ds0, p0, q0, hargs, rfl, rfl, h0, r0⟩ := trodAll_cons hA
  obtain ⟨v1, vs1, d1, ds1, p1, q1, rfl, rfl, rfl, h1, r1⟩ := trodAll_cons r0
  obtain ⟨v2, vs2, d2, ds2, p2, q2, rfl, rfl, rfl, h2, r2⟩ := trodAll_cons r1
  obtain ⟨rfl, rfl, rfl⟩ := trodAll_nil r2
  obtain rfl : args = #[v0, v1, v2] := by cases args; simp_all
  obtain ⟨rfl, rfl⟩ := trodVars_none hV
  have k0 := h0
  have lt0 : ∀ x ∈ p0, x.block < W.heap.size := by obtain ⟨m, hm⟩ := k0; exact DataW.trod_lt m _ _ _ hm
  obtain ⟨x0, da0, dc0, pa0, pc0, rfl, wl0, ln0, din0, pin0⟩ := open_grp (th := 23) (tds := 24) (tl := 27) (tps := 25) (tp := 127) (⟨Tryz.underlying103, Tryz.underlying98, Tryz.underlying96, Tryz.underlying101, Tryz.underlying99, Tryz.underlying2, Tryz.underlying4, by kernel_rfl, by kernel_rfl, by kernel_rfl, by kernel_rfl, by kernel_rfl, by kernel_rfl, by kernel_rfl, by kernel_rfl, by kernel_rfl, ⟨rfl, rfl, rfl⟩, ⟨rfl, rfl, rfl⟩, ⟨rfl, rfl, rfl⟩, ⟨rfl, rfl, rfl⟩, ⟨rfl, rfl, rfl⟩, ⟨rfl, rfl, rfl⟩, ⟨rfl, rfl, rfl⟩, ⟨rfl, rfl, rfl⟩, ⟨rfl, rfl, rfl⟩⟩ : DeckT Tryz.prog 103 98 96 101 99 2 4 _ _ _ _ _ _ _ _ _ _ _ _ _ _) Tryz.underlying29 Tryz.underlying23 Tryz.underlying24 Tryz.underlying27 Tryz.underlying25 Tryz.underlying127 (by kernel_rfl) (by kernel_rfl) (by kernel_rfl) (by kernel_rfl) (by kernel_rfl) (by kernel_rfl) (by kernel_rfl) (by kernel_rfl) ⟨rfl, rfl, rfl⟩ ⟨rfl, rfl, rfl⟩ ⟨rfl, rfl, rfl⟩ ⟨rfl, rfl, rfl⟩ ⟨rfl, rfl, rfl⟩ ⟨rfl, rfl, rfl⟩ ⟨rfl, rfl, rfl⟩ (hval 0 29 v0 rfl rfl) h0
  have k1 := h1
  have lt1 : ∀ x ∈ p1, x.block < W.heap.size := by obtain ⟨m, hm⟩ := k1; exact DataW.trod_lt m _ _ _ hm
  obtain ⟨a1, rfl, _, _, w1⟩ := open_int Tryz.underlying2 (hval 1 2 v1 rfl rfl) h1
  have k2 := h2
  have lt2 : ∀ x ∈ p2, x.block < W.heap.size := by obtain ⟨m, hm⟩ := k2; exact DataW.trod_lt m _ _ _ hm
  obtain ⟨a2, rfl, _, _, w2⟩ := open_int Tryz.underlying2 (hval 2 2 v2 rfl rfl) h2
  clear hA0 hval0
  refine (walk x0 a1 a2 da0 dc0 pa0 pc0 wl0 ln0 w1 w2 W din0 pin0).mono fun e W' ⟨he, bel⟩ => ?_
  subst he
  exact ⟨_, rfl, _, _, _, [], _, [], hW', trodAll_mk1 (shut_bool Tryz.underlying4 _), (trodAll_cons_mk (Below.trod laidOut (by kernel_rfl) (of_decide_eq_true (by kernel_rfl)) k0 bel lt0) (trodAll_cons_mk (Below.trod laidOut (by kernel_rfl) (of_decide_eq_true (by kernel_rfl)) k1 bel lt1) (trodAll_cons_mk (Below.trod laidOut (by kernel_rfl) (of_decide_eq_true (by kernel_rfl)) k2 bel lt2) trodAll_mk0))), rfl, bel.frame _, fun h => by cases h⟩

theorem over : Rows.fnExactCallLiftRow.holds Tryz.pinned (OpenSpec.ofChange Rows.fnExactCallLiftSpec) :=
  OpenClaim.holds_of_wide 3 Tryz.f3 rfl rfl rfl rfl rfl rfl rfl ⟨rfl, rfl, rfl, rfl, rfl⟩ rfl rfl rfl rfl rfl (by kernel_rfl) Tryz.func3 (by kernel_rfl)
    (of_decide_eq_true (by kernel_rfl)) (by unfold Func.isWrapper; first | (rw [if_pos (by decide +kernel)]; kernel_rfl) | (rw [if_neg (by decide +kernel)]; exact ⟨rfl, rfl⟩))
    (fun os started H enc _ => lifted os started H enc)

theorem proved : Rows.FnExactCallLiftSaid := over
end Go.Proofs.YtdkikijnjkoddaaGreat.fnExactCallLift

namespace Go.Proofs.YtdkikijnjkoddaaGreat
theorem fnExactCallLift_holds : Rows.FnExactCallLiftSaid := fnExactCallLift.proved
#print axioms fnExactCallLift_holds
end Go.Proofs.YtdkikijnjkoddaaGreat
