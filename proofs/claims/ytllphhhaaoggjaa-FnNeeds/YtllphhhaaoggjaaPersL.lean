/-
  The model's ledger: NeedOf.
-/
import Derived.Test.YtllphhhaaoggjaaPersK
namespace Go.Proofs.Ytllphhhaaoggjaa
open Go.RowKit Pl
set_option linter.unusedSimpArgs false
set_option linter.unusedVariables false

def Hs.needK (h : Hs) (x : Lg) (sh ca : Int) : Int × Int × Int := if Hs.askd h x sh ca 0 = 0 then Hs.need h x.ps sh ca else (Hs.askd h x sh ca 0, 0, 0)
set_option maxRecDepth 20000 in
set_option maxHeartbeats 16000000 in
theorem specNeedOf_any (h : Hs) (x : Lg) (sh ca : Int) (a : Option Addr) (cap : Nat) (hl : x.ps.length ≤ 1048576) (w : World) (hP : PIn w w.heap.size a x.ps) :
    Calls Try.prog 17 #[.agg #[.int .i64 h.fl, .int .i64 h.gp, .int .i64 h.ln, .int .i64 h.rf, .int .i64 h.sp, .int .i64 h.pu, .int .i64 h.br, .int .i64 h.dr, .int .i64 h.lv, .int .i64 h.dO, .int .i64 h.ld, .int .i64 h.qu], .agg #[.int .i64 x.nx, .slice a x.ps.length cap], .int .i64 sh, .int .i64 ca] w fun e w' => e = .returned (.agg #[.int .i64 (Hs.needK h x sh ca).1, .int .i64 (Hs.needK h x sh ca).2.1, .int .i64 (Hs.needK h x sh ca).2.2]) ∧ Below w.heap.size w w' := by
  have HP : Hid (PIn w w.heap.size a x.ps) := hP
  have F0 : Hid (HAt (((w.alloc (.cells #[.int .i64 h.fl, .int .i64 h.gp, .int .i64 h.ln, .int .i64 h.rf, .int .i64 h.sp, .int .i64 h.pu, .int .i64 h.br, .int .i64 h.dr, .int .i64 h.lv, .int .i64 h.dO, .int .i64 h.ld, .int .i64 h.qu] 25)).alloc (.cells #[.int .i64 x.nx, .slice a x.ps.length cap] 28)).alloc (.cells #[.int .i64 0, .int .i64 0, .int .i64 0] 32)) w.heap.size h) := ((HAt.new w h _).below ((Below.refl _ _).alloc (Nat.le_refl _) _) (by simp)).below ((Below.refl _ _).alloc (Nat.le_refl _) _) (by simp; omega)
  have F1 : Hid (LW (((w.alloc (.cells #[.int .i64 h.fl, .int .i64 h.gp, .int .i64 h.ln, .int .i64 h.rf, .int .i64 h.sp, .int .i64 h.pu, .int .i64 h.br, .int .i64 h.dr, .int .i64 h.lv, .int .i64 h.dO, .int .i64 h.ld, .int .i64 h.qu] 25)).alloc (.cells #[.int .i64 x.nx, .slice a x.ps.length cap] 28)).alloc (.cells #[.int .i64 0, .int .i64 0, .int .i64 0] 32)) (w.heap.size + 1) x.nx (.slice a x.ps.length cap)) := (LW.at_ _ x.nx (.slice a x.ps.length cap) _ _ (by simp)).alloc _
  have F2 : Hid (R3 (((w.alloc (.cells #[.int .i64 h.fl, .int .i64 h.gp, .int .i64 h.ln, .int .i64 h.rf, .int .i64 h.sp, .int .i64 h.pu, .int .i64 h.br, .int .i64 h.dr, .int .i64 h.lv, .int .i64 h.dO, .int .i64 h.ld, .int .i64 h.qu] 25)).alloc (.cells #[.int .i64 x.nx, .slice a x.ps.length cap] 28)).alloc (.cells #[.int .i64 0, .int .i64 0, .int .i64 0] 32)) (w.heap.size + 2)) := R3.at_ _ _ _ (by simp)
  have FB : Hid (Below w.heap.size w (((w.alloc (.cells #[.int .i64 h.fl, .int .i64 h.gp, .int .i64 h.ln, .int .i64 h.rf, .int .i64 h.sp, .int .i64 h.pu, .int .i64 h.br, .int .i64 h.dr, .int .i64 h.lv, .int .i64 h.dO, .int .i64 h.ld, .int .i64 h.qu] 25)).alloc (.cells #[.int .i64 x.nx, .slice a x.ps.length cap] 28)).alloc (.cells #[.int .i64 0, .int .i64 0, .int .i64 0] 32))) := (((Below.refl _ _).alloc (Nat.le_refl _) _).alloc (by simp) _).alloc (by simp; omega) _
  clear hP
  by_cases hk : Hs.askd h x sh ca 0 = 0
  · obtain ⟨r, hr⟩ : ∃ r, Hs.need h x.ps sh ca = r := ⟨_, rfl⟩
    have q : Hs.needK h x sh ca = r := by unfold Hs.needK; rw [if_pos hk]; exact hr
    rw [q]
    have HR : Hid (Hs.need h x.ps sh ca = r) := hr
    clear q hr
    go_enter Try.func17, Try.ntmps17
    go_wp2_with (first | (go_at_call 52; refine (l7Asked_any h x sh ca 0 a cap hl _ ((HP.out.below FB.out (Nat.le_refl _)).mono FB.out.size)).mono ?_; rw [hk]; rintro e w1 ⟨rfl, hb⟩; have F0 : Hid (HAt w1 w.heap.size h) := F0.out.below hb F0.out.lt; have F1 : Hid (LW w1 (w.heap.size + 1) x.nx (.slice a x.ps.length cap)) := F1.out.below hb F1.out.lt; have F2 : Hid (R3 w1 (w.heap.size + 2)) := F2.out.below hb F2.out.lt; have FB : Hid (Below w.heap.size w w1) := FB.out.trans (hb.mono FB.out.size); clear hb; obtain ⟨x0_0, x0_1, x0_2, x0_3, x0_4, x0_5, x0_6, x0_7, x0_8, x0_9, x0_10, x0_11⟩ := F0.out; obtain ⟨x1_0, x1_1, y1_0, y1_1⟩ := F1.out; obtain ⟨x2_0, x2_1, x2_2, y2_0, y2_1, y2_2⟩ := F2.out) | (go_at_call 53; refine (l7Need_any h (w.heap.size + 1) x.nx a cap x.ps sh ca hl r HR.out _ F1.out.lat ((HP.out.below FB.out (Nat.le_refl _)).mono FB.out.size)).mono ?_; rintro e w2 ⟨rfl, hb⟩; have F0 : Hid (HAt w2 w.heap.size h) := F0.out.below hb F0.out.lt; have F1 : Hid (LW w2 (w.heap.size + 1) x.nx (.slice a x.ps.length cap)) := F1.out.below hb F1.out.lt; have F2 : Hid (R3 w2 (w.heap.size + 2)) := F2.out.below hb F2.out.lt; have FB : Hid (Below w.heap.size w w2) := FB.out.trans (hb.mono FB.out.size); clear hb; obtain ⟨x0_0, x0_1, x0_2, x0_3, x0_4, x0_5, x0_6, x0_7, x0_8, x0_9, x0_10, x0_11⟩ := F0.out; obtain ⟨x1_0, x1_1, y1_0, y1_1⟩ := F1.out; obtain ⟨x2_0, x2_1, x2_2, y2_0, y2_1, y2_2⟩ := F2.out))
    exact bodyPost_ret (v := .agg #[.int .i64 r.1, .int .i64 r.2.1, .int .i64 r.2.2]) (by simp [results, Try.results17, go_sem, x2_0, x2_1, x2_2]) rfl ⟨rfl, by repeat (first | exact FB.out | (refine Below.setCell ?_ (by simp <;> omega) _))⟩
  · have q : Hs.needK h x sh ca = (Hs.askd h x sh ca 0, 0, 0) := by unfold Hs.needK; rw [if_neg hk]
    rw [q]
    have hn : (Hs.askd h x sh ca 0 != 0) = true := by simpa using hk
    clear q hk
    go_enter Try.func17, Try.ntmps17
    go_wp2_with (go_at_call 52; refine (l7Asked_any h x sh ca 0 a cap hl _ ((HP.out.below FB.out (Nat.le_refl _)).mono FB.out.size)).mono ?_; rintro e w1 ⟨rfl, hb⟩; have F0 : Hid (HAt w1 w.heap.size h) := F0.out.below hb F0.out.lt; have F1 : Hid (LW w1 (w.heap.size + 1) x.nx (.slice a x.ps.length cap)) := F1.out.below hb F1.out.lt; have F2 : Hid (R3 w1 (w.heap.size + 2)) := F2.out.below hb F2.out.lt; have FB : Hid (Below w.heap.size w w1) := FB.out.trans (hb.mono FB.out.size); clear hb; obtain ⟨x0_0, x0_1, x0_2, x0_3, x0_4, x0_5, x0_6, x0_7, x0_8, x0_9, x0_10, x0_11⟩ := F0.out; obtain ⟨x1_0, x1_1, y1_0, y1_1⟩ := F1.out; obtain ⟨x2_0, x2_1, x2_2, y2_0, y2_1, y2_2⟩ := F2.out)
    exact bodyPost_ret (v := .agg #[.int .i64 (Hs.askd h x sh ca 0), .int .i64 0, .int .i64 0]) (by simp [results, Try.results17, go_sem, x2_0, x2_1, x2_2]) rfl ⟨rfl, by repeat (first | exact FB.out | (refine Below.setCell ?_ (by simp <;> omega) _))⟩
end Go.Proofs.Ytllphhhaaoggjaa
