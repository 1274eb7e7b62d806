/-
  The pair that the guard tells may go, and one that may go is left as it is.
-/
import Derived.Test.YtkiohienbchffaaRows
import Derived.WalkKit
import Derived.ProofKit
import Derived.OpenShut
import Derived.ShutString
import Derived.ChangeOld
import Derived.Below
import Derived.Test.YtkiohienbchffaaSrc
import Derived.Test.YtkiohienbchffaaGuardY
import Derived.Test.YtkiohienbchffaaGuardGH
import Derived.Test.YtkiohienbchffaaGuardC
namespace Go.Proofs.Ytkiohienbchffaa
open Go.RowKit Pl

theorem lwBig_no (a : Option Addr) (len cap : Nat) (h : len ≤ 1048576) (w : World) :
    Calls Try.prog 9 #[.slice a len cap] w fun e w' => e = .returned (.bool false) ∧ w' = w := by
  have hd : decide ((1048576 : Int) < (len : Int)) = false := decide_eq_false (by omega)
  go_enter Try.func9, Try.ntmps9
  go_wp2
  go_ret
  exact ⟨rfl, rfl⟩
theorem lwBig_yes (a : Option Addr) (len cap : Nat) (h : 1048576 < len) (hm : len ≤ maxLen) (w : World) :
    Calls Try.prog 9 #[.slice a len cap] w fun e w' => e = .returned (.bool true) ∧ w' = w := by
  unfold maxLen at hm
  have hd : decide ((1048576 : Int) < (len : Int)) = true := decide_eq_true (by omega)
  go_enter Try.func9, Try.ntmps9
  go_wp2
  go_ret
  exact ⟨rfl, rfl⟩

/-- What the shell of a law tells of a slice of bytes that came in. -/
def codeRow (w : World) (a : Option Addr) (len cap : Nat) (zs : List Int) : Prop :=
  (a = none ∧ len = 0 ∧ cap = 0 ∧ zs = []) ∨
  ∃ x, a = some x ∧ len ≤ cap ∧ cap ≤ maxLen ∧ zs.length = cap ∧ (∀ i, i < zs.length → w.cell? (x.add i) = some (.int .u8 (zs.getD i 0))) ∧ ∀ n ∈ zs, (Lit.int .u8 n).wf = true
/-- The bytes lie in a block that was there. -/
def CodeLt (w : World) (a : Option Addr) (len : Nat) : Prop := ∀ b off, a = some ⟨b, off, none⟩ → len ≠ 0 → b < w.heap.size
theorem codeLt_of {w : World} {a : Option Addr} {len cap : Nat} {zs : List Int} (h : codeRow w a len cap zs) : CodeLt w a len := by
  intro b off ha hl
  rcases h with ⟨h1, _⟩ | ⟨x, h1, h2, h3, h4, h5, _⟩
  · rw [h1] at ha; cases ha
  · rw [h1] at ha
    obtain rfl : x = ⟨b, off, none⟩ := by simpa using ha
    have hc0 := h5 0 (by omega)
    have := World.block_lt_of_cell? w _ hc0
    simpa [Addr.add] using this
theorem row_le {w : World} {a : Option Addr} {len cap : Nat} {zs : List Int} (h : codeRow w a len cap zs) : len ≤ maxLen := by
  rcases h with ⟨_, rfl, _, _⟩ | ⟨x, _, h1, h2, _⟩
  · exact Nat.zero_le _
  · omega
theorem codeIn_of {w : World} {a : Option Addr} {len cap : Nat} {zs : List Int} (h : codeRow w a len cap zs) (hl : len ≤ 1048576) (sb : Nat) (hsb : w.heap.size ≤ sb) : CodeIn w sb a len := by
  refine ⟨hl, ?_⟩
  rcases h with ⟨_, rfl, _, _⟩ | ⟨x, rfl, h1, h2, h3, h4, h5⟩
  · exact Or.inl rfl
  · by_cases h0 : len = 0
    · exact Or.inl h0
    · obtain ⟨b, off, spot⟩ := x
      have hc0 := h4 0 (by omega)
      have hspot : spot = none := by simpa [Addr.add] using World.cell?_spot hc0
      subst hspot
      refine Or.inr ⟨b, off, rfl, ?_, fun i hi => ?_⟩
      · have := World.block_lt_of_cell? w _ hc0
        simp [Addr.add] at this
        omega
      · have hci := h4 i (by omega)
        have hw := getD_all (P := fun n => (Lit.int .u8 n).wf = true) h5 (i := i) (by omega)
        have e : Addr.add ⟨b, off, none⟩ i = ⟨b, off + i, none⟩ := by unfold Addr.add; split <;> simp_all
        rw [e] at hci
        exact ⟨_, hci, (bounds_u8 hw).1, (bounds_u8 hw).2⟩
/-- The bytes can be read as before where nothing that was there has turned. -/
theorem codeIn_below {w W W' : World} {a : Option Addr} {len : Nat} (h : ∀ sb, w.heap.size ≤ sb → CodeIn W sb a len) (hlt : CodeLt w a len) (hb : Below w.heap.size W W') : ∀ sb, w.heap.size ≤ sb → CodeIn W' sb a len := by
  intro sb hsb
  obtain ⟨h1, h2⟩ := h sb hsb
  refine ⟨h1, ?_⟩
  rcases h2 with h2 | ⟨b, off, h3, h4, h5⟩
  · exact Or.inl h2
  · by_cases h0 : len = 0
    · exact Or.inl h0
    · have hblt := hlt b off h3 h0
      refine Or.inr ⟨b, off, h3, h4, fun i hi => ?_⟩
      obtain ⟨z, hz, z1, z2⟩ := h5 i hi
      exact ⟨z, (hb.cell (p := ⟨b, off + i, none⟩) hblt).trans hz, z1, z2⟩
theorem codeIn_drawn {B : Nat} {W W' : World} {a : Option Addr} {len k : Nat} (h : ∀ sb, B ≤ sb → CodeIn W sb a len) (e : W' = W.drewN k) : ∀ sb, B ≤ sb → CodeIn W' sb a len := by
  rw [e]; exact h
theorem below_drawn {B : Nat} {w W W' : World} {k : Nat} (h : Below B w W) (e : W' = W.drewN k) : Below B w W' := by
  rw [e]; exact ⟨h.os, h.tape, h.output, h.size, h.block⟩
end Go.Proofs.Ytkiohienbchffaa

namespace Go.Proofs.Ytkiohienbchffaa
open Go.RowKit Pl
set_option linter.unusedSimpArgs false
set_option linter.unusedVariables false

set_option maxRecDepth 20000 in
set_option maxHeartbeats 8000000 in
theorem implGuardPair_any (h : Hs) (s : Sh) (a b : Cm) (w : World) :
    Calls Try.prog 11 #[.agg #[.int .i64 h.fl, .int .i64 h.gp, .int .i64 h.ln, .int .i64 h.rf, .int .i64 h.sp, .int .i64 h.pu, .int .i64 h.br, .int .i64 h.dr, .int .i64 h.lv, .int .i64 h.dO, .int .i64 h.ld, .int .i64 h.qu], .agg #[.int .i64 s.lo.pos, .int .i64 s.lo.vel, .int .i64 s.lo.door, .int .i64 s.up.pos, .int .i64 s.up.vel, .int .i64 s.up.door], .agg #[.int .i64 a.push, .bool a.brk, .bool a.opn], .agg #[.int .i64 b.push, .bool b.brk, .bool b.opn]] w (isPair w (Hs.pairK h s a b) (Hs.grdL h s a b) (Hs.grdU h s a b)) := by
  unfold Hs.grdL Hs.grdU
  have F0 : Hid (HAt (((((w.alloc (.cells #[.int .i64 h.fl, .int .i64 h.gp, .int .i64 h.ln, .int .i64 h.rf, .int .i64 h.sp, .int .i64 h.pu, .int .i64 h.br, .int .i64 h.dr, .int .i64 h.lv, .int .i64 h.dO, .int .i64 h.ld, .int .i64 h.qu] 25)).alloc (.cells #[.int .i64 s.lo.pos, .int .i64 s.lo.vel, .int .i64 s.lo.door, .int .i64 s.up.pos, .int .i64 s.up.vel, .int .i64 s.up.door] 29)).alloc (.cells #[.int .i64 a.push, .bool a.brk, .bool a.opn] 31)).alloc (.cells #[.int .i64 b.push, .bool b.brk, .bool b.opn] 31)).alloc (.cells #[.int .i64 0, .int .i64 0, .bool false, .bool false, .int .i64 0, .bool false, .bool false] 35)) w.heap.size h) := ((((HAt.at_ w h _ _ (by simp)).alloc _).alloc _).alloc _).alloc _
  have F1 : Hid (SW (((((w.alloc (.cells #[.int .i64 h.fl, .int .i64 h.gp, .int .i64 h.ln, .int .i64 h.rf, .int .i64 h.sp, .int .i64 h.pu, .int .i64 h.br, .int .i64 h.dr, .int .i64 h.lv, .int .i64 h.dO, .int .i64 h.ld, .int .i64 h.qu] 25)).alloc (.cells #[.int .i64 s.lo.pos, .int .i64 s.lo.vel, .int .i64 s.lo.door, .int .i64 s.up.pos, .int .i64 s.up.vel, .int .i64 s.up.door] 29)).alloc (.cells #[.int .i64 a.push, .bool a.brk, .bool a.opn] 31)).alloc (.cells #[.int .i64 b.push, .bool b.brk, .bool b.opn] 31)).alloc (.cells #[.int .i64 0, .int .i64 0, .bool false, .bool false, .int .i64 0, .bool false, .bool false] 35)) (w.heap.size + 1) s) := (((SW.at_ (w.alloc (.cells #[.int .i64 h.fl, .int .i64 h.gp, .int .i64 h.ln, .int .i64 h.rf, .int .i64 h.sp, .int .i64 h.pu, .int .i64 h.br, .int .i64 h.dr, .int .i64 h.lv, .int .i64 h.dO, .int .i64 h.ld, .int .i64 h.qu] 25)) s _ _ (by simp)).alloc _).alloc _).alloc _
  have F2 : Hid (XW (((((w.alloc (.cells #[.int .i64 h.fl, .int .i64 h.gp, .int .i64 h.ln, .int .i64 h.rf, .int .i64 h.sp, .int .i64 h.pu, .int .i64 h.br, .int .i64 h.dr, .int .i64 h.lv, .int .i64 h.dO, .int .i64 h.ld, .int .i64 h.qu] 25)).alloc (.cells #[.int .i64 s.lo.pos, .int .i64 s.lo.vel, .int .i64 s.lo.door, .int .i64 s.up.pos, .int .i64 s.up.vel, .int .i64 s.up.door] 29)).alloc (.cells #[.int .i64 a.push, .bool a.brk, .bool a.opn] 31)).alloc (.cells #[.int .i64 b.push, .bool b.brk, .bool b.opn] 31)).alloc (.cells #[.int .i64 0, .int .i64 0, .bool false, .bool false, .int .i64 0, .bool false, .bool false] 35)) (w.heap.size + 2) a) := ((XW.at_ ((w.alloc (.cells #[.int .i64 h.fl, .int .i64 h.gp, .int .i64 h.ln, .int .i64 h.rf, .int .i64 h.sp, .int .i64 h.pu, .int .i64 h.br, .int .i64 h.dr, .int .i64 h.lv, .int .i64 h.dO, .int .i64 h.ld, .int .i64 h.qu] 25)).alloc (.cells #[.int .i64 s.lo.pos, .int .i64 s.lo.vel, .int .i64 s.lo.door, .int .i64 s.up.pos, .int .i64 s.up.vel, .int .i64 s.up.door] 29)) a _ _ (by simp)).alloc _).alloc _
  have F3 : Hid (XW (((((w.alloc (.cells #[.int .i64 h.fl, .int .i64 h.gp, .int .i64 h.ln, .int .i64 h.rf, .int .i64 h.sp, .int .i64 h.pu, .int .i64 h.br, .int .i64 h.dr, .int .i64 h.lv, .int .i64 h.dO, .int .i64 h.ld, .int .i64 h.qu] 25)).alloc (.cells #[.int .i64 s.lo.pos, .int .i64 s.lo.vel, .int .i64 s.lo.door, .int .i64 s.up.pos, .int .i64 s.up.vel, .int .i64 s.up.door] 29)).alloc (.cells #[.int .i64 a.push, .bool a.brk, .bool a.opn] 31)).alloc (.cells #[.int .i64 b.push, .bool b.brk, .bool b.opn] 31)).alloc (.cells #[.int .i64 0, .int .i64 0, .bool false, .bool false, .int .i64 0, .bool false, .bool false] 35)) (w.heap.size + 3) b) := (XW.at_ (((w.alloc (.cells #[.int .i64 h.fl, .int .i64 h.gp, .int .i64 h.ln, .int .i64 h.rf, .int .i64 h.sp, .int .i64 h.pu, .int .i64 h.br, .int .i64 h.dr, .int .i64 h.lv, .int .i64 h.dO, .int .i64 h.ld, .int .i64 h.qu] 25)).alloc (.cells #[.int .i64 s.lo.pos, .int .i64 s.lo.vel, .int .i64 s.lo.door, .int .i64 s.up.pos, .int .i64 s.up.vel, .int .i64 s.up.door] 29)).alloc (.cells #[.int .i64 a.push, .bool a.brk, .bool a.opn] 31)) b _ _ (by simp)).alloc _
  have F4 : Hid (RPair (((((w.alloc (.cells #[.int .i64 h.fl, .int .i64 h.gp, .int .i64 h.ln, .int .i64 h.rf, .int .i64 h.sp, .int .i64 h.pu, .int .i64 h.br, .int .i64 h.dr, .int .i64 h.lv, .int .i64 h.dO, .int .i64 h.ld, .int .i64 h.qu] 25)).alloc (.cells #[.int .i64 s.lo.pos, .int .i64 s.lo.vel, .int .i64 s.lo.door, .int .i64 s.up.pos, .int .i64 s.up.vel, .int .i64 s.up.door] 29)).alloc (.cells #[.int .i64 a.push, .bool a.brk, .bool a.opn] 31)).alloc (.cells #[.int .i64 b.push, .bool b.brk, .bool b.opn] 31)).alloc (.cells #[.int .i64 0, .int .i64 0, .bool false, .bool false, .int .i64 0, .bool false, .bool false] 35)) (w.heap.size + 4)) := RPair.at_ ((((w.alloc (.cells #[.int .i64 h.fl, .int .i64 h.gp, .int .i64 h.ln, .int .i64 h.rf, .int .i64 h.sp, .int .i64 h.pu, .int .i64 h.br, .int .i64 h.dr, .int .i64 h.lv, .int .i64 h.dO, .int .i64 h.ld, .int .i64 h.qu] 25)).alloc (.cells #[.int .i64 s.lo.pos, .int .i64 s.lo.vel, .int .i64 s.lo.door, .int .i64 s.up.pos, .int .i64 s.up.vel, .int .i64 s.up.door] 29)).alloc (.cells #[.int .i64 a.push, .bool a.brk, .bool a.opn] 31)).alloc (.cells #[.int .i64 b.push, .bool b.brk, .bool b.opn] 31)) _ _ (by simp)
  have FB : Hid (Below w.heap.size w (((((w.alloc (.cells #[.int .i64 h.fl, .int .i64 h.gp, .int .i64 h.ln, .int .i64 h.rf, .int .i64 h.sp, .int .i64 h.pu, .int .i64 h.br, .int .i64 h.dr, .int .i64 h.lv, .int .i64 h.dO, .int .i64 h.ld, .int .i64 h.qu] 25)).alloc (.cells #[.int .i64 s.lo.pos, .int .i64 s.lo.vel, .int .i64 s.lo.door, .int .i64 s.up.pos, .int .i64 s.up.vel, .int .i64 s.up.door] 29)).alloc (.cells #[.int .i64 a.push, .bool a.brk, .bool a.opn] 31)).alloc (.cells #[.int .i64 b.push, .bool b.brk, .bool b.opn] 31)).alloc (.cells #[.int .i64 0, .int .i64 0, .bool false, .bool false, .int .i64 0, .bool false, .bool false] 35))) := ((((((Below.refl _ _).alloc (Nat.le_refl _) _).alloc (by simp <;> omega) _).alloc (by simp <;> omega) _).alloc (by simp <;> omega) _).alloc (by simp <;> omega) _)
  by_cases hk : Hs.pairK h s a b = 0
  · rw [if_pos hk, if_pos hk, hk]
    obtain ⟨k1, k2, k3, k4⟩ := pair_ok hk
    have HS : Hid (h.shaft s = 0) := (pair_zero hk).1
    have HA : Hid (-h.pu ≤ a.push ∧ a.push ≤ h.pu) := k3
    have HB : Hid (-h.pu ≤ b.push ∧ b.push ≤ h.pu) := k4
    obtain ⟨p, hp⟩ : ∃ p, Hs.grd h s a b = p := ⟨_, rfl⟩
    have HG : Hid (Hs.grd h s a b = p) := hp
    rw [hp]
    clear k1 k2 k3 k4 hp
    go_enter Try.func11, Try.ntmps11
    go_upto_region 5 with (first | (go_at_call 30; refine (pairFault_any h s a b _).mono ?_; rw [hk]; rintro r w1 ⟨rfl, hb⟩; have F0 : Hid (HAt w1 w.heap.size h) := F0.out.below hb F0.out.lt; have F1 : Hid (SW w1 (w.heap.size + 1) s) := F1.out.below hb F1.out.lt; have F2 : Hid (XW w1 (w.heap.size + 2) a) := F2.out.below hb F2.out.lt; have F3 : Hid (XW w1 (w.heap.size + 3) b) := F3.out.below hb F3.out.lt; have F4 : Hid (RPair w1 (w.heap.size + 4)) := F4.out.below hb F4.out.lt; have FB : Hid (Below w.heap.size w w1) := FB.out.trans (hb.mono FB.out.size); clear hb; obtain ⟨x0_0, x0_1, x0_2, x0_3, x0_4, x0_5, x0_6, x0_7, x0_8, x0_9, x0_10, x0_11⟩ := F0.out; obtain ⟨x1_0, x1_1, x1_2, x1_3, x1_4, x1_5, y1_0, y1_1, y1_2, y1_3, y1_4, y1_5⟩ := F1.out; obtain ⟨x2_0, x2_1, x2_2, y2_0, y2_1, y2_2⟩ := F2.out; obtain ⟨x3_0, x3_1, x3_2, y3_0, y3_1, y3_2⟩ := F3.out; obtain ⟨x4_0, x4_1, x4_2, x4_3, x4_4, x4_5, x4_6, y4_0, y4_1, y4_2, y4_3, y4_4, y4_5, y4_6⟩ := F4.out) | (go_at_call 31; refine (guarded_any h s a b HS.out HA.out.1 HA.out.2 HB.out.1 HB.out.2 p HG.out _).mono ?_; rintro r w2 ⟨rfl, hb⟩; have F0 : Hid (HAt w2 w.heap.size h) := F0.out.below hb F0.out.lt; have F1 : Hid (SW w2 (w.heap.size + 1) s) := F1.out.below hb F1.out.lt; have F2 : Hid (XW w2 (w.heap.size + 2) a) := F2.out.below hb F2.out.lt; have F3 : Hid (XW w2 (w.heap.size + 3) b) := F3.out.below hb F3.out.lt; have F4 : Hid (RPair w2 (w.heap.size + 4)) := F4.out.below hb F4.out.lt; have FB : Hid (Below w.heap.size w w2) := FB.out.trans (hb.mono FB.out.size); clear hb; obtain ⟨x0_0, x0_1, x0_2, x0_3, x0_4, x0_5, x0_6, x0_7, x0_8, x0_9, x0_10, x0_11⟩ := F0.out; obtain ⟨x1_0, x1_1, x1_2, x1_3, x1_4, x1_5, y1_0, y1_1, y1_2, y1_3, y1_4, y1_5⟩ := F1.out; obtain ⟨x2_0, x2_1, x2_2, y2_0, y2_1, y2_2⟩ := F2.out; obtain ⟨x3_0, x3_1, x3_2, y3_0, y3_1, y3_2⟩ := F3.out; obtain ⟨x4_0, x4_1, x4_2, x4_3, x4_4, x4_5, x4_6, y4_0, y4_1, y4_2, y4_3, y4_4, y4_5, y4_6⟩ := F4.out))
    obtain ⟨pb, hbb⟩ : ∃ pb, pb = w2.heap.size := ⟨_, rfl⟩
    obtain ⟨w3, hw2⟩ : ∃ w3, w3 = w2.alloc (.cells #[.int .i64 p.1.push, .bool p.1.brk, .bool p.1.opn, .int .i64 p.2.push, .bool p.2.brk, .bool p.2.opn] 64) := ⟨_, rfl⟩
    have lpbF0 := F0.out.lt
    rw [← hbb] at lpbF0
    have F0 : Hid (HAt w3 w.heap.size h) := by rw [hw2]; exact F0.out.alloc _
    have lpbF1 := F1.out.lt
    rw [← hbb] at lpbF1
    have F1 : Hid (SW w3 (w.heap.size + 1) s) := by rw [hw2]; exact F1.out.alloc _
    have lpbF2 := F2.out.lt
    rw [← hbb] at lpbF2
    have F2 : Hid (XW w3 (w.heap.size + 2) a) := by rw [hw2]; exact F2.out.alloc _
    have lpbF3 := F3.out.lt
    rw [← hbb] at lpbF3
    have F3 : Hid (XW w3 (w.heap.size + 3) b) := by rw [hw2]; exact F3.out.alloc _
    have lpbF4 := F4.out.lt
    rw [← hbb] at lpbF4
    have F4 : Hid (RPair w3 (w.heap.size + 4)) := by rw [hw2]; exact F4.out.alloc _
    have lpbB : w.heap.size ≤ pb := by rw [hbb]; exact FB.out.size
    have FB : Hid (Below w.heap.size w w3) := by rw [hw2]; exact FB.out.alloc FB.out.size _
    have F5 : Hid (JW w3 pb (⟨p.1, p.2⟩ : Pr)) := by rw [hw2]; exact JW.at_ w2 ⟨p.1, p.2⟩ _ pb hbb
    rw [← hw2, ← hbb]
    clear hbb hw2
    obtain ⟨x0_0, x0_1, x0_2, x0_3, x0_4, x0_5, x0_6, x0_7, x0_8, x0_9, x0_10, x0_11⟩ := F0.out
    obtain ⟨x1_0, x1_1, x1_2, x1_3, x1_4, x1_5, y1_0, y1_1, y1_2, y1_3, y1_4, y1_5⟩ := F1.out
    obtain ⟨x2_0, x2_1, x2_2, y2_0, y2_1, y2_2⟩ := F2.out
    obtain ⟨x3_0, x3_1, x3_2, y3_0, y3_1, y3_2⟩ := F3.out
    obtain ⟨x4_0, x4_1, x4_2, x4_3, x4_4, x4_5, x4_6, y4_0, y4_1, y4_2, y4_3, y4_4, y4_5, y4_6⟩ := F4.out
    obtain ⟨x5_0, x5_1, x5_2, x5_3, x5_4, x5_5, y5_0, y5_1, y5_2, y5_3, y5_4, y5_5⟩ := F5.out
    try dsimp only at x5_0 x5_1 x5_2 x5_3 x5_4 x5_5
    go_wp2_with fail
    change bodyPost _ _ _ _ _ (putPair w3 (w.heap.size + 4) 0 p.1 p.2)
    obtain ⟨Wf, hWf⟩ : ∃ Wf, putPair w3 (w.heap.size + 4) 0 p.1 p.2 = Wf := ⟨_, rfl⟩
    have HRf : VPair Wf (w.heap.size + 4) 0 p.1 p.2 := hWf ▸ F4.out.put _ _ _
    have HBf : Below w.heap.size w Wf := hWf ▸ below_putPair FB.out (by omega) _ _ _
    rw [hWf]
    clear hWf
    obtain ⟨d0, d1, d2, d3, d4, d5, d6⟩ := HRf
    try dsimp only at d0 d1 d2 d3 d4 d5 d6
    exact bodyPost_ret (v := .agg #[.int .i64 0, .int .i64 p.1.push, .bool p.1.brk, .bool p.1.opn, .int .i64 p.2.push, .bool p.2.brk, .bool p.2.opn]) (by simp [results, Try.results11, go_sem, d0, d1, d2, d3, d4, d5, d6]) rfl ⟨rfl, HBf⟩
  · rw [if_neg hk, if_neg hk]
    have hn : (Hs.pairK h s a b != 0) = true := by simpa using hk
    clear hk
    go_enter Try.func11, Try.ntmps11
    go_wp2_with (go_at_call 30; refine (pairFault_any h s a b _).mono ?_; rintro r w1 ⟨rfl, hb⟩; have F0 : Hid (HAt w1 w.heap.size h) := F0.out.below hb F0.out.lt; have F1 : Hid (SW w1 (w.heap.size + 1) s) := F1.out.below hb F1.out.lt; have F2 : Hid (XW w1 (w.heap.size + 2) a) := F2.out.below hb F2.out.lt; have F3 : Hid (XW w1 (w.heap.size + 3) b) := F3.out.below hb F3.out.lt; have F4 : Hid (RPair w1 (w.heap.size + 4)) := F4.out.below hb F4.out.lt; have FB : Hid (Below w.heap.size w w1) := FB.out.trans (hb.mono FB.out.size); clear hb; obtain ⟨x0_0, x0_1, x0_2, x0_3, x0_4, x0_5, x0_6, x0_7, x0_8, x0_9, x0_10, x0_11⟩ := F0.out; obtain ⟨x1_0, x1_1, x1_2, x1_3, x1_4, x1_5, y1_0, y1_1, y1_2, y1_3, y1_4, y1_5⟩ := F1.out; obtain ⟨x2_0, x2_1, x2_2, y2_0, y2_1, y2_2⟩ := F2.out; obtain ⟨x3_0, x3_1, x3_2, y3_0, y3_1, y3_2⟩ := F3.out; obtain ⟨x4_0, x4_1, x4_2, x4_3, x4_4, x4_5, x4_6, y4_0, y4_1, y4_2, y4_3, y4_4, y4_5, y4_6⟩ := F4.out)
    change bodyPost _ _ _ _ _ (putPair w1 (w.heap.size + 4) (Hs.pairK h s a b) (⟨0, false, false⟩ : Cm) (⟨0, false, false⟩ : Cm))
    obtain ⟨Wf, hWf⟩ : ∃ Wf, putPair w1 (w.heap.size + 4) (Hs.pairK h s a b) (⟨0, false, false⟩ : Cm) (⟨0, false, false⟩ : Cm) = Wf := ⟨_, rfl⟩
    have HRf : VPair Wf (w.heap.size + 4) (Hs.pairK h s a b) (⟨0, false, false⟩ : Cm) (⟨0, false, false⟩ : Cm) := hWf ▸ F4.out.put _ _ _
    have HBf : Below w.heap.size w Wf := hWf ▸ below_putPair FB.out (by omega) _ _ _
    rw [hWf]
    clear hWf
    obtain ⟨d0, d1, d2, d3, d4, d5, d6⟩ := HRf
    try dsimp only at d0 d1 d2 d3 d4 d5 d6
    exact bodyPost_ret (v := .agg #[.int .i64 (Hs.pairK h s a b), .int .i64 0, .bool false, .bool false, .int .i64 0, .bool false, .bool false]) (by simp [results, Try.results11, go_sem, d0, d1, d2, d3, d4, d5, d6]) rfl ⟨rfl, HBf⟩
end Go.Proofs.Ytkiohienbchffaa

namespace Go.Proofs.Ytkiohienbchffaa
open Go.RowKit Pl
set_option linter.unusedSimpArgs false
set_option linter.unusedVariables false

set_option maxRecDepth 20000 in
set_option maxHeartbeats 16000000 in
theorem DrawGuardPair_any (a : Option Addr) (len cap : Nat) (w : World) (hc : CodeIn w w.heap.size a len) :
    Calls Try.prog 10 #[.slice a len cap] w fun e w' => ∃ (h : Hs) (s : Sh) (x y : Cm), e = .returned (.tuple #[.agg #[.int .i64 h.fl, .int .i64 h.gp, .int .i64 h.ln, .int .i64 h.rf, .int .i64 h.sp, .int .i64 h.pu, .int .i64 h.br, .int .i64 h.dr, .int .i64 h.lv, .int .i64 h.dO, .int .i64 h.ld, .int .i64 h.qu], .agg #[.int .i64 s.lo.pos, .int .i64 s.lo.vel, .int .i64 s.lo.door, .int .i64 s.up.pos, .int .i64 s.up.vel, .int .i64 s.up.door], .agg #[.int .i64 x.push, .bool x.brk, .bool x.opn], .agg #[.int .i64 y.push, .bool y.brk, .bool y.opn]]) ∧ Below w.heap.size w w' := by
  obtain ⟨W0, hW0⟩ : ∃ W0, W0 = ((((w.alloc (.cells #[.int .i64 0, .int .i64 0, .int .i64 0, .int .i64 0, .int .i64 0, .int .i64 0, .int .i64 0, .int .i64 0, .int .i64 0, .int .i64 0, .int .i64 0, .int .i64 0] 25)).alloc (.cells #[.int .i64 0, .int .i64 0, .int .i64 0, .int .i64 0, .int .i64 0, .int .i64 0] 29)).alloc (.cells #[.int .i64 0, .bool false, .bool false] 31)).alloc (.cells #[.int .i64 0, .bool false, .bool false] 31)) := ⟨_, rfl⟩
  obtain ⟨sb, hsb⟩ : ∃ sb, sb = W0.heap.size := ⟨_, rfl⟩
  have hsz : w.heap.size + 3 < sb := by rw [hsb, hW0]; simp
  have HC : Hid (CodeIn W0 w.heap.size a len) := by rw [hW0]; exact hc.keep fun b off _ hb => (World.cell?_alloc_past _ _ _ (by simp; omega)).trans ((World.cell?_alloc_past _ _ _ (by simp; omega)).trans ((World.cell?_alloc_past _ _ _ (by simp; omega)).trans (World.cell?_alloc_past _ _ _ hb)))
  have G0 : Hid (HW W0 w.heap.size (⟨0, 0, 0, 0, 0, 0, 0, 0, 0, 0, 0, 0⟩ : Hs)) := by rw [hW0]; exact (((HW.new w (⟨0, 0, 0, 0, 0, 0, 0, 0, 0, 0, 0, 0⟩ : Hs) _).alloc _).alloc _).alloc _
  have G1 : Hid (R6 W0 (w.heap.size + 1)) := by rw [hW0]; exact ((R6.at_ _ _ _ (by simp)).alloc _).alloc _
  have G2 : Hid (XW W0 (w.heap.size + 2) (⟨0, false, false⟩ : Cm)) := by rw [hW0]; exact (XW.at_ _ (⟨0, false, false⟩ : Cm) _ _ (by simp)).alloc _
  have G3 : Hid (XW W0 (w.heap.size + 3) (⟨0, false, false⟩ : Cm)) := by rw [hW0]; exact XW.at_ _ (⟨0, false, false⟩ : Cm) _ _ (by simp)
  have FK : Hid (Keeps sb w W0) := by rw [hW0]; exact ((((Keeps.refl _ _).alloc _).alloc _).alloc _).alloc _
  have HW0 : Hid (W0 = ((((w.alloc (.cells #[.int .i64 0, .int .i64 0, .int .i64 0, .int .i64 0, .int .i64 0, .int .i64 0, .int .i64 0, .int .i64 0, .int .i64 0, .int .i64 0, .int .i64 0, .int .i64 0] 25)).alloc (.cells #[.int .i64 0, .int .i64 0, .int .i64 0, .int .i64 0, .int .i64 0, .int .i64 0] 29)).alloc (.cells #[.int .i64 0, .bool false, .bool false] 31)).alloc (.cells #[.int .i64 0, .bool false, .bool false] 31))) := hW0
  have HSB : Hid (sb = W0.heap.size) := hsb
  clear hW0 hsb hc
  go_enter Try.func10, Try.ntmps10
  go_wp2_with fail
  rw [← HW0.out]
  clear HW0
  refine (l1Source_t w.heap.size a len cap _ (by have := HSB.out; omega) HC.out).mono ?_
  rw [← HSB.out]
  rintro e w1 ⟨rfl, hs, hk⟩
  clear HSB
  have G0 : Hid (HW w1 w.heap.size (⟨0, 0, 0, 0, 0, 0, 0, 0, 0, 0, 0, 0⟩ : Hs)) := G0.out.keeps hk (by omega)
  have G1 : Hid (R6 w1 (w.heap.size + 1)) := G1.out.keeps hk (by omega)
  have G2 : Hid (XW w1 (w.heap.size + 2) (⟨0, false, false⟩ : Cm)) := G2.out.keeps hk (by omega)
  have G3 : Hid (XW w1 (w.heap.size + 3) (⟨0, false, false⟩ : Cm)) := G3.out.keeps hk (by omega)
  have FS : Hid (SrcT w1 sb w.heap.size a len cap (0)) := hs
  have FK : Hid (Keeps sb w w1) := FK.out.trans hk
  clear hs hk
  go_wp2_with fail
  refine (l5Draw_t sb _ a len cap _ _ FS.out (by omega)).mono ?_
  rintro e w2 ⟨h, s, x, y, rfl, hs, hk⟩
  have G0 : Hid (HW w2 w.heap.size (⟨0, 0, 0, 0, 0, 0, 0, 0, 0, 0, 0, 0⟩ : Hs)) := G0.out.keeps hk (by omega)
  have G1 : Hid (R6 w2 (w.heap.size + 1)) := G1.out.keeps hk (by omega)
  have G2 : Hid (XW w2 (w.heap.size + 2) (⟨0, false, false⟩ : Cm)) := G2.out.keeps hk (by omega)
  have G3 : Hid (XW w2 (w.heap.size + 3) (⟨0, false, false⟩ : Cm)) := G3.out.keeps hk (by omega)
  have FS : Hid (SrcT w2 sb w.heap.size a len cap (0 + 200)) := hs
  have FK : Hid (Keeps sb w w2) := FK.out.trans hk
  clear hs hk
  obtain ⟨d0, d1, d2, d3, d4, d5, d6, d7, d8, d9, d10, d11, e0, e1, e2, e3, e4, e5, e6, e7, e8, e9, e10, e11⟩ := G0.out
  obtain ⟨r0, r1, r2, r3, r4, r5, s0, s1, s2, s3, s4, s5⟩ := G1.out
  obtain ⟨j0, j1, j2, q0, q1, q2⟩ := G2.out
  obtain ⟨i0, i1, i2, p0, p1, p2⟩ := G3.out
  try dsimp only at d0 d1 d2 d3 d4 d5 d6 d7 d8 d9 d10 d11 j0 j1 j2 i0 i1 i2
  go_wp2
  change bodyPost _ _ _ _ _ (putX (putX (put6 (putH w2 w.heap.size h) (w.heap.size + 1) s) (w.heap.size + 2) x) (w.heap.size + 3) y)
  obtain ⟨Wf, hWf⟩ : ∃ Wf, putX (putX (put6 (putH w2 w.heap.size h) (w.heap.size + 1) s) (w.heap.size + 2) x) (w.heap.size + 3) y = Wf := ⟨_, rfl⟩
  have H0 : HW Wf w.heap.size h := hWf ▸ (((G0.out.put h).put6_o (by omega) s).putX_o (by omega) x).putX_o (by omega) y
  have H1 : SW Wf (w.heap.size + 1) s := hWf ▸ (((G1.out.putH_o (by omega) h).put s).putX_o (by omega) x).putX_o (by omega) y
  have H2 : XW Wf (w.heap.size + 2) x := hWf ▸ (((G2.out.putH_o (by omega) h).put6_o (by omega) s).put x).putX_o (by omega) y
  have H3 : XW Wf (w.heap.size + 3) y := hWf ▸ (((G3.out.putH_o (by omega) h).put6_o (by omega) s).putX_o (by omega) x).put y
  have HKf : Keeps sb w Wf := hWf ▸ (((FK.out.putH_o (Nat.le_refl _) h).put6_o (by omega) s).putX (by omega) x).putX (by omega) y
  rw [hWf]
  clear hWf d0 d1 d2 d3 d4 d5 d6 d7 d8 d9 d10 d11 e0 e1 e2 e3 e4 e5 e6 e7 e8 e9 e10 e11 r0 r1 r2 r3 r4 r5 s0 s1 s2 s3 s4 s5 j0 j1 j2 q0 q1 q2 i0 i1 i2 p0 p1 p2
  obtain ⟨d0, d1, d2, d3, d4, d5, d6, d7, d8, d9, d10, d11, -, -, -, -, -, -, -, -, -, -, -, -⟩ := H0
  obtain ⟨k0, k1, k2, k3, k4, k5, -, -, -, -, -, -⟩ := H1
  obtain ⟨j0, j1, j2, -, -, -⟩ := H2
  obtain ⟨i0, i1, i2, -, -, -⟩ := H3
  exact bodyPost_ret (v := .tuple #[.agg #[.int .i64 h.fl, .int .i64 h.gp, .int .i64 h.ln, .int .i64 h.rf, .int .i64 h.sp, .int .i64 h.pu, .int .i64 h.br, .int .i64 h.dr, .int .i64 h.lv, .int .i64 h.dO, .int .i64 h.ld, .int .i64 h.qu], .agg #[.int .i64 s.lo.pos, .int .i64 s.lo.vel, .int .i64 s.lo.door, .int .i64 s.up.pos, .int .i64 s.up.vel, .int .i64 s.up.door], .agg #[.int .i64 x.push, .bool x.brk, .bool x.opn], .agg #[.int .i64 y.push, .bool y.brk, .bool y.opn]]) (by simp [results, Try.results10, go_sem, d0, d1, d2, d3, d4, d5, d6, d7, d8, d9, d10, d11, k0, k1, k2, k3, k4, k5, j0, j1, j2, i0, i1, i2]) rfl (by first | exact ⟨h, s, x, y, rfl, HKf.below (by omega) (Nat.le_refl _)⟩ | exact ⟨⟨h, s, x, y, rfl⟩, HKf.below (by omega) (Nat.le_refl _)⟩)
theorem mayGo_noZ {h : Hs} {s : Sh} {a b : Cm} (e : Hs.pairK h s a b ≠ 0) : Hs.mayGo h s a b = false := by
  cases hm : Hs.mayGo h s a b with
  | false => rfl
  | true =>
    exfalso; apply e
    unfold Hs.mayGo at hm
    simp only [Bool.and_eq_true, beq_iff_eq] at hm
    unfold Hs.pairK
    rw [if_pos hm.1, if_pos hm.2.1]; exact hm.2.2.1
theorem mayGo_may {h : Hs} {s : Sh} {a b : Cm} (e : Hs.pairK h s a b = 0) : Hs.mayGo h s a b = Hs.may h s a b := by
  obtain ⟨e1, e2, e3⟩ := pair_zero e
  unfold Hs.mayGo
  rw [e1, e2, e3]; rfl
theorem mayGo_grd {h : Hs} {s : Sh} {a b : Cm} (e : Hs.pairK h s a b = 0) : Hs.mayGo h s (Hs.grd h s a b).1 (Hs.grd h s a b).2 = true := by
  obtain ⟨e1, e2, e3⟩ := pair_zero e
  have k := (pair_ok e).1
  obtain ⟨g1, g2⟩ := grd_cmd (s := s) k.hf k.ok a b e2 e3
  unfold Hs.mayGo
  rw [e1, g1, g2, grd_may e1]; rfl
theorem fieldP0 (k : Int) (x y : Cm) (w : World) : (Instr.field 35 (.agg #[.int .i64 k, .int .i64 x.push, .bool x.brk, .bool x.opn, .int .i64 y.push, .bool y.brk, .bool y.opn]) 0).run Try.prog w = .ok (.int .i64 k) w := by kernel_rfl
set_option maxRecDepth 20000 in
set_option maxHeartbeats 16000000 in
theorem guarded_walk (a0 : Option Addr) (len0 cap0 : Nat) (w : World) (hc : CodeIn w w.heap.size a0 len0) (hbig : len0 ≤ 1048576) :
    Calls Try.prog 3 #[.slice a0 len0 cap0] w fun e w' => e = .returned (.bool true) ∧ Below w.heap.size w w' := by
  have HC : Hid (CodeIn w w.heap.size a0 len0) := hc
  clear hc
  go_enter Try.func3, Try.ntmps3
  go_wp2_with (first | (go_at_call 9; refine (lwBig_no _ _ _ hbig _).mono ?_; rintro e w' ⟨rfl, hw⟩; obtain rfl := hw.symm; clear hw))
  refine (DrawGuardPair_any a0 len0 cap0 _ HC.out).mono ?_
  rintro e w1 ⟨h, s, x, y, rfl, hb⟩
  clear HC hbig
  go_upto_region 4 with fail
  have hsz := hb.size
  obtain ⟨w2, hw2⟩ : ∃ w2, w2 = (((w1.alloc (.cells #[.int .i64 h.fl, .int .i64 h.gp, .int .i64 h.ln, .int .i64 h.rf, .int .i64 h.sp, .int .i64 h.pu, .int .i64 h.br, .int .i64 h.dr, .int .i64 h.lv, .int .i64 h.dO, .int .i64 h.ld, .int .i64 h.qu] 25)).alloc (.cells #[.int .i64 s.lo.pos, .int .i64 s.lo.vel, .int .i64 s.lo.door, .int .i64 s.up.pos, .int .i64 s.up.vel, .int .i64 s.up.door] 29)).alloc (.cells #[.int .i64 x.push, .bool x.brk, .bool x.opn] 31)).alloc (.cells #[.int .i64 y.push, .bool y.brk, .bool y.opn] 31) := ⟨_, rfl⟩
  obtain ⟨b1, hb1⟩ : ∃ b1, b1 = w1.heap.size := ⟨_, rfl⟩
  obtain ⟨b2, hb2⟩ : ∃ b2, b2 = w1.heap.size + 1 := ⟨_, rfl⟩
  obtain ⟨b3, hb3⟩ : ∃ b3, b3 = b2 + 1 := ⟨_, rfl⟩
  obtain ⟨b4, hb4⟩ : ∃ b4, b4 = b3 + 1 := ⟨_, rfl⟩
  have l12 : b1 < b2 := by omega
  have l23 : b2 < b3 := by omega
  have l34 : b3 < b4 := by omega
  have lw1 : w.heap.size ≤ b1 := by omega
  have F0 : Hid (HAt w2 b1 h) := by rw [hw2]; exact (((HAt.at_ w1 h _ _ hb1).alloc _).alloc _).alloc _
  have F1 : Hid (SW w2 b2 s) := by rw [hw2]; exact ((SW.at_ _ s _ _ (by simp; omega)).alloc _).alloc _
  have F2 : Hid (XW w2 b3 x) := by rw [hw2]; exact (XW.at_ _ x _ _ (by simp; omega)).alloc _
  have F3 : Hid (XW w2 b4 y) := by rw [hw2]; exact XW.at_ _ y _ _ (by simp; omega)
  have FB : Hid (Below w.heap.size w w2) := by rw [hw2]; exact (((hb.alloc hb.size _).alloc (by simp; omega) _).alloc (by simp; omega) _).alloc (by simp; omega) _
  rw [← hw2, ← hb2, ← hb3, ← hb4, ← hb1]
  clear hw2 hb1 hb2 hb3 hb4 hb hsz
  obtain ⟨x0_0, x0_1, x0_2, x0_3, x0_4, x0_5, x0_6, x0_7, x0_8, x0_9, x0_10, x0_11⟩ := F0.out
  obtain ⟨x1_0, x1_1, x1_2, x1_3, x1_4, x1_5, -, -, -, -, -, -⟩ := F1.out
  obtain ⟨x2_0, x2_1, x2_2, -, -, -⟩ := F2.out
  obtain ⟨x3_0, x3_1, x3_2, -, -, -⟩ := F3.out
  by_cases hk : Hs.pairK h s x y = 0
  · obtain ⟨p, hp⟩ : ∃ p, Hs.grd h s x y = p := ⟨_, rfl⟩
    have gl : Hs.grdL h s x y = p.1 := by unfold Hs.grdL; rw [if_pos hk, hp]
    have gu : Hs.grdU h s x y = p.2 := by unfold Hs.grdU; rw [if_pos hk, hp]
    have mg := mayGo_grd hk
    rw [hp] at mg
    have mm := mayGo_may hk
    go_upto_region 5 with (go_at_call 11; refine (implGuardPair_any h s x y _).mono ?_; rw [hk, gl, gu]; rintro e w3 ⟨rfl, hb⟩; have F0 : Hid (HAt w3 b1 h) := F0.out.below hb F0.out.lt; have F1 : Hid (SW w3 b2 s) := F1.out.below hb F1.out.lt; have F2 : Hid (XW w3 b3 x) := F2.out.below hb F2.out.lt; have F3 : Hid (XW w3 b4 y) := F3.out.below hb F3.out.lt; have FB : Hid (Below w.heap.size w w3) := FB.out.trans (hb.mono FB.out.size); clear hb; obtain ⟨x0_0, x0_1, x0_2, x0_3, x0_4, x0_5, x0_6, x0_7, x0_8, x0_9, x0_10, x0_11⟩ := F0.out; obtain ⟨x1_0, x1_1, x1_2, x1_3, x1_4, x1_5, -, -, -, -, -, -⟩ := F1.out; obtain ⟨x2_0, x2_1, x2_2, -, -, -⟩ := F2.out; obtain ⟨x3_0, x3_1, x3_2, -, -, -⟩ := F3.out)
    obtain ⟨b5, hbb⟩ : ∃ b5, b5 = w3.heap.size := ⟨_, rfl⟩
    obtain ⟨w4, hw2⟩ : ∃ w4, w4 = w3.alloc (.cells #[.int .i64 0, .int .i64 p.1.push, .bool p.1.brk, .bool p.1.opn, .int .i64 p.2.push, .bool p.2.brk, .bool p.2.opn] 35) := ⟨_, rfl⟩
    have l5F0 := F0.out.lt
    rw [← hbb] at l5F0
    have F0 : Hid (HAt w4 b1 h) := by rw [hw2]; exact F0.out.alloc _
    have l5F1 := F1.out.lt
    rw [← hbb] at l5F1
    have F1 : Hid (SW w4 b2 s) := by rw [hw2]; exact F1.out.alloc _
    have l5F2 := F2.out.lt
    rw [← hbb] at l5F2
    have F2 : Hid (XW w4 b3 x) := by rw [hw2]; exact F2.out.alloc _
    have l5F3 := F3.out.lt
    rw [← hbb] at l5F3
    have F3 : Hid (XW w4 b4 y) := by rw [hw2]; exact F3.out.alloc _
    have FB : Hid (Below w.heap.size w w4) := by rw [hw2]; exact FB.out.alloc FB.out.size _
    have F4 : Hid (VPair w4 b5 0 p.1 p.2) := by rw [hw2]; exact VPair.at_ w3 0 p.1 p.2 _ b5 hbb
    rw [← hw2, ← hbb]
    clear hbb hw2
    obtain ⟨x0_0, x0_1, x0_2, x0_3, x0_4, x0_5, x0_6, x0_7, x0_8, x0_9, x0_10, x0_11⟩ := F0.out
    obtain ⟨x1_0, x1_1, x1_2, x1_3, x1_4, x1_5, -, -, -, -, -, -⟩ := F1.out
    obtain ⟨x2_0, x2_1, x2_2, -, -, -⟩ := F2.out
    obtain ⟨x3_0, x3_1, x3_2, -, -, -⟩ := F3.out
    obtain ⟨x4_0, x4_1, x4_2, x4_3, x4_4, x4_5, x4_6⟩ := F4.out
    clear gl gu
    cases m : Hs.may h s x y with
    | true =>
      have e : p = (x, y) := by rw [← hp]; unfold Hs.grd; rw [if_pos m]
      rw [m] at mm
      clear hp hk
      subst e
      go_wp2_with (go_at_call 13; refine (implMayGo_any h s _ _ _).mono ?_; rintro e w5 ⟨rfl, hb⟩; have F0 : Hid (HAt w5 b1 h) := F0.out.below hb F0.out.lt; have F1 : Hid (SW w5 b2 s) := F1.out.below hb F1.out.lt; have F2 : Hid (XW w5 b3 x) := F2.out.below hb F2.out.lt; have F3 : Hid (XW w5 b4 y) := F3.out.below hb F3.out.lt; have F4 : Hid (VPair w5 b5 0 x y) := F4.out.below hb F4.out.lt; have FB : Hid (Below w.heap.size w w5) := FB.out.trans (hb.mono FB.out.size); clear hb; obtain ⟨x0_0, x0_1, x0_2, x0_3, x0_4, x0_5, x0_6, x0_7, x0_8, x0_9, x0_10, x0_11⟩ := F0.out; obtain ⟨x1_0, x1_1, x1_2, x1_3, x1_4, x1_5, -, -, -, -, -, -⟩ := F1.out; obtain ⟨x2_0, x2_1, x2_2, -, -, -⟩ := F2.out; obtain ⟨x3_0, x3_1, x3_2, -, -, -⟩ := F3.out; obtain ⟨x4_0, x4_1, x4_2, x4_3, x4_4, x4_5, x4_6⟩ := F4.out)
      go_ret
      exact ⟨rfl, FB.out⟩
    | false =>
      rw [m] at mm
      clear hp hk
      go_wp2_with (go_at_call 13; refine (implMayGo_any h s _ _ _).mono ?_; rintro e w5 ⟨rfl, hb⟩; have F0 : Hid (HAt w5 b1 h) := F0.out.below hb F0.out.lt; have F1 : Hid (SW w5 b2 s) := F1.out.below hb F1.out.lt; have F2 : Hid (XW w5 b3 x) := F2.out.below hb F2.out.lt; have F3 : Hid (XW w5 b4 y) := F3.out.below hb F3.out.lt; have F4 : Hid (VPair w5 b5 0 p.1 p.2) := F4.out.below hb F4.out.lt; have FB : Hid (Below w.heap.size w w5) := FB.out.trans (hb.mono FB.out.size); clear hb; obtain ⟨x0_0, x0_1, x0_2, x0_3, x0_4, x0_5, x0_6, x0_7, x0_8, x0_9, x0_10, x0_11⟩ := F0.out; obtain ⟨x1_0, x1_1, x1_2, x1_3, x1_4, x1_5, -, -, -, -, -, -⟩ := F1.out; obtain ⟨x2_0, x2_1, x2_2, -, -, -⟩ := F2.out; obtain ⟨x3_0, x3_1, x3_2, -, -, -⟩ := F3.out; obtain ⟨x4_0, x4_1, x4_2, x4_3, x4_4, x4_5, x4_6⟩ := F4.out)
      go_ret
      exact ⟨rfl, FB.out⟩
  · have gl : Hs.grdL h s x y = (⟨0, false, false⟩ : Cm) := by unfold Hs.grdL; rw [if_neg hk]
    have gu : Hs.grdU h s x y = (⟨0, false, false⟩ : Cm) := by unfold Hs.grdU; rw [if_neg hk]
    have HM : Hid (Hs.mayGo h s x y = false) := mayGo_noZ hk
    have hn : (Hs.pairK h s x y != 0) = true := by simpa using hk
    have fp := fieldP0
    go_upto_region 5 with (go_at_call 11; refine (implGuardPair_any h s x y _).mono ?_; rw [gl, gu]; rintro e w3 ⟨rfl, hb⟩; have F0 : Hid (HAt w3 b1 h) := F0.out.below hb F0.out.lt; have F1 : Hid (SW w3 b2 s) := F1.out.below hb F1.out.lt; have F2 : Hid (XW w3 b3 x) := F2.out.below hb F2.out.lt; have F3 : Hid (XW w3 b4 y) := F3.out.below hb F3.out.lt; have FB : Hid (Below w.heap.size w w3) := FB.out.trans (hb.mono FB.out.size); clear hb; obtain ⟨x0_0, x0_1, x0_2, x0_3, x0_4, x0_5, x0_6, x0_7, x0_8, x0_9, x0_10, x0_11⟩ := F0.out; obtain ⟨x1_0, x1_1, x1_2, x1_3, x1_4, x1_5, -, -, -, -, -, -⟩ := F1.out; obtain ⟨x2_0, x2_1, x2_2, -, -, -⟩ := F2.out; obtain ⟨x3_0, x3_1, x3_2, -, -, -⟩ := F3.out)
    obtain ⟨b5, hbb⟩ : ∃ b5, b5 = w3.heap.size := ⟨_, rfl⟩
    obtain ⟨w4, hw2⟩ : ∃ w4, w4 = w3.alloc (.cells #[.int .i64 (Hs.pairK h s x y), .int .i64 0, .bool false, .bool false, .int .i64 0, .bool false, .bool false] 35) := ⟨_, rfl⟩
    have l5F0 := F0.out.lt
    rw [← hbb] at l5F0
    have F0 : Hid (HAt w4 b1 h) := by rw [hw2]; exact F0.out.alloc _
    have l5F1 := F1.out.lt
    rw [← hbb] at l5F1
    have F1 : Hid (SW w4 b2 s) := by rw [hw2]; exact F1.out.alloc _
    have l5F2 := F2.out.lt
    rw [← hbb] at l5F2
    have F2 : Hid (XW w4 b3 x) := by rw [hw2]; exact F2.out.alloc _
    have l5F3 := F3.out.lt
    rw [← hbb] at l5F3
    have F3 : Hid (XW w4 b4 y) := by rw [hw2]; exact F3.out.alloc _
    have FB : Hid (Below w.heap.size w w4) := by rw [hw2]; exact FB.out.alloc FB.out.size _
    have F4 : Hid (VPair w4 b5 (Hs.pairK h s x y) (⟨0, false, false⟩ : Cm) (⟨0, false, false⟩ : Cm)) := by rw [hw2]; exact VPair.at_ w3 (Hs.pairK h s x y) (⟨0, false, false⟩ : Cm) (⟨0, false, false⟩ : Cm) _ b5 hbb
    rw [← hw2, ← hbb]
    clear hbb hw2
    clear gl gu hk
    have z0_ := F4.out.c0
    go_wp2_with fail
    clear z0_
    have F0 : Hid (HAt w4.drew b1 h) := F0.out.below (Below.refl _ _).drew F0.out.lt
    have F1 : Hid (SW w4.drew b2 s) := F1.out.below (Below.refl _ _).drew F1.out.lt
    have F2 : Hid (XW w4.drew b3 x) := F2.out.below (Below.refl _ _).drew F2.out.lt
    have F3 : Hid (XW w4.drew b4 y) := F3.out.below (Below.refl _ _).drew F3.out.lt
    have F4 : Hid (VPair w4.drew b5 (Hs.pairK h s x y) (⟨0, false, false⟩ : Cm) (⟨0, false, false⟩ : Cm)) := F4.out.below (Below.refl _ _).drew F4.out.lt
    have FB : Hid (Below w.heap.size w w4.drew) := FB.out.drew
    obtain ⟨x0_0, x0_1, x0_2, x0_3, x0_4, x0_5, x0_6, x0_7, x0_8, x0_9, x0_10, x0_11⟩ := F0.out
    obtain ⟨x1_0, x1_1, x1_2, x1_3, x1_4, x1_5, y1_0, y1_1, y1_2, y1_3, y1_4, y1_5⟩ := F1.out
    obtain ⟨x2_0, x2_1, x2_2, y2_0, y2_1, y2_2⟩ := F2.out
    obtain ⟨x3_0, x3_1, x3_2, y3_0, y3_1, y3_2⟩ := F3.out
    have z0_ := F4.out.c0
    refine wp_region_held_drew (S := (fun w'' => w''.cell? ⟨b1, 0, none⟩ = some (.int .i64 h.fl) ∧ w''.cell? ⟨b1, 1, none⟩ = some (.int .i64 h.gp) ∧ w''.cell? ⟨b1, 2, none⟩ = some (.int .i64 h.ln) ∧ w''.cell? ⟨b1, 3, none⟩ = some (.int .i64 h.rf) ∧ w''.cell? ⟨b1, 4, none⟩ = some (.int .i64 h.sp) ∧ w''.cell? ⟨b1, 5, none⟩ = some (.int .i64 h.pu) ∧ w''.cell? ⟨b1, 6, none⟩ = some (.int .i64 h.br) ∧ w''.cell? ⟨b1, 7, none⟩ = some (.int .i64 h.dr) ∧ w''.cell? ⟨b1, 8, none⟩ = some (.int .i64 h.lv) ∧ w''.cell? ⟨b1, 9, none⟩ = some (.int .i64 h.dO) ∧ w''.cell? ⟨b1, 10, none⟩ = some (.int .i64 h.ld) ∧ w''.cell? ⟨b1, 11, none⟩ = some (.int .i64 h.qu) ∧ w''.cell? ⟨b2, 0, none⟩ = some (.int .i64 s.lo.pos) ∧ w''.cell? ⟨b2, 1, none⟩ = some (.int .i64 s.lo.vel) ∧ w''.cell? ⟨b2, 2, none⟩ = some (.int .i64 s.lo.door) ∧ w''.cell? ⟨b2, 3, none⟩ = some (.int .i64 s.up.pos) ∧ w''.cell? ⟨b2, 4, none⟩ = some (.int .i64 s.up.vel) ∧ w''.cell? ⟨b2, 5, none⟩ = some (.int .i64 s.up.door) ∧ w''.cell? ⟨b3, 0, none⟩ = some (.int .i64 x.push) ∧ w''.cell? ⟨b3, 1, none⟩ = some (.bool x.brk) ∧ w''.cell? ⟨b3, 2, none⟩ = some (.bool x.opn) ∧ w''.cell? ⟨b4, 0, none⟩ = some (.int .i64 y.push) ∧ w''.cell? ⟨b4, 1, none⟩ = some (.bool y.brk) ∧ w''.cell? ⟨b4, 2, none⟩ = some (.bool y.opn) ∧ w''.cell? ⟨b5, 0, none⟩ = some (.int .i64 (Hs.pairK h s x y)))) (by kernel_rfl) (by (try dsimp only); first | exact ⟨x0_0, x0_1, x0_2, x0_3, x0_4, x0_5, x0_6, x0_7, x0_8, x0_9, x0_10, x0_11, x1_0, x1_1, x1_2, x1_3, x1_4, x1_5, x2_0, x2_1, x2_2, x3_0, x3_1, x3_2, z0_⟩ | go_keep) (fun hHeld => ?_)
    obtain ⟨v_1, hw1⟩ : ∃ v_1, v_1 = w4.drew := ⟨_, rfl⟩
    have F0 : Hid (HAt v_1 b1 h) := by rw [hw1]; exact F0.out
    have F1 : Hid (SW v_1 b2 s) := by rw [hw1]; exact F1.out
    have F2 : Hid (XW v_1 b3 x) := by rw [hw1]; exact F2.out
    have F3 : Hid (XW v_1 b4 y) := by rw [hw1]; exact F3.out
    have F4 : Hid (VPair v_1 b5 (Hs.pairK h s x y) (⟨0, false, false⟩ : Cm) (⟨0, false, false⟩ : Cm)) := by rw [hw1]; exact F4.out
    have FB : Hid (Below w.heap.size w v_1) := by rw [hw1]; exact FB.out
    rw [← hw1] at hHeld ⊢
    clear hw1
    obtain ⟨x0_0, x0_1, x0_2, x0_3, x0_4, x0_5, x0_6, x0_7, x0_8, x0_9, x0_10, x0_11⟩ := F0.out
    obtain ⟨x1_0, x1_1, x1_2, x1_3, x1_4, x1_5, y1_0, y1_1, y1_2, y1_3, y1_4, y1_5⟩ := F1.out
    obtain ⟨x2_0, x2_1, x2_2, y2_0, y2_1, y2_2⟩ := F2.out
    obtain ⟨x3_0, x3_1, x3_2, y3_0, y3_1, y3_2⟩ := F3.out
    have z0_ := F4.out.c0
    refine wpAnyH_take (i := 0) (v := _) rfl (by kernel_rfl) (by kernel_rfl) (by kernel_rfl) (fun _ _ _ h => h) (Or.inl ⟨by kernel_rfl, by (intro wx hSw; (try dsimp only at hSw); go_simp <;> with_reducible rfl)⟩) (by assumption) ?_
    try simp only [Act.put, List.getElem_toArray, List.getElem_cons_succ, List.getElem_cons_zero, List.setIfInBounds_toArray, List.set_cons_zero, List.set_cons_succ]
    refine wpAnyH_take (i := 1) (v := _) rfl (by kernel_rfl) (by kernel_rfl) (by kernel_rfl) (fun _ _ _ h => h) (Or.inl ⟨by kernel_rfl, by (intro wx hSw; (try dsimp only at hSw); go_simp <;> with_reducible rfl)⟩) (by assumption) ?_
    try simp only [Act.put, List.getElem_toArray, List.getElem_cons_succ, List.getElem_cons_zero, List.setIfInBounds_toArray, List.set_cons_zero, List.set_cons_succ]
    refine wpAnyH_take (i := 2) (v := _) rfl (by kernel_rfl) (by kernel_rfl) (by kernel_rfl) (fun _ _ _ h => h) (Or.inl ⟨by kernel_rfl, by (intro wx hSw; (try dsimp only at hSw); go_simp <;> with_reducible rfl)⟩) (by assumption) ?_
    try simp only [Act.put, List.getElem_toArray, List.getElem_cons_succ, List.getElem_cons_zero, List.setIfInBounds_toArray, List.set_cons_zero, List.set_cons_succ]
    refine wpAnyH_take (i := 3) (v := _) rfl (by kernel_rfl) (by kernel_rfl) (by kernel_rfl) (fun _ _ _ h => h) (Or.inl ⟨by kernel_rfl, by (intro wx hSw; (try dsimp only at hSw); go_simp <;> with_reducible rfl)⟩) (by assumption) ?_
    try simp only [Act.put, List.getElem_toArray, List.getElem_cons_succ, List.getElem_cons_zero, List.setIfInBounds_toArray, List.set_cons_zero, List.set_cons_succ]
    refine wpAnyH_take (i := 6) (v := _) rfl (by kernel_rfl) (by kernel_rfl) (by kernel_rfl) (fun _ _ _ h => h) (Or.inl ⟨by kernel_rfl, by (intro wx hSw; (try dsimp only at hSw); go_simp <;> with_reducible rfl)⟩) (by assumption) ?_
    try simp only [Act.put, List.getElem_toArray, List.getElem_cons_succ, List.getElem_cons_zero, List.setIfInBounds_toArray, List.set_cons_zero, List.set_cons_succ]
    refine wpAnyH_take (i := 7) (v := _) rfl (by kernel_rfl) (by kernel_rfl) (by kernel_rfl) (fun _ _ _ h => h) (Or.inl ⟨by kernel_rfl, by (intro wx hSw; (try dsimp only at hSw); go_simp <;> with_reducible rfl)⟩) (by assumption) ?_
    try simp only [Act.put, List.getElem_toArray, List.getElem_cons_succ, List.getElem_cons_zero, List.setIfInBounds_toArray, List.set_cons_zero, List.set_cons_succ]
    refine wpAnyH_ready (rs := [4]) (by kernel_rfl) (by simp) ?_
    refine (AllReadyH.cons rfl (fun K hK => ?_) AllReadyH.nil)
    go_simp
    refine (specGuardPair_any h s x y _).mono ?_
    rintro e v_2 ⟨rfl, hb⟩
    have F0 : Hid (HAt v_2 b1 h) := F0.out.below hb F0.out.lt
    have F1 : Hid (SW v_2 b2 s) := F1.out.below hb F1.out.lt
    have F2 : Hid (XW v_2 b3 x) := F2.out.below hb F2.out.lt
    have F3 : Hid (XW v_2 b4 y) := F3.out.below hb F3.out.lt
    have F4 : Hid (VPair v_2 b5 (Hs.pairK h s x y) (⟨0, false, false⟩ : Cm) (⟨0, false, false⟩ : Cm)) := F4.out.below hb F4.out.lt
    have FB : Hid (Below w.heap.size w v_2) := FB.out.trans (hb.mono FB.out.size)
    clear hb
    obtain ⟨x0_0, x0_1, x0_2, x0_3, x0_4, x0_5, x0_6, x0_7, x0_8, x0_9, x0_10, x0_11⟩ := F0.out
    obtain ⟨x1_0, x1_1, x1_2, x1_3, x1_4, x1_5, y1_0, y1_1, y1_2, y1_3, y1_4, y1_5⟩ := F1.out
    obtain ⟨x2_0, x2_1, x2_2, y2_0, y2_1, y2_2⟩ := F2.out
    obtain ⟨x3_0, x3_1, x3_2, y3_0, y3_1, y3_2⟩ := F3.out
    have z0_ := F4.out.c0
    try dsimp only
    refine hK.out _ _ (by (try dsimp only); first | exact ⟨x0_0, x0_1, x0_2, x0_3, x0_4, x0_5, x0_6, x0_7, x0_8, x0_9, x0_10, x0_11, x1_0, x1_1, x1_2, x1_3, x1_4, x1_5, x2_0, x2_1, x2_2, x3_0, x3_1, x3_2, z0_⟩ | go_keep) (fun hHeld => ?_)
    clear hK K
    try simp only [Act.put, List.getElem_toArray, List.getElem_cons_succ, List.getElem_cons_zero, List.setIfInBounds_toArray, List.set_cons_zero, List.set_cons_succ]
    refine wpAnyH_take (i := 5) (v := _) rfl (by kernel_rfl) (by kernel_rfl) (by kernel_rfl) (fun _ _ _ h => h) (Or.inl ⟨by kernel_rfl, by (intro wx hSw; (try dsimp only at hSw); go_simp <;> with_reducible rfl)⟩) (by assumption) ?_
    try simp only [Act.put, List.getElem_toArray, List.getElem_cons_succ, List.getElem_cons_zero, List.setIfInBounds_toArray, List.set_cons_zero, List.set_cons_succ]
    refine wpAnyH_take (i := 8) (v := _) rfl (by kernel_rfl) (by kernel_rfl) (by kernel_rfl) (fun _ _ _ h => h) (Or.inl ⟨by kernel_rfl, by (intro wx hSw; (try dsimp only at hSw); go_simp <;> with_reducible rfl)⟩) (by assumption) ?_
    try simp only [Act.put, List.getElem_toArray, List.getElem_cons_succ, List.getElem_cons_zero, List.setIfInBounds_toArray, List.set_cons_zero, List.set_cons_succ]
    refine wpAnyH_take (i := 9) (v := _) rfl (by kernel_rfl) (by kernel_rfl) (by kernel_rfl) (fun _ _ _ h => h) (Or.inl ⟨by kernel_rfl, by (intro wx hSw; (try dsimp only at hSw); go_simp <;> with_reducible rfl)⟩) (by assumption) ?_
    try simp only [Act.put, List.getElem_toArray, List.getElem_cons_succ, List.getElem_cons_zero, List.setIfInBounds_toArray, List.set_cons_zero, List.set_cons_succ]
    refine wpAnyH_take (i := 10) (v := _) rfl (by kernel_rfl) (by kernel_rfl) (by kernel_rfl) (fun _ _ _ h => h) (Or.inl ⟨by kernel_rfl, by (intro wx hSw; (try dsimp only at hSw); go_simp <;> with_reducible rfl)⟩) (by assumption) ?_
    try simp only [Act.put, List.getElem_toArray, List.getElem_cons_succ, List.getElem_cons_zero, List.setIfInBounds_toArray, List.set_cons_zero, List.set_cons_succ]
    refine wpAnyH_take (i := 11) (v := _) rfl (by kernel_rfl) (by kernel_rfl) (by kernel_rfl) (fun _ _ _ h => h) (Or.inl ⟨by kernel_rfl, by (intro wx hSw; (try dsimp only at hSw); go_simp <;> with_reducible rfl)⟩) (by assumption) ?_
    try simp only [Act.put, List.getElem_toArray, List.getElem_cons_succ, List.getElem_cons_zero, List.setIfInBounds_toArray, List.set_cons_zero, List.set_cons_succ]
    refine wpAnyH_take (i := 12) (v := _) rfl (by kernel_rfl) (by kernel_rfl) (by kernel_rfl) (fun _ _ _ h => h) (Or.inl ⟨by kernel_rfl, by (intro wx hSw; (try dsimp only at hSw); go_simp <;> with_reducible rfl)⟩) (by assumption) ?_
    try simp only [Act.put, List.getElem_toArray, List.getElem_cons_succ, List.getElem_cons_zero, List.setIfInBounds_toArray, List.set_cons_zero, List.set_cons_succ]
    refine wpAnyH_take (i := 13) (v := _) rfl (by kernel_rfl) (by kernel_rfl) (by kernel_rfl) (fun _ _ _ h => h) (Or.inl ⟨by kernel_rfl, by (intro wx hSw; (try dsimp only at hSw); go_simp <;> with_reducible rfl)⟩) (by assumption) ?_
    try simp only [Act.put, List.getElem_toArray, List.getElem_cons_succ, List.getElem_cons_zero, List.setIfInBounds_toArray, List.set_cons_zero, List.set_cons_succ]
    refine wpAnyH_ready (rs := [14]) (by kernel_rfl) (by simp) ?_
    refine (AllReadyH.cons rfl (fun K hK => ?_) AllReadyH.nil)
    go_simp
    refine (implMayGo_any h s x y _).mono ?_
    rintro e v_3 ⟨rfl, hb⟩
    have F0 : Hid (HAt v_3 b1 h) := F0.out.below hb F0.out.lt
    have F1 : Hid (SW v_3 b2 s) := F1.out.below hb F1.out.lt
    have F2 : Hid (XW v_3 b3 x) := F2.out.below hb F2.out.lt
    have F3 : Hid (XW v_3 b4 y) := F3.out.below hb F3.out.lt
    have F4 : Hid (VPair v_3 b5 (Hs.pairK h s x y) (⟨0, false, false⟩ : Cm) (⟨0, false, false⟩ : Cm)) := F4.out.below hb F4.out.lt
    have FB : Hid (Below w.heap.size w v_3) := FB.out.trans (hb.mono FB.out.size)
    clear hb
    obtain ⟨x0_0, x0_1, x0_2, x0_3, x0_4, x0_5, x0_6, x0_7, x0_8, x0_9, x0_10, x0_11⟩ := F0.out
    obtain ⟨x1_0, x1_1, x1_2, x1_3, x1_4, x1_5, y1_0, y1_1, y1_2, y1_3, y1_4, y1_5⟩ := F1.out
    obtain ⟨x2_0, x2_1, x2_2, y2_0, y2_1, y2_2⟩ := F2.out
    obtain ⟨x3_0, x3_1, x3_2, y3_0, y3_1, y3_2⟩ := F3.out
    have z0_ := F4.out.c0
    try dsimp only
    refine hK.out _ _ (by (try dsimp only); first | exact ⟨x0_0, x0_1, x0_2, x0_3, x0_4, x0_5, x0_6, x0_7, x0_8, x0_9, x0_10, x0_11, x1_0, x1_1, x1_2, x1_3, x1_4, x1_5, x2_0, x2_1, x2_2, x3_0, x3_1, x3_2, z0_⟩ | go_keep) (fun hHeld => ?_)
    clear hK K
    try simp only [Act.put, List.getElem_toArray, List.getElem_cons_succ, List.getElem_cons_zero, List.setIfInBounds_toArray, List.set_cons_zero, List.set_cons_succ]
    refine wpAnyH_take (i := 15) (v := _) rfl (by kernel_rfl) (by kernel_rfl) (by kernel_rfl) (fun _ _ _ h => h) (Or.inl ⟨by kernel_rfl, by (intro wx hSw; (try dsimp only at hSw); go_simp <;> with_reducible rfl)⟩) (by assumption) ?_
    try simp only [Act.put, List.getElem_toArray, List.getElem_cons_succ, List.getElem_cons_zero, List.setIfInBounds_toArray, List.set_cons_zero, List.set_cons_succ]
    refine wpAnyH_take (i := 16) (v := _) rfl (by kernel_rfl) (by kernel_rfl) (by kernel_rfl) (fun _ _ _ h => h) (Or.inl ⟨by kernel_rfl, by (intro wx hSw; (try dsimp only at hSw); go_simp <;> with_reducible rfl)⟩) (by assumption) ?_
    try simp only [Act.put, List.getElem_toArray, List.getElem_cons_succ, List.getElem_cons_zero, List.setIfInBounds_toArray, List.set_cons_zero, List.set_cons_succ]
    refine wpAnyH_take (i := 17) (v := _) rfl (by kernel_rfl) (by kernel_rfl) (by kernel_rfl) (fun _ _ _ h => h) (Or.inl ⟨by kernel_rfl, by (intro wx hSw; (try dsimp only at hSw); go_simp <;> with_reducible rfl)⟩) (by assumption) ?_
    try simp only [Act.put, List.getElem_toArray, List.getElem_cons_succ, List.getElem_cons_zero, List.setIfInBounds_toArray, List.set_cons_zero, List.set_cons_succ]
    refine wpAnyH_done (by kernel_rfl) ?_ _
    go_wp2
    go_ret
    exact ⟨ret_bool (by rw [HM.out]; simp), FB.out⟩
end Go.Proofs.Ytkiohienbchffaa

namespace Go.Proofs.Ytkiohienbchffaa.fnGuarded
open Go.ChangeShapes Go.WideShapes Go.ChangeAt Go.RowKit
open Go.ChangeMaps (open_string shut_string)
set_option linter.unusedVariables false

theorem own : ownKnob Try.prog.godebug = none := by kernel_rfl
theorem laidOut : laidOutB Try.prog = true := by kernel_rfl

/-- WHAT THE WALK IS TOLD OF A SLICE OF INTEGERS THAT CAME IN: it is nil; or it leads to a row of 'cap' cells, the numbers 'zs' (the first 'len' are its elements, the rest its spare room), each fitting its kind. -/
def IsRow (k : IntKind) (w : World) (a : Option Addr) (len cap : Nat) (zs : List Int) : Prop :=
  (a = none ∧ len = 0 ∧ cap = 0 ∧ zs = []) ∨
  ∃ x, a = some x ∧ len ≤ cap ∧ cap ≤ maxLen ∧ zs.length = cap ∧ (∀ i, i < zs.length → w.cell? (x.add i) = some (.int k (zs.getD i 0))) ∧ ∀ n ∈ zs, (Lit.int k n).wf = true

/-! ### STEP 1: THE WALK: the Go text returns true, AND WRITES NOTHING THAT WAS THERE: 'Below w.heap.size w w'' (Derived/Below.lean: '.refl', '.alloc', '.drew', '.setCell' at a new block, '.trans'). Open each 'IsRow' by 'rcases' AHEAD of 'go_enter'; part every test ahead of the walk. -/
set_option maxHeartbeats 4000000 in
theorem walk (a0 : Option Addr) (len0 cap0 : Nat) (z0 : List Int) (w : World) (w0 : IsRow .u8 w a0 len0 cap0 z0) :
    Calls Try.prog 3 #[.slice a0 len0 cap0] w fun e w' => e = .returned (.bool true) ∧ Below w.heap.size w w' := by
  by_cases hbig : len0 ≤ 1048576
  · exact guarded_walk a0 len0 cap0 w (codeIn_of w0 hbig _ (Nat.le_refl _)) hbig
  · have hm : len0 ≤ maxLen := row_le w0
    clear w0
    go_enter Try.func3, Try.ntmps3
    go_wp2_with (go_at_call 9; refine (lwBig_yes _ _ _ (by omega) hm _).mono ?_; rintro e w' ⟨rfl, rfl⟩)
    go_ret
    exact ⟨rfl, Below.refl _ _⟩

/-! ### THE ROW's STEP: WRITTEN OUT: LEAVE IT -/
set_option maxRecDepth 100000 in
theorem lifted (os : Os) (started : os.Started) (H : Type) (enc : TypeId × Value → H) :
    ReturnsInHanded {} Try.checked os 3 .any (Rows.fnGuardedSpec.pre6 enc Try.prog Try.f3 Rows.fnGuardedRow.domain false) (Rows.fnGuardedSpec.post enc Try.prog Try.f3 false true false false) := by
  refine returnsInHanded_of_change (C := Try.checked) own started (by kernel_rfl) Try.func3
    (ChangeSpec.witness6 (enc := enc) (C := Try.checked) false ⟨#[], #[.slice none 0 0], []⟩ 8 (by kernel_rfl) (by kernel_rfl) (by kernel_rfl) (by kernel_rfl)) ?_
  intro W base args ds gs before hval0 hW hcnd _
  have hval : ∀ (j : Nat) t v, Try.f3.params[j]? = some t → args[j]? = some v → Value.okWide Try.prog W .any base t v := hval0
  have hW' := hW
  obtain ⟨p, q, hA0, hV, rfl, hfz, hnd⟩ := hW
  have hA : DataW.TrodAll enc Try.prog W 0 (fun _ => true) true Try.f3.params.toList args.toList ds p := hA0
  rw [Try.params3] at hA hval
  obtain ⟨v0, vs0, d0, ds0, p0, q0, hargs, rfl, rfl, h0, r0⟩ := trodAll_cons hA
  obtain ⟨rfl, rfl, rfl⟩ := trodAll_nil r0
  obtain rfl : args = #[v0] := by cases args; simp_all
  obtain ⟨rfl, rfl⟩ := trodVars_none hV
  obtain ⟨a0, len0, cap0, rfl⟩ := okWide_slice Try.underlying22 (hval 0 22 v0 rfl rfl)
  have k0 := h0
  have lt0 : ∀ x ∈ p0, x.block < W.heap.size := by obtain ⟨m, hm⟩ := k0; exact DataW.trod_lt m _ _ _ hm
  obtain ⟨z0, w0⟩ : ∃ zs, IsRow .u8 W a0 len0 cap0 zs := by
    obtain ⟨fuel, hf⟩ := h0
    rcases open_ints Try.underlying22 Try.underlying5 (by kernel_rfl) hf with ⟨hcs, _⟩ | ⟨x, l, c, zs, hcs, _, hl, hm, hz, _, hcell, hwz⟩
    · simp [Value.cells] at hcs
      obtain ⟨rfl, rfl, rfl⟩ := hcs
      exact ⟨[], .inl ⟨rfl, rfl, rfl, rfl⟩⟩
    · simp [Value.cells] at hcs
      obtain ⟨rfl, rfl, rfl⟩ := hcs
      exact ⟨zs, .inr ⟨_, rfl, hl, hm, by simpa using hz, hcell, hwz⟩⟩
  clear hA0 hval0
  refine (walk a0 len0 cap0 z0 W w0).mono fun e W' ⟨he, bel⟩ => ?_
  subst he
  exact ⟨_, rfl, _, _, _, [], _, [], hW', trodAll_mk1 (shut_bool Try.underlying4 _), (trodAll_cons_mk (Below.trod laidOut (by kernel_rfl) (of_decide_eq_true (by kernel_rfl)) k0 bel lt0) trodAll_mk0), rfl, bel.frame _, fun h => by cases h⟩

theorem over : Rows.fnGuardedRow.holds Try.pinned (OpenSpec.ofChange Rows.fnGuardedSpec) :=
  OpenClaim.holds_of_wide 3 Try.f3 rfl rfl rfl rfl rfl rfl rfl ⟨rfl, rfl, rfl, rfl, rfl⟩ rfl rfl rfl rfl rfl (by kernel_rfl) Try.func3 (by kernel_rfl)
    (of_decide_eq_true (by kernel_rfl)) (by unfold Func.isWrapper; first | (rw [if_pos (by decide +kernel)]; kernel_rfl) | (rw [if_neg (by decide +kernel)]; exact ⟨rfl, rfl⟩))
    (fun os started H enc _ => lifted os started H enc)

/-- ████ THE STATEMENT ████ -/
theorem proved : Rows.FnGuardedSaid := over
end Go.Proofs.Ytkiohienbchffaa.fnGuarded

namespace Go.Proofs.Ytkiohienbchffaa
theorem fnGuarded_holds : Rows.FnGuardedSaid := fnGuarded.proved
#print axioms fnGuarded_holds
end Go.Proofs.Ytkiohienbchffaa
