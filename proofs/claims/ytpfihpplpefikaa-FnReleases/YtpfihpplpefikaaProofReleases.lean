/-
  Whatever the bytes draw: what is given back leaves spans that are right, and never more than there was; what is sensed is right. No condition.
-/
import Derived.Test.YtpfihpplpefikaaRows
import Derived.WalkKit
import Derived.ProofKit
import Derived.OpenShut
import Derived.ShutString
import Derived.ChangeOld
import Derived.Below
import Derived.Test.YtpfihpplpefikaaSpanO
import Derived.Test.YtpfihpplpefikaaSpanK
import Derived.Test.YtpfihpplpefikaaSpanG
import Derived.Test.YtpfihpplpefikaaSpanH
import Derived.Test.YtpfihpplpefikaaSpanP
import Derived.Test.YtpfihpplpefikaaGuardY
import Derived.Test.YtpfihpplpefikaaSpanD
import Derived.Test.YtpfihpplpefikaaSpanF
import Derived.Test.YtpfihpplpefikaaCarU
import Derived.Test.YtpfihpplpefikaaAt
import Derived.Test.YtpfihpplpefikaaGrp
import Derived.Test.YtpfihpplpefikaaProf
namespace Go.Proofs.Ytpfihpplpefikaa
open Go.RowKit Pl
set_option linter.unusedSimpArgs false
set_option linter.unusedVariables false

theorem clip_mono (m a b : Int) (h : a ≤ b) (m0 : 0 ≤ m) : clip m a ≤ clip m b := by unfold clip; (repeat' split) <;> omega
theorem hi_mono {h : Hs} (o : h.Ok) {p p' v v' : Int} (hp : p ≤ p') (hv : v ≤ v') (b : v' ≤ 2000) : h.hi p v ≤ h.hi p' v' := by
  have r1 := o.br1; have r3 := o.pu1
  unfold Hs.hi
  by_cases c : 0 < v
  · rw [if_pos c, if_pos (by omega)]
    have := stop_le v v' h.br (by omega) hv (by omega)
    omega
  · rw [if_neg c]
    split
    · have := stopP_nonneg v' h.br (by omega) (by omega); omega
    · exact hp
theorem lo_mono {h : Hs} (o : h.Ok) {p p' v v' : Int} (hp : p ≤ p') (hv : v ≤ v') (b : -2000 ≤ v) : h.lo p v ≤ h.lo p' v' := by
  have r1 := o.br1; have r3 := o.pu1
  unfold Hs.lo
  by_cases c : v' < 0
  · rw [if_pos c, if_pos (by omega)]
    have := stop_le (-v') (-v) h.br (by omega) (by omega) (by omega)
    omega
  · rw [if_neg c]
    split
    · have := stopP_nonneg (-v) h.br (by omega) (by omega); omega
    · exact hp
theorem step_mono {h : Hs} {c : Cs} {x : Cm} {d e : Int} (o : h.Ok) (hd : d ≤ e) : (stepC h c x d).pos ≤ (stepC h c x e).pos ∧ (stepC h c x d).vel ≤ (stepC h c x e).vel := by
  have s1 := o.sp1
  have cm := clip_mono h.sp (c.vel + x.push + d) (c.vel + x.push + e) (by omega) (by omega)
  unfold stepC
  split
  · split <;> exact ⟨Int.le_refl _, Int.le_refl _⟩
  · split
    · exact ⟨Int.le_refl _, Int.le_refl _⟩
    · dsimp only; omega
/-- Whatever the drift is, a car comes no higher and no lower than the worst. -/
theorem worst_hi {h : Hs} {c : Cs} {x : Cm} {d : Int} (k : CarOk h c) (d2 : d ≤ h.dr) : h.hi (stepC h c x d).pos (stepC h c x d).vel ≤ Hs.wh h c x := by
  have o := k.ok
  obtain ⟨a, b⟩ := step_mono (c := c) (x := x) o d2
  have e := step_env (x := x) (d := h.dr) k
  exact hi_mono o a b (by omega)
theorem worst_lo {h : Hs} {c : Cs} {x : Cm} {d : Int} (k : CarOk h c) (d1 : -h.dr ≤ d) : Hs.wl h c x ≤ h.lo (stepC h c x d).pos (stepC h c x d).vel := by
  have o := k.ok
  obtain ⟨a, b⟩ := step_mono (c := c) (x := x) o d1
  have e := step_env (x := x) (d := -h.dr) k
  exact lo_mono o a b (by omega)
theorem hi_ge {h : Hs} (o : h.Ok) (p v : Int) : p ≤ h.hi p v := by
  have r1 := o.br1; have r3 := o.pu1
  unfold Hs.hi
  split
  · have := stopP_nonneg v h.br (by omega) (by omega); omega
  · exact Int.le_refl _
theorem lo_le {h : Hs} (o : h.Ok) (p v : Int) : h.lo p v ≤ p := by
  have r1 := o.br1; have r3 := o.pu1
  unfold Hs.lo
  split
  · have := stopP_nonneg (-v) h.br (by omega) (by omega); omega
  · exact Int.le_refl _
/-- A car behind a tick: its speed and its door are right. -/
theorem step_car {h : Hs} {c : Cs} {x : Cm} {d : Int} (k : CarOk h c) : -h.sp ≤ (stepC h c x d).vel ∧ (stepC h c x d).vel ≤ h.sp ∧ 0 ≤ (stepC h c x d).door ∧ (stepC h c x d).door ≤ h.dO ∧ ((stepC h c x d).door = 0 ∨ (stepC h c x d).vel = 0) := by
  have o := k.ok
  have s1 := o.sp1; have s2 := o.sp2; have v1 := k.v1; have v2 := k.v2; have r1 := o.br1; have r3 := o.pu1
  have q1 := k.d1; have q2 := k.d2; have q3 := k.dv; have q4 := o.do1
  have cb := clip_bd h.sp (c.vel + x.push + d) (by omega)
  have bb := brk_in c.vel h.br h.sp v1 v2 (by omega)
  unfold stepC
  split
  case isTrue e =>
    have vz : c.vel = 0 := by
      rcases e with e | e
      · omega
      · exact e.2
    split
    case isTrue => dsimp only; omega
    case isFalse no =>
      have dn : c.door ≠ 0 := by
        rcases e with e | e
        · exact e
        · exact absurd e.1 no
      dsimp only; omega
  case isFalse e =>
    have dz : c.door = 0 := by
      by_cases z : c.door = 0
      · exact z
      · exact absurd (Or.inl z) e
    split <;> (dsimp only; omega)
theorem car_of {h : Hs} {c : Cs} (hf : h.fault = 0) (p1 : h.low ≤ c.pos) (p2 : c.pos ≤ h.high) (v : -h.sp ≤ c.vel ∧ c.vel ≤ h.sp ∧ 0 ≤ c.door ∧ c.door ≤ h.dO ∧ (c.door = 0 ∨ c.vel = 0)) : h.car c = 0 := by
  obtain ⟨v1, v2, d1, d2, dv⟩ := v
  rw [Hs.car_ok hf]
  unfold Hs.carC
  have r : h.carR c = true := by
    unfold Hs.carR
    simp only [Bool.and_eq_true, inB_iff]
    exact ⟨⟨p1, p2⟩, ⟨v1, v2⟩, d1, d2⟩
  rw [if_pos r, if_neg (by omega)]
/-- Two cars that are apart stay apart, whatever right commands are given, however they drift. -/
theorem stepS_ok {h : Hs} {s : Sh} {a b : Cm} {d e : Int} (k : h.shaft s = 0) (d1 : -h.dr ≤ d) (d2 : d ≤ h.dr) (e1 : -h.dr ≤ e) (e2 : e ≤ h.dr) : h.shaft (Hs.stepS h s a b d e) = 0 := by
  obtain ⟨k1, k2, _⟩ := shaft_parts k
  have c1 := Hs.car_zero k1
  have c2 := Hs.car_zero k2
  have o := c1.ok
  have m := grd_may k a b
  unfold Hs.may at m
  simp only [Bool.and_eq_true, decide_eq_true_eq] at m
  obtain ⟨m1, m2, m3⟩ := m
  obtain ⟨x, hx⟩ : ∃ x, (Hs.grd h s a b).1 = x := ⟨_, rfl⟩
  obtain ⟨y, hy⟩ : ∃ y, (Hs.grd h s a b).2 = y := ⟨_, rfl⟩
  unfold Hs.stepS
  rw [hx, hy]
  rw [hx, hy] at m1
  rw [hy] at m2
  rw [hx] at m3
  have q1 := worst_hi (x := x) c1 d2
  have q2 := worst_lo (x := x) c1 d1
  have q3 := worst_hi (x := y) c2 e2
  have q4 := worst_lo (x := y) c2 e1
  have l1 := lo_le o (stepC h s.lo x d).pos (stepC h s.lo x d).vel
  have l2 := hi_ge o (stepC h s.lo x d).pos (stepC h s.lo x d).vel
  have u1 := lo_le o (stepC h s.up y e).pos (stepC h s.up y e).vel
  have u2 := hi_ge o (stepC h s.up y e).pos (stepC h s.up y e).vel
  have ln := o.ln1
  have x1 : h.car (stepC h s.lo x d) = 0 := car_of c1.hf (by omega) (by omega) (step_car c1)
  have x2 : h.car (stepC h s.up y e) = 0 := car_of c1.hf (by omega) (by omega) (step_car c2)
  unfold Hs.shaft
  dsimp only
  rw [if_pos x1, if_pos x2]
  unfold Hs.shaftC
  dsimp only
  rw [if_neg (by omega), if_neg (by omega)]
/-- Spans without a fault. -/
structure SpOk (h : Hs) (x : Ss) : Prop where
  hf : h.fault = 0
  a1 : -1 ≤ x.l.lo
  a2 : x.l.lo ≤ x.l.hi
  a3 : x.l.hi < x.u.lo
  a4 : x.u.lo ≤ x.u.hi
  a5 : x.u.hi ≤ h.fl
theorem spans_zero_iff {h : Hs} {x : Ss} : Hs.spans h x = 0 ↔ SpOk h x := by
  unfold Hs.spans
  constructor
  · intro e
    split at e
    case isFalse c => exact absurd e c
    case isTrue c =>
      unfold Hs.spanC at e
      split at e
      case isFalse => cases e
      case isTrue r =>
        unfold Hs.spanR at r
        simp only [Bool.and_eq_true, inB_iff] at r
        split at e
        case isTrue => cases e
        case isFalse b =>
          unfold spanB at b
          simp only [Bool.or_eq_true, decide_eq_true_eq, not_or, Int.not_lt, Int.not_le] at b
          obtain ⟨⟨r1, r2⟩, ⟨r3, r4⟩, ⟨r5, r6⟩, r7, r8⟩ := r
          obtain ⟨b1, b2, b3⟩ := b
          exact ⟨c, r1, b1, b3, b2, r8⟩
  · intro o
    obtain ⟨hf, a1, a2, a3, a4, a5⟩ := o
    rw [if_pos hf]
    unfold Hs.spanC
    have r : Hs.spanR h x = true := by
      unfold Hs.spanR
      simp only [Bool.and_eq_true, inB_iff]
      omega
    have b : spanB x = false := by
      unfold spanB
      simp only [Bool.or_eq_false_iff, decide_eq_false_iff_not]
      omega
    rw [if_pos r, b]
    rfl
theorem extS_ok {h : Hs} {x : Ss} {a b : Int} (k : SpOk h x) (a1 : -1 ≤ a) (ab : a < b) (b1 : b ≤ h.fl) : SpOk h (extS x a b) := by
  obtain ⟨hf, c1, c2, c3, c4, c5⟩ := k
  unfold extS
  exact ⟨hf, by dsimp only; omega, by dsimp only; omega, by dsimp only; omega, by dsimp only; omega, by dsimp only; omega⟩
theorem cutS_in (x y : Sp) (hx : x.lo ≤ x.hi) : x.lo ≤ (cutS x y).lo ∧ (cutS x y).lo ≤ (cutS x y).hi ∧ (cutS x y).hi ≤ x.hi := by
  unfold cutS
  split
  · omega
  · dsimp only; omega
theorem relS_ok {h : Hs} {x : Ss} (s : Sh) (k : SpOk h x) : SpOk h (Hs.relS h x s) := by
  obtain ⟨hf, c1, c2, c3, c4, c5⟩ := k
  have a := cutS_in x.l (Hs.cover h s.lo) c2
  have b := cutS_in x.u (Hs.cover h s.up) c4
  unfold Hs.relS
  exact ⟨hf, by dsimp only; omega, by dsimp only; omega, by dsimp only; omega, by dsimp only; omega, by dsimp only; omega⟩
theorem sensed_ok {h : Hs} (hf : h.fault = 0) (s : Sh) : SpOk h (Hs.sensed h s) := by
  have o := Hs.ok_of (Hs.fault_zero hf).1
  have a := Hs.at6_bd o s.lo.pos
  have b := Hs.at6_bd o s.up.pos
  have f1 := o.fl1
  have A1 : -1 ≤ Hs.sensA h s ∧ Hs.sensA h s < Hs.sensB h s ∧ Hs.sensB h s ≤ h.fl := by
    unfold Hs.sensA Hs.sensB
    split <;> split <;> omega
  unfold Hs.sensed
  exact ⟨hf, by dsimp only; omega, by dsimp only; omega, by dsimp only; omega, by dsimp only; omega, by dsimp only; omega⟩
/-- The aim within a span. -/
theorem aim_in {x : Sp} (g : Int) (hx : x.lo ≤ x.hi) : x.lo ≤ aimS x g ∧ aimS x g ≤ x.hi := by unfold aimS; omega
theorem aim_way {x : Sp} (g : Int) (hx : x.lo ≤ x.hi) : (if g < x.lo then x.lo else if x.hi < g then x.hi else g) = aimS x g := by
  unfold aimS
  (repeat' split) <;> omega
/-- The command for a floor is right. -/
theorem forC_ok {h : Hs} (hf : h.fault = 0) (c : Cs) (f : Int) : h.cmd (Hs.forC h c f) = 0 := by
  have o := Hs.ok_of (Hs.fault_zero hf).1
  have p1 := o.pu1
  have key : ∀ (x : Cm), -h.pu ≤ x.push → x.push ≤ h.pu → x.bad = false → h.cmd x = 0 := by
    intro x a b q
    rw [Hs.cmd_ok hf]
    unfold Hs.cmdC
    rw [if_pos (inB_yes a b), q]
    rfl
  unfold Hs.forC
  split
  · exact key _ (by dsimp only; omega) (by dsimp only; omega) rfl
  · split
    · have := Hs.upP_bd o (-c.vel) (-(h.level f - c.pos))
      exact key _ (by dsimp only; omega) (by dsimp only; omega) rfl
    · have := Hs.upP_bd o c.vel (h.level f - c.pos)
      exact key _ (by dsimp only; omega) (by dsimp only; omega) rfl
end Go.Proofs.Ytpfihpplpefikaa

namespace Go.Proofs.Ytpfihpplpefikaa
open Go.RowKit Pl
set_option linter.unusedSimpArgs false
set_option linter.unusedVariables false

set_option maxRecDepth 20000 in
set_option maxHeartbeats 32000000 in
theorem DrawReleaseSpans_any (a : Option Addr) (len cap : Nat) (w : World) (hc : CodeIn w w.heap.size a len) :
    Calls Try.prog 12 #[.slice a len cap] w fun e w' => ∃ (h : Hs) (y : Ss) (s : Sh), e = .returned (.tuple #[.agg #[.int .i64 h.fl, .int .i64 h.gp, .int .i64 h.ln, .int .i64 h.rf, .int .i64 h.sp, .int .i64 h.pu, .int .i64 h.br, .int .i64 h.dr, .int .i64 h.lv, .int .i64 h.dO, .int .i64 h.ld, .int .i64 h.qu], .agg #[.int .i64 y.l.lo, .int .i64 y.l.hi, .int .i64 y.u.lo, .int .i64 y.u.hi], .agg #[.int .i64 s.lo.pos, .int .i64 s.lo.vel, .int .i64 s.lo.door, .int .i64 s.up.pos, .int .i64 s.up.vel, .int .i64 s.up.door]]) ∧ Below w.heap.size w w' := by
  obtain ⟨W0, hW0⟩ : ∃ W0, W0 = (((w.alloc (.cells #[.int .i64 0, .int .i64 0, .int .i64 0, .int .i64 0, .int .i64 0, .int .i64 0, .int .i64 0, .int .i64 0, .int .i64 0, .int .i64 0, .int .i64 0, .int .i64 0] 25)).alloc (.cells #[.int .i64 0, .int .i64 0, .int .i64 0, .int .i64 0] 29)).alloc (.cells #[.int .i64 0, .int .i64 0, .int .i64 0, .int .i64 0, .int .i64 0, .int .i64 0] 40)) := ⟨_, rfl⟩
  obtain ⟨sb, hsb⟩ : ∃ sb, sb = W0.heap.size := ⟨_, rfl⟩
  have hsz : w.heap.size + 2 < sb := by rw [hsb, hW0]; simp
  have HC : Hid (CodeIn W0 w.heap.size a len) := by rw [hW0]; exact hc.keep fun b off _ hb => (World.cell?_alloc_past _ _ _ (by simp; omega)).trans ((World.cell?_alloc_past _ _ _ (by simp; omega)).trans (World.cell?_alloc_past _ _ _ hb))
  have G0 : Hid (Blk W0 w.heap.size [.int .i64 0, .int .i64 0, .int .i64 0, .int .i64 0, .int .i64 0, .int .i64 0, .int .i64 0, .int .i64 0, .int .i64 0, .int .i64 0, .int .i64 0, .int .i64 0]) := by rw [hW0]; exact ((Blk.at_ w _ _ _ rfl).alloc _).alloc _
  have G1 : Hid (Blk W0 (w.heap.size + 1) [.int .i64 0, .int .i64 0, .int .i64 0, .int .i64 0]) := by rw [hW0]; exact (Blk.at_ _ _ _ _ (by simp)).alloc _
  have G2 : Hid (Blk W0 (w.heap.size + 2) [.int .i64 0, .int .i64 0, .int .i64 0, .int .i64 0, .int .i64 0, .int .i64 0]) := by rw [hW0]; exact Blk.at_ _ _ _ _ (by simp)
  have FK : Hid (Keeps sb w W0) := by rw [hW0]; exact (((Keeps.refl _ _).alloc _).alloc _).alloc _
  have HW0 : Hid (W0 = (((w.alloc (.cells #[.int .i64 0, .int .i64 0, .int .i64 0, .int .i64 0, .int .i64 0, .int .i64 0, .int .i64 0, .int .i64 0, .int .i64 0, .int .i64 0, .int .i64 0, .int .i64 0] 25)).alloc (.cells #[.int .i64 0, .int .i64 0, .int .i64 0, .int .i64 0] 29)).alloc (.cells #[.int .i64 0, .int .i64 0, .int .i64 0, .int .i64 0, .int .i64 0, .int .i64 0] 40))) := hW0
  have HSB : Hid (sb = W0.heap.size) := hsb
  clear hW0 hsb hc
  go_enter Try.func12, Try.ntmps12
  go_wp2_with fail
  rw [← HW0.out]
  clear HW0
  refine (l1Source_t w.heap.size a len cap _ (by have := HSB.out; omega) HC.out).mono ?_
  rw [← HSB.out]
  rintro e w1 ⟨rfl, hs, hk⟩
  clear HSB
  have G0 : Hid (Blk w1 w.heap.size [.int .i64 0, .int .i64 0, .int .i64 0, .int .i64 0, .int .i64 0, .int .i64 0, .int .i64 0, .int .i64 0, .int .i64 0, .int .i64 0, .int .i64 0, .int .i64 0]) := G0.out.keeps hk (by omega)
  have G1 : Hid (Blk w1 (w.heap.size + 1) [.int .i64 0, .int .i64 0, .int .i64 0, .int .i64 0]) := G1.out.keeps hk (by omega)
  have G2 : Hid (Blk w1 (w.heap.size + 2) [.int .i64 0, .int .i64 0, .int .i64 0, .int .i64 0, .int .i64 0, .int .i64 0]) := G2.out.keeps hk (by omega)
  have FS : Hid (SrcT w1 sb w.heap.size a len cap (0)) := hs
  have FK : Hid (Keeps sb w w1) := FK.out.trans hk
  clear hs hk
  go_wp2_with fail
  refine (l5Draw_t sb _ a len cap _ _ FS.out (by omega)).mono ?_
  rintro e w2 ⟨h, s, cx, cy, rfl, ho, hs, hk⟩
  have HO : Hid h.Ok := ho
  have f1 := ho.fl1
  have f2 := ho.fl2
  clear ho
  have G0 : Hid (Blk w2 w.heap.size [.int .i64 0, .int .i64 0, .int .i64 0, .int .i64 0, .int .i64 0, .int .i64 0, .int .i64 0, .int .i64 0, .int .i64 0, .int .i64 0, .int .i64 0, .int .i64 0]) := G0.out.keeps hk (by omega)
  have G1 : Hid (Blk w2 (w.heap.size + 1) [.int .i64 0, .int .i64 0, .int .i64 0, .int .i64 0]) := G1.out.keeps hk (by omega)
  have G2 : Hid (Blk w2 (w.heap.size + 2) [.int .i64 0, .int .i64 0, .int .i64 0, .int .i64 0, .int .i64 0, .int .i64 0]) := G2.out.keeps hk (by omega)
  have FS : Hid (SrcT w2 sb w.heap.size a len cap (0 + 200)) := hs
  have FK : Hid (Keeps sb w w2) := FK.out.trans hk
  clear hs hk
  go_upto_region 3 with fail
  have lG0 := G0.out.lt
  have lG1 := G1.out.lt
  have lG2 := G2.out.lt
  have lFS := FS.out.lt
  obtain ⟨w3, hw3⟩ : ∃ w3, w3 = (((w2.alloc (.cells #[.int .i64 h.fl, .int .i64 h.gp, .int .i64 h.ln, .int .i64 h.rf, .int .i64 h.sp, .int .i64 h.pu, .int .i64 h.br, .int .i64 h.dr, .int .i64 h.lv, .int .i64 h.dO, .int .i64 h.ld, .int .i64 h.qu] 25)).alloc (.cells #[.int .i64 s.lo.pos, .int .i64 s.lo.vel, .int .i64 s.lo.door, .int .i64 s.up.pos, .int .i64 s.up.vel, .int .i64 s.up.door] 40)).alloc (.cells #[.int .i64 cx.push, .bool cx.brk, .bool cx.opn] 58)).alloc (.cells #[.int .i64 cy.push, .bool cy.brk, .bool cy.opn] 58) := ⟨_, rfl⟩
  obtain ⟨b1, hb1⟩ : ∃ b1, b1 = w2.heap.size := ⟨_, rfl⟩
  obtain ⟨b2, hb2⟩ : ∃ b2, b2 = w2.heap.size + 1 := ⟨_, rfl⟩
  have l12 : b1 < b2 := by omega
  have F0 : Hid (Blk w3 b1 [.int .i64 h.fl, .int .i64 h.gp, .int .i64 h.ln, .int .i64 h.rf, .int .i64 h.sp, .int .i64 h.pu, .int .i64 h.br, .int .i64 h.dr, .int .i64 h.lv, .int .i64 h.dO, .int .i64 h.ld, .int .i64 h.qu]) := by rw [hw3]; exact (((Blk.at_ w2 _ _ _ hb1).alloc _).alloc _).alloc _
  have F1 : Hid (Blk w3 b2 [.int .i64 s.lo.pos, .int .i64 s.lo.vel, .int .i64 s.lo.door, .int .i64 s.up.pos, .int .i64 s.up.vel, .int .i64 s.up.door]) := by rw [hw3]; exact ((Blk.at_ _ _ _ _ (by simp; omega)).alloc _).alloc _
  have G0 : Hid (Blk w3 w.heap.size [.int .i64 0, .int .i64 0, .int .i64 0, .int .i64 0, .int .i64 0, .int .i64 0, .int .i64 0, .int .i64 0, .int .i64 0, .int .i64 0, .int .i64 0, .int .i64 0]) := by rw [hw3]; exact (((G0.out.alloc _).alloc _).alloc _).alloc _
  have G1 : Hid (Blk w3 (w.heap.size + 1) [.int .i64 0, .int .i64 0, .int .i64 0, .int .i64 0]) := by rw [hw3]; exact (((G1.out.alloc _).alloc _).alloc _).alloc _
  have G2 : Hid (Blk w3 (w.heap.size + 2) [.int .i64 0, .int .i64 0, .int .i64 0, .int .i64 0, .int .i64 0, .int .i64 0]) := by rw [hw3]; exact (((G2.out.alloc _).alloc _).alloc _).alloc _
  have FS : Hid (SrcT w3 sb w.heap.size a len cap (0 + 200)) := by rw [hw3]; exact (((FS.out.alloc _).alloc _).alloc _).alloc _
  have FK : Hid (Keeps sb w w3) := by rw [hw3]; exact (((FK.out.alloc _).alloc _).alloc _).alloc _
  rw [← hb1] at lG0 lG1 lG2 lFS
  rw [← hw3, ← hb2, ← hb1]
  clear hw3 hb1 hb2
  go_upto_region 4 with (first | (refine load_blk 25 _ Try.underlying25 (by kernel_rfl) F0.out rfl rfl rfl ?_) | (go_at_call 21; refine (l6Spans_t h f1 f2 sb _ a len cap _ _ FS.out (by omega)).mono ?_; rintro e w4 ⟨x, rfl, hs, hk⟩; have G0 : Hid (Blk w4 w.heap.size [.int .i64 0, .int .i64 0, .int .i64 0, .int .i64 0, .int .i64 0, .int .i64 0, .int .i64 0, .int .i64 0, .int .i64 0, .int .i64 0, .int .i64 0, .int .i64 0]) := G0.out.keeps hk (by omega); have G1 : Hid (Blk w4 (w.heap.size + 1) [.int .i64 0, .int .i64 0, .int .i64 0, .int .i64 0]) := G1.out.keeps hk (by omega); have G2 : Hid (Blk w4 (w.heap.size + 2) [.int .i64 0, .int .i64 0, .int .i64 0, .int .i64 0, .int .i64 0, .int .i64 0]) := G2.out.keeps hk (by omega); have F0 : Hid (Blk w4 b1 [.int .i64 h.fl, .int .i64 h.gp, .int .i64 h.ln, .int .i64 h.rf, .int .i64 h.sp, .int .i64 h.pu, .int .i64 h.br, .int .i64 h.dr, .int .i64 h.lv, .int .i64 h.dO, .int .i64 h.ld, .int .i64 h.qu]) := F0.out.keeps hk (by omega); have F1 : Hid (Blk w4 b2 [.int .i64 s.lo.pos, .int .i64 s.lo.vel, .int .i64 s.lo.door, .int .i64 s.up.pos, .int .i64 s.up.vel, .int .i64 s.up.door]) := F1.out.keeps hk (by omega); have FS : Hid (SrcT w4 sb w.heap.size a len cap (0 + 200 + 10)) := hs; have FK : Hid (Keeps sb w w4) := FK.out.trans hk; clear hs hk) | (refine store_new [.int .i64 x.l.lo, .int .i64 x.l.hi, .int .i64 x.u.lo, .int .i64 x.u.hi] 29 _ _ (by kernel_rfl) (by kernel_rfl) (by kernel_rfl) rfl rfl rfl rfl ?_))
  obtain ⟨w5, hw_⟩ : ∃ w5, w5 = w4.alloc (.cells #[.int .i64 x.l.lo, .int .i64 x.l.hi, .int .i64 x.u.lo, .int .i64 x.u.hi] 29) := ⟨_, rfl⟩
  obtain ⟨b3, hb_⟩ : ∃ b3, b3 = w4.heap.size := ⟨_, rfl⟩
  have ln_b3_G0 := G0.out.lt
  have ln_b3_G1 := G1.out.lt
  have ln_b3_G2 := G2.out.lt
  have ln_b3_F0 := F0.out.lt
  have ln_b3_F1 := F1.out.lt
  have ln_b3_s := FS.out.lt
  rw [← hb_] at ln_b3_G0 ln_b3_G1 ln_b3_G2 ln_b3_F0 ln_b3_F1 ln_b3_s
  have G0 : Hid (Blk w5 w.heap.size [.int .i64 0, .int .i64 0, .int .i64 0, .int .i64 0, .int .i64 0, .int .i64 0, .int .i64 0, .int .i64 0, .int .i64 0, .int .i64 0, .int .i64 0, .int .i64 0]) := by rw [hw_]; exact G0.out.alloc _
  have G1 : Hid (Blk w5 (w.heap.size + 1) [.int .i64 0, .int .i64 0, .int .i64 0, .int .i64 0]) := by rw [hw_]; exact G1.out.alloc _
  have G2 : Hid (Blk w5 (w.heap.size + 2) [.int .i64 0, .int .i64 0, .int .i64 0, .int .i64 0, .int .i64 0, .int .i64 0]) := by rw [hw_]; exact G2.out.alloc _
  have F0 : Hid (Blk w5 b1 [.int .i64 h.fl, .int .i64 h.gp, .int .i64 h.ln, .int .i64 h.rf, .int .i64 h.sp, .int .i64 h.pu, .int .i64 h.br, .int .i64 h.dr, .int .i64 h.lv, .int .i64 h.dO, .int .i64 h.ld, .int .i64 h.qu]) := by rw [hw_]; exact F0.out.alloc _
  have F1 : Hid (Blk w5 b2 [.int .i64 s.lo.pos, .int .i64 s.lo.vel, .int .i64 s.lo.door, .int .i64 s.up.pos, .int .i64 s.up.vel, .int .i64 s.up.door]) := by rw [hw_]; exact F1.out.alloc _
  have F2 : Hid (Blk w5 b3 [.int .i64 x.l.lo, .int .i64 x.l.hi, .int .i64 x.u.lo, .int .i64 x.u.hi]) := by rw [hw_]; exact Blk.at_ _ _ _ _ hb_
  have FS : Hid (SrcT w5 sb w.heap.size a len cap (0 + 200 + 10)) := by rw [hw_]; exact FS.out.alloc _
  have FK : Hid (Keeps sb w w5) := by rw [hw_]; exact FK.out.alloc _
  rw [← hw_, ← hb_]
  clear hw_ hb_
  obtain ⟨sa, hsa⟩ : ∃ sa, Hs.sensA h s = sa := ⟨_, rfl⟩
  obtain ⟨su, hsu⟩ : ∃ su, Hs.sensB h s = su := ⟨_, rfl⟩
  have bsa : -2 ≤ sa ∧ sa ≤ 13 := by
    have := Hs.at6_bd HO.out s.lo.pos
    rw [← hsa]; unfold Hs.sensA; (repeat' split) <;> omega
  have bsu : -2 ≤ su ∧ su ≤ 14 := by
    have := Hs.at6_bd HO.out s.lo.pos
    have := Hs.at6_bd HO.out s.up.pos
    rw [← hsu]; unfold Hs.sensB; (repeat' split) <;> omega
  by_cases k : h.shaft s = 0
  · have kz : (h.shaft s == 0) = true := by simpa using k
    go_wp2_with (first | (refine load_blk 25 _ Try.underlying25 (by kernel_rfl) F0.out rfl rfl rfl ?_) | (refine load_blk 40 _ Try.underlying40 (by kernel_rfl) F1.out rfl rfl rfl ?_) | (go_at_call 31; refine (specShaftFault_any h s _).mono ?_; rintro e w6 ⟨rfl, hb⟩; have F0 : Hid (Blk w6 b1 [.int .i64 h.fl, .int .i64 h.gp, .int .i64 h.ln, .int .i64 h.rf, .int .i64 h.sp, .int .i64 h.pu, .int .i64 h.br, .int .i64 h.dr, .int .i64 h.lv, .int .i64 h.dO, .int .i64 h.ld, .int .i64 h.qu]) := F0.out.below hb F0.out.lt; have F1 : Hid (Blk w6 b2 [.int .i64 s.lo.pos, .int .i64 s.lo.vel, .int .i64 s.lo.door, .int .i64 s.up.pos, .int .i64 s.up.vel, .int .i64 s.up.door]) := F1.out.below hb F1.out.lt; have F2 : Hid (Blk w6 b3 [.int .i64 x.l.lo, .int .i64 x.l.hi, .int .i64 x.u.lo, .int .i64 x.u.hi]) := F2.out.below hb F2.out.lt; have G0 : Hid (Blk w6 w.heap.size [.int .i64 0, .int .i64 0, .int .i64 0, .int .i64 0, .int .i64 0, .int .i64 0, .int .i64 0, .int .i64 0, .int .i64 0, .int .i64 0, .int .i64 0, .int .i64 0]) := G0.out.below hb G0.out.lt; have G1 : Hid (Blk w6 (w.heap.size + 1) [.int .i64 0, .int .i64 0, .int .i64 0, .int .i64 0]) := G1.out.below hb G1.out.lt; have G2 : Hid (Blk w6 (w.heap.size + 2) [.int .i64 0, .int .i64 0, .int .i64 0, .int .i64 0, .int .i64 0, .int .i64 0]) := G2.out.below hb G2.out.lt; have FS : Hid (SrcT w6 sb w.heap.size a len cap (0 + 200 + 10)) := FS.out.below hb; have FK : Hid (Keeps sb w w6) := FK.out.of_below hb; clear hb))
    refine (l1Chance_t sb w.heap.size a len cap _ _ _ FS.out (by omega) (by omega) (by omega)).mono ?_
    rintro e w7 ⟨vb, rfl, hs, hk⟩
    have F0 : Hid (Blk w7 b1 [.int .i64 h.fl, .int .i64 h.gp, .int .i64 h.ln, .int .i64 h.rf, .int .i64 h.sp, .int .i64 h.pu, .int .i64 h.br, .int .i64 h.dr, .int .i64 h.lv, .int .i64 h.dO, .int .i64 h.ld, .int .i64 h.qu]) := F0.out.keeps hk (by omega)
    have F1 : Hid (Blk w7 b2 [.int .i64 s.lo.pos, .int .i64 s.lo.vel, .int .i64 s.lo.door, .int .i64 s.up.pos, .int .i64 s.up.vel, .int .i64 s.up.door]) := F1.out.keeps hk (by omega)
    have F2 : Hid (Blk w7 b3 [.int .i64 x.l.lo, .int .i64 x.l.hi, .int .i64 x.u.lo, .int .i64 x.u.hi]) := F2.out.keeps hk (by omega)
    have G0 : Hid (Blk w7 w.heap.size [.int .i64 0, .int .i64 0, .int .i64 0, .int .i64 0, .int .i64 0, .int .i64 0, .int .i64 0, .int .i64 0, .int .i64 0, .int .i64 0, .int .i64 0, .int .i64 0]) := G0.out.keeps hk (by omega)
    have G1 : Hid (Blk w7 (w.heap.size + 1) [.int .i64 0, .int .i64 0, .int .i64 0, .int .i64 0]) := G1.out.keeps hk (by omega)
    have G2 : Hid (Blk w7 (w.heap.size + 2) [.int .i64 0, .int .i64 0, .int .i64 0, .int .i64 0, .int .i64 0, .int .i64 0]) := G2.out.keeps hk (by omega)
    have FS : Hid (SrcT w7 sb w.heap.size a len cap (0 + 200 + 10 + 1)) := hs
    have FK : Hid (Keeps sb w w7) := FK.out.trans hk
    clear hs hk
    cases vb
    · go_upto_region 5 with fail
      have F0 : Hid (Blk w7.drew b1 [.int .i64 h.fl, .int .i64 h.gp, .int .i64 h.ln, .int .i64 h.rf, .int .i64 h.sp, .int .i64 h.pu, .int .i64 h.br, .int .i64 h.dr, .int .i64 h.lv, .int .i64 h.dO, .int .i64 h.ld, .int .i64 h.qu]) := F0.out.below (Below.refl _ _).drew F0.out.lt
      have F1 : Hid (Blk w7.drew b2 [.int .i64 s.lo.pos, .int .i64 s.lo.vel, .int .i64 s.lo.door, .int .i64 s.up.pos, .int .i64 s.up.vel, .int .i64 s.up.door]) := F1.out.below (Below.refl _ _).drew F1.out.lt
      have F2 : Hid (Blk w7.drew b3 [.int .i64 x.l.lo, .int .i64 x.l.hi, .int .i64 x.u.lo, .int .i64 x.u.hi]) := F2.out.below (Below.refl _ _).drew F2.out.lt
      have G0 : Hid (Blk w7.drew w.heap.size [.int .i64 0, .int .i64 0, .int .i64 0, .int .i64 0, .int .i64 0, .int .i64 0, .int .i64 0, .int .i64 0, .int .i64 0, .int .i64 0, .int .i64 0, .int .i64 0]) := G0.out.below (Below.refl _ _).drew G0.out.lt
      have G1 : Hid (Blk w7.drew (w.heap.size + 1) [.int .i64 0, .int .i64 0, .int .i64 0, .int .i64 0]) := G1.out.below (Below.refl _ _).drew G1.out.lt
      have G2 : Hid (Blk w7.drew (w.heap.size + 2) [.int .i64 0, .int .i64 0, .int .i64 0, .int .i64 0, .int .i64 0, .int .i64 0]) := G2.out.below (Below.refl _ _).drew G2.out.lt
      have FS : Hid (SrcT w7.drew sb w.heap.size a len cap (0 + 200 + 10 + 1)) := FS.out.drew
      have FK : Hid (Keeps sb w w7.drew) := FK.out.of_below (Below.refl _ _).drew
      refine wp_region_held_drew (S := (fun w'' => Blk w'' b1 ([.int .i64 h.fl, .int .i64 h.gp, .int .i64 h.ln, .int .i64 h.rf, .int .i64 h.sp, .int .i64 h.pu, .int .i64 h.br, .int .i64 h.dr, .int .i64 h.lv, .int .i64 h.dO, .int .i64 h.ld, .int .i64 h.qu]) ∧ Blk w'' b2 ([.int .i64 s.lo.pos, .int .i64 s.lo.vel, .int .i64 s.lo.door, .int .i64 s.up.pos, .int .i64 s.up.vel, .int .i64 s.up.door]))) (by kernel_rfl) (by (try dsimp only); first | exact ⟨F0.out, F1.out⟩ | go_keep) (fun hHeld => ?_)
      obtain ⟨v_1, hw1⟩ : ∃ v_1, v_1 = w7.drew := ⟨_, rfl⟩
      have F0 : Hid (Blk v_1 b1 [.int .i64 h.fl, .int .i64 h.gp, .int .i64 h.ln, .int .i64 h.rf, .int .i64 h.sp, .int .i64 h.pu, .int .i64 h.br, .int .i64 h.dr, .int .i64 h.lv, .int .i64 h.dO, .int .i64 h.ld, .int .i64 h.qu]) := by rw [hw1]; exact F0.out
      have F1 : Hid (Blk v_1 b2 [.int .i64 s.lo.pos, .int .i64 s.lo.vel, .int .i64 s.lo.door, .int .i64 s.up.pos, .int .i64 s.up.vel, .int .i64 s.up.door]) := by rw [hw1]; exact F1.out
      have F2 : Hid (Blk v_1 b3 [.int .i64 x.l.lo, .int .i64 x.l.hi, .int .i64 x.u.lo, .int .i64 x.u.hi]) := by rw [hw1]; exact F2.out
      have G0 : Hid (Blk v_1 w.heap.size [.int .i64 0, .int .i64 0, .int .i64 0, .int .i64 0, .int .i64 0, .int .i64 0, .int .i64 0, .int .i64 0, .int .i64 0, .int .i64 0, .int .i64 0, .int .i64 0]) := by rw [hw1]; exact G0.out
      have G1 : Hid (Blk v_1 (w.heap.size + 1) [.int .i64 0, .int .i64 0, .int .i64 0, .int .i64 0]) := by rw [hw1]; exact G1.out
      have G2 : Hid (Blk v_1 (w.heap.size + 2) [.int .i64 0, .int .i64 0, .int .i64 0, .int .i64 0, .int .i64 0, .int .i64 0]) := by rw [hw1]; exact G2.out
      have FS : Hid (SrcT v_1 sb w.heap.size a len cap (0 + 200 + 10 + 1)) := by rw [hw1]; exact FS.out
      have FK : Hid (Keeps sb w v_1) := by rw [hw1]; exact FK.out
      rw [← hw1] at hHeld ⊢
      clear hw1
      refine tkz 0 rfl ?_ (hy := Or.inl ⟨by kernel_rfl, fun wx hSw => exec_load_blk 25 _ Try.underlying25 (by kernel_rfl) rfl rfl hSw.1⟩)
      refine tkz 1 rfl ?_ (hy := Or.inl ⟨by kernel_rfl, fun wx hSw => exec_load_blk 40 _ Try.underlying40 (by kernel_rfl) rfl rfl hSw.2⟩)
      refine tkz 3 rfl ?_
      refine tkz 4 rfl ?_
      refine tkz 5 rfl ?_ (hy := Or.inl ⟨by kernel_rfl, by (intro wx hSw; have hq0_0 := hSw.1.c 0 _ rfl; (try dsimp only at hSw); go_simp <;> with_reducible rfl)⟩)
      refine tkz 8 rfl ?_
      refine tkz 9 rfl ?_ (hy := Or.inl ⟨by kernel_rfl, by (intro wx hSw; have hq0_0 := hSw.1.c 0 _ rfl; (try dsimp only at hSw); go_simp <;> with_reducible rfl)⟩)
      refine wpAnyH_ready (rs := [2]) (by kernel_rfl) (by simp) ?_
      refine (AllReadyH.cons rfl (fun K hK => ?_) AllReadyH.nil)
      go_simp
      refine ((l6Sensed_any h HO.out s _).mono (fun _ _ z => by rw [hsa, hsu] at z; exact z)).mono ?_
      rintro e v_2 ⟨rfl, hb⟩
      have F0 : Hid (Blk v_2 b1 [.int .i64 h.fl, .int .i64 h.gp, .int .i64 h.ln, .int .i64 h.rf, .int .i64 h.sp, .int .i64 h.pu, .int .i64 h.br, .int .i64 h.dr, .int .i64 h.lv, .int .i64 h.dO, .int .i64 h.ld, .int .i64 h.qu]) := F0.out.below hb F0.out.lt
      have F1 : Hid (Blk v_2 b2 [.int .i64 s.lo.pos, .int .i64 s.lo.vel, .int .i64 s.lo.door, .int .i64 s.up.pos, .int .i64 s.up.vel, .int .i64 s.up.door]) := F1.out.below hb F1.out.lt
      have F2 : Hid (Blk v_2 b3 [.int .i64 x.l.lo, .int .i64 x.l.hi, .int .i64 x.u.lo, .int .i64 x.u.hi]) := F2.out.below hb F2.out.lt
      have G0 : Hid (Blk v_2 w.heap.size [.int .i64 0, .int .i64 0, .int .i64 0, .int .i64 0, .int .i64 0, .int .i64 0, .int .i64 0, .int .i64 0, .int .i64 0, .int .i64 0, .int .i64 0, .int .i64 0]) := G0.out.below hb G0.out.lt
      have G1 : Hid (Blk v_2 (w.heap.size + 1) [.int .i64 0, .int .i64 0, .int .i64 0, .int .i64 0]) := G1.out.below hb G1.out.lt
      have G2 : Hid (Blk v_2 (w.heap.size + 2) [.int .i64 0, .int .i64 0, .int .i64 0, .int .i64 0, .int .i64 0, .int .i64 0]) := G2.out.below hb G2.out.lt
      have FS : Hid (SrcT v_2 sb w.heap.size a len cap (0 + 200 + 10 + 1)) := FS.out.below hb
      have FK : Hid (Keeps sb w v_2) := FK.out.of_below hb
      clear hb
      try dsimp only
      refine hK.out _ _ (by (try dsimp only); first | exact ⟨F0.out, F1.out⟩ | go_keep) (fun hHeld => ?_)
      clear hK K
      try simp only [Act.put, List.getElem_toArray, List.getElem_cons_succ, List.getElem_cons_zero, List.setIfInBounds_toArray, List.set_cons_zero, List.set_cons_succ]
      refine wpAnyH_ready (rs := [6]) (by kernel_rfl) (by simp) ?_
      refine (AllReadyH.cons rfl (fun K hK => ?_) AllReadyH.nil)
      go_simp
      refine (l1Next_t sb w.heap.size a len cap _ _ _ FS.out (by omega) (by omega) (by omega)).mono ?_
      rintro e v_3 ⟨v0, rfl, hv0, hs, hk⟩
      have F0 : Hid (Blk v_3 b1 [.int .i64 h.fl, .int .i64 h.gp, .int .i64 h.ln, .int .i64 h.rf, .int .i64 h.sp, .int .i64 h.pu, .int .i64 h.br, .int .i64 h.dr, .int .i64 h.lv, .int .i64 h.dO, .int .i64 h.ld, .int .i64 h.qu]) := F0.out.keeps hk (by omega)
      have F1 : Hid (Blk v_3 b2 [.int .i64 s.lo.pos, .int .i64 s.lo.vel, .int .i64 s.lo.door, .int .i64 s.up.pos, .int .i64 s.up.vel, .int .i64 s.up.door]) := F1.out.keeps hk (by omega)
      have F2 : Hid (Blk v_3 b3 [.int .i64 x.l.lo, .int .i64 x.l.hi, .int .i64 x.u.lo, .int .i64 x.u.hi]) := F2.out.keeps hk (by omega)
      have G0 : Hid (Blk v_3 w.heap.size [.int .i64 0, .int .i64 0, .int .i64 0, .int .i64 0, .int .i64 0, .int .i64 0, .int .i64 0, .int .i64 0, .int .i64 0, .int .i64 0, .int .i64 0, .int .i64 0]) := G0.out.keeps hk (by omega)
      have G1 : Hid (Blk v_3 (w.heap.size + 1) [.int .i64 0, .int .i64 0, .int .i64 0, .int .i64 0]) := G1.out.keeps hk (by omega)
      have G2 : Hid (Blk v_3 (w.heap.size + 2) [.int .i64 0, .int .i64 0, .int .i64 0, .int .i64 0, .int .i64 0, .int .i64 0]) := G2.out.keeps hk (by omega)
      have FS : Hid (SrcT v_3 sb w.heap.size a len cap ((0 + 200 + 10 + 1) + 1)) := hs
      have FK : Hid (Keeps sb w v_3) := FK.out.trans hk
      clear hs hk
      obtain ⟨xg, hxg⟩ : ∃ xg : Int, IntKind.i64.wrap ((v0 : Int) - 1) = xg := ⟨_, rfl⟩
      have bxg : -1 ≤ xg ∧ xg ≤ 12 := by rw [← hxg, IntWalk.i64_in _ (by omega)]; omega
      try dsimp only
      refine hK.out _ _ (by (try dsimp only); first | exact ⟨F0.out, F1.out⟩ | go_keep) (fun hHeld => ?_)
      clear hK K
      try simp only [Act.put, List.getElem_toArray, List.getElem_cons_succ, List.getElem_cons_zero, List.setIfInBounds_toArray, List.set_cons_zero, List.set_cons_succ]
      refine tkz 7 rfl ?_
      refine wpAnyH_ready (rs := [10]) (by kernel_rfl) (by simp) ?_
      refine (AllReadyH.cons rfl (fun K hK => ?_) AllReadyH.nil)
      go_simp
      refine (l6Extend_any ⟨⟨sa, sa⟩, ⟨su, su⟩⟩ xg h.fl (by dsimp only; omega) (by dsimp only; omega) (by dsimp only; omega) (by dsimp only; omega) (by omega) (by omega) _ rfl _).mono ?_
      rintro e v_4 ⟨rfl, hb⟩
      have F0 : Hid (Blk v_4 b1 [.int .i64 h.fl, .int .i64 h.gp, .int .i64 h.ln, .int .i64 h.rf, .int .i64 h.sp, .int .i64 h.pu, .int .i64 h.br, .int .i64 h.dr, .int .i64 h.lv, .int .i64 h.dO, .int .i64 h.ld, .int .i64 h.qu]) := F0.out.below hb F0.out.lt
      have F1 : Hid (Blk v_4 b2 [.int .i64 s.lo.pos, .int .i64 s.lo.vel, .int .i64 s.lo.door, .int .i64 s.up.pos, .int .i64 s.up.vel, .int .i64 s.up.door]) := F1.out.below hb F1.out.lt
      have F2 : Hid (Blk v_4 b3 [.int .i64 x.l.lo, .int .i64 x.l.hi, .int .i64 x.u.lo, .int .i64 x.u.hi]) := F2.out.below hb F2.out.lt
      have G0 : Hid (Blk v_4 w.heap.size [.int .i64 0, .int .i64 0, .int .i64 0, .int .i64 0, .int .i64 0, .int .i64 0, .int .i64 0, .int .i64 0, .int .i64 0, .int .i64 0, .int .i64 0, .int .i64 0]) := G0.out.below hb G0.out.lt
      have G1 : Hid (Blk v_4 (w.heap.size + 1) [.int .i64 0, .int .i64 0, .int .i64 0, .int .i64 0]) := G1.out.below hb G1.out.lt
      have G2 : Hid (Blk v_4 (w.heap.size + 2) [.int .i64 0, .int .i64 0, .int .i64 0, .int .i64 0, .int .i64 0, .int .i64 0]) := G2.out.below hb G2.out.lt
      have FS : Hid (SrcT v_4 sb w.heap.size a len cap ((0 + 200 + 10 + 1) + 1)) := FS.out.below hb
      have FK : Hid (Keeps sb w v_4) := FK.out.of_below hb
      clear hb
      try dsimp only
      refine hK.out _ _ (by (try dsimp only); first | exact ⟨F0.out, F1.out⟩ | go_keep) (fun hHeld => ?_)
      clear hK K
      try simp only [Act.put, List.getElem_toArray, List.getElem_cons_succ, List.getElem_cons_zero, List.setIfInBounds_toArray, List.set_cons_zero, List.set_cons_succ]
      refine wpAnyH_ready (rs := [11]) (by kernel_rfl) (by simp) ?_
      refine (AllReadyH.cons rfl (fun K hK => ?_) AllReadyH.nil)
      have c0_ := F2.out.c 0 _ rfl
      have c1_ := F2.out.c 1 _ rfl
      have c2_ := F2.out.c 2 _ rfl
      have c3_ := F2.out.c 3 _ rfl
      have q0_ := F2.out.f 0 (Nat.le_of_ble_eq_true rfl)
      have q1_ := F2.out.f 1 (Nat.le_of_ble_eq_true rfl)
      have q2_ := F2.out.f 2 (Nat.le_of_ble_eq_true rfl)
      have q3_ := F2.out.f 3 (Nat.le_of_ble_eq_true rfl)
      go_simp
      obtain ⟨v_5, hw2⟩ : ∃ v_5, v_5 = putB v_4 b3 0 [.int .i64 (extS ⟨⟨sa, sa⟩, ⟨su, su⟩⟩ xg h.fl).l.lo, .int .i64 (extS ⟨⟨sa, sa⟩, ⟨su, su⟩⟩ xg h.fl).l.hi, .int .i64 (extS ⟨⟨sa, sa⟩, ⟨su, su⟩⟩ xg h.fl).u.lo, .int .i64 (extS ⟨⟨sa, sa⟩, ⟨su, su⟩⟩ xg h.fl).u.hi] := ⟨_, rfl⟩
      change K _ (putB v_4 b3 0 [.int .i64 (extS ⟨⟨sa, sa⟩, ⟨su, su⟩⟩ xg h.fl).l.lo, .int .i64 (extS ⟨⟨sa, sa⟩, ⟨su, su⟩⟩ xg h.fl).l.hi, .int .i64 (extS ⟨⟨sa, sa⟩, ⟨su, su⟩⟩ xg h.fl).u.lo, .int .i64 (extS ⟨⟨sa, sa⟩, ⟨su, su⟩⟩ xg h.fl).u.hi])
      rw [← hw2]
      clear c0_ c1_ c2_ c3_ q0_ q1_ q2_ q3_
      have F0 : Hid (Blk v_5 b1 [.int .i64 h.fl, .int .i64 h.gp, .int .i64 h.ln, .int .i64 h.rf, .int .i64 h.sp, .int .i64 h.pu, .int .i64 h.br, .int .i64 h.dr, .int .i64 h.lv, .int .i64 h.dO, .int .i64 h.ld, .int .i64 h.qu]) := by rw [hw2]; exact Blk.putB_other (by omega) _ _ F0.out
      have F1 : Hid (Blk v_5 b2 [.int .i64 s.lo.pos, .int .i64 s.lo.vel, .int .i64 s.lo.door, .int .i64 s.up.pos, .int .i64 s.up.vel, .int .i64 s.up.door]) := by rw [hw2]; exact Blk.putB_other (by omega) _ _ F1.out
      have F2 : Hid (Blk v_5 b3 [.int .i64 (extS ⟨⟨sa, sa⟩, ⟨su, su⟩⟩ xg h.fl).l.lo, .int .i64 (extS ⟨⟨sa, sa⟩, ⟨su, su⟩⟩ xg h.fl).l.hi, .int .i64 (extS ⟨⟨sa, sa⟩, ⟨su, su⟩⟩ xg h.fl).u.lo, .int .i64 (extS ⟨⟨sa, sa⟩, ⟨su, su⟩⟩ xg h.fl).u.hi]) := by rw [hw2]; exact F2.out.put _ rfl
      have G0 : Hid (Blk v_5 w.heap.size [.int .i64 0, .int .i64 0, .int .i64 0, .int .i64 0, .int .i64 0, .int .i64 0, .int .i64 0, .int .i64 0, .int .i64 0, .int .i64 0, .int .i64 0, .int .i64 0]) := by rw [hw2]; exact Blk.putB_other (by omega) _ _ G0.out
      have G1 : Hid (Blk v_5 (w.heap.size + 1) [.int .i64 0, .int .i64 0, .int .i64 0, .int .i64 0]) := by rw [hw2]; exact Blk.putB_other (by omega) _ _ G1.out
      have G2 : Hid (Blk v_5 (w.heap.size + 2) [.int .i64 0, .int .i64 0, .int .i64 0, .int .i64 0, .int .i64 0, .int .i64 0]) := by rw [hw2]; exact Blk.putB_other (by omega) _ _ G2.out
      have FK : Hid (Keeps sb w v_5) := by rw [hw2]; exact FK.out.blw (below_putB (Below.refl w.heap.size _) (by omega) _ _) (Nat.le_refl _)
      clear hw2
      refine hK.out _ _ (by (try dsimp only); first | exact ⟨F0.out, F1.out⟩ | go_keep) (fun hHeld => ?_)
      clear hK K
      try simp only [Act.put, List.getElem_toArray, List.getElem_cons_succ, List.getElem_cons_zero, List.setIfInBounds_toArray, List.set_cons_zero, List.set_cons_succ]
      refine wpAnyH_done (by kernel_rfl) ?_ _
      obtain ⟨y, hy⟩ : ∃ y, (extS ⟨⟨sa, sa⟩, ⟨su, su⟩⟩ xg h.fl) = y := ⟨_, rfl⟩
      rw [hy] at F2
      clear hy
      obtain ⟨w9, hw9⟩ : ∃ w9, w9 = v_5 := ⟨_, rfl⟩
      subst hw9
      go_upto_region 6 with fail
      have F0 : Hid (Blk w9.drew b1 [.int .i64 h.fl, .int .i64 h.gp, .int .i64 h.ln, .int .i64 h.rf, .int .i64 h.sp, .int .i64 h.pu, .int .i64 h.br, .int .i64 h.dr, .int .i64 h.lv, .int .i64 h.dO, .int .i64 h.ld, .int .i64 h.qu]) := F0.out.below (Below.refl _ _).drew F0.out.lt
      have F1 : Hid (Blk w9.drew b2 [.int .i64 s.lo.pos, .int .i64 s.lo.vel, .int .i64 s.lo.door, .int .i64 s.up.pos, .int .i64 s.up.vel, .int .i64 s.up.door]) := F1.out.below (Below.refl _ _).drew F1.out.lt
      have F2 : Hid (Blk w9.drew b3 [.int .i64 y.l.lo, .int .i64 y.l.hi, .int .i64 y.u.lo, .int .i64 y.u.hi]) := F2.out.below (Below.refl _ _).drew F2.out.lt
      have G0 : Hid (Blk w9.drew w.heap.size [.int .i64 0, .int .i64 0, .int .i64 0, .int .i64 0, .int .i64 0, .int .i64 0, .int .i64 0, .int .i64 0, .int .i64 0, .int .i64 0, .int .i64 0, .int .i64 0]) := G0.out.below (Below.refl _ _).drew G0.out.lt
      have G1 : Hid (Blk w9.drew (w.heap.size + 1) [.int .i64 0, .int .i64 0, .int .i64 0, .int .i64 0]) := G1.out.below (Below.refl _ _).drew G1.out.lt
      have G2 : Hid (Blk w9.drew (w.heap.size + 2) [.int .i64 0, .int .i64 0, .int .i64 0, .int .i64 0, .int .i64 0, .int .i64 0]) := G2.out.below (Below.refl _ _).drew G2.out.lt
      have FK : Hid (Keeps sb w w9.drew) := FK.out.of_below (Below.refl _ _).drew
      refine wp_region_held_drew (S := (fun w'' => Blk w'' b1 ([.int .i64 h.fl, .int .i64 h.gp, .int .i64 h.ln, .int .i64 h.rf, .int .i64 h.sp, .int .i64 h.pu, .int .i64 h.br, .int .i64 h.dr, .int .i64 h.lv, .int .i64 h.dO, .int .i64 h.ld, .int .i64 h.qu]) ∧ Blk w'' b3 ([.int .i64 y.l.lo, .int .i64 y.l.hi, .int .i64 y.u.lo, .int .i64 y.u.hi]) ∧ Blk w'' b2 ([.int .i64 s.lo.pos, .int .i64 s.lo.vel, .int .i64 s.lo.door, .int .i64 s.up.pos, .int .i64 s.up.vel, .int .i64 s.up.door]))) (by kernel_rfl) (by (try dsimp only); first | exact ⟨F0.out, F2.out, F1.out⟩ | go_keep) (fun hHeld => ?_)
      obtain ⟨v_6, hw1⟩ : ∃ v_6, v_6 = w9.drew := ⟨_, rfl⟩
      have F0 : Hid (Blk v_6 b1 [.int .i64 h.fl, .int .i64 h.gp, .int .i64 h.ln, .int .i64 h.rf, .int .i64 h.sp, .int .i64 h.pu, .int .i64 h.br, .int .i64 h.dr, .int .i64 h.lv, .int .i64 h.dO, .int .i64 h.ld, .int .i64 h.qu]) := by rw [hw1]; exact F0.out
      have F1 : Hid (Blk v_6 b2 [.int .i64 s.lo.pos, .int .i64 s.lo.vel, .int .i64 s.lo.door, .int .i64 s.up.pos, .int .i64 s.up.vel, .int .i64 s.up.door]) := by rw [hw1]; exact F1.out
      have F2 : Hid (Blk v_6 b3 [.int .i64 y.l.lo, .int .i64 y.l.hi, .int .i64 y.u.lo, .int .i64 y.u.hi]) := by rw [hw1]; exact F2.out
      have G0 : Hid (Blk v_6 w.heap.size [.int .i64 0, .int .i64 0, .int .i64 0, .int .i64 0, .int .i64 0, .int .i64 0, .int .i64 0, .int .i64 0, .int .i64 0, .int .i64 0, .int .i64 0, .int .i64 0]) := by rw [hw1]; exact G0.out
      have G1 : Hid (Blk v_6 (w.heap.size + 1) [.int .i64 0, .int .i64 0, .int .i64 0, .int .i64 0]) := by rw [hw1]; exact G1.out
      have G2 : Hid (Blk v_6 (w.heap.size + 2) [.int .i64 0, .int .i64 0, .int .i64 0, .int .i64 0, .int .i64 0, .int .i64 0]) := by rw [hw1]; exact G2.out
      have FK : Hid (Keeps sb w v_6) := by rw [hw1]; exact FK.out
      rw [← hw1] at hHeld ⊢
      clear hw1
      refine tkz 0 rfl ?_ (hy := Or.inl ⟨by kernel_rfl, fun wx hSw => exec_load_blk 25 _ Try.underlying25 (by kernel_rfl) rfl rfl hSw.1⟩)
      refine tkz 1 rfl ?_ (hy := Or.inl ⟨by kernel_rfl, fun wx hSw => exec_load_blk 29 _ Try.underlying29 (by kernel_rfl) rfl rfl hSw.2.1⟩)
      refine tkz 2 rfl ?_ (hy := Or.inl ⟨by kernel_rfl, fun wx hSw => exec_load_blk 40 _ Try.underlying40 (by kernel_rfl) rfl rfl hSw.2.2⟩)
      refine wpAnyH_ready (rs := [3]) (by kernel_rfl) (by simp) ?_
      refine (AllReadyH.cons rfl (fun K hK => ?_) AllReadyH.nil)
      have c0_ := G0.out.c 0 _ rfl
      have c1_ := G0.out.c 1 _ rfl
      have c2_ := G0.out.c 2 _ rfl
      have c3_ := G0.out.c 3 _ rfl
      have c4_ := G0.out.c 4 _ rfl
      have c5_ := G0.out.c 5 _ rfl
      have c6_ := G0.out.c 6 _ rfl
      have c7_ := G0.out.c 7 _ rfl
      have c8_ := G0.out.c 8 _ rfl
      have c9_ := G0.out.c 9 _ rfl
      have c10_ := G0.out.c 10 _ rfl
      have c11_ := G0.out.c 11 _ rfl
      have q0_ := G0.out.f 0 (Nat.le_of_ble_eq_true rfl)
      have q1_ := G0.out.f 1 (Nat.le_of_ble_eq_true rfl)
      have q2_ := G0.out.f 2 (Nat.le_of_ble_eq_true rfl)
      have q3_ := G0.out.f 3 (Nat.le_of_ble_eq_true rfl)
      have q4_ := G0.out.f 4 (Nat.le_of_ble_eq_true rfl)
      have q5_ := G0.out.f 5 (Nat.le_of_ble_eq_true rfl)
      have q6_ := G0.out.f 6 (Nat.le_of_ble_eq_true rfl)
      have q7_ := G0.out.f 7 (Nat.le_of_ble_eq_true rfl)
      have q8_ := G0.out.f 8 (Nat.le_of_ble_eq_true rfl)
      have q9_ := G0.out.f 9 (Nat.le_of_ble_eq_true rfl)
      have q10_ := G0.out.f 10 (Nat.le_of_ble_eq_true rfl)
      have q11_ := G0.out.f 11 (Nat.le_of_ble_eq_true rfl)
      go_simp
      obtain ⟨v_7, hw2⟩ : ∃ v_7, v_7 = putB v_6 w.heap.size 0 [.int .i64 h.fl, .int .i64 h.gp, .int .i64 h.ln, .int .i64 h.rf, .int .i64 h.sp, .int .i64 h.pu, .int .i64 h.br, .int .i64 h.dr, .int .i64 h.lv, .int .i64 h.dO, .int .i64 h.ld, .int .i64 h.qu] := ⟨_, rfl⟩
      change K _ (putB v_6 w.heap.size 0 [.int .i64 h.fl, .int .i64 h.gp, .int .i64 h.ln, .int .i64 h.rf, .int .i64 h.sp, .int .i64 h.pu, .int .i64 h.br, .int .i64 h.dr, .int .i64 h.lv, .int .i64 h.dO, .int .i64 h.ld, .int .i64 h.qu])
      rw [← hw2]
      clear c0_ q0_ c1_ q1_ c2_ q2_ c3_ q3_ c4_ q4_ c5_ q5_ c6_ q6_ c7_ q7_ c8_ q8_ c9_ q9_ c10_ q10_ c11_ q11_
      have F0 : Hid (Blk v_7 b1 [.int .i64 h.fl, .int .i64 h.gp, .int .i64 h.ln, .int .i64 h.rf, .int .i64 h.sp, .int .i64 h.pu, .int .i64 h.br, .int .i64 h.dr, .int .i64 h.lv, .int .i64 h.dO, .int .i64 h.ld, .int .i64 h.qu]) := by rw [hw2]; exact Blk.putB_other (by omega) _ _ F0.out
      have F1 : Hid (Blk v_7 b2 [.int .i64 s.lo.pos, .int .i64 s.lo.vel, .int .i64 s.lo.door, .int .i64 s.up.pos, .int .i64 s.up.vel, .int .i64 s.up.door]) := by rw [hw2]; exact Blk.putB_other (by omega) _ _ F1.out
      have F2 : Hid (Blk v_7 b3 [.int .i64 y.l.lo, .int .i64 y.l.hi, .int .i64 y.u.lo, .int .i64 y.u.hi]) := by rw [hw2]; exact Blk.putB_other (by omega) _ _ F2.out
      have G0 : Hid (Blk v_7 w.heap.size [.int .i64 h.fl, .int .i64 h.gp, .int .i64 h.ln, .int .i64 h.rf, .int .i64 h.sp, .int .i64 h.pu, .int .i64 h.br, .int .i64 h.dr, .int .i64 h.lv, .int .i64 h.dO, .int .i64 h.ld, .int .i64 h.qu]) := by rw [hw2]; exact G0.out.put _ rfl
      have G1 : Hid (Blk v_7 (w.heap.size + 1) [.int .i64 0, .int .i64 0, .int .i64 0, .int .i64 0]) := by rw [hw2]; exact Blk.putB_other (by omega) _ _ G1.out
      have G2 : Hid (Blk v_7 (w.heap.size + 2) [.int .i64 0, .int .i64 0, .int .i64 0, .int .i64 0, .int .i64 0, .int .i64 0]) := by rw [hw2]; exact Blk.putB_other (by omega) _ _ G2.out
      have FK : Hid (Keeps sb w v_7) := by rw [hw2]; exact FK.out.blw (below_putB (Below.refl w.heap.size _) (by omega) _ _) (Nat.le_refl _)
      clear hw2
      refine hK.out _ _ (by (try dsimp only); first | exact ⟨F0.out, F2.out, F1.out⟩ | go_keep) (fun hHeld => ?_)
      clear hK K
      try simp only [Act.put, List.getElem_toArray, List.getElem_cons_succ, List.getElem_cons_zero, List.setIfInBounds_toArray, List.set_cons_zero, List.set_cons_succ]
      refine wpAnyH_ready (rs := [4]) (by kernel_rfl) (by simp) ?_
      refine (AllReadyH.cons rfl (fun K hK => ?_) AllReadyH.nil)
      have c0_ := G1.out.c 0 _ rfl
      have c1_ := G1.out.c 1 _ rfl
      have c2_ := G1.out.c 2 _ rfl
      have c3_ := G1.out.c 3 _ rfl
      have q0_ := G1.out.f 0 (Nat.le_of_ble_eq_true rfl)
      have q1_ := G1.out.f 1 (Nat.le_of_ble_eq_true rfl)
      have q2_ := G1.out.f 2 (Nat.le_of_ble_eq_true rfl)
      have q3_ := G1.out.f 3 (Nat.le_of_ble_eq_true rfl)
      go_simp
      obtain ⟨v_8, hw2⟩ : ∃ v_8, v_8 = putB v_7 (w.heap.size + 1) 0 [.int .i64 y.l.lo, .int .i64 y.l.hi, .int .i64 y.u.lo, .int .i64 y.u.hi] := ⟨_, rfl⟩
      change K _ (putB v_7 (w.heap.size + 1) 0 [.int .i64 y.l.lo, .int .i64 y.l.hi, .int .i64 y.u.lo, .int .i64 y.u.hi])
      rw [← hw2]
      clear c0_ q0_ c1_ q1_ c2_ q2_ c3_ q3_
      have F0 : Hid (Blk v_8 b1 [.int .i64 h.fl, .int .i64 h.gp, .int .i64 h.ln, .int .i64 h.rf, .int .i64 h.sp, .int .i64 h.pu, .int .i64 h.br, .int .i64 h.dr, .int .i64 h.lv, .int .i64 h.dO, .int .i64 h.ld, .int .i64 h.qu]) := by rw [hw2]; exact Blk.putB_other (by omega) _ _ F0.out
      have F1 : Hid (Blk v_8 b2 [.int .i64 s.lo.pos, .int .i64 s.lo.vel, .int .i64 s.lo.door, .int .i64 s.up.pos, .int .i64 s.up.vel, .int .i64 s.up.door]) := by rw [hw2]; exact Blk.putB_other (by omega) _ _ F1.out
      have F2 : Hid (Blk v_8 b3 [.int .i64 y.l.lo, .int .i64 y.l.hi, .int .i64 y.u.lo, .int .i64 y.u.hi]) := by rw [hw2]; exact Blk.putB_other (by omega) _ _ F2.out
      have G0 : Hid (Blk v_8 w.heap.size [.int .i64 h.fl, .int .i64 h.gp, .int .i64 h.ln, .int .i64 h.rf, .int .i64 h.sp, .int .i64 h.pu, .int .i64 h.br, .int .i64 h.dr, .int .i64 h.lv, .int .i64 h.dO, .int .i64 h.ld, .int .i64 h.qu]) := by rw [hw2]; exact Blk.putB_other (by omega) _ _ G0.out
      have G1 : Hid (Blk v_8 (w.heap.size + 1) [.int .i64 y.l.lo, .int .i64 y.l.hi, .int .i64 y.u.lo, .int .i64 y.u.hi]) := by rw [hw2]; exact G1.out.put _ rfl
      have G2 : Hid (Blk v_8 (w.heap.size + 2) [.int .i64 0, .int .i64 0, .int .i64 0, .int .i64 0, .int .i64 0, .int .i64 0]) := by rw [hw2]; exact Blk.putB_other (by omega) _ _ G2.out
      have FK : Hid (Keeps sb w v_8) := by rw [hw2]; exact FK.out.blw (below_putB (Below.refl w.heap.size _) (by omega) _ _) (Nat.le_refl _)
      clear hw2
      refine hK.out _ _ (by (try dsimp only); first | exact ⟨F0.out, F2.out, F1.out⟩ | go_keep) (fun hHeld => ?_)
      clear hK K
      try simp only [Act.put, List.getElem_toArray, List.getElem_cons_succ, List.getElem_cons_zero, List.setIfInBounds_toArray, List.set_cons_zero, List.set_cons_succ]
      refine wpAnyH_ready (rs := [5]) (by kernel_rfl) (by simp) ?_
      refine (AllReadyH.cons rfl (fun K hK => ?_) AllReadyH.nil)
      have c0_ := G2.out.c 0 _ rfl
      have c1_ := G2.out.c 1 _ rfl
      have c2_ := G2.out.c 2 _ rfl
      have c3_ := G2.out.c 3 _ rfl
      have c4_ := G2.out.c 4 _ rfl
      have c5_ := G2.out.c 5 _ rfl
      have q0_ := G2.out.f 0 (Nat.le_of_ble_eq_true rfl)
      have q1_ := G2.out.f 1 (Nat.le_of_ble_eq_true rfl)
      have q2_ := G2.out.f 2 (Nat.le_of_ble_eq_true rfl)
      have q3_ := G2.out.f 3 (Nat.le_of_ble_eq_true rfl)
      have q4_ := G2.out.f 4 (Nat.le_of_ble_eq_true rfl)
      have q5_ := G2.out.f 5 (Nat.le_of_ble_eq_true rfl)
      go_simp
      obtain ⟨v_9, hw2⟩ : ∃ v_9, v_9 = putB v_8 (w.heap.size + 2) 0 [.int .i64 s.lo.pos, .int .i64 s.lo.vel, .int .i64 s.lo.door, .int .i64 s.up.pos, .int .i64 s.up.vel, .int .i64 s.up.door] := ⟨_, rfl⟩
      change K _ (putB v_8 (w.heap.size + 2) 0 [.int .i64 s.lo.pos, .int .i64 s.lo.vel, .int .i64 s.lo.door, .int .i64 s.up.pos, .int .i64 s.up.vel, .int .i64 s.up.door])
      rw [← hw2]
      clear c0_ q0_ c1_ q1_ c2_ q2_ c3_ q3_ c4_ q4_ c5_ q5_
      have F0 : Hid (Blk v_9 b1 [.int .i64 h.fl, .int .i64 h.gp, .int .i64 h.ln, .int .i64 h.rf, .int .i64 h.sp, .int .i64 h.pu, .int .i64 h.br, .int .i64 h.dr, .int .i64 h.lv, .int .i64 h.dO, .int .i64 h.ld, .int .i64 h.qu]) := by rw [hw2]; exact Blk.putB_other (by omega) _ _ F0.out
      have F1 : Hid (Blk v_9 b2 [.int .i64 s.lo.pos, .int .i64 s.lo.vel, .int .i64 s.lo.door, .int .i64 s.up.pos, .int .i64 s.up.vel, .int .i64 s.up.door]) := by rw [hw2]; exact Blk.putB_other (by omega) _ _ F1.out
      have F2 : Hid (Blk v_9 b3 [.int .i64 y.l.lo, .int .i64 y.l.hi, .int .i64 y.u.lo, .int .i64 y.u.hi]) := by rw [hw2]; exact Blk.putB_other (by omega) _ _ F2.out
      have G0 : Hid (Blk v_9 w.heap.size [.int .i64 h.fl, .int .i64 h.gp, .int .i64 h.ln, .int .i64 h.rf, .int .i64 h.sp, .int .i64 h.pu, .int .i64 h.br, .int .i64 h.dr, .int .i64 h.lv, .int .i64 h.dO, .int .i64 h.ld, .int .i64 h.qu]) := by rw [hw2]; exact Blk.putB_other (by omega) _ _ G0.out
      have G1 : Hid (Blk v_9 (w.heap.size + 1) [.int .i64 y.l.lo, .int .i64 y.l.hi, .int .i64 y.u.lo, .int .i64 y.u.hi]) := by rw [hw2]; exact Blk.putB_other (by omega) _ _ G1.out
      have G2 : Hid (Blk v_9 (w.heap.size + 2) [.int .i64 s.lo.pos, .int .i64 s.lo.vel, .int .i64 s.lo.door, .int .i64 s.up.pos, .int .i64 s.up.vel, .int .i64 s.up.door]) := by rw [hw2]; exact G2.out.put _ rfl
      have FK : Hid (Keeps sb w v_9) := by rw [hw2]; exact FK.out.blw (below_putB (Below.refl w.heap.size _) (by omega) _ _) (Nat.le_refl _)
      clear hw2
      refine hK.out _ _ (by (try dsimp only); first | exact ⟨F0.out, F2.out, F1.out⟩ | go_keep) (fun hHeld => ?_)
      clear hK K
      try simp only [Act.put, List.getElem_toArray, List.getElem_cons_succ, List.getElem_cons_zero, List.setIfInBounds_toArray, List.set_cons_zero, List.set_cons_succ]
      refine wpAnyH_done (by kernel_rfl) ?_ _
      have d0_ := G0.out.c 0 _ rfl
      have d1_ := G0.out.c 1 _ rfl
      have d2_ := G0.out.c 2 _ rfl
      have d3_ := G0.out.c 3 _ rfl
      have d4_ := G0.out.c 4 _ rfl
      have d5_ := G0.out.c 5 _ rfl
      have d6_ := G0.out.c 6 _ rfl
      have d7_ := G0.out.c 7 _ rfl
      have d8_ := G0.out.c 8 _ rfl
      have d9_ := G0.out.c 9 _ rfl
      have d10_ := G0.out.c 10 _ rfl
      have d11_ := G0.out.c 11 _ rfl
      have k0_ := G1.out.c 0 _ rfl
      have k1_ := G1.out.c 1 _ rfl
      have k2_ := G1.out.c 2 _ rfl
      have k3_ := G1.out.c 3 _ rfl
      have m0_ := G2.out.c 0 _ rfl
      have m1_ := G2.out.c 1 _ rfl
      have m2_ := G2.out.c 2 _ rfl
      have m3_ := G2.out.c 3 _ rfl
      have m4_ := G2.out.c 4 _ rfl
      have m5_ := G2.out.c 5 _ rfl
      go_wp2_with fail
      exact bodyPost_ret (v := .tuple #[.agg #[.int .i64 h.fl, .int .i64 h.gp, .int .i64 h.ln, .int .i64 h.rf, .int .i64 h.sp, .int .i64 h.pu, .int .i64 h.br, .int .i64 h.dr, .int .i64 h.lv, .int .i64 h.dO, .int .i64 h.ld, .int .i64 h.qu], .agg #[.int .i64 y.l.lo, .int .i64 y.l.hi, .int .i64 y.u.lo, .int .i64 y.u.hi], .agg #[.int .i64 s.lo.pos, .int .i64 s.lo.vel, .int .i64 s.lo.door, .int .i64 s.up.pos, .int .i64 s.up.vel, .int .i64 s.up.door]]) (by simp [results, Try.results12, go_sem, d0_, d1_, d2_, d3_, d4_, d5_, d6_, d7_, d8_, d9_, d10_, d11_, k0_, k1_, k2_, k3_, m0_, m1_, m2_, m3_, m4_, m5_]) rfl ⟨h, y, s, rfl, FK.out.below (by omega) (Nat.le_refl _)⟩
    · obtain ⟨y, hy⟩ : ∃ y, y = x := ⟨_, rfl⟩
      subst hy
      go_upto_region 6 with fail
      have F0 : Hid (Blk w7.drew b1 [.int .i64 h.fl, .int .i64 h.gp, .int .i64 h.ln, .int .i64 h.rf, .int .i64 h.sp, .int .i64 h.pu, .int .i64 h.br, .int .i64 h.dr, .int .i64 h.lv, .int .i64 h.dO, .int .i64 h.ld, .int .i64 h.qu]) := F0.out.below (Below.refl _ _).drew F0.out.lt
      have F1 : Hid (Blk w7.drew b2 [.int .i64 s.lo.pos, .int .i64 s.lo.vel, .int .i64 s.lo.door, .int .i64 s.up.pos, .int .i64 s.up.vel, .int .i64 s.up.door]) := F1.out.below (Below.refl _ _).drew F1.out.lt
      have F2 : Hid (Blk w7.drew b3 [.int .i64 y.l.lo, .int .i64 y.l.hi, .int .i64 y.u.lo, .int .i64 y.u.hi]) := F2.out.below (Below.refl _ _).drew F2.out.lt
      have G0 : Hid (Blk w7.drew w.heap.size [.int .i64 0, .int .i64 0, .int .i64 0, .int .i64 0, .int .i64 0, .int .i64 0, .int .i64 0, .int .i64 0, .int .i64 0, .int .i64 0, .int .i64 0, .int .i64 0]) := G0.out.below (Below.refl _ _).drew G0.out.lt
      have G1 : Hid (Blk w7.drew (w.heap.size + 1) [.int .i64 0, .int .i64 0, .int .i64 0, .int .i64 0]) := G1.out.below (Below.refl _ _).drew G1.out.lt
      have G2 : Hid (Blk w7.drew (w.heap.size + 2) [.int .i64 0, .int .i64 0, .int .i64 0, .int .i64 0, .int .i64 0, .int .i64 0]) := G2.out.below (Below.refl _ _).drew G2.out.lt
      have FK : Hid (Keeps sb w w7.drew) := FK.out.of_below (Below.refl _ _).drew
      refine wp_region_held_drew (S := (fun w'' => Blk w'' b1 ([.int .i64 h.fl, .int .i64 h.gp, .int .i64 h.ln, .int .i64 h.rf, .int .i64 h.sp, .int .i64 h.pu, .int .i64 h.br, .int .i64 h.dr, .int .i64 h.lv, .int .i64 h.dO, .int .i64 h.ld, .int .i64 h.qu]) ∧ Blk w'' b3 ([.int .i64 y.l.lo, .int .i64 y.l.hi, .int .i64 y.u.lo, .int .i64 y.u.hi]) ∧ Blk w'' b2 ([.int .i64 s.lo.pos, .int .i64 s.lo.vel, .int .i64 s.lo.door, .int .i64 s.up.pos, .int .i64 s.up.vel, .int .i64 s.up.door]))) (by kernel_rfl) (by (try dsimp only); first | exact ⟨F0.out, F2.out, F1.out⟩ | go_keep) (fun hHeld => ?_)
      obtain ⟨v_10, hw1⟩ : ∃ v_10, v_10 = w7.drew := ⟨_, rfl⟩
      have F0 : Hid (Blk v_10 b1 [.int .i64 h.fl, .int .i64 h.gp, .int .i64 h.ln, .int .i64 h.rf, .int .i64 h.sp, .int .i64 h.pu, .int .i64 h.br, .int .i64 h.dr, .int .i64 h.lv, .int .i64 h.dO, .int .i64 h.ld, .int .i64 h.qu]) := by rw [hw1]; exact F0.out
      have F1 : Hid (Blk v_10 b2 [.int .i64 s.lo.pos, .int .i64 s.lo.vel, .int .i64 s.lo.door, .int .i64 s.up.pos, .int .i64 s.up.vel, .int .i64 s.up.door]) := by rw [hw1]; exact F1.out
      have F2 : Hid (Blk v_10 b3 [.int .i64 y.l.lo, .int .i64 y.l.hi, .int .i64 y.u.lo, .int .i64 y.u.hi]) := by rw [hw1]; exact F2.out
      have G0 : Hid (Blk v_10 w.heap.size [.int .i64 0, .int .i64 0, .int .i64 0, .int .i64 0, .int .i64 0, .int .i64 0, .int .i64 0, .int .i64 0, .int .i64 0, .int .i64 0, .int .i64 0, .int .i64 0]) := by rw [hw1]; exact G0.out
      have G1 : Hid (Blk v_10 (w.heap.size + 1) [.int .i64 0, .int .i64 0, .int .i64 0, .int .i64 0]) := by rw [hw1]; exact G1.out
      have G2 : Hid (Blk v_10 (w.heap.size + 2) [.int .i64 0, .int .i64 0, .int .i64 0, .int .i64 0, .int .i64 0, .int .i64 0]) := by rw [hw1]; exact G2.out
      have FK : Hid (Keeps sb w v_10) := by rw [hw1]; exact FK.out
      rw [← hw1] at hHeld ⊢
      clear hw1
      refine tkz 0 rfl ?_ (hy := Or.inl ⟨by kernel_rfl, fun wx hSw => exec_load_blk 25 _ Try.underlying25 (by kernel_rfl) rfl rfl hSw.1⟩)
      refine tkz 1 rfl ?_ (hy := Or.inl ⟨by kernel_rfl, fun wx hSw => exec_load_blk 29 _ Try.underlying29 (by kernel_rfl) rfl rfl hSw.2.1⟩)
      refine tkz 2 rfl ?_ (hy := Or.inl ⟨by kernel_rfl, fun wx hSw => exec_load_blk 40 _ Try.underlying40 (by kernel_rfl) rfl rfl hSw.2.2⟩)
      refine wpAnyH_ready (rs := [3]) (by kernel_rfl) (by simp) ?_
      refine (AllReadyH.cons rfl (fun K hK => ?_) AllReadyH.nil)
      have c0_ := G0.out.c 0 _ rfl
      have c1_ := G0.out.c 1 _ rfl
      have c2_ := G0.out.c 2 _ rfl
      have c3_ := G0.out.c 3 _ rfl
      have c4_ := G0.out.c 4 _ rfl
      have c5_ := G0.out.c 5 _ rfl
      have c6_ := G0.out.c 6 _ rfl
      have c7_ := G0.out.c 7 _ rfl
      have c8_ := G0.out.c 8 _ rfl
      have c9_ := G0.out.c 9 _ rfl
      have c10_ := G0.out.c 10 _ rfl
      have c11_ := G0.out.c 11 _ rfl
      have q0_ := G0.out.f 0 (Nat.le_of_ble_eq_true rfl)
      have q1_ := G0.out.f 1 (Nat.le_of_ble_eq_true rfl)
      have q2_ := G0.out.f 2 (Nat.le_of_ble_eq_true rfl)
      have q3_ := G0.out.f 3 (Nat.le_of_ble_eq_true rfl)
      have q4_ := G0.out.f 4 (Nat.le_of_ble_eq_true rfl)
      have q5_ := G0.out.f 5 (Nat.le_of_ble_eq_true rfl)
      have q6_ := G0.out.f 6 (Nat.le_of_ble_eq_true rfl)
      have q7_ := G0.out.f 7 (Nat.le_of_ble_eq_true rfl)
      have q8_ := G0.out.f 8 (Nat.le_of_ble_eq_true rfl)
      have q9_ := G0.out.f 9 (Nat.le_of_ble_eq_true rfl)
      have q10_ := G0.out.f 10 (Nat.le_of_ble_eq_true rfl)
      have q11_ := G0.out.f 11 (Nat.le_of_ble_eq_true rfl)
      go_simp
      obtain ⟨v_11, hw2⟩ : ∃ v_11, v_11 = putB v_10 w.heap.size 0 [.int .i64 h.fl, .int .i64 h.gp, .int .i64 h.ln, .int .i64 h.rf, .int .i64 h.sp, .int .i64 h.pu, .int .i64 h.br, .int .i64 h.dr, .int .i64 h.lv, .int .i64 h.dO, .int .i64 h.ld, .int .i64 h.qu] := ⟨_, rfl⟩
      change K _ (putB v_10 w.heap.size 0 [.int .i64 h.fl, .int .i64 h.gp, .int .i64 h.ln, .int .i64 h.rf, .int .i64 h.sp, .int .i64 h.pu, .int .i64 h.br, .int .i64 h.dr, .int .i64 h.lv, .int .i64 h.dO, .int .i64 h.ld, .int .i64 h.qu])
      rw [← hw2]
      clear c0_ q0_ c1_ q1_ c2_ q2_ c3_ q3_ c4_ q4_ c5_ q5_ c6_ q6_ c7_ q7_ c8_ q8_ c9_ q9_ c10_ q10_ c11_ q11_
      have F0 : Hid (Blk v_11 b1 [.int .i64 h.fl, .int .i64 h.gp, .int .i64 h.ln, .int .i64 h.rf, .int .i64 h.sp, .int .i64 h.pu, .int .i64 h.br, .int .i64 h.dr, .int .i64 h.lv, .int .i64 h.dO, .int .i64 h.ld, .int .i64 h.qu]) := by rw [hw2]; exact Blk.putB_other (by omega) _ _ F0.out
      have F1 : Hid (Blk v_11 b2 [.int .i64 s.lo.pos, .int .i64 s.lo.vel, .int .i64 s.lo.door, .int .i64 s.up.pos, .int .i64 s.up.vel, .int .i64 s.up.door]) := by rw [hw2]; exact Blk.putB_other (by omega) _ _ F1.out
      have F2 : Hid (Blk v_11 b3 [.int .i64 y.l.lo, .int .i64 y.l.hi, .int .i64 y.u.lo, .int .i64 y.u.hi]) := by rw [hw2]; exact Blk.putB_other (by omega) _ _ F2.out
      have G0 : Hid (Blk v_11 w.heap.size [.int .i64 h.fl, .int .i64 h.gp, .int .i64 h.ln, .int .i64 h.rf, .int .i64 h.sp, .int .i64 h.pu, .int .i64 h.br, .int .i64 h.dr, .int .i64 h.lv, .int .i64 h.dO, .int .i64 h.ld, .int .i64 h.qu]) := by rw [hw2]; exact G0.out.put _ rfl
      have G1 : Hid (Blk v_11 (w.heap.size + 1) [.int .i64 0, .int .i64 0, .int .i64 0, .int .i64 0]) := by rw [hw2]; exact Blk.putB_other (by omega) _ _ G1.out
      have G2 : Hid (Blk v_11 (w.heap.size + 2) [.int .i64 0, .int .i64 0, .int .i64 0, .int .i64 0, .int .i64 0, .int .i64 0]) := by rw [hw2]; exact Blk.putB_other (by omega) _ _ G2.out
      have FK : Hid (Keeps sb w v_11) := by rw [hw2]; exact FK.out.blw (below_putB (Below.refl w.heap.size _) (by omega) _ _) (Nat.le_refl _)
      clear hw2
      refine hK.out _ _ (by (try dsimp only); first | exact ⟨F0.out, F2.out, F1.out⟩ | go_keep) (fun hHeld => ?_)
      clear hK K
      try simp only [Act.put, List.getElem_toArray, List.getElem_cons_succ, List.getElem_cons_zero, List.setIfInBounds_toArray, List.set_cons_zero, List.set_cons_succ]
      refine wpAnyH_ready (rs := [4]) (by kernel_rfl) (by simp) ?_
      refine (AllReadyH.cons rfl (fun K hK => ?_) AllReadyH.nil)
      have c0_ := G1.out.c 0 _ rfl
      have c1_ := G1.out.c 1 _ rfl
      have c2_ := G1.out.c 2 _ rfl
      have c3_ := G1.out.c 3 _ rfl
      have q0_ := G1.out.f 0 (Nat.le_of_ble_eq_true rfl)
      have q1_ := G1.out.f 1 (Nat.le_of_ble_eq_true rfl)
      have q2_ := G1.out.f 2 (Nat.le_of_ble_eq_true rfl)
      have q3_ := G1.out.f 3 (Nat.le_of_ble_eq_true rfl)
      go_simp
      obtain ⟨v_12, hw2⟩ : ∃ v_12, v_12 = putB v_11 (w.heap.size + 1) 0 [.int .i64 y.l.lo, .int .i64 y.l.hi, .int .i64 y.u.lo, .int .i64 y.u.hi] := ⟨_, rfl⟩
      change K _ (putB v_11 (w.heap.size + 1) 0 [.int .i64 y.l.lo, .int .i64 y.l.hi, .int .i64 y.u.lo, .int .i64 y.u.hi])
      rw [← hw2]
      clear c0_ q0_ c1_ q1_ c2_ q2_ c3_ q3_
      have F0 : Hid (Blk v_12 b1 [.int .i64 h.fl, .int .i64 h.gp, .int .i64 h.ln, .int .i64 h.rf, .int .i64 h.sp, .int .i64 h.pu, .int .i64 h.br, .int .i64 h.dr, .int .i64 h.lv, .int .i64 h.dO, .int .i64 h.ld, .int .i64 h.qu]) := by rw [hw2]; exact Blk.putB_other (by omega) _ _ F0.out
      have F1 : Hid (Blk v_12 b2 [.int .i64 s.lo.pos, .int .i64 s.lo.vel, .int .i64 s.lo.door, .int .i64 s.up.pos, .int .i64 s.up.vel, .int .i64 s.up.door]) := by rw [hw2]; exact Blk.putB_other (by omega) _ _ F1.out
      have F2 : Hid (Blk v_12 b3 [.int .i64 y.l.lo, .int .i64 y.l.hi, .int .i64 y.u.lo, .int .i64 y.u.hi]) := by rw [hw2]; exact Blk.putB_other (by omega) _ _ F2.out
      have G0 : Hid (Blk v_12 w.heap.size [.int .i64 h.fl, .int .i64 h.gp, .int .i64 h.ln, .int .i64 h.rf, .int .i64 h.sp, .int .i64 h.pu, .int .i64 h.br, .int .i64 h.dr, .int .i64 h.lv, .int .i64 h.dO, .int .i64 h.ld, .int .i64 h.qu]) := by rw [hw2]; exact Blk.putB_other (by omega) _ _ G0.out
      have G1 : Hid (Blk v_12 (w.heap.size + 1) [.int .i64 y.l.lo, .int .i64 y.l.hi, .int .i64 y.u.lo, .int .i64 y.u.hi]) := by rw [hw2]; exact G1.out.put _ rfl
      have G2 : Hid (Blk v_12 (w.heap.size + 2) [.int .i64 0, .int .i64 0, .int .i64 0, .int .i64 0, .int .i64 0, .int .i64 0]) := by rw [hw2]; exact Blk.putB_other (by omega) _ _ G2.out
      have FK : Hid (Keeps sb w v_12) := by rw [hw2]; exact FK.out.blw (below_putB (Below.refl w.heap.size _) (by omega) _ _) (Nat.le_refl _)
      clear hw2
      refine hK.out _ _ (by (try dsimp only); first | exact ⟨F0.out, F2.out, F1.out⟩ | go_keep) (fun hHeld => ?_)
      clear hK K
      try simp only [Act.put, List.getElem_toArray, List.getElem_cons_succ, List.getElem_cons_zero, List.setIfInBounds_toArray, List.set_cons_zero, List.set_cons_succ]
      refine wpAnyH_ready (rs := [5]) (by kernel_rfl) (by simp) ?_
      refine (AllReadyH.cons rfl (fun K hK => ?_) AllReadyH.nil)
      have c0_ := G2.out.c 0 _ rfl
      have c1_ := G2.out.c 1 _ rfl
      have c2_ := G2.out.c 2 _ rfl
      have c3_ := G2.out.c 3 _ rfl
      have c4_ := G2.out.c 4 _ rfl
      have c5_ := G2.out.c 5 _ rfl
      have q0_ := G2.out.f 0 (Nat.le_of_ble_eq_true rfl)
      have q1_ := G2.out.f 1 (Nat.le_of_ble_eq_true rfl)
      have q2_ := G2.out.f 2 (Nat.le_of_ble_eq_true rfl)
      have q3_ := G2.out.f 3 (Nat.le_of_ble_eq_true rfl)
      have q4_ := G2.out.f 4 (Nat.le_of_ble_eq_true rfl)
      have q5_ := G2.out.f 5 (Nat.le_of_ble_eq_true rfl)
      go_simp
      obtain ⟨v_13, hw2⟩ : ∃ v_13, v_13 = putB v_12 (w.heap.size + 2) 0 [.int .i64 s.lo.pos, .int .i64 s.lo.vel, .int .i64 s.lo.door, .int .i64 s.up.pos, .int .i64 s.up.vel, .int .i64 s.up.door] := ⟨_, rfl⟩
      change K _ (putB v_12 (w.heap.size + 2) 0 [.int .i64 s.lo.pos, .int .i64 s.lo.vel, .int .i64 s.lo.door, .int .i64 s.up.pos, .int .i64 s.up.vel, .int .i64 s.up.door])
      rw [← hw2]
      clear c0_ q0_ c1_ q1_ c2_ q2_ c3_ q3_ c4_ q4_ c5_ q5_
      have F0 : Hid (Blk v_13 b1 [.int .i64 h.fl, .int .i64 h.gp, .int .i64 h.ln, .int .i64 h.rf, .int .i64 h.sp, .int .i64 h.pu, .int .i64 h.br, .int .i64 h.dr, .int .i64 h.lv, .int .i64 h.dO, .int .i64 h.ld, .int .i64 h.qu]) := by rw [hw2]; exact Blk.putB_other (by omega) _ _ F0.out
      have F1 : Hid (Blk v_13 b2 [.int .i64 s.lo.pos, .int .i64 s.lo.vel, .int .i64 s.lo.door, .int .i64 s.up.pos, .int .i64 s.up.vel, .int .i64 s.up.door]) := by rw [hw2]; exact Blk.putB_other (by omega) _ _ F1.out
      have F2 : Hid (Blk v_13 b3 [.int .i64 y.l.lo, .int .i64 y.l.hi, .int .i64 y.u.lo, .int .i64 y.u.hi]) := by rw [hw2]; exact Blk.putB_other (by omega) _ _ F2.out
      have G0 : Hid (Blk v_13 w.heap.size [.int .i64 h.fl, .int .i64 h.gp, .int .i64 h.ln, .int .i64 h.rf, .int .i64 h.sp, .int .i64 h.pu, .int .i64 h.br, .int .i64 h.dr, .int .i64 h.lv, .int .i64 h.dO, .int .i64 h.ld, .int .i64 h.qu]) := by rw [hw2]; exact Blk.putB_other (by omega) _ _ G0.out
      have G1 : Hid (Blk v_13 (w.heap.size + 1) [.int .i64 y.l.lo, .int .i64 y.l.hi, .int .i64 y.u.lo, .int .i64 y.u.hi]) := by rw [hw2]; exact Blk.putB_other (by omega) _ _ G1.out
      have G2 : Hid (Blk v_13 (w.heap.size + 2) [.int .i64 s.lo.pos, .int .i64 s.lo.vel, .int .i64 s.lo.door, .int .i64 s.up.pos, .int .i64 s.up.vel, .int .i64 s.up.door]) := by rw [hw2]; exact G2.out.put _ rfl
      have FK : Hid (Keeps sb w v_13) := by rw [hw2]; exact FK.out.blw (below_putB (Below.refl w.heap.size _) (by omega) _ _) (Nat.le_refl _)
      clear hw2
      refine hK.out _ _ (by (try dsimp only); first | exact ⟨F0.out, F2.out, F1.out⟩ | go_keep) (fun hHeld => ?_)
      clear hK K
      try simp only [Act.put, List.getElem_toArray, List.getElem_cons_succ, List.getElem_cons_zero, List.setIfInBounds_toArray, List.set_cons_zero, List.set_cons_succ]
      refine wpAnyH_done (by kernel_rfl) ?_ _
      have d0_ := G0.out.c 0 _ rfl
      have d1_ := G0.out.c 1 _ rfl
      have d2_ := G0.out.c 2 _ rfl
      have d3_ := G0.out.c 3 _ rfl
      have d4_ := G0.out.c 4 _ rfl
      have d5_ := G0.out.c 5 _ rfl
      have d6_ := G0.out.c 6 _ rfl
      have d7_ := G0.out.c 7 _ rfl
      have d8_ := G0.out.c 8 _ rfl
      have d9_ := G0.out.c 9 _ rfl
      have d10_ := G0.out.c 10 _ rfl
      have d11_ := G0.out.c 11 _ rfl
      have k0_ := G1.out.c 0 _ rfl
      have k1_ := G1.out.c 1 _ rfl
      have k2_ := G1.out.c 2 _ rfl
      have k3_ := G1.out.c 3 _ rfl
      have m0_ := G2.out.c 0 _ rfl
      have m1_ := G2.out.c 1 _ rfl
      have m2_ := G2.out.c 2 _ rfl
      have m3_ := G2.out.c 3 _ rfl
      have m4_ := G2.out.c 4 _ rfl
      have m5_ := G2.out.c 5 _ rfl
      go_wp2_with fail
      exact bodyPost_ret (v := .tuple #[.agg #[.int .i64 h.fl, .int .i64 h.gp, .int .i64 h.ln, .int .i64 h.rf, .int .i64 h.sp, .int .i64 h.pu, .int .i64 h.br, .int .i64 h.dr, .int .i64 h.lv, .int .i64 h.dO, .int .i64 h.ld, .int .i64 h.qu], .agg #[.int .i64 y.l.lo, .int .i64 y.l.hi, .int .i64 y.u.lo, .int .i64 y.u.hi], .agg #[.int .i64 s.lo.pos, .int .i64 s.lo.vel, .int .i64 s.lo.door, .int .i64 s.up.pos, .int .i64 s.up.vel, .int .i64 s.up.door]]) (by simp [results, Try.results12, go_sem, d0_, d1_, d2_, d3_, d4_, d5_, d6_, d7_, d8_, d9_, d10_, d11_, k0_, k1_, k2_, k3_, m0_, m1_, m2_, m3_, m4_, m5_]) rfl ⟨h, y, s, rfl, FK.out.below (by omega) (Nat.le_refl _)⟩
  · have kz : (h.shaft s == 0) = false := by simpa using k
    obtain ⟨y, hy⟩ : ∃ y, y = x := ⟨_, rfl⟩
    subst hy
    go_upto_region 6 with (first | (refine load_blk 25 _ Try.underlying25 (by kernel_rfl) F0.out rfl rfl rfl ?_) | (refine load_blk 40 _ Try.underlying40 (by kernel_rfl) F1.out rfl rfl rfl ?_) | (go_at_call 31; refine (specShaftFault_any h s _).mono ?_; rintro e w6 ⟨rfl, hb⟩; have F0 : Hid (Blk w6 b1 [.int .i64 h.fl, .int .i64 h.gp, .int .i64 h.ln, .int .i64 h.rf, .int .i64 h.sp, .int .i64 h.pu, .int .i64 h.br, .int .i64 h.dr, .int .i64 h.lv, .int .i64 h.dO, .int .i64 h.ld, .int .i64 h.qu]) := F0.out.below hb F0.out.lt; have F1 : Hid (Blk w6 b2 [.int .i64 s.lo.pos, .int .i64 s.lo.vel, .int .i64 s.lo.door, .int .i64 s.up.pos, .int .i64 s.up.vel, .int .i64 s.up.door]) := F1.out.below hb F1.out.lt; have F2 : Hid (Blk w6 b3 [.int .i64 y.l.lo, .int .i64 y.l.hi, .int .i64 y.u.lo, .int .i64 y.u.hi]) := F2.out.below hb F2.out.lt; have G0 : Hid (Blk w6 w.heap.size [.int .i64 0, .int .i64 0, .int .i64 0, .int .i64 0, .int .i64 0, .int .i64 0, .int .i64 0, .int .i64 0, .int .i64 0, .int .i64 0, .int .i64 0, .int .i64 0]) := G0.out.below hb G0.out.lt; have G1 : Hid (Blk w6 (w.heap.size + 1) [.int .i64 0, .int .i64 0, .int .i64 0, .int .i64 0]) := G1.out.below hb G1.out.lt; have G2 : Hid (Blk w6 (w.heap.size + 2) [.int .i64 0, .int .i64 0, .int .i64 0, .int .i64 0, .int .i64 0, .int .i64 0]) := G2.out.below hb G2.out.lt; have FS : Hid (SrcT w6 sb w.heap.size a len cap (0 + 200 + 10)) := FS.out.below hb; have FK : Hid (Keeps sb w w6) := FK.out.of_below hb; clear hb))
    have F0 : Hid (Blk w6.drew b1 [.int .i64 h.fl, .int .i64 h.gp, .int .i64 h.ln, .int .i64 h.rf, .int .i64 h.sp, .int .i64 h.pu, .int .i64 h.br, .int .i64 h.dr, .int .i64 h.lv, .int .i64 h.dO, .int .i64 h.ld, .int .i64 h.qu]) := F0.out.below (Below.refl _ _).drew F0.out.lt
    have F1 : Hid (Blk w6.drew b2 [.int .i64 s.lo.pos, .int .i64 s.lo.vel, .int .i64 s.lo.door, .int .i64 s.up.pos, .int .i64 s.up.vel, .int .i64 s.up.door]) := F1.out.below (Below.refl _ _).drew F1.out.lt
    have F2 : Hid (Blk w6.drew b3 [.int .i64 y.l.lo, .int .i64 y.l.hi, .int .i64 y.u.lo, .int .i64 y.u.hi]) := F2.out.below (Below.refl _ _).drew F2.out.lt
    have G0 : Hid (Blk w6.drew w.heap.size [.int .i64 0, .int .i64 0, .int .i64 0, .int .i64 0, .int .i64 0, .int .i64 0, .int .i64 0, .int .i64 0, .int .i64 0, .int .i64 0, .int .i64 0, .int .i64 0]) := G0.out.below (Below.refl _ _).drew G0.out.lt
    have G1 : Hid (Blk w6.drew (w.heap.size + 1) [.int .i64 0, .int .i64 0, .int .i64 0, .int .i64 0]) := G1.out.below (Below.refl _ _).drew G1.out.lt
    have G2 : Hid (Blk w6.drew (w.heap.size + 2) [.int .i64 0, .int .i64 0, .int .i64 0, .int .i64 0, .int .i64 0, .int .i64 0]) := G2.out.below (Below.refl _ _).drew G2.out.lt
    have FK : Hid (Keeps sb w w6.drew) := FK.out.of_below (Below.refl _ _).drew
    refine wp_region_held_drew (S := (fun w'' => Blk w'' b1 ([.int .i64 h.fl, .int .i64 h.gp, .int .i64 h.ln, .int .i64 h.rf, .int .i64 h.sp, .int .i64 h.pu, .int .i64 h.br, .int .i64 h.dr, .int .i64 h.lv, .int .i64 h.dO, .int .i64 h.ld, .int .i64 h.qu]) ∧ Blk w'' b3 ([.int .i64 y.l.lo, .int .i64 y.l.hi, .int .i64 y.u.lo, .int .i64 y.u.hi]) ∧ Blk w'' b2 ([.int .i64 s.lo.pos, .int .i64 s.lo.vel, .int .i64 s.lo.door, .int .i64 s.up.pos, .int .i64 s.up.vel, .int .i64 s.up.door]))) (by kernel_rfl) (by (try dsimp only); first | exact ⟨F0.out, F2.out, F1.out⟩ | go_keep) (fun hHeld => ?_)
    obtain ⟨v_14, hw1⟩ : ∃ v_14, v_14 = w6.drew := ⟨_, rfl⟩
    have F0 : Hid (Blk v_14 b1 [.int .i64 h.fl, .int .i64 h.gp, .int .i64 h.ln, .int .i64 h.rf, .int .i64 h.sp, .int .i64 h.pu, .int .i64 h.br, .int .i64 h.dr, .int .i64 h.lv, .int .i64 h.dO, .int .i64 h.ld, .int .i64 h.qu]) := by rw [hw1]; exact F0.out
    have F1 : Hid (Blk v_14 b2 [.int .i64 s.lo.pos, .int .i64 s.lo.vel, .int .i64 s.lo.door, .int .i64 s.up.pos, .int .i64 s.up.vel, .int .i64 s.up.door]) := by rw [hw1]; exact F1.out
    have F2 : Hid (Blk v_14 b3 [.int .i64 y.l.lo, .int .i64 y.l.hi, .int .i64 y.u.lo, .int .i64 y.u.hi]) := by rw [hw1]; exact F2.out
    have G0 : Hid (Blk v_14 w.heap.size [.int .i64 0, .int .i64 0, .int .i64 0, .int .i64 0, .int .i64 0, .int .i64 0, .int .i64 0, .int .i64 0, .int .i64 0, .int .i64 0, .int .i64 0, .int .i64 0]) := by rw [hw1]; exact G0.out
    have G1 : Hid (Blk v_14 (w.heap.size + 1) [.int .i64 0, .int .i64 0, .int .i64 0, .int .i64 0]) := by rw [hw1]; exact G1.out
    have G2 : Hid (Blk v_14 (w.heap.size + 2) [.int .i64 0, .int .i64 0, .int .i64 0, .int .i64 0, .int .i64 0, .int .i64 0]) := by rw [hw1]; exact G2.out
    have FK : Hid (Keeps sb w v_14) := by rw [hw1]; exact FK.out
    rw [← hw1] at hHeld ⊢
    clear hw1
    refine tkz 0 rfl ?_ (hy := Or.inl ⟨by kernel_rfl, fun wx hSw => exec_load_blk 25 _ Try.underlying25 (by kernel_rfl) rfl rfl hSw.1⟩)
    refine tkz 1 rfl ?_ (hy := Or.inl ⟨by kernel_rfl, fun wx hSw => exec_load_blk 29 _ Try.underlying29 (by kernel_rfl) rfl rfl hSw.2.1⟩)
    refine tkz 2 rfl ?_ (hy := Or.inl ⟨by kernel_rfl, fun wx hSw => exec_load_blk 40 _ Try.underlying40 (by kernel_rfl) rfl rfl hSw.2.2⟩)
    refine wpAnyH_ready (rs := [3]) (by kernel_rfl) (by simp) ?_
    refine (AllReadyH.cons rfl (fun K hK => ?_) AllReadyH.nil)
    have c0_ := G0.out.c 0 _ rfl
    have c1_ := G0.out.c 1 _ rfl
    have c2_ := G0.out.c 2 _ rfl
    have c3_ := G0.out.c 3 _ rfl
    have c4_ := G0.out.c 4 _ rfl
    have c5_ := G0.out.c 5 _ rfl
    have c6_ := G0.out.c 6 _ rfl
    have c7_ := G0.out.c 7 _ rfl
    have c8_ := G0.out.c 8 _ rfl
    have c9_ := G0.out.c 9 _ rfl
    have c10_ := G0.out.c 10 _ rfl
    have c11_ := G0.out.c 11 _ rfl
    have q0_ := G0.out.f 0 (Nat.le_of_ble_eq_true rfl)
    have q1_ := G0.out.f 1 (Nat.le_of_ble_eq_true rfl)
    have q2_ := G0.out.f 2 (Nat.le_of_ble_eq_true rfl)
    have q3_ := G0.out.f 3 (Nat.le_of_ble_eq_true rfl)
    have q4_ := G0.out.f 4 (Nat.le_of_ble_eq_true rfl)
    have q5_ := G0.out.f 5 (Nat.le_of_ble_eq_true rfl)
    have q6_ := G0.out.f 6 (Nat.le_of_ble_eq_true rfl)
    have q7_ := G0.out.f 7 (Nat.le_of_ble_eq_true rfl)
    have q8_ := G0.out.f 8 (Nat.le_of_ble_eq_true rfl)
    have q9_ := G0.out.f 9 (Nat.le_of_ble_eq_true rfl)
    have q10_ := G0.out.f 10 (Nat.le_of_ble_eq_true rfl)
    have q11_ := G0.out.f 11 (Nat.le_of_ble_eq_true rfl)
    go_simp
    obtain ⟨v_15, hw2⟩ : ∃ v_15, v_15 = putB v_14 w.heap.size 0 [.int .i64 h.fl, .int .i64 h.gp, .int .i64 h.ln, .int .i64 h.rf, .int .i64 h.sp, .int .i64 h.pu, .int .i64 h.br, .int .i64 h.dr, .int .i64 h.lv, .int .i64 h.dO, .int .i64 h.ld, .int .i64 h.qu] := ⟨_, rfl⟩
    change K _ (putB v_14 w.heap.size 0 [.int .i64 h.fl, .int .i64 h.gp, .int .i64 h.ln, .int .i64 h.rf, .int .i64 h.sp, .int .i64 h.pu, .int .i64 h.br, .int .i64 h.dr, .int .i64 h.lv, .int .i64 h.dO, .int .i64 h.ld, .int .i64 h.qu])
    rw [← hw2]
    clear c0_ q0_ c1_ q1_ c2_ q2_ c3_ q3_ c4_ q4_ c5_ q5_ c6_ q6_ c7_ q7_ c8_ q8_ c9_ q9_ c10_ q10_ c11_ q11_
    have F0 : Hid (Blk v_15 b1 [.int .i64 h.fl, .int .i64 h.gp, .int .i64 h.ln, .int .i64 h.rf, .int .i64 h.sp, .int .i64 h.pu, .int .i64 h.br, .int .i64 h.dr, .int .i64 h.lv, .int .i64 h.dO, .int .i64 h.ld, .int .i64 h.qu]) := by rw [hw2]; exact Blk.putB_other (by omega) _ _ F0.out
    have F1 : Hid (Blk v_15 b2 [.int .i64 s.lo.pos, .int .i64 s.lo.vel, .int .i64 s.lo.door, .int .i64 s.up.pos, .int .i64 s.up.vel, .int .i64 s.up.door]) := by rw [hw2]; exact Blk.putB_other (by omega) _ _ F1.out
    have F2 : Hid (Blk v_15 b3 [.int .i64 y.l.lo, .int .i64 y.l.hi, .int .i64 y.u.lo, .int .i64 y.u.hi]) := by rw [hw2]; exact Blk.putB_other (by omega) _ _ F2.out
    have G0 : Hid (Blk v_15 w.heap.size [.int .i64 h.fl, .int .i64 h.gp, .int .i64 h.ln, .int .i64 h.rf, .int .i64 h.sp, .int .i64 h.pu, .int .i64 h.br, .int .i64 h.dr, .int .i64 h.lv, .int .i64 h.dO, .int .i64 h.ld, .int .i64 h.qu]) := by rw [hw2]; exact G0.out.put _ rfl
    have G1 : Hid (Blk v_15 (w.heap.size + 1) [.int .i64 0, .int .i64 0, .int .i64 0, .int .i64 0]) := by rw [hw2]; exact Blk.putB_other (by omega) _ _ G1.out
    have G2 : Hid (Blk v_15 (w.heap.size + 2) [.int .i64 0, .int .i64 0, .int .i64 0, .int .i64 0, .int .i64 0, .int .i64 0]) := by rw [hw2]; exact Blk.putB_other (by omega) _ _ G2.out
    have FK : Hid (Keeps sb w v_15) := by rw [hw2]; exact FK.out.blw (below_putB (Below.refl w.heap.size _) (by omega) _ _) (Nat.le_refl _)
    clear hw2
    refine hK.out _ _ (by (try dsimp only); first | exact ⟨F0.out, F2.out, F1.out⟩ | go_keep) (fun hHeld => ?_)
    clear hK K
    try simp only [Act.put, List.getElem_toArray, List.getElem_cons_succ, List.getElem_cons_zero, List.setIfInBounds_toArray, List.set_cons_zero, List.set_cons_succ]
    refine wpAnyH_ready (rs := [4]) (by kernel_rfl) (by simp) ?_
    refine (AllReadyH.cons rfl (fun K hK => ?_) AllReadyH.nil)
    have c0_ := G1.out.c 0 _ rfl
    have c1_ := G1.out.c 1 _ rfl
    have c2_ := G1.out.c 2 _ rfl
    have c3_ := G1.out.c 3 _ rfl
    have q0_ := G1.out.f 0 (Nat.le_of_ble_eq_true rfl)
    have q1_ := G1.out.f 1 (Nat.le_of_ble_eq_true rfl)
    have q2_ := G1.out.f 2 (Nat.le_of_ble_eq_true rfl)
    have q3_ := G1.out.f 3 (Nat.le_of_ble_eq_true rfl)
    go_simp
    obtain ⟨v_16, hw2⟩ : ∃ v_16, v_16 = putB v_15 (w.heap.size + 1) 0 [.int .i64 y.l.lo, .int .i64 y.l.hi, .int .i64 y.u.lo, .int .i64 y.u.hi] := ⟨_, rfl⟩
    change K _ (putB v_15 (w.heap.size + 1) 0 [.int .i64 y.l.lo, .int .i64 y.l.hi, .int .i64 y.u.lo, .int .i64 y.u.hi])
    rw [← hw2]
    clear c0_ q0_ c1_ q1_ c2_ q2_ c3_ q3_
    have F0 : Hid (Blk v_16 b1 [.int .i64 h.fl, .int .i64 h.gp, .int .i64 h.ln, .int .i64 h.rf, .int .i64 h.sp, .int .i64 h.pu, .int .i64 h.br, .int .i64 h.dr, .int .i64 h.lv, .int .i64 h.dO, .int .i64 h.ld, .int .i64 h.qu]) := by rw [hw2]; exact Blk.putB_other (by omega) _ _ F0.out
    have F1 : Hid (Blk v_16 b2 [.int .i64 s.lo.pos, .int .i64 s.lo.vel, .int .i64 s.lo.door, .int .i64 s.up.pos, .int .i64 s.up.vel, .int .i64 s.up.door]) := by rw [hw2]; exact Blk.putB_other (by omega) _ _ F1.out
    have F2 : Hid (Blk v_16 b3 [.int .i64 y.l.lo, .int .i64 y.l.hi, .int .i64 y.u.lo, .int .i64 y.u.hi]) := by rw [hw2]; exact Blk.putB_other (by omega) _ _ F2.out
    have G0 : Hid (Blk v_16 w.heap.size [.int .i64 h.fl, .int .i64 h.gp, .int .i64 h.ln, .int .i64 h.rf, .int .i64 h.sp, .int .i64 h.pu, .int .i64 h.br, .int .i64 h.dr, .int .i64 h.lv, .int .i64 h.dO, .int .i64 h.ld, .int .i64 h.qu]) := by rw [hw2]; exact Blk.putB_other (by omega) _ _ G0.out
    have G1 : Hid (Blk v_16 (w.heap.size + 1) [.int .i64 y.l.lo, .int .i64 y.l.hi, .int .i64 y.u.lo, .int .i64 y.u.hi]) := by rw [hw2]; exact G1.out.put _ rfl
    have G2 : Hid (Blk v_16 (w.heap.size + 2) [.int .i64 0, .int .i64 0, .int .i64 0, .int .i64 0, .int .i64 0, .int .i64 0]) := by rw [hw2]; exact Blk.putB_other (by omega) _ _ G2.out
    have FK : Hid (Keeps sb w v_16) := by rw [hw2]; exact FK.out.blw (below_putB (Below.refl w.heap.size _) (by omega) _ _) (Nat.le_refl _)
    clear hw2
    refine hK.out _ _ (by (try dsimp only); first | exact ⟨F0.out, F2.out, F1.out⟩ | go_keep) (fun hHeld => ?_)
    clear hK K
    try simp only [Act.put, List.getElem_toArray, List.getElem_cons_succ, List.getElem_cons_zero, List.setIfInBounds_toArray, List.set_cons_zero, List.set_cons_succ]
    refine wpAnyH_ready (rs := [5]) (by kernel_rfl) (by simp) ?_
    refine (AllReadyH.cons rfl (fun K hK => ?_) AllReadyH.nil)
    have c0_ := G2.out.c 0 _ rfl
    have c1_ := G2.out.c 1 _ rfl
    have c2_ := G2.out.c 2 _ rfl
    have c3_ := G2.out.c 3 _ rfl
    have c4_ := G2.out.c 4 _ rfl
    have c5_ := G2.out.c 5 _ rfl
    have q0_ := G2.out.f 0 (Nat.le_of_ble_eq_true rfl)
    have q1_ := G2.out.f 1 (Nat.le_of_ble_eq_true rfl)
    have q2_ := G2.out.f 2 (Nat.le_of_ble_eq_true rfl)
    have q3_ := G2.out.f 3 (Nat.le_of_ble_eq_true rfl)
    have q4_ := G2.out.f 4 (Nat.le_of_ble_eq_true rfl)
    have q5_ := G2.out.f 5 (Nat.le_of_ble_eq_true rfl)
    go_simp
    obtain ⟨v_17, hw2⟩ : ∃ v_17, v_17 = putB v_16 (w.heap.size + 2) 0 [.int .i64 s.lo.pos, .int .i64 s.lo.vel, .int .i64 s.lo.door, .int .i64 s.up.pos, .int .i64 s.up.vel, .int .i64 s.up.door] := ⟨_, rfl⟩
    change K _ (putB v_16 (w.heap.size + 2) 0 [.int .i64 s.lo.pos, .int .i64 s.lo.vel, .int .i64 s.lo.door, .int .i64 s.up.pos, .int .i64 s.up.vel, .int .i64 s.up.door])
    rw [← hw2]
    clear c0_ q0_ c1_ q1_ c2_ q2_ c3_ q3_ c4_ q4_ c5_ q5_
    have F0 : Hid (Blk v_17 b1 [.int .i64 h.fl, .int .i64 h.gp, .int .i64 h.ln, .int .i64 h.rf, .int .i64 h.sp, .int .i64 h.pu, .int .i64 h.br, .int .i64 h.dr, .int .i64 h.lv, .int .i64 h.dO, .int .i64 h.ld, .int .i64 h.qu]) := by rw [hw2]; exact Blk.putB_other (by omega) _ _ F0.out
    have F1 : Hid (Blk v_17 b2 [.int .i64 s.lo.pos, .int .i64 s.lo.vel, .int .i64 s.lo.door, .int .i64 s.up.pos, .int .i64 s.up.vel, .int .i64 s.up.door]) := by rw [hw2]; exact Blk.putB_other (by omega) _ _ F1.out
    have F2 : Hid (Blk v_17 b3 [.int .i64 y.l.lo, .int .i64 y.l.hi, .int .i64 y.u.lo, .int .i64 y.u.hi]) := by rw [hw2]; exact Blk.putB_other (by omega) _ _ F2.out
    have G0 : Hid (Blk v_17 w.heap.size [.int .i64 h.fl, .int .i64 h.gp, .int .i64 h.ln, .int .i64 h.rf, .int .i64 h.sp, .int .i64 h.pu, .int .i64 h.br, .int .i64 h.dr, .int .i64 h.lv, .int .i64 h.dO, .int .i64 h.ld, .int .i64 h.qu]) := by rw [hw2]; exact Blk.putB_other (by omega) _ _ G0.out
    have G1 : Hid (Blk v_17 (w.heap.size + 1) [.int .i64 y.l.lo, .int .i64 y.l.hi, .int .i64 y.u.lo, .int .i64 y.u.hi]) := by rw [hw2]; exact Blk.putB_other (by omega) _ _ G1.out
    have G2 : Hid (Blk v_17 (w.heap.size + 2) [.int .i64 s.lo.pos, .int .i64 s.lo.vel, .int .i64 s.lo.door, .int .i64 s.up.pos, .int .i64 s.up.vel, .int .i64 s.up.door]) := by rw [hw2]; exact G2.out.put _ rfl
    have FK : Hid (Keeps sb w v_17) := by rw [hw2]; exact FK.out.blw (below_putB (Below.refl w.heap.size _) (by omega) _ _) (Nat.le_refl _)
    clear hw2
    refine hK.out _ _ (by (try dsimp only); first | exact ⟨F0.out, F2.out, F1.out⟩ | go_keep) (fun hHeld => ?_)
    clear hK K
    try simp only [Act.put, List.getElem_toArray, List.getElem_cons_succ, List.getElem_cons_zero, List.setIfInBounds_toArray, List.set_cons_zero, List.set_cons_succ]
    refine wpAnyH_done (by kernel_rfl) ?_ _
    have d0_ := G0.out.c 0 _ rfl
    have d1_ := G0.out.c 1 _ rfl
    have d2_ := G0.out.c 2 _ rfl
    have d3_ := G0.out.c 3 _ rfl
    have d4_ := G0.out.c 4 _ rfl
    have d5_ := G0.out.c 5 _ rfl
    have d6_ := G0.out.c 6 _ rfl
    have d7_ := G0.out.c 7 _ rfl
    have d8_ := G0.out.c 8 _ rfl
    have d9_ := G0.out.c 9 _ rfl
    have d10_ := G0.out.c 10 _ rfl
    have d11_ := G0.out.c 11 _ rfl
    have k0_ := G1.out.c 0 _ rfl
    have k1_ := G1.out.c 1 _ rfl
    have k2_ := G1.out.c 2 _ rfl
    have k3_ := G1.out.c 3 _ rfl
    have m0_ := G2.out.c 0 _ rfl
    have m1_ := G2.out.c 1 _ rfl
    have m2_ := G2.out.c 2 _ rfl
    have m3_ := G2.out.c 3 _ rfl
    have m4_ := G2.out.c 4 _ rfl
    have m5_ := G2.out.c 5 _ rfl
    go_wp2_with fail
    exact bodyPost_ret (v := .tuple #[.agg #[.int .i64 h.fl, .int .i64 h.gp, .int .i64 h.ln, .int .i64 h.rf, .int .i64 h.sp, .int .i64 h.pu, .int .i64 h.br, .int .i64 h.dr, .int .i64 h.lv, .int .i64 h.dO, .int .i64 h.ld, .int .i64 h.qu], .agg #[.int .i64 y.l.lo, .int .i64 y.l.hi, .int .i64 y.u.lo, .int .i64 y.u.hi], .agg #[.int .i64 s.lo.pos, .int .i64 s.lo.vel, .int .i64 s.lo.door, .int .i64 s.up.pos, .int .i64 s.up.vel, .int .i64 s.up.door]]) (by simp [results, Try.results12, go_sem, d0_, d1_, d2_, d3_, d4_, d5_, d6_, d7_, d8_, d9_, d10_, d11_, k0_, k1_, k2_, k3_, m0_, m1_, m2_, m3_, m4_, m5_]) rfl ⟨h, y, s, rfl, FK.out.below (by omega) (Nat.le_refl _)⟩
end Go.Proofs.Ytpfihpplpefikaa

namespace Go.Proofs.Ytpfihpplpefikaa
open Go.RowKit Pl
set_option linter.unusedSimpArgs false
set_option linter.unusedVariables false

theorem load_blkh {ops : Array Oper} {rest : List Oper} {o : Oper} {act : Act} {w : World} {Q : Exit → Act → World → Prop} {b : Nat} {vs : List Value} (T : TypeId) (x : Operand) {fs : Array Field} (hu : Try.prog.underlying T = some (.struct fs)) (hi : (Try.prog.info? T).map (·.size) = some vs.toArray.size) (hB : Blk w b vs)
    (hw : Region.wanted o (yielded ops act.tmps) = true) (ho : o.op = .load T x) (hx : act.eval x = .pointer (some ⟨b, 0, none⟩)) (h : wpList Try.prog ops Q rest (act.put o.dst (.agg vs.toArray)) w) : wpList Try.prog ops Q (o :: rest) act w := by
  obtain ⟨T', h'⟩ := hB.o
  exact wpList_step fun K hK => by simp only [hw, if_true]; exact wp_load_row T x ho b hx T' vs.toArray (0, 0) (.struct fs) h' hu rfl hi (hK _ _ h)
set_option maxRecDepth 20000 in
set_option maxHeartbeats 32000000 in
theorem releases_walk (a0 : Option Addr) (len0 cap0 : Nat) (w : World) (hc : CodeIn w w.heap.size a0 len0) (hbig : len0 ≤ 1048576) :
    Calls Try.prog 4 #[.slice a0 len0 cap0] w fun e w' => e = .returned (.bool true) ∧ Below w.heap.size w w' := by
  have HC : Hid (CodeIn w w.heap.size a0 len0) := hc
  clear hc
  go_enter Try.func4, Try.ntmps4
  go_wp2_with (first | (go_at_call 6; refine (lwBig_no _ _ _ hbig _).mono ?_; rintro e w' ⟨rfl, hw⟩; obtain rfl := hw.symm; clear hw))
  refine (DrawReleaseSpans_any a0 len0 cap0 _ HC.out).mono ?_
  rintro e w1 ⟨h, x, s, rfl, hb⟩
  clear HC hbig
  go_upto_region 4 with fail
  have hsz := hb.size
  obtain ⟨w2, hw2⟩ : ∃ w2, w2 = ((w1.alloc (.cells #[.int .i64 h.fl, .int .i64 h.gp, .int .i64 h.ln, .int .i64 h.rf, .int .i64 h.sp, .int .i64 h.pu, .int .i64 h.br, .int .i64 h.dr, .int .i64 h.lv, .int .i64 h.dO, .int .i64 h.ld, .int .i64 h.qu] 25)).alloc (.cells #[.int .i64 x.l.lo, .int .i64 x.l.hi, .int .i64 x.u.lo, .int .i64 x.u.hi] 29)).alloc (.cells #[.int .i64 s.lo.pos, .int .i64 s.lo.vel, .int .i64 s.lo.door, .int .i64 s.up.pos, .int .i64 s.up.vel, .int .i64 s.up.door] 40) := ⟨_, rfl⟩
  obtain ⟨b1, hb1⟩ : ∃ b1, b1 = w1.heap.size := ⟨_, rfl⟩
  obtain ⟨b2, hb2⟩ : ∃ b2, b2 = w1.heap.size + 1 := ⟨_, rfl⟩
  obtain ⟨b3, hb3⟩ : ∃ b3, b3 = b2 + 1 := ⟨_, rfl⟩
  have l12 : b1 < b2 := by omega
  have l23 : b2 < b3 := by omega
  have lw1 : w.heap.size ≤ b1 := by omega
  have F0 : Hid (Blk w2 b1 [.int .i64 h.fl, .int .i64 h.gp, .int .i64 h.ln, .int .i64 h.rf, .int .i64 h.sp, .int .i64 h.pu, .int .i64 h.br, .int .i64 h.dr, .int .i64 h.lv, .int .i64 h.dO, .int .i64 h.ld, .int .i64 h.qu]) := by rw [hw2]; exact ((Blk.at_ w1 _ _ _ hb1).alloc _).alloc _
  have F1 : Hid (Blk w2 b2 [.int .i64 x.l.lo, .int .i64 x.l.hi, .int .i64 x.u.lo, .int .i64 x.u.hi]) := by rw [hw2]; exact (Blk.at_ _ _ _ _ (by simp; omega)).alloc _
  have F2 : Hid (Blk w2 b3 [.int .i64 s.lo.pos, .int .i64 s.lo.vel, .int .i64 s.lo.door, .int .i64 s.up.pos, .int .i64 s.up.vel, .int .i64 s.up.door]) := by rw [hw2]; exact Blk.at_ _ _ _ _ (by simp; omega)
  have FB : Hid (Below w.heap.size w w2) := by rw [hw2]; exact ((hb.alloc hb.size _).alloc (by simp; omega) _).alloc (by simp; omega) _
  rw [← hw2, ← hb2, ← hb3, ← hb1]
  clear hw2 hb1 hb2 hb3 hb hsz
  by_cases k : (Hs.relK h x s) = 0
  case neg =>
    have hv : Hs.relV h x s = ⟨⟨0, 0⟩, ⟨0, 0⟩⟩ := if_neg k
    have hn : ((Hs.relK h x s) != 0) = true := by simpa using k
    have fp : ∀ W, (Instr.field 33 (.agg #[.int .i64 (Hs.relK h x s), .int .i64 0, .int .i64 0, .int .i64 0, .int .i64 0]) 0).run Try.prog W = .ok (.int .i64 (Hs.relK h x s)) W := fun W => by kernel_rfl
    clear k
    go_upto_region 5 with (first | (refine load_blk 25 _ Try.underlying25 (by kernel_rfl) F0.out rfl rfl rfl ?_) | (refine load_blk 29 _ Try.underlying29 (by kernel_rfl) F1.out rfl rfl rfl ?_) | (refine load_blk 40 _ Try.underlying40 (by kernel_rfl) F2.out rfl rfl rfl ?_) | (go_at_call 13; refine (implReleaseSpans_any h x s _).mono ?_; unfold isSps; rw [hv]; rintro e w3 ⟨rfl, hb⟩; have F0 : Hid (Blk w3 b1 [.int .i64 h.fl, .int .i64 h.gp, .int .i64 h.ln, .int .i64 h.rf, .int .i64 h.sp, .int .i64 h.pu, .int .i64 h.br, .int .i64 h.dr, .int .i64 h.lv, .int .i64 h.dO, .int .i64 h.ld, .int .i64 h.qu]) := F0.out.below hb F0.out.lt; have F1 : Hid (Blk w3 b2 [.int .i64 x.l.lo, .int .i64 x.l.hi, .int .i64 x.u.lo, .int .i64 x.u.hi]) := F1.out.below hb F1.out.lt; have F2 : Hid (Blk w3 b3 [.int .i64 s.lo.pos, .int .i64 s.lo.vel, .int .i64 s.lo.door, .int .i64 s.up.pos, .int .i64 s.up.vel, .int .i64 s.up.door]) := F2.out.below hb F2.out.lt; have FB : Hid (Below w.heap.size w w3) := FB.out.trans (hb.mono FB.out.size); clear hb) | (refine store_new [.int .i64 (Hs.relK h x s), .int .i64 0, .int .i64 0, .int .i64 0, .int .i64 0] 33 _ _ (by kernel_rfl) (by kernel_rfl) (by kernel_rfl) rfl rfl rfl rfl ?_))
    obtain ⟨b4, hbb⟩ : ∃ b, b = w3.heap.size := ⟨_, rfl⟩
    obtain ⟨w4, hw2⟩ : ∃ W, W = w3.alloc (.cells ([.int .i64 (Hs.relK h x s), .int .i64 0, .int .i64 0, .int .i64 0, .int .i64 0] : List Value).toArray 33) := ⟨_, rfl⟩
    have F0 : Hid (Blk w4 b1 [.int .i64 h.fl, .int .i64 h.gp, .int .i64 h.ln, .int .i64 h.rf, .int .i64 h.sp, .int .i64 h.pu, .int .i64 h.br, .int .i64 h.dr, .int .i64 h.lv, .int .i64 h.dO, .int .i64 h.ld, .int .i64 h.qu]) := by rw [hw2]; exact F0.out.alloc _
    have F1 : Hid (Blk w4 b2 [.int .i64 x.l.lo, .int .i64 x.l.hi, .int .i64 x.u.lo, .int .i64 x.u.hi]) := by rw [hw2]; exact F1.out.alloc _
    have F2 : Hid (Blk w4 b3 [.int .i64 s.lo.pos, .int .i64 s.lo.vel, .int .i64 s.lo.door, .int .i64 s.up.pos, .int .i64 s.up.vel, .int .i64 s.up.door]) := by rw [hw2]; exact F2.out.alloc _
    have FB : Hid (Below w.heap.size w w4) := by rw [hw2]; exact FB.out.alloc FB.out.size _
    have FC : Hid (Blk w4 b4 [.int .i64 (Hs.relK h x s), .int .i64 0, .int .i64 0, .int .i64 0, .int .i64 0]) := by rw [hw2]; exact Blk.at_ w3 ([.int .i64 (Hs.relK h x s), .int .i64 0, .int .i64 0, .int .i64 0, .int .i64 0] : List Value).toArray _ _ hbb
    rw [← hw2, ← hbb]
    clear hbb hw2
    have z0_ := FC.out.c 0 _ rfl
    go_upto_region 6 with fail
    clear z0_
    have F0 : Hid (Blk w4.drew b1 [.int .i64 h.fl, .int .i64 h.gp, .int .i64 h.ln, .int .i64 h.rf, .int .i64 h.sp, .int .i64 h.pu, .int .i64 h.br, .int .i64 h.dr, .int .i64 h.lv, .int .i64 h.dO, .int .i64 h.ld, .int .i64 h.qu]) := F0.out.below (Below.refl _ _).drew F0.out.lt
    have F1 : Hid (Blk w4.drew b2 [.int .i64 x.l.lo, .int .i64 x.l.hi, .int .i64 x.u.lo, .int .i64 x.u.hi]) := F1.out.below (Below.refl _ _).drew F1.out.lt
    have F2 : Hid (Blk w4.drew b3 [.int .i64 s.lo.pos, .int .i64 s.lo.vel, .int .i64 s.lo.door, .int .i64 s.up.pos, .int .i64 s.up.vel, .int .i64 s.up.door]) := F2.out.below (Below.refl _ _).drew F2.out.lt
    have FC : Hid (Blk w4.drew b4 [.int .i64 (Hs.relK h x s), .int .i64 0, .int .i64 0, .int .i64 0, .int .i64 0]) := FC.out.below (Below.refl _ _).drew FC.out.lt
    have FB : Hid (Below w.heap.size w w4.drew) := FB.out.drew
    refine wp_region_held_drew (S := (fun w'' => Blk w'' b1 ([.int .i64 h.fl, .int .i64 h.gp, .int .i64 h.ln, .int .i64 h.rf, .int .i64 h.sp, .int .i64 h.pu, .int .i64 h.br, .int .i64 h.dr, .int .i64 h.lv, .int .i64 h.dO, .int .i64 h.ld, .int .i64 h.qu]) ∧ Blk w'' b2 ([.int .i64 x.l.lo, .int .i64 x.l.hi, .int .i64 x.u.lo, .int .i64 x.u.hi]) ∧ Blk w'' b3 ([.int .i64 s.lo.pos, .int .i64 s.lo.vel, .int .i64 s.lo.door, .int .i64 s.up.pos, .int .i64 s.up.vel, .int .i64 s.up.door]) ∧ Blk w'' b4 ([.int .i64 (Hs.relK h x s), .int .i64 0, .int .i64 0, .int .i64 0, .int .i64 0]))) (by kernel_rfl) (by (try dsimp only); first | exact ⟨F0.out, F1.out, F2.out, FC.out⟩ | go_keep) (fun hHeld => ?_)
    obtain ⟨v_1, hw1⟩ : ∃ v_1, v_1 = w4.drew := ⟨_, rfl⟩
    have F0 : Hid (Blk v_1 b1 [.int .i64 h.fl, .int .i64 h.gp, .int .i64 h.ln, .int .i64 h.rf, .int .i64 h.sp, .int .i64 h.pu, .int .i64 h.br, .int .i64 h.dr, .int .i64 h.lv, .int .i64 h.dO, .int .i64 h.ld, .int .i64 h.qu]) := by rw [hw1]; exact F0.out
    have F1 : Hid (Blk v_1 b2 [.int .i64 x.l.lo, .int .i64 x.l.hi, .int .i64 x.u.lo, .int .i64 x.u.hi]) := by rw [hw1]; exact F1.out
    have F2 : Hid (Blk v_1 b3 [.int .i64 s.lo.pos, .int .i64 s.lo.vel, .int .i64 s.lo.door, .int .i64 s.up.pos, .int .i64 s.up.vel, .int .i64 s.up.door]) := by rw [hw1]; exact F2.out
    have FC : Hid (Blk v_1 b4 [.int .i64 (Hs.relK h x s), .int .i64 0, .int .i64 0, .int .i64 0, .int .i64 0]) := by rw [hw1]; exact FC.out
    have FB : Hid (Below w.heap.size w v_1) := by rw [hw1]; exact FB.out
    rw [← hw1] at hHeld ⊢
    clear hw1
    refine tkz 0 rfl ?_ (hy := Or.inl ⟨by kernel_rfl, fun wx hSw => exec_load_blk 25 _ Try.underlying25 (by kernel_rfl) rfl rfl hSw.1⟩)
    refine tkz 1 rfl ?_ (hy := Or.inl ⟨by kernel_rfl, fun wx hSw => exec_load_blk 29 _ Try.underlying29 (by kernel_rfl) rfl rfl hSw.2.1⟩)
    refine tkz 2 rfl ?_ (hy := Or.inl ⟨by kernel_rfl, fun wx hSw => exec_load_blk 40 _ Try.underlying40 (by kernel_rfl) rfl rfl hSw.2.2.1⟩)
    refine tkz 5 rfl ?_
    refine tkz 6 rfl ?_ (hy := Or.inl ⟨by kernel_rfl, by (intro wx hSw; have hq3_0 := hSw.2.2.2.c 0 _ rfl; (try dsimp only at hSw); go_simp <;> with_reducible rfl)⟩)
    refine wpAnyH_ready (rs := [3]) (by kernel_rfl) (by simp) ?_
    refine (AllReadyH.cons rfl (fun K hK => ?_) AllReadyH.nil)
    go_simp
    refine ((specReleaseSpans_any h x s _).mono (fun _ _ z => hv ▸ z)).mono ?_
    rintro e v_2 ⟨rfl, hb⟩
    have F0 : Hid (Blk v_2 b1 [.int .i64 h.fl, .int .i64 h.gp, .int .i64 h.ln, .int .i64 h.rf, .int .i64 h.sp, .int .i64 h.pu, .int .i64 h.br, .int .i64 h.dr, .int .i64 h.lv, .int .i64 h.dO, .int .i64 h.ld, .int .i64 h.qu]) := F0.out.below hb F0.out.lt
    have F1 : Hid (Blk v_2 b2 [.int .i64 x.l.lo, .int .i64 x.l.hi, .int .i64 x.u.lo, .int .i64 x.u.hi]) := F1.out.below hb F1.out.lt
    have F2 : Hid (Blk v_2 b3 [.int .i64 s.lo.pos, .int .i64 s.lo.vel, .int .i64 s.lo.door, .int .i64 s.up.pos, .int .i64 s.up.vel, .int .i64 s.up.door]) := F2.out.below hb F2.out.lt
    have FC : Hid (Blk v_2 b4 [.int .i64 (Hs.relK h x s), .int .i64 0, .int .i64 0, .int .i64 0, .int .i64 0]) := FC.out.below hb FC.out.lt
    have FB : Hid (Below w.heap.size w v_2) := FB.out.trans (hb.mono FB.out.size)
    clear hb
    try dsimp only
    refine hK.out _ _ (by (try dsimp only); first | exact ⟨F0.out, F1.out, F2.out, FC.out⟩ | go_keep) (fun hHeld => ?_)
    clear hK K
    try simp only [Act.put, List.getElem_toArray, List.getElem_cons_succ, List.getElem_cons_zero, List.setIfInBounds_toArray, List.set_cons_zero, List.set_cons_succ]
    refine tkz 4 rfl ?_
    refine tkz 7 rfl ?_
    refine tkz 8 rfl ?_
    refine wpAnyH_done (by kernel_rfl) ?_ _
    go_wp2_with fail
    go_ret
    exact ⟨by simp, FB.out⟩
  have hv : Hs.relV h x s = Hs.relS h x s := if_pos k
  have hk := k
  unfold Hs.relK at hk
  have ks : Hs.spans h x = 0 := by
    by_cases z : Hs.spans h x = 0
    · exact z
    · rw [if_neg z] at hk; exact absurd hk z
  rw [if_pos ks] at hk
  have so := spans_zero_iff.1 ks
  have k2 := spans_zero_iff.2 (relS_ok s so)
  have k3 := spans_zero_iff.2 (sensed_ok so.hf s)
  have hsv : Hs.sensV h s = Hs.sensed h s := if_pos hk
  have c1 := cutS_in x.l (Hs.cover h s.lo) so.a2
  have c2 := cutS_in x.u (Hs.cover h s.up) so.a4
  have y1 : x.l.lo ≤ (Hs.relS h x s).l.lo := c1.1
  have y2 : (Hs.relS h x s).l.hi ≤ x.l.hi := c1.2.2
  have y3 : x.u.lo ≤ (Hs.relS h x s).u.lo := c2.1
  have y4 : (Hs.relS h x s).u.hi ≤ x.u.hi := c2.2.2
  obtain ⟨a, b, hab⟩ : ∃ a b, Hs.relS h x s = ⟨a, b⟩ := ⟨_, _, rfl⟩
  obtain ⟨c, d, hcd⟩ : ∃ c d, Hs.sensed h s = ⟨c, d⟩ := ⟨_, _, rfl⟩
  rw [hab] at k2 y1 y2 y3 y4 hv
  rw [hcd] at k3 hsv
  dsimp only at y1 y2 y3 y4
  have n1 : decide (x.l.lo ≤ a.lo) = true := decide_eq_true y1
  have n2 : decide (a.hi ≤ x.l.hi) = true := decide_eq_true y2
  have n3 : decide (x.u.lo ≤ b.lo) = true := decide_eq_true y3
  have n4 : decide (b.hi ≤ x.u.hi) = true := decide_eq_true y4
  clear hab hcd so c1 c2 y1 y2 y3 y4 ks
  go_upto_region 5 with (first | (refine load_blk 25 _ Try.underlying25 (by kernel_rfl) F0.out rfl rfl rfl ?_) | (refine load_blk 29 _ Try.underlying29 (by kernel_rfl) F1.out rfl rfl rfl ?_) | (refine load_blk 40 _ Try.underlying40 (by kernel_rfl) F2.out rfl rfl rfl ?_) | (go_at_call 13; refine (implReleaseSpans_any h x s _).mono ?_; unfold isSps; rw [hv, k]; rintro e w3 ⟨rfl, hb⟩; have F0 : Hid (Blk w3 b1 [.int .i64 h.fl, .int .i64 h.gp, .int .i64 h.ln, .int .i64 h.rf, .int .i64 h.sp, .int .i64 h.pu, .int .i64 h.br, .int .i64 h.dr, .int .i64 h.lv, .int .i64 h.dO, .int .i64 h.ld, .int .i64 h.qu]) := F0.out.below hb F0.out.lt; have F1 : Hid (Blk w3 b2 [.int .i64 x.l.lo, .int .i64 x.l.hi, .int .i64 x.u.lo, .int .i64 x.u.hi]) := F1.out.below hb F1.out.lt; have F2 : Hid (Blk w3 b3 [.int .i64 s.lo.pos, .int .i64 s.lo.vel, .int .i64 s.lo.door, .int .i64 s.up.pos, .int .i64 s.up.vel, .int .i64 s.up.door]) := F2.out.below hb F2.out.lt; have FB : Hid (Below w.heap.size w w3) := FB.out.trans (hb.mono FB.out.size); clear hb) | (refine store_new [.int .i64 0, .int .i64 a.lo, .int .i64 a.hi, .int .i64 b.lo, .int .i64 b.hi] 33 _ _ (by kernel_rfl) (by kernel_rfl) (by kernel_rfl) rfl rfl rfl rfl ?_))
  obtain ⟨b4, hbb⟩ : ∃ b, b = w3.heap.size := ⟨_, rfl⟩
  obtain ⟨w4, hw2⟩ : ∃ W, W = w3.alloc (.cells ([.int .i64 0, .int .i64 a.lo, .int .i64 a.hi, .int .i64 b.lo, .int .i64 b.hi] : List Value).toArray 33) := ⟨_, rfl⟩
  have F0 : Hid (Blk w4 b1 [.int .i64 h.fl, .int .i64 h.gp, .int .i64 h.ln, .int .i64 h.rf, .int .i64 h.sp, .int .i64 h.pu, .int .i64 h.br, .int .i64 h.dr, .int .i64 h.lv, .int .i64 h.dO, .int .i64 h.ld, .int .i64 h.qu]) := by rw [hw2]; exact F0.out.alloc _
  have F1 : Hid (Blk w4 b2 [.int .i64 x.l.lo, .int .i64 x.l.hi, .int .i64 x.u.lo, .int .i64 x.u.hi]) := by rw [hw2]; exact F1.out.alloc _
  have F2 : Hid (Blk w4 b3 [.int .i64 s.lo.pos, .int .i64 s.lo.vel, .int .i64 s.lo.door, .int .i64 s.up.pos, .int .i64 s.up.vel, .int .i64 s.up.door]) := by rw [hw2]; exact F2.out.alloc _
  have FB : Hid (Below w.heap.size w w4) := by rw [hw2]; exact FB.out.alloc FB.out.size _
  have FC : Hid (Blk w4 b4 [.int .i64 0, .int .i64 a.lo, .int .i64 a.hi, .int .i64 b.lo, .int .i64 b.hi]) := by rw [hw2]; exact Blk.at_ w3 ([.int .i64 0, .int .i64 a.lo, .int .i64 a.hi, .int .i64 b.lo, .int .i64 b.hi] : List Value).toArray _ _ hbb
  rw [← hw2, ← hbb]
  clear hbb hw2
  clear k hv
  have c0 := FC.out.c 0 _ rfl
  have c1 := FC.out.c 1 _ rfl
  have c2 := FC.out.c 2 _ rfl
  have c3 := FC.out.c 3 _ rfl
  have c4 := FC.out.c 4 _ rfl
  go_upto_region 8 with (first | (refine load_blk 25 _ Try.underlying25 (by kernel_rfl) F0.out rfl rfl rfl ?_) | (refine load_blk 29 _ Try.underlying29 (by kernel_rfl) F1.out rfl rfl rfl ?_) | (refine load_blk 40 _ Try.underlying40 (by kernel_rfl) F2.out rfl rfl rfl ?_) | (go_at_call 15; refine (implSensedSpans_any h s _).mono ?_; unfold isSps; rw [hsv, hk]; rintro e w5 ⟨rfl, hb⟩; have F0 : Hid (Blk w5 b1 [.int .i64 h.fl, .int .i64 h.gp, .int .i64 h.ln, .int .i64 h.rf, .int .i64 h.sp, .int .i64 h.pu, .int .i64 h.br, .int .i64 h.dr, .int .i64 h.lv, .int .i64 h.dO, .int .i64 h.ld, .int .i64 h.qu]) := F0.out.below hb F0.out.lt; have F1 : Hid (Blk w5 b2 [.int .i64 x.l.lo, .int .i64 x.l.hi, .int .i64 x.u.lo, .int .i64 x.u.hi]) := F1.out.below hb F1.out.lt; have F2 : Hid (Blk w5 b3 [.int .i64 s.lo.pos, .int .i64 s.lo.vel, .int .i64 s.lo.door, .int .i64 s.up.pos, .int .i64 s.up.vel, .int .i64 s.up.door]) := F2.out.below hb F2.out.lt; have FC : Hid (Blk w5 b4 [.int .i64 0, .int .i64 a.lo, .int .i64 a.hi, .int .i64 b.lo, .int .i64 b.hi]) := FC.out.below hb FC.out.lt; have FB : Hid (Below w.heap.size w w5) := FB.out.trans (hb.mono FB.out.size); clear hb) | (refine store_new [.int .i64 0, .int .i64 c.lo, .int .i64 c.hi, .int .i64 d.lo, .int .i64 d.hi] 33 _ _ (by kernel_rfl) (by kernel_rfl) (by kernel_rfl) rfl rfl rfl rfl ?_))
  obtain ⟨b5, hbb⟩ : ∃ b, b = w5.heap.size := ⟨_, rfl⟩
  obtain ⟨w6, hw2⟩ : ∃ W, W = w5.alloc (.cells ([.int .i64 0, .int .i64 c.lo, .int .i64 c.hi, .int .i64 d.lo, .int .i64 d.hi] : List Value).toArray 33) := ⟨_, rfl⟩
  have F0 : Hid (Blk w6 b1 [.int .i64 h.fl, .int .i64 h.gp, .int .i64 h.ln, .int .i64 h.rf, .int .i64 h.sp, .int .i64 h.pu, .int .i64 h.br, .int .i64 h.dr, .int .i64 h.lv, .int .i64 h.dO, .int .i64 h.ld, .int .i64 h.qu]) := by rw [hw2]; exact F0.out.alloc _
  have F1 : Hid (Blk w6 b2 [.int .i64 x.l.lo, .int .i64 x.l.hi, .int .i64 x.u.lo, .int .i64 x.u.hi]) := by rw [hw2]; exact F1.out.alloc _
  have F2 : Hid (Blk w6 b3 [.int .i64 s.lo.pos, .int .i64 s.lo.vel, .int .i64 s.lo.door, .int .i64 s.up.pos, .int .i64 s.up.vel, .int .i64 s.up.door]) := by rw [hw2]; exact F2.out.alloc _
  have FC : Hid (Blk w6 b4 [.int .i64 0, .int .i64 a.lo, .int .i64 a.hi, .int .i64 b.lo, .int .i64 b.hi]) := by rw [hw2]; exact FC.out.alloc _
  have FB : Hid (Below w.heap.size w w6) := by rw [hw2]; exact FB.out.alloc FB.out.size _
  have FD : Hid (Blk w6 b5 [.int .i64 0, .int .i64 c.lo, .int .i64 c.hi, .int .i64 d.lo, .int .i64 d.hi]) := by rw [hw2]; exact Blk.at_ w5 ([.int .i64 0, .int .i64 c.lo, .int .i64 c.hi, .int .i64 d.lo, .int .i64 d.hi] : List Value).toArray _ _ hbb
  rw [← hw2, ← hbb]
  clear hbb hw2
  clear hsv hk c0 c1 c2 c3 c4
  have c0 := FC.out.c 0 _ rfl
  have c1 := FC.out.c 1 _ rfl
  have c2 := FC.out.c 2 _ rfl
  have c3 := FC.out.c 3 _ rfl
  have c4 := FC.out.c 4 _ rfl
  have d0 := F1.out.c 0 _ rfl
  have d1 := F1.out.c 1 _ rfl
  have d2 := F1.out.c 2 _ rfl
  have d3 := F1.out.c 3 _ rfl
  have g0 := FD.out.c 0 _ rfl
  have g1 := FD.out.c 1 _ rfl
  have g2 := FD.out.c 2 _ rfl
  have g3 := FD.out.c 3 _ rfl
  have g4 := FD.out.c 4 _ rfl
  go_wp2_with (first | (refine load_blk 25 _ Try.underlying25 (by kernel_rfl) F0.out rfl rfl rfl ?_) | ((fail_if_success have := GX); go_at_call 10; refine (implSpansFault_any h ⟨a, b⟩ _).mono ?_; rw [k2]; rintro e w7 ⟨rfl, hb⟩; have F0 : Hid (Blk w7 b1 [.int .i64 h.fl, .int .i64 h.gp, .int .i64 h.ln, .int .i64 h.rf, .int .i64 h.sp, .int .i64 h.pu, .int .i64 h.br, .int .i64 h.dr, .int .i64 h.lv, .int .i64 h.dO, .int .i64 h.ld, .int .i64 h.qu]) := F0.out.below hb F0.out.lt; have F1 : Hid (Blk w7 b2 [.int .i64 x.l.lo, .int .i64 x.l.hi, .int .i64 x.u.lo, .int .i64 x.u.hi]) := F1.out.below hb F1.out.lt; have F2 : Hid (Blk w7 b3 [.int .i64 s.lo.pos, .int .i64 s.lo.vel, .int .i64 s.lo.door, .int .i64 s.up.pos, .int .i64 s.up.vel, .int .i64 s.up.door]) := F2.out.below hb F2.out.lt; have FC : Hid (Blk w7 b4 [.int .i64 0, .int .i64 a.lo, .int .i64 a.hi, .int .i64 b.lo, .int .i64 b.hi]) := FC.out.below hb FC.out.lt; have FD : Hid (Blk w7 b5 [.int .i64 0, .int .i64 c.lo, .int .i64 c.hi, .int .i64 d.lo, .int .i64 d.hi]) := FD.out.below hb FD.out.lt; have FB : Hid (Below w.heap.size w w7) := FB.out.trans (hb.mono FB.out.size); clear hb; have c0 := FC.out.c 0 _ rfl; have c1 := FC.out.c 1 _ rfl; have c2 := FC.out.c 2 _ rfl; have c3 := FC.out.c 3 _ rfl; have c4 := FC.out.c 4 _ rfl; have d0 := F1.out.c 0 _ rfl; have d1 := F1.out.c 1 _ rfl; have d2 := F1.out.c 2 _ rfl; have d3 := F1.out.c 3 _ rfl; have g0 := FD.out.c 0 _ rfl; have g1 := FD.out.c 1 _ rfl; have g2 := FD.out.c 2 _ rfl; have g3 := FD.out.c 3 _ rfl; have g4 := FD.out.c 4 _ rfl; have GX := l12) | (go_at_call 10; refine (implSpansFault_any h ⟨c, d⟩ _).mono ?_; rw [k3]; rintro e w8 ⟨rfl, hb⟩; have F0 : Hid (Blk w8 b1 [.int .i64 h.fl, .int .i64 h.gp, .int .i64 h.ln, .int .i64 h.rf, .int .i64 h.sp, .int .i64 h.pu, .int .i64 h.br, .int .i64 h.dr, .int .i64 h.lv, .int .i64 h.dO, .int .i64 h.ld, .int .i64 h.qu]) := F0.out.below hb F0.out.lt; have F1 : Hid (Blk w8 b2 [.int .i64 x.l.lo, .int .i64 x.l.hi, .int .i64 x.u.lo, .int .i64 x.u.hi]) := F1.out.below hb F1.out.lt; have F2 : Hid (Blk w8 b3 [.int .i64 s.lo.pos, .int .i64 s.lo.vel, .int .i64 s.lo.door, .int .i64 s.up.pos, .int .i64 s.up.vel, .int .i64 s.up.door]) := F2.out.below hb F2.out.lt; have FC : Hid (Blk w8 b4 [.int .i64 0, .int .i64 a.lo, .int .i64 a.hi, .int .i64 b.lo, .int .i64 b.hi]) := FC.out.below hb FC.out.lt; have FD : Hid (Blk w8 b5 [.int .i64 0, .int .i64 c.lo, .int .i64 c.hi, .int .i64 d.lo, .int .i64 d.hi]) := FD.out.below hb FD.out.lt; have FB : Hid (Below w.heap.size w w8) := FB.out.trans (hb.mono FB.out.size); clear hb; have c0 := FC.out.c 0 _ rfl; have c1 := FC.out.c 1 _ rfl; have c2 := FC.out.c 2 _ rfl; have c3 := FC.out.c 3 _ rfl; have c4 := FC.out.c 4 _ rfl; have d0 := F1.out.c 0 _ rfl; have d1 := F1.out.c 1 _ rfl; have d2 := F1.out.c 2 _ rfl; have d3 := F1.out.c 3 _ rfl; have g0 := FD.out.c 0 _ rfl; have g1 := FD.out.c 1 _ rfl; have g2 := FD.out.c 2 _ rfl; have g3 := FD.out.c 3 _ rfl; have g4 := FD.out.c 4 _ rfl) | (refine load_blkh 25 _ Try.underlying25 (by kernel_rfl) F0.out (by kernel_rfl) rfl rfl ?_))
  go_ret
  exact ⟨by simp, FB.out⟩
end Go.Proofs.Ytpfihpplpefikaa

namespace Go.Proofs.Ytpfihpplpefikaa.fnReleases
open Go.ChangeShapes Go.WideShapes Go.ChangeAt Go.RowKit
open Go.ChangeMaps (open_string shut_string)
set_option linter.unusedVariables false

theorem own : ownKnob Try.prog.godebug = none := by kernel_rfl
theorem laidOut : laidOutB Try.prog = true := by kernel_rfl

/-- WHAT THE WALK IS TOLD OF A SLICE OF INTEGERS THAT CAME IN: it is nil; or it leads to a row of 'cap' cells, the numbers 'zs' (the first 'len' are its elements, the rest its spare room), each fitting its kind. -/
def IsRow (k : IntKind) (w : World) (a : Option Addr) (len cap : Nat) (zs : List Int) : Prop :=
  (a = none ∧ len = 0 ∧ cap = 0 ∧ zs = []) ∨
  ∃ x, a = some x ∧ len ≤ cap ∧ cap ≤ maxLen ∧ zs.length = cap ∧ (∀ i, i < zs.length → w.cell? (x.add i) = some (.int k (zs.getD i 0))) ∧ ∀ n ∈ zs, (Lit.int k n).wf = true

/-! ### STEP 1: THE WALK: the Go text returns true, AND WRITES NOTHING THAT WAS THERE: 'Below w.heap.size w w'' (Derived/Below.lean: '.refl', '.alloc', '.drew', '.setCell' at a new block, '.trans'). Open each 'IsRow' by 'rcases' AHEAD of 'go_enter'; part every test ahead of the walk. -/
set_option maxHeartbeats 4000000 in
theorem walk (a0 : Option Addr) (len0 cap0 : Nat) (z0 : List Int) (w : World) (w0 : IsRow .u8 w a0 len0 cap0 z0) :
    Calls Try.prog 4 #[.slice a0 len0 cap0] w fun e w' => e = .returned (.bool true) ∧ Below w.heap.size w w' := by
  by_cases hbig : len0 ≤ 1048576
  · exact releases_walk a0 len0 cap0 w (codeIn_of w0 hbig _ (Nat.le_refl _)) hbig
  · have hm : len0 ≤ maxLen := row_le w0
    clear w0
    go_enter Try.func4, Try.ntmps4
    go_wp2_with (go_at_call 6; refine (lwBig_yes _ _ _ (by omega) hm _).mono ?_; rintro e w' ⟨rfl, rfl⟩)
    go_ret
    exact ⟨rfl, Below.refl _ _⟩

/-! ### THE ROW's STEP: WRITTEN OUT: LEAVE IT -/
set_option maxRecDepth 100000 in
theorem lifted (os : Os) (started : os.Started) (H : Type) (enc : TypeId × Value → H) :
    ReturnsInHanded {} Try.checked os 4 .any (Rows.fnReleasesSpec.pre6 enc Try.prog Try.f4 Rows.fnReleasesRow.domain false) (Rows.fnReleasesSpec.post enc Try.prog Try.f4 false true false false) := by
  refine returnsInHanded_of_change (C := Try.checked) own started (by kernel_rfl) Try.func4
    (ChangeSpec.witness6 (enc := enc) (C := Try.checked) false ⟨#[], #[.slice none 0 0], []⟩ 8 (by kernel_rfl) (by kernel_rfl) (by kernel_rfl) (by kernel_rfl)) ?_
  intro W base args ds gs before hval0 hW hcnd _
  have hval : ∀ (j : Nat) t v, Try.f4.params[j]? = some t → args[j]? = some v → Value.okWide Try.prog W .any base t v := hval0
  have hW' := hW
  obtain ⟨p, q, hA0, hV, rfl, hfz, hnd⟩ := hW
  have hA : DataW.TrodAll enc Try.prog W 0 (fun _ => true) true Try.f4.params.toList args.toList ds p := hA0
  rw [Try.params4] at hA hval
  obtain ⟨v0, vs0, d0, ds0, p0, q0, hargs, rfl, rfl, h0, r0⟩ := trodAll_cons hA
  obtain ⟨rfl, rfl, rfl⟩ := trodAll_nil r0
  obtain rfl : args = #[v0] := by cases args; simp_all
  obtain ⟨rfl, rfl⟩ := trodVars_none hV
  obtain ⟨a0, len0, cap0, rfl⟩ := okWide_slice Try.underlying22 (hval 0 22 v0 rfl rfl)
  have k0 := h0
  have lt0 : ∀ x ∈ p0, x.block < W.heap.size := by obtain ⟨m, hm⟩ := k0; exact DataW.trod_lt m _ _ _ hm
  obtain ⟨z0, w0⟩ : ∃ zs, IsRow .u8 W a0 len0 cap0 zs := by
    obtain ⟨fuel, hf⟩ := h0
    rcases open_ints Try.underlying22 Try.underlying5 (by kernel_rfl) hf with ⟨hcs, _⟩ | ⟨x, l, c, zs, hcs, _, hl, hm, hz, _, hcell, hwz⟩
    · simp [Value.cells] at hcs
      obtain ⟨rfl, rfl, rfl⟩ := hcs
      exact ⟨[], .inl ⟨rfl, rfl, rfl, rfl⟩⟩
    · simp [Value.cells] at hcs
      obtain ⟨rfl, rfl, rfl⟩ := hcs
      exact ⟨zs, .inr ⟨_, rfl, hl, hm, by simpa using hz, hcell, hwz⟩⟩
  clear hA0 hval0
  refine (walk a0 len0 cap0 z0 W w0).mono fun e W' ⟨he, bel⟩ => ?_
  subst he
  exact ⟨_, rfl, _, _, _, [], _, [], hW', trodAll_mk1 (shut_bool Try.underlying4 _), (trodAll_cons_mk (Below.trod laidOut (by kernel_rfl) (of_decide_eq_true (by kernel_rfl)) k0 bel lt0) trodAll_mk0), rfl, bel.frame _, fun h => by cases h⟩

theorem over : Rows.fnReleasesRow.holds Try.pinned (OpenSpec.ofChange Rows.fnReleasesSpec) :=
  OpenClaim.holds_of_wide 4 Try.f4 rfl rfl rfl rfl rfl rfl rfl ⟨rfl, rfl, rfl, rfl, rfl⟩ rfl rfl rfl rfl rfl (by kernel_rfl) Try.func4 (by kernel_rfl)
    (of_decide_eq_true (by kernel_rfl)) (by unfold Func.isWrapper; first | (rw [if_pos (by decide +kernel)]; kernel_rfl) | (rw [if_neg (by decide +kernel)]; exact ⟨rfl, rfl⟩))
    (fun os started H enc _ => lifted os started H enc)

/-- ████ THE STATEMENT ████ -/
theorem proved : Rows.FnReleasesSaid := over
end Go.Proofs.Ytpfihpplpefikaa.fnReleases

namespace Go.Proofs.Ytpfihpplpefikaa
theorem fnReleases_holds : Rows.FnReleasesSaid := fnReleases.proved
#print axioms fnReleases_holds
end Go.Proofs.Ytpfihpplpefikaa
