/-
  What a tick keeps, in plain: shafts that step are right, spans that grow and are cut are right.
-/
import Derived.Test.YtpfihpplpefikaaGrp
import Derived.Test.YtpfihpplpefikaaProf
namespace Go.Proofs.Ytpfihpplpefikaa
open Go.RowKit Pl
set_option linter.unusedSimpArgs false
set_option linter.unusedVariables false

theorem clip_mono (m a b : Int) (h : a ≤ b) (m0 : 0 ≤ m) : clip m a ≤ clip m b := by unfold clip; (repeat' split) <;> omega
theorem hi_mono {h : Hs} (o : h.Ok) {p p' v v' : Int} (hp : p ≤ p') (hv : v ≤ v') (b : v' ≤ 2000) : h.hi p v ≤ h.hi p' v' := by
  have r1 := o.br1; have r3 := o.pu1
  unfold Hs.hi
  by_cases c : 0 < v
  · rw [if_pos c, if_pos (by omega)]
    have := stop_le v v' h.br (by omega) hv (by omega)
    omega
  · rw [if_neg c]
    split
    · have := stopP_nonneg v' h.br (by omega) (by omega); omega
    · exact hp
theorem lo_mono {h : Hs} (o : h.Ok) {p p' v v' : Int} (hp : p ≤ p') (hv : v ≤ v') (b : -2000 ≤ v) : h.lo p v ≤ h.lo p' v' := by
  have r1 := o.br1; have r3 := o.pu1
  unfold Hs.lo
  by_cases c : v' < 0
  · rw [if_pos c, if_pos (by omega)]
    have := stop_le (-v') (-v) h.br (by omega) (by omega) (by omega)
    omega
  · rw [if_neg c]
    split
    · have := stopP_nonneg (-v) h.br (by omega) (by omega); omega
    · exact hp
theorem step_mono {h : Hs} {c : Cs} {x : Cm} {d e : Int} (o : h.Ok) (hd : d ≤ e) : (stepC h c x d).pos ≤ (stepC h c x e).pos ∧ (stepC h c x d).vel ≤ (stepC h c x e).vel := by
  have s1 := o.sp1
  have cm := clip_mono h.sp (c.vel + x.push + d) (c.vel + x.push + e) (by omega) (by omega)
  unfold stepC
  split
  · split <;> exact ⟨Int.le_refl _, Int.le_refl _⟩
  · split
    · exact ⟨Int.le_refl _, Int.le_refl _⟩
    · dsimp only; omega
/-- Whatever the drift is, a car comes no higher and no lower than the worst. -/
theorem worst_hi {h : Hs} {c : Cs} {x : Cm} {d : Int} (k : CarOk h c) (d2 : d ≤ h.dr) : h.hi (stepC h c x d).pos (stepC h c x d).vel ≤ Hs.wh h c x := by
  have o := k.ok
  obtain ⟨a, b⟩ := step_mono (c := c) (x := x) o d2
  have e := step_env (x := x) (d := h.dr) k
  exact hi_mono o a b (by omega)
theorem worst_lo {h : Hs} {c : Cs} {x : Cm} {d : Int} (k : CarOk h c) (d1 : -h.dr ≤ d) : Hs.wl h c x ≤ h.lo (stepC h c x d).pos (stepC h c x d).vel := by
  have o := k.ok
  obtain ⟨a, b⟩ := step_mono (c := c) (x := x) o d1
  have e := step_env (x := x) (d := -h.dr) k
  exact lo_mono o a b (by omega)
theorem hi_ge {h : Hs} (o : h.Ok) (p v : Int) : p ≤ h.hi p v := by
  have r1 := o.br1; have r3 := o.pu1
  unfold Hs.hi
  split
  · have := stopP_nonneg v h.br (by omega) (by omega); omega
  · exact Int.le_refl _
theorem lo_le {h : Hs} (o : h.Ok) (p v : Int) : h.lo p v ≤ p := by
  have r1 := o.br1; have r3 := o.pu1
  unfold Hs.lo
  split
  · have := stopP_nonneg (-v) h.br (by omega) (by omega); omega
  · exact Int.le_refl _
/-- A car behind a tick: its speed and its door are right. -/
theorem step_car {h : Hs} {c : Cs} {x : Cm} {d : Int} (k : CarOk h c) : -h.sp ≤ (stepC h c x d).vel ∧ (stepC h c x d).vel ≤ h.sp ∧ 0 ≤ (stepC h c x d).door ∧ (stepC h c x d).door ≤ h.dO ∧ ((stepC h c x d).door = 0 ∨ (stepC h c x d).vel = 0) := by
  have o := k.ok
  have s1 := o.sp1; have s2 := o.sp2; have v1 := k.v1; have v2 := k.v2; have r1 := o.br1; have r3 := o.pu1
  have q1 := k.d1; have q2 := k.d2; have q3 := k.dv; have q4 := o.do1
  have cb := clip_bd h.sp (c.vel + x.push + d) (by omega)
  have bb := brk_in c.vel h.br h.sp v1 v2 (by omega)
  unfold stepC
  split
  case isTrue e =>
    have vz : c.vel = 0 := by
      rcases e with e | e
      · omega
      · exact e.2
    split
    case isTrue => dsimp only; omega
    case isFalse no =>
      have dn : c.door ≠ 0 := by
        rcases e with e | e
        · exact e
        · exact absurd e.1 no
      dsimp only; omega
  case isFalse e =>
    have dz : c.door = 0 := by
      by_cases z : c.door = 0
      · exact z
      · exact absurd (Or.inl z) e
    split <;> (dsimp only; omega)
theorem car_of {h : Hs} {c : Cs} (hf : h.fault = 0) (p1 : h.low ≤ c.pos) (p2 : c.pos ≤ h.high) (v : -h.sp ≤ c.vel ∧ c.vel ≤ h.sp ∧ 0 ≤ c.door ∧ c.door ≤ h.dO ∧ (c.door = 0 ∨ c.vel = 0)) : h.car c = 0 := by
  obtain ⟨v1, v2, d1, d2, dv⟩ := v
  rw [Hs.car_ok hf]
  unfold Hs.carC
  have r : h.carR c = true := by
    unfold Hs.carR
    simp only [Bool.and_eq_true, inB_iff]
    exact ⟨⟨p1, p2⟩, ⟨v1, v2⟩, d1, d2⟩
  rw [if_pos r, if_neg (by omega)]
/-- Two cars that are apart stay apart, whatever right commands are given, however they drift. -/
theorem stepS_ok {h : Hs} {s : Sh} {a b : Cm} {d e : Int} (k : h.shaft s = 0) (d1 : -h.dr ≤ d) (d2 : d ≤ h.dr) (e1 : -h.dr ≤ e) (e2 : e ≤ h.dr) : h.shaft (Hs.stepS h s a b d e) = 0 := by
  obtain ⟨k1, k2, _⟩ := shaft_parts k
  have c1 := Hs.car_zero k1
  have c2 := Hs.car_zero k2
  have o := c1.ok
  have m := grd_may k a b
  unfold Hs.may at m
  simp only [Bool.and_eq_true, decide_eq_true_eq] at m
  obtain ⟨m1, m2, m3⟩ := m
  obtain ⟨x, hx⟩ : ∃ x, (Hs.grd h s a b).1 = x := ⟨_, rfl⟩
  obtain ⟨y, hy⟩ : ∃ y, (Hs.grd h s a b).2 = y := ⟨_, rfl⟩
  unfold Hs.stepS
  rw [hx, hy]
  rw [hx, hy] at m1
  rw [hy] at m2
  rw [hx] at m3
  have q1 := worst_hi (x := x) c1 d2
  have q2 := worst_lo (x := x) c1 d1
  have q3 := worst_hi (x := y) c2 e2
  have q4 := worst_lo (x := y) c2 e1
  have l1 := lo_le o (stepC h s.lo x d).pos (stepC h s.lo x d).vel
  have l2 := hi_ge o (stepC h s.lo x d).pos (stepC h s.lo x d).vel
  have u1 := lo_le o (stepC h s.up y e).pos (stepC h s.up y e).vel
  have u2 := hi_ge o (stepC h s.up y e).pos (stepC h s.up y e).vel
  have ln := o.ln1
  have x1 : h.car (stepC h s.lo x d) = 0 := car_of c1.hf (by omega) (by omega) (step_car c1)
  have x2 : h.car (stepC h s.up y e) = 0 := car_of c1.hf (by omega) (by omega) (step_car c2)
  unfold Hs.shaft
  dsimp only
  rw [if_pos x1, if_pos x2]
  unfold Hs.shaftC
  dsimp only
  rw [if_neg (by omega), if_neg (by omega)]
/-- Spans without a fault. -/
structure SpOk (h : Hs) (x : Ss) : Prop where
  hf : h.fault = 0
  a1 : -1 ≤ x.l.lo
  a2 : x.l.lo ≤ x.l.hi
  a3 : x.l.hi < x.u.lo
  a4 : x.u.lo ≤ x.u.hi
  a5 : x.u.hi ≤ h.fl
theorem spans_zero_iff {h : Hs} {x : Ss} : Hs.spans h x = 0 ↔ SpOk h x := by
  unfold Hs.spans
  constructor
  · intro e
    split at e
    case isFalse c => exact absurd e c
    case isTrue c =>
      unfold Hs.spanC at e
      split at e
      case isFalse => cases e
      case isTrue r =>
        unfold Hs.spanR at r
        simp only [Bool.and_eq_true, inB_iff] at r
        split at e
        case isTrue => cases e
        case isFalse b =>
          unfold spanB at b
          simp only [Bool.or_eq_true, decide_eq_true_eq, not_or, Int.not_lt, Int.not_le] at b
          obtain ⟨⟨r1, r2⟩, ⟨r3, r4⟩, ⟨r5, r6⟩, r7, r8⟩ := r
          obtain ⟨b1, b2, b3⟩ := b
          exact ⟨c, r1, b1, b3, b2, r8⟩
  · intro o
    obtain ⟨hf, a1, a2, a3, a4, a5⟩ := o
    rw [if_pos hf]
    unfold Hs.spanC
    have r : Hs.spanR h x = true := by
      unfold Hs.spanR
      simp only [Bool.and_eq_true, inB_iff]
      omega
    have b : spanB x = false := by
      unfold spanB
      simp only [Bool.or_eq_false_iff, decide_eq_false_iff_not]
      omega
    rw [if_pos r, b]
    rfl
theorem extS_ok {h : Hs} {x : Ss} {a b : Int} (k : SpOk h x) (a1 : -1 ≤ a) (ab : a < b) (b1 : b ≤ h.fl) : SpOk h (extS x a b) := by
  obtain ⟨hf, c1, c2, c3, c4, c5⟩ := k
  unfold extS
  exact ⟨hf, by dsimp only; omega, by dsimp only; omega, by dsimp only; omega, by dsimp only; omega, by dsimp only; omega⟩
theorem cutS_in (x y : Sp) (hx : x.lo ≤ x.hi) : x.lo ≤ (cutS x y).lo ∧ (cutS x y).lo ≤ (cutS x y).hi ∧ (cutS x y).hi ≤ x.hi := by
  unfold cutS
  split
  · omega
  · dsimp only; omega
theorem relS_ok {h : Hs} {x : Ss} (s : Sh) (k : SpOk h x) : SpOk h (Hs.relS h x s) := by
  obtain ⟨hf, c1, c2, c3, c4, c5⟩ := k
  have a := cutS_in x.l (Hs.cover h s.lo) c2
  have b := cutS_in x.u (Hs.cover h s.up) c4
  unfold Hs.relS
  exact ⟨hf, by dsimp only; omega, by dsimp only; omega, by dsimp only; omega, by dsimp only; omega, by dsimp only; omega⟩
theorem sensed_ok {h : Hs} (hf : h.fault = 0) (s : Sh) : SpOk h (Hs.sensed h s) := by
  have o := Hs.ok_of (Hs.fault_zero hf).1
  have a := Hs.at6_bd o s.lo.pos
  have b := Hs.at6_bd o s.up.pos
  have f1 := o.fl1
  have A1 : -1 ≤ Hs.sensA h s ∧ Hs.sensA h s < Hs.sensB h s ∧ Hs.sensB h s ≤ h.fl := by
    unfold Hs.sensA Hs.sensB
    split <;> split <;> omega
  unfold Hs.sensed
  exact ⟨hf, by dsimp only; omega, by dsimp only; omega, by dsimp only; omega, by dsimp only; omega, by dsimp only; omega⟩
/-- The aim within a span. -/
theorem aim_in {x : Sp} (g : Int) (hx : x.lo ≤ x.hi) : x.lo ≤ aimS x g ∧ aimS x g ≤ x.hi := by unfold aimS; omega
theorem aim_way {x : Sp} (g : Int) (hx : x.lo ≤ x.hi) : (if g < x.lo then x.lo else if x.hi < g then x.hi else g) = aimS x g := by
  unfold aimS
  (repeat' split) <;> omega
/-- The command for a floor is right. -/
theorem forC_ok {h : Hs} (hf : h.fault = 0) (c : Cs) (f : Int) : h.cmd (Hs.forC h c f) = 0 := by
  have o := Hs.ok_of (Hs.fault_zero hf).1
  have p1 := o.pu1
  have key : ∀ (x : Cm), -h.pu ≤ x.push → x.push ≤ h.pu → x.bad = false → h.cmd x = 0 := by
    intro x a b q
    rw [Hs.cmd_ok hf]
    unfold Hs.cmdC
    rw [if_pos (inB_yes a b), q]
    rfl
  unfold Hs.forC
  split
  · exact key _ (by dsimp only; omega) (by dsimp only; omega) rfl
  · split
    · have := Hs.upP_bd o (-c.vel) (-(h.level f - c.pos))
      exact key _ (by dsimp only; omega) (by dsimp only; omega) rfl
    · have := Hs.upP_bd o c.vel (h.level f - c.pos)
      exact key _ (by dsimp only; omega) (by dsimp only; omega) rfl
end Go.Proofs.Ytpfihpplpefikaa
