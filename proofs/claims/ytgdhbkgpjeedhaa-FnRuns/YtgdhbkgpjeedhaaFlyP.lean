/-
  A flight, in plain numbers: who stands and goes to a place comes no further than it, is there within the bound, and is the sooner there the nearer it is.
-/
import Derived.Test.YtgdhbkgpjeedhaaProfR
import Derived.Test.YtgdhbkgpjeedhaaFnd
namespace Go.Proofs.Ytgdhbkgpjeedhaa
open Go.RowKit Pl
set_option linter.unusedVariables false

/-- The greatest speed for a path: it fits, and none above does. -/
theorem speed_fit {d p : Int} (h : 0 ≤ d) : speedP d p + stopP (speedP d p) p ≤ d := by
  obtain ⟨a, b, c, e⟩ := bestN_best (spB d p) 2000
  rcases c with z | z
  · unfold speedP; rw [z, stopP_zero]; omega
  · simpa [spB, speedP] using z
theorem speed_max {d p x : Int} (h : speedP d p < x) (h2 : x ≤ 2000) : d < x + stopP x p := by
  obtain ⟨a, b, c, e⟩ := bestN_best (spB d p) 2000
  have := e x h (by omega)
  simpa [spB] using this
theorem speed_ge {d p x : Int} (h2 : x ≤ 2000) (hx : x + stopP x p ≤ d) : x ≤ speedP d p := by
  by_cases h : x ≤ speedP d p
  · exact h
  · have := speed_max (d := d) (p := p) (x := x) (by omega) h2
    omega
theorem speed_mono {d e p : Int} (h0 : 0 ≤ d) (h : d ≤ e) : speedP d p ≤ speedP e p :=
  speed_ge (speedP_bd d p).2 (by have := speed_fit (p := p) h0; omega)
theorem stop_low {v p : Int} (h0 : 0 ≤ v) (hp : 1 ≤ p) (h : v ≤ p) : stopP v p = 0 := by
  by_cases z : v = 0
  · rw [z, stopP_zero]
  · rw [stopP_brk v p (by omega) hp]
    have e : brk v p = 0 := by unfold brk; rw [if_neg (by omega), if_neg (by omega)]
    rw [e, stopP_zero]; rfl
theorem stop_down {v p : Int} (hp : 1 ≤ p) (h : p ≤ v) : stopP v p = (v - p) + stopP (v - p) p := by
  rw [stopP_brk v p (by omega) hp]
  have e : brk v p = v - p := by unfold brk; rw [if_neg (by omega)]; split <;> omega
  rw [e]
/-- Speed and path together grow. -/
theorem fit_lt {x y p : Int} (h0 : 0 ≤ x) (h : x < y) (hp : 1 ≤ p) : x + stopP x p < y + stopP y p := by
  have := stop_le x y p h0 (by omega) hp
  omega
/-- So far away, so fast: it can still stop. -/
structure Fg (h : Hs) (d v : Int) : Prop where
  v0 : 0 ≤ v
  v1 : v ≤ h.sp
  st : stopP v h.pu ≤ d
theorem Fg.d0 {h : Hs} (o : h.Ok) {d v : Int} (g : Fg h d v) : 0 ≤ d := by
  have := stopP_nonneg v h.pu g.v0 o.pu1; have := g.st; omega
def nV (h : Hs) (d v : Int) : Int := if d ≤ h.lv ∧ v ≤ h.br then 0 else min (v + h.pu) (min h.sp (speedP d h.pu))
def nD (h : Hs) (d v : Int) : Int := d - nV h d v
theorem speed_low {h : Hs} (o : h.Ok) {d v : Int} (g : Fg h d v) : v - h.pu ≤ speedP d h.pu := by
  have p1 := o.pu1; have p2 := o.pu2; have s2 := o.sp2; have b := speedP_bd d h.pu; have v1 := g.v1
  by_cases c : h.pu ≤ v
  · exact speed_ge (by omega) (by have := stop_down p1 c; have := g.st; omega)
  · omega
theorem nV_bd {h : Hs} (o : h.Ok) {d v : Int} (g : Fg h d v) : 0 ≤ nV h d v ∧ nV h d v ≤ h.sp := by
  have p1 := o.pu1; have s1 := o.sp1; have b := speedP_bd d h.pu; have v0 := g.v0
  unfold nV; split <;> omega
theorem nV_fit {h : Hs} (o : h.Ok) {d v : Int} (g : Fg h d v) : nV h d v + stopP (nV h d v) h.pu ≤ d := by
  have b := nV_bd o g
  have d0 := g.d0 o
  unfold nV at b ⊢
  split
  · rw [stopP_zero]; omega
  · rename_i c
    rw [if_neg c] at b
    have f := speed_fit (p := h.pu) d0
    have l := stop_le (min (v + h.pu) (min h.sp (speedP d h.pu))) (speedP d h.pu) h.pu b.1 (by omega) o.pu1
    omega
theorem Fg.next {h : Hs} (o : h.Ok) {d v : Int} (g : Fg h d v) : Fg h (nD h d v) (nV h d v) :=
  ⟨(nV_bd o g).1, (nV_bd o g).2, by have := nV_fit o g; unfold nD; omega⟩
/-- How many ticks it takes, of so many at most; and whether it is there then. -/
def flN (h : Hs) : Nat → Int → Int → Int
  | 0, _, _ => 0
  | k + 1, d, v => if v = 0 ∧ d ≤ h.lv then 0 else 1 + flN h k (nD h d v) (nV h d v)
def flB (h : Hs) : Nat → Int → Int → Bool
  | 0, d, v => decide (v = 0 ∧ d ≤ h.lv)
  | k + 1, d, v => if v = 0 ∧ d ≤ h.lv then true else flB h k (nD h d v) (nV h d v)
theorem flN_there {h : Hs} {k : Nat} {d v : Int} (c : v = 0 ∧ d ≤ h.lv) : flN h k d v = 0 := by
  cases k with
  | zero => rfl
  | succ k => rw [flN, if_pos c]
theorem flB_there {h : Hs} {k : Nat} {d v : Int} (c : v = 0 ∧ d ≤ h.lv) : flB h k d v = true := by
  cases k with
  | zero => exact decide_eq_true c
  | succ k => rw [flB, if_pos c]
theorem flN_go {h : Hs} {k : Nat} {d v : Int} (c : ¬ (v = 0 ∧ d ≤ h.lv)) : flN h (k + 1) d v = 1 + flN h k (nD h d v) (nV h d v) := by rw [flN, if_neg c]
theorem flB_go {h : Hs} {k : Nat} {d v : Int} (c : ¬ (v = 0 ∧ d ≤ h.lv)) : flB h (k + 1) d v = flB h k (nD h d v) (nV h d v) := by rw [flB, if_neg c]
theorem flN_bd (h : Hs) (k : Nat) (d v : Int) : 0 ≤ flN h k d v ∧ flN h k d v ≤ k := by
  induction k generalizing d v with
  | zero => exact ⟨Int.le_refl _, Int.le_refl _⟩
  | succ k ih =>
    by_cases c : v = 0 ∧ d ≤ h.lv
    · rw [flN_there c]; omega
    · rw [flN_go c]; have := ih (nD h d v) (nV h d v); omega
/-- Who is there within k ticks is there in as many, however many it may take. -/
theorem fl_more (h : Hs) (k m : Nat) (d v : Int) (t : flB h k d v = true) : flB h (k + m) d v = true ∧ flN h (k + m) d v = flN h k d v := by
  induction k generalizing d v with
  | zero =>
    have c : v = 0 ∧ d ≤ h.lv := by simpa [flB] using t
    exact ⟨flB_there c, by rw [flN_there c]; rfl⟩
  | succ k ih =>
    by_cases c : v = 0 ∧ d ≤ h.lv
    · exact ⟨flB_there c, by rw [flN_there c, flN_there c]⟩
    · rw [flB_go c] at t
      have i := ih _ _ t
      rw [show k + 1 + m = (k + m) + 1 by omega, flB_go c, flN_go c, flN_go c, i.1, i.2]
      exact ⟨rfl, rfl⟩
/-- Who has come to the greatest speed for its path: what comes behind. -/
theorem speed_next {h : Hs} (o : h.Ok) {d : Int} (d0 : 0 ≤ d) (s2 : speedP d h.pu ≤ h.sp) : d - speedP d h.pu ≤ stopP (speedP d h.pu + 1) h.pu ∧ speedP (d - speedP d h.pu) h.pu ≤ speedP d h.pu := by
  have b := speedP_bd d h.pu
  have sp2 := o.sp2; have p1 := o.pu1
  have m := speed_max (d := d) (p := h.pu) (x := speedP d h.pu + 1) (by omega) (by omega)
  have f := speed_fit (p := h.pu) d0
  have q := stopP_nonneg (speedP d h.pu) h.pu b.1 p1
  refine ⟨by omega, ?_⟩
  have f2 := speed_fit (d := d - speedP d h.pu) (p := h.pu) (by omega)
  have b2 := speedP_bd (d - speedP d h.pu) h.pu
  by_cases c : speedP (d - speedP d h.pu) h.pu ≤ speedP d h.pu
  · exact c
  · have l := fit_lt (x := speedP d h.pu) (y := speedP (d - speedP d h.pu) h.pu) (p := h.pu) b.1 (by omega) p1
    have e : stopP (speedP d h.pu + 1) h.pu ≤ speedP d h.pu + stopP (speedP d h.pu) h.pu := by
      by_cases c2 : h.pu ≤ speedP d h.pu + 1
      · rw [stop_down p1 c2]
        have := stop_le (speedP d h.pu + 1 - h.pu) (speedP d h.pu) h.pu (by omega) (by omega) p1
        omega
      · rw [stop_low (by omega) p1 (by omega)]; omega
    omega
/-- How long who follows that speed still takes. -/
def fol (h : Hs) (d : Int) : Int := speedP d h.pu / h.pu + 2 + (if 0 < d - speedP d h.pu - stopP (speedP d h.pu) h.pu then 1 else 0)
theorem brake_there {h : Hs} (o : h.Ok) {k : Nat} {d v : Int} (c : d ≤ h.lv ∧ v ≤ h.br) : flB h (k + 1) d v = true := by
  by_cases c1 : v = 0 ∧ d ≤ h.lv
  · exact flB_there c1
  · rw [flB_go c1]
    have e : nV h d v = 0 := by unfold nV; rw [if_pos c]
    unfold nD
    rw [e]
    exact flB_there ⟨rfl, by omega⟩
theorem fol_there {h : Hs} (o : h.Ok) (k : Nat) : ∀ d v, Fg h d v → speedP d h.pu ≤ v → fol h d ≤ k → flB h k d v = true := by
  have p1 := o.pu1; have p2 := o.pu2; have sp2 := o.sp2; have br1 := o.br1; have lv1 := o.lv1
  induction k with
  | zero =>
    intro d v g hs hf
    have b := speedP_bd d h.pu
    have q := quot_bd (speedP d h.pu) h.pu b.1 p1
    unfold fol at hf
    split at hf <;> omega
  | succ k ih =>
    intro d v g hs hf
    by_cases c1 : v = 0 ∧ d ≤ h.lv
    · exact flB_there c1
    by_cases c2 : d ≤ h.lv ∧ v ≤ h.br
    · exact brake_there o c2
    have d0 := g.d0 o; have v1 := g.v1
    have eV : nV h d v = speedP d h.pu := by unfold nV; rw [if_neg c2]; omega
    have gn := g.next o
    rw [flB_go c1]
    unfold nD at gn ⊢
    rw [eV] at gn ⊢
    have sn := speed_next o d0 (by omega)
    have b := speedP_bd d h.pu
    have fit := speed_fit (p := h.pu) d0
    have b' := speedP_bd (d - speedP d h.pu) h.pu
    have fit' := speed_fit (d := d - speedP d h.pu) (p := h.pu) (gn.d0 o)
    have mx' := fun x => speed_max (d := d - speedP d h.pu) (p := h.pu) (x := x)
    have ge' := fun x => speed_ge (d := d - speedP d h.pu) (p := h.pu) (x := x)
    have ihn := ih _ _ gn sn.2
    have q := quot_bd (speedP d h.pu) h.pu b.1 p1
    have ss := stop_succ (speedP d h.pu) h.pu b.1 p1
    unfold fol at hf ihn
    generalize es : speedP d h.pu = s at *
    generalize es' : speedP (d - s) h.pu = s' at *
    by_cases c3 : s < h.pu
    · -- the last two ticks
      have z1 := stop_low (v := s) b.1 p1 (by omega)
      have z2 := stop_low (v := s + 1) (by omega) p1 (by omega)
      have dz : d - s = 0 := by omega
      obtain ⟨k', rfl⟩ : ∃ k', k = k' + 1 := ⟨k - 1, by split at hf <;> omega⟩
      rw [dz]
      exact brake_there o ⟨lv1, by omega⟩
    · have e1 := stop_down (v := s) p1 (by omega)
      have e2 := quot_shift s h.pu p1
      have ss2 := stop_succ (s - h.pu) h.pu (by omega) p1
      have q2 := quot_bd (s - h.pu) h.pu (by omega) p1
      have e4 : stopP (s + 1) h.pu = (s + 1 - h.pu) + stopP (s + 1 - h.pu) h.pu := stop_down p1 (by omega)
      rw [show s + 1 - h.pu = s - h.pu + 1 by omega] at e4
      by_cases c4 : d - s - stopP s h.pu < s / h.pu
      · have f1 := ge' (s - h.pu) (by omega) (by omega)
        have f2 : s' = s - h.pu := by
          by_cases c5 : s' = s - h.pu
          · exact c5
          · have := fit_lt (x := s - h.pu) (y := s') (p := h.pu) (by omega) (by omega) p1
            have := stop_le (s - h.pu + 1) s' h.pu (by omega) (by omega) p1
            omega
        refine ihn ?_
        rw [f2]
        split at hf <;> split <;> omega
      · have f1 := ge' (s - h.pu + 1) (by omega) (by omega)
        have f2 : s' = s - h.pu + 1 := by
          by_cases c5 : s' = s - h.pu + 1
          · exact c5
          · have := fit_lt (x := s - h.pu + 1) (y := s') (p := h.pu) (by omega) (by omega) p1
            omega
        refine ihn ?_
        have mono : (s - h.pu + 1) / h.pu ≤ s / h.pu := Int.ediv_le_ediv (by omega) (by omega)
        rw [f2]
        split at hf <;> split <;> omega
theorem fol_le {h : Hs} (o : h.Ok) {d : Int} (s2 : speedP d h.pu ≤ h.sp) : fol h d ≤ h.sp / h.pu + 3 := by
  have p1 := o.pu1
  have m : speedP d h.pu / h.pu ≤ h.sp / h.pu := Int.ediv_le_ediv (by omega) s2
  unfold fol
  split <;> omega
/-- How long a flight takes at most. -/
def flM (h : Hs) (d v : Int) : Int := (h.sp - v + h.pu - 1) / h.pu + d / h.sp + h.sp / h.pu + 5
theorem fl_there {h : Hs} (o : h.Ok) (k : Nat) : ∀ d v, Fg h d v → flM h d v ≤ k → flB h k d v = true := by
  have p1 := o.pu1; have p2 := o.pu2; have sp1 := o.sp1; have sp2 := o.sp2; have br1 := o.br1; have lv1 := o.lv1
  have qs := quot_bd h.sp h.pu (by omega) p1
  induction k with
  | zero =>
    intro d v g hf
    have a := quot_bd (h.sp - v + h.pu - 1) h.pu (by have := g.v1; omega) p1
    have b := quot_bd d h.sp (g.d0 o) sp1
    unfold flM at hf; omega
  | succ k ih =>
    intro d v g hf
    have d0 := g.d0 o; have v1 := g.v1; have v0 := g.v0
    have a := quot_bd (h.sp - v + h.pu - 1) h.pu (by omega) p1
    have b := quot_bd d h.sp d0 sp1
    by_cases c0 : speedP d h.pu ≤ v
    · exact fol_there o (k + 1) d v g c0 (by have := fol_le o (d := d) (by omega); unfold flM at hf; omega)
    by_cases c1 : v = 0 ∧ d ≤ h.lv
    · exact flB_there c1
    by_cases c2 : d ≤ h.lv ∧ v ≤ h.br
    · exact brake_there o c2
    have gn := g.next o
    rw [flB_go c1]
    have fit := speed_fit (p := h.pu) d0
    by_cases c3 : speedP d h.pu ≤ v + h.pu ∧ speedP d h.pu ≤ h.sp
    · have eV : nV h d v = speedP d h.pu := by unfold nV; rw [if_neg c2]; omega
      unfold nD at gn ⊢
      rw [eV] at gn ⊢
      have sn := speed_next o d0 c3.2
      refine fol_there o k _ _ gn sn.2 ?_
      have := fol_le o (d := d - speedP d h.pu) (by omega)
      unfold flM at hf
      omega
    · refine ih _ _ gn ?_
      have gd := gn.d0 o
      unfold nD at gd ⊢
      unfold flM at hf ⊢
      by_cases c4 : v + h.pu ≤ h.sp
      · have eV : nV h d v = v + h.pu := by unfold nV; rw [if_neg c2]; omega
        rw [eV] at gd ⊢
        have e := quot_shift (h.sp - v + h.pu - 1) h.pu p1
        have m : (d - (v + h.pu)) / h.sp ≤ d / h.sp := Int.ediv_le_ediv (by omega) (by omega)
        rw [show h.sp - (v + h.pu) + h.pu - 1 = h.sp - v + h.pu - 1 - h.pu by omega]
        omega
      · have eV : nV h d v = h.sp := by unfold nV; rw [if_neg c2]; omega
        rw [eV] at gd ⊢
        have e := quot_shift d h.sp sp1
        have z : (h.sp - h.sp + h.pu - 1) / h.pu = 0 := Int.ediv_eq_zero_of_lt (by omega) (by omega)
        rw [z]
        omega
/-- The nearer the sooner. -/
theorem fl_mono {h : Hs} (o : h.Ok) (k : Nat) : ∀ D V d v, Fg h D V → Fg h d v → d ≤ D → v ≤ V → (V = v ∨ speedP d h.pu ≤ v) → flB h k D V = true → flB h k d v = true ∧ flN h k d v ≤ flN h k D V := by
  have p1 := o.pu1; have p2 := o.pu2; have sp1 := o.sp1; have sp2 := o.sp2; have br1 := o.br1; have lv1 := o.lv1
  induction k with
  | zero =>
    intro D V d v G g hd hv hr t
    have c : V = 0 ∧ D ≤ h.lv := by simpa [flB] using t
    have v0 := g.v0
    exact ⟨flB_there ⟨by omega, by omega⟩, Int.le_refl _⟩
  | succ k ih =>
    intro D V d v G g hd hv hr t
    have v0 := g.v0; have v1 := g.v1; have d0 := g.d0 o; have V1 := G.v1; have D0 := G.d0 o
    by_cases c : v = 0 ∧ d ≤ h.lv
    · exact ⟨flB_there c, by rw [flN_there c]; exact (flN_bd h _ _ _).1⟩
    have C : ¬ (V = 0 ∧ D ≤ h.lv) := by omega
    rw [flB_go C] at t
    rw [flB_go c, flN_go c, flN_go C]
    have gn := g.next o; have Gn := G.next o
    have lift : ∀ {a b : Int}, flB h k (nD h d v) (nV h d v) = true ∧ a ≤ b → flB h k (nD h d v) (nV h d v) = true ∧ 1 + a ≤ 1 + b := fun x => ⟨x.1, by omega⟩
    by_cases b : d ≤ h.lv ∧ v ≤ h.br
    · have e : nV h d v = 0 := by unfold nV; rw [if_pos b]
      have th : nV h d v = 0 ∧ nD h d v ≤ h.lv := ⟨e, by unfold nD; omega⟩
      exact ⟨flB_there th, by rw [flN_there th]; have := (flN_bd h k (nD h D V) (nV h D V)).1; omega⟩
    have B : ¬ (D ≤ h.lv ∧ V ≤ h.br) := by omega
    have sm := speed_mono (p := h.pu) d0 hd
    have ev : nV h d v = min (v + h.pu) (min h.sp (speedP d h.pu)) := by unfold nV; rw [if_neg b]
    have eV : nV h D V = min (V + h.pu) (min h.sp (speedP D h.pu)) := by unfold nV; rw [if_neg B]
    have bs := speedP_bd d h.pu
    by_cases a : nV h d v = speedP d h.pu
    · have sn := speed_next o d0 (by omega)
      refine lift (ih _ _ _ _ Gn gn ?_ (by omega) (Or.inr ?_) t)
      · by_cases e : nV h D V = speedP d h.pu
        · unfold nD; omega
        · have l := stop_le (speedP d h.pu + 1) (nV h D V) h.pu (by omega) (by omega) p1
          have := Gn.st
          unfold nD at this ⊢
          rw [a]; omega
      · unfold nD; rw [a]; exact sn.2
    · have e : nV h D V = nV h d v := by omega
      exact lift (ih _ _ _ _ Gn gn (by unfold nD; omega) (by omega) (Or.inl e) t)

/-- A car on its way to a floor: so far away, so fast. -/
structure Fl (h : Hs) (f : Int) (c : Cs) (d v : Int) : Prop where
  dz : c.door = 0
  g : Fg h d v
  at_ : (c.pos = h.level f - d ∧ c.vel = v ∧ h.low ≤ c.pos) ∨ (c.pos = h.level f + d ∧ c.vel = -v ∧ c.pos ≤ h.high)
theorem level_in {h : Hs} (o : h.Ok) {f : Int} (f1 : -1 ≤ f) (f2 : f ≤ h.fl) : h.low ≤ h.level f ∧ h.level f ≤ h.high := by
  have rm := o.room_bd; have r1 := o.rf1; have g1 := o.gp1; have a1 := o.fl1
  unfold Hs.level Hs.low Hs.high
  have t : 0 ≤ (h.fl - 1) * h.gp := Int.mul_nonneg (by omega) (by omega)
  split
  · omega
  · split
    · omega
    · have m1 : 0 ≤ f * h.gp := Int.mul_nonneg (by omega) (by omega)
      have m2 : f * h.gp ≤ (h.fl - 1) * h.gp := Int.mul_le_mul_of_nonneg_right (by omega) (by omega)
      omega
theorem Fl.car {h : Hs} (hf : h.fault = 0) {f : Int} {c : Cs} {d v : Int} (f1 : -1 ≤ f) (f2 : f ≤ h.fl) (F : Fl h f c d v) : h.carC c = 0 := by
  have o : h.Ok := Hs.ok_of (Hs.fault_zero hf).1
  have l := level_in o f1 f2
  have d0 := F.g.d0 o; have v0 := F.g.v0; have v1 := F.g.v1; have dz := F.dz; have e1 := o.do1
  unfold Hs.carC
  have r : h.carR c = true := by
    unfold Hs.carR
    simp only [Bool.and_eq_true, inB_iff]
    rcases F.at_ with ⟨a, b, e⟩ | ⟨a, b, e⟩
    · exact ⟨⟨by omega, by omega⟩, ⟨by omega, by omega⟩, by omega, by omega⟩
    · exact ⟨⟨by omega, by omega⟩, ⟨by omega, by omega⟩, by omega, by omega⟩
  rw [if_pos r, if_neg (by omega)]
theorem Fl.reach {h : Hs} (o : h.Ok) {f : Int} {c : Cs} {d v : Int} (F : Fl h f c d v) : Hs.reachB h c f = decide (v = 0 ∧ d ≤ h.lv) := by
  have d0 := F.g.d0 o
  unfold Hs.reachB Hs.near absI
  rcases F.at_ with ⟨a, b, e⟩ | ⟨a, b, e⟩
  · rw [b]
    by_cases z : v = 0 <;> by_cases y : d ≤ h.lv <;> simp [z, y] <;> split <;> omega
  · rw [b]
    by_cases z : v = 0 <;> by_cases y : d ≤ h.lv <;> simp [z, y] <;> split <;> omega
theorem clip_id {m v : Int} (h1 : -m ≤ v) (h2 : v ≤ m) : clip m v = v := by unfold clip; rw [if_neg (by omega), if_neg (by omega)]
theorem upP_nV {h : Hs} (o : h.Ok) {d v : Int} (g : Fg h d v) (c : ¬ (d ≤ h.lv ∧ v ≤ h.br)) : v + Hs.upP h v d = nV h d v := by
  have p1 := o.pu1; have p2 := o.pu2; have sl := speed_low o g; have v0 := g.v0; have v1 := g.v1; have b := speedP_bd d h.pu
  unfold Hs.upP Hs.want nV
  rw [if_neg c, clip_id (by omega) (by omega)]
  omega
theorem Fl.step {h : Hs} (o : h.Ok) {f : Int} {c : Cs} {d v : Int} (f1 : -1 ≤ f) (f2 : f ≤ h.fl) (F : Fl h f c d v) : Fl h f (stepC h c (Hs.forC h c f) 0) (nD h d v) (nV h d v) := by
  have d0 := F.g.d0 o; have v0 := F.g.v0; have v1 := F.g.v1; have dz := F.dz; have br1 := o.br1; have p1 := o.pu1; have lv1 := o.lv1
  have l := level_in o f1 f2
  have gn := F.g.next o
  have nb := nV_bd o F.g
  have nd := gn.d0 o
  refine ⟨step_door dz, gn, ?_⟩
  have eo : (Hs.forC h c f).opn = false := by unfold Hs.forC; split; rfl; split <;> rfl
  have av : absI c.vel = v := by unfold absI; rcases F.at_ with ⟨a, b, e⟩ | ⟨a, b, e⟩ <;> (rw [b]; split <;> omega)
  have ad : absI (h.level f - c.pos) = d := by unfold absI; rcases F.at_ with ⟨a, b, e⟩ | ⟨a, b, e⟩ <;> (rw [a]; split <;> omega)
  unfold stepC
  rw [eo, if_neg (by simp [dz])]
  by_cases c2 : d ≤ h.lv ∧ v ≤ h.br
  · have eV : nV h d v = 0 := by unfold nV; rw [if_pos c2]
    have ef : Hs.forC h c f = ⟨0, true, false⟩ := by unfold Hs.forC; rw [av, ad, if_pos c2]
    rw [ef, if_pos (Or.inl rfl)]
    have eb : brk c.vel h.br = 0 := by unfold brk; rcases F.at_ with ⟨a, b, e⟩ | ⟨a, b, e⟩ <;> (rw [b]; split <;> (split <;> omega))
    rw [eb]
    unfold nD
    rw [eV]
    rcases F.at_ with ⟨a, b, e⟩ | ⟨a, b, e⟩
    · exact Or.inl ⟨by dsimp only; omega, rfl, by dsimp only; omega⟩
    · exact Or.inr ⟨by dsimp only; omega, by simp, by dsimp only; omega⟩
  · have up := upP_nV o F.g c2
    have nz : ¬ d = 0 := by
      intro z
      have := F.g.st
      by_cases y : h.pu < v
      · have := stop_down (v := v) p1 (by omega)
        have := stopP_nonneg (v - h.pu) h.pu (by omega) p1
        omega
      · omega
    rcases F.at_ with ⟨a, b, e⟩ | ⟨a, b, e⟩
    · have ef : Hs.forC h c f = ⟨Hs.upP h v d, false, false⟩ := by
        unfold Hs.forC
        rw [av, ad, if_neg c2, if_neg (by omega), b, show h.level f - c.pos = d by omega]
      rw [ef, if_neg (by simp)]
      dsimp only
      rw [b, show v + Hs.upP h v d + 0 = nV h d v by omega, clip_id (by omega) nb.2]
      unfold nD at nd ⊢
      exact Or.inl ⟨by omega, rfl, by omega⟩
    · have ef : Hs.forC h c f = ⟨-(Hs.upP h v d), false, false⟩ := by
        unfold Hs.forC
        rw [av, ad, if_neg c2, if_pos (by omega), b, show -(h.level f - c.pos) = d by omega, show - -v = v by omega]
      rw [ef, if_neg (by simp)]
      dsimp only
      rw [b, show -v + -(Hs.upP h v d) + 0 = -(nV h d v) by omega, clip_id (by omega) (by omega)]
      unfold nD at nd ⊢
      exact Or.inr ⟨by omega, rfl, by omega⟩
/-- A run is a flight. -/
theorem run_fl {h : Hs} (hf : h.fault = 0) {f : Int} (f1 : -1 ≤ f) (f2 : f ≤ h.fl) (t : Int) (k : Nat) : ∀ c n d v, Fl h f c d v → n + k = t → ∃ c' d' v', Hs.runK h f t k c n = (0, n + flN h k d v, c') ∧ Fl h f c' d' v' ∧ Hs.reachB h c' f = flB h k d v := by
  have o : h.Ok := Hs.ok_of (Hs.fault_zero hf).1
  induction k with
  | zero =>
    intro c n d v F e
    exact ⟨c, d, v, by rw [runK_stop (by omega)]; simp [flN], F, by rw [F.reach o]; rfl⟩
  | succ k ih =>
    intro c n d v F e
    by_cases hc : v = 0 ∧ d ≤ h.lv
    · have r : Hs.reachB h c f = true := by rw [F.reach o]; exact decide_eq_true hc
      exact ⟨c, d, v, by rw [runK_stop (by simp [r]), flN_there hc]; simp, F, by rw [r, flB_there hc]⟩
    · have r : Hs.reachB h c f = false := by rw [F.reach o]; exact decide_eq_false hc
      have F2 := F.step o f1 f2
      obtain ⟨c', d', v', e1, e2, e3⟩ := ih _ (n + 1) _ _ F2 (by omega)
      refine ⟨c', d', v', ?_, e2, by rw [e3, flB_go hc]⟩
      rw [runK_go ⟨by omega, r⟩ (F2.car hf f1 f2), e1, flN_go hc, Int.add_assoc]
theorem fl_start {h : Hs} (o : h.Ok) {f p : Int} (l1 : h.low ≤ p) (l2 : p ≤ h.high) : Fl h f ⟨p, 0, 0⟩ (absI (h.level f - p)) 0 := by
  have s1 := o.sp1
  refine ⟨rfl, ⟨Int.le_refl _, by omega, by rw [stopP_zero]; unfold absI; split <;> omega⟩, ?_⟩
  unfold absI
  split
  · exact Or.inr ⟨by dsimp only; omega, rfl, l2⟩
  · exact Or.inl ⟨by dsimp only; omega, rfl, l1⟩
/-- A flight is there within the bound. -/
theorem run_bound {h : Hs} (o : h.Ok) {d : Int} (d0 : 0 ≤ d) (d1 : d ≤ h.high - h.low) : flB h h.run.toNat d 0 = true := by
  have s1 := o.sp1; have p1 := o.pu1
  refine fl_there o _ d 0 ⟨Int.le_refl _, by omega, by rw [stopP_zero]; exact d0⟩ ?_
  have m1 : d / h.sp ≤ (h.high - h.low + h.sp - 1) / h.sp := Int.ediv_le_ediv (by omega) (by omega)
  have q1 := quot_bd (h.sp - 0 + h.pu - 1) h.pu (by omega) p1
  have q2 := quot_bd h.sp h.pu (by omega) p1
  have q3 := quot_bd (4 * h.sp + h.pu - 1) h.pu (by omega) p1
  have q4 := quot_bd d h.sp d0 s1
  have m2 : (h.sp - 0 + h.pu - 1) / h.pu ≤ (4 * h.sp + h.pu - 1) / h.pu - h.sp / h.pu := by
    generalize (h.sp - 0 + h.pu - 1) / h.pu = x at *
    generalize h.sp / h.pu = y at *
    generalize (4 * h.sp + h.pu - 1) / h.pu = z at *
    by_cases c : x + y ≤ z
    · omega
    · have m := Int.mul_le_mul_of_nonneg_left (show z + 1 ≤ x + y by omega) (show 0 ≤ h.pu by omega)
      rw [Int.mul_add, Int.mul_add] at m
      omega
  unfold flM Hs.run
  omega
end Go.Proofs.Ytgdhbkgpjeedhaa
