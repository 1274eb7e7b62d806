/-
  Floors that are held, given back, left: in plain.
-/
import Derived.Test.YtpfihpplpefikaaSpanL
import Derived.Test.YtpfihpplpefikaaGrow
namespace Go.Proofs.Ytpfihpplpefikaa
open Go.RowKit Pl Go.Maps
set_option linter.unusedSimpArgs false
set_option linter.unusedVariables false

/-- Who holds a floor of two spans: the first z of the lower one's; then the upper one's too. -/
def loS (x : Ss) (z : Int) (f : Int) : Option Int := if x.l.lo ≤ f ∧ f < z then some 0 else none
def upS (x : Ss) (z : Int) (f : Int) : Option Int := if x.l.lo ≤ f ∧ f ≤ x.l.hi then some 0 else if x.u.lo ≤ f ∧ f < z then some 1 else none
theorem loS_next {x : Ss} {z : Int} (h : x.l.lo ≤ z) : (fun g => if g = z then some 0 else loS x z g) = loS x (z + 1) := by
  funext g
  unfold loS
  by_cases e : g = z
  · rw [if_pos e, if_pos (by omega)]
  · rw [if_neg e]
    by_cases c : x.l.lo ≤ g ∧ g < z
    · rw [if_pos c, if_pos (by omega)]
    · rw [if_neg c, if_neg (by omega)]
theorem upS_start {x : Ss} : loS x (x.l.hi + 1) = upS x x.u.lo := by
  funext g
  unfold loS upS
  by_cases c : x.l.lo ≤ g ∧ g ≤ x.l.hi
  · rw [if_pos (by omega), if_pos c]
  · rw [if_neg (by omega), if_neg c, if_neg (by omega)]
theorem upS_next {x : Ss} {z : Int} (k : x.l.hi < x.u.lo) (h : x.u.lo ≤ z) : (fun g => if g = z then some 1 else upS x z g) = upS x (z + 1) := by
  funext g
  unfold upS
  by_cases e : g = z
  · rw [if_pos e, if_neg (by omega), if_pos (by omega)]
  · rw [if_neg e]
    by_cases c : x.l.lo ≤ g ∧ g ≤ x.l.hi
    · rw [if_pos c, if_pos c]
    · rw [if_neg c, if_neg c]
      by_cases d : x.u.lo ≤ g ∧ g < z
      · rw [if_pos d, if_pos (by omega)]
      · rw [if_neg d, if_neg (by omega)]
/-- Is the floor f in what the car c covers? -/
def inCB (cv : Ss) (c f : Int) : Bool := if c = 0 then !(decide (f < cv.l.lo) || decide (cv.l.hi < f)) else !(decide (f < cv.u.lo) || decide (cv.u.hi < f))
/-- What is held while floors are still to come: those, and who is covered. -/
def midS (S : Int → Option Int) (cv : Ss) (left : Lit → Bool) (f : Int) : Option Int :=
  match S f with
  | none => none
  | some c => if left (key2 f f) = true ∨ inCB cv c f = true then some c else none
def cutM (S : Int → Option Int) (cv : Ss) (f : Int) : Option Int :=
  match S f with
  | none => none
  | some c => if inCB cv c f = true then some c else none
theorem mid_of {S : Int → Option Int} {cv : Ss} {left : Lit → Bool} {f c : Int} (h : midS S cv left f = some c) : S f = some c := by
  unfold midS at h
  split at h
  · cases h
  · rename_i d e
    split at h
    · cases h; exact e
    · cases h
theorem mid_start {D : DataW Unit} {S : Int → Option Int} (t : Told D S) (cv : Ss) : midS S cv (Maps.has D) = S := by
  funext f
  unfold midS
  split
  · rename_i e; exact e.symm
  · rename_i c e
    rw [if_pos (Or.inl (t.some_ f c e).1)]
    exact e.symm
theorem left_other {left : Lit → Bool} {f g : Int} (f1 : -1 ≤ f) (f2 : f ≤ 1000) (g1 : -1 ≤ g) (g2 : g ≤ 1000) (ne : g ≠ f) : (fun z : Lit => left z && !z.sameKey (key2 f f)) (key2 g g) = left (key2 g g) := by
  dsimp only
  rw [sameKey_ne (key_ne g1 g2 f1 f2 ne)]
  simp
theorem left_else {left : Lit → Bool} {f g : Int} (f1 : -1 ≤ f) (f2 : f ≤ 1000) (g1 : -1 ≤ g) (g2 : g ≤ 1000) (ne : g ≠ f) : (left (key2 g g) && !(key2 g g).sameKey (key2 f f)) = left (key2 g g) := left_other f1 f2 g1 g2 ne
theorem left_same {left : Lit → Bool} {f : Int} (f1 : -1 ≤ f) (f2 : f ≤ 1000) : (fun z : Lit => left z && !z.sameKey (key2 f f)) (key2 f f) = false := by
  dsimp only
  rw [WideAt.sameKey_self (key_is f1 f2)]
  simp
theorem mid_keep {S : Int → Option Int} {cv : Ss} {left : Lit → Bool} {f c : Int} (hS : ∀ f c, S f = some c → -1 ≤ f ∧ f ≤ 1000) (e : S f = some c) (k : inCB cv c f = true) : midS S cv (fun z => left z && !z.sameKey (key2 f f)) = midS S cv left := by
  funext g
  unfold midS
  split
  · rfl
  · rename_i d ed
    by_cases ne : g = f
    · subst ne
      rw [e] at ed
      cases ed
      rw [if_pos (Or.inr k), if_pos (Or.inr k)]
    · obtain ⟨a, b⟩ := hS g d ed
      obtain ⟨a', b'⟩ := hS f c e
      rw [left_other a' b' a b ne]
theorem mid_drop {S : Int → Option Int} {cv : Ss} {left : Lit → Bool} {f c : Int} (hS : ∀ f c, S f = some c → -1 ≤ f ∧ f ≤ 1000) (e : S f = some c) (k : inCB cv c f = false) : (fun g => if g = f then none else midS S cv left g) = midS S cv (fun z => left z && !z.sameKey (key2 f f)) := by
  funext g
  obtain ⟨a', b'⟩ := hS f c e
  by_cases ne : g = f
  · subst ne
    rw [if_pos rfl]
    unfold midS
    rw [e]
    dsimp only
    rw [if_neg]
    intro q
    rcases q with q | q
    · have := left_same (left := left) a' b'
      dsimp only at this
      rw [this] at q
      cases q
    · rw [k] at q; cases q
  · rw [if_neg ne]
    unfold midS
    split
    · rfl
    · rename_i d ed
      obtain ⟨a, b⟩ := hS g d ed
      rw [left_other a' b' a b ne]
theorem mid_end {S : Int → Option Int} {cv : Ss} {left : Lit → Bool} (h : ∀ kl, left kl = false) : midS S cv left = cutM S cv := by
  funext g
  unfold midS cutM
  split
  · rfl
  · rw [h]
    simp
/-- What of a span is left, while floors are still to come. -/
structure LeftI (S : Int → Option Int) (car : Int) (had : Sp) (left : Lit → Bool) (g : Sp) : Prop where
  in_ : ∀ f, S f = some car → left (key2 f f) = false → g.lo ≤ f ∧ f ≤ g.hi
  lo_ : g.lo = had.hi ∨ S g.lo = some car
  hi_ : g.hi = had.lo ∨ S g.hi = some car
theorem left_start {D : DataW Unit} {S : Int → Option Int} (t : Told D S) (car : Int) (had : Sp) : LeftI S car had (Maps.has D) ⟨had.hi, had.lo⟩ :=
  ⟨fun f h q => (by rw [(t.some_ f car h).1] at q; cases q), Or.inl rfl, Or.inl rfl⟩
theorem left_grow {S : Int → Option Int} {car : Int} {had g : Sp} {left : Lit → Bool} {f : Int} (a : LeftI S car had left g) (hS : ∀ f c, S f = some c → -1 ≤ f ∧ f ≤ 1000) (e : S f = some car) : LeftI S car had (fun z => left z && !z.sameKey (key2 f f)) (growS g f) := by
  obtain ⟨a', b'⟩ := hS f car e
  refine ⟨fun k hk q => ?_, ?_, ?_⟩
  · show min g.lo f ≤ k ∧ k ≤ max g.hi f
    by_cases ne : k = f
    · omega
    · obtain ⟨b1, b2⟩ := hS k car hk
      rw [left_else a' b' b1 b2 ne] at q
      have := a.in_ k hk q
      omega
  · show min g.lo f = had.hi ∨ S (min g.lo f) = some car
    by_cases c : g.lo ≤ f
    · rw [Int.min_eq_left c]; exact a.lo_
    · rw [Int.min_eq_right (by omega)]; exact Or.inr e
  · show max g.hi f = had.lo ∨ S (max g.hi f) = some car
    by_cases c : f ≤ g.hi
    · rw [Int.max_eq_left c]; exact a.hi_
    · rw [Int.max_eq_right (by omega)]; exact Or.inr e
theorem left_pass {S : Int → Option Int} {car c : Int} {had g : Sp} {left : Lit → Bool} {f : Int} (a : LeftI S car had left g) (hS : ∀ f c, S f = some c → -1 ≤ f ∧ f ≤ 1000) (e : S f = some c) (ne : c ≠ car) : LeftI S car had (fun z => left z && !z.sameKey (key2 f f)) g := by
  obtain ⟨a', b'⟩ := hS f c e
  refine ⟨fun k hk q => ?_, a.lo_, a.hi_⟩
  by_cases nk : k = f
  · subst nk
    rw [e] at hk
    cases hk
    exact absurd rfl ne
  · obtain ⟨b1, b2⟩ := hS k car hk
    rw [left_else a' b' b1 b2 nk] at q
    exact a.in_ k hk q
/-- What is left at the end: the span cut to what is covered, or the span. -/
def keptS (had g : Sp) : Sp := if g.hi < g.lo then had else g
theorem kept_cut {S : Int → Option Int} {car : Int} {had cv g : Sp} {left : Lit → Bool} (a : LeftI S car had left g) (hl : ∀ kl, left kl = false) (hh : had.lo ≤ had.hi) (iff : ∀ f, S f = some car ↔ (had.lo ≤ f ∧ f ≤ had.hi) ∧ (cv.lo ≤ f ∧ f ≤ cv.hi)) : keptS had g = cutS had cv := by
  obtain ⟨p, q⟩ : (g.lo = had.hi ∨ ((had.lo ≤ g.lo ∧ g.lo ≤ had.hi) ∧ (cv.lo ≤ g.lo ∧ g.lo ≤ cv.hi))) ∧ (g.hi = had.lo ∨ ((had.lo ≤ g.hi ∧ g.hi ≤ had.hi) ∧ (cv.lo ≤ g.hi ∧ g.hi ≤ cv.hi))) :=
    ⟨a.lo_.imp id (iff _).1, a.hi_.imp id (iff _).1⟩
  unfold keptS cutS
  obtain ⟨hlo, hhi⟩ := had
  obtain ⟨clo, chi⟩ := cv
  obtain ⟨glo, ghi⟩ := g
  dsimp only at *
  by_cases c : min hhi chi < max hlo clo
  · rw [if_pos c]
    by_cases d : ghi < glo
    · rw [if_pos d]
    · rw [if_neg d, Sp.mk.injEq]; omega
  · rw [if_neg c]
    have i1 := a.in_ (max hlo clo) ((iff _).2 (by omega)) (hl _)
    have i2 := a.in_ (min hhi chi) ((iff _).2 (by omega)) (hl _)
    dsimp only at i1 i2
    rw [if_neg (by omega), Sp.mk.injEq]
    omega
theorem cut_lo {x cv : Ss} (k : x.l.hi < x.u.lo) (z : Int) (f : Int) : cutM (upS x z) cv f = some 0 ↔ (x.l.lo ≤ f ∧ f ≤ x.l.hi) ∧ (cv.l.lo ≤ f ∧ f ≤ cv.l.hi) := by
  unfold cutM upS inCB
  by_cases c : x.l.lo ≤ f ∧ f ≤ x.l.hi
  · simp only [if_pos c]
    simp
    omega
  · simp only [if_neg c]
    by_cases d : x.u.lo ≤ f ∧ f < z
    · simp only [if_pos d]
      simp
      omega
    · simp only [if_neg d]
      simp
      omega
theorem cut_up {x cv : Ss} (k : x.l.hi < x.u.lo) (f : Int) : cutM (upS x (x.u.hi + 1)) cv f = some 1 ↔ (x.u.lo ≤ f ∧ f ≤ x.u.hi) ∧ (cv.u.lo ≤ f ∧ f ≤ cv.u.hi) := by
  unfold cutM upS inCB
  by_cases c : x.l.lo ≤ f ∧ f ≤ x.l.hi
  · simp only [if_pos c]
    simp
    omega
  · simp only [if_neg c]
    by_cases d : x.u.lo ≤ f ∧ f < x.u.hi + 1
    · simp only [if_pos d]
      simp
      omega
    · simp only [if_neg d]
      simp
      omega
theorem cutM_car {S : Int → Option Int} {cv : Ss} {f c : Int} (h : cutM S cv f = some c) : S f = some c := by
  unfold cutM at h
  split at h
  · cases h
  · rename_i d e
    split at h
    · cases h; exact e
    · cases h
theorem upS_car {x : Ss} {z f c : Int} (h : upS x z f = some c) : c = 0 ∨ c = 1 := by
  unfold upS at h
  split at h
  · cases h; exact Or.inl rfl
  · split at h
    · cases h; exact Or.inr rfl
    · cases h
end Go.Proofs.Ytpfihpplpefikaa
