/-
  Zones: masks of floors, in plain numbers.
-/
import Derived.Test.YtnpnlckdggakmaaFnd
namespace Go.Proofs.Ytnpnlckdggakmaa.Pl
set_option linter.unusedSimpArgs false
set_option linter.unusedVariables false

/-- The floors of a mask, of the lowest n, rising. -/
def flsN (n m : Nat) : List Nat := (List.range n).filter (fun f => m.testBit f)
def fls (n m : Nat) : List Int := (flsN n m).map (fun f : Nat => (f : Int))
theorem bit_lt {m n f : Nat} (h : m < 2 ^ n) (hf : n ≤ f) : m.testBit f = false := Nat.testBit_lt_two_pow (Nat.lt_of_lt_of_le h (Nat.pow_le_pow_right (by decide) hf))
theorem flsN_succ (n m : Nat) : flsN (n + 1) m = flsN n m ++ (if m.testBit n = true then [n] else []) := by
  unfold flsN
  rw [List.range_succ, List.filter_append]
  congr 1
  cases h : m.testBit n <;> simp [h]
theorem flsN_cut {m n : Nat} (h : m < 2 ^ n) : ∀ d, flsN (n + d) m = flsN n m
  | 0 => rfl
  | d + 1 => by
    rw [← Nat.add_assoc, flsN_succ, bit_lt h (by omega), flsN_cut h d]
    simp
theorem fls_cut {m n k : Nat} (h : m < 2 ^ n) (hk : n ≤ k) : fls k m = fls n m := by
  obtain ⟨d, rfl⟩ : ∃ d, k = n + d := ⟨k - n, by omega⟩
  unfold fls
  rw [flsN_cut h d]
theorem flsN_len (n m : Nat) : (flsN n m).length ≤ n := by
  have := List.length_filter_le (fun f => m.testBit f) (List.range n)
  rw [List.length_range] at this
  exact this
theorem fls_len (n m : Nat) : (fls n m).length ≤ n := by unfold fls; rw [List.length_map]; exact flsN_len n m
theorem mem_flsN {n m f : Nat} : f ∈ flsN n m ↔ f < n ∧ m.testBit f = true := by
  unfold flsN
  rw [List.mem_filter, List.mem_range]
theorem mem_fls {n m : Nat} {x : Int} : x ∈ fls n m ↔ ∃ f : Nat, x = f ∧ f < n ∧ m.testBit f = true := by
  unfold fls
  rw [List.mem_map]
  constructor
  · rintro ⟨f, hf, rfl⟩
    exact ⟨f, rfl, (mem_flsN.1 hf).1, (mem_flsN.1 hf).2⟩
  · rintro ⟨f, rfl, h1, h2⟩
    exact ⟨f, mem_flsN.2 ⟨h1, h2⟩, rfl⟩
theorem fls_nil {n m : Nat} (h : m < 2 ^ n) : fls n m = [] ↔ m = 0 := by
  constructor
  · intro e
    apply Nat.eq_of_testBit_eq
    intro i
    rw [Nat.zero_testBit]
    by_cases hi : i < n
    · cases hb : m.testBit i with
      | false => rfl
      | true =>
        have : (i : Int) ∈ fls n m := mem_fls.2 ⟨i, rfl, hi, hb⟩
        rw [e] at this
        cases this
    · exact bit_lt h (by omega)
  · rintro rfl
    unfold fls flsN
    simp
/-- The mask of floors. -/
def maskN (l : List Int) : Nat := l.foldl (fun m f => m ||| 2 ^ f.toNat) 0
theorem maskN_snoc (l : List Int) (x : Int) : maskN (l ++ [x]) = maskN l ||| 2 ^ x.toNat := by unfold maskN; rw [List.foldl_append]; rfl
theorem mask_bit {l : List Int} (f : Nat) (h : ∀ x ∈ l, 0 ≤ x) : (maskN l).testBit f = true ↔ (f : Int) ∈ l := by
  have key : ∀ (l : List Int) (a : Nat), (∀ x ∈ l, 0 ≤ x) → ((l.foldl (fun m f => m ||| 2 ^ f.toNat) a).testBit f = true ↔ a.testBit f = true ∨ (f : Int) ∈ l) := by
    intro l
    induction l with
    | nil => intro a _; simp
    | cons x l ih =>
      intro a hl
      rw [List.foldl_cons, ih _ (fun y hy => hl y (List.mem_cons_of_mem _ hy)), Nat.testBit_or, Bool.or_eq_true, List.mem_cons, Nat.testBit_two_pow]
      have hx := hl x (List.mem_cons_self ..)
      have e : (decide (x.toNat = f) = true) ↔ (f : Int) = x := by
        rw [decide_eq_true_iff]
        omega
      rw [e, or_assoc]
  have := key l 0 h
  rw [Nat.zero_testBit] at this
  simpa [maskN] using this
theorem maskN_lt {l : List Int} {n : Nat} (h : ∀ x ∈ l, 0 ≤ x ∧ x < n) : maskN l < 2 ^ n := by
  apply Nat.lt_pow_two_of_testBit
  intro i hi
  cases hb : (maskN l).testBit i with
  | false => rfl
  | true =>
    have := (mask_bit i (fun x hx => (h x hx).1)).1 hb
    have := (h _ this).2
    omega
theorem mask_fls {n m : Nat} (h : m < 2 ^ n) : maskN (fls n m) = m := by
  apply Nat.eq_of_testBit_eq
  intro i
  have e := mask_bit (l := fls n m) i (fun x hx => by obtain ⟨f, rfl, _⟩ := mem_fls.1 hx; omega)
  have e2 : ((i : Int) ∈ fls n m) ↔ m.testBit i = true := by
    rw [mem_fls]
    constructor
    · rintro ⟨f, e, h1, h2⟩
      have : i = f := by omega
      subst this
      exact h2
    · intro hb
      by_cases hi : i < n
      · exact ⟨i, rfl, hi, hb⟩
      · rw [bit_lt h (by omega)] at hb; cases hb
  rw [e2] at e
  cases h1 : (maskN (fls n m)).testBit i <;> cases h2 : m.testBit i <;> simp_all
/-- The nearest of floors: of two the first. -/
def nearL (l : List Int) (f b : Int) : Int := l.foldl (fun b x => if (x - f).natAbs < (b - f).natAbs then x else b) b
theorem nearL_snoc (l : List Int) (x f b : Int) : nearL (l ++ [x]) f b = if (x - f).natAbs < (nearL l f b - f).natAbs then x else nearL l f b := by unfold nearL; rw [List.foldl_append]; rfl
theorem nearL_far {l : List Int} {f b : Int} (x : Int) (h : (x - f).natAbs < (b - f).natAbs) : nearL (x :: l) f b = nearL (x :: l) f x := by
  show nearL l f (if (x - f).natAbs < (b - f).natAbs then x else b) = nearL l f (if (x - f).natAbs < (x - f).natAbs then x else x)
  rw [if_pos h, if_neg (Nat.lt_irrefl _)]
theorem nearL_mem : ∀ (l : List Int) (f b : Int), nearL l f b = b ∨ nearL l f b ∈ l
  | [], _, _ => Or.inl rfl
  | x :: l, f, b => by
    have e : nearL (x :: l) f b = nearL l f (if (x - f).natAbs < (b - f).natAbs then x else b) := rfl
    rw [e]
    split
    · rcases nearL_mem l f x with e | e
      · right; rw [e]; exact List.mem_cons_self ..
      · right; exact List.mem_cons_of_mem _ e
    · rcases nearL_mem l f b with e | e
      · left; exact e
      · right; exact List.mem_cons_of_mem _ e
theorem nearL_le : ∀ (l : List Int) (f b : Int), (nearL l f b - f).natAbs ≤ (b - f).natAbs ∧ ∀ x ∈ l, (nearL l f b - f).natAbs ≤ (x - f).natAbs
  | [], _, _ => ⟨Nat.le_refl _, fun x hx => by cases hx⟩
  | y :: l, f, b => by
    have e : nearL (y :: l) f b = nearL l f (if (y - f).natAbs < (b - f).natAbs then y else b) := rfl
    rw [e]
    split
    · rename_i c
      obtain ⟨h1, h2⟩ := nearL_le l f y
      refine ⟨by omega, fun x hx => ?_⟩
      rcases List.mem_cons.1 hx with rfl | hx
      · exact h1
      · exact h2 x hx
    · rename_i c
      obtain ⟨h1, h2⟩ := nearL_le l f b
      refine ⟨h1, fun x hx => ?_⟩
      rcases List.mem_cons.1 hx with rfl | hx
      · omega
      · exact h2 x hx
/-- How many zones have a floor. -/
def cntZ (zs : List Nat) (f : Nat) : Nat := zs.countP (fun z => z.testBit f)
def onceN (zs : List Nat) : Nat := zs.foldl (fun m z => m ||| z) 0
/-- What one has, what two have. -/
def twoN (zs : List Nat) : Nat × Nat := zs.foldl (fun p z => (p.1 ||| z, p.2 ||| (p.1 &&& z))) (0, 0)
theorem onceN_snoc (zs : List Nat) (z : Nat) : onceN (zs ++ [z]) = onceN zs ||| z := by unfold onceN; rw [List.foldl_append]; rfl
theorem twoN_snoc (zs : List Nat) (z : Nat) : twoN (zs ++ [z]) = ((twoN zs).1 ||| z, (twoN zs).2 ||| ((twoN zs).1 &&& z)) := by unfold twoN; rw [List.foldl_append]; rfl
theorem rev_ind {α : Type} {p : List α → Prop} (h0 : p []) (h1 : ∀ l x, p l → p (l ++ [x])) : ∀ l, p l := by
  intro l
  have : ∀ n (l : List α), l.length = n → p l := by
    intro n
    induction n with
    | zero => intro l hl; rw [List.eq_nil_of_length_eq_zero hl]; exact h0
    | succ n ih =>
      intro l hl
      have hne : l ≠ [] := fun e => by rw [e] at hl; simp at hl
      rw [← List.dropLast_concat_getLast hne]
      exact h1 _ _ (ih _ (by rw [List.length_dropLast]; omega))
  exact this _ l rfl
theorem cnt_snoc (zs : List Nat) (z f : Nat) : cntZ (zs ++ [z]) f = cntZ zs f + (if z.testBit f = true then 1 else 0) := by
  unfold cntZ
  rw [List.countP_append, List.countP_singleton]
theorem two_bit (zs : List Nat) (f : Nat) : ((twoN zs).1.testBit f = decide (1 ≤ cntZ zs f)) ∧ ((twoN zs).2.testBit f = decide (2 ≤ cntZ zs f)) := by
  refine rev_ind (p := fun zs => ((twoN zs).1.testBit f = decide (1 ≤ cntZ zs f)) ∧ ((twoN zs).2.testBit f = decide (2 ≤ cntZ zs f))) ?_ ?_ zs
  · simp [twoN, cntZ]
  · intro l x ⟨h1, h2⟩
    rw [twoN_snoc, cnt_snoc]
    dsimp only
    rw [Nat.testBit_or, Nat.testBit_or, Nat.testBit_and, h1, h2]
    cases x.testBit f with
    | false => simp
    | true =>
      simp only [if_true, Bool.or_true, Bool.and_true, ← Bool.decide_or]
      constructor
      · exact (decide_eq_true (by omega)).symm
      · exact decide_eq_decide.2 (by omega)
theorem once_two (zs : List Nat) : onceN zs = (twoN zs).1 := by
  refine rev_ind (p := fun zs => onceN zs = (twoN zs).1) rfl ?_ zs
  intro l x h
  rw [onceN_snoc, twoN_snoc, h]
theorem once_bit (zs : List Nat) (f : Nat) : (onceN zs).testBit f = decide (1 ≤ cntZ zs f) := by rw [once_two]; exact (two_bit zs f).1
/-- The mask of the floors below 12 of which something holds. -/
def ofB (p : Nat → Bool) (n : Nat) : Nat := (List.range n).foldl (fun m f => m ||| (if p f = true then 2 ^ f else 0)) 0
theorem ofB_succ (p : Nat → Bool) (n : Nat) : ofB p (n + 1) = ofB p n ||| (if p n = true then 2 ^ n else 0) := by
  unfold ofB
  rw [List.range_succ, List.foldl_append]
  rfl
theorem ofB_bit (p : Nat → Bool) (n f : Nat) : (ofB p n).testBit f = (decide (f < n) && p f) := by
  induction n with
  | zero => simp [ofB]
  | succ n ih =>
    rw [ofB_succ, Nat.testBit_or, ih]
    by_cases e : f = n
    · subst e
      cases h : p f <;> simp [h, Nat.testBit_two_pow]
    · have : (if p n = true then 2 ^ n else 0).testBit f = false := by
        split
        · rw [Nat.testBit_two_pow]; simp; omega
        · simp
      rw [this, Bool.or_false]
      congr 1
      exact decide_eq_decide.2 (by omega)
theorem ofB_lt (p : Nat → Bool) (n : Nat) : ofB p n < 2 ^ n := by
  apply Nat.lt_pow_two_of_testBit
  intro i hi
  rw [ofB_bit, decide_eq_false (by omega), Bool.false_and]
theorem ofB_self {m n : Nat} (h : m < 2 ^ n) : ofB (fun f => m.testBit f) n = m := by
  apply Nat.eq_of_testBit_eq
  intro i
  rw [ofB_bit]
  by_cases hi : i < n
  · rw [decide_eq_true hi, Bool.true_and]
  · rw [decide_eq_false hi, bit_lt h (by omega)]; rfl
end Go.Proofs.Ytnpnlckdggakmaa.Pl
