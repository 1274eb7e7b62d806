/-
  A struct of int64 fields that came in by value: its cells are numbers of int64.
-/
import Derived.WalkKit
import Derived.ProofKit
import Derived.OpenShut
import Derived.Lib.SmallJoins
namespace Go.Proofs.Ytklbplaboimanaa
open Go.ChangeShapes Go.WideShapes Go.ChangeAt Go.RowKit Go.Joins

/-- Each of the first n fields is of type k, at the offset of its number. -/
def plainFields (fs : Array Field) (k : TypeId) (n : Nat) : Bool :=
  (List.range n).all fun i => match fs[i]? with
    | some f => f.type == k && f.offset == i
    | none => false

theorem plainFields_at {fs : Array Field} {k : TypeId} {n i : Nat} (h : plainFields fs k n = true) (hi : i < n) : ∃ f, fs[i]? = some f ∧ f.type = k ∧ f.offset = i := by
  unfold plainFields at h
  have := List.all_eq_true.1 h i (List.mem_range.2 hi)
  cases hf : fs[i]? with
  | none => rw [hf] at this; cases this
  | some f => rw [hf] at this; simp at this; exact ⟨f, rfl, this.1, this.2⟩

theorem trod_i64s {H : Type} {enc : TypeId × Value → H} {P : Program} {w : World} {base : Nat} {spare : Nat → Bool} {held : Bool} {fuel : Nat} {t k : TypeId} {fs : Array Field} {n : Nat} {cs : List Value} {x : DataW H × List MemPlace}
    (hs : P.underlying t = some (.struct fs)) (hk : P.underlying k = some (.int .i64)) (hck : P.cellsOf k = 1) (hf : plainFields fs k n = true) (hC : P.cellsOf t = n)
    (hfu : DataW.trod enc P w base spare held fuel t cs = some x) :
    ∃ xs : List Int, xs.length = n ∧ cs = xs.map (Value.int .i64) ∧ ∀ x ∈ xs, (Lit.int .i64 x).wf = true := by
  obtain ⟨xs, m, _, _, hl, hxl, hall⟩ := DataW.trod_struct hs hfu
  have hlen : cs.length = n := hl.trans hC
  have key : ∀ i, i < n → ∃ x : Int, cs[i]? = some (.int .i64 x) ∧ (Lit.int .i64 x).wf = true := by
    intro i hi
    obtain ⟨f, hfi, hft, hfo⟩ := plainFields_at hf hi
    have ht := hall i f hfi
    rw [hft, hfo, hck] at ht
    have hi' : i < xs.length := by
      rw [hxl]
      have := Array.getElem?_eq_some_iff.1 hfi
      exact this.1
    rw [List.getElem?_eq_getElem hi'] at ht
    obtain ⟨a, e0, _, wa⟩ := DataW.trod_int hk ht
    refine ⟨a, ?_, wa⟩
    have hcs : i < cs.length := by omega
    have e1 : (cs.drop i).take 1 = [cs[i]] := by rw [List.drop_eq_getElem_cons hcs]; rfl
    rw [e1] at e0
    rw [List.getElem?_eq_getElem hcs]
    simpa using e0
  refine ⟨cs.map intOf, by simpa using hlen, ?_, ?_⟩
  · apply List.ext_getElem?
    intro i
    by_cases hi : i < n
    · obtain ⟨x, hx, _⟩ := key i hi
      simp only [List.getElem?_map, hx, Option.map_some, intOf]
    · rw [List.getElem?_eq_none (by omega), List.getElem?_eq_none (by simp; omega)]
  · intro x hx
    obtain ⟨c, hc, rfl⟩ := List.mem_map.1 hx
    obtain ⟨i, hi⟩ := List.getElem?_of_mem hc
    have hlt : i < n := by
      by_cases h : i < n
      · exact h
      · rw [List.getElem?_eq_none (by omega)] at hi; cases hi
    obtain ⟨y, hy, wy⟩ := key i hlt
    rw [hy] at hi
    obtain rfl : Value.int .i64 y = c := by simpa using hi
    exact wy

theorem open_i64s {H : Type} {enc : TypeId × Value → H} {P : Program} {w : World} {base : Nat} {spare : Nat → Bool} {held : Bool} {r : Reach} {b0 : Nat} {t k : TypeId} {fs : Array Field} {n : Nat} {v : Value} {d : DataW H} {p : List MemPlace}
    (hs : P.underlying t = some (.struct fs)) (hk : P.underlying k = some (.int .i64)) (hck : P.cellsOf k = 1) (hf : plainFields fs k n = true) (hC : P.cellsOf t = n)
    (hv : Value.okWide P w r b0 t v) (h : DataW.Trod enc P w base spare held t v d p) :
    ∃ xs : List Int, xs.length = n ∧ v = .agg (xs.map (Value.int .i64)).toArray ∧ ∀ x ∈ xs, (Lit.int .i64 x).wf = true := by
  obtain ⟨cs, rfl, _⟩ := okWide_struct hs hv
  obtain ⟨fuel, hfu⟩ := h
  obtain ⟨xs, h1, h2, h3⟩ := trod_i64s hs hk hck hf hC hfu
  refine ⟨xs, h1, ?_, h3⟩
  have e : cs.toList = xs.map (Value.int .i64) := by simpa [Value.cells] using h2
  rw [← e]

/-- A list of twelve, written out. -/
theorem list12 {l : List Int} (h : l.length = 12) : ∃ a b c d e f g i j k m n : Int, l = [a, b, c, d, e, f, g, i, j, k, m, n] := by
  match l, h with
  | [a, b, c, d, e, f, g, i, j, k, m, n], _ => exact ⟨a, b, c, d, e, f, g, i, j, k, m, n, rfl⟩
/-- A list of three, written out. -/
theorem list3 {l : List Int} (h : l.length = 3) : ∃ a b c : Int, l = [a, b, c] := by
  match l, h with
  | [a, b, c], _ => exact ⟨a, b, c, rfl⟩
/-- A list of two, written out. -/
theorem list2 {l : List Int} (h : l.length = 2) : ∃ a b : Int, l = [a, b] := by
  match l, h with
  | [a, b], _ => exact ⟨a, b, rfl⟩
end Go.Proofs.Ytklbplaboimanaa
