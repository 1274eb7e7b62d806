/-
  A ledger (a number and a slice of people) that came in by value.
-/
import Derived.Test.YtbapfdoijjiomaaDoorFnd
import Derived.ChangeArms
import Derived.Deep.Slices
namespace Go.Proofs.YtbapfdoijjiomaaDoor
open Go.ChangeShapes Go.WideShapes Go.ChangeAt Go.RowKit Go.Joins Pl
set_option linter.unusedSimpArgs false
set_option linter.unusedVariables false

/-- Every number of a person is a number of int64. -/
def wfP (p : Pe) : Prop := ∀ x ∈ [p.id, p.fr, p.tw, p.sh, p.ca, p.st, p.pl], (Lit.int .i64 x).wf = true
def wfL (l : List Pe) : Prop := ∀ p ∈ l, wfP p

theorem list7 {l : List Int} (h : l.length = 7) : ∃ a b c d e f g : Int, l = [a, b, c, d, e, f, g] := by
  match l, h with
  | [a, b, c, d, e, f, g], _ => exact ⟨a, b, c, d, e, f, g, rfl⟩

theorem add_at (b o n : Nat) : (⟨b, o, none⟩ : Addr).add n = ⟨b, o + n, none⟩ := by
  unfold Addr.add
  by_cases h : n = 0 <;> simp [h]

theorem open_led {H : Type} {enc : TypeId × Value → H} {P : Program} {w : World} {base : Nat} {spare : Nat → Bool} {held : Bool} {r : Reach} {b0 : Nat} {t ts te k : TypeId} {fs gs : Array Field} {f0 f1 : Field} {v : Value} {d : DataW H} {p : List MemPlace}
    (hs : P.underlying t = some (.struct fs)) (hsl : P.underlying ts = some (.slice te)) (hg : P.underlying te = some (.struct gs)) (hk : P.underlying k = some (.int .i64)) (hck : P.cellsOf k = 1) (hcs : P.cellsOf ts = 1) (hf : plainFields gs k 7 = true) (hC : P.cellsOf te = 7) (hCC : P.cellsOf t = 2)
    (h0 : fs[0]? = some f0) (t0 : f0.type = k) (o0 : f0.offset = 0) (h1 : fs[1]? = some f1) (t1 : f1.type = ts) (o1 : f1.offset = 1)
    (hv : Value.okWide P w r b0 t v) (h : DataW.Trod enc P w base spare held t v d p) :
    ∃ (x : Lg) (a : Option Addr) (cap : Nat), v = .agg #[.int .i64 x.nx, .slice a x.ps.length cap] ∧ (Lit.int .i64 x.nx).wf = true ∧ wfL x.ps ∧ x.ps.length ≤ maxLen ∧ PIn w w.heap.size a x.ps := by
  obtain ⟨cs, rfl, _⟩ := okWide_struct hs hv
  obtain ⟨fuel, hfu⟩ := h
  obtain ⟨zs, m, _, _, hl, hxl, hall⟩ := DataW.trod_struct hs hfu
  have hl' : cs.toList.length = 2 := by simpa [Value.cells] using hl.trans hCC
  have a0 := hall 0 f0 h0
  have a1 := hall 1 f1 h1
  have z0 : 0 < zs.length := by rw [hxl]; exact (Array.getElem?_eq_some_iff.1 h0).1
  have z1 : 1 < zs.length := by rw [hxl]; exact (Array.getElem?_eq_some_iff.1 h1).1
  rw [List.getElem?_eq_getElem z0, t0, o0, hck] at a0
  rw [List.getElem?_eq_getElem z1, t1, o1, hcs] at a1
  obtain ⟨nx, e0, _, wn⟩ := DataW.trod_int hk a0
  have key : ∀ u : Value, (List.take 1 (List.drop 1 (Value.agg cs).cells.toList)) = [u] → cs = #[.int .i64 nx, u] := by
    intro u hu
    simp only [Value.cells, List.drop_zero] at e0 hu
    have : cs.toList = [.int .i64 nx, u] := by
      match hcl : cs.toList, hl' with
      | [y, z], _ =>
        rw [hcl] at e0 hu
        simp at e0 hu
        rw [e0, hu]
    rw [← this]
  rcases Go.Deep.open_slice hsl a1 with ⟨e1, _⟩ | ⟨a, len, cap, mm, n, D, Pq, e1, hb, hle, hm, hmm, -, hx⟩
  · exact ⟨⟨nx, []⟩, none, 0, by rw [key _ e1]; rfl, wn, fun p hp => absurd hp (List.not_mem_nil), Nat.zero_le _, Or.inl rfl⟩
  · have lm : len ≤ mm := by rw [hmm]; split <;> omega
    have : Inhabited Pe := ⟨⟨0, 0, 0, 0, 0, 0, 0⟩⟩
    obtain ⟨f, hf'⟩ := Go.Deep.choose_lt (α := Pe) (n := len) (p := fun i p => wfP p ∧ ∀ c, c < 7 → w.cell? ((a.add (i * 7)).add c) = [Value.int .i64 p.id, .int .i64 p.fr, .int .i64 p.tw, .int .i64 p.sh, .int .i64 p.ca, .int .i64 p.st, .int .i64 p.pl][c]?) (fun i hi => by
      obtain ⟨cs', g1, g2⟩ := hx i (by omega)
      obtain ⟨xs, x1, x2, x3⟩ := trod_i64s hg hk hck hf hC g2
      obtain ⟨c0, c1, c2, c3, c4, c5, c6, rfl⟩ := list7 x1
      rw [hC] at g1
      obtain ⟨_, _, g3⟩ := World.cells?_some g1
      refine ⟨⟨c0, c1, c2, c3, c4, c5, c6⟩, x3, fun c hc => ?_⟩
      rw [g3 c hc, x2]
      rfl)
    refine ⟨⟨nx, (List.range len).map f⟩, some a, cap, by rw [key _ e1]; simp, wn, ?_, by simp; omega, ?_⟩
    · intro p hp
      obtain ⟨i, hi, rfl⟩ := List.mem_map.1 hp
      exact (hf' i (List.mem_range.1 hi)).1
    · by_cases hz : len = 0
      · left; simp [hz]
      · right
        obtain ⟨b, o, sp⟩ := a
        have hsp : sp = none := by simpa [Addr.add] using World.cell?_spot ((hf' 0 (by omega)).2 0 (by omega))
        subst hsp
        refine ⟨b, o, rfl, ?_, ?_⟩
        · have := (hf' 0 (by omega)).2 0 (by omega)
          simp only [add_at] at this
          exact World.block_lt_of_cell? w _ this
        · intro i p hp
          have hi : i < len := by
            have := (List.getElem?_eq_some_iff.1 hp).1
            simpa using this
          have ep : f i = p := by simpa [hi] using hp
          have hc := (hf' i hi).2
          rw [ep] at hc
          simp only [add_at] at hc
          exact ⟨hc 0 (by omega), hc 1 (by omega), hc 2 (by omega), hc 3 (by omega), hc 4 (by omega), hc 5 (by omega), hc 6 (by omega)⟩
end Go.Proofs.YtbapfdoijjiomaaDoor
