/-
  A command (a number and two bools) and a shaft (two cars) that came in by value.
-/
import Derived.Test.YtehdgifinanbbaaOpenI
import Derived.ChangeArms
namespace Go.Proofs.Ytehdgifinanbbaa
open Go.ChangeShapes Go.WideShapes Go.ChangeAt Go.RowKit Go.Joins

/-- Each field is of type ki (true) or kb (false), at the offset of its number. -/
def mixFields (fs : Array Field) (ki kb : TypeId) (ks : List Bool) : Bool :=
  (List.range ks.length).all fun i => match fs[i]?, ks[i]? with
    | some f, some true => f.type == ki && f.offset == i
    | some f, some false => f.type == kb && f.offset == i
    | _, _ => false

theorem trod_mix {H : Type} {enc : TypeId × Value → H} {P : Program} {w : World} {base : Nat} {spare : Nat → Bool} {held : Bool} {fuel : Nat} {t ki kb : TypeId} {fs : Array Field} {ks : List Bool} {cs : List Value} {x : DataW H × List MemPlace}
    (hs : P.underlying t = some (.struct fs)) (hi : P.underlying ki = some (.int .i64)) (hb : P.underlying kb = some .bool) (ci : P.cellsOf ki = 1) (cb : P.cellsOf kb = 1) (hf : mixFields fs ki kb ks = true) (hC : P.cellsOf t = ks.length)
    (hfu : DataW.trod enc P w base spare held fuel t cs = some x) :
    cs.length = ks.length ∧ ∀ i : Nat, (ks[i]? = some true → ∃ a : Int, cs[i]? = some (Value.int .i64 a) ∧ (Lit.int .i64 a).wf = true) ∧ (ks[i]? = some false → ∃ b : Bool, cs[i]? = some (Value.bool b)) := by
  obtain ⟨xs, m, _, _, hl, hxl, hall⟩ := DataW.trod_struct hs hfu
  have hlen : cs.length = ks.length := hl.trans hC
  refine ⟨hlen, fun i => ?_⟩
  have key : ∀ b, ks[i]? = some b → ∃ f : Field, fs[i]? = some f ∧ f.type = (if b then ki else kb) ∧ f.offset = i := by
    intro b hk
    have hi' : i < ks.length := (List.getElem?_eq_some_iff.1 hk).1
    have h := List.all_eq_true.1 hf i (List.mem_range.2 hi')
    rw [hk] at h
    cases hfi : fs[i]? with
    | none => rw [hfi] at h; cases b <;> cases h
    | some f => rw [hfi] at h; cases b <;> (simp at h; exact ⟨f, rfl, by simp [h.1], h.2⟩)
  have cell : ∀ b, ks[i]? = some b → ∃ hcs : i < cs.length, ∃ y, DataW.trod enc P w base spare held m (if b then ki else kb) [cs[i]] = some y := by
    intro b hk
    obtain ⟨f, hfi, hft, hfo⟩ := key b hk
    have hcs : i < cs.length := by rw [hlen]; exact (List.getElem?_eq_some_iff.1 hk).1
    have ht := hall i f hfi
    have hi' : i < xs.length := by
      rw [hxl]
      exact (Array.getElem?_eq_some_iff.1 hfi).1
    have c1 : P.cellsOf f.type = 1 := by rw [hft]; cases b <;> simp [ci, cb]
    rw [hfo, c1, hft] at ht
    rw [List.getElem?_eq_getElem hi'] at ht
    have e1 : (cs.drop i).take 1 = [cs[i]] := by rw [List.drop_eq_getElem_cons hcs]; rfl
    rw [e1] at ht
    exact ⟨hcs, _, ht⟩
  constructor
  · intro hk
    obtain ⟨hcs, y, hy⟩ := cell true hk
    obtain ⟨a, e0, _, wa⟩ := DataW.trod_int hi hy
    exact ⟨a, by rw [List.getElem?_eq_getElem hcs]; simpa using e0, wa⟩
  · intro hk
    obtain ⟨hcs, y, hy⟩ := cell false hk
    obtain ⟨b, e0, _⟩ := DataW.trod_bool hb hy
    exact ⟨b, by rw [List.getElem?_eq_getElem hcs]; simpa using e0⟩

theorem listV3 {l : List Value} (h : l.length = 3) : ∃ a b c : Value, l = [a, b, c] := by
  match l, h with
  | [a, b, c], _ => exact ⟨a, b, c, rfl⟩

theorem open_cmd {H : Type} {enc : TypeId × Value → H} {P : Program} {w : World} {base : Nat} {spare : Nat → Bool} {held : Bool} {r : Reach} {b0 : Nat} {t ki kb : TypeId} {fs : Array Field} {v : Value} {d : DataW H} {p : List MemPlace}
    (hs : P.underlying t = some (.struct fs)) (hi : P.underlying ki = some (.int .i64)) (hb : P.underlying kb = some .bool) (ci : P.cellsOf ki = 1) (cb : P.cellsOf kb = 1) (hf : mixFields fs ki kb [true, false, false] = true) (hC : P.cellsOf t = 3)
    (hv : Value.okWide P w r b0 t v) (h : DataW.Trod enc P w base spare held t v d p) :
    ∃ (a : Int) (b c : Bool), v = .agg #[.int .i64 a, .bool b, .bool c] ∧ (Lit.int .i64 a).wf = true := by
  obtain ⟨cs, rfl, _⟩ := okWide_struct hs hv
  obtain ⟨fuel, hfu⟩ := h
  obtain ⟨hl, hk⟩ := trod_mix hs hi hb ci cb hf (by simpa using hC) hfu
  obtain ⟨a, ha, wa⟩ := (hk 0).1 rfl
  obtain ⟨b, hb'⟩ := (hk 1).2 rfl
  obtain ⟨c, hc⟩ := (hk 2).2 rfl
  refine ⟨a, b, c, ?_, wa⟩
  have e : cs.toList = [.int .i64 a, .bool b, .bool c] := by
    have hl' : cs.toList.length = 3 := by simpa [Value.cells] using hl
    simp only [Value.cells] at ha hb' hc
    obtain ⟨x, y, z, hcs⟩ := listV3 hl'
    rw [hcs] at ha hb' hc
    simp at ha hb' hc
    rw [hcs, ha, hb', hc]
  rw [← e]

theorem open_two {H : Type} {enc : TypeId × Value → H} {P : Program} {w : World} {base : Nat} {spare : Nat → Bool} {held : Bool} {r : Reach} {b0 : Nat} {t tc k : TypeId} {fs gs : Array Field} {f0 f1 : Field} {n : Nat} {v : Value} {d : DataW H} {p : List MemPlace}
    (hs : P.underlying t = some (.struct fs)) (hg : P.underlying tc = some (.struct gs)) (hk : P.underlying k = some (.int .i64)) (hck : P.cellsOf k = 1) (hf : plainFields gs k n = true) (hC : P.cellsOf tc = n) (hCC : P.cellsOf t = n + n)
    (h0 : fs[0]? = some f0) (t0 : f0.type = tc) (o0 : f0.offset = 0) (h1 : fs[1]? = some f1) (t1 : f1.type = tc) (o1 : f1.offset = n)
    (hv : Value.okWide P w r b0 t v) (h : DataW.Trod enc P w base spare held t v d p) :
    ∃ xs ys : List Int, xs.length = n ∧ ys.length = n ∧ v = .agg ((xs ++ ys).map (Value.int .i64)).toArray ∧ (∀ x ∈ xs, (Lit.int .i64 x).wf = true) ∧ ∀ y ∈ ys, (Lit.int .i64 y).wf = true := by
  obtain ⟨cs, rfl, _⟩ := okWide_struct hs hv
  obtain ⟨fuel, hfu⟩ := h
  obtain ⟨zs, m, _, _, hl, hxl, hall⟩ := DataW.trod_struct hs hfu
  have hl' : cs.toList.length = n + n := by simpa [Value.cells] using hl.trans hCC
  have a0 := hall 0 f0 h0
  have a1 := hall 1 f1 h1
  have z0 : 0 < zs.length := by rw [hxl]; exact (Array.getElem?_eq_some_iff.1 h0).1
  have z1 : 1 < zs.length := by rw [hxl]; exact (Array.getElem?_eq_some_iff.1 h1).1
  rw [List.getElem?_eq_getElem z0, t0, o0, hC] at a0
  rw [List.getElem?_eq_getElem z1, t1, o1, hC] at a1
  obtain ⟨xs, x1, x2, x3⟩ := trod_i64s hg hk hck hf hC a0
  obtain ⟨ys, y1, y2, y3⟩ := trod_i64s hg hk hck hf hC a1
  refine ⟨xs, ys, x1, y1, ?_, x3, y3⟩
  have e : cs.toList = (xs ++ ys).map (Value.int .i64) := by
    simp only [Value.cells, List.drop_zero] at x2 y2
    rw [List.map_append, ← x2, ← y2]
    have : (cs.toList.drop n).take n = cs.toList.drop n := List.take_of_length_le (by simp; omega)
    rw [this, List.take_append_drop]
  rw [← e]
end Go.Proofs.Ytehdgifinanbbaa
