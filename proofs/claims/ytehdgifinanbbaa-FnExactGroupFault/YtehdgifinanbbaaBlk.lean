/-
  A block of one's own that holds a list of values, and may be written.
-/
import Derived.Test.YtehdgifinanbbaaCellsP
import Derived.Laws.Tables
import Derived.Laws.Rows
import Derived.Deep.WholeRow
namespace Go.Proofs.Ytehdgifinanbbaa
open Go.RowKit Pl
set_option linter.unusedSimpArgs false
set_option linter.unusedVariables false

structure Blk (w : World) (b : Nat) (vs : List Value) : Prop where
  o : ∃ T, w.heap[b]? = some (.cells vs.toArray T (0, 0))
theorem Blk.lt {w : World} {b : Nat} {vs : List Value} (a : Blk w b vs) : b < w.heap.size := by
  obtain ⟨T, h⟩ := a.o
  exact (Array.getElem?_eq_some_iff.1 h).1
theorem Blk.c {w : World} {b : Nat} {vs : List Value} (a : Blk w b vs) (k : Nat) (v : Value) (hv : vs[k]? = some v) : w.cell? ⟨b, k, none⟩ = some v := by
  obtain ⟨T, h⟩ := a.o
  simp [World.cell?, h, hv]
theorem Blk.f {w : World} {b : Nat} {vs : List Value} (a : Blk w b vs) (k : Nat) (hk : k < vs.length) : w.frozen? ⟨b, k, none⟩ = false := by
  obtain ⟨T, h⟩ := a.o
  simp [World.frozen?, h]
theorem Blk.of {W w : World} {b : Nat} {vs : List Value} (a : Blk W b vs) (h : w.heap[b]? = W.heap[b]?) : Blk w b vs := by
  obtain ⟨T, hT⟩ := a.o
  exact ⟨T, h.trans hT⟩
theorem Blk.below {W w : World} {b B : Nat} {vs : List Value} (a : Blk W b vs) (hb : Below B W w) (hB : b < B) : Blk w b vs := a.of (hb.block b hB)
theorem Blk.alloc {W : World} {b : Nat} {vs : List Value} (a : Blk W b vs) (o : Obj) : Blk (W.alloc o) b vs := a.of (Below.heap_alloc W o b a.lt)
theorem Blk.drew {W : World} {b : Nat} {vs : List Value} (a : Blk W b vs) : Blk W.drew b vs := a.of rfl
theorem Blk.other {W : World} {b k q : Nat} {u : Value} {vs : List Value} (a : Blk W b vs) (hne : b ≠ k) : Blk (W.setCell ⟨k, q, none⟩ u) b vs := a.of (Below.heap_setCell W _ u b hne)
theorem Blk.grown {W w : World} {b : Nat} {vs : List Value} {row : Option Nat} (a : Blk W b vs) (hg : W.grownBy w row) (hne : some b ≠ row) : Blk w b vs := a.of (hg.block b a.lt hne)
theorem Blk.at_ (w : World) (cs : Array Value) (T : TypeId) (b : Nat) (hb : b = w.heap.size) : Blk (w.alloc (.cells cs T)) b cs.toList := by
  subst hb
  exact ⟨T, by rw [Array.toArray_toList]; exact heap_alloc_new w _⟩
theorem Blk.set {W : World} {b k : Nat} {vs : List Value} (a : Blk W b vs) (u : Value) (_hk : k < vs.length) : Blk (W.setCell ⟨b, k, none⟩ u) b (vs.set k u) := by
  obtain ⟨T, h⟩ := a.o
  refine ⟨T, ?_⟩
  rw [heap_setCell_same W b k _ T u h]
  simp
theorem Blk.row {W : World} {b : Nat} {us : List Value} (a : Blk W b us) (vs : List Value) : Blk (W.setRow b vs.toArray) b vs := by
  obtain ⟨T, h⟩ := a.o
  exact ⟨T, setRow_heap W b _ _ T _ h⟩
theorem Blk.row_other {W : World} {b c : Nat} {us : List Value} (a : Blk W b us) (hne : b ≠ c) (vs : Array Value) : Blk (W.setRow c vs) b us := a.of (setRow_other W c b vs hne)
theorem below_row {B g : Nat} {w0 w : World} (hb : Below B w0 w) (hBg : B ≤ g) (cs : Array Value) : Below B w0 (w.setRow g cs) := hb.trans ⟨rfl, rfl, rfl, by simp, fun k hk => setRow_other w g k cs (by omega)⟩
/-- The whole of such a block is read, or written. -/
theorem load_blk {ops : Array Oper} {rest : List Oper} {o : Oper} {act : Act} {w : World} {Q : Exit → Act → World → Prop} {b : Nat} {vs : List Value} (T : TypeId) (x : Operand) {fs : Array Field} (hu : Try.prog.underlying T = some (.struct fs)) (hi : (Try.prog.info? T).map (·.size) = some vs.toArray.size) (hB : Blk w b vs)
    (hgd : o.guard = none) (ho : o.op = .load T x) (hx : act.eval x = .pointer (some ⟨b, 0, none⟩)) (h : wpList Try.prog ops Q rest (act.put o.dst (.agg vs.toArray)) w) : wpList Try.prog ops Q (o :: rest) act w := by
  obtain ⟨T', h'⟩ := hB.o
  exact wpList_load_row hgd T x ho b hx T' vs.toArray (0, 0) (.struct fs) h' hu rfl hi h
theorem store_blk {ops : Array Oper} {rest : List Oper} {o : Oper} {act : Act} {w : World} {Q : Exit → Act → World → Prop} {b : Nat} {us : List Value} (vs : List Value) (T : TypeId) (x y : Operand) (hi : (Try.prog.info? T).map (·.size) = some vs.toArray.size) (hl : us.toArray.size = vs.toArray.size) (h1 : vs.toArray.all (·.oneCell') = true) (hB : Blk w b us)
    (hgd : o.guard = none) (ho : o.op = .store T x y) (hx : act.eval x = .pointer (some ⟨b, 0, none⟩)) (hy : act.eval y = .agg vs.toArray) (h : wpList Try.prog ops Q rest (act.put o.dst undef) (w.setRow b vs.toArray)) : wpList Try.prog ops Q (o :: rest) act w := by
  obtain ⟨T', h'⟩ := hB.o
  exact wpList_store_row hgd T x y ho b vs.toArray hx hy T' us.toArray h' hi hl h1 h
theorem store_new {ops : Array Oper} {rest : List Oper} {o : Oper} {act : Act} {w : World} {Q : Exit → Act → World → Prop} {us : Array Value} {T' : TypeId} (vs : List Value) (T : TypeId) (x y : Operand) (hi : (Try.prog.info? T).map (·.size) = some vs.toArray.size) (hl : us.size = vs.toArray.size) (h1 : vs.toArray.all (·.oneCell') = true)
    (hgd : o.guard = none) (ho : o.op = .store T x y) (hx : act.eval x = .pointer (some ⟨w.heap.size, 0, none⟩)) (hy : act.eval y = .agg vs.toArray) (h : wpList Try.prog ops Q rest (act.put o.dst undef) (w.alloc (.cells vs.toArray T'))) : wpList Try.prog ops Q (o :: rest) act (w.alloc (.cells us T')) := by
  refine wpList_store_row hgd T x y ho w.heap.size vs.toArray hx hy T' us (heap_alloc_last w _) hi hl h1 ?_
  rw [World.setRow_alloc_new]
  exact h
theorem Blk.res {fn : Func} {p : Tmp} {T : TypeId} {b : Nat} {vs : List Value} {w : World} {fs : Array Field} (hB : Blk w b vs) (tmps : Array Value) (h : fn.results = #[.cell p T]) (hu : Try.prog.underlying T = some (.struct fs)) (hi : (Try.prog.info? T).map (·.size) = some vs.toArray.size) (hp : tmps.getD p undef = .pointer (some ⟨b, 0, none⟩)) :
    (results fn tmps).run Try.prog w = .ok (.agg vs.toArray) w := by
  obtain ⟨T', h'⟩ := hB.o
  exact results_cell_row h tmps w b T' vs.toArray (0, 0) (.struct fs) hp h' hu rfl hi
/-- The values vs are written into the block b, from the cell k on. -/
def putB (W : World) (b : Nat) : Nat → List Value → World
  | _, [] => W
  | k, v :: vs => putB (W.setCell ⟨b, k, none⟩ v) b (k + 1) vs
def setL : Nat → List Value → List Value → List Value
  | _, [], us => us
  | k, v :: vs, us => setL (k + 1) vs (us.set k v)
theorem setL_len : ∀ (vs us : List Value) (k : Nat), (setL k vs us).length = us.length := by
  intro vs
  induction vs with
  | nil => intro us k; rfl
  | cons v vs ih => intro us k; exact (ih (us.set k v) (k + 1)).trans (List.length_set ..)
theorem setL_get : ∀ (vs us : List Value) (k j : Nat), k + vs.length ≤ us.length → (setL k vs us)[j]? = if j < k then us[j]? else if j < k + vs.length then vs[j - k]? else us[j]? := by
  intro vs
  induction vs with
  | nil =>
    intro us k j _
    show us[j]? = _
    split
    · rfl
    · rw [if_neg (by simp; omega)]
  | cons v vs ih =>
    intro us k j h
    simp only [List.length_cons] at h
    show (setL (k + 1) vs (us.set k v))[j]? = _
    rw [ih (us.set k v) (k + 1) j (by rw [List.length_set]; omega)]
    simp only [List.length_cons]
    by_cases c1 : j < k
    · rw [if_pos (by omega), if_pos c1, List.getElem?_set_ne (by omega)]
    · rw [if_neg c1]
      by_cases c2 : j = k
      · subst c2
        rw [if_pos (by omega), if_pos (by omega), List.getElem?_set_self (by omega), Nat.sub_self]
        rfl
      · rw [if_neg (by omega)]
        by_cases c3 : j < k + 1 + vs.length
        · rw [if_pos c3, if_pos (by omega), show j - k = (j - (k + 1)) + 1 by omega]
          rfl
        · rw [if_neg c3, if_neg (by omega), List.getElem?_set_ne (by omega)]
theorem setL_all (vs us : List Value) (h : vs.length = us.length) : setL 0 vs us = vs := by
  apply List.ext_getElem?
  intro j
  rw [setL_get vs us 0 j (by omega), if_neg (by omega)]
  split
  · rfl
  · rw [List.getElem?_eq_none (by omega), List.getElem?_eq_none (by omega)]
theorem putB_set {b : Nat} : ∀ (vs us : List Value) (k : Nat) (W : World), Blk W b us → k + vs.length ≤ us.length → Blk (putB W b k vs) b (setL k vs us) := by
  intro vs
  induction vs with
  | nil => intro us k W h _; exact h
  | cons v vs ih =>
    intro us k W h hk
    simp only [List.length_cons] at hk
    exact ih (us.set k v) (k + 1) _ (h.set v (by omega)) (by rw [List.length_set]; omega)
theorem Blk.put {W : World} {b : Nat} {us : List Value} (a : Blk W b us) (vs : List Value) (h : vs.length = us.length) : Blk (putB W b 0 vs) b vs := by
  have := putB_set vs us 0 W a (by omega)
  rwa [setL_all vs us h] at this
theorem below_putB {B : Nat} {w W : World} (h : Below B w W) {b : Nat} (hb : B ≤ b) : ∀ (vs : List Value) (k : Nat), Below B w (putB W b k vs) := by
  intro vs
  induction vs generalizing W with
  | nil => intro k; exact h
  | cons v vs ih => intro k; exact ih (h.setCell hb _) (k + 1)
theorem Blk.putB_other {W : World} {b c : Nat} {us : List Value} (hne : b ≠ c) : ∀ (vs : List Value) (k : Nat), Blk W b us → Blk (putB W c k vs) b us := by
  intro vs
  induction vs generalizing W with
  | nil => intro k a; exact a
  | cons v vs ih => intro k a; exact ih (k + 1) (a.other hne)
end Go.Proofs.Ytehdgifinanbbaa
