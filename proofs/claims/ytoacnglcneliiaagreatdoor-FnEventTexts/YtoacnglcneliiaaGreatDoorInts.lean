/-
  Rows of numbers: read, compared, marked, held; a result of numbers in a block.
-/
import Derived.Test.YtoacnglcneliiaaGreatDoorFnd
import Derived.Deep.RegionHeld3
import Derived.BigGuardPart
import Derived.OwnWalk
import Derived.Laws.OwnMore
namespace Go.Proofs.YtoacnglcneliiaaGreatDoor
open Go.RowKit Pl
set_option linter.unusedSimpArgs false
set_option linter.unusedVariables false

theorem row_below {W w : World} {B C : Nat} {e : TypeId} {size n : Nat} {v : Value} {xs : List Value} (h : W.ownsRow B e size v n xs) (hb : Below C W w) (hC : ∀ k, v.ownBlock = some k → k < C) : w.ownsRow B e size v n xs := by
  refine ⟨h.1, ?_⟩
  rcases h.2 with hn | ⟨g, cap, cur, rfl, hB, hg, rest⟩
  · exact Or.inl hn
  · exact Or.inr ⟨g, cap, cur, rfl, hB, (hb.block g (hC g rfl)).trans hg, rest⟩
theorem row_base {w : World} {B C : Nat} {e : TypeId} {size n : Nat} {v : Value} {xs : List Value} (h : w.ownsRow B e size v n xs) (hC : C ≤ B) : w.ownsRow C e size v n xs := by
  refine ⟨h.1, ?_⟩
  rcases h.2 with hn | ⟨g, cap, cur, e', hB, rest⟩
  · exact Or.inl hn
  · exact Or.inr ⟨g, cap, cur, e', Nat.le_trans hC hB, rest⟩
theorem row_other {w : World} {B : Nat} {e : TypeId} {size n : Nat} {v : Value} {xs : List Value} (h : w.ownsRow B e size v n xs) {p : Addr} (hne : v.ownBlock ≠ some p.block) (u : Value) : (w.setCell p u).ownsRow B e size v n xs := by
  refine World.ownsRow.kept (row := some p.block) h ⟨rfl, rfl, rfl, by simp [World.setCell], fun i _ hne => ?_⟩ (Or.inr hne)
  exact Below.heap_setCell _ _ _ _ (fun e => hne (by rw [e]))
/-- Numbers in a row of their own. -/
def intsV (l : List Int) : List Value := l.map (fun n => .int .i64 n)
def OwI (w : World) (B : Nat) (v : Value) (l : List Int) : Prop := w.ownsRow B 2 1 v l.length (intsV l)
theorem OwI.below {W w : World} {B C : Nat} {v : Value} {l : List Int} (h : OwI W B v l) (hb : Below C W w) (hC : ∀ k, v.ownBlock = some k → k < C) : OwI w B v l := row_below h hb hC
theorem OwI.lt {w : World} {B : Nat} {v : Value} {l : List Int} (h : OwI w B v l) : ∀ k, v.ownBlock = some k → B ≤ k ∧ k < w.heap.size := World.ownsRow.lt h
theorem OwI.alloc {w : World} {B : Nat} {v : Value} {l : List Int} (h : OwI w B v l) (o : Obj) : OwI (w.alloc o) B v l := World.ownsRow.alloc h o
theorem OwI.drew {w : World} {B : Nat} {v : Value} {l : List Int} (h : OwI w B v l) : OwI w.drew B v l := h
theorem OwI.base {w : World} {B C : Nat} {v : Value} {l : List Int} (h : OwI w B v l) (hC : C ≤ B) : OwI w C v l := row_base h hC
theorem OwI.kept {w w' : World} {B : Nat} {v : Value} {l : List Int} {row : Option Nat} (h : OwI w B v l) (hg : w.grownBy w' row) (hne : v.ownBlock = none ∨ v.ownBlock ≠ row) : OwI w' B v l := World.ownsRow.kept h hg hne
theorem OwI.other {w : World} {B : Nat} {v : Value} {l : List Int} (h : OwI w B v l) {p : Addr} (hne : v.ownBlock ≠ some p.block) (u : Value) : OwI (w.setCell p u) B v l := row_other h hne u
theorem OwI.sl {w : World} {B : Nat} {v : Value} {l : List Int} (h : OwI w B v l) : ∃ a cap, v = .slice a l.length cap := by
  rcases h.2 with ⟨e, hn⟩ | ⟨g, cap, cur, e, _⟩
  · exact ⟨none, 0, by rw [hn]; exact e⟩
  · exact ⟨_, _, e⟩
theorem OwI.cell {w : World} {B g n cap : Nat} {l : List Int} (h : OwI w B (.slice (some ⟨g, 0, none⟩) n cap) l) {i : Nat} {x : Int} (hx : l[i]? = some x) : w.cell? ⟨g, i, none⟩ = some (.int .i64 x) := by
  have hn : n = l.length := by
    obtain ⟨a', c', e⟩ := h.sl
    simp at e
    exact e.2.1
  subst hn
  have hi : i < l.length := (List.getElem?_eq_some_iff.1 hx).1
  refine (World.ownsRow.cellAt h i (by omega)).trans ?_
  simp [intsV, hx]
theorem OwI.fz {w : World} {B g n cap : Nat} {l : List Int} (h : OwI w B (.slice (some ⟨g, 0, none⟩) n cap) l) (k : Nat) : w.frozen? ⟨g, k, none⟩ = false := by
  have hn : n = l.length := by
    obtain ⟨a', c', e⟩ := h.sl
    simp at e
    exact e.2.1
  subst hn
  exact World.ownsRow.frozenAt h k
theorem OwI.set {w : World} {B g cap : Nat} {l : List Int} (h : OwI w B (.slice (some ⟨g, 0, none⟩) l.length cap) l) (i : Nat) (x : Int) : OwI (w.setCell ⟨g, i, none⟩ (.int .i64 x)) B (.slice (some ⟨g, 0, none⟩) l.length cap) (l.set i x) := by
  have a := (World.ownsRow.stored h i (.int .i64 x)).1
  have e : (intsV l).set i (.int .i64 x) = intsV (l.set i x) := by simp [intsV, List.map_set]
  rw [e] at a
  unfold OwI
  rw [List.length_set]
  exact a
theorem info64 : (Tryz.prog.info? 2).map (fun i => (i.zero, i.size, i.bytes)) = some (some (.int .i64 0), 1, 8) := by kernel_rfl
theorem undI64S : Tryz.prog.underlying 36 = some (.slice 2) := by kernel_rfl
theorem owi_nil (w : World) (B : Nat) : OwI w B (.slice none 0 0) [] := World.ownsRow_nil w B _ 1
theorem one_new (w : World) (x : Int) (T : TypeId) : ∀ j u, ([Value.int .i64 x] : List Value)[j]? = some u → (w.alloc (.cells #[.int .i64 x] T)).cell? ((⟨w.heap.size, 0, none⟩ : Addr).add j) = some u := by
  intro j u hu
  cases j with
  | zero =>
    simp at hu
    subst hu
    simp [Addr.add]
  | succ j => simp at hu
theorem one_cell (x : Int) : ∀ u ∈ ([Value.int .i64 x] : List Value), u.oneCell' = true := by
  intro u hu
  simp at hu
  subst hu
  rfl
/-- Numbers that can be read. -/
def IIn (w : World) (a : Option Addr) (l : List Int) : Prop := l = [] ∨ ∃ g, a = some ⟨g, 0, none⟩ ∧ g < w.heap.size ∧ ∀ i x, l[i]? = some x → w.cell? ⟨g, i, none⟩ = some (.int .i64 x)
theorem OwI.cases {w : World} {B : Nat} {v : Value} {l : List Int} (h : OwI w B v l) : (v = .slice none 0 0 ∧ l = []) ∨ ∃ g cap, v = .slice (some ⟨g, 0, none⟩) l.length cap := by
  rcases h.2 with ⟨e, hn⟩ | ⟨g, cap, cur, e, _⟩
  · exact Or.inl ⟨e, List.eq_nil_of_length_eq_zero hn⟩
  · exact Or.inr ⟨g, cap, e⟩
theorem OwI.iin {w : World} {B n cap : Nat} {a : Option Addr} {l : List Int} (h : OwI w B (.slice a n cap) l) : IIn w a l := by
  rcases h.cases with ⟨_, hl⟩ | ⟨g, cap', e⟩
  · exact Or.inl hl
  · injection e with e1 e2 e3
    subst e1
    exact Or.inr ⟨g, rfl, (h.lt g rfl).2, fun i x hx => h.cell hx⟩
theorem IIn.below {W w : World} {a : Option Addr} {l : List Int} (h : IIn W a l) (hb : Below W.heap.size W w) : IIn w a l := by
  rcases h with h | ⟨g, e, hg, hc⟩
  · exact Or.inl h
  · exact Or.inr ⟨g, e, Nat.lt_of_lt_of_le hg hb.size, fun i x hx => (hb.cell (p := ⟨g, i, none⟩) hg).trans (hc i x hx)⟩
structure Two (w : World) (g g' i : Nat) (x : Int) : Prop where
  c0 : w.cell? ⟨g, i, none⟩ = some (.int .i64 x)
  c1 : w.cell? ⟨g', i, none⟩ = some (.int .i64 x)
  l0 : g < w.heap.size
  l1 : g' < w.heap.size
theorem Two.lt {w : World} {g g' i : Nat} {x : Int} (a : Two w g g' i x) : max g g' < w.heap.size := by have := a.l0; have := a.l1; omega
theorem Two.below {W w : World} {g g' i B : Nat} {x : Int} (a : Two W g g' i x) (hb : Below B W w) (hB : max g g' < B) : Two w g g' i x := ⟨(hb.cell (p := ⟨g, i, none⟩) (show g < B by omega)).trans a.c0, (hb.cell (p := ⟨g', i, none⟩) (show g' < B by omega)).trans a.c1, Nat.lt_of_lt_of_le a.l0 hb.size, Nat.lt_of_lt_of_le a.l1 hb.size⟩
end Go.Proofs.YtoacnglcneliiaaGreatDoor
