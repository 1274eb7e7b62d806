/-
  Blocks and rows behind a mark of two other rows.
-/
import Derived.Test.YtgedakdbcjppnaaGrpR
namespace Go.Proofs.Ytgedakdbcjppnaa
open Go.RowKit Pl
set_option linter.unusedSimpArgs false
set_option linter.unusedVariables false

theorem OwnD.of {W w : World} {B : Nat} {v : Value} {l : List Dk} (h : OwnD W B v l) (hb : ∀ k, v.ownBlock = some k → w.heap[k]? = W.heap[k]?) : OwnD w B v l := by
  refine ⟨h.1, ?_⟩
  rcases h.2 with hn | ⟨g, cap, cur, rfl, hB, hg, rest⟩
  · exact Or.inl hn
  · exact Or.inr ⟨g, cap, cur, rfl, hB, (hb g rfl).trans hg, rest⟩
theorem Own.of {W w : World} {B : Nat} {v : Value} {l : List Pe} (h : Own W B v l) (hb : ∀ k, v.ownBlock = some k → w.heap[k]? = W.heap[k]?) : Own w B v l := by
  refine ⟨h.1, ?_⟩
  rcases h.2 with hn | ⟨g, cap, cur, rfl, hB, hg, rest⟩
  · exact Or.inl hn
  · exact Or.inr ⟨g, cap, cur, rfl, hB, (hb g rfl).trans hg, rest⟩
theorem Blk.turn {W w : World} {b : Nat} {vs : List Value} {u v : Value} (a : Blk W b vs) (t : Turn2 W w u v) (hu : u.ownBlock ≠ some b) (hv : v.ownBlock ≠ some b) : Blk w b vs := a.of (t.block b a.lt (fun e => hu e.symm) (fun e => hv e.symm))
theorem OwnD.turn {W w : World} {B : Nat} {x u v : Value} {l : List Dk} (h : OwnD W B x l) (t : Turn2 W w u v) (hu : ∀ k, x.ownBlock = some k → u.ownBlock ≠ some k) (hv : ∀ k, x.ownBlock = some k → v.ownBlock ≠ some k) : OwnD w B x l :=
  h.of (fun k hk => t.block k (h.lt k hk).2 (fun e => hu k hk e.symm) (fun e => hv k hk e.symm))
theorem Own.turn {W w : World} {B : Nat} {x u v : Value} {l : List Pe} (h : Own W B x l) (t : Turn2 W w u v) (hu : ∀ k, x.ownBlock = some k → u.ownBlock ≠ some k) (hv : ∀ k, x.ownBlock = some k → v.ownBlock ≠ some k) : Own w B x l :=
  h.of (fun k hk => t.block k (h.lt k hk).2 (fun e => hu k hk e.symm) (fun e => hv k hk e.symm))
/-- An own slice can be read. -/
theorem OwnD.din {w : World} {B n c : Nat} {a : Option Addr} {l : List Dk} (h : OwnD w B (.slice a n c) l) : DIn w w.heap.size a l := by
  obtain ⟨a', c', e, hd⟩ := h.pin
  injection e with e1
  subst e1
  exact hd
theorem Own.din {w : World} {B n c : Nat} {a : Option Addr} {l : List Pe} (h : Own w B (.slice a n c) l) : PIn w w.heap.size a l := by
  rcases h.cases with ⟨e, hl⟩ | ⟨g, cap, e, hB, hg, _⟩
  · subst hl
    injection e with e1
    subst e1
    exact Or.inl rfl
  · injection e with e1 e2 e3
    subst e1 e2 e3
    refine Or.inr ⟨g, 0, rfl, hg, fun i p hp => ?_⟩
    rw [Nat.zero_add]
    exact (Own.ow h).p7 hp
theorem Own.base' {w : World} {B C : Nat} {v : Value} {l : List Pe} (h : Own w B v l) (hC : C ≤ B) : Own w C v l := by
  refine ⟨h.1, ?_⟩
  rcases h.2 with hn | ⟨g, cap, cur, e, hB, rest⟩
  · exact Or.inl hn
  · exact Or.inr ⟨g, cap, cur, e, Nat.le_trans hC hB, rest⟩
theorem Turn2.below' {B : Nat} {a w w' : World} {u v : Value} (k : Turn2 w w' u v) (h : Below B a w) (hu : ∀ j, u.ownBlock = some j → B ≤ j) (hv : ∀ j, v.ownBlock = some j → B ≤ j) (hB : B ≤ w.heap.size := by omega) : Below B a w' := Turn2.below h k hu hv hB
end Go.Proofs.Ytgedakdbcjppnaa
