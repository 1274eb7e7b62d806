/-
  What was seen: StatesOf, the model.
-/
import Derived.Test.YtdklllfafafmeaaEvN
import Derived.Test.YtdklllfafafmeaaEvS
import Derived.Test.YtdklllfafafmeaaEvR
namespace Go.Proofs.Ytdklllfafafmeaa
open Go.RowKit Pl
set_option linter.unusedSimpArgs false
set_option linter.unusedVariables false

theorem C1.other {W : World} {b o k q : Nat} {x : Int} {u : Value} (a : C1 W b o x) (hne : b ≠ k) : C1 (W.setCell ⟨k, q, none⟩ u) b o x := ⟨(World.cell?_of_block (w := W) (Below.heap_setCell W ⟨k, q, none⟩ u b hne)).trans a.c⟩
theorem own_size {w : World} {B : Nat} {v : Value} {l : List Int} (h : OwI w B v l) (hl : 0 < l.length) : B ≤ w.heap.size := by
  rcases h.cases with ⟨_, h0⟩ | ⟨g, c, e⟩
  · rw [h0] at hl; simp at hl
  · have := h.lt g (by rw [e]; rfl)
    omega
theorem wp_append_v {w : World} {a : Act} {K : Act → World → Prop} {Q : Exit → Act → World → Prop} {s x : Operand} {dst : Option Tmp} {ty : TypeId} {ps : String} {af : Array Edge}
    (B : Nat) (v : Value) (l : List Int) (q : Int) (hs : a.eval s = v) (hown : OwI w B v l) (nb : Nat) (hx : a.eval x = .slice (some ⟨nb, 0, none⟩) 1 1)
    (hq : w.cell? ⟨nb, 0, none⟩ = some (.int .i64 q)) (hlen : l.length ≤ 1000) (hB : B ≤ w.heap.size)
    (h : ∀ v' w', OwI w' B v' (l ++ [q]) → w.grownBy w' v.ownBlock → K (a.put dst v') w') :
    Oper.wp Try.prog { dst := dst, op := .call { callee := .builtin .append, args := #[s, x], argTypes := #[26, 26] }, type := ty, pos := ps, after := af, guard := none } a w K Q := by
  obtain ⟨i, hi, hz, hsz, hby⟩ := info_parts info64
  have hnews : ∀ j u, ([.int .i64 q] : List Value)[j]? = some u → w.cell? ((⟨nb, 0, none⟩ : Addr).add j) = some u := by
    intro j u hu
    cases j with
    | zero =>
      have hu' : Value.int .i64 q = u := by simpa using hu
      subst hu'
      simpa [Addr.add] using hq
    | succ j => simp at hu
  refine wp_append_own (P := Try.prog) w s x 26 rfl B 2 i (.int .i64 0) 1 8 undI64S hi hz hsz hby rfl (by omega) _ l.length (intsV l) hs hown ⟨nb, 0, none⟩ 1 1 [.int .i64 q] hx rfl hnews (one_cell q) (by unfold maxLen; omega) (by omega) hB ?_
  intro v' w' ho hg hn
  refine h v' w' ?_ hg
  unfold OwI
  have e : intsV (l ++ [q]) = intsV l ++ [.int .i64 q] := by simp [intsV]
  rw [List.length_append, e]
  exact ho
end Go.Proofs.Ytdklllfafafmeaa
