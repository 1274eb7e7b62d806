/-
  One number behind a row of one's own.
-/
import Derived.Test.YtnpnlckdggakmaaInts
import Derived.OwnWalk
namespace Go.Proofs.Ytnpnlckdggakmaa
open Go.RowKit Pl
set_option linter.unusedSimpArgs false
set_option linter.unusedVariables false

/-- One number is put behind a row of one's own. -/
theorem app_iG {ops : Array Oper} {rest : List Oper} {o : Oper} {act : Act} {Q : Exit → Act → World → Prop} (W : World) (B : Nat) (v : Value) (l : List Int) (x : Int) (s y : Operand) (hgd : o.guard = none) (hop : o.op = Op.call { callee := Callee.builtin Builtin.append, args := #[s, y], argTypes := #[28, 28] })
    (hs : act.eval s = v) (hy : act.eval y = .slice (some ⟨W.heap.size, 0, none⟩) 1 1) (hown : OwI W B v l) (hl : l.length ≤ 1000) (hB : B ≤ W.heap.size)
    (h : ∀ a' c' w', OwI w' B (.slice a' (l ++ [x]).length c') (l ++ [x]) → W.grownBy w' v.ownBlock → wpList Try.prog ops Q rest (act.put o.dst (.slice a' (l ++ [x]).length c')) w') : wpList Try.prog ops Q (o :: rest) act (W.alloc (.cells #[.int .i64 x] 2)) := by
  obtain ⟨i0, hi, hz, hsz, hby⟩ := info_parts info64
  refine wpList_append_own _ hgd s y 28 hop B 2 i0 (.int .i64 0) 1 8 undI64S hi hz hsz hby rfl (by omega) v l.length _ hs (hown.alloc _) ⟨W.heap.size, 0, none⟩ 1 1 [.int .i64 x] hy rfl (one_new W x _) (one_cell x) (by unfold maxLen; omega) (by omega) (by simp; omega) ?_
  intro v1 w1 ho hg hn
  have ho' : OwI w1 B v1 (l ++ [x]) := by
    unfold OwI
    have e : intsV (l ++ [x]) = intsV l ++ [.int .i64 x] := by simp [intsV]
    rw [List.length_append, e]
    exact ho
  obtain ⟨a', c', rfl⟩ := ho'.sl
  exact h a' c' w1 ho' ⟨hg.os, hg.tape, hg.output, Nat.le_trans (by simp) hg.size, fun k hk hne => (hg.block k (by simp; omega) hne).trans (Below.heap_alloc W _ k hk)⟩
theorem wrap_small {x : Int} (h1 : 0 ≤ x) (h2 : x ≤ 1000) : wrap64 x = x := by unfold wrap64; omega
end Go.Proofs.Ytnpnlckdggakmaa
