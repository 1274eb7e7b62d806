/-
  Books: a new one, what it tells.
-/
import Derived.Test.YtgdhbkgpjeedhaaEnE
import Derived.Test.YtgdhbkgpjeedhaaCarI
namespace Go.Proofs.Ytgdhbkgpjeedhaa
open Go.RowKit Pl
set_option linter.unusedSimpArgs false
set_option linter.unusedVariables false

theorem setCells_putB (b : Nat) : ∀ (vs : List Value) (k : Nat) (W : World), W.setCells b k vs = putB W b k vs
  | [], _, _ => rfl
  | v :: vs, k, W => by
    rw [World.setCells]
    exact setCells_putB b vs (k + 1) _
theorem wp_store_whole {op : Oper} {a : Act} {w : World} {K : Act → World → Prop} {Q : Exit → Act → World → Prop} {b : Nat} {us : List Value} (vs : List Value) (T : TypeId) (x y : Operand) (hi : (Try.prog.info? T).map (·.size) = some vs.toArray.size) (h1 : vs.toArray.all (·.oneCell') = true) (hB : Blk w b us) (hl : vs.length = us.length)
    (ho : op.op = .store T x y) (hx : a.eval x = .pointer (some ⟨b, 0, none⟩)) (hy : a.eval y = .agg vs.toArray) (h : K (a.put op.dst undef) (putB w b 0 vs)) : op.wp Try.prog a w K Q := by
  refine wp_store_mid T x y ho b 0 vs.toArray hx hy (fun j hj => ?_) hi h1 ?_
  · have hj' : j < us.length := by simpa [hl] using hj
    rw [Nat.zero_add]
    exact ⟨by rw [hB.c j us[j] (List.getElem?_eq_getElem hj')]; rfl, hB.f j hj'⟩
  · rw [List.toList_toArray, setCells_putB]; exact h
theorem step_ofE {P : Program} {ops : Array Oper} {o : Oper} {a : Act} {w : World} {K : Act → World → Prop} {Q : Exit → Act → World → Prop} {E : Prop} (hg : o.guard = none) (h : Oper.wp P o a w K Q) : if Region.wanted o (yielded ops a.tmps) = true then Oper.wp P o a w K Q else E := by
  rw [if_pos (by simp [Region.wanted, hg])]
  exact h
end Go.Proofs.Ytgdhbkgpjeedhaa
