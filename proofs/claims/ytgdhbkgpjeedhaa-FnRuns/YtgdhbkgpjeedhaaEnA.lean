/-
  Energies: what the model answers.
-/
import Derived.Test.YtgdhbkgpjeedhaaEnP
import Derived.Test.YtgdhbkgpjeedhaaFnd
import Derived.Test.YtgdhbkgpjeedhaaHouseN
import Derived.Test.YtgdhbkgpjeedhaaCarB
import Derived.Test.YtgdhbkgpjeedhaaHouseE
import Derived.Deep.MidRow
import Derived.BigQuiet
import Derived.Deep.QuietTactic
namespace Go.Proofs.Ytgdhbkgpjeedhaa
open Go.RowKit Pl
set_option linter.unusedSimpArgs false
set_option linter.unusedVariables false

theorem Blk.mid {w : World} {b : Nat} {vs : List Value} (hB : Blk w b vs) (o : Nat) (cs : List Value) (h : (vs.drop o).take cs.length = cs) : w.rangeAt b o cs := by
  intro j v hv
  have e : (vs.drop o)[j]? = some v := by
    rw [← h] at hv
    rw [List.getElem?_take] at hv
    split at hv
    · exact hv
    · cases hv
  rw [List.getElem?_drop] at e
  exact hB.c (o + j) v e
theorem load_mid {ops : Array Oper} {rest : List Oper} {op : Oper} {a : Act} {w : World} {Q : Exit → Act → World → Prop} {b : Nat} {vs : List Value} (T : TypeId) (x : Operand) (o : Nat) (cs : List Value) {fs : Array Field} (hu : Try.prog.underlying T = some (.struct fs)) (hi : (Try.prog.info? T).map (·.size) = some cs.length) (hB : Blk w b vs) (hc : (vs.drop o).take cs.length = cs)
    (hgd : op.guard = none) (ho : op.op = .load T x) (hx : a.eval x = .pointer (some ⟨b, o, none⟩)) (h : wpList Try.prog ops Q rest (a.put op.dst (.agg cs.toArray)) w) : wpList Try.prog ops Q (op :: rest) a w :=
  wpList_load_mid hgd T x ho b o hx cs (.struct fs) (hB.mid o cs hc) hu rfl hi h
theorem exec_load_mid {op : Oper} {a : Act} {w : World} {b : Nat} {vs : List Value} (T : TypeId) (x : Operand) (o : Nat) (cs : List Value) {fs : Array Field} (hu : Try.prog.underlying T = some (.struct fs)) (hi : (Try.prog.info? T).map (·.size) = some cs.length) (hc : (vs.drop o).take cs.length = cs)
    (ho : op.op = .load T x) (hx : a.eval x = .pointer (some ⟨b, o, none⟩)) (hB : Blk w b vs) : (execOp a.eval op).run Try.prog w = .ok (.value (.agg cs.toArray)) w := by
  unfold execOp
  simp only [ho, hx, Instr.loadAt, Instr.sureAddr, Sem.run_bind, Sem.run_pure, Result.andThen_ok, run_loadVar_mid w b o T cs (.struct fs) (hB.mid o cs hc) hu rfl hi]
theorem ret_i {a b : Int} (h : a = b) : Ending.returned (.int .i64 a) = .returned (.int .i64 b) := by rw [h]
theorem ret_two {a b c d : Int} (h : a = b) (k : c = d) : Ending.returned (.agg #[.int .i64 a, .int .i64 c]) = .returned (.agg #[.int .i64 b, .int .i64 d]) := by rw [h, k]
end Go.Proofs.Ytgdhbkgpjeedhaa
