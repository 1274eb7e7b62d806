/-
  The law's decks and groups: how many, turned into the program's, compared.
-/
import Derived.Test.YtgedakdbcjppnaaGrpB
import Derived.Test.YtgedakdbcjppnaaCarT
import Derived.Test.YtgedakdbcjppnaaSpanT
import Derived.Test.YtgedakdbcjppnaaPersD
namespace Go.Proofs.Ytgedakdbcjppnaa
open Go.RowKit Pl
set_option linter.unusedSimpArgs false
set_option linter.unusedVariables false

theorem infoDK : (Try.prog.info? 53).map (fun i => (i.zero, i.size, i.bytes)) = some (some (.agg (cellsD zeroD).toArray), 13, 104) := by kernel_rfl
theorem undDS : Try.prog.underlying 25 = some (.slice 53) := by kernel_rfl
theorem make_decks (n : Nat) (hn : n ≤ 1048576) (w : World) : (Instr.makeSlice 25 (.int .i64 (n : Int)) (.int .i64 (n : Int))).run Try.prog w = .ok (.slice (some ⟨w.heap.size, 0, none⟩) n n) (w.alloc (.cells (madeCells (cellsD zeroD).toArray (n * 13)) 53)) := by
  obtain ⟨i, hi, hz, hs, hb⟩ := info_parts infoDK
  have r := run_make (P := Try.prog) w 25 53 i (.agg (cellsD zeroD).toArray) undDS hi hz .i64 .i64 n n (by omega) (Int.le_refl _) (by rw [hb]; omega) (by omega)
  rw [hs] at r
  have e : (Value.agg (cellsD zeroD).toArray).cells = (cellsD zeroD).toArray := rfl
  rw [e] at r
  simpa using r
theorem own_madeD (n : Nat) (hn : n ≤ 1048576) (w : World) (B : Nat) (hB : B ≤ w.heap.size) : OwD (w.alloc (.cells (madeCells (cellsD zeroD).toArray (n * 13)) 53)) B w.heap.size n n (List.replicate n zeroD) := by
  have a := World.ownsRow_lit (base := B) (e := 53) (size := 13) w (madeCells (cellsD zeroD).toArray (n * 13)) n hB (by unfold maxLen; omega) (size_madeCells _ _)
  rw [made_flatD] at a
  exact ⟨List.length_replicate .., a⟩
theorem take_repD {l : List Dk} {i : Nat} {p : Dk} (h : l[i]? = some p) : (l.take i ++ List.replicate (l.length - i) zeroD).set i p = l.take (i + 1) ++ List.replicate (l.length - (i + 1)) zeroD := by
  have hi : i < l.length := (List.getElem?_eq_some_iff.1 h).1
  have e : l[i] = p := (List.getElem?_eq_some_iff.1 h).2
  rw [List.set_append_right _ _ (by rw [List.length_take]; omega), List.length_take, Nat.min_eq_left (by omega), Nat.sub_self]
  rw [show l.length - i = (l.length - (i + 1)) + 1 by omega, List.replicate_succ, List.set_cons_zero, List.take_succ_eq_append_getElem hi, e]
  simp
end Go.Proofs.Ytgedakdbcjppnaa
