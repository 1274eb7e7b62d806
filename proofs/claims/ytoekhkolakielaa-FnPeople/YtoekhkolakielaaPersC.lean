/-
  The law's people and ledgers: how many, turned into the program's, compared.
-/
import Derived.Test.YtoekhkolakielaaFnd
namespace Go.Proofs.Ytoekhkolakielaa
open Go.RowKit Pl
set_option linter.unusedSimpArgs false
set_option linter.unusedVariables false

theorem infoPE : (Try.prog.info? 42).map (fun i => (i.zero, i.size, i.bytes)) = some (some (.agg (cells7 zeroP).toArray), 7, 56) := by kernel_rfl
theorem undPS : Try.prog.underlying 26 = some (.slice 42) := by kernel_rfl
theorem make_people (n : Nat) (hn : n ≤ 1048576) (w : World) : (Instr.makeSlice 26 (.int .i64 (n : Int)) (.int .i64 (n : Int))).run Try.prog w = .ok (.slice (some ⟨w.heap.size, 0, none⟩) n n) (w.alloc (.cells (madeCells (cells7 zeroP).toArray (n * 7)) 42)) := by
  obtain ⟨i, hi, hz, hs, hb⟩ := info_parts infoPE
  have r := run_make (P := Try.prog) w 26 42 i (.agg (cells7 zeroP).toArray) undPS hi hz .i64 .i64 n n (by omega) (Int.le_refl _) (by rw [hb]; omega) (by omega)
  rw [hs] at r
  have e : (Value.agg (cells7 zeroP).toArray).cells = (cells7 zeroP).toArray := rfl
  rw [e] at r
  simpa using r
theorem own_made (n : Nat) (hn : n ≤ 1048576) (w : World) (B : Nat) (hB : B ≤ w.heap.size) : Ow (w.alloc (.cells (madeCells (cells7 zeroP).toArray (n * 7)) 42)) B w.heap.size n n (List.replicate n zeroP) := by
  have a := World.ownsRow_lit (base := B) (e := 42) (size := 7) w (madeCells (cells7 zeroP).toArray (n * 7)) n hB (by unfold maxLen; omega) (size_madeCells _ _)
  rw [made_flat] at a
  exact ⟨List.length_replicate .., a⟩
theorem take_rep {l : List Pe} {i : Nat} {p : Pe} (h : l[i]? = some p) : (l.take i ++ List.replicate (l.length - i) zeroP).set i p = l.take (i + 1) ++ List.replicate (l.length - (i + 1)) zeroP := by
  have hi : i < l.length := (List.getElem?_eq_some_iff.1 h).1
  have e : l[i] = p := (List.getElem?_eq_some_iff.1 h).2
  rw [List.set_append_right _ _ (by rw [List.length_take]; omega), List.length_take, Nat.min_eq_left (by omega), Nat.sub_self]
  rw [show l.length - i = (l.length - (i + 1)) + 1 by omega, List.replicate_succ, List.set_cons_zero, List.take_succ_eq_append_getElem hi, e]
  simp
end Go.Proofs.Ytoekhkolakielaa
