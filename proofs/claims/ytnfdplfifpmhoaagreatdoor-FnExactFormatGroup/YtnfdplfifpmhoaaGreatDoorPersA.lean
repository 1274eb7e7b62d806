/-
  The model's ledger: how many are in a state.
-/
import Derived.Test.YtnfdplfifpmhoaaGreatDoorFnd
import Derived.BigGuardPart
namespace Go.Proofs.YtnfdplfifpmhoaaGreatDoor
open Go.RowKit Pl
set_option linter.unusedSimpArgs false
set_option linter.unusedVariables false

set_option maxRecDepth 20000 in
set_option maxHeartbeats 8000000 in
theorem l7Count_any (lb : Nat) (nx : Int) (a : Option Addr) (cap : Nat) (l : List Pe) (st sh ca : Int) (hl : l.length ≤ 1048576) (w : World) (hL : LAt w lb nx a l.length cap) (hP : PIn w w.heap.size a l) :
    Calls Tryz.prog 53 #[.pointer (some ⟨lb, 0, none⟩), .int .i64 st, .int .i64 sh, .int .i64 ca] w fun e w' => e = .returned (.int .i64 (cnt st sh ca l)) ∧ Below w.heap.size w w' := by
  have HL : Hid (LAt w lb nx a l.length cap) := hL
  have HP : Hid (PIn w w.heap.size a l) := hP
  clear hL hP
  go_enter Tryz.func53, Tryz.ntmps53
  go_wp2_with fail
  go_loopw [9, 10] (fun nn ii wr => ∃ i : Nat, ii = .int .i64 i ∧ i ≤ l.length ∧ nn = .int .i64 ((l.take i).countP (isIn st sh ca)) ∧ Below w.heap.size w wr) (fun _ ii _ => l.length - (intOf ii).toNat)
  case atStart => exact ⟨0, rfl, by omega, by simp, Below.refl _ _⟩
  case round =>
    obtain ⟨i, rfl, hi, rfl, hb⟩ := hrel
    have L1 : LAt wr lb nx a l.length cap := HL.out.below hb HL.out.lt
    obtain ⟨x0, x1⟩ := L1
    by_cases hlt : i < l.length
    · obtain ⟨p, hp⟩ : ∃ p, l[i]? = some p := ⟨_, List.getElem?_eq_getElem hlt⟩
      rcases HP.out with h0 | ⟨b, o, rfl, hbl, h7⟩
      · rw [h0] at hlt; simp at hlt
      obtain ⟨c0, c1, c2, c3, c4, c5, c6⟩ := (h7 i p hp).below hb hbl
      have hc1 : (l.take i).countP (isIn st sh ca) ≤ i := Nat.le_trans List.countP_le_length (by rw [List.length_take]; omega)
      have ew : IntKind.i64.wrap (((l.take i).countP (isIn st sh ca) : Int) + 1) = ((l.take i).countP (isIn st sh ca) : Int) + 1 := IntWalk.i64_in _ (by omega)
      have HE : Hid ((l.take (i + 1)).countP (isIn st sh ca) = (l.take i).countP (isIn st sh ca) + (if isIn st sh ca p = true then 1 else 0)) := countP_take hp
      have HB : Hid (Below w.heap.size w wr) := hb
      clear hp hc1 hb
      go_wp2_with fail
      all_goals
        go_roundw
        case rel => exact ⟨i + 1, by simp, by omega, by rw [HE.out]; simp [isIn, *], HB.out.alloc HB.out.size _⟩
        case measure => simp [intOf]; omega
    · have ei : i = l.length := by omega
      subst ei
      have HB : Hid (Below w.heap.size w wr) := hb
      clear hb
      go_wp2_with fail
      go_ret
      exact ⟨ret_int (by rw [List.take_length]; rfl), HB.out⟩
end Go.Proofs.YtnfdplfifpmhoaaGreatDoor
