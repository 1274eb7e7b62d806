/-
  The base of what follows: plain numbers, cells, contracts of the smallest functions.
-/
import Derived.Test.YtdkikijnjkoddaaGreatFnd
import Derived.BigGuardPart
/-
  The model's ledger: how many are in a state.
-/
namespace Go.Proofs.YtdkikijnjkoddaaGreat
open Go.RowKit Pl
set_option linter.unusedSimpArgs false
set_option linter.unusedVariables false

set_option maxRecDepth 20000 in
set_option maxHeartbeats 8000000 in
theorem l7Count_any (lb : Nat) (nx : Int) (a : Option Addr) (cap : Nat) (l : List Pe) (st sh ca : Int) (hl : l.length ≤ 1048576) (w : World) (hL : LAt w lb nx a l.length cap) (hP : PIn w w.heap.size a l) :
    Calls Tryz.prog 43 #[.pointer (some ⟨lb, 0, none⟩), .int .i64 st, .int .i64 sh, .int .i64 ca] w fun e w' => e = .returned (.int .i64 (cnt st sh ca l)) ∧ Below w.heap.size w w' := by
  have HL : Hid (LAt w lb nx a l.length cap) := hL
  have HP : Hid (PIn w w.heap.size a l) := hP
  clear hL hP
  go_enter Tryz.func43, Tryz.ntmps43
  go_wp2_with fail
  go_loopw [9, 10] (fun nn ii wr => ∃ i : Nat, ii = .int .i64 i ∧ i ≤ l.length ∧ nn = .int .i64 ((l.take i).countP (isIn st sh ca)) ∧ Below w.heap.size w wr) (fun _ ii _ => l.length - (intOf ii).toNat)
  case atStart => exact ⟨0, rfl, by omega, by simp, Below.refl _ _⟩
  case round =>
    obtain ⟨i, rfl, hi, rfl, hb⟩ := hrel
    have L1 : LAt wr lb nx a l.length cap := HL.out.below hb HL.out.lt
    obtain ⟨x0, x1⟩ := L1
    by_cases hlt : i < l.length
    · obtain ⟨p, hp⟩ : ∃ p, l[i]? = some p := ⟨_, List.getElem?_eq_getElem hlt⟩
      rcases HP.out with h0 | ⟨b, o, rfl, hbl, h7⟩
      · rw [h0] at hlt; simp at hlt
      obtain ⟨c0, c1, c2, c3, c4, c5, c6⟩ := (h7 i p hp).below hb hbl
      have hc1 : (l.take i).countP (isIn st sh ca) ≤ i := Nat.le_trans List.countP_le_length (by rw [List.length_take]; omega)
      have ew : IntKind.i64.wrap (((l.take i).countP (isIn st sh ca) : Int) + 1) = ((l.take i).countP (isIn st sh ca) : Int) + 1 := IntWalk.i64_in _ (by omega)
      have HE : Hid ((l.take (i + 1)).countP (isIn st sh ca) = (l.take i).countP (isIn st sh ca) + (if isIn st sh ca p = true then 1 else 0)) := countP_take hp
      have HB : Hid (Below w.heap.size w wr) := hb
      clear hp hc1 hb
      go_wp2_with fail
      all_goals
        go_roundw
        case rel => exact ⟨i + 1, by simp, by omega, by rw [HE.out]; simp [isIn, *], HB.out.alloc HB.out.size _⟩
        case measure => simp [intOf]; omega
    · have ei : i = l.length := by omega
      subst ei
      have HB : Hid (Below w.heap.size w wr) := hb
      clear hb
      go_wp2_with fail
      go_ret
      exact ⟨ret_int (by rw [List.take_length]; rfl), HB.out⟩
end Go.Proofs.YtdkikijnjkoddaaGreat

/-
  The model's ledger: how many are in a state.
(A pointer into a block tells the ledger.)
-/
namespace Go.Proofs.YtdkikijnjkoddaaGreat
open Go.RowKit Pl
set_option linter.unusedSimpArgs false
set_option linter.unusedVariables false

/-- A ledger lies from the cell o of the block b on. -/
structure LAo (w : World) (b o : Nat) (nx : Int) (a : Option Addr) (len cap : Nat) : Prop where
  c0 : w.cell? ⟨b, o, none⟩ = some (.int .i64 nx)
  c1 : w.cell? ⟨b, o + 1, none⟩ = some (.slice a len cap)
theorem LAo.lt {w : World} {b o : Nat} {nx : Int} {a : Option Addr} {len cap : Nat} (h : LAo w b o nx a len cap) : b < w.heap.size := World.block_lt_of_cell? w _ h.c0
theorem LAo.below {W w : World} {b o B : Nat} {nx : Int} {a : Option Addr} {len cap : Nat} (h : LAo W b o nx a len cap) (hb : Below B W w) (hB : b < B) : LAo w b o nx a len cap :=
  ⟨(hb.cell (p := ⟨b, o, none⟩) hB).trans h.c0, (hb.cell (p := ⟨b, o + 1, none⟩) hB).trans h.c1⟩
theorem LAo.grown {W w : World} {b o : Nat} {nx : Int} {a : Option Addr} {len cap : Nat} {row : Option Nat} (h : LAo W b o nx a len cap) (hg : W.grownBy w row) (hne : some b ≠ row) : LAo w b o nx a len cap :=
  ⟨(World.cell?_of_block (w := W) (hg.block b h.lt hne)).trans h.c0, (World.cell?_of_block (w := W) (hg.block b h.lt hne)).trans h.c1⟩
set_option maxRecDepth 20000 in
set_option maxHeartbeats 8000000 in
theorem l7Count_anyO (lb lo : Nat) (nx : Int) (a : Option Addr) (cap : Nat) (l : List Pe) (st sh ca : Int) (hl : l.length ≤ 1048576) (w : World) (hL : LAo w lb lo nx a l.length cap) (hP : PIn w w.heap.size a l) :
    Calls Tryz.prog 43 #[.pointer (some ⟨lb, lo, none⟩), .int .i64 st, .int .i64 sh, .int .i64 ca] w fun e w' => e = .returned (.int .i64 (cnt st sh ca l)) ∧ Below w.heap.size w w' := by
  have HL : Hid (LAo w lb lo nx a l.length cap) := hL
  have HP : Hid (PIn w w.heap.size a l) := hP
  clear hL hP
  go_enter Tryz.func43, Tryz.ntmps43
  go_wp2_with fail
  go_loopw [9, 10] (fun nn ii wr => ∃ i : Nat, ii = .int .i64 i ∧ i ≤ l.length ∧ nn = .int .i64 ((l.take i).countP (isIn st sh ca)) ∧ Below w.heap.size w wr) (fun _ ii _ => l.length - (intOf ii).toNat)
  case atStart => exact ⟨0, rfl, by omega, by simp, Below.refl _ _⟩
  case round =>
    obtain ⟨i, rfl, hi, rfl, hb⟩ := hrel
    have L1 : LAo wr lb lo nx a l.length cap := HL.out.below hb HL.out.lt
    obtain ⟨x0, x1⟩ := L1
    by_cases hlt : i < l.length
    · obtain ⟨p, hp⟩ : ∃ p, l[i]? = some p := ⟨_, List.getElem?_eq_getElem hlt⟩
      rcases HP.out with h0 | ⟨b, o, rfl, hbl, h7⟩
      · rw [h0] at hlt; simp at hlt
      obtain ⟨c0, c1, c2, c3, c4, c5, c6⟩ := (h7 i p hp).below hb hbl
      have hc1 : (l.take i).countP (isIn st sh ca) ≤ i := Nat.le_trans List.countP_le_length (by rw [List.length_take]; omega)
      have ew : IntKind.i64.wrap (((l.take i).countP (isIn st sh ca) : Int) + 1) = ((l.take i).countP (isIn st sh ca) : Int) + 1 := IntWalk.i64_in _ (by omega)
      have HE : Hid ((l.take (i + 1)).countP (isIn st sh ca) = (l.take i).countP (isIn st sh ca) + (if isIn st sh ca p = true then 1 else 0)) := countP_take hp
      have HB : Hid (Below w.heap.size w wr) := hb
      clear hp hc1 hb
      go_wp2_with fail
      all_goals
        go_roundw
        case rel => exact ⟨i + 1, by simp, by omega, by rw [HE.out]; simp [isIn, *], HB.out.alloc HB.out.size _⟩
        case measure => simp [intOf]; omega
    · have ei : i = l.length := by omega
      subst ei
      have HB : Hid (Below w.heap.size w wr) := hb
      clear hb
      go_wp2_with fail
      go_ret
      exact ⟨ret_int (by rw [List.take_length]; rfl), HB.out⟩
end Go.Proofs.YtdkikijnjkoddaaGreat
