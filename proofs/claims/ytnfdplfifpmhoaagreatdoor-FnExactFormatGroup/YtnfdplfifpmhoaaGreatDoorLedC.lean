/-
  Rows of numbers; the program's ledger: how many are in each state, who rides.
-/
import Derived.Test.YtnfdplfifpmhoaaGreatDoorLedA
import Derived.Test.YtnfdplfifpmhoaaGreatDoorInts
import Derived.Deep.RegionHeld3
import Derived.BigGuardPart
import Derived.OwnWalk
import Derived.Laws.OwnMore
namespace Go.Proofs.YtnfdplfifpmhoaaGreatDoor
open Go.RowKit Pl
set_option linter.unusedSimpArgs false
set_option linter.unusedVariables false

theorem make_five (w : World) : (Instr.makeSlice 74 (.int .i64 5) (.int .i64 5)).run Tryz.prog w = .ok (.slice (some ⟨w.heap.size, 0, none⟩) 5 5) (w.alloc (.cells #[.int .i64 0, .int .i64 0, .int .i64 0, .int .i64 0, .int .i64 0] 2)) := by
  obtain ⟨i, hi, hz, hs, hb⟩ := info_parts info64
  have r := run_make (P := Tryz.prog) w 74 2 i (.int .i64 0) undI64S hi hz .i64 .i64 5 5 (by omega) (Int.le_refl _) (by rw [hb]; omega) (by omega)
  rw [hs] at r
  have e : madeCells (Value.int IntKind.i64 0).cells (Int.toNat 5 * 1) = #[.int .i64 0, .int .i64 0, .int .i64 0, .int .i64 0, .int .i64 0] := by kernel_rfl
  rw [e] at r
  exact r
theorem five_own (w : World) (B : Nat) (hB : B ≤ w.heap.size) : OwI (w.alloc (.cells #[.int .i64 0, .int .i64 0, .int .i64 0, .int .i64 0, .int .i64 0] 2)) B (.slice (some ⟨w.heap.size, 0, none⟩) 5 5) [0, 0, 0, 0, 0] :=
  World.ownsRow_lit (base := B) (e := 2) (size := 1) w #[.int .i64 0, .int .i64 0, .int .i64 0, .int .i64 0, .int .i64 0] 5 hB (by unfold maxLen; omega) rfl
/-- How many are in each state. -/
def cnts (l : List Pe) : List Int := [(cnt 0 (-1) 0 l : Int), (cnt 1 (-1) 0 l : Int), (cnt 2 (-1) 0 l : Int), (cnt 3 (-1) 0 l : Int), (cnt 4 (-1) 0 l : Int)]
theorem cnt_take {st sh ca : Int} {l : List Pe} {i : Nat} {p : Pe} (h : l[i]? = some p) : cnt st sh ca (l.take (i + 1)) = cnt st sh ca (l.take i) + (if isIn st sh ca p = true then 1 else 0) := countP_take h
theorem cnt_le (st sh ca : Int) (l : List Pe) (i : Nat) : cnt st sh ca (l.take i) ≤ i := Nat.le_trans List.countP_le_length (by rw [List.length_take]; omega)
set_option maxRecDepth 20000 in
set_option maxHeartbeats 16000000 in
theorem countStates_any (l : List Pe) (a : Option Addr) (cap : Nat) (hl : l.length ≤ 1048576) (hs : ∀ (i : Nat) (p : Pe), l[i]? = some p → 0 ≤ p.st ∧ p.st ≤ 4) (w : World) (hP : PIn w w.heap.size a l) :
    Calls Tryz.prog 91 #[.slice a l.length cap] w fun e w' => ∃ g, e = .returned (.slice (some ⟨g, 0, none⟩) 5 5) ∧ OwI w' w.heap.size (.slice (some ⟨g, 0, none⟩) 5 5) (cnts l) ∧ Below w.heap.size w w' := by
  have HP : Hid (PIn w w.heap.size a l) := hP
  have hmk := make_five
  clear hP
  go_enter Tryz.func91, Tryz.ntmps91
  go_wp2_with fail
  obtain ⟨g, hg⟩ : ∃ g, g = w.heap.size := ⟨_, rfl⟩
  have hgw : w.heap.size ≤ g := by omega
  have FO : Hid (OwI (w.alloc (.cells #[.int .i64 0, .int .i64 0, .int .i64 0, .int .i64 0, .int .i64 0] 2)) w.heap.size (.slice (some ⟨g, 0, none⟩) 5 5) [0, 0, 0, 0, 0]) := by rw [hg]; exact five_own w _ (Nat.le_refl _)
  rw [← hg]
  go_loopw [9] (fun ii wr => ∃ i : Nat, ii = .int .i64 i ∧ i ≤ l.length ∧ OwI wr w.heap.size (.slice (some ⟨g, 0, none⟩) 5 5) (cnts (l.take i)) ∧ Below w.heap.size w wr) (fun ii _ => l.length - (intOf ii).toNat)
  case atStart => exact ⟨0, rfl, by omega, by simpa [cnts, cnt] using FO.out, (Below.refl _ _).alloc (Nat.le_refl _) _⟩
  case round =>
    obtain ⟨i, rfl, hi, ho, hb⟩ := hrel
    have FO : Hid (OwI wr w.heap.size (.slice (some ⟨g, 0, none⟩) 5 5) (cnts (l.take i))) := ho
    have FB : Hid (Below w.heap.size w wr) := hb
    have lg : g < wr.heap.size := (FO.out.lt g rfl).2
    have ng := Nat.ne_of_gt lg
    have lsz := FB.out.size
    clear ho hb hg
    by_cases hlt : i < l.length
    · obtain ⟨p, hp⟩ : ∃ p, l[i]? = some p := ⟨_, List.getElem?_eq_getElem hlt⟩
      rcases HP.out with h0 | ⟨b, o, rfl, hbl, h7⟩
      · rw [h0] at hlt; simp at hlt
      have hst := hs i p hp
      obtain ⟨c0, c1, c2, c3, c4, c5, c6⟩ := (h7 i p hp).below FB.out hbl
      obtain ⟨id, fr, tw, sh, ca, st, pl⟩ := p
      dsimp only at hst c0 c1 c2 c3 c4 c5 c6
      have s : st = 0 ∨ st = 1 ∨ st = 2 ∨ st = 3 ∨ st = 4 := by omega
      clear hst h7 hs
      rcases s with rfl | rfl | rfl | rfl | rfl
      · have ew : IntKind.i64.wrap ((cnt 0 (-1) 0 (l.take i) : Int) + 1) = (cnt 0 (-1) 0 (l.take i) : Int) + 1 := IntWalk.i64_in _ (by have := cnt_le 0 (-1) 0 l i; omega)
        have HS : Hid (OwI ((wr.setCell ⟨g, 0, none⟩ (.int .i64 ((cnt 0 (-1) 0 (l.take i) : Int) + 1))).alloc (.cells #[.int .i64 id, .int .i64 fr, .int .i64 tw, .int .i64 sh, .int .i64 ca, .int .i64 0, .int .i64 pl] 58)) w.heap.size (.slice (some ⟨g, 0, none⟩) 5 5) (cnts (l.take (i + 1)))) := by
          have q := (FO.out.set 0 ((cnt 0 (-1) 0 (l.take i) : Int) + 1)).alloc (.cells #[.int .i64 id, .int .i64 fr, .int .i64 tw, .int .i64 sh, .int .i64 ca, .int .i64 0, .int .i64 pl] 58)
          have e : (cnts (l.take i)).set 0 ((cnt 0 (-1) 0 (l.take i) : Int) + 1) = cnts (l.take (i + 1)) := by
            unfold cnts
            rw [cnt_take hp, cnt_take hp, cnt_take hp, cnt_take hp, cnt_take hp]
            simp [isIn]
          rw [e] at q
          exact q
        have y0 := FO.out.cell (i := 0) rfl
        have fy := FO.out.fz 0
        have z0 := (FO.out.alloc (.cells #[.int .i64 id, .int .i64 fr, .int .i64 tw, .int .i64 sh, .int .i64 ca, .int .i64 0, .int .i64 pl] 58)).cell (i := 0) rfl
        have fz := (FO.out.alloc (.cells #[.int .i64 id, .int .i64 fr, .int .i64 tw, .int .i64 sh, .int .i64 ca, .int .i64 0, .int .i64 pl] 58)).fz 0
        clear hp
        go_wp2_with fail
        go_roundw
        case rel => exact ⟨i + 1, by simp, by omega, HS.out, (FB.out.setCell (by omega) _).alloc (by simp; omega) _⟩
        case measure => simp [intOf]; omega
      · have ew : IntKind.i64.wrap ((cnt 1 (-1) 0 (l.take i) : Int) + 1) = (cnt 1 (-1) 0 (l.take i) : Int) + 1 := IntWalk.i64_in _ (by have := cnt_le 1 (-1) 0 l i; omega)
        have HS : Hid (OwI ((wr.setCell ⟨g, 1, none⟩ (.int .i64 ((cnt 1 (-1) 0 (l.take i) : Int) + 1))).alloc (.cells #[.int .i64 id, .int .i64 fr, .int .i64 tw, .int .i64 sh, .int .i64 ca, .int .i64 1, .int .i64 pl] 58)) w.heap.size (.slice (some ⟨g, 0, none⟩) 5 5) (cnts (l.take (i + 1)))) := by
          have q := (FO.out.set 1 ((cnt 1 (-1) 0 (l.take i) : Int) + 1)).alloc (.cells #[.int .i64 id, .int .i64 fr, .int .i64 tw, .int .i64 sh, .int .i64 ca, .int .i64 1, .int .i64 pl] 58)
          have e : (cnts (l.take i)).set 1 ((cnt 1 (-1) 0 (l.take i) : Int) + 1) = cnts (l.take (i + 1)) := by
            unfold cnts
            rw [cnt_take hp, cnt_take hp, cnt_take hp, cnt_take hp, cnt_take hp]
            simp [isIn]
          rw [e] at q
          exact q
        have y1 := FO.out.cell (i := 1) rfl
        have fy := FO.out.fz 1
        have z1 := (FO.out.alloc (.cells #[.int .i64 id, .int .i64 fr, .int .i64 tw, .int .i64 sh, .int .i64 ca, .int .i64 1, .int .i64 pl] 58)).cell (i := 1) rfl
        have fz := (FO.out.alloc (.cells #[.int .i64 id, .int .i64 fr, .int .i64 tw, .int .i64 sh, .int .i64 ca, .int .i64 1, .int .i64 pl] 58)).fz 1
        clear hp
        go_wp2_with fail
        go_roundw
        case rel => exact ⟨i + 1, by simp, by omega, HS.out, (FB.out.setCell (by omega) _).alloc (by simp; omega) _⟩
        case measure => simp [intOf]; omega
      · have ew : IntKind.i64.wrap ((cnt 2 (-1) 0 (l.take i) : Int) + 1) = (cnt 2 (-1) 0 (l.take i) : Int) + 1 := IntWalk.i64_in _ (by have := cnt_le 2 (-1) 0 l i; omega)
        have HS : Hid (OwI ((wr.setCell ⟨g, 2, none⟩ (.int .i64 ((cnt 2 (-1) 0 (l.take i) : Int) + 1))).alloc (.cells #[.int .i64 id, .int .i64 fr, .int .i64 tw, .int .i64 sh, .int .i64 ca, .int .i64 2, .int .i64 pl] 58)) w.heap.size (.slice (some ⟨g, 0, none⟩) 5 5) (cnts (l.take (i + 1)))) := by
          have q := (FO.out.set 2 ((cnt 2 (-1) 0 (l.take i) : Int) + 1)).alloc (.cells #[.int .i64 id, .int .i64 fr, .int .i64 tw, .int .i64 sh, .int .i64 ca, .int .i64 2, .int .i64 pl] 58)
          have e : (cnts (l.take i)).set 2 ((cnt 2 (-1) 0 (l.take i) : Int) + 1) = cnts (l.take (i + 1)) := by
            unfold cnts
            rw [cnt_take hp, cnt_take hp, cnt_take hp, cnt_take hp, cnt_take hp]
            simp [isIn]
          rw [e] at q
          exact q
        have y2 := FO.out.cell (i := 2) rfl
        have fy := FO.out.fz 2
        have z2 := (FO.out.alloc (.cells #[.int .i64 id, .int .i64 fr, .int .i64 tw, .int .i64 sh, .int .i64 ca, .int .i64 2, .int .i64 pl] 58)).cell (i := 2) rfl
        have fz := (FO.out.alloc (.cells #[.int .i64 id, .int .i64 fr, .int .i64 tw, .int .i64 sh, .int .i64 ca, .int .i64 2, .int .i64 pl] 58)).fz 2
        clear hp
        go_wp2_with fail
        go_roundw
        case rel => exact ⟨i + 1, by simp, by omega, HS.out, (FB.out.setCell (by omega) _).alloc (by simp; omega) _⟩
        case measure => simp [intOf]; omega
      · have ew : IntKind.i64.wrap ((cnt 3 (-1) 0 (l.take i) : Int) + 1) = (cnt 3 (-1) 0 (l.take i) : Int) + 1 := IntWalk.i64_in _ (by have := cnt_le 3 (-1) 0 l i; omega)
        have HS : Hid (OwI ((wr.setCell ⟨g, 3, none⟩ (.int .i64 ((cnt 3 (-1) 0 (l.take i) : Int) + 1))).alloc (.cells #[.int .i64 id, .int .i64 fr, .int .i64 tw, .int .i64 sh, .int .i64 ca, .int .i64 3, .int .i64 pl] 58)) w.heap.size (.slice (some ⟨g, 0, none⟩) 5 5) (cnts (l.take (i + 1)))) := by
          have q := (FO.out.set 3 ((cnt 3 (-1) 0 (l.take i) : Int) + 1)).alloc (.cells #[.int .i64 id, .int .i64 fr, .int .i64 tw, .int .i64 sh, .int .i64 ca, .int .i64 3, .int .i64 pl] 58)
          have e : (cnts (l.take i)).set 3 ((cnt 3 (-1) 0 (l.take i) : Int) + 1) = cnts (l.take (i + 1)) := by
            unfold cnts
            rw [cnt_take hp, cnt_take hp, cnt_take hp, cnt_take hp, cnt_take hp]
            simp [isIn]
          rw [e] at q
          exact q
        have y3 := FO.out.cell (i := 3) rfl
        have fy := FO.out.fz 3
        have z3 := (FO.out.alloc (.cells #[.int .i64 id, .int .i64 fr, .int .i64 tw, .int .i64 sh, .int .i64 ca, .int .i64 3, .int .i64 pl] 58)).cell (i := 3) rfl
        have fz := (FO.out.alloc (.cells #[.int .i64 id, .int .i64 fr, .int .i64 tw, .int .i64 sh, .int .i64 ca, .int .i64 3, .int .i64 pl] 58)).fz 3
        clear hp
        go_wp2_with fail
        go_roundw
        case rel => exact ⟨i + 1, by simp, by omega, HS.out, (FB.out.setCell (by omega) _).alloc (by simp; omega) _⟩
        case measure => simp [intOf]; omega
      · have ew : IntKind.i64.wrap ((cnt 4 (-1) 0 (l.take i) : Int) + 1) = (cnt 4 (-1) 0 (l.take i) : Int) + 1 := IntWalk.i64_in _ (by have := cnt_le 4 (-1) 0 l i; omega)
        have HS : Hid (OwI ((wr.setCell ⟨g, 4, none⟩ (.int .i64 ((cnt 4 (-1) 0 (l.take i) : Int) + 1))).alloc (.cells #[.int .i64 id, .int .i64 fr, .int .i64 tw, .int .i64 sh, .int .i64 ca, .int .i64 4, .int .i64 pl] 58)) w.heap.size (.slice (some ⟨g, 0, none⟩) 5 5) (cnts (l.take (i + 1)))) := by
          have q := (FO.out.set 4 ((cnt 4 (-1) 0 (l.take i) : Int) + 1)).alloc (.cells #[.int .i64 id, .int .i64 fr, .int .i64 tw, .int .i64 sh, .int .i64 ca, .int .i64 4, .int .i64 pl] 58)
          have e : (cnts (l.take i)).set 4 ((cnt 4 (-1) 0 (l.take i) : Int) + 1) = cnts (l.take (i + 1)) := by
            unfold cnts
            rw [cnt_take hp, cnt_take hp, cnt_take hp, cnt_take hp, cnt_take hp]
            simp [isIn]
          rw [e] at q
          exact q
        have y4 := FO.out.cell (i := 4) rfl
        have fy := FO.out.fz 4
        have z4 := (FO.out.alloc (.cells #[.int .i64 id, .int .i64 fr, .int .i64 tw, .int .i64 sh, .int .i64 ca, .int .i64 4, .int .i64 pl] 58)).cell (i := 4) rfl
        have fz := (FO.out.alloc (.cells #[.int .i64 id, .int .i64 fr, .int .i64 tw, .int .i64 sh, .int .i64 ca, .int .i64 4, .int .i64 pl] 58)).fz 4
        clear hp
        go_wp2_with fail
        go_roundw
        case rel => exact ⟨i + 1, by simp, by omega, HS.out, (FB.out.setCell (by omega) _).alloc (by simp; omega) _⟩
        case measure => simp [intOf]; omega
    · have ei : i = l.length := by omega
      subst ei
      have FO : Hid (OwI wr w.heap.size (.slice (some ⟨g, 0, none⟩) 5 5) (cnts l)) := by
        have q := FO.out
        rw [List.take_length] at q
        exact q
      go_wp2_with fail
      go_ret
      exact ⟨g, rfl, FO.out, FB.out⟩
/-- Who rides in a car: their ids. -/
def riders (sh ca : Int) (l : List Pe) : List Int := (l.filter (isW 1 sh ca)).map (fun p => p.id)
theorem riders_take {sh ca : Int} {l : List Pe} {i : Nat} {p : Pe} (h : l[i]? = some p) : riders sh ca (l.take (i + 1)) = riders sh ca (l.take i) ++ (if isW 1 sh ca p = true then [p.id] else []) := by
  have hi : i < l.length := (List.getElem?_eq_some_iff.1 h).1
  have e : l[i] = p := (List.getElem?_eq_some_iff.1 h).2
  unfold riders
  rw [List.take_succ_eq_append_getElem hi, List.filter_append, List.map_append, e]
  congr 1
  cases k : isW 1 sh ca p <;> simp [List.filter, k]
theorem riders_le (sh ca : Int) (l : List Pe) : (riders sh ca l).length ≤ l.length := by
  unfold riders
  rw [List.length_map]
  exact List.length_filter_le _ _
theorem riders_cnt {sh ca : Int} (h : 0 ≤ sh) (l : List Pe) : (riders sh ca l).length = cnt 1 sh ca l := by
  unfold riders cnt
  rw [List.length_map, List.countP_eq_length_filter]
  congr 2
  funext p
  exact (isW_in h p).symm
end Go.Proofs.YtnfdplfifpmhoaaGreatDoor
