/-
  The law's people and ledgers: how many, turned into the program's, compared.
-/
import Derived.Test.YtnfdplfifpmhoaaGreatDoorFnd
namespace Go.Proofs.YtnfdplfifpmhoaaGreatDoor
open Go.RowKit Pl
set_option linter.unusedSimpArgs false
set_option linter.unusedVariables false

theorem szPersonS_any (a : Option Addr) (len cap : Nat) (left : Int) (h1 : 0 ≤ left) (h2 : left ≤ 1048576) (hl : len ≤ maxLen) (w : World) :
    Calls Tryz.prog 27 #[.slice a len cap, .int .i64 left] w fun e w' => e = .returned (.int .i64 (if left < len then -1 else left - len)) ∧ w' = w := by
  unfold maxLen at hl
  have ew : IntKind.i64.wrap (left - len) = left - len := IntWalk.i64_in _ (by omega)
  by_cases c : left < len
  · rw [if_pos c]
    have d : decide (left - len < 0) = true := decide_eq_true (by omega)
    go_enter Tryz.func27, Tryz.ntmps27
    go_wp2
    go_ret
    exact ⟨rfl, rfl⟩
  · rw [if_neg c]
    have d : decide (left - len < 0) = false := decide_eq_false (by omega)
    go_enter Tryz.func27, Tryz.ntmps27
    go_wp2
    go_ret
    exact ⟨rfl, rfl⟩
set_option maxRecDepth 20000 in
set_option maxHeartbeats 8000000 in
theorem toPerson_any (p : Pe) (w : World) :
    Calls Tryz.prog 58 #[.agg #[.int .i64 p.id, .int .i64 p.fr, .int .i64 p.tw, .int .i64 p.sh, .int .i64 p.ca, .int .i64 p.st, .int .i64 p.pl]] w fun e w' => e = .returned (.agg #[.int .i64 p.id, .int .i64 p.fr, .int .i64 p.tw, .int .i64 p.sh, .int .i64 p.ca, .int .i64 p.st, .int .i64 p.pl]) ∧ Below w.heap.size w w' := by
  go_enter Tryz.func58, Tryz.ntmps58
  go_wp2
  exact bodyPost_ret (v := .agg #[.int .i64 p.id, .int .i64 p.fr, .int .i64 p.tw, .int .i64 p.sh, .int .i64 p.ca, .int .i64 p.st, .int .i64 p.pl]) (by simp [results, Tryz.results58, go_sem]) rfl ⟨rfl, by repeat (first | exact Below.refl _ _ | (refine Below.alloc ?_ ?_ _) | (refine Below.setCell ?_ ?_ _) | (simp; omega) | simp)⟩
theorem infoPE : (Tryz.prog.info? 58).map (fun i => (i.zero, i.size, i.bytes)) = some (some (.agg (cells7 zeroP).toArray), 7, 56) := by kernel_rfl
theorem undPS : Tryz.prog.underlying 34 = some (.slice 58) := by kernel_rfl
theorem make_people (n : Nat) (hn : n ≤ 1048576) (w : World) : (Instr.makeSlice 34 (.int .i64 (n : Int)) (.int .i64 (n : Int))).run Tryz.prog w = .ok (.slice (some ⟨w.heap.size, 0, none⟩) n n) (w.alloc (.cells (madeCells (cells7 zeroP).toArray (n * 7)) 58)) := by
  obtain ⟨i, hi, hz, hs, hb⟩ := info_parts infoPE
  have r := run_make (P := Tryz.prog) w 34 58 i (.agg (cells7 zeroP).toArray) undPS hi hz .i64 .i64 n n (by omega) (Int.le_refl _) (by rw [hb]; omega) (by omega)
  rw [hs] at r
  have e : (Value.agg (cells7 zeroP).toArray).cells = (cells7 zeroP).toArray := rfl
  rw [e] at r
  simpa using r
theorem own_made (n : Nat) (hn : n ≤ 1048576) (w : World) (B : Nat) (hB : B ≤ w.heap.size) : Ow (w.alloc (.cells (madeCells (cells7 zeroP).toArray (n * 7)) 58)) B w.heap.size n n (List.replicate n zeroP) := by
  have a := World.ownsRow_lit (base := B) (e := 58) (size := 7) w (madeCells (cells7 zeroP).toArray (n * 7)) n hB (by unfold maxLen; omega) (size_madeCells _ _)
  rw [made_flat] at a
  exact ⟨List.length_replicate .., a⟩
theorem take_rep {l : List Pe} {i : Nat} {p : Pe} (h : l[i]? = some p) : (l.take i ++ List.replicate (l.length - i) zeroP).set i p = l.take (i + 1) ++ List.replicate (l.length - (i + 1)) zeroP := by
  have hi : i < l.length := (List.getElem?_eq_some_iff.1 h).1
  have e : l[i] = p := (List.getElem?_eq_some_iff.1 h).2
  rw [List.set_append_right _ _ (by rw [List.length_take]; omega), List.length_take, Nat.min_eq_left (by omega), Nat.sub_self]
  rw [show l.length - i = (l.length - (i + 1)) + 1 by omega, List.replicate_succ, List.set_cons_zero, List.take_succ_eq_append_getElem hi, e]
  simp
set_option maxRecDepth 20000 in
set_option maxHeartbeats 16000000 in
theorem toPersonS_any (a0 : Option Addr) (cap : Nat) (l : List Pe) (hl : l.length ≤ 1048576) (w : World) (hP : PIn w w.heap.size a0 l) :
    Calls Tryz.prog 36 #[.slice a0 l.length cap] w fun e w' => ∃ g, e = .returned (.slice (some ⟨g, 0, none⟩) l.length l.length) ∧ Ow w' w.heap.size g l.length l.length l ∧ Below w.heap.size w w' := by
  have hmk := make_people l.length hl
  have HP : Hid (PIn w w.heap.size a0 l) := hP
  have HO : Hid (Ow (w.alloc (.cells (madeCells (cells7 zeroP).toArray (l.length * 7)) 58)) w.heap.size w.heap.size l.length l.length (List.replicate l.length zeroP)) := own_made l.length hl w w.heap.size (Nat.le_refl _)
  clear hP
  go_enter Tryz.func36, Tryz.ntmps36
  go_wp2_with fail
  clear hmk
  go_loopw [4] (fun ii wr => ∃ i : Nat, ii = .int .i64 i ∧ i ≤ l.length ∧ Ow wr w.heap.size w.heap.size l.length l.length (l.take i ++ List.replicate (l.length - i) zeroP) ∧ Below w.heap.size w wr) (fun ii _ => l.length - (intOf ii).toNat)
  case atStart => exact ⟨0, rfl, by omega, by simpa using HO.out, (Below.refl _ _).alloc (Nat.le_refl _) _⟩
  case round =>
    obtain ⟨i, rfl, hi, ho, hb⟩ := hrel
    clear HO
    have FB : Hid (Below w.heap.size w wr) := hb
    have FO : Hid (Ow wr w.heap.size w.heap.size l.length l.length (l.take i ++ List.replicate (l.length - i) zeroP)) := ho
    by_cases hlt : i < l.length
    · obtain ⟨p, hp⟩ : ∃ p, l[i]? = some p := ⟨_, List.getElem?_eq_getElem hlt⟩
      rcases HP.out with h0 | ⟨b, o, rfl, hbl, h7⟩
      · rw [h0] at hlt; simp at hlt
      obtain ⟨c0, c1, c2, c3, c4, c5, c6⟩ := (h7 i p hp).below hb hbl
      have hz : (l.take i ++ List.replicate (l.length - i) zeroP)[i]? = some zeroP := by
        rw [List.getElem?_append_right (by rw [List.length_take]; omega), List.length_take, Nat.min_eq_left (by omega), Nat.sub_self, List.getElem?_replicate, if_pos (by omega)]
      have HZ : Hid ((l.take i ++ List.replicate (l.length - i) zeroP)[i]? = some zeroP) := hz
      have HE : Hid ((l.take i ++ List.replicate (l.length - i) zeroP).set i p = l.take (i + 1) ++ List.replicate (l.length - (i + 1)) zeroP) := take_rep hp
      clear hp hz hb ho h7
      go_wp2_with (go_at_call 58; refine (toPerson_any p _).mono ?_; rintro e w1 ⟨rfl, hb⟩; have FO : Hid (Ow w1 w.heap.size w.heap.size l.length l.length (l.take i ++ List.replicate (l.length - i) zeroP)) := FO.out.below hb FO.out.bl.2; have FB : Hid (Below w.heap.size w w1) := FB.out.trans (hb.mono FB.out.size); clear hb; obtain ⟨d0, d1, d2, d3, d4, d5, d6⟩ := FO.out.p7 HZ.out; have f0 := FO.out.fz (i * 7); have f1 := FO.out.fz (i * 7 + 1); have f2 := FO.out.fz (i * 7 + 2); have f3 := FO.out.fz (i * 7 + 3); have f4 := FO.out.fz (i * 7 + 4); have f5 := FO.out.fz (i * 7 + 5); have f6 := FO.out.fz (i * 7 + 6))
      go_roundw
      case rel => exact ⟨i + 1, by simp, by omega, HE.out ▸ FO.out.put p HZ.out, below_putP FB.out (Nat.le_refl _) _ _⟩
      case measure => simp [intOf]; omega
    · have ei : i = l.length := by omega
      subst ei
      have HO : Hid (Ow wr w.heap.size w.heap.size l.length l.length l) := by
        have q := FO.out
        rw [List.take_length, Nat.sub_self, List.replicate_zero, List.append_nil] at q
        exact q
      clear hb ho FO
      go_wp2_with fail
      go_ret
      exact ⟨_, rfl, HO.out, FB.out⟩
set_option maxRecDepth 20000 in
set_option maxHeartbeats 16000000 in
theorem szLedger_any (nx : Int) (a : Option Addr) (len cap : Nat) (left : Int) (h1 : 0 ≤ left) (h2 : left ≤ 1048576) (hl : len ≤ maxLen) (w : World) :
    Calls Tryz.prog 10 #[.agg #[.int .i64 nx, .slice a len cap], .int .i64 left] w fun e w' => e = .returned (.int .i64 (if left < len then -1 else left - len)) ∧ Below w.heap.size w w' := by
  have HB : Hid (Below w.heap.size w (w.alloc (.cells #[.int .i64 nx, .slice a len cap] 27))) := (Below.refl _ _).alloc (Nat.le_refl _) _
  by_cases c : left < len
  · rw [if_pos c]
    go_enter Tryz.func10, Tryz.ntmps10
    go_wp2_with (go_at_call 27; refine (szPersonS_any a len cap left h1 h2 hl _).mono ?_; rw [if_pos c]; rintro e w' ⟨rfl, hw⟩; obtain rfl := hw.symm; clear hw)
    go_ret
    exact ⟨rfl, HB.out⟩
  · rw [if_neg c]
    have d : decide (left - len < 0) = false := decide_eq_false (by omega)
    go_enter Tryz.func10, Tryz.ntmps10
    go_wp2_with (go_at_call 27; refine (szPersonS_any a len cap left h1 h2 hl _).mono ?_; rw [if_neg c]; rintro e w' ⟨rfl, hw⟩; obtain rfl := hw.symm; clear hw)
    go_ret
    exact ⟨rfl, HB.out⟩
set_option maxRecDepth 20000 in
set_option maxHeartbeats 16000000 in
theorem toLedger_any (nx : Int) (a0 : Option Addr) (cap : Nat) (l : List Pe) (hl : l.length ≤ 1048576) (w : World) (hP : PIn w w.heap.size a0 l) :
    Calls Tryz.prog 17 #[.agg #[.int .i64 nx, .slice a0 l.length cap]] w fun e w' => ∃ g, e = .returned (.agg #[.int .i64 nx, .slice (some ⟨g, 0, none⟩) l.length l.length]) ∧ Ow w' w.heap.size g l.length l.length l ∧ Below w.heap.size w w' := by
  have F0 : Hid (LW (((w.alloc (.cells #[.int .i64 nx, .slice a0 l.length cap] 27)).alloc (.cells #[.int .i64 0, .slice none 0 0] 36)).alloc (.cells #[.int .i64 0, .slice none 0 0] 36)) w.heap.size nx (.slice a0 l.length cap)) := ((LW.at_ w nx (.slice a0 l.length cap) _ _ rfl).alloc _).alloc _
  have F1 : Hid (LW (((w.alloc (.cells #[.int .i64 nx, .slice a0 l.length cap] 27)).alloc (.cells #[.int .i64 0, .slice none 0 0] 36)).alloc (.cells #[.int .i64 0, .slice none 0 0] 36)) (w.heap.size + 1) 0 (.slice none 0 0)) := (LW.at_ _ 0 (.slice none 0 0) _ _ (by simp)).alloc _
  have F2 : Hid (LW (((w.alloc (.cells #[.int .i64 nx, .slice a0 l.length cap] 27)).alloc (.cells #[.int .i64 0, .slice none 0 0] 36)).alloc (.cells #[.int .i64 0, .slice none 0 0] 36)) (w.heap.size + 2) 0 (.slice none 0 0)) := LW.at_ _ 0 (.slice none 0 0) _ _ (by simp)
  have FB : Hid (Below w.heap.size w (((w.alloc (.cells #[.int .i64 nx, .slice a0 l.length cap] 27)).alloc (.cells #[.int .i64 0, .slice none 0 0] 36)).alloc (.cells #[.int .i64 0, .slice none 0 0] 36))) := (((Below.refl _ _).alloc (Nat.le_refl _) _).alloc (by simp) _).alloc (by simp; omega) _
  have HP : Hid (PIn w w.heap.size a0 l) := hP
  obtain ⟨W0, hW0⟩ : ∃ W0, W0 = (((w.alloc (.cells #[.int .i64 nx, .slice a0 l.length cap] 27)).alloc (.cells #[.int .i64 0, .slice none 0 0] 36)).alloc (.cells #[.int .i64 0, .slice none 0 0] 36)) := ⟨_, rfl⟩
  rw [← hW0] at F0 F1 F2 FB
  have HW0 : Hid (W0 = (((w.alloc (.cells #[.int .i64 nx, .slice a0 l.length cap] 27)).alloc (.cells #[.int .i64 0, .slice none 0 0] 36)).alloc (.cells #[.int .i64 0, .slice none 0 0] 36))) := hW0
  clear hW0 hP
  go_enter Tryz.func17, Tryz.ntmps17
  go_upto_region 2 with fail
  rw [← HW0.out]
  clear HW0
  obtain ⟨x0_0, x0_1, y0_0, y0_1⟩ := F0.out
  obtain ⟨x2_0, x2_1, y2_0, y2_1⟩ := F2.out
  go_upto_region 3 with fail
  obtain ⟨W1, hw_⟩ : ∃ W1, W1 = W0.setCell ⟨w.heap.size + 2, 0, none⟩ (.int .i64 nx) := ⟨_, rfl⟩
  rw [← hw_]
  have F0 : Hid (LW W1 w.heap.size nx (.slice a0 l.length cap)) := by rw [hw_]; exact F0.out.other (by omega)
  have F1 : Hid (LW W1 (w.heap.size + 1) 0 (.slice none 0 0)) := by rw [hw_]; exact F1.out.other (by omega)
  have F2 : Hid (LW W1 (w.heap.size + 2) nx (.slice none 0 0)) := by rw [hw_]; exact F2.out.set0 nx
  have FB : Hid (Below w.heap.size w W1) := by rw [hw_]; exact FB.out.setCell (by simp) _
  clear hw_ x0_0 x0_1 y0_0 y0_1 x2_0 x2_1 y2_0 y2_1
  obtain ⟨x0_0, x0_1, y0_0, y0_1⟩ := F0.out
  obtain ⟨x2_0, x2_1, y2_0, y2_1⟩ := F2.out
  have l2 := F2.out.lt
  go_upto_region 4 with (go_at_call 36; refine (toPersonS_any a0 cap l hl _ ((HP.out.below FB.out (Nat.le_refl _)).mono FB.out.size)).mono ?_; rintro e w1 ⟨g, rfl, ho, hb⟩; have FO : Hid (Ow w1 W1.heap.size g l.length l.length l) := ho; have F1 : Hid (LW w1 (w.heap.size + 1) 0 (.slice none 0 0)) := F1.out.below hb F1.out.lt; have F2 : Hid (LW w1 (w.heap.size + 2) nx (.slice none 0 0)) := F2.out.below hb F2.out.lt; have FB : Hid (Below w.heap.size w w1) := FB.out.trans (hb.mono FB.out.size); clear hb ho; obtain ⟨x2_0, x2_1, y2_0, y2_1⟩ := F2.out)
  have lg := FO.out.bl.1
  obtain ⟨W2, hw_⟩ : ∃ W2, W2 = w1.setCell ⟨w.heap.size + 2, 1, none⟩ (.slice (some ⟨g, 0, none⟩) l.length l.length) := ⟨_, rfl⟩
  rw [← hw_]
  have F1 : Hid (LW W2 (w.heap.size + 1) 0 (.slice none 0 0)) := by rw [hw_]; exact F1.out.other (by omega)
  have F2 : Hid (LW W2 (w.heap.size + 2) nx (.slice (some ⟨g, 0, none⟩) l.length l.length)) := by rw [hw_]; exact F2.out.set1 _
  have FB : Hid (Below w.heap.size w W2) := by rw [hw_]; exact FB.out.setCell (by simp) _
  have FO : Hid (Ow W2 W1.heap.size g l.length l.length l) := by rw [hw_]; exact FO.out.other (by simp; omega) _
  have hB := F1.out.lt
  have hle : w.heap.size ≤ W1.heap.size := by omega
  clear hw_ x0_0 x0_1 y0_0 y0_1 x2_0 x2_1 y2_0 y2_1
  obtain ⟨x1_0, x1_1, y1_0, y1_1⟩ := F1.out
  obtain ⟨x2_0, x2_1, y2_0, y2_1⟩ := F2.out
  go_wp2_with fail
  exact bodyPost_ret (v := .agg #[.int .i64 nx, .slice (some ⟨g, 0, none⟩) l.length l.length]) (by simp [results, Tryz.results17, go_sem, x1_0, x1_1]) rfl ⟨g, rfl, ((FO.out.base hle).other (by simp; omega) _).other (by simp; omega) _, (FB.out.setCell (by simp) _).setCell (by simp) _⟩
end Go.Proofs.YtnfdplfifpmhoaaGreatDoor
