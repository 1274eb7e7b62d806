/-
  The program's ledger: what is asked of a call and of a person.
-/
import Derived.Test.YtoacnglcneliiaaGreatDoorFnd
import Derived.Test.YtoacnglcneliiaaGreatDoorHouseG
import Derived.BigGuardPart
import Derived.Deep.RegionWith
import Derived.Laws.EntriesVeiled
namespace Go.Proofs.YtoacnglcneliiaaGreatDoor
open Go.RowKit Pl
set_option linter.unusedSimpArgs false
set_option linter.unusedVariables false

theorem ret_b {a b : Bool} (h : a = b) : Ending.returned (.bool a) = .returned (.bool b) := by rw [h]
set_option maxRecDepth 20000 in
set_option maxHeartbeats 8000000 in
theorem wayFault_any (h : Hs) (f1 : 2 ≤ h.fl) (f2 : h.fl ≤ 12) (f t : Int) (w : World) :
    Calls Tryz.prog 76 #[.agg #[.int .i64 h.fl, .int .i64 h.gp, .int .i64 h.ln, .int .i64 h.rf, .int .i64 h.sp, .int .i64 h.pu, .int .i64 h.br, .int .i64 h.dr, .int .i64 h.lv, .int .i64 h.dO, .int .i64 h.ld, .int .i64 h.qu], .int .i64 f, .int .i64 t] w fun e w' => e = .returned (.int .i64 (Hs.callC h f t)) ∧ Below w.heap.size w w' := by
  have F0 : Hid (HAt (w.alloc (.cells #[.int .i64 h.fl, .int .i64 h.gp, .int .i64 h.ln, .int .i64 h.rf, .int .i64 h.sp, .int .i64 h.pu, .int .i64 h.br, .int .i64 h.dr, .int .i64 h.lv, .int .i64 h.dO, .int .i64 h.ld, .int .i64 h.qu] 25)) w.heap.size h) := HAt.new w h _
  have FB : Hid (Below w.heap.size w (w.alloc (.cells #[.int .i64 h.fl, .int .i64 h.gp, .int .i64 h.ln, .int .i64 h.rf, .int .i64 h.sp, .int .i64 h.pu, .int .i64 h.br, .int .i64 h.dr, .int .i64 h.lv, .int .i64 h.dO, .int .i64 h.ld, .int .i64 h.qu] 25))) := (Below.refl _ _).alloc (Nat.le_refl _) _
  obtain ⟨r, hr⟩ : ∃ r, Hs.callC h f t = r := ⟨_, rfl⟩
  rw [hr]
  unfold Hs.callC at hr
  cases i1 : inB f 0 (h.fl - 1)
  · rw [if_neg (by rw [i1]; simp)] at hr
    have HR : Hid (3 = r) := hr
    clear hr
    go_enter Tryz.func76, Tryz.ntmps76
    go_wp2_with (go_at_call 75; refine (isFloor_any h f (by omega) (by omega) _).mono ?_; rw [i1]; rintro e w7 ⟨rfl, hb⟩; have F0 : Hid (HAt w7 w.heap.size h) := F0.out.below hb F0.out.lt; have FB : Hid (Below w.heap.size w w7) := FB.out.trans (hb.mono FB.out.size); clear hb; obtain ⟨x0_0, x0_1, x0_2, x0_3, x0_4, x0_5, x0_6, x0_7, x0_8, x0_9, x0_10, x0_11⟩ := F0.out)
    go_ret
    exact ⟨ret_int HR.out, FB.out⟩
  · cases i2 : inB t 0 (h.fl - 1)
    · rw [if_neg (by rw [i2]; simp)] at hr
      have HR : Hid (3 = r) := hr
      clear hr
      go_enter Tryz.func76, Tryz.ntmps76
      go_wp2_with (first | ((fail_if_success have := G0); go_at_call 75; refine (isFloor_any h f (by omega) (by omega) _).mono ?_; rw [i1]; rintro e w7 ⟨rfl, hb⟩; have F0 : Hid (HAt w7 w.heap.size h) := F0.out.below hb F0.out.lt; have FB : Hid (Below w.heap.size w w7) := FB.out.trans (hb.mono FB.out.size); clear hb; have G0 := F0; obtain ⟨x0_0, x0_1, x0_2, x0_3, x0_4, x0_5, x0_6, x0_7, x0_8, x0_9, x0_10, x0_11⟩ := F0.out) | (go_at_call 75; refine (isFloor_any h t (by omega) (by omega) _).mono ?_; rw [i2]; rintro e w8 ⟨rfl, hb⟩; have F0 : Hid (HAt w8 w.heap.size h) := F0.out.below hb F0.out.lt; have FB : Hid (Below w.heap.size w w8) := FB.out.trans (hb.mono FB.out.size); clear hb; obtain ⟨x0_0, x0_1, x0_2, x0_3, x0_4, x0_5, x0_6, x0_7, x0_8, x0_9, x0_10, x0_11⟩ := F0.out))
      go_ret
      exact ⟨ret_int HR.out, FB.out⟩
    · rw [if_pos ⟨i1, i2⟩] at hr
      by_cases e : f = t
      · rw [if_pos e] at hr
        have HR : Hid (1 = r) := hr
        have be : (f == t) = true := by simpa using e
        clear hr e
        go_enter Tryz.func76, Tryz.ntmps76
        go_wp2_with (first | ((fail_if_success have := G0); go_at_call 75; refine (isFloor_any h f (by omega) (by omega) _).mono ?_; rw [i1]; rintro e w7 ⟨rfl, hb⟩; have F0 : Hid (HAt w7 w.heap.size h) := F0.out.below hb F0.out.lt; have FB : Hid (Below w.heap.size w w7) := FB.out.trans (hb.mono FB.out.size); clear hb; have G0 := F0; obtain ⟨x0_0, x0_1, x0_2, x0_3, x0_4, x0_5, x0_6, x0_7, x0_8, x0_9, x0_10, x0_11⟩ := F0.out) | (go_at_call 75; refine (isFloor_any h t (by omega) (by omega) _).mono ?_; rw [i2]; rintro e w8 ⟨rfl, hb⟩; have F0 : Hid (HAt w8 w.heap.size h) := F0.out.below hb F0.out.lt; have FB : Hid (Below w.heap.size w w8) := FB.out.trans (hb.mono FB.out.size); clear hb; obtain ⟨x0_0, x0_1, x0_2, x0_3, x0_4, x0_5, x0_6, x0_7, x0_8, x0_9, x0_10, x0_11⟩ := F0.out))
        go_ret
        exact ⟨ret_int HR.out, FB.out⟩
      · rw [if_neg e] at hr
        have HR : Hid (0 = r) := hr
        have be : (f == t) = false := by simpa using e
        clear hr e
        go_enter Tryz.func76, Tryz.ntmps76
        go_wp2_with (first | ((fail_if_success have := G0); go_at_call 75; refine (isFloor_any h f (by omega) (by omega) _).mono ?_; rw [i1]; rintro e w7 ⟨rfl, hb⟩; have F0 : Hid (HAt w7 w.heap.size h) := F0.out.below hb F0.out.lt; have FB : Hid (Below w.heap.size w w7) := FB.out.trans (hb.mono FB.out.size); clear hb; have G0 := F0; obtain ⟨x0_0, x0_1, x0_2, x0_3, x0_4, x0_5, x0_6, x0_7, x0_8, x0_9, x0_10, x0_11⟩ := F0.out) | (go_at_call 75; refine (isFloor_any h t (by omega) (by omega) _).mono ?_; rw [i2]; rintro e w8 ⟨rfl, hb⟩; have F0 : Hid (HAt w8 w.heap.size h) := F0.out.below hb F0.out.lt; have FB : Hid (Below w.heap.size w w8) := FB.out.trans (hb.mono FB.out.size); clear hb; obtain ⟨x0_0, x0_1, x0_2, x0_3, x0_4, x0_5, x0_6, x0_7, x0_8, x0_9, x0_10, x0_11⟩ := F0.out))
        go_ret
        exact ⟨ret_int HR.out, FB.out⟩
/-- Is somebody in that state, of that car? -/
def isW (st sh ca : Int) (p : Pe) : Bool := p.st == st && p.sh == sh && p.ca == ca
theorem isW_in {st sh ca : Int} (h : 0 ≤ sh) (p : Pe) : isIn st sh ca p = isW st sh ca p := by
  have : decide (sh < 0) = false := decide_eq_false (by omega)
  simp [isIn, isW, this, Bool.and_assoc]
def doneB (p : Pe) : Bool := p.st != 0 && p.st != 1
/-- A cell holds a value. -/
structure Cel (w : World) (b o : Nat) (v : Value) : Prop where
  c0 : w.cell? ⟨b, o, none⟩ = some v
theorem Cel.lt {w : World} {b o : Nat} {v : Value} (a : Cel w b o v) : b < w.heap.size := World.block_lt_of_cell? w _ a.c0
theorem Cel.below {W w : World} {b o B : Nat} {v : Value} (a : Cel W b o v) (hb : Below B W w) (hB : b < B) : Cel w b o v := ⟨(hb.cell (p := ⟨b, o, none⟩) hB).trans a.c0⟩
theorem Cel.alloc {W : World} {b o : Nat} {v : Value} (a : Cel W b o v) (ob : Obj) : Cel (W.alloc ob) b o v := a.below ((Below.refl _ _).alloc (Nat.le_refl _) ob) a.lt
end Go.Proofs.YtoacnglcneliiaaGreatDoor
