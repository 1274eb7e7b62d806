/-
  For every code of choices the law FnHouses holds: floors and refuges of the house that it draws stand apart far enough for two cars, or the house has a fault that is told.
-/
import Derived.Test.YtegcacokgjonbaaRows
import Derived.WalkKit
import Derived.ProofKit
import Derived.OpenShut
import Derived.Test.YtegcacokgjonbaaHouseH
import Derived.ShutString
import Derived.ChangeOld
import Derived.Below
namespace Go.Proofs.Ytegcacokgjonbaa.fnHouses
open Go.ChangeShapes Go.WideShapes Go.ChangeAt Go.RowKit
open Go.ChangeMaps (open_string shut_string)
set_option linter.unusedVariables false

theorem own : ownKnob Try.prog.godebug = none := by kernel_rfl
theorem laidOut : laidOutB Try.prog = true := by kernel_rfl

/-- WHAT THE WALK IS TOLD OF A SLICE OF INTEGERS THAT CAME IN: it is nil; or it leads to a row of 'cap' cells, the numbers 'zs' (the first 'len' are its elements, the rest its spare room), each fitting its kind. -/
def IsRow (k : IntKind) (w : World) (a : Option Addr) (len cap : Nat) (zs : List Int) : Prop :=
  (a = none ∧ len = 0 ∧ cap = 0 ∧ zs = []) ∨
  ∃ x, a = some x ∧ len ≤ cap ∧ cap ≤ maxLen ∧ zs.length = cap ∧ (∀ i, i < zs.length → w.cell? (x.add i) = some (.int k (zs.getD i 0))) ∧ ∀ n ∈ zs, (Lit.int k n).wf = true

/-! ### STEP 1: THE WALK: the Go text returns true, AND WRITES NOTHING THAT WAS THERE: 'Below w.heap.size w w'' (Derived/Below.lean: '.refl', '.alloc', '.drew', '.setCell' at a new block, '.trans'). Open each 'IsRow' by 'rcases' AHEAD of 'go_enter'; part every test ahead of the walk. -/
set_option maxHeartbeats 4000000 in
theorem walk (a0 : Option Addr) (len0 cap0 : Nat) (z0 : List Int) (w : World) (w0 : IsRow .u8 w a0 len0 cap0 z0) :
    Calls Try.prog 3 #[.slice a0 len0 cap0] w fun e w' => e = .returned (.bool true) ∧ Below w.heap.size w w' := by
  by_cases hbig : len0 ≤ 1048576
  · have HC : Hid (CodeIn w w.heap.size a0 len0) := codeIn_of w0 hbig _ (Nat.le_refl _)
    clear w0
    go_enter Try.func3, Try.ntmps3
    go_wp2_with (first | (go_at_call 9; refine (lwBig_no _ _ _ hbig _).mono ?_; rintro e w' ⟨rfl, hw⟩; obtain rfl := hw.symm) | (go_at_call 10; refine (DrawHouseFault_any a0 len0 cap0 _ HC.out).mono ?_; rintro e w1 ⟨h, rfl, hb⟩; have HB : Hid (Below w.heap.size w (w1.alloc (.cells #[.int .i64 h.fl, .int .i64 h.gp, .int .i64 h.ln, .int .i64 h.rf, .int .i64 h.sp, .int .i64 h.pu, .int .i64 h.br, .int .i64 h.dr, .int .i64 h.lv, .int .i64 h.dO, .int .i64 h.ld, .int .i64 h.qu] 25))) := hb.alloc hb.size _; have HH : Hid (HAt (w1.alloc (.cells #[.int .i64 h.fl, .int .i64 h.gp, .int .i64 h.ln, .int .i64 h.rf, .int .i64 h.sp, .int .i64 h.pu, .int .i64 h.br, .int .i64 h.dr, .int .i64 h.lv, .int .i64 h.dO, .int .i64 h.ld, .int .i64 h.qu] 25)) w1.heap.size h) := HAt.new w1 h _; have hs1 : w.heap.size ≤ w1.heap.size := hb.size; clear hb))
    clear HC hbig
    by_cases hf : h.fault = 0
    · refine (implFault_any h _).mono ?_
      rw [hf]
      rintro e w2 ⟨rfl, hb⟩
      have HH : Hid (HAt w2 w1.heap.size h) := HH.out.below hb HH.out.lt
      have HB : Hid (Below w.heap.size w w2) := HB.out.trans (hb.mono HB.out.size)
      clear hb
      obtain ⟨q0, q1, q2, q3, q4, q5, q6, q7, q8, q9, q10, q11⟩ := HH.out
      go_wp2_with fail
      refine (implApartOf_yes h (Pl.Hs.fault_zero hf).1 _).mono ?_
      rintro e w3 ⟨rfl, hb⟩
      have hs3 : w1.heap.size < w3.heap.size := (HH.out.below hb HH.out.lt).lt
      have HH : Hid (HAt (w3.alloc (.cells #[.int .i64 0, .int .i64 h.apart] 29)) w1.heap.size h) := (HH.out.below hb HH.out.lt).below ((Below.refl _ _).alloc (Nat.le_refl _) _) hs3
      have HA : Hid (VAt (w3.alloc (.cells #[.int .i64 0, .int .i64 h.apart] 29)) w3.heap.size 0 h.apart) := VAt.new w3 _ _ _
      have HB : Hid (Below w.heap.size w (w3.alloc (.cells #[.int .i64 0, .int .i64 h.apart] 29))) := (HB.out.trans (hb.mono HB.out.size)).alloc (by omega) _
      clear hb
      clear q0 q1 q2 q3 q4 q5 q6 q7 q8 q9 q10 q11
      obtain ⟨q0, q1, q2, q3, q4, q5, q6, q7, q8, q9, q10, q11⟩ := HH.out
      have o := Pl.Hs.ok_of (Pl.Hs.fault_zero hf).1
      have l1 := o.fl1
      have l2 := o.fl2
      go_wp2_with fail
      refine (implLevelOf_yes h (-1) hf (Pl.inB_yes (by omega) (by omega)) _).mono ?_
      rintro e w4 ⟨rfl, hb⟩
      have hs4 : w3.heap.size < w4.heap.size := (HA.out.below hb HA.out.lt).lt
      have HH : Hid (HAt (w4.alloc (.cells #[.int .i64 0, .int .i64 (h.level (-1))] 29)) w1.heap.size h) := (HH.out.below hb HH.out.lt).below ((Below.refl _ _).alloc (Nat.le_refl _) _) (by omega)
      have HA : Hid (VAt (w4.alloc (.cells #[.int .i64 0, .int .i64 (h.level (-1))] 29)) w3.heap.size 0 h.apart) := (HA.out.below hb HA.out.lt).below ((Below.refl _ _).alloc (Nat.le_refl _) _) hs4
      have HL : Hid (VW (w4.alloc (.cells #[.int .i64 0, .int .i64 (h.level (-1))] 29)) w4.heap.size 0 (h.level (-1))) := VW.new w4 _ _ _
      have HB : Hid (Below w.heap.size w (w4.alloc (.cells #[.int .i64 0, .int .i64 (h.level (-1))] 29))) := (HB.out.trans (hb.mono HB.out.size)).alloc (by omega) _
      clear hb
      clear q0 q1 q2 q3 q4 q5 q6 q7 q8 q9 q10 q11
      obtain ⟨q0, q1, q2, q3, q4, q5, q6, q7, q8, q9, q10, q11⟩ := HH.out
      obtain ⟨a0, a1⟩ := HA.out
      obtain ⟨L0, L1, z0, z1⟩ := HL.out
      have hd1 : decide (h.level (-1) < h.low) = false := decide_eq_false (by have := o.room_bd; have := o.rf1; unfold Pl.Hs.low Pl.Hs.level; rw [if_pos (by omega)]; omega)
      have hd2 : decide (h.apart < h.ln) = false := decide_eq_false (by have := (apart_pos hf).2.1; omega)
      have hf1 := field1
      have HO : Hid h.Ok := o
      clear o
      go_wp2_with fail
      have HH : Hid (HAt (w4.alloc (.cells #[.int .i64 0, .int .i64 (h.level (-1))] 29)).drew w1.heap.size h) := HH.out.drew
      have HA : Hid (VAt (w4.alloc (.cells #[.int .i64 0, .int .i64 (h.level (-1))] 29)).drew w3.heap.size 0 h.apart) := HA.out.drew
      have HL : Hid (VW (w4.alloc (.cells #[.int .i64 0, .int .i64 (h.level (-1))] 29)).drew w4.heap.size 0 (h.level (-1))) := HL.out.drew
      have HB : Hid (Below w.heap.size w (w4.alloc (.cells #[.int .i64 0, .int .i64 (h.level (-1))] 29)).drew) := HB.out.drew
      go_region_held3 (fun w'' => w''.cell? ⟨w1.heap.size, 0, none⟩ = some (.int .i64 h.fl) ∧ w''.cell? ⟨w1.heap.size, 1, none⟩ = some (.int .i64 h.gp) ∧ w''.cell? ⟨w1.heap.size, 2, none⟩ = some (.int .i64 h.ln) ∧ w''.cell? ⟨w1.heap.size, 3, none⟩ = some (.int .i64 h.rf) ∧ w''.cell? ⟨w1.heap.size, 4, none⟩ = some (.int .i64 h.sp) ∧ w''.cell? ⟨w1.heap.size, 5, none⟩ = some (.int .i64 h.pu) ∧ w''.cell? ⟨w1.heap.size, 6, none⟩ = some (.int .i64 h.br) ∧ w''.cell? ⟨w1.heap.size, 7, none⟩ = some (.int .i64 h.dr) ∧ w''.cell? ⟨w1.heap.size, 8, none⟩ = some (.int .i64 h.lv) ∧ w''.cell? ⟨w1.heap.size, 9, none⟩ = some (.int .i64 h.dO) ∧ w''.cell? ⟨w1.heap.size, 10, none⟩ = some (.int .i64 h.ld) ∧ w''.cell? ⟨w1.heap.size, 11, none⟩ = some (.int .i64 h.qu) ∧ w''.cell? ⟨w3.heap.size, 1, none⟩ = some (.int .i64 h.apart) ∧ w''.cell? ⟨w4.heap.size, 1, none⟩ = some (.int .i64 (h.level (-1)))) (go_keep) ((go_at_call 15; refine (implLowEnd_yes h hf _).mono ?_; rintro e w5 ⟨rfl, hb⟩; have HH : Hid (HAt w5 w1.heap.size h) := HH.out.below hb HH.out.lt; have HA : Hid (VAt w5 w3.heap.size 0 h.apart) := HA.out.below hb HA.out.lt; have HL : Hid (VW w5 w4.heap.size 0 (h.level (-1))) := HL.out.below hb HL.out.lt; have HB : Hid (Below w.heap.size w w5) := HB.out.trans (hb.mono HB.out.size); obtain ⟨q0, q1, q2, q3, q4, q5, q6, q7, q8, q9, q10, q11⟩ := HH.out; obtain ⟨a0, a1⟩ := HA.out; obtain ⟨L0, L1, z0, z1⟩ := HL.out; clear hb))
      go_wp2
      clear q0 q1 q2 q3 q4 q5 q6 q7 q8 q9 q10 q11
      clear a0 a1 L0 L1 z0 z1
      have hs5 : w4.heap.size < w5.heap.size := HL.out.lt
      go_loopw [7] (fun f wr => ∃ n m : Int, f = .int .i64 n ∧ n = m + 1 ∧ 0 ≤ n ∧ n ≤ h.fl + 1 ∧ HAt wr w1.heap.size h ∧ VAt wr w3.heap.size 0 h.apart ∧ VW wr w4.heap.size 0 (h.level m) ∧ Below w.heap.size w wr) (fun f _ => (h.fl + 1 - intOf f).toNat)
      case atStart => exact ⟨0, -1, rfl, rfl, by omega, by omega, HH.out, HA.out, HL.out, HB.out⟩
      case round =>
        obtain ⟨n, m, rfl, hnm, n1, n2, hat, hva, hvw, hbel⟩ := hrel
        have HH : Hid (HAt wr w1.heap.size h) := hat
        have HA : Hid (VAt wr w3.heap.size 0 h.apart) := hva
        have HL : Hid (VW wr w4.heap.size 0 (h.level m)) := hvw
        have HB : Hid (Below w.heap.size w wr) := hbel
        have HM : Hid (n = m + 1) := hnm
        have m1 : -1 ≤ m := by omega
        have m2 : m ≤ h.fl := by omega
        clear hat hva hvw hbel hnm
        obtain ⟨q0, q1, q2, q3, q4, q5, q6, q7, q8, q9, q10, q11⟩ := HH.out
        by_cases hn : n ≤ h.fl
        · have m3 : m < h.fl := by have := HM.out; omega
          go_wp2_with fail
          refine (implLevelOf_yes h n hf (Pl.inB_yes (by omega) (by omega)) _).mono ?_
          rintro e w6 ⟨rfl, hb⟩
          have hs6 : w4.heap.size < w6.heap.size := (HL.out.below hb HL.out.lt).lt
          have HH : Hid (HAt (w6.alloc (.cells #[.int .i64 0, .int .i64 (h.level n)] 29)) w1.heap.size h) := (HH.out.below hb HH.out.lt).below ((Below.refl _ _).alloc (Nat.le_refl _) _) (by omega)
          have HA : Hid (VAt (w6.alloc (.cells #[.int .i64 0, .int .i64 (h.level n)] 29)) w3.heap.size 0 h.apart) := (HA.out.below hb HA.out.lt).below ((Below.refl _ _).alloc (Nat.le_refl _) _) (by omega)
          have HL : Hid (VW (w6.alloc (.cells #[.int .i64 0, .int .i64 (h.level n)] 29)) w4.heap.size 0 (h.level m)) := (HL.out.below hb HL.out.lt).below ((Below.refl _ _).alloc (Nat.le_refl _) _) (by omega)
          have HN : Hid (VAt (w6.alloc (.cells #[.int .i64 0, .int .i64 (h.level n)] 29)) w6.heap.size 0 (h.level n)) := VAt.new w6 _ _ _
          have HB : Hid (Below w.heap.size w (w6.alloc (.cells #[.int .i64 0, .int .i64 (h.level n)] 29))) := (HB.out.trans (hb.mono HB.out.size)).alloc (by omega) _
          clear hb
          clear q0 q1 q2 q3 q4 q5 q6 q7 q8 q9 q10 q11
          obtain ⟨q0, q1, q2, q3, q4, q5, q6, q7, q8, q9, q10, q11⟩ := HH.out
          obtain ⟨a0, a1⟩ := HA.out
          obtain ⟨b0, b1⟩ := HN.out
          obtain ⟨L0, L1, z0, z1⟩ := HL.out
          have v1 := HO.out.level_bd n (by omega) (by omega)
          have v2 := HO.out.level_bd m (by omega) (by omega)
          have hd : decide (h.level n - h.level m < h.apart) = false := decide_eq_false (by have := level_step hf m (by omega) (by omega); rw [← HM.out] at this; omega)
          go_wp2_with fail
          clear q0 q1 q2 q3 q4 q5 q6 q7 q8 q9 q10 q11
          clear a0 a1 b0 b1 L0 L1 z0 z1 hd
          refine (implFloorAt_yes h (h.level n) hf (level_in hf n (by omega) hn) _).mono ?_
          rintro e w7 ⟨r, hr, rfl, hb⟩
          obtain rfl := hr.one (near_self hf n (by omega) hn)
          have HH : Hid (HAt w7 w1.heap.size h) := HH.out.below hb HH.out.lt
          have HA : Hid (VAt w7 w3.heap.size 0 h.apart) := HA.out.below hb HA.out.lt
          have HL : Hid (VW w7 w4.heap.size 0 (h.level m)) := HL.out.below hb HL.out.lt
          have HN : Hid (VAt w7 w6.heap.size 0 (h.level r)) := HN.out.below hb HN.out.lt
          have HB : Hid (Below w.heap.size w w7) := HB.out.trans (hb.mono HB.out.size)
          clear hb hr
          obtain ⟨b0, b1⟩ := HN.out
          obtain ⟨L0, L1, z0, z1⟩ := HL.out
          go_wp2
          go_roundw
          case rel => exact ⟨r + 1, r, rfl, rfl, by omega, by omega, HH.out.put 0 (h.level r) (by omega), HA.out.put 0 (h.level r) (by omega), HL.out.put 0 (h.level r), below_putV HB.out (by omega) 0 (h.level r)⟩
          case measure => simp [intOf]; omega
        · obtain rfl : m = h.fl := by have := HM.out; omega
          obtain rfl : n = h.fl + 1 := HM.out
          clear HM
          have lv0 : h.level 0 = 0 := by unfold Pl.Hs.level; rw [if_neg (by omega), if_neg (by omega)]; simp
          have hd3 : decide (h.level h.fl ≤ h.high) = true := decide_eq_true (by have := HO.out.room_bd; unfold Pl.Hs.level Pl.Hs.high; rw [if_neg (by omega), if_pos (by omega)]; omega)
          obtain ⟨L0, L1, z0, z1⟩ := HL.out
          go_wp2_with fail
          have HH : Hid (HAt wr.drew w1.heap.size h) := HH.out.drew
          have HL : Hid (VW wr.drew w4.heap.size 0 (h.level h.fl)) := HL.out.drew
          have HB : Hid (Below w.heap.size w wr.drew) := HB.out.drew
          go_region_held3 (fun w'' => w''.cell? ⟨w1.heap.size, 0, none⟩ = some (.int .i64 h.fl) ∧ w''.cell? ⟨w1.heap.size, 1, none⟩ = some (.int .i64 h.gp) ∧ w''.cell? ⟨w1.heap.size, 2, none⟩ = some (.int .i64 h.ln) ∧ w''.cell? ⟨w1.heap.size, 3, none⟩ = some (.int .i64 h.rf) ∧ w''.cell? ⟨w1.heap.size, 4, none⟩ = some (.int .i64 h.sp) ∧ w''.cell? ⟨w1.heap.size, 5, none⟩ = some (.int .i64 h.pu) ∧ w''.cell? ⟨w1.heap.size, 6, none⟩ = some (.int .i64 h.br) ∧ w''.cell? ⟨w1.heap.size, 7, none⟩ = some (.int .i64 h.dr) ∧ w''.cell? ⟨w1.heap.size, 8, none⟩ = some (.int .i64 h.lv) ∧ w''.cell? ⟨w1.heap.size, 9, none⟩ = some (.int .i64 h.dO) ∧ w''.cell? ⟨w1.heap.size, 10, none⟩ = some (.int .i64 h.ld) ∧ w''.cell? ⟨w1.heap.size, 11, none⟩ = some (.int .i64 h.qu) ∧ w''.cell? ⟨w4.heap.size, 1, none⟩ = some (.int .i64 (h.level h.fl))) (go_keep) (first | (go_at_call 17; refine (implHighEnd_yes h hf _).mono ?_; rintro e w5 ⟨rfl, hb⟩; have HH : Hid (HAt w5 w1.heap.size h) := HH.out.below hb HH.out.lt; have HL : Hid (VW w5 w4.heap.size 0 (h.level h.fl)) := HL.out.below hb HL.out.lt; have HB : Hid (Below w.heap.size w w5) := HB.out.trans (hb.mono HB.out.size); obtain ⟨q0, q1, q2, q3, q4, q5, q6, q7, q8, q9, q10, q11⟩ := HH.out; obtain ⟨L0, L1, z0, z1⟩ := HL.out; clear hb) | (go_at_call 13; refine (implLevelOf_yes h 0 hf (Pl.inB_yes (by omega) (by omega)) _).mono ?_; rw [lv0]; rintro e w5 ⟨rfl, hb⟩; have HH : Hid (HAt w5 w1.heap.size h) := HH.out.below hb HH.out.lt; have HL : Hid (VW w5 w4.heap.size 0 (h.level h.fl)) := HL.out.below hb HL.out.lt; have HB : Hid (Below w.heap.size w w5) := HB.out.trans (hb.mono HB.out.size); obtain ⟨q0, q1, q2, q3, q4, q5, q6, q7, q8, q9, q10, q11⟩ := HH.out; obtain ⟨L0, L1, z0, z1⟩ := HL.out; clear hb))
          go_wp2
          go_ret
          exact ⟨rfl, HB.out⟩
    · have hn : (h.fault != 0) = true := by simpa using hf
      have hf0 := field0
      refine (implFault_any h _).mono ?_
      rintro e w2 ⟨rfl, hb⟩
      have HH : Hid (HAt w2 w1.heap.size h) := HH.out.below hb HH.out.lt
      have HB : Hid (Below w.heap.size w w2) := HB.out.trans (hb.mono HB.out.size)
      clear hb
      obtain ⟨q0, q1, q2, q3, q4, q5, q6, q7, q8, q9, q10, q11⟩ := HH.out
      go_wp2_with (first | (go_at_call 12; refine (specFault_any h _).mono ?_; rintro e w3 ⟨rfl, hb⟩; have HH : Hid (HAt w3 w1.heap.size h) := HH.out.below hb HH.out.lt; have HB : Hid (Below w.heap.size w w3) := HB.out.trans (hb.mono HB.out.size); obtain ⟨q0, q1, q2, q3, q4, q5, q6, q7, q8, q9, q10, q11⟩ := HH.out; clear hb) | (go_at_call 13; refine (implLevelOf_no h 0 hf _).mono ?_; rintro e w4 ⟨rfl, hb⟩; have HB : Hid (Below w.heap.size w w4) := HB.out.trans (hb.mono HB.out.size); clear hb))
      go_ret
      exact ⟨by simp, HB.out⟩
  · have hm : len0 ≤ maxLen := row_le w0
    clear w0
    go_enter Try.func3, Try.ntmps3
    go_wp2_with (go_at_call 9; refine (lwBig_yes _ _ _ (by omega) hm _).mono ?_; rintro e w' ⟨rfl, rfl⟩)
    go_ret
    exact ⟨rfl, Below.refl _ _⟩

/-! ### THE ROW's STEP: WRITTEN OUT: LEAVE IT -/
set_option maxRecDepth 100000 in
theorem lifted (os : Os) (started : os.Started) (H : Type) (enc : TypeId × Value → H) :
    ReturnsInHanded {} Try.checked os 3 .any (Rows.fnHousesSpec.pre6 enc Try.prog Try.f3 Rows.fnHousesRow.domain false) (Rows.fnHousesSpec.post enc Try.prog Try.f3 false true false false) := by
  refine returnsInHanded_of_change (C := Try.checked) own started (by kernel_rfl) Try.func3
    (ChangeSpec.witness6 (enc := enc) (C := Try.checked) false ⟨#[], #[.slice none 0 0], []⟩ 8 (by kernel_rfl) (by kernel_rfl) (by kernel_rfl) (by kernel_rfl)) ?_
  intro W base args ds gs before hval0 hW hcnd _
  have hval : ∀ (j : Nat) t v, Try.f3.params[j]? = some t → args[j]? = some v → Value.okWide Try.prog W .any base t v := hval0
  have hW' := hW
  obtain ⟨p, q, hA0, hV, rfl, hfz, hnd⟩ := hW
  have hA : DataW.TrodAll enc Try.prog W 0 (fun _ => true) true Try.f3.params.toList args.toList ds p := hA0
  rw [Try.params3] at hA hval
  obtain ⟨v0, vs0, d0, ds0, p0, q0, hargs, rfl, rfl, h0, r0⟩ := trodAll_cons hA
  obtain ⟨rfl, rfl, rfl⟩ := trodAll_nil r0
  obtain rfl : args = #[v0] := by cases args; simp_all
  obtain ⟨rfl, rfl⟩ := trodVars_none hV
  obtain ⟨a0, len0, cap0, rfl⟩ := okWide_slice Try.underlying22 (hval 0 22 v0 rfl rfl)
  have k0 := h0
  have lt0 : ∀ x ∈ p0, x.block < W.heap.size := by obtain ⟨m, hm⟩ := k0; exact DataW.trod_lt m _ _ _ hm
  obtain ⟨z0, w0⟩ : ∃ zs, IsRow .u8 W a0 len0 cap0 zs := by
    obtain ⟨fuel, hf⟩ := h0
    rcases open_ints Try.underlying22 Try.underlying5 (by kernel_rfl) hf with ⟨hcs, _⟩ | ⟨x, l, c, zs, hcs, _, hl, hm, hz, _, hcell, hwz⟩
    · simp [Value.cells] at hcs
      obtain ⟨rfl, rfl, rfl⟩ := hcs
      exact ⟨[], .inl ⟨rfl, rfl, rfl, rfl⟩⟩
    · simp [Value.cells] at hcs
      obtain ⟨rfl, rfl, rfl⟩ := hcs
      exact ⟨zs, .inr ⟨_, rfl, hl, hm, by simpa using hz, hcell, hwz⟩⟩
  clear hA0 hval0
  refine (walk a0 len0 cap0 z0 W w0).mono fun e W' ⟨he, bel⟩ => ?_
  subst he
  exact ⟨_, rfl, _, _, _, [], _, [], hW', trodAll_mk1 (shut_bool Try.underlying4 _), (trodAll_cons_mk (Below.trod laidOut (by kernel_rfl) (of_decide_eq_true (by kernel_rfl)) k0 bel lt0) trodAll_mk0), rfl, bel.frame _, fun h => by cases h⟩

theorem over : Rows.fnHousesRow.holds Try.pinned (OpenSpec.ofChange Rows.fnHousesSpec) :=
  OpenClaim.holds_of_wide 3 Try.f3 rfl rfl rfl rfl rfl rfl rfl ⟨rfl, rfl, rfl, rfl, rfl⟩ rfl rfl rfl rfl rfl (by kernel_rfl) Try.func3 (by kernel_rfl)
    (of_decide_eq_true (by kernel_rfl)) (by unfold Func.isWrapper; first | (rw [if_pos (by decide +kernel)]; kernel_rfl) | (rw [if_neg (by decide +kernel)]; exact ⟨rfl, rfl⟩))
    (fun os started H enc _ => lifted os started H enc)

/-- ████ THE STATEMENT ████ -/
theorem proved : Rows.FnHousesSaid := over
end Go.Proofs.Ytegcacokgjonbaa.fnHouses

namespace Go.Proofs.Ytegcacokgjonbaa
theorem fnHouses_holds : Rows.FnHousesSaid := fnHouses.proved
#print axioms fnHouses_holds
end Go.Proofs.Ytegcacokgjonbaa
