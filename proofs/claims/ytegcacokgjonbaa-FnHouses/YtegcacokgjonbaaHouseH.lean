/-
  The house of the law: the draw, and how its floors stand, in plain numbers.
-/
import Derived.Test.YtegcacokgjonbaaHouseB
import Derived.Test.YtegcacokgjonbaaHouseO
import Derived.Test.YtegcacokgjonbaaAt
namespace Go.Proofs.Ytegcacokgjonbaa
open Go.RowKit Pl

theorem below_putH {B : Nat} {w W : World} (h : Below B w W) {b : Nat} (hb : B ≤ b) (g : Hs) : Below B w (putH W b g) := ((((((((((((h.setCell hb _).setCell hb _).setCell hb _).setCell hb _).setCell hb _).setCell hb _).setCell hb _).setCell hb _).setCell hb _).setCell hb _).setCell hb _).setCell hb _)

set_option maxHeartbeats 1000000 in
/-- A house's code of choices, in the heap as it is when the law begins. -/
theorem DrawHouseFault_any (a : Option Addr) (len cap : Nat) (w : World) (hc : CodeIn w w.heap.size a len) :
    Calls Try.prog 10 #[.slice a len cap] w fun e w' => ∃ h : Hs, e = .returned (.agg #[.int .i64 h.fl, .int .i64 h.gp, .int .i64 h.ln, .int .i64 h.rf, .int .i64 h.sp, .int .i64 h.pu, .int .i64 h.br, .int .i64 h.dr, .int .i64 h.lv, .int .i64 h.dO, .int .i64 h.ld, .int .i64 h.qu]) ∧ Below w.heap.size w w' := by
  have HR0 : Hid (HW (w.alloc (.cells #[.int .i64 0, .int .i64 0, .int .i64 0, .int .i64 0, .int .i64 0, .int .i64 0, .int .i64 0, .int .i64 0, .int .i64 0, .int .i64 0, .int .i64 0, .int .i64 0] 25)) w.heap.size (⟨0, 0, 0, 0, 0, 0, 0, 0, 0, 0, 0, 0⟩ : Hs)) := HW.new w (⟨0, 0, 0, 0, 0, 0, 0, 0, 0, 0, 0, 0⟩ : Hs) _
  have HB0 : Hid (Below w.heap.size w (w.alloc (.cells #[.int .i64 0, .int .i64 0, .int .i64 0, .int .i64 0, .int .i64 0, .int .i64 0, .int .i64 0, .int .i64 0, .int .i64 0, .int .i64 0, .int .i64 0, .int .i64 0] 25))) := (Below.refl _ _).alloc (Nat.le_refl _) _
  have HC : Hid (CodeIn (w.alloc (.cells #[.int .i64 0, .int .i64 0, .int .i64 0, .int .i64 0, .int .i64 0, .int .i64 0, .int .i64 0, .int .i64 0, .int .i64 0, .int .i64 0, .int .i64 0, .int .i64 0] 25)) w.heap.size a len) := hc.keep fun b off _ hb => World.cell?_alloc_past _ _ _ hb
  clear hc
  go_enter Try.func10, Try.ntmps10
  go_wp2_with fail
  refine (l1Source_any w.heap.size a len cap _ (by simp) HC.out).mono ?_
  rintro e w1 ⟨rfl, hs, hk⟩
  have hsz : (w.alloc (.cells #[.int .i64 0, .int .i64 0, .int .i64 0, .int .i64 0, .int .i64 0, .int .i64 0, .int .i64 0, .int .i64 0, .int .i64 0, .int .i64 0, .int .i64 0, .int .i64 0] 25)).heap.size = w.heap.size + 1 := by simp
  rw [hsz] at hs hk ⊢
  have HB1 : Hid (Below w.heap.size w w1) := HB0.out.trans (hk.below (by omega) (by rw [hsz]; omega))
  have HR1 : Hid (HW w1 w.heap.size (⟨0, 0, 0, 0, 0, 0, 0, 0, 0, 0, 0, 0⟩ : Hs)) := HR0.out.keeps hk (by omega)
  have HS1 : Hid (Src w1 (w.heap.size + 1) w.heap.size a len cap 0) := hs
  clear hs hk HC HB0 HR0 hsz
  go_wp2_with fail
  refine (l2Bent_src _ _ _ _ _ _ _ HS1.out (by omega)).mono ?_
  rintro e w2 ⟨h, t, rfl, ht, hs, hk⟩
  have hlt1 : w.heap.size < w1.heap.size := HR1.out.lt
  have HB2 : Hid (Below w.heap.size w w2) := HB1.out.trans (hk.below (by omega) (by omega))
  have HR2 : Hid (HW w2 w.heap.size (⟨0, 0, 0, 0, 0, 0, 0, 0, 0, 0, 0, 0⟩ : Hs)) := HR1.out.keeps hk (by omega)
  clear hs hk HB1 HR1 HS1 ht
  obtain ⟨d0, d1, d2, d3, d4, d5, d6, d7, d8, d9, d10, d11, e0, e1, e2, e3, e4, e5, e6, e7, e8, e9, e10, e11⟩ := HR2.out
  dsimp only at d0 d1 d2 d3 d4 d5 d6 d7 d8 d9 d10 d11
  go_wp2_with fail
  clear d0 d1 d2 d3 d4 d5 d6 d7 d8 d9 d10 d11 e0 e1 e2 e3 e4 e5 e6 e7 e8 e9 e10 e11
  change bodyPost _ _ _ _ _ (putH w2 w.heap.size h)
  obtain ⟨Wf, hWf⟩ : ∃ Wf, putH w2 w.heap.size h = Wf := ⟨_, rfl⟩
  have HRf : HW Wf w.heap.size h := hWf ▸ HR2.out.put _
  have HBf : Below w.heap.size w Wf := hWf ▸ below_putH HB2.out (Nat.le_refl _) _
  rw [hWf]
  clear hWf HR2 HB2
  obtain ⟨d0, d1, d2, d3, d4, d5, d6, d7, d8, d9, d10, d11, e0, e1, e2, e3, e4, e5, e6, e7, e8, e9, e10, e11⟩ := HRf
  exact bodyPost_ret (v := .agg #[.int .i64 h.fl, .int .i64 h.gp, .int .i64 h.ln, .int .i64 h.rf, .int .i64 h.sp, .int .i64 h.pu, .int .i64 h.br, .int .i64 h.dr, .int .i64 h.lv, .int .i64 h.dO, .int .i64 h.ld, .int .i64 h.qu]) (by simp [results, Try.results10, go_sem, d0, d1, d2, d3, d4, d5, d6, d7, d8, d9, d10, d11]) rfl ⟨h, rfl, HBf⟩

/-- A house without a fault: its places rise by at least what its floors must be apart. -/
theorem level_step {h : Hs} (hf : h.fault = 0) (f : Int) (f1 : -1 ≤ f) (f2 : f < h.fl) : h.apart ≤ h.level (f + 1) - h.level f := by
  obtain ⟨hr, a1, a2⟩ := Hs.fault_zero hf
  have o := Hs.ok_of hr
  have l1 := o.fl1
  unfold Hs.level
  by_cases c0 : f < 0
  · obtain rfl : f = -1 := by omega
    rw [if_neg (by omega), if_neg (by omega), if_pos (by omega)]
    simp only [show (-1 : Int) + 1 = 0 from rfl, Int.zero_mul]
    omega
  · rw [if_neg (by omega), if_neg c0]
    by_cases c1 : h.fl ≤ f + 1
    · obtain rfl : f = h.fl - 1 := by omega
      rw [if_pos c1, if_neg (by omega)]
      omega
    · rw [if_neg c1, if_neg (by omega), Int.add_mul]
      omega
theorem apart_pos {h : Hs} (hf : h.fault = 0) : 1 ≤ h.apart ∧ h.ln ≤ h.apart ∧ h.apart ≤ 5000000 := by
  have o := Hs.ok_of (Hs.fault_zero hf).1
  obtain ⟨s1, s2⟩ := o.stop_bd
  have h1 := o.sp1; have h2 := o.sp2; have h6 := o.ln1; have h7 := o.ln2; have h8 := o.lv1; have h9 := o.lv2
  unfold Hs.apart
  omega
theorem level_up {h : Hs} (hf : h.fault = 0) (f : Int) (n : Nat) (f1 : -1 ≤ f) (f2 : f + n ≤ h.fl) : h.level f + n ≤ h.level (f + n) := by
  induction n with
  | zero => simp
  | succ n ih =>
    have i := ih (by omega)
    have s := level_step hf (f + n) (by omega) (by omega)
    have p := (apart_pos hf).1
    have e : f + ((n + 1 : Nat) : Int) = f + n + 1 := by omega
    rw [e]
    omega
theorem level_lt {h : Hs} (hf : h.fault = 0) (f g : Int) (f1 : -1 ≤ f) (fg : f ≤ g) (g2 : g ≤ h.fl) : h.level f + (g - f) ≤ h.level g := by
  have := level_up hf f (g - f).toNat f1 (by omega)
  rw [show f + ((g - f).toNat : Int) = g by omega] at this
  omega
/-- The nearest to a floor's own place is that floor. -/
theorem near_self {h : Hs} (hf : h.fault = 0) (f : Int) (f1 : -1 ≤ f) (f2 : f ≤ h.fl) : h.NearTo (h.level f) (h.fl + 1) f := by
  refine ⟨f1, by omega, fun g g1 g2 => ?_, fun g g1 g2 => ?_⟩
  · have := level_lt hf g f g1 (by omega) f2
    unfold Hs.dist absI
    (repeat' split) <;> omega
  · have := level_lt hf f g f1 (by omega) (by omega)
    unfold Hs.dist absI
    (repeat' split) <;> omega
theorem level_in {h : Hs} (hf : h.fault = 0) (f : Int) (f1 : -1 ≤ f) (f2 : f ≤ h.fl) : inB (h.level f) (h.level (-1)) (h.level h.fl) = true := by
  have a := level_lt hf (-1) f (by omega) f1 f2
  have b := level_lt hf f h.fl f1 f2 (by omega)
  exact inB_yes (by omega) (by omega)

/-- A code and a value lie in the block b, and may be written. -/
structure VW (w : World) (b : Nat) (c v : Int) : Prop where
  c0 : w.cell? ⟨b, 0, none⟩ = some (.int .i64 c)
  c1 : w.cell? ⟨b, 1, none⟩ = some (.int .i64 v)
  f0 : w.frozen? ⟨b, 0, none⟩ = false
  f1 : w.frozen? ⟨b, 1, none⟩ = false
theorem VW.lt {w : World} {b : Nat} {c v : Int} (a : VW w b c v) : b < w.heap.size := World.block_lt_of_cell? w _ a.c0
theorem VW.new (w : World) (c v : Int) (T : TypeId) : VW (w.alloc (.cells #[.int .i64 c, .int .i64 v] T)) w.heap.size c v := by
  constructor <;> simp
theorem VW.below {W w : World} {b B : Nat} {c v : Int} (a : VW W b c v) (hb : Below B W w) (hB : b < B) : VW w b c v :=
  ⟨(hb.cell (p := ⟨b, 0, none⟩) hB).trans a.c0, (hb.cell (p := ⟨b, 1, none⟩) hB).trans a.c1, (hb.frozen (p := ⟨b, 0, none⟩) hB).trans a.f0, (hb.frozen (p := ⟨b, 1, none⟩) hB).trans a.f1⟩
theorem VW.drew {w : World} {b : Nat} {c v : Int} (a : VW w b c v) : VW w.drew b c v := a.below (Below.refl w.heap.size w).drew a.lt
/-- A code and a value, stored into the block b. -/
def putV (W : World) (b : Nat) (c v : Int) : World := (W.setCell ⟨b, 0, none⟩ (.int .i64 c)).setCell ⟨b, 1, none⟩ (.int .i64 v)
theorem VW.put {W : World} {b : Nat} {c v : Int} (a : VW W b c v) (c' v' : Int) : VW (putV W b c' v') b c' v' :=
  ⟨(World.cell?_setCell_other _ _ _ _ (by simp)).trans (World.cell?_setCell_same _ _ _ a.c0), World.cell?_setCell_same _ _ _ ((World.cell?_setCell_other _ _ _ _ (by simp)).trans a.c1), (World.frozen?_setCell _ _ _ _).trans ((World.frozen?_setCell _ _ _ _).trans a.f0), (World.frozen?_setCell _ _ _ _).trans ((World.frozen?_setCell _ _ _ _).trans a.f1)⟩
theorem putV_cell (W : World) (b k o : Nat) (c v : Int) (hne : k ≠ b) : (putV W b c v).cell? ⟨k, o, none⟩ = W.cell? ⟨k, o, none⟩ :=
  (World.cell?_setCell_other _ _ _ _ (fun e => hne (congrArg Addr.block e).symm)).trans (World.cell?_setCell_other _ _ _ _ (fun e => hne (congrArg Addr.block e).symm))
theorem VAt.put {W : World} {b k : Nat} {c v : Int} (a : VAt W k c v) (c' v' : Int) (hne : k ≠ b) : VAt (putV W b c' v') k c v :=
  ⟨(putV_cell W b k 0 c' v' hne).trans a.c0, (putV_cell W b k 1 c' v' hne).trans a.c1⟩
theorem HAt.put {W : World} {b k : Nat} {h : Hs} (a : HAt W k h) (c' v' : Int) (hne : k ≠ b) : HAt (putV W b c' v') k h :=
  ⟨(putV_cell W b k 0 c' v' hne).trans a.c0, (putV_cell W b k 1 c' v' hne).trans a.c1, (putV_cell W b k 2 c' v' hne).trans a.c2, (putV_cell W b k 3 c' v' hne).trans a.c3, (putV_cell W b k 4 c' v' hne).trans a.c4, (putV_cell W b k 5 c' v' hne).trans a.c5, (putV_cell W b k 6 c' v' hne).trans a.c6, (putV_cell W b k 7 c' v' hne).trans a.c7, (putV_cell W b k 8 c' v' hne).trans a.c8, (putV_cell W b k 9 c' v' hne).trans a.c9, (putV_cell W b k 10 c' v' hne).trans a.c10, (putV_cell W b k 11 c' v' hne).trans a.c11⟩
theorem below_putV {B : Nat} {w W : World} (h : Below B w W) {b : Nat} (hb : B ≤ b) (c v : Int) : Below B w (putV W b c v) :=
  (h.setCell hb _).setCell hb _
theorem VAt.drew {w : World} {b : Nat} {c v : Int} (a : VAt w b c v) : VAt w.drew b c v := a.below (Below.refl w.heap.size w).drew a.lt
theorem field0 (c v : Int) (w : World) : (Instr.field 29 (.agg #[.int .i64 c, .int .i64 v]) 0).run Try.prog w = .ok (.int .i64 c) w := by kernel_rfl
theorem field1 (c v : Int) (w : World) : (Instr.field 29 (.agg #[.int .i64 c, .int .i64 v]) 1).run Try.prog w = .ok (.int .i64 v) w := by kernel_rfl
end Go.Proofs.Ytegcacokgjonbaa
