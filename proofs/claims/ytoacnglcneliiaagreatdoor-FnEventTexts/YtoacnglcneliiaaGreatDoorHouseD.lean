/-
  The house that the bytes draw: its twelve numbers are small, and nothing that was there has turned.
-/
import Derived.Test.YtoacnglcneliiaaGreatDoorHouseW
import Derived.Test.YtoacnglcneliiaaGreatDoorFnd
import Derived.Deep.RegionHeld3
namespace Go.Proofs.YtoacnglcneliiaaGreatDoor
open Go.RowKit Pl

theorem Keeps.own {sb b : Nat} {a w : World} (h : Keeps sb a w) (hb : a.heap.size ≤ b) (o : Nat) (v : Value) : Keeps sb a (w.setCell ⟨b, o, none⟩ v) :=
  ⟨h.os, h.tape, h.output, by have := h.size; simpa [World.setCell] using this, fun k hk hn => (Below.heap_setCell _ _ _ _ (show k ≠ b by omega)).trans (h.block k hk hn)⟩
theorem Keeps.of_below {sb : Nat} {a w w' : World} (h : Keeps sb a w) (hb : Below w.heap.size w w') : Keeps sb a w' :=
  ⟨hb.os.trans h.os, hb.tape.trans h.tape, hb.output.trans h.output, Nat.le_trans h.size hb.size, fun k hk hn => (hb.block k (by have := h.size; omega)).trans (h.block k hk hn)⟩

/-- A house, stored whole into the block b. -/
def putH (W : World) (b : Nat) (h : Hs) : World := ((((((((((((W.setCell ⟨b, 0, none⟩ (.int .i64 h.fl)).setCell ⟨b, 1, none⟩ (.int .i64 h.gp)).setCell ⟨b, 2, none⟩ (.int .i64 h.ln)).setCell ⟨b, 3, none⟩ (.int .i64 h.rf)).setCell ⟨b, 4, none⟩ (.int .i64 h.sp)).setCell ⟨b, 5, none⟩ (.int .i64 h.pu)).setCell ⟨b, 6, none⟩ (.int .i64 h.br)).setCell ⟨b, 7, none⟩ (.int .i64 h.dr)).setCell ⟨b, 8, none⟩ (.int .i64 h.lv)).setCell ⟨b, 9, none⟩ (.int .i64 h.dO)).setCell ⟨b, 10, none⟩ (.int .i64 h.ld)).setCell ⟨b, 11, none⟩ (.int .i64 h.qu))
theorem HW.put {W : World} {b : Nat} {g : Hs} (a : HW W b g) (h : Hs) : HW (putH W b h) b h := ((((((((((((a.set_fl _).set_gp _).set_ln _).set_rf _).set_sp _).set_pu _).set_br _).set_dr _).set_lv _).set_dO _).set_ld _).set_qu _)
theorem Src.put {W : World} {sb B : Nat} {a : Option Addr} {len cap t : Nat} (hs : Src W sb B a len cap t) (b : Nat) (h : Hs) (hb : b ≠ sb) (hB : B ≤ b) : Src (putH W b h) sb B a len cap t := ((((((((((((hs.other b _ _ hb hB).other b _ _ hb hB).other b _ _ hb hB).other b _ _ hb hB).other b _ _ hb hB).other b _ _ hb hB).other b _ _ hb hB).other b _ _ hb hB).other b _ _ hb hB).other b _ _ hb hB).other b _ _ hb hB).other b _ _ hb hB)
theorem Keeps.put {sb b : Nat} {a w : World} (hk : Keeps sb a w) (hb : a.heap.size ≤ b) (h : Hs) : Keeps sb a (putH w b h) := ((((((((((((hk.own hb _ _).own hb _ _).own hb _ _).own hb _ _).own hb _ _).own hb _ _).own hb _ _).own hb _ _).own hb _ _).own hb _ _).own hb _ _).own hb _ _)

/-- A house as the bytes draw it: small numbers, floors that are far enough apart. -/
structure Small (h : Hs) : Prop where
  fl1 : 2 ≤ h.fl
  fl2 : h.fl ≤ 6
  gp1 : h.apart ≤ h.gp
  gp2 : h.gp ≤ h.apart + 199
  ln1 : 100 ≤ h.ln
  ln2 : h.ln ≤ 300
  rf1 : h.apart ≤ h.rf
  rf2 : h.rf ≤ h.apart + 99
  sp1 : 40 ≤ h.sp
  sp2 : h.sp ≤ 100
  pu1 : 5 ≤ h.pu
  pu2 : h.pu ≤ 20
  br1 : h.pu ≤ h.br
  br2 : h.br ≤ h.pu + 10
  dr1 : 0 ≤ h.dr
  dr2 : h.dr ≤ 2
  lv1 : 0 ≤ h.lv
  lv2 : h.lv ≤ 5
  do1 : 1 ≤ h.dO
  do2 : h.dO ≤ 3
  ld1 : 1 ≤ h.ld
  ld2 : h.ld ≤ 3
  qu1 : 1 ≤ h.qu
  qu2 : h.qu ≤ 5
theorem stop_less (s b : Int) (h0 : 0 ≤ s) (h1 : s ≤ 100) (hb : 5 ≤ b) : 0 ≤ stopP s b ∧ stopP s b ≤ 2000 := by
  obtain ⟨b1, b2, b3, b4, b5, b6, b7⟩ := stop_bds s b _ h0 (by omega) (by omega) rfl
  have hz : stopP 0 b = 0 := by unfold stopP; simp
  have hm := stop_le 0 s b (by omega) h0 (by omega)
  rw [hz] at hm
  have hq := quot_bd s b h0 (by omega)
  have h20 : s / b ≤ 20 := by
    by_cases c : s / b ≤ 20
    · exact c
    · have : 5 * (s / b) ≤ b * (s / b) := Int.mul_le_mul_of_nonneg_right hb hq.1
      omega
  have hp := mul_bd (X := 20) (Y := 100) hq.1 h20 h0 h1
  exact ⟨hm, by unfold stopP; omega⟩
theorem Small.apart_bd {h : Hs} (s : Small h) : 140 ≤ h.apart ∧ h.apart ≤ 2410 := by
  have h1 := s.sp1; have h2 := s.sp2; have h3 := s.pu1; have h4 := s.br1; have h5 := s.ln1; have h6 := s.ln2; have h7 := s.lv1; have h8 := s.lv2
  obtain ⟨t1, t2⟩ := stop_less h.sp h.br (by omega) (by omega) (by omega)
  unfold Hs.apart
  omega
theorem Small.ok {h : Hs} (s : Small h) : h.Ok := by
  obtain ⟨a1, a2⟩ := s.apart_bd
  obtain ⟨x1, x2, x3, x4, x5, x6, x7, x8, x9, x10, x11, x12, x13, x14, x15, x16, x17, x18, x19, x20, x21, x22, x23, x24⟩ := s
  constructor <;> omega
theorem Small.fault {h : Hs} (s : Small h) : h.fault = 0 :=
  Hs.fault_ok (Hs.ok_iff.2 s.ok) (by have := s.gp1; have := s.rf1; omega)

set_option maxHeartbeats 8000000 in
theorem l2House_src (sb B : Nat) (a : Option Addr) (len cap t : Nat) (w : World) (h : Src w sb B a len cap t) (ht : t ≤ 900000) :
    Calls Tryz.prog 22 #[.pointer (some ⟨sb, 0, none⟩)] w fun e w' => ∃ h : Hs, ∃ t', e = .returned (.agg #[.int .i64 h.fl, .int .i64 h.gp, .int .i64 h.ln, .int .i64 h.rf, .int .i64 h.sp, .int .i64 h.pu, .int .i64 h.br, .int .i64 h.dr, .int .i64 h.lv, .int .i64 h.dO, .int .i64 h.ld, .int .i64 h.qu]) ∧ Small h ∧ t' ≤ t + 40 ∧ Src w' sb B a len cap t' ∧ Keeps sb w w' := by
  have hsbw := h.lt
  have hBsb := h.hB
  have HS0 : Hid (Src (w.alloc (.cells #[.int .i64 0, .int .i64 0, .int .i64 0, .int .i64 0, .int .i64 0, .int .i64 0, .int .i64 0, .int .i64 0, .int .i64 0, .int .i64 0, .int .i64 0, .int .i64 0] 25)) sb B a len cap t) := h.alloc _
  have HK0 : Hid (Keeps sb w (w.alloc (.cells #[.int .i64 0, .int .i64 0, .int .i64 0, .int .i64 0, .int .i64 0, .int .i64 0, .int .i64 0, .int .i64 0, .int .i64 0, .int .i64 0, .int .i64 0, .int .i64 0] 25))) := (Keeps.refl _ _).alloc _
  have HR0 : Hid (HW (w.alloc (.cells #[.int .i64 0, .int .i64 0, .int .i64 0, .int .i64 0, .int .i64 0, .int .i64 0, .int .i64 0, .int .i64 0, .int .i64 0, .int .i64 0, .int .i64 0, .int .i64 0] 25)) w.heap.size (⟨0, 0, 0, 0, 0, 0, 0, 0, 0, 0, 0, 0⟩ : Hs)) := HW.new w (⟨0, 0, 0, 0, 0, 0, 0, 0, 0, 0, 0, 0⟩ : Hs) _
  clear h
  go_enter Tryz.func22, Tryz.ntmps22
  go_wp2_with fail
  refine (l1Next_src sb B a len cap _ _ _ HS0.out (by omega) (by omega) (by omega)).mono ?_
  rintro e w1 ⟨v1, rfl, hv1, hs, hk⟩
  have HS1 : Hid (Src w1 sb B a len cap _) := hs
  have HK1 : Hid (Keeps sb w w1) := HK0.out.trans hk
  have HR1 : Hid (HW w1 w.heap.size (⟨0, 0, 0, 0, 0, 0, 0, 0, 0, 0, 0, 0⟩ : Hs)) := HR0.out.keeps hk (by omega)
  clear hs hk HS0 HK0 HR0
  go_wp2_with fail
  refine (l1Pick_list sb B 2 [200, 100, 300] (fun v => 100 ≤ v ∧ v ≤ 300) (by intro y hy; simp at hy; omega) a len cap _ _ _ (Keeps.refl sb w1) HS1.out (by omega) (by simp) (by simp)).mono ?_
  rintro e w2 ⟨v2, rfl, hv2, hs, hk⟩
  have HS2 : Hid (Src w2 sb B a len cap _) := hs
  have HK2 : Hid (Keeps sb w w2) := HK1.out.trans hk
  have HR2 : Hid (HW w2 w.heap.size (⟨0, 0, 0, 0, 0, 0, 0, 0, 0, 0, 0, 0⟩ : Hs)) := HR1.out.keeps hk (by omega)
  clear hs hk HS1 HK1 HR1
  go_wp2_with fail
  refine (l1Pick_list sb B 2 [50, 100, 40] (fun v => 40 ≤ v ∧ v ≤ 100) (by intro y hy; simp at hy; omega) a len cap _ _ _ (Keeps.refl sb w2) HS2.out (by omega) (by simp) (by simp)).mono ?_
  rintro e w3 ⟨v3, rfl, hv3, hs, hk⟩
  have HS3 : Hid (Src w3 sb B a len cap _) := hs
  have HK3 : Hid (Keeps sb w w3) := HK2.out.trans hk
  have HR3 : Hid (HW w3 w.heap.size (⟨0, 0, 0, 0, 0, 0, 0, 0, 0, 0, 0, 0⟩ : Hs)) := HR2.out.keeps hk (by omega)
  clear hs hk HS2 HK2 HR2
  go_wp2_with fail
  refine (l1Pick_list sb B 2 [2, 0, 5] (fun v => 0 ≤ v ∧ v ≤ 5) (by intro y hy; simp at hy; omega) a len cap _ _ _ (Keeps.refl sb w3) HS3.out (by omega) (by simp) (by simp)).mono ?_
  rintro e w4 ⟨v4, rfl, hv4, hs, hk⟩
  have HS4 : Hid (Src w4 sb B a len cap _) := hs
  have HK4 : Hid (Keeps sb w w4) := HK3.out.trans hk
  have HR4 : Hid (HW w4 w.heap.size (⟨0, 0, 0, 0, 0, 0, 0, 0, 0, 0, 0, 0⟩ : Hs)) := HR3.out.keeps hk (by omega)
  clear hs hk HS3 HK3 HR3
  go_wp2_with fail
  refine (l1Next_src sb B a len cap _ _ _ HS4.out (by omega) (by omega) (by omega)).mono ?_
  rintro e w5 ⟨v5, rfl, hv5, hs, hk⟩
  have HS5 : Hid (Src w5 sb B a len cap _) := hs
  have HK5 : Hid (Keeps sb w w5) := HK4.out.trans hk
  have HR5 : Hid (HW w5 w.heap.size (⟨0, 0, 0, 0, 0, 0, 0, 0, 0, 0, 0, 0⟩ : Hs)) := HR4.out.keeps hk (by omega)
  clear hs hk HS4 HK4 HR4
  go_wp2_with fail
  refine (l1Next_src sb B a len cap _ _ _ HS5.out (by omega) (by omega) (by omega)).mono ?_
  rintro e w6 ⟨v6, rfl, hv6, hs, hk⟩
  have HS6 : Hid (Src w6 sb B a len cap _) := hs
  have HK6 : Hid (Keeps sb w w6) := HK5.out.trans hk
  have HR6 : Hid (HW w6 w.heap.size (⟨0, 0, 0, 0, 0, 0, 0, 0, 0, 0, 0, 0⟩ : Hs)) := HR5.out.keeps hk (by omega)
  clear hs hk HS5 HK5 HR5
  go_wp2_with fail
  refine (l1Next_src sb B a len cap _ _ _ HS6.out (by omega) (by omega) (by omega)).mono ?_
  rintro e w7 ⟨v7, rfl, hv7, hs, hk⟩
  have HS7 : Hid (Src w7 sb B a len cap _) := hs
  have HK7 : Hid (Keeps sb w w7) := HK6.out.trans hk
  have HR7 : Hid (HW w7 w.heap.size (⟨0, 0, 0, 0, 0, 0, 0, 0, 0, 0, 0, 0⟩ : Hs)) := HR6.out.keeps hk (by omega)
  clear hs hk HS6 HK6 HR6
  go_wp2_with fail
  have hb3 : sb < w7.heap.size := HS7.out.lt
  have hw7 : w.heap.size < w7.heap.size := HR7.out.lt
  have HN7 : Hid (HW (w7.alloc (.cells #[.int .i64 (2 + (v1 : Int)), .int .i64 0, .int .i64 v2, .int .i64 0, .int .i64 v3, .int .i64 0, .int .i64 0, .int .i64 0, .int .i64 v4, .int .i64 (1 + (v5 : Int)), .int .i64 (1 + (v6 : Int)), .int .i64 (1 + (v7 : Int))] 25)) w7.heap.size (⟨2 + (v1 : Int), 0, v2, 0, v3, 0, 0, 0, v4, 1 + (v5 : Int), 1 + (v6 : Int), 1 + (v7 : Int)⟩ : Hs)) := HW.new w7 (⟨2 + (v1 : Int), 0, v2, 0, v3, 0, 0, 0, v4, 1 + (v5 : Int), 1 + (v6 : Int), 1 + (v7 : Int)⟩ : Hs) _
  refine (l1Pick_at sb B 2 [10, 5, 20] (fun v => 5 ≤ v ∧ v ≤ 20) (by intro y hy; simp at hy; omega) a len cap _ _ _ (by simp) (HS7.out.alloc _) (by omega) (by simp) (by simp)).mono ?_
  rintro e w8 ⟨v8, rfl, hv8, hs, hk⟩
  obtain ⟨t8, ht8, ht8', HS8⟩ : ∃ t8, t8 ≤ 900010 ∧ t8 ≤ t + 8 ∧ Hid (Src w8 sb B a len cap t8) := ⟨_, by omega, by omega, hs⟩
  have HK8 : Hid (Keeps sb w w8) := (HK7.out.alloc _).trans hk
  have HR8 : Hid (HW w8 w.heap.size (⟨0, 0, 0, 0, 0, 0, 0, 0, 0, 0, 0, 0⟩ : Hs)) := (HR7.out.alloc _).keeps hk (by omega)
  have HN8 : Hid (HW w8 w7.heap.size (⟨2 + (v1 : Int), 0, v2, 0, v3, 0, 0, 0, v4, 1 + (v5 : Int), 1 + (v6 : Int), 1 + (v7 : Int)⟩ : Hs)) := HN7.out.keeps hk (by omega)
  clear hs hk HS7 HK7 HR7 HN7
  obtain ⟨c0, c1, c2, c3, c4, c5, c6, c7, c8, c9, c10, c11, f0, f1, f2, f3, f4, f5, f6, f7, f8, f9, f10, f11⟩ := HN8.out
  dsimp only at c0 c1 c2 c3 c4 c5 c6 c7 c8 c9 c10 c11 f0 f1 f2 f3 f4 f5 f6 f7 f8 f9 f10 f11
  go_wp2_with fail
  clear c0 c1 c2 c3 c4 c5 c6 c7 c8 c9 c10 c11 f0 f1 f2 f3 f4 f5 f6 f7 f8 f9 f10 f11
  obtain ⟨W9, hW9⟩ : ∃ W9, W9 = w8.setCell ⟨w7.heap.size, 5, none⟩ (.int .i64 v8) := ⟨_, rfl⟩
  rw [← hW9]
  have HS9 : Hid (Src W9.drew sb B a len cap t8) := by rw [hW9]; exact (HS8.out.other _ _ _ (by omega) (by omega)).below (Below.refl _ _).drew
  have HK9 : Hid (Keeps sb w W9.drew) := by rw [hW9]; exact (HK8.out.own (by omega) _ _).of_below (Below.refl _ _).drew
  have HR9 : Hid (HW W9.drew w.heap.size (⟨0, 0, 0, 0, 0, 0, 0, 0, 0, 0, 0, 0⟩ : Hs)) := by rw [hW9]; exact (HR8.out.other (by omega)).drew
  have HN9 : Hid (HW W9.drew w7.heap.size (⟨2 + (v1 : Int), 0, v2, 0, v3, v8, 0, 0, v4, 1 + (v5 : Int), 1 + (v6 : Int), 1 + (v7 : Int)⟩ : Hs)) := by rw [hW9]; exact (HN8.out.set_pu v8).drew
  have k5 : W9.cell? ⟨w7.heap.size, 5, none⟩ = some (.int .i64 v8) := by rw [hW9]; exact (HN8.out.set_pu v8).c5
  clear hW9 HS8 HK8 HR8 HN8
  go_region_held3 (fun w'' => w''.cell? ⟨w7.heap.size, 5, none⟩ = some (.int .i64 v8)) (first | go_keep | (refine (World.cell?_setCell_other _ _ _ _ (by simp)).trans ?_; assumption)) ((go_at_call 45; refine (l1Pick_at sb B 2 [0, 5, 10] (fun v => 0 ≤ v ∧ v ≤ 10) (by intro y hy; simp at hy; omega) a len cap _ _ _ (by simp) HS9.out (by omega) (by simp) (by simp)).mono ?_; rintro e w9 ⟨v9, rfl, hv9, hs, hk⟩; have HS10 : Hid (Src w9 sb B a len cap (t8 + 1)) := hs; have HK10 : Hid (Keeps sb w w9) := HK9.out.trans hk; have HR10 : Hid (HW w9 w.heap.size (⟨0, 0, 0, 0, 0, 0, 0, 0, 0, 0, 0, 0⟩ : Hs)) := HR9.out.keeps hk (by omega); have HN10 : Hid (HW w9 w7.heap.size (⟨2 + (v1 : Int), 0, v2, 0, v3, v8, 0, 0, v4, 1 + (v5 : Int), 1 + (v6 : Int), 1 + (v7 : Int)⟩ : Hs)) := HN9.out.keeps hk (by omega); clear hs hk; have k5' := HN10.out.c5; have k6 := HN10.out.c6; have z6 := HN10.out.f6; dsimp only at k5' k6; have hwr : IntKind.i64.wrap (v8 + v9) = v8 + v9 := IntWalk.i64_in _ (by omega)))
  obtain ⟨W11, hW11⟩ : ∃ W11, W11 = w9.setCell ⟨w7.heap.size, 6, none⟩ (.int .i64 (v8 + v9)) := ⟨_, rfl⟩
  rw [← hW11]
  have HS11 : Hid (Src W11 sb B a len cap (t8 + 1)) := by rw [hW11]; exact HS10.out.other _ _ _ (by omega) (by omega)
  have HK11 : Hid (Keeps sb w W11) := by rw [hW11]; exact HK10.out.own (by omega) _ _
  have HR11 : Hid (HW W11 w.heap.size (⟨0, 0, 0, 0, 0, 0, 0, 0, 0, 0, 0, 0⟩ : Hs)) := by rw [hW11]; exact HR10.out.other (by omega)
  have HN11 : Hid (HW W11 w7.heap.size (⟨2 + (v1 : Int), 0, v2, 0, v3, v8, v8 + v9, 0, v4, 1 + (v5 : Int), 1 + (v6 : Int), 1 + (v7 : Int)⟩ : Hs)) := by rw [hW11]; exact HN10.out.set_br _
  clear hW11 HS10 HK10 HR10 HN10 HS9 HK9 HR9 HN9 k5 k5' k6 z6 hwr
  go_wp2_with fail
  refine (l1Pick_at sb B 2 [0, 0, 1, 2] (fun v => 0 ≤ v ∧ v ≤ 2) (by intro y hy; simp at hy; omega) a len cap _ _ _ (by simp) HS11.out (by omega) (by simp) (by simp)).mono ?_
  rintro e w12 ⟨v10, rfl, hv10, hs, hk⟩
  have HS12 : Hid (Src w12 sb B a len cap (t8 + 1 + 1)) := hs
  have HK12 : Hid (Keeps sb w w12) := HK11.out.trans hk
  have HR12 : Hid (HW w12 w.heap.size (⟨0, 0, 0, 0, 0, 0, 0, 0, 0, 0, 0, 0⟩ : Hs)) := HR11.out.keeps hk (by omega)
  have HN12 : Hid (HW w12 w7.heap.size (⟨2 + (v1 : Int), 0, v2, 0, v3, v8, v8 + v9, 0, v4, 1 + (v5 : Int), 1 + (v6 : Int), 1 + (v7 : Int)⟩ : Hs)) := HN11.out.keeps hk (by omega)
  clear hs hk HS11 HK11 HR11 HN11
  have HS13 : Hid (Src (w12.setCell ⟨w7.heap.size, 7, none⟩ (.int .i64 v10)) sb B a len cap (t8 + 1 + 1)) := HS12.out.other _ _ _ (by omega) (by omega)
  have HK13 : Hid (Keeps sb w (w12.setCell ⟨w7.heap.size, 7, none⟩ (.int .i64 v10))) := HK12.out.own (by omega) _ _
  have HR13 : Hid (HW (w12.setCell ⟨w7.heap.size, 7, none⟩ (.int .i64 v10)) w.heap.size (⟨0, 0, 0, 0, 0, 0, 0, 0, 0, 0, 0, 0⟩ : Hs)) := HR12.out.other (by omega)
  have HN13 : Hid (HW (w12.setCell ⟨w7.heap.size, 7, none⟩ (.int .i64 v10)) w7.heap.size (⟨2 + (v1 : Int), 0, v2, 0, v3, v8, v8 + v9, v10, v4, 1 + (v5 : Int), 1 + (v6 : Int), 1 + (v7 : Int)⟩ : Hs)) := HN12.out.set_dr _
  obtain ⟨c0, c1, c2, c3, c4, c5, c6, c7, c8, c9, c10, c11, f0, f1, f2, f3, f4, f5, f6, f7, f8, f9, f10, f11⟩ := HN12.out
  dsimp only at c0 c1 c2 c3 c4 c5 c6 c7 c8 c9 c10 c11 f0 f1 f2 f3 f4 f5 f6 f7 f8 f9 f10 f11
  clear HS12 HK12 HR12 HN12
  go_wp2_with fail
  clear c0 c1 c2 c3 c4 c5 c6 c7 c8 c9 c10 c11 f0 f1 f2 f3 f4 f5 f6 f7 f8 f9 f10 f11
  refine (specApart_wb (⟨2 + (v1 : Int), 0, v2, 0, v3, v8, v8 + v9, v10, v4, 1 + (v5 : Int), 1 + (v6 : Int), 1 + (v7 : Int)⟩ : Hs) (by show 1 ≤ v3; omega) (by show v3 ≤ 500; omega) (by show 1 ≤ v8 + v9; omega) (by show v8 + v9 ≤ 500; omega) (by show 0 ≤ v2; omega) (by show v2 ≤ 20000; omega) (by show 0 ≤ v4; omega) (by show v4 ≤ 50; omega) _).mono ?_
  rintro e w14 ⟨rfl, hb⟩
  have hap := apart_small (⟨2 + (v1 : Int), 0, v2, 0, v3, v8, v8 + v9, v10, v4, 1 + (v5 : Int), 1 + (v6 : Int), 1 + (v7 : Int)⟩ : Hs) (by show 1 ≤ v3; omega) (by show v3 ≤ 500; omega) (by show 1 ≤ v8 + v9; omega) (by show 0 ≤ v2; omega) (by show v2 ≤ 20000; omega) (by show 0 ≤ v4; omega) (by show v4 ≤ 50; omega)
  obtain ⟨ap, hapd⟩ : ∃ ap, Hs.apart (⟨2 + (v1 : Int), 0, v2, 0, v3, v8, v8 + v9, v10, v4, 1 + (v5 : Int), 1 + (v6 : Int), 1 + (v7 : Int)⟩ : Hs) = ap := ⟨_, rfl⟩
  rw [hapd] at hap ⊢
  have HS14 : Hid (Src w14 sb B a len cap (t8 + 1 + 1)) := HS13.out.below hb
  have HK14 : Hid (Keeps sb w w14) := HK13.out.of_below hb
  have HR14 : Hid (HW w14 w.heap.size (⟨0, 0, 0, 0, 0, 0, 0, 0, 0, 0, 0, 0⟩ : Hs)) := HR13.out.below hb HR13.out.lt
  have HN14 : Hid (HW w14 w7.heap.size (⟨2 + (v1 : Int), 0, v2, 0, v3, v8, v8 + v9, v10, v4, 1 + (v5 : Int), 1 + (v6 : Int), 1 + (v7 : Int)⟩ : Hs)) := HN13.out.below hb HN13.out.lt
  clear hb HS13 HK13 HR13 HN13
  have HAP : Hid (Hs.apart (⟨2 + (v1 : Int), 0, v2, 0, v3, v8, v8 + v9, v10, v4, 1 + (v5 : Int), 1 + (v6 : Int), 1 + (v7 : Int)⟩ : Hs) = ap) := hapd
  clear hapd
  go_wp2_with fail
  refine (l1Next_src sb B a len cap _ _ _ HS14.out (by omega) (by omega) (by omega)).mono ?_
  rintro e w15 ⟨v11, rfl, hv11, hs, hk⟩
  have HS15 : Hid (Src w15 sb B a len cap (t8 + 1 + 1 + 1)) := hs
  have HK15 : Hid (Keeps sb w w15) := HK14.out.trans hk
  have HR15 : Hid (HW w15 w.heap.size (⟨0, 0, 0, 0, 0, 0, 0, 0, 0, 0, 0, 0⟩ : Hs)) := HR14.out.keeps hk (by omega)
  have HN15 : Hid (HW w15 w7.heap.size (⟨2 + (v1 : Int), 0, v2, 0, v3, v8, v8 + v9, v10, v4, 1 + (v5 : Int), 1 + (v6 : Int), 1 + (v7 : Int)⟩ : Hs)) := HN14.out.keeps hk (by omega)
  clear hs hk HS14 HK14 HR14 HN14
  have HS16 : Hid (Src (w15.setCell ⟨w7.heap.size, 1, none⟩ (.int .i64 (ap + (v11 : Int)))) sb B a len cap (t8 + 1 + 1 + 1)) := HS15.out.other _ _ _ (by omega) (by omega)
  have HK16 : Hid (Keeps sb w (w15.setCell ⟨w7.heap.size, 1, none⟩ (.int .i64 (ap + (v11 : Int))))) := HK15.out.own (by omega) _ _
  have HR16 : Hid (HW (w15.setCell ⟨w7.heap.size, 1, none⟩ (.int .i64 (ap + (v11 : Int)))) w.heap.size (⟨0, 0, 0, 0, 0, 0, 0, 0, 0, 0, 0, 0⟩ : Hs)) := HR15.out.other (by omega)
  have HN16 : Hid (HW (w15.setCell ⟨w7.heap.size, 1, none⟩ (.int .i64 (ap + (v11 : Int)))) w7.heap.size (⟨2 + (v1 : Int), ap + (v11 : Int), v2, 0, v3, v8, v8 + v9, v10, v4, 1 + (v5 : Int), 1 + (v6 : Int), 1 + (v7 : Int)⟩ : Hs)) := HN15.out.set_gp _
  obtain ⟨c0, c1, c2, c3, c4, c5, c6, c7, c8, c9, c10, c11, f0, f1, f2, f3, f4, f5, f6, f7, f8, f9, f10, f11⟩ := HN15.out
  dsimp only at c0 c1 c2 c3 c4 c5 c6 c7 c8 c9 c10 c11 f0 f1 f2 f3 f4 f5 f6 f7 f8 f9 f10 f11
  clear HS15 HK15 HR15 HN15
  go_wp2_with fail
  clear c0 c1 c2 c3 c4 c5 c6 c7 c8 c9 c10 c11 f0 f1 f2 f3 f4 f5 f6 f7 f8 f9 f10 f11
  refine (specApart_wb (⟨2 + (v1 : Int), ap + (v11 : Int), v2, 0, v3, v8, v8 + v9, v10, v4, 1 + (v5 : Int), 1 + (v6 : Int), 1 + (v7 : Int)⟩ : Hs) (by show 1 ≤ v3; omega) (by show v3 ≤ 500; omega) (by show 1 ≤ v8 + v9; omega) (by show v8 + v9 ≤ 500; omega) (by show 0 ≤ v2; omega) (by show v2 ≤ 20000; omega) (by show 0 ≤ v4; omega) (by show v4 ≤ 50; omega) _).mono ?_
  have hap2 : Hs.apart (⟨2 + (v1 : Int), ap + (v11 : Int), v2, 0, v3, v8, v8 + v9, v10, v4, 1 + (v5 : Int), 1 + (v6 : Int), 1 + (v7 : Int)⟩ : Hs) = ap := HAP.out
  rw [hap2]
  rintro e w17 ⟨rfl, hb⟩
  have HS17 : Hid (Src w17 sb B a len cap (t8 + 1 + 1 + 1)) := HS16.out.below hb
  have HK17 : Hid (Keeps sb w w17) := HK16.out.of_below hb
  have HR17 : Hid (HW w17 w.heap.size (⟨0, 0, 0, 0, 0, 0, 0, 0, 0, 0, 0, 0⟩ : Hs)) := HR16.out.below hb HR16.out.lt
  have HN17 : Hid (HW w17 w7.heap.size (⟨2 + (v1 : Int), ap + (v11 : Int), v2, 0, v3, v8, v8 + v9, v10, v4, 1 + (v5 : Int), 1 + (v6 : Int), 1 + (v7 : Int)⟩ : Hs)) := HN16.out.below hb HN16.out.lt
  clear hb HS16 HK16 HR16 HN16 hap2
  go_wp2_with fail
  refine (l1Next_src sb B a len cap _ _ _ HS17.out (by omega) (by omega) (by omega)).mono ?_
  rintro e w18 ⟨v12, rfl, hv12, hs, hk⟩
  have HS18 : Hid (Src w18 sb B a len cap (t8 + 1 + 1 + 1 + 1)) := hs
  have HK18 : Hid (Keeps sb w w18) := HK17.out.trans hk
  have HR18 : Hid (HW w18 w.heap.size (⟨0, 0, 0, 0, 0, 0, 0, 0, 0, 0, 0, 0⟩ : Hs)) := HR17.out.keeps hk (by omega)
  have HN18 : Hid (HW w18 w7.heap.size (⟨2 + (v1 : Int), ap + (v11 : Int), v2, 0, v3, v8, v8 + v9, v10, v4, 1 + (v5 : Int), 1 + (v6 : Int), 1 + (v7 : Int)⟩ : Hs)) := HN17.out.keeps hk (by omega)
  clear hs hk HS17 HK17 HR17 HN17
  have HS19 : Hid (Src (w18.setCell ⟨w7.heap.size, 3, none⟩ (.int .i64 (ap + (v12 : Int)))) sb B a len cap (t8 + 1 + 1 + 1 + 1)) := HS18.out.other _ _ _ (by omega) (by omega)
  have HK19 : Hid (Keeps sb w (w18.setCell ⟨w7.heap.size, 3, none⟩ (.int .i64 (ap + (v12 : Int))))) := HK18.out.own (by omega) _ _
  have HR19 : Hid (HW (w18.setCell ⟨w7.heap.size, 3, none⟩ (.int .i64 (ap + (v12 : Int)))) w.heap.size (⟨0, 0, 0, 0, 0, 0, 0, 0, 0, 0, 0, 0⟩ : Hs)) := HR18.out.other (by omega)
  obtain ⟨c0, c1, c2, c3, c4, c5, c6, c7, c8, c9, c10, c11, f0, f1, f2, f3, f4, f5, f6, f7, f8, f9, f10, f11⟩ := HN18.out
  dsimp only at c0 c1 c2 c3 c4 c5 c6 c7 c8 c9 c10 c11 f0 f1 f2 f3 f4 f5 f6 f7 f8 f9 f10 f11
  obtain ⟨d0, d1, d2, d3, d4, d5, d6, d7, d8, d9, d10, d11, e0, e1, e2, e3, e4, e5, e6, e7, e8, e9, e10, e11⟩ := HR18.out
  dsimp only at d0 d1 d2 d3 d4 d5 d6 d7 d8 d9 d10 d11 e0 e1 e2 e3 e4 e5 e6 e7 e8 e9 e10 e11
  have hne : w7.heap.size ≠ w.heap.size := by omega
  clear HS18 HK18 HR18 HN18
  go_wp2_with fail
  have hsm : Small (⟨2 + (v1 : Int), ap + (v11 : Int), v2, ap + (v12 : Int), v3, v8, v8 + v9, v10, v4, 1 + (v5 : Int), 1 + (v6 : Int), 1 + (v7 : Int)⟩ : Hs) := by
    have hap2 : Hs.apart (⟨2 + (v1 : Int), ap + (v11 : Int), v2, ap + (v12 : Int), v3, v8, v8 + v9, v10, v4, 1 + (v5 : Int), 1 + (v6 : Int), 1 + (v7 : Int)⟩ : Hs) = ap := HAP.out
    constructor <;> first | (rw [hap2]; show _ ≤ _; dsimp only; omega) | (dsimp only; omega)
  clear c0 c1 c2 c3 c4 c5 c6 c7 c8 c9 c10 c11 f0 f1 f2 f3 f4 f5 f6 f7 f8 f9 f10 f11 d0 d1 d2 d3 d4 d5 d6 d7 d8 d9 d10 d11 e0 e1 e2 e3 e4 e5 e6 e7 e8 e9 e10 e11
  change bodyPost _ _ _ _ _ (putH (w18.setCell ⟨w7.heap.size, 3, none⟩ (.int .i64 (ap + (v12 : Int)))) w.heap.size (⟨2 + (v1 : Int), ap + (v11 : Int), v2, ap + (v12 : Int), v3, v8, v8 + v9, v10, v4, 1 + (v5 : Int), 1 + (v6 : Int), 1 + (v7 : Int)⟩ : Hs))
  obtain ⟨Wf, hWf⟩ : ∃ Wf, putH (w18.setCell ⟨w7.heap.size, 3, none⟩ (.int .i64 (ap + (v12 : Int)))) w.heap.size (⟨2 + (v1 : Int), ap + (v11 : Int), v2, ap + (v12 : Int), v3, v8, v8 + v9, v10, v4, 1 + (v5 : Int), 1 + (v6 : Int), 1 + (v7 : Int)⟩ : Hs) = Wf := ⟨_, rfl⟩
  have HRf : HW Wf w.heap.size (⟨2 + (v1 : Int), ap + (v11 : Int), v2, ap + (v12 : Int), v3, v8, v8 + v9, v10, v4, 1 + (v5 : Int), 1 + (v6 : Int), 1 + (v7 : Int)⟩ : Hs) := hWf ▸ HR19.out.put _
  have HSf : Src Wf sb B a len cap (t8 + 1 + 1 + 1 + 1) := hWf ▸ HS19.out.put _ _ (by omega) (by omega)
  have HKf : Keeps sb w Wf := hWf ▸ HK19.out.put (Nat.le_refl _) _
  rw [hWf]
  clear hWf HR19 HS19 HK19
  obtain ⟨d0, d1, d2, d3, d4, d5, d6, d7, d8, d9, d10, d11, e0, e1, e2, e3, e4, e5, e6, e7, e8, e9, e10, e11⟩ := HRf
  dsimp only at d0 d1 d2 d3 d4 d5 d6 d7 d8 d9 d10 d11
  exact bodyPost_ret (v := .agg #[.int .i64 (2 + (v1 : Int)), .int .i64 (ap + (v11 : Int)), .int .i64 (v2), .int .i64 (ap + (v12 : Int)), .int .i64 (v3), .int .i64 (v8), .int .i64 (v8 + v9), .int .i64 (v10), .int .i64 (v4), .int .i64 (1 + (v5 : Int)), .int .i64 (1 + (v6 : Int)), .int .i64 (1 + (v7 : Int))]) (by simp [results, Tryz.results22, go_sem, d0, d1, d2, d3, d4, d5, d6, d7, d8, d9, d10, d11]) rfl ⟨(⟨2 + (v1 : Int), ap + (v11 : Int), v2, ap + (v12 : Int), v3, v8, v8 + v9, v10, v4, 1 + (v5 : Int), 1 + (v6 : Int), 1 + (v7 : Int)⟩ : Hs), _, rfl, hsm, (by omega : t8 + 1 + 1 + 1 + 1 ≤ t + 40), HSf, HKf⟩
end Go.Proofs.YtoacnglcneliiaaGreatDoor
