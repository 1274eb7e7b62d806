/-
  FnDoors: a car whose door is not shut does not move, and one that moves has its door shut.
-/
import Derived.Test.YtfombjiocneadaaCarZS
import Derived.Test.YtfombjiocneadaaCarP
import Derived.Test.YtfombjiocneadaaCarK
import Derived.Test.YtfombjiocneadaaCarL
import Derived.Test.YtfombjiocneadaaAt
namespace Go.Proofs.Ytfombjiocneadaa
open Go.RowKit Pl
set_option linter.unusedSimpArgs false
set_option linter.unusedVariables false

theorem fieldC0 (k p v d : Int) (w : World) : (Instr.field 33 (.agg #[.int .i64 k, .int .i64 p, .int .i64 v, .int .i64 d]) 0).run Try.prog w = .ok (.int .i64 k) w := by kernel_rfl
theorem lwAbs_any (a : Int) (h1 : -9223372036854775807 ≤ a) (h2 : a ≤ 9223372036854775807) (w : World) :
    Calls Try.prog 11 #[.int .i64 a] w fun e w' => e = .returned (.int .i64 (absI a)) ∧ w' = w := by
  by_cases h : a < 0
  · have e : Hid (absI a = -a) := by unfold absI; rw [if_pos h]; exact rfl
    go_enter Try.func11, Try.ntmps11
    go_wp2
    go_ret
    exact ⟨ret_int e.out.symm, rfl⟩
  · have e : Hid (absI a = a) := by unfold absI; rw [if_neg h]; exact rfl
    go_enter Try.func11, Try.ntmps11
    go_wp2
    go_ret
    exact ⟨ret_int e.out.symm, rfl⟩
/-- What a tick makes of a car without a fault. -/
structure Ticked (h : Hs) (c g : Cs) : Prop where
  shut : c.door ≠ 0 → g.pos = c.pos ∧ g.vel = 0
  still : g.door ≠ 0 → g.vel = 0 ∧ g.pos = c.pos
  d1 : -1 ≤ g.door - c.door
  d2 : g.door - c.door ≤ 1
  d3 : 0 ≤ g.door
  d4 : g.door ≤ h.dO
  on : g.pos - c.pos = g.vel
  v1 : -500 ≤ g.vel
  v2 : g.vel ≤ 500
theorem stepC_ticked {h : Hs} {c : Cs} (x : Cm) (d : Int) (k : CarOk h c) : Ticked h c (stepC h c x d) := by
  have o := k.ok
  have s1 := o.sp1; have s2 := o.sp2; have t1 := o.do1; have t2 := o.do2; have u1 := o.br1; have u2 := o.pu1
  have v1 := k.v1; have v2 := k.v2; have e1 := k.d1; have e2 := k.d2; have dv := k.dv
  have cb := clip_bd h.sp (c.vel + x.push + d) (by omega)
  have bb := brk_in c.vel h.br h.sp v1 v2 (by omega)
  unfold stepC
  by_cases z1 : c.door ≠ 0 ∨ (x.opn = true ∧ c.vel = 0)
  · rw [if_pos z1]
    have vz : c.vel = 0 := by rcases z1 with z | z <;> omega
    by_cases z2 : x.opn = true
    · rw [if_pos z2]
      constructor <;> dsimp only <;> (try intro _) <;> omega
    · rw [if_neg z2]
      have dz : c.door ≠ 0 := by rcases z1 with z | z; exact z; exact absurd z.1 z2
      constructor <;> dsimp only <;> (try intro _) <;> omega
  · rw [if_neg z1]
    have dz : c.door = 0 := by
      by_cases e : c.door = 0
      · exact e
      · exact absurd (Or.inl e) z1
    by_cases z2 : x.brk = true ∨ x.opn = true
    · rw [if_pos z2]
      constructor <;> dsimp only <;> (try intro _) <;> omega
    · rw [if_neg z2]
      constructor <;> dsimp only <;> (try intro _) <;> omega
theorem fresh_ok {h : Hs} (hf : h.fault = 0) : h.shaft (⟨⟨0, 0, 0⟩, ⟨h.level (h.fl - 1), 0, 0⟩⟩ : Sh) = 0 ∧ Hs.stands h ⟨h.level (h.fl - 1), 0, 0⟩ (h.fl - 1) = true := by
  obtain ⟨hr, ha1, ha2⟩ := Hs.fault_zero hf
  have o := Hs.ok_of hr
  have f1 := o.fl1; have f2 := o.fl2; have s1 := o.sp1; have d1 := o.do1; have r1 := o.rf1; have l1 := o.ln1; have v1 := o.lv1
  have m1 := o.room_bd
  obtain ⟨t1, t2⟩ := o.top_bd
  obtain ⟨q1, q2⟩ := o.stop_bd
  have hl : h.level (h.fl - 1) = (h.fl - 1) * h.gp := by unfold Hs.level; rw [if_neg (by omega), if_neg (by omega)]
  have hgp : h.gp ≤ (h.fl - 1) * h.gp := by
    have := Int.mul_le_mul_of_nonneg_right (show 1 ≤ h.fl - 1 by omega) (show 0 ≤ h.gp by have := o.gp1; omega)
    omega
  have hln : h.ln ≤ h.gp := by unfold Hs.apart at ha1; omega
  have c1 : h.car (⟨0, 0, 0⟩ : Cs) = 0 := by
    rw [Hs.car_ok hf]
    refine Hs.carC_ok ?_ (fun e => e.1 rfl)
    unfold Hs.carR Hs.low Hs.high
    simp only [Bool.and_eq_true, inB_iff]
    refine ⟨⟨by omega, by omega⟩, ⟨by omega, by omega⟩, by omega, by omega⟩
  have c2 : h.car (⟨h.level (h.fl - 1), 0, 0⟩ : Cs) = 0 := by
    rw [Hs.car_ok hf]
    refine Hs.carC_ok ?_ (fun e => e.1 rfl)
    unfold Hs.carR Hs.low Hs.high
    simp only [Bool.and_eq_true, inB_iff]
    rw [hl]
    refine ⟨⟨by omega, by omega⟩, ⟨by omega, by omega⟩, by omega, by omega⟩
  constructor
  · unfold Hs.shaft
    rw [if_pos c1, if_pos c2]
    unfold Hs.shaftC Hs.hi Hs.lo Hs.high Hs.low
    simp only [Int.lt_irrefl, if_false, hl]
    rw [if_neg (by omega), if_neg (by omega)]
  · unfold Hs.stands Hs.near
    rw [c2, inB_yes (by omega) (by omega)]
    simp [absI, v1]

set_option maxRecDepth 20000 in
set_option maxHeartbeats 16000000 in
theorem door_walk (a0 : Option Addr) (len0 cap0 : Nat) (w : World) (hc : CodeIn w w.heap.size a0 len0) (hbig : len0 ≤ 1048576) :
    Calls Try.prog 3 #[.slice a0 len0 cap0] w fun e w' => e = .returned (.bool true) ∧ Below w.heap.size w w' := by
  have HC : Hid (CodeIn w w.heap.size a0 len0) := hc
  clear hc
  go_enter Try.func3, Try.ntmps3
  go_wp2_with (first | (go_at_call 7; refine (lwBig_no _ _ _ hbig _).mono ?_; rintro e w' ⟨rfl, hw⟩; obtain rfl := hw.symm; clear hw))
  refine (DrawStepCar_any a0 len0 cap0 _ HC.out).mono ?_
  rintro e w1 ⟨h, c, x, d, rfl, hb⟩
  clear HC hbig
  go_upto_region 4 with fail
  have hsz := hb.size
  obtain ⟨w2, hw2⟩ : ∃ w2, w2 = ((w1.alloc (.cells #[.int .i64 h.fl, .int .i64 h.gp, .int .i64 h.ln, .int .i64 h.rf, .int .i64 h.sp, .int .i64 h.pu, .int .i64 h.br, .int .i64 h.dr, .int .i64 h.lv, .int .i64 h.dO, .int .i64 h.ld, .int .i64 h.qu] 25)).alloc (.cells #[.int .i64 c.pos, .int .i64 c.vel, .int .i64 c.door] 27)).alloc (.cells #[.int .i64 x.push, .bool x.brk, .bool x.opn] 29) := ⟨_, rfl⟩
  obtain ⟨b1, hb1⟩ : ∃ b1, b1 = w1.heap.size := ⟨_, rfl⟩
  obtain ⟨b2, hb2⟩ : ∃ b2, b2 = w1.heap.size + 1 := ⟨_, rfl⟩
  obtain ⟨b3, hb3⟩ : ∃ b3, b3 = b2 + 1 := ⟨_, rfl⟩
  have l12 : b1 < b2 := by omega
  have l23 : b2 < b3 := by omega
  have lw1 : w.heap.size ≤ b1 := by omega
  have F0 : Hid (HAt w2 b1 h) := by rw [hw2]; exact ((HAt.at_ w1 h _ _ hb1).alloc _).alloc _
  have F1 : Hid (CW w2 b2 c) := by rw [hw2]; exact (CW.at_ _ c _ _ (by simp; omega)).alloc _
  have F2 : Hid (XW w2 b3 x) := by rw [hw2]; exact XW.at_ _ x _ _ (by simp; omega)
  have FB : Hid (Below w.heap.size w w2) := by rw [hw2]; exact ((hb.alloc hb.size _).alloc (by simp; omega) _).alloc (by simp; omega) _
  rw [← hw2, ← hb2, ← hb3, ← hb1]
  clear hw2 hb1 hb2 hb3 hb hsz
  by_cases hz : (Hs.stepF h c x d) = 0
  · have hall : h.car c = 0 ∧ h.cmd x = 0 ∧ inB d (-h.dr) h.dr = true := by
      by_cases k1 : h.car c = 0
      · by_cases k2 : h.cmd x = 0
        · by_cases k3 : inB d (-h.dr) h.dr = true
          · exact ⟨k1, k2, k3⟩
          · exfalso; revert hz; unfold Hs.stepF; rw [if_pos k1, if_pos k2, if_neg k3]; decide
        · exfalso; revert hz; unfold Hs.stepF; rw [if_pos k1, if_neg k2]; exact k2
      · exfalso; revert hz; unfold Hs.stepF; rw [if_neg k1]; exact k1
    obtain ⟨hk, hx, hd⟩ := hall
    have k := Hs.car_zero hk
    have en := car_env k
    have e1_ := k.d1; have e2_ := k.d2; have t2_ := k.ok.do2; have l1_ := k.ok.fl1; have l2_ := k.ok.fl2
    have HF : Hid (h.fault = 0) := k.hf
    obtain ⟨g, hg⟩ : ∃ g, stepC h c x d = g := ⟨_, rfl⟩
    have tk : Ticked h c g := hg ▸ stepC_ticked x d k
    have HG : Hid (stepC h c x d = g) := hg
    clear hg k hz
    obtain ⟨x0_0, x0_1, x0_2, x0_3, x0_4, x0_5, x0_6, x0_7, x0_8, x0_9, x0_10, x0_11⟩ := F0.out
    obtain ⟨x1_0, x1_1, x1_2, y1_0, y1_1, y1_2⟩ := F1.out
    obtain ⟨x2_0, x2_1, x2_2, y2_0, y2_1, y2_2⟩ := F2.out
    go_wp2_with fail
    clear x0_0 x0_1 x0_2 x0_3 x0_4 x0_5 x0_6 x0_7 x0_8 x0_9 x0_10 x0_11
    clear x1_0 x1_1 x1_2 y1_0 y1_1 y1_2
    clear x2_0 x2_1 x2_2 y2_0 y2_1 y2_2
    refine (implStepCar_yes h c x d hk hx hd g HG.out _).mono ?_
    rintro e w3 ⟨rfl, hb⟩
    have F0 : Hid (HAt w3 b1 h) := F0.out.below hb F0.out.lt
    have F1 : Hid (CW w3 b2 c) := F1.out.below hb F1.out.lt
    have F2 : Hid (XW w3 b3 x) := F2.out.below hb F2.out.lt
    have FB : Hid (Below w.heap.size w w3) := FB.out.trans (hb.mono FB.out.size)
    clear hb
    go_upto_region 5 with fail
    obtain ⟨b4, hb4⟩ : ∃ b4, b4 = w3.heap.size := ⟨_, rfl⟩
    obtain ⟨w4, hw4⟩ : ∃ w4, w4 = w3.alloc (.cells #[.int .i64 0, .int .i64 g.pos, .int .i64 g.vel, .int .i64 g.door] 33) := ⟨_, rfl⟩
    have lb4F0 := F0.out.lt
    rw [← hb4] at lb4F0
    have lb4F1 := F1.out.lt
    rw [← hb4] at lb4F1
    have lb4F2 := F2.out.lt
    rw [← hb4] at lb4F2
    have lb4w : w.heap.size ≤ b4 := by rw [hb4]; exact FB.out.size
    have F0 : Hid (HAt w4 b1 h) := by rw [hw4]; exact F0.out.alloc _
    have F1 : Hid (CW w4 b2 c) := by rw [hw4]; exact F1.out.alloc _
    have F2 : Hid (XW w4 b3 x) := by rw [hw4]; exact F2.out.alloc _
    have FB : Hid (Below w.heap.size w w4) := by rw [hw4]; exact FB.out.alloc FB.out.size _
    have F4 : Hid (V4 w4 b4 0 g) := by rw [hw4, hb4]; exact V4.new w3 _ _ _
    rw [← hw4, ← hb4]
    clear hw4 hb4
    have p1 := tk.shut; have p2 := tk.still; have q1 := tk.d1; have q2 := tk.d2; have q3 := tk.d3; have q4 := tk.d4; have q5 := tk.on; have q6 := tk.v1; have q7 := tk.v2
    have ew1 : IntKind.i64.wrap (g.door - c.door) = g.door - c.door := IntWalk.i64_in _ (by omega)
    have ew2 : IntKind.i64.wrap (g.pos - c.pos) = g.pos - c.pos := IntWalk.i64_in _ (by omega)
    have ew3 : IntKind.i64.wrap (h.fl - 1) = h.fl - 1 := IntWalk.i64_in _ (by omega)
    have a1_ : decide (1 < absI (g.door - c.door)) = false := decide_eq_false (by unfold absI; split <;> omega)
    have a2_ : decide (g.door < 0) = false := decide_eq_false (by omega)
    have a3_ : decide (h.dO < g.door) = false := decide_eq_false (by omega)
    have a4_ : (g.pos - c.pos == g.vel) = true := by simpa using q5
    have hgd1 : -100 ≤ g.door - c.door ∧ g.door - c.door ≤ 100 := by omega
    have HB1 : Hid (c.door ≠ 0 → g.pos = c.pos ∧ g.vel = 0) := p1
    have HB2 : Hid (g.door ≠ 0 → g.vel = 0 ∧ g.pos = c.pos) := p2
    clear p1 p2 tk q1 q2 q3 q4 q5 q6 q7
    obtain ⟨fr1, fr2⟩ := fresh_ok HF.out
    have cases4 : ∀ bd bg bp bv : Bool, (c.door != 0) = bd → (g.door != 0) = bg → (g.pos != c.pos) = bp → (g.vel != 0) = bv → (bd = false ∨ (bp = false ∧ bv = false)) ∧ (bg = false ∨ (bp = false ∧ bv = false)) := by
      intro bd bg bp bv h1 h2 h3 h4
      subst h1 h2 h3 h4
      refine ⟨?_, ?_⟩
      · by_cases z : c.door = 0
        · left; simpa using z
        · right; have := HB1.out z; exact ⟨by simpa using this.1, by simpa using this.2⟩
      · by_cases z : g.door = 0
        · left; simpa using z
        · right; have := HB2.out z; exact ⟨by simpa using this.2, by simpa using this.1⟩
    cases zd : (c.door != 0) <;> cases zg : (g.door != 0) <;> cases zp : (g.pos != c.pos) <;> cases zv : (g.vel != 0)
    all_goals
      have c4 := cases4 _ _ _ _ zd zg zp zv
      first
        | (exfalso; revert c4; decide)
        | skip
    all_goals
      clear c4 cases4 HB1 HB2
      obtain ⟨x0_0, x0_1, x0_2, x0_3, x0_4, x0_5, x0_6, x0_7, x0_8, x0_9, x0_10, x0_11⟩ := F0.out
      obtain ⟨x1_0, x1_1, x1_2, y1_0, y1_1, y1_2⟩ := F1.out
      obtain ⟨u0, u1, u2, u3⟩ := F4.out
      go_upto_region 11 with (go_at_call 11; refine (lwAbs_any _ (by omega) (by omega) _).mono ?_; rintro e w' ⟨rfl, hw⟩; obtain rfl := hw.symm; clear hw)
      clear x1_0 x1_1 x1_2 y1_0 y1_1 y1_2
      clear u0 u1 u2 u3
      go_wp2_with fail
      clear x0_0 x0_1 x0_2 x0_3 x0_4 x0_5 x0_6 x0_7 x0_8 x0_9 x0_10 x0_11
      refine (implFreshShaft_yes h HF.out _).mono ?_
      rintro e w5 ⟨rfl, hb⟩
      have F0 : Hid (HAt w5 b1 h) := F0.out.below hb F0.out.lt
      have F1 : Hid (CW w5 b2 c) := F1.out.below hb F1.out.lt
      have F2 : Hid (XW w5 b3 x) := F2.out.below hb F2.out.lt
      have F4 : Hid (V4 w5 b4 0 g) := F4.out.below hb F4.out.lt
      have FB : Hid (Below w.heap.size w w5) := FB.out.trans (hb.mono FB.out.size)
      clear hb
      go_upto_region 12 with fail
      obtain ⟨b5, hb5⟩ : ∃ b5, b5 = w5.heap.size := ⟨_, rfl⟩
      obtain ⟨w6, hw6⟩ : ∃ w6, w6 = w5.alloc (.cells #[.int .i64 0, .int .i64 0, .int .i64 0, .int .i64 0, .int .i64 (h.level (h.fl - 1)), .int .i64 0, .int .i64 0] 39) := ⟨_, rfl⟩
      have lb5F0 := F0.out.lt
      rw [← hb5] at lb5F0
      have lb5F1 := F1.out.lt
      rw [← hb5] at lb5F1
      have lb5F2 := F2.out.lt
      rw [← hb5] at lb5F2
      have lb5F4 := F4.out.lt
      rw [← hb5] at lb5F4
      have lb5w : w.heap.size ≤ b5 := by rw [hb5]; exact FB.out.size
      have F0 : Hid (HAt w6 b1 h) := by rw [hw6]; exact F0.out.alloc _
      have F1 : Hid (CW w6 b2 c) := by rw [hw6]; exact F1.out.alloc _
      have F2 : Hid (XW w6 b3 x) := by rw [hw6]; exact F2.out.alloc _
      have F4 : Hid (V4 w6 b4 0 g) := by rw [hw6]; exact F4.out.alloc _
      have FB : Hid (Below w.heap.size w w6) := by rw [hw6]; exact FB.out.alloc FB.out.size _
      have F5 : Hid (V7 w6 b5 0 (⟨⟨0, 0, 0⟩, ⟨h.level (h.fl - 1), 0, 0⟩⟩ : Sh)) := by rw [hw6, hb5]; exact V7.new w5 0 (⟨⟨0, 0, 0⟩, ⟨h.level (h.fl - 1), 0, 0⟩⟩ : Sh) _
      rw [← hw6, ← hb5]
      clear hw6 hb5
      obtain ⟨x0_0, x0_1, x0_2, x0_3, x0_4, x0_5, x0_6, x0_7, x0_8, x0_9, x0_10, x0_11⟩ := F0.out
      obtain ⟨x1_0, x1_1, x1_2, y1_0, y1_1, y1_2⟩ := F1.out
      obtain ⟨u0, u1, u2, u3⟩ := F4.out
      obtain ⟨m0, m1, m2, m3, m4, m5, m6⟩ := F5.out
      dsimp only at m0 m1 m2 m3 m4 m5 m6
      go_wp2_with (first | (go_at_call 13; refine (implShaftFault_any h (⟨⟨0, 0, 0⟩, ⟨h.level (h.fl - 1), 0, 0⟩⟩ : Sh) _).mono ?_; rw [fr1]; rintro e w7 ⟨rfl, hb⟩; have F0 : Hid (HAt w7 b1 h) := F0.out.below hb F0.out.lt; have F1 : Hid (CW w7 b2 c) := F1.out.below hb F1.out.lt; have F2 : Hid (XW w7 b3 x) := F2.out.below hb F2.out.lt; have F4 : Hid (V4 w7 b4 0 g) := F4.out.below hb F4.out.lt; have F5 : Hid (V7 w7 b5 0 (⟨⟨0, 0, 0⟩, ⟨h.level (h.fl - 1), 0, 0⟩⟩ : Sh)) := F5.out.below hb F5.out.lt; have FB : Hid (Below w.heap.size w w7) := FB.out.trans (hb.mono FB.out.size); clear hb; obtain ⟨x0_0, x0_1, x0_2, x0_3, x0_4, x0_5, x0_6, x0_7, x0_8, x0_9, x0_10, x0_11⟩ := F0.out; obtain ⟨x1_0, x1_1, x1_2, y1_0, y1_1, y1_2⟩ := F1.out; obtain ⟨u0, u1, u2, u3⟩ := F4.out; obtain ⟨m0, m1, m2, m3, m4, m5, m6⟩ := F5.out; dsimp only at m0 m1 m2 m3 m4 m5 m6) | (go_at_call 14; refine (implStandsAt_any h (⟨h.level (h.fl - 1), 0, 0⟩ : Cs) (h.fl - 1) _).mono ?_; rw [fr2]; rintro e w8 ⟨rfl, hb⟩; have F0 : Hid (HAt w8 b1 h) := F0.out.below hb F0.out.lt; have F1 : Hid (CW w8 b2 c) := F1.out.below hb F1.out.lt; have F2 : Hid (XW w8 b3 x) := F2.out.below hb F2.out.lt; have F4 : Hid (V4 w8 b4 0 g) := F4.out.below hb F4.out.lt; have F5 : Hid (V7 w8 b5 0 (⟨⟨0, 0, 0⟩, ⟨h.level (h.fl - 1), 0, 0⟩⟩ : Sh)) := F5.out.below hb F5.out.lt; have FB : Hid (Below w.heap.size w w8) := FB.out.trans (hb.mono FB.out.size); clear hb; obtain ⟨x0_0, x0_1, x0_2, x0_3, x0_4, x0_5, x0_6, x0_7, x0_8, x0_9, x0_10, x0_11⟩ := F0.out; obtain ⟨x1_0, x1_1, x1_2, y1_0, y1_1, y1_2⟩ := F1.out; obtain ⟨u0, u1, u2, u3⟩ := F4.out; obtain ⟨m0, m1, m2, m3, m4, m5, m6⟩ := F5.out; dsimp only at m0 m1 m2 m3 m4 m5 m6))
      go_ret
      exact ⟨rfl, FB.out⟩
  · have hn : ((Hs.stepF h c x d) != 0) = true := by simpa using hz
    have f0_ := fieldC0
    clear hz
    obtain ⟨x0_0, x0_1, x0_2, x0_3, x0_4, x0_5, x0_6, x0_7, x0_8, x0_9, x0_10, x0_11⟩ := F0.out
    obtain ⟨x1_0, x1_1, x1_2, y1_0, y1_1, y1_2⟩ := F1.out
    obtain ⟨x2_0, x2_1, x2_2, y2_0, y2_1, y2_2⟩ := F2.out
    go_wp2_with fail
    clear x0_0 x0_1 x0_2 x0_3 x0_4 x0_5 x0_6 x0_7 x0_8 x0_9 x0_10 x0_11
    clear x1_0 x1_1 x1_2 y1_0 y1_1 y1_2
    clear x2_0 x2_1 x2_2 y2_0 y2_1 y2_2
    refine (implStepCar_all h c x d _).mono ?_
    rintro e w3 ⟨rfl, hb⟩
    have F0 : Hid (HAt w3 b1 h) := F0.out.below hb F0.out.lt
    have F1 : Hid (CW w3 b2 c) := F1.out.below hb F1.out.lt
    have F2 : Hid (XW w3 b3 x) := F2.out.below hb F2.out.lt
    have FB : Hid (Below w.heap.size w w3) := FB.out.trans (hb.mono FB.out.size)
    clear hb
    go_upto_region 5 with fail
    obtain ⟨b4, hb4⟩ : ∃ b4, b4 = w3.heap.size := ⟨_, rfl⟩
    obtain ⟨w4, hw4⟩ : ∃ w4, w4 = w3.alloc (.cells #[.int .i64 (Hs.stepF h c x d), .int .i64 (Hs.stepG h c x d).pos, .int .i64 (Hs.stepG h c x d).vel, .int .i64 (Hs.stepG h c x d).door] 33) := ⟨_, rfl⟩
    have lb4F0 := F0.out.lt
    rw [← hb4] at lb4F0
    have lb4F1 := F1.out.lt
    rw [← hb4] at lb4F1
    have lb4F2 := F2.out.lt
    rw [← hb4] at lb4F2
    have lb4w : w.heap.size ≤ b4 := by rw [hb4]; exact FB.out.size
    have F0 : Hid (HAt w4 b1 h) := by rw [hw4]; exact F0.out.alloc _
    have F1 : Hid (CW w4 b2 c) := by rw [hw4]; exact F1.out.alloc _
    have F2 : Hid (XW w4 b3 x) := by rw [hw4]; exact F2.out.alloc _
    have FB : Hid (Below w.heap.size w w4) := by rw [hw4]; exact FB.out.alloc FB.out.size _
    have F4 : Hid (V4 w4 b4 (Hs.stepF h c x d) (Hs.stepG h c x d)) := by rw [hw4, hb4]; exact V4.new w3 _ _ _
    rw [← hw4, ← hb4]
    clear hw4 hb4
    have u3_0 := F4.out.c0
    go_wp2_with fail
    clear u3_0
    have F0 : Hid (HAt w4.drew b1 h) := F0.out.below (Below.refl _ _).drew F0.out.lt
    have F1 : Hid (CW w4.drew b2 c) := F1.out.below (Below.refl _ _).drew F1.out.lt
    have F2 : Hid (XW w4.drew b3 x) := F2.out.below (Below.refl _ _).drew F2.out.lt
    have F4 : Hid (V4 w4.drew b4 (Hs.stepF h c x d) (Hs.stepG h c x d)) := F4.out.below (Below.refl _ _).drew F4.out.lt
    have FB : Hid (Below w.heap.size w w4.drew) := FB.out.drew
    obtain ⟨x0_0, x0_1, x0_2, x0_3, x0_4, x0_5, x0_6, x0_7, x0_8, x0_9, x0_10, x0_11⟩ := F0.out
    obtain ⟨x1_0, x1_1, x1_2, y1_0, y1_1, y1_2⟩ := F1.out
    obtain ⟨x2_0, x2_1, x2_2, y2_0, y2_1, y2_2⟩ := F2.out
    have y4_0 := F4.out.c0
    refine wp_region_held_drew (S := (fun w'' => w''.cell? ⟨b1, 0, none⟩ = some (.int .i64 h.fl) ∧ w''.cell? ⟨b1, 1, none⟩ = some (.int .i64 h.gp) ∧ w''.cell? ⟨b1, 2, none⟩ = some (.int .i64 h.ln) ∧ w''.cell? ⟨b1, 3, none⟩ = some (.int .i64 h.rf) ∧ w''.cell? ⟨b1, 4, none⟩ = some (.int .i64 h.sp) ∧ w''.cell? ⟨b1, 5, none⟩ = some (.int .i64 h.pu) ∧ w''.cell? ⟨b1, 6, none⟩ = some (.int .i64 h.br) ∧ w''.cell? ⟨b1, 7, none⟩ = some (.int .i64 h.dr) ∧ w''.cell? ⟨b1, 8, none⟩ = some (.int .i64 h.lv) ∧ w''.cell? ⟨b1, 9, none⟩ = some (.int .i64 h.dO) ∧ w''.cell? ⟨b1, 10, none⟩ = some (.int .i64 h.ld) ∧ w''.cell? ⟨b1, 11, none⟩ = some (.int .i64 h.qu) ∧ w''.cell? ⟨b2, 0, none⟩ = some (.int .i64 c.pos) ∧ w''.cell? ⟨b2, 1, none⟩ = some (.int .i64 c.vel) ∧ w''.cell? ⟨b2, 2, none⟩ = some (.int .i64 c.door) ∧ w''.cell? ⟨b3, 0, none⟩ = some (.int .i64 x.push) ∧ w''.cell? ⟨b3, 1, none⟩ = some (.bool x.brk) ∧ w''.cell? ⟨b3, 2, none⟩ = some (.bool x.opn) ∧ w''.cell? ⟨b4, 0, none⟩ = some (.int .i64 (Hs.stepF h c x d)))) (by kernel_rfl) (by (try dsimp only); first | exact ⟨x0_0, x0_1, x0_2, x0_3, x0_4, x0_5, x0_6, x0_7, x0_8, x0_9, x0_10, x0_11, x1_0, x1_1, x1_2, x2_0, x2_1, x2_2, y4_0⟩ | go_keep) (fun hHeld => ?_)
    obtain ⟨v_1, hw1⟩ : ∃ v_1, v_1 = w4.drew := ⟨_, rfl⟩
    have F0 : Hid (HAt v_1 b1 h) := by rw [hw1]; exact F0.out
    have F1 : Hid (CW v_1 b2 c) := by rw [hw1]; exact F1.out
    have F2 : Hid (XW v_1 b3 x) := by rw [hw1]; exact F2.out
    have F4 : Hid (V4 v_1 b4 (Hs.stepF h c x d) (Hs.stepG h c x d)) := by rw [hw1]; exact F4.out
    have FB : Hid (Below w.heap.size w v_1) := by rw [hw1]; exact FB.out
    rw [← hw1] at hHeld ⊢
    clear hw1
    obtain ⟨x0_0, x0_1, x0_2, x0_3, x0_4, x0_5, x0_6, x0_7, x0_8, x0_9, x0_10, x0_11⟩ := F0.out
    obtain ⟨x1_0, x1_1, x1_2, y1_0, y1_1, y1_2⟩ := F1.out
    obtain ⟨x2_0, x2_1, x2_2, y2_0, y2_1, y2_2⟩ := F2.out
    have y4_0 := F4.out.c0
    refine wpAnyH_take (i := 0) (v := _) rfl (by kernel_rfl) (by kernel_rfl) (by kernel_rfl) (fun _ _ _ h => h) (Or.inl ⟨by kernel_rfl, by (intro wx hSw; (try dsimp only at hSw); go_simp <;> with_reducible rfl)⟩) (by assumption) ?_
    try simp only [Act.put, List.getElem_toArray, List.getElem_cons_succ, List.getElem_cons_zero, List.setIfInBounds_toArray, List.set_cons_zero, List.set_cons_succ]
    refine wpAnyH_take (i := 1) (v := _) rfl (by kernel_rfl) (by kernel_rfl) (by kernel_rfl) (fun _ _ _ h => h) (Or.inl ⟨by kernel_rfl, by (intro wx hSw; (try dsimp only at hSw); go_simp <;> with_reducible rfl)⟩) (by assumption) ?_
    try simp only [Act.put, List.getElem_toArray, List.getElem_cons_succ, List.getElem_cons_zero, List.setIfInBounds_toArray, List.set_cons_zero, List.set_cons_succ]
    refine wpAnyH_take (i := 2) (v := _) rfl (by kernel_rfl) (by kernel_rfl) (by kernel_rfl) (fun _ _ _ h => h) (Or.inl ⟨by kernel_rfl, by (intro wx hSw; (try dsimp only at hSw); go_simp <;> with_reducible rfl)⟩) (by assumption) ?_
    try simp only [Act.put, List.getElem_toArray, List.getElem_cons_succ, List.getElem_cons_zero, List.setIfInBounds_toArray, List.set_cons_zero, List.set_cons_succ]
    refine wpAnyH_take (i := 3) (v := _) rfl (by kernel_rfl) (by kernel_rfl) (by kernel_rfl) (fun _ _ _ h => h) (Or.inl ⟨by kernel_rfl, by (intro wx hSw; (try dsimp only at hSw); go_simp <;> with_reducible rfl)⟩) (by assumption) ?_
    try simp only [Act.put, List.getElem_toArray, List.getElem_cons_succ, List.getElem_cons_zero, List.setIfInBounds_toArray, List.set_cons_zero, List.set_cons_succ]
    refine wpAnyH_take (i := 6) (v := _) rfl (by kernel_rfl) (by kernel_rfl) (by kernel_rfl) (fun _ _ _ h => h) (Or.inl ⟨by kernel_rfl, by (intro wx hSw; (try dsimp only at hSw); go_simp <;> with_reducible rfl)⟩) (by assumption) ?_
    try simp only [Act.put, List.getElem_toArray, List.getElem_cons_succ, List.getElem_cons_zero, List.setIfInBounds_toArray, List.set_cons_zero, List.set_cons_succ]
    refine wpAnyH_take (i := 7) (v := _) rfl (by kernel_rfl) (by kernel_rfl) (by kernel_rfl) (fun _ _ _ h => h) (Or.inl ⟨by kernel_rfl, by (intro wx hSw; (try dsimp only at hSw); go_simp <;> with_reducible rfl)⟩) (by assumption) ?_
    try simp only [Act.put, List.getElem_toArray, List.getElem_cons_succ, List.getElem_cons_zero, List.setIfInBounds_toArray, List.set_cons_zero, List.set_cons_succ]
    refine wpAnyH_ready (rs := [4]) (by kernel_rfl) (by simp) ?_
    refine (AllReadyH.cons rfl (fun K hK => ?_) AllReadyH.nil)
    go_simp
    refine (specStepCar_all h c x d _).mono ?_
    rintro e v_2 ⟨rfl, hb⟩
    have F0 : Hid (HAt v_2 b1 h) := F0.out.below hb F0.out.lt
    have F1 : Hid (CW v_2 b2 c) := F1.out.below hb F1.out.lt
    have F2 : Hid (XW v_2 b3 x) := F2.out.below hb F2.out.lt
    have F4 : Hid (V4 v_2 b4 (Hs.stepF h c x d) (Hs.stepG h c x d)) := F4.out.below hb F4.out.lt
    have FB : Hid (Below w.heap.size w v_2) := FB.out.trans (hb.mono FB.out.size)
    clear hb
    obtain ⟨x0_0, x0_1, x0_2, x0_3, x0_4, x0_5, x0_6, x0_7, x0_8, x0_9, x0_10, x0_11⟩ := F0.out
    obtain ⟨x1_0, x1_1, x1_2, y1_0, y1_1, y1_2⟩ := F1.out
    obtain ⟨x2_0, x2_1, x2_2, y2_0, y2_1, y2_2⟩ := F2.out
    have y4_0 := F4.out.c0
    try dsimp only
    refine hK.out _ _ (by (try dsimp only); first | exact ⟨x0_0, x0_1, x0_2, x0_3, x0_4, x0_5, x0_6, x0_7, x0_8, x0_9, x0_10, x0_11, x1_0, x1_1, x1_2, x2_0, x2_1, x2_2, y4_0⟩ | go_keep) (fun hHeld => ?_)
    clear hK K
    try simp only [Act.put, List.getElem_toArray, List.getElem_cons_succ, List.getElem_cons_zero, List.setIfInBounds_toArray, List.set_cons_zero, List.set_cons_succ]
    refine wpAnyH_take (i := 5) (v := _) rfl (by kernel_rfl) (by kernel_rfl) (by kernel_rfl) (fun _ _ _ h => h) (Or.inl ⟨by kernel_rfl, by (intro wx hSw; (try dsimp only at hSw); go_simp <;> with_reducible rfl)⟩) (by assumption) ?_
    try simp only [Act.put, List.getElem_toArray, List.getElem_cons_succ, List.getElem_cons_zero, List.setIfInBounds_toArray, List.set_cons_zero, List.set_cons_succ]
    refine wpAnyH_take (i := 8) (v := _) rfl (by kernel_rfl) (by kernel_rfl) (by kernel_rfl) (fun _ _ _ h => h) (Or.inl ⟨by kernel_rfl, by (intro wx hSw; (try dsimp only at hSw); go_simp <;> with_reducible rfl)⟩) (by assumption) ?_
    try simp only [Act.put, List.getElem_toArray, List.getElem_cons_succ, List.getElem_cons_zero, List.setIfInBounds_toArray, List.set_cons_zero, List.set_cons_succ]
    refine wpAnyH_take (i := 9) (v := _) rfl (by kernel_rfl) (by kernel_rfl) (by kernel_rfl) (fun _ _ _ h => h) (Or.inl ⟨by kernel_rfl, by (intro wx hSw; (try dsimp only at hSw); go_simp <;> with_reducible rfl)⟩) (by assumption) ?_
    try simp only [Act.put, List.getElem_toArray, List.getElem_cons_succ, List.getElem_cons_zero, List.setIfInBounds_toArray, List.set_cons_zero, List.set_cons_succ]
    refine wpAnyH_done (by kernel_rfl) ?_ _
    go_wp2
    go_ret
    exact ⟨by simp, FB.out⟩
end Go.Proofs.Ytfombjiocneadaa
