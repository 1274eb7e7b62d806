/-
  FnEnvelopes: who brakes stays between how low and how high it may come.
-/
import Derived.Test.YtiahefgmenoflaaCarZ
import Derived.Test.YtiahefgmenoflaaCarJ
import Derived.Test.YtiahefgmenoflaaCarE
import Derived.Test.YtiahefgmenoflaaStopsP
import Derived.Test.YtiahefgmenoflaaAt
namespace Go.Proofs.Ytiahefgmenoflaa
open Go.RowKit Pl
set_option linter.unusedSimpArgs false
set_option linter.unusedVariables false

theorem VAt.other {W : World} {b k o : Nat} {u : Value} {x v : Int} (a : VAt W b x v) (hne : b ≠ k) : VAt (W.setCell ⟨k, o, none⟩ u) b x v := ⟨(cellS hne).trans a.c0, (cellS hne).trans a.c1⟩
theorem implBrakeOn_b (p v b : Int) (p1 : -1000000000000000 ≤ p) (p2 : p ≤ 1000000000000000) (v1 : -2000 ≤ v) (v2 : v ≤ 2000) (b1 : 1 ≤ b) (b2 : b ≤ 2000) (w : World) :
    Calls Try.prog 13 #[.int .i64 p, .int .i64 v, .int .i64 b] w fun e w' => e = .returned (.agg #[.int .i64 0, .int .i64 (p + brk v b), .int .i64 (brk v b)]) ∧ Below w.heap.size w w' :=
  (implBrakeOn_in p v b p1 p2 v1 v2 b1 b2 w).mono fun e w' ⟨he, hw⟩ => ⟨he, by rw [hw]; exact (Below.refl _ _).alloc (Nat.le_refl _) _⟩
theorem fieldM1 (k p v : Int) (w : World) : (Instr.field 35 (.agg #[.int .i64 k, .int .i64 p, .int .i64 v]) 1).run Try.prog w = .ok (.int .i64 p) w := by kernel_rfl
theorem fieldM2 (k p v : Int) (w : World) : (Instr.field 35 (.agg #[.int .i64 k, .int .i64 p, .int .i64 v]) 2).run Try.prog w = .ok (.int .i64 v) w := by kernel_rfl

/-- What holds at each tick of a car that brakes. -/
structure EnvInv (h : Hs) (c : Cs) (p v k : Int) : Prop where
  v1 : -500 ≤ v
  v2 : v ≤ 500
  k1 : absI v + k ≤ 500
  at_ : (0 ≤ v ∧ p + stopP v h.br = h.hi c.pos c.vel ∧ h.lo c.pos c.vel ≤ p) ∨ (v ≤ 0 ∧ p - stopP (-v) h.br = h.lo c.pos c.vel ∧ p ≤ h.hi c.pos c.vel)
theorem brk_neg (v b : Int) (hb : 1 ≤ b) : brk v b = -(brk (-v) b) := by unfold brk; (repeat' split) <;> omega
theorem stopP_zero1 (b : Int) : stopP 0 b = 0 := by unfold stopP; simp
theorem EnvInv.start {h : Hs} {c : Cs} (k : CarOk h c) : EnvInv h c c.pos c.vel 0 := by
  have o := k.ok
  have s2 := o.sp2; have b1 := o.pu1; have b2 := o.br1; have v1 := k.v1; have v2 := k.v2
  refine ⟨by omega, by omega, by unfold absI; split <;> omega, ?_⟩
  unfold Hs.hi Hs.lo
  by_cases c1 : 0 < c.vel
  · left
    rw [if_pos c1, if_neg (by omega)]
    omega
  · by_cases c2 : c.vel < 0
    · right
      rw [if_neg c1, if_pos c2]
      omega
    · left
      have z : c.vel = 0 := by omega
      rw [if_neg c1, if_neg c2, z, stopP_zero1]
      omega
theorem EnvInv.bounds {h : Hs} {c : Cs} {p v k : Int} (e : EnvInv h c p v k) (hb : 1 ≤ h.br) : h.lo c.pos c.vel ≤ p ∧ p ≤ h.hi c.pos c.vel := by
  have v1 := e.v1; have v2 := e.v2
  rcases e.at_ with ⟨a, b, d⟩ | ⟨a, b, d⟩
  · have := stopP_nonneg v h.br a hb
    omega
  · have := stopP_nonneg (-v) h.br (by omega) hb
    omega
theorem EnvInv.next {h : Hs} {c : Cs} {p v k : Int} (e : EnvInv h c p v k) (hv : v ≠ 0) (hb : 1 ≤ h.br) : EnvInv h c (p + brk v h.br) (brk v h.br) (k + 1) := by
  have v1 := e.v1; have v2 := e.v2; have k1 := e.k1
  rcases e.at_ with ⟨a, b, d⟩ | ⟨a, b, d⟩
  · have hv0 : 0 < v := by omega
    have h1 := stopP_brk v h.br hv0 hb
    have h2 := brk_lt v h.br hv0 hb
    have h3 := brk_nonneg v h.br hv0
    refine ⟨by omega, by omega, ?_, Or.inl ⟨h3, by omega, by omega⟩⟩
    unfold absI at k1 ⊢
    (repeat' split) <;> (repeat' split at k1) <;> omega
  · have hv0 : 0 < -v := by omega
    have h1 := stopP_brk (-v) h.br hv0 hb
    have h2 := brk_lt (-v) h.br hv0 hb
    have h3 := brk_nonneg (-v) h.br hv0
    have h4 := brk_neg v h.br hb
    have h5 : -brk v h.br = brk (-v) h.br := by omega
    refine ⟨by omega, by omega, ?_, Or.inr ⟨by omega, by rw [h5]; omega, by omega⟩⟩
    unfold absI at k1 ⊢
    (repeat' split) <;> (repeat' split at k1) <;> omega
theorem EnvInv.done {h : Hs} {c : Cs} {p k : Int} (e : EnvInv h c p 0 k) : p = h.hi c.pos c.vel ∨ p = h.lo c.pos c.vel := by
  rcases e.at_ with ⟨a, b, d⟩ | ⟨a, b, d⟩
  · rw [stopP_zero1] at b; omega
  · rw [Int.neg_zero, stopP_zero1] at b; omega

set_option maxRecDepth 20000 in
set_option maxHeartbeats 16000000 in
theorem env_walk (a0 : Option Addr) (len0 cap0 : Nat) (w : World) (hc : CodeIn w w.heap.size a0 len0) (hbig : len0 ≤ 1048576) :
    Calls Try.prog 3 #[.slice a0 len0 cap0] w fun e w' => e = .returned (.bool true) ∧ Below w.heap.size w w' := by
  have HC : Hid (CodeIn w w.heap.size a0 len0) := hc
  clear hc
  go_enter Try.func3, Try.ntmps3
  go_wp2_with (first | (go_at_call 8; refine (lwBig_no _ _ _ hbig _).mono ?_; rintro e w' ⟨rfl, hw⟩; obtain rfl := hw.symm; clear hw))
  refine (DrawHighOf_any a0 len0 cap0 _ HC.out).mono ?_
  rintro e w1 ⟨h, c, rfl, hb⟩
  clear HC hbig
  go_upto_region 4 with fail
  have hsz := hb.size
  obtain ⟨w2, hw2⟩ : ∃ w2, w2 = (w1.alloc (.cells #[.int .i64 h.fl, .int .i64 h.gp, .int .i64 h.ln, .int .i64 h.rf, .int .i64 h.sp, .int .i64 h.pu, .int .i64 h.br, .int .i64 h.dr, .int .i64 h.lv, .int .i64 h.dO, .int .i64 h.ld, .int .i64 h.qu] 25)).alloc (.cells #[.int .i64 c.pos, .int .i64 c.vel, .int .i64 c.door] 27) := ⟨_, rfl⟩
  obtain ⟨b1, hb1⟩ : ∃ b1, b1 = w1.heap.size := ⟨_, rfl⟩
  obtain ⟨b2, hb2⟩ : ∃ b2, b2 = w1.heap.size + 1 := ⟨_, rfl⟩
  have l12 : b1 < b2 := by omega
  have lw1 : w.heap.size ≤ b1 := by omega
  have F0 : Hid (HAt w2 b1 h) := by rw [hw2]; exact (HAt.at_ w1 h _ _ hb1).alloc _
  have F1 : Hid (CW w2 b2 c) := by rw [hw2]; exact CW.at_ _ c _ _ (by simp; omega)
  have FB : Hid (Below w.heap.size w w2) := by rw [hw2]; exact (hb.alloc hb.size _).alloc (by simp; omega) _
  rw [← hw2, ← hb2, ← hb1]
  clear hw2 hb1 hb2 hb hsz
  by_cases hk : h.car c = 0
  · have k := Hs.car_zero hk
    have en := car_env k
    have hbr1 : 1 ≤ h.br := by have := k.ok.pu1; have := k.ok.br1; omega
    have hbr2 : h.br ≤ 500 := k.ok.br2
    have HI : Hid (EnvInv h c c.pos c.vel 0) := EnvInv.start k
    clear k
    obtain ⟨x0_0, x0_1, x0_2, x0_3, x0_4, x0_5, x0_6, x0_7, x0_8, x0_9, x0_10, x0_11⟩ := F0.out
    obtain ⟨x1_0, x1_1, x1_2, y1_0, y1_1, y1_2⟩ := F1.out
    go_wp2_with fail
    clear x0_0 x0_1 x0_2 x0_3 x0_4 x0_5 x0_6 x0_7 x0_8 x0_9 x0_10 x0_11
    clear x1_0 x1_1 x1_2 y1_0 y1_1 y1_2
    refine (implHighOf_yes h c hk _).mono ?_
    rintro e w3 ⟨rfl, hb⟩
    have F0 : Hid (HAt w3 b1 h) := F0.out.below hb F0.out.lt
    have F1 : Hid (CW w3 b2 c) := F1.out.below hb F1.out.lt
    have FB : Hid (Below w.heap.size w w3) := FB.out.trans (hb.mono FB.out.size)
    clear hb
    go_upto_region 5 with fail
    obtain ⟨b3, hb3⟩ : ∃ b3, b3 = w3.heap.size := ⟨_, rfl⟩
    obtain ⟨w4, hw4⟩ : ∃ w4, w4 = w3.alloc (.cells #[.int .i64 0, .int .i64 (h.hi c.pos c.vel)] 31) := ⟨_, rfl⟩
    have lb3F0 := F0.out.lt
    rw [← hb3] at lb3F0
    have lb3F1 := F1.out.lt
    rw [← hb3] at lb3F1
    have lb3w : w.heap.size ≤ b3 := by rw [hb3]; exact FB.out.size
    have F0 : Hid (HAt w4 b1 h) := by rw [hw4]; exact F0.out.alloc _
    have F1 : Hid (CW w4 b2 c) := by rw [hw4]; exact F1.out.alloc _
    have FB : Hid (Below w.heap.size w w4) := by rw [hw4]; exact FB.out.alloc FB.out.size _
    have F3 : Hid (VAt w4 b3 0 (h.hi c.pos c.vel)) := by rw [hw4, hb3]; exact VAt.new w3 _ _ _
    rw [← hw4, ← hb3]
    clear hw4 hb3
    obtain ⟨x0_0, x0_1, x0_2, x0_3, x0_4, x0_5, x0_6, x0_7, x0_8, x0_9, x0_10, x0_11⟩ := F0.out
    obtain ⟨x1_0, x1_1, x1_2, y1_0, y1_1, y1_2⟩ := F1.out
    go_wp2_with fail
    clear x0_0 x0_1 x0_2 x0_3 x0_4 x0_5 x0_6 x0_7 x0_8 x0_9 x0_10 x0_11
    clear x1_0 x1_1 x1_2 y1_0 y1_1 y1_2
    refine (implLowOf_yes h c hk _).mono ?_
    rintro e w5 ⟨rfl, hb⟩
    have F0 : Hid (HAt w5 b1 h) := F0.out.below hb F0.out.lt
    have F1 : Hid (CW w5 b2 c) := F1.out.below hb F1.out.lt
    have F3 : Hid (VAt w5 b3 0 (h.hi c.pos c.vel)) := F3.out.below hb F3.out.lt
    have FB : Hid (Below w.heap.size w w5) := FB.out.trans (hb.mono FB.out.size)
    clear hb
    go_upto_region 6 with fail
    obtain ⟨b4, hb4⟩ : ∃ b4, b4 = w5.heap.size := ⟨_, rfl⟩
    obtain ⟨w6, hw6⟩ : ∃ w6, w6 = w5.alloc (.cells #[.int .i64 0, .int .i64 (h.lo c.pos c.vel)] 31) := ⟨_, rfl⟩
    have lb4F0 := F0.out.lt
    rw [← hb4] at lb4F0
    have lb4F1 := F1.out.lt
    rw [← hb4] at lb4F1
    have lb4F3 := F3.out.lt
    rw [← hb4] at lb4F3
    have lb4w : w.heap.size ≤ b4 := by rw [hb4]; exact FB.out.size
    have F0 : Hid (HAt w6 b1 h) := by rw [hw6]; exact F0.out.alloc _
    have F1 : Hid (CW w6 b2 c) := by rw [hw6]; exact F1.out.alloc _
    have F3 : Hid (VAt w6 b3 0 (h.hi c.pos c.vel)) := by rw [hw6]; exact F3.out.alloc _
    have FB : Hid (Below w.heap.size w w6) := by rw [hw6]; exact FB.out.alloc FB.out.size _
    have F4 : Hid (VAt w6 b4 0 (h.lo c.pos c.vel)) := by rw [hw6, hb4]; exact VAt.new w5 _ _ _
    rw [← hw6, ← hb4]
    clear hw6 hb4
    have u3_0 := F3.out.c0
    obtain ⟨x1_0, x1_1, x1_2, y1_0, y1_1, y1_2⟩ := F1.out
    go_upto_region 9 with fail
    clear u3_0
    clear x1_0 x1_1 x1_2 y1_0 y1_1 y1_2
    obtain ⟨b5, hb5⟩ : ∃ b5, b5 = w6.heap.size := ⟨_, rfl⟩
    obtain ⟨w7, hw7⟩ : ∃ w7, w7 = w6.alloc (.cells #[.int .i64 c.pos, .int .i64 c.vel, .int .i64 c.door] 27) := ⟨_, rfl⟩
    have lb5F0 := F0.out.lt
    rw [← hb5] at lb5F0
    have lb5F1 := F1.out.lt
    rw [← hb5] at lb5F1
    have lb5F3 := F3.out.lt
    rw [← hb5] at lb5F3
    have lb5F4 := F4.out.lt
    rw [← hb5] at lb5F4
    have lb5w : w.heap.size ≤ b5 := by rw [hb5]; exact FB.out.size
    have F0 : Hid (HAt w7 b1 h) := by rw [hw7]; exact F0.out.alloc _
    have F1 : Hid (CW w7 b2 c) := by rw [hw7]; exact F1.out.alloc _
    have F3 : Hid (VAt w7 b3 0 (h.hi c.pos c.vel)) := by rw [hw7]; exact F3.out.alloc _
    have F4 : Hid (VAt w7 b4 0 (h.lo c.pos c.vel)) := by rw [hw7]; exact F4.out.alloc _
    have FB : Hid (Below w.heap.size w w7) := by rw [hw7]; exact FB.out.alloc FB.out.size _
    have F5 : Hid (CW w7 b5 c) := by rw [hw7, hb5]; exact CW.at_ w6 c _ _ rfl
    rw [← hw7, ← hb5]
    clear hw7 hb5
    go_wp2_with fail
    go_loopw [8] (fun nn wr => ∃ k p v : Int, nn = .int .i64 k ∧ 0 ≤ k ∧ EnvInv h c p v k ∧ HAt wr b1 h ∧ CW wr b2 c ∧ VAt wr b3 0 (h.hi c.pos c.vel) ∧ VAt wr b4 0 (h.lo c.pos c.vel) ∧ CW wr b5 (⟨p, v, c.door⟩ : Cs) ∧ Below w.heap.size w wr) (fun nn _ => (600 - intOf nn).toNat)
    case atStart => exact ⟨0, c.pos, c.vel, rfl, Int.le_refl _, HI.out, F0.out, F1.out, F3.out, F4.out, F5.out, FB.out⟩
    case round =>
      obtain ⟨k, p, v, rfl, k0, hinv, hF0, hF1, hF3, hF4, hF5, hFB⟩ := hrel
      have HI : Hid (EnvInv h c p v k) := hinv
      have F0 : Hid (HAt wr b1 h) := hF0
      have F1 : Hid (CW wr b2 c) := hF1
      have F3 : Hid (VAt wr b3 0 (h.hi c.pos c.vel)) := hF3
      have F4 : Hid (VAt wr b4 0 (h.lo c.pos c.vel)) := hF4
      have F5 : Hid (CW wr b5 (⟨p, v, c.door⟩ : Cs)) := hF5
      have FB : Hid (Below w.heap.size w wr) := hFB
      have v1_ := hinv.v1; have v2_ := hinv.v2; have k1_ := hinv.k1
      have bd := hinv.bounds hbr1
      have bd1 := bd.1; have bd2 := bd.2
      clear hinv hF0 hF1 hF3 hF4 hF5 hFB bd
      by_cases vz : v = 0
      · subst vz
        have hd := HI.out.done
        have c1_ : decide ((h.lo c.pos c.vel) ≤ c.pos) = true := decide_eq_true (by omega)
        have c2_ : decide (c.pos ≤ (h.hi c.pos c.vel)) = true := decide_eq_true (by omega)
        obtain ⟨z0, z1, z2, t0, t1, t2⟩ := F5.out
        try dsimp only at z0 z1 z2
        obtain ⟨x1_0, x1_1, x1_2, y1_0, y1_1, y1_2⟩ := F1.out
        have u3 := F3.out.c1
        have u4 := F4.out.c1
        rcases hd with hd | hd
        · have e1_ : (p == (h.hi c.pos c.vel)) = true := by simpa using hd
          clear hd
          go_wp2
          go_ret
          exact ⟨rfl, FB.out⟩
        · have e2_ : (p == (h.lo c.pos c.vel)) = true := by simpa using hd
          clear hd
          cases e1_ : (p == (h.hi c.pos c.vel))
          · go_wp2
            go_ret
            exact ⟨rfl, FB.out⟩
          · go_wp2
            go_ret
            exact ⟨rfl, FB.out⟩
      · have hkk : k ≤ 499 := by unfold absI at k1_; split at k1_ <;> omega
        have b0_ : (v != 0) = true := by simpa using vz
        have hnx := HI.out.next vz hbr1
        have nbd := hnx.bounds hbr1
        have d1_ : decide ((h.hi c.pos c.vel) < p + brk v h.br) = false := decide_eq_false (by omega)
        have d2_ : decide (p + brk v h.br < (h.lo c.pos c.vel)) = false := decide_eq_false (by omega)
        have HN : Hid (EnvInv h c (p + brk v h.br) (brk v h.br) (k + 1)) := hnx
        have f1_ := fieldM1
        have f2_ := fieldM2
        clear hnx nbd vz k1_
        obtain ⟨z0, z1, z2, t0, t1, t2⟩ := F5.out
        try dsimp only at z0 z1 z2
        obtain ⟨x0_0, x0_1, x0_2, x0_3, x0_4, x0_5, x0_6, x0_7, x0_8, x0_9, x0_10, x0_11⟩ := F0.out
        go_wp2_with fail
        clear z0 z1 z2 t0 t1 t2
        clear x0_0 x0_1 x0_2 x0_3 x0_4 x0_5 x0_6 x0_7 x0_8 x0_9 x0_10 x0_11
        refine (implBrakeOn_b p v h.br (by omega) (by omega) (by omega) (by omega) (by omega) (by omega) _).mono ?_
        rintro e v1 ⟨rfl, hb⟩
        have F0 : Hid (HAt v1 b1 h) := F0.out.below hb F0.out.lt
        have F1 : Hid (CW v1 b2 c) := F1.out.below hb F1.out.lt
        have F3 : Hid (VAt v1 b3 0 (h.hi c.pos c.vel)) := F3.out.below hb F3.out.lt
        have F4 : Hid (VAt v1 b4 0 (h.lo c.pos c.vel)) := F4.out.below hb F4.out.lt
        have F5 : Hid (CW v1 b5 (⟨p, v, c.door⟩ : Cs)) := F5.out.below hb F5.out.lt
        have FB : Hid (Below w.heap.size w v1) := FB.out.trans (hb.mono FB.out.size)
        clear hb
        obtain ⟨z0, z1, z2, t0, t1, t2⟩ := F5.out
        try dsimp only at z0 z1 z2
        go_upto_region 14 with fail
        clear z0 z1 z2 t0 t1 t2
        obtain ⟨v2, hv2⟩ : ∃ v2, v2 = v1.setCell ⟨b5, 1, none⟩ (.int .i64 (brk v h.br)) := ⟨_, rfl⟩
        have F0 : Hid (HAt v2 b1 h) := by rw [hv2]; exact F0.out.other (by omega)
        have F1 : Hid (CW v2 b2 c) := by rw [hv2]; exact F1.out.other (by omega)
        have F3 : Hid (VAt v2 b3 0 (h.hi c.pos c.vel)) := by rw [hv2]; exact F3.out.other (by omega)
        have F4 : Hid (VAt v2 b4 0 (h.lo c.pos c.vel)) := by rw [hv2]; exact F4.out.other (by omega)
        have F5 : Hid (CW v2 b5 (⟨p, brk v h.br, c.door⟩ : Cs)) := by rw [hv2]; exact F5.out.set_vel _
        have FB : Hid (Below w.heap.size w v2) := by rw [hv2]; exact FB.out.setCell (by omega) _
        rw [← hv2]
        clear hv2
        obtain ⟨z0, z1, z2, t0, t1, t2⟩ := F5.out
        try dsimp only at z0 z1 z2
        obtain ⟨x0_0, x0_1, x0_2, x0_3, x0_4, x0_5, x0_6, x0_7, x0_8, x0_9, x0_10, x0_11⟩ := F0.out
        go_wp2_with fail
        clear z0 z1 z2 t0 t1 t2
        clear x0_0 x0_1 x0_2 x0_3 x0_4 x0_5 x0_6 x0_7 x0_8 x0_9 x0_10 x0_11
        refine (implBrakeOn_b p v h.br (by omega) (by omega) (by omega) (by omega) (by omega) (by omega) _).mono ?_
        rintro e v3 ⟨rfl, hb⟩
        have F0 : Hid (HAt v3 b1 h) := F0.out.below hb F0.out.lt
        have F1 : Hid (CW v3 b2 c) := F1.out.below hb F1.out.lt
        have F3 : Hid (VAt v3 b3 0 (h.hi c.pos c.vel)) := F3.out.below hb F3.out.lt
        have F4 : Hid (VAt v3 b4 0 (h.lo c.pos c.vel)) := F4.out.below hb F4.out.lt
        have F5 : Hid (CW v3 b5 (⟨p, brk v h.br, c.door⟩ : Cs)) := F5.out.below hb F5.out.lt
        have FB : Hid (Below w.heap.size w v3) := FB.out.trans (hb.mono FB.out.size)
        clear hb
        obtain ⟨z0, z1, z2, t0, t1, t2⟩ := F5.out
        try dsimp only at z0 z1 z2
        have u3 := F3.out.c1
        have u4 := F4.out.c1
        have n53 : b3 ≠ b5 := by omega
        have n54 : b4 ≠ b5 := by omega
        go_wp2
        go_roundw
        case rel => exact ⟨k + 1, p + brk v h.br, brk v h.br, rfl, by omega, HN.out, F0.out.other (by omega), F1.out.other (by omega), F3.out.other (by omega), F4.out.other (by omega), F5.out.set_pos _, FB.out.setCell (by omega) _⟩
        case measure => simp [intOf]; omega
  · have hn : (h.car c != 0) = true := by simpa using hk
    obtain ⟨x0_0, x0_1, x0_2, x0_3, x0_4, x0_5, x0_6, x0_7, x0_8, x0_9, x0_10, x0_11⟩ := F0.out
    obtain ⟨x1_0, x1_1, x1_2, y1_0, y1_1, y1_2⟩ := F1.out
    go_wp2_with fail
    clear x0_0 x0_1 x0_2 x0_3 x0_4 x0_5 x0_6 x0_7 x0_8 x0_9 x0_10 x0_11
    clear x1_0 x1_1 x1_2 y1_0 y1_1 y1_2
    refine (implHighOf_no h c hk _).mono ?_
    rintro e w3 ⟨rfl, hb⟩
    have F0 : Hid (HAt w3 b1 h) := F0.out.below hb F0.out.lt
    have F1 : Hid (CW w3 b2 c) := F1.out.below hb F1.out.lt
    have FB : Hid (Below w.heap.size w w3) := FB.out.trans (hb.mono FB.out.size)
    clear hb
    go_upto_region 5 with fail
    obtain ⟨b3, hb3⟩ : ∃ b3, b3 = w3.heap.size := ⟨_, rfl⟩
    obtain ⟨w4, hw4⟩ : ∃ w4, w4 = w3.alloc (.cells #[.int .i64 (h.car c), .int .i64 0] 31) := ⟨_, rfl⟩
    have lb3F0 := F0.out.lt
    rw [← hb3] at lb3F0
    have lb3F1 := F1.out.lt
    rw [← hb3] at lb3F1
    have lb3w : w.heap.size ≤ b3 := by rw [hb3]; exact FB.out.size
    have F0 : Hid (HAt w4 b1 h) := by rw [hw4]; exact F0.out.alloc _
    have F1 : Hid (CW w4 b2 c) := by rw [hw4]; exact F1.out.alloc _
    have FB : Hid (Below w.heap.size w w4) := by rw [hw4]; exact FB.out.alloc FB.out.size _
    have F3 : Hid (VAt w4 b3 (h.car c) 0) := by rw [hw4, hb3]; exact VAt.new w3 _ _ _
    rw [← hw4, ← hb3]
    clear hw4 hb3
    obtain ⟨x0_0, x0_1, x0_2, x0_3, x0_4, x0_5, x0_6, x0_7, x0_8, x0_9, x0_10, x0_11⟩ := F0.out
    obtain ⟨x1_0, x1_1, x1_2, y1_0, y1_1, y1_2⟩ := F1.out
    go_wp2_with fail
    clear x0_0 x0_1 x0_2 x0_3 x0_4 x0_5 x0_6 x0_7 x0_8 x0_9 x0_10 x0_11
    clear x1_0 x1_1 x1_2 y1_0 y1_1 y1_2
    refine (implLowOf_no h c hk _).mono ?_
    rintro e w5 ⟨rfl, hb⟩
    have F0 : Hid (HAt w5 b1 h) := F0.out.below hb F0.out.lt
    have F1 : Hid (CW w5 b2 c) := F1.out.below hb F1.out.lt
    have F3 : Hid (VAt w5 b3 (h.car c) 0) := F3.out.below hb F3.out.lt
    have FB : Hid (Below w.heap.size w w5) := FB.out.trans (hb.mono FB.out.size)
    clear hb
    go_upto_region 6 with fail
    obtain ⟨b4, hb4⟩ : ∃ b4, b4 = w5.heap.size := ⟨_, rfl⟩
    obtain ⟨w6, hw6⟩ : ∃ w6, w6 = w5.alloc (.cells #[.int .i64 (h.car c), .int .i64 0] 31) := ⟨_, rfl⟩
    have lb4F0 := F0.out.lt
    rw [← hb4] at lb4F0
    have lb4F1 := F1.out.lt
    rw [← hb4] at lb4F1
    have lb4F3 := F3.out.lt
    rw [← hb4] at lb4F3
    have lb4w : w.heap.size ≤ b4 := by rw [hb4]; exact FB.out.size
    have F0 : Hid (HAt w6 b1 h) := by rw [hw6]; exact F0.out.alloc _
    have F1 : Hid (CW w6 b2 c) := by rw [hw6]; exact F1.out.alloc _
    have F3 : Hid (VAt w6 b3 (h.car c) 0) := by rw [hw6]; exact F3.out.alloc _
    have FB : Hid (Below w.heap.size w w6) := by rw [hw6]; exact FB.out.alloc FB.out.size _
    have F4 : Hid (VAt w6 b4 (h.car c) 0) := by rw [hw6, hb4]; exact VAt.new w5 _ _ _
    rw [← hw6, ← hb4]
    clear hw6 hb4
    have u3_0 := F3.out.c0
    go_wp2_with fail
    clear u3_0
    have F0 : Hid (HAt w6.drew b1 h) := F0.out.below (Below.refl _ _).drew F0.out.lt
    have F1 : Hid (CW w6.drew b2 c) := F1.out.below (Below.refl _ _).drew F1.out.lt
    have F3 : Hid (VAt w6.drew b3 (h.car c) 0) := F3.out.below (Below.refl _ _).drew F3.out.lt
    have F4 : Hid (VAt w6.drew b4 (h.car c) 0) := F4.out.below (Below.refl _ _).drew F4.out.lt
    have FB : Hid (Below w.heap.size w w6.drew) := FB.out.drew
    obtain ⟨x0_0, x0_1, x0_2, x0_3, x0_4, x0_5, x0_6, x0_7, x0_8, x0_9, x0_10, x0_11⟩ := F0.out
    obtain ⟨x1_0, x1_1, x1_2, y1_0, y1_1, y1_2⟩ := F1.out
    have y3_0 := F3.out.c0
    have y4_0 := F4.out.c0
    refine wp_region_held_drew (S := (fun w'' => w''.cell? ⟨b1, 0, none⟩ = some (.int .i64 h.fl) ∧ w''.cell? ⟨b1, 1, none⟩ = some (.int .i64 h.gp) ∧ w''.cell? ⟨b1, 2, none⟩ = some (.int .i64 h.ln) ∧ w''.cell? ⟨b1, 3, none⟩ = some (.int .i64 h.rf) ∧ w''.cell? ⟨b1, 4, none⟩ = some (.int .i64 h.sp) ∧ w''.cell? ⟨b1, 5, none⟩ = some (.int .i64 h.pu) ∧ w''.cell? ⟨b1, 6, none⟩ = some (.int .i64 h.br) ∧ w''.cell? ⟨b1, 7, none⟩ = some (.int .i64 h.dr) ∧ w''.cell? ⟨b1, 8, none⟩ = some (.int .i64 h.lv) ∧ w''.cell? ⟨b1, 9, none⟩ = some (.int .i64 h.dO) ∧ w''.cell? ⟨b1, 10, none⟩ = some (.int .i64 h.ld) ∧ w''.cell? ⟨b1, 11, none⟩ = some (.int .i64 h.qu) ∧ w''.cell? ⟨b2, 0, none⟩ = some (.int .i64 c.pos) ∧ w''.cell? ⟨b2, 1, none⟩ = some (.int .i64 c.vel) ∧ w''.cell? ⟨b2, 2, none⟩ = some (.int .i64 c.door) ∧ w''.cell? ⟨b3, 0, none⟩ = some (.int .i64 (h.car c)) ∧ w''.cell? ⟨b4, 0, none⟩ = some (.int .i64 (h.car c)))) (by kernel_rfl) (by (try dsimp only); first | exact ⟨x0_0, x0_1, x0_2, x0_3, x0_4, x0_5, x0_6, x0_7, x0_8, x0_9, x0_10, x0_11, x1_0, x1_1, x1_2, y3_0, y4_0⟩ | go_keep) (fun hHeld => ?_)
    obtain ⟨v_1, hw1⟩ : ∃ v_1, v_1 = w6.drew := ⟨_, rfl⟩
    have F0 : Hid (HAt v_1 b1 h) := by rw [hw1]; exact F0.out
    have F1 : Hid (CW v_1 b2 c) := by rw [hw1]; exact F1.out
    have F3 : Hid (VAt v_1 b3 (h.car c) 0) := by rw [hw1]; exact F3.out
    have F4 : Hid (VAt v_1 b4 (h.car c) 0) := by rw [hw1]; exact F4.out
    have FB : Hid (Below w.heap.size w v_1) := by rw [hw1]; exact FB.out
    rw [← hw1] at hHeld ⊢
    clear hw1
    obtain ⟨x0_0, x0_1, x0_2, x0_3, x0_4, x0_5, x0_6, x0_7, x0_8, x0_9, x0_10, x0_11⟩ := F0.out
    obtain ⟨x1_0, x1_1, x1_2, y1_0, y1_1, y1_2⟩ := F1.out
    have y3_0 := F3.out.c0
    have y4_0 := F4.out.c0
    refine wpAnyH_take (i := 0) (v := _) rfl (by kernel_rfl) (by kernel_rfl) (by kernel_rfl) (fun _ _ _ h => h) (Or.inl ⟨by kernel_rfl, by (intro wx hSw; (try dsimp only at hSw); go_simp <;> with_reducible rfl)⟩) (by assumption) ?_
    try simp only [Act.put, List.getElem_toArray, List.getElem_cons_succ, List.getElem_cons_zero, List.setIfInBounds_toArray, List.set_cons_zero, List.set_cons_succ]
    refine wpAnyH_take (i := 1) (v := _) rfl (by kernel_rfl) (by kernel_rfl) (by kernel_rfl) (fun _ _ _ h => h) (Or.inl ⟨by kernel_rfl, by (intro wx hSw; (try dsimp only at hSw); go_simp <;> with_reducible rfl)⟩) (by assumption) ?_
    try simp only [Act.put, List.getElem_toArray, List.getElem_cons_succ, List.getElem_cons_zero, List.setIfInBounds_toArray, List.set_cons_zero, List.set_cons_succ]
    refine wpAnyH_take (i := 3) (v := _) rfl (by kernel_rfl) (by kernel_rfl) (by kernel_rfl) (fun _ _ _ h => h) (Or.inl ⟨by kernel_rfl, by (intro wx hSw; (try dsimp only at hSw); go_simp <;> with_reducible rfl)⟩) (by assumption) ?_
    try simp only [Act.put, List.getElem_toArray, List.getElem_cons_succ, List.getElem_cons_zero, List.setIfInBounds_toArray, List.set_cons_zero, List.set_cons_succ]
    refine wpAnyH_take (i := 4) (v := _) rfl (by kernel_rfl) (by kernel_rfl) (by kernel_rfl) (fun _ _ _ h => h) (Or.inl ⟨by kernel_rfl, by (intro wx hSw; (try dsimp only at hSw); go_simp <;> with_reducible rfl)⟩) (by assumption) ?_
    try simp only [Act.put, List.getElem_toArray, List.getElem_cons_succ, List.getElem_cons_zero, List.setIfInBounds_toArray, List.set_cons_zero, List.set_cons_succ]
    refine wpAnyH_ready (rs := [2]) (by kernel_rfl) (by simp) ?_
    refine (AllReadyH.cons rfl (fun K hK => ?_) AllReadyH.nil)
    go_simp
    refine (specCarFault_any h c _).mono ?_
    rintro e v_2 ⟨rfl, hb⟩
    have F0 : Hid (HAt v_2 b1 h) := F0.out.below hb F0.out.lt
    have F1 : Hid (CW v_2 b2 c) := F1.out.below hb F1.out.lt
    have F3 : Hid (VAt v_2 b3 (h.car c) 0) := F3.out.below hb F3.out.lt
    have F4 : Hid (VAt v_2 b4 (h.car c) 0) := F4.out.below hb F4.out.lt
    have FB : Hid (Below w.heap.size w v_2) := FB.out.trans (hb.mono FB.out.size)
    clear hb
    obtain ⟨x0_0, x0_1, x0_2, x0_3, x0_4, x0_5, x0_6, x0_7, x0_8, x0_9, x0_10, x0_11⟩ := F0.out
    obtain ⟨x1_0, x1_1, x1_2, y1_0, y1_1, y1_2⟩ := F1.out
    have y3_0 := F3.out.c0
    have y4_0 := F4.out.c0
    try dsimp only
    refine hK.out _ _ (by (try dsimp only); first | exact ⟨x0_0, x0_1, x0_2, x0_3, x0_4, x0_5, x0_6, x0_7, x0_8, x0_9, x0_10, x0_11, x1_0, x1_1, x1_2, y3_0, y4_0⟩ | go_keep) (fun hHeld => ?_)
    clear hK K
    try simp only [Act.put, List.getElem_toArray, List.getElem_cons_succ, List.getElem_cons_zero, List.setIfInBounds_toArray, List.set_cons_zero, List.set_cons_succ]
    refine wpAnyH_take (i := 5) (v := _) rfl (by kernel_rfl) (by kernel_rfl) (by kernel_rfl) (fun _ _ _ h => h) (Or.inl ⟨by kernel_rfl, by (intro wx hSw; (try dsimp only at hSw); go_simp <;> with_reducible rfl)⟩) (by assumption) ?_
    try simp only [Act.put, List.getElem_toArray, List.getElem_cons_succ, List.getElem_cons_zero, List.setIfInBounds_toArray, List.set_cons_zero, List.set_cons_succ]
    refine wpAnyH_take (i := 6) (v := _) rfl (by kernel_rfl) (by kernel_rfl) (by kernel_rfl) (fun _ _ _ h => h) (Or.inl ⟨by kernel_rfl, by (intro wx hSw; (try dsimp only at hSw); go_simp <;> with_reducible rfl)⟩) (by assumption) ?_
    try simp only [Act.put, List.getElem_toArray, List.getElem_cons_succ, List.getElem_cons_zero, List.setIfInBounds_toArray, List.set_cons_zero, List.set_cons_succ]
    refine wpAnyH_take (i := 7) (v := _) rfl (by kernel_rfl) (by kernel_rfl) (by kernel_rfl) (fun _ _ _ h => h) (Or.inl ⟨by kernel_rfl, by (intro wx hSw; (try dsimp only at hSw); go_simp <;> with_reducible rfl)⟩) (by assumption) ?_
    try simp only [Act.put, List.getElem_toArray, List.getElem_cons_succ, List.getElem_cons_zero, List.setIfInBounds_toArray, List.set_cons_zero, List.set_cons_succ]
    refine wpAnyH_take (i := 8) (v := _) rfl (by kernel_rfl) (by kernel_rfl) (by kernel_rfl) (fun _ _ _ h => h) (Or.inl ⟨by kernel_rfl, by (intro wx hSw; (try dsimp only at hSw); go_simp <;> with_reducible rfl)⟩) (by assumption) ?_
    try simp only [Act.put, List.getElem_toArray, List.getElem_cons_succ, List.getElem_cons_zero, List.setIfInBounds_toArray, List.set_cons_zero, List.set_cons_succ]
    refine wpAnyH_take (i := 9) (v := _) rfl (by kernel_rfl) (by kernel_rfl) (by kernel_rfl) (fun _ _ _ h => h) (Or.inl ⟨by kernel_rfl, by (intro wx hSw; (try dsimp only at hSw); go_simp <;> with_reducible rfl)⟩) (by assumption) ?_
    try simp only [Act.put, List.getElem_toArray, List.getElem_cons_succ, List.getElem_cons_zero, List.setIfInBounds_toArray, List.set_cons_zero, List.set_cons_succ]
    refine wpAnyH_take (i := 10) (v := _) rfl (by kernel_rfl) (by kernel_rfl) (by kernel_rfl) (fun _ _ _ h => h) (Or.inl ⟨by kernel_rfl, by (intro wx hSw; (try dsimp only at hSw); go_simp <;> with_reducible rfl)⟩) (by assumption) ?_
    try simp only [Act.put, List.getElem_toArray, List.getElem_cons_succ, List.getElem_cons_zero, List.setIfInBounds_toArray, List.set_cons_zero, List.set_cons_succ]
    refine wpAnyH_take (i := 11) (v := _) rfl (by kernel_rfl) (by kernel_rfl) (by kernel_rfl) (fun _ _ _ h => h) (Or.inl ⟨by kernel_rfl, by (intro wx hSw; (try dsimp only at hSw); go_simp <;> with_reducible rfl)⟩) (by assumption) ?_
    try simp only [Act.put, List.getElem_toArray, List.getElem_cons_succ, List.getElem_cons_zero, List.setIfInBounds_toArray, List.set_cons_zero, List.set_cons_succ]
    refine wpAnyH_take (i := 12) (v := _) rfl (by kernel_rfl) (by kernel_rfl) (by kernel_rfl) (fun _ _ _ h => h) (Or.inl ⟨by kernel_rfl, by (intro wx hSw; (try dsimp only at hSw); go_simp <;> with_reducible rfl)⟩) (by assumption) ?_
    try simp only [Act.put, List.getElem_toArray, List.getElem_cons_succ, List.getElem_cons_zero, List.setIfInBounds_toArray, List.set_cons_zero, List.set_cons_succ]
    refine wpAnyH_take (i := 13) (v := _) rfl (by kernel_rfl) (by kernel_rfl) (by kernel_rfl) (fun _ _ _ h => h) (Or.inl ⟨by kernel_rfl, by (intro wx hSw; (try dsimp only at hSw); go_simp <;> with_reducible rfl)⟩) (by assumption) ?_
    try simp only [Act.put, List.getElem_toArray, List.getElem_cons_succ, List.getElem_cons_zero, List.setIfInBounds_toArray, List.set_cons_zero, List.set_cons_succ]
    refine wpAnyH_done (by kernel_rfl) ?_ _
    go_wp2
    go_ret
    exact ⟨by simp, FB.out⟩
end Go.Proofs.Ytiahefgmenoflaa
