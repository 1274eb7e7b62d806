/-
  Books: a step, as the model keeps them.
-/
import Derived.Test.YtngdfckknkgdgaaEnA
import Derived.Test.YtngdfckknkgdgaaCarS
import Derived.Test.YtngdfckknkgdgaaCarA
import Derived.Deep.DeepCutAuto
namespace Go.Proofs.Ytngdfckknkgdgaa
open Go.RowKit Pl
set_option linter.unusedSimpArgs false
set_option linter.unusedVariables false

/-- What is answered: a code, a book, a car. -/
def isBk (w : World) (R : Bks) (e : Ending) (w' : World) : Prop := e = .returned (.agg #[.int .i64 R.k, .int .i64 R.b.i, .int .i64 R.b.o, .int .i64 R.b.l, .int .i64 R.c.pos, .int .i64 R.c.vel, .int .i64 R.c.door]) ∧ Below w.heap.size w w'
theorem ret_bk {R S : Bks} (h : R = S) : Ending.returned (.agg #[.int .i64 R.k, .int .i64 R.b.i, .int .i64 R.b.o, .int .i64 R.b.l, .int .i64 R.c.pos, .int .i64 R.c.vel, .int .i64 R.c.door]) = .returned (.agg #[.int .i64 S.k, .int .i64 S.b.i, .int .i64 S.b.o, .int .i64 S.b.l, .int .i64 S.c.pos, .int .i64 S.c.vel, .int .i64 S.c.door]) := by rw [h]
set_option maxRecDepth 20000 in
set_option maxHeartbeats 32000000 in
theorem l13Step_any (h : Hs) (c : Cs) (x : Cm) (d r : Int) (k : CarOk h c) (x1 : -h.pu ≤ x.push) (x2 : x.push ≤ h.pu) (d1 : -h.dr ≤ d) (d2 : d ≤ h.dr) (r1 : 0 ≤ r) (r2 : r ≤ h.ld) (R : Bks) (hR : Hs.bkT h c x d r = R) (w : World) :
    Calls Try.prog 43 #[.agg #[.int .i64 h.fl, .int .i64 h.gp, .int .i64 h.ln, .int .i64 h.rf, .int .i64 h.sp, .int .i64 h.pu, .int .i64 h.br, .int .i64 h.dr, .int .i64 h.lv, .int .i64 h.dO, .int .i64 h.ld, .int .i64 h.qu], .agg #[.int .i64 c.pos, .int .i64 c.vel, .int .i64 c.door], .agg #[.int .i64 x.push, .bool x.brk, .bool x.opn], .int .i64 d, .int .i64 r] w (isBk w R) := by
  obtain ⟨xp, xb, xo⟩ := x
  have HO : Hid h.Ok := k.ok
  have r3 : r ≤ 20 := by have := k.ok.ld2; omega
  have HN : Hid (Nr h c) := nr_of k
  obtain ⟨g, hg⟩ : ∃ g, stepC h c ⟨xp, xb, xo⟩ d = g := ⟨_, rfl⟩
  have sn := step_near (x := ⟨xp, xb, xo⟩) (d := d) k
  have gb := gain_bd (x := ⟨xp, xb, xo⟩) (d := d) k r1 r2
  have HR : Hid ((if h.carC g = 0 then (⟨0, oneB (brkB c ⟨xp, xb, xo⟩) (enE h g r - enE h c r), g⟩ : Bks) else Bks.bad 3) = R) := by
    show _ = R
    rw [← hR]
    unfold Hs.bkT Hs.bkS Hs.gain
    rw [hg]
  rw [hg] at sn
  have gb2 : -1000000000000 ≤ enE h g r - enE h c r ∧ enE h g r - enE h c r ≤ 1000000000000 := by have q := gb; unfold Hs.gain at q; rw [hg] at q; exact q
  have HM : Hid (Nr h g) := sn.1
  have CS : ∀ W, Calls Try.prog 65 #[.agg #[.int .i64 h.fl, .int .i64 h.gp, .int .i64 h.ln, .int .i64 h.rf, .int .i64 h.sp, .int .i64 h.pu, .int .i64 h.br, .int .i64 h.dr, .int .i64 h.lv, .int .i64 h.dO, .int .i64 h.ld, .int .i64 h.qu], .agg #[.int .i64 c.pos, .int .i64 c.vel, .int .i64 c.door], .agg #[.int .i64 xp, .bool xb, .bool xo], .int .i64 d] W fun e w' => e = .returned (.agg #[.int .i64 g.pos, .int .i64 g.vel, .int .i64 g.door]) ∧ Below W.heap.size W w' := fun W => l3Step_any h c ⟨xp, xb, xo⟩ d k x1 x2 d1 d2 g hg W
  have CC : ∀ W, Calls Try.prog 66 #[.agg #[.int .i64 h.fl, .int .i64 h.gp, .int .i64 h.ln, .int .i64 h.rf, .int .i64 h.sp, .int .i64 h.pu, .int .i64 h.br, .int .i64 h.dr, .int .i64 h.lv, .int .i64 h.dO, .int .i64 h.ld, .int .i64 h.qu], .agg #[.int .i64 g.pos, .int .i64 g.vel, .int .i64 g.door]] W fun e w' => e = .returned (.int .i64 (h.carC g)) ∧ Below W.heap.size W w' := fun W => l3Car_any h HO.out g W
  have C1 : ∀ W, Calls Try.prog 40 #[.agg #[.int .i64 h.fl, .int .i64 h.gp, .int .i64 h.ln, .int .i64 h.rf, .int .i64 h.sp, .int .i64 h.pu, .int .i64 h.br, .int .i64 h.dr, .int .i64 h.lv, .int .i64 h.dO, .int .i64 h.ld, .int .i64 h.qu], .agg #[.int .i64 g.pos, .int .i64 g.vel, .int .i64 g.door], .int .i64 r] W fun e w' => e = .returned (.int .i64 (enE h g r)) ∧ Below W.heap.size W w' := fun W => l13Energy_any h HO.out g r HM.out r1 r3 W
  have C2 : ∀ W, Calls Try.prog 40 #[.agg #[.int .i64 h.fl, .int .i64 h.gp, .int .i64 h.ln, .int .i64 h.rf, .int .i64 h.sp, .int .i64 h.pu, .int .i64 h.br, .int .i64 h.dr, .int .i64 h.lv, .int .i64 h.dO, .int .i64 h.ld, .int .i64 h.qu], .agg #[.int .i64 c.pos, .int .i64 c.vel, .int .i64 c.door], .int .i64 r] W fun e w' => e = .returned (.int .i64 (enE h c r)) ∧ Below W.heap.size W w' := fun W => l13Energy_any h HO.out c r HN.out r1 r3 W
  obtain ⟨eg, heg⟩ : ∃ eg, enE h g r = eg := ⟨_, rfl⟩
  obtain ⟨ec, hec⟩ : ∃ ec, enE h c r = ec := ⟨_, rfl⟩
  obtain ⟨kc, hkc⟩ : ∃ kc, h.carC g = kc := ⟨_, rfl⟩
  rw [heg] at C1
  rw [hec] at C2
  rw [hkc] at CC
  rw [heg, hec] at gb2
  rw [heg, hec, hkc] at HR
  obtain ⟨en, hen⟩ : ∃ en, eg - ec = en := ⟨_, rfl⟩
  rw [hen] at HR gb2
  have hw1 : IntKind.i64.wrap (eg - ec) = en := by rw [IntWalk.i64_in _ (by omega)]; exact hen
  clear hg sn gb heg hec hkc hR k x1 x2 d1 d2 hen
  obtain ⟨b0, hb0⟩ : ∃ b0, b0 = w.heap.size := ⟨_, rfl⟩
  obtain ⟨b1, hb1⟩ : ∃ b1, b1 = b0 + 1 := ⟨_, rfl⟩
  obtain ⟨b2, hb2⟩ : ∃ b2, b2 = b1 + 1 := ⟨_, rfl⟩
  obtain ⟨b3, hb3⟩ : ∃ b3, b3 = b2 + 1 := ⟨_, rfl⟩
  obtain ⟨W0, hW0⟩ : ∃ W0, W0 = (((w.alloc (.cells #[.int .i64 h.fl, .int .i64 h.gp, .int .i64 h.ln, .int .i64 h.rf, .int .i64 h.sp, .int .i64 h.pu, .int .i64 h.br, .int .i64 h.dr, .int .i64 h.lv, .int .i64 h.dO, .int .i64 h.ld, .int .i64 h.qu] 27)).alloc (.cells #[.int .i64 c.pos, .int .i64 c.vel, .int .i64 c.door] 34)).alloc (.cells #[.int .i64 xp, .bool xb, .bool xo] 42)).alloc (.cells #[.int .i64 0, .int .i64 0, .int .i64 0, .int .i64 0, .int .i64 0, .int .i64 0, .int .i64 0] 40) := ⟨_, rfl⟩
  have F0 : Hid (Blk W0 b0 [.int .i64 h.fl, .int .i64 h.gp, .int .i64 h.ln, .int .i64 h.rf, .int .i64 h.sp, .int .i64 h.pu, .int .i64 h.br, .int .i64 h.dr, .int .i64 h.lv, .int .i64 h.dO, .int .i64 h.ld, .int .i64 h.qu]) := by rw [hW0]; exact ((((Blk.at_ _ #[.int .i64 h.fl, .int .i64 h.gp, .int .i64 h.ln, .int .i64 h.rf, .int .i64 h.sp, .int .i64 h.pu, .int .i64 h.br, .int .i64 h.dr, .int .i64 h.lv, .int .i64 h.dO, .int .i64 h.ld, .int .i64 h.qu] _ _ hb0).alloc _).alloc _).alloc _)
  have F1 : Hid (Blk W0 b1 [.int .i64 c.pos, .int .i64 c.vel, .int .i64 c.door]) := by rw [hW0]; exact (((Blk.at_ _ #[.int .i64 c.pos, .int .i64 c.vel, .int .i64 c.door] _ _ (by simp; omega)).alloc _).alloc _)
  have F2 : Hid (Blk W0 b2 [.int .i64 xp, .bool xb, .bool xo]) := by rw [hW0]; exact ((Blk.at_ _ #[.int .i64 xp, .bool xb, .bool xo] _ _ (by simp; omega)).alloc _)
  have F3 : Hid (Blk W0 b3 [.int .i64 0, .int .i64 0, .int .i64 0, .int .i64 0, .int .i64 0, .int .i64 0, .int .i64 0]) := by rw [hW0]; exact (Blk.at_ _ #[.int .i64 0, .int .i64 0, .int .i64 0, .int .i64 0, .int .i64 0, .int .i64 0, .int .i64 0] _ _ (by simp; omega))
  have FB : Hid (Below w.heap.size w W0) := by rw [hW0]; exact (((((Below.refl _ _).alloc (Nat.le_refl _) _).alloc (by simp) _).alloc (by simp; omega) _).alloc (by simp; omega) _)
  have leb0 : w.heap.size ≤ b0 := by omega
  have leb1 : w.heap.size ≤ b1 := by omega
  have leb2 : w.heap.size ≤ b2 := by omega
  have leb3 : w.heap.size ≤ b3 := by omega
  have l01 : b0 < b1 := by omega
  have l12 : b1 < b2 := by omega
  have l23 : b2 < b3 := by omega
  go_enter Try.func43, Try.ntmps43
  go_upto_region 1 with fail
  rw [← hb0, ← hb1, ← hb2, ← hb3, ← hW0]
  clear hb0 hb1 hb2 hb3 hW0
  go_upto_region 2 with (first | (refine load_blk 27 _ Try.underlying27 (by kernel_rfl) F0.out rfl rfl rfl ?_) | (refine load_blk 34 _ Try.underlying34 (by kernel_rfl) F1.out rfl rfl rfl ?_) | (refine load_blk 42 _ Try.underlying42 (by kernel_rfl) F2.out rfl rfl rfl ?_) | (go_at_call 65; refine (CS _).mono ?_; rintro e w1 ⟨rfl, hb⟩; have F0 : Hid (Blk w1 b0 [.int .i64 h.fl, .int .i64 h.gp, .int .i64 h.ln, .int .i64 h.rf, .int .i64 h.sp, .int .i64 h.pu, .int .i64 h.br, .int .i64 h.dr, .int .i64 h.lv, .int .i64 h.dO, .int .i64 h.ld, .int .i64 h.qu]) := F0.out.below hb F0.out.lt; have F1 : Hid (Blk w1 b1 [.int .i64 c.pos, .int .i64 c.vel, .int .i64 c.door]) := F1.out.below hb F1.out.lt; have F2 : Hid (Blk w1 b2 [.int .i64 xp, .bool xb, .bool xo]) := F2.out.below hb F2.out.lt; have F3 : Hid (Blk w1 b3 [.int .i64 0, .int .i64 0, .int .i64 0, .int .i64 0, .int .i64 0, .int .i64 0, .int .i64 0]) := F3.out.below hb F3.out.lt; have FB : Hid (Below w.heap.size w w1) := FB.out.trans (hb.mono FB.out.size); clear hb) | (refine store_new [.int .i64 g.pos, .int .i64 g.vel, .int .i64 g.door] 34 _ _ (by kernel_rfl) (by kernel_rfl) (by kernel_rfl) rfl rfl rfl rfl ?_))
  have FB0 := FB
  obtain ⟨b4, hbb⟩ : ∃ b4, b4 = w1.heap.size := ⟨_, rfl⟩
  obtain ⟨w2, hw2⟩ : ∃ w2, w2 = w1.alloc (.cells #[.int .i64 g.pos, .int .i64 g.vel, .int .i64 g.door] 34) := ⟨_, rfl⟩
  have nb4b0 : b0 < b4 := by rw [hbb]; exact F0.out.lt
  have nb4b1 : b1 < b4 := by rw [hbb]; exact F1.out.lt
  have nb4b2 : b2 < b4 := by rw [hbb]; exact F2.out.lt
  have nb4b3 : b3 < b4 := by rw [hbb]; exact F3.out.lt
  have F0 : Hid (Blk w2 b0 [.int .i64 h.fl, .int .i64 h.gp, .int .i64 h.ln, .int .i64 h.rf, .int .i64 h.sp, .int .i64 h.pu, .int .i64 h.br, .int .i64 h.dr, .int .i64 h.lv, .int .i64 h.dO, .int .i64 h.ld, .int .i64 h.qu]) := by rw [hw2]; exact F0.out.alloc _
  have F1 : Hid (Blk w2 b1 [.int .i64 c.pos, .int .i64 c.vel, .int .i64 c.door]) := by rw [hw2]; exact F1.out.alloc _
  have F2 : Hid (Blk w2 b2 [.int .i64 xp, .bool xb, .bool xo]) := by rw [hw2]; exact F2.out.alloc _
  have F3 : Hid (Blk w2 b3 [.int .i64 0, .int .i64 0, .int .i64 0, .int .i64 0, .int .i64 0, .int .i64 0, .int .i64 0]) := by rw [hw2]; exact F3.out.alloc _
  have F4 : Hid (Blk w2 b4 [.int .i64 g.pos, .int .i64 g.vel, .int .i64 g.door]) := by rw [hw2]; exact Blk.at_ w1 #[.int .i64 g.pos, .int .i64 g.vel, .int .i64 g.door] _ _ hbb
  have FB : Hid (Below w.heap.size w w2) := by rw [hw2]; exact FB.out.alloc FB.out.size _
  have leb4 : w.heap.size ≤ b4 := by rw [hbb]; exact FB0.out.size
  rw [← hw2, ← hbb]
  clear hbb hw2 FB0
  by_cases hz : kc = 0
  case neg =>
    have hn : (kc != 0) = true := by simpa using hz
    have ER : Hid (Bks.bad 3 = R) := by have q := HR.out; rw [if_neg hz] at q; exact q
    go_wp2_with (first | (refine load_blk 27 _ Try.underlying27 (by kernel_rfl) F0.out rfl rfl rfl ?_) | (refine load_blk 34 _ Try.underlying34 (by kernel_rfl) F4.out rfl rfl rfl ?_) | (go_at_call 66; refine (CC _).mono ?_; rintro e w3 ⟨rfl, hb⟩; have F0 : Hid (Blk w3 b0 [.int .i64 h.fl, .int .i64 h.gp, .int .i64 h.ln, .int .i64 h.rf, .int .i64 h.sp, .int .i64 h.pu, .int .i64 h.br, .int .i64 h.dr, .int .i64 h.lv, .int .i64 h.dO, .int .i64 h.ld, .int .i64 h.qu]) := F0.out.below hb F0.out.lt; have F1 : Hid (Blk w3 b1 [.int .i64 c.pos, .int .i64 c.vel, .int .i64 c.door]) := F1.out.below hb F1.out.lt; have F2 : Hid (Blk w3 b2 [.int .i64 xp, .bool xb, .bool xo]) := F2.out.below hb F2.out.lt; have F3 : Hid (Blk w3 b3 [.int .i64 0, .int .i64 0, .int .i64 0, .int .i64 0, .int .i64 0, .int .i64 0, .int .i64 0]) := F3.out.below hb F3.out.lt; have F4 : Hid (Blk w3 b4 [.int .i64 g.pos, .int .i64 g.vel, .int .i64 g.door]) := F4.out.below hb F4.out.lt; have FB : Hid (Below w.heap.size w w3) := FB.out.trans (hb.mono FB.out.size); clear hb) | (refine store_blk [.int .i64 3, .int .i64 0, .int .i64 0, .int .i64 0, .int .i64 0, .int .i64 0, .int .i64 0] 40 _ _ (by kernel_rfl) (by kernel_rfl) (by kernel_rfl) F3.out rfl rfl rfl rfl ?_))
    exact bodyPost_ret (v := .agg #[.int .i64 3, .int .i64 0, .int .i64 0, .int .i64 0, .int .i64 0, .int .i64 0, .int .i64 0]) ((F3.out.row [.int .i64 3, .int .i64 0, .int .i64 0, .int .i64 0, .int .i64 0, .int .i64 0, .int .i64 0]).res _ Try.results43 Try.underlying40 (by kernel_rfl) rfl) rfl ⟨ret_bk (R := Bks.bad 3) ER.out, below_row FB.out leb3 _⟩
  case pos =>
  subst hz
  have ER : Hid ((⟨0, oneB (brkB c ⟨xp, xb, xo⟩) en, g⟩ : Bks) = R) := by have q := HR.out; rw [if_pos rfl] at q; exact q
  clear HR
  go_upto_region 4 with (first | (refine load_blk 27 _ Try.underlying27 (by kernel_rfl) F0.out rfl rfl rfl ?_) | (refine load_blk 34 _ Try.underlying34 (by kernel_rfl) F4.out rfl rfl rfl ?_) | (go_at_call 66; refine (CC _).mono ?_; rintro e w3 ⟨rfl, hb⟩; have F0 : Hid (Blk w3 b0 [.int .i64 h.fl, .int .i64 h.gp, .int .i64 h.ln, .int .i64 h.rf, .int .i64 h.sp, .int .i64 h.pu, .int .i64 h.br, .int .i64 h.dr, .int .i64 h.lv, .int .i64 h.dO, .int .i64 h.ld, .int .i64 h.qu]) := F0.out.below hb F0.out.lt; have F1 : Hid (Blk w3 b1 [.int .i64 c.pos, .int .i64 c.vel, .int .i64 c.door]) := F1.out.below hb F1.out.lt; have F2 : Hid (Blk w3 b2 [.int .i64 xp, .bool xb, .bool xo]) := F2.out.below hb F2.out.lt; have F3 : Hid (Blk w3 b3 [.int .i64 0, .int .i64 0, .int .i64 0, .int .i64 0, .int .i64 0, .int .i64 0, .int .i64 0]) := F3.out.below hb F3.out.lt; have F4 : Hid (Blk w3 b4 [.int .i64 g.pos, .int .i64 g.vel, .int .i64 g.door]) := F4.out.below hb F4.out.lt; have FB : Hid (Below w.heap.size w w3) := FB.out.trans (hb.mono FB.out.size); clear hb))
  go_cut [12] from 24 to 62 (fun v wx => v = .int .i64 en ∧ Blk wx b0 [.int .i64 h.fl, .int .i64 h.gp, .int .i64 h.ln, .int .i64 h.rf, .int .i64 h.sp, .int .i64 h.pu, .int .i64 h.br, .int .i64 h.dr, .int .i64 h.lv, .int .i64 h.dO, .int .i64 h.ld, .int .i64 h.qu] ∧ Blk wx b1 [.int .i64 c.pos, .int .i64 c.vel, .int .i64 c.door] ∧ Blk wx b2 [.int .i64 xp, .bool xb, .bool xo] ∧ Blk wx b3 [.int .i64 0, .int .i64 0, .int .i64 0, .int .i64 0, .int .i64 0, .int .i64 0, .int .i64 0] ∧ Blk wx b4 [.int .i64 g.pos, .int .i64 g.vel, .int .i64 g.door] ∧ Below w.heap.size w wx)
  case first =>
    have F0 : Hid (Blk w3.drew b0 [.int .i64 h.fl, .int .i64 h.gp, .int .i64 h.ln, .int .i64 h.rf, .int .i64 h.sp, .int .i64 h.pu, .int .i64 h.br, .int .i64 h.dr, .int .i64 h.lv, .int .i64 h.dO, .int .i64 h.ld, .int .i64 h.qu]) := F0.out.below (Below.refl _ _).drew F0.out.lt
    have F1 : Hid (Blk w3.drew b1 [.int .i64 c.pos, .int .i64 c.vel, .int .i64 c.door]) := F1.out.below (Below.refl _ _).drew F1.out.lt
    have F2 : Hid (Blk w3.drew b2 [.int .i64 xp, .bool xb, .bool xo]) := F2.out.below (Below.refl _ _).drew F2.out.lt
    have F3 : Hid (Blk w3.drew b3 [.int .i64 0, .int .i64 0, .int .i64 0, .int .i64 0, .int .i64 0, .int .i64 0, .int .i64 0]) := F3.out.below (Below.refl _ _).drew F3.out.lt
    have F4 : Hid (Blk w3.drew b4 [.int .i64 g.pos, .int .i64 g.vel, .int .i64 g.door]) := F4.out.below (Below.refl _ _).drew F4.out.lt
    have FB : Hid (Below w.heap.size w w3.drew) := FB.out.drew
    refine wp_region_held_drew (S := (fun w'' => Blk w'' b0 ([.int .i64 h.fl, .int .i64 h.gp, .int .i64 h.ln, .int .i64 h.rf, .int .i64 h.sp, .int .i64 h.pu, .int .i64 h.br, .int .i64 h.dr, .int .i64 h.lv, .int .i64 h.dO, .int .i64 h.ld, .int .i64 h.qu]) ∧ Blk w'' b1 ([.int .i64 c.pos, .int .i64 c.vel, .int .i64 c.door]) ∧ Blk w'' b4 ([.int .i64 g.pos, .int .i64 g.vel, .int .i64 g.door]))) (by kernel_rfl) (by (try dsimp only); first | exact ⟨F0.out, F1.out, F4.out⟩ | go_keep) (fun hHeld => ?_)
    obtain ⟨v_1, hw1⟩ : ∃ v_1, v_1 = w3.drew := ⟨_, rfl⟩
    have F0 : Hid (Blk v_1 b0 [.int .i64 h.fl, .int .i64 h.gp, .int .i64 h.ln, .int .i64 h.rf, .int .i64 h.sp, .int .i64 h.pu, .int .i64 h.br, .int .i64 h.dr, .int .i64 h.lv, .int .i64 h.dO, .int .i64 h.ld, .int .i64 h.qu]) := by rw [hw1]; exact F0.out
    have F1 : Hid (Blk v_1 b1 [.int .i64 c.pos, .int .i64 c.vel, .int .i64 c.door]) := by rw [hw1]; exact F1.out
    have F2 : Hid (Blk v_1 b2 [.int .i64 xp, .bool xb, .bool xo]) := by rw [hw1]; exact F2.out
    have F3 : Hid (Blk v_1 b3 [.int .i64 0, .int .i64 0, .int .i64 0, .int .i64 0, .int .i64 0, .int .i64 0, .int .i64 0]) := by rw [hw1]; exact F3.out
    have F4 : Hid (Blk v_1 b4 [.int .i64 g.pos, .int .i64 g.vel, .int .i64 g.door]) := by rw [hw1]; exact F4.out
    have FB : Hid (Below w.heap.size w v_1) := by rw [hw1]; exact FB.out
    rw [← hw1] at hHeld ⊢
    clear hw1
    refine tkz 0 rfl ?_ (hy := Or.inl ⟨by kernel_rfl, fun wx hSw => exec_load_blk 27 _ Try.underlying27 (by kernel_rfl) rfl rfl hSw.1⟩)
    refine tkz 1 rfl ?_ (hy := Or.inl ⟨by kernel_rfl, fun wx hSw => exec_load_blk 34 _ Try.underlying34 (by kernel_rfl) rfl rfl hSw.2.2⟩)
    refine tkz 2 rfl ?_
    refine tkz 4 rfl ?_ (hy := Or.inl ⟨by kernel_rfl, fun wx hSw => exec_load_blk 27 _ Try.underlying27 (by kernel_rfl) rfl rfl hSw.1⟩)
    refine tkz 5 rfl ?_ (hy := Or.inl ⟨by kernel_rfl, fun wx hSw => exec_load_blk 34 _ Try.underlying34 (by kernel_rfl) rfl rfl hSw.2.1⟩)
    refine tkz 6 rfl ?_
    refine wpAnyH_ready (rs := [3]) (by kernel_rfl) (by simp) ?_
    refine (AllReadyH.cons rfl (fun K hK => ?_) AllReadyH.nil)
    go_simp
    refine (C1 _).mono ?_
    rintro e v_2 ⟨rfl, hb⟩
    have F0 : Hid (Blk v_2 b0 [.int .i64 h.fl, .int .i64 h.gp, .int .i64 h.ln, .int .i64 h.rf, .int .i64 h.sp, .int .i64 h.pu, .int .i64 h.br, .int .i64 h.dr, .int .i64 h.lv, .int .i64 h.dO, .int .i64 h.ld, .int .i64 h.qu]) := F0.out.below hb F0.out.lt
    have F1 : Hid (Blk v_2 b1 [.int .i64 c.pos, .int .i64 c.vel, .int .i64 c.door]) := F1.out.below hb F1.out.lt
    have F2 : Hid (Blk v_2 b2 [.int .i64 xp, .bool xb, .bool xo]) := F2.out.below hb F2.out.lt
    have F3 : Hid (Blk v_2 b3 [.int .i64 0, .int .i64 0, .int .i64 0, .int .i64 0, .int .i64 0, .int .i64 0, .int .i64 0]) := F3.out.below hb F3.out.lt
    have F4 : Hid (Blk v_2 b4 [.int .i64 g.pos, .int .i64 g.vel, .int .i64 g.door]) := F4.out.below hb F4.out.lt
    have FB : Hid (Below w.heap.size w v_2) := FB.out.trans (hb.mono FB.out.size)
    clear hb
    try dsimp only
    refine hK.out _ _ (by (try dsimp only); first | exact ⟨F0.out, F1.out, F4.out⟩ | go_keep) (fun hHeld => ?_)
    clear hK K
    try simp only [Act.put, List.getElem_toArray, List.getElem_cons_succ, List.getElem_cons_zero, List.setIfInBounds_toArray, List.set_cons_zero, List.set_cons_succ]
    refine wpAnyH_ready (rs := [7]) (by kernel_rfl) (by simp) ?_
    refine (AllReadyH.cons rfl (fun K hK => ?_) AllReadyH.nil)
    go_simp
    refine (C2 _).mono ?_
    rintro e v_3 ⟨rfl, hb⟩
    have F0 : Hid (Blk v_3 b0 [.int .i64 h.fl, .int .i64 h.gp, .int .i64 h.ln, .int .i64 h.rf, .int .i64 h.sp, .int .i64 h.pu, .int .i64 h.br, .int .i64 h.dr, .int .i64 h.lv, .int .i64 h.dO, .int .i64 h.ld, .int .i64 h.qu]) := F0.out.below hb F0.out.lt
    have F1 : Hid (Blk v_3 b1 [.int .i64 c.pos, .int .i64 c.vel, .int .i64 c.door]) := F1.out.below hb F1.out.lt
    have F2 : Hid (Blk v_3 b2 [.int .i64 xp, .bool xb, .bool xo]) := F2.out.below hb F2.out.lt
    have F3 : Hid (Blk v_3 b3 [.int .i64 0, .int .i64 0, .int .i64 0, .int .i64 0, .int .i64 0, .int .i64 0, .int .i64 0]) := F3.out.below hb F3.out.lt
    have F4 : Hid (Blk v_3 b4 [.int .i64 g.pos, .int .i64 g.vel, .int .i64 g.door]) := F4.out.below hb F4.out.lt
    have FB : Hid (Below w.heap.size w v_3) := FB.out.trans (hb.mono FB.out.size)
    clear hb
    try dsimp only
    refine hK.out _ _ (by (try dsimp only); first | exact ⟨F0.out, F1.out, F4.out⟩ | go_keep) (fun hHeld => ?_)
    clear hK K
    try simp only [Act.put, List.getElem_toArray, List.getElem_cons_succ, List.getElem_cons_zero, List.setIfInBounds_toArray, List.set_cons_zero, List.set_cons_succ]
    refine tkz 8 rfl ?_
    refine tkz 9 rfl ?_
    refine wpAnyH_done (by kernel_rfl) ?_ _
    go_wp2_with fail
    go_meet
    case rel => exact ⟨by first | rfl | rw [hw1], F0.out, F1.out, F2.out, F3.out, F4.out, FB.out⟩
  case rest =>
  obtain ⟨rfl, h_F0, h_F1, h_F2, h_F3, h_F4, hB⟩ := hcut
  have F0 : Hid (Blk wc b0 [.int .i64 h.fl, .int .i64 h.gp, .int .i64 h.ln, .int .i64 h.rf, .int .i64 h.sp, .int .i64 h.pu, .int .i64 h.br, .int .i64 h.dr, .int .i64 h.lv, .int .i64 h.dO, .int .i64 h.ld, .int .i64 h.qu]) := h_F0
  have F1 : Hid (Blk wc b1 [.int .i64 c.pos, .int .i64 c.vel, .int .i64 c.door]) := h_F1
  have F2 : Hid (Blk wc b2 [.int .i64 xp, .bool xb, .bool xo]) := h_F2
  have F3 : Hid (Blk wc b3 [.int .i64 0, .int .i64 0, .int .i64 0, .int .i64 0, .int .i64 0, .int .i64 0, .int .i64 0]) := h_F3
  have F4 : Hid (Blk wc b4 [.int .i64 g.pos, .int .i64 g.vel, .int .i64 g.door]) := h_F4
  have FB : Hid (Below w.heap.size w wc) := hB
  clear h_F0 h_F1 h_F2 h_F3 h_F4 hB
  go_upto_region 7 with (first | (refine load_blk 34 _ Try.underlying34 (by kernel_rfl) F4.out rfl rfl rfl ?_) | (refine store_new [.int .i64 0, .int .i64 0, .int .i64 0, .int .i64 0, .int .i64 g.pos, .int .i64 g.vel, .int .i64 g.door] 40 _ _ (by kernel_rfl) (by kernel_rfl) (by kernel_rfl) rfl rfl rfl rfl ?_))
  have FB0 := FB
  obtain ⟨b5, hbb⟩ : ∃ b5, b5 = wc.heap.size := ⟨_, rfl⟩
  obtain ⟨w5, hw2⟩ : ∃ w5, w5 = wc.alloc (.cells #[.int .i64 0, .int .i64 0, .int .i64 0, .int .i64 0, .int .i64 g.pos, .int .i64 g.vel, .int .i64 g.door] 40) := ⟨_, rfl⟩
  have nb5b0 : b0 < b5 := by rw [hbb]; exact F0.out.lt
  have nb5b1 : b1 < b5 := by rw [hbb]; exact F1.out.lt
  have nb5b2 : b2 < b5 := by rw [hbb]; exact F2.out.lt
  have nb5b3 : b3 < b5 := by rw [hbb]; exact F3.out.lt
  have nb5b4 : b4 < b5 := by rw [hbb]; exact F4.out.lt
  have F0 : Hid (Blk w5 b0 [.int .i64 h.fl, .int .i64 h.gp, .int .i64 h.ln, .int .i64 h.rf, .int .i64 h.sp, .int .i64 h.pu, .int .i64 h.br, .int .i64 h.dr, .int .i64 h.lv, .int .i64 h.dO, .int .i64 h.ld, .int .i64 h.qu]) := by rw [hw2]; exact F0.out.alloc _
  have F1 : Hid (Blk w5 b1 [.int .i64 c.pos, .int .i64 c.vel, .int .i64 c.door]) := by rw [hw2]; exact F1.out.alloc _
  have F2 : Hid (Blk w5 b2 [.int .i64 xp, .bool xb, .bool xo]) := by rw [hw2]; exact F2.out.alloc _
  have F3 : Hid (Blk w5 b3 [.int .i64 0, .int .i64 0, .int .i64 0, .int .i64 0, .int .i64 0, .int .i64 0, .int .i64 0]) := by rw [hw2]; exact F3.out.alloc _
  have F4 : Hid (Blk w5 b4 [.int .i64 g.pos, .int .i64 g.vel, .int .i64 g.door]) := by rw [hw2]; exact F4.out.alloc _
  have F5 : Hid (Blk w5 b5 [.int .i64 0, .int .i64 0, .int .i64 0, .int .i64 0, .int .i64 g.pos, .int .i64 g.vel, .int .i64 g.door]) := by rw [hw2]; exact Blk.at_ wc #[.int .i64 0, .int .i64 0, .int .i64 0, .int .i64 0, .int .i64 g.pos, .int .i64 g.vel, .int .i64 g.door] _ _ hbb
  have FB : Hid (Below w.heap.size w w5) := by rw [hw2]; exact FB.out.alloc FB.out.size _
  have leb5 : w.heap.size ≤ b5 := by rw [hbb]; exact FB0.out.size
  rw [← hw2, ← hbb]
  clear hbb hw2 FB0
  obtain ⟨B, hB⟩ : ∃ B, ((xb || (xo && (c.vel != 0))) && decide (en < 0)) = B := ⟨_, rfl⟩
  have HB : Hid (((xb || (xo && (c.vel != 0))) && decide (en < 0)) = B) := hB
  clear hB
  simp only [Act.put]
  go_cut [38] from 39 to 62 (fun v wx => v = .bool B ∧ wx = w5)
  case first =>
    have q0 := F2.out.c 1 _ rfl
    have q1 := F2.out.c 2 _ rfl
    have q2 := F1.out.c 1 _ rfl
    have hB := HB.out
    clear HB ER
    by_cases en0 : en < 0
    · rw [show decide (en < 0) = true from decide_eq_true en0] at hB
      cases xb
      · cases xo
        · have e : false = B := by rw [← hB]; rfl
          subst e
          go_wp2_with fail
          go_meet
          case rel => exact ⟨rfl, rfl⟩
        · cases hv : (c.vel != 0)
          · have e : false = B := by rw [← hB, hv]; rfl
            subst e
            go_wp2_with fail
            go_meet
            case rel => exact ⟨rfl, rfl⟩
          · have e : true = B := by rw [← hB, hv]; rfl
            subst e
            go_wp2_with fail
            go_meet
            case rel => exact ⟨rfl, rfl⟩
      · have e : true = B := by rw [← hB]; rfl
        subst e
        go_wp2_with fail
        go_meet
        case rel => exact ⟨rfl, rfl⟩
    · rw [show decide (en < 0) = false from decide_eq_false en0, Bool.and_false] at hB
      subst hB
      cases xb
      · cases xo
        · go_wp2_with fail
          go_meet
          case rel => exact ⟨rfl, rfl⟩
        · cases hv : (c.vel != 0)
          · go_wp2_with fail
            go_meet
            case rel => exact ⟨rfl, rfl⟩
          · go_wp2_with fail
            go_meet
            case rel => exact ⟨rfl, rfl⟩
      · go_wp2_with fail
        go_meet
        case rel => exact ⟨rfl, rfl⟩
  case rest =>
  obtain ⟨rfl, hw_⟩ := hcut
  obtain rfl := hw_.symm
  clear hw_
  have HE : Hid ((if B = true then (⟨0, 0, -en⟩ : Bk) else if 0 < en then ⟨en, 0, 0⟩ else ⟨0, -en, 0⟩) = oneB (brkB c ⟨xp, xb, xo⟩) en) := by
    show _ = oneB (xb || (xo && (c.vel != 0))) en
    rw [← HB.out]
    unfold oneB
    cases (xb || (xo && (c.vel != 0))) <;> by_cases q : en < 0 <;> simp [q]
  clear HB
  obtain ⟨S, hS⟩ : ∃ S, oneB (brkB c ⟨xp, xb, xo⟩) en = S := ⟨_, rfl⟩
  rw [hS] at HE ER
  clear hS
  have k1 := F5.out.c 1 _ rfl; have kf1 := F5.out.f 1 (Nat.le_of_ble_eq_true rfl)
  have k2 := F5.out.c 2 _ rfl; have kf2 := F5.out.f 2 (Nat.le_of_ble_eq_true rfl)
  have k3 := F5.out.c 3 _ rfl; have kf3 := F5.out.f 3 (Nat.le_of_ble_eq_true rfl)
  cases B with
  | true =>
    have ES : Hid ((⟨0, 0, -en⟩ : Bk) = S) := by have q := HE.out; rw [if_pos rfl] at q; exact q
    go_upto_region 11 with fail
    clear k1 k2 k3 kf1 kf2 kf3
    obtain ⟨w6, hw2⟩ : ∃ w6, w6 = w5.setCell ⟨b5, 3, none⟩ (.int .i64 (-en)) := ⟨_, rfl⟩
    rw [← hw2]
    have F0 : Hid (Blk w6 b0 [.int .i64 h.fl, .int .i64 h.gp, .int .i64 h.ln, .int .i64 h.rf, .int .i64 h.sp, .int .i64 h.pu, .int .i64 h.br, .int .i64 h.dr, .int .i64 h.lv, .int .i64 h.dO, .int .i64 h.ld, .int .i64 h.qu]) := by rw [hw2]; exact Blk.putB_other (by omega) [.int .i64 (-en)] 3 F0.out
    have F1 : Hid (Blk w6 b1 [.int .i64 c.pos, .int .i64 c.vel, .int .i64 c.door]) := by rw [hw2]; exact Blk.putB_other (by omega) [.int .i64 (-en)] 3 F1.out
    have F2 : Hid (Blk w6 b2 [.int .i64 xp, .bool xb, .bool xo]) := by rw [hw2]; exact Blk.putB_other (by omega) [.int .i64 (-en)] 3 F2.out
    have F3 : Hid (Blk w6 b3 [.int .i64 0, .int .i64 0, .int .i64 0, .int .i64 0, .int .i64 0, .int .i64 0, .int .i64 0]) := by rw [hw2]; exact Blk.putB_other (by omega) [.int .i64 (-en)] 3 F3.out
    have F4 : Hid (Blk w6 b4 [.int .i64 g.pos, .int .i64 g.vel, .int .i64 g.door]) := by rw [hw2]; exact Blk.putB_other (by omega) [.int .i64 (-en)] 3 F4.out
    have F5 : Hid (Blk w6 b5 [.int .i64 0, .int .i64 0, .int .i64 0, .int .i64 (-en), .int .i64 g.pos, .int .i64 g.vel, .int .i64 g.door]) := by rw [hw2]; exact putB_set [.int .i64 (-en)] _ 3 w5 F5.out (Nat.le_of_ble_eq_true rfl)
    have FB : Hid (Below w.heap.size w w6) := by rw [hw2]; exact below_putB FB.out (by omega) [.int .i64 (-en)] 3
    clear hw2
    go_wp2_with (first | (refine load_blk 40 _ Try.underlying40 (by kernel_rfl) F5.out rfl rfl rfl ?_) | (refine store_blk [.int .i64 0, .int .i64 0, .int .i64 0, .int .i64 (-en), .int .i64 g.pos, .int .i64 g.vel, .int .i64 g.door] 40 _ _ (by kernel_rfl) (by kernel_rfl) (by kernel_rfl) F3.out rfl rfl rfl rfl ?_))
    exact bodyPost_ret (v := .agg #[.int .i64 0, .int .i64 0, .int .i64 0, .int .i64 (-en), .int .i64 g.pos, .int .i64 g.vel, .int .i64 g.door]) ((F3.out.row [.int .i64 0, .int .i64 0, .int .i64 0, .int .i64 (-en), .int .i64 g.pos, .int .i64 g.vel, .int .i64 g.door]).res _ Try.results43 Try.underlying40 (by kernel_rfl) rfl) rfl ⟨ret_bk (R := ⟨0, (⟨0, 0, -en⟩ : Bk), g⟩) (by rw [ES.out]; exact ER.out), below_row FB.out leb3 _⟩
  | false =>
    by_cases ep : 0 < en
    · skip
      have ES : Hid ((⟨en, 0, 0⟩ : Bk) = S) := by have q := HE.out; rw [if_neg (by decide), if_pos ep] at q; exact q
      go_upto_region 11 with fail
      clear k1 k2 k3 kf1 kf2 kf3
      obtain ⟨w6, hw2⟩ : ∃ w6, w6 = w5.setCell ⟨b5, 1, none⟩ (.int .i64 en) := ⟨_, rfl⟩
      rw [← hw2]
      have F0 : Hid (Blk w6 b0 [.int .i64 h.fl, .int .i64 h.gp, .int .i64 h.ln, .int .i64 h.rf, .int .i64 h.sp, .int .i64 h.pu, .int .i64 h.br, .int .i64 h.dr, .int .i64 h.lv, .int .i64 h.dO, .int .i64 h.ld, .int .i64 h.qu]) := by rw [hw2]; exact Blk.putB_other (by omega) [.int .i64 en] 1 F0.out
      have F1 : Hid (Blk w6 b1 [.int .i64 c.pos, .int .i64 c.vel, .int .i64 c.door]) := by rw [hw2]; exact Blk.putB_other (by omega) [.int .i64 en] 1 F1.out
      have F2 : Hid (Blk w6 b2 [.int .i64 xp, .bool xb, .bool xo]) := by rw [hw2]; exact Blk.putB_other (by omega) [.int .i64 en] 1 F2.out
      have F3 : Hid (Blk w6 b3 [.int .i64 0, .int .i64 0, .int .i64 0, .int .i64 0, .int .i64 0, .int .i64 0, .int .i64 0]) := by rw [hw2]; exact Blk.putB_other (by omega) [.int .i64 en] 1 F3.out
      have F4 : Hid (Blk w6 b4 [.int .i64 g.pos, .int .i64 g.vel, .int .i64 g.door]) := by rw [hw2]; exact Blk.putB_other (by omega) [.int .i64 en] 1 F4.out
      have F5 : Hid (Blk w6 b5 [.int .i64 0, .int .i64 en, .int .i64 0, .int .i64 0, .int .i64 g.pos, .int .i64 g.vel, .int .i64 g.door]) := by rw [hw2]; exact putB_set [.int .i64 en] _ 1 w5 F5.out (Nat.le_of_ble_eq_true rfl)
      have FB : Hid (Below w.heap.size w w6) := by rw [hw2]; exact below_putB FB.out (by omega) [.int .i64 en] 1
      clear hw2
      go_wp2_with (first | (refine load_blk 40 _ Try.underlying40 (by kernel_rfl) F5.out rfl rfl rfl ?_) | (refine store_blk [.int .i64 0, .int .i64 en, .int .i64 0, .int .i64 0, .int .i64 g.pos, .int .i64 g.vel, .int .i64 g.door] 40 _ _ (by kernel_rfl) (by kernel_rfl) (by kernel_rfl) F3.out rfl rfl rfl rfl ?_))
      exact bodyPost_ret (v := .agg #[.int .i64 0, .int .i64 en, .int .i64 0, .int .i64 0, .int .i64 g.pos, .int .i64 g.vel, .int .i64 g.door]) ((F3.out.row [.int .i64 0, .int .i64 en, .int .i64 0, .int .i64 0, .int .i64 g.pos, .int .i64 g.vel, .int .i64 g.door]).res _ Try.results43 Try.underlying40 (by kernel_rfl) rfl) rfl ⟨ret_bk (R := ⟨0, (⟨en, 0, 0⟩ : Bk), g⟩) (by rw [ES.out]; exact ER.out), below_row FB.out leb3 _⟩
    · skip
      have ES : Hid ((⟨0, -en, 0⟩ : Bk) = S) := by have q := HE.out; rw [if_neg (by decide), if_neg ep] at q; exact q
      go_upto_region 11 with fail
      clear k1 k2 k3 kf1 kf2 kf3
      obtain ⟨w6, hw2⟩ : ∃ w6, w6 = w5.setCell ⟨b5, 2, none⟩ (.int .i64 (-en)) := ⟨_, rfl⟩
      rw [← hw2]
      have F0 : Hid (Blk w6 b0 [.int .i64 h.fl, .int .i64 h.gp, .int .i64 h.ln, .int .i64 h.rf, .int .i64 h.sp, .int .i64 h.pu, .int .i64 h.br, .int .i64 h.dr, .int .i64 h.lv, .int .i64 h.dO, .int .i64 h.ld, .int .i64 h.qu]) := by rw [hw2]; exact Blk.putB_other (by omega) [.int .i64 (-en)] 2 F0.out
      have F1 : Hid (Blk w6 b1 [.int .i64 c.pos, .int .i64 c.vel, .int .i64 c.door]) := by rw [hw2]; exact Blk.putB_other (by omega) [.int .i64 (-en)] 2 F1.out
      have F2 : Hid (Blk w6 b2 [.int .i64 xp, .bool xb, .bool xo]) := by rw [hw2]; exact Blk.putB_other (by omega) [.int .i64 (-en)] 2 F2.out
      have F3 : Hid (Blk w6 b3 [.int .i64 0, .int .i64 0, .int .i64 0, .int .i64 0, .int .i64 0, .int .i64 0, .int .i64 0]) := by rw [hw2]; exact Blk.putB_other (by omega) [.int .i64 (-en)] 2 F3.out
      have F4 : Hid (Blk w6 b4 [.int .i64 g.pos, .int .i64 g.vel, .int .i64 g.door]) := by rw [hw2]; exact Blk.putB_other (by omega) [.int .i64 (-en)] 2 F4.out
      have F5 : Hid (Blk w6 b5 [.int .i64 0, .int .i64 0, .int .i64 (-en), .int .i64 0, .int .i64 g.pos, .int .i64 g.vel, .int .i64 g.door]) := by rw [hw2]; exact putB_set [.int .i64 (-en)] _ 2 w5 F5.out (Nat.le_of_ble_eq_true rfl)
      have FB : Hid (Below w.heap.size w w6) := by rw [hw2]; exact below_putB FB.out (by omega) [.int .i64 (-en)] 2
      clear hw2
      go_wp2_with (first | (refine load_blk 40 _ Try.underlying40 (by kernel_rfl) F5.out rfl rfl rfl ?_) | (refine store_blk [.int .i64 0, .int .i64 0, .int .i64 (-en), .int .i64 0, .int .i64 g.pos, .int .i64 g.vel, .int .i64 g.door] 40 _ _ (by kernel_rfl) (by kernel_rfl) (by kernel_rfl) F3.out rfl rfl rfl rfl ?_))
      exact bodyPost_ret (v := .agg #[.int .i64 0, .int .i64 0, .int .i64 (-en), .int .i64 0, .int .i64 g.pos, .int .i64 g.vel, .int .i64 g.door]) ((F3.out.row [.int .i64 0, .int .i64 0, .int .i64 (-en), .int .i64 0, .int .i64 g.pos, .int .i64 g.vel, .int .i64 g.door]).res _ Try.results43 Try.underlying40 (by kernel_rfl) rfl) rfl ⟨ret_bk (R := ⟨0, (⟨0, -en, 0⟩ : Bk), g⟩) (by rw [ES.out]; exact ER.out), below_row FB.out leb3 _⟩
set_option maxRecDepth 20000 in
set_option maxHeartbeats 16000000 in
theorem specBookStep_any (h : Hs) (c : Cs) (x : Cm) (d r : Int) (w : World) :
    Calls Try.prog 21 #[.agg #[.int .i64 h.fl, .int .i64 h.gp, .int .i64 h.ln, .int .i64 h.rf, .int .i64 h.sp, .int .i64 h.pu, .int .i64 h.br, .int .i64 h.dr, .int .i64 h.lv, .int .i64 h.dO, .int .i64 h.ld, .int .i64 h.qu], .agg #[.int .i64 c.pos, .int .i64 c.vel, .int .i64 c.door], .agg #[.int .i64 x.push, .bool x.brk, .bool x.opn], .int .i64 d, .int .i64 r] w (isBk w (Hs.bkA h c x d r)) := by
  obtain ⟨R, hR⟩ : ∃ R, Hs.bkA h c x d r = R := ⟨_, rfl⟩
  rw [hR]
  have HR : Hid (Hs.bkA h c x d r = R) := hR
  obtain ⟨ka, hka⟩ : ∃ ka, Hs.askK h c r = ka := ⟨_, rfl⟩
  have HA : Hid (Hs.askK h c r = ka) := hka
  obtain ⟨kx, hkx⟩ : ∃ kx, h.cmd x = kx := ⟨_, rfl⟩
  have HX : Hid (h.cmd x = kx) := hkx
  clear hR hka hkx
  obtain ⟨b0, hb0⟩ : ∃ b0, b0 = w.heap.size := ⟨_, rfl⟩
  obtain ⟨b1, hb1⟩ : ∃ b1, b1 = b0 + 1 := ⟨_, rfl⟩
  obtain ⟨b2, hb2⟩ : ∃ b2, b2 = b1 + 1 := ⟨_, rfl⟩
  obtain ⟨b3, hb3⟩ : ∃ b3, b3 = b2 + 1 := ⟨_, rfl⟩
  obtain ⟨W0, hW0⟩ : ∃ W0, W0 = (((w.alloc (.cells #[.int .i64 h.fl, .int .i64 h.gp, .int .i64 h.ln, .int .i64 h.rf, .int .i64 h.sp, .int .i64 h.pu, .int .i64 h.br, .int .i64 h.dr, .int .i64 h.lv, .int .i64 h.dO, .int .i64 h.ld, .int .i64 h.qu] 27)).alloc (.cells #[.int .i64 c.pos, .int .i64 c.vel, .int .i64 c.door] 34)).alloc (.cells #[.int .i64 x.push, .bool x.brk, .bool x.opn] 42)).alloc (.cells #[.int .i64 0, .int .i64 0, .int .i64 0, .int .i64 0, .int .i64 0, .int .i64 0, .int .i64 0] 40) := ⟨_, rfl⟩
  have F0 : Hid (Blk W0 b0 [.int .i64 h.fl, .int .i64 h.gp, .int .i64 h.ln, .int .i64 h.rf, .int .i64 h.sp, .int .i64 h.pu, .int .i64 h.br, .int .i64 h.dr, .int .i64 h.lv, .int .i64 h.dO, .int .i64 h.ld, .int .i64 h.qu]) := by rw [hW0]; exact ((((Blk.at_ _ #[.int .i64 h.fl, .int .i64 h.gp, .int .i64 h.ln, .int .i64 h.rf, .int .i64 h.sp, .int .i64 h.pu, .int .i64 h.br, .int .i64 h.dr, .int .i64 h.lv, .int .i64 h.dO, .int .i64 h.ld, .int .i64 h.qu] _ _ hb0).alloc _).alloc _).alloc _)
  have F1 : Hid (Blk W0 b1 [.int .i64 c.pos, .int .i64 c.vel, .int .i64 c.door]) := by rw [hW0]; exact (((Blk.at_ _ #[.int .i64 c.pos, .int .i64 c.vel, .int .i64 c.door] _ _ (by simp; omega)).alloc _).alloc _)
  have F2 : Hid (Blk W0 b2 [.int .i64 x.push, .bool x.brk, .bool x.opn]) := by rw [hW0]; exact ((Blk.at_ _ #[.int .i64 x.push, .bool x.brk, .bool x.opn] _ _ (by simp; omega)).alloc _)
  have F3 : Hid (Blk W0 b3 [.int .i64 0, .int .i64 0, .int .i64 0, .int .i64 0, .int .i64 0, .int .i64 0, .int .i64 0]) := by rw [hW0]; exact (Blk.at_ _ #[.int .i64 0, .int .i64 0, .int .i64 0, .int .i64 0, .int .i64 0, .int .i64 0, .int .i64 0] _ _ (by simp; omega))
  have FB : Hid (Below w.heap.size w W0) := by rw [hW0]; exact (((((Below.refl _ _).alloc (Nat.le_refl _) _).alloc (by simp) _).alloc (by simp; omega) _).alloc (by simp; omega) _)
  have leb0 : w.heap.size ≤ b0 := by omega
  have leb1 : w.heap.size ≤ b1 := by omega
  have leb2 : w.heap.size ≤ b2 := by omega
  have leb3 : w.heap.size ≤ b3 := by omega
  have l01 : b0 < b1 := by omega
  have l12 : b1 < b2 := by omega
  have l23 : b2 < b3 := by omega
  go_enter Try.func21, Try.ntmps21
  go_upto_region 1 with fail
  rw [← hb0, ← hb1, ← hb2, ← hb3, ← hW0]
  clear hb0 hb1 hb2 hb3 hW0
  go_upto_region 2 with (first | (refine load_blk 27 _ Try.underlying27 (by kernel_rfl) F0.out rfl rfl rfl ?_) | (refine load_blk 34 _ Try.underlying34 (by kernel_rfl) F1.out rfl rfl rfl ?_) | (go_at_call 34; refine (l13Asked_any h c r _).mono ?_; rw [HA.out]; rintro e w1 ⟨rfl, hb⟩; have F0 : Hid (Blk w1 b0 [.int .i64 h.fl, .int .i64 h.gp, .int .i64 h.ln, .int .i64 h.rf, .int .i64 h.sp, .int .i64 h.pu, .int .i64 h.br, .int .i64 h.dr, .int .i64 h.lv, .int .i64 h.dO, .int .i64 h.ld, .int .i64 h.qu]) := F0.out.below hb F0.out.lt; have F1 : Hid (Blk w1 b1 [.int .i64 c.pos, .int .i64 c.vel, .int .i64 c.door]) := F1.out.below hb F1.out.lt; have F2 : Hid (Blk w1 b2 [.int .i64 x.push, .bool x.brk, .bool x.opn]) := F2.out.below hb F2.out.lt; have F3 : Hid (Blk w1 b3 [.int .i64 0, .int .i64 0, .int .i64 0, .int .i64 0, .int .i64 0, .int .i64 0, .int .i64 0]) := F3.out.below hb F3.out.lt; have FB : Hid (Below w.heap.size w w1) := FB.out.trans (hb.mono FB.out.size); clear hb))
  by_cases hz : ka = 0
  case neg =>
    have hn : (ka != 0) = true := by simpa using hz
    have ER : Hid (Bks.bad ka = R) := by show _ = R; rw [← HR.out]; unfold Hs.bkA; rw [HA.out, if_neg hz]
    go_wp2_with (refine store_blk [.int .i64 ka, .int .i64 0, .int .i64 0, .int .i64 0, .int .i64 0, .int .i64 0, .int .i64 0] 40 _ _ (by kernel_rfl) (by kernel_rfl) (by kernel_rfl) F3.out rfl rfl rfl rfl ?_)
    exact bodyPost_ret (v := .agg #[.int .i64 ka, .int .i64 0, .int .i64 0, .int .i64 0, .int .i64 0, .int .i64 0, .int .i64 0]) ((F3.out.row [.int .i64 ka, .int .i64 0, .int .i64 0, .int .i64 0, .int .i64 0, .int .i64 0, .int .i64 0]).res _ Try.results21 Try.underlying40 (by kernel_rfl) rfl) rfl ⟨ret_bk (R := Bks.bad ka) ER.out, below_row FB.out leb3 _⟩
  case pos =>
  subst hz
  go_upto_region 5 with (first | (refine load_blk 27 _ Try.underlying27 (by kernel_rfl) F0.out rfl rfl rfl ?_) | (refine load_blk 42 _ Try.underlying42 (by kernel_rfl) F2.out rfl rfl rfl ?_) | (go_at_call 42; refine (specCommandFault_any h x _).mono ?_; rw [HX.out]; rintro e w2 ⟨rfl, hb⟩; have F0 : Hid (Blk w2 b0 [.int .i64 h.fl, .int .i64 h.gp, .int .i64 h.ln, .int .i64 h.rf, .int .i64 h.sp, .int .i64 h.pu, .int .i64 h.br, .int .i64 h.dr, .int .i64 h.lv, .int .i64 h.dO, .int .i64 h.ld, .int .i64 h.qu]) := F0.out.below hb F0.out.lt; have F1 : Hid (Blk w2 b1 [.int .i64 c.pos, .int .i64 c.vel, .int .i64 c.door]) := F1.out.below hb F1.out.lt; have F2 : Hid (Blk w2 b2 [.int .i64 x.push, .bool x.brk, .bool x.opn]) := F2.out.below hb F2.out.lt; have F3 : Hid (Blk w2 b3 [.int .i64 0, .int .i64 0, .int .i64 0, .int .i64 0, .int .i64 0, .int .i64 0, .int .i64 0]) := F3.out.below hb F3.out.lt; have FB : Hid (Below w.heap.size w w2) := FB.out.trans (hb.mono FB.out.size); clear hb))
  by_cases hz : kx = 0
  case neg =>
    have hn : (kx != 0) = true := by simpa using hz
    have ER : Hid (Bks.bad kx = R) := by show _ = R; rw [← HR.out]; unfold Hs.bkA; rw [HA.out, if_pos rfl, HX.out, if_neg hz]
    go_wp2_with (refine store_blk [.int .i64 kx, .int .i64 0, .int .i64 0, .int .i64 0, .int .i64 0, .int .i64 0, .int .i64 0] 40 _ _ (by kernel_rfl) (by kernel_rfl) (by kernel_rfl) F3.out rfl rfl rfl rfl ?_)
    exact bodyPost_ret (v := .agg #[.int .i64 kx, .int .i64 0, .int .i64 0, .int .i64 0, .int .i64 0, .int .i64 0, .int .i64 0]) ((F3.out.row [.int .i64 kx, .int .i64 0, .int .i64 0, .int .i64 0, .int .i64 0, .int .i64 0, .int .i64 0]).res _ Try.results21 Try.underlying40 (by kernel_rfl) rfl) rfl ⟨ret_bk (R := Bks.bad kx) ER.out, below_row FB.out leb3 _⟩
  case pos =>
  subst hz
  have c7 := F0.out.c 7 _ rfl
  have az := Hs.ask_zero HA.out
  have k := Hs.car_zero az.1
  have o := k.ok
  have q1 := o.dr1; have q2 := o.dr2; have q3 := o.pu2; have q4 := o.sp2
  cases hd : inB d (-h.dr) h.dr with
  | false =>
    have ER : Hid (Bks.bad 3 = R) := by show _ = R; rw [← HR.out]; unfold Hs.bkA; rw [HA.out, if_pos rfl, HX.out, if_pos rfl, hd]; rfl
    clear az k o
    go_wp2_with (first | (go_at_call 30; refine (l1In_any _ _ _ _).mono ?_; rw [hd]; rintro e w' ⟨rfl, hw⟩; obtain rfl := hw.symm; clear hw) | (refine store_blk [.int .i64 3, .int .i64 0, .int .i64 0, .int .i64 0, .int .i64 0, .int .i64 0, .int .i64 0] 40 _ _ (by kernel_rfl) (by kernel_rfl) (by kernel_rfl) F3.out rfl rfl rfl rfl ?_))
    exact bodyPost_ret (v := .agg #[.int .i64 3, .int .i64 0, .int .i64 0, .int .i64 0, .int .i64 0, .int .i64 0, .int .i64 0]) ((F3.out.row [.int .i64 3, .int .i64 0, .int .i64 0, .int .i64 0, .int .i64 0, .int .i64 0, .int .i64 0]).res _ Try.results21 Try.underlying40 (by kernel_rfl) rfl) rfl ⟨ret_bk (R := Bks.bad 3) ER.out, below_row FB.out leb3 _⟩
  | true =>
    have ER : Hid (Hs.bkT h c x d r = R) := by show _ = R; rw [← HR.out]; unfold Hs.bkA; rw [HA.out, if_pos rfl, HX.out, if_pos rfl, hd]; rfl
    have HK : Hid (CarOk h c) := k
    have HP : Hid (-h.pu ≤ x.push ∧ x.push ≤ h.pu) := cmd_push k.hf HX.out
    have HD : Hid (-h.dr ≤ d ∧ d ≤ h.dr) := inB_iff.1 hd
    have HQ : Hid (0 ≤ r ∧ r ≤ h.ld) := az.2
    clear az k o
    go_wp2_with (first | (go_at_call 30; refine (l1In_any _ _ _ _).mono ?_; rw [hd]; rintro e w' ⟨rfl, hw⟩; obtain rfl := hw.symm; clear hw) | (refine load_blk 27 _ Try.underlying27 (by kernel_rfl) F0.out rfl rfl rfl ?_) | (refine load_blk 34 _ Try.underlying34 (by kernel_rfl) F1.out rfl rfl rfl ?_) | (refine load_blk 42 _ Try.underlying42 (by kernel_rfl) F2.out rfl rfl rfl ?_) | (go_at_call 43; refine (l13Step_any h c x d r HK.out HP.out.1 HP.out.2 HD.out.1 HD.out.2 HQ.out.1 HQ.out.2 R ER.out _).mono ?_; rintro e w3 ⟨rfl, hb⟩; have F0 : Hid (Blk w3 b0 [.int .i64 h.fl, .int .i64 h.gp, .int .i64 h.ln, .int .i64 h.rf, .int .i64 h.sp, .int .i64 h.pu, .int .i64 h.br, .int .i64 h.dr, .int .i64 h.lv, .int .i64 h.dO, .int .i64 h.ld, .int .i64 h.qu]) := F0.out.below hb F0.out.lt; have F1 : Hid (Blk w3 b1 [.int .i64 c.pos, .int .i64 c.vel, .int .i64 c.door]) := F1.out.below hb F1.out.lt; have F2 : Hid (Blk w3 b2 [.int .i64 x.push, .bool x.brk, .bool x.opn]) := F2.out.below hb F2.out.lt; have F3 : Hid (Blk w3 b3 [.int .i64 0, .int .i64 0, .int .i64 0, .int .i64 0, .int .i64 0, .int .i64 0, .int .i64 0]) := F3.out.below hb F3.out.lt; have FB : Hid (Below w.heap.size w w3) := FB.out.trans (hb.mono FB.out.size); clear hb) | (refine store_blk [.int .i64 R.k, .int .i64 R.b.i, .int .i64 R.b.o, .int .i64 R.b.l, .int .i64 R.c.pos, .int .i64 R.c.vel, .int .i64 R.c.door] 40 _ _ (by kernel_rfl) (by kernel_rfl) (by kernel_rfl) F3.out rfl rfl rfl rfl ?_))
    exact bodyPost_ret (v := .agg #[.int .i64 R.k, .int .i64 R.b.i, .int .i64 R.b.o, .int .i64 R.b.l, .int .i64 R.c.pos, .int .i64 R.c.vel, .int .i64 R.c.door]) ((F3.out.row [.int .i64 R.k, .int .i64 R.b.i, .int .i64 R.b.o, .int .i64 R.b.l, .int .i64 R.c.pos, .int .i64 R.c.vel, .int .i64 R.c.door]).res _ Try.results21 Try.underlying40 (by kernel_rfl) rfl) rfl ⟨rfl, below_row FB.out leb3 _⟩
end Go.Proofs.Ytngdfckknkgdgaa
