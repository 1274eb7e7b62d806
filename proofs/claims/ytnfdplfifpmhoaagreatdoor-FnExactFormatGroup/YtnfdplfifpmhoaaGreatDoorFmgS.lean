/-
  A group's text: the model.
-/
import Derived.Test.YtnfdplfifpmhoaaGreatDoorFmtA
import Derived.Test.YtnfdplfifpmhoaaGreatDoorGfS
import Derived.Deep.MidRow
import Derived.Laws.Concat
import Derived.BigGuardPart
import Derived.Deep.DeepCutAuto
namespace Go.Proofs.YtnfdplfifpmhoaaGreatDoor
open Go.RowKit Pl
set_option linter.unusedSimpArgs false
set_option linter.unusedVariables false

set_option maxRecDepth 20000 in
set_option maxHeartbeats 16000000 in
theorem l9Car_any (n : ByteArray) (c : Cs) (x : Sp) (hn : n.size ≤ 10) (hi : ∀ m ∈ carNs c x, i64N m) (w : World) :
    Calls Tryz.prog 13 #[.string n, .agg #[.int .i64 c.pos, .int .i64 c.vel, .int .i64 c.door], .agg #[.int .i64 x.lo, .int .i64 x.hi]] w fun e w' => e = .returned (.string (carLn n c x)) ∧ Below w.heap.size w w' := by
  obtain ⟨W0, hW0⟩ : ∃ W0, W0 = (w.alloc (.cells #[.int .i64 c.pos, .int .i64 c.vel, .int .i64 c.door] 47)).alloc (.cells #[.int .i64 x.lo, .int .i64 x.hi] 51) := ⟨_, rfl⟩
  have F0 : Hid (Blk W0 w.heap.size [.int .i64 c.pos, .int .i64 c.vel, .int .i64 c.door]) := by rw [hW0]; exact (Blk.at_ w #[.int .i64 c.pos, .int .i64 c.vel, .int .i64 c.door] _ _ rfl).alloc _
  have F1 : Hid (Blk W0 (w.heap.size + 1) [.int .i64 x.lo, .int .i64 x.hi]) := by rw [hW0]; exact Blk.at_ _ #[.int .i64 x.lo, .int .i64 x.hi] _ _ (by simp)
  have FB : Hid (Below w.heap.size w W0) := by rw [hW0]; exact ((Below.refl _ _).alloc (Nat.le_refl _) _).alloc (by simp) _
  have HW0 : Hid (W0 = (w.alloc (.cells #[.int .i64 c.pos, .int .i64 c.vel, .int .i64 c.door] 47)).alloc (.cells #[.int .i64 x.lo, .int .i64 x.hi] 51)) := hW0
  clear hW0
  have z := (carLn_size hn hi).1
  have s1 : ¬ (9223372036854775807 < (phr n (carNs c x)).size + 1) := by omega
  go_enter Tryz.func13, Tryz.ntmps13
  go_upto_region 1 with fail
  rw [← HW0.out]
  clear HW0
  have c0 := F0.out.c 0 _ rfl
  have c1 := F0.out.c 1 _ rfl
  have c2 := F0.out.c 2 _ rfl
  have e0 := F1.out.c 0 _ rfl
  have e1 := F1.out.c 1 _ rfl
  go_wp2_with (go_at_call 12; refine (l9Line_any n (carNs c x) W0.heap.size 5 (Nat.le_of_ble_eq_true rfl) (by omega) hi _ (NIn.new W0 (carNs c x) _)).mono ?_; rintro e w3 ⟨rfl, hb⟩; have hb2 : Below W0.heap.size W0 w3 := ((Below.refl _ W0).alloc (Nat.le_refl _) _).trans (hb.mono (by simp)); have FB : Hid (Below w.heap.size w w3) := FB.out.trans (hb2.mono FB.out.size); clear hb hb2)
  go_ret
  exact ⟨rfl, FB.out⟩
set_option maxRecDepth 20000 in
set_option maxHeartbeats 32000000 in
theorem specFormatGroup_any (h : Hs) (ds : List Dk) (da : Option Addr) (dc : Nat) (nx : Int) (ps : List Pe) (pa : Option Addr) (pc : Nat) (tk : Int) (rc : Bool) (hld : ds.length ≤ 1048576) (hlp : ps.length ≤ 1048576) (w : World) (hD : DIn w w.heap.size da ds) (hP : PIn w w.heap.size pa ps) :
    Calls Tryz.prog 5 #[.agg #[.int .i64 h.fl, .int .i64 h.gp, .int .i64 h.ln, .int .i64 h.rf, .int .i64 h.sp, .int .i64 h.pu, .int .i64 h.br, .int .i64 h.dr, .int .i64 h.lv, .int .i64 h.dO, .int .i64 h.ld, .int .i64 h.qu, .slice da ds.length dc, .int .i64 nx, .slice pa ps.length pc, .int .i64 tk, .bool rc]] w fun r w' => r = .returned (.string (Gr.fmt ⟨h, ds, ⟨nx, ps⟩, tk, rc⟩)) ∧ Below w.heap.size w w' := by
  have HD : Hid (DIn w w.heap.size da ds) := hD
  have HP : Hid (PIn w w.heap.size pa ps) := hP
  obtain ⟨W0, hW0⟩ : ∃ W0, W0 = w.alloc (.cells #[.int .i64 h.fl, .int .i64 h.gp, .int .i64 h.ln, .int .i64 h.rf, .int .i64 h.sp, .int .i64 h.pu, .int .i64 h.br, .int .i64 h.dr, .int .i64 h.lv, .int .i64 h.dO, .int .i64 h.ld, .int .i64 h.qu, .slice da ds.length dc, .int .i64 nx, .slice pa ps.length pc, .int .i64 tk, .bool rc] 38) := ⟨_, rfl⟩
  have F0 : Hid (Blk W0 w.heap.size [.int .i64 h.fl, .int .i64 h.gp, .int .i64 h.ln, .int .i64 h.rf, .int .i64 h.sp, .int .i64 h.pu, .int .i64 h.br, .int .i64 h.dr, .int .i64 h.lv, .int .i64 h.dO, .int .i64 h.ld, .int .i64 h.qu, .slice da ds.length dc, .int .i64 nx, .slice pa ps.length pc, .int .i64 tk, .bool rc]) := by rw [hW0]; exact Blk.at_ w #[.int .i64 h.fl, .int .i64 h.gp, .int .i64 h.ln, .int .i64 h.rf, .int .i64 h.sp, .int .i64 h.pu, .int .i64 h.br, .int .i64 h.dr, .int .i64 h.lv, .int .i64 h.dO, .int .i64 h.ld, .int .i64 h.qu, .slice da ds.length dc, .int .i64 nx, .slice pa ps.length pc, .int .i64 tk, .bool rc] _ _ rfl
  have FB : Hid (Below w.heap.size w W0) := by rw [hW0]; exact (Below.refl _ _).alloc (Nat.le_refl _) _
  have HW0 : Hid (W0 = w.alloc (.cells #[.int .i64 h.fl, .int .i64 h.gp, .int .i64 h.ln, .int .i64 h.rf, .int .i64 h.sp, .int .i64 h.pu, .int .i64 h.br, .int .i64 h.dr, .int .i64 h.lv, .int .i64 h.dO, .int .i64 h.ld, .int .i64 h.qu, .slice da ds.length dc, .int .i64 nx, .slice pa ps.length pc, .int .i64 tk, .bool rc] 38)) := hW0
  clear hW0 hD hP
  unfold Gr.fmt
  by_cases hk : Gr.fault ⟨h, ds, ⟨nx, ps⟩, tk, rc⟩ = 0
  case neg =>
    rw [if_neg hk]
    obtain ⟨kf, hkf⟩ : ∃ kf, Gr.fault ⟨h, ds, ⟨nx, ps⟩, tk, rc⟩ = kf := ⟨_, rfl⟩
    have hn : (kf != 0) = true := by rw [← hkf]; simpa using hk
    have HKF : Hid (Gr.fault ⟨h, ds, ⟨nx, ps⟩, tk, rc⟩ = kf) := hkf
    clear hk hkf
    go_enter Tryz.func5, Tryz.ntmps5
    go_upto_region 1 with fail
    rw [← HW0.out]
    go_wp2_with (first | (refine load_blk 38 _ Tryz.underlying38 (by kernel_rfl) F0.out rfl rfl rfl ?_) | (go_at_call 11; refine (specGroupFault_any h ds da dc nx ps pa pc tk rc hld hlp _ ((HD.out.below FB.out (Nat.le_refl _)).mono FB.out.size) ((HP.out.below FB.out (Nat.le_refl _)).mono FB.out.size)).mono ?_; rw [HKF.out]; rintro r w1 ⟨rfl, hb⟩; have F0 : Hid (Blk w1 w.heap.size [.int .i64 h.fl, .int .i64 h.gp, .int .i64 h.ln, .int .i64 h.rf, .int .i64 h.sp, .int .i64 h.pu, .int .i64 h.br, .int .i64 h.dr, .int .i64 h.lv, .int .i64 h.dO, .int .i64 h.ld, .int .i64 h.qu, .slice da ds.length dc, .int .i64 nx, .slice pa ps.length pc, .int .i64 tk, .bool rc]) := F0.out.below hb F0.out.lt; have FB : Hid (Below w.heap.size w w1) := FB.out.trans (hb.mono FB.out.size); clear hb))
    go_ret
    exact ⟨rfl, FB.out⟩
  rw [if_pos hk]
  have gI := grI_of hk
  have HG : Hid (GrI h ds ps tk rc) := gI
  have HK : Hid (Gr.fault ⟨h, ds, ⟨nx, ps⟩, tk, rc⟩ = 0) := hk
  clear gI hk
  unfold grTx
  dsimp only
  go_enter Tryz.func5, Tryz.ntmps5
  go_upto_region 1 with fail
  rw [← HW0.out]
  clear HW0
  go_upto_region 4 with (first | (refine load_blk 38 _ Tryz.underlying38 (by kernel_rfl) F0.out rfl rfl rfl ?_) | (go_at_call 11; refine (specGroupFault_any h ds da dc nx ps pa pc tk rc hld hlp _ ((HD.out.below FB.out (Nat.le_refl _)).mono FB.out.size) ((HP.out.below FB.out (Nat.le_refl _)).mono FB.out.size)).mono ?_; rw [HK.out]; rintro r w1 ⟨rfl, hb⟩; have F0 : Hid (Blk w1 w.heap.size [.int .i64 h.fl, .int .i64 h.gp, .int .i64 h.ln, .int .i64 h.rf, .int .i64 h.sp, .int .i64 h.pu, .int .i64 h.br, .int .i64 h.dr, .int .i64 h.lv, .int .i64 h.dO, .int .i64 h.ld, .int .i64 h.qu, .slice da ds.length dc, .int .i64 nx, .slice pa ps.length pc, .int .i64 tk, .bool rc]) := F0.out.below hb F0.out.lt; have FB : Hid (Below w.heap.size w w1) := FB.out.trans (hb.mono FB.out.size); clear hb))
  obtain ⟨hz, hs1, hs2⟩ := headLn_size (rc := rc) HG.out.t
  obtain ⟨bz, hbz⟩ : ∃ bz : Int, (if rc = true then (1 : Int) else 0) = bz := ⟨_, rfl⟩
  rw [hbz] at hz hs1
  have HHL : Hid (headLn tk rc = phr wTick [tk, bz] ++ ⟨#[10]⟩) := by show headLn tk rc = _; unfold headLn; rw [hbz]
  have HBZ : Hid ((if rc = true then (1 : Int) else 0) = bz) := hbz
  have sh1 : ¬ (9223372036854775807 < (phr wTick [tk, bz]).size + 1) := by omega
  have hz2 : wTick.size ≤ 100000 := by decide
  clear hbz
  have x16 := F0.out.c 16 _ rfl
  go_upto_if 13 with fail
  go_cut [3] from 12 to 14 (fun v wx => v = .int .i64 bz ∧ Blk wx w.heap.size [.int .i64 h.fl, .int .i64 h.gp, .int .i64 h.ln, .int .i64 h.rf, .int .i64 h.sp, .int .i64 h.pu, .int .i64 h.br, .int .i64 h.dr, .int .i64 h.lv, .int .i64 h.dO, .int .i64 h.ld, .int .i64 h.qu, .slice da ds.length dc, .int .i64 nx, .slice pa ps.length pc, .int .i64 tk, .bool rc] ∧ Below w.heap.size w wx)
  case first =>
    go_wp2_with fail
    all_goals (go_meet; exact ⟨by rw [← HBZ.out]; simp [*], F0.out, FB.out⟩)
  case rest =>
  obtain ⟨rfl, h0, hB⟩ := hcut
  clear F0 FB x16
  have F0 : Hid (Blk wc w.heap.size [.int .i64 h.fl, .int .i64 h.gp, .int .i64 h.ln, .int .i64 h.rf, .int .i64 h.sp, .int .i64 h.pu, .int .i64 h.br, .int .i64 h.dr, .int .i64 h.lv, .int .i64 h.dO, .int .i64 h.ld, .int .i64 h.qu, .slice da ds.length dc, .int .i64 nx, .slice pa ps.length pc, .int .i64 tk, .bool rc]) := h0
  have FB : Hid (Below w.heap.size w wc) := hB
  clear h0 hB
  have x15 := F0.out.c 15 _ rfl
  go_wp2_with (go_at_call 12; refine (l9Line_any wTick [tk, bz] wc.heap.size 2 (Nat.le_of_ble_eq_true rfl) hz2 hz _ (NIn.new wc [tk, bz] _)).mono ?_; rintro r w4 ⟨rfl, hb⟩; have hb2 : Below wc.heap.size wc w4 := ((Below.refl _ wc).alloc (Nat.le_refl _) _).trans (hb.mono (by simp)); have F0 : Hid (Blk w4 w.heap.size [.int .i64 h.fl, .int .i64 h.gp, .int .i64 h.ln, .int .i64 h.rf, .int .i64 h.sp, .int .i64 h.pu, .int .i64 h.br, .int .i64 h.dr, .int .i64 h.lv, .int .i64 h.dO, .int .i64 h.ld, .int .i64 h.qu, .slice da ds.length dc, .int .i64 nx, .slice pa ps.length pc, .int .i64 tk, .bool rc]) := F0.out.below hb2 F0.out.lt; have FB : Hid (Below w.heap.size w w4) := FB.out.trans (hb2.mono FB.out.size); clear hb hb2)
  clear x15 hz hs1 hs2 sh1 hz2 HBZ
  go_loopw [4, 5] (fun ss ii wr => ∃ (i : Nat) (u : ByteArray), ii = .int .i64 (i : Int) ∧ ss = .string u ∧ u = dksTx (headLn tk rc) (ds.take i) ∧ i ≤ ds.length ∧ Blk wr w.heap.size [.int .i64 h.fl, .int .i64 h.gp, .int .i64 h.ln, .int .i64 h.rf, .int .i64 h.sp, .int .i64 h.pu, .int .i64 h.br, .int .i64 h.dr, .int .i64 h.lv, .int .i64 h.dO, .int .i64 h.ld, .int .i64 h.qu, .slice da ds.length dc, .int .i64 nx, .slice pa ps.length pc, .int .i64 tk, .bool rc] ∧ Below w.heap.size w wr) (fun _ ii _ => ds.length - (intOf ii).toNat)
  case atStart => exact ⟨0, _, rfl, rfl, HHL.out.symm, by omega, F0.out, FB.out⟩
  case round =>
    obtain ⟨i, u, rfl, rfl, hu, hin, h0, hB⟩ := hrel
    clear F0 FB
    have F0 : Hid (Blk wr w.heap.size [.int .i64 h.fl, .int .i64 h.gp, .int .i64 h.ln, .int .i64 h.rf, .int .i64 h.sp, .int .i64 h.pu, .int .i64 h.br, .int .i64 h.dr, .int .i64 h.lv, .int .i64 h.dO, .int .i64 h.ld, .int .i64 h.qu, .slice da ds.length dc, .int .i64 nx, .slice pa ps.length pc, .int .i64 tk, .bool rc]) := h0
    have FB : Hid (Below w.heap.size w wr) := hB
    have us := HG.out.dsz i
    rw [← hu] at us
    have HU : Hid (u = dksTx (headLn tk rc) (ds.take i)) := hu
    clear hu h0 hB
    have x12 := F0.out.c 12 _ rfl
    by_cases hlt : i < ds.length
    · obtain ⟨d, hd⟩ : ∃ d, ds[i]? = some d := ⟨_, List.getElem?_eq_getElem hlt⟩
      have dI := HG.out.d d (List.mem_of_getElem? hd)
      have z1 := carLn_size (n := wLow) (by decide) dI.lo
      have z2 := carLn_size (n := wUp) (by decide) dI.up
      have HU2 : Hid (dksTx (headLn tk rc) (ds.take (i + 1)) = (u ++ carLn wLow d.sh.lo d.sp.l) ++ carLn wUp d.sh.up d.sp.u) := by rw [dksTx_snoc hd, HU.out]; exact rfl
      have hil : (i : Int) < (ds.length : Int) := by omega
      rcases HD.out with h0 | ⟨b, o, ha, hbl, h13⟩
      · rw [h0] at hlt; simp at hlt
      subst ha
      obtain ⟨c0, c1, c2, c3, c4, c5, c6, c7, c8, c9, c10, c11, c12⟩ := (h13 i d hd).below FB.out hbl
      have s1 : ¬ (9223372036854775807 < u.size + (carLn wLow d.sh.lo d.sp.l).size) := by omega
      have s2 : ¬ (9223372036854775807 < u.size + (carLn wLow d.sh.lo d.sp.l).size + (carLn wUp d.sh.up d.sp.u).size) := by omega
      have HDI : Hid (DkI d) := dI
      clear hd h13 us z1 z2 HU dI
      go_upto_region 11 with (refine store_new [.int .i64 d.sh.lo.pos, .int .i64 d.sh.lo.vel, .int .i64 d.sh.lo.door, .int .i64 d.sh.up.pos, .int .i64 d.sh.up.vel, .int .i64 d.sh.up.door, .int .i64 d.sp.l.lo, .int .i64 d.sp.l.hi, .int .i64 d.sp.u.lo, .int .i64 d.sp.u.hi, .int .i64 d.pl, .int .i64 d.pu, .bool d.hd] 55 _ _ (by kernel_rfl) (by kernel_rfl) (by kernel_rfl) rfl rfl rfl rfl ?_)
      have FB0 := FB
      obtain ⟨b7, hbb⟩ : ∃ b7, b7 = wr.heap.size := ⟨_, rfl⟩
      obtain ⟨wp, hw2⟩ : ∃ wp, wp = wr.alloc (.cells #[.int .i64 d.sh.lo.pos, .int .i64 d.sh.lo.vel, .int .i64 d.sh.lo.door, .int .i64 d.sh.up.pos, .int .i64 d.sh.up.vel, .int .i64 d.sh.up.door, .int .i64 d.sp.l.lo, .int .i64 d.sp.l.hi, .int .i64 d.sp.u.lo, .int .i64 d.sp.u.hi, .int .i64 d.pl, .int .i64 d.pu, .bool d.hd] 55) := ⟨_, rfl⟩
      have nb7w.heap.size : w.heap.size < b7 := by rw [hbb]; exact F0.out.lt
      have F0 : Hid (Blk wp w.heap.size [.int .i64 h.fl, .int .i64 h.gp, .int .i64 h.ln, .int .i64 h.rf, .int .i64 h.sp, .int .i64 h.pu, .int .i64 h.br, .int .i64 h.dr, .int .i64 h.lv, .int .i64 h.dO, .int .i64 h.ld, .int .i64 h.qu, .slice (some ⟨b, o, none⟩) ds.length dc, .int .i64 nx, .slice pa ps.length pc, .int .i64 tk, .bool rc]) := by rw [hw2]; exact F0.out.alloc _
      have F7 : Hid (Blk wp b7 [.int .i64 d.sh.lo.pos, .int .i64 d.sh.lo.vel, .int .i64 d.sh.lo.door, .int .i64 d.sh.up.pos, .int .i64 d.sh.up.vel, .int .i64 d.sh.up.door, .int .i64 d.sp.l.lo, .int .i64 d.sp.l.hi, .int .i64 d.sp.u.lo, .int .i64 d.sp.u.hi, .int .i64 d.pl, .int .i64 d.pu, .bool d.hd]) := by rw [hw2]; exact Blk.at_ wr #[.int .i64 d.sh.lo.pos, .int .i64 d.sh.lo.vel, .int .i64 d.sh.lo.door, .int .i64 d.sh.up.pos, .int .i64 d.sh.up.vel, .int .i64 d.sh.up.door, .int .i64 d.sp.l.lo, .int .i64 d.sp.l.hi, .int .i64 d.sp.u.lo, .int .i64 d.sp.u.hi, .int .i64 d.pl, .int .i64 d.pu, .bool d.hd] _ _ hbb
      have FB : Hid (Below w.heap.size w wp) := by rw [hw2]; exact FB.out.alloc FB.out.size _
      have leb7 : w.heap.size ≤ b7 := by rw [hbb]; exact FB0.out.size
      (try simp only [Act.put])
      rw [← hw2, ← hbb]
      clear hbb hw2 FB0
      clear c0 c1 c2 c3 c4 c5 c6 c7 c8 c9 c10 c11 c12 x12
      have F7 : Hid (Blk wp.drew b7 [.int .i64 d.sh.lo.pos, .int .i64 d.sh.lo.vel, .int .i64 d.sh.lo.door, .int .i64 d.sh.up.pos, .int .i64 d.sh.up.vel, .int .i64 d.sh.up.door, .int .i64 d.sp.l.lo, .int .i64 d.sp.l.hi, .int .i64 d.sp.u.lo, .int .i64 d.sp.u.hi, .int .i64 d.pl, .int .i64 d.pu, .bool d.hd]) := F7.out.below (Below.refl _ _).drew F7.out.lt
      have F0 : Hid (Blk wp.drew w.heap.size [.int .i64 h.fl, .int .i64 h.gp, .int .i64 h.ln, .int .i64 h.rf, .int .i64 h.sp, .int .i64 h.pu, .int .i64 h.br, .int .i64 h.dr, .int .i64 h.lv, .int .i64 h.dO, .int .i64 h.ld, .int .i64 h.qu, .slice (some ⟨b, o, none⟩) ds.length dc, .int .i64 nx, .slice pa ps.length pc, .int .i64 tk, .bool rc]) := F0.out.below (Below.refl _ _).drew F0.out.lt
      have FB : Hid (Below w.heap.size w wp.drew) := FB.out.drew
      refine wp_region_held_drew (S := (fun w'' => Blk w'' b7 ([.int .i64 d.sh.lo.pos, .int .i64 d.sh.lo.vel, .int .i64 d.sh.lo.door, .int .i64 d.sh.up.pos, .int .i64 d.sh.up.vel, .int .i64 d.sh.up.door, .int .i64 d.sp.l.lo, .int .i64 d.sp.l.hi, .int .i64 d.sp.u.lo, .int .i64 d.sp.u.hi, .int .i64 d.pl, .int .i64 d.pu, .bool d.hd]))) (by kernel_rfl) (by (try dsimp only); first | exact F7.out | go_keep) (fun hHeld => ?_)
      obtain ⟨v_1, hw1⟩ : ∃ v_1, v_1 = wp.drew := ⟨_, rfl⟩
      have F7 : Hid (Blk v_1 b7 [.int .i64 d.sh.lo.pos, .int .i64 d.sh.lo.vel, .int .i64 d.sh.lo.door, .int .i64 d.sh.up.pos, .int .i64 d.sh.up.vel, .int .i64 d.sh.up.door, .int .i64 d.sp.l.lo, .int .i64 d.sp.l.hi, .int .i64 d.sp.u.lo, .int .i64 d.sp.u.hi, .int .i64 d.pl, .int .i64 d.pu, .bool d.hd]) := by rw [hw1]; exact F7.out
      have F0 : Hid (Blk v_1 w.heap.size [.int .i64 h.fl, .int .i64 h.gp, .int .i64 h.ln, .int .i64 h.rf, .int .i64 h.sp, .int .i64 h.pu, .int .i64 h.br, .int .i64 h.dr, .int .i64 h.lv, .int .i64 h.dO, .int .i64 h.ld, .int .i64 h.qu, .slice (some ⟨b, o, none⟩) ds.length dc, .int .i64 nx, .slice pa ps.length pc, .int .i64 tk, .bool rc]) := by rw [hw1]; exact F0.out
      have FB : Hid (Below w.heap.size w v_1) := by rw [hw1]; exact FB.out
      rw [← hw1] at hHeld ⊢
      clear hw1
      refine tkz 0 rfl ?_
      refine tkz 1 rfl ?_
      refine tkz 2 rfl ?_
      refine tkz 3 rfl ?_ (hy := Or.inl ⟨by kernel_rfl, fun wx hSw => exec_load_mid 47 _ 0 [.int .i64 d.sh.lo.pos, .int .i64 d.sh.lo.vel, .int .i64 d.sh.lo.door] Tryz.underlying47 (by kernel_rfl) rfl rfl rfl hSw⟩)
      refine tkz 4 rfl ?_
      refine tkz 5 rfl ?_
      refine tkz 6 rfl ?_ (hy := Or.inl ⟨by kernel_rfl, fun wx hSw => exec_load_mid 51 _ 6 [.int .i64 d.sp.l.lo, .int .i64 d.sp.l.hi] Tryz.underlying51 (by kernel_rfl) rfl rfl rfl hSw⟩)
      refine tkz 9 rfl ?_
      refine tkz 10 rfl ?_
      refine tkz 11 rfl ?_ (hy := Or.inl ⟨by kernel_rfl, fun wx hSw => exec_load_mid 47 _ 3 [.int .i64 d.sh.up.pos, .int .i64 d.sh.up.vel, .int .i64 d.sh.up.door] Tryz.underlying47 (by kernel_rfl) rfl rfl rfl hSw⟩)
      refine tkz 12 rfl ?_
      refine tkz 13 rfl ?_
      refine tkz 14 rfl ?_ (hy := Or.inl ⟨by kernel_rfl, fun wx hSw => exec_load_mid 51 _ 8 [.int .i64 d.sp.u.lo, .int .i64 d.sp.u.hi] Tryz.underlying51 (by kernel_rfl) rfl rfl rfl hSw⟩)
      refine wpAnyH_ready (rs := [7]) (by kernel_rfl) (by simp) ?_
      refine (AllReadyH.cons rfl (fun K hK => ?_) AllReadyH.nil)
      go_simp
      refine (l9Car_any wLow d.sh.lo d.sp.l (by decide) HDI.out.lo _).mono ?_
      rintro e v_2 ⟨rfl, hb⟩
      have F7 : Hid (Blk v_2 b7 [.int .i64 d.sh.lo.pos, .int .i64 d.sh.lo.vel, .int .i64 d.sh.lo.door, .int .i64 d.sh.up.pos, .int .i64 d.sh.up.vel, .int .i64 d.sh.up.door, .int .i64 d.sp.l.lo, .int .i64 d.sp.l.hi, .int .i64 d.sp.u.lo, .int .i64 d.sp.u.hi, .int .i64 d.pl, .int .i64 d.pu, .bool d.hd]) := F7.out.below hb F7.out.lt
      have F0 : Hid (Blk v_2 w.heap.size [.int .i64 h.fl, .int .i64 h.gp, .int .i64 h.ln, .int .i64 h.rf, .int .i64 h.sp, .int .i64 h.pu, .int .i64 h.br, .int .i64 h.dr, .int .i64 h.lv, .int .i64 h.dO, .int .i64 h.ld, .int .i64 h.qu, .slice (some ⟨b, o, none⟩) ds.length dc, .int .i64 nx, .slice pa ps.length pc, .int .i64 tk, .bool rc]) := F0.out.below hb F0.out.lt
      have FB : Hid (Below w.heap.size w v_2) := FB.out.trans (hb.mono FB.out.size)
      clear hb
      try dsimp only
      refine hK.out _ _ (by (try dsimp only); first | exact F7.out | go_keep) (fun hHeld => ?_)
      clear hK K
      try simp only [Act.put, List.getElem_toArray, List.getElem_cons_succ, List.getElem_cons_zero, List.setIfInBounds_toArray, List.set_cons_zero, List.set_cons_succ]
      refine tkz 8 rfl ?_
      refine wpAnyH_ready (rs := [15]) (by kernel_rfl) (by simp) ?_
      refine (AllReadyH.cons rfl (fun K hK => ?_) AllReadyH.nil)
      go_simp
      refine (l9Car_any wUp d.sh.up d.sp.u (by decide) HDI.out.up _).mono ?_
      rintro e v_3 ⟨rfl, hb⟩
      have F7 : Hid (Blk v_3 b7 [.int .i64 d.sh.lo.pos, .int .i64 d.sh.lo.vel, .int .i64 d.sh.lo.door, .int .i64 d.sh.up.pos, .int .i64 d.sh.up.vel, .int .i64 d.sh.up.door, .int .i64 d.sp.l.lo, .int .i64 d.sp.l.hi, .int .i64 d.sp.u.lo, .int .i64 d.sp.u.hi, .int .i64 d.pl, .int .i64 d.pu, .bool d.hd]) := F7.out.below hb F7.out.lt
      have F0 : Hid (Blk v_3 w.heap.size [.int .i64 h.fl, .int .i64 h.gp, .int .i64 h.ln, .int .i64 h.rf, .int .i64 h.sp, .int .i64 h.pu, .int .i64 h.br, .int .i64 h.dr, .int .i64 h.lv, .int .i64 h.dO, .int .i64 h.ld, .int .i64 h.qu, .slice (some ⟨b, o, none⟩) ds.length dc, .int .i64 nx, .slice pa ps.length pc, .int .i64 tk, .bool rc]) := F0.out.below hb F0.out.lt
      have FB : Hid (Below w.heap.size w v_3) := FB.out.trans (hb.mono FB.out.size)
      clear hb
      try dsimp only
      refine hK.out _ _ (by (try dsimp only); first | exact F7.out | go_keep) (fun hHeld => ?_)
      clear hK K
      try simp only [Act.put, List.getElem_toArray, List.getElem_cons_succ, List.getElem_cons_zero, List.setIfInBounds_toArray, List.set_cons_zero, List.set_cons_succ]
      refine tkz 16 rfl ?_
      refine tkz 17 rfl ?_
      refine wpAnyH_done (by kernel_rfl) ?_ _
      go_wp2_with fail
      go_roundw
      case rel => exact ⟨i + 1, _, by simp, rfl, by rw [HU2.out], by omega, F0.out, FB.out⟩
      case measure => simp [intOf]; omega
    · have ei : i = ds.length := by omega
      have hge : (ds.length : Int) ≤ (i : Int) := by omega
      have HU3 : Hid (u = dksTx (headLn tk rc) ds) := by have := HU.out; rw [ei, List.take_length] at this; exact this
      have x14 := F0.out.c 14 _ rfl
      clear ei HU us HD
      go_wp2_with fail
      clear x12 x14
      go_loopw [4, 7] (fun ss ii wr => ∃ (i : Nat) (u : ByteArray), ii = .int .i64 (i : Int) ∧ ss = .string u ∧ u = pesTx (dksTx (headLn tk rc) ds) (ps.take i) ∧ i ≤ ps.length ∧ Blk wr w.heap.size [.int .i64 h.fl, .int .i64 h.gp, .int .i64 h.ln, .int .i64 h.rf, .int .i64 h.sp, .int .i64 h.pu, .int .i64 h.br, .int .i64 h.dr, .int .i64 h.lv, .int .i64 h.dO, .int .i64 h.ld, .int .i64 h.qu, .slice da ds.length dc, .int .i64 nx, .slice pa ps.length pc, .int .i64 tk, .bool rc] ∧ Below w.heap.size w wr) (fun _ ii _ => ps.length - (intOf ii).toNat)
      case atStart => exact ⟨0, _, rfl, rfl, HU3.out, by omega, F0.out, FB.out⟩
      case round =>
        obtain ⟨k, u2, rfl, rfl, hu, hin2, h0, hB⟩ := hrel
        clear F0 FB HU3
        have F0 : Hid (Blk wr w.heap.size [.int .i64 h.fl, .int .i64 h.gp, .int .i64 h.ln, .int .i64 h.rf, .int .i64 h.sp, .int .i64 h.pu, .int .i64 h.br, .int .i64 h.dr, .int .i64 h.lv, .int .i64 h.dO, .int .i64 h.ld, .int .i64 h.qu, .slice da ds.length dc, .int .i64 nx, .slice pa ps.length pc, .int .i64 tk, .bool rc]) := h0
        have FB : Hid (Below w.heap.size w wr) := hB
        have us := HG.out.psz k
        rw [← hu] at us
        have HU : Hid (u2 = pesTx (dksTx (headLn tk rc) ds) (ps.take k)) := hu
        clear hu h0 hB
        have x14 := F0.out.c 14 _ rfl
        by_cases hlt2 : k < ps.length
        · obtain ⟨p, hp⟩ : ∃ p, ps[k]? = some p := ⟨_, List.getElem?_eq_getElem hlt2⟩
          have pI := HG.out.p p (List.mem_of_getElem? hp)
          obtain ⟨q1, q2⟩ := perLn_size pI
          have q3 := swd_size p.st
          have HU2 : Hid (pesTx (dksTx (headLn tk rc) ds) (ps.take (k + 1)) = u2 ++ perLn p) := by rw [pesTx_snoc hp, HU.out]; exact rfl
          have hil : (k : Int) < (ps.length : Int) := by omega
          rcases HP.out with h0 | ⟨b, o, ha, hbl, h7⟩
          · rw [h0] at hlt2; simp at hlt2
          subst ha
          obtain ⟨c0, c1, c2, c3, c4, c5, c6⟩ := (h7 k p hp).below FB.out hbl
          obtain ⟨ph, hph⟩ : ∃ ph, phr wPer [p.id, p.fr, p.tw] = ph := ⟨_, rfl⟩
          have HPH : Hid (phr wPer [p.id, p.fr, p.tw] = ph) := hph
          have HPL : Hid (perLn p = ((ph ++ ⟨#[32]⟩) ++ swd p.st) ++ ⟨#[10]⟩) := by show perLn p = _; unfold perLn; rw [hph]
          rw [hph] at q1
          have hw6 : wPer.size ≤ 100000 := by decide
          have HNS : Hid (∀ n ∈ [p.id, p.fr, p.tw], i64N n) := pI.ns
          have t1 : ¬ (9223372036854775807 < u2.size + ph.size) := by omega
          have t2 : ¬ (9223372036854775807 < u2.size + ph.size + 1) := by omega
          have t3 : ¬ (9223372036854775807 < u2.size + ph.size + 1 + (swd p.st).size) := by omega
          have t4 : ¬ (9223372036854775807 < u2.size + ph.size + 1 + (swd p.st).size + 1) := by omega
          have HPR : ∀ (g : Nat) (W : World), NIn W g [p.id, p.fr, p.tw] → Calls Tryz.prog 12 #[.string wPer, .slice (some ⟨g, 0, none⟩) 3 3] W fun r w' => r = .returned (.string ph) ∧ Below W.heap.size W w' := by
            intro g W h1
            rw [← HPH.out]
            exact l9Line_any wPer [p.id, p.fr, p.tw] g 3 (Nat.le_of_ble_eq_true rfl) hw6 HNS.out W h1
          clear hph hp h7 us q1 q2 q3 HU pI
          go_upto_region 16 with (refine store_new [.int .i64 p.id, .int .i64 p.fr, .int .i64 p.tw, .int .i64 p.sh, .int .i64 p.ca, .int .i64 p.st, .int .i64 p.pl] 58 _ _ (by kernel_rfl) (by kernel_rfl) (by kernel_rfl) rfl rfl rfl rfl ?_)
          have FB0 := FB
          obtain ⟨b7, hbb⟩ : ∃ b7, b7 = wr.heap.size := ⟨_, rfl⟩
          obtain ⟨wp, hw2⟩ : ∃ wp, wp = wr.alloc (.cells #[.int .i64 p.id, .int .i64 p.fr, .int .i64 p.tw, .int .i64 p.sh, .int .i64 p.ca, .int .i64 p.st, .int .i64 p.pl] 58) := ⟨_, rfl⟩
          have nb7w.heap.size : w.heap.size < b7 := by rw [hbb]; exact F0.out.lt
          have F0 : Hid (Blk wp w.heap.size [.int .i64 h.fl, .int .i64 h.gp, .int .i64 h.ln, .int .i64 h.rf, .int .i64 h.sp, .int .i64 h.pu, .int .i64 h.br, .int .i64 h.dr, .int .i64 h.lv, .int .i64 h.dO, .int .i64 h.ld, .int .i64 h.qu, .slice da ds.length dc, .int .i64 nx, .slice (some ⟨b, o, none⟩) ps.length pc, .int .i64 tk, .bool rc]) := by rw [hw2]; exact F0.out.alloc _
          have F7 : Hid (Blk wp b7 [.int .i64 p.id, .int .i64 p.fr, .int .i64 p.tw, .int .i64 p.sh, .int .i64 p.ca, .int .i64 p.st, .int .i64 p.pl]) := by rw [hw2]; exact Blk.at_ wr #[.int .i64 p.id, .int .i64 p.fr, .int .i64 p.tw, .int .i64 p.sh, .int .i64 p.ca, .int .i64 p.st, .int .i64 p.pl] _ _ hbb
          have FB : Hid (Below w.heap.size w wp) := by rw [hw2]; exact FB.out.alloc FB.out.size _
          have leb7 : w.heap.size ≤ b7 := by rw [hbb]; exact FB0.out.size
          (try simp only [Act.put])
          rw [← hw2, ← hbb]
          clear hbb hw2 FB0
          clear c0 c1 c2 c3 c4 c5 c6 x14
          have F7 : Hid (Blk wp.drew b7 [.int .i64 p.id, .int .i64 p.fr, .int .i64 p.tw, .int .i64 p.sh, .int .i64 p.ca, .int .i64 p.st, .int .i64 p.pl]) := F7.out.below (Below.refl _ _).drew F7.out.lt
          have F0 : Hid (Blk wp.drew w.heap.size [.int .i64 h.fl, .int .i64 h.gp, .int .i64 h.ln, .int .i64 h.rf, .int .i64 h.sp, .int .i64 h.pu, .int .i64 h.br, .int .i64 h.dr, .int .i64 h.lv, .int .i64 h.dO, .int .i64 h.ld, .int .i64 h.qu, .slice da ds.length dc, .int .i64 nx, .slice (some ⟨b, o, none⟩) ps.length pc, .int .i64 tk, .bool rc]) := F0.out.below (Below.refl _ _).drew F0.out.lt
          have FB : Hid (Below w.heap.size w wp.drew) := FB.out.drew
          refine wp_region_held_drew (S := (fun w'' => Blk w'' b7 ([.int .i64 p.id, .int .i64 p.fr, .int .i64 p.tw, .int .i64 p.sh, .int .i64 p.ca, .int .i64 p.st, .int .i64 p.pl]))) (by kernel_rfl) (by (try dsimp only); first | exact F7.out | go_keep) (fun hHeld => ?_)
          obtain ⟨v_4, hw1⟩ : ∃ v_4, v_4 = wp.drew := ⟨_, rfl⟩
          have F7 : Hid (Blk v_4 b7 [.int .i64 p.id, .int .i64 p.fr, .int .i64 p.tw, .int .i64 p.sh, .int .i64 p.ca, .int .i64 p.st, .int .i64 p.pl]) := by rw [hw1]; exact F7.out
          have F0 : Hid (Blk v_4 w.heap.size [.int .i64 h.fl, .int .i64 h.gp, .int .i64 h.ln, .int .i64 h.rf, .int .i64 h.sp, .int .i64 h.pu, .int .i64 h.br, .int .i64 h.dr, .int .i64 h.lv, .int .i64 h.dO, .int .i64 h.ld, .int .i64 h.qu, .slice da ds.length dc, .int .i64 nx, .slice (some ⟨b, o, none⟩) ps.length pc, .int .i64 tk, .bool rc]) := by rw [hw1]; exact F0.out
          have FB : Hid (Below w.heap.size w v_4) := by rw [hw1]; exact FB.out
          rw [← hw1] at hHeld ⊢
          clear hw1
          refine tkz 0 rfl ?_
          refine tkz 1 rfl ?_
          refine tkz 2 rfl ?_ (hy := Or.inl ⟨by kernel_rfl, by (intro wx hSw; have hq0_0 := hSw.c 0 _ rfl; (try dsimp only at hSw); go_simp <;> with_reducible rfl)⟩)
          refine tkz 3 rfl ?_
          refine tkz 4 rfl ?_ (hy := Or.inl ⟨by kernel_rfl, by (intro wx hSw; have hq0_1 := hSw.c 1 _ rfl; (try dsimp only at hSw); go_simp <;> with_reducible rfl)⟩)
          refine tkz 5 rfl ?_
          refine tkz 6 rfl ?_ (hy := Or.inl ⟨by kernel_rfl, by (intro wx hSw; have hq0_2 := hSw.c 2 _ rfl; (try dsimp only at hSw); go_simp <;> with_reducible rfl)⟩)
          refine tkz 11 rfl ?_
          refine tkz 12 rfl ?_ (hy := Or.inl ⟨by kernel_rfl, by (intro wx hSw; have hq0_5 := hSw.c 5 _ rfl; (try dsimp only at hSw); go_simp <;> with_reducible rfl)⟩)
          refine wpAnyH_ready (rs := [7]) (by kernel_rfl) (by simp) ?_
          refine (AllReadyH.cons rfl (fun K hK => ?_) AllReadyH.nil)
          go_simp
          obtain ⟨lb7, hbb⟩ : ∃ lb7, lb7 = v_4.heap.size := ⟨_, rfl⟩
          obtain ⟨v_5, hw2⟩ : ∃ v_5, v_5 = v_4.alloc (.cells #[.int .i64 p.id, .int .i64 p.fr, .int .i64 p.tw] 2) := ⟨_, rfl⟩
          have nlb7_0 := F7.out.lt
          rw [← hbb] at nlb7_0
          have nlb7_1 := F0.out.lt
          rw [← hbb] at nlb7_1
          have FL7 : Hid (Blk v_5 lb7 [.int .i64 p.id, .int .i64 p.fr, .int .i64 p.tw]) := by rw [hw2]; exact Blk.at_ v_4 #[.int .i64 p.id, .int .i64 p.fr, .int .i64 p.tw] _ lb7 hbb
          have F7 : Hid (Blk v_5 b7 [.int .i64 p.id, .int .i64 p.fr, .int .i64 p.tw, .int .i64 p.sh, .int .i64 p.ca, .int .i64 p.st, .int .i64 p.pl]) := by rw [hw2]; exact F7.out.alloc _
          have F0 : Hid (Blk v_5 w.heap.size [.int .i64 h.fl, .int .i64 h.gp, .int .i64 h.ln, .int .i64 h.rf, .int .i64 h.sp, .int .i64 h.pu, .int .i64 h.br, .int .i64 h.dr, .int .i64 h.lv, .int .i64 h.dO, .int .i64 h.ld, .int .i64 h.qu, .slice da ds.length dc, .int .i64 nx, .slice (some ⟨b, o, none⟩) ps.length pc, .int .i64 tk, .bool rc]) := by rw [hw2]; exact F0.out.alloc _
          have FB : Hid (Below w.heap.size w v_5) := by rw [hw2]; exact FB.out.alloc FB.out.size _
          rw [← hw2, ← hbb]
          clear hbb hw2
          refine hK.out _ _ (by (try dsimp only); first | exact F7.out | go_keep) (fun hHeld => ?_)
          clear hK K
          try simp only [Act.put, List.getElem_toArray, List.getElem_cons_succ, List.getElem_cons_zero, List.setIfInBounds_toArray, List.set_cons_zero, List.set_cons_succ]
          refine wpAnyH_ready (rs := [8]) (by kernel_rfl) (by simp) ?_
          refine (AllReadyH.cons rfl (fun K hK => ?_) AllReadyH.nil)
          go_simp
          refine (HPR _ _ (nin_blk FL7.out)).mono ?_
          rintro e v_6 ⟨rfl, hb⟩
          have F7 : Hid (Blk v_6 b7 [.int .i64 p.id, .int .i64 p.fr, .int .i64 p.tw, .int .i64 p.sh, .int .i64 p.ca, .int .i64 p.st, .int .i64 p.pl]) := F7.out.below hb F7.out.lt
          have F0 : Hid (Blk v_6 w.heap.size [.int .i64 h.fl, .int .i64 h.gp, .int .i64 h.ln, .int .i64 h.rf, .int .i64 h.sp, .int .i64 h.pu, .int .i64 h.br, .int .i64 h.dr, .int .i64 h.lv, .int .i64 h.dO, .int .i64 h.ld, .int .i64 h.qu, .slice da ds.length dc, .int .i64 nx, .slice (some ⟨b, o, none⟩) ps.length pc, .int .i64 tk, .bool rc]) := F0.out.below hb F0.out.lt
          have FB : Hid (Below w.heap.size w v_6) := FB.out.trans (hb.mono FB.out.size)
          have FL7 : Hid (Blk v_6 lb7 [.int .i64 p.id, .int .i64 p.fr, .int .i64 p.tw]) := FL7.out.below hb FL7.out.lt
          clear hb
          try dsimp only
          refine hK.out _ _ (by (try dsimp only); first | exact F7.out | go_keep) (fun hHeld => ?_)
          clear hK K
          try simp only [Act.put, List.getElem_toArray, List.getElem_cons_succ, List.getElem_cons_zero, List.setIfInBounds_toArray, List.set_cons_zero, List.set_cons_succ]
          refine tkz 9 rfl ?_
          refine tkz 10 rfl ?_
          refine wpAnyH_ready (rs := [13]) (by kernel_rfl) (by simp) ?_
          refine (AllReadyH.cons rfl (fun K hK => ?_) AllReadyH.nil)
          go_simp
          refine (specStateWord_any p.st _).mono ?_
          rintro e v_7 ⟨rfl, hb⟩
          have F7 : Hid (Blk v_7 b7 [.int .i64 p.id, .int .i64 p.fr, .int .i64 p.tw, .int .i64 p.sh, .int .i64 p.ca, .int .i64 p.st, .int .i64 p.pl]) := F7.out.below hb F7.out.lt
          have F0 : Hid (Blk v_7 w.heap.size [.int .i64 h.fl, .int .i64 h.gp, .int .i64 h.ln, .int .i64 h.rf, .int .i64 h.sp, .int .i64 h.pu, .int .i64 h.br, .int .i64 h.dr, .int .i64 h.lv, .int .i64 h.dO, .int .i64 h.ld, .int .i64 h.qu, .slice da ds.length dc, .int .i64 nx, .slice (some ⟨b, o, none⟩) ps.length pc, .int .i64 tk, .bool rc]) := F0.out.below hb F0.out.lt
          have FB : Hid (Below w.heap.size w v_7) := FB.out.trans (hb.mono FB.out.size)
          have FL7 : Hid (Blk v_7 lb7 [.int .i64 p.id, .int .i64 p.fr, .int .i64 p.tw]) := FL7.out.below hb FL7.out.lt
          clear hb
          try dsimp only
          refine hK.out _ _ (by (try dsimp only); first | exact F7.out | go_keep) (fun hHeld => ?_)
          clear hK K
          try simp only [Act.put, List.getElem_toArray, List.getElem_cons_succ, List.getElem_cons_zero, List.setIfInBounds_toArray, List.set_cons_zero, List.set_cons_succ]
          refine tkz 14 rfl ?_
          refine tkz 15 rfl ?_
          refine tkz 16 rfl ?_
          refine wpAnyH_done (by kernel_rfl) ?_ _
          go_wp2_with fail
          go_roundw
          case rel => exact ⟨k + 1, _, by simp, rfl, by rw [HU2.out, HPL.out]; simp only [ByteArray.append_assoc], by omega, F0.out, FB.out⟩
          case measure => simp [intOf]; omega

        · have ei : k = ps.length := by omega
          have hge2 : (ps.length : Int) ≤ (k : Int) := by omega
          have HU3 : Hid (u2 = pesTx (dksTx (headLn tk rc) ds) ps) := by have := HU.out; rw [ei, List.take_length] at this; exact this
          clear ei HU us
          go_wp2_with fail
          go_ret
          exact ⟨ret_str HU3.out, FB.out⟩
end Go.Proofs.YtnfdplfifpmhoaaGreatDoor
