/-
  A car that stands comes to every floor within the bound, and is never beyond it, whatever the bytes draw.
-/
import Derived.Test.YtgdhbkgpjeedhaaRows
import Derived.WalkKit
import Derived.ProofKit
import Derived.OpenShut
import Derived.ShutString
import Derived.ChangeOld
import Derived.Below
import Derived.Test.YtgdhbkgpjeedhaaProfK
import Derived.Test.YtgdhbkgpjeedhaaProfJ
import Derived.Test.YtgdhbkgpjeedhaaCarN
import Derived.Deep.DeepCutAuto
import Derived.Test.YtgdhbkgpjeedhaaProfF
import Derived.Test.YtgdhbkgpjeedhaaHouseM
import Derived.Test.YtgdhbkgpjeedhaaFlyP
import Derived.Test.YtgdhbkgpjeedhaaFnd
import Derived.Deep.MidRow
import Derived.Test.YtgdhbkgpjeedhaaSrc
import Derived.Test.YtgdhbkgpjeedhaaDrx
import Derived.Test.YtgdhbkgpjeedhaaDrawT
import Derived.Deep.CutBlock
namespace Go.Proofs.Ytgdhbkgpjeedhaa
open Go.RowKit Pl
set_option linter.unusedSimpArgs false
set_option linter.unusedVariables false

/-- A command, stored whole. -/
def putX (W : World) (b : Nat) (x : Cm) : World := ((W.setCell ⟨b, 0, none⟩ (.int .i64 x.push)).setCell ⟨b, 1, none⟩ (.bool x.brk)).setCell ⟨b, 2, none⟩ (.bool x.opn)
theorem XW.put {W : World} {b : Nat} {c : Cm} (a : XW W b c) (g : Cm) : XW (putX W b g) b g := ((a.set_push g.push).set_brk g.brk).set_opn g.opn
theorem SrcT.putX {w : World} {sb B : Nat} {a : Option Addr} {len cap T : Nat} (h : SrcT w sb B a len cap T) (b : Nat) (g : Cm) (hb : b ≠ sb) (hB : B ≤ b) : SrcT (putX w b g) sb B a len cap T := ((h.other b _ _ hb hB).other b _ _ hb hB).other b _ _ hb hB
theorem Keeps.putX {sb b : Nat} {a w : World} (h : Keeps sb a w) (hb : a.heap.size ≤ b) (g : Cm) : Keeps sb a (putX w b g) := ((h.own hb _ _).own hb _ _).own hb _ _

end Go.Proofs.Ytgdhbkgpjeedhaa

namespace Go.Proofs.Ytgdhbkgpjeedhaa
open Go.RowKit Pl
set_option linter.unusedSimpArgs false
set_option linter.unusedVariables false

theorem HAt.put_h {W : World} {b k : Nat} {h : Hs} (a : HAt W b h) (hne : b ≠ k) (g : Hs) : HAt (putH W k g) b h := ((((((((((((a.other hne).other hne).other hne).other hne).other hne).other hne).other hne).other hne).other hne).other hne).other hne).other hne)
theorem HAt.putX_other {W : World} {b k : Nat} {h : Hs} (a : HAt W b h) (hne : b ≠ k) (g : Cm) : HAt (putX W k g) b h := (((a.other hne).other hne).other hne)
theorem CW.put_h {W : World} {b k : Nat} {c : Cs} (a : CW W b c) (hne : b ≠ k) (g : Hs) : CW (putH W k g) b c := ((((((((((((a.other hne).other hne).other hne).other hne).other hne).other hne).other hne).other hne).other hne).other hne).other hne).other hne)
theorem CW.putX_other {W : World} {b k : Nat} {c : Cs} (a : CW W b c) (hne : b ≠ k) (g : Cm) : CW (putX W k g) b c := (((a.other hne).other hne).other hne)
theorem XW.put_h {W : World} {b k : Nat} {x : Cm} (a : XW W b x) (hne : b ≠ k) (g : Hs) : XW (putH W k g) b x := ((((((((((((a.other hne).other hne).other hne).other hne).other hne).other hne).other hne).other hne).other hne).other hne).other hne).other hne)
theorem XW.putX_other {W : World} {b k : Nat} {x : Cm} (a : XW W b x) (hne : b ≠ k) (g : Cm) : XW (putX W k g) b x := (((a.other hne).other hne).other hne)
theorem XW.put3_other {W : World} {b k : Nat} {x : Cm} (a : XW W b x) (hne : b ≠ k) (g : Cs) : XW (put3 W k g) b x := (((a.other hne).other hne).other hne)
theorem below_put3 {B : Nat} {w W : World} (h : Below B w W) {b : Nat} (hb : B ≤ b) (c : Cs) : Below B w (put3 W b c) := (((h.setCell hb _).setCell hb _).setCell hb _)
theorem below_putX {B : Nat} {w W : World} (h : Below B w W) {b : Nat} (hb : B ≤ b) (c : Cm) : Below B w (putX W b c) := (((h.setCell hb _).setCell hb _).setCell hb _)
theorem below_putH {B : Nat} {w W : World} (h : Below B w W) {b : Nat} (hb : B ≤ b) (g : Hs) : Below B w (putH W b g) := ((((((((((((h.setCell hb _).setCell hb _).setCell hb _).setCell hb _).setCell hb _).setCell hb _).setCell hb _).setCell hb _).setCell hb _).setCell hb _).setCell hb _).setCell hb _)
theorem R3.put_h {W : World} {b : Nat} (a : R3 W (b + 1)) (g : Hs) : R3 (putH W b g) (b + 1) := ((((((((((((a.other (by omega)).other (by omega)).other (by omega)).other (by omega)).other (by omega)).other (by omega)).other (by omega)).other (by omega)).other (by omega)).other (by omega)).other (by omega)).other (by omega))
theorem HW.hat {W : World} {b : Nat} {h : Hs} (a : HW W b h) : HAt W b h := ⟨a.c0, a.c1, a.c2, a.c3, a.c4, a.c5, a.c6, a.c7, a.c8, a.c9, a.c10, a.c11⟩
theorem CodeIn.up {w : World} {B C : Nat} {a : Option Addr} {len : Nat} (h : CodeIn w B a len) (hB : B ≤ C) : CodeIn w C a len := by
  obtain ⟨h1, h2⟩ := h
  refine ⟨h1, ?_⟩
  rcases h2 with h2 | ⟨b, off, h3, h4, h5⟩
  · exact Or.inl h2
  · exact Or.inr ⟨b, off, h3, by omega, h5⟩
end Go.Proofs.Ytgdhbkgpjeedhaa

namespace Go.Proofs.Ytgdhbkgpjeedhaa
open Go.RowKit Pl
set_option linter.unusedSimpArgs false
set_option linter.unusedVariables false

theorem below_gr {g : Nat} {w0 w w' : World} (h : Below w0.heap.size w0 w) (hg : w.grownBy w' (some g)) (hB : w0.heap.size ≤ g) : Below w0.heap.size w0 w' := h.grown hg h.size (fun j hj => by have e : g = j := Option.some.inj hj; omega)
set_option maxRecDepth 20000 in
set_option maxHeartbeats 16000000 in
theorem DrawRunTo_any (a : Option Addr) (len cap : Nat) (w : World) (hc : CodeIn w w.heap.size a len) :
    Calls Try.prog 5 #[.slice a len cap] w fun e w' => ∃ (h : Hs) (c : Cs) (f t : Int), e = .returned (.tuple #[.agg #[.int .i64 h.fl, .int .i64 h.gp, .int .i64 h.ln, .int .i64 h.rf, .int .i64 h.sp, .int .i64 h.pu, .int .i64 h.br, .int .i64 h.dr, .int .i64 h.lv, .int .i64 h.dO, .int .i64 h.ld, .int .i64 h.qu], .agg #[.int .i64 c.pos, .int .i64 c.vel, .int .i64 c.door], .int .i64 f, .int .i64 t]) ∧ ((0 ≤ h.ld ∧ h.ld ≤ 21) ∧ (1 ≤ h.fl ∧ h.fl ≤ 13)) ∧ Below w.heap.size w w' := by
  obtain ⟨b0, hb0⟩ : ∃ b0, b0 = w.heap.size := ⟨_, rfl⟩
  obtain ⟨b1, hb1⟩ : ∃ b1, b1 = b0 + 1 := ⟨_, rfl⟩
  obtain ⟨W0, hW0⟩ : ∃ W0, W0 = (w.alloc (.cells #[.int .i64 0, .int .i64 0, .int .i64 0, .int .i64 0, .int .i64 0, .int .i64 0, .int .i64 0, .int .i64 0, .int .i64 0, .int .i64 0, .int .i64 0, .int .i64 0] 25)).alloc (.cells #[.int .i64 0, .int .i64 0, .int .i64 0] 27) := ⟨_, rfl⟩
  have FB : Hid (Below w.heap.size w W0) := by rw [hW0]; exact ((Below.refl _ _).alloc (Nat.le_refl _) _).alloc (by simp) _
  have HC : Hid (CodeIn w w.heap.size a len) := hc
  have F0 : Hid (Blk W0 b0 [.int .i64 0, .int .i64 0, .int .i64 0, .int .i64 0, .int .i64 0, .int .i64 0, .int .i64 0, .int .i64 0, .int .i64 0, .int .i64 0, .int .i64 0, .int .i64 0]) := by rw [hW0]; exact (Blk.at_ w #[.int .i64 0, .int .i64 0, .int .i64 0, .int .i64 0, .int .i64 0, .int .i64 0, .int .i64 0, .int .i64 0, .int .i64 0, .int .i64 0, .int .i64 0, .int .i64 0] _ _ hb0).alloc _
  have F1 : Hid (Blk W0 b1 [.int .i64 0, .int .i64 0, .int .i64 0]) := by rw [hW0]; exact Blk.at_ _ #[.int .i64 0, .int .i64 0, .int .i64 0] _ _ (by simp; omega)
  have l01 : b0 < b1 := by omega
  have leb0 : w.heap.size ≤ b0 := by omega
  have leb1 : w.heap.size ≤ b1 := by omega
  clear hc
  go_enter Try.func5, Try.ntmps5
  go_upto_region 1 with fail
  rw [← hb0, ← hb1, ← hW0]
  clear hb0 hb1 hW0
  go_upto_region 2 with (go_at_call 15; refine (l4Draw_any a len cap _ ((HC.out.keep fun b off hb _ => FB.out.cell (p := ⟨b, off, none⟩) hb).up FB.out.size)).mono ?_; rintro e w1 ⟨h, c, f, rfl, hbd, hb⟩; have HBD : Hid ((0 ≤ h.ld ∧ h.ld ≤ 21) ∧ (1 ≤ h.fl ∧ h.fl ≤ 13)) := hbd; have F0 : Hid (Blk w1 b0 [.int .i64 0, .int .i64 0, .int .i64 0, .int .i64 0, .int .i64 0, .int .i64 0, .int .i64 0, .int .i64 0, .int .i64 0, .int .i64 0, .int .i64 0, .int .i64 0]) := F0.out.below hb F0.out.lt; have F1 : Hid (Blk w1 b1 [.int .i64 0, .int .i64 0, .int .i64 0]) := F1.out.below hb F1.out.lt; have FB : Hid (Below w.heap.size w w1) := FB.out.trans (hb.mono FB.out.size); clear hb hbd)
  obtain ⟨b2, hb2⟩ : ∃ b2, b2 = w1.heap.size := ⟨_, rfl⟩
  obtain ⟨b3, hb3⟩ : ∃ b3, b3 = b2 + 1 := ⟨_, rfl⟩
  obtain ⟨w3, hw3⟩ : ∃ w3, w3 = (w1.alloc (.cells #[.int .i64 h.fl, .int .i64 h.gp, .int .i64 h.ln, .int .i64 h.rf, .int .i64 h.sp, .int .i64 h.pu, .int .i64 h.br, .int .i64 h.dr, .int .i64 h.lv, .int .i64 h.dO, .int .i64 h.ld, .int .i64 h.qu] 25)).alloc (.cells #[.int .i64 c.pos, .int .i64 c.vel, .int .i64 c.door] 27) := ⟨_, rfl⟩
  have l02 : b0 < b2 := by rw [hb2]; exact F0.out.lt
  have l12 : b1 < b2 := by rw [hb2]; exact F1.out.lt
  have l23 : b2 < b3 := by omega
  have F0 : Hid (Blk w3 b0 [.int .i64 0, .int .i64 0, .int .i64 0, .int .i64 0, .int .i64 0, .int .i64 0, .int .i64 0, .int .i64 0, .int .i64 0, .int .i64 0, .int .i64 0, .int .i64 0]) := by rw [hw3]; exact (F0.out.alloc _).alloc _
  have F1 : Hid (Blk w3 b1 [.int .i64 0, .int .i64 0, .int .i64 0]) := by rw [hw3]; exact (F1.out.alloc _).alloc _
  have F2 : Hid (Blk w3 b2 [.int .i64 h.fl, .int .i64 h.gp, .int .i64 h.ln, .int .i64 h.rf, .int .i64 h.sp, .int .i64 h.pu, .int .i64 h.br, .int .i64 h.dr, .int .i64 h.lv, .int .i64 h.dO, .int .i64 h.ld, .int .i64 h.qu]) := by rw [hw3]; exact (Blk.at_ w1 #[.int .i64 h.fl, .int .i64 h.gp, .int .i64 h.ln, .int .i64 h.rf, .int .i64 h.sp, .int .i64 h.pu, .int .i64 h.br, .int .i64 h.dr, .int .i64 h.lv, .int .i64 h.dO, .int .i64 h.ld, .int .i64 h.qu] _ _ hb2).alloc _
  have F3 : Hid (Blk w3 b3 [.int .i64 c.pos, .int .i64 c.vel, .int .i64 c.door]) := by rw [hw3]; exact Blk.at_ _ #[.int .i64 c.pos, .int .i64 c.vel, .int .i64 c.door] _ _ (by simp; omega)
  have FB : Hid (Below w.heap.size w w3) := by rw [hw3]; exact (FB.out.alloc FB.out.size _).alloc (by have := FB.out.size; simp; omega) _
  (try simp only [Act.put])
  rw [← hb2, ← hb3, ← hw3]
  clear hb2 hb3 hw3
  obtain ⟨sb, hsb⟩ : ∃ sb, sb = w3.heap.size := ⟨_, rfl⟩
  have HSB : Hid (sb = w3.heap.size) := hsb
  have n3 : b3 < sb := by rw [hsb]; exact F3.out.lt
  have nsb : w.heap.size ≤ sb := by omega
  have FK : Hid (Keeps sb w w3) := ⟨FB.out.os, FB.out.tape, FB.out.output, FB.out.size, fun i hi _ => FB.out.block i hi⟩
  clear hsb
  go_upto_region 3 with (go_at_call 16; refine (l1Source_t w.heap.size a len cap _ FB.out.size (HC.out.keep fun b off hb _ => FB.out.cell (p := ⟨b, off, none⟩) hb)).mono ?_; rw [← HSB.out]; rintro e w4 ⟨rfl, hs, hk⟩; have F0 : Hid (Blk w4 b0 [.int .i64 0, .int .i64 0, .int .i64 0, .int .i64 0, .int .i64 0, .int .i64 0, .int .i64 0, .int .i64 0, .int .i64 0, .int .i64 0, .int .i64 0, .int .i64 0]) := F0.out.keeps hk (by omega); have F1 : Hid (Blk w4 b1 [.int .i64 0, .int .i64 0, .int .i64 0]) := F1.out.keeps hk (by omega); have F2 : Hid (Blk w4 b2 [.int .i64 h.fl, .int .i64 h.gp, .int .i64 h.ln, .int .i64 h.rf, .int .i64 h.sp, .int .i64 h.pu, .int .i64 h.br, .int .i64 h.dr, .int .i64 h.lv, .int .i64 h.dO, .int .i64 h.ld, .int .i64 h.qu]) := F2.out.keeps hk (by omega); have F3 : Hid (Blk w4 b3 [.int .i64 c.pos, .int .i64 c.vel, .int .i64 c.door]) := F3.out.keeps hk (by omega); have FS : Hid (SrcT w4 sb w.heap.size a len cap 0) := hs; have FK : Hid (Keeps sb w w4) := FK.out.trans hk; clear hs hk)
  clear HC HSB FB
  have F0 : Hid (Blk w4.drew b0 [.int .i64 0, .int .i64 0, .int .i64 0, .int .i64 0, .int .i64 0, .int .i64 0, .int .i64 0, .int .i64 0, .int .i64 0, .int .i64 0, .int .i64 0, .int .i64 0]) := F0.out.below (Below.refl _ _).drew F0.out.lt
  have F1 : Hid (Blk w4.drew b1 [.int .i64 0, .int .i64 0, .int .i64 0]) := F1.out.below (Below.refl _ _).drew F1.out.lt
  have F2 : Hid (Blk w4.drew b2 [.int .i64 h.fl, .int .i64 h.gp, .int .i64 h.ln, .int .i64 h.rf, .int .i64 h.sp, .int .i64 h.pu, .int .i64 h.br, .int .i64 h.dr, .int .i64 h.lv, .int .i64 h.dO, .int .i64 h.ld, .int .i64 h.qu]) := F2.out.below (Below.refl _ _).drew F2.out.lt
  have F3 : Hid (Blk w4.drew b3 [.int .i64 c.pos, .int .i64 c.vel, .int .i64 c.door]) := F3.out.below (Below.refl _ _).drew F3.out.lt
  have FS : Hid (SrcT w4.drew sb w.heap.size a len cap 0) := FS.out.drew
  have FK : Hid (Keeps sb w w4.drew) := FK.out.of_below (Below.refl _ _).drew
  refine wp_region_held_drew (S := (fun w'' => Blk w'' b2 ([.int .i64 h.fl, .int .i64 h.gp, .int .i64 h.ln, .int .i64 h.rf, .int .i64 h.sp, .int .i64 h.pu, .int .i64 h.br, .int .i64 h.dr, .int .i64 h.lv, .int .i64 h.dO, .int .i64 h.ld, .int .i64 h.qu]) ∧ Blk w'' b3 ([.int .i64 c.pos, .int .i64 c.vel, .int .i64 c.door]))) (by kernel_rfl) (by (try dsimp only); first | exact ⟨F2.out, F3.out⟩ | go_keep) (fun hHeld => ?_)
  obtain ⟨v_1, hw1⟩ : ∃ v_1, v_1 = w4.drew := ⟨_, rfl⟩
  have F0 : Hid (Blk v_1 b0 [.int .i64 0, .int .i64 0, .int .i64 0, .int .i64 0, .int .i64 0, .int .i64 0, .int .i64 0, .int .i64 0, .int .i64 0, .int .i64 0, .int .i64 0, .int .i64 0]) := by rw [hw1]; exact F0.out
  have F1 : Hid (Blk v_1 b1 [.int .i64 0, .int .i64 0, .int .i64 0]) := by rw [hw1]; exact F1.out
  have F2 : Hid (Blk v_1 b2 [.int .i64 h.fl, .int .i64 h.gp, .int .i64 h.ln, .int .i64 h.rf, .int .i64 h.sp, .int .i64 h.pu, .int .i64 h.br, .int .i64 h.dr, .int .i64 h.lv, .int .i64 h.dO, .int .i64 h.ld, .int .i64 h.qu]) := by rw [hw1]; exact F2.out
  have F3 : Hid (Blk v_1 b3 [.int .i64 c.pos, .int .i64 c.vel, .int .i64 c.door]) := by rw [hw1]; exact F3.out
  have FS : Hid (SrcT v_1 sb w.heap.size a len cap 0) := by rw [hw1]; exact FS.out
  have FK : Hid (Keeps sb w v_1) := by rw [hw1]; exact FK.out
  rw [← hw1] at hHeld ⊢
  clear hw1
  refine tkz 0 rfl ?_ (hy := Or.inl ⟨by kernel_rfl, fun wx hSw => exec_load_blk 25 _ Try.underlying25 (by kernel_rfl) rfl rfl hSw.1⟩)
  refine tkz 1 rfl ?_ (hy := Or.inl ⟨by kernel_rfl, fun wx hSw => exec_load_blk 27 _ Try.underlying27 (by kernel_rfl) rfl rfl hSw.2⟩)
  refine tkz 2 rfl ?_
  refine tkz 3 rfl ?_
  refine wpAnyH_ready (rs := [4]) (by kernel_rfl) (by simp) ?_
  refine (AllReadyH.cons rfl (fun K hK => ?_) AllReadyH.nil)
  go_simp
  obtain ⟨lb0, hbb⟩ : ∃ lb0, lb0 = v_1.heap.size := ⟨_, rfl⟩
  obtain ⟨v_2, hw2⟩ : ∃ v_2, v_2 = v_1.alloc (.cells #[.int .i64 300, .int .i64 1000, .int .i64 10, .int .i64 0, .int .i64 3000, .int .i64 3001, .int .i64 (-1)] 2) := ⟨_, rfl⟩
  have nlb0_0 := F0.out.lt
  rw [← hbb] at nlb0_0
  have nlb0_1 := F1.out.lt
  rw [← hbb] at nlb0_1
  have nlb0_2 := F2.out.lt
  rw [← hbb] at nlb0_2
  have nlb0_3 := F3.out.lt
  rw [← hbb] at nlb0_3
  have nlb0_s := FS.out.lt
  rw [← hbb] at nlb0_s
  have FL0 : Hid (LstAt v_2 lb0 [300, 1000, 10, 0, 3000, 3001, (-1)]) := by rw [hw2]; exact LstAt.new v_1 [300, 1000, 10, 0, 3000, 3001, (-1)] 2 lb0 hbb (by simp)
  have F0 : Hid (Blk v_2 b0 [.int .i64 0, .int .i64 0, .int .i64 0, .int .i64 0, .int .i64 0, .int .i64 0, .int .i64 0, .int .i64 0, .int .i64 0, .int .i64 0, .int .i64 0, .int .i64 0]) := by rw [hw2]; exact F0.out.alloc _
  have F1 : Hid (Blk v_2 b1 [.int .i64 0, .int .i64 0, .int .i64 0]) := by rw [hw2]; exact F1.out.alloc _
  have F2 : Hid (Blk v_2 b2 [.int .i64 h.fl, .int .i64 h.gp, .int .i64 h.ln, .int .i64 h.rf, .int .i64 h.sp, .int .i64 h.pu, .int .i64 h.br, .int .i64 h.dr, .int .i64 h.lv, .int .i64 h.dO, .int .i64 h.ld, .int .i64 h.qu]) := by rw [hw2]; exact F2.out.alloc _
  have F3 : Hid (Blk v_2 b3 [.int .i64 c.pos, .int .i64 c.vel, .int .i64 c.door]) := by rw [hw2]; exact F3.out.alloc _
  have FS : Hid (SrcT v_2 sb w.heap.size a len cap 0) := by rw [hw2]; exact FS.out.alloc _
  have FK : Hid (Keeps sb w v_2) := by rw [hw2]; exact FK.out.alloc _
  rw [← hw2, ← hbb]
  clear hbb hw2
  refine hK.out _ _ (by (try dsimp only); first | exact ⟨F2.out, F3.out⟩ | go_keep) (fun hHeld => ?_)
  clear hK K
  try simp only [Act.put, List.getElem_toArray, List.getElem_cons_succ, List.getElem_cons_zero, List.setIfInBounds_toArray, List.set_cons_zero, List.set_cons_succ]
  refine wpAnyH_ready (rs := [5]) (by kernel_rfl) (by simp) ?_
  refine (AllReadyH.cons rfl (fun K hK => ?_) AllReadyH.nil)
  go_simp
  refine (l1Pick_t sb _ lb0 [300, 1000, 10, 0, 3000, 3001, (-1)] (fun _ => True) (fun _ _ => trivial) a len cap _ _ FS.out (by omega) FL0.out (by simp) (by omega)).mono ?_
  rintro e v_3 ⟨v9, rfl, -, hs, hk⟩
  have F0 : Hid (Blk v_3 b0 [.int .i64 0, .int .i64 0, .int .i64 0, .int .i64 0, .int .i64 0, .int .i64 0, .int .i64 0, .int .i64 0, .int .i64 0, .int .i64 0, .int .i64 0, .int .i64 0]) := F0.out.keeps hk (by omega)
  have F1 : Hid (Blk v_3 b1 [.int .i64 0, .int .i64 0, .int .i64 0]) := F1.out.keeps hk (by omega)
  have F2 : Hid (Blk v_3 b2 [.int .i64 h.fl, .int .i64 h.gp, .int .i64 h.ln, .int .i64 h.rf, .int .i64 h.sp, .int .i64 h.pu, .int .i64 h.br, .int .i64 h.dr, .int .i64 h.lv, .int .i64 h.dO, .int .i64 h.ld, .int .i64 h.qu]) := F2.out.keeps hk (by omega)
  have F3 : Hid (Blk v_3 b3 [.int .i64 c.pos, .int .i64 c.vel, .int .i64 c.door]) := F3.out.keeps hk (by omega)
  have FS : Hid (SrcT v_3 sb w.heap.size a len cap (0 + 1)) := hs
  have FK : Hid (Keeps sb w v_3) := FK.out.trans hk
  have FL0 : Hid (LstAt v_3 lb0 [300, 1000, 10, 0, 3000, 3001, (-1)]) := FL0.out.keeps hk (by omega)
  clear hs hk
  try dsimp only
  refine hK.out _ _ (by (try dsimp only); first | exact ⟨F2.out, F3.out⟩ | go_keep) (fun hHeld => ?_)
  clear hK K
  try simp only [Act.put, List.getElem_toArray, List.getElem_cons_succ, List.getElem_cons_zero, List.setIfInBounds_toArray, List.set_cons_zero, List.set_cons_succ]
  refine wpAnyH_ready (rs := [6]) (by kernel_rfl) (by simp) ?_
  refine (AllReadyH.cons rfl (fun K hK => ?_) AllReadyH.nil)
  refine step_ofE rfl ?_
  refine wp_store_whole [.int .i64 h.fl, .int .i64 h.gp, .int .i64 h.ln, .int .i64 h.rf, .int .i64 h.sp, .int .i64 h.pu, .int .i64 h.br, .int .i64 h.dr, .int .i64 h.lv, .int .i64 h.dO, .int .i64 h.ld, .int .i64 h.qu] 25 _ _ (by kernel_rfl) (by kernel_rfl) F0.out rfl rfl rfl rfl ?_
  obtain ⟨v_4, hw2⟩ : ∃ q, q = putB v_3 b0 0 [.int .i64 h.fl, .int .i64 h.gp, .int .i64 h.ln, .int .i64 h.rf, .int .i64 h.sp, .int .i64 h.pu, .int .i64 h.br, .int .i64 h.dr, .int .i64 h.lv, .int .i64 h.dO, .int .i64 h.ld, .int .i64 h.qu] := ⟨_, rfl⟩
  rw [← hw2]
  have F0 : Hid (Blk v_4 b0 [.int .i64 h.fl, .int .i64 h.gp, .int .i64 h.ln, .int .i64 h.rf, .int .i64 h.sp, .int .i64 h.pu, .int .i64 h.br, .int .i64 h.dr, .int .i64 h.lv, .int .i64 h.dO, .int .i64 h.ld, .int .i64 h.qu]) := by rw [hw2]; exact F0.out.put [.int .i64 h.fl, .int .i64 h.gp, .int .i64 h.ln, .int .i64 h.rf, .int .i64 h.sp, .int .i64 h.pu, .int .i64 h.br, .int .i64 h.dr, .int .i64 h.lv, .int .i64 h.dO, .int .i64 h.ld, .int .i64 h.qu] rfl
  have F1 : Hid (Blk v_4 b1 [.int .i64 0, .int .i64 0, .int .i64 0]) := by rw [hw2]; exact Blk.putB_other (by omega) _ 0 F1.out
  have F2 : Hid (Blk v_4 b2 [.int .i64 h.fl, .int .i64 h.gp, .int .i64 h.ln, .int .i64 h.rf, .int .i64 h.sp, .int .i64 h.pu, .int .i64 h.br, .int .i64 h.dr, .int .i64 h.lv, .int .i64 h.dO, .int .i64 h.ld, .int .i64 h.qu]) := by rw [hw2]; exact Blk.putB_other (by omega) _ 0 F2.out
  have F3 : Hid (Blk v_4 b3 [.int .i64 c.pos, .int .i64 c.vel, .int .i64 c.door]) := by rw [hw2]; exact Blk.putB_other (by omega) _ 0 F3.out
  have FS : Hid (SrcT v_4 sb w.heap.size a len cap (0 + 1)) := by rw [hw2]; exact SrcT.putB (by omega) (by omega) _ 0 FS.out
  have FK : Hid (Keeps sb w v_4) := by rw [hw2]; exact Keeps.putB (by omega) _ 0 FK.out
  clear hw2
  refine hK.out _ _ (by (try dsimp only); first | exact ⟨F2.out, F3.out⟩ | go_keep) (fun hHeld => ?_)
  clear hK K
  try simp only [Act.put, List.getElem_toArray, List.getElem_cons_succ, List.getElem_cons_zero, List.setIfInBounds_toArray, List.set_cons_zero, List.set_cons_succ]
  refine wpAnyH_ready (rs := [7]) (by kernel_rfl) (by simp) ?_
  refine (AllReadyH.cons rfl (fun K hK => ?_) AllReadyH.nil)
  refine step_ofE rfl ?_
  refine wp_store_whole [.int .i64 c.pos, .int .i64 c.vel, .int .i64 c.door] 27 _ _ (by kernel_rfl) (by kernel_rfl) F1.out rfl rfl rfl rfl ?_
  obtain ⟨v_5, hw2⟩ : ∃ q, q = putB v_4 b1 0 [.int .i64 c.pos, .int .i64 c.vel, .int .i64 c.door] := ⟨_, rfl⟩
  rw [← hw2]
  have F0 : Hid (Blk v_5 b0 [.int .i64 h.fl, .int .i64 h.gp, .int .i64 h.ln, .int .i64 h.rf, .int .i64 h.sp, .int .i64 h.pu, .int .i64 h.br, .int .i64 h.dr, .int .i64 h.lv, .int .i64 h.dO, .int .i64 h.ld, .int .i64 h.qu]) := by rw [hw2]; exact Blk.putB_other (by omega) _ 0 F0.out
  have F1 : Hid (Blk v_5 b1 [.int .i64 c.pos, .int .i64 c.vel, .int .i64 c.door]) := by rw [hw2]; exact F1.out.put [.int .i64 c.pos, .int .i64 c.vel, .int .i64 c.door] rfl
  have F2 : Hid (Blk v_5 b2 [.int .i64 h.fl, .int .i64 h.gp, .int .i64 h.ln, .int .i64 h.rf, .int .i64 h.sp, .int .i64 h.pu, .int .i64 h.br, .int .i64 h.dr, .int .i64 h.lv, .int .i64 h.dO, .int .i64 h.ld, .int .i64 h.qu]) := by rw [hw2]; exact Blk.putB_other (by omega) _ 0 F2.out
  have F3 : Hid (Blk v_5 b3 [.int .i64 c.pos, .int .i64 c.vel, .int .i64 c.door]) := by rw [hw2]; exact Blk.putB_other (by omega) _ 0 F3.out
  have FS : Hid (SrcT v_5 sb w.heap.size a len cap (0 + 1)) := by rw [hw2]; exact SrcT.putB (by omega) (by omega) _ 0 FS.out
  have FK : Hid (Keeps sb w v_5) := by rw [hw2]; exact Keeps.putB (by omega) _ 0 FK.out
  clear hw2
  refine hK.out _ _ (by (try dsimp only); first | exact ⟨F2.out, F3.out⟩ | go_keep) (fun hHeld => ?_)
  clear hK K
  try simp only [Act.put, List.getElem_toArray, List.getElem_cons_succ, List.getElem_cons_zero, List.setIfInBounds_toArray, List.set_cons_zero, List.set_cons_succ]
  refine tkz 8 rfl ?_
  refine tkz 9 rfl ?_
  refine wpAnyH_done (by kernel_rfl) ?_ _
  have FB : Below w.heap.size w v_5 := FK.out.below (by omega) (Nat.le_refl _)
  have d0 := F0.out.c 0 _ rfl
  have d1 := F0.out.c 1 _ rfl
  have d2 := F0.out.c 2 _ rfl
  have d3 := F0.out.c 3 _ rfl
  have d4 := F0.out.c 4 _ rfl
  have d5 := F0.out.c 5 _ rfl
  have d6 := F0.out.c 6 _ rfl
  have d7 := F0.out.c 7 _ rfl
  have d8 := F0.out.c 8 _ rfl
  have d9 := F0.out.c 9 _ rfl
  have d10 := F0.out.c 10 _ rfl
  have d11 := F0.out.c 11 _ rfl
  have k0 := F1.out.c 0 _ rfl
  have k1 := F1.out.c 1 _ rfl
  have k2 := F1.out.c 2 _ rfl
  go_wp2_with fail
  exact bodyPost_ret (v := .tuple #[.agg #[.int .i64 h.fl, .int .i64 h.gp, .int .i64 h.ln, .int .i64 h.rf, .int .i64 h.sp, .int .i64 h.pu, .int .i64 h.br, .int .i64 h.dr, .int .i64 h.lv, .int .i64 h.dO, .int .i64 h.ld, .int .i64 h.qu], .agg #[.int .i64 c.pos, .int .i64 c.vel, .int .i64 c.door], .int .i64 f, .int .i64 v9]) (by simp [results, Try.results5, go_sem, d0, d1, d2, d3, d4, d5, d6, d7, d8, d9, d10, d11, k0, k1, k2]) rfl ⟨h, c, f, v9, rfl, HBD.out, FB⟩
end Go.Proofs.Ytgdhbkgpjeedhaa

namespace Go.Proofs.Ytgdhbkgpjeedhaa
open Go.RowKit Pl

theorem lwBig_no (a : Option Addr) (len cap : Nat) (h : len ≤ 1048576) (w : World) :
    Calls Try.prog 4 #[.slice a len cap] w fun e w' => e = .returned (.bool false) ∧ w' = w := by
  have hd : decide ((1048576 : Int) < (len : Int)) = false := decide_eq_false (by omega)
  go_enter Try.func4, Try.ntmps4
  go_wp2
  go_ret
  exact ⟨rfl, rfl⟩
theorem lwBig_yes (a : Option Addr) (len cap : Nat) (h : 1048576 < len) (hm : len ≤ maxLen) (w : World) :
    Calls Try.prog 4 #[.slice a len cap] w fun e w' => e = .returned (.bool true) ∧ w' = w := by
  unfold maxLen at hm
  have hd : decide ((1048576 : Int) < (len : Int)) = true := decide_eq_true (by omega)
  go_enter Try.func4, Try.ntmps4
  go_wp2
  go_ret
  exact ⟨rfl, rfl⟩

/-- What the shell of a law tells of a slice of bytes that came in. -/
def codeRow (w : World) (a : Option Addr) (len cap : Nat) (zs : List Int) : Prop :=
  (a = none ∧ len = 0 ∧ cap = 0 ∧ zs = []) ∨
  ∃ x, a = some x ∧ len ≤ cap ∧ cap ≤ maxLen ∧ zs.length = cap ∧ (∀ i, i < zs.length → w.cell? (x.add i) = some (.int .u8 (zs.getD i 0))) ∧ ∀ n ∈ zs, (Lit.int .u8 n).wf = true
/-- The bytes lie in a block that was there. -/
def CodeLt (w : World) (a : Option Addr) (len : Nat) : Prop := ∀ b off, a = some ⟨b, off, none⟩ → len ≠ 0 → b < w.heap.size
theorem codeLt_of {w : World} {a : Option Addr} {len cap : Nat} {zs : List Int} (h : codeRow w a len cap zs) : CodeLt w a len := by
  intro b off ha hl
  rcases h with ⟨h1, _⟩ | ⟨x, h1, h2, h3, h4, h5, _⟩
  · rw [h1] at ha; cases ha
  · rw [h1] at ha
    obtain rfl : x = ⟨b, off, none⟩ := by simpa using ha
    have hc0 := h5 0 (by omega)
    have := World.block_lt_of_cell? w _ hc0
    simpa [Addr.add] using this
theorem row_le {w : World} {a : Option Addr} {len cap : Nat} {zs : List Int} (h : codeRow w a len cap zs) : len ≤ maxLen := by
  rcases h with ⟨_, rfl, _, _⟩ | ⟨x, _, h1, h2, _⟩
  · exact Nat.zero_le _
  · omega
theorem codeIn_of {w : World} {a : Option Addr} {len cap : Nat} {zs : List Int} (h : codeRow w a len cap zs) (hl : len ≤ 1048576) (sb : Nat) (hsb : w.heap.size ≤ sb) : CodeIn w sb a len := by
  refine ⟨by omega, ?_⟩
  rcases h with ⟨_, rfl, _, _⟩ | ⟨x, rfl, h1, h2, h3, h4, h5⟩
  · exact Or.inl rfl
  · by_cases h0 : len = 0
    · exact Or.inl h0
    · obtain ⟨b, off, spot⟩ := x
      have hc0 := h4 0 (by omega)
      have hspot : spot = none := by simpa [Addr.add] using World.cell?_spot hc0
      subst hspot
      refine Or.inr ⟨b, off, rfl, ?_, fun i hi => ?_⟩
      · have := World.block_lt_of_cell? w _ hc0
        simp [Addr.add] at this
        omega
      · have hci := h4 i (by omega)
        have hw := getD_all (P := fun n => (Lit.int .u8 n).wf = true) h5 (i := i) (by omega)
        have e : Addr.add ⟨b, off, none⟩ i = ⟨b, off + i, none⟩ := by unfold Addr.add; split <;> simp_all
        rw [e] at hci
        exact ⟨_, hci, (bounds_u8 hw).1, (bounds_u8 hw).2⟩
/-- The bytes can be read as before where nothing that was there has turned. -/
theorem codeIn_below {w W W' : World} {a : Option Addr} {len : Nat} (h : ∀ sb, w.heap.size ≤ sb → CodeIn W sb a len) (hlt : CodeLt w a len) (hb : Below w.heap.size W W') : ∀ sb, w.heap.size ≤ sb → CodeIn W' sb a len := by
  intro sb hsb
  obtain ⟨h1, h2⟩ := h sb hsb
  refine ⟨h1, ?_⟩
  rcases h2 with h2 | ⟨b, off, h3, h4, h5⟩
  · exact Or.inl h2
  · by_cases h0 : len = 0
    · exact Or.inl h0
    · have hblt := hlt b off h3 h0
      refine Or.inr ⟨b, off, h3, h4, fun i hi => ?_⟩
      obtain ⟨z, hz, z1, z2⟩ := h5 i hi
      exact ⟨z, (hb.cell (p := ⟨b, off + i, none⟩) hblt).trans hz, z1, z2⟩
theorem codeIn_drawn {B : Nat} {W W' : World} {a : Option Addr} {len k : Nat} (h : ∀ sb, B ≤ sb → CodeIn W sb a len) (e : W' = W.drewN k) : ∀ sb, B ≤ sb → CodeIn W' sb a len := by
  rw [e]; exact h
theorem below_drawn {B : Nat} {w W W' : World} {k : Nat} (h : Below B w W) (e : W' = W.drewN k) : Below B w W' := by
  rw [e]; exact ⟨h.os, h.tape, h.output, h.size, h.block⟩
end Go.Proofs.Ytgdhbkgpjeedhaa

namespace Go.Proofs.Ytgdhbkgpjeedhaa
open Go.RowKit Pl
set_option linter.unusedVariables false

def Hs.fltB (h : Hs) (a b : Int) : Bool := flB h 3000 (absI (h.level b - h.level a)) 0
def Hs.fltK (h : Hs) (a b : Int) : Int := if Hs.fltB h a b = true then 0 else 2
def Hs.fltN (h : Hs) (a b : Int) : Int := if Hs.fltB h a b = true then flN h 3000 (absI (h.level b - h.level a)) 0 else 0
theorem fltN_bd (h : Hs) (a b : Int) : 0 ≤ Hs.fltN h a b ∧ Hs.fltN h a b ≤ 3000 := by
  have := flN_bd h 3000 (absI (h.level b - h.level a)) 0
  unfold Hs.fltN
  split <;> omega
def Hs.ftK (h : Hs) (a b : Int) : Int := if h.fault = 0 then (if inB a (-1) h.fl = true ∧ inB b (-1) h.fl = true then Hs.fltK h a b else 3) else h.fault
def Hs.ftV (h : Hs) (a b : Int) : Int := if h.fault = 0 then (if inB a (-1) h.fl = true ∧ inB b (-1) h.fl = true then Hs.fltN h a b else 0) else 0
theorem flt_there {h : Hs} {a b : Int} {n : Int} (hB : Hs.fltB h a b = true) (hN : flN h 3000 (absI (h.level b - h.level a)) 0 = n) : Hs.fltK h a b = 0 ∧ Hs.fltN h a b = n := by
  unfold Hs.fltK Hs.fltN
  rw [if_pos hB, if_pos hB]
  exact ⟨rfl, hN⟩
theorem flt_not {h : Hs} {a b : Int} (hB : Hs.fltB h a b = false) : Hs.fltK h a b = 2 ∧ Hs.fltN h a b = 0 := by
  unfold Hs.fltK Hs.fltN
  rw [hB]
  exact ⟨rfl, rfl⟩
theorem flt_start {h : Hs} (hf : h.fault = 0) {a b : Int} (a1 : -1 ≤ a) (a2 : a ≤ h.fl) : Fl h b ⟨h.level a, 0, 0⟩ (absI (h.level b - h.level a)) 0 := by
  have o : h.Ok := Hs.ok_of (Hs.fault_zero hf).1
  have l := level_in o a1 a2
  exact fl_start o l.1 l.2
theorem fl_carOk {h : Hs} (hf : h.fault = 0) {f : Int} {c : Cs} {d v : Int} (f1 : -1 ≤ f) (f2 : f ≤ h.fl) (F : Fl h f c d v) : CarOk h c :=
  Hs.car_zero (by rw [Hs.car_ok hf]; exact F.car hf f1 f2)
theorem car_far {h : Hs} {c : Cs} (k : CarOk h c) : -100000000 ≤ c.pos ∧ c.pos ≤ 100000000 ∧ -500 ≤ c.vel ∧ c.vel ≤ 500 := by
  have e := k.ok.ends; have a := k.p1; have b := k.p2; have d := k.v1; have g := k.v2; have s := k.ok.sp2
  omega
/-- The program's flight: a run with all the ticks that there are. -/
theorem flt_run {h : Hs} (hf : h.fault = 0) {a b : Int} (a1 : -1 ≤ a) (a2 : a ≤ h.fl) (b1 : -1 ≤ b) (b2 : b ≤ h.fl) : ∃ c', Hs.runK h b 3000 (3000 : Int).toNat ⟨h.level a, 0, 0⟩ 0 = (0, flN h 3000 (absI (h.level b - h.level a)) 0, c') ∧ CarOk h c' ∧ ((c'.vel == 0) && Hs.near h c' b) = Hs.fltB h a b := by
  obtain ⟨c', d', v', e1, e2, e3⟩ := run_fl hf b1 b2 3000 3000 _ 0 _ _ (flt_start hf (b := b) a1 a2) rfl
  rw [Int.zero_add] at e1
  exact ⟨c', e1, fl_carOk hf b1 b2 e2, e3⟩
theorem ret_twoF {a b c d : Int} (h : a = b) (k : c = d) : Ending.returned (.agg #[.int .i64 a, .int .i64 c]) = .returned (.agg #[.int .i64 b, .int .i64 d]) := by rw [h, k]
theorem load_blkF {ops : Array Oper} {rest : List Oper} {o : Oper} {act : Act} {w : World} {Q : Exit → Act → World → Prop} {b : Nat} {vs : List Value} (T : TypeId) (x : Operand) {fs : Array Field} (hu : Try.prog.underlying T = some (.struct fs)) (hi : (Try.prog.info? T).map (·.size) = some vs.toArray.size) (hB : Blk w b vs)
    (hgd : Region.wanted o (yielded ops act.tmps) = true) (ho : o.op = .load T x) (hx : act.eval x = .pointer (some ⟨b, 0, none⟩)) (h : wpList Try.prog ops Q rest (act.put o.dst (.agg vs.toArray)) w) : wpList Try.prog ops Q (o :: rest) act w := by
  obtain ⟨T', h'⟩ := hB.o
  exact wpList_step fun K hK => by simp only [hgd, if_true]; exact wp_load_row T x ho b hx T' vs.toArray (0, 0) (.struct fs) h' hu rfl hi (hK _ _ h)
theorem Blk.midF {w : World} {b : Nat} {vs : List Value} (hB : Blk w b vs) (o : Nat) (cs : List Value) (h : (vs.drop o).take cs.length = cs) : w.rangeAt b o cs := by
  intro j v hv
  have e : (vs.drop o)[j]? = some v := by
    rw [← h] at hv
    rw [List.getElem?_take] at hv
    split at hv
    · exact hv
    · cases hv
  rw [List.getElem?_drop] at e
  exact hB.c (o + j) v e
theorem load_midF {ops : Array Oper} {rest : List Oper} {op : Oper} {a : Act} {w : World} {Q : Exit → Act → World → Prop} {b : Nat} {vs : List Value} (T : TypeId) (x : Operand) (o : Nat) (cs : List Value) {fs : Array Field} (hu : Try.prog.underlying T = some (.struct fs)) (hi : (Try.prog.info? T).map (·.size) = some cs.length) (hB : Blk w b vs) (hc : (vs.drop o).take cs.length = cs)
    (hgd : op.guard = none) (ho : op.op = .load T x) (hx : a.eval x = .pointer (some ⟨b, o, none⟩)) (h : wpList Try.prog ops Q rest (a.put op.dst (.agg cs.toArray)) w) : wpList Try.prog ops Q (op :: rest) a w :=
  wpList_load_mid hgd T x ho b o hx cs (.struct fs) (hB.midF o cs hc) hu rfl hi h
end Go.Proofs.Ytgdhbkgpjeedhaa

namespace Go.Proofs.Ytgdhbkgpjeedhaa
open Go.RowKit Pl
set_option linter.unusedSimpArgs false
set_option linter.unusedVariables false

theorem forC_cmd {h : Hs} (hf : h.fault = 0) (c : Cs) (f : Int) : h.cmd (Hs.forC h c f) = 0 := by
  have o := Hs.ok_of (Hs.fault_zero hf).1
  have p1 := o.pu1
  have key : ∀ (x : Cm), -h.pu ≤ x.push → x.push ≤ h.pu → x.bad = false → h.cmd x = 0 := by
    intro x a b q
    rw [Hs.cmd_ok hf]
    unfold Hs.cmdC
    rw [if_pos (inB_yes a b), q]
    rfl
  unfold Hs.forC
  split
  · exact key _ (by dsimp only; omega) (by dsimp only; omega) rfl
  · split
    · have := Hs.upP_bd o (-c.vel) (-(h.level f - c.pos))
      exact key _ (by dsimp only; omega) (by dsimp only; omega) rfl
    · have := Hs.upP_bd o c.vel (h.level f - c.pos)
      exact key _ (by dsimp only; omega) (by dsimp only; omega) rfl
/-- A car moves by its speed. -/
theorem step_by {h : Hs} {c : Cs} {f : Int} (dz : c.door = 0) : (stepC h c (Hs.forC h c f) 0).pos = c.pos + (stepC h c (Hs.forC h c f) 0).vel := by
  have eo : (Hs.forC h c f).opn = false := by unfold Hs.forC; split; rfl; split <;> rfl
  unfold stepC
  rw [eo, if_neg (by simp [dz])]
  split <;> rfl
theorem absI_le {x d : Int} (h : x = d ∨ x = -d) (d0 : 0 ≤ d) : absI x = d := by unfold absI; split <;> omega
/-- A run that is under way: behind n of its N ticks; it ends at g. -/
structure Rn (h : Hs) (f p B N : Int) (g : Cs) (n : Int) (c : Cs) (d v : Int) : Prop where
  fl : Fl h f c d v
  b : flB h (B - n).toNat d v = true
  nn : N = n + flN h (B - n).toNat d v
  rk : Hs.runK h f B (B - n).toNat c n = (0, N, g)
  s1 : p ≤ h.level f → c.pos ≤ h.level f
  s2 : h.level f ≤ p → h.level f ≤ c.pos
  n0 : 0 ≤ n
  nN : n ≤ N
theorem flt_away {h : Hs} (o : h.Ok) {f : Int} {c : Cs} {d v : Int} (F : Fl h f c d v) : absI (h.level f - c.pos) = d := by
  have d0 := F.g.d0 o
  rcases F.at_ with ⟨a, _, _⟩ | ⟨a, _, _⟩
  · exact absI_le (Or.inl (by omega)) d0
  · exact absI_le (Or.inr (by omega)) d0
theorem rn_start {h : Hs} {f p : Int} (hc : h.car ⟨p, 0, 0⟩ = 0) (f1 : -1 ≤ f) (f2 : f ≤ h.fl) : ∃ N g d, Hs.runK h f h.run h.run.toNat ⟨p, 0, 0⟩ 0 = (0, N, g) ∧ 0 ≤ N ∧ N ≤ h.run ∧ Hs.reachB h g f = true ∧ h.car g = 0 ∧ Rn h f p h.run N g 0 ⟨p, 0, 0⟩ d 0 := by
  have k := Hs.car_zero hc
  have o := k.ok
  have hf := k.hf
  have l := level_in o f1 f2
  have r := o.run_bd
  have p1 := k.p1; have p2 := k.p2
  dsimp only at p1 p2
  have F : Fl h f ⟨p, 0, 0⟩ (absI (h.level f - p)) 0 := fl_start o p1 p2
  have d0 := F.g.d0 o
  have d1 : absI (h.level f - p) ≤ h.high - h.low := by unfold absI; split <;> omega
  have B := run_bound o d0 d1
  obtain ⟨g, d', v', e1, e2, e3⟩ := run_fl hf f1 f2 h.run h.run.toNat _ 0 _ _ F (by omega)
  have nb := flN_bd h h.run.toNat (absI (h.level f - p)) 0
  rw [Int.zero_add] at e1
  have et : (h.run - 0).toNat = h.run.toNat := by omega
  refine ⟨_, g, absI (h.level f - p), e1, nb.1, by omega, by rw [e3, B], by rw [Hs.car_ok hf]; exact e2.car hf f1 f2, ?_⟩
  exact ⟨F, by rw [et]; exact B, by rw [et]; omega, by rw [et]; exact e1, fun q => q, fun q => q, by omega, nb.1⟩
theorem Rn.next {h : Hs} (hf : h.fault = 0) {f p B N : Int} (f1 : -1 ≤ f) (f2 : f ≤ h.fl) {g : Cs} {n : Int} {c : Cs} {d v : Int} (R : Rn h f p B N g n c d v) (hn : n < N) :
    Rn h f p B N g (n + 1) (stepC h c (Hs.forC h c f) 0) (nD h d v) (nV h d v) ∧ absI (h.level f - (stepC h c (Hs.forC h c f) 0).pos) ≤ absI (h.level f - c.pos) := by
  have o : h.Ok := Hs.ok_of (Hs.fault_zero hf).1
  have F2 := R.fl.step o f1 f2
  have nb := nV_bd o R.fl.g
  have d0 := R.fl.g.d0 o
  have nd0 := F2.g.d0 o
  have eD : nD h d v = d - nV h d v := rfl
  have sb := step_by (h := h) (f := f) R.fl.dz
  have nc : ¬ (v = 0 ∧ d ≤ h.lv) := fun c => by have := R.nn; rw [flN_there c] at this; omega
  have kp : (B - n).toNat = (B - (n + 1)).toNat + 1 := by
    have q := R.nn
    have w := flN_bd h (B - n).toNat d v
    omega
  have hr : Hs.reachB h c f = false := by rw [R.fl.reach o]; exact decide_eq_false nc
  have eb := R.b; have en := R.nn; have ek := R.rk
  rw [kp, flB_go nc] at eb
  rw [kp, flN_go nc] at en
  rw [kp, runK_go ⟨by omega, hr⟩ (F2.car hf f1 f2)] at ek
  have wb := flN_bd h (B - (n + 1)).toNat (nD h d v) (nV h d v)
  refine ⟨⟨F2, eb, by omega, ek, fun q => ?_, fun q => ?_, by have := R.n0; omega, by omega⟩, by rw [flt_away o F2, flt_away o R.fl]; omega⟩
  · have a := R.s1 q
    rcases F2.at_ with ⟨x, _, _⟩ | ⟨x, y, _⟩
    · omega
    · omega
  · have a := R.s2 q
    rcases F2.at_ with ⟨x, y, _⟩ | ⟨x, _, _⟩
    · omega
    · omega
theorem Rn.last {h : Hs} (hf : h.fault = 0) {f p B N : Int} {g : Cs} {n : Int} {c : Cs} {d v : Int} (R : Rn h f p B N g n c d v) (hn : ¬ n < N) : c = g := by
  have o : h.Ok := Hs.ok_of (Hs.fault_zero hf).1
  have e : flN h (B - n).toNat d v = 0 := by have := R.nn; have := R.nN; omega
  have b := R.b
  have hc : v = 0 ∧ d ≤ h.lv := by
    cases k : (B - n).toNat with
    | zero => rw [k] at b; exact of_decide_eq_true b
    | succ k' =>
      by_cases c : v = 0 ∧ d ≤ h.lv
      · exact c
      · rw [k, flN_go c] at e
        have := flN_bd h k' (nD h d v) (nV h d v)
        omega
  have r : Hs.reachB h c f = true := by rw [R.fl.reach o]; exact decide_eq_true hc
  have q := R.rk
  rw [runK_stop (by simp [r])] at q
  exact congrArg (fun z => z.2.2) q
theorem far_zero {h : Hs} {c : Cs} {f : Int} (e : Hs.farK h c f = 0) : h.car c = 0 ∧ inB f (-1) h.fl = true := by
  unfold Hs.farK at e
  split at e
  · rename_i k
    split at e
    · rename_i i; exact ⟨k, i⟩
    · cases e
  · rename_i k; exact absurd e k
def Hs.rbV (h : Hs) : Int := if h.fault = 0 then h.run else 0
theorem fieldR0 (k a : Int) (w : World) : (Instr.field 31 (.agg #[.int .i64 k, .int .i64 a]) 0).run Try.prog w = .ok (.int .i64 k) w := by kernel_rfl
theorem fieldRv (k a : Int) (w : World) : (Instr.field 31 (.agg #[.int .i64 k, .int .i64 a]) 1).run Try.prog w = .ok (.int .i64 a) w := by kernel_rfl
theorem ite_andC (x y : Int) (c : Bool) (w : World) : (if x = y then Result.ok (Value.bool c) w else Result.ok (Value.bool false) w) = Result.ok (Value.bool (x == y && c)) w := by
  by_cases h : x = y <;> simp [h]
theorem eq_car (a : Cs) (w : World) : (binOp .eql 27 (.agg #[.int .i64 a.pos, .int .i64 a.vel, .int .i64 a.door]) (.agg #[.int .i64 a.pos, .int .i64 a.vel, .int .i64 a.door])).run Try.prog w = .ok (.bool true) w := by
  rw [run_eql_struct]
  rw [run_equalIn_struct _ _ _ _ _ (by kernel_rfl) (by kernel_rfl)]
  simp only [Program.fieldsOf, Try.underlying27]
  simp [Op.eqFields, go_sem, Try.underlying2]
theorem runBound_all (h : Hs) (w : World) : Calls Try.prog 6 #[.agg #[.int .i64 h.fl, .int .i64 h.gp, .int .i64 h.ln, .int .i64 h.rf, .int .i64 h.sp, .int .i64 h.pu, .int .i64 h.br, .int .i64 h.dr, .int .i64 h.lv, .int .i64 h.dO, .int .i64 h.ld, .int .i64 h.qu]] w (isAns w h.fault (Hs.rbV h)) := by
  unfold Hs.rbV
  by_cases hf : h.fault = 0
  · have z := implRunBound_yes h hf w
    rw [if_pos hf, hf]; exact z
  · have z := implRunBound_no h hf w
    rw [if_neg hf]; exact z
theorem lwAbs_r (a : Int) (h1 : -9223372036854775807 ≤ a) (h2 : a ≤ 9223372036854775807) (w : World) :
    Calls Try.prog 14 #[.int .i64 a] w fun e w' => e = .returned (.int .i64 (absI a)) ∧ w' = w := by
  by_cases h : a < 0
  · have e : Hid (absI a = -a) := by unfold absI; rw [if_pos h]; exact rfl
    go_enter Try.func14, Try.ntmps14
    go_wp2
    go_ret
    exact ⟨ret_int e.out.symm, rfl⟩
  · have e : Hid (absI a = a) := by unfold absI; rw [if_neg h]; exact rfl
    go_enter Try.func14, Try.ntmps14
    go_wp2
    go_ret
    exact ⟨ret_int e.out.symm, rfl⟩
/-- What a tick makes of a car without a fault. -/
structure Ticked (h : Hs) (c g : Cs) : Prop where
  shut : c.door ≠ 0 → g.pos = c.pos ∧ g.vel = 0
  still : g.door ≠ 0 → g.vel = 0 ∧ g.pos = c.pos
  d1 : -1 ≤ g.door - c.door
  d2 : g.door - c.door ≤ 1
  d3 : 0 ≤ g.door
  d4 : g.door ≤ h.dO
  on : g.pos - c.pos = g.vel
  v1 : -500 ≤ g.vel
  v2 : g.vel ≤ 500
theorem load_midG {ops : Array Oper} {rest : List Oper} {op : Oper} {a : Act} {w : World} {Q : Exit → Act → World → Prop} {b : Nat} {vs : List Value} (T : TypeId) (x : Operand) (o : Nat) (cs : List Value) {fs : Array Field} (hu : Try.prog.underlying T = some (.struct fs)) (hi : (Try.prog.info? T).map (·.size) = some cs.length) (hB : Blk w b vs) (hc : (vs.drop o).take cs.length = cs)
    (hgd : Region.wanted op (yielded ops a.tmps) = true) (ho : op.op = .load T x) (hx : a.eval x = .pointer (some ⟨b, o, none⟩)) (h : wpList Try.prog ops Q rest (a.put op.dst (.agg cs.toArray)) w) : wpList Try.prog ops Q (op :: rest) a w :=
  wpList_step fun K hK => by simp only [hgd, if_true]; exact wp_load_mid T x ho b o hx cs (.struct fs) (hB.midF o cs hc) hu rfl hi (hK _ _ h)
end Go.Proofs.Ytgdhbkgpjeedhaa

namespace Go.Proofs.Ytgdhbkgpjeedhaa
open Go.RowKit Pl
set_option linter.unusedSimpArgs false
set_option linter.unusedVariables false

set_option maxRecDepth 20000 in
set_option maxHeartbeats 32000000 in
theorem runs_walk (a0 : Option Addr) (len0 cap0 : Nat) (w : World) (hc : CodeIn w w.heap.size a0 len0) (hbig : len0 ≤ 1048576) :
    Calls Try.prog 3 #[.slice a0 len0 cap0] w fun e w' => e = .returned (.bool true) ∧ Below w.heap.size w w' := by
  have HC : Hid (CodeIn w w.heap.size a0 len0) := hc
  clear hc
  go_enter Try.func3, Try.ntmps3
  go_upto_region 4 with (first | (go_at_call 4; refine (lwBig_no _ _ _ hbig _).mono ?_; rintro e w' ⟨rfl, hw⟩; obtain rfl := hw.symm; clear hw) | (go_at_call 5; refine (DrawRunTo_any a0 len0 cap0 _ HC.out).mono ?_; rintro e w1 ⟨h, c, f, t, rfl, -, hb⟩; have FB : Hid (Below w.heap.size w w1) := hb; clear hb))
  clear HC hbig
  obtain ⟨b0, hb0⟩ : ∃ b0, b0 = w1.heap.size := ⟨_, rfl⟩
  obtain ⟨b1, hb1⟩ : ∃ b1, b1 = b0 + 1 := ⟨_, rfl⟩
  obtain ⟨w2, hw2⟩ : ∃ w2, w2 = (w1.alloc (.cells #[.int .i64 h.fl, .int .i64 h.gp, .int .i64 h.ln, .int .i64 h.rf, .int .i64 h.sp, .int .i64 h.pu, .int .i64 h.br, .int .i64 h.dr, .int .i64 h.lv, .int .i64 h.dO, .int .i64 h.ld, .int .i64 h.qu] 25)).alloc (.cells #[.int .i64 c.pos, .int .i64 c.vel, .int .i64 c.door] 27) := ⟨_, rfl⟩
  have F0 : Hid (Blk w2 b0 [.int .i64 h.fl, .int .i64 h.gp, .int .i64 h.ln, .int .i64 h.rf, .int .i64 h.sp, .int .i64 h.pu, .int .i64 h.br, .int .i64 h.dr, .int .i64 h.lv, .int .i64 h.dO, .int .i64 h.ld, .int .i64 h.qu]) := by rw [hw2]; exact (Blk.at_ w1 #[.int .i64 h.fl, .int .i64 h.gp, .int .i64 h.ln, .int .i64 h.rf, .int .i64 h.sp, .int .i64 h.pu, .int .i64 h.br, .int .i64 h.dr, .int .i64 h.lv, .int .i64 h.dO, .int .i64 h.ld, .int .i64 h.qu] _ _ hb0).alloc _
  have F1 : Hid (Blk w2 b1 [.int .i64 c.pos, .int .i64 c.vel, .int .i64 c.door]) := by rw [hw2]; exact Blk.at_ _ #[.int .i64 c.pos, .int .i64 c.vel, .int .i64 c.door] _ _ (by simp; omega)
  have leb1 : w.heap.size ≤ b1 := by have := FB.out.size; omega
  have FB : Hid (Below w.heap.size w w2) := by rw [hw2]; exact (FB.out.alloc FB.out.size _).alloc (by have := FB.out.size; simp; omega) _
  have l01 : b0 < b1 := by omega
  (try simp only [Act.put])
  rw [← hb0, ← hb1, ← hw2]
  clear hb0 hb1 hw2
  have yf := F1.out.f 1 (Nat.le_of_ble_eq_true rfl)
  have yc := F1.out.c 1 _ rfl
  go_upto_region 5 with fail
  clear yf yc
  obtain ⟨w3, hw2⟩ : ∃ w3, w3 = w2.setCell ⟨b1, 1, none⟩ (.int .i64 0) := ⟨_, rfl⟩
  rw [← hw2]
  have F0 : Hid (Blk w3 b0 [.int .i64 h.fl, .int .i64 h.gp, .int .i64 h.ln, .int .i64 h.rf, .int .i64 h.sp, .int .i64 h.pu, .int .i64 h.br, .int .i64 h.dr, .int .i64 h.lv, .int .i64 h.dO, .int .i64 h.ld, .int .i64 h.qu]) := by rw [hw2]; exact Blk.putB_other (by omega) [.int .i64 0] 1 F0.out
  have F1 : Hid (Blk w3 b1 [.int .i64 c.pos, .int .i64 0, .int .i64 c.door]) := by rw [hw2]; exact putB_set [.int .i64 0] _ 1 w2 F1.out (Nat.le_of_ble_eq_true rfl)
  have FB : Hid (Below w.heap.size w w3) := by rw [hw2]; exact below_putB FB.out (by omega) [.int .i64 0] 1
  clear hw2
  obtain ⟨KF, hKF⟩ : ∃ K, Hs.farK h ⟨c.pos, 0, c.door⟩ f = K := ⟨_, rfl⟩
  obtain ⟨VF, hVF⟩ : ∃ K, Hs.farV h ⟨c.pos, 0, c.door⟩ f = K := ⟨_, rfl⟩
  have C1 : ∀ W, Calls Try.prog 7 #[.agg #[.int .i64 h.fl, .int .i64 h.gp, .int .i64 h.ln, .int .i64 h.rf, .int .i64 h.sp, .int .i64 h.pu, .int .i64 h.br, .int .i64 h.dr, .int .i64 h.lv, .int .i64 h.dO, .int .i64 h.ld, .int .i64 h.qu], .agg #[.int .i64 c.pos, .int .i64 0, .int .i64 c.door], .int .i64 f] W (isAns W KF VF) := fun W => by have q := implFarOf_all h ⟨c.pos, 0, c.door⟩ f W; rw [hKF, hVF] at q; exact q
  have C2 : ∀ W, Calls Try.prog 8 #[.agg #[.int .i64 h.fl, .int .i64 h.gp, .int .i64 h.ln, .int .i64 h.rf, .int .i64 h.sp, .int .i64 h.pu, .int .i64 h.br, .int .i64 h.dr, .int .i64 h.lv, .int .i64 h.dO, .int .i64 h.ld, .int .i64 h.qu], .agg #[.int .i64 c.pos, .int .i64 0, .int .i64 c.door], .int .i64 f] W (isAns W KF VF) := fun W => by have q := specFarOf_all h ⟨c.pos, 0, c.door⟩ f W; rw [hKF, hVF] at q; exact q
  have HKF : Hid (Hs.farK h ⟨c.pos, 0, c.door⟩ f = KF) := hKF
  obtain ⟨KB, hKB⟩ : ∃ K, h.fault = K := ⟨_, rfl⟩
  obtain ⟨VB, hVB⟩ : ∃ K, Hs.rbV h = K := ⟨_, rfl⟩
  have HVB : Hid (Hs.rbV h = VB) := hVB
  have CB : ∀ W, Calls Try.prog 6 #[.agg #[.int .i64 h.fl, .int .i64 h.gp, .int .i64 h.ln, .int .i64 h.rf, .int .i64 h.sp, .int .i64 h.pu, .int .i64 h.br, .int .i64 h.dr, .int .i64 h.lv, .int .i64 h.dO, .int .i64 h.ld, .int .i64 h.qu]] W (isAns W KB VB) := fun W => by have q := runBound_all h W; rw [hKB, hVB] at q; exact q
  clear hKF hVF hKB hVB
  go_upto_region 6 with (first | (refine load_blk 25 _ Try.underlying25 (by kernel_rfl) F0.out rfl rfl rfl ?_) | (go_at_call 6; refine (CB _).mono ?_; rintro e w4 ⟨rfl, hb⟩; have F0 : Hid (Blk w4 b0 [.int .i64 h.fl, .int .i64 h.gp, .int .i64 h.ln, .int .i64 h.rf, .int .i64 h.sp, .int .i64 h.pu, .int .i64 h.br, .int .i64 h.dr, .int .i64 h.lv, .int .i64 h.dO, .int .i64 h.ld, .int .i64 h.qu]) := F0.out.below hb F0.out.lt; have F1 : Hid (Blk w4 b1 [.int .i64 c.pos, .int .i64 0, .int .i64 c.door]) := F1.out.below hb F1.out.lt; have FB : Hid (Below w.heap.size w w4) := FB.out.trans (hb.mono FB.out.size); clear hb) | (refine store_new [.int .i64 KB, .int .i64 VB] 31 _ _ (by kernel_rfl) (by kernel_rfl) (by kernel_rfl) rfl rfl rfl rfl ?_))
  have FB0 := FB
  obtain ⟨b2, hbb⟩ : ∃ b2, b2 = w4.heap.size := ⟨_, rfl⟩
  obtain ⟨w5, hw2⟩ : ∃ w5, w5 = w4.alloc (.cells #[.int .i64 KB, .int .i64 VB] 31) := ⟨_, rfl⟩
  have nb2b0 : b0 < b2 := by rw [hbb]; exact F0.out.lt
  have nb2b1 : b1 < b2 := by rw [hbb]; exact F1.out.lt
  have F0 : Hid (Blk w5 b0 [.int .i64 h.fl, .int .i64 h.gp, .int .i64 h.ln, .int .i64 h.rf, .int .i64 h.sp, .int .i64 h.pu, .int .i64 h.br, .int .i64 h.dr, .int .i64 h.lv, .int .i64 h.dO, .int .i64 h.ld, .int .i64 h.qu]) := by rw [hw2]; exact F0.out.alloc _
  have F1 : Hid (Blk w5 b1 [.int .i64 c.pos, .int .i64 0, .int .i64 c.door]) := by rw [hw2]; exact F1.out.alloc _
  have F2 : Hid (Blk w5 b2 [.int .i64 KB, .int .i64 VB]) := by rw [hw2]; exact Blk.at_ w4 #[.int .i64 KB, .int .i64 VB] _ _ hbb
  have FB : Hid (Below w.heap.size w w5) := by rw [hw2]; exact FB.out.alloc FB.out.size _
  have leb2 : w.heap.size ≤ b2 := by rw [hbb]; exact FB0.out.size
  (try simp only [Act.put])
  rw [← hw2, ← hbb]
  clear hbb hw2 FB0
  go_upto_region 7 with (first | (refine load_blk 25 _ Try.underlying25 (by kernel_rfl) F0.out rfl rfl rfl ?_) | (refine load_blk 27 _ Try.underlying27 (by kernel_rfl) F1.out rfl rfl rfl ?_) | (go_at_call 7; refine (C1 _).mono ?_; rintro e w6 ⟨rfl, hb⟩; have F0 : Hid (Blk w6 b0 [.int .i64 h.fl, .int .i64 h.gp, .int .i64 h.ln, .int .i64 h.rf, .int .i64 h.sp, .int .i64 h.pu, .int .i64 h.br, .int .i64 h.dr, .int .i64 h.lv, .int .i64 h.dO, .int .i64 h.ld, .int .i64 h.qu]) := F0.out.below hb F0.out.lt; have F1 : Hid (Blk w6 b1 [.int .i64 c.pos, .int .i64 0, .int .i64 c.door]) := F1.out.below hb F1.out.lt; have F2 : Hid (Blk w6 b2 [.int .i64 KB, .int .i64 VB]) := F2.out.below hb F2.out.lt; have FB : Hid (Below w.heap.size w w6) := FB.out.trans (hb.mono FB.out.size); clear hb) | (refine store_new [.int .i64 KF, .int .i64 VF] 31 _ _ (by kernel_rfl) (by kernel_rfl) (by kernel_rfl) rfl rfl rfl rfl ?_))
  have FB0 := FB
  obtain ⟨b3, hbb⟩ : ∃ b3, b3 = w6.heap.size := ⟨_, rfl⟩
  obtain ⟨w7, hw2⟩ : ∃ w7, w7 = w6.alloc (.cells #[.int .i64 KF, .int .i64 VF] 31) := ⟨_, rfl⟩
  have nb3b0 : b0 < b3 := by rw [hbb]; exact F0.out.lt
  have nb3b1 : b1 < b3 := by rw [hbb]; exact F1.out.lt
  have nb3b2 : b2 < b3 := by rw [hbb]; exact F2.out.lt
  have F0 : Hid (Blk w7 b0 [.int .i64 h.fl, .int .i64 h.gp, .int .i64 h.ln, .int .i64 h.rf, .int .i64 h.sp, .int .i64 h.pu, .int .i64 h.br, .int .i64 h.dr, .int .i64 h.lv, .int .i64 h.dO, .int .i64 h.ld, .int .i64 h.qu]) := by rw [hw2]; exact F0.out.alloc _
  have F1 : Hid (Blk w7 b1 [.int .i64 c.pos, .int .i64 0, .int .i64 c.door]) := by rw [hw2]; exact F1.out.alloc _
  have F2 : Hid (Blk w7 b2 [.int .i64 KB, .int .i64 VB]) := by rw [hw2]; exact F2.out.alloc _
  have F3 : Hid (Blk w7 b3 [.int .i64 KF, .int .i64 VF]) := by rw [hw2]; exact Blk.at_ w6 #[.int .i64 KF, .int .i64 VF] _ _ hbb
  have FB : Hid (Below w.heap.size w w7) := by rw [hw2]; exact FB.out.alloc FB.out.size _
  have leb3 : w.heap.size ≤ b3 := by rw [hbb]; exact FB0.out.size
  (try simp only [Act.put])
  rw [← hw2, ← hbb]
  clear hbb hw2 FB0
  clear C1 CB
  have x30 := F3.out.c 0 _ rfl
  have x12 := F1.out.c 2 _ rfl
  have x21 := F2.out.c 1 _ rfl
  have hee : (KF == KF) = true := by simp
  have fb := fieldR0
  have fv := fieldRv
  by_cases hk : KF = 0
  case neg =>
    have hn : (KF != 0) = true := by simpa using hk
    go_upto_region 8 with fail
    clear x30 x12 x21
    have F0 : Hid (Blk w7.drew b0 [.int .i64 h.fl, .int .i64 h.gp, .int .i64 h.ln, .int .i64 h.rf, .int .i64 h.sp, .int .i64 h.pu, .int .i64 h.br, .int .i64 h.dr, .int .i64 h.lv, .int .i64 h.dO, .int .i64 h.ld, .int .i64 h.qu]) := F0.out.below (Below.refl _ _).drew F0.out.lt
    have F1 : Hid (Blk w7.drew b1 [.int .i64 c.pos, .int .i64 0, .int .i64 c.door]) := F1.out.below (Below.refl _ _).drew F1.out.lt
    have F2 : Hid (Blk w7.drew b2 [.int .i64 KB, .int .i64 VB]) := F2.out.below (Below.refl _ _).drew F2.out.lt
    have F3 : Hid (Blk w7.drew b3 [.int .i64 KF, .int .i64 VF]) := F3.out.below (Below.refl _ _).drew F3.out.lt
    have FB : Hid (Below w.heap.size w w7.drew) := FB.out.drew
    refine wp_region_held_drew (S := (fun w'' => Blk w'' b0 ([.int .i64 h.fl, .int .i64 h.gp, .int .i64 h.ln, .int .i64 h.rf, .int .i64 h.sp, .int .i64 h.pu, .int .i64 h.br, .int .i64 h.dr, .int .i64 h.lv, .int .i64 h.dO, .int .i64 h.ld, .int .i64 h.qu]) ∧ Blk w'' b1 ([.int .i64 c.pos, .int .i64 0, .int .i64 c.door]) ∧ Blk w'' b3 ([.int .i64 KF, .int .i64 VF]))) (by kernel_rfl) (by (try dsimp only); first | exact ⟨F0.out, F1.out, F3.out⟩ | go_keep) (fun hHeld => ?_)
    obtain ⟨v_1, hw1⟩ : ∃ v_1, v_1 = w7.drew := ⟨_, rfl⟩
    have F0 : Hid (Blk v_1 b0 [.int .i64 h.fl, .int .i64 h.gp, .int .i64 h.ln, .int .i64 h.rf, .int .i64 h.sp, .int .i64 h.pu, .int .i64 h.br, .int .i64 h.dr, .int .i64 h.lv, .int .i64 h.dO, .int .i64 h.ld, .int .i64 h.qu]) := by rw [hw1]; exact F0.out
    have F1 : Hid (Blk v_1 b1 [.int .i64 c.pos, .int .i64 0, .int .i64 c.door]) := by rw [hw1]; exact F1.out
    have F2 : Hid (Blk v_1 b2 [.int .i64 KB, .int .i64 VB]) := by rw [hw1]; exact F2.out
    have F3 : Hid (Blk v_1 b3 [.int .i64 KF, .int .i64 VF]) := by rw [hw1]; exact F3.out
    have FB : Hid (Below w.heap.size w v_1) := by rw [hw1]; exact FB.out
    rw [← hw1] at hHeld ⊢
    clear hw1
    refine tkz 0 rfl ?_ (hy := Or.inl ⟨by kernel_rfl, fun wx hSw => exec_load_blk 25 _ Try.underlying25 (by kernel_rfl) rfl rfl hSw.1⟩)
    refine tkz 1 rfl ?_ (hy := Or.inl ⟨by kernel_rfl, fun wx hSw => exec_load_blk 27 _ Try.underlying27 (by kernel_rfl) rfl rfl hSw.2.1⟩)
    refine tkz 2 rfl ?_
    refine tkz 5 rfl ?_
    refine tkz 6 rfl ?_ (hy := Or.inl ⟨by kernel_rfl, by (intro wx hSw; have hq2_0 := hSw.2.2.c 0 _ rfl; (try dsimp only at hSw); go_simp <;> with_reducible rfl)⟩)
    refine wpAnyH_ready (rs := [3]) (by kernel_rfl) (by simp) ?_
    refine (AllReadyH.cons rfl (fun K hK => ?_) AllReadyH.nil)
    go_simp
    refine (C2 _).mono ?_
    rintro e v_2 ⟨rfl, hb⟩
    have F0 : Hid (Blk v_2 b0 [.int .i64 h.fl, .int .i64 h.gp, .int .i64 h.ln, .int .i64 h.rf, .int .i64 h.sp, .int .i64 h.pu, .int .i64 h.br, .int .i64 h.dr, .int .i64 h.lv, .int .i64 h.dO, .int .i64 h.ld, .int .i64 h.qu]) := F0.out.below hb F0.out.lt
    have F1 : Hid (Blk v_2 b1 [.int .i64 c.pos, .int .i64 0, .int .i64 c.door]) := F1.out.below hb F1.out.lt
    have F2 : Hid (Blk v_2 b2 [.int .i64 KB, .int .i64 VB]) := F2.out.below hb F2.out.lt
    have F3 : Hid (Blk v_2 b3 [.int .i64 KF, .int .i64 VF]) := F3.out.below hb F3.out.lt
    have FB : Hid (Below w.heap.size w v_2) := FB.out.trans (hb.mono FB.out.size)
    clear hb
    try dsimp only
    refine hK.out _ _ (by (try dsimp only); first | exact ⟨F0.out, F1.out, F3.out⟩ | go_keep) (fun hHeld => ?_)
    clear hK K
    try simp only [Act.put, List.getElem_toArray, List.getElem_cons_succ, List.getElem_cons_zero, List.setIfInBounds_toArray, List.set_cons_zero, List.set_cons_succ]
    refine tkz 4 rfl ?_
    refine tkz 7 rfl ?_
    refine tkz 8 rfl ?_
    refine wpAnyH_done (by kernel_rfl) ?_ _
    go_wp2
    go_ret
    exact ⟨by first | rfl | simp, FB.out⟩
  case pos =>
  have hn : (KF != 0) = false := by simpa using hk
  have HKZ : Hid (KF = 0) := hk
  clear hk
  by_cases hdz : c.door = 0
  case neg =>
    have hn2 : (c.door != 0) = true := by simpa using hdz
    go_upto_region 8 with fail
    clear x30 x12 x21
    have F0 : Hid (Blk w7.drew b0 [.int .i64 h.fl, .int .i64 h.gp, .int .i64 h.ln, .int .i64 h.rf, .int .i64 h.sp, .int .i64 h.pu, .int .i64 h.br, .int .i64 h.dr, .int .i64 h.lv, .int .i64 h.dO, .int .i64 h.ld, .int .i64 h.qu]) := F0.out.below (Below.refl _ _).drew F0.out.lt
    have F1 : Hid (Blk w7.drew b1 [.int .i64 c.pos, .int .i64 0, .int .i64 c.door]) := F1.out.below (Below.refl _ _).drew F1.out.lt
    have F2 : Hid (Blk w7.drew b2 [.int .i64 KB, .int .i64 VB]) := F2.out.below (Below.refl _ _).drew F2.out.lt
    have F3 : Hid (Blk w7.drew b3 [.int .i64 KF, .int .i64 VF]) := F3.out.below (Below.refl _ _).drew F3.out.lt
    have FB : Hid (Below w.heap.size w w7.drew) := FB.out.drew
    refine wp_region_held_drew (S := (fun w'' => Blk w'' b0 ([.int .i64 h.fl, .int .i64 h.gp, .int .i64 h.ln, .int .i64 h.rf, .int .i64 h.sp, .int .i64 h.pu, .int .i64 h.br, .int .i64 h.dr, .int .i64 h.lv, .int .i64 h.dO, .int .i64 h.ld, .int .i64 h.qu]) ∧ Blk w'' b1 ([.int .i64 c.pos, .int .i64 0, .int .i64 c.door]) ∧ Blk w'' b3 ([.int .i64 KF, .int .i64 VF]))) (by kernel_rfl) (by (try dsimp only); first | exact ⟨F0.out, F1.out, F3.out⟩ | go_keep) (fun hHeld => ?_)
    obtain ⟨v_3, hw1⟩ : ∃ v_3, v_3 = w7.drew := ⟨_, rfl⟩
    have F0 : Hid (Blk v_3 b0 [.int .i64 h.fl, .int .i64 h.gp, .int .i64 h.ln, .int .i64 h.rf, .int .i64 h.sp, .int .i64 h.pu, .int .i64 h.br, .int .i64 h.dr, .int .i64 h.lv, .int .i64 h.dO, .int .i64 h.ld, .int .i64 h.qu]) := by rw [hw1]; exact F0.out
    have F1 : Hid (Blk v_3 b1 [.int .i64 c.pos, .int .i64 0, .int .i64 c.door]) := by rw [hw1]; exact F1.out
    have F2 : Hid (Blk v_3 b2 [.int .i64 KB, .int .i64 VB]) := by rw [hw1]; exact F2.out
    have F3 : Hid (Blk v_3 b3 [.int .i64 KF, .int .i64 VF]) := by rw [hw1]; exact F3.out
    have FB : Hid (Below w.heap.size w v_3) := by rw [hw1]; exact FB.out
    rw [← hw1] at hHeld ⊢
    clear hw1
    refine tkz 0 rfl ?_ (hy := Or.inl ⟨by kernel_rfl, fun wx hSw => exec_load_blk 25 _ Try.underlying25 (by kernel_rfl) rfl rfl hSw.1⟩)
    refine tkz 1 rfl ?_ (hy := Or.inl ⟨by kernel_rfl, fun wx hSw => exec_load_blk 27 _ Try.underlying27 (by kernel_rfl) rfl rfl hSw.2.1⟩)
    refine tkz 2 rfl ?_
    refine tkz 5 rfl ?_
    refine tkz 6 rfl ?_ (hy := Or.inl ⟨by kernel_rfl, by (intro wx hSw; have hq2_0 := hSw.2.2.c 0 _ rfl; (try dsimp only at hSw); go_simp <;> with_reducible rfl)⟩)
    refine wpAnyH_ready (rs := [3]) (by kernel_rfl) (by simp) ?_
    refine (AllReadyH.cons rfl (fun K hK => ?_) AllReadyH.nil)
    go_simp
    refine (C2 _).mono ?_
    rintro e v_4 ⟨rfl, hb⟩
    have F0 : Hid (Blk v_4 b0 [.int .i64 h.fl, .int .i64 h.gp, .int .i64 h.ln, .int .i64 h.rf, .int .i64 h.sp, .int .i64 h.pu, .int .i64 h.br, .int .i64 h.dr, .int .i64 h.lv, .int .i64 h.dO, .int .i64 h.ld, .int .i64 h.qu]) := F0.out.below hb F0.out.lt
    have F1 : Hid (Blk v_4 b1 [.int .i64 c.pos, .int .i64 0, .int .i64 c.door]) := F1.out.below hb F1.out.lt
    have F2 : Hid (Blk v_4 b2 [.int .i64 KB, .int .i64 VB]) := F2.out.below hb F2.out.lt
    have F3 : Hid (Blk v_4 b3 [.int .i64 KF, .int .i64 VF]) := F3.out.below hb F3.out.lt
    have FB : Hid (Below w.heap.size w v_4) := FB.out.trans (hb.mono FB.out.size)
    clear hb
    try dsimp only
    refine hK.out _ _ (by (try dsimp only); first | exact ⟨F0.out, F1.out, F3.out⟩ | go_keep) (fun hHeld => ?_)
    clear hK K
    try simp only [Act.put, List.getElem_toArray, List.getElem_cons_succ, List.getElem_cons_zero, List.setIfInBounds_toArray, List.set_cons_zero, List.set_cons_succ]
    refine tkz 4 rfl ?_
    refine tkz 7 rfl ?_
    refine tkz 8 rfl ?_
    refine wpAnyH_done (by kernel_rfl) ?_ _
    go_wp2
    go_ret
    exact ⟨by first | rfl | simp, FB.out⟩
  case pos =>
  have hn2 : (c.door != 0) = false := by simpa using hdz
  have HDZ : Hid (c.door = 0) := hdz
  clear hdz
  by_cases h3 : 3000 < VB
  case pos =>
    have hn3 : decide (3000 < VB) = true := decide_eq_true h3
    go_upto_region 8 with fail
    clear x30 x12 x21
    have F0 : Hid (Blk w7.drew b0 [.int .i64 h.fl, .int .i64 h.gp, .int .i64 h.ln, .int .i64 h.rf, .int .i64 h.sp, .int .i64 h.pu, .int .i64 h.br, .int .i64 h.dr, .int .i64 h.lv, .int .i64 h.dO, .int .i64 h.ld, .int .i64 h.qu]) := F0.out.below (Below.refl _ _).drew F0.out.lt
    have F1 : Hid (Blk w7.drew b1 [.int .i64 c.pos, .int .i64 0, .int .i64 c.door]) := F1.out.below (Below.refl _ _).drew F1.out.lt
    have F2 : Hid (Blk w7.drew b2 [.int .i64 KB, .int .i64 VB]) := F2.out.below (Below.refl _ _).drew F2.out.lt
    have F3 : Hid (Blk w7.drew b3 [.int .i64 KF, .int .i64 VF]) := F3.out.below (Below.refl _ _).drew F3.out.lt
    have FB : Hid (Below w.heap.size w w7.drew) := FB.out.drew
    refine wp_region_held_drew (S := (fun w'' => Blk w'' b0 ([.int .i64 h.fl, .int .i64 h.gp, .int .i64 h.ln, .int .i64 h.rf, .int .i64 h.sp, .int .i64 h.pu, .int .i64 h.br, .int .i64 h.dr, .int .i64 h.lv, .int .i64 h.dO, .int .i64 h.ld, .int .i64 h.qu]) ∧ Blk w'' b1 ([.int .i64 c.pos, .int .i64 0, .int .i64 c.door]) ∧ Blk w'' b3 ([.int .i64 KF, .int .i64 VF]))) (by kernel_rfl) (by (try dsimp only); first | exact ⟨F0.out, F1.out, F3.out⟩ | go_keep) (fun hHeld => ?_)
    obtain ⟨v_5, hw1⟩ : ∃ v_5, v_5 = w7.drew := ⟨_, rfl⟩
    have F0 : Hid (Blk v_5 b0 [.int .i64 h.fl, .int .i64 h.gp, .int .i64 h.ln, .int .i64 h.rf, .int .i64 h.sp, .int .i64 h.pu, .int .i64 h.br, .int .i64 h.dr, .int .i64 h.lv, .int .i64 h.dO, .int .i64 h.ld, .int .i64 h.qu]) := by rw [hw1]; exact F0.out
    have F1 : Hid (Blk v_5 b1 [.int .i64 c.pos, .int .i64 0, .int .i64 c.door]) := by rw [hw1]; exact F1.out
    have F2 : Hid (Blk v_5 b2 [.int .i64 KB, .int .i64 VB]) := by rw [hw1]; exact F2.out
    have F3 : Hid (Blk v_5 b3 [.int .i64 KF, .int .i64 VF]) := by rw [hw1]; exact F3.out
    have FB : Hid (Below w.heap.size w v_5) := by rw [hw1]; exact FB.out
    rw [← hw1] at hHeld ⊢
    clear hw1
    refine tkz 0 rfl ?_ (hy := Or.inl ⟨by kernel_rfl, fun wx hSw => exec_load_blk 25 _ Try.underlying25 (by kernel_rfl) rfl rfl hSw.1⟩)
    refine tkz 1 rfl ?_ (hy := Or.inl ⟨by kernel_rfl, fun wx hSw => exec_load_blk 27 _ Try.underlying27 (by kernel_rfl) rfl rfl hSw.2.1⟩)
    refine tkz 2 rfl ?_
    refine tkz 5 rfl ?_
    refine tkz 6 rfl ?_ (hy := Or.inl ⟨by kernel_rfl, by (intro wx hSw; have hq2_0 := hSw.2.2.c 0 _ rfl; (try dsimp only at hSw); go_simp <;> with_reducible rfl)⟩)
    refine wpAnyH_ready (rs := [3]) (by kernel_rfl) (by simp) ?_
    refine (AllReadyH.cons rfl (fun K hK => ?_) AllReadyH.nil)
    go_simp
    refine (C2 _).mono ?_
    rintro e v_6 ⟨rfl, hb⟩
    have F0 : Hid (Blk v_6 b0 [.int .i64 h.fl, .int .i64 h.gp, .int .i64 h.ln, .int .i64 h.rf, .int .i64 h.sp, .int .i64 h.pu, .int .i64 h.br, .int .i64 h.dr, .int .i64 h.lv, .int .i64 h.dO, .int .i64 h.ld, .int .i64 h.qu]) := F0.out.below hb F0.out.lt
    have F1 : Hid (Blk v_6 b1 [.int .i64 c.pos, .int .i64 0, .int .i64 c.door]) := F1.out.below hb F1.out.lt
    have F2 : Hid (Blk v_6 b2 [.int .i64 KB, .int .i64 VB]) := F2.out.below hb F2.out.lt
    have F3 : Hid (Blk v_6 b3 [.int .i64 KF, .int .i64 VF]) := F3.out.below hb F3.out.lt
    have FB : Hid (Below w.heap.size w v_6) := FB.out.trans (hb.mono FB.out.size)
    clear hb
    try dsimp only
    refine hK.out _ _ (by (try dsimp only); first | exact ⟨F0.out, F1.out, F3.out⟩ | go_keep) (fun hHeld => ?_)
    clear hK K
    try simp only [Act.put, List.getElem_toArray, List.getElem_cons_succ, List.getElem_cons_zero, List.setIfInBounds_toArray, List.set_cons_zero, List.set_cons_succ]
    refine tkz 4 rfl ?_
    refine tkz 7 rfl ?_
    refine tkz 8 rfl ?_
    refine wpAnyH_done (by kernel_rfl) ?_ _
    go_wp2
    go_ret
    exact ⟨by first | rfl | simp, FB.out⟩
  case neg =>
  have hk := HKZ.out
  have hdz := HDZ.out
  subst hk
  have fz := far_zero HKF.out
  have F1 : Hid (Blk w7 b1 [.int .i64 c.pos, .int .i64 0, .int .i64 0]) := by have z := F1.out; rw [hdz] at z; exact z
  rw [hdz] at fz x12
  have hf : h.fault = 0 := (Hs.car_zero fz.1).hf
  have o : h.Ok := (Hs.car_zero fz.1).ok
  have eB : VB = h.run := by rw [← HVB.out]; unfold Hs.rbV; rw [if_pos hf]
  have f12 := inB_iff.1 fz.2
  have rb := o.run_bd
  have HF : Hid (h.fault = 0) := hf
  have HO : Hid h.Ok := o
  obtain ⟨N, g, D, e1, N0, N1, e2, e3, hRn⟩ := rn_start fz.1 f12.1 f12.2
  have HRn : Hid (Rn h f c.pos h.run N g 0 ⟨c.pos, 0, 0⟩ D 0) := hRn
  have CT : ∀ W, Calls Try.prog 9 #[.agg #[.int .i64 h.fl, .int .i64 h.gp, .int .i64 h.ln, .int .i64 h.rf, .int .i64 h.sp, .int .i64 h.pu, .int .i64 h.br, .int .i64 h.dr, .int .i64 h.lv, .int .i64 h.dO, .int .i64 h.ld, .int .i64 h.qu], .agg #[.int .i64 c.pos, .int .i64 0, .int .i64 0], .int .i64 f, .int .i64 VB] W (isRun W 0 N g) := fun W => by rw [eB]; exact implRunTo_yes h ⟨c.pos, 0, 0⟩ f h.run fz.1 fz.2 (inB_yes (by omega) (by omega)) rfl (0, N, g) e1 W
  have CR : ∀ W, Calls Try.prog 10 #[.agg #[.int .i64 h.fl, .int .i64 h.gp, .int .i64 h.ln, .int .i64 h.rf, .int .i64 h.sp, .int .i64 h.pu, .int .i64 h.br, .int .i64 h.dr, .int .i64 h.lv, .int .i64 h.dO, .int .i64 h.ld, .int .i64 h.qu], .agg #[.int .i64 g.pos, .int .i64 g.vel, .int .i64 g.door], .int .i64 f] W fun e w' => e = .returned (.bool true) ∧ Below W.heap.size W w' := fun W => by
    have q := implReachedBy_any h g f W
    have er : Hs.reached h g f = true := by unfold Hs.reached; rw [e3, fz.2, e2]; rfl
    rw [er] at q
    exact q
  obtain ⟨L, hL⟩ : ∃ L, h.level f = L := ⟨_, rfl⟩
  have CL : ∀ W, Calls Try.prog 11 #[.agg #[.int .i64 h.fl, .int .i64 h.gp, .int .i64 h.ln, .int .i64 h.rf, .int .i64 h.sp, .int .i64 h.pu, .int .i64 h.br, .int .i64 h.dr, .int .i64 h.lv, .int .i64 h.dO, .int .i64 h.ld, .int .i64 h.qu], .int .i64 f] W (isAns W 0 L) := fun W => by have q := implLevelOf_yes h f hf fz.2 W; rw [hL] at q; exact q
  have HLv : Hid (h.level f = L) := hL
  have lv := level_in o f12.1 f12.2
  rw [hL] at lv
  have en := o.ends
  have hN3 : decide (VB < N) = false := decide_eq_false (by omega)
  have hn3 : decide (3000 < VB) = false := decide_eq_false (by omega)
  have cp := Hs.car_zero fz.1
  have cp1 := cp.p1
  have cp2 := cp.p2
  dsimp only at cp1 cp2
  clear eB e1 e2 e3 hRn hL cp C2 HKF HVB hdz HDZ HKZ hn2 hn
  have hn2 : ((0 : Int) != 0) = false := rfl
  go_upto_region 10 with (first | (refine load_blk 25 _ Try.underlying25 (by kernel_rfl) F0.out rfl rfl rfl ?_) | (refine load_blk 27 _ Try.underlying27 (by kernel_rfl) F1.out rfl rfl rfl ?_) | (go_at_call 9; refine (CT _).mono ?_; rintro e w8 ⟨rfl, hb⟩; have F0 : Hid (Blk w8 b0 [.int .i64 h.fl, .int .i64 h.gp, .int .i64 h.ln, .int .i64 h.rf, .int .i64 h.sp, .int .i64 h.pu, .int .i64 h.br, .int .i64 h.dr, .int .i64 h.lv, .int .i64 h.dO, .int .i64 h.ld, .int .i64 h.qu]) := F0.out.below hb F0.out.lt; have F1 : Hid (Blk w8 b1 [.int .i64 c.pos, .int .i64 0, .int .i64 0]) := F1.out.below hb F1.out.lt; have F2 : Hid (Blk w8 b2 [.int .i64 KB, .int .i64 VB]) := F2.out.below hb F2.out.lt; have F3 : Hid (Blk w8 b3 [.int .i64 0, .int .i64 VF]) := F3.out.below hb F3.out.lt; have FB : Hid (Below w.heap.size w w8) := FB.out.trans (hb.mono FB.out.size); clear hb) | (refine store_new [.int .i64 0, .int .i64 N, .int .i64 g.pos, .int .i64 g.vel, .int .i64 g.door] 35 _ _ (by kernel_rfl) (by kernel_rfl) (by kernel_rfl) rfl rfl rfl rfl ?_))
  have FB0 := FB
  obtain ⟨b4, hbb⟩ : ∃ b4, b4 = w8.heap.size := ⟨_, rfl⟩
  obtain ⟨w9, hw2⟩ : ∃ w9, w9 = w8.alloc (.cells #[.int .i64 0, .int .i64 N, .int .i64 g.pos, .int .i64 g.vel, .int .i64 g.door] 35) := ⟨_, rfl⟩
  have nb4b0 : b0 < b4 := by rw [hbb]; exact F0.out.lt
  have nb4b1 : b1 < b4 := by rw [hbb]; exact F1.out.lt
  have nb4b2 : b2 < b4 := by rw [hbb]; exact F2.out.lt
  have nb4b3 : b3 < b4 := by rw [hbb]; exact F3.out.lt
  have F0 : Hid (Blk w9 b0 [.int .i64 h.fl, .int .i64 h.gp, .int .i64 h.ln, .int .i64 h.rf, .int .i64 h.sp, .int .i64 h.pu, .int .i64 h.br, .int .i64 h.dr, .int .i64 h.lv, .int .i64 h.dO, .int .i64 h.ld, .int .i64 h.qu]) := by rw [hw2]; exact F0.out.alloc _
  have F1 : Hid (Blk w9 b1 [.int .i64 c.pos, .int .i64 0, .int .i64 0]) := by rw [hw2]; exact F1.out.alloc _
  have F2 : Hid (Blk w9 b2 [.int .i64 KB, .int .i64 VB]) := by rw [hw2]; exact F2.out.alloc _
  have F3 : Hid (Blk w9 b3 [.int .i64 0, .int .i64 VF]) := by rw [hw2]; exact F3.out.alloc _
  have F4 : Hid (Blk w9 b4 [.int .i64 0, .int .i64 N, .int .i64 g.pos, .int .i64 g.vel, .int .i64 g.door]) := by rw [hw2]; exact Blk.at_ w8 #[.int .i64 0, .int .i64 N, .int .i64 g.pos, .int .i64 g.vel, .int .i64 g.door] _ _ hbb
  have FB : Hid (Below w.heap.size w w9) := by rw [hw2]; exact FB.out.alloc FB.out.size _
  have leb4 : w.heap.size ≤ b4 := by rw [hbb]; exact FB0.out.size
  (try simp only [Act.put])
  rw [← hw2, ← hbb]
  clear hbb hw2 FB0
  clear x30 x12 x21 CT
  have x40 := F4.out.c 0 _ rfl
  have x41 := F4.out.c 1 _ rfl
  have x21 := F2.out.c 1 _ rfl
  go_upto_region 12 with (first | (refine load_blkF 25 _ Try.underlying25 (by kernel_rfl) F0.out (by kernel_rfl) rfl rfl ?_) | (refine load_midG 27 _ 2 [.int .i64 g.pos, .int .i64 g.vel, .int .i64 g.door] Try.underlying27 (by kernel_rfl) F4.out rfl (by kernel_rfl) rfl rfl ?_) | (go_at_call 10; refine (CR _).mono ?_; rintro e w10 ⟨rfl, hb⟩; have F0 : Hid (Blk w10 b0 [.int .i64 h.fl, .int .i64 h.gp, .int .i64 h.ln, .int .i64 h.rf, .int .i64 h.sp, .int .i64 h.pu, .int .i64 h.br, .int .i64 h.dr, .int .i64 h.lv, .int .i64 h.dO, .int .i64 h.ld, .int .i64 h.qu]) := F0.out.below hb F0.out.lt; have F1 : Hid (Blk w10 b1 [.int .i64 c.pos, .int .i64 0, .int .i64 0]) := F1.out.below hb F1.out.lt; have F2 : Hid (Blk w10 b2 [.int .i64 KB, .int .i64 VB]) := F2.out.below hb F2.out.lt; have F3 : Hid (Blk w10 b3 [.int .i64 0, .int .i64 VF]) := F3.out.below hb F3.out.lt; have F4 : Hid (Blk w10 b4 [.int .i64 0, .int .i64 N, .int .i64 g.pos, .int .i64 g.vel, .int .i64 g.door]) := F4.out.below hb F4.out.lt; have FB : Hid (Below w.heap.size w w10) := FB.out.trans (hb.mono FB.out.size); clear hb; have x41 := F4.out.c 1 _ rfl; have x21 := F2.out.c 1 _ rfl))
  clear x40 x41 x21 CR
  go_upto_region 13 with (first | (refine load_blk 27 _ Try.underlying27 (by kernel_rfl) F1.out rfl rfl rfl ?_) | (refine store_new [.int .i64 c.pos, .int .i64 0, .int .i64 0] 27 _ _ (by kernel_rfl) (by kernel_rfl) (by kernel_rfl) rfl rfl rfl rfl ?_))
  have FB0 := FB
  obtain ⟨b5, hbb⟩ : ∃ b5, b5 = w10.heap.size := ⟨_, rfl⟩
  obtain ⟨w11, hw2⟩ : ∃ w11, w11 = w10.alloc (.cells #[.int .i64 c.pos, .int .i64 0, .int .i64 0] 27) := ⟨_, rfl⟩
  have nb5b0 : b0 < b5 := by rw [hbb]; exact F0.out.lt
  have nb5b1 : b1 < b5 := by rw [hbb]; exact F1.out.lt
  have nb5b2 : b2 < b5 := by rw [hbb]; exact F2.out.lt
  have nb5b3 : b3 < b5 := by rw [hbb]; exact F3.out.lt
  have nb5b4 : b4 < b5 := by rw [hbb]; exact F4.out.lt
  have F0 : Hid (Blk w11 b0 [.int .i64 h.fl, .int .i64 h.gp, .int .i64 h.ln, .int .i64 h.rf, .int .i64 h.sp, .int .i64 h.pu, .int .i64 h.br, .int .i64 h.dr, .int .i64 h.lv, .int .i64 h.dO, .int .i64 h.ld, .int .i64 h.qu]) := by rw [hw2]; exact F0.out.alloc _
  have F1 : Hid (Blk w11 b1 [.int .i64 c.pos, .int .i64 0, .int .i64 0]) := by rw [hw2]; exact F1.out.alloc _
  have F2 : Hid (Blk w11 b2 [.int .i64 KB, .int .i64 VB]) := by rw [hw2]; exact F2.out.alloc _
  have F3 : Hid (Blk w11 b3 [.int .i64 0, .int .i64 VF]) := by rw [hw2]; exact F3.out.alloc _
  have F4 : Hid (Blk w11 b4 [.int .i64 0, .int .i64 N, .int .i64 g.pos, .int .i64 g.vel, .int .i64 g.door]) := by rw [hw2]; exact F4.out.alloc _
  have F5 : Hid (Blk w11 b5 [.int .i64 c.pos, .int .i64 0, .int .i64 0]) := by rw [hw2]; exact Blk.at_ w10 #[.int .i64 c.pos, .int .i64 0, .int .i64 0] _ _ hbb
  have FB : Hid (Below w.heap.size w w11) := by rw [hw2]; exact FB.out.alloc FB.out.size _
  have leb5 : w.heap.size ≤ b5 := by rw [hbb]; exact FB0.out.size
  (try simp only [Act.put])
  rw [← hw2, ← hbb]
  clear hbb hw2 FB0
  go_upto_region 14 with (first | (refine load_blk 25 _ Try.underlying25 (by kernel_rfl) F0.out rfl rfl rfl ?_) | (go_at_call 11; refine (CL _).mono ?_; rintro e w12 ⟨rfl, hb⟩; have F0 : Hid (Blk w12 b0 [.int .i64 h.fl, .int .i64 h.gp, .int .i64 h.ln, .int .i64 h.rf, .int .i64 h.sp, .int .i64 h.pu, .int .i64 h.br, .int .i64 h.dr, .int .i64 h.lv, .int .i64 h.dO, .int .i64 h.ld, .int .i64 h.qu]) := F0.out.below hb F0.out.lt; have F1 : Hid (Blk w12 b1 [.int .i64 c.pos, .int .i64 0, .int .i64 0]) := F1.out.below hb F1.out.lt; have F2 : Hid (Blk w12 b2 [.int .i64 KB, .int .i64 VB]) := F2.out.below hb F2.out.lt; have F3 : Hid (Blk w12 b3 [.int .i64 0, .int .i64 VF]) := F3.out.below hb F3.out.lt; have F4 : Hid (Blk w12 b4 [.int .i64 0, .int .i64 N, .int .i64 g.pos, .int .i64 g.vel, .int .i64 g.door]) := F4.out.below hb F4.out.lt; have F5 : Hid (Blk w12 b5 [.int .i64 c.pos, .int .i64 0, .int .i64 0]) := F5.out.below hb F5.out.lt; have FB : Hid (Below w.heap.size w w12) := FB.out.trans (hb.mono FB.out.size); clear hb))
  clear CL
  go_wp2_with fail
  go_loopw [12] (fun nn wr => ∃ (n : Int) (cn : Cs) (d v : Int), nn = .int .i64 n ∧ Rn h f c.pos h.run N g n cn d v ∧ Blk wr b0 [.int .i64 h.fl, .int .i64 h.gp, .int .i64 h.ln, .int .i64 h.rf, .int .i64 h.sp, .int .i64 h.pu, .int .i64 h.br, .int .i64 h.dr, .int .i64 h.lv, .int .i64 h.dO, .int .i64 h.ld, .int .i64 h.qu] ∧ Blk wr b1 [.int .i64 c.pos, .int .i64 0, .int .i64 0] ∧ Blk wr b2 [.int .i64 KB, .int .i64 VB] ∧ Blk wr b3 [.int .i64 0, .int .i64 VF] ∧ Blk wr b4 [.int .i64 0, .int .i64 N, .int .i64 g.pos, .int .i64 g.vel, .int .i64 g.door] ∧ Blk wr b5 [.int .i64 cn.pos, .int .i64 cn.vel, .int .i64 cn.door] ∧ Below w.heap.size w wr) (fun nn _ => (N - intOf nn).toNat)
  case atStart => exact ⟨0, ⟨c.pos, 0, 0⟩, D, 0, rfl, HRn.out, F0.out, F1.out, F2.out, F3.out, F4.out, F5.out, FB.out⟩
  case round =>
    obtain ⟨n, cn, d, v, rfl, hRn, h_F0, h_F1, h_F2, h_F3, h_F4, h_F5, hB⟩ := hrel
    clear F0 F1 F2 F3 F4 F5 FB HRn
    have F0 : Hid (Blk wr b0 [.int .i64 h.fl, .int .i64 h.gp, .int .i64 h.ln, .int .i64 h.rf, .int .i64 h.sp, .int .i64 h.pu, .int .i64 h.br, .int .i64 h.dr, .int .i64 h.lv, .int .i64 h.dO, .int .i64 h.ld, .int .i64 h.qu]) := h_F0
    have F1 : Hid (Blk wr b1 [.int .i64 c.pos, .int .i64 0, .int .i64 0]) := h_F1
    have F2 : Hid (Blk wr b2 [.int .i64 KB, .int .i64 VB]) := h_F2
    have F3 : Hid (Blk wr b3 [.int .i64 0, .int .i64 VF]) := h_F3
    have F4 : Hid (Blk wr b4 [.int .i64 0, .int .i64 N, .int .i64 g.pos, .int .i64 g.vel, .int .i64 g.door]) := h_F4
    have F5 : Hid (Blk wr b5 [.int .i64 cn.pos, .int .i64 cn.vel, .int .i64 cn.door]) := h_F5
    have FB : Hid (Below w.heap.size w wr) := hB
    clear h_F0 h_F1 h_F2 h_F3 h_F4 h_F5 hB
    have HRn : Hid (Rn h f c.pos h.run N g n cn d v) := hRn
    have cok := fl_carOk HF.out f12.1 f12.2 hRn.fl
    have n0 := hRn.n0
    clear hRn
    have x41 := F4.out.c 1 _ rfl
    by_cases hlt : n < N
    · have hd : decide (n < N) = true := decide_eq_true hlt
      obtain ⟨x, hx⟩ : ∃ x, Hs.forC h cn f = x := ⟨_, rfl⟩
      obtain ⟨g2, hg2⟩ : ∃ g2, stepC h cn x 0 = g2 := ⟨_, rfl⟩
      have nx := HRn.out.next HF.out f12.1 f12.2 hlt
      rw [hx, hg2, HLv.out] at nx
      have HR2 : Hid (Rn h f c.pos h.run N g (n + 1) g2 (nD h d v) (nV h d v)) := nx.1
      have s1 := nx.1.s1
      have s2 := nx.1.s2
      rw [HLv.out] at s1 s2
      have gok := fl_carOk HF.out f12.1 f12.2 nx.1.fl
      have gp1 := gok.p1
      have gp2 := gok.p2
      have np1 := cok.p1
      have np2 := cok.p2
      have hcar : h.car cn = 0 := by rw [Hs.car_ok HF.out]; exact HRn.out.fl.car HF.out f12.1 f12.2
      have CX : ∀ W, Calls Try.prog 13 #[.agg #[.int .i64 h.fl, .int .i64 h.gp, .int .i64 h.ln, .int .i64 h.rf, .int .i64 h.sp, .int .i64 h.pu, .int .i64 h.br, .int .i64 h.dr, .int .i64 h.lv, .int .i64 h.dO, .int .i64 h.ld, .int .i64 h.qu], .agg #[.int .i64 cn.pos, .int .i64 cn.vel, .int .i64 cn.door], .int .i64 f] W (isCmd W x) := fun W => by
        have q := implCommandFor_any h cn f W
        have e : Hs.cmdFor h cn f = x := by unfold Hs.cmdFor; rw [if_pos ⟨hcar, fz.2, HRn.out.fl.dz⟩, hx]
        rw [e] at q
        exact q
      have hcx : h.cmd x = 0 := by rw [← hx]; exact forC_cmd HF.out cn f
      have dr1 := HO.out.dr1
      have CS : ∀ W, Calls Try.prog 12 #[.agg #[.int .i64 h.fl, .int .i64 h.gp, .int .i64 h.ln, .int .i64 h.rf, .int .i64 h.sp, .int .i64 h.pu, .int .i64 h.br, .int .i64 h.dr, .int .i64 h.lv, .int .i64 h.dO, .int .i64 h.ld, .int .i64 h.qu], .agg #[.int .i64 cn.pos, .int .i64 cn.vel, .int .i64 cn.door], .agg #[.int .i64 x.push, .bool x.brk, .bool x.opn], .int .i64 0] W (isCar W 0 g2) := fun W => implStepCar_yes h cn x 0 hcar hcx (inB_yes (by omega) (by omega)) g2 hg2 W
      have A1 : ∀ W, Calls Try.prog 14 #[.int .i64 (L - g2.pos)] W fun e w' => e = .returned (.int .i64 (absI (L - g2.pos))) ∧ w' = W := fun W => lwAbs_r _ (by omega) (by omega) W
      have A2 : ∀ W, Calls Try.prog 14 #[.int .i64 (L - cn.pos)] W fun e w' => e = .returned (.int .i64 (absI (L - cn.pos))) ∧ w' = W := fun W => lwAbs_r _ (by omega) (by omega) W
      have dA : decide (absI (L - cn.pos) < absI (L - g2.pos)) = false := decide_eq_false (by have := nx.2; omega)
      have e1 : IntKind.i64.wrap (L - g2.pos) = L - g2.pos := IntWalk.i64_in _ (by omega)
      have e2 : IntKind.i64.wrap (L - cn.pos) = L - cn.pos := IntWalk.i64_in _ (by omega)
      obtain ⟨DC, hDC⟩ : ∃ DC, L - c.pos = DC := ⟨_, rfl⟩
      have e3 : IntKind.i64.wrap (L - c.pos) = DC := (congrArg _ hDC).trans (IntWalk.i64_in _ (by omega))
      have hC1 : L < g2.pos → ¬ 0 < DC := fun a b => by have := s1 (by omega); omega
      have hC2 : g2.pos < L → ¬ DC < 0 := fun a b => by have := s2 (by omega); omega
      obtain ⟨a1, ha1⟩ : ∃ a1, absI (L - g2.pos) = a1 := ⟨_, rfl⟩
      obtain ⟨a2, ha2⟩ : ∃ a2, absI (L - cn.pos) = a2 := ⟨_, rfl⟩
      rw [ha1] at A1 dA
      rw [ha2] at A2 dA
      clear nx hx hg2 gok cok hcar hcx s1 s2 ha1 ha2 HRn hDC
      go_upto_region 17 with fail
      clear x41
      go_cut [13] from 80 to 139 (fun pp wx => ∃ b6, pp = .pointer (some ⟨b6, 0, none⟩) ∧ b5 < b6 ∧ Blk wx b6 [.int .i64 0, .int .i64 g2.pos, .int .i64 g2.vel, .int .i64 g2.door] ∧ Blk wx b0 [.int .i64 h.fl, .int .i64 h.gp, .int .i64 h.ln, .int .i64 h.rf, .int .i64 h.sp, .int .i64 h.pu, .int .i64 h.br, .int .i64 h.dr, .int .i64 h.lv, .int .i64 h.dO, .int .i64 h.ld, .int .i64 h.qu] ∧ Blk wx b1 [.int .i64 c.pos, .int .i64 0, .int .i64 0] ∧ Blk wx b2 [.int .i64 KB, .int .i64 VB] ∧ Blk wx b3 [.int .i64 0, .int .i64 VF] ∧ Blk wx b4 [.int .i64 0, .int .i64 N, .int .i64 g.pos, .int .i64 g.vel, .int .i64 g.door] ∧ Blk wx b5 [.int .i64 cn.pos, .int .i64 cn.vel, .int .i64 cn.door] ∧ Below w.heap.size w wx)
      case first =>
        have F0 : Hid (Blk wr.drew b0 [.int .i64 h.fl, .int .i64 h.gp, .int .i64 h.ln, .int .i64 h.rf, .int .i64 h.sp, .int .i64 h.pu, .int .i64 h.br, .int .i64 h.dr, .int .i64 h.lv, .int .i64 h.dO, .int .i64 h.ld, .int .i64 h.qu]) := F0.out.below (Below.refl _ _).drew F0.out.lt
        have F1 : Hid (Blk wr.drew b1 [.int .i64 c.pos, .int .i64 0, .int .i64 0]) := F1.out.below (Below.refl _ _).drew F1.out.lt
        have F2 : Hid (Blk wr.drew b2 [.int .i64 KB, .int .i64 VB]) := F2.out.below (Below.refl _ _).drew F2.out.lt
        have F3 : Hid (Blk wr.drew b3 [.int .i64 0, .int .i64 VF]) := F3.out.below (Below.refl _ _).drew F3.out.lt
        have F4 : Hid (Blk wr.drew b4 [.int .i64 0, .int .i64 N, .int .i64 g.pos, .int .i64 g.vel, .int .i64 g.door]) := F4.out.below (Below.refl _ _).drew F4.out.lt
        have F5 : Hid (Blk wr.drew b5 [.int .i64 cn.pos, .int .i64 cn.vel, .int .i64 cn.door]) := F5.out.below (Below.refl _ _).drew F5.out.lt
        have FB : Hid (Below w.heap.size w wr.drew) := FB.out.drew
        refine wp_region_held_drew (S := (fun w'' => Blk w'' b0 ([.int .i64 h.fl, .int .i64 h.gp, .int .i64 h.ln, .int .i64 h.rf, .int .i64 h.sp, .int .i64 h.pu, .int .i64 h.br, .int .i64 h.dr, .int .i64 h.lv, .int .i64 h.dO, .int .i64 h.ld, .int .i64 h.qu]) ∧ Blk w'' b5 ([.int .i64 cn.pos, .int .i64 cn.vel, .int .i64 cn.door]))) (by kernel_rfl) (by (try dsimp only); first | exact ⟨F0.out, F5.out⟩ | go_keep) (fun hHeld => ?_)
        obtain ⟨v_7, hw1⟩ : ∃ v_7, v_7 = wr.drew := ⟨_, rfl⟩
        have F0 : Hid (Blk v_7 b0 [.int .i64 h.fl, .int .i64 h.gp, .int .i64 h.ln, .int .i64 h.rf, .int .i64 h.sp, .int .i64 h.pu, .int .i64 h.br, .int .i64 h.dr, .int .i64 h.lv, .int .i64 h.dO, .int .i64 h.ld, .int .i64 h.qu]) := by rw [hw1]; exact F0.out
        have F1 : Hid (Blk v_7 b1 [.int .i64 c.pos, .int .i64 0, .int .i64 0]) := by rw [hw1]; exact F1.out
        have F2 : Hid (Blk v_7 b2 [.int .i64 KB, .int .i64 VB]) := by rw [hw1]; exact F2.out
        have F3 : Hid (Blk v_7 b3 [.int .i64 0, .int .i64 VF]) := by rw [hw1]; exact F3.out
        have F4 : Hid (Blk v_7 b4 [.int .i64 0, .int .i64 N, .int .i64 g.pos, .int .i64 g.vel, .int .i64 g.door]) := by rw [hw1]; exact F4.out
        have F5 : Hid (Blk v_7 b5 [.int .i64 cn.pos, .int .i64 cn.vel, .int .i64 cn.door]) := by rw [hw1]; exact F5.out
        have FB : Hid (Below w.heap.size w v_7) := by rw [hw1]; exact FB.out
        rw [← hw1] at hHeld ⊢
        clear hw1
        refine tkz 0 rfl ?_ (hy := Or.inl ⟨by kernel_rfl, fun wx hSw => exec_load_blk 25 _ Try.underlying25 (by kernel_rfl) rfl rfl hSw.1⟩)
        refine tkz 1 rfl ?_ (hy := Or.inl ⟨by kernel_rfl, fun wx hSw => exec_load_blk 27 _ Try.underlying27 (by kernel_rfl) rfl rfl hSw.2⟩)
        refine tkz 2 rfl ?_ (hy := Or.inl ⟨by kernel_rfl, fun wx hSw => exec_load_blk 25 _ Try.underlying25 (by kernel_rfl) rfl rfl hSw.1⟩)
        refine tkz 3 rfl ?_ (hy := Or.inl ⟨by kernel_rfl, fun wx hSw => exec_load_blk 27 _ Try.underlying27 (by kernel_rfl) rfl rfl hSw.2⟩)
        refine tkz 4 rfl ?_
        refine wpAnyH_ready (rs := [5, 7]) (by kernel_rfl) (by simp) ?_
        refine (AllReadyH.cons rfl (fun K hK => ?_) (AllReadyH.cons rfl (fun K hK => ?_) AllReadyH.nil))
        · go_simp
          refine (CX _).mono ?_
          rintro e v_8 ⟨rfl, hb⟩
          have F0 : Hid (Blk v_8 b0 [.int .i64 h.fl, .int .i64 h.gp, .int .i64 h.ln, .int .i64 h.rf, .int .i64 h.sp, .int .i64 h.pu, .int .i64 h.br, .int .i64 h.dr, .int .i64 h.lv, .int .i64 h.dO, .int .i64 h.ld, .int .i64 h.qu]) := F0.out.below hb F0.out.lt
          have F1 : Hid (Blk v_8 b1 [.int .i64 c.pos, .int .i64 0, .int .i64 0]) := F1.out.below hb F1.out.lt
          have F2 : Hid (Blk v_8 b2 [.int .i64 KB, .int .i64 VB]) := F2.out.below hb F2.out.lt
          have F3 : Hid (Blk v_8 b3 [.int .i64 0, .int .i64 VF]) := F3.out.below hb F3.out.lt
          have F4 : Hid (Blk v_8 b4 [.int .i64 0, .int .i64 N, .int .i64 g.pos, .int .i64 g.vel, .int .i64 g.door]) := F4.out.below hb F4.out.lt
          have F5 : Hid (Blk v_8 b5 [.int .i64 cn.pos, .int .i64 cn.vel, .int .i64 cn.door]) := F5.out.below hb F5.out.lt
          have FB : Hid (Below w.heap.size w v_8) := FB.out.trans (hb.mono FB.out.size)
          clear hb
          try dsimp only
          refine hK.out _ _ (by (try dsimp only); first | exact ⟨F0.out, F5.out⟩ | go_keep) (fun hHeld => ?_)
          clear hK K
          try simp only [Act.put, List.getElem_toArray, List.getElem_cons_succ, List.getElem_cons_zero, List.setIfInBounds_toArray, List.set_cons_zero, List.set_cons_succ]
          refine wpAnyH_ready (rs := [6, 7]) (by kernel_rfl) (by simp) ?_
          refine (AllReadyH.cons rfl (fun K hK => ?_) (AllReadyH.cons rfl (fun K hK => ?_) AllReadyH.nil))
          · go_simp
            refine (CS _).mono ?_
            rintro e v_9 ⟨rfl, hb⟩
            have F0 : Hid (Blk v_9 b0 [.int .i64 h.fl, .int .i64 h.gp, .int .i64 h.ln, .int .i64 h.rf, .int .i64 h.sp, .int .i64 h.pu, .int .i64 h.br, .int .i64 h.dr, .int .i64 h.lv, .int .i64 h.dO, .int .i64 h.ld, .int .i64 h.qu]) := F0.out.below hb F0.out.lt
            have F1 : Hid (Blk v_9 b1 [.int .i64 c.pos, .int .i64 0, .int .i64 0]) := F1.out.below hb F1.out.lt
            have F2 : Hid (Blk v_9 b2 [.int .i64 KB, .int .i64 VB]) := F2.out.below hb F2.out.lt
            have F3 : Hid (Blk v_9 b3 [.int .i64 0, .int .i64 VF]) := F3.out.below hb F3.out.lt
            have F4 : Hid (Blk v_9 b4 [.int .i64 0, .int .i64 N, .int .i64 g.pos, .int .i64 g.vel, .int .i64 g.door]) := F4.out.below hb F4.out.lt
            have F5 : Hid (Blk v_9 b5 [.int .i64 cn.pos, .int .i64 cn.vel, .int .i64 cn.door]) := F5.out.below hb F5.out.lt
            have FB : Hid (Below w.heap.size w v_9) := FB.out.trans (hb.mono FB.out.size)
            clear hb
            try dsimp only
            refine hK.out _ _ (by (try dsimp only); first | exact ⟨F0.out, F5.out⟩ | go_keep) (fun hHeld => ?_)
            clear hK K
            try simp only [Act.put, List.getElem_toArray, List.getElem_cons_succ, List.getElem_cons_zero, List.setIfInBounds_toArray, List.set_cons_zero, List.set_cons_succ]
            refine wpAnyH_ready (rs := [7]) (by kernel_rfl) (by simp) ?_
            refine (AllReadyH.cons rfl (fun K hK => ?_) AllReadyH.nil)
            go_simp
            obtain ⟨b6, hbb⟩ : ∃ b6, b6 = v_9.heap.size := ⟨_, rfl⟩
            obtain ⟨v_10, hw2⟩ : ∃ v_10, v_10 = v_9.alloc (.cells #[.int .i64 0, .int .i64 0, .int .i64 0, .int .i64 0] 40) := ⟨_, rfl⟩
            have l56 : b5 < b6 := by rw [hbb]; exact F5.out.lt
            have nb6_0 := F0.out.lt
            rw [← hbb] at nb6_0
            have nb6_1 := F1.out.lt
            rw [← hbb] at nb6_1
            have nb6_2 := F2.out.lt
            rw [← hbb] at nb6_2
            have nb6_3 := F3.out.lt
            rw [← hbb] at nb6_3
            have nb6_4 := F4.out.lt
            rw [← hbb] at nb6_4
            have nb6_5 := F5.out.lt
            rw [← hbb] at nb6_5
            have F6 : Hid (Blk v_10 b6 [.int .i64 0, .int .i64 0, .int .i64 0, .int .i64 0]) := by rw [hw2]; exact Blk.at_ v_9 #[.int .i64 0, .int .i64 0, .int .i64 0, .int .i64 0] _ _ hbb
            have F0 : Hid (Blk v_10 b0 [.int .i64 h.fl, .int .i64 h.gp, .int .i64 h.ln, .int .i64 h.rf, .int .i64 h.sp, .int .i64 h.pu, .int .i64 h.br, .int .i64 h.dr, .int .i64 h.lv, .int .i64 h.dO, .int .i64 h.ld, .int .i64 h.qu]) := by rw [hw2]; exact F0.out.alloc _
            have F1 : Hid (Blk v_10 b1 [.int .i64 c.pos, .int .i64 0, .int .i64 0]) := by rw [hw2]; exact F1.out.alloc _
            have F2 : Hid (Blk v_10 b2 [.int .i64 KB, .int .i64 VB]) := by rw [hw2]; exact F2.out.alloc _
            have F3 : Hid (Blk v_10 b3 [.int .i64 0, .int .i64 VF]) := by rw [hw2]; exact F3.out.alloc _
            have F4 : Hid (Blk v_10 b4 [.int .i64 0, .int .i64 N, .int .i64 g.pos, .int .i64 g.vel, .int .i64 g.door]) := by rw [hw2]; exact F4.out.alloc _
            have F5 : Hid (Blk v_10 b5 [.int .i64 cn.pos, .int .i64 cn.vel, .int .i64 cn.door]) := by rw [hw2]; exact F5.out.alloc _
            have FB : Hid (Below w.heap.size w v_10) := by rw [hw2]; exact FB.out.alloc FB.out.size _
            rw [← hw2, ← hbb]
            clear hbb hw2
            refine hK.out _ _ (by (try dsimp only); first | exact ⟨F0.out, F5.out⟩ | go_keep) (fun hHeld => ?_)
            clear hK K
            try simp only [Act.put, List.getElem_toArray, List.getElem_cons_succ, List.getElem_cons_zero, List.setIfInBounds_toArray, List.set_cons_zero, List.set_cons_succ]
            refine wpAnyH_ready (rs := [8]) (by kernel_rfl) (by simp) ?_
            refine (AllReadyH.cons rfl (fun K hK => ?_) AllReadyH.nil)
            have k0 := F6.out.c 0 _ rfl
            have k1 := F6.out.c 1 _ rfl
            have k2 := F6.out.c 2 _ rfl
            have k3 := F6.out.c 3 _ rfl
            have kf0 := F6.out.f 0 (Nat.le_of_ble_eq_true rfl)
            have kf1 := F6.out.f 1 (Nat.le_of_ble_eq_true rfl)
            have kf2 := F6.out.f 2 (Nat.le_of_ble_eq_true rfl)
            have kf3 := F6.out.f 3 (Nat.le_of_ble_eq_true rfl)
            go_simp
            obtain ⟨v_11, hw2⟩ : ∃ v_11, v_11 = putB v_10 b6 0 [.int .i64 0, .int .i64 g2.pos, .int .i64 g2.vel, .int .i64 g2.door] := ⟨_, rfl⟩
            change K _ (putB v_10 b6 0 [.int .i64 0, .int .i64 g2.pos, .int .i64 g2.vel, .int .i64 g2.door])
            rw [← hw2]
            clear k0 kf0 k1 kf1 k2 kf2 k3 kf3
            have F0 : Hid (Blk v_11 b0 [.int .i64 h.fl, .int .i64 h.gp, .int .i64 h.ln, .int .i64 h.rf, .int .i64 h.sp, .int .i64 h.pu, .int .i64 h.br, .int .i64 h.dr, .int .i64 h.lv, .int .i64 h.dO, .int .i64 h.ld, .int .i64 h.qu]) := by rw [hw2]; exact Blk.putB_other (by omega) _ 0 F0.out
            have F1 : Hid (Blk v_11 b1 [.int .i64 c.pos, .int .i64 0, .int .i64 0]) := by rw [hw2]; exact Blk.putB_other (by omega) _ 0 F1.out
            have F2 : Hid (Blk v_11 b2 [.int .i64 KB, .int .i64 VB]) := by rw [hw2]; exact Blk.putB_other (by omega) _ 0 F2.out
            have F3 : Hid (Blk v_11 b3 [.int .i64 0, .int .i64 VF]) := by rw [hw2]; exact Blk.putB_other (by omega) _ 0 F3.out
            have F4 : Hid (Blk v_11 b4 [.int .i64 0, .int .i64 N, .int .i64 g.pos, .int .i64 g.vel, .int .i64 g.door]) := by rw [hw2]; exact Blk.putB_other (by omega) _ 0 F4.out
            have F5 : Hid (Blk v_11 b5 [.int .i64 cn.pos, .int .i64 cn.vel, .int .i64 cn.door]) := by rw [hw2]; exact Blk.putB_other (by omega) _ 0 F5.out
            have FB : Hid (Below w.heap.size w v_11) := by rw [hw2]; exact below_putB FB.out (by omega) _ 0
            have F6 : Hid (Blk v_11 b6 [.int .i64 0, .int .i64 g2.pos, .int .i64 g2.vel, .int .i64 g2.door]) := by rw [hw2]; exact F6.out.put [.int .i64 0, .int .i64 g2.pos, .int .i64 g2.vel, .int .i64 g2.door] rfl
            clear hw2
            refine hK.out _ _ (by (try dsimp only); first | exact ⟨F0.out, F5.out⟩ | go_keep) (fun hHeld => ?_)
            clear hK K
            try simp only [Act.put, List.getElem_toArray, List.getElem_cons_succ, List.getElem_cons_zero, List.setIfInBounds_toArray, List.set_cons_zero, List.set_cons_succ]
            refine wpAnyH_done (by kernel_rfl) ?_ _
            go_wp2_with fail
            go_meet
            case rel => exact ⟨b6, rfl, l56, F6.out, F0.out, F1.out, F2.out, F3.out, F4.out, F5.out, FB.out⟩
          · go_simp
            obtain ⟨b6, hbb⟩ : ∃ b6, b6 = v_8.heap.size := ⟨_, rfl⟩
            obtain ⟨v_12, hw2⟩ : ∃ v_12, v_12 = v_8.alloc (.cells #[.int .i64 0, .int .i64 0, .int .i64 0, .int .i64 0] 40) := ⟨_, rfl⟩
            have l56 : b5 < b6 := by rw [hbb]; exact F5.out.lt
            have nb6_0 := F0.out.lt
            rw [← hbb] at nb6_0
            have nb6_1 := F1.out.lt
            rw [← hbb] at nb6_1
            have nb6_2 := F2.out.lt
            rw [← hbb] at nb6_2
            have nb6_3 := F3.out.lt
            rw [← hbb] at nb6_3
            have nb6_4 := F4.out.lt
            rw [← hbb] at nb6_4
            have nb6_5 := F5.out.lt
            rw [← hbb] at nb6_5
            have F6 : Hid (Blk v_12 b6 [.int .i64 0, .int .i64 0, .int .i64 0, .int .i64 0]) := by rw [hw2]; exact Blk.at_ v_8 #[.int .i64 0, .int .i64 0, .int .i64 0, .int .i64 0] _ _ hbb
            have F0 : Hid (Blk v_12 b0 [.int .i64 h.fl, .int .i64 h.gp, .int .i64 h.ln, .int .i64 h.rf, .int .i64 h.sp, .int .i64 h.pu, .int .i64 h.br, .int .i64 h.dr, .int .i64 h.lv, .int .i64 h.dO, .int .i64 h.ld, .int .i64 h.qu]) := by rw [hw2]; exact F0.out.alloc _
            have F1 : Hid (Blk v_12 b1 [.int .i64 c.pos, .int .i64 0, .int .i64 0]) := by rw [hw2]; exact F1.out.alloc _
            have F2 : Hid (Blk v_12 b2 [.int .i64 KB, .int .i64 VB]) := by rw [hw2]; exact F2.out.alloc _
            have F3 : Hid (Blk v_12 b3 [.int .i64 0, .int .i64 VF]) := by rw [hw2]; exact F3.out.alloc _
            have F4 : Hid (Blk v_12 b4 [.int .i64 0, .int .i64 N, .int .i64 g.pos, .int .i64 g.vel, .int .i64 g.door]) := by rw [hw2]; exact F4.out.alloc _
            have F5 : Hid (Blk v_12 b5 [.int .i64 cn.pos, .int .i64 cn.vel, .int .i64 cn.door]) := by rw [hw2]; exact F5.out.alloc _
            have FB : Hid (Below w.heap.size w v_12) := by rw [hw2]; exact FB.out.alloc FB.out.size _
            rw [← hw2, ← hbb]
            clear hbb hw2
            refine hK.out _ _ (by (try dsimp only); first | exact ⟨F0.out, F5.out⟩ | go_keep) (fun hHeld => ?_)
            clear hK K
            try simp only [Act.put, List.getElem_toArray, List.getElem_cons_succ, List.getElem_cons_zero, List.setIfInBounds_toArray, List.set_cons_zero, List.set_cons_succ]
            refine wpAnyH_ready (rs := [6]) (by kernel_rfl) (by simp) ?_
            refine (AllReadyH.cons rfl (fun K hK => ?_) AllReadyH.nil)
            go_simp
            refine (CS _).mono ?_
            rintro e v_13 ⟨rfl, hb⟩
            have F0 : Hid (Blk v_13 b0 [.int .i64 h.fl, .int .i64 h.gp, .int .i64 h.ln, .int .i64 h.rf, .int .i64 h.sp, .int .i64 h.pu, .int .i64 h.br, .int .i64 h.dr, .int .i64 h.lv, .int .i64 h.dO, .int .i64 h.ld, .int .i64 h.qu]) := F0.out.below hb F0.out.lt
            have F1 : Hid (Blk v_13 b1 [.int .i64 c.pos, .int .i64 0, .int .i64 0]) := F1.out.below hb F1.out.lt
            have F2 : Hid (Blk v_13 b2 [.int .i64 KB, .int .i64 VB]) := F2.out.below hb F2.out.lt
            have F3 : Hid (Blk v_13 b3 [.int .i64 0, .int .i64 VF]) := F3.out.below hb F3.out.lt
            have F4 : Hid (Blk v_13 b4 [.int .i64 0, .int .i64 N, .int .i64 g.pos, .int .i64 g.vel, .int .i64 g.door]) := F4.out.below hb F4.out.lt
            have F5 : Hid (Blk v_13 b5 [.int .i64 cn.pos, .int .i64 cn.vel, .int .i64 cn.door]) := F5.out.below hb F5.out.lt
            have FB : Hid (Below w.heap.size w v_13) := FB.out.trans (hb.mono FB.out.size)
            have F6 : Hid (Blk v_13 b6 [.int .i64 0, .int .i64 0, .int .i64 0, .int .i64 0]) := F6.out.below hb F6.out.lt
            clear hb
            try dsimp only
            refine hK.out _ _ (by (try dsimp only); first | exact ⟨F0.out, F5.out⟩ | go_keep) (fun hHeld => ?_)
            clear hK K
            try simp only [Act.put, List.getElem_toArray, List.getElem_cons_succ, List.getElem_cons_zero, List.setIfInBounds_toArray, List.set_cons_zero, List.set_cons_succ]
            refine wpAnyH_ready (rs := [8]) (by kernel_rfl) (by simp) ?_
            refine (AllReadyH.cons rfl (fun K hK => ?_) AllReadyH.nil)
            have k0 := F6.out.c 0 _ rfl
            have k1 := F6.out.c 1 _ rfl
            have k2 := F6.out.c 2 _ rfl
            have k3 := F6.out.c 3 _ rfl
            have kf0 := F6.out.f 0 (Nat.le_of_ble_eq_true rfl)
            have kf1 := F6.out.f 1 (Nat.le_of_ble_eq_true rfl)
            have kf2 := F6.out.f 2 (Nat.le_of_ble_eq_true rfl)
            have kf3 := F6.out.f 3 (Nat.le_of_ble_eq_true rfl)
            go_simp
            obtain ⟨v_14, hw2⟩ : ∃ v_14, v_14 = putB v_13 b6 0 [.int .i64 0, .int .i64 g2.pos, .int .i64 g2.vel, .int .i64 g2.door] := ⟨_, rfl⟩
            change K _ (putB v_13 b6 0 [.int .i64 0, .int .i64 g2.pos, .int .i64 g2.vel, .int .i64 g2.door])
            rw [← hw2]
            clear k0 kf0 k1 kf1 k2 kf2 k3 kf3
            have F0 : Hid (Blk v_14 b0 [.int .i64 h.fl, .int .i64 h.gp, .int .i64 h.ln, .int .i64 h.rf, .int .i64 h.sp, .int .i64 h.pu, .int .i64 h.br, .int .i64 h.dr, .int .i64 h.lv, .int .i64 h.dO, .int .i64 h.ld, .int .i64 h.qu]) := by rw [hw2]; exact Blk.putB_other (by omega) _ 0 F0.out
            have F1 : Hid (Blk v_14 b1 [.int .i64 c.pos, .int .i64 0, .int .i64 0]) := by rw [hw2]; exact Blk.putB_other (by omega) _ 0 F1.out
            have F2 : Hid (Blk v_14 b2 [.int .i64 KB, .int .i64 VB]) := by rw [hw2]; exact Blk.putB_other (by omega) _ 0 F2.out
            have F3 : Hid (Blk v_14 b3 [.int .i64 0, .int .i64 VF]) := by rw [hw2]; exact Blk.putB_other (by omega) _ 0 F3.out
            have F4 : Hid (Blk v_14 b4 [.int .i64 0, .int .i64 N, .int .i64 g.pos, .int .i64 g.vel, .int .i64 g.door]) := by rw [hw2]; exact Blk.putB_other (by omega) _ 0 F4.out
            have F5 : Hid (Blk v_14 b5 [.int .i64 cn.pos, .int .i64 cn.vel, .int .i64 cn.door]) := by rw [hw2]; exact Blk.putB_other (by omega) _ 0 F5.out
            have FB : Hid (Below w.heap.size w v_14) := by rw [hw2]; exact below_putB FB.out (by omega) _ 0
            have F6 : Hid (Blk v_14 b6 [.int .i64 0, .int .i64 g2.pos, .int .i64 g2.vel, .int .i64 g2.door]) := by rw [hw2]; exact F6.out.put [.int .i64 0, .int .i64 g2.pos, .int .i64 g2.vel, .int .i64 g2.door] rfl
            clear hw2
            refine hK.out _ _ (by (try dsimp only); first | exact ⟨F0.out, F5.out⟩ | go_keep) (fun hHeld => ?_)
            clear hK K
            try simp only [Act.put, List.getElem_toArray, List.getElem_cons_succ, List.getElem_cons_zero, List.setIfInBounds_toArray, List.set_cons_zero, List.set_cons_succ]
            refine wpAnyH_done (by kernel_rfl) ?_ _
            go_wp2_with fail
            go_meet
            case rel => exact ⟨b6, rfl, l56, F6.out, F0.out, F1.out, F2.out, F3.out, F4.out, F5.out, FB.out⟩
        · go_simp
          obtain ⟨b6, hbb⟩ : ∃ b6, b6 = v_7.heap.size := ⟨_, rfl⟩
          obtain ⟨v_15, hw2⟩ : ∃ v_15, v_15 = v_7.alloc (.cells #[.int .i64 0, .int .i64 0, .int .i64 0, .int .i64 0] 40) := ⟨_, rfl⟩
          have l56 : b5 < b6 := by rw [hbb]; exact F5.out.lt
          have nb6_0 := F0.out.lt
          rw [← hbb] at nb6_0
          have nb6_1 := F1.out.lt
          rw [← hbb] at nb6_1
          have nb6_2 := F2.out.lt
          rw [← hbb] at nb6_2
          have nb6_3 := F3.out.lt
          rw [← hbb] at nb6_3
          have nb6_4 := F4.out.lt
          rw [← hbb] at nb6_4
          have nb6_5 := F5.out.lt
          rw [← hbb] at nb6_5
          have F6 : Hid (Blk v_15 b6 [.int .i64 0, .int .i64 0, .int .i64 0, .int .i64 0]) := by rw [hw2]; exact Blk.at_ v_7 #[.int .i64 0, .int .i64 0, .int .i64 0, .int .i64 0] _ _ hbb
          have F0 : Hid (Blk v_15 b0 [.int .i64 h.fl, .int .i64 h.gp, .int .i64 h.ln, .int .i64 h.rf, .int .i64 h.sp, .int .i64 h.pu, .int .i64 h.br, .int .i64 h.dr, .int .i64 h.lv, .int .i64 h.dO, .int .i64 h.ld, .int .i64 h.qu]) := by rw [hw2]; exact F0.out.alloc _
          have F1 : Hid (Blk v_15 b1 [.int .i64 c.pos, .int .i64 0, .int .i64 0]) := by rw [hw2]; exact F1.out.alloc _
          have F2 : Hid (Blk v_15 b2 [.int .i64 KB, .int .i64 VB]) := by rw [hw2]; exact F2.out.alloc _
          have F3 : Hid (Blk v_15 b3 [.int .i64 0, .int .i64 VF]) := by rw [hw2]; exact F3.out.alloc _
          have F4 : Hid (Blk v_15 b4 [.int .i64 0, .int .i64 N, .int .i64 g.pos, .int .i64 g.vel, .int .i64 g.door]) := by rw [hw2]; exact F4.out.alloc _
          have F5 : Hid (Blk v_15 b5 [.int .i64 cn.pos, .int .i64 cn.vel, .int .i64 cn.door]) := by rw [hw2]; exact F5.out.alloc _
          have FB : Hid (Below w.heap.size w v_15) := by rw [hw2]; exact FB.out.alloc FB.out.size _
          rw [← hw2, ← hbb]
          clear hbb hw2
          refine hK.out _ _ (by (try dsimp only); first | exact ⟨F0.out, F5.out⟩ | go_keep) (fun hHeld => ?_)
          clear hK K
          try simp only [Act.put, List.getElem_toArray, List.getElem_cons_succ, List.getElem_cons_zero, List.setIfInBounds_toArray, List.set_cons_zero, List.set_cons_succ]
          refine wpAnyH_ready (rs := [5]) (by kernel_rfl) (by simp) ?_
          refine (AllReadyH.cons rfl (fun K hK => ?_) AllReadyH.nil)
          go_simp
          refine (CX _).mono ?_
          rintro e v_16 ⟨rfl, hb⟩
          have F0 : Hid (Blk v_16 b0 [.int .i64 h.fl, .int .i64 h.gp, .int .i64 h.ln, .int .i64 h.rf, .int .i64 h.sp, .int .i64 h.pu, .int .i64 h.br, .int .i64 h.dr, .int .i64 h.lv, .int .i64 h.dO, .int .i64 h.ld, .int .i64 h.qu]) := F0.out.below hb F0.out.lt
          have F1 : Hid (Blk v_16 b1 [.int .i64 c.pos, .int .i64 0, .int .i64 0]) := F1.out.below hb F1.out.lt
          have F2 : Hid (Blk v_16 b2 [.int .i64 KB, .int .i64 VB]) := F2.out.below hb F2.out.lt
          have F3 : Hid (Blk v_16 b3 [.int .i64 0, .int .i64 VF]) := F3.out.below hb F3.out.lt
          have F4 : Hid (Blk v_16 b4 [.int .i64 0, .int .i64 N, .int .i64 g.pos, .int .i64 g.vel, .int .i64 g.door]) := F4.out.below hb F4.out.lt
          have F5 : Hid (Blk v_16 b5 [.int .i64 cn.pos, .int .i64 cn.vel, .int .i64 cn.door]) := F5.out.below hb F5.out.lt
          have FB : Hid (Below w.heap.size w v_16) := FB.out.trans (hb.mono FB.out.size)
          have F6 : Hid (Blk v_16 b6 [.int .i64 0, .int .i64 0, .int .i64 0, .int .i64 0]) := F6.out.below hb F6.out.lt
          clear hb
          try dsimp only
          refine hK.out _ _ (by (try dsimp only); first | exact ⟨F0.out, F5.out⟩ | go_keep) (fun hHeld => ?_)
          clear hK K
          try simp only [Act.put, List.getElem_toArray, List.getElem_cons_succ, List.getElem_cons_zero, List.setIfInBounds_toArray, List.set_cons_zero, List.set_cons_succ]
          refine wpAnyH_ready (rs := [6]) (by kernel_rfl) (by simp) ?_
          refine (AllReadyH.cons rfl (fun K hK => ?_) AllReadyH.nil)
          go_simp
          refine (CS _).mono ?_
          rintro e v_17 ⟨rfl, hb⟩
          have F0 : Hid (Blk v_17 b0 [.int .i64 h.fl, .int .i64 h.gp, .int .i64 h.ln, .int .i64 h.rf, .int .i64 h.sp, .int .i64 h.pu, .int .i64 h.br, .int .i64 h.dr, .int .i64 h.lv, .int .i64 h.dO, .int .i64 h.ld, .int .i64 h.qu]) := F0.out.below hb F0.out.lt
          have F1 : Hid (Blk v_17 b1 [.int .i64 c.pos, .int .i64 0, .int .i64 0]) := F1.out.below hb F1.out.lt
          have F2 : Hid (Blk v_17 b2 [.int .i64 KB, .int .i64 VB]) := F2.out.below hb F2.out.lt
          have F3 : Hid (Blk v_17 b3 [.int .i64 0, .int .i64 VF]) := F3.out.below hb F3.out.lt
          have F4 : Hid (Blk v_17 b4 [.int .i64 0, .int .i64 N, .int .i64 g.pos, .int .i64 g.vel, .int .i64 g.door]) := F4.out.below hb F4.out.lt
          have F5 : Hid (Blk v_17 b5 [.int .i64 cn.pos, .int .i64 cn.vel, .int .i64 cn.door]) := F5.out.below hb F5.out.lt
          have FB : Hid (Below w.heap.size w v_17) := FB.out.trans (hb.mono FB.out.size)
          have F6 : Hid (Blk v_17 b6 [.int .i64 0, .int .i64 0, .int .i64 0, .int .i64 0]) := F6.out.below hb F6.out.lt
          clear hb
          try dsimp only
          refine hK.out _ _ (by (try dsimp only); first | exact ⟨F0.out, F5.out⟩ | go_keep) (fun hHeld => ?_)
          clear hK K
          try simp only [Act.put, List.getElem_toArray, List.getElem_cons_succ, List.getElem_cons_zero, List.setIfInBounds_toArray, List.set_cons_zero, List.set_cons_succ]
          refine wpAnyH_ready (rs := [8]) (by kernel_rfl) (by simp) ?_
          refine (AllReadyH.cons rfl (fun K hK => ?_) AllReadyH.nil)
          have k0 := F6.out.c 0 _ rfl
          have k1 := F6.out.c 1 _ rfl
          have k2 := F6.out.c 2 _ rfl
          have k3 := F6.out.c 3 _ rfl
          have kf0 := F6.out.f 0 (Nat.le_of_ble_eq_true rfl)
          have kf1 := F6.out.f 1 (Nat.le_of_ble_eq_true rfl)
          have kf2 := F6.out.f 2 (Nat.le_of_ble_eq_true rfl)
          have kf3 := F6.out.f 3 (Nat.le_of_ble_eq_true rfl)
          go_simp
          obtain ⟨v_18, hw2⟩ : ∃ v_18, v_18 = putB v_17 b6 0 [.int .i64 0, .int .i64 g2.pos, .int .i64 g2.vel, .int .i64 g2.door] := ⟨_, rfl⟩
          change K _ (putB v_17 b6 0 [.int .i64 0, .int .i64 g2.pos, .int .i64 g2.vel, .int .i64 g2.door])
          rw [← hw2]
          clear k0 kf0 k1 kf1 k2 kf2 k3 kf3
          have F0 : Hid (Blk v_18 b0 [.int .i64 h.fl, .int .i64 h.gp, .int .i64 h.ln, .int .i64 h.rf, .int .i64 h.sp, .int .i64 h.pu, .int .i64 h.br, .int .i64 h.dr, .int .i64 h.lv, .int .i64 h.dO, .int .i64 h.ld, .int .i64 h.qu]) := by rw [hw2]; exact Blk.putB_other (by omega) _ 0 F0.out
          have F1 : Hid (Blk v_18 b1 [.int .i64 c.pos, .int .i64 0, .int .i64 0]) := by rw [hw2]; exact Blk.putB_other (by omega) _ 0 F1.out
          have F2 : Hid (Blk v_18 b2 [.int .i64 KB, .int .i64 VB]) := by rw [hw2]; exact Blk.putB_other (by omega) _ 0 F2.out
          have F3 : Hid (Blk v_18 b3 [.int .i64 0, .int .i64 VF]) := by rw [hw2]; exact Blk.putB_other (by omega) _ 0 F3.out
          have F4 : Hid (Blk v_18 b4 [.int .i64 0, .int .i64 N, .int .i64 g.pos, .int .i64 g.vel, .int .i64 g.door]) := by rw [hw2]; exact Blk.putB_other (by omega) _ 0 F4.out
          have F5 : Hid (Blk v_18 b5 [.int .i64 cn.pos, .int .i64 cn.vel, .int .i64 cn.door]) := by rw [hw2]; exact Blk.putB_other (by omega) _ 0 F5.out
          have FB : Hid (Below w.heap.size w v_18) := by rw [hw2]; exact below_putB FB.out (by omega) _ 0
          have F6 : Hid (Blk v_18 b6 [.int .i64 0, .int .i64 g2.pos, .int .i64 g2.vel, .int .i64 g2.door]) := by rw [hw2]; exact F6.out.put [.int .i64 0, .int .i64 g2.pos, .int .i64 g2.vel, .int .i64 g2.door] rfl
          clear hw2
          refine hK.out _ _ (by (try dsimp only); first | exact ⟨F0.out, F5.out⟩ | go_keep) (fun hHeld => ?_)
          clear hK K
          try simp only [Act.put, List.getElem_toArray, List.getElem_cons_succ, List.getElem_cons_zero, List.setIfInBounds_toArray, List.set_cons_zero, List.set_cons_succ]
          refine wpAnyH_done (by kernel_rfl) ?_ _
          go_wp2_with fail
          go_meet
          case rel => exact ⟨b6, rfl, l56, F6.out, F0.out, F1.out, F2.out, F3.out, F4.out, F5.out, FB.out⟩
      case rest =>
      obtain ⟨b6, rfl, l56, h_F6, h_F0, h_F1, h_F2, h_F3, h_F4, h_F5, hB⟩ := hcut
      clear F0 F1 F2 F3 F4 F5 FB CX CS
      have F6 : Hid (Blk wc b6 [.int .i64 0, .int .i64 g2.pos, .int .i64 g2.vel, .int .i64 g2.door]) := h_F6
      clear h_F6
      have F0 : Hid (Blk wc b0 [.int .i64 h.fl, .int .i64 h.gp, .int .i64 h.ln, .int .i64 h.rf, .int .i64 h.sp, .int .i64 h.pu, .int .i64 h.br, .int .i64 h.dr, .int .i64 h.lv, .int .i64 h.dO, .int .i64 h.ld, .int .i64 h.qu]) := h_F0
      have F1 : Hid (Blk wc b1 [.int .i64 c.pos, .int .i64 0, .int .i64 0]) := h_F1
      have F2 : Hid (Blk wc b2 [.int .i64 KB, .int .i64 VB]) := h_F2
      have F3 : Hid (Blk wc b3 [.int .i64 0, .int .i64 VF]) := h_F3
      have F4 : Hid (Blk wc b4 [.int .i64 0, .int .i64 N, .int .i64 g.pos, .int .i64 g.vel, .int .i64 g.door]) := h_F4
      have F5 : Hid (Blk wc b5 [.int .i64 cn.pos, .int .i64 cn.vel, .int .i64 cn.door]) := h_F5
      have FB : Hid (Below w.heap.size w wc) := hB
      clear h_F0 h_F1 h_F2 h_F3 h_F4 h_F5 hB
      clear dr1
      by_cases hs : 0 < DC
      · have p1 : decide (0 < DC) = true := decide_eq_true hs
        have p2 : decide (L < g2.pos) = false := decide_eq_false (fun q => hC1 q hs)
        have p3 : decide (DC < 0) = false := decide_eq_false (by omega)
        clear hs hC1 hC2
        go_upto_region 18 with fail
        have F0 : Hid (Blk wc.drew b0 [.int .i64 h.fl, .int .i64 h.gp, .int .i64 h.ln, .int .i64 h.rf, .int .i64 h.sp, .int .i64 h.pu, .int .i64 h.br, .int .i64 h.dr, .int .i64 h.lv, .int .i64 h.dO, .int .i64 h.ld, .int .i64 h.qu]) := F0.out.below (Below.refl _ _).drew F0.out.lt
        have F1 : Hid (Blk wc.drew b1 [.int .i64 c.pos, .int .i64 0, .int .i64 0]) := F1.out.below (Below.refl _ _).drew F1.out.lt
        have F2 : Hid (Blk wc.drew b2 [.int .i64 KB, .int .i64 VB]) := F2.out.below (Below.refl _ _).drew F2.out.lt
        have F3 : Hid (Blk wc.drew b3 [.int .i64 0, .int .i64 VF]) := F3.out.below (Below.refl _ _).drew F3.out.lt
        have F4 : Hid (Blk wc.drew b4 [.int .i64 0, .int .i64 N, .int .i64 g.pos, .int .i64 g.vel, .int .i64 g.door]) := F4.out.below (Below.refl _ _).drew F4.out.lt
        have F5 : Hid (Blk wc.drew b5 [.int .i64 cn.pos, .int .i64 cn.vel, .int .i64 cn.door]) := F5.out.below (Below.refl _ _).drew F5.out.lt
        have F6 : Hid (Blk wc.drew b6 [.int .i64 0, .int .i64 g2.pos, .int .i64 g2.vel, .int .i64 g2.door]) := F6.out.below (Below.refl _ _).drew F6.out.lt
        have FB : Hid (Below w.heap.size w wc.drew) := FB.out.drew
        refine wp_region_held_drew (S := (fun w'' => Blk w'' b1 ([.int .i64 c.pos, .int .i64 0, .int .i64 0]) ∧ Blk w'' b5 ([.int .i64 cn.pos, .int .i64 cn.vel, .int .i64 cn.door]) ∧ Blk w'' b6 ([.int .i64 0, .int .i64 g2.pos, .int .i64 g2.vel, .int .i64 g2.door]))) (by kernel_rfl) (by (try dsimp only); first | exact ⟨F1.out, F5.out, F6.out⟩ | go_keep) (fun hHeld => ?_)
        obtain ⟨v_19, hw1⟩ : ∃ v_19, v_19 = wc.drew := ⟨_, rfl⟩
        have F0 : Hid (Blk v_19 b0 [.int .i64 h.fl, .int .i64 h.gp, .int .i64 h.ln, .int .i64 h.rf, .int .i64 h.sp, .int .i64 h.pu, .int .i64 h.br, .int .i64 h.dr, .int .i64 h.lv, .int .i64 h.dO, .int .i64 h.ld, .int .i64 h.qu]) := by rw [hw1]; exact F0.out
        have F1 : Hid (Blk v_19 b1 [.int .i64 c.pos, .int .i64 0, .int .i64 0]) := by rw [hw1]; exact F1.out
        have F2 : Hid (Blk v_19 b2 [.int .i64 KB, .int .i64 VB]) := by rw [hw1]; exact F2.out
        have F3 : Hid (Blk v_19 b3 [.int .i64 0, .int .i64 VF]) := by rw [hw1]; exact F3.out
        have F4 : Hid (Blk v_19 b4 [.int .i64 0, .int .i64 N, .int .i64 g.pos, .int .i64 g.vel, .int .i64 g.door]) := by rw [hw1]; exact F4.out
        have F5 : Hid (Blk v_19 b5 [.int .i64 cn.pos, .int .i64 cn.vel, .int .i64 cn.door]) := by rw [hw1]; exact F5.out
        have F6 : Hid (Blk v_19 b6 [.int .i64 0, .int .i64 g2.pos, .int .i64 g2.vel, .int .i64 g2.door]) := by rw [hw1]; exact F6.out
        have FB : Hid (Below w.heap.size w v_19) := by rw [hw1]; exact FB.out
        rw [← hw1] at hHeld ⊢
        clear hw1
        refine tkz 0 rfl ?_
        refine tkz 1 rfl ?_ (hy := Or.inl ⟨by kernel_rfl, by (intro wx hSw; have hq2_0 := hSw.2.2.c 0 _ rfl; (try dsimp only at hSw); go_simp <;> with_reducible rfl)⟩)
        refine tkz 2 rfl ?_
        refine tkz 3 rfl ?_
        refine tkz 4 rfl ?_
        refine tkz 5 rfl ?_
        refine tkz 6 rfl ?_
        refine tkz 7 rfl ?_ (hy := Or.inl ⟨by kernel_rfl, by (intro wx hSw; have hq2_1 := hSw.2.2.c 1 _ rfl; (try dsimp only at hSw); go_simp <;> with_reducible rfl)⟩)
        refine tkz 8 rfl ?_
        refine tkz 10 rfl ?_
        refine tkz 11 rfl ?_
        refine tkz 12 rfl ?_ (hy := Or.inl ⟨by kernel_rfl, by (intro wx hSw; have hq1_0 := hSw.2.1.c 0 _ rfl; (try dsimp only at hSw); go_simp <;> with_reducible rfl)⟩)
        refine tkz 13 rfl ?_
        refine wpAnyH_ready (rs := [9]) (by kernel_rfl) (by simp) ?_
        refine (AllReadyH.cons rfl (fun K hK => ?_) AllReadyH.nil)
        go_simp
        refine (A1 _).mono ?_
        rintro e w_ ⟨rfl, hw⟩
        obtain rfl := hw.symm
        clear hw
        try dsimp only
        refine hK.out _ _ (by (try dsimp only); first | exact ⟨F1.out, F5.out, F6.out⟩ | go_keep) (fun hHeld => ?_)
        clear hK K
        try simp only [Act.put, List.getElem_toArray, List.getElem_cons_succ, List.getElem_cons_zero, List.setIfInBounds_toArray, List.set_cons_zero, List.set_cons_succ]
        refine wpAnyH_ready (rs := [14]) (by kernel_rfl) (by simp) ?_
        refine (AllReadyH.cons rfl (fun K hK => ?_) AllReadyH.nil)
        go_simp
        refine (A2 _).mono ?_
        rintro e w_ ⟨rfl, hw⟩
        obtain rfl := hw.symm
        clear hw
        try dsimp only
        refine hK.out _ _ (by (try dsimp only); first | exact ⟨F1.out, F5.out, F6.out⟩ | go_keep) (fun hHeld => ?_)
        clear hK K
        try simp only [Act.put, List.getElem_toArray, List.getElem_cons_succ, List.getElem_cons_zero, List.setIfInBounds_toArray, List.set_cons_zero, List.set_cons_succ]
        refine tkz 15 rfl ?_
        refine tkz 16 rfl ?_
        refine tkz 17 rfl ?_
        refine tkz 18 rfl ?_
        refine tkz 19 rfl ?_
        refine tkz 20 rfl ?_ (hy := Or.inl ⟨by kernel_rfl, by (intro wx hSw; have hq0_0 := hSw.1.c 0 _ rfl; (try dsimp only at hSw); go_simp <;> with_reducible rfl)⟩)
        refine tkz 21 rfl ?_
        refine tkz 22 rfl ?_
        refine tkz 23 rfl ?_
        refine tkz 24 rfl ?_
        refine tkz 25 rfl ?_
        refine tkz 26 rfl ?_ (hy := Or.inl ⟨by kernel_rfl, by (intro wx hSw; have hq2_1 := hSw.2.2.c 1 _ rfl; (try dsimp only at hSw); go_simp <;> with_reducible rfl)⟩)
        refine tkz 27 rfl ?_
        refine tkz 28 rfl ?_
        refine tkz 29 rfl ?_
        refine tkz 30 rfl ?_
        refine tkz 31 rfl ?_
        refine tkz 32 rfl ?_
        refine tkz 33 rfl ?_
        refine tkz 34 rfl ?_ (hy := Or.inl ⟨by kernel_rfl, by (intro wx hSw; have hq0_0 := hSw.1.c 0 _ rfl; (try dsimp only at hSw); go_simp <;> with_reducible rfl)⟩)
        refine tkz 35 rfl ?_
        refine tkz 36 rfl ?_
        refine tkz 37 rfl ?_
        refine tbz 38 rfl ?_
        refine tbz 39 rfl ?_
        refine tbz 40 rfl ?_
        refine tbz 41 rfl ?_
        refine tbz 42 rfl ?_
        refine tkz 43 rfl ?_
        refine tkz 44 rfl ?_
        refine wpAnyH_done (by kernel_rfl) ?_ _
        go_wp2_with (first | (refine load_midF 27 _ 1 [.int .i64 g2.pos, .int .i64 g2.vel, .int .i64 g2.door] Try.underlying27 (by kernel_rfl) F6.out rfl rfl rfl rfl ?_) | (refine store_blk [.int .i64 g2.pos, .int .i64 g2.vel, .int .i64 g2.door] 27 _ _ (by kernel_rfl) (by kernel_rfl) (by kernel_rfl) F5.out rfl rfl rfl rfl ?_))
        have F5 : Hid (Blk _ b5 [.int .i64 g2.pos, .int .i64 g2.vel, .int .i64 g2.door]) := F5.out.row [.int .i64 g2.pos, .int .i64 g2.vel, .int .i64 g2.door]
        go_roundw
        case rel => exact ⟨n + 1, g2, nD h d v, nV h d v, rfl, HR2.out, F0.out.row_other (by omega) _, F1.out.row_other (by omega) _, F2.out.row_other (by omega) _, F3.out.row_other (by omega) _, F4.out.row_other (by omega) _, F5.out, below_row FB.out (by omega) _⟩
        case measure => simp [intOf]; omega
      · have p1 : decide (0 < DC) = false := decide_eq_false hs
        by_cases hs2 : DC < 0
        · have p3 : decide (DC < 0) = true := decide_eq_true hs2
          have p4 : decide (g2.pos < L) = false := decide_eq_false (fun q => hC2 q hs2)
          clear hs hs2 hC1 hC2
          go_upto_region 18 with fail
          have F0 : Hid (Blk wc.drew b0 [.int .i64 h.fl, .int .i64 h.gp, .int .i64 h.ln, .int .i64 h.rf, .int .i64 h.sp, .int .i64 h.pu, .int .i64 h.br, .int .i64 h.dr, .int .i64 h.lv, .int .i64 h.dO, .int .i64 h.ld, .int .i64 h.qu]) := F0.out.below (Below.refl _ _).drew F0.out.lt
          have F1 : Hid (Blk wc.drew b1 [.int .i64 c.pos, .int .i64 0, .int .i64 0]) := F1.out.below (Below.refl _ _).drew F1.out.lt
          have F2 : Hid (Blk wc.drew b2 [.int .i64 KB, .int .i64 VB]) := F2.out.below (Below.refl _ _).drew F2.out.lt
          have F3 : Hid (Blk wc.drew b3 [.int .i64 0, .int .i64 VF]) := F3.out.below (Below.refl _ _).drew F3.out.lt
          have F4 : Hid (Blk wc.drew b4 [.int .i64 0, .int .i64 N, .int .i64 g.pos, .int .i64 g.vel, .int .i64 g.door]) := F4.out.below (Below.refl _ _).drew F4.out.lt
          have F5 : Hid (Blk wc.drew b5 [.int .i64 cn.pos, .int .i64 cn.vel, .int .i64 cn.door]) := F5.out.below (Below.refl _ _).drew F5.out.lt
          have F6 : Hid (Blk wc.drew b6 [.int .i64 0, .int .i64 g2.pos, .int .i64 g2.vel, .int .i64 g2.door]) := F6.out.below (Below.refl _ _).drew F6.out.lt
          have FB : Hid (Below w.heap.size w wc.drew) := FB.out.drew
          refine wp_region_held_drew (S := (fun w'' => Blk w'' b1 ([.int .i64 c.pos, .int .i64 0, .int .i64 0]) ∧ Blk w'' b5 ([.int .i64 cn.pos, .int .i64 cn.vel, .int .i64 cn.door]) ∧ Blk w'' b6 ([.int .i64 0, .int .i64 g2.pos, .int .i64 g2.vel, .int .i64 g2.door]))) (by kernel_rfl) (by (try dsimp only); first | exact ⟨F1.out, F5.out, F6.out⟩ | go_keep) (fun hHeld => ?_)
          obtain ⟨v_20, hw1⟩ : ∃ v_20, v_20 = wc.drew := ⟨_, rfl⟩
          have F0 : Hid (Blk v_20 b0 [.int .i64 h.fl, .int .i64 h.gp, .int .i64 h.ln, .int .i64 h.rf, .int .i64 h.sp, .int .i64 h.pu, .int .i64 h.br, .int .i64 h.dr, .int .i64 h.lv, .int .i64 h.dO, .int .i64 h.ld, .int .i64 h.qu]) := by rw [hw1]; exact F0.out
          have F1 : Hid (Blk v_20 b1 [.int .i64 c.pos, .int .i64 0, .int .i64 0]) := by rw [hw1]; exact F1.out
          have F2 : Hid (Blk v_20 b2 [.int .i64 KB, .int .i64 VB]) := by rw [hw1]; exact F2.out
          have F3 : Hid (Blk v_20 b3 [.int .i64 0, .int .i64 VF]) := by rw [hw1]; exact F3.out
          have F4 : Hid (Blk v_20 b4 [.int .i64 0, .int .i64 N, .int .i64 g.pos, .int .i64 g.vel, .int .i64 g.door]) := by rw [hw1]; exact F4.out
          have F5 : Hid (Blk v_20 b5 [.int .i64 cn.pos, .int .i64 cn.vel, .int .i64 cn.door]) := by rw [hw1]; exact F5.out
          have F6 : Hid (Blk v_20 b6 [.int .i64 0, .int .i64 g2.pos, .int .i64 g2.vel, .int .i64 g2.door]) := by rw [hw1]; exact F6.out
          have FB : Hid (Below w.heap.size w v_20) := by rw [hw1]; exact FB.out
          rw [← hw1] at hHeld ⊢
          clear hw1
          refine tkz 0 rfl ?_
          refine tkz 1 rfl ?_ (hy := Or.inl ⟨by kernel_rfl, by (intro wx hSw; have hq2_0 := hSw.2.2.c 0 _ rfl; (try dsimp only at hSw); go_simp <;> with_reducible rfl)⟩)
          refine tkz 2 rfl ?_
          refine tkz 3 rfl ?_
          refine tkz 4 rfl ?_
          refine tkz 5 rfl ?_
          refine tkz 6 rfl ?_
          refine tkz 7 rfl ?_ (hy := Or.inl ⟨by kernel_rfl, by (intro wx hSw; have hq2_1 := hSw.2.2.c 1 _ rfl; (try dsimp only at hSw); go_simp <;> with_reducible rfl)⟩)
          refine tkz 8 rfl ?_
          refine tkz 10 rfl ?_
          refine tkz 11 rfl ?_
          refine tkz 12 rfl ?_ (hy := Or.inl ⟨by kernel_rfl, by (intro wx hSw; have hq1_0 := hSw.2.1.c 0 _ rfl; (try dsimp only at hSw); go_simp <;> with_reducible rfl)⟩)
          refine tkz 13 rfl ?_
          refine wpAnyH_ready (rs := [9]) (by kernel_rfl) (by simp) ?_
          refine (AllReadyH.cons rfl (fun K hK => ?_) AllReadyH.nil)
          go_simp
          refine (A1 _).mono ?_
          rintro e w_ ⟨rfl, hw⟩
          obtain rfl := hw.symm
          clear hw
          try dsimp only
          refine hK.out _ _ (by (try dsimp only); first | exact ⟨F1.out, F5.out, F6.out⟩ | go_keep) (fun hHeld => ?_)
          clear hK K
          try simp only [Act.put, List.getElem_toArray, List.getElem_cons_succ, List.getElem_cons_zero, List.setIfInBounds_toArray, List.set_cons_zero, List.set_cons_succ]
          refine wpAnyH_ready (rs := [14]) (by kernel_rfl) (by simp) ?_
          refine (AllReadyH.cons rfl (fun K hK => ?_) AllReadyH.nil)
          go_simp
          refine (A2 _).mono ?_
          rintro e w_ ⟨rfl, hw⟩
          obtain rfl := hw.symm
          clear hw
          try dsimp only
          refine hK.out _ _ (by (try dsimp only); first | exact ⟨F1.out, F5.out, F6.out⟩ | go_keep) (fun hHeld => ?_)
          clear hK K
          try simp only [Act.put, List.getElem_toArray, List.getElem_cons_succ, List.getElem_cons_zero, List.setIfInBounds_toArray, List.set_cons_zero, List.set_cons_succ]
          refine tkz 15 rfl ?_
          refine tkz 16 rfl ?_
          refine tkz 17 rfl ?_
          refine tkz 18 rfl ?_
          refine tkz 19 rfl ?_
          refine tkz 20 rfl ?_ (hy := Or.inl ⟨by kernel_rfl, by (intro wx hSw; have hq0_0 := hSw.1.c 0 _ rfl; (try dsimp only at hSw); go_simp <;> with_reducible rfl)⟩)
          refine tkz 21 rfl ?_
          refine tkz 22 rfl ?_
          refine tkz 23 rfl ?_
          refine tbz 24 rfl ?_
          refine tbz 25 rfl ?_
          refine tbz 26 rfl ?_
          refine tbz 27 rfl ?_
          refine tbz 28 rfl ?_
          refine tkz 29 rfl ?_
          refine tkz 30 rfl ?_
          refine tkz 31 rfl ?_
          refine tkz 32 rfl ?_
          refine tkz 33 rfl ?_
          refine tkz 34 rfl ?_ (hy := Or.inl ⟨by kernel_rfl, by (intro wx hSw; have hq0_0 := hSw.1.c 0 _ rfl; (try dsimp only at hSw); go_simp <;> with_reducible rfl)⟩)
          refine tkz 35 rfl ?_
          refine tkz 36 rfl ?_
          refine tkz 37 rfl ?_
          refine tkz 38 rfl ?_
          refine tkz 39 rfl ?_
          refine tkz 40 rfl ?_ (hy := Or.inl ⟨by kernel_rfl, by (intro wx hSw; have hq2_1 := hSw.2.2.c 1 _ rfl; (try dsimp only at hSw); go_simp <;> with_reducible rfl)⟩)
          refine tkz 41 rfl ?_
          refine tkz 42 rfl ?_
          refine tkz 43 rfl ?_
          refine tkz 44 rfl ?_
          refine wpAnyH_done (by kernel_rfl) ?_ _
          go_wp2_with (first | (refine load_midF 27 _ 1 [.int .i64 g2.pos, .int .i64 g2.vel, .int .i64 g2.door] Try.underlying27 (by kernel_rfl) F6.out rfl rfl rfl rfl ?_) | (refine store_blk [.int .i64 g2.pos, .int .i64 g2.vel, .int .i64 g2.door] 27 _ _ (by kernel_rfl) (by kernel_rfl) (by kernel_rfl) F5.out rfl rfl rfl rfl ?_))
          have F5 : Hid (Blk _ b5 [.int .i64 g2.pos, .int .i64 g2.vel, .int .i64 g2.door]) := F5.out.row [.int .i64 g2.pos, .int .i64 g2.vel, .int .i64 g2.door]
          go_roundw
          case rel => exact ⟨n + 1, g2, nD h d v, nV h d v, rfl, HR2.out, F0.out.row_other (by omega) _, F1.out.row_other (by omega) _, F2.out.row_other (by omega) _, F3.out.row_other (by omega) _, F4.out.row_other (by omega) _, F5.out, below_row FB.out (by omega) _⟩
          case measure => simp [intOf]; omega
        · have p3 : decide (DC < 0) = false := decide_eq_false hs2
          clear hs hs2 hC1 hC2
          go_upto_region 18 with fail
          have F0 : Hid (Blk wc.drew b0 [.int .i64 h.fl, .int .i64 h.gp, .int .i64 h.ln, .int .i64 h.rf, .int .i64 h.sp, .int .i64 h.pu, .int .i64 h.br, .int .i64 h.dr, .int .i64 h.lv, .int .i64 h.dO, .int .i64 h.ld, .int .i64 h.qu]) := F0.out.below (Below.refl _ _).drew F0.out.lt
          have F1 : Hid (Blk wc.drew b1 [.int .i64 c.pos, .int .i64 0, .int .i64 0]) := F1.out.below (Below.refl _ _).drew F1.out.lt
          have F2 : Hid (Blk wc.drew b2 [.int .i64 KB, .int .i64 VB]) := F2.out.below (Below.refl _ _).drew F2.out.lt
          have F3 : Hid (Blk wc.drew b3 [.int .i64 0, .int .i64 VF]) := F3.out.below (Below.refl _ _).drew F3.out.lt
          have F4 : Hid (Blk wc.drew b4 [.int .i64 0, .int .i64 N, .int .i64 g.pos, .int .i64 g.vel, .int .i64 g.door]) := F4.out.below (Below.refl _ _).drew F4.out.lt
          have F5 : Hid (Blk wc.drew b5 [.int .i64 cn.pos, .int .i64 cn.vel, .int .i64 cn.door]) := F5.out.below (Below.refl _ _).drew F5.out.lt
          have F6 : Hid (Blk wc.drew b6 [.int .i64 0, .int .i64 g2.pos, .int .i64 g2.vel, .int .i64 g2.door]) := F6.out.below (Below.refl _ _).drew F6.out.lt
          have FB : Hid (Below w.heap.size w wc.drew) := FB.out.drew
          refine wp_region_held_drew (S := (fun w'' => Blk w'' b1 ([.int .i64 c.pos, .int .i64 0, .int .i64 0]) ∧ Blk w'' b5 ([.int .i64 cn.pos, .int .i64 cn.vel, .int .i64 cn.door]) ∧ Blk w'' b6 ([.int .i64 0, .int .i64 g2.pos, .int .i64 g2.vel, .int .i64 g2.door]))) (by kernel_rfl) (by (try dsimp only); first | exact ⟨F1.out, F5.out, F6.out⟩ | go_keep) (fun hHeld => ?_)
          obtain ⟨v_21, hw1⟩ : ∃ v_21, v_21 = wc.drew := ⟨_, rfl⟩
          have F0 : Hid (Blk v_21 b0 [.int .i64 h.fl, .int .i64 h.gp, .int .i64 h.ln, .int .i64 h.rf, .int .i64 h.sp, .int .i64 h.pu, .int .i64 h.br, .int .i64 h.dr, .int .i64 h.lv, .int .i64 h.dO, .int .i64 h.ld, .int .i64 h.qu]) := by rw [hw1]; exact F0.out
          have F1 : Hid (Blk v_21 b1 [.int .i64 c.pos, .int .i64 0, .int .i64 0]) := by rw [hw1]; exact F1.out
          have F2 : Hid (Blk v_21 b2 [.int .i64 KB, .int .i64 VB]) := by rw [hw1]; exact F2.out
          have F3 : Hid (Blk v_21 b3 [.int .i64 0, .int .i64 VF]) := by rw [hw1]; exact F3.out
          have F4 : Hid (Blk v_21 b4 [.int .i64 0, .int .i64 N, .int .i64 g.pos, .int .i64 g.vel, .int .i64 g.door]) := by rw [hw1]; exact F4.out
          have F5 : Hid (Blk v_21 b5 [.int .i64 cn.pos, .int .i64 cn.vel, .int .i64 cn.door]) := by rw [hw1]; exact F5.out
          have F6 : Hid (Blk v_21 b6 [.int .i64 0, .int .i64 g2.pos, .int .i64 g2.vel, .int .i64 g2.door]) := by rw [hw1]; exact F6.out
          have FB : Hid (Below w.heap.size w v_21) := by rw [hw1]; exact FB.out
          rw [← hw1] at hHeld ⊢
          clear hw1
          refine tkz 0 rfl ?_
          refine tkz 1 rfl ?_ (hy := Or.inl ⟨by kernel_rfl, by (intro wx hSw; have hq2_0 := hSw.2.2.c 0 _ rfl; (try dsimp only at hSw); go_simp <;> with_reducible rfl)⟩)
          refine tkz 2 rfl ?_
          refine tkz 3 rfl ?_
          refine tkz 4 rfl ?_
          refine tkz 5 rfl ?_
          refine tkz 6 rfl ?_
          refine tkz 7 rfl ?_ (hy := Or.inl ⟨by kernel_rfl, by (intro wx hSw; have hq2_1 := hSw.2.2.c 1 _ rfl; (try dsimp only at hSw); go_simp <;> with_reducible rfl)⟩)
          refine tkz 8 rfl ?_
          refine tkz 10 rfl ?_
          refine tkz 11 rfl ?_
          refine tkz 12 rfl ?_ (hy := Or.inl ⟨by kernel_rfl, by (intro wx hSw; have hq1_0 := hSw.2.1.c 0 _ rfl; (try dsimp only at hSw); go_simp <;> with_reducible rfl)⟩)
          refine tkz 13 rfl ?_
          refine wpAnyH_ready (rs := [9]) (by kernel_rfl) (by simp) ?_
          refine (AllReadyH.cons rfl (fun K hK => ?_) AllReadyH.nil)
          go_simp
          refine (A1 _).mono ?_
          rintro e w_ ⟨rfl, hw⟩
          obtain rfl := hw.symm
          clear hw
          try dsimp only
          refine hK.out _ _ (by (try dsimp only); first | exact ⟨F1.out, F5.out, F6.out⟩ | go_keep) (fun hHeld => ?_)
          clear hK K
          try simp only [Act.put, List.getElem_toArray, List.getElem_cons_succ, List.getElem_cons_zero, List.setIfInBounds_toArray, List.set_cons_zero, List.set_cons_succ]
          refine wpAnyH_ready (rs := [14]) (by kernel_rfl) (by simp) ?_
          refine (AllReadyH.cons rfl (fun K hK => ?_) AllReadyH.nil)
          go_simp
          refine (A2 _).mono ?_
          rintro e w_ ⟨rfl, hw⟩
          obtain rfl := hw.symm
          clear hw
          try dsimp only
          refine hK.out _ _ (by (try dsimp only); first | exact ⟨F1.out, F5.out, F6.out⟩ | go_keep) (fun hHeld => ?_)
          clear hK K
          try simp only [Act.put, List.getElem_toArray, List.getElem_cons_succ, List.getElem_cons_zero, List.setIfInBounds_toArray, List.set_cons_zero, List.set_cons_succ]
          refine tkz 15 rfl ?_
          refine tkz 16 rfl ?_
          refine tkz 17 rfl ?_
          refine tkz 18 rfl ?_
          refine tkz 19 rfl ?_
          refine tkz 20 rfl ?_ (hy := Or.inl ⟨by kernel_rfl, by (intro wx hSw; have hq0_0 := hSw.1.c 0 _ rfl; (try dsimp only at hSw); go_simp <;> with_reducible rfl)⟩)
          refine tkz 21 rfl ?_
          refine tkz 22 rfl ?_
          refine tkz 23 rfl ?_
          refine tbz 24 rfl ?_
          refine tbz 25 rfl ?_
          refine tbz 26 rfl ?_
          refine tbz 27 rfl ?_
          refine tbz 28 rfl ?_
          refine tkz 29 rfl ?_
          refine tkz 30 rfl ?_
          refine tkz 31 rfl ?_
          refine tkz 32 rfl ?_
          refine tkz 33 rfl ?_
          refine tkz 34 rfl ?_ (hy := Or.inl ⟨by kernel_rfl, by (intro wx hSw; have hq0_0 := hSw.1.c 0 _ rfl; (try dsimp only at hSw); go_simp <;> with_reducible rfl)⟩)
          refine tkz 35 rfl ?_
          refine tkz 36 rfl ?_
          refine tkz 37 rfl ?_
          refine tbz 38 rfl ?_
          refine tbz 39 rfl ?_
          refine tbz 40 rfl ?_
          refine tbz 41 rfl ?_
          refine tbz 42 rfl ?_
          refine tkz 43 rfl ?_
          refine tkz 44 rfl ?_
          refine wpAnyH_done (by kernel_rfl) ?_ _
          go_wp2_with (first | (refine load_midF 27 _ 1 [.int .i64 g2.pos, .int .i64 g2.vel, .int .i64 g2.door] Try.underlying27 (by kernel_rfl) F6.out rfl rfl rfl rfl ?_) | (refine store_blk [.int .i64 g2.pos, .int .i64 g2.vel, .int .i64 g2.door] 27 _ _ (by kernel_rfl) (by kernel_rfl) (by kernel_rfl) F5.out rfl rfl rfl rfl ?_))
          have F5 : Hid (Blk _ b5 [.int .i64 g2.pos, .int .i64 g2.vel, .int .i64 g2.door]) := F5.out.row [.int .i64 g2.pos, .int .i64 g2.vel, .int .i64 g2.door]
          go_roundw
          case rel => exact ⟨n + 1, g2, nD h d v, nV h d v, rfl, HR2.out, F0.out.row_other (by omega) _, F1.out.row_other (by omega) _, F2.out.row_other (by omega) _, F3.out.row_other (by omega) _, F4.out.row_other (by omega) _, F5.out, below_row FB.out (by omega) _⟩
          case measure => simp [intOf]; omega
    · have hd : decide (n < N) = false := decide_eq_false hlt
      have eg := HRn.out.last HF.out hlt
      subst eg
      have ec := eq_car cn
      clear cok
      go_wp2_with (first | (refine load_blk 27 _ Try.underlying27 (by kernel_rfl) F5.out rfl rfl rfl ?_) | (refine load_midF 27 _ 2 [.int .i64 cn.pos, .int .i64 cn.vel, .int .i64 cn.door] Try.underlying27 (by kernel_rfl) F4.out rfl rfl rfl rfl ?_))
      go_ret
      exact ⟨by first | rfl | simp, FB.out⟩
end Go.Proofs.Ytgdhbkgpjeedhaa

namespace Go.Proofs.Ytgdhbkgpjeedhaa.fnRuns
open Go.ChangeShapes Go.WideShapes Go.ChangeAt Go.RowKit
open Go.ChangeMaps (open_string shut_string)
set_option linter.unusedVariables false

theorem own : ownKnob Try.prog.godebug = none := by kernel_rfl
theorem laidOut : laidOutB Try.prog = true := by kernel_rfl

/-- WHAT THE WALK IS TOLD OF A SLICE OF INTEGERS THAT CAME IN: it is nil; or it leads to a row of 'cap' cells, the numbers 'zs' (the first 'len' are its elements, the rest its spare room), each fitting its kind. -/
def IsRow (k : IntKind) (w : World) (a : Option Addr) (len cap : Nat) (zs : List Int) : Prop :=
  (a = none ∧ len = 0 ∧ cap = 0 ∧ zs = []) ∨
  ∃ x, a = some x ∧ len ≤ cap ∧ cap ≤ maxLen ∧ zs.length = cap ∧ (∀ i, i < zs.length → w.cell? (x.add i) = some (.int k (zs.getD i 0))) ∧ ∀ n ∈ zs, (Lit.int k n).wf = true

/-! ### STEP 1: THE WALK: the Go text returns true, AND WRITES NOTHING THAT WAS THERE: 'Below w.heap.size w w'' (Derived/Below.lean: '.refl', '.alloc', '.drew', '.setCell' at a new block, '.trans'). Open each 'IsRow' by 'rcases' AHEAD of 'go_enter'; part every test ahead of the walk. -/
set_option maxHeartbeats 4000000 in
theorem walk (a0 : Option Addr) (len0 cap0 : Nat) (z0 : List Int) (w : World) (w0 : IsRow .u8 w a0 len0 cap0 z0) :
    Calls Try.prog 3 #[.slice a0 len0 cap0] w fun e w' => e = .returned (.bool true) ∧ Below w.heap.size w w' := by
  have hnone : a0 = none → len0 = 0 ∧ cap0 = 0 := by
    intro e
    rcases w0 with ⟨_, q1, q2, _⟩ | ⟨x, q, _⟩
    · exact ⟨q1, q2⟩
    · rw [q] at e
      cases e
  by_cases hbig : len0 ≤ 1048576
  · exact runs_walk a0 len0 cap0 w (codeIn_of w0 hbig _ (Nat.le_refl _)) hbig
  · have hm : len0 ≤ maxLen := row_le w0
    clear w0
    go_enter Try.func3, Try.ntmps3
    go_wp2_with (go_at_call 4; refine (lwBig_yes _ _ _ (by omega) hm _).mono ?_; rintro e w' ⟨rfl, rfl⟩)
    go_ret
    exact ⟨rfl, Below.refl _ _⟩

/-! ### THE ROW's STEP: WRITTEN OUT: LEAVE IT -/
set_option maxRecDepth 100000 in
theorem lifted (os : Os) (started : os.Started) (H : Type) (enc : TypeId × Value → H) :
    ReturnsInHanded {} Try.checked os 3 .any (Rows.fnRunsSpec.pre6 enc Try.prog Try.f3 Rows.fnRunsRow.domain false) (Rows.fnRunsSpec.post enc Try.prog Try.f3 false true false false) := by
  refine returnsInHanded_of_change (C := Try.checked) own started (by kernel_rfl) Try.func3
    (ChangeSpec.witness6 (enc := enc) (C := Try.checked) false ⟨#[], #[.slice none 0 0], []⟩ 8 (by kernel_rfl) (by kernel_rfl) (by kernel_rfl) (by kernel_rfl)) ?_
  intro W base args ds gs before hval0 hW hcnd _
  have hval : ∀ (j : Nat) t v, Try.f3.params[j]? = some t → args[j]? = some v → Value.okWide Try.prog W .any base t v := hval0
  have hW' := hW
  obtain ⟨p, q, hA0, hV, rfl, hfz, hnd⟩ := hW
  have hA : DataW.TrodAll enc Try.prog W 0 (fun _ => true) true Try.f3.params.toList args.toList ds p := hA0
  rw [Try.params3] at hA hval
  obtain ⟨v0, vs0, d0, ds0, p0, q0, hargs, rfl, rfl, h0, r0⟩ := trodAll_cons hA
  obtain ⟨rfl, rfl, rfl⟩ := trodAll_nil r0
  obtain rfl : args = #[v0] := by cases args; simp_all
  obtain ⟨rfl, rfl⟩ := trodVars_none hV
  obtain ⟨a0, len0, cap0, rfl⟩ := okWide_slice Try.underlying22 (hval 0 22 v0 rfl rfl)
  have k0 := h0
  have lt0 : ∀ x ∈ p0, x.block < W.heap.size := by obtain ⟨m, hm⟩ := k0; exact DataW.trod_lt m _ _ _ hm
  obtain ⟨z0, w0⟩ : ∃ zs, IsRow .u8 W a0 len0 cap0 zs := by
    obtain ⟨fuel, hf⟩ := h0
    rcases open_ints Try.underlying22 Try.underlying5 (by kernel_rfl) hf with ⟨hcs, _⟩ | ⟨x, l, c, zs, hcs, _, hl, hm, hz, _, hcell, hwz⟩
    · simp [Value.cells] at hcs
      obtain ⟨rfl, rfl, rfl⟩ := hcs
      exact ⟨[], .inl ⟨rfl, rfl, rfl, rfl⟩⟩
    · simp [Value.cells] at hcs
      obtain ⟨rfl, rfl, rfl⟩ := hcs
      exact ⟨zs, .inr ⟨_, rfl, hl, hm, by simpa using hz, hcell, hwz⟩⟩
  clear hA0 hval0
  refine (walk a0 len0 cap0 z0 W w0).mono fun e W' ⟨he, bel⟩ => ?_
  subst he
  exact ⟨_, rfl, _, _, _, [], _, [], hW', trodAll_mk1 (shut_bool Try.underlying4 _), (trodAll_cons_mk (Below.trod laidOut (by kernel_rfl) (of_decide_eq_true (by kernel_rfl)) k0 bel lt0) trodAll_mk0), rfl, bel.frame _, fun h => by cases h⟩

theorem over : Rows.fnRunsRow.holds Try.pinned (OpenSpec.ofChange Rows.fnRunsSpec) :=
  OpenClaim.holds_of_wide 3 Try.f3 rfl rfl rfl rfl rfl rfl rfl ⟨rfl, rfl, rfl, rfl, rfl⟩ rfl rfl rfl rfl rfl (by kernel_rfl) Try.func3 (by kernel_rfl)
    (of_decide_eq_true (by kernel_rfl)) (by unfold Func.isWrapper; first | (rw [if_pos (by decide +kernel)]; kernel_rfl) | (rw [if_neg (by decide +kernel)]; exact ⟨rfl, rfl⟩))
    (fun os started H enc _ => lifted os started H enc)

/-- ████ THE STATEMENT ████ -/
theorem proved : Rows.FnRunsSaid := over
end Go.Proofs.Ytgdhbkgpjeedhaa.fnRuns

namespace Go.Proofs.Ytgdhbkgpjeedhaa
theorem fnRuns_holds : Rows.FnRunsSaid := fnRuns.proved
#print axioms fnRuns_holds
end Go.Proofs.Ytgdhbkgpjeedhaa
