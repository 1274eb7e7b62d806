/-
  The model's ledger: who boards.
-/
import Derived.Test.YtoekhkolakielaaPersI
import Derived.Deep.RegionHeld3
namespace Go.Proofs.Ytoekhkolakielaa
open Go.RowKit Pl
set_option linter.unusedSimpArgs false
set_option linter.unusedVariables false

theorem gr_drew {a c : World} {row : Option Nat} (h : a.grownBy c row) : a.grownBy c.drew row := ⟨h.os, h.tape, h.output, h.size, h.block⟩
theorem gr_below {a b c : World} {row : Option Nat} (h : a.grownBy b row) (k : Below b.heap.size b c) : a.grownBy c row := ⟨k.os.trans h.os, k.tape.trans h.tape, k.output.trans h.output, Nat.le_trans h.size k.size, fun i hi hne => (k.block i (Nat.lt_of_lt_of_le hi h.size)).trans (h.block i hi hne)⟩
theorem HAt.grown {W w : World} {b : Nat} {h : Hs} {row : Option Nat} (a : HAt W b h) (hg : W.grownBy w row) (hne : some b ≠ row) : HAt w b h := by
  have hc : ∀ o, w.cell? ⟨b, o, none⟩ = W.cell? ⟨b, o, none⟩ := fun o => World.cell?_of_block (w := W) (hg.block b a.lt hne)
  exact ⟨(hc 0).trans a.c0, (hc 1).trans a.c1, (hc 2).trans a.c2, (hc 3).trans a.c3, (hc 4).trans a.c4, (hc 5).trans a.c5, (hc 6).trans a.c6, (hc 7).trans a.c7, (hc 8).trans a.c8, (hc 9).trans a.c9, (hc 10).trans a.c10, (hc 11).trans a.c11⟩
theorem Ow.lt {w : World} {B g n cap : Nat} {l : List Pe} (h : Ow w B g n cap l) : g < w.heap.size := h.bl.2
def boardP (p : Pe) : Pe := ⟨p.id, p.fr, p.tw, p.sh, p.ca, 1, p.pl⟩
/-- Who boards, one behind the other, as long as there is room. -/
def boardS (ld sh ca fl : Int) (l : List Pe) : Nat → List Pe
  | 0 => l
  | k + 1 => match (boardS ld sh ca fl l k)[k]? with
    | some p => if (p.sh = sh ∧ p.ca = ca ∧ p.st = 0 ∧ p.fr = fl) ∧ (cnt 1 sh ca (boardS ld sh ca fl l k) : Int) < ld then (boardS ld sh ca fl l k).set k (boardP p) else boardS ld sh ca fl l k
    | none => boardS ld sh ca fl l k
theorem boardS_next {ld sh ca fl : Int} {l m : List Pe} {k : Nat} {p : Pe} (h : boardS ld sh ca fl l k = m) (hp : m[k]? = some p) : boardS ld sh ca fl l (k + 1) = if (p.sh = sh ∧ p.ca = ca ∧ p.st = 0 ∧ p.fr = fl) ∧ (cnt 1 sh ca m : Int) < ld then m.set k (boardP p) else m := by
  show (match (boardS ld sh ca fl l k)[k]? with | some p => _ | none => _) = _
  rw [h, hp]
set_option maxRecDepth 20000 in
set_option maxHeartbeats 16000000 in
theorem l7Board_any (h : Hs) (lb : Nat) (nx : Int) (B g n cap : Nat) (l : List Pe) (sh ca fl : Int) (hl : n ≤ 1048576) (hne : lb ≠ g) (w : World) (hL : LAt w lb nx (some ⟨g, 0, none⟩) n cap) (ho : Ow w B g n cap l) :
    Calls Try.prog 21 #[.agg #[.int .i64 h.fl, .int .i64 h.gp, .int .i64 h.ln, .int .i64 h.rf, .int .i64 h.sp, .int .i64 h.pu, .int .i64 h.br, .int .i64 h.dr, .int .i64 h.lv, .int .i64 h.dO, .int .i64 h.ld, .int .i64 h.qu], .pointer (some ⟨lb, 0, none⟩), .int .i64 sh, .int .i64 ca, .int .i64 fl] w fun e w' => e = .returned (.tuple #[]) ∧ Ow w' B g n cap (boardS h.ld sh ca fl l n) ∧ w.grownBy w' (some g) := by
  have lgw := ho.bl.2
  have llw := hL.lt
  have HL : Hid (LAt w lb nx (some ⟨g, 0, none⟩) n cap) := hL
  have HO : Hid (Ow (w.alloc (.cells #[.int .i64 h.fl, .int .i64 h.gp, .int .i64 h.ln, .int .i64 h.rf, .int .i64 h.sp, .int .i64 h.pu, .int .i64 h.br, .int .i64 h.dr, .int .i64 h.lv, .int .i64 h.dO, .int .i64 h.ld, .int .i64 h.qu] 25)) B g n cap l) := ho.alloc _
  have F0 : Hid (HAt (w.alloc (.cells #[.int .i64 h.fl, .int .i64 h.gp, .int .i64 h.ln, .int .i64 h.rf, .int .i64 h.sp, .int .i64 h.pu, .int .i64 h.br, .int .i64 h.dr, .int .i64 h.lv, .int .i64 h.dO, .int .i64 h.ld, .int .i64 h.qu] 25)) w.heap.size h) := HAt.new w h _
  have FG : Hid (w.grownBy (w.alloc (.cells #[.int .i64 h.fl, .int .i64 h.gp, .int .i64 h.ln, .int .i64 h.rf, .int .i64 h.sp, .int .i64 h.pu, .int .i64 h.br, .int .i64 h.dr, .int .i64 h.lv, .int .i64 h.dO, .int .i64 h.ld, .int .i64 h.qu] 25)) (some g)) := World.grownBy_alloc w _ _
  clear hL ho
  go_enter Try.func21, Try.ntmps21
  go_wp2_with fail
  go_loopw [10] (fun ii wr => ∃ i : Nat, ii = .int .i64 i ∧ i ≤ n ∧ Ow wr B g n cap (boardS h.ld sh ca fl l i) ∧ HAt wr w.heap.size h ∧ w.grownBy wr (some g)) (fun ii _ => n - (intOf ii).toNat)
  case atStart => exact ⟨0, rfl, by omega, HO.out, F0.out, FG.out⟩
  case round =>
    obtain ⟨i, rfl, hi, ho, h0, hg⟩ := hrel
    clear HO F0 FG
    obtain ⟨m, hbm⟩ : ∃ m, boardS h.ld sh ca fl l i = m := ⟨_, rfl⟩
    rw [hbm] at ho
    have HM : Hid (boardS h.ld sh ca fl l i = m) := hbm
    have hm := ho.1
    have FO : Hid (Ow wr B g n cap m) := ho
    have F0 : Hid (HAt wr w.heap.size h) := h0
    have FG : Hid (w.grownBy wr (some g)) := hg
    have FL : Hid (LAt wr lb nx (some ⟨g, 0, none⟩) n cap) := HL.out.grown hg (fun e => hne (Option.some.inj e))
    obtain ⟨g0, g1⟩ := FL.out
    clear ho h0 hg hbm
    by_cases hlt : i < n
    · obtain ⟨p, hz⟩ : ∃ p, m[i]? = some p := ⟨_, List.getElem?_eq_getElem (by omega)⟩
      obtain ⟨d0, d1, d2, d3, d4, d5, d6⟩ := FO.out.p7 hz
      go_upto_region 5 with fail
      obtain ⟨pb, hpb⟩ : ∃ pb, pb = wr.heap.size := ⟨_, rfl⟩
      obtain ⟨W1, hW1⟩ : ∃ W1, W1 = wr.alloc (.cells #[.int .i64 p.id, .int .i64 p.fr, .int .i64 p.tw, .int .i64 p.sh, .int .i64 p.ca, .int .i64 p.st, .int .i64 p.pl] 42) := ⟨_, rfl⟩
      have F0 : Hid (HAt W1 w.heap.size h) := by rw [hW1]; exact F0.out.below ((Below.refl _ _).alloc (Nat.le_refl _) _) F0.out.lt
      have F1 : Hid (P7 W1 pb 0 p) := by rw [hW1]; exact P7.at_ wr p _ pb hpb
      have FO : Hid (Ow W1 B g n cap m) := by rw [hW1]; exact FO.out.alloc _
      have FL : Hid (LAt W1 lb nx (some ⟨g, 0, none⟩) n cap) := by rw [hW1]; exact FL.out.below ((Below.refl _ _).alloc (Nat.le_refl _) _) FL.out.lt
      have FG : Hid (w.grownBy W1 (some g)) := by rw [hW1]; exact grown_trans FG.out (grown_new _ _ g)
      rw [← hW1, ← hpb]
      clear hW1 hpb g0 g1 d0 d1 d2 d3 d4 d5 d6
      cases k0 : (p.sh == sh)
      · have HE : Hid (m = boardS h.ld sh ca fl l (i + 1)) := by
          rw [boardS_next HM.out hz, if_neg (fun q => by obtain ⟨⟨q0, q1, q2, q3⟩, -⟩ := q; simp [q0] at k0)]
          exact rfl
        clear hz
        have F0 : Hid (HAt W1.drew w.heap.size h) := F0.out.below (Below.refl _ _).drew F0.out.lt
        have F1 : Hid (P7 W1.drew pb 0 p) := F1.out.below (Below.refl _ _).drew F1.out.lt
        have FO : Hid (Ow W1.drew B g n cap m) := FO.out.below (Below.refl _ _).drew FO.out.lt
        have FL : Hid (LAt W1.drew lb nx (some ⟨g, 0, none⟩) n cap) := FL.out.below (Below.refl _ _).drew FL.out.lt
        have FG : Hid (w.grownBy W1.drew (some g)) := gr_drew FG.out
        obtain ⟨x0_0, x0_1, x0_2, x0_3, x0_4, x0_5, x0_6, x0_7, x0_8, x0_9, x0_10, x0_11⟩ := F0.out
        have m3 := F1.out.c3
        have m4 := F1.out.c4
        have m5 := F1.out.c5
        have m1 := F1.out.c1
        refine wp_region_held_drew (S := (fun w'' => w''.cell? ⟨w.heap.size, 0, none⟩ = some (.int .i64 h.fl) ∧ w''.cell? ⟨w.heap.size, 1, none⟩ = some (.int .i64 h.gp) ∧ w''.cell? ⟨w.heap.size, 2, none⟩ = some (.int .i64 h.ln) ∧ w''.cell? ⟨w.heap.size, 3, none⟩ = some (.int .i64 h.rf) ∧ w''.cell? ⟨w.heap.size, 4, none⟩ = some (.int .i64 h.sp) ∧ w''.cell? ⟨w.heap.size, 5, none⟩ = some (.int .i64 h.pu) ∧ w''.cell? ⟨w.heap.size, 6, none⟩ = some (.int .i64 h.br) ∧ w''.cell? ⟨w.heap.size, 7, none⟩ = some (.int .i64 h.dr) ∧ w''.cell? ⟨w.heap.size, 8, none⟩ = some (.int .i64 h.lv) ∧ w''.cell? ⟨w.heap.size, 9, none⟩ = some (.int .i64 h.dO) ∧ w''.cell? ⟨w.heap.size, 10, none⟩ = some (.int .i64 h.ld) ∧ w''.cell? ⟨w.heap.size, 11, none⟩ = some (.int .i64 h.qu) ∧ w''.cell? ⟨pb, 3, none⟩ = some (.int .i64 p.sh) ∧ w''.cell? ⟨pb, 4, none⟩ = some (.int .i64 p.ca) ∧ w''.cell? ⟨pb, 5, none⟩ = some (.int .i64 p.st) ∧ w''.cell? ⟨pb, 1, none⟩ = some (.int .i64 p.fr))) (by kernel_rfl) (by (try dsimp only); first | exact ⟨x0_0, x0_1, x0_2, x0_3, x0_4, x0_5, x0_6, x0_7, x0_8, x0_9, x0_10, x0_11, m3, m4, m5, m1⟩ | go_keep) (fun hHeld => ?_)
        obtain ⟨v_1, hw1⟩ : ∃ v_1, v_1 = W1.drew := ⟨_, rfl⟩
        have F0 : Hid (HAt v_1 w.heap.size h) := by rw [hw1]; exact F0.out
        have F1 : Hid (P7 v_1 pb 0 p) := by rw [hw1]; exact F1.out
        have FO : Hid (Ow v_1 B g n cap m) := by rw [hw1]; exact FO.out
        have FL : Hid (LAt v_1 lb nx (some ⟨g, 0, none⟩) n cap) := by rw [hw1]; exact FL.out
        have FG : Hid (w.grownBy v_1 (some g)) := by rw [hw1]; exact FG.out
        rw [← hw1] at hHeld ⊢
        clear hw1
        obtain ⟨x0_0, x0_1, x0_2, x0_3, x0_4, x0_5, x0_6, x0_7, x0_8, x0_9, x0_10, x0_11⟩ := F0.out
        have m3 := F1.out.c3
        have m4 := F1.out.c4
        have m5 := F1.out.c5
        have m1 := F1.out.c1
        refine tkz 0 rfl ?_
        refine tkz 1 rfl ?_
        refine tkz 2 rfl ?_
        refine tkz 3 rfl ?_
        refine tkz 4 rfl ?_
        refine tbz 5 rfl ?_
        refine tbz 6 rfl ?_
        refine tbz 7 rfl ?_
        refine tbz 8 rfl ?_
        refine tkz 9 rfl ?_
        refine tkz 10 rfl ?_
        refine tbz 11 rfl ?_
        refine tbz 12 rfl ?_
        refine tbz 13 rfl ?_
        refine tkz 14 rfl ?_
        refine tkz 15 rfl ?_
        refine tbz 16 rfl ?_
        refine tbz 17 rfl ?_
        refine tbz 18 rfl ?_
        refine tbz 19 rfl ?_
        refine tkz 20 rfl ?_
        refine tkz 21 rfl ?_
        refine tbz 22 rfl ?_
        refine tbz 23 rfl ?_
        refine tbz 24 rfl ?_
        refine tbz 25 rfl ?_
        refine tbz 26 rfl ?_
        refine tbz 27 rfl ?_
        refine tbz 28 rfl ?_
        refine tkz 29 rfl ?_
        refine wpAnyH_done (by kernel_rfl) ?_ _
        go_wp2_with fail
        go_roundw
        case rel => exact ⟨i + 1, by simp, by omega, HE.out ▸ FO.out, F0.out, FG.out⟩
        case measure => simp [intOf]; omega
      · cases k1 : (p.ca == ca)
        · have HE : Hid (m = boardS h.ld sh ca fl l (i + 1)) := by
            rw [boardS_next HM.out hz, if_neg (fun q => by obtain ⟨⟨q0, q1, q2, q3⟩, -⟩ := q; simp [q1] at k1)]
            exact rfl
          clear hz
          have F0 : Hid (HAt W1.drew w.heap.size h) := F0.out.below (Below.refl _ _).drew F0.out.lt
          have F1 : Hid (P7 W1.drew pb 0 p) := F1.out.below (Below.refl _ _).drew F1.out.lt
          have FO : Hid (Ow W1.drew B g n cap m) := FO.out.below (Below.refl _ _).drew FO.out.lt
          have FL : Hid (LAt W1.drew lb nx (some ⟨g, 0, none⟩) n cap) := FL.out.below (Below.refl _ _).drew FL.out.lt
          have FG : Hid (w.grownBy W1.drew (some g)) := gr_drew FG.out
          obtain ⟨x0_0, x0_1, x0_2, x0_3, x0_4, x0_5, x0_6, x0_7, x0_8, x0_9, x0_10, x0_11⟩ := F0.out
          have m3 := F1.out.c3
          have m4 := F1.out.c4
          have m5 := F1.out.c5
          have m1 := F1.out.c1
          refine wp_region_held_drew (S := (fun w'' => w''.cell? ⟨w.heap.size, 0, none⟩ = some (.int .i64 h.fl) ∧ w''.cell? ⟨w.heap.size, 1, none⟩ = some (.int .i64 h.gp) ∧ w''.cell? ⟨w.heap.size, 2, none⟩ = some (.int .i64 h.ln) ∧ w''.cell? ⟨w.heap.size, 3, none⟩ = some (.int .i64 h.rf) ∧ w''.cell? ⟨w.heap.size, 4, none⟩ = some (.int .i64 h.sp) ∧ w''.cell? ⟨w.heap.size, 5, none⟩ = some (.int .i64 h.pu) ∧ w''.cell? ⟨w.heap.size, 6, none⟩ = some (.int .i64 h.br) ∧ w''.cell? ⟨w.heap.size, 7, none⟩ = some (.int .i64 h.dr) ∧ w''.cell? ⟨w.heap.size, 8, none⟩ = some (.int .i64 h.lv) ∧ w''.cell? ⟨w.heap.size, 9, none⟩ = some (.int .i64 h.dO) ∧ w''.cell? ⟨w.heap.size, 10, none⟩ = some (.int .i64 h.ld) ∧ w''.cell? ⟨w.heap.size, 11, none⟩ = some (.int .i64 h.qu) ∧ w''.cell? ⟨pb, 3, none⟩ = some (.int .i64 p.sh) ∧ w''.cell? ⟨pb, 4, none⟩ = some (.int .i64 p.ca) ∧ w''.cell? ⟨pb, 5, none⟩ = some (.int .i64 p.st) ∧ w''.cell? ⟨pb, 1, none⟩ = some (.int .i64 p.fr))) (by kernel_rfl) (by (try dsimp only); first | exact ⟨x0_0, x0_1, x0_2, x0_3, x0_4, x0_5, x0_6, x0_7, x0_8, x0_9, x0_10, x0_11, m3, m4, m5, m1⟩ | go_keep) (fun hHeld => ?_)
          obtain ⟨v_2, hw1⟩ : ∃ v_2, v_2 = W1.drew := ⟨_, rfl⟩
          have F0 : Hid (HAt v_2 w.heap.size h) := by rw [hw1]; exact F0.out
          have F1 : Hid (P7 v_2 pb 0 p) := by rw [hw1]; exact F1.out
          have FO : Hid (Ow v_2 B g n cap m) := by rw [hw1]; exact FO.out
          have FL : Hid (LAt v_2 lb nx (some ⟨g, 0, none⟩) n cap) := by rw [hw1]; exact FL.out
          have FG : Hid (w.grownBy v_2 (some g)) := by rw [hw1]; exact FG.out
          rw [← hw1] at hHeld ⊢
          clear hw1
          obtain ⟨x0_0, x0_1, x0_2, x0_3, x0_4, x0_5, x0_6, x0_7, x0_8, x0_9, x0_10, x0_11⟩ := F0.out
          have m3 := F1.out.c3
          have m4 := F1.out.c4
          have m5 := F1.out.c5
          have m1 := F1.out.c1
          refine tkz 0 rfl ?_
          refine tkz 1 rfl ?_
          refine tkz 2 rfl ?_
          refine tkz 3 rfl ?_
          refine tkz 4 rfl ?_
          refine tkz 5 rfl ?_
          refine tkz 6 rfl ?_
          refine tkz 7 rfl ?_
          refine tkz 8 rfl ?_
          refine tkz 9 rfl ?_
          refine tkz 10 rfl ?_
          refine tbz 11 rfl ?_
          refine tbz 12 rfl ?_
          refine tbz 13 rfl ?_
          refine tkz 14 rfl ?_
          refine tkz 15 rfl ?_
          refine tbz 16 rfl ?_
          refine tbz 17 rfl ?_
          refine tbz 18 rfl ?_
          refine tbz 19 rfl ?_
          refine tkz 20 rfl ?_
          refine tkz 21 rfl ?_
          refine tbz 22 rfl ?_
          refine tbz 23 rfl ?_
          refine tbz 24 rfl ?_
          refine tbz 25 rfl ?_
          refine tbz 26 rfl ?_
          refine tbz 27 rfl ?_
          refine tbz 28 rfl ?_
          refine tkz 29 rfl ?_
          refine wpAnyH_done (by kernel_rfl) ?_ _
          go_wp2_with fail
          go_roundw
          case rel => exact ⟨i + 1, by simp, by omega, HE.out ▸ FO.out, F0.out, FG.out⟩
          case measure => simp [intOf]; omega
        · cases k2 : (p.st == 0)
          · have HE : Hid (m = boardS h.ld sh ca fl l (i + 1)) := by
              rw [boardS_next HM.out hz, if_neg (fun q => by obtain ⟨⟨q0, q1, q2, q3⟩, -⟩ := q; simp [q2] at k2)]
              exact rfl
            clear hz
            have F0 : Hid (HAt W1.drew w.heap.size h) := F0.out.below (Below.refl _ _).drew F0.out.lt
            have F1 : Hid (P7 W1.drew pb 0 p) := F1.out.below (Below.refl _ _).drew F1.out.lt
            have FO : Hid (Ow W1.drew B g n cap m) := FO.out.below (Below.refl _ _).drew FO.out.lt
            have FL : Hid (LAt W1.drew lb nx (some ⟨g, 0, none⟩) n cap) := FL.out.below (Below.refl _ _).drew FL.out.lt
            have FG : Hid (w.grownBy W1.drew (some g)) := gr_drew FG.out
            obtain ⟨x0_0, x0_1, x0_2, x0_3, x0_4, x0_5, x0_6, x0_7, x0_8, x0_9, x0_10, x0_11⟩ := F0.out
            have m3 := F1.out.c3
            have m4 := F1.out.c4
            have m5 := F1.out.c5
            have m1 := F1.out.c1
            refine wp_region_held_drew (S := (fun w'' => w''.cell? ⟨w.heap.size, 0, none⟩ = some (.int .i64 h.fl) ∧ w''.cell? ⟨w.heap.size, 1, none⟩ = some (.int .i64 h.gp) ∧ w''.cell? ⟨w.heap.size, 2, none⟩ = some (.int .i64 h.ln) ∧ w''.cell? ⟨w.heap.size, 3, none⟩ = some (.int .i64 h.rf) ∧ w''.cell? ⟨w.heap.size, 4, none⟩ = some (.int .i64 h.sp) ∧ w''.cell? ⟨w.heap.size, 5, none⟩ = some (.int .i64 h.pu) ∧ w''.cell? ⟨w.heap.size, 6, none⟩ = some (.int .i64 h.br) ∧ w''.cell? ⟨w.heap.size, 7, none⟩ = some (.int .i64 h.dr) ∧ w''.cell? ⟨w.heap.size, 8, none⟩ = some (.int .i64 h.lv) ∧ w''.cell? ⟨w.heap.size, 9, none⟩ = some (.int .i64 h.dO) ∧ w''.cell? ⟨w.heap.size, 10, none⟩ = some (.int .i64 h.ld) ∧ w''.cell? ⟨w.heap.size, 11, none⟩ = some (.int .i64 h.qu) ∧ w''.cell? ⟨pb, 3, none⟩ = some (.int .i64 p.sh) ∧ w''.cell? ⟨pb, 4, none⟩ = some (.int .i64 p.ca) ∧ w''.cell? ⟨pb, 5, none⟩ = some (.int .i64 p.st) ∧ w''.cell? ⟨pb, 1, none⟩ = some (.int .i64 p.fr))) (by kernel_rfl) (by (try dsimp only); first | exact ⟨x0_0, x0_1, x0_2, x0_3, x0_4, x0_5, x0_6, x0_7, x0_8, x0_9, x0_10, x0_11, m3, m4, m5, m1⟩ | go_keep) (fun hHeld => ?_)
            obtain ⟨v_3, hw1⟩ : ∃ v_3, v_3 = W1.drew := ⟨_, rfl⟩
            have F0 : Hid (HAt v_3 w.heap.size h) := by rw [hw1]; exact F0.out
            have F1 : Hid (P7 v_3 pb 0 p) := by rw [hw1]; exact F1.out
            have FO : Hid (Ow v_3 B g n cap m) := by rw [hw1]; exact FO.out
            have FL : Hid (LAt v_3 lb nx (some ⟨g, 0, none⟩) n cap) := by rw [hw1]; exact FL.out
            have FG : Hid (w.grownBy v_3 (some g)) := by rw [hw1]; exact FG.out
            rw [← hw1] at hHeld ⊢
            clear hw1
            obtain ⟨x0_0, x0_1, x0_2, x0_3, x0_4, x0_5, x0_6, x0_7, x0_8, x0_9, x0_10, x0_11⟩ := F0.out
            have m3 := F1.out.c3
            have m4 := F1.out.c4
            have m5 := F1.out.c5
            have m1 := F1.out.c1
            refine tkz 0 rfl ?_
            refine tkz 1 rfl ?_
            refine tkz 2 rfl ?_
            refine tkz 3 rfl ?_
            refine tkz 4 rfl ?_
            refine tkz 5 rfl ?_
            refine tkz 6 rfl ?_
            refine tkz 7 rfl ?_
            refine tkz 8 rfl ?_
            refine tkz 9 rfl ?_
            refine tkz 10 rfl ?_
            refine tkz 11 rfl ?_
            refine tkz 12 rfl ?_
            refine tkz 13 rfl ?_
            refine tkz 14 rfl ?_
            refine tkz 15 rfl ?_
            refine tbz 16 rfl ?_
            refine tbz 17 rfl ?_
            refine tbz 18 rfl ?_
            refine tbz 19 rfl ?_
            refine tkz 20 rfl ?_
            refine tkz 21 rfl ?_
            refine tbz 22 rfl ?_
            refine tbz 23 rfl ?_
            refine tbz 24 rfl ?_
            refine tbz 25 rfl ?_
            refine tbz 26 rfl ?_
            refine tbz 27 rfl ?_
            refine tbz 28 rfl ?_
            refine tkz 29 rfl ?_
            refine wpAnyH_done (by kernel_rfl) ?_ _
            go_wp2_with fail
            go_roundw
            case rel => exact ⟨i + 1, by simp, by omega, HE.out ▸ FO.out, F0.out, FG.out⟩
            case measure => simp [intOf]; omega
          · cases k3 : (p.fr == fl)
            · have HE : Hid (m = boardS h.ld sh ca fl l (i + 1)) := by
                rw [boardS_next HM.out hz, if_neg (fun q => by obtain ⟨⟨q0, q1, q2, q3⟩, -⟩ := q; simp [q3] at k3)]
                exact rfl
              clear hz
              have F0 : Hid (HAt W1.drew w.heap.size h) := F0.out.below (Below.refl _ _).drew F0.out.lt
              have F1 : Hid (P7 W1.drew pb 0 p) := F1.out.below (Below.refl _ _).drew F1.out.lt
              have FO : Hid (Ow W1.drew B g n cap m) := FO.out.below (Below.refl _ _).drew FO.out.lt
              have FL : Hid (LAt W1.drew lb nx (some ⟨g, 0, none⟩) n cap) := FL.out.below (Below.refl _ _).drew FL.out.lt
              have FG : Hid (w.grownBy W1.drew (some g)) := gr_drew FG.out
              obtain ⟨x0_0, x0_1, x0_2, x0_3, x0_4, x0_5, x0_6, x0_7, x0_8, x0_9, x0_10, x0_11⟩ := F0.out
              have m3 := F1.out.c3
              have m4 := F1.out.c4
              have m5 := F1.out.c5
              have m1 := F1.out.c1
              refine wp_region_held_drew (S := (fun w'' => w''.cell? ⟨w.heap.size, 0, none⟩ = some (.int .i64 h.fl) ∧ w''.cell? ⟨w.heap.size, 1, none⟩ = some (.int .i64 h.gp) ∧ w''.cell? ⟨w.heap.size, 2, none⟩ = some (.int .i64 h.ln) ∧ w''.cell? ⟨w.heap.size, 3, none⟩ = some (.int .i64 h.rf) ∧ w''.cell? ⟨w.heap.size, 4, none⟩ = some (.int .i64 h.sp) ∧ w''.cell? ⟨w.heap.size, 5, none⟩ = some (.int .i64 h.pu) ∧ w''.cell? ⟨w.heap.size, 6, none⟩ = some (.int .i64 h.br) ∧ w''.cell? ⟨w.heap.size, 7, none⟩ = some (.int .i64 h.dr) ∧ w''.cell? ⟨w.heap.size, 8, none⟩ = some (.int .i64 h.lv) ∧ w''.cell? ⟨w.heap.size, 9, none⟩ = some (.int .i64 h.dO) ∧ w''.cell? ⟨w.heap.size, 10, none⟩ = some (.int .i64 h.ld) ∧ w''.cell? ⟨w.heap.size, 11, none⟩ = some (.int .i64 h.qu) ∧ w''.cell? ⟨pb, 3, none⟩ = some (.int .i64 p.sh) ∧ w''.cell? ⟨pb, 4, none⟩ = some (.int .i64 p.ca) ∧ w''.cell? ⟨pb, 5, none⟩ = some (.int .i64 p.st) ∧ w''.cell? ⟨pb, 1, none⟩ = some (.int .i64 p.fr))) (by kernel_rfl) (by (try dsimp only); first | exact ⟨x0_0, x0_1, x0_2, x0_3, x0_4, x0_5, x0_6, x0_7, x0_8, x0_9, x0_10, x0_11, m3, m4, m5, m1⟩ | go_keep) (fun hHeld => ?_)
              obtain ⟨v_4, hw1⟩ : ∃ v_4, v_4 = W1.drew := ⟨_, rfl⟩
              have F0 : Hid (HAt v_4 w.heap.size h) := by rw [hw1]; exact F0.out
              have F1 : Hid (P7 v_4 pb 0 p) := by rw [hw1]; exact F1.out
              have FO : Hid (Ow v_4 B g n cap m) := by rw [hw1]; exact FO.out
              have FL : Hid (LAt v_4 lb nx (some ⟨g, 0, none⟩) n cap) := by rw [hw1]; exact FL.out
              have FG : Hid (w.grownBy v_4 (some g)) := by rw [hw1]; exact FG.out
              rw [← hw1] at hHeld ⊢
              clear hw1
              obtain ⟨x0_0, x0_1, x0_2, x0_3, x0_4, x0_5, x0_6, x0_7, x0_8, x0_9, x0_10, x0_11⟩ := F0.out
              have m3 := F1.out.c3
              have m4 := F1.out.c4
              have m5 := F1.out.c5
              have m1 := F1.out.c1
              refine tkz 0 rfl ?_
              refine tkz 1 rfl ?_
              refine tkz 2 rfl ?_
              refine tkz 3 rfl ?_
              refine tkz 4 rfl ?_
              refine tkz 5 rfl ?_
              refine tkz 6 rfl ?_
              refine tkz 7 rfl ?_
              refine tkz 8 rfl ?_
              refine tkz 9 rfl ?_
              refine tkz 10 rfl ?_
              refine tkz 11 rfl ?_
              refine tkz 12 rfl ?_
              refine tkz 13 rfl ?_
              refine tkz 14 rfl ?_
              refine tkz 15 rfl ?_
              refine tkz 16 rfl ?_
              refine tkz 17 rfl ?_
              refine tkz 18 rfl ?_
              refine tkz 19 rfl ?_
              refine tkz 20 rfl ?_
              refine tkz 21 rfl ?_
              refine tbz 22 rfl ?_
              refine tbz 23 rfl ?_
              refine tbz 24 rfl ?_
              refine tbz 25 rfl ?_
              refine tbz 26 rfl ?_
              refine tbz 27 rfl ?_
              refine tbz 28 rfl ?_
              refine tkz 29 rfl ?_
              refine wpAnyH_done (by kernel_rfl) ?_ _
              go_wp2_with fail
              go_roundw
              case rel => exact ⟨i + 1, by simp, by omega, HE.out ▸ FO.out, F0.out, FG.out⟩
              case measure => simp [intOf]; omega
            · by_cases kc : (cnt 1 sh ca m : Int) < h.ld
              · have b4 : decide ((cnt 1 sh ca m : Int) < h.ld) = true := decide_eq_true kc
                have HE : Hid (m.set i (boardP p) = boardS h.ld sh ca fl l (i + 1)) := by
                  rw [boardS_next HM.out hz, if_pos ⟨⟨by simpa using k0, by simpa using k1, by simpa using k2, by simpa using k3⟩, kc⟩]
                  exact rfl
                have HZ : Hid (m[i]? = some p) := hz
                clear hz kc
                have F0 : Hid (HAt W1.drew w.heap.size h) := F0.out.below (Below.refl _ _).drew F0.out.lt
                have F1 : Hid (P7 W1.drew pb 0 p) := F1.out.below (Below.refl _ _).drew F1.out.lt
                have FO : Hid (Ow W1.drew B g n cap m) := FO.out.below (Below.refl _ _).drew FO.out.lt
                have FL : Hid (LAt W1.drew lb nx (some ⟨g, 0, none⟩) n cap) := FL.out.below (Below.refl _ _).drew FL.out.lt
                have FG : Hid (w.grownBy W1.drew (some g)) := gr_drew FG.out
                obtain ⟨x0_0, x0_1, x0_2, x0_3, x0_4, x0_5, x0_6, x0_7, x0_8, x0_9, x0_10, x0_11⟩ := F0.out
                have m3 := F1.out.c3
                have m4 := F1.out.c4
                have m5 := F1.out.c5
                have m1 := F1.out.c1
                refine wp_region_held_drew (S := (fun w'' => w''.cell? ⟨w.heap.size, 0, none⟩ = some (.int .i64 h.fl) ∧ w''.cell? ⟨w.heap.size, 1, none⟩ = some (.int .i64 h.gp) ∧ w''.cell? ⟨w.heap.size, 2, none⟩ = some (.int .i64 h.ln) ∧ w''.cell? ⟨w.heap.size, 3, none⟩ = some (.int .i64 h.rf) ∧ w''.cell? ⟨w.heap.size, 4, none⟩ = some (.int .i64 h.sp) ∧ w''.cell? ⟨w.heap.size, 5, none⟩ = some (.int .i64 h.pu) ∧ w''.cell? ⟨w.heap.size, 6, none⟩ = some (.int .i64 h.br) ∧ w''.cell? ⟨w.heap.size, 7, none⟩ = some (.int .i64 h.dr) ∧ w''.cell? ⟨w.heap.size, 8, none⟩ = some (.int .i64 h.lv) ∧ w''.cell? ⟨w.heap.size, 9, none⟩ = some (.int .i64 h.dO) ∧ w''.cell? ⟨w.heap.size, 10, none⟩ = some (.int .i64 h.ld) ∧ w''.cell? ⟨w.heap.size, 11, none⟩ = some (.int .i64 h.qu) ∧ w''.cell? ⟨pb, 3, none⟩ = some (.int .i64 p.sh) ∧ w''.cell? ⟨pb, 4, none⟩ = some (.int .i64 p.ca) ∧ w''.cell? ⟨pb, 5, none⟩ = some (.int .i64 p.st) ∧ w''.cell? ⟨pb, 1, none⟩ = some (.int .i64 p.fr))) (by kernel_rfl) (by (try dsimp only); first | exact ⟨x0_0, x0_1, x0_2, x0_3, x0_4, x0_5, x0_6, x0_7, x0_8, x0_9, x0_10, x0_11, m3, m4, m5, m1⟩ | go_keep) (fun hHeld => ?_)
                obtain ⟨v_5, hw1⟩ : ∃ v_5, v_5 = W1.drew := ⟨_, rfl⟩
                have F0 : Hid (HAt v_5 w.heap.size h) := by rw [hw1]; exact F0.out
                have F1 : Hid (P7 v_5 pb 0 p) := by rw [hw1]; exact F1.out
                have FO : Hid (Ow v_5 B g n cap m) := by rw [hw1]; exact FO.out
                have FL : Hid (LAt v_5 lb nx (some ⟨g, 0, none⟩) n cap) := by rw [hw1]; exact FL.out
                have FG : Hid (w.grownBy v_5 (some g)) := by rw [hw1]; exact FG.out
                rw [← hw1] at hHeld ⊢
                clear hw1
                obtain ⟨x0_0, x0_1, x0_2, x0_3, x0_4, x0_5, x0_6, x0_7, x0_8, x0_9, x0_10, x0_11⟩ := F0.out
                have m3 := F1.out.c3
                have m4 := F1.out.c4
                have m5 := F1.out.c5
                have m1 := F1.out.c1
                refine tkz 0 rfl ?_
                refine tkz 1 rfl ?_
                refine tkz 2 rfl ?_
                refine tkz 3 rfl ?_
                refine tkz 4 rfl ?_
                refine tkz 5 rfl ?_
                refine tkz 6 rfl ?_
                refine tkz 7 rfl ?_
                refine tkz 8 rfl ?_
                refine tkz 9 rfl ?_
                refine tkz 10 rfl ?_
                refine tkz 11 rfl ?_
                refine tkz 12 rfl ?_
                refine tkz 13 rfl ?_
                refine tkz 14 rfl ?_
                refine tkz 15 rfl ?_
                refine tkz 16 rfl ?_
                refine tkz 17 rfl ?_
                refine tkz 18 rfl ?_
                refine tkz 19 rfl ?_
                refine tkz 20 rfl ?_
                refine tkz 21 rfl ?_
                refine tkz 22 rfl ?_
                refine tkz 23 rfl ?_
                refine tkz 24 rfl ?_
                refine tkz 26 rfl ?_
                refine tkz 27 rfl ?_
                refine wpAnyH_ready (rs := [25]) (by kernel_rfl) (by simp) ?_
                refine (AllReadyH.cons rfl (fun K hK => ?_) AllReadyH.nil)
                go_simp
                refine (l7Count_any lb nx (some ⟨g, 0, none⟩) cap m 1 sh ca (by rw [hm]; exact hl) _ (hm.symm ▸ FL.out) (FO.out.pin FO.out.lt)).mono ?_
                rintro e v_6 ⟨rfl, hb⟩
                have F0 : Hid (HAt v_6 w.heap.size h) := F0.out.below hb F0.out.lt
                have F1 : Hid (P7 v_6 pb 0 p) := F1.out.below hb F1.out.lt
                have FO : Hid (Ow v_6 B g n cap m) := FO.out.below hb FO.out.lt
                have FL : Hid (LAt v_6 lb nx (some ⟨g, 0, none⟩) n cap) := FL.out.below hb FL.out.lt
                have FG : Hid (w.grownBy v_6 (some g)) := gr_below FG.out hb
                clear hb
                obtain ⟨x0_0, x0_1, x0_2, x0_3, x0_4, x0_5, x0_6, x0_7, x0_8, x0_9, x0_10, x0_11⟩ := F0.out
                have m3 := F1.out.c3
                have m4 := F1.out.c4
                have m5 := F1.out.c5
                have m1 := F1.out.c1
                try dsimp only
                refine hK.out _ _ (by (try dsimp only); first | exact ⟨x0_0, x0_1, x0_2, x0_3, x0_4, x0_5, x0_6, x0_7, x0_8, x0_9, x0_10, x0_11, m3, m4, m5, m1⟩ | go_keep) (fun hHeld => ?_)
                clear hK K
                try simp only [Act.put, List.getElem_toArray, List.getElem_cons_succ, List.getElem_cons_zero, List.setIfInBounds_toArray, List.set_cons_zero, List.set_cons_succ]
                refine tkz 28 rfl ?_
                refine tkz 29 rfl ?_
                refine wpAnyH_done (by kernel_rfl) ?_ _
                obtain ⟨u0, u1, u2, u3, u4, u5, u6⟩ := FO.out.p7 HZ.out
                have uz := FO.out.fz (i * 7 + 5)
                obtain ⟨v0_, v1_⟩ := FL.out
                go_wp2_with fail
                go_roundw
                case rel => exact ⟨i + 1, by simp, by omega, HE.out ▸ FO.out.set (k := 5) (u := .int .i64 1) (q := boardP p) HZ.out (by omega) rfl, F0.out.grown (grown_set1 _ g _ _) (fun e => by have e2 : w.heap.size = g := Option.some.inj e; omega), grown_trans FG.out (grown_set1 _ g _ _)⟩
                case measure => simp [intOf]; omega
              · have b4 : decide ((cnt 1 sh ca m : Int) < h.ld) = false := decide_eq_false kc
                have HE : Hid (m = boardS h.ld sh ca fl l (i + 1)) := by
                  rw [boardS_next HM.out hz, if_neg (fun q => kc q.2)]
                  exact rfl
                clear hz kc
                have F0 : Hid (HAt W1.drew w.heap.size h) := F0.out.below (Below.refl _ _).drew F0.out.lt
                have F1 : Hid (P7 W1.drew pb 0 p) := F1.out.below (Below.refl _ _).drew F1.out.lt
                have FO : Hid (Ow W1.drew B g n cap m) := FO.out.below (Below.refl _ _).drew FO.out.lt
                have FL : Hid (LAt W1.drew lb nx (some ⟨g, 0, none⟩) n cap) := FL.out.below (Below.refl _ _).drew FL.out.lt
                have FG : Hid (w.grownBy W1.drew (some g)) := gr_drew FG.out
                obtain ⟨x0_0, x0_1, x0_2, x0_3, x0_4, x0_5, x0_6, x0_7, x0_8, x0_9, x0_10, x0_11⟩ := F0.out
                have m3 := F1.out.c3
                have m4 := F1.out.c4
                have m5 := F1.out.c5
                have m1 := F1.out.c1
                refine wp_region_held_drew (S := (fun w'' => w''.cell? ⟨w.heap.size, 0, none⟩ = some (.int .i64 h.fl) ∧ w''.cell? ⟨w.heap.size, 1, none⟩ = some (.int .i64 h.gp) ∧ w''.cell? ⟨w.heap.size, 2, none⟩ = some (.int .i64 h.ln) ∧ w''.cell? ⟨w.heap.size, 3, none⟩ = some (.int .i64 h.rf) ∧ w''.cell? ⟨w.heap.size, 4, none⟩ = some (.int .i64 h.sp) ∧ w''.cell? ⟨w.heap.size, 5, none⟩ = some (.int .i64 h.pu) ∧ w''.cell? ⟨w.heap.size, 6, none⟩ = some (.int .i64 h.br) ∧ w''.cell? ⟨w.heap.size, 7, none⟩ = some (.int .i64 h.dr) ∧ w''.cell? ⟨w.heap.size, 8, none⟩ = some (.int .i64 h.lv) ∧ w''.cell? ⟨w.heap.size, 9, none⟩ = some (.int .i64 h.dO) ∧ w''.cell? ⟨w.heap.size, 10, none⟩ = some (.int .i64 h.ld) ∧ w''.cell? ⟨w.heap.size, 11, none⟩ = some (.int .i64 h.qu) ∧ w''.cell? ⟨pb, 3, none⟩ = some (.int .i64 p.sh) ∧ w''.cell? ⟨pb, 4, none⟩ = some (.int .i64 p.ca) ∧ w''.cell? ⟨pb, 5, none⟩ = some (.int .i64 p.st) ∧ w''.cell? ⟨pb, 1, none⟩ = some (.int .i64 p.fr))) (by kernel_rfl) (by (try dsimp only); first | exact ⟨x0_0, x0_1, x0_2, x0_3, x0_4, x0_5, x0_6, x0_7, x0_8, x0_9, x0_10, x0_11, m3, m4, m5, m1⟩ | go_keep) (fun hHeld => ?_)
                obtain ⟨v_7, hw1⟩ : ∃ v_7, v_7 = W1.drew := ⟨_, rfl⟩
                have F0 : Hid (HAt v_7 w.heap.size h) := by rw [hw1]; exact F0.out
                have F1 : Hid (P7 v_7 pb 0 p) := by rw [hw1]; exact F1.out
                have FO : Hid (Ow v_7 B g n cap m) := by rw [hw1]; exact FO.out
                have FL : Hid (LAt v_7 lb nx (some ⟨g, 0, none⟩) n cap) := by rw [hw1]; exact FL.out
                have FG : Hid (w.grownBy v_7 (some g)) := by rw [hw1]; exact FG.out
                rw [← hw1] at hHeld ⊢
                clear hw1
                obtain ⟨x0_0, x0_1, x0_2, x0_3, x0_4, x0_5, x0_6, x0_7, x0_8, x0_9, x0_10, x0_11⟩ := F0.out
                have m3 := F1.out.c3
                have m4 := F1.out.c4
                have m5 := F1.out.c5
                have m1 := F1.out.c1
                refine tkz 0 rfl ?_
                refine tkz 1 rfl ?_
                refine tkz 2 rfl ?_
                refine tkz 3 rfl ?_
                refine tkz 4 rfl ?_
                refine tkz 5 rfl ?_
                refine tkz 6 rfl ?_
                refine tkz 7 rfl ?_
                refine tkz 8 rfl ?_
                refine tkz 9 rfl ?_
                refine tkz 10 rfl ?_
                refine tkz 11 rfl ?_
                refine tkz 12 rfl ?_
                refine tkz 13 rfl ?_
                refine tkz 14 rfl ?_
                refine tkz 15 rfl ?_
                refine tkz 16 rfl ?_
                refine tkz 17 rfl ?_
                refine tkz 18 rfl ?_
                refine tkz 19 rfl ?_
                refine tkz 20 rfl ?_
                refine tkz 21 rfl ?_
                refine tkz 22 rfl ?_
                refine tkz 23 rfl ?_
                refine tkz 24 rfl ?_
                refine tkz 26 rfl ?_
                refine tkz 27 rfl ?_
                refine wpAnyH_ready (rs := [25]) (by kernel_rfl) (by simp) ?_
                refine (AllReadyH.cons rfl (fun K hK => ?_) AllReadyH.nil)
                go_simp
                refine (l7Count_any lb nx (some ⟨g, 0, none⟩) cap m 1 sh ca (by rw [hm]; exact hl) _ (hm.symm ▸ FL.out) (FO.out.pin FO.out.lt)).mono ?_
                rintro e v_8 ⟨rfl, hb⟩
                have F0 : Hid (HAt v_8 w.heap.size h) := F0.out.below hb F0.out.lt
                have F1 : Hid (P7 v_8 pb 0 p) := F1.out.below hb F1.out.lt
                have FO : Hid (Ow v_8 B g n cap m) := FO.out.below hb FO.out.lt
                have FL : Hid (LAt v_8 lb nx (some ⟨g, 0, none⟩) n cap) := FL.out.below hb FL.out.lt
                have FG : Hid (w.grownBy v_8 (some g)) := gr_below FG.out hb
                clear hb
                obtain ⟨x0_0, x0_1, x0_2, x0_3, x0_4, x0_5, x0_6, x0_7, x0_8, x0_9, x0_10, x0_11⟩ := F0.out
                have m3 := F1.out.c3
                have m4 := F1.out.c4
                have m5 := F1.out.c5
                have m1 := F1.out.c1
                try dsimp only
                refine hK.out _ _ (by (try dsimp only); first | exact ⟨x0_0, x0_1, x0_2, x0_3, x0_4, x0_5, x0_6, x0_7, x0_8, x0_9, x0_10, x0_11, m3, m4, m5, m1⟩ | go_keep) (fun hHeld => ?_)
                clear hK K
                try simp only [Act.put, List.getElem_toArray, List.getElem_cons_succ, List.getElem_cons_zero, List.setIfInBounds_toArray, List.set_cons_zero, List.set_cons_succ]
                refine tkz 28 rfl ?_
                refine tkz 29 rfl ?_
                refine wpAnyH_done (by kernel_rfl) ?_ _
                go_wp2_with fail
                go_roundw
                case rel => exact ⟨i + 1, by simp, by omega, HE.out ▸ FO.out, F0.out, FG.out⟩
                case measure => simp [intOf]; omega
    · have ei : i = n := by omega
      subst ei
      have HX_ : Hid (Ow wr B g i cap (boardS h.ld sh ca fl l i)) := HM.out.symm ▸ FO.out
      clear FO
      go_wp2_with fail
      go_end0
      exact ⟨rfl, HX_.out, FG.out⟩
def Hs.boardV (h : Hs) (x : Lg) (sh ca fl : Int) : Lg := if (Hs.askd h x sh ca fl) = 0 then ⟨x.nx, boardS h.ld sh ca fl x.ps x.ps.length⟩ else ⟨0, []⟩
set_option maxRecDepth 20000 in
set_option maxHeartbeats 16000000 in
theorem specBoardAt_any (h : Hs) (x : Lg) (sh ca fl : Int) (b o cap : Nat) (hl : x.ps.length ≤ 1048576) (w : World) (hb : b < w.heap.size) (hP : ∀ i p, x.ps[i]? = some p → P7 w b (o + i * 7) p) :
    Calls Try.prog 7 #[.agg #[.int .i64 h.fl, .int .i64 h.gp, .int .i64 h.ln, .int .i64 h.rf, .int .i64 h.sp, .int .i64 h.pu, .int .i64 h.br, .int .i64 h.dr, .int .i64 h.lv, .int .i64 h.dO, .int .i64 h.ld, .int .i64 h.qu], .agg #[.int .i64 x.nx, .slice (some ⟨b, o, none⟩) x.ps.length cap], .int .i64 sh, .int .i64 ca, .int .i64 fl] w (isLed w (Hs.askd h x sh ca fl) 0 (Hs.boardV h x sh ca fl).nx (Hs.boardV h x sh ca fl).ps) := by
  unfold Hs.boardV
  have HP : Hid (PIn w w.heap.size (some ⟨b, o, none⟩) x.ps) := Or.inr ⟨b, o, rfl, hb, hP⟩
  have F0 : Hid (HAt (((w.alloc (.cells #[.int .i64 h.fl, .int .i64 h.gp, .int .i64 h.ln, .int .i64 h.rf, .int .i64 h.sp, .int .i64 h.pu, .int .i64 h.br, .int .i64 h.dr, .int .i64 h.lv, .int .i64 h.dO, .int .i64 h.ld, .int .i64 h.qu] 25)).alloc (.cells #[.int .i64 x.nx, .slice (some ⟨b, o, none⟩) x.ps.length cap] 28)).alloc (.cells #[.int .i64 0, .int .i64 0, .int .i64 0, .slice none 0 0] 32)) w.heap.size h) := ((HAt.new w h _).below ((Below.refl _ _).alloc (Nat.le_refl _) _) (by simp)).below ((Below.refl _ _).alloc (Nat.le_refl _) _) (by simp; omega)
  have F1 : Hid (LW (((w.alloc (.cells #[.int .i64 h.fl, .int .i64 h.gp, .int .i64 h.ln, .int .i64 h.rf, .int .i64 h.sp, .int .i64 h.pu, .int .i64 h.br, .int .i64 h.dr, .int .i64 h.lv, .int .i64 h.dO, .int .i64 h.ld, .int .i64 h.qu] 25)).alloc (.cells #[.int .i64 x.nx, .slice (some ⟨b, o, none⟩) x.ps.length cap] 28)).alloc (.cells #[.int .i64 0, .int .i64 0, .int .i64 0, .slice none 0 0] 32)) (w.heap.size + 1) x.nx (.slice (some ⟨b, o, none⟩) x.ps.length cap)) := (LW.at_ _ x.nx (.slice (some ⟨b, o, none⟩) x.ps.length cap) _ _ (by simp)).alloc _
  have F2 : Hid (RL (((w.alloc (.cells #[.int .i64 h.fl, .int .i64 h.gp, .int .i64 h.ln, .int .i64 h.rf, .int .i64 h.sp, .int .i64 h.pu, .int .i64 h.br, .int .i64 h.dr, .int .i64 h.lv, .int .i64 h.dO, .int .i64 h.ld, .int .i64 h.qu] 25)).alloc (.cells #[.int .i64 x.nx, .slice (some ⟨b, o, none⟩) x.ps.length cap] 28)).alloc (.cells #[.int .i64 0, .int .i64 0, .int .i64 0, .slice none 0 0] 32)) (w.heap.size + 2)) := RL.at_ _ _ _ (by simp)
  have FB : Hid (Below w.heap.size w (((w.alloc (.cells #[.int .i64 h.fl, .int .i64 h.gp, .int .i64 h.ln, .int .i64 h.rf, .int .i64 h.sp, .int .i64 h.pu, .int .i64 h.br, .int .i64 h.dr, .int .i64 h.lv, .int .i64 h.dO, .int .i64 h.ld, .int .i64 h.qu] 25)).alloc (.cells #[.int .i64 x.nx, .slice (some ⟨b, o, none⟩) x.ps.length cap] 28)).alloc (.cells #[.int .i64 0, .int .i64 0, .int .i64 0, .slice none 0 0] 32))) := (((Below.refl _ _).alloc (Nat.le_refl _) _).alloc (by simp) _).alloc (by simp; omega) _
  have FP : Hid (∀ i p, x.ps[i]? = some p → P7 (((w.alloc (.cells #[.int .i64 h.fl, .int .i64 h.gp, .int .i64 h.ln, .int .i64 h.rf, .int .i64 h.sp, .int .i64 h.pu, .int .i64 h.br, .int .i64 h.dr, .int .i64 h.lv, .int .i64 h.dO, .int .i64 h.ld, .int .i64 h.qu] 25)).alloc (.cells #[.int .i64 x.nx, .slice (some ⟨b, o, none⟩) x.ps.length cap] 28)).alloc (.cells #[.int .i64 0, .int .i64 0, .int .i64 0, .slice none 0 0] 32)) b (o + i * 7) p) := fun i p hp => (hP i p hp).below FB.out (hP i p hp).lt
  clear hP hb
  by_cases hk : (Hs.askd h x sh ca fl) = 0
  · rw [if_pos hk, hk]
    go_enter Try.func7, Try.ntmps7
    go_upto_region 4 with (go_at_call 19; refine (l7Asked_any h x sh ca fl (some ⟨b, o, none⟩) cap hl _ ((HP.out.below FB.out (Nat.le_refl _)).mono FB.out.size)).mono ?_; rw [hk]; rintro e w1 ⟨rfl, hb⟩; have F0 : Hid (HAt w1 w.heap.size h) := F0.out.below hb F0.out.lt; have F1 : Hid (LW w1 (w.heap.size + 1) x.nx (.slice (some ⟨b, o, none⟩) x.ps.length cap)) := F1.out.below hb F1.out.lt; have F2 : Hid (RL w1 (w.heap.size + 2)) := F2.out.below hb F2.out.lt; have FP : Hid (∀ i p, x.ps[i]? = some p → P7 w1 b (o + i * 7) p) := fun i p hp => (FP.out i p hp).below hb (FP.out i p hp).lt; have FB : Hid (Below w.heap.size w w1) := FB.out.trans (hb.mono FB.out.size); clear hb; obtain ⟨x0_0, x0_1, x0_2, x0_3, x0_4, x0_5, x0_6, x0_7, x0_8, x0_9, x0_10, x0_11⟩ := F0.out; obtain ⟨x1_0, x1_1, y1_0, y1_1⟩ := F1.out; obtain ⟨x2_0, x2_1, x2_2, x2_3, y2_0, y2_1, y2_2, y2_3⟩ := F2.out)
    have F2' := F2.out
    go_upto_region 5 with (go_at_call 20; refine (l7Copy_any x.nx b o cap x.ps hl _ FP.out).mono ?_; rintro e w2 ⟨g, cap', rfl, ho, hb⟩; have FO : Hid (Ow w2 w1.heap.size g x.ps.length cap' x.ps) := ho; have F2 : Hid (RL w2 (w.heap.size + 2)) := F2.out.below hb F2.out.lt; have F0 : Hid (HAt w2 w.heap.size h) := F0.out.below hb F0.out.lt; have l2 : w.heap.size + 2 < g := Nat.lt_of_lt_of_le F2'.lt FO.out.bl.1; have FB : Hid (Below w.heap.size w w2) := FB.out.trans (hb.mono FB.out.size); clear hb ho)
    clear F2'
    obtain ⟨ob, hbb⟩ : ∃ ob, ob = w2.heap.size := ⟨_, rfl⟩
    obtain ⟨w3, hw3⟩ : ∃ w3, w3 = w2.alloc (.cells #[.int .i64 x.nx, .slice (some ⟨g, 0, none⟩) x.ps.length cap'] 28) := ⟨_, rfl⟩
    have lg := FO.out.bl.2
    rw [← hbb] at lg
    have F2 : Hid (RL w3 (w.heap.size + 2)) := by rw [hw3]; exact F2.out.alloc _
    have FO : Hid (Ow w3 w1.heap.size g x.ps.length cap' x.ps) := by rw [hw3]; exact FO.out.alloc _
    have F3 : Hid (LW w3 ob x.nx (.slice (some ⟨g, 0, none⟩) x.ps.length cap')) := by rw [hw3]; exact LW.at_ w2 _ _ _ ob hbb
    have FB : Hid (Below w.heap.size w w3) := by rw [hw3]; exact FB.out.alloc FB.out.size _
    have F0 : Hid (HAt w3 w.heap.size h) := by rw [hw3]; exact F0.out.below ((Below.refl _ _).alloc (Nat.le_refl _) _) F0.out.lt
    rw [← hw3, ← hbb]
    clear hw3 hbb x0_0 x0_1 x0_2 x0_3 x0_4 x0_5 x0_6 x0_7 x0_8 x0_9 x0_10 x0_11 x1_0 x1_1 y1_0 y1_1 x2_0 x2_1 x2_2 x2_3 y2_0 y2_1 y2_2 y2_3
    obtain ⟨x0_0, x0_1, x0_2, x0_3, x0_4, x0_5, x0_6, x0_7, x0_8, x0_9, x0_10, x0_11⟩ := F0.out
    go_upto_region 6 with (go_at_call 21; refine (l7Board_any h ob x.nx w1.heap.size g x.ps.length cap' x.ps sh ca fl hl (by omega) _ F3.out.lat FO.out).mono ?_; rintro e w4 ⟨rfl, ho, hg⟩; have FO : Hid (Ow w4 w1.heap.size g x.ps.length cap' (boardS h.ld sh ca fl x.ps x.ps.length)) := ho; have F2 : Hid (RL w4 (w.heap.size + 2)) := F2.out.grown hg (fun e => by have e2 : w.heap.size + 2 = g := Option.some.inj e; omega); have F3 : Hid (LW w4 ob x.nx (.slice (some ⟨g, 0, none⟩) x.ps.length cap')) := F3.out.grown hg (fun e => by have e2 : ob = g := Option.some.inj e; omega); have FB : Hid (Below w.heap.size w w4) := FB.out.grown hg FB.out.size (fun k hk => by have e2 : g = k := Option.some.inj hk; omega); clear hg ho)
    have hle : w.heap.size ≤ w1.heap.size := by
      have := FO.out.bl.1
      have := F1.out.lt
      omega
    obtain ⟨x3_0, x3_1, y3_0, y3_1⟩ := F3.out
    obtain ⟨x2_0, x2_1, x2_2, x2_3, y2_0, y2_1, y2_2, y2_3⟩ := F2.out
    go_wp2_with fail
    exact bodyPost_ret (v := .agg #[.int .i64 0, .int .i64 0, .int .i64 x.nx, .slice (some ⟨g, 0, none⟩) x.ps.length cap']) (by simp [results, Try.results7, go_sem, x2_0, x2_1, x2_2, x2_3]) rfl ⟨_, rfl, ((((((FO.out.base hle).other (by simp; omega) _).other (by simp; omega) _).other (by simp; omega) _).other (by simp; omega) _)).own, (((FB.out.setCell (by simp <;> omega) _).setCell (by simp <;> omega) _).setCell (by simp <;> omega) _).setCell (by simp <;> omega) _⟩
  · rw [if_neg hk]
    have hn : ((Hs.askd h x sh ca fl) != 0) = true := by simpa using hk
    clear hk
    go_enter Try.func7, Try.ntmps7
    go_wp2_with (go_at_call 19; refine (l7Asked_any h x sh ca fl (some ⟨b, o, none⟩) cap hl _ ((HP.out.below FB.out (Nat.le_refl _)).mono FB.out.size)).mono ?_; rintro e w1 ⟨rfl, hb⟩; have F0 : Hid (HAt w1 w.heap.size h) := F0.out.below hb F0.out.lt; have F1 : Hid (LW w1 (w.heap.size + 1) x.nx (.slice (some ⟨b, o, none⟩) x.ps.length cap)) := F1.out.below hb F1.out.lt; have F2 : Hid (RL w1 (w.heap.size + 2)) := F2.out.below hb F2.out.lt; have FP : Hid (∀ i p, x.ps[i]? = some p → P7 w1 b (o + i * 7) p) := fun i p hp => (FP.out i p hp).below hb (FP.out i p hp).lt; have FB : Hid (Below w.heap.size w w1) := FB.out.trans (hb.mono FB.out.size); clear hb; obtain ⟨x0_0, x0_1, x0_2, x0_3, x0_4, x0_5, x0_6, x0_7, x0_8, x0_9, x0_10, x0_11⟩ := F0.out; obtain ⟨x1_0, x1_1, y1_0, y1_1⟩ := F1.out; obtain ⟨x2_0, x2_1, x2_2, x2_3, y2_0, y2_1, y2_2, y2_3⟩ := F2.out)
    exact bodyPost_ret (v := .agg #[.int .i64 (Hs.askd h x sh ca fl), .int .i64 0, .int .i64 0, .slice none 0 0]) (by simp [results, Try.results7, go_sem, x2_0, x2_1, x2_2, x2_3]) rfl ⟨_, rfl, own_nil _ _, (((FB.out.setCell (by simp <;> omega) _).setCell (by simp <;> omega) _).setCell (by simp <;> omega) _).setCell (by simp <;> omega) _⟩
end Go.Proofs.Ytoekhkolakielaa
