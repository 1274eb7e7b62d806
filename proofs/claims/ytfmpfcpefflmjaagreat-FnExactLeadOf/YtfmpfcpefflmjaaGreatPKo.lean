/-
  The base of what follows: plain numbers, cells, contracts of the smallest functions.
-/
import Derived.Test.YtfmpfcpefflmjaaGreatFnd
import Derived.BigGuardPart
import Derived.Test.YtfmpfcpefflmjaaGreatPdf
import Derived.Deep.RegionHeld3
/-
  The model's ledger: how many are in a state.
(A pointer into a block tells the ledger.)
-/
namespace Go.Proofs.YtfmpfcpefflmjaaGreat
open Go.RowKit Pl
set_option linter.unusedSimpArgs false
set_option linter.unusedVariables false

/-- A ledger lies from the cell o of the block b on. -/
structure LAo (w : World) (b o : Nat) (nx : Int) (a : Option Addr) (len cap : Nat) : Prop where
  c0 : w.cell? ⟨b, o, none⟩ = some (.int .i64 nx)
  c1 : w.cell? ⟨b, o + 1, none⟩ = some (.slice a len cap)
theorem LAo.lt {w : World} {b o : Nat} {nx : Int} {a : Option Addr} {len cap : Nat} (h : LAo w b o nx a len cap) : b < w.heap.size := World.block_lt_of_cell? w _ h.c0
theorem LAo.below {W w : World} {b o B : Nat} {nx : Int} {a : Option Addr} {len cap : Nat} (h : LAo W b o nx a len cap) (hb : Below B W w) (hB : b < B) : LAo w b o nx a len cap :=
  ⟨(hb.cell (p := ⟨b, o, none⟩) hB).trans h.c0, (hb.cell (p := ⟨b, o + 1, none⟩) hB).trans h.c1⟩
theorem LAo.grown {W w : World} {b o : Nat} {nx : Int} {a : Option Addr} {len cap : Nat} {row : Option Nat} (h : LAo W b o nx a len cap) (hg : W.grownBy w row) (hne : some b ≠ row) : LAo w b o nx a len cap :=
  ⟨(World.cell?_of_block (w := W) (hg.block b h.lt hne)).trans h.c0, (World.cell?_of_block (w := W) (hg.block b h.lt hne)).trans h.c1⟩
set_option maxRecDepth 20000 in
set_option maxHeartbeats 8000000 in
theorem l7Count_anyO (lb lo : Nat) (nx : Int) (a : Option Addr) (cap : Nat) (l : List Pe) (st sh ca : Int) (hl : l.length ≤ 1048576) (w : World) (hL : LAo w lb lo nx a l.length cap) (hP : PIn w w.heap.size a l) :
    Calls Tryz.prog 50 #[.pointer (some ⟨lb, lo, none⟩), .int .i64 st, .int .i64 sh, .int .i64 ca] w fun e w' => e = .returned (.int .i64 (cnt st sh ca l)) ∧ Below w.heap.size w w' := by
  have HL : Hid (LAo w lb lo nx a l.length cap) := hL
  have HP : Hid (PIn w w.heap.size a l) := hP
  clear hL hP
  go_enter Tryz.func50, Tryz.ntmps50
  go_wp2_with fail
  go_loopw [9, 10] (fun nn ii wr => ∃ i : Nat, ii = .int .i64 i ∧ i ≤ l.length ∧ nn = .int .i64 ((l.take i).countP (isIn st sh ca)) ∧ Below w.heap.size w wr) (fun _ ii _ => l.length - (intOf ii).toNat)
  case atStart => exact ⟨0, rfl, by omega, by simp, Below.refl _ _⟩
  case round =>
    obtain ⟨i, rfl, hi, rfl, hb⟩ := hrel
    have L1 : LAo wr lb lo nx a l.length cap := HL.out.below hb HL.out.lt
    obtain ⟨x0, x1⟩ := L1
    by_cases hlt : i < l.length
    · obtain ⟨p, hp⟩ : ∃ p, l[i]? = some p := ⟨_, List.getElem?_eq_getElem hlt⟩
      rcases HP.out with h0 | ⟨b, o, rfl, hbl, h7⟩
      · rw [h0] at hlt; simp at hlt
      obtain ⟨c0, c1, c2, c3, c4, c5, c6⟩ := (h7 i p hp).below hb hbl
      have hc1 : (l.take i).countP (isIn st sh ca) ≤ i := Nat.le_trans List.countP_le_length (by rw [List.length_take]; omega)
      have ew : IntKind.i64.wrap (((l.take i).countP (isIn st sh ca) : Int) + 1) = ((l.take i).countP (isIn st sh ca) : Int) + 1 := IntWalk.i64_in _ (by omega)
      have HE : Hid ((l.take (i + 1)).countP (isIn st sh ca) = (l.take i).countP (isIn st sh ca) + (if isIn st sh ca p = true then 1 else 0)) := countP_take hp
      have HB : Hid (Below w.heap.size w wr) := hb
      clear hp hc1 hb
      go_wp2_with fail
      all_goals
        go_roundw
        case rel => exact ⟨i + 1, by simp, by omega, by rw [HE.out]; simp [isIn, *], HB.out.alloc HB.out.size _⟩
        case measure => simp [intOf]; omega
    · have ei : i = l.length := by omega
      subst ei
      have HB : Hid (Below w.heap.size w wr) := hb
      clear hb
      go_wp2_with fail
      go_ret
      exact ⟨ret_int (by rw [List.take_length]; rfl), HB.out⟩
end Go.Proofs.YtfmpfcpefflmjaaGreat

/-
  The model's ledger: who is next in a car.
(A pointer into a block tells the ledger.)
-/
namespace Go.Proofs.YtfmpfcpefflmjaaGreat
open Go.RowKit Pl
set_option linter.unusedSimpArgs false
set_option linter.unusedVariables false

set_option maxRecDepth 20000 in
set_option maxHeartbeats 16000000 in
theorem l7Need_falseO (h : Hs) (lb lo : Nat) (nx : Int) (a : Option Addr) (cap : Nat) (l : List Pe) (sh ca : Int) (hl : l.length ≤ 1048576) (r : Int × Int × Int) (hfl : decide (h.ld ≤ (cnt 1 sh ca l : Int)) = false) (hr : needR (need false sh ca l) = r) (w : World) (hL : LAo w lb lo nx a l.length cap) (hP : PIn w w.heap.size a l) :
    Calls Tryz.prog 51 #[.agg #[.int .i64 h.fl, .int .i64 h.gp, .int .i64 h.ln, .int .i64 h.rf, .int .i64 h.sp, .int .i64 h.pu, .int .i64 h.br, .int .i64 h.dr, .int .i64 h.lv, .int .i64 h.dO, .int .i64 h.ld, .int .i64 h.qu], .pointer (some ⟨lb, lo, none⟩), .int .i64 sh, .int .i64 ca] w fun e w' => e = .returned (.agg #[.int .i64 r.1, .int .i64 r.2.1, .int .i64 r.2.2]) ∧ Below w.heap.size w w' := by
  have HR : Hid (needR (need false sh ca l) = r) := hr
  have HP : Hid (PIn w w.heap.size a l) := hP
  have F0 : Hid (HAt ((w.alloc (.cells #[.int .i64 h.fl, .int .i64 h.gp, .int .i64 h.ln, .int .i64 h.rf, .int .i64 h.sp, .int .i64 h.pu, .int .i64 h.br, .int .i64 h.dr, .int .i64 h.lv, .int .i64 h.dO, .int .i64 h.ld, .int .i64 h.qu] 34)).alloc (.cells #[.int .i64 0, .int .i64 0, .int .i64 0] 56)) w.heap.size h) := (HAt.new w h _).below ((Below.refl _ _).alloc (Nat.le_refl _) _) (by simp)
  have F1 : Hid (R3 ((w.alloc (.cells #[.int .i64 h.fl, .int .i64 h.gp, .int .i64 h.ln, .int .i64 h.rf, .int .i64 h.sp, .int .i64 h.pu, .int .i64 h.br, .int .i64 h.dr, .int .i64 h.lv, .int .i64 h.dO, .int .i64 h.ld, .int .i64 h.qu] 34)).alloc (.cells #[.int .i64 0, .int .i64 0, .int .i64 0] 56)) (w.heap.size + 1)) := R3.at_ _ _ _ (by simp)
  have FB : Hid (Below w.heap.size w ((w.alloc (.cells #[.int .i64 h.fl, .int .i64 h.gp, .int .i64 h.ln, .int .i64 h.rf, .int .i64 h.sp, .int .i64 h.pu, .int .i64 h.br, .int .i64 h.dr, .int .i64 h.lv, .int .i64 h.dO, .int .i64 h.ld, .int .i64 h.qu] 34)).alloc (.cells #[.int .i64 0, .int .i64 0, .int .i64 0] 56))) := ((Below.refl _ _).alloc (Nat.le_refl _) _).alloc (by simp) _
  have F2 : Hid (LAo ((w.alloc (.cells #[.int .i64 h.fl, .int .i64 h.gp, .int .i64 h.ln, .int .i64 h.rf, .int .i64 h.sp, .int .i64 h.pu, .int .i64 h.br, .int .i64 h.dr, .int .i64 h.lv, .int .i64 h.dO, .int .i64 h.ld, .int .i64 h.qu] 34)).alloc (.cells #[.int .i64 0, .int .i64 0, .int .i64 0] 56)) lb lo nx a l.length cap) := hL.below FB.out hL.lt
  have hlb := hL.lt
  have HL : Hid (LAo w lb lo nx a l.length cap) := hL
  obtain ⟨W0, hW0⟩ : ∃ W0, W0 = ((w.alloc (.cells #[.int .i64 h.fl, .int .i64 h.gp, .int .i64 h.ln, .int .i64 h.rf, .int .i64 h.sp, .int .i64 h.pu, .int .i64 h.br, .int .i64 h.dr, .int .i64 h.lv, .int .i64 h.dO, .int .i64 h.ld, .int .i64 h.qu] 34)).alloc (.cells #[.int .i64 0, .int .i64 0, .int .i64 0] 56)) := ⟨_, rfl⟩
  rw [← hW0] at F0 F1 F2 FB
  have HW0 : Hid (W0 = ((w.alloc (.cells #[.int .i64 h.fl, .int .i64 h.gp, .int .i64 h.ln, .int .i64 h.rf, .int .i64 h.sp, .int .i64 h.pu, .int .i64 h.br, .int .i64 h.dr, .int .i64 h.lv, .int .i64 h.dO, .int .i64 h.ld, .int .i64 h.qu] 34)).alloc (.cells #[.int .i64 0, .int .i64 0, .int .i64 0] 56))) := hW0
  clear hW0 hr hL hP
  go_enter Tryz.func51, Tryz.ntmps51
  go_upto_region 1 with fail
  rw [← HW0.out]
  clear HW0
  have F0 : Hid (HAt W0.drew w.heap.size h) := F0.out.below (Below.refl _ _).drew F0.out.lt
  have F1 : Hid (R3 W0.drew (w.heap.size + 1)) := F1.out.below (Below.refl _ _).drew F1.out.lt
  have F2 : Hid (LAo W0.drew lb lo nx a l.length cap) := F2.out.below (Below.refl _ _).drew F2.out.lt
  have FB : Hid (Below w.heap.size w W0.drew) := FB.out.drew
  obtain ⟨x0_0, x0_1, x0_2, x0_3, x0_4, x0_5, x0_6, x0_7, x0_8, x0_9, x0_10, x0_11⟩ := F0.out
  refine wp_region_held_drew (S := (fun w'' => w''.cell? ⟨w.heap.size, 0, none⟩ = some (.int .i64 h.fl) ∧ w''.cell? ⟨w.heap.size, 1, none⟩ = some (.int .i64 h.gp) ∧ w''.cell? ⟨w.heap.size, 2, none⟩ = some (.int .i64 h.ln) ∧ w''.cell? ⟨w.heap.size, 3, none⟩ = some (.int .i64 h.rf) ∧ w''.cell? ⟨w.heap.size, 4, none⟩ = some (.int .i64 h.sp) ∧ w''.cell? ⟨w.heap.size, 5, none⟩ = some (.int .i64 h.pu) ∧ w''.cell? ⟨w.heap.size, 6, none⟩ = some (.int .i64 h.br) ∧ w''.cell? ⟨w.heap.size, 7, none⟩ = some (.int .i64 h.dr) ∧ w''.cell? ⟨w.heap.size, 8, none⟩ = some (.int .i64 h.lv) ∧ w''.cell? ⟨w.heap.size, 9, none⟩ = some (.int .i64 h.dO) ∧ w''.cell? ⟨w.heap.size, 10, none⟩ = some (.int .i64 h.ld) ∧ w''.cell? ⟨w.heap.size, 11, none⟩ = some (.int .i64 h.qu))) (by kernel_rfl) (by (try dsimp only); first | exact ⟨x0_0, x0_1, x0_2, x0_3, x0_4, x0_5, x0_6, x0_7, x0_8, x0_9, x0_10, x0_11⟩ | go_keep) (fun hHeld => ?_)
  obtain ⟨v_1, hw1⟩ : ∃ v_1, v_1 = W0.drew := ⟨_, rfl⟩
  have F0 : Hid (HAt v_1 w.heap.size h) := by rw [hw1]; exact F0.out
  have F1 : Hid (R3 v_1 (w.heap.size + 1)) := by rw [hw1]; exact F1.out
  have F2 : Hid (LAo v_1 lb lo nx a l.length cap) := by rw [hw1]; exact F2.out
  have FB : Hid (Below w.heap.size w v_1) := by rw [hw1]; exact FB.out
  rw [← hw1] at hHeld ⊢
  clear hw1
  obtain ⟨x0_0, x0_1, x0_2, x0_3, x0_4, x0_5, x0_6, x0_7, x0_8, x0_9, x0_10, x0_11⟩ := F0.out
  refine tkz 0 rfl ?_
  refine tkz 1 rfl ?_
  refine tkz 2 rfl ?_
  refine tkz 4 rfl ?_
  refine tkz 5 rfl ?_
  refine wpAnyH_ready (rs := [3]) (by kernel_rfl) (by simp) ?_
  refine (AllReadyH.cons rfl (fun K hK => ?_) AllReadyH.nil)
  go_simp
  refine (l7Count_anyO lb lo nx a cap l 1 sh ca hl _ F2.out ((HP.out.below FB.out (Nat.le_refl _)).mono FB.out.size)).mono ?_
  rintro e v_2 ⟨rfl, hb⟩
  have F0 : Hid (HAt v_2 w.heap.size h) := F0.out.below hb F0.out.lt
  have F1 : Hid (R3 v_2 (w.heap.size + 1)) := F1.out.below hb F1.out.lt
  have F2 : Hid (LAo v_2 lb lo nx a l.length cap) := F2.out.below hb F2.out.lt
  have FB : Hid (Below w.heap.size w v_2) := FB.out.trans (hb.mono FB.out.size)
  clear hb
  obtain ⟨x0_0, x0_1, x0_2, x0_3, x0_4, x0_5, x0_6, x0_7, x0_8, x0_9, x0_10, x0_11⟩ := F0.out
  try dsimp only
  refine hK.out _ _ (by (try dsimp only); first | exact ⟨x0_0, x0_1, x0_2, x0_3, x0_4, x0_5, x0_6, x0_7, x0_8, x0_9, x0_10, x0_11⟩ | go_keep) (fun hHeld => ?_)
  clear hK K
  try simp only [Act.put, List.getElem_toArray, List.getElem_cons_succ, List.getElem_cons_zero, List.setIfInBounds_toArray, List.set_cons_zero, List.set_cons_succ]
  refine tkz 6 rfl ?_
  refine tkz 7 rfl ?_
  refine wpAnyH_done (by kernel_rfl) ?_ _
  go_wp2_with fail
  obtain ⟨W1, hW_⟩ : ∃ W1, W1 = v_2 := ⟨_, rfl⟩
  have F0 : Hid (HAt W1 w.heap.size h) := by rw [hW_]; exact F0.out
  have F1 : Hid (R3 W1 (w.heap.size + 1)) := by rw [hW_]; exact F1.out
  have F2 : Hid (LAo W1 lb lo nx a l.length cap) := by rw [hW_]; exact F2.out
  have FB : Hid (Below w.heap.size w W1) := by rw [hW_]; exact FB.out
  rw [← hW_]
  clear hW_
  clear hfl
  go_loopw [10] (fun ii wr => ∃ i : Nat, ii = .int .i64 i ∧ i ≤ l.length ∧ need false sh ca l = need false sh ca (l.drop i) ∧ HAt wr w.heap.size h ∧ R3 wr (w.heap.size + 1) ∧ Below w.heap.size w wr) (fun ii _ => l.length - (intOf ii).toNat)
  case atStart => exact ⟨0, rfl, by omega, by simp, F0.out, F1.out, FB.out⟩
  case round =>
    obtain ⟨i, rfl, hi, hn, h0, h1, h2⟩ := hrel
    have HN : Hid (need false sh ca l = need false sh ca (l.drop i)) := hn
    have F2 : Hid (LAo wr lb lo nx a l.length cap) := HL.out.below h2 hlb
    have F0 : Hid (HAt wr w.heap.size h) := h0
    have F1 : Hid (R3 wr (w.heap.size + 1)) := h1
    have FB : Hid (Below w.heap.size w wr) := h2
    obtain ⟨g0, g1⟩ := F2.out
    clear h0 h1 h2 hn
    by_cases hlt : i < l.length
    · obtain ⟨p, hp⟩ : ∃ p, l[i]? = some p := ⟨_, List.getElem?_eq_getElem hlt⟩
      have H0 : Hid (l[i]? = some p) := hp
      rcases HP.out with hz | ⟨b, o, ha, hbl, h7⟩
      · rw [hz] at hlt; simp at hlt
      rw [ha] at g1
      obtain ⟨c0, c1, c2, c3, c4, c5, c6⟩ := (h7 i p hp).below FB.out hbl
      clear hp h7 ha
      go_upto_region 6 with fail
      obtain ⟨pb, hpb⟩ : ∃ pb, pb = wr.heap.size := ⟨_, rfl⟩
      obtain ⟨W2, hW2⟩ : ∃ W2, W2 = wr.alloc (.cells #[.int .i64 p.id, .int .i64 p.fr, .int .i64 p.tw, .int .i64 p.sh, .int .i64 p.ca, .int .i64 p.st, .int .i64 p.pl] 81) := ⟨_, rfl⟩
      have F0 : Hid (HAt W2 w.heap.size h) := by rw [hW2]; exact F0.out.below ((Below.refl _ _).alloc (Nat.le_refl _) _) F0.out.lt
      have F1 : Hid (R3 W2 (w.heap.size + 1)) := by rw [hW2]; exact F1.out.below ((Below.refl _ _).alloc (Nat.le_refl _) _) F1.out.lt
      have F3 : Hid (P7 W2 pb 0 p) := by rw [hW2]; exact P7.at_ wr p _ pb hpb
      have FB : Hid (Below w.heap.size w W2) := by rw [hW2]; exact FB.out.alloc FB.out.size _
      rw [← hW2, ← hpb]
      clear hW2 hpb g0 g1 c0 c1 c2 c3 c4 c5 c6
      cases k0 : (p.sh != sh)
      · cases k1 : (p.ca != ca)
        · cases k2 : act p
          · have HE : Hid (need false sh ca (l.drop i) = need false sh ca (l.drop (i + 1))) := by
              rw [need_at H0.out, if_pos (by simp [skipB, *])]
              exact rfl
            obtain ⟨z0, z1, z2, z3, z4, z5, z6⟩ := F3.out
            go_wp2_with (go_at_call 77; refine (l7Active_any p _).mono ?_; rintro e w3 ⟨rfl, hb⟩; have F0 : Hid (HAt w3 w.heap.size h) := F0.out.below hb F0.out.lt; have F1 : Hid (R3 w3 (w.heap.size + 1)) := F1.out.below hb F1.out.lt; have F3 : Hid (P7 w3 pb 0 p) := F3.out.below hb F3.out.lt; have FB : Hid (Below w.heap.size w w3) := FB.out.trans (hb.mono FB.out.size); clear hb; obtain ⟨z0, z1, z2, z3, z4, z5, z6⟩ := F3.out; obtain ⟨x1_0, x1_1, x1_2, y1_0, y1_1, y1_2⟩ := F1.out)
            go_roundw
            case rel => exact ⟨i + 1, by simp, by omega, HN.out.trans HE.out, F0.out, F1.out, FB.out⟩
            case measure => simp [intOf]; omega
          · have HE : Hid (need false sh ca (l.drop i) = some (p.id, if p.st = 1 then p.tw else p.fr)) := by
              rw [need_at H0.out, if_neg (by simp [skipB, *])]
              exact rfl
            obtain ⟨z0, z1, z2, z3, z4, z5, z6⟩ := F3.out
            by_cases ks : p.st = 1
            · have b5 : (p.st == 1) = true := by simpa using ks
              have HV : Hid (Ending.returned (.agg #[.int .i64 0, .int .i64 p.id, .int .i64 p.tw]) = .returned (.agg #[.int .i64 r.1, .int .i64 r.2.1, .int .i64 r.2.2])) := by
                have q := HR.out
                rw [HN.out, HE.out, if_pos ks] at q
                rw [← q]
                exact rfl
              clear ks
              obtain ⟨x1_0, x1_1, x1_2, y1_0, y1_1, y1_2⟩ := F1.out
              go_wp2_with (go_at_call 77; refine (l7Active_any p _).mono ?_; rintro e w3 ⟨rfl, hb⟩; have F0 : Hid (HAt w3 w.heap.size h) := F0.out.below hb F0.out.lt; have F1 : Hid (R3 w3 (w.heap.size + 1)) := F1.out.below hb F1.out.lt; have F3 : Hid (P7 w3 pb 0 p) := F3.out.below hb F3.out.lt; have FB : Hid (Below w.heap.size w w3) := FB.out.trans (hb.mono FB.out.size); clear hb; obtain ⟨z0, z1, z2, z3, z4, z5, z6⟩ := F3.out; obtain ⟨x1_0, x1_1, x1_2, y1_0, y1_1, y1_2⟩ := F1.out)
              exact bodyPost_ret (v := .agg #[.int .i64 0, .int .i64 p.id, .int .i64 p.tw]) (by simp [results, Tryz.results51, go_sem, x1_0, x1_1, x1_2]) rfl ⟨HV.out, by repeat (first | exact FB.out | (refine Below.setCell ?_ (by simp <;> omega) _))⟩
            · have b5 : (p.st == 1) = false := by simpa using ks
              have HV : Hid (Ending.returned (.agg #[.int .i64 0, .int .i64 p.id, .int .i64 p.fr]) = .returned (.agg #[.int .i64 r.1, .int .i64 r.2.1, .int .i64 r.2.2])) := by
                have q := HR.out
                rw [HN.out, HE.out, if_neg ks] at q
                rw [← q]
                exact rfl
              clear ks
              obtain ⟨x1_0, x1_1, x1_2, y1_0, y1_1, y1_2⟩ := F1.out
              go_wp2_with (go_at_call 77; refine (l7Active_any p _).mono ?_; rintro e w3 ⟨rfl, hb⟩; have F0 : Hid (HAt w3 w.heap.size h) := F0.out.below hb F0.out.lt; have F1 : Hid (R3 w3 (w.heap.size + 1)) := F1.out.below hb F1.out.lt; have F3 : Hid (P7 w3 pb 0 p) := F3.out.below hb F3.out.lt; have FB : Hid (Below w.heap.size w w3) := FB.out.trans (hb.mono FB.out.size); clear hb; obtain ⟨z0, z1, z2, z3, z4, z5, z6⟩ := F3.out; obtain ⟨x1_0, x1_1, x1_2, y1_0, y1_1, y1_2⟩ := F1.out)
              exact bodyPost_ret (v := .agg #[.int .i64 0, .int .i64 p.id, .int .i64 p.fr]) (by simp [results, Tryz.results51, go_sem, x1_0, x1_1, x1_2]) rfl ⟨HV.out, by repeat (first | exact FB.out | (refine Below.setCell ?_ (by simp <;> omega) _))⟩
        · have HE : Hid (need false sh ca (l.drop i) = need false sh ca (l.drop (i + 1))) := by
            rw [need_at H0.out, if_pos (by simp [skipB, *])]
            exact rfl
          obtain ⟨z0, z1, z2, z3, z4, z5, z6⟩ := F3.out
          go_wp2_with (go_at_call 77; refine (l7Active_any p _).mono ?_; rintro e w3 ⟨rfl, hb⟩; have F0 : Hid (HAt w3 w.heap.size h) := F0.out.below hb F0.out.lt; have F1 : Hid (R3 w3 (w.heap.size + 1)) := F1.out.below hb F1.out.lt; have F3 : Hid (P7 w3 pb 0 p) := F3.out.below hb F3.out.lt; have FB : Hid (Below w.heap.size w w3) := FB.out.trans (hb.mono FB.out.size); clear hb; obtain ⟨z0, z1, z2, z3, z4, z5, z6⟩ := F3.out; obtain ⟨x1_0, x1_1, x1_2, y1_0, y1_1, y1_2⟩ := F1.out)
          go_roundw
          case rel => exact ⟨i + 1, by simp, by omega, HN.out.trans HE.out, F0.out, F1.out, FB.out⟩
          case measure => simp [intOf]; omega
      · have HE : Hid (need false sh ca (l.drop i) = need false sh ca (l.drop (i + 1))) := by
          rw [need_at H0.out, if_pos (by simp [skipB, *])]
          exact rfl
        obtain ⟨z0, z1, z2, z3, z4, z5, z6⟩ := F3.out
        go_wp2_with (go_at_call 77; refine (l7Active_any p _).mono ?_; rintro e w3 ⟨rfl, hb⟩; have F0 : Hid (HAt w3 w.heap.size h) := F0.out.below hb F0.out.lt; have F1 : Hid (R3 w3 (w.heap.size + 1)) := F1.out.below hb F1.out.lt; have F3 : Hid (P7 w3 pb 0 p) := F3.out.below hb F3.out.lt; have FB : Hid (Below w.heap.size w w3) := FB.out.trans (hb.mono FB.out.size); clear hb; obtain ⟨z0, z1, z2, z3, z4, z5, z6⟩ := F3.out; obtain ⟨x1_0, x1_1, x1_2, y1_0, y1_1, y1_2⟩ := F1.out)
        go_roundw
        case rel => exact ⟨i + 1, by simp, by omega, HN.out.trans HE.out, F0.out, F1.out, FB.out⟩
        case measure => simp [intOf]; omega
    · have ei : i = l.length := by omega
      subst ei
      have HV : Hid (Ending.returned (.agg #[.int .i64 4, .int .i64 0, .int .i64 0]) = .returned (.agg #[.int .i64 r.1, .int .i64 r.2.1, .int .i64 r.2.2])) := by
        have q := HR.out
        rw [HN.out, List.drop_length] at q
        rw [← q]
        exact rfl
      obtain ⟨x1_0, x1_1, x1_2, y1_0, y1_1, y1_2⟩ := F1.out
      go_wp2_with fail
      exact bodyPost_ret (v := .agg #[.int .i64 4, .int .i64 0, .int .i64 0]) (by simp [results, Tryz.results51, go_sem, x1_0, x1_1, x1_2]) rfl ⟨HV.out, by repeat (first | exact FB.out | (refine Below.setCell ?_ (by simp <;> omega) _))⟩
set_option maxRecDepth 20000 in
set_option maxHeartbeats 16000000 in
theorem l7Need_trueO (h : Hs) (lb lo : Nat) (nx : Int) (a : Option Addr) (cap : Nat) (l : List Pe) (sh ca : Int) (hl : l.length ≤ 1048576) (r : Int × Int × Int) (hfl : decide (h.ld ≤ (cnt 1 sh ca l : Int)) = true) (hr : needR (need true sh ca l) = r) (w : World) (hL : LAo w lb lo nx a l.length cap) (hP : PIn w w.heap.size a l) :
    Calls Tryz.prog 51 #[.agg #[.int .i64 h.fl, .int .i64 h.gp, .int .i64 h.ln, .int .i64 h.rf, .int .i64 h.sp, .int .i64 h.pu, .int .i64 h.br, .int .i64 h.dr, .int .i64 h.lv, .int .i64 h.dO, .int .i64 h.ld, .int .i64 h.qu], .pointer (some ⟨lb, lo, none⟩), .int .i64 sh, .int .i64 ca] w fun e w' => e = .returned (.agg #[.int .i64 r.1, .int .i64 r.2.1, .int .i64 r.2.2]) ∧ Below w.heap.size w w' := by
  have HR : Hid (needR (need true sh ca l) = r) := hr
  have HP : Hid (PIn w w.heap.size a l) := hP
  have F0 : Hid (HAt ((w.alloc (.cells #[.int .i64 h.fl, .int .i64 h.gp, .int .i64 h.ln, .int .i64 h.rf, .int .i64 h.sp, .int .i64 h.pu, .int .i64 h.br, .int .i64 h.dr, .int .i64 h.lv, .int .i64 h.dO, .int .i64 h.ld, .int .i64 h.qu] 34)).alloc (.cells #[.int .i64 0, .int .i64 0, .int .i64 0] 56)) w.heap.size h) := (HAt.new w h _).below ((Below.refl _ _).alloc (Nat.le_refl _) _) (by simp)
  have F1 : Hid (R3 ((w.alloc (.cells #[.int .i64 h.fl, .int .i64 h.gp, .int .i64 h.ln, .int .i64 h.rf, .int .i64 h.sp, .int .i64 h.pu, .int .i64 h.br, .int .i64 h.dr, .int .i64 h.lv, .int .i64 h.dO, .int .i64 h.ld, .int .i64 h.qu] 34)).alloc (.cells #[.int .i64 0, .int .i64 0, .int .i64 0] 56)) (w.heap.size + 1)) := R3.at_ _ _ _ (by simp)
  have FB : Hid (Below w.heap.size w ((w.alloc (.cells #[.int .i64 h.fl, .int .i64 h.gp, .int .i64 h.ln, .int .i64 h.rf, .int .i64 h.sp, .int .i64 h.pu, .int .i64 h.br, .int .i64 h.dr, .int .i64 h.lv, .int .i64 h.dO, .int .i64 h.ld, .int .i64 h.qu] 34)).alloc (.cells #[.int .i64 0, .int .i64 0, .int .i64 0] 56))) := ((Below.refl _ _).alloc (Nat.le_refl _) _).alloc (by simp) _
  have F2 : Hid (LAo ((w.alloc (.cells #[.int .i64 h.fl, .int .i64 h.gp, .int .i64 h.ln, .int .i64 h.rf, .int .i64 h.sp, .int .i64 h.pu, .int .i64 h.br, .int .i64 h.dr, .int .i64 h.lv, .int .i64 h.dO, .int .i64 h.ld, .int .i64 h.qu] 34)).alloc (.cells #[.int .i64 0, .int .i64 0, .int .i64 0] 56)) lb lo nx a l.length cap) := hL.below FB.out hL.lt
  have hlb := hL.lt
  have HL : Hid (LAo w lb lo nx a l.length cap) := hL
  obtain ⟨W0, hW0⟩ : ∃ W0, W0 = ((w.alloc (.cells #[.int .i64 h.fl, .int .i64 h.gp, .int .i64 h.ln, .int .i64 h.rf, .int .i64 h.sp, .int .i64 h.pu, .int .i64 h.br, .int .i64 h.dr, .int .i64 h.lv, .int .i64 h.dO, .int .i64 h.ld, .int .i64 h.qu] 34)).alloc (.cells #[.int .i64 0, .int .i64 0, .int .i64 0] 56)) := ⟨_, rfl⟩
  rw [← hW0] at F0 F1 F2 FB
  have HW0 : Hid (W0 = ((w.alloc (.cells #[.int .i64 h.fl, .int .i64 h.gp, .int .i64 h.ln, .int .i64 h.rf, .int .i64 h.sp, .int .i64 h.pu, .int .i64 h.br, .int .i64 h.dr, .int .i64 h.lv, .int .i64 h.dO, .int .i64 h.ld, .int .i64 h.qu] 34)).alloc (.cells #[.int .i64 0, .int .i64 0, .int .i64 0] 56))) := hW0
  clear hW0 hr hL hP
  go_enter Tryz.func51, Tryz.ntmps51
  go_upto_region 1 with fail
  rw [← HW0.out]
  clear HW0
  have F0 : Hid (HAt W0.drew w.heap.size h) := F0.out.below (Below.refl _ _).drew F0.out.lt
  have F1 : Hid (R3 W0.drew (w.heap.size + 1)) := F1.out.below (Below.refl _ _).drew F1.out.lt
  have F2 : Hid (LAo W0.drew lb lo nx a l.length cap) := F2.out.below (Below.refl _ _).drew F2.out.lt
  have FB : Hid (Below w.heap.size w W0.drew) := FB.out.drew
  obtain ⟨x0_0, x0_1, x0_2, x0_3, x0_4, x0_5, x0_6, x0_7, x0_8, x0_9, x0_10, x0_11⟩ := F0.out
  refine wp_region_held_drew (S := (fun w'' => w''.cell? ⟨w.heap.size, 0, none⟩ = some (.int .i64 h.fl) ∧ w''.cell? ⟨w.heap.size, 1, none⟩ = some (.int .i64 h.gp) ∧ w''.cell? ⟨w.heap.size, 2, none⟩ = some (.int .i64 h.ln) ∧ w''.cell? ⟨w.heap.size, 3, none⟩ = some (.int .i64 h.rf) ∧ w''.cell? ⟨w.heap.size, 4, none⟩ = some (.int .i64 h.sp) ∧ w''.cell? ⟨w.heap.size, 5, none⟩ = some (.int .i64 h.pu) ∧ w''.cell? ⟨w.heap.size, 6, none⟩ = some (.int .i64 h.br) ∧ w''.cell? ⟨w.heap.size, 7, none⟩ = some (.int .i64 h.dr) ∧ w''.cell? ⟨w.heap.size, 8, none⟩ = some (.int .i64 h.lv) ∧ w''.cell? ⟨w.heap.size, 9, none⟩ = some (.int .i64 h.dO) ∧ w''.cell? ⟨w.heap.size, 10, none⟩ = some (.int .i64 h.ld) ∧ w''.cell? ⟨w.heap.size, 11, none⟩ = some (.int .i64 h.qu))) (by kernel_rfl) (by (try dsimp only); first | exact ⟨x0_0, x0_1, x0_2, x0_3, x0_4, x0_5, x0_6, x0_7, x0_8, x0_9, x0_10, x0_11⟩ | go_keep) (fun hHeld => ?_)
  obtain ⟨v_3, hw1⟩ : ∃ v_3, v_3 = W0.drew := ⟨_, rfl⟩
  have F0 : Hid (HAt v_3 w.heap.size h) := by rw [hw1]; exact F0.out
  have F1 : Hid (R3 v_3 (w.heap.size + 1)) := by rw [hw1]; exact F1.out
  have F2 : Hid (LAo v_3 lb lo nx a l.length cap) := by rw [hw1]; exact F2.out
  have FB : Hid (Below w.heap.size w v_3) := by rw [hw1]; exact FB.out
  rw [← hw1] at hHeld ⊢
  clear hw1
  obtain ⟨x0_0, x0_1, x0_2, x0_3, x0_4, x0_5, x0_6, x0_7, x0_8, x0_9, x0_10, x0_11⟩ := F0.out
  refine tkz 0 rfl ?_
  refine tkz 1 rfl ?_
  refine tkz 2 rfl ?_
  refine tkz 4 rfl ?_
  refine tkz 5 rfl ?_
  refine wpAnyH_ready (rs := [3]) (by kernel_rfl) (by simp) ?_
  refine (AllReadyH.cons rfl (fun K hK => ?_) AllReadyH.nil)
  go_simp
  refine (l7Count_anyO lb lo nx a cap l 1 sh ca hl _ F2.out ((HP.out.below FB.out (Nat.le_refl _)).mono FB.out.size)).mono ?_
  rintro e v_4 ⟨rfl, hb⟩
  have F0 : Hid (HAt v_4 w.heap.size h) := F0.out.below hb F0.out.lt
  have F1 : Hid (R3 v_4 (w.heap.size + 1)) := F1.out.below hb F1.out.lt
  have F2 : Hid (LAo v_4 lb lo nx a l.length cap) := F2.out.below hb F2.out.lt
  have FB : Hid (Below w.heap.size w v_4) := FB.out.trans (hb.mono FB.out.size)
  clear hb
  obtain ⟨x0_0, x0_1, x0_2, x0_3, x0_4, x0_5, x0_6, x0_7, x0_8, x0_9, x0_10, x0_11⟩ := F0.out
  try dsimp only
  refine hK.out _ _ (by (try dsimp only); first | exact ⟨x0_0, x0_1, x0_2, x0_3, x0_4, x0_5, x0_6, x0_7, x0_8, x0_9, x0_10, x0_11⟩ | go_keep) (fun hHeld => ?_)
  clear hK K
  try simp only [Act.put, List.getElem_toArray, List.getElem_cons_succ, List.getElem_cons_zero, List.setIfInBounds_toArray, List.set_cons_zero, List.set_cons_succ]
  refine tkz 6 rfl ?_
  refine tkz 7 rfl ?_
  refine wpAnyH_done (by kernel_rfl) ?_ _
  go_wp2_with fail
  obtain ⟨W1, hW_⟩ : ∃ W1, W1 = v_4 := ⟨_, rfl⟩
  have F0 : Hid (HAt W1 w.heap.size h) := by rw [hW_]; exact F0.out
  have F1 : Hid (R3 W1 (w.heap.size + 1)) := by rw [hW_]; exact F1.out
  have F2 : Hid (LAo W1 lb lo nx a l.length cap) := by rw [hW_]; exact F2.out
  have FB : Hid (Below w.heap.size w W1) := by rw [hW_]; exact FB.out
  rw [← hW_]
  clear hW_
  clear hfl
  go_loopw [10] (fun ii wr => ∃ i : Nat, ii = .int .i64 i ∧ i ≤ l.length ∧ need true sh ca l = need true sh ca (l.drop i) ∧ HAt wr w.heap.size h ∧ R3 wr (w.heap.size + 1) ∧ Below w.heap.size w wr) (fun ii _ => l.length - (intOf ii).toNat)
  case atStart => exact ⟨0, rfl, by omega, by simp, F0.out, F1.out, FB.out⟩
  case round =>
    obtain ⟨i, rfl, hi, hn, h0, h1, h2⟩ := hrel
    have HN : Hid (need true sh ca l = need true sh ca (l.drop i)) := hn
    have F2 : Hid (LAo wr lb lo nx a l.length cap) := HL.out.below h2 hlb
    have F0 : Hid (HAt wr w.heap.size h) := h0
    have F1 : Hid (R3 wr (w.heap.size + 1)) := h1
    have FB : Hid (Below w.heap.size w wr) := h2
    obtain ⟨g0, g1⟩ := F2.out
    clear h0 h1 h2 hn
    by_cases hlt : i < l.length
    · obtain ⟨p, hp⟩ : ∃ p, l[i]? = some p := ⟨_, List.getElem?_eq_getElem hlt⟩
      have H0 : Hid (l[i]? = some p) := hp
      rcases HP.out with hz | ⟨b, o, ha, hbl, h7⟩
      · rw [hz] at hlt; simp at hlt
      rw [ha] at g1
      obtain ⟨c0, c1, c2, c3, c4, c5, c6⟩ := (h7 i p hp).below FB.out hbl
      clear hp h7 ha
      go_upto_region 6 with fail
      obtain ⟨pb, hpb⟩ : ∃ pb, pb = wr.heap.size := ⟨_, rfl⟩
      obtain ⟨W2, hW2⟩ : ∃ W2, W2 = wr.alloc (.cells #[.int .i64 p.id, .int .i64 p.fr, .int .i64 p.tw, .int .i64 p.sh, .int .i64 p.ca, .int .i64 p.st, .int .i64 p.pl] 81) := ⟨_, rfl⟩
      have F0 : Hid (HAt W2 w.heap.size h) := by rw [hW2]; exact F0.out.below ((Below.refl _ _).alloc (Nat.le_refl _) _) F0.out.lt
      have F1 : Hid (R3 W2 (w.heap.size + 1)) := by rw [hW2]; exact F1.out.below ((Below.refl _ _).alloc (Nat.le_refl _) _) F1.out.lt
      have F3 : Hid (P7 W2 pb 0 p) := by rw [hW2]; exact P7.at_ wr p _ pb hpb
      have FB : Hid (Below w.heap.size w W2) := by rw [hW2]; exact FB.out.alloc FB.out.size _
      rw [← hW2, ← hpb]
      clear hW2 hpb g0 g1 c0 c1 c2 c3 c4 c5 c6
      cases k0 : (p.sh != sh)
      · cases k1 : (p.ca != ca)
        · cases k2 : act p
          · have HE : Hid (need true sh ca (l.drop i) = need true sh ca (l.drop (i + 1))) := by
              rw [need_at H0.out, if_pos (by simp [skipB, *])]
              exact rfl
            obtain ⟨z0, z1, z2, z3, z4, z5, z6⟩ := F3.out
            go_wp2_with (go_at_call 77; refine (l7Active_any p _).mono ?_; rintro e w3 ⟨rfl, hb⟩; have F0 : Hid (HAt w3 w.heap.size h) := F0.out.below hb F0.out.lt; have F1 : Hid (R3 w3 (w.heap.size + 1)) := F1.out.below hb F1.out.lt; have F3 : Hid (P7 w3 pb 0 p) := F3.out.below hb F3.out.lt; have FB : Hid (Below w.heap.size w w3) := FB.out.trans (hb.mono FB.out.size); clear hb; obtain ⟨z0, z1, z2, z3, z4, z5, z6⟩ := F3.out; obtain ⟨x1_0, x1_1, x1_2, y1_0, y1_1, y1_2⟩ := F1.out)
            go_roundw
            case rel => exact ⟨i + 1, by simp, by omega, HN.out.trans HE.out, F0.out, F1.out, FB.out⟩
            case measure => simp [intOf]; omega
          · cases k4 : (p.st != 1)
            · have HE : Hid (need true sh ca (l.drop i) = some (p.id, if p.st = 1 then p.tw else p.fr)) := by
                rw [need_at H0.out, if_neg (by simp [skipB, *])]
                exact rfl
              obtain ⟨z0, z1, z2, z3, z4, z5, z6⟩ := F3.out
              by_cases ks : p.st = 1
              · have b5 : (p.st == 1) = true := by simpa using ks
                have HV : Hid (Ending.returned (.agg #[.int .i64 0, .int .i64 p.id, .int .i64 p.tw]) = .returned (.agg #[.int .i64 r.1, .int .i64 r.2.1, .int .i64 r.2.2])) := by
                  have q := HR.out
                  rw [HN.out, HE.out, if_pos ks] at q
                  rw [← q]
                  exact rfl
                clear ks
                obtain ⟨x1_0, x1_1, x1_2, y1_0, y1_1, y1_2⟩ := F1.out
                go_wp2_with (go_at_call 77; refine (l7Active_any p _).mono ?_; rintro e w3 ⟨rfl, hb⟩; have F0 : Hid (HAt w3 w.heap.size h) := F0.out.below hb F0.out.lt; have F1 : Hid (R3 w3 (w.heap.size + 1)) := F1.out.below hb F1.out.lt; have F3 : Hid (P7 w3 pb 0 p) := F3.out.below hb F3.out.lt; have FB : Hid (Below w.heap.size w w3) := FB.out.trans (hb.mono FB.out.size); clear hb; obtain ⟨z0, z1, z2, z3, z4, z5, z6⟩ := F3.out; obtain ⟨x1_0, x1_1, x1_2, y1_0, y1_1, y1_2⟩ := F1.out)
                exact bodyPost_ret (v := .agg #[.int .i64 0, .int .i64 p.id, .int .i64 p.tw]) (by simp [results, Tryz.results51, go_sem, x1_0, x1_1, x1_2]) rfl ⟨HV.out, by repeat (first | exact FB.out | (refine Below.setCell ?_ (by simp <;> omega) _))⟩
              · have b5 : (p.st == 1) = false := by simpa using ks
                have HV : Hid (Ending.returned (.agg #[.int .i64 0, .int .i64 p.id, .int .i64 p.fr]) = .returned (.agg #[.int .i64 r.1, .int .i64 r.2.1, .int .i64 r.2.2])) := by
                  have q := HR.out
                  rw [HN.out, HE.out, if_neg ks] at q
                  rw [← q]
                  exact rfl
                clear ks
                obtain ⟨x1_0, x1_1, x1_2, y1_0, y1_1, y1_2⟩ := F1.out
                go_wp2_with (go_at_call 77; refine (l7Active_any p _).mono ?_; rintro e w3 ⟨rfl, hb⟩; have F0 : Hid (HAt w3 w.heap.size h) := F0.out.below hb F0.out.lt; have F1 : Hid (R3 w3 (w.heap.size + 1)) := F1.out.below hb F1.out.lt; have F3 : Hid (P7 w3 pb 0 p) := F3.out.below hb F3.out.lt; have FB : Hid (Below w.heap.size w w3) := FB.out.trans (hb.mono FB.out.size); clear hb; obtain ⟨z0, z1, z2, z3, z4, z5, z6⟩ := F3.out; obtain ⟨x1_0, x1_1, x1_2, y1_0, y1_1, y1_2⟩ := F1.out)
                exact bodyPost_ret (v := .agg #[.int .i64 0, .int .i64 p.id, .int .i64 p.fr]) (by simp [results, Tryz.results51, go_sem, x1_0, x1_1, x1_2]) rfl ⟨HV.out, by repeat (first | exact FB.out | (refine Below.setCell ?_ (by simp <;> omega) _))⟩
            · have HE : Hid (need true sh ca (l.drop i) = need true sh ca (l.drop (i + 1))) := by
                rw [need_at H0.out, if_pos (by simp [skipB, *])]
                exact rfl
              obtain ⟨z0, z1, z2, z3, z4, z5, z6⟩ := F3.out
              go_wp2_with (go_at_call 77; refine (l7Active_any p _).mono ?_; rintro e w3 ⟨rfl, hb⟩; have F0 : Hid (HAt w3 w.heap.size h) := F0.out.below hb F0.out.lt; have F1 : Hid (R3 w3 (w.heap.size + 1)) := F1.out.below hb F1.out.lt; have F3 : Hid (P7 w3 pb 0 p) := F3.out.below hb F3.out.lt; have FB : Hid (Below w.heap.size w w3) := FB.out.trans (hb.mono FB.out.size); clear hb; obtain ⟨z0, z1, z2, z3, z4, z5, z6⟩ := F3.out; obtain ⟨x1_0, x1_1, x1_2, y1_0, y1_1, y1_2⟩ := F1.out)
              go_roundw
              case rel => exact ⟨i + 1, by simp, by omega, HN.out.trans HE.out, F0.out, F1.out, FB.out⟩
              case measure => simp [intOf]; omega
        · have HE : Hid (need true sh ca (l.drop i) = need true sh ca (l.drop (i + 1))) := by
            rw [need_at H0.out, if_pos (by simp [skipB, *])]
            exact rfl
          obtain ⟨z0, z1, z2, z3, z4, z5, z6⟩ := F3.out
          go_wp2_with (go_at_call 77; refine (l7Active_any p _).mono ?_; rintro e w3 ⟨rfl, hb⟩; have F0 : Hid (HAt w3 w.heap.size h) := F0.out.below hb F0.out.lt; have F1 : Hid (R3 w3 (w.heap.size + 1)) := F1.out.below hb F1.out.lt; have F3 : Hid (P7 w3 pb 0 p) := F3.out.below hb F3.out.lt; have FB : Hid (Below w.heap.size w w3) := FB.out.trans (hb.mono FB.out.size); clear hb; obtain ⟨z0, z1, z2, z3, z4, z5, z6⟩ := F3.out; obtain ⟨x1_0, x1_1, x1_2, y1_0, y1_1, y1_2⟩ := F1.out)
          go_roundw
          case rel => exact ⟨i + 1, by simp, by omega, HN.out.trans HE.out, F0.out, F1.out, FB.out⟩
          case measure => simp [intOf]; omega
      · have HE : Hid (need true sh ca (l.drop i) = need true sh ca (l.drop (i + 1))) := by
          rw [need_at H0.out, if_pos (by simp [skipB, *])]
          exact rfl
        obtain ⟨z0, z1, z2, z3, z4, z5, z6⟩ := F3.out
        go_wp2_with (go_at_call 77; refine (l7Active_any p _).mono ?_; rintro e w3 ⟨rfl, hb⟩; have F0 : Hid (HAt w3 w.heap.size h) := F0.out.below hb F0.out.lt; have F1 : Hid (R3 w3 (w.heap.size + 1)) := F1.out.below hb F1.out.lt; have F3 : Hid (P7 w3 pb 0 p) := F3.out.below hb F3.out.lt; have FB : Hid (Below w.heap.size w w3) := FB.out.trans (hb.mono FB.out.size); clear hb; obtain ⟨z0, z1, z2, z3, z4, z5, z6⟩ := F3.out; obtain ⟨x1_0, x1_1, x1_2, y1_0, y1_1, y1_2⟩ := F1.out)
        go_roundw
        case rel => exact ⟨i + 1, by simp, by omega, HN.out.trans HE.out, F0.out, F1.out, FB.out⟩
        case measure => simp [intOf]; omega
    · have ei : i = l.length := by omega
      subst ei
      have HV : Hid (Ending.returned (.agg #[.int .i64 4, .int .i64 0, .int .i64 0]) = .returned (.agg #[.int .i64 r.1, .int .i64 r.2.1, .int .i64 r.2.2])) := by
        have q := HR.out
        rw [HN.out, List.drop_length] at q
        rw [← q]
        exact rfl
      obtain ⟨x1_0, x1_1, x1_2, y1_0, y1_1, y1_2⟩ := F1.out
      go_wp2_with fail
      exact bodyPost_ret (v := .agg #[.int .i64 4, .int .i64 0, .int .i64 0]) (by simp [results, Tryz.results51, go_sem, x1_0, x1_1, x1_2]) rfl ⟨HV.out, by repeat (first | exact FB.out | (refine Below.setCell ?_ (by simp <;> omega) _))⟩
theorem l7Need_anyO (h : Hs) (lb lo : Nat) (nx : Int) (a : Option Addr) (cap : Nat) (l : List Pe) (sh ca : Int) (hl : l.length ≤ 1048576) (r : Int × Int × Int) (hr : Hs.need h l sh ca = r) (w : World) (hL : LAo w lb lo nx a l.length cap) (hP : PIn w w.heap.size a l) :
    Calls Tryz.prog 51 #[.agg #[.int .i64 h.fl, .int .i64 h.gp, .int .i64 h.ln, .int .i64 h.rf, .int .i64 h.sp, .int .i64 h.pu, .int .i64 h.br, .int .i64 h.dr, .int .i64 h.lv, .int .i64 h.dO, .int .i64 h.ld, .int .i64 h.qu], .pointer (some ⟨lb, lo, none⟩), .int .i64 sh, .int .i64 ca] w fun e w' => e = .returned (.agg #[.int .i64 r.1, .int .i64 r.2.1, .int .i64 r.2.2]) ∧ Below w.heap.size w w' := by
  unfold Hs.need at hr
  cases k : decide (h.ld ≤ (cnt 1 sh ca l : Int)) with
  | false => rw [k] at hr; exact l7Need_falseO h lb lo nx a cap l sh ca hl r k hr w hL hP
  | true => rw [k] at hr; exact l7Need_trueO h lb lo nx a cap l sh ca hl r k hr w hL hP
end Go.Proofs.YtfmpfcpefflmjaaGreat
