/-
  The model: what happened between two ledgers, one by one.
-/
import Derived.Test.YtiejogkhobiddaaEvH
namespace Go.Proofs.Ytiejogkhobiddaa
open Go.RowKit Pl
set_option linter.unusedSimpArgs false
set_option linter.unusedVariables false

set_option maxRecDepth 20000 in
set_option maxHeartbeats 32000000 in
theorem l10Diff_any (tk : Int) (lb0 : Nat) (nx0 : Int) (a0 : Option Addr) (cap0 : Nat) (old : List Pe) (lb1 : Nat) (nx1 : Int) (a1 : Option Addr) (cap1 : Nat) (now : List Pe) (hl0 : old.length ≤ 1048576) (hl1 : now.length ≤ 60) (hst : ∀ q ∈ old, 0 ≤ q.st) (w : World)
    (hA0 : LAt w lb0 nx0 a0 old.length cap0) (hA1 : LAt w lb1 nx1 a1 now.length cap1) (hP0 : PIn w w.heap.size a0 old) (hP1 : PIn w w.heap.size a1 now) :
    Calls Try.prog 17 #[.int .i64 tk, .pointer (some ⟨lb0, 0, none⟩), .pointer (some ⟨lb1, 0, none⟩)] w (isOp w (diffL tk old now)) := by
  have HP0 : Hid (PIn w w.heap.size a0 old) := hP0
  have HP1 : Hid (PIn w w.heap.size a1 now) := hP1
  have HA0 : Hid (LAt w lb0 nx0 a0 old.length cap0) := hA0
  have HA1 : Hid (LAt w lb1 nx1 a1 now.length cap1) := hA1
  have HST : Hid (∀ q ∈ old, 0 ≤ q.st) := hst
  have lt0 := hA0.lt
  have lt1 := hA1.lt
  clear hP0 hP1 hA0 hA1 hst
  unfold isOp
  obtain ⟨oo, hoo⟩ : ∃ oo, diffL tk old now = oo := ⟨_, rfl⟩
  rw [hoo]
  have HOO : Hid (diffL tk old now = oo) := hoo
  clear hoo
  go_enter Try.func17, Try.ntmps17
  go_wp2_with fail
  go_loopw [8, 9] (fun vq ii wr => ∃ (vv : Value) (i : Nat) (l : List Ev), vq = vv ∧ ii = .int .i64 i ∧ i ≤ now.length ∧ diffL tk old (now.take i) = some l ∧ l.length ≤ 3 * i ∧ OwnE wr w.heap.size vv l ∧ Below w.heap.size w wr) (fun _ ii _ => now.length - (intOf ii).toNat)
  case atStart => exact ⟨_, 0, [], rfl, rfl, by omega, diff_nil _ _ _, by simp, ownE_empty _ _ (Nat.le_refl _), (Below.refl _ _).alloc (Nat.le_refl _) _⟩
  case round =>
    obtain ⟨vv, i, l, hvq, rfl, hi, hl, hlen, hO, hFB⟩ := hrel
    have hvq2 := hvq.symm
    subst hvq2
    have HL : Hid (diffL tk old (now.take i) = some l) := hl
    have HLEN : Hid (l.length ≤ 3 * i) := hlen
    have FO : Hid (OwnE wr w.heap.size vv l) := hO
    have FB : Hid (Below w.heap.size w wr) := hFB
    clear hl hlen hO hFB
    have u1 := (HA1.out.below FB.out lt1).c1
    by_cases hlt : i < now.length
    · obtain ⟨p, hp⟩ : ∃ p, now[i]? = some p := ⟨_, List.getElem?_eq_getElem hlt⟩
      have HG : Hid (now[i]? = some p) := hp
      rcases HP1.out with h0 | ⟨b, o, rfl, hbl, h7⟩
      · rw [h0] at hlt; simp at hlt
      obtain ⟨z0, z1, z2, z3, z4, z5, z6⟩ := (h7 i p hp).below FB.out hbl
      clear hp h7
      go_upto_region 6 with (refine store_new [.int .i64 p.id, .int .i64 p.fr, .int .i64 p.tw, .int .i64 p.sh, .int .i64 p.ca, .int .i64 p.st, .int .i64 p.pl] 60 _ _ (by kernel_rfl) (by kernel_rfl) (by kernel_rfl) rfl rfl rfl rfl ?_)
      clear z0 z1 z2 z3 z4 z5 z6 u1
      have lcw := FB.out.size
      obtain ⟨c, hb_⟩ : ∃ c, c = wr.heap.size := ⟨_, rfl⟩
      obtain ⟨W1, hw_⟩ : ∃ W1, W1 = wr.alloc (.cells #[.int .i64 p.id, .int .i64 p.fr, .int .i64 p.tw, .int .i64 p.sh, .int .i64 p.ca, .int .i64 p.st, .int .i64 p.pl] 60) := ⟨_, rfl⟩
      have ln_c_FO := FO.out.lt
      rw [← hb_] at lcw ln_c_FO
      have FO : Hid (OwnE W1 w.heap.size vv l) := by rw [hw_]; exact FO.out.alloc _
      have FB : Hid (Below w.heap.size w W1) := by rw [hw_]; exact FB.out.alloc FB.out.size _
      have FX : Hid (Blk W1 c [.int .i64 p.id, .int .i64 p.fr, .int .i64 p.tw, .int .i64 p.sh, .int .i64 p.ca, .int .i64 p.st, .int .i64 p.pl]) := by rw [hw_]; exact Blk.at_ _ _ _ _ hb_
      rw [← hw_, ← hb_]
      clear hw_ hb_
      have y0 := FX.out.c 0 _ rfl
      go_upto_region 8 with (go_at_call 31; refine (l10Find_any lb0 nx0 a0 cap0 old p.id hl0 _ (HA0.out.below FB.out lt0) ((HP0.out.below FB.out (Nat.le_refl _)).mono FB.out.size)).mono ?_; rintro e w' ⟨⟨k, rfl, hk⟩, hw⟩; obtain rfl := hw.symm; clear hw)
      clear y0
      rcases hk with ⟨rfl, hf⟩ | ⟨j, q, rfl, hj, hf⟩
      · obtain ⟨ev, hev⟩ : ∃ ev, (⟨tk, 1, p.id, p.fr, p.tw⟩ : Ev) = ev := ⟨_, rfl⟩
        have HONE : Hid (oneP tk old p = (stepsP tk 0 p).map (fun l => [ev] ++ l)) := by
          show oneP tk old p = _
          rw [show oneP tk old p = (stepsP tk 0 p).map (fun l => evOf tk 1 p :: l) by unfold oneP; rw [hf], ← hev]
          cases stepsP tk 0 p <;> rfl
        have y0 := FX.out.c 0 _ rfl
        have y1 := FX.out.c 1 _ rfl
        have y2 := FX.out.c 2 _ rfl
        have hl3 := HLEN.out
        go_upto_region 14 with (first | (refine wpList_append_ev _ _ w.heap.size _ _ l [ev] (FO.out.alloc _) (by rw [← hev]; exact vin_new _ (⟨tk, 1, p.id, p.fr, p.tw⟩ : Ev)) (by simp; omega) (by have := FB.out.size; simp; omega) rfl rfl rfl rfl ?_; intro v1 w6 ho hg))
        have FB : Hid (Below w.heap.size w w6) := belE (FB.out.alloc FB.out.size _) (FO.out.alloc _) hg
        have FX : Hid (Blk w6 c [.int .i64 p.id, .int .i64 p.fr, .int .i64 p.tw, .int .i64 p.sh, .int .i64 p.ca, .int .i64 p.st, .int .i64 p.pl]) := (FX.out.alloc _).grown hg (fun z => by have := (ln_c_FO _ z.symm).2; omega)
        have FO : Hid (OwnE w6 w.heap.size v1 (l ++ [ev])) := ho
        clear ho hg y0 y1 y2
        cases ho2 : stepsP tk 0 p with
        | none =>
          have HV : Hid (oo = none) := by show oo = none; rw [← HOO.out]; exact diff_stop HG.out (by rw [HONE.out, ho2]; rfl)
          clear HONE HL HOO HG
          go_wp2_with (first | (refine load_blk 60 _ Try.underlying60 (by kernel_rfl) FX.out rfl rfl rfl ?_) | (go_at_call 32; refine (l10One_any tk 0 p (by omega) _).mono ?_; unfold isOp; rw [ho2]; rintro e w8 ⟨⟨v2, rfl, hv2⟩, hb⟩; have FO : Hid (OwnE w8 w.heap.size v1 (l ++ [ev])) := FO.out.below hb (fun k hk => (FO.out.lt k hk).2); have FB : Hid (Below w.heap.size w w8) := FB.out.trans (hb.mono FB.out.size); have hsz8 := hb.size; clear hb))
          go_ret2
          exact ⟨⟨_, by rw [HV.out]; rfl, fun l hl => by rw [HV.out] at hl; cases hl⟩, FB.out⟩
        | some l2 =>
          have H1 : Hid (oneP tk old p = some ([ev] ++ l2)) := by show oneP tk old p = _; rw [HONE.out, ho2]; rfl
          have hl2 := one_len H1.out
          have hl3 := HLEN.out
          simp only [List.length_append, List.length_cons, List.length_nil] at hl2
          have HL : Hid (diffL tk old (now.take (i + 1)) = some ((l ++ [ev]) ++ l2)) := (diff_go HG.out HL.out H1.out).trans (by simp)
          clear HONE HG H1
          go_upto_region 4 with (first | (refine load_blk 60 _ Try.underlying60 (by kernel_rfl) FX.out rfl rfl rfl ?_) | (go_at_call 32; refine (l10One_any tk 0 p (by omega) _).mono ?_; unfold isOp; rw [ho2]; rintro e w8 ⟨⟨v2, rfl, hv2⟩, hb⟩; have FO : Hid (OwnE w8 w.heap.size v1 (l ++ [ev])) := FO.out.below hb (fun k hk => (FO.out.lt k hk).2); have FB : Hid (Below w.heap.size w w8) := FB.out.trans (hb.mono FB.out.size); have hsz8 := hb.size; clear hb) | (refine wpList_append_ev _ _ w.heap.size _ _ (l ++ [ev]) l2 FO.out (hv2 l2 rfl).vin (by (try simp only [List.length_append, List.length_cons, List.length_nil]); omega) (by have := FB.out.size; omega) rfl rfl rfl rfl ?_; intro v3 w9 ho hg))
          have FB : Hid (Below w.heap.size w w9) := belE FB.out FO.out hg
          have FO : Hid (OwnE w9 w.heap.size v3 ((l ++ [ev]) ++ l2)) := ho
          clear ho hg
          go_wp2_with fail
          go_roundw
          case rel => exact ⟨v3, i + 1, (l ++ [ev]) ++ l2, rfl, by simp, by omega, HL.out, by simp; omega, FO.out, FB.out⟩
          case measure => simp [intOf]; omega
      · have hq0 : 0 ≤ q.st := HST.out q (List.mem_of_getElem? hj)
        have hjl : j < old.length := (List.getElem?_eq_some_iff.1 hj).1
        have gj : decide ((0 : Int) ≤ (j : Int)) = true := decide_eq_true (by omega)
        have u0 := (HA0.out.below FB.out lt0).c1
        rcases HP0.out with h0 | ⟨b', o', rfl, hbl', h7⟩
        · rw [h0] at hjl; simp at hjl
        obtain ⟨z0, z1, z2, z3, z4, z5, z6⟩ := (h7 j q hj).below FB.out hbl'
        clear h7 hj
        go_upto_region 10 with (refine store_new [.int .i64 q.id, .int .i64 q.fr, .int .i64 q.tw, .int .i64 q.sh, .int .i64 q.ca, .int .i64 q.st, .int .i64 q.pl] 60 _ _ (by kernel_rfl) (by kernel_rfl) (by kernel_rfl) rfl rfl rfl rfl ?_)
        clear z0 z1 z2 z3 z4 z5 z6 u0 gj
        obtain ⟨d, hb_⟩ : ∃ d, d = W1.heap.size := ⟨_, rfl⟩
        obtain ⟨W2, hw_⟩ : ∃ W2, W2 = W1.alloc (.cells #[.int .i64 q.id, .int .i64 q.fr, .int .i64 q.tw, .int .i64 q.sh, .int .i64 q.ca, .int .i64 q.st, .int .i64 q.pl] 60) := ⟨_, rfl⟩
        have ln_d_FO := FO.out.lt
        have ln_d_FX := FX.out.lt
        rw [← hb_] at ln_d_FO ln_d_FX
        have FO : Hid (OwnE W2 w.heap.size vv l) := by rw [hw_]; exact FO.out.alloc _
        have FB : Hid (Below w.heap.size w W2) := by rw [hw_]; exact FB.out.alloc FB.out.size _
        have FX : Hid (Blk W2 c [.int .i64 p.id, .int .i64 p.fr, .int .i64 p.tw, .int .i64 p.sh, .int .i64 p.ca, .int .i64 p.st, .int .i64 p.pl]) := by rw [hw_]; exact FX.out.alloc _
        have FY : Hid (Blk W2 d [.int .i64 q.id, .int .i64 q.fr, .int .i64 q.tw, .int .i64 q.sh, .int .i64 q.ca, .int .i64 q.st, .int .i64 q.pl]) := by rw [hw_]; exact Blk.at_ _ _ _ _ hb_
        rw [← hw_, ← hb_]
        clear hw_ hb_
        have x1 := FY.out.c 1 _ rfl
        have x2 := FY.out.c 2 _ rfl
        have x5 := FY.out.c 5 _ rfl
        have y1 := FX.out.c 1 _ rfl
        have y2 := FX.out.c 2 _ rfl
        have HF : Hid (oneP tk old p = stK tk q p) := by show oneP tk old p = _; unfold oneP; rw [hf]
        by_cases e1 : q.fr = p.fr
        case neg =>
          have HV : Hid (oo = none) := by show oo = none; rw [← HOO.out]; exact diff_stop HG.out (by rw [HF.out]; exact if_neg (fun z => e1 z.1))
          have n1 : (q.fr != p.fr) = true := by simpa using e1
          clear HL HOO HG HF e1
          go_wp2_with fail
          go_ret2
          exact ⟨⟨_, by rw [HV.out]; rfl, fun l hl => by rw [HV.out] at hl; cases hl⟩, FB.out⟩
        by_cases e2 : q.tw = p.tw
        case neg =>
          have HV : Hid (oo = none) := by show oo = none; rw [← HOO.out]; exact diff_stop HG.out (by rw [HF.out]; exact if_neg (fun z => e2 z.2))
          have n1 : (q.fr != p.fr) = false := by simpa using e1
          have n2 : (q.tw != p.tw) = true := by simpa using e2
          clear HL HOO HG HF e1 e2
          go_wp2_with fail
          go_ret2
          exact ⟨⟨_, by rw [HV.out]; rfl, fun l hl => by rw [HV.out] at hl; cases hl⟩, FB.out⟩
        have HONE : Hid (oneP tk old p = (stepsP tk q.st p).map (fun l => l)) := by
          show oneP tk old p = _
          rw [HF.out, show stK tk q p = stepsP tk q.st p from if_pos ⟨e1, e2⟩]
          cases stepsP tk q.st p <;> rfl
        have n1 : (q.fr != p.fr) = false := by simpa using e1
        have n2 : (q.tw != p.tw) = false := by simpa using e2
        clear HF e1 e2
        go_upto_region 14 with fail
        clear n1 n2 x1 x2 x5 y1 y2
        cases ho2 : stepsP tk q.st p with
        | none =>
          have HV : Hid (oo = none) := by show oo = none; rw [← HOO.out]; exact diff_stop HG.out (by rw [HONE.out, ho2]; rfl)
          clear HONE HL HOO HG
          go_wp2_with (first | (refine load_blk 60 _ Try.underlying60 (by kernel_rfl) FX.out rfl rfl rfl ?_) | (go_at_call 32; refine (l10One_any tk q.st p hq0 _).mono ?_; unfold isOp; rw [ho2]; rintro e w8 ⟨⟨v2, rfl, hv2⟩, hb⟩; have FO : Hid (OwnE w8 w.heap.size vv (l)) := FO.out.below hb (fun k hk => (FO.out.lt k hk).2); have FB : Hid (Below w.heap.size w w8) := FB.out.trans (hb.mono FB.out.size); have hsz8 := hb.size; clear hb))
          go_ret2
          exact ⟨⟨_, by rw [HV.out]; rfl, fun l hl => by rw [HV.out] at hl; cases hl⟩, FB.out⟩
        | some l2 =>
          have H1 : Hid (oneP tk old p = some (l2)) := by show oneP tk old p = _; rw [HONE.out, ho2]; rfl
          have hl2 := one_len H1.out
          have hl3 := HLEN.out
          skip
          have HL : Hid (diffL tk old (now.take (i + 1)) = some ((l) ++ l2)) := (diff_go HG.out HL.out H1.out).trans (by simp)
          clear HONE HG H1
          go_upto_region 4 with (first | (refine load_blk 60 _ Try.underlying60 (by kernel_rfl) FX.out rfl rfl rfl ?_) | (go_at_call 32; refine (l10One_any tk q.st p hq0 _).mono ?_; unfold isOp; rw [ho2]; rintro e w8 ⟨⟨v2, rfl, hv2⟩, hb⟩; have FO : Hid (OwnE w8 w.heap.size vv (l)) := FO.out.below hb (fun k hk => (FO.out.lt k hk).2); have FB : Hid (Below w.heap.size w w8) := FB.out.trans (hb.mono FB.out.size); have hsz8 := hb.size; clear hb) | (refine wpList_append_ev _ _ w.heap.size _ _ (l) l2 FO.out (hv2 l2 rfl).vin (by (try simp only [List.length_append, List.length_cons, List.length_nil]); omega) (by have := FB.out.size; omega) rfl rfl rfl rfl ?_; intro v3 w9 ho hg))
          have FB : Hid (Below w.heap.size w w9) := belE FB.out FO.out hg
          have FO : Hid (OwnE w9 w.heap.size v3 ((l) ++ l2)) := ho
          clear ho hg
          go_wp2_with fail
          go_roundw
          case rel => exact ⟨v3, i + 1, (l) ++ l2, rfl, by simp, by omega, HL.out, by simp; omega, FO.out, FB.out⟩
          case measure => simp [intOf]; omega
    · have ei : i = now.length := by omega
      subst ei
      have HV : Hid (oo = some l) := by
        show oo = some l
        have z := HL.out
        rw [List.take_of_length_le (Nat.le_refl _)] at z
        rw [← HOO.out, z]
      clear HL HOO
      go_wp2_with fail
      go_ret2
      exact ⟨⟨_, by rw [HV.out]; rfl, fun m hm => by rw [HV.out] at hm; cases hm; exact FO.out⟩, FB.out⟩
end Go.Proofs.Ytiejogkhobiddaa
