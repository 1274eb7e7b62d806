/-
  The program: what happened between two ledgers.
-/
import Derived.Test.YtiejogkhobiddaaEvF
import Derived.Test.YtiejogkhobiddaaFnd
namespace Go.Proofs.Ytiejogkhobiddaa
open Go.RowKit Pl
set_option linter.unusedSimpArgs false
set_option linter.unusedVariables false

set_option maxRecDepth 20000 in
set_option maxHeartbeats 32000000 in
theorem eventsBetween_any (tk : Int) (a0 : Option Addr) (cap0 : Nat) (old : List Pe) (a1 : Option Addr) (cap1 : Nat) (now : List Pe) (hl0 : old.length ≤ 1048576) (hl1 : now.length ≤ 60) (w : World) (hP0 : PIn w w.heap.size a0 old) (hP1 : PIn w w.heap.size a1 now) :
    Calls Try.prog 22 #[.int .i64 tk, .slice a0 old.length cap0, .slice a1 now.length cap1] w (isOp w (diffL tk old now)) := by
  have HP0 : Hid (PIn w w.heap.size a0 old) := hP0
  have HP1 : Hid (PIn w w.heap.size a1 now) := hP1
  clear hP0 hP1
  unfold isOp
  obtain ⟨oo, hoo⟩ : ∃ oo, diffL tk old now = oo := ⟨_, rfl⟩
  rw [hoo]
  have HOO : Hid (diffL tk old now = oo) := hoo
  clear hoo
  go_enter Try.func22, Try.ntmps22
  go_wp2_with fail
  go_loopw [8, 17] (fun vq ii wr => ∃ (vv : Value) (i : Nat) (l : List Ev), vq = vv ∧ ii = .int .i64 i ∧ i ≤ now.length ∧ diffL tk old (now.take i) = some l ∧ l.length ≤ 3 * i ∧ OwnE wr w.heap.size vv l ∧ Below w.heap.size w wr) (fun _ ii _ => now.length - (intOf ii).toNat)
  case atStart => exact ⟨_, 0, [], rfl, rfl, by omega, diff_nil _ _ _, by simp, OwnE.nil _ _, Below.refl _ _⟩
  case round =>
    obtain ⟨vv, i, l, hvq, rfl, hi, hl, hlen, hO, hFB⟩ := hrel
    have hvq2 := hvq.symm
    subst hvq2
    have HL : Hid (diffL tk old (now.take i) = some l) := hl
    have HLEN : Hid (l.length ≤ 3 * i) := hlen
    have FO : Hid (OwnE wr w.heap.size vv l) := hO
    have FB : Hid (Below w.heap.size w wr) := hFB
    clear hl hlen hO hFB
    by_cases hlt : i < now.length
    · obtain ⟨p, hp⟩ : ∃ p, now[i]? = some p := ⟨_, List.getElem?_eq_getElem hlt⟩
      have HG : Hid (now[i]? = some p) := hp
      rcases HP1.out with h0 | ⟨b, o, rfl, hbl, h7⟩
      · rw [h0] at hlt; simp at hlt
      obtain ⟨z0, z1, z2, z3, z4, z5, z6⟩ := (h7 i p hp).below FB.out hbl
      clear hp h7
      go_upto_region 5 with (refine store_new [.int .i64 p.id, .int .i64 p.fr, .int .i64 p.tw, .int .i64 p.sh, .int .i64 p.ca, .int .i64 p.st, .int .i64 p.pl] 60 _ _ (by kernel_rfl) (by kernel_rfl) (by kernel_rfl) rfl rfl rfl rfl ?_)
      clear z0 z1 z2 z3 z4 z5 z6
      have lcw := FB.out.size
      obtain ⟨c, hb_⟩ : ∃ c, c = wr.heap.size := ⟨_, rfl⟩
      obtain ⟨W1, hw_⟩ : ∃ W1, W1 = wr.alloc (.cells #[.int .i64 p.id, .int .i64 p.fr, .int .i64 p.tw, .int .i64 p.sh, .int .i64 p.ca, .int .i64 p.st, .int .i64 p.pl] 60) := ⟨_, rfl⟩
      have ln_c_FO := FO.out.lt
      rw [← hb_] at lcw ln_c_FO
      have FO : Hid (OwnE W1 w.heap.size vv l) := by rw [hw_]; exact FO.out.alloc _
      have FB : Hid (Below w.heap.size w W1) := by rw [hw_]; exact FB.out.alloc FB.out.size _
      have FX : Hid (Blk W1 c [.int .i64 p.id, .int .i64 p.fr, .int .i64 p.tw, .int .i64 p.sh, .int .i64 p.ca, .int .i64 p.st, .int .i64 p.pl]) := by rw [hw_]; exact Blk.at_ _ _ _ _ hb_
      rw [← hw_, ← hb_]
      clear hw_ hb_
      have y0 := FX.out.c 0 _ rfl
      cases hf : fnd p.id old with
      | some r =>
        have HONE : Hid (oneP tk old p = (stK tk r p).map (fun l => l)) := by show oneP tk old p = _; rw [show oneP tk old p = stK tk r p by unfold oneP; rw [hf]]; cases stK tk r p <;> rfl
        go_upto_region 6 with (first | (go_at_call 37; refine (personOf_any a0 cap0 old p.id hl0 _ ((HP0.out.below FB.out (Nat.le_refl _)).mono FB.out.size)).mono ?_; rw [hf]; rintro e w1 ⟨⟨q, rfl, hq⟩, hb⟩; obtain rfl := (hq r rfl).symm; have FO : Hid (OwnE w1 w.heap.size vv l) := FO.out.below hb (fun k hk => (FO.out.lt k hk).2); have FB : Hid (Below w.heap.size w w1) := FB.out.trans (hb.mono FB.out.size); have FX : Hid (Blk w1 c [.int .i64 p.id, .int .i64 p.fr, .int .i64 p.tw, .int .i64 p.sh, .int .i64 p.ca, .int .i64 p.st, .int .i64 p.pl]) := FX.out.below hb FX.out.lt; clear hb hq) | (refine store_new [.int .i64 r.id, .int .i64 r.fr, .int .i64 r.tw, .int .i64 r.sh, .int .i64 r.ca, .int .i64 r.st, .int .i64 r.pl] 60 _ _ (by kernel_rfl) (by kernel_rfl) (by kernel_rfl) rfl rfl rfl rfl ?_))
        clear y0
        obtain ⟨d, hb_⟩ : ∃ d, d = w1.heap.size := ⟨_, rfl⟩
        obtain ⟨W2, hw_⟩ : ∃ W2, W2 = w1.alloc (.cells #[.int .i64 r.id, .int .i64 r.fr, .int .i64 r.tw, .int .i64 r.sh, .int .i64 r.ca, .int .i64 r.st, .int .i64 r.pl] 60) := ⟨_, rfl⟩
        have ln_d_FO := FO.out.lt
        have ln_d_FX := FX.out.lt
        rw [← hb_] at ln_d_FO ln_d_FX
        have FO : Hid (OwnE W2 w.heap.size vv l) := by rw [hw_]; exact FO.out.alloc _
        have FB : Hid (Below w.heap.size w W2) := by rw [hw_]; exact FB.out.alloc FB.out.size _
        have FX : Hid (Blk W2 c [.int .i64 p.id, .int .i64 p.fr, .int .i64 p.tw, .int .i64 p.sh, .int .i64 p.ca, .int .i64 p.st, .int .i64 p.pl]) := by rw [hw_]; exact FX.out.alloc _
        have FY : Hid (Blk W2 d [.int .i64 r.id, .int .i64 r.fr, .int .i64 r.tw, .int .i64 r.sh, .int .i64 r.ca, .int .i64 r.st, .int .i64 r.pl]) := by rw [hw_]; exact Blk.at_ _ _ _ _ hb_
        rw [← hw_, ← hb_]
        clear hw_ hb_
        go_upto_region 10 with fail
        cases ho2 : stK tk r p with
        | none =>
          have HV : Hid (oo = none) := by show oo = none; rw [← HOO.out]; exact diff_stop HG.out (by rw [HONE.out, ho2]; rfl)
          clear HONE HL HOO HG
          go_wp2_with (first | (refine load_blk 60 _ Try.underlying60 (by kernel_rfl) FX.out rfl rfl rfl ?_) | (refine load_blk 60 _ Try.underlying60 (by kernel_rfl) FY.out rfl rfl rfl ?_) | (go_at_call 39; refine (stepsOf_any tk r p _).mono ?_; unfold isOp; rw [ho2]; rintro e w8 ⟨⟨v2, rfl, hv2⟩, hb⟩; have FO : Hid (OwnE w8 w.heap.size vv (l)) := FO.out.below hb (fun k hk => (FO.out.lt k hk).2); have FB : Hid (Below w.heap.size w w8) := FB.out.trans (hb.mono FB.out.size); have hsz8 := hb.size; clear hb))
          go_ret2
          exact ⟨⟨_, by rw [HV.out]; rfl, fun l hl => by rw [HV.out] at hl; cases hl⟩, FB.out⟩
        | some l2 =>
          have H1 : Hid (oneP tk old p = some (l2)) := by show oneP tk old p = _; rw [HONE.out, ho2]; rfl
          have hl2 := one_len H1.out
          have hl3 := HLEN.out
          skip
          have HL : Hid (diffL tk old (now.take (i + 1)) = some ((l) ++ l2)) := (diff_go HG.out HL.out H1.out).trans (by simp)
          clear HONE HG H1
          go_upto_region 14 with (first | (refine load_blk 60 _ Try.underlying60 (by kernel_rfl) FX.out rfl rfl rfl ?_) | (refine load_blk 60 _ Try.underlying60 (by kernel_rfl) FY.out rfl rfl rfl ?_) | (go_at_call 39; refine (stepsOf_any tk r p _).mono ?_; unfold isOp; rw [ho2]; rintro e w8 ⟨⟨v2, rfl, hv2⟩, hb⟩; have FO : Hid (OwnE w8 w.heap.size vv (l)) := FO.out.below hb (fun k hk => (FO.out.lt k hk).2); have FB : Hid (Below w.heap.size w w8) := FB.out.trans (hb.mono FB.out.size); have hsz8 := hb.size; clear hb) | (refine wpList_append_ev _ _ w.heap.size _ _ (l) l2 FO.out (hv2 l2 rfl).vin (by (try simp only [List.length_append, List.length_cons, List.length_nil]); omega) (by have := FB.out.size; omega) rfl rfl rfl rfl ?_; intro v3 w9 ho hg))
          have FB : Hid (Below w.heap.size w w9) := belE FB.out FO.out hg
          have FO : Hid (OwnE w9 w.heap.size v3 ((l) ++ l2)) := ho
          clear ho hg
          go_wp2_with fail
          go_roundw
          case rel => exact ⟨v3, i + 1, (l) ++ l2, rfl, by simp, by omega, HL.out, by simp; omega, FO.out, FB.out⟩
          case measure => simp [intOf]; omega
      | none =>
        obtain ⟨ev, hev⟩ : ∃ ev, evOf tk 1 p = ev := ⟨_, rfl⟩
        have HONE : Hid (oneP tk old p = (stK tk ⟨p.id, p.fr, p.tw, p.sh, p.ca, 0, p.pl⟩ p).map (fun l => [ev] ++ l)) := by
          show oneP tk old p = _
          rw [show oneP tk old p = (stepsP tk 0 p).map (fun l => evOf tk 1 p :: l) by unfold oneP; rw [hf], show stK tk ⟨p.id, p.fr, p.tw, p.sh, p.ca, 0, p.pl⟩ p = stepsP tk 0 p from if_pos ⟨rfl, rfl⟩, hev]
          cases stepsP tk 0 p <;> rfl
        go_upto_region 6 with (first | (go_at_call 37; refine (personOf_any a0 cap0 old p.id hl0 _ ((HP0.out.below FB.out (Nat.le_refl _)).mono FB.out.size)).mono ?_; rw [hf]; rintro e w1 ⟨⟨q, rfl, hq⟩, hb⟩; have FO : Hid (OwnE w1 w.heap.size vv l) := FO.out.below hb (fun k hk => (FO.out.lt k hk).2); have FB : Hid (Below w.heap.size w w1) := FB.out.trans (hb.mono FB.out.size); have FX : Hid (Blk w1 c [.int .i64 p.id, .int .i64 p.fr, .int .i64 p.tw, .int .i64 p.sh, .int .i64 p.ca, .int .i64 p.st, .int .i64 p.pl]) := FX.out.below hb FX.out.lt; clear hb hq) | (refine store_new [.int .i64 q.id, .int .i64 q.fr, .int .i64 q.tw, .int .i64 q.sh, .int .i64 q.ca, .int .i64 q.st, .int .i64 q.pl] 60 _ _ (by kernel_rfl) (by kernel_rfl) (by kernel_rfl) rfl rfl rfl rfl ?_))
        clear y0
        obtain ⟨d, hb_⟩ : ∃ d, d = w1.heap.size := ⟨_, rfl⟩
        obtain ⟨W2, hw_⟩ : ∃ W2, W2 = w1.alloc (.cells #[.int .i64 q.id, .int .i64 q.fr, .int .i64 q.tw, .int .i64 q.sh, .int .i64 q.ca, .int .i64 q.st, .int .i64 q.pl] 60) := ⟨_, rfl⟩
        have ln_d_FO := FO.out.lt
        have ln_d_FX := FX.out.lt
        rw [← hb_] at ln_d_FO ln_d_FX
        have FO : Hid (OwnE W2 w.heap.size vv l) := by rw [hw_]; exact FO.out.alloc _
        have FB : Hid (Below w.heap.size w W2) := by rw [hw_]; exact FB.out.alloc FB.out.size _
        have FX : Hid (Blk W2 c [.int .i64 p.id, .int .i64 p.fr, .int .i64 p.tw, .int .i64 p.sh, .int .i64 p.ca, .int .i64 p.st, .int .i64 p.pl]) := by rw [hw_]; exact FX.out.alloc _
        have FY : Hid (Blk W2 d [.int .i64 q.id, .int .i64 q.fr, .int .i64 q.tw, .int .i64 q.sh, .int .i64 q.ca, .int .i64 q.st, .int .i64 q.pl]) := by rw [hw_]; exact Blk.at_ _ _ _ _ hb_
        rw [← hw_, ← hb_]
        clear hw_ hb_
        go_upto_region 8 with (first | (refine load_blk 60 _ Try.underlying60 (by kernel_rfl) FX.out rfl rfl rfl ?_) | (refine store_blk [.int .i64 p.id, .int .i64 p.fr, .int .i64 p.tw, .int .i64 p.sh, .int .i64 p.ca, .int .i64 p.st, .int .i64 p.pl] 60 _ _ (by kernel_rfl) (by kernel_rfl) (by kernel_rfl) FY.out rfl rfl rfl rfl ?_))
        obtain ⟨W3, hw_⟩ : ∃ W3, W3 = W2.setRow d [.int .i64 p.id, .int .i64 p.fr, .int .i64 p.tw, .int .i64 p.sh, .int .i64 p.ca, .int .i64 p.st, .int .i64 p.pl].toArray := ⟨_, rfl⟩
        have FO : Hid (OwnE W3 w.heap.size vv l) := by rw [hw_]; exact FO.out.below (below_row (Below.refl d _) (Nat.le_refl _) _) (fun k hk => (ln_d_FO k hk).2)
        have FX : Hid (Blk W3 c [.int .i64 p.id, .int .i64 p.fr, .int .i64 p.tw, .int .i64 p.sh, .int .i64 p.ca, .int .i64 p.st, .int .i64 p.pl]) := by rw [hw_]; exact FX.out.row_other (by omega) _
        have FY : Hid (Blk W3 d [.int .i64 p.id, .int .i64 p.fr, .int .i64 p.tw, .int .i64 p.sh, .int .i64 p.ca, .int .i64 p.st, .int .i64 p.pl]) := by rw [hw_]; exact FY.out.row _
        have FB : Hid (Below w.heap.size w W3) := by rw [hw_]; exact below_row FB.out (by omega) _
        rw [← hw_]
        clear hw_
        have c5_ := FY.out.c 5 _ rfl
        have q5_ := FY.out.f 5 (Nat.le_of_ble_eq_true rfl)
        go_upto_region 9 with fail
        clear c5_ q5_
        obtain ⟨b0, hb0⟩ : ∃ b0 : Pe, b0 = ⟨p.id, p.fr, p.tw, p.sh, p.ca, 0, p.pl⟩ := ⟨_, rfl⟩
        obtain ⟨W4, hw_⟩ : ∃ W4, W4 = W3.setCell ⟨d, 5, none⟩ (.int .i64 0) := ⟨_, rfl⟩
        have FO : Hid (OwnE W4 w.heap.size vv l) := by rw [hw_]; exact FO.out.below ((Below.refl d _).setCell (Nat.le_refl _) _) (fun k hk => (ln_d_FO k hk).2)
        have FX : Hid (Blk W4 c [.int .i64 p.id, .int .i64 p.fr, .int .i64 p.tw, .int .i64 p.sh, .int .i64 p.ca, .int .i64 p.st, .int .i64 p.pl]) := by rw [hw_]; exact FX.out.other (by omega)
        have FY : Hid (Blk W4 d [.int .i64 b0.id, .int .i64 b0.fr, .int .i64 b0.tw, .int .i64 b0.sh, .int .i64 b0.ca, .int .i64 b0.st, .int .i64 b0.pl]) := by rw [hw_, hb0]; exact FY.out.set _ (Nat.le_of_ble_eq_true rfl)
        have FB : Hid (Below w.heap.size w W4) := by rw [hw_]; exact FB.out.setCell (show w.heap.size ≤ d by omega) _
        rw [← hb0] at HONE
        rw [← hw_]
        clear hw_ hb0
        have hl3 := HLEN.out
        go_upto_region 10 with (first | (refine load_blk 60 _ Try.underlying60 (by kernel_rfl) FX.out rfl rfl rfl ?_) | (go_at_call 38; refine (eventOf_any tk 1 p (Or.inl rfl) ev hev _).mono ?_; rintro e w5 ⟨rfl, hb⟩; have FO : Hid (OwnE w5 w.heap.size vv l) := FO.out.below hb (fun k hk => (FO.out.lt k hk).2); have FB : Hid (Below w.heap.size w w5) := FB.out.trans (hb.mono FB.out.size); have FX : Hid (Blk w5 c [.int .i64 p.id, .int .i64 p.fr, .int .i64 p.tw, .int .i64 p.sh, .int .i64 p.ca, .int .i64 p.st, .int .i64 p.pl]) := FX.out.below hb FX.out.lt; have FY : Hid (Blk w5 d [.int .i64 b0.id, .int .i64 b0.fr, .int .i64 b0.tw, .int .i64 b0.sh, .int .i64 b0.ca, .int .i64 b0.st, .int .i64 b0.pl]) := FY.out.below hb FY.out.lt; clear hb) | (refine wpList_append_ev _ _ w.heap.size _ _ l [ev] (FO.out.alloc _) (vin_new _ ev) (by simp; omega) (by have := FB.out.size; simp; omega) rfl rfl rfl rfl ?_; intro v1 w6 ho hg))
        have L0 := FO.out.lt
        have FB : Hid (Below w.heap.size w w6) := belE (FB.out.alloc FB.out.size _) (FO.out.alloc _) hg
        have FX : Hid (Blk w6 c [.int .i64 p.id, .int .i64 p.fr, .int .i64 p.tw, .int .i64 p.sh, .int .i64 p.ca, .int .i64 p.st, .int .i64 p.pl]) := (FX.out.alloc _).grown hg (fun z => by have := (ln_c_FO _ z.symm).2; omega)
        have FY : Hid (Blk w6 d [.int .i64 b0.id, .int .i64 b0.fr, .int .i64 b0.tw, .int .i64 b0.sh, .int .i64 b0.ca, .int .i64 b0.st, .int .i64 b0.pl]) := (FY.out.alloc _).grown hg (fun z => by have := (ln_d_FO _ z.symm).2; omega)
        have FO : Hid (OwnE w6 w.heap.size v1 (l ++ [ev])) := ho
        clear ho hg L0
        cases ho2 : stK tk b0 p with
        | none =>
          have HV : Hid (oo = none) := by show oo = none; rw [← HOO.out]; exact diff_stop HG.out (by rw [HONE.out, ho2]; rfl)
          clear HONE HL HOO HG
          go_wp2_with (first | (refine load_blk 60 _ Try.underlying60 (by kernel_rfl) FX.out rfl rfl rfl ?_) | (refine load_blk 60 _ Try.underlying60 (by kernel_rfl) FY.out rfl rfl rfl ?_) | (go_at_call 39; refine (stepsOf_any tk b0 p _).mono ?_; unfold isOp; rw [ho2]; rintro e w8 ⟨⟨v2, rfl, hv2⟩, hb⟩; have FO : Hid (OwnE w8 w.heap.size v1 (l ++ [ev])) := FO.out.below hb (fun k hk => (FO.out.lt k hk).2); have FB : Hid (Below w.heap.size w w8) := FB.out.trans (hb.mono FB.out.size); have hsz8 := hb.size; clear hb))
          go_ret2
          exact ⟨⟨_, by rw [HV.out]; rfl, fun l hl => by rw [HV.out] at hl; cases hl⟩, FB.out⟩
        | some l2 =>
          have H1 : Hid (oneP tk old p = some ([ev] ++ l2)) := by show oneP tk old p = _; rw [HONE.out, ho2]; rfl
          have hl2 := one_len H1.out
          have hl3 := HLEN.out
          simp only [List.length_append, List.length_cons, List.length_nil] at hl2
          have HL : Hid (diffL tk old (now.take (i + 1)) = some ((l ++ [ev]) ++ l2)) := (diff_go HG.out HL.out H1.out).trans (by simp)
          clear HONE HG H1
          go_upto_region 14 with (first | (refine load_blk 60 _ Try.underlying60 (by kernel_rfl) FX.out rfl rfl rfl ?_) | (refine load_blk 60 _ Try.underlying60 (by kernel_rfl) FY.out rfl rfl rfl ?_) | (go_at_call 39; refine (stepsOf_any tk b0 p _).mono ?_; unfold isOp; rw [ho2]; rintro e w8 ⟨⟨v2, rfl, hv2⟩, hb⟩; have FO : Hid (OwnE w8 w.heap.size v1 (l ++ [ev])) := FO.out.below hb (fun k hk => (FO.out.lt k hk).2); have FB : Hid (Below w.heap.size w w8) := FB.out.trans (hb.mono FB.out.size); have hsz8 := hb.size; clear hb) | (refine wpList_append_ev _ _ w.heap.size _ _ (l ++ [ev]) l2 FO.out (hv2 l2 rfl).vin (by (try simp only [List.length_append, List.length_cons, List.length_nil]); omega) (by have := FB.out.size; omega) rfl rfl rfl rfl ?_; intro v3 w9 ho hg))
          have FB : Hid (Below w.heap.size w w9) := belE FB.out FO.out hg
          have FO : Hid (OwnE w9 w.heap.size v3 ((l ++ [ev]) ++ l2)) := ho
          clear ho hg
          go_wp2_with fail
          go_roundw
          case rel => exact ⟨v3, i + 1, (l ++ [ev]) ++ l2, rfl, by simp, by omega, HL.out, by simp; omega, FO.out, FB.out⟩
          case measure => simp [intOf]; omega
    · have ei : i = now.length := by omega
      subst ei
      have HV : Hid (oo = some l) := by
        show oo = some l
        have z := HL.out
        rw [List.take_of_length_le (Nat.le_refl _)] at z
        rw [← HOO.out, z]
      clear HL HOO
      go_wp2_with fail
      go_ret2
      exact ⟨⟨_, by rw [HV.out]; rfl, fun m hm => by rw [HV.out] at hm; cases hm; exact FO.out⟩, FB.out⟩
end Go.Proofs.Ytiejogkhobiddaa
