/-
  The program's ledger: people who are changed.
-/
import Derived.Test.YtoekhkolakielaaLedF
import Derived.Test.YtoekhkolakielaaLedG
import Derived.Test.YtoekhkolakielaaPersT
import Derived.BigGuardPart
namespace Go.Proofs.Ytoekhkolakielaa
open Go.RowKit Pl
set_option linter.unusedSimpArgs false
set_option linter.unusedVariables false

theorem Cel.grown {W w : World} {b o : Nat} {v : Value} {row : Option Nat} (a : Cel W b o v) (hg : W.grownBy w row) (hne : some b ≠ row) : Cel w b o v := ⟨(World.cell?_of_block (w := W) (hg.block b a.lt hne)).trans a.c0⟩
theorem P7.grown {W w : World} {b o : Nat} {p : Pe} {row : Option Nat} (a : P7 W b o p) (hg : W.grownBy w row) (hne : some b ≠ row) : P7 w b o p := a.of (fun _ => World.cell?_of_block (w := W) (hg.block b a.lt hne))
theorem gr_put {a c : World} {g : Nat} {fb : Nat} (h : a.grownBy c (some fb)) (hg : a.heap.size ≤ g) (o : Nat) (q : Pe) : a.grownBy (putP c g o q) (some fb) := gr_putP h hg o q
theorem set_same {l : List Pe} {i : Nat} {p : Pe} (h : l[i]? = some p) : l.set i p = l := by
  apply List.ext_getElem?
  intro j
  rw [List.getElem?_set]
  by_cases e : i = j
  · subst e
    have hi := (List.getElem?_eq_some_iff.1 h).1
    rw [if_pos rfl, if_pos hi, h]
  · rw [if_neg e]
theorem cnt_set {st sh ca : Int} {l : List Pe} {i : Nat} {p q : Pe} (h : l[i]? = some p) (hp : isIn st sh ca p = false) (hq : isIn st sh ca q = true) : cnt st sh ca (l.set i q) = cnt st sh ca l + 1 := by
  have hi : i < l.length := (List.getElem?_eq_some_iff.1 h).1
  have e : l[i] = p := (List.getElem?_eq_some_iff.1 h).2
  unfold cnt
  have a1 : l = l.take i ++ p :: l.drop (i + 1) := by rw [← e, ← List.drop_eq_getElem_cons hi, List.take_append_drop]
  have a2 : l.set i q = l.take i ++ q :: l.drop (i + 1) := by rw [List.set_eq_take_append_cons_drop, if_pos hi]
  rw [a2]
  conv => rhs; rw [a1]
  simp [List.countP_append, List.countP_cons, hp, hq]
  omega
set_option maxRecDepth 20000 in
set_option maxHeartbeats 16000000 in
theorem changed_alight (x : Lg) (a : Option Addr) (cap : Nat) (sh ca fl : Int) (b1 b2 b3 : Nat) (hl : x.ps.length ≤ 1048576) (w : World) (hP : PIn w w.heap.size a x.ps) (C1 : Hid (Cel w b1 0 (.int .i64 sh))) (C2 : Hid (Cel w b2 0 (.int .i64 ca))) (C3 : Hid (Cel w b3 0 (.int .i64 fl))) :
    Calls Try.prog 16 #[.agg #[.int .i64 x.nx, .slice a x.ps.length cap], .func (.func 22) #[] #[.pointer (some ⟨b1, 0, none⟩), .pointer (some ⟨b2, 0, none⟩), .pointer (some ⟨b3, 0, none⟩)]] w (isLed w 0 0 x.nx (x.ps.map (alightP sh ca fl))) := by
  have kC1 := C1.out.lt
  have kC2 := C2.out.lt
  have kC3 := C3.out.lt
  go_enter Try.func16, Try.ntmps16
  go_upto_region 1 with fail
  obtain ⟨W0, hW0⟩ : ∃ W0, W0 = ((w.alloc (.cells #[.int .i64 x.nx, .slice a x.ps.length cap] 28)).alloc (.cells #[.int .i64 0, .int .i64 0, .int .i64 0, .slice none 0 0] 32)) := ⟨_, rfl⟩
  have FL : Hid (LW W0 w.heap.size x.nx (.slice a x.ps.length cap)) := by rw [hW0]; exact (LW.at_ w x.nx _ _ _ rfl).alloc _
  have FR : Hid (RL W0 (w.heap.size + 1)) := by rw [hW0]; exact RL.at_ _ _ _ (by simp)
  have C1 : Hid (Cel W0 b1 0 (.int .i64 sh)) := by rw [hW0]; exact (C1.out.alloc _).alloc _
  have C2 : Hid (Cel W0 b2 0 (.int .i64 ca)) := by rw [hW0]; exact (C2.out.alloc _).alloc _
  have C3 : Hid (Cel W0 b3 0 (.int .i64 fl)) := by rw [hW0]; exact (C3.out.alloc _).alloc _
  have FB : Hid (Below w.heap.size w W0) := by rw [hW0]; exact ((Below.refl _ _).alloc (Nat.le_refl _) _).alloc (by simp) _
  rw [← hW0]
  clear hW0
  obtain ⟨v0, v1, v2, v3⟩ := FL.out
  go_upto_region 2 with (go_at_call 37; refine (copied_any x.ps a cap x.ps.length hl (Nat.le_refl _) _ ((hP.below FB.out (Nat.le_refl _)).mono FB.out.size)).mono ?_; rintro e w1 ⟨g, rfl, ho, hb⟩; have lgr : w.heap.size + 1 < g := Nat.lt_of_lt_of_le FR.out.lt ho.bl.1; have FO : Hid (Ow w1 w.heap.size g x.ps.length x.ps.length x.ps) := (by have q := ho.base FB.out.size; rw [Nat.sub_self, List.replicate_zero, List.append_nil] at q; exact q); have FL : Hid (LW w1 w.heap.size x.nx (.slice a x.ps.length cap)) := FL.out.below hb FL.out.lt; have FR : Hid (RL w1 (w.heap.size + 1)) := FR.out.below hb FR.out.lt; have C1 : Hid (Cel w1 b1 0 (.int .i64 sh)) := C1.out.below hb C1.out.lt; have C2 : Hid (Cel w1 b2 0 (.int .i64 ca)) := C2.out.below hb C2.out.lt; have C3 : Hid (Cel w1 b3 0 (.int .i64 fl)) := C3.out.below hb C3.out.lt; have FB : Hid (Below w.heap.size w w1) := FB.out.trans (hb.mono FB.out.size); clear ho hb; obtain ⟨v0, v1, v2, v3⟩ := FL.out)
  go_wp2_with fail
  go_loopw [16] (fun ii wr => ∃ i : Nat, ii = .int .i64 i ∧ i ≤ x.ps.length ∧ Ow wr w.heap.size g x.ps.length x.ps.length ((x.ps.take i).map (alightP sh ca fl) ++ x.ps.drop i) ∧ LW wr w.heap.size x.nx (.slice a x.ps.length cap) ∧ RL wr (w.heap.size + 1) ∧ Cel wr b1 0 (.int .i64 sh) ∧ Cel wr b2 0 (.int .i64 ca) ∧ Cel wr b3 0 (.int .i64 fl) ∧ Below w.heap.size w wr) (fun ii _ => x.ps.length - (intOf ii).toNat)
  case atStart => exact ⟨0, rfl, by omega, by simpa using FO.out, FL.out, FR.out, C1.out, C2.out, C3.out, FB.out⟩
  case round =>
    obtain ⟨i, rfl, hi, hFO, hFL, hFR, hC1, hC2, hC3, hFB⟩ := hrel
    clear FO FL FR C1 C2 C3 FB
    obtain ⟨m, hm⟩ : ∃ m, (x.ps.take i).map (alightP sh ca fl) ++ x.ps.drop i = m := ⟨_, rfl⟩
    rw [hm] at hFO
    have HM : Hid ((x.ps.take i).map (alightP sh ca fl) ++ x.ps.drop i = m) := hm
    have FO : Hid (Ow wr w.heap.size g x.ps.length x.ps.length m) := hFO
    have FL : Hid (LW wr w.heap.size x.nx (.slice a x.ps.length cap)) := hFL
    have FR : Hid (RL wr (w.heap.size + 1)) := hFR
    have C1 : Hid (Cel wr b1 0 (.int .i64 sh)) := hC1
    have C2 : Hid (Cel wr b2 0 (.int .i64 ca)) := hC2
    have C3 : Hid (Cel wr b3 0 (.int .i64 fl)) := hC3
    have FB : Hid (Below w.heap.size w wr) := hFB
    clear hFO hFL hFR hFB hm hC1 hC2 hC3
    by_cases hlt : i < x.ps.length
    · obtain ⟨p, hz⟩ : ∃ p, m[i]? = some p := ⟨_, List.getElem?_eq_getElem (by rw [FO.out.1]; omega)⟩
      obtain ⟨p0, hp⟩ : ∃ p0, x.ps[i]? = some p0 := ⟨_, List.getElem?_eq_getElem hlt⟩
      have ep : p0 = p := by
        have q := turn_at (f := alightP sh ca fl) hp
        rw [HM.out, hz] at q
        exact (Option.some.inj q).symm
      subst ep
      have HE : Hid (m.set i (alightP sh ca fl p0) = (x.ps.take (i + 1)).map (alightP sh ca fl) ++ x.ps.drop (i + 1)) := by rw [← HM.out]; exact turn_set hp
      clear hp
      obtain ⟨d0, d1, d2, d3, d4, d5, d6⟩ := FO.out.p7 hz
      go_upto_region 5 with fail
      obtain ⟨pb, hpb⟩ : ∃ pb, pb = wr.heap.size := ⟨_, rfl⟩
      have lp : g < pb := by rw [hpb]; exact FO.out.bl.2
      obtain ⟨W1, hW1⟩ : ∃ W1, W1 = wr.alloc (.cells #[.int .i64 p0.id, .int .i64 p0.fr, .int .i64 p0.tw, .int .i64 p0.sh, .int .i64 p0.ca, .int .i64 p0.st, .int .i64 p0.pl] 42) := ⟨_, rfl⟩
      have FO : Hid (Ow W1 w.heap.size g x.ps.length x.ps.length m) := by rw [hW1]; exact FO.out.alloc _
      have FL : Hid (LW W1 w.heap.size x.nx (.slice a x.ps.length cap)) := by rw [hW1]; exact FL.out.alloc _
      have FR : Hid (RL W1 (w.heap.size + 1)) := by rw [hW1]; exact FR.out.alloc _
      have C1 : Hid (Cel W1 b1 0 (.int .i64 sh)) := by rw [hW1]; exact C1.out.alloc _
      have C2 : Hid (Cel W1 b2 0 (.int .i64 ca)) := by rw [hW1]; exact C2.out.alloc _
      have C3 : Hid (Cel W1 b3 0 (.int .i64 fl)) := by rw [hW1]; exact C3.out.alloc _
      have F3 : Hid (P7 W1 pb 0 p0) := by rw [hW1]; exact P7.at_ wr p0 _ _ hpb
      have FB : Hid (Below w.heap.size w W1) := by rw [hW1]; exact FB.out.alloc FB.out.size _
      rw [← hW1]
      clear hW1
      rw [← hpb]
      clear hpb d0 d1 d2 d3 d4 d5 d6
      obtain ⟨z0, z1, z2, z3, z4, z5, z6⟩ := F3.out
      go_wp2_with (go_at_call 22; refine (alight1_any p0 sh ca fl b1 b2 b3 _ C1 C2 C3).mono ?_; rintro e w2 ⟨rfl, hb⟩; have FL : Hid (LW w2 w.heap.size x.nx (.slice a x.ps.length cap)) := FL.out.below hb FL.out.lt; have FR : Hid (RL w2 (w.heap.size + 1)) := FR.out.below hb FR.out.lt; have C1 : Hid (Cel w2 b1 0 (.int .i64 sh)) := C1.out.below hb C1.out.lt; have C2 : Hid (Cel w2 b2 0 (.int .i64 ca)) := C2.out.below hb C2.out.lt; have C3 : Hid (Cel w2 b3 0 (.int .i64 fl)) := C3.out.below hb C3.out.lt; have FO : Hid (Ow w2 w.heap.size g x.ps.length x.ps.length m) := FO.out.below hb FO.out.bl.2; have FB : Hid (Below w.heap.size w w2) := FB.out.trans (hb.mono FB.out.size); clear hb; obtain ⟨d0, d1, d2, d3, d4, d5, d6⟩ := FO.out.p7 hz; have f0 := FO.out.fz (i * 7); have f1 := FO.out.fz (i * 7 + 1); have f2 := FO.out.fz (i * 7 + 2); have f3 := FO.out.fz (i * 7 + 3); have f4 := FO.out.fz (i * 7 + 4); have f5 := FO.out.fz (i * 7 + 5); have f6 := FO.out.fz (i * 7 + 6))
      go_roundw
      case rel => exact ⟨i + 1, by simp, by omega, HE.out ▸ FO.out.put _ hz, FL.out.below (below_putP (Below.refl g _) (Nat.le_refl _) _ _) (by omega), FR.out.below (below_putP (Below.refl g _) (Nat.le_refl _) _ _) (by omega), C1.out.below (below_putP (Below.refl g _) (Nat.le_refl _) _ _) (by omega), C2.out.below (below_putP (Below.refl g _) (Nat.le_refl _) _ _) (by omega), C3.out.below (below_putP (Below.refl g _) (Nat.le_refl _) _ _) (by omega), below_putP FB.out (by omega) _ _⟩
      case measure => simp [intOf]; omega
    · have ei : i = x.ps.length := by omega
      subst ei
      have HM2 : Hid (m = x.ps.map (alightP sh ca fl)) := by
        rw [← HM.out]
        rw [List.drop_eq_nil_of_le (by omega), List.append_nil, List.take_of_length_le (by omega)]
        exact rfl
      have FO : Hid (Ow wr w.heap.size g x.ps.length x.ps.length (x.ps.map (alightP sh ca fl))) := HM2.out ▸ FO.out
      obtain ⟨v0, v1, v2, v3⟩ := FL.out
      obtain ⟨r0, r1, r2, r3, s0, s1', s2, s3⟩ := FR.out
      go_wp2_with fail
      exact bodyPost_ret (v := .agg #[.int .i64 0, .int .i64 0, .int .i64 x.nx, .slice (some ⟨g, 0, none⟩) x.ps.length x.ps.length]) (by simp [results, Try.results16, go_sem, r0, r1, r2, r3]) rfl ⟨_, rfl, ((((FO.out.other (by simp; omega) _).other (by simp; omega) _).other (by simp; omega) _).other (by simp; omega) _).own, (((FB.out.setCell (by simp <;> omega) _).setCell (by simp <;> omega) _).setCell (by simp <;> omega) _).setCell (by simp <;> omega) _⟩
set_option maxRecDepth 20000 in
set_option maxHeartbeats 16000000 in
theorem changed_out (x : Lg) (a : Option Addr) (cap : Nat) (sh ca fl : Int) (b1 b2 b3 : Nat) (hl : x.ps.length ≤ 1048576) (w : World) (hP : PIn w w.heap.size a x.ps) (C1 : Hid (Cel w b1 0 (.int .i64 sh))) (C2 : Hid (Cel w b2 0 (.int .i64 ca))) (C3 : Hid (Cel w b3 0 (.int .i64 fl))) :
    Calls Try.prog 16 #[.agg #[.int .i64 x.nx, .slice a x.ps.length cap], .func (.func 23) #[] #[.pointer (some ⟨b1, 0, none⟩), .pointer (some ⟨b2, 0, none⟩), .pointer (some ⟨b3, 0, none⟩)]] w (isLed w 0 0 x.nx (x.ps.map (outP sh ca fl))) := by
  have kC1 := C1.out.lt
  have kC2 := C2.out.lt
  have kC3 := C3.out.lt
  go_enter Try.func16, Try.ntmps16
  go_upto_region 1 with fail
  obtain ⟨W0, hW0⟩ : ∃ W0, W0 = ((w.alloc (.cells #[.int .i64 x.nx, .slice a x.ps.length cap] 28)).alloc (.cells #[.int .i64 0, .int .i64 0, .int .i64 0, .slice none 0 0] 32)) := ⟨_, rfl⟩
  have FL : Hid (LW W0 w.heap.size x.nx (.slice a x.ps.length cap)) := by rw [hW0]; exact (LW.at_ w x.nx _ _ _ rfl).alloc _
  have FR : Hid (RL W0 (w.heap.size + 1)) := by rw [hW0]; exact RL.at_ _ _ _ (by simp)
  have C1 : Hid (Cel W0 b1 0 (.int .i64 sh)) := by rw [hW0]; exact (C1.out.alloc _).alloc _
  have C2 : Hid (Cel W0 b2 0 (.int .i64 ca)) := by rw [hW0]; exact (C2.out.alloc _).alloc _
  have C3 : Hid (Cel W0 b3 0 (.int .i64 fl)) := by rw [hW0]; exact (C3.out.alloc _).alloc _
  have FB : Hid (Below w.heap.size w W0) := by rw [hW0]; exact ((Below.refl _ _).alloc (Nat.le_refl _) _).alloc (by simp) _
  rw [← hW0]
  clear hW0
  obtain ⟨v0, v1, v2, v3⟩ := FL.out
  go_upto_region 2 with (go_at_call 37; refine (copied_any x.ps a cap x.ps.length hl (Nat.le_refl _) _ ((hP.below FB.out (Nat.le_refl _)).mono FB.out.size)).mono ?_; rintro e w1 ⟨g, rfl, ho, hb⟩; have lgr : w.heap.size + 1 < g := Nat.lt_of_lt_of_le FR.out.lt ho.bl.1; have FO : Hid (Ow w1 w.heap.size g x.ps.length x.ps.length x.ps) := (by have q := ho.base FB.out.size; rw [Nat.sub_self, List.replicate_zero, List.append_nil] at q; exact q); have FL : Hid (LW w1 w.heap.size x.nx (.slice a x.ps.length cap)) := FL.out.below hb FL.out.lt; have FR : Hid (RL w1 (w.heap.size + 1)) := FR.out.below hb FR.out.lt; have C1 : Hid (Cel w1 b1 0 (.int .i64 sh)) := C1.out.below hb C1.out.lt; have C2 : Hid (Cel w1 b2 0 (.int .i64 ca)) := C2.out.below hb C2.out.lt; have C3 : Hid (Cel w1 b3 0 (.int .i64 fl)) := C3.out.below hb C3.out.lt; have FB : Hid (Below w.heap.size w w1) := FB.out.trans (hb.mono FB.out.size); clear ho hb; obtain ⟨v0, v1, v2, v3⟩ := FL.out)
  go_wp2_with fail
  go_loopw [16] (fun ii wr => ∃ i : Nat, ii = .int .i64 i ∧ i ≤ x.ps.length ∧ Ow wr w.heap.size g x.ps.length x.ps.length ((x.ps.take i).map (outP sh ca fl) ++ x.ps.drop i) ∧ LW wr w.heap.size x.nx (.slice a x.ps.length cap) ∧ RL wr (w.heap.size + 1) ∧ Cel wr b1 0 (.int .i64 sh) ∧ Cel wr b2 0 (.int .i64 ca) ∧ Cel wr b3 0 (.int .i64 fl) ∧ Below w.heap.size w wr) (fun ii _ => x.ps.length - (intOf ii).toNat)
  case atStart => exact ⟨0, rfl, by omega, by simpa using FO.out, FL.out, FR.out, C1.out, C2.out, C3.out, FB.out⟩
  case round =>
    obtain ⟨i, rfl, hi, hFO, hFL, hFR, hC1, hC2, hC3, hFB⟩ := hrel
    clear FO FL FR C1 C2 C3 FB
    obtain ⟨m, hm⟩ : ∃ m, (x.ps.take i).map (outP sh ca fl) ++ x.ps.drop i = m := ⟨_, rfl⟩
    rw [hm] at hFO
    have HM : Hid ((x.ps.take i).map (outP sh ca fl) ++ x.ps.drop i = m) := hm
    have FO : Hid (Ow wr w.heap.size g x.ps.length x.ps.length m) := hFO
    have FL : Hid (LW wr w.heap.size x.nx (.slice a x.ps.length cap)) := hFL
    have FR : Hid (RL wr (w.heap.size + 1)) := hFR
    have C1 : Hid (Cel wr b1 0 (.int .i64 sh)) := hC1
    have C2 : Hid (Cel wr b2 0 (.int .i64 ca)) := hC2
    have C3 : Hid (Cel wr b3 0 (.int .i64 fl)) := hC3
    have FB : Hid (Below w.heap.size w wr) := hFB
    clear hFO hFL hFR hFB hm hC1 hC2 hC3
    by_cases hlt : i < x.ps.length
    · obtain ⟨p, hz⟩ : ∃ p, m[i]? = some p := ⟨_, List.getElem?_eq_getElem (by rw [FO.out.1]; omega)⟩
      obtain ⟨p0, hp⟩ : ∃ p0, x.ps[i]? = some p0 := ⟨_, List.getElem?_eq_getElem hlt⟩
      have ep : p0 = p := by
        have q := turn_at (f := outP sh ca fl) hp
        rw [HM.out, hz] at q
        exact (Option.some.inj q).symm
      subst ep
      have HE : Hid (m.set i (outP sh ca fl p0) = (x.ps.take (i + 1)).map (outP sh ca fl) ++ x.ps.drop (i + 1)) := by rw [← HM.out]; exact turn_set hp
      clear hp
      obtain ⟨d0, d1, d2, d3, d4, d5, d6⟩ := FO.out.p7 hz
      go_upto_region 5 with fail
      obtain ⟨pb, hpb⟩ : ∃ pb, pb = wr.heap.size := ⟨_, rfl⟩
      have lp : g < pb := by rw [hpb]; exact FO.out.bl.2
      obtain ⟨W1, hW1⟩ : ∃ W1, W1 = wr.alloc (.cells #[.int .i64 p0.id, .int .i64 p0.fr, .int .i64 p0.tw, .int .i64 p0.sh, .int .i64 p0.ca, .int .i64 p0.st, .int .i64 p0.pl] 42) := ⟨_, rfl⟩
      have FO : Hid (Ow W1 w.heap.size g x.ps.length x.ps.length m) := by rw [hW1]; exact FO.out.alloc _
      have FL : Hid (LW W1 w.heap.size x.nx (.slice a x.ps.length cap)) := by rw [hW1]; exact FL.out.alloc _
      have FR : Hid (RL W1 (w.heap.size + 1)) := by rw [hW1]; exact FR.out.alloc _
      have C1 : Hid (Cel W1 b1 0 (.int .i64 sh)) := by rw [hW1]; exact C1.out.alloc _
      have C2 : Hid (Cel W1 b2 0 (.int .i64 ca)) := by rw [hW1]; exact C2.out.alloc _
      have C3 : Hid (Cel W1 b3 0 (.int .i64 fl)) := by rw [hW1]; exact C3.out.alloc _
      have F3 : Hid (P7 W1 pb 0 p0) := by rw [hW1]; exact P7.at_ wr p0 _ _ hpb
      have FB : Hid (Below w.heap.size w W1) := by rw [hW1]; exact FB.out.alloc FB.out.size _
      rw [← hW1]
      clear hW1
      rw [← hpb]
      clear hpb d0 d1 d2 d3 d4 d5 d6
      obtain ⟨z0, z1, z2, z3, z4, z5, z6⟩ := F3.out
      go_wp2_with (go_at_call 23; refine (out1_any p0 sh ca fl b1 b2 b3 _ C1 C2 C3).mono ?_; rintro e w2 ⟨rfl, hb⟩; have FL : Hid (LW w2 w.heap.size x.nx (.slice a x.ps.length cap)) := FL.out.below hb FL.out.lt; have FR : Hid (RL w2 (w.heap.size + 1)) := FR.out.below hb FR.out.lt; have C1 : Hid (Cel w2 b1 0 (.int .i64 sh)) := C1.out.below hb C1.out.lt; have C2 : Hid (Cel w2 b2 0 (.int .i64 ca)) := C2.out.below hb C2.out.lt; have C3 : Hid (Cel w2 b3 0 (.int .i64 fl)) := C3.out.below hb C3.out.lt; have FO : Hid (Ow w2 w.heap.size g x.ps.length x.ps.length m) := FO.out.below hb FO.out.bl.2; have FB : Hid (Below w.heap.size w w2) := FB.out.trans (hb.mono FB.out.size); clear hb; obtain ⟨d0, d1, d2, d3, d4, d5, d6⟩ := FO.out.p7 hz; have f0 := FO.out.fz (i * 7); have f1 := FO.out.fz (i * 7 + 1); have f2 := FO.out.fz (i * 7 + 2); have f3 := FO.out.fz (i * 7 + 3); have f4 := FO.out.fz (i * 7 + 4); have f5 := FO.out.fz (i * 7 + 5); have f6 := FO.out.fz (i * 7 + 6))
      go_roundw
      case rel => exact ⟨i + 1, by simp, by omega, HE.out ▸ FO.out.put _ hz, FL.out.below (below_putP (Below.refl g _) (Nat.le_refl _) _ _) (by omega), FR.out.below (below_putP (Below.refl g _) (Nat.le_refl _) _ _) (by omega), C1.out.below (below_putP (Below.refl g _) (Nat.le_refl _) _ _) (by omega), C2.out.below (below_putP (Below.refl g _) (Nat.le_refl _) _ _) (by omega), C3.out.below (below_putP (Below.refl g _) (Nat.le_refl _) _ _) (by omega), below_putP FB.out (by omega) _ _⟩
      case measure => simp [intOf]; omega
    · have ei : i = x.ps.length := by omega
      subst ei
      have HM2 : Hid (m = x.ps.map (outP sh ca fl)) := by
        rw [← HM.out]
        rw [List.drop_eq_nil_of_le (by omega), List.append_nil, List.take_of_length_le (by omega)]
        exact rfl
      have FO : Hid (Ow wr w.heap.size g x.ps.length x.ps.length (x.ps.map (outP sh ca fl))) := HM2.out ▸ FO.out
      obtain ⟨v0, v1, v2, v3⟩ := FL.out
      obtain ⟨r0, r1, r2, r3, s0, s1', s2, s3⟩ := FR.out
      go_wp2_with fail
      exact bodyPost_ret (v := .agg #[.int .i64 0, .int .i64 0, .int .i64 x.nx, .slice (some ⟨g, 0, none⟩) x.ps.length x.ps.length]) (by simp [results, Try.results16, go_sem, r0, r1, r2, r3]) rfl ⟨_, rfl, ((((FO.out.other (by simp; omega) _).other (by simp; omega) _).other (by simp; omega) _).other (by simp; omega) _).own, (((FB.out.setCell (by simp <;> omega) _).setCell (by simp <;> omega) _).setCell (by simp <;> omega) _).setCell (by simp <;> omega) _⟩
theorem brd_step {ld fre fre2 sh ca fl : Int} {l m : List Pe} {i : Nat} {p q : Pe} (s1 : 0 ≤ sh) (hm : boardS ld sh ca fl l i = m) (hp : m[i]? = some p) (hf : ld - (cnt 1 sh ca m : Int) = fre) (hq : brdR fre sh ca fl p = (q, fre2)) :
    m.set i q = boardS ld sh ca fl l (i + 1) ∧ fre2 = ld - (cnt 1 sh ca (boardS ld sh ca fl l (i + 1)) : Int) := by
  rw [boardS_next hm hp]
  unfold brdR at hq
  by_cases c : (0 < fre ∧ isW 0 sh ca p = true) ∧ p.fr = fl
  · rw [if_pos c] at hq
    obtain ⟨rfl, rfl⟩ := Prod.mk.inj hq
    have w := c.1.2
    unfold isW at w
    simp only [Bool.and_eq_true, beq_iff_eq] at w
    have cc : (p.sh = sh ∧ p.ca = ca ∧ p.st = 0 ∧ p.fr = fl) ∧ (cnt 1 sh ca m : Int) < ld := ⟨⟨w.1.2, w.2, w.1.1, c.2⟩, by omega⟩
    rw [if_pos cc]
    refine ⟨rfl, ?_⟩
    rw [cnt_set hp (by simp [isIn, w.1.1]) (by simp [isIn, boardP, w.1.2, w.2])]
    omega
  · rw [if_neg c] at hq
    obtain ⟨rfl, rfl⟩ := Prod.mk.inj hq
    have cc : ¬ ((p.sh = sh ∧ p.ca = ca ∧ p.st = 0 ∧ p.fr = fl) ∧ (cnt 1 sh ca m : Int) < ld) := by
      intro k
      refine c ⟨⟨by omega, ?_⟩, k.1.2.2.2⟩
      simp [isW, k.1.1, k.1.2.1, k.1.2.2.1]
    rw [if_neg cc]
    exact ⟨set_same hp, hf.symm⟩
set_option maxRecDepth 20000 in
set_option maxHeartbeats 16000000 in
theorem changed_board (x : Lg) (a : Option Addr) (cap : Nat) (ld sh ca fl : Int) (d1 : 0 ≤ ld) (d2 : ld ≤ 20) (s1 : 0 ≤ sh) (fb b1 b2 b3 : Nat) (m1 : fb ≠ b1) (m2 : fb ≠ b2) (m3 : fb ≠ b3) (hl : x.ps.length ≤ 1048576) (w : World) (hP : PIn w w.heap.size a x.ps) (C0 : Hid (FC w fb (ld - (cnt 1 sh ca x.ps : Int)))) (C1 : Hid (Cel w b1 0 (.int .i64 sh))) (C2 : Hid (Cel w b2 0 (.int .i64 ca))) (C3 : Hid (Cel w b3 0 (.int .i64 fl))) :
    Calls Try.prog 16 #[.agg #[.int .i64 x.nx, .slice a x.ps.length cap], .func (.func 17) #[] #[.pointer (some ⟨fb, 0, none⟩), .pointer (some ⟨b1, 0, none⟩), .pointer (some ⟨b2, 0, none⟩), .pointer (some ⟨b3, 0, none⟩)]] w (fun e w' => ∃ v, e = .returned (.agg #[.int .i64 0, .int .i64 0, .int .i64 x.nx, v]) ∧ Own w' w.heap.size v (boardS ld sh ca fl x.ps x.ps.length) ∧ w.grownBy w' (some fb)) := by
  have kC1 := C1.out.lt
  have kC2 := C2.out.lt
  have kC3 := C3.out.lt
  have kC0 := C0.out.lt
  go_enter Try.func16, Try.ntmps16
  go_upto_region 1 with fail
  obtain ⟨W0, hW0⟩ : ∃ W0, W0 = ((w.alloc (.cells #[.int .i64 x.nx, .slice a x.ps.length cap] 28)).alloc (.cells #[.int .i64 0, .int .i64 0, .int .i64 0, .slice none 0 0] 32)) := ⟨_, rfl⟩
  have FL : Hid (LW W0 w.heap.size x.nx (.slice a x.ps.length cap)) := by rw [hW0]; exact (LW.at_ w x.nx _ _ _ rfl).alloc _
  have FR : Hid (RL W0 (w.heap.size + 1)) := by rw [hW0]; exact RL.at_ _ _ _ (by simp)
  have C1 : Hid (Cel W0 b1 0 (.int .i64 sh)) := by rw [hW0]; exact (C1.out.alloc _).alloc _
  have C2 : Hid (Cel W0 b2 0 (.int .i64 ca)) := by rw [hW0]; exact (C2.out.alloc _).alloc _
  have C3 : Hid (Cel W0 b3 0 (.int .i64 fl)) := by rw [hW0]; exact (C3.out.alloc _).alloc _
  have C0 : Hid (FC W0 fb (ld - (cnt 1 sh ca x.ps : Int))) := by rw [hW0]; exact (C0.out.alloc _).alloc _
  have FB : Hid (Below w.heap.size w W0) := by rw [hW0]; exact ((Below.refl _ _).alloc (Nat.le_refl _) _).alloc (by simp) _
  have FG : Hid (w.grownBy W0 (some fb)) := by rw [hW0]; exact grown_trans (grown_new _ _ fb) (grown_new _ _ fb)
  rw [← hW0]
  clear hW0
  obtain ⟨v0, v1, v2, v3⟩ := FL.out
  go_upto_region 2 with (go_at_call 37; refine (copied_any x.ps a cap x.ps.length hl (Nat.le_refl _) _ ((hP.below FB.out (Nat.le_refl _)).mono FB.out.size)).mono ?_; rintro e w1 ⟨g, rfl, ho, hb⟩; have lgr : w.heap.size + 1 < g := Nat.lt_of_lt_of_le FR.out.lt ho.bl.1; have FO : Hid (Ow w1 w.heap.size g x.ps.length x.ps.length x.ps) := (by have q := ho.base FB.out.size; rw [Nat.sub_self, List.replicate_zero, List.append_nil] at q; exact q); have FL : Hid (LW w1 w.heap.size x.nx (.slice a x.ps.length cap)) := FL.out.below hb FL.out.lt; have FR : Hid (RL w1 (w.heap.size + 1)) := FR.out.below hb FR.out.lt; have C1 : Hid (Cel w1 b1 0 (.int .i64 sh)) := C1.out.below hb C1.out.lt; have C2 : Hid (Cel w1 b2 0 (.int .i64 ca)) := C2.out.below hb C2.out.lt; have C3 : Hid (Cel w1 b3 0 (.int .i64 fl)) := C3.out.below hb C3.out.lt; have C0 : Hid (FC w1 fb (ld - (cnt 1 sh ca x.ps : Int))) := C0.out.below hb C0.out.lt; have FB : Hid (Below w.heap.size w w1) := FB.out.trans (hb.mono FB.out.size); have FG : Hid (w.grownBy w1 (some fb)) := gr_below FG.out hb; clear ho hb; obtain ⟨v0, v1, v2, v3⟩ := FL.out)
  go_wp2_with fail
  go_loopw [16] (fun ii wr => ∃ i : Nat, ii = .int .i64 i ∧ i ≤ x.ps.length ∧ Ow wr w.heap.size g x.ps.length x.ps.length (boardS ld sh ca fl x.ps i) ∧ LW wr w.heap.size x.nx (.slice a x.ps.length cap) ∧ RL wr (w.heap.size + 1) ∧ Cel wr b1 0 (.int .i64 sh) ∧ Cel wr b2 0 (.int .i64 ca) ∧ Cel wr b3 0 (.int .i64 fl) ∧ FC wr fb (ld - (cnt 1 sh ca (boardS ld sh ca fl x.ps i) : Int)) ∧ w.grownBy wr (some fb)) (fun ii _ => x.ps.length - (intOf ii).toNat)
  case atStart => exact ⟨0, rfl, by omega, by exact FO.out, FL.out, FR.out, C1.out, C2.out, C3.out, C0.out, FG.out⟩
  case round =>
    obtain ⟨i, rfl, hi, hFO, hFL, hFR, hC1, hC2, hC3, hC0, hFB⟩ := hrel
    clear FO FL FR C1 C2 C3 C0 FG FB
    obtain ⟨m, hm⟩ : ∃ m, boardS ld sh ca fl x.ps i = m := ⟨_, rfl⟩
    rw [hm] at hFO hC0
    have HM : Hid (boardS ld sh ca fl x.ps i = m) := hm
    have FO : Hid (Ow wr w.heap.size g x.ps.length x.ps.length m) := hFO
    have FL : Hid (LW wr w.heap.size x.nx (.slice a x.ps.length cap)) := hFL
    have FR : Hid (RL wr (w.heap.size + 1)) := hFR
    have C1 : Hid (Cel wr b1 0 (.int .i64 sh)) := hC1
    have C2 : Hid (Cel wr b2 0 (.int .i64 ca)) := hC2
    have C3 : Hid (Cel wr b3 0 (.int .i64 fl)) := hC3
    obtain ⟨fre, hfre⟩ : ∃ fre, ld - (cnt 1 sh ca m : Int) = fre := ⟨_, rfl⟩
    rw [hfre] at hC0
    have HF : Hid (ld - (cnt 1 sh ca m : Int) = fre) := hfre
    have C0 : Hid (FC wr fb fre) := hC0
    have hcm : cnt 1 sh ca m ≤ 1048576 := Nat.le_trans List.countP_le_length (by rw [FO.out.1]; omega)
    have fre1 : -2000000 ≤ fre ∧ fre ≤ 20 := by omega
    clear hC0 hfre hcm
    have FG : Hid (w.grownBy wr (some fb)) := hFB
    clear hFO hFL hFR hFB hm hC1 hC2 hC3
    by_cases hlt : i < x.ps.length
    · obtain ⟨p, hz⟩ : ∃ p, m[i]? = some p := ⟨_, List.getElem?_eq_getElem (by rw [FO.out.1]; omega)⟩
      obtain ⟨q, fre2, hq⟩ : ∃ q fre2, brdR fre sh ca fl p = (q, fre2) := ⟨_, _, rfl⟩
      have HB : Hid (brdR fre sh ca fl p = (q, fre2)) := hq
      have HX : Hid (m.set i q = boardS ld sh ca fl x.ps (i + 1) ∧ fre2 = ld - (cnt 1 sh ca (boardS ld sh ca fl x.ps (i + 1)) : Int)) := brd_step s1 HM.out hz HF.out hq
      have HE : Hid (m.set i q = boardS ld sh ca fl x.ps (i + 1)) := HX.out.1
      have HE2 : Hid (fre2 = ld - (cnt 1 sh ca (boardS ld sh ca fl x.ps (i + 1)) : Int)) := HX.out.2
      clear hq
      obtain ⟨d0, d1, d2, d3, d4, d5, d6⟩ := FO.out.p7 hz
      go_upto_region 5 with fail
      obtain ⟨pb, hpb⟩ : ∃ pb, pb = wr.heap.size := ⟨_, rfl⟩
      have lp : g < pb := by rw [hpb]; exact FO.out.bl.2
      have lc := C0.out.lt
      rw [← hpb] at lc
      obtain ⟨W1, hW1⟩ : ∃ W1, W1 = wr.alloc (.cells #[.int .i64 p.id, .int .i64 p.fr, .int .i64 p.tw, .int .i64 p.sh, .int .i64 p.ca, .int .i64 p.st, .int .i64 p.pl] 42) := ⟨_, rfl⟩
      have FO : Hid (Ow W1 w.heap.size g x.ps.length x.ps.length m) := by rw [hW1]; exact FO.out.alloc _
      have FL : Hid (LW W1 w.heap.size x.nx (.slice a x.ps.length cap)) := by rw [hW1]; exact FL.out.alloc _
      have FR : Hid (RL W1 (w.heap.size + 1)) := by rw [hW1]; exact FR.out.alloc _
      have C1 : Hid (Cel W1 b1 0 (.int .i64 sh)) := by rw [hW1]; exact C1.out.alloc _
      have C2 : Hid (Cel W1 b2 0 (.int .i64 ca)) := by rw [hW1]; exact C2.out.alloc _
      have C3 : Hid (Cel W1 b3 0 (.int .i64 fl)) := by rw [hW1]; exact C3.out.alloc _
      have C0 : Hid (FC W1 fb fre) := by rw [hW1]; exact C0.out.alloc _
      have F3 : Hid (P7 W1 pb 0 p) := by rw [hW1]; exact P7.at_ wr p _ _ hpb
      have FG : Hid (w.grownBy W1 (some fb)) := by rw [hW1]; exact grown_trans FG.out (grown_new _ _ fb)
      rw [← hW1]
      clear hW1
      rw [← hpb]
      clear hpb d0 d1 d2 d3 d4 d5 d6
      obtain ⟨z0, z1, z2, z3, z4, z5, z6⟩ := F3.out
      go_wp2_with (go_at_call 17; refine (board1_any p fre sh ca fl fre1.1 fre1.2 fb b1 b2 b3 _ C0 C1 C2 C3).mono ?_; rw [HB.out]; rintro e w2 ⟨rfl, hc, hg⟩; have FL : Hid (LW w2 w.heap.size x.nx (.slice a x.ps.length cap)) := FL.out.grown hg (fun e => by have e2 := Option.some.inj e; omega); have FR : Hid (RL w2 (w.heap.size + 1)) := FR.out.grown hg (fun e => by have e2 := Option.some.inj e; omega); have C1 : Hid (Cel w2 b1 0 (.int .i64 sh)) := C1.out.grown hg (fun e => by have e2 := Option.some.inj e; omega); have C2 : Hid (Cel w2 b2 0 (.int .i64 ca)) := C2.out.grown hg (fun e => by have e2 := Option.some.inj e; omega); have C3 : Hid (Cel w2 b3 0 (.int .i64 fl)) := C3.out.grown hg (fun e => by have e2 := Option.some.inj e; omega); have FO : Hid (Ow w2 w.heap.size g x.ps.length x.ps.length m) := FO.out.kept hg (fun e => by have e2 := Option.some.inj e; omega); have C0 : Hid (FC w2 fb fre2) := hc; have FG : Hid (w.grownBy w2 (some fb)) := grown_trans FG.out hg; clear hg hc; obtain ⟨d0, d1, d2, d3, d4, d5, d6⟩ := FO.out.p7 hz; have f0 := FO.out.fz (i * 7); have f1 := FO.out.fz (i * 7 + 1); have f2 := FO.out.fz (i * 7 + 2); have f3 := FO.out.fz (i * 7 + 3); have f4 := FO.out.fz (i * 7 + 4); have f5 := FO.out.fz (i * 7 + 5); have f6 := FO.out.fz (i * 7 + 6))
      go_roundw
      case rel => exact ⟨i + 1, by simp, by omega, HE.out ▸ FO.out.put _ hz, FL.out.below (below_putP (Below.refl g _) (Nat.le_refl _) _ _) (by omega), FR.out.below (below_putP (Below.refl g _) (Nat.le_refl _) _ _) (by omega), C1.out.below (below_putP (Below.refl g _) (Nat.le_refl _) _ _) (by omega), C2.out.below (below_putP (Below.refl g _) (Nat.le_refl _) _ _) (by omega), C3.out.below (below_putP (Below.refl g _) (Nat.le_refl _) _ _) (by omega), HE2.out ▸ C0.out.putP (by omega) _ _, gr_put FG.out (by omega) _ _⟩
      case measure => simp [intOf]; omega
    · have ei : i = x.ps.length := by omega
      subst ei
      have HM2 : Hid (m = boardS ld sh ca fl x.ps x.ps.length) := by
        rw [← HM.out]
        exact rfl
      have FO : Hid (Ow wr w.heap.size g x.ps.length x.ps.length (boardS ld sh ca fl x.ps x.ps.length)) := HM2.out ▸ FO.out
      obtain ⟨v0, v1, v2, v3⟩ := FL.out
      obtain ⟨r0, r1, r2, r3, s0, s1', s2, s3⟩ := FR.out
      go_wp2_with fail
      exact bodyPost_ret (v := .agg #[.int .i64 0, .int .i64 0, .int .i64 x.nx, .slice (some ⟨g, 0, none⟩) x.ps.length x.ps.length]) (by simp [results, Try.results16, go_sem, r0, r1, r2, r3]) rfl ⟨_, rfl, ((((FO.out.other (by simp; omega) _).other (by simp; omega) _).other (by simp; omega) _).other (by simp; omega) _).own, gr_other (gr_other (gr_other (gr_other FG.out (by omega)) (by omega)) (by omega)) (by omega)⟩
end Go.Proofs.Ytoekhkolakielaa
