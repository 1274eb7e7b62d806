/-
  The program's ledger: are there too many?
-/
import Derived.Test.YtnfdplfifpmhoaaGreatDoorLedC
import Derived.Deep.RegionHeld3
import Derived.BigGuardPart
namespace Go.Proofs.YtnfdplfifpmhoaaGreatDoor
open Go.RowKit Pl
set_option linter.unusedSimpArgs false
set_option linter.unusedVariables false

/-- Six numbers in a block that may be written. -/
structure K6 (w : World) (b : Nat) (f : Nat → Int) : Prop where
  c : ∀ k, k < 6 → w.cell? ⟨b, k, none⟩ = some (.int .i64 (f k))
  z : ∀ k, k < 6 → w.frozen? ⟨b, k, none⟩ = false
theorem K6.lt {w : World} {b : Nat} {f : Nat → Int} (a : K6 w b f) : b < w.heap.size := World.block_lt_of_cell? w _ (a.c 0 (by omega))
theorem K6.below {W w : World} {b B : Nat} {f : Nat → Int} (a : K6 W b f) (hb : Below B W w) (hB : b < B) : K6 w b f := ⟨fun k hk => (hb.cell (p := ⟨b, k, none⟩) hB).trans (a.c k hk), fun k hk => (hb.frozen (p := ⟨b, k, none⟩) hB).trans (a.z k hk)⟩
theorem K6.alloc {W : World} {b : Nat} {f : Nat → Int} (a : K6 W b f) (ob : Obj) : K6 (W.alloc ob) b f := a.below ((Below.refl _ _).alloc (Nat.le_refl _) ob) a.lt
theorem K6.at_ (w : World) (T : TypeId) (b : Nat) (hb : b = w.heap.size) (f : Nat → Int) (h0 : ∀ k, f k = 0) : K6 (w.alloc (.cells #[.int .i64 0, .int .i64 0, .int .i64 0, .int .i64 0, .int .i64 0, .int .i64 0] T)) b f := by
  subst hb
  constructor
  · intro k hk
    rw [h0]
    have : k = 0 ∨ k = 1 ∨ k = 2 ∨ k = 3 ∨ k = 4 ∨ k = 5 := by omega
    rcases this with rfl | rfl | rfl | rfl | rfl | rfl <;> simp
  · intro k hk
    simp
theorem K6.set {W : World} {b : Nat} {f g : Nat → Int} (a : K6 W b f) {k0 : Nat} (hk0 : k0 < 6) {x : Int} (h1 : g k0 = x) (h2 : ∀ k, k ≠ k0 → g k = f k) : K6 (W.setCell ⟨b, k0, none⟩ (.int .i64 x)) b g := by
  constructor
  · intro k hk
    by_cases e : k = k0
    · subst e
      rw [World.cell?_setCell_same _ _ _ (a.c k hk), h1]
    · rw [World.cell?_setCell_other _ _ _ _ (fun q => e (congrArg Addr.off q).symm), a.c k hk, h2 k e]
  · intro k hk
    rw [World.frozen?_setCell]
    exact a.z k hk
theorem P7.other {W : World} {b o k o' : Nat} {u : Value} {p : Pe} (a : P7 W b o p) (hne : b ≠ k) : P7 (W.setCell ⟨k, o', none⟩ u) b o p := a.of (fun _ => World.cell?_setCell_other _ _ _ _ (fun e => hne (congrArg Addr.block e).symm))
/-- How many ride in a car. -/
def rc (l : List Pe) (k : Nat) : Int := (cnt 1 ((k / 2 : Nat) : Int) ((k % 2 : Nat) : Int) l : Int)
def Hs.crowd (h : Hs) (l : List Pe) : Bool := Hs.over h l || decide (h.qu < (cnt 0 (-1) 0 l : Int))
theorem rc_take {l : List Pe} {i : Nat} {p : Pe} (h : l[i]? = some p) (k : Nat) : rc (l.take (i + 1)) k = rc (l.take i) k + (if isIn 1 ((k / 2 : Nat) : Int) ((k % 2 : Nat) : Int) p = true then 1 else 0) := by
  unfold rc
  rw [cnt_take h]
  split <;> simp
theorem rc_le (l : List Pe) (i k : Nat) : 0 ≤ rc (l.take i) k ∧ rc (l.take i) k ≤ i := by
  unfold rc
  have := cnt_le 1 ((k / 2 : Nat) : Int) ((k % 2 : Nat) : Int) l i
  omega
theorem rc_mono (l : List Pe) (i k : Nat) : rc (l.take i) k ≤ rc l k := by
  unfold rc cnt
  have := List.Sublist.countP_le (p := isIn 1 ((k / 2 : Nat) : Int) ((k % 2 : Nat) : Int)) (List.take_sublist i l)
  omega
theorem over_yes {h : Hs} {l : List Pe} {i k : Nat} (hk : k < 6) (c : h.ld < rc (l.take i) k) : Hs.over h l = true := by
  unfold Hs.over
  rw [List.any_eq_true]
  refine ⟨k, by simp; exact hk, decide_eq_true (Int.lt_of_lt_of_le c (rc_mono l i k))⟩
theorem over_no {h : Hs} {l : List Pe} (c : ∀ k, k < 6 → rc l k ≤ h.ld) : Hs.over h l = false := by
  unfold Hs.over
  rw [List.any_eq_false]
  intro k hk
  simp at hk
  have := c k hk
  unfold rc at this
  simpa using this
set_option maxRecDepth 20000 in
set_option maxHeartbeats 16000000 in
theorem isCrowded_any (h : Hs) (d1 : 0 ≤ h.ld) (d2 : h.ld ≤ 20) (l : List Pe) (a : Option Addr) (cap : Nat) (hl : l.length ≤ 1048576) (hs : ∀ (i : Nat) (p : Pe), l[i]? = some p → (0 ≤ p.sh ∧ p.sh ≤ 2) ∧ (0 ≤ p.ca ∧ p.ca ≤ 1) ∧ (0 ≤ p.st ∧ p.st ≤ 4)) (w : World) (hP : PIn w w.heap.size a l) :
    Calls Tryz.prog 66 #[.agg #[.int .i64 h.fl, .int .i64 h.gp, .int .i64 h.ln, .int .i64 h.rf, .int .i64 h.sp, .int .i64 h.pu, .int .i64 h.br, .int .i64 h.dr, .int .i64 h.lv, .int .i64 h.dO, .int .i64 h.ld, .int .i64 h.qu], .slice a l.length cap] w fun e w' => e = .returned (.bool (Hs.crowd h l)) ∧ Below w.heap.size w w' := by
  have HP : Hid (PIn w w.heap.size a l) := hP
  have HS : Hid (∀ (i : Nat) (p : Pe), l[i]? = some p → (0 ≤ p.sh ∧ p.sh ≤ 2) ∧ (0 ≤ p.ca ∧ p.ca ≤ 1) ∧ (0 ≤ p.st ∧ p.st ≤ 4)) := hs
  have F0 : Hid (HAt ((w.alloc (.cells #[.int .i64 h.fl, .int .i64 h.gp, .int .i64 h.ln, .int .i64 h.rf, .int .i64 h.sp, .int .i64 h.pu, .int .i64 h.br, .int .i64 h.dr, .int .i64 h.lv, .int .i64 h.dO, .int .i64 h.ld, .int .i64 h.qu] 32)).alloc (.cells #[.int .i64 0, .int .i64 0, .int .i64 0, .int .i64 0, .int .i64 0, .int .i64 0] 122)) w.heap.size h) := (HAt.new w h _).below ((Below.refl _ _).alloc (Nat.le_refl _) _) (by simp)
  have F2 : Hid (K6 ((w.alloc (.cells #[.int .i64 h.fl, .int .i64 h.gp, .int .i64 h.ln, .int .i64 h.rf, .int .i64 h.sp, .int .i64 h.pu, .int .i64 h.br, .int .i64 h.dr, .int .i64 h.lv, .int .i64 h.dO, .int .i64 h.ld, .int .i64 h.qu] 32)).alloc (.cells #[.int .i64 0, .int .i64 0, .int .i64 0, .int .i64 0, .int .i64 0, .int .i64 0] 122)) (w.heap.size + 1) (rc (l.take 0))) := K6.at_ _ _ _ (by simp) _ (fun k => by simp [rc, cnt])
  have FB : Hid (Below w.heap.size w ((w.alloc (.cells #[.int .i64 h.fl, .int .i64 h.gp, .int .i64 h.ln, .int .i64 h.rf, .int .i64 h.sp, .int .i64 h.pu, .int .i64 h.br, .int .i64 h.dr, .int .i64 h.lv, .int .i64 h.dO, .int .i64 h.ld, .int .i64 h.qu] 32)).alloc (.cells #[.int .i64 0, .int .i64 0, .int .i64 0, .int .i64 0, .int .i64 0, .int .i64 0] 122))) := ((Below.refl _ _).alloc (Nat.le_refl _) _).alloc (by simp) _
  clear hP hs
  go_enter Tryz.func66, Tryz.ntmps66
  go_wp2_with fail
  go_loopw [10] (fun ii wr => ∃ i : Nat, ii = .int .i64 i ∧ i ≤ l.length ∧ HAt wr w.heap.size h ∧ K6 wr (w.heap.size + 1) (rc (l.take i)) ∧ (∀ k, k < 6 → rc (l.take i) k ≤ h.ld) ∧ Below w.heap.size w wr) (fun ii _ => l.length - (intOf ii).toNat)
  case atStart => exact ⟨0, rfl, by omega, F0.out, F2.out, fun k _ => (by simp [rc, cnt]; omega), FB.out⟩
  case round =>
    obtain ⟨i, rfl, hi, hF0, hF2, hok, hb⟩ := hrel
    have F0 : Hid (HAt wr w.heap.size h) := hF0
    have F2 : Hid (K6 wr (w.heap.size + 1) (rc (l.take i))) := hF2
    have HOK : Hid (∀ k, k < 6 → rc (l.take i) k ≤ h.ld) := hok
    have FB : Hid (Below w.heap.size w wr) := hb
    clear hF0 hF2 hok hb
    by_cases hlt : i < l.length
    · obtain ⟨p, hp⟩ : ∃ p, l[i]? = some p := ⟨_, List.getElem?_eq_getElem hlt⟩
      rcases HP.out with h0 | ⟨b, o, rfl, hbl, h7⟩
      · rw [h0] at hlt; simp at hlt
      obtain ⟨⟨s1, s2⟩, ⟨s3, s4⟩, -⟩ := HS.out i p hp
      obtain ⟨c0, c1, c2, c3, c4, c5, c6⟩ := (h7 i p hp).below FB.out hbl
      clear h7
      by_cases hst : p.st = 1
      · obtain ⟨id, fr, tw, sh, ca, st, pl⟩ := p
        dsimp only at s1 s2 s3 s4 hst c0 c1 c2 c3 c4 c5 c6
        subst hst
        have s : (sh = 0 ∧ ca = 0) ∨ (sh = 0 ∧ ca = 1) ∨ (sh = 1 ∧ ca = 0) ∨ (sh = 1 ∧ ca = 1) ∨ (sh = 2 ∧ ca = 0) ∨ (sh = 2 ∧ ca = 1) := by omega
        clear s1 s2 s3 s4
        rcases s with ⟨rfl, rfl⟩ | ⟨rfl, rfl⟩ | ⟨rfl, rfl⟩ | ⟨rfl, rfl⟩ | ⟨rfl, rfl⟩ | ⟨rfl, rfl⟩
        · have HX1 : Hid (rc (l.take (i + 1)) 0 = rc (l.take i) 0 + 1) := by
            rw [rc_take hp]
            simp [isIn]
            exact trivial
          have HX2 : Hid (∀ k, k ≠ 0 → rc (l.take (i + 1)) k = rc (l.take i) k) := by
            intro k hk
            rw [rc_take hp, if_neg, Int.add_zero]
            simp [isIn]
            omega
          have lx := rc_le l i 0
          have ew : IntKind.i64.wrap (rc (l.take i) 0 + 1) = rc (l.take i) 0 + 1 := IntWalk.i64_in _ (by omega)
          clear hp
          go_upto_region 6 with fail
          obtain ⟨pb, hpb⟩ : ∃ pb, pb = wr.heap.size := ⟨_, rfl⟩
          obtain ⟨W1, hW1⟩ : ∃ W1, W1 = wr.alloc (.cells #[.int .i64 id, .int .i64 fr, .int .i64 tw, .int .i64 0, .int .i64 0, .int .i64 1, .int .i64 pl] 58) := ⟨_, rfl⟩
          have lp : w.heap.size + 1 < pb := by rw [hpb]; exact F2.out.lt
          have F0 : Hid (HAt W1 w.heap.size h) := by rw [hW1]; exact F0.out.alloc _
          have F2 : Hid (K6 W1 (w.heap.size + 1) (rc (l.take i))) := by rw [hW1]; exact F2.out.alloc _
          have F3 : Hid (P7 W1 pb 0 ⟨id, fr, tw, 0, 0, 1, pl⟩) := by rw [hW1]; exact P7.at_ wr ⟨id, fr, tw, 0, 0, 1, pl⟩ _ _ hpb
          have FB : Hid (Below w.heap.size w W1) := by rw [hW1]; exact FB.out.alloc FB.out.size _
          rw [← hW1, ← hpb]
          clear hW1 hpb c0 c1 c2 c3 c4 c5 c6
          have F0 : Hid (HAt W1.drew w.heap.size h) := F0.out.below (Below.refl _ _).drew F0.out.lt
          have F2 : Hid (K6 W1.drew (w.heap.size + 1) (rc (l.take i))) := F2.out.below (Below.refl _ _).drew F2.out.lt
          have F3 : Hid (P7 W1.drew pb 0 ⟨id, fr, tw, 0, 0, 1, pl⟩) := F3.out.below (Below.refl _ _).drew F3.out.lt
          have FB : Hid (Below w.heap.size w W1.drew) := FB.out.drew
          have m3 := F3.out.c3
          have m4 := F3.out.c4
          refine wp_region_held_drew (S := (fun w'' => w''.cell? ⟨pb, 0 + 3, none⟩ = some (.int .i64 0) ∧ w''.cell? ⟨pb, 0 + 4, none⟩ = some (.int .i64 0))) (by kernel_rfl) (by (try dsimp only); first | exact ⟨m3, m4⟩ | go_keep) (fun hHeld => ?_)
          obtain ⟨v_1, hw1⟩ : ∃ v_1, v_1 = W1.drew := ⟨_, rfl⟩
          have F0 : Hid (HAt v_1 w.heap.size h) := by rw [hw1]; exact F0.out
          have F2 : Hid (K6 v_1 (w.heap.size + 1) (rc (l.take i))) := by rw [hw1]; exact F2.out
          have F3 : Hid (P7 v_1 pb 0 ⟨id, fr, tw, 0, 0, 1, pl⟩) := by rw [hw1]; exact F3.out
          have FB : Hid (Below w.heap.size w v_1) := by rw [hw1]; exact FB.out
          rw [← hw1] at hHeld ⊢
          clear hw1
          have m3 := F3.out.c3
          have m4 := F3.out.c4
          refine tkz 0 rfl ?_
          refine tkz 1 rfl ?_
          refine tkz 2 rfl ?_
          refine tkz 3 rfl ?_
          refine tkz 4 rfl ?_
          refine tkz 5 rfl ?_
          refine tkz 8 rfl ?_
          refine wpAnyH_ready (rs := [6]) (by kernel_rfl) (by simp) ?_
          refine (AllReadyH.cons rfl (fun K hK => ?_) AllReadyH.nil)
          have q0 := F2.out.c 0 (by omega)
          go_simp
          refine hK.out _ _ (by (try dsimp only); first | exact ⟨m3, m4⟩ | go_keep) (fun hHeld => ?_)
          clear hK K
          try simp only [Act.put, List.getElem_toArray, List.getElem_cons_succ, List.getElem_cons_zero, List.setIfInBounds_toArray, List.set_cons_zero, List.set_cons_succ]
          refine tkz 7 rfl ?_
          refine tkz 9 rfl ?_
          refine wpAnyH_ready (rs := [10]) (by kernel_rfl) (by simp) ?_
          refine (AllReadyH.cons rfl (fun K hK => ?_) AllReadyH.nil)
          have q1 := F2.out.c 0 (by omega)
          have q2 := F2.out.z 0 (by omega)
          go_simp
          obtain ⟨v_2, hw2⟩ : ∃ v_2, v_2 = v_1.setCell ⟨w.heap.size + 1, 0, none⟩ (.int .i64 (rc (l.take i) 0 + 1)) := ⟨_, rfl⟩
          change K _ (v_1.setCell ⟨w.heap.size + 1, 0, none⟩ (.int .i64 (rc (l.take i) 0 + 1)))
          rw [← hw2]
          clear q1 q2
          have F0 : Hid (HAt v_2 w.heap.size h) := by rw [hw2]; exact F0.out.below ((Below.refl (w.heap.size + 1) _).setCell (Nat.le_refl _) _) (by omega)
          have F2 : Hid (K6 v_2 (w.heap.size + 1) (rc (l.take (i + 1)))) := by rw [hw2]; exact F2.out.set (k0 := 0) (by omega) HX1.out HX2.out
          have F3 : Hid (P7 v_2 pb 0 ⟨id, fr, tw, 0, 0, 1, pl⟩) := by rw [hw2]; exact F3.out.other (by omega)
          have FB : Hid (Below w.heap.size w v_2) := by rw [hw2]; exact FB.out.setCell (show w.heap.size ≤ w.heap.size + 1 by omega) _
          clear hw2
          have m3 := F3.out.c3
          have m4 := F3.out.c4
          refine hK.out _ _ (by (try dsimp only); first | exact ⟨m3, m4⟩ | go_keep) (fun hHeld => ?_)
          clear hK K
          try simp only [Act.put, List.getElem_toArray, List.getElem_cons_succ, List.getElem_cons_zero, List.setIfInBounds_toArray, List.set_cons_zero, List.set_cons_succ]
          refine wpAnyH_done (by kernel_rfl) ?_ _
          go_wp2_with fail
          obtain ⟨W2, hW_⟩ : ∃ W2, W2 = v_2 := ⟨_, rfl⟩
          have F0 : Hid (HAt W2 w.heap.size h) := by rw [hW_]; exact F0.out
          have F2 : Hid (K6 W2 (w.heap.size + 1) (rc (l.take (i + 1)))) := by rw [hW_]; exact F2.out
          have F3 : Hid (P7 W2 pb 0 ⟨id, fr, tw, 0, 0, 1, pl⟩) := by rw [hW_]; exact F3.out
          have FB : Hid (Below w.heap.size w W2) := by rw [hW_]; exact FB.out
          rw [← hW_]
          clear hW_
          by_cases kl : h.ld < rc (l.take (i + 1)) 0
          · have HV : Hid (Hs.crowd h l = true) := by
              unfold Hs.crowd
              rw [over_yes (i := i + 1) (k := 0) (by omega) kl]
              exact rfl
            have bk : decide (h.ld < rc (l.take (i + 1)) 0) = true := decide_eq_true kl
            clear kl
            have F0 : Hid (HAt W2.drew w.heap.size h) := F0.out.below (Below.refl _ _).drew F0.out.lt
            have F2 : Hid (K6 W2.drew (w.heap.size + 1) (rc (l.take (i + 1)))) := F2.out.below (Below.refl _ _).drew F2.out.lt
            have F3 : Hid (P7 W2.drew pb 0 ⟨id, fr, tw, 0, 0, 1, pl⟩) := F3.out.below (Below.refl _ _).drew F3.out.lt
            have FB : Hid (Below w.heap.size w W2.drew) := FB.out.drew
            have m3 := F3.out.c3
            have m4 := F3.out.c4
            have mk := F2.out.c 0 (by omega)
            have ml := F0.out.c10
            refine wp_region_held_drew (S := (fun w'' => w''.cell? ⟨pb, 0 + 3, none⟩ = some (.int .i64 0) ∧ w''.cell? ⟨pb, 0 + 4, none⟩ = some (.int .i64 0) ∧ w''.cell? ⟨(w.heap.size + 1), 0, none⟩ = some (.int .i64 (rc (l.take (i + 1)) 0)) ∧ w''.cell? ⟨w.heap.size, 10, none⟩ = some (.int .i64 h.ld))) (by kernel_rfl) (by (try dsimp only); first | exact ⟨m3, m4, mk, ml⟩ | go_keep) (fun hHeld => ?_)
            obtain ⟨v_3, hw1⟩ : ∃ v_3, v_3 = W2.drew := ⟨_, rfl⟩
            have F0 : Hid (HAt v_3 w.heap.size h) := by rw [hw1]; exact F0.out
            have F2 : Hid (K6 v_3 (w.heap.size + 1) (rc (l.take (i + 1)))) := by rw [hw1]; exact F2.out
            have F3 : Hid (P7 v_3 pb 0 ⟨id, fr, tw, 0, 0, 1, pl⟩) := by rw [hw1]; exact F3.out
            have FB : Hid (Below w.heap.size w v_3) := by rw [hw1]; exact FB.out
            rw [← hw1] at hHeld ⊢
            clear hw1
            have m3 := F3.out.c3
            have m4 := F3.out.c4
            have mk := F2.out.c 0 (by omega)
            have ml := F0.out.c10
            refine tkz 0 rfl ?_
            refine tkz 1 rfl ?_
            refine tkz 2 rfl ?_
            refine tkz 3 rfl ?_
            refine tkz 4 rfl ?_
            refine tkz 5 rfl ?_
            refine tkz 6 rfl ?_
            refine tkz 7 rfl ?_
            refine tkz 8 rfl ?_
            refine tkz 9 rfl ?_
            refine wpAnyH_done (by kernel_rfl) ?_ _
            go_wp2_with fail
            go_ret
            exact ⟨ret_b HV.out.symm, FB.out⟩
          · have HN : Hid (∀ k, k < 6 → rc (l.take (i + 1)) k ≤ h.ld) := by
              intro j hj
              by_cases e : j = 0
              · subst e; exact Int.not_lt.1 kl
              · rw [HX2.out j e]; exact HOK.out j hj
            have bk : decide (h.ld < rc (l.take (i + 1)) 0) = false := decide_eq_false kl
            clear kl
            have F0 : Hid (HAt W2.drew w.heap.size h) := F0.out.below (Below.refl _ _).drew F0.out.lt
            have F2 : Hid (K6 W2.drew (w.heap.size + 1) (rc (l.take (i + 1)))) := F2.out.below (Below.refl _ _).drew F2.out.lt
            have F3 : Hid (P7 W2.drew pb 0 ⟨id, fr, tw, 0, 0, 1, pl⟩) := F3.out.below (Below.refl _ _).drew F3.out.lt
            have FB : Hid (Below w.heap.size w W2.drew) := FB.out.drew
            have m3 := F3.out.c3
            have m4 := F3.out.c4
            have mk := F2.out.c 0 (by omega)
            have ml := F0.out.c10
            refine wp_region_held_drew (S := (fun w'' => w''.cell? ⟨pb, 0 + 3, none⟩ = some (.int .i64 0) ∧ w''.cell? ⟨pb, 0 + 4, none⟩ = some (.int .i64 0) ∧ w''.cell? ⟨(w.heap.size + 1), 0, none⟩ = some (.int .i64 (rc (l.take (i + 1)) 0)) ∧ w''.cell? ⟨w.heap.size, 10, none⟩ = some (.int .i64 h.ld))) (by kernel_rfl) (by (try dsimp only); first | exact ⟨m3, m4, mk, ml⟩ | go_keep) (fun hHeld => ?_)
            obtain ⟨v_4, hw1⟩ : ∃ v_4, v_4 = W2.drew := ⟨_, rfl⟩
            have F0 : Hid (HAt v_4 w.heap.size h) := by rw [hw1]; exact F0.out
            have F2 : Hid (K6 v_4 (w.heap.size + 1) (rc (l.take (i + 1)))) := by rw [hw1]; exact F2.out
            have F3 : Hid (P7 v_4 pb 0 ⟨id, fr, tw, 0, 0, 1, pl⟩) := by rw [hw1]; exact F3.out
            have FB : Hid (Below w.heap.size w v_4) := by rw [hw1]; exact FB.out
            rw [← hw1] at hHeld ⊢
            clear hw1
            have m3 := F3.out.c3
            have m4 := F3.out.c4
            have mk := F2.out.c 0 (by omega)
            have ml := F0.out.c10
            refine tkz 0 rfl ?_
            refine tkz 1 rfl ?_
            refine tkz 2 rfl ?_
            refine tkz 3 rfl ?_
            refine tkz 4 rfl ?_
            refine tkz 5 rfl ?_
            refine tkz 6 rfl ?_
            refine tkz 7 rfl ?_
            refine tkz 8 rfl ?_
            refine tkz 9 rfl ?_
            refine wpAnyH_done (by kernel_rfl) ?_ _
            go_wp2_with fail
            go_roundw
            case rel => exact ⟨i + 1, by simp, by omega, F0.out, F2.out, HN.out, FB.out⟩
            case measure => simp [intOf]; omega
        · have HX1 : Hid (rc (l.take (i + 1)) 1 = rc (l.take i) 1 + 1) := by
            rw [rc_take hp]
            simp [isIn]
            exact trivial
          have HX2 : Hid (∀ k, k ≠ 1 → rc (l.take (i + 1)) k = rc (l.take i) k) := by
            intro k hk
            rw [rc_take hp, if_neg, Int.add_zero]
            simp [isIn]
            omega
          have lx := rc_le l i 1
          have ew : IntKind.i64.wrap (rc (l.take i) 1 + 1) = rc (l.take i) 1 + 1 := IntWalk.i64_in _ (by omega)
          clear hp
          go_upto_region 6 with fail
          obtain ⟨pb, hpb⟩ : ∃ pb, pb = wr.heap.size := ⟨_, rfl⟩
          obtain ⟨W1, hW1⟩ : ∃ W1, W1 = wr.alloc (.cells #[.int .i64 id, .int .i64 fr, .int .i64 tw, .int .i64 0, .int .i64 1, .int .i64 1, .int .i64 pl] 58) := ⟨_, rfl⟩
          have lp : w.heap.size + 1 < pb := by rw [hpb]; exact F2.out.lt
          have F0 : Hid (HAt W1 w.heap.size h) := by rw [hW1]; exact F0.out.alloc _
          have F2 : Hid (K6 W1 (w.heap.size + 1) (rc (l.take i))) := by rw [hW1]; exact F2.out.alloc _
          have F3 : Hid (P7 W1 pb 0 ⟨id, fr, tw, 0, 1, 1, pl⟩) := by rw [hW1]; exact P7.at_ wr ⟨id, fr, tw, 0, 1, 1, pl⟩ _ _ hpb
          have FB : Hid (Below w.heap.size w W1) := by rw [hW1]; exact FB.out.alloc FB.out.size _
          rw [← hW1, ← hpb]
          clear hW1 hpb c0 c1 c2 c3 c4 c5 c6
          have F0 : Hid (HAt W1.drew w.heap.size h) := F0.out.below (Below.refl _ _).drew F0.out.lt
          have F2 : Hid (K6 W1.drew (w.heap.size + 1) (rc (l.take i))) := F2.out.below (Below.refl _ _).drew F2.out.lt
          have F3 : Hid (P7 W1.drew pb 0 ⟨id, fr, tw, 0, 1, 1, pl⟩) := F3.out.below (Below.refl _ _).drew F3.out.lt
          have FB : Hid (Below w.heap.size w W1.drew) := FB.out.drew
          have m3 := F3.out.c3
          have m4 := F3.out.c4
          refine wp_region_held_drew (S := (fun w'' => w''.cell? ⟨pb, 0 + 3, none⟩ = some (.int .i64 0) ∧ w''.cell? ⟨pb, 0 + 4, none⟩ = some (.int .i64 1))) (by kernel_rfl) (by (try dsimp only); first | exact ⟨m3, m4⟩ | go_keep) (fun hHeld => ?_)
          obtain ⟨v_5, hw1⟩ : ∃ v_5, v_5 = W1.drew := ⟨_, rfl⟩
          have F0 : Hid (HAt v_5 w.heap.size h) := by rw [hw1]; exact F0.out
          have F2 : Hid (K6 v_5 (w.heap.size + 1) (rc (l.take i))) := by rw [hw1]; exact F2.out
          have F3 : Hid (P7 v_5 pb 0 ⟨id, fr, tw, 0, 1, 1, pl⟩) := by rw [hw1]; exact F3.out
          have FB : Hid (Below w.heap.size w v_5) := by rw [hw1]; exact FB.out
          rw [← hw1] at hHeld ⊢
          clear hw1
          have m3 := F3.out.c3
          have m4 := F3.out.c4
          refine tkz 0 rfl ?_
          refine tkz 1 rfl ?_
          refine tkz 2 rfl ?_
          refine tkz 3 rfl ?_
          refine tkz 4 rfl ?_
          refine tkz 5 rfl ?_
          refine tkz 8 rfl ?_
          refine wpAnyH_ready (rs := [6]) (by kernel_rfl) (by simp) ?_
          refine (AllReadyH.cons rfl (fun K hK => ?_) AllReadyH.nil)
          have q0 := F2.out.c 1 (by omega)
          go_simp
          refine hK.out _ _ (by (try dsimp only); first | exact ⟨m3, m4⟩ | go_keep) (fun hHeld => ?_)
          clear hK K
          try simp only [Act.put, List.getElem_toArray, List.getElem_cons_succ, List.getElem_cons_zero, List.setIfInBounds_toArray, List.set_cons_zero, List.set_cons_succ]
          refine tkz 7 rfl ?_
          refine tkz 9 rfl ?_
          refine wpAnyH_ready (rs := [10]) (by kernel_rfl) (by simp) ?_
          refine (AllReadyH.cons rfl (fun K hK => ?_) AllReadyH.nil)
          have q1 := F2.out.c 1 (by omega)
          have q2 := F2.out.z 1 (by omega)
          go_simp
          obtain ⟨v_6, hw2⟩ : ∃ v_6, v_6 = v_5.setCell ⟨w.heap.size + 1, 1, none⟩ (.int .i64 (rc (l.take i) 1 + 1)) := ⟨_, rfl⟩
          change K _ (v_5.setCell ⟨w.heap.size + 1, 1, none⟩ (.int .i64 (rc (l.take i) 1 + 1)))
          rw [← hw2]
          clear q1 q2
          have F0 : Hid (HAt v_6 w.heap.size h) := by rw [hw2]; exact F0.out.below ((Below.refl (w.heap.size + 1) _).setCell (Nat.le_refl _) _) (by omega)
          have F2 : Hid (K6 v_6 (w.heap.size + 1) (rc (l.take (i + 1)))) := by rw [hw2]; exact F2.out.set (k0 := 1) (by omega) HX1.out HX2.out
          have F3 : Hid (P7 v_6 pb 0 ⟨id, fr, tw, 0, 1, 1, pl⟩) := by rw [hw2]; exact F3.out.other (by omega)
          have FB : Hid (Below w.heap.size w v_6) := by rw [hw2]; exact FB.out.setCell (show w.heap.size ≤ w.heap.size + 1 by omega) _
          clear hw2
          have m3 := F3.out.c3
          have m4 := F3.out.c4
          refine hK.out _ _ (by (try dsimp only); first | exact ⟨m3, m4⟩ | go_keep) (fun hHeld => ?_)
          clear hK K
          try simp only [Act.put, List.getElem_toArray, List.getElem_cons_succ, List.getElem_cons_zero, List.setIfInBounds_toArray, List.set_cons_zero, List.set_cons_succ]
          refine wpAnyH_done (by kernel_rfl) ?_ _
          go_wp2_with fail
          obtain ⟨W2, hW_⟩ : ∃ W2, W2 = v_6 := ⟨_, rfl⟩
          have F0 : Hid (HAt W2 w.heap.size h) := by rw [hW_]; exact F0.out
          have F2 : Hid (K6 W2 (w.heap.size + 1) (rc (l.take (i + 1)))) := by rw [hW_]; exact F2.out
          have F3 : Hid (P7 W2 pb 0 ⟨id, fr, tw, 0, 1, 1, pl⟩) := by rw [hW_]; exact F3.out
          have FB : Hid (Below w.heap.size w W2) := by rw [hW_]; exact FB.out
          rw [← hW_]
          clear hW_
          by_cases kl : h.ld < rc (l.take (i + 1)) 1
          · have HV : Hid (Hs.crowd h l = true) := by
              unfold Hs.crowd
              rw [over_yes (i := i + 1) (k := 1) (by omega) kl]
              exact rfl
            have bk : decide (h.ld < rc (l.take (i + 1)) 1) = true := decide_eq_true kl
            clear kl
            have F0 : Hid (HAt W2.drew w.heap.size h) := F0.out.below (Below.refl _ _).drew F0.out.lt
            have F2 : Hid (K6 W2.drew (w.heap.size + 1) (rc (l.take (i + 1)))) := F2.out.below (Below.refl _ _).drew F2.out.lt
            have F3 : Hid (P7 W2.drew pb 0 ⟨id, fr, tw, 0, 1, 1, pl⟩) := F3.out.below (Below.refl _ _).drew F3.out.lt
            have FB : Hid (Below w.heap.size w W2.drew) := FB.out.drew
            have m3 := F3.out.c3
            have m4 := F3.out.c4
            have mk := F2.out.c 1 (by omega)
            have ml := F0.out.c10
            refine wp_region_held_drew (S := (fun w'' => w''.cell? ⟨pb, 0 + 3, none⟩ = some (.int .i64 0) ∧ w''.cell? ⟨pb, 0 + 4, none⟩ = some (.int .i64 1) ∧ w''.cell? ⟨(w.heap.size + 1), 1, none⟩ = some (.int .i64 (rc (l.take (i + 1)) 1)) ∧ w''.cell? ⟨w.heap.size, 10, none⟩ = some (.int .i64 h.ld))) (by kernel_rfl) (by (try dsimp only); first | exact ⟨m3, m4, mk, ml⟩ | go_keep) (fun hHeld => ?_)
            obtain ⟨v_7, hw1⟩ : ∃ v_7, v_7 = W2.drew := ⟨_, rfl⟩
            have F0 : Hid (HAt v_7 w.heap.size h) := by rw [hw1]; exact F0.out
            have F2 : Hid (K6 v_7 (w.heap.size + 1) (rc (l.take (i + 1)))) := by rw [hw1]; exact F2.out
            have F3 : Hid (P7 v_7 pb 0 ⟨id, fr, tw, 0, 1, 1, pl⟩) := by rw [hw1]; exact F3.out
            have FB : Hid (Below w.heap.size w v_7) := by rw [hw1]; exact FB.out
            rw [← hw1] at hHeld ⊢
            clear hw1
            have m3 := F3.out.c3
            have m4 := F3.out.c4
            have mk := F2.out.c 1 (by omega)
            have ml := F0.out.c10
            refine tkz 0 rfl ?_
            refine tkz 1 rfl ?_
            refine tkz 2 rfl ?_
            refine tkz 3 rfl ?_
            refine tkz 4 rfl ?_
            refine tkz 5 rfl ?_
            refine tkz 6 rfl ?_
            refine tkz 7 rfl ?_
            refine tkz 8 rfl ?_
            refine tkz 9 rfl ?_
            refine wpAnyH_done (by kernel_rfl) ?_ _
            go_wp2_with fail
            go_ret
            exact ⟨ret_b HV.out.symm, FB.out⟩
          · have HN : Hid (∀ k, k < 6 → rc (l.take (i + 1)) k ≤ h.ld) := by
              intro j hj
              by_cases e : j = 1
              · subst e; exact Int.not_lt.1 kl
              · rw [HX2.out j e]; exact HOK.out j hj
            have bk : decide (h.ld < rc (l.take (i + 1)) 1) = false := decide_eq_false kl
            clear kl
            have F0 : Hid (HAt W2.drew w.heap.size h) := F0.out.below (Below.refl _ _).drew F0.out.lt
            have F2 : Hid (K6 W2.drew (w.heap.size + 1) (rc (l.take (i + 1)))) := F2.out.below (Below.refl _ _).drew F2.out.lt
            have F3 : Hid (P7 W2.drew pb 0 ⟨id, fr, tw, 0, 1, 1, pl⟩) := F3.out.below (Below.refl _ _).drew F3.out.lt
            have FB : Hid (Below w.heap.size w W2.drew) := FB.out.drew
            have m3 := F3.out.c3
            have m4 := F3.out.c4
            have mk := F2.out.c 1 (by omega)
            have ml := F0.out.c10
            refine wp_region_held_drew (S := (fun w'' => w''.cell? ⟨pb, 0 + 3, none⟩ = some (.int .i64 0) ∧ w''.cell? ⟨pb, 0 + 4, none⟩ = some (.int .i64 1) ∧ w''.cell? ⟨(w.heap.size + 1), 1, none⟩ = some (.int .i64 (rc (l.take (i + 1)) 1)) ∧ w''.cell? ⟨w.heap.size, 10, none⟩ = some (.int .i64 h.ld))) (by kernel_rfl) (by (try dsimp only); first | exact ⟨m3, m4, mk, ml⟩ | go_keep) (fun hHeld => ?_)
            obtain ⟨v_8, hw1⟩ : ∃ v_8, v_8 = W2.drew := ⟨_, rfl⟩
            have F0 : Hid (HAt v_8 w.heap.size h) := by rw [hw1]; exact F0.out
            have F2 : Hid (K6 v_8 (w.heap.size + 1) (rc (l.take (i + 1)))) := by rw [hw1]; exact F2.out
            have F3 : Hid (P7 v_8 pb 0 ⟨id, fr, tw, 0, 1, 1, pl⟩) := by rw [hw1]; exact F3.out
            have FB : Hid (Below w.heap.size w v_8) := by rw [hw1]; exact FB.out
            rw [← hw1] at hHeld ⊢
            clear hw1
            have m3 := F3.out.c3
            have m4 := F3.out.c4
            have mk := F2.out.c 1 (by omega)
            have ml := F0.out.c10
            refine tkz 0 rfl ?_
            refine tkz 1 rfl ?_
            refine tkz 2 rfl ?_
            refine tkz 3 rfl ?_
            refine tkz 4 rfl ?_
            refine tkz 5 rfl ?_
            refine tkz 6 rfl ?_
            refine tkz 7 rfl ?_
            refine tkz 8 rfl ?_
            refine tkz 9 rfl ?_
            refine wpAnyH_done (by kernel_rfl) ?_ _
            go_wp2_with fail
            go_roundw
            case rel => exact ⟨i + 1, by simp, by omega, F0.out, F2.out, HN.out, FB.out⟩
            case measure => simp [intOf]; omega
        · have HX1 : Hid (rc (l.take (i + 1)) 2 = rc (l.take i) 2 + 1) := by
            rw [rc_take hp]
            simp [isIn]
            exact trivial
          have HX2 : Hid (∀ k, k ≠ 2 → rc (l.take (i + 1)) k = rc (l.take i) k) := by
            intro k hk
            rw [rc_take hp, if_neg, Int.add_zero]
            simp [isIn]
            omega
          have lx := rc_le l i 2
          have ew : IntKind.i64.wrap (rc (l.take i) 2 + 1) = rc (l.take i) 2 + 1 := IntWalk.i64_in _ (by omega)
          clear hp
          go_upto_region 6 with fail
          obtain ⟨pb, hpb⟩ : ∃ pb, pb = wr.heap.size := ⟨_, rfl⟩
          obtain ⟨W1, hW1⟩ : ∃ W1, W1 = wr.alloc (.cells #[.int .i64 id, .int .i64 fr, .int .i64 tw, .int .i64 1, .int .i64 0, .int .i64 1, .int .i64 pl] 58) := ⟨_, rfl⟩
          have lp : w.heap.size + 1 < pb := by rw [hpb]; exact F2.out.lt
          have F0 : Hid (HAt W1 w.heap.size h) := by rw [hW1]; exact F0.out.alloc _
          have F2 : Hid (K6 W1 (w.heap.size + 1) (rc (l.take i))) := by rw [hW1]; exact F2.out.alloc _
          have F3 : Hid (P7 W1 pb 0 ⟨id, fr, tw, 1, 0, 1, pl⟩) := by rw [hW1]; exact P7.at_ wr ⟨id, fr, tw, 1, 0, 1, pl⟩ _ _ hpb
          have FB : Hid (Below w.heap.size w W1) := by rw [hW1]; exact FB.out.alloc FB.out.size _
          rw [← hW1, ← hpb]
          clear hW1 hpb c0 c1 c2 c3 c4 c5 c6
          have F0 : Hid (HAt W1.drew w.heap.size h) := F0.out.below (Below.refl _ _).drew F0.out.lt
          have F2 : Hid (K6 W1.drew (w.heap.size + 1) (rc (l.take i))) := F2.out.below (Below.refl _ _).drew F2.out.lt
          have F3 : Hid (P7 W1.drew pb 0 ⟨id, fr, tw, 1, 0, 1, pl⟩) := F3.out.below (Below.refl _ _).drew F3.out.lt
          have FB : Hid (Below w.heap.size w W1.drew) := FB.out.drew
          have m3 := F3.out.c3
          have m4 := F3.out.c4
          refine wp_region_held_drew (S := (fun w'' => w''.cell? ⟨pb, 0 + 3, none⟩ = some (.int .i64 1) ∧ w''.cell? ⟨pb, 0 + 4, none⟩ = some (.int .i64 0))) (by kernel_rfl) (by (try dsimp only); first | exact ⟨m3, m4⟩ | go_keep) (fun hHeld => ?_)
          obtain ⟨v_9, hw1⟩ : ∃ v_9, v_9 = W1.drew := ⟨_, rfl⟩
          have F0 : Hid (HAt v_9 w.heap.size h) := by rw [hw1]; exact F0.out
          have F2 : Hid (K6 v_9 (w.heap.size + 1) (rc (l.take i))) := by rw [hw1]; exact F2.out
          have F3 : Hid (P7 v_9 pb 0 ⟨id, fr, tw, 1, 0, 1, pl⟩) := by rw [hw1]; exact F3.out
          have FB : Hid (Below w.heap.size w v_9) := by rw [hw1]; exact FB.out
          rw [← hw1] at hHeld ⊢
          clear hw1
          have m3 := F3.out.c3
          have m4 := F3.out.c4
          refine tkz 0 rfl ?_
          refine tkz 1 rfl ?_
          refine tkz 2 rfl ?_
          refine tkz 3 rfl ?_
          refine tkz 4 rfl ?_
          refine tkz 5 rfl ?_
          refine tkz 8 rfl ?_
          refine wpAnyH_ready (rs := [6]) (by kernel_rfl) (by simp) ?_
          refine (AllReadyH.cons rfl (fun K hK => ?_) AllReadyH.nil)
          have q0 := F2.out.c 2 (by omega)
          go_simp
          refine hK.out _ _ (by (try dsimp only); first | exact ⟨m3, m4⟩ | go_keep) (fun hHeld => ?_)
          clear hK K
          try simp only [Act.put, List.getElem_toArray, List.getElem_cons_succ, List.getElem_cons_zero, List.setIfInBounds_toArray, List.set_cons_zero, List.set_cons_succ]
          refine tkz 7 rfl ?_
          refine tkz 9 rfl ?_
          refine wpAnyH_ready (rs := [10]) (by kernel_rfl) (by simp) ?_
          refine (AllReadyH.cons rfl (fun K hK => ?_) AllReadyH.nil)
          have q1 := F2.out.c 2 (by omega)
          have q2 := F2.out.z 2 (by omega)
          go_simp
          obtain ⟨v_10, hw2⟩ : ∃ v_10, v_10 = v_9.setCell ⟨w.heap.size + 1, 2, none⟩ (.int .i64 (rc (l.take i) 2 + 1)) := ⟨_, rfl⟩
          change K _ (v_9.setCell ⟨w.heap.size + 1, 2, none⟩ (.int .i64 (rc (l.take i) 2 + 1)))
          rw [← hw2]
          clear q1 q2
          have F0 : Hid (HAt v_10 w.heap.size h) := by rw [hw2]; exact F0.out.below ((Below.refl (w.heap.size + 1) _).setCell (Nat.le_refl _) _) (by omega)
          have F2 : Hid (K6 v_10 (w.heap.size + 1) (rc (l.take (i + 1)))) := by rw [hw2]; exact F2.out.set (k0 := 2) (by omega) HX1.out HX2.out
          have F3 : Hid (P7 v_10 pb 0 ⟨id, fr, tw, 1, 0, 1, pl⟩) := by rw [hw2]; exact F3.out.other (by omega)
          have FB : Hid (Below w.heap.size w v_10) := by rw [hw2]; exact FB.out.setCell (show w.heap.size ≤ w.heap.size + 1 by omega) _
          clear hw2
          have m3 := F3.out.c3
          have m4 := F3.out.c4
          refine hK.out _ _ (by (try dsimp only); first | exact ⟨m3, m4⟩ | go_keep) (fun hHeld => ?_)
          clear hK K
          try simp only [Act.put, List.getElem_toArray, List.getElem_cons_succ, List.getElem_cons_zero, List.setIfInBounds_toArray, List.set_cons_zero, List.set_cons_succ]
          refine wpAnyH_done (by kernel_rfl) ?_ _
          go_wp2_with fail
          obtain ⟨W2, hW_⟩ : ∃ W2, W2 = v_10 := ⟨_, rfl⟩
          have F0 : Hid (HAt W2 w.heap.size h) := by rw [hW_]; exact F0.out
          have F2 : Hid (K6 W2 (w.heap.size + 1) (rc (l.take (i + 1)))) := by rw [hW_]; exact F2.out
          have F3 : Hid (P7 W2 pb 0 ⟨id, fr, tw, 1, 0, 1, pl⟩) := by rw [hW_]; exact F3.out
          have FB : Hid (Below w.heap.size w W2) := by rw [hW_]; exact FB.out
          rw [← hW_]
          clear hW_
          by_cases kl : h.ld < rc (l.take (i + 1)) 2
          · have HV : Hid (Hs.crowd h l = true) := by
              unfold Hs.crowd
              rw [over_yes (i := i + 1) (k := 2) (by omega) kl]
              exact rfl
            have bk : decide (h.ld < rc (l.take (i + 1)) 2) = true := decide_eq_true kl
            clear kl
            have F0 : Hid (HAt W2.drew w.heap.size h) := F0.out.below (Below.refl _ _).drew F0.out.lt
            have F2 : Hid (K6 W2.drew (w.heap.size + 1) (rc (l.take (i + 1)))) := F2.out.below (Below.refl _ _).drew F2.out.lt
            have F3 : Hid (P7 W2.drew pb 0 ⟨id, fr, tw, 1, 0, 1, pl⟩) := F3.out.below (Below.refl _ _).drew F3.out.lt
            have FB : Hid (Below w.heap.size w W2.drew) := FB.out.drew
            have m3 := F3.out.c3
            have m4 := F3.out.c4
            have mk := F2.out.c 2 (by omega)
            have ml := F0.out.c10
            refine wp_region_held_drew (S := (fun w'' => w''.cell? ⟨pb, 0 + 3, none⟩ = some (.int .i64 1) ∧ w''.cell? ⟨pb, 0 + 4, none⟩ = some (.int .i64 0) ∧ w''.cell? ⟨(w.heap.size + 1), 2, none⟩ = some (.int .i64 (rc (l.take (i + 1)) 2)) ∧ w''.cell? ⟨w.heap.size, 10, none⟩ = some (.int .i64 h.ld))) (by kernel_rfl) (by (try dsimp only); first | exact ⟨m3, m4, mk, ml⟩ | go_keep) (fun hHeld => ?_)
            obtain ⟨v_11, hw1⟩ : ∃ v_11, v_11 = W2.drew := ⟨_, rfl⟩
            have F0 : Hid (HAt v_11 w.heap.size h) := by rw [hw1]; exact F0.out
            have F2 : Hid (K6 v_11 (w.heap.size + 1) (rc (l.take (i + 1)))) := by rw [hw1]; exact F2.out
            have F3 : Hid (P7 v_11 pb 0 ⟨id, fr, tw, 1, 0, 1, pl⟩) := by rw [hw1]; exact F3.out
            have FB : Hid (Below w.heap.size w v_11) := by rw [hw1]; exact FB.out
            rw [← hw1] at hHeld ⊢
            clear hw1
            have m3 := F3.out.c3
            have m4 := F3.out.c4
            have mk := F2.out.c 2 (by omega)
            have ml := F0.out.c10
            refine tkz 0 rfl ?_
            refine tkz 1 rfl ?_
            refine tkz 2 rfl ?_
            refine tkz 3 rfl ?_
            refine tkz 4 rfl ?_
            refine tkz 5 rfl ?_
            refine tkz 6 rfl ?_
            refine tkz 7 rfl ?_
            refine tkz 8 rfl ?_
            refine tkz 9 rfl ?_
            refine wpAnyH_done (by kernel_rfl) ?_ _
            go_wp2_with fail
            go_ret
            exact ⟨ret_b HV.out.symm, FB.out⟩
          · have HN : Hid (∀ k, k < 6 → rc (l.take (i + 1)) k ≤ h.ld) := by
              intro j hj
              by_cases e : j = 2
              · subst e; exact Int.not_lt.1 kl
              · rw [HX2.out j e]; exact HOK.out j hj
            have bk : decide (h.ld < rc (l.take (i + 1)) 2) = false := decide_eq_false kl
            clear kl
            have F0 : Hid (HAt W2.drew w.heap.size h) := F0.out.below (Below.refl _ _).drew F0.out.lt
            have F2 : Hid (K6 W2.drew (w.heap.size + 1) (rc (l.take (i + 1)))) := F2.out.below (Below.refl _ _).drew F2.out.lt
            have F3 : Hid (P7 W2.drew pb 0 ⟨id, fr, tw, 1, 0, 1, pl⟩) := F3.out.below (Below.refl _ _).drew F3.out.lt
            have FB : Hid (Below w.heap.size w W2.drew) := FB.out.drew
            have m3 := F3.out.c3
            have m4 := F3.out.c4
            have mk := F2.out.c 2 (by omega)
            have ml := F0.out.c10
            refine wp_region_held_drew (S := (fun w'' => w''.cell? ⟨pb, 0 + 3, none⟩ = some (.int .i64 1) ∧ w''.cell? ⟨pb, 0 + 4, none⟩ = some (.int .i64 0) ∧ w''.cell? ⟨(w.heap.size + 1), 2, none⟩ = some (.int .i64 (rc (l.take (i + 1)) 2)) ∧ w''.cell? ⟨w.heap.size, 10, none⟩ = some (.int .i64 h.ld))) (by kernel_rfl) (by (try dsimp only); first | exact ⟨m3, m4, mk, ml⟩ | go_keep) (fun hHeld => ?_)
            obtain ⟨v_12, hw1⟩ : ∃ v_12, v_12 = W2.drew := ⟨_, rfl⟩
            have F0 : Hid (HAt v_12 w.heap.size h) := by rw [hw1]; exact F0.out
            have F2 : Hid (K6 v_12 (w.heap.size + 1) (rc (l.take (i + 1)))) := by rw [hw1]; exact F2.out
            have F3 : Hid (P7 v_12 pb 0 ⟨id, fr, tw, 1, 0, 1, pl⟩) := by rw [hw1]; exact F3.out
            have FB : Hid (Below w.heap.size w v_12) := by rw [hw1]; exact FB.out
            rw [← hw1] at hHeld ⊢
            clear hw1
            have m3 := F3.out.c3
            have m4 := F3.out.c4
            have mk := F2.out.c 2 (by omega)
            have ml := F0.out.c10
            refine tkz 0 rfl ?_
            refine tkz 1 rfl ?_
            refine tkz 2 rfl ?_
            refine tkz 3 rfl ?_
            refine tkz 4 rfl ?_
            refine tkz 5 rfl ?_
            refine tkz 6 rfl ?_
            refine tkz 7 rfl ?_
            refine tkz 8 rfl ?_
            refine tkz 9 rfl ?_
            refine wpAnyH_done (by kernel_rfl) ?_ _
            go_wp2_with fail
            go_roundw
            case rel => exact ⟨i + 1, by simp, by omega, F0.out, F2.out, HN.out, FB.out⟩
            case measure => simp [intOf]; omega
        · have HX1 : Hid (rc (l.take (i + 1)) 3 = rc (l.take i) 3 + 1) := by
            rw [rc_take hp]
            simp [isIn]
            exact trivial
          have HX2 : Hid (∀ k, k ≠ 3 → rc (l.take (i + 1)) k = rc (l.take i) k) := by
            intro k hk
            rw [rc_take hp, if_neg, Int.add_zero]
            simp [isIn]
            omega
          have lx := rc_le l i 3
          have ew : IntKind.i64.wrap (rc (l.take i) 3 + 1) = rc (l.take i) 3 + 1 := IntWalk.i64_in _ (by omega)
          clear hp
          go_upto_region 6 with fail
          obtain ⟨pb, hpb⟩ : ∃ pb, pb = wr.heap.size := ⟨_, rfl⟩
          obtain ⟨W1, hW1⟩ : ∃ W1, W1 = wr.alloc (.cells #[.int .i64 id, .int .i64 fr, .int .i64 tw, .int .i64 1, .int .i64 1, .int .i64 1, .int .i64 pl] 58) := ⟨_, rfl⟩
          have lp : w.heap.size + 1 < pb := by rw [hpb]; exact F2.out.lt
          have F0 : Hid (HAt W1 w.heap.size h) := by rw [hW1]; exact F0.out.alloc _
          have F2 : Hid (K6 W1 (w.heap.size + 1) (rc (l.take i))) := by rw [hW1]; exact F2.out.alloc _
          have F3 : Hid (P7 W1 pb 0 ⟨id, fr, tw, 1, 1, 1, pl⟩) := by rw [hW1]; exact P7.at_ wr ⟨id, fr, tw, 1, 1, 1, pl⟩ _ _ hpb
          have FB : Hid (Below w.heap.size w W1) := by rw [hW1]; exact FB.out.alloc FB.out.size _
          rw [← hW1, ← hpb]
          clear hW1 hpb c0 c1 c2 c3 c4 c5 c6
          have F0 : Hid (HAt W1.drew w.heap.size h) := F0.out.below (Below.refl _ _).drew F0.out.lt
          have F2 : Hid (K6 W1.drew (w.heap.size + 1) (rc (l.take i))) := F2.out.below (Below.refl _ _).drew F2.out.lt
          have F3 : Hid (P7 W1.drew pb 0 ⟨id, fr, tw, 1, 1, 1, pl⟩) := F3.out.below (Below.refl _ _).drew F3.out.lt
          have FB : Hid (Below w.heap.size w W1.drew) := FB.out.drew
          have m3 := F3.out.c3
          have m4 := F3.out.c4
          refine wp_region_held_drew (S := (fun w'' => w''.cell? ⟨pb, 0 + 3, none⟩ = some (.int .i64 1) ∧ w''.cell? ⟨pb, 0 + 4, none⟩ = some (.int .i64 1))) (by kernel_rfl) (by (try dsimp only); first | exact ⟨m3, m4⟩ | go_keep) (fun hHeld => ?_)
          obtain ⟨v_13, hw1⟩ : ∃ v_13, v_13 = W1.drew := ⟨_, rfl⟩
          have F0 : Hid (HAt v_13 w.heap.size h) := by rw [hw1]; exact F0.out
          have F2 : Hid (K6 v_13 (w.heap.size + 1) (rc (l.take i))) := by rw [hw1]; exact F2.out
          have F3 : Hid (P7 v_13 pb 0 ⟨id, fr, tw, 1, 1, 1, pl⟩) := by rw [hw1]; exact F3.out
          have FB : Hid (Below w.heap.size w v_13) := by rw [hw1]; exact FB.out
          rw [← hw1] at hHeld ⊢
          clear hw1
          have m3 := F3.out.c3
          have m4 := F3.out.c4
          refine tkz 0 rfl ?_
          refine tkz 1 rfl ?_
          refine tkz 2 rfl ?_
          refine tkz 3 rfl ?_
          refine tkz 4 rfl ?_
          refine tkz 5 rfl ?_
          refine tkz 8 rfl ?_
          refine wpAnyH_ready (rs := [6]) (by kernel_rfl) (by simp) ?_
          refine (AllReadyH.cons rfl (fun K hK => ?_) AllReadyH.nil)
          have q0 := F2.out.c 3 (by omega)
          go_simp
          refine hK.out _ _ (by (try dsimp only); first | exact ⟨m3, m4⟩ | go_keep) (fun hHeld => ?_)
          clear hK K
          try simp only [Act.put, List.getElem_toArray, List.getElem_cons_succ, List.getElem_cons_zero, List.setIfInBounds_toArray, List.set_cons_zero, List.set_cons_succ]
          refine tkz 7 rfl ?_
          refine tkz 9 rfl ?_
          refine wpAnyH_ready (rs := [10]) (by kernel_rfl) (by simp) ?_
          refine (AllReadyH.cons rfl (fun K hK => ?_) AllReadyH.nil)
          have q1 := F2.out.c 3 (by omega)
          have q2 := F2.out.z 3 (by omega)
          go_simp
          obtain ⟨v_14, hw2⟩ : ∃ v_14, v_14 = v_13.setCell ⟨w.heap.size + 1, 3, none⟩ (.int .i64 (rc (l.take i) 3 + 1)) := ⟨_, rfl⟩
          change K _ (v_13.setCell ⟨w.heap.size + 1, 3, none⟩ (.int .i64 (rc (l.take i) 3 + 1)))
          rw [← hw2]
          clear q1 q2
          have F0 : Hid (HAt v_14 w.heap.size h) := by rw [hw2]; exact F0.out.below ((Below.refl (w.heap.size + 1) _).setCell (Nat.le_refl _) _) (by omega)
          have F2 : Hid (K6 v_14 (w.heap.size + 1) (rc (l.take (i + 1)))) := by rw [hw2]; exact F2.out.set (k0 := 3) (by omega) HX1.out HX2.out
          have F3 : Hid (P7 v_14 pb 0 ⟨id, fr, tw, 1, 1, 1, pl⟩) := by rw [hw2]; exact F3.out.other (by omega)
          have FB : Hid (Below w.heap.size w v_14) := by rw [hw2]; exact FB.out.setCell (show w.heap.size ≤ w.heap.size + 1 by omega) _
          clear hw2
          have m3 := F3.out.c3
          have m4 := F3.out.c4
          refine hK.out _ _ (by (try dsimp only); first | exact ⟨m3, m4⟩ | go_keep) (fun hHeld => ?_)
          clear hK K
          try simp only [Act.put, List.getElem_toArray, List.getElem_cons_succ, List.getElem_cons_zero, List.setIfInBounds_toArray, List.set_cons_zero, List.set_cons_succ]
          refine wpAnyH_done (by kernel_rfl) ?_ _
          go_wp2_with fail
          obtain ⟨W2, hW_⟩ : ∃ W2, W2 = v_14 := ⟨_, rfl⟩
          have F0 : Hid (HAt W2 w.heap.size h) := by rw [hW_]; exact F0.out
          have F2 : Hid (K6 W2 (w.heap.size + 1) (rc (l.take (i + 1)))) := by rw [hW_]; exact F2.out
          have F3 : Hid (P7 W2 pb 0 ⟨id, fr, tw, 1, 1, 1, pl⟩) := by rw [hW_]; exact F3.out
          have FB : Hid (Below w.heap.size w W2) := by rw [hW_]; exact FB.out
          rw [← hW_]
          clear hW_
          by_cases kl : h.ld < rc (l.take (i + 1)) 3
          · have HV : Hid (Hs.crowd h l = true) := by
              unfold Hs.crowd
              rw [over_yes (i := i + 1) (k := 3) (by omega) kl]
              exact rfl
            have bk : decide (h.ld < rc (l.take (i + 1)) 3) = true := decide_eq_true kl
            clear kl
            have F0 : Hid (HAt W2.drew w.heap.size h) := F0.out.below (Below.refl _ _).drew F0.out.lt
            have F2 : Hid (K6 W2.drew (w.heap.size + 1) (rc (l.take (i + 1)))) := F2.out.below (Below.refl _ _).drew F2.out.lt
            have F3 : Hid (P7 W2.drew pb 0 ⟨id, fr, tw, 1, 1, 1, pl⟩) := F3.out.below (Below.refl _ _).drew F3.out.lt
            have FB : Hid (Below w.heap.size w W2.drew) := FB.out.drew
            have m3 := F3.out.c3
            have m4 := F3.out.c4
            have mk := F2.out.c 3 (by omega)
            have ml := F0.out.c10
            refine wp_region_held_drew (S := (fun w'' => w''.cell? ⟨pb, 0 + 3, none⟩ = some (.int .i64 1) ∧ w''.cell? ⟨pb, 0 + 4, none⟩ = some (.int .i64 1) ∧ w''.cell? ⟨(w.heap.size + 1), 3, none⟩ = some (.int .i64 (rc (l.take (i + 1)) 3)) ∧ w''.cell? ⟨w.heap.size, 10, none⟩ = some (.int .i64 h.ld))) (by kernel_rfl) (by (try dsimp only); first | exact ⟨m3, m4, mk, ml⟩ | go_keep) (fun hHeld => ?_)
            obtain ⟨v_15, hw1⟩ : ∃ v_15, v_15 = W2.drew := ⟨_, rfl⟩
            have F0 : Hid (HAt v_15 w.heap.size h) := by rw [hw1]; exact F0.out
            have F2 : Hid (K6 v_15 (w.heap.size + 1) (rc (l.take (i + 1)))) := by rw [hw1]; exact F2.out
            have F3 : Hid (P7 v_15 pb 0 ⟨id, fr, tw, 1, 1, 1, pl⟩) := by rw [hw1]; exact F3.out
            have FB : Hid (Below w.heap.size w v_15) := by rw [hw1]; exact FB.out
            rw [← hw1] at hHeld ⊢
            clear hw1
            have m3 := F3.out.c3
            have m4 := F3.out.c4
            have mk := F2.out.c 3 (by omega)
            have ml := F0.out.c10
            refine tkz 0 rfl ?_
            refine tkz 1 rfl ?_
            refine tkz 2 rfl ?_
            refine tkz 3 rfl ?_
            refine tkz 4 rfl ?_
            refine tkz 5 rfl ?_
            refine tkz 6 rfl ?_
            refine tkz 7 rfl ?_
            refine tkz 8 rfl ?_
            refine tkz 9 rfl ?_
            refine wpAnyH_done (by kernel_rfl) ?_ _
            go_wp2_with fail
            go_ret
            exact ⟨ret_b HV.out.symm, FB.out⟩
          · have HN : Hid (∀ k, k < 6 → rc (l.take (i + 1)) k ≤ h.ld) := by
              intro j hj
              by_cases e : j = 3
              · subst e; exact Int.not_lt.1 kl
              · rw [HX2.out j e]; exact HOK.out j hj
            have bk : decide (h.ld < rc (l.take (i + 1)) 3) = false := decide_eq_false kl
            clear kl
            have F0 : Hid (HAt W2.drew w.heap.size h) := F0.out.below (Below.refl _ _).drew F0.out.lt
            have F2 : Hid (K6 W2.drew (w.heap.size + 1) (rc (l.take (i + 1)))) := F2.out.below (Below.refl _ _).drew F2.out.lt
            have F3 : Hid (P7 W2.drew pb 0 ⟨id, fr, tw, 1, 1, 1, pl⟩) := F3.out.below (Below.refl _ _).drew F3.out.lt
            have FB : Hid (Below w.heap.size w W2.drew) := FB.out.drew
            have m3 := F3.out.c3
            have m4 := F3.out.c4
            have mk := F2.out.c 3 (by omega)
            have ml := F0.out.c10
            refine wp_region_held_drew (S := (fun w'' => w''.cell? ⟨pb, 0 + 3, none⟩ = some (.int .i64 1) ∧ w''.cell? ⟨pb, 0 + 4, none⟩ = some (.int .i64 1) ∧ w''.cell? ⟨(w.heap.size + 1), 3, none⟩ = some (.int .i64 (rc (l.take (i + 1)) 3)) ∧ w''.cell? ⟨w.heap.size, 10, none⟩ = some (.int .i64 h.ld))) (by kernel_rfl) (by (try dsimp only); first | exact ⟨m3, m4, mk, ml⟩ | go_keep) (fun hHeld => ?_)
            obtain ⟨v_16, hw1⟩ : ∃ v_16, v_16 = W2.drew := ⟨_, rfl⟩
            have F0 : Hid (HAt v_16 w.heap.size h) := by rw [hw1]; exact F0.out
            have F2 : Hid (K6 v_16 (w.heap.size + 1) (rc (l.take (i + 1)))) := by rw [hw1]; exact F2.out
            have F3 : Hid (P7 v_16 pb 0 ⟨id, fr, tw, 1, 1, 1, pl⟩) := by rw [hw1]; exact F3.out
            have FB : Hid (Below w.heap.size w v_16) := by rw [hw1]; exact FB.out
            rw [← hw1] at hHeld ⊢
            clear hw1
            have m3 := F3.out.c3
            have m4 := F3.out.c4
            have mk := F2.out.c 3 (by omega)
            have ml := F0.out.c10
            refine tkz 0 rfl ?_
            refine tkz 1 rfl ?_
            refine tkz 2 rfl ?_
            refine tkz 3 rfl ?_
            refine tkz 4 rfl ?_
            refine tkz 5 rfl ?_
            refine tkz 6 rfl ?_
            refine tkz 7 rfl ?_
            refine tkz 8 rfl ?_
            refine tkz 9 rfl ?_
            refine wpAnyH_done (by kernel_rfl) ?_ _
            go_wp2_with fail
            go_roundw
            case rel => exact ⟨i + 1, by simp, by omega, F0.out, F2.out, HN.out, FB.out⟩
            case measure => simp [intOf]; omega
        · have HX1 : Hid (rc (l.take (i + 1)) 4 = rc (l.take i) 4 + 1) := by
            rw [rc_take hp]
            simp [isIn]
            exact trivial
          have HX2 : Hid (∀ k, k ≠ 4 → rc (l.take (i + 1)) k = rc (l.take i) k) := by
            intro k hk
            rw [rc_take hp, if_neg, Int.add_zero]
            simp [isIn]
            omega
          have lx := rc_le l i 4
          have ew : IntKind.i64.wrap (rc (l.take i) 4 + 1) = rc (l.take i) 4 + 1 := IntWalk.i64_in _ (by omega)
          clear hp
          go_upto_region 6 with fail
          obtain ⟨pb, hpb⟩ : ∃ pb, pb = wr.heap.size := ⟨_, rfl⟩
          obtain ⟨W1, hW1⟩ : ∃ W1, W1 = wr.alloc (.cells #[.int .i64 id, .int .i64 fr, .int .i64 tw, .int .i64 2, .int .i64 0, .int .i64 1, .int .i64 pl] 58) := ⟨_, rfl⟩
          have lp : w.heap.size + 1 < pb := by rw [hpb]; exact F2.out.lt
          have F0 : Hid (HAt W1 w.heap.size h) := by rw [hW1]; exact F0.out.alloc _
          have F2 : Hid (K6 W1 (w.heap.size + 1) (rc (l.take i))) := by rw [hW1]; exact F2.out.alloc _
          have F3 : Hid (P7 W1 pb 0 ⟨id, fr, tw, 2, 0, 1, pl⟩) := by rw [hW1]; exact P7.at_ wr ⟨id, fr, tw, 2, 0, 1, pl⟩ _ _ hpb
          have FB : Hid (Below w.heap.size w W1) := by rw [hW1]; exact FB.out.alloc FB.out.size _
          rw [← hW1, ← hpb]
          clear hW1 hpb c0 c1 c2 c3 c4 c5 c6
          have F0 : Hid (HAt W1.drew w.heap.size h) := F0.out.below (Below.refl _ _).drew F0.out.lt
          have F2 : Hid (K6 W1.drew (w.heap.size + 1) (rc (l.take i))) := F2.out.below (Below.refl _ _).drew F2.out.lt
          have F3 : Hid (P7 W1.drew pb 0 ⟨id, fr, tw, 2, 0, 1, pl⟩) := F3.out.below (Below.refl _ _).drew F3.out.lt
          have FB : Hid (Below w.heap.size w W1.drew) := FB.out.drew
          have m3 := F3.out.c3
          have m4 := F3.out.c4
          refine wp_region_held_drew (S := (fun w'' => w''.cell? ⟨pb, 0 + 3, none⟩ = some (.int .i64 2) ∧ w''.cell? ⟨pb, 0 + 4, none⟩ = some (.int .i64 0))) (by kernel_rfl) (by (try dsimp only); first | exact ⟨m3, m4⟩ | go_keep) (fun hHeld => ?_)
          obtain ⟨v_17, hw1⟩ : ∃ v_17, v_17 = W1.drew := ⟨_, rfl⟩
          have F0 : Hid (HAt v_17 w.heap.size h) := by rw [hw1]; exact F0.out
          have F2 : Hid (K6 v_17 (w.heap.size + 1) (rc (l.take i))) := by rw [hw1]; exact F2.out
          have F3 : Hid (P7 v_17 pb 0 ⟨id, fr, tw, 2, 0, 1, pl⟩) := by rw [hw1]; exact F3.out
          have FB : Hid (Below w.heap.size w v_17) := by rw [hw1]; exact FB.out
          rw [← hw1] at hHeld ⊢
          clear hw1
          have m3 := F3.out.c3
          have m4 := F3.out.c4
          refine tkz 0 rfl ?_
          refine tkz 1 rfl ?_
          refine tkz 2 rfl ?_
          refine tkz 3 rfl ?_
          refine tkz 4 rfl ?_
          refine tkz 5 rfl ?_
          refine tkz 8 rfl ?_
          refine wpAnyH_ready (rs := [6]) (by kernel_rfl) (by simp) ?_
          refine (AllReadyH.cons rfl (fun K hK => ?_) AllReadyH.nil)
          have q0 := F2.out.c 4 (by omega)
          go_simp
          refine hK.out _ _ (by (try dsimp only); first | exact ⟨m3, m4⟩ | go_keep) (fun hHeld => ?_)
          clear hK K
          try simp only [Act.put, List.getElem_toArray, List.getElem_cons_succ, List.getElem_cons_zero, List.setIfInBounds_toArray, List.set_cons_zero, List.set_cons_succ]
          refine tkz 7 rfl ?_
          refine tkz 9 rfl ?_
          refine wpAnyH_ready (rs := [10]) (by kernel_rfl) (by simp) ?_
          refine (AllReadyH.cons rfl (fun K hK => ?_) AllReadyH.nil)
          have q1 := F2.out.c 4 (by omega)
          have q2 := F2.out.z 4 (by omega)
          go_simp
          obtain ⟨v_18, hw2⟩ : ∃ v_18, v_18 = v_17.setCell ⟨w.heap.size + 1, 4, none⟩ (.int .i64 (rc (l.take i) 4 + 1)) := ⟨_, rfl⟩
          change K _ (v_17.setCell ⟨w.heap.size + 1, 4, none⟩ (.int .i64 (rc (l.take i) 4 + 1)))
          rw [← hw2]
          clear q1 q2
          have F0 : Hid (HAt v_18 w.heap.size h) := by rw [hw2]; exact F0.out.below ((Below.refl (w.heap.size + 1) _).setCell (Nat.le_refl _) _) (by omega)
          have F2 : Hid (K6 v_18 (w.heap.size + 1) (rc (l.take (i + 1)))) := by rw [hw2]; exact F2.out.set (k0 := 4) (by omega) HX1.out HX2.out
          have F3 : Hid (P7 v_18 pb 0 ⟨id, fr, tw, 2, 0, 1, pl⟩) := by rw [hw2]; exact F3.out.other (by omega)
          have FB : Hid (Below w.heap.size w v_18) := by rw [hw2]; exact FB.out.setCell (show w.heap.size ≤ w.heap.size + 1 by omega) _
          clear hw2
          have m3 := F3.out.c3
          have m4 := F3.out.c4
          refine hK.out _ _ (by (try dsimp only); first | exact ⟨m3, m4⟩ | go_keep) (fun hHeld => ?_)
          clear hK K
          try simp only [Act.put, List.getElem_toArray, List.getElem_cons_succ, List.getElem_cons_zero, List.setIfInBounds_toArray, List.set_cons_zero, List.set_cons_succ]
          refine wpAnyH_done (by kernel_rfl) ?_ _
          go_wp2_with fail
          obtain ⟨W2, hW_⟩ : ∃ W2, W2 = v_18 := ⟨_, rfl⟩
          have F0 : Hid (HAt W2 w.heap.size h) := by rw [hW_]; exact F0.out
          have F2 : Hid (K6 W2 (w.heap.size + 1) (rc (l.take (i + 1)))) := by rw [hW_]; exact F2.out
          have F3 : Hid (P7 W2 pb 0 ⟨id, fr, tw, 2, 0, 1, pl⟩) := by rw [hW_]; exact F3.out
          have FB : Hid (Below w.heap.size w W2) := by rw [hW_]; exact FB.out
          rw [← hW_]
          clear hW_
          by_cases kl : h.ld < rc (l.take (i + 1)) 4
          · have HV : Hid (Hs.crowd h l = true) := by
              unfold Hs.crowd
              rw [over_yes (i := i + 1) (k := 4) (by omega) kl]
              exact rfl
            have bk : decide (h.ld < rc (l.take (i + 1)) 4) = true := decide_eq_true kl
            clear kl
            have F0 : Hid (HAt W2.drew w.heap.size h) := F0.out.below (Below.refl _ _).drew F0.out.lt
            have F2 : Hid (K6 W2.drew (w.heap.size + 1) (rc (l.take (i + 1)))) := F2.out.below (Below.refl _ _).drew F2.out.lt
            have F3 : Hid (P7 W2.drew pb 0 ⟨id, fr, tw, 2, 0, 1, pl⟩) := F3.out.below (Below.refl _ _).drew F3.out.lt
            have FB : Hid (Below w.heap.size w W2.drew) := FB.out.drew
            have m3 := F3.out.c3
            have m4 := F3.out.c4
            have mk := F2.out.c 4 (by omega)
            have ml := F0.out.c10
            refine wp_region_held_drew (S := (fun w'' => w''.cell? ⟨pb, 0 + 3, none⟩ = some (.int .i64 2) ∧ w''.cell? ⟨pb, 0 + 4, none⟩ = some (.int .i64 0) ∧ w''.cell? ⟨(w.heap.size + 1), 4, none⟩ = some (.int .i64 (rc (l.take (i + 1)) 4)) ∧ w''.cell? ⟨w.heap.size, 10, none⟩ = some (.int .i64 h.ld))) (by kernel_rfl) (by (try dsimp only); first | exact ⟨m3, m4, mk, ml⟩ | go_keep) (fun hHeld => ?_)
            obtain ⟨v_19, hw1⟩ : ∃ v_19, v_19 = W2.drew := ⟨_, rfl⟩
            have F0 : Hid (HAt v_19 w.heap.size h) := by rw [hw1]; exact F0.out
            have F2 : Hid (K6 v_19 (w.heap.size + 1) (rc (l.take (i + 1)))) := by rw [hw1]; exact F2.out
            have F3 : Hid (P7 v_19 pb 0 ⟨id, fr, tw, 2, 0, 1, pl⟩) := by rw [hw1]; exact F3.out
            have FB : Hid (Below w.heap.size w v_19) := by rw [hw1]; exact FB.out
            rw [← hw1] at hHeld ⊢
            clear hw1
            have m3 := F3.out.c3
            have m4 := F3.out.c4
            have mk := F2.out.c 4 (by omega)
            have ml := F0.out.c10
            refine tkz 0 rfl ?_
            refine tkz 1 rfl ?_
            refine tkz 2 rfl ?_
            refine tkz 3 rfl ?_
            refine tkz 4 rfl ?_
            refine tkz 5 rfl ?_
            refine tkz 6 rfl ?_
            refine tkz 7 rfl ?_
            refine tkz 8 rfl ?_
            refine tkz 9 rfl ?_
            refine wpAnyH_done (by kernel_rfl) ?_ _
            go_wp2_with fail
            go_ret
            exact ⟨ret_b HV.out.symm, FB.out⟩
          · have HN : Hid (∀ k, k < 6 → rc (l.take (i + 1)) k ≤ h.ld) := by
              intro j hj
              by_cases e : j = 4
              · subst e; exact Int.not_lt.1 kl
              · rw [HX2.out j e]; exact HOK.out j hj
            have bk : decide (h.ld < rc (l.take (i + 1)) 4) = false := decide_eq_false kl
            clear kl
            have F0 : Hid (HAt W2.drew w.heap.size h) := F0.out.below (Below.refl _ _).drew F0.out.lt
            have F2 : Hid (K6 W2.drew (w.heap.size + 1) (rc (l.take (i + 1)))) := F2.out.below (Below.refl _ _).drew F2.out.lt
            have F3 : Hid (P7 W2.drew pb 0 ⟨id, fr, tw, 2, 0, 1, pl⟩) := F3.out.below (Below.refl _ _).drew F3.out.lt
            have FB : Hid (Below w.heap.size w W2.drew) := FB.out.drew
            have m3 := F3.out.c3
            have m4 := F3.out.c4
            have mk := F2.out.c 4 (by omega)
            have ml := F0.out.c10
            refine wp_region_held_drew (S := (fun w'' => w''.cell? ⟨pb, 0 + 3, none⟩ = some (.int .i64 2) ∧ w''.cell? ⟨pb, 0 + 4, none⟩ = some (.int .i64 0) ∧ w''.cell? ⟨(w.heap.size + 1), 4, none⟩ = some (.int .i64 (rc (l.take (i + 1)) 4)) ∧ w''.cell? ⟨w.heap.size, 10, none⟩ = some (.int .i64 h.ld))) (by kernel_rfl) (by (try dsimp only); first | exact ⟨m3, m4, mk, ml⟩ | go_keep) (fun hHeld => ?_)
            obtain ⟨v_20, hw1⟩ : ∃ v_20, v_20 = W2.drew := ⟨_, rfl⟩
            have F0 : Hid (HAt v_20 w.heap.size h) := by rw [hw1]; exact F0.out
            have F2 : Hid (K6 v_20 (w.heap.size + 1) (rc (l.take (i + 1)))) := by rw [hw1]; exact F2.out
            have F3 : Hid (P7 v_20 pb 0 ⟨id, fr, tw, 2, 0, 1, pl⟩) := by rw [hw1]; exact F3.out
            have FB : Hid (Below w.heap.size w v_20) := by rw [hw1]; exact FB.out
            rw [← hw1] at hHeld ⊢
            clear hw1
            have m3 := F3.out.c3
            have m4 := F3.out.c4
            have mk := F2.out.c 4 (by omega)
            have ml := F0.out.c10
            refine tkz 0 rfl ?_
            refine tkz 1 rfl ?_
            refine tkz 2 rfl ?_
            refine tkz 3 rfl ?_
            refine tkz 4 rfl ?_
            refine tkz 5 rfl ?_
            refine tkz 6 rfl ?_
            refine tkz 7 rfl ?_
            refine tkz 8 rfl ?_
            refine tkz 9 rfl ?_
            refine wpAnyH_done (by kernel_rfl) ?_ _
            go_wp2_with fail
            go_roundw
            case rel => exact ⟨i + 1, by simp, by omega, F0.out, F2.out, HN.out, FB.out⟩
            case measure => simp [intOf]; omega
        · have HX1 : Hid (rc (l.take (i + 1)) 5 = rc (l.take i) 5 + 1) := by
            rw [rc_take hp]
            simp [isIn]
            exact trivial
          have HX2 : Hid (∀ k, k ≠ 5 → rc (l.take (i + 1)) k = rc (l.take i) k) := by
            intro k hk
            rw [rc_take hp, if_neg, Int.add_zero]
            simp [isIn]
            omega
          have lx := rc_le l i 5
          have ew : IntKind.i64.wrap (rc (l.take i) 5 + 1) = rc (l.take i) 5 + 1 := IntWalk.i64_in _ (by omega)
          clear hp
          go_upto_region 6 with fail
          obtain ⟨pb, hpb⟩ : ∃ pb, pb = wr.heap.size := ⟨_, rfl⟩
          obtain ⟨W1, hW1⟩ : ∃ W1, W1 = wr.alloc (.cells #[.int .i64 id, .int .i64 fr, .int .i64 tw, .int .i64 2, .int .i64 1, .int .i64 1, .int .i64 pl] 58) := ⟨_, rfl⟩
          have lp : w.heap.size + 1 < pb := by rw [hpb]; exact F2.out.lt
          have F0 : Hid (HAt W1 w.heap.size h) := by rw [hW1]; exact F0.out.alloc _
          have F2 : Hid (K6 W1 (w.heap.size + 1) (rc (l.take i))) := by rw [hW1]; exact F2.out.alloc _
          have F3 : Hid (P7 W1 pb 0 ⟨id, fr, tw, 2, 1, 1, pl⟩) := by rw [hW1]; exact P7.at_ wr ⟨id, fr, tw, 2, 1, 1, pl⟩ _ _ hpb
          have FB : Hid (Below w.heap.size w W1) := by rw [hW1]; exact FB.out.alloc FB.out.size _
          rw [← hW1, ← hpb]
          clear hW1 hpb c0 c1 c2 c3 c4 c5 c6
          have F0 : Hid (HAt W1.drew w.heap.size h) := F0.out.below (Below.refl _ _).drew F0.out.lt
          have F2 : Hid (K6 W1.drew (w.heap.size + 1) (rc (l.take i))) := F2.out.below (Below.refl _ _).drew F2.out.lt
          have F3 : Hid (P7 W1.drew pb 0 ⟨id, fr, tw, 2, 1, 1, pl⟩) := F3.out.below (Below.refl _ _).drew F3.out.lt
          have FB : Hid (Below w.heap.size w W1.drew) := FB.out.drew
          have m3 := F3.out.c3
          have m4 := F3.out.c4
          refine wp_region_held_drew (S := (fun w'' => w''.cell? ⟨pb, 0 + 3, none⟩ = some (.int .i64 2) ∧ w''.cell? ⟨pb, 0 + 4, none⟩ = some (.int .i64 1))) (by kernel_rfl) (by (try dsimp only); first | exact ⟨m3, m4⟩ | go_keep) (fun hHeld => ?_)
          obtain ⟨v_21, hw1⟩ : ∃ v_21, v_21 = W1.drew := ⟨_, rfl⟩
          have F0 : Hid (HAt v_21 w.heap.size h) := by rw [hw1]; exact F0.out
          have F2 : Hid (K6 v_21 (w.heap.size + 1) (rc (l.take i))) := by rw [hw1]; exact F2.out
          have F3 : Hid (P7 v_21 pb 0 ⟨id, fr, tw, 2, 1, 1, pl⟩) := by rw [hw1]; exact F3.out
          have FB : Hid (Below w.heap.size w v_21) := by rw [hw1]; exact FB.out
          rw [← hw1] at hHeld ⊢
          clear hw1
          have m3 := F3.out.c3
          have m4 := F3.out.c4
          refine tkz 0 rfl ?_
          refine tkz 1 rfl ?_
          refine tkz 2 rfl ?_
          refine tkz 3 rfl ?_
          refine tkz 4 rfl ?_
          refine tkz 5 rfl ?_
          refine tkz 8 rfl ?_
          refine wpAnyH_ready (rs := [6]) (by kernel_rfl) (by simp) ?_
          refine (AllReadyH.cons rfl (fun K hK => ?_) AllReadyH.nil)
          have q0 := F2.out.c 5 (by omega)
          go_simp
          refine hK.out _ _ (by (try dsimp only); first | exact ⟨m3, m4⟩ | go_keep) (fun hHeld => ?_)
          clear hK K
          try simp only [Act.put, List.getElem_toArray, List.getElem_cons_succ, List.getElem_cons_zero, List.setIfInBounds_toArray, List.set_cons_zero, List.set_cons_succ]
          refine tkz 7 rfl ?_
          refine tkz 9 rfl ?_
          refine wpAnyH_ready (rs := [10]) (by kernel_rfl) (by simp) ?_
          refine (AllReadyH.cons rfl (fun K hK => ?_) AllReadyH.nil)
          have q1 := F2.out.c 5 (by omega)
          have q2 := F2.out.z 5 (by omega)
          go_simp
          obtain ⟨v_22, hw2⟩ : ∃ v_22, v_22 = v_21.setCell ⟨w.heap.size + 1, 5, none⟩ (.int .i64 (rc (l.take i) 5 + 1)) := ⟨_, rfl⟩
          change K _ (v_21.setCell ⟨w.heap.size + 1, 5, none⟩ (.int .i64 (rc (l.take i) 5 + 1)))
          rw [← hw2]
          clear q1 q2
          have F0 : Hid (HAt v_22 w.heap.size h) := by rw [hw2]; exact F0.out.below ((Below.refl (w.heap.size + 1) _).setCell (Nat.le_refl _) _) (by omega)
          have F2 : Hid (K6 v_22 (w.heap.size + 1) (rc (l.take (i + 1)))) := by rw [hw2]; exact F2.out.set (k0 := 5) (by omega) HX1.out HX2.out
          have F3 : Hid (P7 v_22 pb 0 ⟨id, fr, tw, 2, 1, 1, pl⟩) := by rw [hw2]; exact F3.out.other (by omega)
          have FB : Hid (Below w.heap.size w v_22) := by rw [hw2]; exact FB.out.setCell (show w.heap.size ≤ w.heap.size + 1 by omega) _
          clear hw2
          have m3 := F3.out.c3
          have m4 := F3.out.c4
          refine hK.out _ _ (by (try dsimp only); first | exact ⟨m3, m4⟩ | go_keep) (fun hHeld => ?_)
          clear hK K
          try simp only [Act.put, List.getElem_toArray, List.getElem_cons_succ, List.getElem_cons_zero, List.setIfInBounds_toArray, List.set_cons_zero, List.set_cons_succ]
          refine wpAnyH_done (by kernel_rfl) ?_ _
          go_wp2_with fail
          obtain ⟨W2, hW_⟩ : ∃ W2, W2 = v_22 := ⟨_, rfl⟩
          have F0 : Hid (HAt W2 w.heap.size h) := by rw [hW_]; exact F0.out
          have F2 : Hid (K6 W2 (w.heap.size + 1) (rc (l.take (i + 1)))) := by rw [hW_]; exact F2.out
          have F3 : Hid (P7 W2 pb 0 ⟨id, fr, tw, 2, 1, 1, pl⟩) := by rw [hW_]; exact F3.out
          have FB : Hid (Below w.heap.size w W2) := by rw [hW_]; exact FB.out
          rw [← hW_]
          clear hW_
          by_cases kl : h.ld < rc (l.take (i + 1)) 5
          · have HV : Hid (Hs.crowd h l = true) := by
              unfold Hs.crowd
              rw [over_yes (i := i + 1) (k := 5) (by omega) kl]
              exact rfl
            have bk : decide (h.ld < rc (l.take (i + 1)) 5) = true := decide_eq_true kl
            clear kl
            have F0 : Hid (HAt W2.drew w.heap.size h) := F0.out.below (Below.refl _ _).drew F0.out.lt
            have F2 : Hid (K6 W2.drew (w.heap.size + 1) (rc (l.take (i + 1)))) := F2.out.below (Below.refl _ _).drew F2.out.lt
            have F3 : Hid (P7 W2.drew pb 0 ⟨id, fr, tw, 2, 1, 1, pl⟩) := F3.out.below (Below.refl _ _).drew F3.out.lt
            have FB : Hid (Below w.heap.size w W2.drew) := FB.out.drew
            have m3 := F3.out.c3
            have m4 := F3.out.c4
            have mk := F2.out.c 5 (by omega)
            have ml := F0.out.c10
            refine wp_region_held_drew (S := (fun w'' => w''.cell? ⟨pb, 0 + 3, none⟩ = some (.int .i64 2) ∧ w''.cell? ⟨pb, 0 + 4, none⟩ = some (.int .i64 1) ∧ w''.cell? ⟨(w.heap.size + 1), 5, none⟩ = some (.int .i64 (rc (l.take (i + 1)) 5)) ∧ w''.cell? ⟨w.heap.size, 10, none⟩ = some (.int .i64 h.ld))) (by kernel_rfl) (by (try dsimp only); first | exact ⟨m3, m4, mk, ml⟩ | go_keep) (fun hHeld => ?_)
            obtain ⟨v_23, hw1⟩ : ∃ v_23, v_23 = W2.drew := ⟨_, rfl⟩
            have F0 : Hid (HAt v_23 w.heap.size h) := by rw [hw1]; exact F0.out
            have F2 : Hid (K6 v_23 (w.heap.size + 1) (rc (l.take (i + 1)))) := by rw [hw1]; exact F2.out
            have F3 : Hid (P7 v_23 pb 0 ⟨id, fr, tw, 2, 1, 1, pl⟩) := by rw [hw1]; exact F3.out
            have FB : Hid (Below w.heap.size w v_23) := by rw [hw1]; exact FB.out
            rw [← hw1] at hHeld ⊢
            clear hw1
            have m3 := F3.out.c3
            have m4 := F3.out.c4
            have mk := F2.out.c 5 (by omega)
            have ml := F0.out.c10
            refine tkz 0 rfl ?_
            refine tkz 1 rfl ?_
            refine tkz 2 rfl ?_
            refine tkz 3 rfl ?_
            refine tkz 4 rfl ?_
            refine tkz 5 rfl ?_
            refine tkz 6 rfl ?_
            refine tkz 7 rfl ?_
            refine tkz 8 rfl ?_
            refine tkz 9 rfl ?_
            refine wpAnyH_done (by kernel_rfl) ?_ _
            go_wp2_with fail
            go_ret
            exact ⟨ret_b HV.out.symm, FB.out⟩
          · have HN : Hid (∀ k, k < 6 → rc (l.take (i + 1)) k ≤ h.ld) := by
              intro j hj
              by_cases e : j = 5
              · subst e; exact Int.not_lt.1 kl
              · rw [HX2.out j e]; exact HOK.out j hj
            have bk : decide (h.ld < rc (l.take (i + 1)) 5) = false := decide_eq_false kl
            clear kl
            have F0 : Hid (HAt W2.drew w.heap.size h) := F0.out.below (Below.refl _ _).drew F0.out.lt
            have F2 : Hid (K6 W2.drew (w.heap.size + 1) (rc (l.take (i + 1)))) := F2.out.below (Below.refl _ _).drew F2.out.lt
            have F3 : Hid (P7 W2.drew pb 0 ⟨id, fr, tw, 2, 1, 1, pl⟩) := F3.out.below (Below.refl _ _).drew F3.out.lt
            have FB : Hid (Below w.heap.size w W2.drew) := FB.out.drew
            have m3 := F3.out.c3
            have m4 := F3.out.c4
            have mk := F2.out.c 5 (by omega)
            have ml := F0.out.c10
            refine wp_region_held_drew (S := (fun w'' => w''.cell? ⟨pb, 0 + 3, none⟩ = some (.int .i64 2) ∧ w''.cell? ⟨pb, 0 + 4, none⟩ = some (.int .i64 1) ∧ w''.cell? ⟨(w.heap.size + 1), 5, none⟩ = some (.int .i64 (rc (l.take (i + 1)) 5)) ∧ w''.cell? ⟨w.heap.size, 10, none⟩ = some (.int .i64 h.ld))) (by kernel_rfl) (by (try dsimp only); first | exact ⟨m3, m4, mk, ml⟩ | go_keep) (fun hHeld => ?_)
            obtain ⟨v_24, hw1⟩ : ∃ v_24, v_24 = W2.drew := ⟨_, rfl⟩
            have F0 : Hid (HAt v_24 w.heap.size h) := by rw [hw1]; exact F0.out
            have F2 : Hid (K6 v_24 (w.heap.size + 1) (rc (l.take (i + 1)))) := by rw [hw1]; exact F2.out
            have F3 : Hid (P7 v_24 pb 0 ⟨id, fr, tw, 2, 1, 1, pl⟩) := by rw [hw1]; exact F3.out
            have FB : Hid (Below w.heap.size w v_24) := by rw [hw1]; exact FB.out
            rw [← hw1] at hHeld ⊢
            clear hw1
            have m3 := F3.out.c3
            have m4 := F3.out.c4
            have mk := F2.out.c 5 (by omega)
            have ml := F0.out.c10
            refine tkz 0 rfl ?_
            refine tkz 1 rfl ?_
            refine tkz 2 rfl ?_
            refine tkz 3 rfl ?_
            refine tkz 4 rfl ?_
            refine tkz 5 rfl ?_
            refine tkz 6 rfl ?_
            refine tkz 7 rfl ?_
            refine tkz 8 rfl ?_
            refine tkz 9 rfl ?_
            refine wpAnyH_done (by kernel_rfl) ?_ _
            go_wp2_with fail
            go_roundw
            case rel => exact ⟨i + 1, by simp, by omega, F0.out, F2.out, HN.out, FB.out⟩
            case measure => simp [intOf]; omega
      · have bs : (p.st != 1) = true := by simpa using hst
        have HE : Hid (∀ k, rc (l.take (i + 1)) k = rc (l.take i) k) := by
          intro k
          rw [rc_take hp, if_neg, Int.add_zero]
          simp [isIn, hst]
        clear hp hst
        go_wp2_with fail
        go_roundw
        case rel => exact ⟨i + 1, by simp, by omega, F0.out.alloc _, (show rc (l.take (i + 1)) = rc (l.take i) from funext HE.out) ▸ F2.out.alloc _, fun k hk => by rw [HE.out]; exact HOK.out k hk, FB.out.alloc FB.out.size _⟩
        case measure => simp [intOf]; omega
    · have ei : i = l.length := by omega
      subst ei
      have HV : Hid (decide (h.qu < (cnt 0 (-1) 0 l : Int)) = Hs.crowd h l) := by
        unfold Hs.crowd
        rw [over_no (fun k hk => by have := HOK.out k hk; rwa [List.take_length] at this)]
        exact rfl
      clear hlt hi HOK
      go_wp2_with fail
      have F0 : Hid (HAt wr.drew w.heap.size h) := F0.out.below (Below.refl _ _).drew F0.out.lt
      have FB : Hid (Below w.heap.size w wr.drew) := FB.out.drew
      have mq := F0.out.c11
      refine wp_region_held_drew (S := (fun w'' => w''.cell? ⟨w.heap.size, 11, none⟩ = some (.int .i64 h.qu))) (by kernel_rfl) (by (try dsimp only); first | exact mq | go_keep) (fun hHeld => ?_)
      obtain ⟨v_25, hw1⟩ : ∃ v_25, v_25 = wr.drew := ⟨_, rfl⟩
      have F0 : Hid (HAt v_25 w.heap.size h) := by rw [hw1]; exact F0.out
      have FB : Hid (Below w.heap.size w v_25) := by rw [hw1]; exact FB.out
      rw [← hw1] at hHeld ⊢
      clear hw1
      have mq := F0.out.c11
      refine tkz 0 rfl ?_
      refine tkz 4 rfl ?_
      refine tkz 5 rfl ?_
      refine wpAnyH_ready (rs := [1]) (by kernel_rfl) (by simp) ?_
      refine (AllReadyH.cons rfl (fun K hK => ?_) AllReadyH.nil)
      go_simp
      refine (countStates_any l a cap hl (fun i p hp => (HS.out i p hp).2.2) _ ((HP.out.below FB.out (Nat.le_refl _)).mono FB.out.size)).mono ?_
      rintro e v_26 ⟨g, rfl, ho, hb⟩
      have F0 : Hid (HAt v_26 w.heap.size h) := F0.out.below hb F0.out.lt
      have FB : Hid (Below w.heap.size w v_26) := FB.out.trans (hb.mono FB.out.size)
      clear hb
      have mq := F0.out.c11
      have y0 := ho.cell (i := 0) rfl
      clear ho
      try dsimp only
      refine hK.out _ _ (by (try dsimp only); first | exact mq | go_keep) (fun hHeld => ?_)
      clear hK K
      try simp only [Act.put, List.getElem_toArray, List.getElem_cons_succ, List.getElem_cons_zero, List.setIfInBounds_toArray, List.set_cons_zero, List.set_cons_succ]
      refine tkz 2 rfl ?_
      refine wpAnyH_ready (rs := [3]) (by kernel_rfl) (by simp) ?_
      refine (AllReadyH.cons rfl (fun K hK => ?_) AllReadyH.nil)
      go_simp
      refine hK.out _ _ (by (try dsimp only); first | exact mq | go_keep) (fun hHeld => ?_)
      clear hK K
      try simp only [Act.put, List.getElem_toArray, List.getElem_cons_succ, List.getElem_cons_zero, List.setIfInBounds_toArray, List.set_cons_zero, List.set_cons_succ]
      refine tkz 6 rfl ?_
      refine tkz 7 rfl ?_
      refine wpAnyH_done (by kernel_rfl) ?_ _
      go_wp2_with fail
      go_ret
      exact ⟨ret_b HV.out, FB.out⟩
end Go.Proofs.YtnfdplfifpmhoaaGreatDoor
