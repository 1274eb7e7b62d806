/-
  The model's ledger: what is asked; DropWaiting, AlightAt, LetOut.
-/
import Derived.Test.YtllphhhaaoggjaaPersH
import Derived.Test.YtllphhhaaoggjaaPersF
import Derived.BigGuardPart
namespace Go.Proofs.Ytllphhhaaoggjaa
open Go.RowKit Pl
set_option linter.unusedSimpArgs false
set_option linter.unusedVariables false

/-- A ledger's result that isn't filled yet. -/
structure RL (w : World) (b : Nat) : Prop where
  c0 : w.cell? ⟨b, 0, none⟩ = some (.int .i64 0)
  c1 : w.cell? ⟨b, 1, none⟩ = some (.int .i64 0)
  c2 : w.cell? ⟨b, 2, none⟩ = some (.int .i64 0)
  c3 : w.cell? ⟨b, 3, none⟩ = some (.slice none 0 0)
  f0 : w.frozen? ⟨b, 0, none⟩ = false
  f1 : w.frozen? ⟨b, 1, none⟩ = false
  f2 : w.frozen? ⟨b, 2, none⟩ = false
  f3 : w.frozen? ⟨b, 3, none⟩ = false
theorem RL.lt {w : World} {b : Nat} (a : RL w b) : b < w.heap.size := World.block_lt_of_cell? w _ a.c0
theorem RL.at_ (w : World) (T : TypeId) (b : Nat) (hb : b = w.heap.size) : RL (w.alloc (.cells #[.int .i64 0, .int .i64 0, .int .i64 0, .slice none 0 0] T)) b := by
  subst hb
  constructor <;> simp
theorem RL.of {W w : World} {b : Nat} (a : RL W b) (hc : ∀ o, w.cell? ⟨b, o, none⟩ = W.cell? ⟨b, o, none⟩) (hf : ∀ o, w.frozen? ⟨b, o, none⟩ = W.frozen? ⟨b, o, none⟩) : RL w b :=
  ⟨(hc 0).trans a.c0, (hc 1).trans a.c1, (hc 2).trans a.c2, (hc 3).trans a.c3, (hf 0).trans a.f0, (hf 1).trans a.f1, (hf 2).trans a.f2, (hf 3).trans a.f3⟩
theorem RL.below {W w : World} {b B : Nat} (a : RL W b) (hb : Below B W w) (hB : b < B) : RL w b := a.of (fun o => hb.cell (p := ⟨b, o, none⟩) hB) (fun o => hb.frozen (p := ⟨b, o, none⟩) hB)
theorem RL.alloc {W : World} {b : Nat} (a : RL W b) (o : Obj) : RL (W.alloc o) b := a.below ((Below.refl _ _).alloc (Nat.le_refl _) o) a.lt
theorem RL.grown {W w : World} {b : Nat} {row : Option Nat} (a : RL W b) (hg : W.grownBy w row) (hne : some b ≠ row) : RL w b :=
  a.of (fun o => World.cell?_of_block (w := W) (hg.block b a.lt hne)) (fun o => World.frozen?_of_block (w := W) (hg.block b a.lt hne))
/-- A ledger is answered: its people lie in a row of their own. -/
def isLed (w : World) (k id nx : Int) (l : List Pe) (e : Ending) (w' : World) : Prop := ∃ v, e = .returned (.agg #[.int .i64 k, .int .i64 id, .int .i64 nx, v]) ∧ Own w' w.heap.size v l ∧ Below w.heap.size w w'
theorem own_nil (w : World) (B : Nat) : Own w B (.slice none 0 0) [] := World.ownsRow_nil w B _ 7
def carB (sh ca : Int) : Bool := inB sh 0 2 && inB ca 0 1
def Hs.askd (h : Hs) (x : Lg) (sh ca fl : Int) : Int := if Hs.led h x = 0 then (if carB sh ca = true ∧ inB fl 0 (h.fl - 1) = true then 0 else 3) else Hs.led h x
set_option maxRecDepth 20000 in
set_option maxHeartbeats 8000000 in
theorem l7Car_any (sh ca : Int) (w : World) :
    Calls Try.prog 96 #[.int .i64 sh, .int .i64 ca] w fun e w' => e = .returned (.bool (carB sh ca)) ∧ w' = w := by
  unfold carB
  cases k : inB sh 0 2
  all_goals
    go_enter Try.func96, Try.ntmps96
    go_wp2_with (go_at_call 57; refine (l1In_any _ _ _ _).mono ?_; rintro e w' ⟨rfl, hw⟩; obtain rfl := hw.symm; clear hw)
    go_ret
    exact ⟨ret_bool (by simp), rfl⟩
set_option maxRecDepth 20000 in
set_option maxHeartbeats 16000000 in
theorem l7Asked_any (h : Hs) (x : Lg) (sh ca fl : Int) (a : Option Addr) (cap : Nat) (hl : x.ps.length ≤ 1048576) (w : World) (hP : PIn w w.heap.size a x.ps) :
    Calls Try.prog 52 #[.agg #[.int .i64 h.fl, .int .i64 h.gp, .int .i64 h.ln, .int .i64 h.rf, .int .i64 h.sp, .int .i64 h.pu, .int .i64 h.br, .int .i64 h.dr, .int .i64 h.lv, .int .i64 h.dO, .int .i64 h.ld, .int .i64 h.qu], .agg #[.int .i64 x.nx, .slice a x.ps.length cap], .int .i64 sh, .int .i64 ca, .int .i64 fl] w fun e w' => e = .returned (.int .i64 (Hs.askd h x sh ca fl)) ∧ Below w.heap.size w w' := by
  unfold Hs.askd
  have HP : Hid (PIn w w.heap.size a x.ps) := hP
  have F0 : Hid (HAt ((w.alloc (.cells #[.int .i64 h.fl, .int .i64 h.gp, .int .i64 h.ln, .int .i64 h.rf, .int .i64 h.sp, .int .i64 h.pu, .int .i64 h.br, .int .i64 h.dr, .int .i64 h.lv, .int .i64 h.dO, .int .i64 h.ld, .int .i64 h.qu] 25)).alloc (.cells #[.int .i64 x.nx, .slice a x.ps.length cap] 28)) w.heap.size h) := (HAt.new w h _).below ((Below.refl _ _).alloc (Nat.le_refl _) _) (by simp)
  have FB : Hid (Below w.heap.size w ((w.alloc (.cells #[.int .i64 h.fl, .int .i64 h.gp, .int .i64 h.ln, .int .i64 h.rf, .int .i64 h.sp, .int .i64 h.pu, .int .i64 h.br, .int .i64 h.dr, .int .i64 h.lv, .int .i64 h.dO, .int .i64 h.ld, .int .i64 h.qu] 25)).alloc (.cells #[.int .i64 x.nx, .slice a x.ps.length cap] 28))) := ((Below.refl _ _).alloc (Nat.le_refl _) _).alloc (by simp) _
  clear hP
  by_cases hk : Hs.led h x = 0
  · rw [if_pos hk]
    have hf : h.fault = 0 := by
      unfold Hs.led at hk
      by_cases q : h.fault = 0
      · exact q
      · rw [if_neg q] at hk; exact hk
    have oo := Hs.ok_of (Hs.fault_zero hf).1
    have f1 := oo.fl1; have f2 := oo.fl2
    have en : IntKind.i64.wrap (h.fl - 1) = h.fl - 1 := IntWalk.i64_in _ (by omega)
    clear oo
    cases i1 : carB sh ca
    · rw [if_neg (by simp)]
      go_enter Try.func52, Try.ntmps52
      go_wp2_with (first | (go_at_call 20; refine (specLedgerFault_any h x a cap hl _ ((HP.out.below FB.out (Nat.le_refl _)).mono FB.out.size)).mono ?_; rw [hk]; rintro e w1 ⟨rfl, hb⟩; have F0 : Hid (HAt w1 w.heap.size h) := F0.out.below hb F0.out.lt; have FB : Hid (Below w.heap.size w w1) := FB.out.trans (hb.mono FB.out.size); clear hb; obtain ⟨x0_0, x0_1, x0_2, x0_3, x0_4, x0_5, x0_6, x0_7, x0_8, x0_9, x0_10, x0_11⟩ := F0.out) | (go_at_call 96; refine (l7Car_any _ _ _).mono ?_; rintro e w' ⟨rfl, hw⟩; obtain rfl := hw.symm; clear hw) | (go_at_call 57; refine (l1In_any _ _ _ _).mono ?_; rintro e w' ⟨rfl, hw⟩; obtain rfl := hw.symm; clear hw))
      go_ret
      exact ⟨rfl, FB.out⟩
    · cases i2 : inB fl 0 (h.fl - 1)
      · rw [if_neg (by simp)]
        go_enter Try.func52, Try.ntmps52
        go_wp2_with (first | (go_at_call 20; refine (specLedgerFault_any h x a cap hl _ ((HP.out.below FB.out (Nat.le_refl _)).mono FB.out.size)).mono ?_; rw [hk]; rintro e w1 ⟨rfl, hb⟩; have F0 : Hid (HAt w1 w.heap.size h) := F0.out.below hb F0.out.lt; have FB : Hid (Below w.heap.size w w1) := FB.out.trans (hb.mono FB.out.size); clear hb; obtain ⟨x0_0, x0_1, x0_2, x0_3, x0_4, x0_5, x0_6, x0_7, x0_8, x0_9, x0_10, x0_11⟩ := F0.out) | (go_at_call 96; refine (l7Car_any _ _ _).mono ?_; rintro e w' ⟨rfl, hw⟩; obtain rfl := hw.symm; clear hw) | (go_at_call 57; refine (l1In_any _ _ _ _).mono ?_; rintro e w' ⟨rfl, hw⟩; obtain rfl := hw.symm; clear hw))
        go_ret
        exact ⟨rfl, FB.out⟩
      · rw [if_pos ⟨rfl, rfl⟩]
        go_enter Try.func52, Try.ntmps52
        go_wp2_with (first | (go_at_call 20; refine (specLedgerFault_any h x a cap hl _ ((HP.out.below FB.out (Nat.le_refl _)).mono FB.out.size)).mono ?_; rw [hk]; rintro e w1 ⟨rfl, hb⟩; have F0 : Hid (HAt w1 w.heap.size h) := F0.out.below hb F0.out.lt; have FB : Hid (Below w.heap.size w w1) := FB.out.trans (hb.mono FB.out.size); clear hb; obtain ⟨x0_0, x0_1, x0_2, x0_3, x0_4, x0_5, x0_6, x0_7, x0_8, x0_9, x0_10, x0_11⟩ := F0.out) | (go_at_call 96; refine (l7Car_any _ _ _).mono ?_; rintro e w' ⟨rfl, hw⟩; obtain rfl := hw.symm; clear hw) | (go_at_call 57; refine (l1In_any _ _ _ _).mono ?_; rintro e w' ⟨rfl, hw⟩; obtain rfl := hw.symm; clear hw))
        go_ret
        exact ⟨rfl, FB.out⟩
  · rw [if_neg hk]
    have hn : (Hs.led h x != 0) = true := by simpa using hk
    clear hk
    go_enter Try.func52, Try.ntmps52
    go_wp2_with (go_at_call 20; refine (specLedgerFault_any h x a cap hl _ ((HP.out.below FB.out (Nat.le_refl _)).mono FB.out.size)).mono ?_; rintro e w1 ⟨rfl, hb⟩; have F0 : Hid (HAt w1 w.heap.size h) := F0.out.below hb F0.out.lt; have FB : Hid (Below w.heap.size w w1) := FB.out.trans (hb.mono FB.out.size); clear hb; obtain ⟨x0_0, x0_1, x0_2, x0_3, x0_4, x0_5, x0_6, x0_7, x0_8, x0_9, x0_10, x0_11⟩ := F0.out)
    go_ret
    exact ⟨rfl, FB.out⟩
def Hs.dropV (h : Hs) (x : Lg) : Lg := if (Hs.led h x) = 0 then ⟨x.nx, x.ps.map dropP⟩ else ⟨0, []⟩
set_option maxRecDepth 20000 in
set_option maxHeartbeats 16000000 in
theorem specDropWaiting_any (h : Hs) (x : Lg) (b o cap : Nat) (hl : x.ps.length ≤ 1048576) (w : World) (hb : b < w.heap.size) (hP : ∀ i p, x.ps[i]? = some p → P7 w b (o + i * 7) p) :
    Calls Try.prog 40 #[.agg #[.int .i64 h.fl, .int .i64 h.gp, .int .i64 h.ln, .int .i64 h.rf, .int .i64 h.sp, .int .i64 h.pu, .int .i64 h.br, .int .i64 h.dr, .int .i64 h.lv, .int .i64 h.dO, .int .i64 h.ld, .int .i64 h.qu], .agg #[.int .i64 x.nx, .slice (some ⟨b, o, none⟩) x.ps.length cap]] w (isLed w (Hs.led h x) 0 (Hs.dropV h x).nx (Hs.dropV h x).ps) := by
  unfold Hs.dropV
  have HP : Hid (PIn w w.heap.size (some ⟨b, o, none⟩) x.ps) := Or.inr ⟨b, o, rfl, hb, hP⟩
  have F0 : Hid (HAt (((w.alloc (.cells #[.int .i64 h.fl, .int .i64 h.gp, .int .i64 h.ln, .int .i64 h.rf, .int .i64 h.sp, .int .i64 h.pu, .int .i64 h.br, .int .i64 h.dr, .int .i64 h.lv, .int .i64 h.dO, .int .i64 h.ld, .int .i64 h.qu] 25)).alloc (.cells #[.int .i64 x.nx, .slice (some ⟨b, o, none⟩) x.ps.length cap] 28)).alloc (.cells #[.int .i64 0, .int .i64 0, .int .i64 0, .slice none 0 0] 53)) w.heap.size h) := ((HAt.new w h _).below ((Below.refl _ _).alloc (Nat.le_refl _) _) (by simp)).below ((Below.refl _ _).alloc (Nat.le_refl _) _) (by simp; omega)
  have F1 : Hid (LW (((w.alloc (.cells #[.int .i64 h.fl, .int .i64 h.gp, .int .i64 h.ln, .int .i64 h.rf, .int .i64 h.sp, .int .i64 h.pu, .int .i64 h.br, .int .i64 h.dr, .int .i64 h.lv, .int .i64 h.dO, .int .i64 h.ld, .int .i64 h.qu] 25)).alloc (.cells #[.int .i64 x.nx, .slice (some ⟨b, o, none⟩) x.ps.length cap] 28)).alloc (.cells #[.int .i64 0, .int .i64 0, .int .i64 0, .slice none 0 0] 53)) (w.heap.size + 1) x.nx (.slice (some ⟨b, o, none⟩) x.ps.length cap)) := (LW.at_ _ x.nx (.slice (some ⟨b, o, none⟩) x.ps.length cap) _ _ (by simp)).alloc _
  have F2 : Hid (RL (((w.alloc (.cells #[.int .i64 h.fl, .int .i64 h.gp, .int .i64 h.ln, .int .i64 h.rf, .int .i64 h.sp, .int .i64 h.pu, .int .i64 h.br, .int .i64 h.dr, .int .i64 h.lv, .int .i64 h.dO, .int .i64 h.ld, .int .i64 h.qu] 25)).alloc (.cells #[.int .i64 x.nx, .slice (some ⟨b, o, none⟩) x.ps.length cap] 28)).alloc (.cells #[.int .i64 0, .int .i64 0, .int .i64 0, .slice none 0 0] 53)) (w.heap.size + 2)) := RL.at_ _ _ _ (by simp)
  have FB : Hid (Below w.heap.size w (((w.alloc (.cells #[.int .i64 h.fl, .int .i64 h.gp, .int .i64 h.ln, .int .i64 h.rf, .int .i64 h.sp, .int .i64 h.pu, .int .i64 h.br, .int .i64 h.dr, .int .i64 h.lv, .int .i64 h.dO, .int .i64 h.ld, .int .i64 h.qu] 25)).alloc (.cells #[.int .i64 x.nx, .slice (some ⟨b, o, none⟩) x.ps.length cap] 28)).alloc (.cells #[.int .i64 0, .int .i64 0, .int .i64 0, .slice none 0 0] 53))) := (((Below.refl _ _).alloc (Nat.le_refl _) _).alloc (by simp) _).alloc (by simp; omega) _
  have FP : Hid (∀ i p, x.ps[i]? = some p → P7 (((w.alloc (.cells #[.int .i64 h.fl, .int .i64 h.gp, .int .i64 h.ln, .int .i64 h.rf, .int .i64 h.sp, .int .i64 h.pu, .int .i64 h.br, .int .i64 h.dr, .int .i64 h.lv, .int .i64 h.dO, .int .i64 h.ld, .int .i64 h.qu] 25)).alloc (.cells #[.int .i64 x.nx, .slice (some ⟨b, o, none⟩) x.ps.length cap] 28)).alloc (.cells #[.int .i64 0, .int .i64 0, .int .i64 0, .slice none 0 0] 53)) b (o + i * 7) p) := fun i p hp => (hP i p hp).below FB.out (hP i p hp).lt
  clear hP hb
  by_cases hk : (Hs.led h x) = 0
  · rw [if_pos hk, hk]
    go_enter Try.func40, Try.ntmps40
    go_upto_region 4 with (go_at_call 20; refine (specLedgerFault_any h x (some ⟨b, o, none⟩) cap hl _ ((HP.out.below FB.out (Nat.le_refl _)).mono FB.out.size)).mono ?_; rw [hk]; rintro e w1 ⟨rfl, hb⟩; have F0 : Hid (HAt w1 w.heap.size h) := F0.out.below hb F0.out.lt; have F1 : Hid (LW w1 (w.heap.size + 1) x.nx (.slice (some ⟨b, o, none⟩) x.ps.length cap)) := F1.out.below hb F1.out.lt; have F2 : Hid (RL w1 (w.heap.size + 2)) := F2.out.below hb F2.out.lt; have FP : Hid (∀ i p, x.ps[i]? = some p → P7 w1 b (o + i * 7) p) := fun i p hp => (FP.out i p hp).below hb (FP.out i p hp).lt; have FB : Hid (Below w.heap.size w w1) := FB.out.trans (hb.mono FB.out.size); clear hb; obtain ⟨x0_0, x0_1, x0_2, x0_3, x0_4, x0_5, x0_6, x0_7, x0_8, x0_9, x0_10, x0_11⟩ := F0.out; obtain ⟨x1_0, x1_1, y1_0, y1_1⟩ := F1.out; obtain ⟨x2_0, x2_1, x2_2, x2_3, y2_0, y2_1, y2_2, y2_3⟩ := F2.out)
    have F2' := F2.out
    go_upto_region 5 with (go_at_call 67; refine (l7Copy_any x.nx b o cap x.ps hl _ FP.out).mono ?_; rintro e w2 ⟨g, cap', rfl, ho, hb⟩; have FO : Hid (Ow w2 w1.heap.size g x.ps.length cap' x.ps) := ho; have F2 : Hid (RL w2 (w.heap.size + 2)) := F2.out.below hb F2.out.lt; have l2 : w.heap.size + 2 < g := Nat.lt_of_lt_of_le F2'.lt FO.out.bl.1; have FB : Hid (Below w.heap.size w w2) := FB.out.trans (hb.mono FB.out.size); clear hb ho)
    clear F2'
    obtain ⟨ob, hbb⟩ : ∃ ob, ob = w2.heap.size := ⟨_, rfl⟩
    obtain ⟨w3, hw3⟩ : ∃ w3, w3 = w2.alloc (.cells #[.int .i64 x.nx, .slice (some ⟨g, 0, none⟩) x.ps.length cap'] 28) := ⟨_, rfl⟩
    have lg := FO.out.bl.2
    rw [← hbb] at lg
    have F2 : Hid (RL w3 (w.heap.size + 2)) := by rw [hw3]; exact F2.out.alloc _
    have FO : Hid (Ow w3 w1.heap.size g x.ps.length cap' x.ps) := by rw [hw3]; exact FO.out.alloc _
    have F3 : Hid (LW w3 ob x.nx (.slice (some ⟨g, 0, none⟩) x.ps.length cap')) := by rw [hw3]; exact LW.at_ w2 _ _ _ ob hbb
    have FB : Hid (Below w.heap.size w w3) := by rw [hw3]; exact FB.out.alloc FB.out.size _
    skip
    rw [← hw3, ← hbb]
    clear hw3 hbb x0_0 x0_1 x0_2 x0_3 x0_4 x0_5 x0_6 x0_7 x0_8 x0_9 x0_10 x0_11 x1_0 x1_1 y1_0 y1_1 x2_0 x2_1 x2_2 x2_3 y2_0 y2_1 y2_2 y2_3
    skip
    go_upto_region 6 with (go_at_call 86; refine (l7Drop_any ob x.nx w1.heap.size g x.ps.length cap' x.ps hl (by omega) _ F3.out.lat FO.out).mono ?_; rintro e w4 ⟨rfl, ho, hg⟩; have FO : Hid (Ow w4 w1.heap.size g x.ps.length cap' (x.ps.map dropP)) := ho; have F2 : Hid (RL w4 (w.heap.size + 2)) := F2.out.grown hg (fun e => by have e2 : w.heap.size + 2 = g := Option.some.inj e; omega); have F3 : Hid (LW w4 ob x.nx (.slice (some ⟨g, 0, none⟩) x.ps.length cap')) := F3.out.grown hg (fun e => by have e2 : ob = g := Option.some.inj e; omega); have FB : Hid (Below w.heap.size w w4) := FB.out.grown hg FB.out.size (fun k hk => by have e2 : g = k := Option.some.inj hk; omega); clear hg ho)
    have hle : w.heap.size ≤ w1.heap.size := by
      have := FO.out.bl.1
      have := F1.out.lt
      omega
    obtain ⟨x3_0, x3_1, y3_0, y3_1⟩ := F3.out
    obtain ⟨x2_0, x2_1, x2_2, x2_3, y2_0, y2_1, y2_2, y2_3⟩ := F2.out
    go_wp2_with fail
    exact bodyPost_ret (v := .agg #[.int .i64 0, .int .i64 0, .int .i64 x.nx, .slice (some ⟨g, 0, none⟩) x.ps.length cap']) (by simp [results, Try.results40, go_sem, x2_0, x2_1, x2_2, x2_3]) rfl ⟨_, rfl, ((((((FO.out.base hle).other (by simp; omega) _).other (by simp; omega) _).other (by simp; omega) _).other (by simp; omega) _)).own, (((FB.out.setCell (by simp <;> omega) _).setCell (by simp <;> omega) _).setCell (by simp <;> omega) _).setCell (by simp <;> omega) _⟩
  · rw [if_neg hk]
    have hn : ((Hs.led h x) != 0) = true := by simpa using hk
    clear hk
    go_enter Try.func40, Try.ntmps40
    go_wp2_with (go_at_call 20; refine (specLedgerFault_any h x (some ⟨b, o, none⟩) cap hl _ ((HP.out.below FB.out (Nat.le_refl _)).mono FB.out.size)).mono ?_; rintro e w1 ⟨rfl, hb⟩; have F0 : Hid (HAt w1 w.heap.size h) := F0.out.below hb F0.out.lt; have F1 : Hid (LW w1 (w.heap.size + 1) x.nx (.slice (some ⟨b, o, none⟩) x.ps.length cap)) := F1.out.below hb F1.out.lt; have F2 : Hid (RL w1 (w.heap.size + 2)) := F2.out.below hb F2.out.lt; have FP : Hid (∀ i p, x.ps[i]? = some p → P7 w1 b (o + i * 7) p) := fun i p hp => (FP.out i p hp).below hb (FP.out i p hp).lt; have FB : Hid (Below w.heap.size w w1) := FB.out.trans (hb.mono FB.out.size); clear hb; obtain ⟨x0_0, x0_1, x0_2, x0_3, x0_4, x0_5, x0_6, x0_7, x0_8, x0_9, x0_10, x0_11⟩ := F0.out; obtain ⟨x1_0, x1_1, y1_0, y1_1⟩ := F1.out; obtain ⟨x2_0, x2_1, x2_2, x2_3, y2_0, y2_1, y2_2, y2_3⟩ := F2.out)
    exact bodyPost_ret (v := .agg #[.int .i64 (Hs.led h x), .int .i64 0, .int .i64 0, .slice none 0 0]) (by simp [results, Try.results40, go_sem, x2_0, x2_1, x2_2, x2_3]) rfl ⟨_, rfl, own_nil _ _, (((FB.out.setCell (by simp <;> omega) _).setCell (by simp <;> omega) _).setCell (by simp <;> omega) _).setCell (by simp <;> omega) _⟩
def Hs.alightV (h : Hs) (x : Lg) (sh ca fl : Int) : Lg := if (Hs.askd h x sh ca fl) = 0 then ⟨x.nx, x.ps.map (alightP sh ca fl)⟩ else ⟨0, []⟩
set_option maxRecDepth 20000 in
set_option maxHeartbeats 16000000 in
theorem specAlightAt_any (h : Hs) (x : Lg) (sh ca fl : Int) (b o cap : Nat) (hl : x.ps.length ≤ 1048576) (w : World) (hb : b < w.heap.size) (hP : ∀ i p, x.ps[i]? = some p → P7 w b (o + i * 7) p) :
    Calls Try.prog 36 #[.agg #[.int .i64 h.fl, .int .i64 h.gp, .int .i64 h.ln, .int .i64 h.rf, .int .i64 h.sp, .int .i64 h.pu, .int .i64 h.br, .int .i64 h.dr, .int .i64 h.lv, .int .i64 h.dO, .int .i64 h.ld, .int .i64 h.qu], .agg #[.int .i64 x.nx, .slice (some ⟨b, o, none⟩) x.ps.length cap], .int .i64 sh, .int .i64 ca, .int .i64 fl] w (isLed w (Hs.askd h x sh ca fl) 0 (Hs.alightV h x sh ca fl).nx (Hs.alightV h x sh ca fl).ps) := by
  unfold Hs.alightV
  have HP : Hid (PIn w w.heap.size (some ⟨b, o, none⟩) x.ps) := Or.inr ⟨b, o, rfl, hb, hP⟩
  have F0 : Hid (HAt (((w.alloc (.cells #[.int .i64 h.fl, .int .i64 h.gp, .int .i64 h.ln, .int .i64 h.rf, .int .i64 h.sp, .int .i64 h.pu, .int .i64 h.br, .int .i64 h.dr, .int .i64 h.lv, .int .i64 h.dO, .int .i64 h.ld, .int .i64 h.qu] 25)).alloc (.cells #[.int .i64 x.nx, .slice (some ⟨b, o, none⟩) x.ps.length cap] 28)).alloc (.cells #[.int .i64 0, .int .i64 0, .int .i64 0, .slice none 0 0] 53)) w.heap.size h) := ((HAt.new w h _).below ((Below.refl _ _).alloc (Nat.le_refl _) _) (by simp)).below ((Below.refl _ _).alloc (Nat.le_refl _) _) (by simp; omega)
  have F1 : Hid (LW (((w.alloc (.cells #[.int .i64 h.fl, .int .i64 h.gp, .int .i64 h.ln, .int .i64 h.rf, .int .i64 h.sp, .int .i64 h.pu, .int .i64 h.br, .int .i64 h.dr, .int .i64 h.lv, .int .i64 h.dO, .int .i64 h.ld, .int .i64 h.qu] 25)).alloc (.cells #[.int .i64 x.nx, .slice (some ⟨b, o, none⟩) x.ps.length cap] 28)).alloc (.cells #[.int .i64 0, .int .i64 0, .int .i64 0, .slice none 0 0] 53)) (w.heap.size + 1) x.nx (.slice (some ⟨b, o, none⟩) x.ps.length cap)) := (LW.at_ _ x.nx (.slice (some ⟨b, o, none⟩) x.ps.length cap) _ _ (by simp)).alloc _
  have F2 : Hid (RL (((w.alloc (.cells #[.int .i64 h.fl, .int .i64 h.gp, .int .i64 h.ln, .int .i64 h.rf, .int .i64 h.sp, .int .i64 h.pu, .int .i64 h.br, .int .i64 h.dr, .int .i64 h.lv, .int .i64 h.dO, .int .i64 h.ld, .int .i64 h.qu] 25)).alloc (.cells #[.int .i64 x.nx, .slice (some ⟨b, o, none⟩) x.ps.length cap] 28)).alloc (.cells #[.int .i64 0, .int .i64 0, .int .i64 0, .slice none 0 0] 53)) (w.heap.size + 2)) := RL.at_ _ _ _ (by simp)
  have FB : Hid (Below w.heap.size w (((w.alloc (.cells #[.int .i64 h.fl, .int .i64 h.gp, .int .i64 h.ln, .int .i64 h.rf, .int .i64 h.sp, .int .i64 h.pu, .int .i64 h.br, .int .i64 h.dr, .int .i64 h.lv, .int .i64 h.dO, .int .i64 h.ld, .int .i64 h.qu] 25)).alloc (.cells #[.int .i64 x.nx, .slice (some ⟨b, o, none⟩) x.ps.length cap] 28)).alloc (.cells #[.int .i64 0, .int .i64 0, .int .i64 0, .slice none 0 0] 53))) := (((Below.refl _ _).alloc (Nat.le_refl _) _).alloc (by simp) _).alloc (by simp; omega) _
  have FP : Hid (∀ i p, x.ps[i]? = some p → P7 (((w.alloc (.cells #[.int .i64 h.fl, .int .i64 h.gp, .int .i64 h.ln, .int .i64 h.rf, .int .i64 h.sp, .int .i64 h.pu, .int .i64 h.br, .int .i64 h.dr, .int .i64 h.lv, .int .i64 h.dO, .int .i64 h.ld, .int .i64 h.qu] 25)).alloc (.cells #[.int .i64 x.nx, .slice (some ⟨b, o, none⟩) x.ps.length cap] 28)).alloc (.cells #[.int .i64 0, .int .i64 0, .int .i64 0, .slice none 0 0] 53)) b (o + i * 7) p) := fun i p hp => (hP i p hp).below FB.out (hP i p hp).lt
  clear hP hb
  by_cases hk : (Hs.askd h x sh ca fl) = 0
  · rw [if_pos hk, hk]
    go_enter Try.func36, Try.ntmps36
    go_upto_region 4 with (go_at_call 52; refine (l7Asked_any h x sh ca fl (some ⟨b, o, none⟩) cap hl _ ((HP.out.below FB.out (Nat.le_refl _)).mono FB.out.size)).mono ?_; rw [hk]; rintro e w1 ⟨rfl, hb⟩; have F0 : Hid (HAt w1 w.heap.size h) := F0.out.below hb F0.out.lt; have F1 : Hid (LW w1 (w.heap.size + 1) x.nx (.slice (some ⟨b, o, none⟩) x.ps.length cap)) := F1.out.below hb F1.out.lt; have F2 : Hid (RL w1 (w.heap.size + 2)) := F2.out.below hb F2.out.lt; have FP : Hid (∀ i p, x.ps[i]? = some p → P7 w1 b (o + i * 7) p) := fun i p hp => (FP.out i p hp).below hb (FP.out i p hp).lt; have FB : Hid (Below w.heap.size w w1) := FB.out.trans (hb.mono FB.out.size); clear hb; obtain ⟨x0_0, x0_1, x0_2, x0_3, x0_4, x0_5, x0_6, x0_7, x0_8, x0_9, x0_10, x0_11⟩ := F0.out; obtain ⟨x1_0, x1_1, y1_0, y1_1⟩ := F1.out; obtain ⟨x2_0, x2_1, x2_2, x2_3, y2_0, y2_1, y2_2, y2_3⟩ := F2.out)
    have F2' := F2.out
    go_upto_region 5 with (go_at_call 67; refine (l7Copy_any x.nx b o cap x.ps hl _ FP.out).mono ?_; rintro e w2 ⟨g, cap', rfl, ho, hb⟩; have FO : Hid (Ow w2 w1.heap.size g x.ps.length cap' x.ps) := ho; have F2 : Hid (RL w2 (w.heap.size + 2)) := F2.out.below hb F2.out.lt; have l2 : w.heap.size + 2 < g := Nat.lt_of_lt_of_le F2'.lt FO.out.bl.1; have FB : Hid (Below w.heap.size w w2) := FB.out.trans (hb.mono FB.out.size); clear hb ho)
    clear F2'
    obtain ⟨ob, hbb⟩ : ∃ ob, ob = w2.heap.size := ⟨_, rfl⟩
    obtain ⟨w3, hw3⟩ : ∃ w3, w3 = w2.alloc (.cells #[.int .i64 x.nx, .slice (some ⟨g, 0, none⟩) x.ps.length cap'] 28) := ⟨_, rfl⟩
    have lg := FO.out.bl.2
    rw [← hbb] at lg
    have F2 : Hid (RL w3 (w.heap.size + 2)) := by rw [hw3]; exact F2.out.alloc _
    have FO : Hid (Ow w3 w1.heap.size g x.ps.length cap' x.ps) := by rw [hw3]; exact FO.out.alloc _
    have F3 : Hid (LW w3 ob x.nx (.slice (some ⟨g, 0, none⟩) x.ps.length cap')) := by rw [hw3]; exact LW.at_ w2 _ _ _ ob hbb
    have FB : Hid (Below w.heap.size w w3) := by rw [hw3]; exact FB.out.alloc FB.out.size _
    skip
    rw [← hw3, ← hbb]
    clear hw3 hbb x0_0 x0_1 x0_2 x0_3 x0_4 x0_5 x0_6 x0_7 x0_8 x0_9 x0_10 x0_11 x1_0 x1_1 y1_0 y1_1 x2_0 x2_1 x2_2 x2_3 y2_0 y2_1 y2_2 y2_3
    skip
    go_upto_region 6 with (go_at_call 82; refine (l7Alight_any ob x.nx w1.heap.size g x.ps.length cap' x.ps sh ca fl hl (by omega) _ F3.out.lat FO.out).mono ?_; rintro e w4 ⟨rfl, ho, hg⟩; have FO : Hid (Ow w4 w1.heap.size g x.ps.length cap' (x.ps.map (alightP sh ca fl))) := ho; have F2 : Hid (RL w4 (w.heap.size + 2)) := F2.out.grown hg (fun e => by have e2 : w.heap.size + 2 = g := Option.some.inj e; omega); have F3 : Hid (LW w4 ob x.nx (.slice (some ⟨g, 0, none⟩) x.ps.length cap')) := F3.out.grown hg (fun e => by have e2 : ob = g := Option.some.inj e; omega); have FB : Hid (Below w.heap.size w w4) := FB.out.grown hg FB.out.size (fun k hk => by have e2 : g = k := Option.some.inj hk; omega); clear hg ho)
    have hle : w.heap.size ≤ w1.heap.size := by
      have := FO.out.bl.1
      have := F1.out.lt
      omega
    obtain ⟨x3_0, x3_1, y3_0, y3_1⟩ := F3.out
    obtain ⟨x2_0, x2_1, x2_2, x2_3, y2_0, y2_1, y2_2, y2_3⟩ := F2.out
    go_wp2_with fail
    exact bodyPost_ret (v := .agg #[.int .i64 0, .int .i64 0, .int .i64 x.nx, .slice (some ⟨g, 0, none⟩) x.ps.length cap']) (by simp [results, Try.results36, go_sem, x2_0, x2_1, x2_2, x2_3]) rfl ⟨_, rfl, ((((((FO.out.base hle).other (by simp; omega) _).other (by simp; omega) _).other (by simp; omega) _).other (by simp; omega) _)).own, (((FB.out.setCell (by simp <;> omega) _).setCell (by simp <;> omega) _).setCell (by simp <;> omega) _).setCell (by simp <;> omega) _⟩
  · rw [if_neg hk]
    have hn : ((Hs.askd h x sh ca fl) != 0) = true := by simpa using hk
    clear hk
    go_enter Try.func36, Try.ntmps36
    go_wp2_with (go_at_call 52; refine (l7Asked_any h x sh ca fl (some ⟨b, o, none⟩) cap hl _ ((HP.out.below FB.out (Nat.le_refl _)).mono FB.out.size)).mono ?_; rintro e w1 ⟨rfl, hb⟩; have F0 : Hid (HAt w1 w.heap.size h) := F0.out.below hb F0.out.lt; have F1 : Hid (LW w1 (w.heap.size + 1) x.nx (.slice (some ⟨b, o, none⟩) x.ps.length cap)) := F1.out.below hb F1.out.lt; have F2 : Hid (RL w1 (w.heap.size + 2)) := F2.out.below hb F2.out.lt; have FP : Hid (∀ i p, x.ps[i]? = some p → P7 w1 b (o + i * 7) p) := fun i p hp => (FP.out i p hp).below hb (FP.out i p hp).lt; have FB : Hid (Below w.heap.size w w1) := FB.out.trans (hb.mono FB.out.size); clear hb; obtain ⟨x0_0, x0_1, x0_2, x0_3, x0_4, x0_5, x0_6, x0_7, x0_8, x0_9, x0_10, x0_11⟩ := F0.out; obtain ⟨x1_0, x1_1, y1_0, y1_1⟩ := F1.out; obtain ⟨x2_0, x2_1, x2_2, x2_3, y2_0, y2_1, y2_2, y2_3⟩ := F2.out)
    exact bodyPost_ret (v := .agg #[.int .i64 (Hs.askd h x sh ca fl), .int .i64 0, .int .i64 0, .slice none 0 0]) (by simp [results, Try.results36, go_sem, x2_0, x2_1, x2_2, x2_3]) rfl ⟨_, rfl, own_nil _ _, (((FB.out.setCell (by simp <;> omega) _).setCell (by simp <;> omega) _).setCell (by simp <;> omega) _).setCell (by simp <;> omega) _⟩
def Hs.outV (h : Hs) (x : Lg) (sh ca fl : Int) : Lg := if (Hs.askd h x sh ca fl) = 0 then ⟨x.nx, x.ps.map (outP sh ca fl)⟩ else ⟨0, []⟩
set_option maxRecDepth 20000 in
set_option maxHeartbeats 16000000 in
theorem specLetOut_any (h : Hs) (x : Lg) (sh ca fl : Int) (b o cap : Nat) (hl : x.ps.length ≤ 1048576) (w : World) (hb : b < w.heap.size) (hP : ∀ i p, x.ps[i]? = some p → P7 w b (o + i * 7) p) :
    Calls Try.prog 38 #[.agg #[.int .i64 h.fl, .int .i64 h.gp, .int .i64 h.ln, .int .i64 h.rf, .int .i64 h.sp, .int .i64 h.pu, .int .i64 h.br, .int .i64 h.dr, .int .i64 h.lv, .int .i64 h.dO, .int .i64 h.ld, .int .i64 h.qu], .agg #[.int .i64 x.nx, .slice (some ⟨b, o, none⟩) x.ps.length cap], .int .i64 sh, .int .i64 ca, .int .i64 fl] w (isLed w (Hs.askd h x sh ca fl) 0 (Hs.outV h x sh ca fl).nx (Hs.outV h x sh ca fl).ps) := by
  unfold Hs.outV
  have HP : Hid (PIn w w.heap.size (some ⟨b, o, none⟩) x.ps) := Or.inr ⟨b, o, rfl, hb, hP⟩
  have F0 : Hid (HAt (((w.alloc (.cells #[.int .i64 h.fl, .int .i64 h.gp, .int .i64 h.ln, .int .i64 h.rf, .int .i64 h.sp, .int .i64 h.pu, .int .i64 h.br, .int .i64 h.dr, .int .i64 h.lv, .int .i64 h.dO, .int .i64 h.ld, .int .i64 h.qu] 25)).alloc (.cells #[.int .i64 x.nx, .slice (some ⟨b, o, none⟩) x.ps.length cap] 28)).alloc (.cells #[.int .i64 0, .int .i64 0, .int .i64 0, .slice none 0 0] 53)) w.heap.size h) := ((HAt.new w h _).below ((Below.refl _ _).alloc (Nat.le_refl _) _) (by simp)).below ((Below.refl _ _).alloc (Nat.le_refl _) _) (by simp; omega)
  have F1 : Hid (LW (((w.alloc (.cells #[.int .i64 h.fl, .int .i64 h.gp, .int .i64 h.ln, .int .i64 h.rf, .int .i64 h.sp, .int .i64 h.pu, .int .i64 h.br, .int .i64 h.dr, .int .i64 h.lv, .int .i64 h.dO, .int .i64 h.ld, .int .i64 h.qu] 25)).alloc (.cells #[.int .i64 x.nx, .slice (some ⟨b, o, none⟩) x.ps.length cap] 28)).alloc (.cells #[.int .i64 0, .int .i64 0, .int .i64 0, .slice none 0 0] 53)) (w.heap.size + 1) x.nx (.slice (some ⟨b, o, none⟩) x.ps.length cap)) := (LW.at_ _ x.nx (.slice (some ⟨b, o, none⟩) x.ps.length cap) _ _ (by simp)).alloc _
  have F2 : Hid (RL (((w.alloc (.cells #[.int .i64 h.fl, .int .i64 h.gp, .int .i64 h.ln, .int .i64 h.rf, .int .i64 h.sp, .int .i64 h.pu, .int .i64 h.br, .int .i64 h.dr, .int .i64 h.lv, .int .i64 h.dO, .int .i64 h.ld, .int .i64 h.qu] 25)).alloc (.cells #[.int .i64 x.nx, .slice (some ⟨b, o, none⟩) x.ps.length cap] 28)).alloc (.cells #[.int .i64 0, .int .i64 0, .int .i64 0, .slice none 0 0] 53)) (w.heap.size + 2)) := RL.at_ _ _ _ (by simp)
  have FB : Hid (Below w.heap.size w (((w.alloc (.cells #[.int .i64 h.fl, .int .i64 h.gp, .int .i64 h.ln, .int .i64 h.rf, .int .i64 h.sp, .int .i64 h.pu, .int .i64 h.br, .int .i64 h.dr, .int .i64 h.lv, .int .i64 h.dO, .int .i64 h.ld, .int .i64 h.qu] 25)).alloc (.cells #[.int .i64 x.nx, .slice (some ⟨b, o, none⟩) x.ps.length cap] 28)).alloc (.cells #[.int .i64 0, .int .i64 0, .int .i64 0, .slice none 0 0] 53))) := (((Below.refl _ _).alloc (Nat.le_refl _) _).alloc (by simp) _).alloc (by simp; omega) _
  have FP : Hid (∀ i p, x.ps[i]? = some p → P7 (((w.alloc (.cells #[.int .i64 h.fl, .int .i64 h.gp, .int .i64 h.ln, .int .i64 h.rf, .int .i64 h.sp, .int .i64 h.pu, .int .i64 h.br, .int .i64 h.dr, .int .i64 h.lv, .int .i64 h.dO, .int .i64 h.ld, .int .i64 h.qu] 25)).alloc (.cells #[.int .i64 x.nx, .slice (some ⟨b, o, none⟩) x.ps.length cap] 28)).alloc (.cells #[.int .i64 0, .int .i64 0, .int .i64 0, .slice none 0 0] 53)) b (o + i * 7) p) := fun i p hp => (hP i p hp).below FB.out (hP i p hp).lt
  clear hP hb
  by_cases hk : (Hs.askd h x sh ca fl) = 0
  · rw [if_pos hk, hk]
    go_enter Try.func38, Try.ntmps38
    go_upto_region 4 with (go_at_call 52; refine (l7Asked_any h x sh ca fl (some ⟨b, o, none⟩) cap hl _ ((HP.out.below FB.out (Nat.le_refl _)).mono FB.out.size)).mono ?_; rw [hk]; rintro e w1 ⟨rfl, hb⟩; have F0 : Hid (HAt w1 w.heap.size h) := F0.out.below hb F0.out.lt; have F1 : Hid (LW w1 (w.heap.size + 1) x.nx (.slice (some ⟨b, o, none⟩) x.ps.length cap)) := F1.out.below hb F1.out.lt; have F2 : Hid (RL w1 (w.heap.size + 2)) := F2.out.below hb F2.out.lt; have FP : Hid (∀ i p, x.ps[i]? = some p → P7 w1 b (o + i * 7) p) := fun i p hp => (FP.out i p hp).below hb (FP.out i p hp).lt; have FB : Hid (Below w.heap.size w w1) := FB.out.trans (hb.mono FB.out.size); clear hb; obtain ⟨x0_0, x0_1, x0_2, x0_3, x0_4, x0_5, x0_6, x0_7, x0_8, x0_9, x0_10, x0_11⟩ := F0.out; obtain ⟨x1_0, x1_1, y1_0, y1_1⟩ := F1.out; obtain ⟨x2_0, x2_1, x2_2, x2_3, y2_0, y2_1, y2_2, y2_3⟩ := F2.out)
    have F2' := F2.out
    go_upto_region 5 with (go_at_call 67; refine (l7Copy_any x.nx b o cap x.ps hl _ FP.out).mono ?_; rintro e w2 ⟨g, cap', rfl, ho, hb⟩; have FO : Hid (Ow w2 w1.heap.size g x.ps.length cap' x.ps) := ho; have F2 : Hid (RL w2 (w.heap.size + 2)) := F2.out.below hb F2.out.lt; have l2 : w.heap.size + 2 < g := Nat.lt_of_lt_of_le F2'.lt FO.out.bl.1; have FB : Hid (Below w.heap.size w w2) := FB.out.trans (hb.mono FB.out.size); clear hb ho)
    clear F2'
    obtain ⟨ob, hbb⟩ : ∃ ob, ob = w2.heap.size := ⟨_, rfl⟩
    obtain ⟨w3, hw3⟩ : ∃ w3, w3 = w2.alloc (.cells #[.int .i64 x.nx, .slice (some ⟨g, 0, none⟩) x.ps.length cap'] 28) := ⟨_, rfl⟩
    have lg := FO.out.bl.2
    rw [← hbb] at lg
    have F2 : Hid (RL w3 (w.heap.size + 2)) := by rw [hw3]; exact F2.out.alloc _
    have FO : Hid (Ow w3 w1.heap.size g x.ps.length cap' x.ps) := by rw [hw3]; exact FO.out.alloc _
    have F3 : Hid (LW w3 ob x.nx (.slice (some ⟨g, 0, none⟩) x.ps.length cap')) := by rw [hw3]; exact LW.at_ w2 _ _ _ ob hbb
    have FB : Hid (Below w.heap.size w w3) := by rw [hw3]; exact FB.out.alloc FB.out.size _
    skip
    rw [← hw3, ← hbb]
    clear hw3 hbb x0_0 x0_1 x0_2 x0_3 x0_4 x0_5 x0_6 x0_7 x0_8 x0_9 x0_10 x0_11 x1_0 x1_1 y1_0 y1_1 x2_0 x2_1 x2_2 x2_3 y2_0 y2_1 y2_2 y2_3
    skip
    go_upto_region 6 with (go_at_call 84; refine (l7Out_any ob x.nx w1.heap.size g x.ps.length cap' x.ps sh ca fl hl (by omega) _ F3.out.lat FO.out).mono ?_; rintro e w4 ⟨rfl, ho, hg⟩; have FO : Hid (Ow w4 w1.heap.size g x.ps.length cap' (x.ps.map (outP sh ca fl))) := ho; have F2 : Hid (RL w4 (w.heap.size + 2)) := F2.out.grown hg (fun e => by have e2 : w.heap.size + 2 = g := Option.some.inj e; omega); have F3 : Hid (LW w4 ob x.nx (.slice (some ⟨g, 0, none⟩) x.ps.length cap')) := F3.out.grown hg (fun e => by have e2 : ob = g := Option.some.inj e; omega); have FB : Hid (Below w.heap.size w w4) := FB.out.grown hg FB.out.size (fun k hk => by have e2 : g = k := Option.some.inj hk; omega); clear hg ho)
    have hle : w.heap.size ≤ w1.heap.size := by
      have := FO.out.bl.1
      have := F1.out.lt
      omega
    obtain ⟨x3_0, x3_1, y3_0, y3_1⟩ := F3.out
    obtain ⟨x2_0, x2_1, x2_2, x2_3, y2_0, y2_1, y2_2, y2_3⟩ := F2.out
    go_wp2_with fail
    exact bodyPost_ret (v := .agg #[.int .i64 0, .int .i64 0, .int .i64 x.nx, .slice (some ⟨g, 0, none⟩) x.ps.length cap']) (by simp [results, Try.results38, go_sem, x2_0, x2_1, x2_2, x2_3]) rfl ⟨_, rfl, ((((((FO.out.base hle).other (by simp; omega) _).other (by simp; omega) _).other (by simp; omega) _).other (by simp; omega) _)).own, (((FB.out.setCell (by simp <;> omega) _).setCell (by simp <;> omega) _).setCell (by simp <;> omega) _).setCell (by simp <;> omega) _⟩
  · rw [if_neg hk]
    have hn : ((Hs.askd h x sh ca fl) != 0) = true := by simpa using hk
    clear hk
    go_enter Try.func38, Try.ntmps38
    go_wp2_with (go_at_call 52; refine (l7Asked_any h x sh ca fl (some ⟨b, o, none⟩) cap hl _ ((HP.out.below FB.out (Nat.le_refl _)).mono FB.out.size)).mono ?_; rintro e w1 ⟨rfl, hb⟩; have F0 : Hid (HAt w1 w.heap.size h) := F0.out.below hb F0.out.lt; have F1 : Hid (LW w1 (w.heap.size + 1) x.nx (.slice (some ⟨b, o, none⟩) x.ps.length cap)) := F1.out.below hb F1.out.lt; have F2 : Hid (RL w1 (w.heap.size + 2)) := F2.out.below hb F2.out.lt; have FP : Hid (∀ i p, x.ps[i]? = some p → P7 w1 b (o + i * 7) p) := fun i p hp => (FP.out i p hp).below hb (FP.out i p hp).lt; have FB : Hid (Below w.heap.size w w1) := FB.out.trans (hb.mono FB.out.size); clear hb; obtain ⟨x0_0, x0_1, x0_2, x0_3, x0_4, x0_5, x0_6, x0_7, x0_8, x0_9, x0_10, x0_11⟩ := F0.out; obtain ⟨x1_0, x1_1, y1_0, y1_1⟩ := F1.out; obtain ⟨x2_0, x2_1, x2_2, x2_3, y2_0, y2_1, y2_2, y2_3⟩ := F2.out)
    exact bodyPost_ret (v := .agg #[.int .i64 (Hs.askd h x sh ca fl), .int .i64 0, .int .i64 0, .slice none 0 0]) (by simp [results, Try.results38, go_sem, x2_0, x2_1, x2_2, x2_3]) rfl ⟨_, rfl, own_nil _ _, (((FB.out.setCell (by simp <;> omega) _).setCell (by simp <;> omega) _).setCell (by simp <;> omega) _).setCell (by simp <;> omega) _⟩
end Go.Proofs.Ytllphhhaaoggjaa
