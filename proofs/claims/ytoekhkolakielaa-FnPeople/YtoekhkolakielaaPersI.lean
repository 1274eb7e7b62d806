/-
  The model's ledger: what is asked; DropWaiting, AlightAt, LetOut.
-/
import Derived.Test.YtoekhkolakielaaPersH
import Derived.Test.YtoekhkolakielaaPersF
import Derived.BigGuardPart
namespace Go.Proofs.Ytoekhkolakielaa
open Go.RowKit Pl
set_option linter.unusedSimpArgs false
set_option linter.unusedVariables false

/-- A ledger's result that isn't filled yet. -/
structure RL (w : World) (b : Nat) : Prop where
  c0 : w.cell? ⟨b, 0, none⟩ = some (.int .i64 0)
  c1 : w.cell? ⟨b, 1, none⟩ = some (.int .i64 0)
  c2 : w.cell? ⟨b, 2, none⟩ = some (.int .i64 0)
  c3 : w.cell? ⟨b, 3, none⟩ = some (.slice none 0 0)
  f0 : w.frozen? ⟨b, 0, none⟩ = false
  f1 : w.frozen? ⟨b, 1, none⟩ = false
  f2 : w.frozen? ⟨b, 2, none⟩ = false
  f3 : w.frozen? ⟨b, 3, none⟩ = false
theorem RL.lt {w : World} {b : Nat} (a : RL w b) : b < w.heap.size := World.block_lt_of_cell? w _ a.c0
theorem RL.at_ (w : World) (T : TypeId) (b : Nat) (hb : b = w.heap.size) : RL (w.alloc (.cells #[.int .i64 0, .int .i64 0, .int .i64 0, .slice none 0 0] T)) b := by
  subst hb
  constructor <;> simp
theorem RL.of {W w : World} {b : Nat} (a : RL W b) (hc : ∀ o, w.cell? ⟨b, o, none⟩ = W.cell? ⟨b, o, none⟩) (hf : ∀ o, w.frozen? ⟨b, o, none⟩ = W.frozen? ⟨b, o, none⟩) : RL w b :=
  ⟨(hc 0).trans a.c0, (hc 1).trans a.c1, (hc 2).trans a.c2, (hc 3).trans a.c3, (hf 0).trans a.f0, (hf 1).trans a.f1, (hf 2).trans a.f2, (hf 3).trans a.f3⟩
theorem RL.below {W w : World} {b B : Nat} (a : RL W b) (hb : Below B W w) (hB : b < B) : RL w b := a.of (fun o => hb.cell (p := ⟨b, o, none⟩) hB) (fun o => hb.frozen (p := ⟨b, o, none⟩) hB)
theorem RL.alloc {W : World} {b : Nat} (a : RL W b) (o : Obj) : RL (W.alloc o) b := a.below ((Below.refl _ _).alloc (Nat.le_refl _) o) a.lt
theorem RL.grown {W w : World} {b : Nat} {row : Option Nat} (a : RL W b) (hg : W.grownBy w row) (hne : some b ≠ row) : RL w b :=
  a.of (fun o => World.cell?_of_block (w := W) (hg.block b a.lt hne)) (fun o => World.frozen?_of_block (w := W) (hg.block b a.lt hne))
/-- A ledger is answered: its people lie in a row of their own. -/
def isLed (w : World) (k id nx : Int) (l : List Pe) (e : Ending) (w' : World) : Prop := ∃ v, e = .returned (.agg #[.int .i64 k, .int .i64 id, .int .i64 nx, v]) ∧ Own w' w.heap.size v l ∧ Below w.heap.size w w'
theorem own_nil (w : World) (B : Nat) : Own w B (.slice none 0 0) [] := World.ownsRow_nil w B _ 7
def carB (sh ca : Int) : Bool := inB sh 0 2 && inB ca 0 1
def Hs.askd (h : Hs) (x : Lg) (sh ca fl : Int) : Int := if Hs.led h x = 0 then (if carB sh ca = true ∧ inB fl 0 (h.fl - 1) = true then 0 else 3) else Hs.led h x
set_option maxRecDepth 20000 in
set_option maxHeartbeats 8000000 in
theorem l7Car_any (sh ca : Int) (w : World) :
    Calls Try.prog 39 #[.int .i64 sh, .int .i64 ca] w fun e w' => e = .returned (.bool (carB sh ca)) ∧ w' = w := by
  unfold carB
  cases k : inB sh 0 2
  all_goals
    go_enter Try.func39, Try.ntmps39
    go_wp2_with (go_at_call 40; refine (l1In_any _ _ _ _).mono ?_; rintro e w' ⟨rfl, hw⟩; obtain rfl := hw.symm; clear hw)
    go_ret
    exact ⟨ret_bool (by simp), rfl⟩
set_option maxRecDepth 20000 in
set_option maxHeartbeats 16000000 in
theorem l7Asked_any (h : Hs) (x : Lg) (sh ca fl : Int) (a : Option Addr) (cap : Nat) (hl : x.ps.length ≤ 1048576) (w : World) (hP : PIn w w.heap.size a x.ps) :
    Calls Try.prog 19 #[.agg #[.int .i64 h.fl, .int .i64 h.gp, .int .i64 h.ln, .int .i64 h.rf, .int .i64 h.sp, .int .i64 h.pu, .int .i64 h.br, .int .i64 h.dr, .int .i64 h.lv, .int .i64 h.dO, .int .i64 h.ld, .int .i64 h.qu], .agg #[.int .i64 x.nx, .slice a x.ps.length cap], .int .i64 sh, .int .i64 ca, .int .i64 fl] w fun e w' => e = .returned (.int .i64 (Hs.askd h x sh ca fl)) ∧ Below w.heap.size w w' := by
  unfold Hs.askd
  have HP : Hid (PIn w w.heap.size a x.ps) := hP
  have F0 : Hid (HAt ((w.alloc (.cells #[.int .i64 h.fl, .int .i64 h.gp, .int .i64 h.ln, .int .i64 h.rf, .int .i64 h.sp, .int .i64 h.pu, .int .i64 h.br, .int .i64 h.dr, .int .i64 h.lv, .int .i64 h.dO, .int .i64 h.ld, .int .i64 h.qu] 25)).alloc (.cells #[.int .i64 x.nx, .slice a x.ps.length cap] 28)) w.heap.size h) := (HAt.new w h _).below ((Below.refl _ _).alloc (Nat.le_refl _) _) (by simp)
  have FB : Hid (Below w.heap.size w ((w.alloc (.cells #[.int .i64 h.fl, .int .i64 h.gp, .int .i64 h.ln, .int .i64 h.rf, .int .i64 h.sp, .int .i64 h.pu, .int .i64 h.br, .int .i64 h.dr, .int .i64 h.lv, .int .i64 h.dO, .int .i64 h.ld, .int .i64 h.qu] 25)).alloc (.cells #[.int .i64 x.nx, .slice a x.ps.length cap] 28))) := ((Below.refl _ _).alloc (Nat.le_refl _) _).alloc (by simp) _
  clear hP
  by_cases hk : Hs.led h x = 0
  · rw [if_pos hk]
    have hf : h.fault = 0 := by
      unfold Hs.led at hk
      by_cases q : h.fault = 0
      · exact q
      · rw [if_neg q] at hk; exact hk
    have oo := Hs.ok_of (Hs.fault_zero hf).1
    have f1 := oo.fl1; have f2 := oo.fl2
    have en : IntKind.i64.wrap (h.fl - 1) = h.fl - 1 := IntWalk.i64_in _ (by omega)
    clear oo
    cases i1 : carB sh ca
    · rw [if_neg (by simp)]
      go_enter Try.func19, Try.ntmps19
      go_wp2_with (first | (go_at_call 38; refine (specLedgerFault_any h x a cap hl _ ((HP.out.below FB.out (Nat.le_refl _)).mono FB.out.size)).mono ?_; rw [hk]; rintro e w1 ⟨rfl, hb⟩; have F0 : Hid (HAt w1 w.heap.size h) := F0.out.below hb F0.out.lt; have FB : Hid (Below w.heap.size w w1) := FB.out.trans (hb.mono FB.out.size); clear hb; obtain ⟨x0_0, x0_1, x0_2, x0_3, x0_4, x0_5, x0_6, x0_7, x0_8, x0_9, x0_10, x0_11⟩ := F0.out) | (go_at_call 39; refine (l7Car_any _ _ _).mono ?_; rintro e w' ⟨rfl, hw⟩; obtain rfl := hw.symm; clear hw) | (go_at_call 40; refine (l1In_any _ _ _ _).mono ?_; rintro e w' ⟨rfl, hw⟩; obtain rfl := hw.symm; clear hw))
      go_ret
      exact ⟨rfl, FB.out⟩
    · cases i2 : inB fl 0 (h.fl - 1)
      · rw [if_neg (by simp)]
        go_enter Try.func19, Try.ntmps19
        go_wp2_with (first | (go_at_call 38; refine (specLedgerFault_any h x a cap hl _ ((HP.out.below FB.out (Nat.le_refl _)).mono FB.out.size)).mono ?_; rw [hk]; rintro e w1 ⟨rfl, hb⟩; have F0 : Hid (HAt w1 w.heap.size h) := F0.out.below hb F0.out.lt; have FB : Hid (Below w.heap.size w w1) := FB.out.trans (hb.mono FB.out.size); clear hb; obtain ⟨x0_0, x0_1, x0_2, x0_3, x0_4, x0_5, x0_6, x0_7, x0_8, x0_9, x0_10, x0_11⟩ := F0.out) | (go_at_call 39; refine (l7Car_any _ _ _).mono ?_; rintro e w' ⟨rfl, hw⟩; obtain rfl := hw.symm; clear hw) | (go_at_call 40; refine (l1In_any _ _ _ _).mono ?_; rintro e w' ⟨rfl, hw⟩; obtain rfl := hw.symm; clear hw))
        go_ret
        exact ⟨rfl, FB.out⟩
      · rw [if_pos ⟨rfl, rfl⟩]
        go_enter Try.func19, Try.ntmps19
        go_wp2_with (first | (go_at_call 38; refine (specLedgerFault_any h x a cap hl _ ((HP.out.below FB.out (Nat.le_refl _)).mono FB.out.size)).mono ?_; rw [hk]; rintro e w1 ⟨rfl, hb⟩; have F0 : Hid (HAt w1 w.heap.size h) := F0.out.below hb F0.out.lt; have FB : Hid (Below w.heap.size w w1) := FB.out.trans (hb.mono FB.out.size); clear hb; obtain ⟨x0_0, x0_1, x0_2, x0_3, x0_4, x0_5, x0_6, x0_7, x0_8, x0_9, x0_10, x0_11⟩ := F0.out) | (go_at_call 39; refine (l7Car_any _ _ _).mono ?_; rintro e w' ⟨rfl, hw⟩; obtain rfl := hw.symm; clear hw) | (go_at_call 40; refine (l1In_any _ _ _ _).mono ?_; rintro e w' ⟨rfl, hw⟩; obtain rfl := hw.symm; clear hw))
        go_ret
        exact ⟨rfl, FB.out⟩
  · rw [if_neg hk]
    have hn : (Hs.led h x != 0) = true := by simpa using hk
    clear hk
    go_enter Try.func19, Try.ntmps19
    go_wp2_with (go_at_call 38; refine (specLedgerFault_any h x a cap hl _ ((HP.out.below FB.out (Nat.le_refl _)).mono FB.out.size)).mono ?_; rintro e w1 ⟨rfl, hb⟩; have F0 : Hid (HAt w1 w.heap.size h) := F0.out.below hb F0.out.lt; have FB : Hid (Below w.heap.size w w1) := FB.out.trans (hb.mono FB.out.size); clear hb; obtain ⟨x0_0, x0_1, x0_2, x0_3, x0_4, x0_5, x0_6, x0_7, x0_8, x0_9, x0_10, x0_11⟩ := F0.out)
    go_ret
    exact ⟨rfl, FB.out⟩
def Hs.dropV (h : Hs) (x : Lg) : Lg := if (Hs.led h x) = 0 then ⟨x.nx, x.ps.map dropP⟩ else ⟨0, []⟩
def Hs.alightV (h : Hs) (x : Lg) (sh ca fl : Int) : Lg := if (Hs.askd h x sh ca fl) = 0 then ⟨x.nx, x.ps.map (alightP sh ca fl)⟩ else ⟨0, []⟩
def Hs.outV (h : Hs) (x : Lg) (sh ca fl : Int) : Lg := if (Hs.askd h x sh ca fl) = 0 then ⟨x.nx, x.ps.map (outP sh ca fl)⟩ else ⟨0, []⟩
end Go.Proofs.Ytoekhkolakielaa
