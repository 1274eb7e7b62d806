/-
  ParseEvents: the program answers as the model does.
-/
import Derived.Test.YtonmocgoelkofaaGreatDoorRows
import Derived.WalkKit
import Derived.ProofKit
import Derived.OpenShut
import Derived.ChangeOld
import Derived.Below
import Derived.Lay
import Derived.LaidMore
import Derived.MakeChecks
import Derived.Stop.Joined
import Derived.Stop.LaidErr
import Derived.Lib.LaidTab
import Derived.Lib.AppendIntMem
import Derived.SevenTiedAt
import Derived.Test.YtonmocgoelkofaaGreatDoorCards
import Derived.Test.YtonmocgoelkofaaGreatDoorTie
import Derived.Test.YtonmocgoelkofaaGreatDoorParL
import Derived.Test.YtonmocgoelkofaaGreatDoorParS
import Derived.Test.YtonmocgoelkofaaGreatDoorEvM
import Derived.Test.YtonmocgoelkofaaGreatDoorFnd
namespace Go.Proofs.YtonmocgoelkofaaGreatDoor.fnExactParseEvents
open Go.ChangeShapes Go.WideShapes Go.ChangeAt Go.RowKit
set_option linter.unusedVariables false
set_option linter.unusedSimpArgs false

theorem own : ownKnob Tryz.prog.godebug = none := by kernel_rfl
theorem laidOut : laidOutB Tryz.prog = true := by kernel_rfl

def plainL : List (String × DataW Unit) := Rows.fnExactParseEventsRow.laid.filter fun x => x.2.handleName?.isNone
/-- A start: the settled world, the handle laid; then the plain data. -/
noncomputable def hW (os : Os) : World :=
  let w0 := World.holding Tryz.prog os ⟨#[], #[], []⟩
  { w0 with heap := w0.heap.modify 0 fun
      | .cells _ t frozen => .cells #[.iface 94 (.agg #[.pointer (some ⟨10, 43, none⟩)])] t frozen
      | o => o }
noncomputable def laidW (os : Os) : World := (hW os).layVars Tryz.prog plainL
theorem laid_os (os : Os) : (laidW os).os = os := World.layVars_os _ _ _
theorem laid_fits (os : Os) : (hW os).layFits Tryz.prog plainL [] = true := by kernel_rfl
theorem laid_ifaces (os : Os) : (hW os).layIfaces Tryz.prog plainL (laidW os) = true := by kernel_rfl
theorem laid_met (os : Os) (args : Array Value) : laidMet Tryz.prog plainL ((laidW os).forCall (fun _ _ => 0) ⟨#[], args, []⟩).memory := by
  have e1 : (plainL.filter fun x => (plainL.map (·.1)).contains x.1) = plainL := List.filter_eq_self.2 fun x hx => List.contains_iff_mem.2 (List.mem_map.2 ⟨x, hx, rfl⟩)
  have e2 : (plainL.filter fun x => !(plainL.map (·.1)).contains x.1) = [] := List.filter_eq_nil_iff.2 fun x hx => by rw [List.contains_iff_mem.2 (List.mem_map.2 ⟨x, hx, rfl⟩)]; simp
  have h : laidMet Tryz.prog plainL (laidW os) := laidMet_layVars (w0 := hW os) (plainL.map (·.1)) [] (by rw [e1]; rfl) (by rw [e1]; exact laid_fits os) (by rw [e1]; exact laid_ifaces os) (by rw [e2]; exact LaidIn.none)
  exact h.of_heap (by simp [World.memory, World.forCall, Input.heap])
theorem door_met (os : Os) (args : Array Value) : laidMetH Tryz.prog Rows.fnExactParseEventsRow.laid ((laidW os).forCall (fun _ _ => 0) ⟨#[], args, []⟩).memory :=
  laidMetH_of_parts3 (fuel := 8) (laid_met os args) (by kernel_rfl) (by kernel_rfl)

set_option maxRecDepth 20000 in
set_option maxHeartbeats 32000000 in
theorem walk (a0 : Pl.Hs) (a1 : ByteArray) (w0 : ∀ x ∈ [a0.fl, a0.gp, a0.ln, a0.rf, a0.sp, a0.pu, a0.br, a0.dr, a0.lv, a0.dO, a0.ld, a0.qu], (Lit.int .i64 x).wf = true) (w : World) (hT : ∃ eu, Vr w eu ∧ Vh w) :
    Calls Tryz.prog 3 #[.agg #[.int .i64 a0.fl, .int .i64 a0.gp, .int .i64 a0.ln, .int .i64 a0.rf, .int .i64 a0.sp, .int .i64 a0.pu, .int .i64 a0.br, .int .i64 a0.dr, .int .i64 a0.lv, .int .i64 a0.dO, .int .i64 a0.ld, .int .i64 a0.qu], .string a1] w fun e w' => e = .returned (.bool true) ∧ Below w.heap.size w w' := by
  obtain ⟨eu, hVr, hVh⟩ := hT
  have HVr : Hid (Vr w eu) := hVr
  have HVh : Hid (Vh w) := hVh
  clear w0 hVr hVh
  have F0 : Hid (Blk (w.alloc (.cells #[.int .i64 a0.fl, .int .i64 a0.gp, .int .i64 a0.ln, .int .i64 a0.rf, .int .i64 a0.sp, .int .i64 a0.pu, .int .i64 a0.br, .int .i64 a0.dr, .int .i64 a0.lv, .int .i64 a0.dO, .int .i64 a0.ld, .int .i64 a0.qu] 23)) w.heap.size [.int .i64 a0.fl, .int .i64 a0.gp, .int .i64 a0.ln, .int .i64 a0.rf, .int .i64 a0.sp, .int .i64 a0.pu, .int .i64 a0.br, .int .i64 a0.dr, .int .i64 a0.lv, .int .i64 a0.dO, .int .i64 a0.ld, .int .i64 a0.qu]) := Blk.at_ w _ _ _ rfl
  have FB : Hid (Below w.heap.size w (w.alloc (.cells #[.int .i64 a0.fl, .int .i64 a0.gp, .int .i64 a0.ln, .int .i64 a0.rf, .int .i64 a0.sp, .int .i64 a0.pu, .int .i64 a0.br, .int .i64 a0.dr, .int .i64 a0.lv, .int .i64 a0.dO, .int .i64 a0.ld, .int .i64 a0.qu] 23))) := (Below.refl _ _).alloc (Nat.le_refl _) _
  by_cases hl : a1.size ≤ 1048576
  case neg =>
    have hz : (1048576 : Int) < (a1.size : Int) := by omega
    go_enter Tryz.func3, Tryz.ntmps3
    go_wp2_with fail
    go_ret
    exact ⟨rfl, FB.out⟩
  have hz : ¬ ((1048576 : Int) < (a1.size : Int)) := by omega
  obtain ⟨rk, ra, rl, hrl, CS, CI⟩ : ∃ (rk ra : Int) (rl : List Pl.Ev), rl.length ≤ 1048576 ∧ (∀ W, Calls Tryz.prog 4 #[.agg #[.int .i64 a0.fl, .int .i64 a0.gp, .int .i64 a0.ln, .int .i64 a0.rf, .int .i64 a0.sp, .int .i64 a0.pu, .int .i64 a0.br, .int .i64 a0.dr, .int .i64 a0.lv, .int .i64 a0.dO, .int .i64 a0.ld, .int .i64 a0.qu], .string a1] W (isPaS W rk ra rl)) ∧ (∀ W, Vr W eu → Vh W → Calls Tryz.prog 6 #[.agg #[.int .i64 a0.fl, .int .i64 a0.gp, .int .i64 a0.ln, .int .i64 a0.rf, .int .i64 a0.sp, .int .i64 a0.pu, .int .i64 a0.br, .int .i64 a0.dr, .int .i64 a0.lv, .int .i64 a0.dO, .int .i64 a0.ld, .int .i64 a0.qu], .string a1] W (isPaS W rk ra rl)) :=
    ⟨_, _, _, paV_len a0 a1, fun W => (specParse_any a0 a1 hl W).mono (fun _ _ h => h.s), fun W hv hh => (implParse_any a0 a1 hl eu W hv hh).mono (fun _ _ h => h.s)⟩
  go_enter Tryz.func3, Tryz.ntmps3
  go_upto_region 4 with (first | (refine load_blk 23 _ Tryz.underlying23 (by kernel_rfl) F0.out rfl rfl rfl ?_) | (go_at_call 5; refine (toHouse_any a0 _).mono ?_; rintro e w1 ⟨rfl, hb⟩; have F0 : Hid (Blk w1 w.heap.size [.int .i64 a0.fl, .int .i64 a0.gp, .int .i64 a0.ln, .int .i64 a0.rf, .int .i64 a0.sp, .int .i64 a0.pu, .int .i64 a0.br, .int .i64 a0.dr, .int .i64 a0.lv, .int .i64 a0.dO, .int .i64 a0.ld, .int .i64 a0.qu]) := F0.out.below hb F0.out.lt; have FB : Hid (Below w.heap.size w w1) := FB.out.trans (hb.mono FB.out.size); clear hb) | (go_at_call 4; refine (CS _).mono ?_; rintro e w2 ⟨s1, c1, rfl, ho, hb⟩; have Z1 : ∀ k, (Value.slice s1 rl.length c1).ownBlock = some k → w.heap.size < k := fun k hk => Nat.lt_of_lt_of_le F0.out.lt (ho.lt k hk).1; have FO1 : Hid (OwnE w2 w.heap.size (.slice s1 rl.length c1) rl) := ownE_base ho FB.out.size; have F0 : Hid (Blk w2 w.heap.size [.int .i64 a0.fl, .int .i64 a0.gp, .int .i64 a0.ln, .int .i64 a0.rf, .int .i64 a0.sp, .int .i64 a0.pu, .int .i64 a0.br, .int .i64 a0.dr, .int .i64 a0.lv, .int .i64 a0.dO, .int .i64 a0.ld, .int .i64 a0.qu]) := F0.out.below hb F0.out.lt; have FB : Hid (Below w.heap.size w w2) := FB.out.trans (hb.mono FB.out.size); clear hb; clear ho) | (refine store_new [.int .i64 rk, .int .i64 ra, .slice s1 rl.length c1] 26 _ _ (by kernel_rfl) (by kernel_rfl) (by kernel_rfl) rfl rfl rfl rfl ?_))
  obtain ⟨r1, hr1⟩ : ∃ x, x = w2.heap.size := ⟨_, rfl⟩
  obtain ⟨w3, hN⟩ : ∃ X, X = w2.alloc (.cells #[.int .i64 rk, .int .i64 ra, .slice s1 rl.length c1] 26) := ⟨_, rfl⟩
  have FR1 : Hid (Blk w3 r1 [.int .i64 rk, .int .i64 ra, .slice s1 rl.length c1]) := by rw [hN]; exact Blk.at_ w2 #[.int .i64 rk, .int .i64 ra, .slice s1 rl.length c1] _ _ hr1
  have Q1 : ∀ k, (Value.slice s1 rl.length c1).ownBlock = some k → k < r1 := fun k hk => by rw [hr1]; exact (FO1.out.lt k hk).2
  have F0 : Hid (Blk w3 w.heap.size [.int .i64 a0.fl, .int .i64 a0.gp, .int .i64 a0.ln, .int .i64 a0.rf, .int .i64 a0.sp, .int .i64 a0.pu, .int .i64 a0.br, .int .i64 a0.dr, .int .i64 a0.lv, .int .i64 a0.dO, .int .i64 a0.ld, .int .i64 a0.qu]) := by rw [hN]; exact F0.out.alloc _
  have FB : Hid (Below w.heap.size w w3) := by rw [hN]; exact FB.out.alloc FB.out.size _
  have FO1 : Hid (OwnE w3 w.heap.size (.slice s1 rl.length c1) rl) := by rw [hN]; exact FO1.out.alloc _
  simp only [List.size_toArray, List.toArray, ← hN, ← hr1]
  clear hN hr1
  go_upto_region 5 with (first | (refine load_blk 23 _ Tryz.underlying23 (by kernel_rfl) F0.out rfl rfl rfl ?_) | (go_at_call 5; refine (toHouse_any a0 _).mono ?_; rintro e w4 ⟨rfl, hb⟩; have F0 : Hid (Blk w4 w.heap.size [.int .i64 a0.fl, .int .i64 a0.gp, .int .i64 a0.ln, .int .i64 a0.rf, .int .i64 a0.sp, .int .i64 a0.pu, .int .i64 a0.br, .int .i64 a0.dr, .int .i64 a0.lv, .int .i64 a0.dO, .int .i64 a0.ld, .int .i64 a0.qu]) := F0.out.below hb F0.out.lt; have FB : Hid (Below w.heap.size w w4) := FB.out.trans (hb.mono FB.out.size); have FR1 : Hid (Blk w4 r1 [.int .i64 rk, .int .i64 ra, .slice s1 rl.length c1]) := FR1.out.below hb FR1.out.lt; have FO1 : Hid (OwnE w4 w.heap.size (.slice s1 rl.length c1) rl) := FO1.out.below hb (fun k hk => (FO1.out.lt k hk).2); clear hb) | (go_at_call 6; refine (CI _ (HVr.out.below FB.out (Nat.le_refl _)) (HVh.out.below FB.out (Nat.le_refl _))).mono ?_; rintro e w5 ⟨s2, c2, rfl, ho, hb⟩; have R21 : ∀ k, (Value.slice s2 rl.length c2).ownBlock = some k → r1 < k := fun k hk => Nat.lt_of_lt_of_le FR1.out.lt (ho.lt k hk).1; have O21 : ∀ k, (Value.slice s2 rl.length c2).ownBlock = some k → ∀ m, (Value.slice s1 rl.length c1).ownBlock = some m → m < k := fun k hk m hm => Nat.lt_of_lt_of_le (FO1.out.lt m hm).2 (ho.lt k hk).1; have Z2 : ∀ k, (Value.slice s2 rl.length c2).ownBlock = some k → w.heap.size < k := fun k hk => Nat.lt_of_lt_of_le F0.out.lt (ho.lt k hk).1; have FO2 : Hid (OwnE w5 w.heap.size (.slice s2 rl.length c2) rl) := ownE_base ho FB.out.size; have F0 : Hid (Blk w5 w.heap.size [.int .i64 a0.fl, .int .i64 a0.gp, .int .i64 a0.ln, .int .i64 a0.rf, .int .i64 a0.sp, .int .i64 a0.pu, .int .i64 a0.br, .int .i64 a0.dr, .int .i64 a0.lv, .int .i64 a0.dO, .int .i64 a0.ld, .int .i64 a0.qu]) := F0.out.below hb F0.out.lt; have FB : Hid (Below w.heap.size w w5) := FB.out.trans (hb.mono FB.out.size); have FR1 : Hid (Blk w5 r1 [.int .i64 rk, .int .i64 ra, .slice s1 rl.length c1]) := FR1.out.below hb FR1.out.lt; have FO1 : Hid (OwnE w5 w.heap.size (.slice s1 rl.length c1) rl) := FO1.out.below hb (fun k hk => (FO1.out.lt k hk).2); clear hb; clear ho) | (refine store_new [.int .i64 rk, .int .i64 ra, .slice s2 rl.length c2] 26 _ _ (by kernel_rfl) (by kernel_rfl) (by kernel_rfl) rfl rfl rfl rfl ?_))
  obtain ⟨r2, hr2⟩ : ∃ x, x = w5.heap.size := ⟨_, rfl⟩
  obtain ⟨w6, hN⟩ : ∃ X, X = w5.alloc (.cells #[.int .i64 rk, .int .i64 ra, .slice s2 rl.length c2] 26) := ⟨_, rfl⟩
  have FR2 : Hid (Blk w6 r2 [.int .i64 rk, .int .i64 ra, .slice s2 rl.length c2]) := by rw [hN]; exact Blk.at_ w5 #[.int .i64 rk, .int .i64 ra, .slice s2 rl.length c2] _ _ hr2
  have Q2 : ∀ k, (Value.slice s2 rl.length c2).ownBlock = some k → k < r2 := fun k hk => by rw [hr2]; exact (FO2.out.lt k hk).2
  have F0 : Hid (Blk w6 w.heap.size [.int .i64 a0.fl, .int .i64 a0.gp, .int .i64 a0.ln, .int .i64 a0.rf, .int .i64 a0.sp, .int .i64 a0.pu, .int .i64 a0.br, .int .i64 a0.dr, .int .i64 a0.lv, .int .i64 a0.dO, .int .i64 a0.ld, .int .i64 a0.qu]) := by rw [hN]; exact F0.out.alloc _
  have FB : Hid (Below w.heap.size w w6) := by rw [hN]; exact FB.out.alloc FB.out.size _
  have FR1 : Hid (Blk w6 r1 [.int .i64 rk, .int .i64 ra, .slice s1 rl.length c1]) := by rw [hN]; exact FR1.out.alloc _
  have FO1 : Hid (OwnE w6 w.heap.size (.slice s1 rl.length c1) rl) := by rw [hN]; exact FO1.out.alloc _
  have FO2 : Hid (OwnE w6 w.heap.size (.slice s2 rl.length c2) rl) := by rw [hN]; exact FO2.out.alloc _
  simp only [List.size_toArray, List.toArray, ← hN, ← hr2]
  clear hN hr2
  have hk2 : ¬ ((1 : Int) + 5 * (rl.length : Int) < 0) := by omega
  go_upto_region 8 with (first | (refine load_blk 26 _ Tryz.underlying26 (by kernel_rfl) FR2.out rfl rfl rfl ?_) | (refine load_blk 26 _ Tryz.underlying26 (by kernel_rfl) FR1.out rfl rfl rfl ?_) | (go_at_call 7; refine (eqEventsResult_same rk ra s2 s1 c2 c1 rl hrl _ FO2.out.einS FO1.out.einS).mono ?_; rintro e w7 ⟨rfl, hb⟩; have F0 : Hid (Blk w7 w.heap.size [.int .i64 a0.fl, .int .i64 a0.gp, .int .i64 a0.ln, .int .i64 a0.rf, .int .i64 a0.sp, .int .i64 a0.pu, .int .i64 a0.br, .int .i64 a0.dr, .int .i64 a0.lv, .int .i64 a0.dO, .int .i64 a0.ld, .int .i64 a0.qu]) := F0.out.below hb F0.out.lt; have FB : Hid (Below w.heap.size w w7) := FB.out.trans (hb.mono FB.out.size); have FR1 : Hid (Blk w7 r1 [.int .i64 rk, .int .i64 ra, .slice s1 rl.length c1]) := FR1.out.below hb FR1.out.lt; have FO1 : Hid (OwnE w7 w.heap.size (.slice s1 rl.length c1) rl) := FO1.out.below hb (fun k hk => (FO1.out.lt k hk).2); have FR2 : Hid (Blk w7 r2 [.int .i64 rk, .int .i64 ra, .slice s2 rl.length c2]) := FR2.out.below hb FR2.out.lt; have FO2 : Hid (OwnE w7 w.heap.size (.slice s2 rl.length c2) rl) := FO2.out.below hb (fun k hk => (FO2.out.lt k hk).2); clear hb))
  go_upto_region 15 with (first | (refine load_blk 26 _ Tryz.underlying26 (by kernel_rfl) FR2.out rfl rfl rfl ?_) | (go_at_call 8; refine (markEventsResult_any w.heap.size rk ra (.slice s2 rl.length c2) rl 1 (by omega) (by omega) hrl _ FO2.out).mono ?_; rintro e w8 ⟨rfl, ho, ht⟩; have F0 : Hid (Blk w8 w.heap.size [.int .i64 a0.fl, .int .i64 a0.gp, .int .i64 a0.ln, .int .i64 a0.rf, .int .i64 a0.sp, .int .i64 a0.pu, .int .i64 a0.br, .int .i64 a0.dr, .int .i64 a0.lv, .int .i64 a0.dO, .int .i64 a0.ld, .int .i64 a0.qu]) := F0.out.grown ht.g (fun e => absurd (Z2 _ e.symm) (by omega)); have FB : Hid (Below w.heap.size w w8) := Turn.below FB.out ht (fun j hj => by have := Z2 j hj; omega) FB.out.size; have FR1 : Hid (Blk w8 r1 [.int .i64 rk, .int .i64 ra, .slice s1 rl.length c1]) := FR1.out.grown ht.g (fun e => absurd (R21 _ e.symm) (by omega)); have FO1 : Hid (OwnE w8 w.heap.size (.slice s1 rl.length c1) rl) := FO1.out.kept ht.g (rowsE_ne (g := r1) Q1 R21); have FR2 : Hid (Blk w8 r2 [.int .i64 rk, .int .i64 ra, .slice s2 rl.length c2]) := FR2.out.grown ht.g (fun e => absurd (Q2 _ e.symm) (by omega)); have FM : Hid (OwnE w8 w.heap.size (.slice s2 rl.length c2) (markEL 1 rl.length)) := ho; clear ht ho FO2) | (go_at_call 9; refine (heldEventsResult_any w.heap.size rk ra (.slice s2 rl.length c2) rl.length 1 (by omega) (by omega) hrl _ FM.out).mono ?_; rintro e w9 ⟨rfl, hb⟩; have F0 : Hid (Blk w9 w.heap.size [.int .i64 a0.fl, .int .i64 a0.gp, .int .i64 a0.ln, .int .i64 a0.rf, .int .i64 a0.sp, .int .i64 a0.pu, .int .i64 a0.br, .int .i64 a0.dr, .int .i64 a0.lv, .int .i64 a0.dO, .int .i64 a0.ld, .int .i64 a0.qu]) := F0.out.below hb F0.out.lt; have FB : Hid (Below w.heap.size w w9) := FB.out.trans (hb.mono FB.out.size); have FR1 : Hid (Blk w9 r1 [.int .i64 rk, .int .i64 ra, .slice s1 rl.length c1]) := FR1.out.below hb FR1.out.lt; have FO1 : Hid (OwnE w9 w.heap.size (.slice s1 rl.length c1) rl) := FO1.out.below hb (fun k hk => (FO1.out.lt k hk).2); have FR2 : Hid (Blk w9 r2 [.int .i64 rk, .int .i64 ra, .slice s2 rl.length c2]) := FR2.out.below hb FR2.out.lt; have FM : Hid (OwnE w9 w.heap.size (.slice s2 rl.length c2) (markEL 1 rl.length)) := FM.out.below hb (fun k hk => (FM.out.lt k hk).2); clear hb))
  go_upto_region 16 with (first | (refine load_blk 23 _ Tryz.underlying23 (by kernel_rfl) F0.out rfl rfl rfl ?_) | (go_at_call 5; refine (toHouse_any a0 _).mono ?_; rintro e w10 ⟨rfl, hb⟩; have F0 : Hid (Blk w10 w.heap.size [.int .i64 a0.fl, .int .i64 a0.gp, .int .i64 a0.ln, .int .i64 a0.rf, .int .i64 a0.sp, .int .i64 a0.pu, .int .i64 a0.br, .int .i64 a0.dr, .int .i64 a0.lv, .int .i64 a0.dO, .int .i64 a0.ld, .int .i64 a0.qu]) := F0.out.below hb F0.out.lt; have FB : Hid (Below w.heap.size w w10) := FB.out.trans (hb.mono FB.out.size); have FR1 : Hid (Blk w10 r1 [.int .i64 rk, .int .i64 ra, .slice s1 rl.length c1]) := FR1.out.below hb FR1.out.lt; have FO1 : Hid (OwnE w10 w.heap.size (.slice s1 rl.length c1) rl) := FO1.out.below hb (fun k hk => (FO1.out.lt k hk).2); have FR2 : Hid (Blk w10 r2 [.int .i64 rk, .int .i64 ra, .slice s2 rl.length c2]) := FR2.out.below hb FR2.out.lt; have FM : Hid (OwnE w10 w.heap.size (.slice s2 rl.length c2) (markEL 1 rl.length)) := FM.out.below hb (fun k hk => (FM.out.lt k hk).2); clear hb) | (go_at_call 6; refine (CI _ (HVr.out.below FB.out (Nat.le_refl _)) (HVh.out.below FB.out (Nat.le_refl _))).mono ?_; rintro e w11 ⟨s3, c3, rfl, ho, hb⟩; have R31 : ∀ k, (Value.slice s3 rl.length c3).ownBlock = some k → r1 < k := fun k hk => Nat.lt_of_lt_of_le FR1.out.lt (ho.lt k hk).1; have R32 : ∀ k, (Value.slice s3 rl.length c3).ownBlock = some k → r2 < k := fun k hk => Nat.lt_of_lt_of_le FR2.out.lt (ho.lt k hk).1; have O31 : ∀ k, (Value.slice s3 rl.length c3).ownBlock = some k → ∀ m, (Value.slice s1 rl.length c1).ownBlock = some m → m < k := fun k hk m hm => Nat.lt_of_lt_of_le (FO1.out.lt m hm).2 (ho.lt k hk).1; have O32 : ∀ k, (Value.slice s3 rl.length c3).ownBlock = some k → ∀ m, (Value.slice s2 rl.length c2).ownBlock = some m → m < k := fun k hk m hm => Nat.lt_of_lt_of_le (FM.out.lt m hm).2 (ho.lt k hk).1; have Z3 : ∀ k, (Value.slice s3 rl.length c3).ownBlock = some k → w.heap.size < k := fun k hk => Nat.lt_of_lt_of_le F0.out.lt (ho.lt k hk).1; have FO3 : Hid (OwnE w11 w.heap.size (.slice s3 rl.length c3) rl) := ownE_base ho FB.out.size; have F0 : Hid (Blk w11 w.heap.size [.int .i64 a0.fl, .int .i64 a0.gp, .int .i64 a0.ln, .int .i64 a0.rf, .int .i64 a0.sp, .int .i64 a0.pu, .int .i64 a0.br, .int .i64 a0.dr, .int .i64 a0.lv, .int .i64 a0.dO, .int .i64 a0.ld, .int .i64 a0.qu]) := F0.out.below hb F0.out.lt; have FB : Hid (Below w.heap.size w w11) := FB.out.trans (hb.mono FB.out.size); have FR1 : Hid (Blk w11 r1 [.int .i64 rk, .int .i64 ra, .slice s1 rl.length c1]) := FR1.out.below hb FR1.out.lt; have FO1 : Hid (OwnE w11 w.heap.size (.slice s1 rl.length c1) rl) := FO1.out.below hb (fun k hk => (FO1.out.lt k hk).2); have FR2 : Hid (Blk w11 r2 [.int .i64 rk, .int .i64 ra, .slice s2 rl.length c2]) := FR2.out.below hb FR2.out.lt; have FM : Hid (OwnE w11 w.heap.size (.slice s2 rl.length c2) (markEL 1 rl.length)) := FM.out.below hb (fun k hk => (FM.out.lt k hk).2); clear hb; clear ho) | (refine store_new [.int .i64 rk, .int .i64 ra, .slice s3 rl.length c3] 26 _ _ (by kernel_rfl) (by kernel_rfl) (by kernel_rfl) rfl rfl rfl rfl ?_))
  obtain ⟨r3, hr3⟩ : ∃ x, x = w11.heap.size := ⟨_, rfl⟩
  obtain ⟨w12, hN⟩ : ∃ X, X = w11.alloc (.cells #[.int .i64 rk, .int .i64 ra, .slice s3 rl.length c3] 26) := ⟨_, rfl⟩
  have FR3 : Hid (Blk w12 r3 [.int .i64 rk, .int .i64 ra, .slice s3 rl.length c3]) := by rw [hN]; exact Blk.at_ w11 #[.int .i64 rk, .int .i64 ra, .slice s3 rl.length c3] _ _ hr3
  have Q3 : ∀ k, (Value.slice s3 rl.length c3).ownBlock = some k → k < r3 := fun k hk => by rw [hr3]; exact (FO3.out.lt k hk).2
  have F0 : Hid (Blk w12 w.heap.size [.int .i64 a0.fl, .int .i64 a0.gp, .int .i64 a0.ln, .int .i64 a0.rf, .int .i64 a0.sp, .int .i64 a0.pu, .int .i64 a0.br, .int .i64 a0.dr, .int .i64 a0.lv, .int .i64 a0.dO, .int .i64 a0.ld, .int .i64 a0.qu]) := by rw [hN]; exact F0.out.alloc _
  have FB : Hid (Below w.heap.size w w12) := by rw [hN]; exact FB.out.alloc FB.out.size _
  have FR1 : Hid (Blk w12 r1 [.int .i64 rk, .int .i64 ra, .slice s1 rl.length c1]) := by rw [hN]; exact FR1.out.alloc _
  have FO1 : Hid (OwnE w12 w.heap.size (.slice s1 rl.length c1) rl) := by rw [hN]; exact FO1.out.alloc _
  have FR2 : Hid (Blk w12 r2 [.int .i64 rk, .int .i64 ra, .slice s2 rl.length c2]) := by rw [hN]; exact FR2.out.alloc _
  have FM : Hid (OwnE w12 w.heap.size (.slice s2 rl.length c2) (markEL 1 rl.length)) := by rw [hN]; exact FM.out.alloc _
  have FO3 : Hid (OwnE w12 w.heap.size (.slice s3 rl.length c3) rl) := by rw [hN]; exact FO3.out.alloc _
  simp only [List.size_toArray, List.toArray, ← hN, ← hr3]
  clear hN hr3
  go_wp2_with (first | (refine load_blk 26 _ Tryz.underlying26 (by kernel_rfl) FR3.out rfl rfl rfl ?_) | (refine load_blk 26 _ Tryz.underlying26 (by kernel_rfl) FR1.out rfl rfl rfl ?_) | (refine load_blk 26 _ Tryz.underlying26 (by kernel_rfl) FR2.out rfl rfl rfl ?_) | (go_at_call 7; refine (eqEventsResult_same rk ra s3 s1 c3 c1 rl hrl _ FO3.out.einS FO1.out.einS).mono ?_; rintro e w13 ⟨rfl, hb⟩; have FB : Hid (Below w.heap.size w w13) := FB.out.trans (hb.mono FB.out.size); have FR2 : Hid (Blk w13 r2 [.int .i64 rk, .int .i64 ra, .slice s2 rl.length c2]) := FR2.out.below hb FR2.out.lt; have FM : Hid (OwnE w13 w.heap.size (.slice s2 rl.length c2) (markEL 1 rl.length)) := FM.out.below hb (fun k hk => (FM.out.lt k hk).2); clear hb) | (go_at_call 9; refine (heldEventsResult_any w.heap.size rk ra (.slice s2 rl.length c2) rl.length 1 (by omega) (by omega) hrl _ FM.out).mono ?_; rintro e w14 ⟨rfl, hb⟩; have FB : Hid (Below w.heap.size w w14) := FB.out.trans (hb.mono FB.out.size); have FR2 : Hid (Blk w14 r2 [.int .i64 rk, .int .i64 ra, .slice s2 rl.length c2]) := FR2.out.below hb FR2.out.lt; clear hb))
  go_ret
  exact ⟨by simp, FB.out⟩

set_option maxRecDepth 100000 in
theorem lifted (os : Os) (started : os.Started) (H : Type) (enc : TypeId × Value → H) :
    ReturnsInHanded {} Tryz.checked os 3 .any (fun w args => (Rows.fnExactParseEventsSpec.pre enc Tryz.prog Tryz.f3 [] false w args ∧ laidMetH Tryz.prog Rows.fnExactParseEventsRow.laid w) ∧ sizedMet enc Tryz.prog Tryz.f3 (OpenSpec.ofChange Rows.fnExactParseEventsSpec) false w args) (Rows.fnExactParseEventsSpec.post enc Tryz.prog Tryz.f3 false true false false) := by
  refine handed_shaped (C := Tryz.checked) (X := fun w => laidMetH Tryz.prog Rows.fnExactParseEventsRow.laid w) (fun _ _ hh h => h.of_heap hh) own started (by kernel_rfl) Tryz.func3
    (ChangeSpec.witness_shaped (enc := enc) (C := Tryz.checked) (os := os) (X := (fun w _ => laidMetH Tryz.prog Rows.fnExactParseEventsRow.laid w)) false (laidW os) #[.agg #[.int .i64 0, .int .i64 0, .int .i64 0, .int .i64 0, .int .i64 0, .int .i64 0, .int .i64 0, .int .i64 0, .int .i64 0, .int .i64 0, .int .i64 0, .int .i64 0], .string ⟨#[]⟩] 8 (laid_os os) (World.shaped_of_ZipB (by kernel_rfl) (by kernel_rfl)) (by kernel_rfl) (by kernel_rfl) (by kernel_rfl) (door_met os _)) ?_
  intro W base args ds gs before hval0 hW hL hsh
  have hval : ∀ (j : Nat) t v, Tryz.f3.params[j]? = some t → args[j]? = some v → Value.okWide Tryz.prog W .any base t v := hval0
  have hW' := hW
  obtain ⟨p, q, hA0, hV0, rfl, hfz, hnd⟩ := hW
  have hA : DataW.TrodAll enc Tryz.prog W 0 (fun _ => true) true Tryz.f3.params.toList args.toList ds p := hA0
  have hV : DataW.TrodVars enc Tryz.prog W (fun _ => true) ["loop.example/g00155/impl.errUnreadable"] gs q := hV0
  have hgn : Tryz.prog.globalNamed "loop.example/g00155/impl.errUnreadable" = some 1 := by kernel_rfl
  have hgt : (Tryz.prog.globals[1]?).map (·.type) = some 43 := by kernel_rfl
  rw [Tryz.params3] at hA hval
  obtain ⟨v0, vs0, d0, ds0, p0, q0, hargs, rfl, rfl, h0, r0⟩ := trodAll_cons hA
  obtain ⟨v1, vs1, d1, ds1, p1, q1, rfl, rfl, rfl, h1, r1⟩ := trodAll_cons r0
  obtain ⟨rfl, rfl, rfl⟩ := trodAll_nil r1
  obtain rfl : args = #[v0, v1] := by cases args; simp_all
  obtain ⟨au, hVr, hVh, hv1⟩ := vr_of hL hsh
  obtain ⟨rfl, rfl⟩ := hV.unique (vars_read1 enc hgn hgt Tryz.underlying43 hv1 trivial _)
  have k0 := h0
  have lt0 : ∀ x ∈ p0, x.block < W.heap.size := by obtain ⟨m, hm⟩ := k0; exact DataW.trod_lt m _ _ _ hm
  obtain ⟨xs0, hl0, rfl, w0⟩ := open_i64s Tryz.underlying23 Tryz.underlying2 (by kernel_rfl) (by kernel_rfl) (by kernel_rfl) (hval 0 23 v0 rfl rfl) h0
  obtain ⟨x0_0, x0_1, x0_2, x0_3, x0_4, x0_5, x0_6, x0_7, x0_8, x0_9, x0_10, x0_11, rfl⟩ := list12 hl0
  have k1 := h1
  have lt1 : ∀ x ∈ p1, x.block < W.heap.size := by obtain ⟨m, hm⟩ := k1; exact DataW.trod_lt m _ _ _ hm
  obtain ⟨a1, rfl⟩ := okWide_string Tryz.underlying9 (hval 1 9 v1 rfl rfl)
  clear hA0 hval0
  refine (walk ⟨x0_0, x0_1, x0_2, x0_3, x0_4, x0_5, x0_6, x0_7, x0_8, x0_9, x0_10, x0_11⟩ a1 w0 W ⟨_, hVr, hVh⟩).mono fun e W' ⟨he, bel⟩ => ?_
  subst he
  have hb1 : W'.heap[1]? = W.heap[1]? := bel.block 1 (World.block_lt_of_cell? W _ hVr.gu)
  have hv2 := hv1
  simp only [World.var?, hgn, Option.bind_some] at hv2
  rw [← hb1] at hv2
  have hv3 : W'.var? Tryz.prog "loop.example/g00155/impl.errUnreadable" = some #[.iface 151 (.pointer (some au))] := by simp only [World.var?, hgn, Option.bind_some]; exact hv2
  exact ⟨_, rfl, _, _, _, [], _, [.cell 1 0], hW', trodAll_mk1 (shut_bool Tryz.underlying4 _), (trodAll_cons_mk (Below.trod laidOut (by kernel_rfl) (of_decide_eq_true (by kernel_rfl)) k0 bel lt0) (trodAll_cons_mk (Below.trod laidOut (by kernel_rfl) (of_decide_eq_true (by kernel_rfl)) k1 bel lt1) trodAll_mk0)), vars_read1 enc hgn hgt Tryz.underlying43 hv3 trivial _, bel.frame _, fun h => by cases h⟩

theorem over : Rows.fnExactParseEventsRow.holds Tryz.pinned (OpenSpec.ofChange Rows.fnExactParseEventsSpec) :=
  OpenClaim.holds_of_wide 3 Tryz.f3 rfl rfl rfl rfl rfl rfl rfl ⟨rfl, rfl, rfl, rfl, rfl⟩ rfl rfl rfl rfl rfl (by kernel_rfl) Tryz.func3 (by kernel_rfl)
    (of_decide_eq_true (by kernel_rfl)) (by unfold Func.isWrapper; first | (rw [if_pos (by decide +kernel)]; kernel_rfl) | (rw [if_neg (by decide +kernel)]; exact ⟨rfl, rfl⟩))
    (fun os started H enc _ => lifted os started H enc)

theorem proved : Rows.FnExactParseEventsSaid := over
end Go.Proofs.YtonmocgoelkofaaGreatDoor.fnExactParseEvents

namespace Go.Proofs.YtonmocgoelkofaaGreatDoor
theorem fnExactParseEvents_holds : Rows.FnExactParseEventsCardSaid :=
  Claim7.holds_tied_plain_at .later [] [.data, .data, .data, .data, .handle, .sentinel, .sentinel, .sentinel, .pinned] true (true, "4806a975ec44f0b12a295777c3db525a3059c16f153cb42ef5091baa4bb1991b") true
    fnExactParseEvents.over (fun _ h => by cases h) (by kernel_rfl) (fun _ h => by cases h) fnExactParseEvents_row_tie rfl ⟨rfl, rfl⟩ (by kernel_rfl) rfl
    (fun f fn hf hfn => by
      obtain rfl : f = 3 := Option.some.inj ((show Tryz.prog.funcNamed "loop.example/g00155/laws.FnExactParseEvents" = some 3 by kernel_rfl).symm.trans hf) |>.symm
      obtain rfl : fn = Tryz.f3 := (Option.some.inj (Tryz.func3.symm.trans hfn)).symm
      exact ⟨by kernel_rfl, fun j t ht => by
        rw [Tryz.params3] at ht
        have hm : t ∈ [9, 23] := by
          have := Array.mem_of_getElem? ht
          simp at this ⊢
          rcases this with h | h <;> simp [h]
        have hall : ([9, 23].all fun u => !Tryz.prog.wantsStandIn u) = true := by kernel_rfl
        exact (show Tryz.prog.wantsStandIn t = false by simpa using List.all_eq_true.1 hall t hm)⟩)
    (by kernel_rfl)
#print axioms fnExactParseEvents_holds
end Go.Proofs.YtonmocgoelkofaaGreatDoor
