/-
  For every slice of bytes the law FnStops returns true: who brakes goes just the path that is told, in the ticks that are told, and no farther than the bound. No condition.
-/
import Derived.Test.YtdpapffocfogkaaRows
import Derived.WalkKit
import Derived.ProofKit
import Derived.OpenShut
import Derived.Test.YtdpapffocfogkaaStops
import Derived.ShutString
import Derived.ChangeOld
import Derived.Below
namespace Go.Proofs.Ytdpapffocfogkaa.fnStops
open Go.ChangeShapes Go.WideShapes Go.ChangeAt Go.RowKit
open Go.ChangeMaps (open_string shut_string)
set_option linter.unusedVariables false

theorem own : ownKnob Try.prog.godebug = none := by kernel_rfl
theorem laidOut : laidOutB Try.prog = true := by kernel_rfl

/-- WHAT THE WALK IS TOLD OF A SLICE OF INTEGERS THAT CAME IN: it is nil; or it leads to a row of 'cap' cells, the numbers 'zs' (the first 'len' are its elements, the rest its spare room), each fitting its kind. -/
def IsRow (k : IntKind) (w : World) (a : Option Addr) (len cap : Nat) (zs : List Int) : Prop :=
  (a = none ∧ len = 0 ∧ cap = 0 ∧ zs = []) ∨
  ∃ x, a = some x ∧ len ≤ cap ∧ cap ≤ maxLen ∧ zs.length = cap ∧ (∀ i, i < zs.length → w.cell? (x.add i) = some (.int k (zs.getD i 0))) ∧ ∀ n ∈ zs, (Lit.int k n).wf = true

/-! ### STEP 1: THE WALK: the Go text returns true, AND WRITES NOTHING THAT WAS THERE: 'Below w.heap.size w w'' (Derived/Below.lean: '.refl', '.alloc', '.drew', '.setCell' at a new block, '.trans'). Open each 'IsRow' by 'rcases' AHEAD of 'go_enter'; part every test ahead of the walk. -/
set_option maxHeartbeats 1000000 in
theorem walk (a0 : Option Addr) (len0 cap0 : Nat) (z0 : List Int) (w : World) (w0 : IsRow .u8 w a0 len0 cap0 z0) :
    Calls Try.prog 5 #[.slice a0 len0 cap0] w fun e w' => e = .returned (.bool true) ∧ Below w.heap.size w w' := by
  have hlt : Hid (CodeLt w a0 len0) := codeLt_of w0
  have hc := codeIn_of w0
  by_cases hbig : len0 ≤ 1048576
  · have HC : Hid (∀ sb, w.heap.size ≤ sb → CodeIn w sb a0 len0) := fun sb hsb => hc hbig sb hsb
    clear hc w0
    go_enter Try.func5, Try.ntmps5
    go_wp2_with (first | (go_at_call 7; refine (lwBig_no _ _ _ hbig _).mono ?_; rintro e w' ⟨rfl, hw⟩; obtain rfl := hw.symm) | (go_at_call 19; refine (DrawStopPath_any a0 len0 cap0 _ (HC.out _ (Nat.le_refl _))).mono ?_; rintro e w1 ⟨s, b, rfl, hp, hb, hbe⟩; have hp' : -9223372036854775808 ≤ s ∧ s ≤ 9223372036854775807 := hp; have hb' : -9223372036854775808 ≤ b ∧ b ≤ 9223372036854775807 := hb; have HB : Hid (Below w.heap.size w w1) := hbe; clear hp hb hbe))
    clear HC hlt
    have hsz : w.heap.size ≤ w1.heap.size := HB.out.size
    by_cases hin : 0 ≤ s ∧ s ≤ 2000 ∧ 1 ≤ b ∧ b ≤ 2000
    · obtain ⟨h1, h2, h3, h4⟩ := hin
      refine (implStopPath_in s b h1 h2 h3 h4 _).mono ?_
      rintro e w2 ⟨rfl, hw2⟩
      have HB2 : Hid (Below w.heap.size w w2) := by rw [hw2]; exact HB.out.alloc hsz _
      clear hw2 HB hsz
      have hsz : w.heap.size ≤ w2.heap.size := HB2.out.size
      clear hp' hb'
      go_wp2
      obtain ⟨W0, hW0⟩ : ∃ W0, W0 = w2.alloc (.cells #[.int .i64 0, .int .i64 (Pl.stopP s b)] 30) := ⟨_, rfl⟩
      rw [← hW0]
      have hpc : W0.cell? ⟨w2.heap.size, 1, none⟩ = some (.int .i64 (Pl.stopP s b)) := by rw [hW0]; simp
      have hps : w2.heap.size < W0.heap.size := by rw [hW0]; simp
      have HB3 : Hid (Below w.heap.size w W0) := by rw [hW0]; exact HB2.out.alloc hsz _
      clear hW0 HB2
      go_loopw [6, 7, 8] (fun a v n wr => ∃ A V N : Int, a = .int .i64 A ∧ v = .int .i64 V ∧ n = .int .i64 N ∧ StopInv s b A V N ∧ Below W0.heap.size W0 wr) (fun _ v _ _ => (intOf v).toNat)
      case atStart => exact ⟨0, s, 0, rfl, rfl, rfl, StopInv.start s b h1, Below.refl _ _⟩
      case round =>
        obtain ⟨A, V, N, rfl, rfl, rfl, hinv, hbel⟩ := hrel
        have HI : Hid (StopInv s b A V N) := hinv
        have HB4 : Hid (Below W0.heap.size W0 wr) := hbel
        obtain ⟨i1, i2, i3, i4, i5, i6⟩ := hinv.bounds h1 h2 h3
        clear hinv hbel
        by_cases hv : 0 < V
        · have hv1 : brk V b < V := brk_lt V b hv h3
          have hv2 : 0 ≤ brk V b := brk_nonneg V b hv
          go_wp2_with (go_at_call 23; refine (implBrakeOn_in _ _ _ (by omega) (by omega) (by omega) (by omega) h3 h4 _).mono ?_; rintro e w' ⟨rfl, hw⟩; have HB5 : Hid (Below W0.heap.size W0 w') := by { rw [hw]; exact HB4.out.alloc HB4.out.size _ }; clear hw)
          go_roundw
          case rel => exact ⟨A + brk V b, brk V b, N + 1, rfl, rfl, rfl, HI.out.next hv h3, HB5.out.alloc HB5.out.size _⟩
          case measure => simp [intOf]; omega
        · obtain ⟨rfl, rfl⟩ := HI.out.done hv h3
          have hbk := brk_back s b h1 h3
          have hbk2 := brk_bd (-s) b (by omega) (by omega) h3
          have hbd : decide (Pl.stopP s b ≤ (s * s + 2 * b - 1) / (2 * b)) = true := decide_eq_true (stop_bound s b h1 h3)
          have hf1 := field1
          have hpc' : wr.cell? ⟨w2.heap.size, 1, none⟩ = some (.int .i64 (Pl.stopP s b)) := (HB4.out.cell (p := ⟨w2.heap.size, 1, none⟩) hps).trans hpc
          have hps' : w2.heap.size < wr.heap.size := Nat.lt_of_lt_of_le hps HB4.out.size
          have HB6 : Hid (Below w.heap.size w wr) := HB3.out.trans (HB4.out.mono HB3.out.size)
          clear HI HB4 HB3 hpc hps i1 i2 i3 i4 i5 i6
          go_wp2_with (go_at_call 23; refine (implBrakeOn_in _ _ _ (by omega) (by omega) (by omega) (by omega) h3 h4 _).mono ?_; rintro e w' ⟨rfl, hw⟩; have HB5 : Hid (Below w.heap.size w w') := by { rw [hw]; exact HB6.out.alloc HB6.out.size _ }; have hpc2 : w'.cell? ⟨w2.heap.size, 1, none⟩ = some (.int .i64 (Pl.stopP s b)) := by { rw [hw, World.cell?_alloc_past _ _ _ hps']; exact hpc' }; clear hw)
          have hbk' : decide (brk (-s) b ≤ 0) = true := decide_eq_true hbk
          have hps2 : w2.heap.size < w'.heap.size := World.block_lt_of_cell? w' _ hpc2
          obtain ⟨W1, hW1⟩ : ∃ W1, W1 = w'.alloc (.cells #[.int .i64 0, .int .i64 (brk (-s) b), .int .i64 (brk (-s) b)] 34) := ⟨_, rfl⟩
          rw [← hW1]
          have c1 : W1.cell? ⟨w2.heap.size, 1, none⟩ = some (.int .i64 (Pl.stopP s b)) := by rw [hW1, World.cell?_alloc_past _ _ _ hps2]; exact hpc2
          have c2 : W1.cell? ⟨w'.heap.size, 1, none⟩ = some (.int .i64 (brk (-s) b)) := by rw [hW1]; simp
          have c3 : W1.cell? ⟨w'.heap.size, 2, none⟩ = some (.int .i64 (brk (-s) b)) := by rw [hW1]; simp
          have HB7 : Hid (Below w.heap.size w W1) := by rw [hW1]; exact HB5.out.alloc HB5.out.size _
          have hsz7 : w.heap.size ≤ W1.heap.size := HB7.out.size
          clear hW1 hpc2 hps2 HB5 HB6 hpc' hps' hbk hbk2 hv hsz
          go_region_held3 (fun w'' => w''.cell? ⟨w2.heap.size, 1, none⟩ = some (.int .i64 (Pl.stopP s b)) ∧ w''.cell? ⟨w'.heap.size, 1, none⟩ = some (.int .i64 (brk (-s) b)) ∧ w''.cell? ⟨w'.heap.size, 2, none⟩ = some (.int .i64 (brk (-s) b))) (go_keep) (first | (go_at_call 22; refine (implStopTicks_in _ _ h1 h2 h3 h4 _).mono ?_; rintro e w'' ⟨rfl, rfl⟩) | (go_at_call 24; refine (implStopBound_in _ _ h1 h2 h3 h4 _).mono ?_; rintro e w'' ⟨rfl, rfl⟩))
          go_wp2
          go_ret
          exact ⟨rfl, by repeat (first | exact HB7.out | exact hsz7 | apply Below.drew | apply below_drewN | (refine Below.alloc ?_ ?_ _) | (simp; omega))⟩
    · have hf0 := field0
      refine (implStopPath_out s b hin _).mono ?_
      rintro e w2 ⟨rfl, hw2⟩
      have HB2 : Hid (Below w.heap.size w w2) := by rw [hw2]; exact HB.out.alloc hsz _
      clear hw2 HB hsz
      have hsz : w.heap.size ≤ w2.heap.size := HB2.out.size
      go_wp2
      go_region_held3 (fun w' => w'.cell? ⟨w2.heap.size, 0, none⟩ = some (.int .i64 3)) (go_keep) (first | (go_at_call 21; refine (specStopPath_out _ _ hin _).mono ?_; rintro e w' ⟨rfl, rfl⟩) | (go_at_call 22; refine (implStopTicks_out _ _ hin _).mono ?_; rintro e w' ⟨rfl, rfl⟩))
      go_wp2
      go_ret
      exact ⟨rfl, by repeat (first | exact HB2.out | exact hsz | apply Below.drew | apply below_drewN | (refine Below.alloc ?_ ?_ _) | (simp; omega))⟩
  · have hm : len0 ≤ maxLen := row_le w0
    clear hc w0 hlt
    go_enter Try.func5, Try.ntmps5
    go_wp2_with (go_at_call 7; refine (lwBig_yes _ _ _ (by omega) hm _).mono ?_; rintro e w' ⟨rfl, rfl⟩)
    go_ret
    exact ⟨rfl, Below.refl _ _⟩

/-! ### THE ROW's STEP: WRITTEN OUT: LEAVE IT -/
set_option maxRecDepth 100000 in
theorem lifted (os : Os) (started : os.Started) (H : Type) (enc : TypeId × Value → H) :
    ReturnsInHanded {} Try.checked os 5 .any (Rows.fnStopsSpec.pre6 enc Try.prog Try.f5 Rows.fnStopsRow.domain false) (Rows.fnStopsSpec.post enc Try.prog Try.f5 false true false false) := by
  refine returnsInHanded_of_change (C := Try.checked) own started (by kernel_rfl) Try.func5
    (ChangeSpec.witness6 (enc := enc) (C := Try.checked) false ⟨#[], #[.slice none 0 0], []⟩ 8 (by kernel_rfl) (by kernel_rfl) (by kernel_rfl) (by kernel_rfl)) ?_
  intro W base args ds gs before hval0 hW hcnd _
  have hval : ∀ (j : Nat) t v, Try.f5.params[j]? = some t → args[j]? = some v → Value.okWide Try.prog W .any base t v := hval0
  have hW' := hW
  obtain ⟨p, q, hA0, hV, rfl, hfz, hnd⟩ := hW
  have hA : DataW.TrodAll enc Try.prog W 0 (fun _ => true) true Try.f5.params.toList args.toList ds p := hA0
  rw [Try.params5] at hA hval
  obtain ⟨v0, vs0, d0, ds0, p0, q0, hargs, rfl, rfl, h0, r0⟩ := trodAll_cons hA
  obtain ⟨rfl, rfl, rfl⟩ := trodAll_nil r0
  obtain rfl : args = #[v0] := by cases args; simp_all
  obtain ⟨rfl, rfl⟩ := trodVars_none hV
  obtain ⟨a0, len0, cap0, rfl⟩ := okWide_slice Try.underlying22 (hval 0 22 v0 rfl rfl)
  have k0 := h0
  have lt0 : ∀ x ∈ p0, x.block < W.heap.size := by obtain ⟨m, hm⟩ := k0; exact DataW.trod_lt m _ _ _ hm
  obtain ⟨z0, w0⟩ : ∃ zs, IsRow .u8 W a0 len0 cap0 zs := by
    obtain ⟨fuel, hf⟩ := h0
    rcases open_ints Try.underlying22 Try.underlying5 (by kernel_rfl) hf with ⟨hcs, _⟩ | ⟨x, l, c, zs, hcs, _, hl, hm, hz, _, hcell, hwz⟩
    · simp [Value.cells] at hcs
      obtain ⟨rfl, rfl, rfl⟩ := hcs
      exact ⟨[], .inl ⟨rfl, rfl, rfl, rfl⟩⟩
    · simp [Value.cells] at hcs
      obtain ⟨rfl, rfl, rfl⟩ := hcs
      exact ⟨zs, .inr ⟨_, rfl, hl, hm, by simpa using hz, hcell, hwz⟩⟩
  clear hA0 hval0
  refine (walk a0 len0 cap0 z0 W w0).mono fun e W' ⟨he, bel⟩ => ?_
  subst he
  exact ⟨_, rfl, _, _, _, [], _, [], hW', trodAll_mk1 (shut_bool Try.underlying4 _), (trodAll_cons_mk (Below.trod laidOut (by kernel_rfl) (of_decide_eq_true (by kernel_rfl)) k0 bel lt0) trodAll_mk0), rfl, bel.frame _, fun h => by cases h⟩

theorem over : Rows.fnStopsRow.holds Try.pinned (OpenSpec.ofChange Rows.fnStopsSpec) :=
  OpenClaim.holds_of_wide 5 Try.f5 rfl rfl rfl rfl rfl rfl rfl ⟨rfl, rfl, rfl, rfl, rfl⟩ rfl rfl rfl rfl rfl (by kernel_rfl) Try.func5 (by kernel_rfl)
    (of_decide_eq_true (by kernel_rfl)) (by unfold Func.isWrapper; first | (rw [if_pos (by decide +kernel)]; kernel_rfl) | (rw [if_neg (by decide +kernel)]; exact ⟨rfl, rfl⟩))
    (fun os started H enc _ => lifted os started H enc)

/-- ████ THE STATEMENT ████ -/
theorem proved : Rows.FnStopsSaid := over
end Go.Proofs.Ytdpapffocfogkaa.fnStops

namespace Go.Proofs.Ytdpapffocfogkaa
theorem fnStops_holds : Rows.FnStopsSaid := fnStops.proved
#print axioms fnStops_holds
end Go.Proofs.Ytdpapffocfogkaa
