/-
  For every slice of bytes the law FnSpeeds returns true: the speed that is told may still be stopped on the path, and no greater one. No condition.
-/
import Derived.Test.YtdpapffocfogkaaRows
import Derived.WalkKit
import Derived.ProofKit
import Derived.OpenShut
import Derived.Test.YtdpapffocfogkaaSpeeds
import Derived.ShutString
import Derived.ChangeOld
import Derived.Below
namespace Go.Proofs.Ytdpapffocfogkaa.fnSpeeds
open Go.ChangeShapes Go.WideShapes Go.ChangeAt Go.RowKit
open Go.ChangeMaps (open_string shut_string)
set_option linter.unusedVariables false

theorem own : ownKnob Try.prog.godebug = none := by kernel_rfl
theorem laidOut : laidOutB Try.prog = true := by kernel_rfl

/-- WHAT THE WALK IS TOLD OF A SLICE OF INTEGERS THAT CAME IN: it is nil; or it leads to a row of 'cap' cells, the numbers 'zs' (the first 'len' are its elements, the rest its spare room), each fitting its kind. -/
def IsRow (k : IntKind) (w : World) (a : Option Addr) (len cap : Nat) (zs : List Int) : Prop :=
  (a = none ∧ len = 0 ∧ cap = 0 ∧ zs = []) ∨
  ∃ x, a = some x ∧ len ≤ cap ∧ cap ≤ maxLen ∧ zs.length = cap ∧ (∀ i, i < zs.length → w.cell? (x.add i) = some (.int k (zs.getD i 0))) ∧ ∀ n ∈ zs, (Lit.int k n).wf = true

/-! ### STEP 1: THE WALK: the Go text returns true, AND WRITES NOTHING THAT WAS THERE: 'Below w.heap.size w w'' (Derived/Below.lean: '.refl', '.alloc', '.drew', '.setCell' at a new block, '.trans'). Open each 'IsRow' by 'rcases' AHEAD of 'go_enter'; part every test ahead of the walk. -/
theorem walk (a0 : Option Addr) (len0 cap0 : Nat) (z0 : List Int) (w : World) (w0 : IsRow .u8 w a0 len0 cap0 z0) :
    Calls Try.prog 6 #[.slice a0 len0 cap0] w fun e w' => e = .returned (.bool true) ∧ Below w.heap.size w w' := by
  have hlt : Hid (CodeLt w a0 len0) := codeLt_of w0
  have hc := codeIn_of w0
  by_cases hbig : len0 ≤ 1048576
  · have HC : Hid (∀ sb, w.heap.size ≤ sb → CodeIn w sb a0 len0) := fun sb hsb => hc hbig sb hsb
    clear hc w0
    go_enter Try.func6, Try.ntmps6
    go_wp2_with (first | (go_at_call 7; refine (lwBig_no _ _ _ hbig _).mono ?_; rintro e w' ⟨rfl, hw⟩; obtain rfl := hw.symm) | (go_at_call 25; refine (DrawSpeedFor_any a0 len0 cap0 _ (HC.out _ (Nat.le_refl _))).mono ?_; rintro e w1 ⟨p, b, rfl, hp, hb, hbe⟩; have hp' : -9223372036854775808 ≤ p ∧ p ≤ 9223372036854775807 := hp; have hb' : -9223372036854775808 ≤ b ∧ b ≤ 9223372036854775807 := hb; have HB : Hid (Below w.heap.size w w1) := hbe; clear hp hb hbe))
    clear HC hlt
    by_cases hin : 0 ≤ p ∧ p ≤ 1000000000000000 ∧ 1 ≤ b ∧ b ≤ 2000
    · obtain ⟨h1, h2, h3, h4⟩ := hin
      refine (implSpeedFor_in p b h1 h2 h3 h4 _).mono ?_
      rintro e w2 ⟨r, hbest, rfl, hg, hbe⟩
      have HB2 : Hid (Below w.heap.size w w2) := HB.out.trans (hbe.mono HB.out.size)
      obtain ⟨r0, r1, r2, r3⟩ := speed_best p b r h1 hbest
      clear HB hg hbe hbest
      have hsz : w.heap.size ≤ w2.heap.size := HB2.out.size
      have hd : decide (r < 0) = false := decide_eq_false (by omega)
      have sb := stopP_bd r b r0 r1 h3
      have hf1 := field1
      have hw1 : IntKind.i64.wrap (r + Pl.stopP r b) = r + Pl.stopP r b := IntWalk.i64_in _ (by omega)
      go_wp2
      go_region_held3 (fun w' => w'.cell? ⟨w2.heap.size, 1, none⟩ = some (.int .i64 r)) (go_keep) ((go_at_call 20; refine (implStopPath_in _ _ r0 r1 h3 h4 _).mono ?_; rintro e w' ⟨rfl, rfl⟩))
      by_cases hr : r = 2000
      · have hr' : (r == 2000) = true := by simp [hr]
        clear hr r3
        go_wp2
        go_quiet (fail)
        go_wp2
        go_ret
        exact ⟨rfl, by repeat (first | exact HB2.out | exact hsz | apply Below.drew | apply below_drewN | (refine Below.alloc ?_ ?_ _) | (simp; omega))⟩
      · have hr' : (r == 2000) = false := by simp [hr]
        have r4 : r + 1 ≤ 2000 := by omega
        have r5 : 0 ≤ r + 1 := by omega
        have r3' : p < r + 1 + Pl.stopP (r + 1) b := by omega
        have sb' := stopP_bd (r + 1) b r5 r4 h3
        have hw2 : IntKind.i64.wrap (r + 1) = r + 1 := IntWalk.i64_in _ (by omega)
        have hw3 : IntKind.i64.wrap (r + 1 + Pl.stopP (r + 1) b) = r + 1 + Pl.stopP (r + 1) b := IntWalk.i64_in _ (by omega)
        clear hr r3
        go_wp2
        go_region_held3 (fun w' => w'.cell? ⟨w2.heap.size, 1, none⟩ = some (.int .i64 r)) (go_keep) ((go_at_call 20; refine (implStopPath_in _ _ r5 r4 h3 h4 _).mono ?_; rintro e w' ⟨rfl, rfl⟩))
        go_wp2
        go_ret
        exact ⟨rfl, by repeat (first | exact HB2.out | exact hsz | apply Below.drew | apply below_drewN | (refine Below.alloc ?_ ?_ _) | (simp; omega))⟩
    · have hf0 := field0
      have hsz : w.heap.size ≤ w1.heap.size := HB.out.size
      refine (implSpeedFor_out p b hin _).mono ?_
      rintro e w2 ⟨rfl, hw2⟩
      have HB2 : Hid (Below w.heap.size w w2) := by
        rw [hw2]; unfold speedW
        exact ((HB.out.alloc hsz _).alloc (by simp; omega) _).alloc (by simp; omega) _
      clear hw2 HB hsz
      have hsz : w.heap.size ≤ w2.heap.size := HB2.out.size
      go_wp2
      go_region_held3 (fun w' => w'.cell? ⟨w2.heap.size, 0, none⟩ = some (.int .i64 3)) (go_keep) ((go_at_call 27; refine (specSpeedFor_out _ _ hin _).mono ?_; rintro e w' ⟨rfl, rfl⟩))
      go_wp2
      go_ret
      exact ⟨rfl, by repeat (first | exact HB2.out | exact hsz | apply Below.drew | apply below_drewN | (refine Below.alloc ?_ ?_ _) | (simp; omega))⟩
  · have hm : len0 ≤ maxLen := row_le w0
    clear hc w0 hlt
    go_enter Try.func6, Try.ntmps6
    go_wp2_with (go_at_call 7; refine (lwBig_yes _ _ _ (by omega) hm _).mono ?_; rintro e w' ⟨rfl, rfl⟩)
    go_ret
    exact ⟨rfl, Below.refl _ _⟩

/-! ### THE ROW's STEP: WRITTEN OUT: LEAVE IT -/
set_option maxRecDepth 100000 in
theorem lifted (os : Os) (started : os.Started) (H : Type) (enc : TypeId × Value → H) :
    ReturnsInHanded {} Try.checked os 6 .any (Rows.fnSpeedsSpec.pre6 enc Try.prog Try.f6 Rows.fnSpeedsRow.domain false) (Rows.fnSpeedsSpec.post enc Try.prog Try.f6 false true false false) := by
  refine returnsInHanded_of_change (C := Try.checked) own started (by kernel_rfl) Try.func6
    (ChangeSpec.witness6 (enc := enc) (C := Try.checked) false ⟨#[], #[.slice none 0 0], []⟩ 8 (by kernel_rfl) (by kernel_rfl) (by kernel_rfl) (by kernel_rfl)) ?_
  intro W base args ds gs before hval0 hW hcnd _
  have hval : ∀ (j : Nat) t v, Try.f6.params[j]? = some t → args[j]? = some v → Value.okWide Try.prog W .any base t v := hval0
  have hW' := hW
  obtain ⟨p, q, hA0, hV, rfl, hfz, hnd⟩ := hW
  have hA : DataW.TrodAll enc Try.prog W 0 (fun _ => true) true Try.f6.params.toList args.toList ds p := hA0
  rw [Try.params6] at hA hval
  obtain ⟨v0, vs0, d0, ds0, p0, q0, hargs, rfl, rfl, h0, r0⟩ := trodAll_cons hA
  obtain ⟨rfl, rfl, rfl⟩ := trodAll_nil r0
  obtain rfl : args = #[v0] := by cases args; simp_all
  obtain ⟨rfl, rfl⟩ := trodVars_none hV
  obtain ⟨a0, len0, cap0, rfl⟩ := okWide_slice Try.underlying22 (hval 0 22 v0 rfl rfl)
  have k0 := h0
  have lt0 : ∀ x ∈ p0, x.block < W.heap.size := by obtain ⟨m, hm⟩ := k0; exact DataW.trod_lt m _ _ _ hm
  obtain ⟨z0, w0⟩ : ∃ zs, IsRow .u8 W a0 len0 cap0 zs := by
    obtain ⟨fuel, hf⟩ := h0
    rcases open_ints Try.underlying22 Try.underlying5 (by kernel_rfl) hf with ⟨hcs, _⟩ | ⟨x, l, c, zs, hcs, _, hl, hm, hz, _, hcell, hwz⟩
    · simp [Value.cells] at hcs
      obtain ⟨rfl, rfl, rfl⟩ := hcs
      exact ⟨[], .inl ⟨rfl, rfl, rfl, rfl⟩⟩
    · simp [Value.cells] at hcs
      obtain ⟨rfl, rfl, rfl⟩ := hcs
      exact ⟨zs, .inr ⟨_, rfl, hl, hm, by simpa using hz, hcell, hwz⟩⟩
  clear hA0 hval0
  refine (walk a0 len0 cap0 z0 W w0).mono fun e W' ⟨he, bel⟩ => ?_
  subst he
  exact ⟨_, rfl, _, _, _, [], _, [], hW', trodAll_mk1 (shut_bool Try.underlying4 _), (trodAll_cons_mk (Below.trod laidOut (by kernel_rfl) (of_decide_eq_true (by kernel_rfl)) k0 bel lt0) trodAll_mk0), rfl, bel.frame _, fun h => by cases h⟩

theorem over : Rows.fnSpeedsRow.holds Try.pinned (OpenSpec.ofChange Rows.fnSpeedsSpec) :=
  OpenClaim.holds_of_wide 6 Try.f6 rfl rfl rfl rfl rfl rfl rfl ⟨rfl, rfl, rfl, rfl, rfl⟩ rfl rfl rfl rfl rfl (by kernel_rfl) Try.func6 (by kernel_rfl)
    (of_decide_eq_true (by kernel_rfl)) (by unfold Func.isWrapper; first | (rw [if_pos (by decide +kernel)]; kernel_rfl) | (rw [if_neg (by decide +kernel)]; exact ⟨rfl, rfl⟩))
    (fun os started H enc _ => lifted os started H enc)

/-- ████ THE STATEMENT ████ -/
theorem proved : Rows.FnSpeedsSaid := over
end Go.Proofs.Ytdpapffocfogkaa.fnSpeeds

namespace Go.Proofs.Ytdpapffocfogkaa
theorem fnSpeeds_holds : Rows.FnSpeedsSaid := fnSpeeds.proved
#print axioms fnSpeeds_holds
end Go.Proofs.Ytdpapffocfogkaa
