/-
  For every slice of bytes the law FnRoots returns true: a root's square is not above the number, and the next one's is; what is rounded up is the least that is not below. No condition.
-/
import Derived.Test.YtdpapffocfogkaaRows
import Derived.WalkKit
import Derived.ProofKit
import Derived.OpenShut
import Derived.Test.YtdpapffocfogkaaRoots
import Derived.ShutString
import Derived.ChangeOld
import Derived.Below
namespace Go.Proofs.Ytdpapffocfogkaa.fnRoots
open Go.ChangeShapes Go.WideShapes Go.ChangeAt Go.RowKit
open Go.ChangeMaps (open_string shut_string)
set_option linter.unusedVariables false

theorem own : ownKnob Try.prog.godebug = none := by kernel_rfl
theorem laidOut : laidOutB Try.prog = true := by kernel_rfl

/-- WHAT THE WALK IS TOLD OF A SLICE OF INTEGERS THAT CAME IN: it is nil; or it leads to a row of 'cap' cells, the numbers 'zs' (the first 'len' are its elements, the rest its spare room), each fitting its kind. -/
def IsRow (k : IntKind) (w : World) (a : Option Addr) (len cap : Nat) (zs : List Int) : Prop :=
  (a = none ∧ len = 0 ∧ cap = 0 ∧ zs = []) ∨
  ∃ x, a = some x ∧ len ≤ cap ∧ cap ≤ maxLen ∧ zs.length = cap ∧ (∀ i, i < zs.length → w.cell? (x.add i) = some (.int k (zs.getD i 0))) ∧ ∀ n ∈ zs, (Lit.int k n).wf = true

/-! ### STEP 1: THE WALK: the Go text returns true, AND WRITES NOTHING THAT WAS THERE: 'Below w.heap.size w w'' (Derived/Below.lean: '.refl', '.alloc', '.drew', '.setCell' at a new block, '.trans'). Open each 'IsRow' by 'rcases' AHEAD of 'go_enter'; part every test ahead of the walk. -/
set_option maxHeartbeats 1000000 in
theorem walk (a0 : Option Addr) (len0 cap0 : Nat) (z0 : List Int) (w : World) (w0 : IsRow .u8 w a0 len0 cap0 z0) :
    Calls Try.prog 4 #[.slice a0 len0 cap0] w fun e w' => e = .returned (.bool true) ∧ Below w.heap.size w w' := by
  have hlt : Hid (CodeLt w a0 len0) := codeLt_of w0
  have hc := codeIn_of w0
  by_cases hbig : len0 ≤ 1048576
  · have HC : Hid (∀ sb, w.heap.size ≤ sb → CodeIn w sb a0 len0) := fun sb hsb => hc hbig sb hsb
    have hf0 := field0
    clear hc w0
    go_enter Try.func4, Try.ntmps4
    go_wp2_with (first | (go_at_call 7; refine (lwBig_no _ _ _ hbig _).mono ?_; rintro e w' ⟨rfl, hw⟩; obtain rfl := hw.symm) | (go_at_call 13; refine (DrawRootDown_any a0 len0 cap0 _ (HC.out _ (Nat.le_refl _))).mono ?_; rintro e w1 ⟨n, rfl, hp, hbe⟩; have hp' : -9223372036854775808 ≤ n ∧ n ≤ 9223372036854775807 := hp; have HB : Hid (Below w.heap.size w w1) := hbe; clear hp hbe))
    have hsz : w.heap.size ≤ w1.heap.size := HB.out.size
    have HC1 : Hid (∀ sb, w.heap.size ≤ sb → CodeIn w1 sb a0 len0) := codeIn_below HC.out hlt.out HB.out
    clear HC
    by_cases hin : n < 0 ∨ 1000000000000000 < n
    · refine (implRootDown_out n hin _).mono ?_
      rintro e w2 ⟨rfl, hw2⟩
      have HB2 : Hid (Below w.heap.size w w2) := by rw [hw2]; exact (HB.out.alloc hsz _).alloc (by simp; omega) _
      clear hw2 HB hsz
      have hsz : w.heap.size ≤ w2.heap.size := HB2.out.size
      go_wp2
      go_region_held3 (fun w' => w'.cell? ⟨w2.heap.size, 0, none⟩ = some (.int .i64 3)) (go_keep) ((go_at_call 15; refine (specRootDown_out _ hin _).mono ?_; rintro e w' ⟨rfl, rfl⟩))
      go_wp2
      go_ret
      exact ⟨rfl, by repeat (first | exact HB2.out | exact hsz | apply Below.drew | apply below_drewN | (refine Below.alloc ?_ ?_ _) | (simp; omega))⟩
    · have h1 : 0 ≤ n := by omega
      have h2 : n ≤ 1000000000000000 := by omega
      clear hin hp'
      refine (implRootDown_ex n h1 h2 _).mono ?_
      rintro e w2 ⟨r, hbest, rfl, hw2⟩
      have hbe : Below w.heap.size w1 w2 := by rw [hw2]; exact ((Below.refl _ _).alloc hsz _).alloc (by simp; omega) _
      have HB2 : Hid (Below w.heap.size w w2) := HB.out.trans hbe
      have HC2 : Hid (∀ sb, w.heap.size ≤ sb → CodeIn w2 sb a0 len0) := codeIn_below HC1.out hlt.out hbe
      obtain ⟨r1, r2, r3, r4, r5, r6⟩ := root_best n r h1 h2 hbest
      clear hw2 hbe HB HC1 hsz hbest
      have hsz : w.heap.size ≤ w2.heap.size := HB2.out.size
      go_wp2_with (go_at_call 16; refine (DrawRoundUp_any a0 len0 cap0 _ ?hcode).mono ?_; rotate_left; rintro e w3 ⟨a, b, rfl, ha, hb, hbe⟩)
      case hcode => exact (codeIn_below HC2.out hlt.out ((Below.refl _ _).alloc hsz _)) _ (by simp; omega)
      have ha' : -9223372036854775808 ≤ a ∧ a ≤ 9223372036854775807 := ha
      have hb' : -9223372036854775808 ≤ b ∧ b ≤ 9223372036854775807 := hb
      have HB3 : Hid (Below w.heap.size w w3) := (HB2.out.alloc hsz _).trans (hbe.mono (by simp; omega))
      clear ha hb hbe HB2 HC2 hlt hsz r1 r2 r3 r4 r5 r6 h1 h2
      have hsz : w.heap.size ≤ w3.heap.size := HB3.out.size
      by_cases hin : 0 ≤ a ∧ a ≤ 1000000000000000 ∧ 1 ≤ b ∧ b ≤ 1000000000000000
      · obtain ⟨g1, g2, g3, g4⟩ := hin
        refine (roundUp_ex a b g1 g2 g3 g4 _).mono ?_
        rintro e w4 ⟨u, ⟨u1, u2, u3, u4, u5⟩, rfl, hw4⟩
        have HB4 : Hid (Below w.heap.size w w4) := by rw [hw4]; exact HB3.out.alloc hsz _
        clear hw4 HB3 hsz
        have hsz : w.heap.size ≤ w4.heap.size := HB4.out.size
        have hd : decide (a ≤ Pl.clip 1000000000000000 (u * b)) = true := decide_eq_true u3
        by_cases hu : u = 0
        · have hu' : (u == 0) = true := by simp [hu]
          clear hu u4 u5
          go_wp2_with (go_at_call 11; refine (implMulTop_any _ _ (by omega) (by omega) (by omega) (by omega) _).mono ?_; rintro e w' ⟨rfl, hw⟩; obtain rfl := hw.symm)
          go_ret
          exact ⟨rfl, by repeat (first | exact HB4.out | exact hsz | apply Below.drew | apply below_drewN | (refine Below.alloc ?_ ?_ _) | (simp; omega))⟩
        · have hu' : (u == 0) = false := by simp [hu]
          clear hu
          go_wp2_with (go_at_call 11; refine (implMulTop_any _ _ (by omega) (by omega) (by omega) (by omega) _).mono ?_; rintro e w' ⟨rfl, hw⟩; obtain rfl := hw.symm)
          go_ret
          exact ⟨rfl, by repeat (first | exact HB4.out | exact hsz | apply Below.drew | apply below_drewN | (refine Below.alloc ?_ ?_ _) | (simp; omega))⟩
      · refine (implRoundUp_out a b hin _).mono ?_
        rintro e w4 ⟨rfl, hw4⟩
        have HB4 : Hid (Below w.heap.size w w4) := by rw [hw4]; exact HB3.out.alloc hsz _
        clear hw4 HB3 hsz
        have hsz : w.heap.size ≤ w4.heap.size := HB4.out.size
        go_wp2
        go_region_held3 (fun w' => w'.cell? ⟨w4.heap.size, 0, none⟩ = some (.int .i64 3)) (go_keep) ((go_at_call 18; refine (specRoundUp_out _ _ hin _).mono ?_; rintro e w' ⟨rfl, rfl⟩))
        go_wp2
        go_ret
        exact ⟨rfl, by repeat (first | exact HB4.out | exact hsz | apply Below.drew | apply below_drewN | (refine Below.alloc ?_ ?_ _) | (simp; omega))⟩
  · have hm : len0 ≤ maxLen := row_le w0
    clear hc w0 hlt
    go_enter Try.func4, Try.ntmps4
    go_wp2_with (go_at_call 7; refine (lwBig_yes _ _ _ (by omega) hm _).mono ?_; rintro e w' ⟨rfl, rfl⟩)
    go_ret
    exact ⟨rfl, Below.refl _ _⟩

/-! ### THE ROW's STEP: WRITTEN OUT: LEAVE IT -/
set_option maxRecDepth 100000 in
theorem lifted (os : Os) (started : os.Started) (H : Type) (enc : TypeId × Value → H) :
    ReturnsInHanded {} Try.checked os 4 .any (Rows.fnRootsSpec.pre6 enc Try.prog Try.f4 Rows.fnRootsRow.domain false) (Rows.fnRootsSpec.post enc Try.prog Try.f4 false true false false) := by
  refine returnsInHanded_of_change (C := Try.checked) own started (by kernel_rfl) Try.func4
    (ChangeSpec.witness6 (enc := enc) (C := Try.checked) false ⟨#[], #[.slice none 0 0], []⟩ 8 (by kernel_rfl) (by kernel_rfl) (by kernel_rfl) (by kernel_rfl)) ?_
  intro W base args ds gs before hval0 hW hcnd _
  have hval : ∀ (j : Nat) t v, Try.f4.params[j]? = some t → args[j]? = some v → Value.okWide Try.prog W .any base t v := hval0
  have hW' := hW
  obtain ⟨p, q, hA0, hV, rfl, hfz, hnd⟩ := hW
  have hA : DataW.TrodAll enc Try.prog W 0 (fun _ => true) true Try.f4.params.toList args.toList ds p := hA0
  rw [Try.params4] at hA hval
  obtain ⟨v0, vs0, d0, ds0, p0, q0, hargs, rfl, rfl, h0, r0⟩ := trodAll_cons hA
  obtain ⟨rfl, rfl, rfl⟩ := trodAll_nil r0
  obtain rfl : args = #[v0] := by cases args; simp_all
  obtain ⟨rfl, rfl⟩ := trodVars_none hV
  obtain ⟨a0, len0, cap0, rfl⟩ := okWide_slice Try.underlying22 (hval 0 22 v0 rfl rfl)
  have k0 := h0
  have lt0 : ∀ x ∈ p0, x.block < W.heap.size := by obtain ⟨m, hm⟩ := k0; exact DataW.trod_lt m _ _ _ hm
  obtain ⟨z0, w0⟩ : ∃ zs, IsRow .u8 W a0 len0 cap0 zs := by
    obtain ⟨fuel, hf⟩ := h0
    rcases open_ints Try.underlying22 Try.underlying5 (by kernel_rfl) hf with ⟨hcs, _⟩ | ⟨x, l, c, zs, hcs, _, hl, hm, hz, _, hcell, hwz⟩
    · simp [Value.cells] at hcs
      obtain ⟨rfl, rfl, rfl⟩ := hcs
      exact ⟨[], .inl ⟨rfl, rfl, rfl, rfl⟩⟩
    · simp [Value.cells] at hcs
      obtain ⟨rfl, rfl, rfl⟩ := hcs
      exact ⟨zs, .inr ⟨_, rfl, hl, hm, by simpa using hz, hcell, hwz⟩⟩
  clear hA0 hval0
  refine (walk a0 len0 cap0 z0 W w0).mono fun e W' ⟨he, bel⟩ => ?_
  subst he
  exact ⟨_, rfl, _, _, _, [], _, [], hW', trodAll_mk1 (shut_bool Try.underlying4 _), (trodAll_cons_mk (Below.trod laidOut (by kernel_rfl) (of_decide_eq_true (by kernel_rfl)) k0 bel lt0) trodAll_mk0), rfl, bel.frame _, fun h => by cases h⟩

theorem over : Rows.fnRootsRow.holds Try.pinned (OpenSpec.ofChange Rows.fnRootsSpec) :=
  OpenClaim.holds_of_wide 4 Try.f4 rfl rfl rfl rfl rfl rfl rfl ⟨rfl, rfl, rfl, rfl, rfl⟩ rfl rfl rfl rfl rfl (by kernel_rfl) Try.func4 (by kernel_rfl)
    (of_decide_eq_true (by kernel_rfl)) (by unfold Func.isWrapper; first | (rw [if_pos (by decide +kernel)]; kernel_rfl) | (rw [if_neg (by decide +kernel)]; exact ⟨rfl, rfl⟩))
    (fun os started H enc _ => lifted os started H enc)

/-- ████ THE STATEMENT ████ -/
theorem proved : Rows.FnRootsSaid := over
end Go.Proofs.Ytdpapffocfogkaa.fnRoots

namespace Go.Proofs.Ytdpapffocfogkaa
theorem fnRoots_holds : Rows.FnRootsSaid := fnRoots.proved
#print axioms fnRoots_holds
end Go.Proofs.Ytdpapffocfogkaa
