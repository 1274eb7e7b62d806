/-
  EventTexts: what is written is read again.
-/
import Derived.Test.YtoacnglcneliiaaGreatDoorRows
import Derived.WalkKit
import Derived.ProofKit
import Derived.OpenShut
import Derived.ChangeOld
import Derived.Below
import Derived.Lay
import Derived.LaidMore
import Derived.MakeChecks
import Derived.Stop.Joined
import Derived.Stop.LaidErr
import Derived.Lib.LaidTab
import Derived.Lib.AppendIntMem
import Derived.SevenTiedAt
import Derived.Test.YtoacnglcneliiaaGreatDoorCards
import Derived.Test.YtoacnglcneliiaaGreatDoorTie
import Derived.Test.YtoacnglcneliiaaGreatDoorParLe
import Derived.Test.YtoacnglcneliiaaGreatDoorEtW
import Derived.Test.YtoacnglcneliiaaGreatDoorFnd
namespace Go.Proofs.YtoacnglcneliiaaGreatDoor.fnEventTexts
open Go.ChangeShapes Go.WideShapes Go.ChangeAt Go.RowKit
set_option linter.unusedVariables false
set_option linter.unusedSimpArgs false

theorem own : ownKnob Tryz.prog.godebug = none := by kernel_rfl
theorem laidOut : laidOutB Tryz.prog = true := by kernel_rfl

def plainL : List (String × DataW Unit) := Rows.fnEventTextsRow.laid.filter fun x => x.2.handleName?.isNone
/-- A start: the settled world, the handle laid; then the plain data. -/
noncomputable def hW (os : Os) : World :=
  let w0 := World.holding Tryz.prog os ⟨#[], #[], []⟩
  { w0 with heap := w0.heap.modify 0 fun
      | .cells _ t frozen => .cells #[.iface 117 (.agg #[.pointer (some ⟨10, 44, none⟩)])] t frozen
      | o => o }
noncomputable def laidW (os : Os) : World := (hW os).layVars Tryz.prog plainL
theorem laid_os (os : Os) : (laidW os).os = os := World.layVars_os _ _ _
theorem laid_fits (os : Os) : (hW os).layFits Tryz.prog plainL [] = true := by kernel_rfl
theorem laid_ifaces (os : Os) : (hW os).layIfaces Tryz.prog plainL (laidW os) = true := by kernel_rfl
theorem laid_met (os : Os) (args : Array Value) : laidMet Tryz.prog plainL ((laidW os).forCall (fun _ _ => 0) ⟨#[], args, []⟩).memory := by
  have e1 : (plainL.filter fun x => (plainL.map (·.1)).contains x.1) = plainL := List.filter_eq_self.2 fun x hx => List.contains_iff_mem.2 (List.mem_map.2 ⟨x, hx, rfl⟩)
  have e2 : (plainL.filter fun x => !(plainL.map (·.1)).contains x.1) = [] := List.filter_eq_nil_iff.2 fun x hx => by rw [List.contains_iff_mem.2 (List.mem_map.2 ⟨x, hx, rfl⟩)]; simp
  have h : laidMet Tryz.prog plainL (laidW os) := laidMet_layVars (w0 := hW os) (plainL.map (·.1)) [] (by rw [e1]; rfl) (by rw [e1]; exact laid_fits os) (by rw [e1]; exact laid_ifaces os) (by rw [e2]; exact LaidIn.none)
  exact h.of_heap (by simp [World.memory, World.forCall, Input.heap])
theorem door_met (os : Os) (args : Array Value) : laidMetH Tryz.prog Rows.fnEventTextsRow.laid ((laidW os).forCall (fun _ _ => 0) ⟨#[], args, []⟩).memory :=
  laidMetH_of_parts3 (fuel := 8) (laid_met os args) (by kernel_rfl) (by kernel_rfl)

set_option maxRecDepth 20000 in
set_option maxHeartbeats 32000000 in
theorem walk (a0 : Option Addr) (len0 cap0 : Nat) (z0 : List Int) (w : World) (w0 : codeRow w a0 len0 cap0 z0) (hT : ∃ eu, Vr w eu ∧ Vh w ∧ Tb w) :
    Calls Tryz.prog 3 #[.slice a0 len0 cap0] w fun e w' => e = .returned (.bool true) ∧ Below w.heap.size w w' := by
  obtain ⟨eu, hVr, hVh, hTb⟩ := hT
  by_cases hbig : len0 ≤ 1048576
  · exact events_walk a0 len0 cap0 w (codeIn_of w0 hbig _ (Nat.le_refl _)) hbig eu hVr hVh hTb
  · have hm : len0 ≤ maxLen := row_le w0
    clear w0
    go_enter Tryz.func3, Tryz.ntmps3
    go_wp2_with (go_at_call 4; refine (lwBig_yes _ _ _ (by omega) hm _).mono ?_; rintro e w' ⟨rfl, hw⟩; rw [hw]; clear hw)
    go_ret
    exact ⟨rfl, Below.refl _ _⟩

set_option maxRecDepth 100000 in
theorem lifted (os : Os) (started : os.Started) (H : Type) (enc : TypeId × Value → H) :
    ReturnsInHanded {} Tryz.checked os 3 .any (fun w args => (Rows.fnEventTextsSpec.pre enc Tryz.prog Tryz.f3 [] false w args ∧ laidMetH Tryz.prog Rows.fnEventTextsRow.laid w) ∧ sizedMet enc Tryz.prog Tryz.f3 (OpenSpec.ofChange Rows.fnEventTextsSpec) false w args) (Rows.fnEventTextsSpec.post enc Tryz.prog Tryz.f3 false true false false) := by
  refine handed_shaped (C := Tryz.checked) (X := fun w => laidMetH Tryz.prog Rows.fnEventTextsRow.laid w) (fun _ _ hh h => h.of_heap hh) own started (by kernel_rfl) Tryz.func3
    (ChangeSpec.witness_shaped (enc := enc) (C := Tryz.checked) (os := os) (X := (fun w _ => laidMetH Tryz.prog Rows.fnEventTextsRow.laid w)) false (laidW os) #[.slice none 0 0] 8 (laid_os os) (World.shaped_of_ZipB (by kernel_rfl) (by kernel_rfl)) (by kernel_rfl) (by kernel_rfl) (by kernel_rfl) (door_met os _)) ?_
  intro W base args ds gs before hval0 hW hL hsh
  have hval : ∀ (j : Nat) t v, Tryz.f3.params[j]? = some t → args[j]? = some v → Value.okWide Tryz.prog W .any base t v := hval0
  have hW' := hW
  obtain ⟨p, q, hA0, hV0, rfl, hfz, hnd⟩ := hW
  have hA : DataW.TrodAll enc Tryz.prog W 0 (fun _ => true) true Tryz.f3.params.toList args.toList ds p := hA0
  have hV : DataW.TrodVars enc Tryz.prog W (fun _ => true) ["loop.example/g00155/impl.errUnreadable"] gs q := hV0
  have hgn : Tryz.prog.globalNamed "loop.example/g00155/impl.errUnreadable" = some 1 := by kernel_rfl
  have hgt : (Tryz.prog.globals[1]?).map (·.type) = some 44 := by kernel_rfl
  rw [Tryz.params3] at hA hval
  obtain ⟨v0, vs0, d0, ds0, p0, q0, hargs, rfl, rfl, h0, r0⟩ := trodAll_cons hA
  obtain ⟨rfl, rfl, rfl⟩ := trodAll_nil r0
  obtain rfl : args = #[v0] := by cases args; simp_all
  obtain ⟨au, hVr, hVh, hv1⟩ := vr_of hL hsh
  obtain ⟨rfl, rfl⟩ := hV.unique (vars_read1 enc hgn hgt Tryz.underlying44 hv1 trivial _)
  have k0 := h0
  have lt0 : ∀ x ∈ p0, x.block < W.heap.size := by obtain ⟨m, hm⟩ := k0; exact DataW.trod_lt m _ _ _ hm
  obtain ⟨a0, len0, cap0, rfl⟩ := okWide_slice Tryz.underlying22 (hval 0 22 v0 rfl rfl)
  obtain ⟨z0, w0⟩ : ∃ zs, codeRow W a0 len0 cap0 zs := by
    obtain ⟨fuel, hf⟩ := h0
    rcases open_ints Tryz.underlying22 Tryz.underlying5 (by kernel_rfl) hf with ⟨hcs, _⟩ | ⟨x, l, c, zs, hcs, _, hl, hm, hz, _, hcell, hwz⟩
    · simp [Value.cells] at hcs
      obtain ⟨rfl, rfl, rfl⟩ := hcs
      exact ⟨[], .inl ⟨rfl, rfl, rfl, rfl⟩⟩
    · simp [Value.cells] at hcs
      obtain ⟨rfl, rfl, rfl⟩ := hcs
      exact ⟨zs, .inr ⟨_, rfl, hl, hm, by simpa using hz, hcell, hwz⟩⟩
  clear hA0 hval0
  refine (walk a0 len0 cap0 z0 W w0 ⟨_, hVr, hVh, tb_of hL⟩).mono fun e W' ⟨he, bel⟩ => ?_
  subst he
  have hb1 : W'.heap[1]? = W.heap[1]? := bel.block 1 (World.block_lt_of_cell? W _ hVr.gu)
  have hv2 := hv1
  simp only [World.var?, hgn, Option.bind_some] at hv2
  rw [← hb1] at hv2
  have hv3 : W'.var? Tryz.prog "loop.example/g00155/impl.errUnreadable" = some #[.iface 174 (.pointer (some au))] := by simp only [World.var?, hgn, Option.bind_some]; exact hv2
  exact ⟨_, rfl, _, _, _, [], _, [.cell 1 0], hW', trodAll_mk1 (shut_bool Tryz.underlying4 _), (trodAll_cons_mk (Below.trod laidOut (by kernel_rfl) (of_decide_eq_true (by kernel_rfl)) k0 bel lt0) trodAll_mk0), vars_read1 enc hgn hgt Tryz.underlying44 hv3 trivial _, bel.frame _, fun h => by cases h⟩

theorem over : Rows.fnEventTextsRow.holds Tryz.pinned (OpenSpec.ofChange Rows.fnEventTextsSpec) :=
  OpenClaim.holds_of_wide 3 Tryz.f3 rfl rfl rfl rfl rfl rfl rfl ⟨rfl, rfl, rfl, rfl, rfl⟩ rfl rfl rfl rfl rfl (by kernel_rfl) Tryz.func3 (by kernel_rfl)
    (of_decide_eq_true (by kernel_rfl)) (by unfold Func.isWrapper; first | (rw [if_pos (by decide +kernel)]; kernel_rfl) | (rw [if_neg (by decide +kernel)]; exact ⟨rfl, rfl⟩))
    (fun os started H enc _ => lifted os started H enc)

theorem proved : Rows.FnEventTextsSaid := over
end Go.Proofs.YtoacnglcneliiaaGreatDoor.fnEventTexts

namespace Go.Proofs.YtoacnglcneliiaaGreatDoor
theorem fnEventTexts_holds : Rows.FnEventTextsCardSaid :=
  Claim7.holds_tied_plain_at .later [] [.data, .data, .data, .data, .handle, .sentinel, .sentinel, .sentinel, .pinned] true (true, "65ec5ca75ea56e5b2212d2b2551175566de77a56b3004e0677938ef4bb61efa6") true
    fnEventTexts.over (fun _ h => by cases h) (by kernel_rfl) (fun _ h => by cases h) fnEventTexts_row_tie rfl ⟨rfl, rfl⟩ (by kernel_rfl) rfl
    (fun f fn hf hfn => by
      obtain rfl : f = 3 := Option.some.inj ((show Tryz.prog.funcNamed "loop.example/g00155/laws.FnEventTexts" = some 3 by kernel_rfl).symm.trans hf) |>.symm
      obtain rfl : fn = Tryz.f3 := (Option.some.inj (Tryz.func3.symm.trans hfn)).symm
      exact ⟨by kernel_rfl, fun j t ht => by
        rw [Tryz.params3] at ht
        have hm : t ∈ [22] := by
          have := Array.mem_of_getElem? ht
          simp at this ⊢
          exact this
        have hall : ([22].all fun u => !Tryz.prog.wantsStandIn u) = true := by kernel_rfl
        exact (show Tryz.prog.wantsStandIn t = false by simpa using List.all_eq_true.1 hall t hm)⟩)
    (by kernel_rfl)
#print axioms fnEventTexts_holds
end Go.Proofs.YtoacnglcneliiaaGreatDoor
