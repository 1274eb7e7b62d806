/-
  A set of floors as a key of a map.
-/
import Derived.Test.YtnpnlckdggakmaaZonC
import Derived.Maps.RangeWalk
import Derived.DeepKeys4
namespace Go.Proofs.Ytnpnlckdggakmaa
open Go.RowKit Pl Go.Maps
set_option linter.unusedSimpArgs false
set_option linter.unusedVariables false

/-- A set's cells, told as a key. -/
def litsF (m : Nat) : List Lit := (List.range 12).map (fun f : Nat => .int .u8 (bN m f))
def keyF (m : Nat) : Lit := .string (keyBytes (litsF m))
theorem undU8 : Try.prog.underlying 5 = some (.int .u8) := by kernel_rfl
theorem undZM : Try.prog.underlying 82 = some (.map 61 2) := by kernel_rfl
theorem laidOutF : laidOutB Try.prog = true := by kernel_rfl
theorem rowF : (61 : TypeId) < Try.prog.types.size := of_decide_eq_true (by kernel_rfl)
theorem wideF : (match Try.prog.underlying 61 with | some (.array _ _) | some (.struct _) => true | _ => false) = true := by kernel_rfl
theorem lawF : Keyed Try.prog 61 := Keyed.of_law (deep_law_laid laidOutF (m := 3) (by omega) rowF (by kernel_rfl) wideF)
theorem keyTyF : Try.prog.keyType 61 = true := by kernel_rfl
theorem cellsF : Try.prog.cellsOf 61 = 12 := by kernel_rfl
theorem cellsU : Try.prog.cellsOf 5 = 1 := by kernel_rfl
theorem mapM_some {α β : Type} {f : α → Option β} {g : α → β} : ∀ (l : List α), (∀ x ∈ l, f x = some (g x)) → l.mapM f = some (l.map g)
  | [], _ => rfl
  | x :: l, h => by
    rw [List.mapM_cons, h x (List.mem_cons_self ..), mapM_some l (fun y hy => h y (List.mem_cons_of_mem _ hy))]
    rfl
theorem bN_wf (m f : Nat) : (Lit.int .u8 (bN m f)).wf = true := by
  unfold bN
  split <;> rfl
theorem lits_F (k m : Nat) : Try.prog.keyLits (k + 1 + 1) 61 (bvs m) = some (litsF m) := by
  have e : Try.prog.keyLits (k + 1 + 1) 61 (bvs m) = ((List.range 12).mapM fun i => Try.prog.keyLits (k + 1) 5 (((bvs m).drop (i * Try.prog.cellsOf 5)).take (Try.prog.cellsOf 5))).map List.flatten := by
    generalize hR : Option.map List.flatten ((List.range 12).mapM fun i => Try.prog.keyLits (k + 1) 5 (((bvs m).drop (i * Try.prog.cellsOf 5)).take (Try.prog.cellsOf 5))) = R
    rw [Program.keyLits.eq_def]
    dsimp only
    simp only [undFS]
    rw [if_pos (by rw [bvs_len, cellsF])]
    exact hR
  rw [e, mapM_some (g := fun i => [Lit.int .u8 (bN m i)])]
  · unfold litsF
    show some (List.flatten _) = some _
    congr 1
  · intro i hi
    have hi' : i < 12 := List.mem_range.1 hi
    have c : ((bvs m).drop (i * Try.prog.cellsOf 5)).take (Try.prog.cellsOf 5) = [.int .u8 (bN m i)] := by
      rw [cellsU, Nat.mul_one, List.drop_eq_getElem_cons (by rw [bvs_len]; exact hi')]
      have z := bvs_get (m := m) hi'
      rw [List.getElem?_eq_getElem (by rw [bvs_len]; exact hi')] at z
      rw [Option.some.inj z]
      rfl
    rw [c]
    simp [Program.keyLits, undU8, bN_wf]
theorem keyOf_F (m : Nat) : keyOf Try.prog 61 (.agg (bvs m).toArray) = some (keyF m) := by
  obtain ⟨k, hk⟩ : ∃ k, Try.prog.types.size = k + 1 := ⟨_, (Nat.succ_pred_eq_of_pos (Nat.lt_of_le_of_lt (Nat.zero_le _) rowF)).symm⟩
  have hl : (Value.agg (bvs m).toArray).cells.toList = bvs m := rfl
  have hf : (Value.agg (bvs m).toArray).formed Try.prog 61 = true := by
    unfold Value.formed
    rw [undFS, cellsF]
    simp [bvs_len]
  unfold keyOf
  rw [undFS]
  dsimp only
  rw [if_pos (by rw [keyTyF, hf]; rfl), hk, hl, lits_F k m]
  rfl
end Go.Proofs.Ytnpnlckdggakmaa
