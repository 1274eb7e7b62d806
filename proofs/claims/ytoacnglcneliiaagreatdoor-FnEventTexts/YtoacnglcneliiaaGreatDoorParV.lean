/-
  Events without fault can be written and read again; a text of a list.
-/
import Derived.Test.YtoacnglcneliiaaGreatDoorParT
import Derived.Test.YtoacnglcneliiaaGreatDoorFmtI
namespace Go.Proofs.YtoacnglcneliiaaGreatDoor
open Go.RowKit Go.Shelf Pl
set_option linter.unusedSimpArgs false
set_option linter.unusedVariables false

theorem evC_okE {h : Hs} {e : Ev} (hf : h.fault = 0) (k : Hs.evC h e = 0) : OkE e := by
  have oo := Hs.ok_of (Hs.fault_zero hf).1
  have f1 := oo.fl1
  have f2 := oo.fl2
  have q := evC_kd k
  unfold Hs.evC at k
  split at k
  case isFalse => omega
  case isTrue a =>
    split at k
    case isFalse => omega
    case isTrue b =>
      split at k
      case isFalse => omega
      case isTrue c =>
        have t3 := inB_iff.1 c
        split at k
        case isTrue d =>
          have d1 : e.kd = 1 := by simpa using d
          unfold Hs.callC at k
          split at k
          case isTrue u =>
            have t5 := inB_iff.1 u.2
            exact ⟨q.1, q.2.1, q.2.2.1, by omega, t3.1, by omega, t5.1, by omega, fun z => absurd d1 z, fun z => by omega⟩
          case isFalse => omega
        case isFalse d =>
          have d1 : e.kd ≠ 1 := by simpa using d
          split at k
          case isTrue => omega
          case isFalse u =>
            have u1 : e.tw = 0 ∧ (e.kd = 5 → e.fl = 0) := by simpa using u
            exact ⟨q.1, q.2.1, q.2.2.1, by omega, t3.1, by omega, by omega, by omega, fun _ => u1.1, u1.2⟩
theorem tr_okE {h : Hs} {l : List Ev} (hz : Hs.tr h l = 0) : ∀ e ∈ l, OkE e := by
  intro x hx
  have hf := tr_house hz
  unfold Hs.tr at hz
  rw [if_pos hf] at hz
  unfold Hs.trC at hz
  split at hz
  case isTrue => omega
  case isFalse hn =>
    obtain ⟨j, hj, ex⟩ := List.getElem_of_mem hx
    have ex2 : l[j]? = some x := by rw [List.getElem?_eq_getElem hj, ex]
    have c := trG_zero hz j hj
    rw [code_at ex2] at c
    by_cases z : Hs.evC h x = 0
    · exact evC_okE hf z
    · rw [if_neg z] at c; exact absurd c z
theorem tx_ne {l : List Ev} (h : l ≠ []) : neB (evTx l) = true := by
  cases l with
  | nil => exact absurd rfl h
  | cons e l =>
    have q := congrArg List.length (tx_data (e :: l) ⟨#[]⟩)
    unfold neB
    refine bne_iff_ne.2 fun z => ?_
    have z2 : ((e :: l).foldl (fun a e => a ++ evLn e) (⟨#[]⟩ : ByteArray)).data.toList.length = 0 := by
      have : (evTx (e :: l)).data.size = 0 := z
      simpa [evTx] using this
    rw [z2] at q
    simp at q
/-- How the text of events tells what may come of it. -/
theorem fm_size (h : Hs) (l : List Ev) : (Hs.fmE h l).size ≤ 1048576 := by
  unfold Hs.fmE
  split
  · rename_i t
    have a := tr_all t
    have b := evTx_take (fun e he => (a.2 e he).1) a.1 l.length
    rw [List.take_length] at b
    omega
  · decide
theorem fm_none {h : Hs} {l : List Ev} (hn : neB (Hs.fmE h l) = true) : Hs.tr h l = 0 ∧ Hs.fmE h l = evTx l := by
  unfold Hs.fmE at hn ⊢
  by_cases t : Hs.tr h l = 0
  · rw [if_pos t]; exact ⟨t, rfl⟩
  · rw [if_neg t] at hn; cases hn
end Go.Proofs.YtoacnglcneliiaaGreatDoor
