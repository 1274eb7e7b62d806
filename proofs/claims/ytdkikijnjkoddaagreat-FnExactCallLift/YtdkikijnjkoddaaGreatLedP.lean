/-
  A ledger without a fault, in plain, and what leaves it so.
-/
import Derived.Test.YtdkikijnjkoddaaGreatPdf
namespace Go.Proofs.YtdkikijnjkoddaaGreat
open Go.RowKit Pl
set_option linter.unusedSimpArgs false
set_option linter.unusedVariables false

theorem first_zero {h : Hs} {nx : Int} {l : List Pe} {last : Int} (e : Hs.first h nx last l = 0) : ∀ (j : Nat) q, l[j]? = some q → Hs.pers h nx (if j = 0 then last else lastId l j) q = 0 := by
  induction l generalizing last with
  | nil => intro j q hq; simp at hq
  | cons p l ih =>
    have e' : (if Hs.pers h nx last p = 0 then Hs.first h nx p.id l else Hs.pers h nx last p) = 0 := e
    split at e'
    case isFalse c => exact absurd e' c
    case isTrue c =>
      intro j q hq
      cases j with
      | zero =>
        simp at hq
        subst hq
        rw [if_pos rfl]
        exact c
      | succ j =>
        have z := ih e' j q (by simpa using hq)
        rw [if_neg (by omega)]
        have el : (if j = 0 then p.id else lastId l j) = lastId (p :: l) (j + 1) := by
          cases j with
          | zero => simp [lastId]
          | succ j => simp [lastId]
        rw [← el]
        exact z
/-- A ledger without a fault. -/
structure LdOk (h : Hs) (x : Lg) : Prop where
  hf : h.fault = 0
  n1 : 1 ≤ x.nx
  n2 : x.nx ≤ 1000000000000000
  len : x.ps.length ≤ 60
  ps : ∀ (j : Nat) q, x.ps[j]? = some q → Hs.pers h x.nx (if j = 0 then 0 else lastId x.ps j) q = 0
  qu : (cnt 0 (-1) 0 x.ps : Int) ≤ h.qu
  ld : ∀ k, k < 6 → (cnt 1 ((k / 2 : Nat) : Int) ((k % 2 : Nat) : Int) x.ps : Int) ≤ h.ld
theorem led_zero_iff {h : Hs} {x : Lg} : Hs.led h x = 0 ↔ LdOk h x := by
  unfold Hs.led
  constructor
  · intro e
    split at e
    case isFalse c => exact absurd e c
    case isTrue c =>
      unfold Hs.ledC at e
      split at e
      case isFalse => cases e
      case isTrue r =>
        have rr := inB_iff.1 r
        split at e
        case isTrue => cases e
        case isFalse l =>
          split at e
          case isFalse f => exact absurd e f
          case isTrue f =>
            split at e
            case isTrue => cases e
            case isFalse q =>
              split at e
              case isTrue => cases e
              case isFalse o =>
                refine ⟨c, rr.1, rr.2, by omega, first_zero f, by omega, fun k hk => ?_⟩
                have o' : Hs.over h x.ps = false := by simpa using o
                unfold Hs.over at o'
                rw [List.any_eq_false] at o'
                have := o' k (List.mem_range.2 hk)
                simpa using this
  · rintro ⟨hf, n1, n2, len, ps, qu, ld⟩
    rw [if_pos hf]
    unfold Hs.ledC
    have o : Hs.over h x.ps = false := by
      unfold Hs.over
      rw [List.any_eq_false]
      intro k hk
      have := ld k (List.mem_range.1 hk)
      simpa using this
    rw [if_pos (inB_yes n1 n2), if_neg (by omega), if_pos (first_all (fun j q _ hq => ps j q hq)), if_neg (by omega), o]
    rfl
theorem persC_iff {h : Hs} {p : Pe} : Hs.persC h p = 0 ↔ Hs.callC h p.fr p.tw = 0 ∧ inP h p = true ∧ badAt p = false := by
  unfold Hs.persC
  constructor
  · intro e
    split at e
    case isFalse c => exact absurd e c
    case isTrue c =>
      split at e
      case isFalse => cases e
      case isTrue r =>
        split at e
        case isTrue => cases e
        case isFalse b => exact ⟨c, r, by simpa using b⟩
  · rintro ⟨a, b, c⟩
    rw [if_pos a, if_pos b, c]
    rfl
theorem pers_iff {h : Hs} {nx last : Int} {p : Pe} : Hs.pers h nx last p = 0 ↔ inB p.id 1 (nx - 1) = true ∧ last < p.id ∧ Hs.persC h p = 0 := by
  unfold Hs.pers
  constructor
  · intro e
    split at e
    case isFalse => cases e
    case isTrue c =>
      split at e
      case isTrue => cases e
      case isFalse d => exact ⟨c, by omega, e⟩
  · rintro ⟨a, b, c⟩
    rw [if_pos a, if_neg (by omega)]
    exact c
theorem inP_parts {h : Hs} {p : Pe} (e : inP h p = true) : (0 ≤ p.sh ∧ p.sh ≤ 2) ∧ (0 ≤ p.ca ∧ p.ca ≤ 1) ∧ (0 ≤ p.st ∧ p.st ≤ 4) ∧ 0 ≤ p.pl ∧ p.pl ≤ h.fl - 1 := by
  unfold inP at e
  simp only [Bool.and_eq_true, inB_iff] at e
  exact e
theorem callC_parts {h : Hs} {f t : Int} (e : Hs.callC h f t = 0) : (0 ≤ f ∧ f ≤ h.fl - 1) ∧ 0 ≤ t ∧ t ≤ h.fl - 1 := by
  unfold Hs.callC at e
  split at e
  case isFalse => cases e
  case isTrue c => exact ⟨inB_iff.1 c.1, inB_iff.1 c.2⟩
end Go.Proofs.YtdkikijnjkoddaaGreat
