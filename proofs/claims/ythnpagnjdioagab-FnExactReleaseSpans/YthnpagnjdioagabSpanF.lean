/-
  The model's spans: how they grow; ExtendSpans.
-/
import Derived.Test.YthnpagnjdioagabSpanA
import Derived.Deep.DeepCutAuto
namespace Go.Proofs.Ythnpagnjdioagab
open Go.RowKit Pl
set_option linter.unusedSimpArgs false
set_option linter.unusedVariables false

theorem spans_zero {h : Hs} {x : Ss} (e : Hs.spans h x = 0) : h.fault = 0 ∧ -1 ≤ x.l.lo ∧ x.l.lo ≤ x.l.hi ∧ x.l.hi < x.u.lo ∧ x.u.lo ≤ x.u.hi ∧ x.u.hi ≤ h.fl := by
  unfold Hs.spans at e
  by_cases hf : h.fault = 0
  · rw [if_pos hf] at e
    refine ⟨hf, ?_⟩
    unfold Hs.spanC at e
    by_cases hr : Hs.spanR h x = true
    · rw [if_pos hr] at e
      by_cases hb : spanB x = true
      · rw [if_pos hb] at e; omega
      · unfold Hs.spanR at hr
        unfold spanB at hb
        simp only [Bool.and_eq_true, inB_iff] at hr
        simp only [Bool.or_eq_true, decide_eq_true_eq, not_or] at hb
        omega
    · rw [if_neg hr] at e; omega
  · rw [if_neg hf] at e; exact absurd e hf
end Go.Proofs.Ythnpagnjdioagab
