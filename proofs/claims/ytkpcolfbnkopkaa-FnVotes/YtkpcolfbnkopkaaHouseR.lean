/-
  The model's house: are its numbers within their bounds?
-/
import Derived.Test.YtkpcolfbnkopkaaFnd
import Derived.BigGuardPart
namespace Go.Proofs.Ytkpcolfbnkopkaa
open Go.RowKit Pl

/-- The range, as the walk spells it. -/
def rangeW (h : Hs) : Bool :=
  inB h.fl 2 12 && (inB h.gp 1 20000 && (inB h.rf 1 20000 && (inB h.ln 1 20000 && (inB h.sp 1 500 && (inB h.pu 1 h.sp && (inB h.br h.pu 500 && (inB h.dr 0 (wrap64 (h.pu - 1)) && (inB h.lv 0 50 && (inB h.dO 1 20 && (inB h.ld 1 20 && inB h.qu 1 40))))))))))
theorem rangeW_eq (h : Hs) : rangeW h = h.rangeB := by
  unfold rangeW Hs.rangeB
  cases h4 : inB h.sp 1 500 with
  | false => simp
  | true =>
    cases h5 : inB h.pu 1 h.sp with
    | false => simp
    | true =>
      have b4 := inB_iff.1 h4
      have b5 := inB_iff.1 h5
      rw [IntWalk.wrap64_in (h.pu - 1) (by omega)]
theorem ret_bool {a b : Bool} (h : a = b) : Ending.returned (.bool a) = .returned (.bool b) := by rw [h]

end Go.Proofs.Ytkpcolfbnkopkaa
