/-
  Zones: which serve a call, in plain numbers.
-/
import Derived.Test.YtnpnlckdggakmaaZonQ
import Derived.Test.YtnpnlckdggakmaaFnd
namespace Go.Proofs.Ytnpnlckdggakmaa.Pl
set_option linter.unusedSimpArgs false
set_option linter.unusedVariables false

def both (x : Int) (f t : Nat) : Bool := x.toNat.testBit f && x.toNat.testBit t
/-- The places of the first zones that have both. -/
def plP (l : List Int) (f t k : Nat) : List Int := ((List.range k).filter (fun i => both (l.getD i 0) f t)).map (fun i : Nat => (i : Int))
theorem plP_succ {l : List Int} {k : Nat} {x : Int} (f t : Nat) (hx : l[k]? = some x) : plP l f t (k + 1) = plP l f t k ++ (if both x f t = true then [(k : Int)] else []) := by
  unfold plP
  have e : l.getD k 0 = x := by rw [List.getD_eq_getElem?_getD, hx]; rfl
  rw [List.range_succ, List.filter_append, List.map_append]
  congr 1
  have e2 : both (l.getD k 0) f t = both x f t := by rw [e]
  cases hb : both x f t with
  | false => rw [List.filter_cons_of_neg (by rw [e2, hb]; decide)]; rfl
  | true => rw [List.filter_cons_of_pos (by rw [e2, hb])]; rfl
theorem plP_len (l : List Int) (f t k : Nat) : (plP l f t k).length ≤ k := by
  unfold plP
  rw [List.length_map]
  have := List.length_filter_le (fun i => both (l.getD i 0) f t) (List.range k)
  rw [List.length_range] at this
  exact this
def Hs.svK (h : Hs) (l : List Int) (f t : Int) : Int := if h.znK l = 0 then Hs.call h f t else h.znK l
def Hs.svL (h : Hs) (l : List Int) (f t : Int) : List Int := if h.svK l f t = 0 then plP l f.toNat t.toNat l.length else []
theorem call_zero {h : Hs} {f t : Int} (e : Hs.call h f t = 0) : ∃ a b : Nat, f = (a : Int) ∧ t = (b : Int) ∧ a < 12 ∧ b < 12 := by
  unfold Hs.call at e
  split at e
  · rename_i hf
    have o := fl_of hf
    unfold Hs.callC at e
    split at e
    · rename_i c
      obtain ⟨a1, a2⟩ := inB_iff.1 c.1
      obtain ⟨b1, b2⟩ := inB_iff.1 c.2
      exact ⟨f.toNat, t.toNat, by omega, by omega, by omega, by omega⟩
    · cases e
  · rename_i hf
    exact absurd e hf
theorem svL_len (h : Hs) (l : List Int) (f t : Int) (hl : l.length ≤ 1048576) : (h.svL l f t).length ≤ 1048576 := by
  unfold Hs.svL
  split
  · exact Nat.le_trans (plP_len _ _ _ _) hl
  · simp
end Go.Proofs.Ytnpnlckdggakmaa.Pl
