/-
  Zones: what is asked of masks and zones, and what is told, in plain numbers.
-/
import Derived.Test.YtnpnlckdggakmaaZonP
namespace Go.Proofs.Ytnpnlckdggakmaa.Pl
set_option linter.unusedSimpArgs false
set_option linter.unusedVariables false

/-- A mask is right in a house. -/
def Hs.right (h : Hs) (m : Int) : Bool := inB m 0 (2 ^ h.fl.toNat - 1)
theorem right_nat {h : Hs} (f2 : h.fl ≤ 12) {m : Int} (hr : h.right m = true) : ∃ M : Nat, m = (M : Int) ∧ M < 2 ^ h.fl.toNat ∧ M < 4096 := by
  obtain ⟨a, b⟩ := inB_iff.1 hr
  have e : (2 : Int) ^ h.fl.toNat = ((2 ^ h.fl.toNat : Nat) : Int) := by simp
  rw [e] at b
  have l : 2 ^ h.fl.toNat ≤ 2 ^ 12 := Nat.pow_le_pow_right (by decide) (by omega)
  generalize 2 ^ h.fl.toNat = z at *
  exact ⟨m.toNat, by omega, by omega, by omega⟩
theorem fl_of {h : Hs} (e : h.fault = 0) : 2 ≤ h.fl ∧ h.fl ≤ 12 := by
  have o := Hs.ok_of (Hs.fault_zero e).1
  exact ⟨o.fl1, o.fl2⟩
def Hs.allF (h : Hs) (l : List Int) : Bool := l.all (fun x => inB x 0 (h.fl - 1))
theorem allF_no {h : Hs} {l : List Int} {i : Nat} {x : Int} (hx : l[i]? = some x) (hc : inB x 0 (h.fl - 1) = false) : h.allF l = false := by
  cases q : h.allF l with
  | false => rfl
  | true =>
    have := List.all_eq_true.1 q x (List.mem_of_getElem? hx)
    rw [hc] at this
    cases this
theorem allF_take {h : Hs} {l : List Int} {i : Nat} {x : Int} (hx : l[i]? = some x) : h.allF (l.take (i + 1)) = (h.allF (l.take i) && inB x 0 (h.fl - 1)) := by
  have hi : i < l.length := (List.getElem?_eq_some_iff.1 hx).1
  have e : l[i] = x := (List.getElem?_eq_some_iff.1 hx).2
  unfold Hs.allF
  rw [List.take_succ_eq_append_getElem hi, List.all_append, e]
  simp
theorem allF_bd {h : Hs} {l : List Int} (hl : h.allF l = true) : ∀ x ∈ l, 0 ≤ x ∧ x < h.fl.toNat := by
  intro x hx
  obtain ⟨a, b⟩ := inB_iff.1 (List.all_eq_true.1 hl x hx)
  exact ⟨a, by omega⟩
theorem maskN_take {l : List Int} {i : Nat} {x : Int} (hx : l[i]? = some x) : maskN (l.take (i + 1)) = maskN (l.take i) ||| 2 ^ x.toNat := by
  have hi : i < l.length := (List.getElem?_eq_some_iff.1 hx).1
  have e : l[i] = x := (List.getElem?_eq_some_iff.1 hx).2
  rw [List.take_succ_eq_append_getElem hi, maskN_snoc, e]
def Hs.mskK (h : Hs) (l : List Int) : Int := if h.fault = 0 then (if 40 < l.length then 2 else if h.allF l = true then 0 else 3) else h.fault
def Hs.mskV (h : Hs) (l : List Int) : Int := if h.mskK l = 0 then (maskN l : Int) else 0
def Hs.flsK (h : Hs) (m : Int) : Int := if h.fault = 0 then (if h.right m = true then 0 else 3) else h.fault
def Hs.flsL (h : Hs) (m : Int) : List Int := if h.flsK m = 0 then fls 12 m.toNat else []
theorem flsL_len (h : Hs) (m : Int) : (h.flsL m).length ≤ 12 := by
  unfold Hs.flsL
  split
  · exact fls_len _ _
  · simp
def Hs.nrK (h : Hs) (m f : Int) : Int := if h.fault = 0 then (if h.right m = true ∧ inB f 0 (h.fl - 1) = true then (if m = 0 then 4 else 0) else 3) else h.fault
def Hs.nrV (h : Hs) (m f : Int) : Int := if h.nrK m f = 0 then nearL (fls 12 m.toNat) f (-12) else 0
def Hs.allR (h : Hs) (l : List Int) : Bool := l.all (fun x => h.right x)
theorem allR_no {h : Hs} {l : List Int} {i : Nat} {x : Int} (hx : l[i]? = some x) (hc : h.right x = false) : h.allR l = false := by
  cases q : h.allR l with
  | false => rfl
  | true =>
    have := List.all_eq_true.1 q x (List.mem_of_getElem? hx)
    rw [hc] at this
    cases this
theorem allR_take {h : Hs} {l : List Int} {i : Nat} {x : Int} (hx : l[i]? = some x) : h.allR (l.take (i + 1)) = (h.allR (l.take i) && h.right x) := by
  have hi : i < l.length := (List.getElem?_eq_some_iff.1 hx).1
  have e : l[i] = x := (List.getElem?_eq_some_iff.1 hx).2
  unfold Hs.allR
  rw [List.take_succ_eq_append_getElem hi, List.all_append, e]
  simp
def hasI (l : List Int) (v : Int) : Bool := l.any (fun x => x == v)
theorem hasI_take {l : List Int} {i : Nat} {x v : Int} (hx : l[i]? = some x) : hasI (l.take (i + 1)) v = (hasI (l.take i) v || x == v) := by
  have hi : i < l.length := (List.getElem?_eq_some_iff.1 hx).1
  have e : l[i] = x := (List.getElem?_eq_some_iff.1 hx).2
  unfold hasI
  rw [List.take_succ_eq_append_getElem hi, List.any_append, e]
  simp
theorem hasI_yes {l : List Int} {i : Nat} {x v : Int} (hx : l[i]? = some x) (h : x = v) : hasI l v = true := List.any_eq_true.2 ⟨x, List.mem_of_getElem? hx, by simp [h]⟩
def Hs.znK (h : Hs) (l : List Int) : Int := if h.fault = 0 then (if 1 ≤ l.length ∧ l.length ≤ 6 then (if h.allR l = true then (if hasI l 0 = true then 1 else 0) else 3) else 2) else h.fault
theorem znK_zero {h : Hs} {l : List Int} (e : h.znK l = 0) : h.fault = 0 ∧ 1 ≤ l.length ∧ l.length ≤ 6 ∧ h.allR l = true ∧ hasI l 0 = false := by
  unfold Hs.znK at e
  split at e
  · rename_i hf
    split at e
    · rename_i hn
      split at e
      · rename_i hr
        split at e
        · cases e
        · rename_i hh
          exact ⟨hf, hn.1, hn.2, hr, by simpa using hh⟩
      · cases e
    · cases e
  · rename_i hf
    exact absurd e hf
/-- Zones that are right, as masks. -/
def natL (l : List Int) : List Nat := l.map Int.toNat
theorem natL_get {l : List Int} {i : Nat} {x : Int} (hx : l[i]? = some x) : (natL l)[i]? = some x.toNat := by unfold natL; rw [List.getElem?_map, hx]; rfl
theorem zone_nat {h : Hs} {l : List Int} (e : h.znK l = 0) {x : Int} (hx : x ∈ l) : ∃ M : Nat, x = (M : Int) ∧ M < 2 ^ h.fl.toNat ∧ M < 4096 ∧ M ≠ 0 := by
  obtain ⟨hf, _, _, hr, hz⟩ := znK_zero e
  obtain ⟨M, e1, e2, e3⟩ := right_nat (fl_of hf).2 (List.all_eq_true.1 hr x hx)
  refine ⟨M, e1, e2, e3, ?_⟩
  rintro rfl
  have : hasI l 0 = true := List.any_eq_true.2 ⟨x, hx, by simp [e1]⟩
  rw [hz] at this
  cases this
end Go.Proofs.Ytnpnlckdggakmaa.Pl
