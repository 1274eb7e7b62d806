/-
  Zones: where the cars wait, in plain numbers.
-/
import Derived.Test.YtnpnlckdggakmaaZonF
import Derived.Test.YtnpnlckdggakmaaZonQ
namespace Go.Proofs.Ytnpnlckdggakmaa
open Go.RowKit Pl
set_option linter.unusedSimpArgs false
set_option linter.unusedVariables false

/-- Where the cars of the first zones wait. -/
def pkP (l : List Int) : Nat → List Int
  | 0 => []
  | k + 1 => pkP l k ++ [parkF (l.getD k 0).toNat (maskN (pkP l k))]
theorem pkP_len (l : List Int) : ∀ k, (pkP l k).length = k
  | 0 => rfl
  | k + 1 => by
    show (pkP l k ++ _).length = _
    rw [List.length_append, pkP_len l k]
    rfl
theorem pkP_succ {l : List Int} {k M : Nat} (hx : l[k]? = some (M : Int)) : pkP l (k + 1) = pkP l k ++ [parkF M (maskN (pkP l k))] := by
  show pkP l k ++ [parkF (l.getD k 0).toNat (maskN (pkP l k))] = _
  rw [List.getD_eq_getElem?_getD, hx]
  rfl
theorem freeL_mem (t : Nat) (l : List Int) (d : Int) : freeL t l d = d ∨ freeL t l d ∈ l := by
  unfold freeL
  cases h : l.find? (fun x => !t.testBit x.toNat) with
  | none => exact Or.inl rfl
  | some x => exact Or.inr (List.mem_of_find?_eq_some h)
theorem parkF_mem {M : Nat} (T : Nat) (hm : M < 4096) (h0 : M ≠ 0) : parkF M T ∈ fls 12 M := by
  have hne : fls 12 M ≠ [] := fun e => h0 ((fls_nil hm).1 e)
  unfold parkF
  split
  · rcases freeL_mem T (fls 12 M) (midL (fls 12 M)) with e | e
    · rw [e]; exact midL_mem hne
    · exact e
  · exact midL_mem hne
theorem pkP_bd {h : Hs} {l : List Int} (hz : h.znK l = 0) : ∀ k, k ≤ l.length → ∀ x ∈ pkP l k, 0 ≤ x ∧ x < 12
  | 0, _, x, hx => by cases hx
  | k + 1, hk, x, hx => by
    have hlt : k < l.length := by omega
    have he : l[k]? = some l[k] := List.getElem?_eq_getElem hlt
    obtain ⟨M, hM, -, hM2, hM0⟩ := zone_nat hz (List.mem_of_getElem? he)
    rw [hM] at he
    rw [pkP_succ he] at hx
    rcases List.mem_append.1 hx with c | c
    · exact pkP_bd hz k (by omega) x c
    · rw [List.mem_singleton.1 c]
      obtain ⟨a, b⟩ := fls_bd (parkF_mem (maskN (pkP l k)) hM2 hM0)
      exact ⟨a, by omega⟩
theorem maskN_pk {h : Hs} {l : List Int} (hz : h.znK l = 0) {k : Nat} (hk : k ≤ l.length) : maskN (pkP l k) < 4096 := by
  have z := maskN_lt (l := pkP l k) (n := 12) (fun x hx => by have := pkP_bd hz k hk x hx; omega)
  omega
theorem hasI_mask {l : List Int} (hl : ∀ x ∈ l, 0 ≤ x) {x : Int} (hx : 0 ≤ x) : hasI l x = (maskN l).testBit x.toNat := by
  have e := mask_bit (l := l) x.toNat hl
  rw [Int.toNat_of_nonneg hx] at e
  have e2 : hasI l x = true ↔ x ∈ l := by
    unfold hasI
    rw [List.any_eq_true]
    constructor
    · rintro ⟨y, hy, hyx⟩
      have : y = x := by simpa using hyx
      rw [← this]; exact hy
    · intro hy
      exact ⟨x, hy, by simp⟩
  cases h1 : hasI l x <;> cases h2 : (maskN l).testBit x.toNat <;> simp_all
def Hs.pkL (h : Hs) (l : List Int) : List Int := if h.znK l = 0 then pkP l l.length else []
theorem pkL_len (h : Hs) (l : List Int) (hl : l.length ≤ 1048576) : (Hs.pkL h l).length ≤ 1048576 := by
  unfold Hs.pkL
  split
  · rw [pkP_len]; exact hl
  · simp
theorem freeL_cons (t : Nat) (x : Int) (r : List Int) (d : Int) : freeL t (x :: r) d = if t.testBit x.toNat = true then freeL t r d else x := by
  unfold freeL
  rw [List.find?_cons]
  cases h : t.testBit x.toNat <;> simp
end Go.Proofs.Ytnpnlckdggakmaa
