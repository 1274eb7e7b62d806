/-
  Zones: how many have a floor, told by a map (plain).
-/
import Derived.Test.YtnpnlckdggakmaaZonQ
namespace Go.Proofs.Ytnpnlckdggakmaa.Pl
set_option linter.unusedSimpArgs false
set_option linter.unusedVariables false

/-- What the zones of a list, each once, add to a floor's count. -/
def tallyN (zs : List Nat) (f : Nat) (ks : List Nat) : Nat := (ks.map (fun z => if z.testBit f = true then zs.count z else 0)).sum
theorem tally_snoc (zs : List Nat) (f : Nat) (ks : List Nat) (k : Nat) : tallyN zs f (ks ++ [k]) = tallyN zs f ks + (if k.testBit f = true then zs.count k else 0) := by
  unfold tallyN
  rw [List.map_append, List.sum_append]
  simp
theorem tally_cons (z : Nat) (zs : List Nat) (f : Nat) : ∀ ks : List Nat, ks.Nodup → tallyN (z :: zs) f ks = tallyN zs f ks + (if z ∈ ks ∧ z.testBit f = true then 1 else 0)
  | [], _ => by simp [tallyN]
  | k :: ks, h => by
    obtain ⟨h1, h2⟩ := List.nodup_cons.1 h
    have ih := tally_cons z zs f ks h2
    have e : ∀ ys : List Nat, tallyN ys f (k :: ks) = (if k.testBit f = true then ys.count k else 0) + tallyN ys f ks := fun ys => rfl
    rw [e, e, ih]
    by_cases hz : z = k
    · subst hz
      have n : ¬ (z ∈ ks ∧ z.testBit f = true) := fun c => h1 c.1
      rw [if_neg n]
      by_cases hb : z.testBit f = true
      · rw [if_pos hb, if_pos hb, if_pos ⟨List.mem_cons_self .., hb⟩, List.count_cons_self]
        omega
      · rw [if_neg hb, if_neg hb, if_neg (fun c => hb c.2)]; omega
    · have c : (z :: zs).count k = zs.count k := List.count_cons_of_ne (fun q => hz q)
      rw [c]
      have m : (z ∈ k :: ks ∧ z.testBit f = true) ↔ (z ∈ ks ∧ z.testBit f = true) := by
        rw [List.mem_cons]
        constructor
        · rintro ⟨a | a, b⟩
          · exact absurd a hz
          · exact ⟨a, b⟩
        · rintro ⟨a, b⟩
          exact ⟨Or.inr a, b⟩
      by_cases q : z ∈ ks ∧ z.testBit f = true
      · rw [if_pos q, if_pos (m.2 q)]; omega
      · rw [if_neg q, if_neg (fun c => q (m.1 c))]; omega
/-- Each zone that there is, once, whatever the order: how many have the floor. -/
theorem tally_all (f : Nat) : ∀ (zs ks : List Nat), ks.Nodup → (∀ z ∈ zs, z ∈ ks) → tallyN zs f ks = cntZ zs f
  | [], ks, _, _ => by
    unfold tallyN cntZ
    induction ks with
    | nil => rfl
    | cons k ks ih =>
      rw [List.map_cons, List.sum_cons, ih (by simp_all) (by simp)]
      simp
  | z :: zs, ks, h, hm => by
    rw [tally_cons z zs f ks h, tally_all f zs ks h (fun y hy => hm y (List.mem_cons_of_mem _ hy))]
    unfold cntZ
    rw [List.countP_cons]
    congr 1
    by_cases hb : z.testBit f = true
    · rw [if_pos ⟨hm z (List.mem_cons_self ..), hb⟩, if_pos hb]
    · rw [if_neg (fun c => hb c.2), if_neg hb]
end Go.Proofs.Ytnpnlckdggakmaa.Pl
