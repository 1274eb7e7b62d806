/-
  What was seen: the ids that called, in order (plain).
-/
import Derived.Test.YtdklllfafafmeaaEvQ
namespace Go.Proofs.Ytdklllfafafmeaa
open Go.RowKit Pl Go.Maps
set_option linter.unusedSimpArgs false
set_option linter.unusedVariables false

/-- Where x goes among the first k of l, from the end on down. -/
def posI (l : List Int) (x : Int) : Nat → Nat
  | 0 => 0
  | k + 1 => if x < l.getD k 0 then posI l x k else k + 1
theorem posI_le (l : List Int) (x : Int) : ∀ k, posI l x k ≤ k
  | 0 => Nat.le_refl _
  | k + 1 => by
    unfold posI
    split
    · have := posI_le l x k; omega
    · exact Nat.le_refl _
theorem posI_above (l : List Int) (x : Int) : ∀ k j, posI l x k ≤ j → j < k → x < l.getD j 0
  | 0, j, _, h => by omega
  | k + 1, j, h1, h2 => by
    unfold posI at h1
    split at h1
    · rename_i c
      by_cases e : j = k
      · subst e; exact c
      · exact posI_above l x k j h1 (by omega)
    · omega
theorem posI_below (l : List Int) (x : Int) : ∀ k, posI l x k = 0 ∨ l.getD (posI l x k - 1) 0 ≤ x
  | 0 => Or.inl rfl
  | k + 1 => by
    unfold posI
    split
    · exact posI_below l x k
    · rename_i c
      right
      rw [Nat.add_sub_cancel]
      omega
def insI (x : Int) (l : List Int) : List Int := l.take (posI l x l.length) ++ x :: l.drop (posI l x l.length)
theorem insI_perm (x : Int) (l : List Int) : (insI x l).Perm (x :: l) := by
  unfold insI
  refine List.perm_middle.trans ?_
  rw [List.take_append_drop]
theorem insI_len (x : Int) (l : List Int) : (insI x l).length = l.length + 1 := (insI_perm x l).length_eq
theorem getD_some {l : List Int} {j : Nat} (h : j < l.length) : l.getD j 0 = l[j] := by
  rw [List.getD_eq_getElem?_getD, List.getElem?_eq_getElem h]
  rfl
theorem insI_sorted {x : Int} {l : List Int} (h : l.Pairwise (· ≤ ·)) : (insI x l).Pairwise (· ≤ ·) := by
  unfold insI
  have hp := posI_le l x l.length
  obtain ⟨p, he⟩ : ∃ p, posI l x l.length = p := ⟨_, rfl⟩
  have ha : ∀ j, p ≤ j → j < l.length → x < l.getD j 0 := fun j h1 h2 => posI_above l x l.length j (by omega) h2
  have hb : p = 0 ∨ l.getD (p - 1) 0 ≤ x := by rw [← he]; exact posI_below l x l.length
  rw [he] at hp ⊢
  have up : ∀ y ∈ l.drop p, x ≤ y := by
    intro y hy
    obtain ⟨j, hj, e⟩ := List.mem_iff_getElem.1 hy
    rw [List.getElem_drop] at e
    have hj' : p + j < l.length := by rw [List.length_drop] at hj; omega
    have := ha (p + j) (by omega) hj'
    rw [getD_some hj', e] at this
    omega
  have dn : ∀ y ∈ l.take p, y ≤ x := by
    intro y hy
    obtain ⟨j, hj, e⟩ := List.mem_iff_getElem.1 hy
    rw [List.getElem_take] at e
    have hj' : j < p := by rw [List.length_take] at hj; omega
    rcases hb with h0 | hb
    · omega
    · rw [getD_some (by omega)] at hb
      have q : l[j] ≤ l[p - 1] := by
        by_cases c : j = p - 1
        · subst c; exact Int.le_refl _
        · exact List.pairwise_iff_getElem.1 h j (p - 1) (by omega) (by omega) (by omega)
      omega
  refine List.pairwise_append.2 ⟨h.sublist (List.take_sublist _ _), List.pairwise_cons.2 ⟨up, h.sublist (List.drop_sublist _ _)⟩, ?_⟩
  intro a ha' b hb'
  rcases List.mem_cons.1 hb' with e | hb'
  · subst e; exact dn a ha'
  · have := dn a ha'; have := up b hb'; omega
/-- The ids of the events of a kind, in order. -/
def idsM (kd : Int) (l : List Ev) : List Int := l.foldl (fun o e => if e.kd = kd then insI e.id o else o) []
def idsP (kd : Int) (l : List Ev) : List Int := (l.filter (fun e => e.kd == kd)).map (fun e => e.id)
theorem idsM_snoc {kd : Int} {l : List Ev} {i : Nat} {e : Ev} (h : l[i]? = some e) : idsM kd (l.take (i + 1)) = if e.kd = kd then insI e.id (idsM kd (l.take i)) else idsM kd (l.take i) := by
  have hi : i < l.length := (List.getElem?_eq_some_iff.1 h).1
  have q : l[i] = e := (List.getElem?_eq_some_iff.1 h).2
  unfold idsM
  rw [List.take_succ_eq_append_getElem hi, List.foldl_append, q]
  rfl
theorem idsP_snoc {kd : Int} {l : List Ev} {i : Nat} {e : Ev} (h : l[i]? = some e) : idsP kd (l.take (i + 1)) = idsP kd (l.take i) ++ (if e.kd = kd then [e.id] else []) := by
  have hi : i < l.length := (List.getElem?_eq_some_iff.1 h).1
  have q : l[i] = e := (List.getElem?_eq_some_iff.1 h).2
  unfold idsP
  rw [List.take_succ_eq_append_getElem hi, List.filter_append, List.map_append, q]
  by_cases c : e.kd = kd
  · rw [if_pos c]; simp [c]
  · rw [if_neg c]; simp [c]
theorem idsM_at {kd : Int} {l : List Ev} : ∀ i, i ≤ l.length → (idsM kd (l.take i)).Pairwise (· ≤ ·) ∧ (idsM kd (l.take i)).Perm (idsP kd (l.take i)) ∧ (idsM kd (l.take i)).length ≤ i
  | 0, _ => by simp [idsM, idsP]
  | i + 1, hi => by
    obtain ⟨a, b, c⟩ := idsM_at (kd := kd) (l := l) i (by omega)
    obtain ⟨e, he⟩ : ∃ e, l[i]? = some e := ⟨_, List.getElem?_eq_getElem (by omega)⟩
    rw [idsM_snoc he, idsP_snoc he]
    by_cases q : e.kd = kd
    · rw [if_pos q, if_pos q]
      refine ⟨insI_sorted a, ?_, by rw [insI_len]; omega⟩
      refine (insI_perm _ _).trans ?_
      exact ((List.Perm.cons _ b).trans (List.perm_append_comm (l₁ := [e.id]) (l₂ := idsP kd (l.take i))))
    · rw [if_neg q, if_neg q, List.append_nil]
      exact ⟨a, b, by omega⟩
theorem sorted_one {l m : List Int} (h1 : l.Pairwise (· ≤ ·)) (h2 : m.Pairwise (· ≤ ·)) (p : l.Perm m) : l = m :=
  List.Perm.eq_of_pairwise (fun a b _ _ x y => Int.le_antisymm x y) h1 h2 p
theorem sort_sorted (l : List Int) : (l.mergeSort (fun x y => decide (x ≤ y))).Pairwise (· ≤ ·) := by
  have q := List.pairwise_mergeSort (le := fun x y : Int => decide (x ≤ y)) (fun a b c h1 h2 => by simp at *; omega) (fun a b => by simp; omega) l
  exact q.imp (fun h => by simpa using h)
/-- No id called twice. -/
theorem call_in {l : List Ev} {id : Int} : id ∈ idsP 1 l ↔ callOf l id ≠ none := by
  unfold idsP callOf
  rw [List.mem_map, Ne, List.find?_eq_none]
  constructor
  · rintro ⟨e, he, rfl⟩ hn
    obtain ⟨h1, h2⟩ := List.mem_filter.1 he
    have := hn e h1
    simp at this h2
    exact this h2
  · intro hn
    refine Classical.byContradiction fun hc => hn fun e he => ?_
    intro hk
    simp at hk
    exact hc ⟨e, List.mem_filter.2 ⟨he, by simpa using hk.2⟩, hk.1⟩
theorem calls_once {h : Hs} {l : List Ev} : ∀ i, i ≤ l.length → (∀ j, j < i → Hs.codeI h l j = 0) → (idsP 1 (l.take i)).Nodup
  | 0, _, _ => by simp [idsP]
  | i + 1, hi, hc => by
    have ih := calls_once (h := h) (l := l) i (by omega) (fun j hj => hc j (by omega))
    obtain ⟨e, he⟩ : ∃ e, l[i]? = some e := ⟨_, List.getElem?_eq_getElem (by omega)⟩
    rw [idsP_snoc he]
    by_cases q : e.kd = 1
    · rw [if_pos q]
      have k := hc i (by omega)
      unfold Hs.codeI at k
      rw [he] at k
      dsimp only at k
      have hn : callOf (l.take i) e.id = none := by
        split at k
        · split at k
          · cases k
          · unfold nextC at k
            rw [if_pos q] at k
            cases hcc : callOf (l.take i) e.id with
            | none => rfl
            | some c => rw [hcc] at k; cases k
        · rename_i c; exact absurd k c
      refine List.nodup_append.2 ⟨ih, by simp, ?_⟩
      intro a ha b hb e2
      have hb : b = e.id := by simpa using hb
      subst hb
      subst e2
      exact (call_in.1 ha) hn
    · rw [if_neg q, List.append_nil]
      exact ih
/-- The states, in the order of the ids. -/
def statesL (h : Hs) (l : List Ev) : List Int := if Hs.tr h l = 0 then (idsM 1 l).map (stOf l) else []
theorem tr_codes {h : Hs} {l : List Ev} (k : Hs.tr h l = 0) : h.fault = 0 ∧ l.length ≤ 200 ∧ ∀ j, j < l.length → Hs.codeI h l j = 0 := by
  unfold Hs.tr at k
  by_cases hf : h.fault = 0
  · rw [if_pos hf] at k
    unfold Hs.trC at k
    by_cases c : 200 < l.length
    · rw [if_pos c] at k; cases k
    · rw [if_neg c] at k
      refine ⟨hf, by omega, ?_⟩
      have go : ∀ n, trG (Hs.codeI h l) n = 0 → ∀ j, j < n → Hs.codeI h l j = 0 := by
        intro n
        induction n with
        | zero => intro _ j hj; omega
        | succ n ih =>
          intro hk j hj
          have hk' : (if trG (Hs.codeI h l) n = 0 then Hs.codeI h l n else trG (Hs.codeI h l) n) = 0 := hk
          by_cases z : trG (Hs.codeI h l) n = 0
          · rw [if_pos z] at hk'
            by_cases e : j = n
            · subst e; exact hk'
            · exact ih z j (by omega)
          · rw [if_neg z] at hk'; exact absurd hk' z
      exact go _ k
  · rw [if_neg hf] at k; exact absurd k hf
theorem statesL_len (h : Hs) (l : List Ev) (hl : l.length ≤ 1048576) : (statesL h l).length ≤ 1048576 := by
  unfold statesL
  split
  · rw [List.length_map]
    have hs := idsM_at (kd := 1) (l := l) l.length (Nat.le_refl _)
    rw [List.take_length] at hs
    omega
  · exact Nat.zero_le _
end Go.Proofs.Ytdklllfafafmeaa
