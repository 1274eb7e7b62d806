/-
  What was seen: who boarded, and when (plain).
-/
import Derived.Test.YtdklllfafafmeaaEvY
namespace Go.Proofs.Ytdklllfafafmeaa
open Go.RowKit Pl Go.Maps
set_option linter.unusedSimpArgs false
set_option linter.unusedVariables false

/-- The ticks at which an id boarded. -/
def boards (l : List Ev) (id : Int) : List Int := (l.filter (fun e => e.id == id && e.kd == 2)).map (fun e => e.tk)
theorem boards_snoc {l : List Ev} {i : Nat} {e : Ev} (h : l[i]? = some e) (id : Int) : boards (l.take (i + 1)) id = boards (l.take i) id ++ (if e.id = id ∧ e.kd = 2 then [e.tk] else []) := by
  have hi : i < l.length := (List.getElem?_eq_some_iff.1 h).1
  have q : l[i] = e := (List.getElem?_eq_some_iff.1 h).2
  unfold boards
  rw [List.take_succ_eq_append_getElem hi, List.filter_append, List.map_append, q]
  by_cases c : e.id = id ∧ e.kd = 2
  · rw [if_pos c]; simp [c.1, c.2]
  · rw [if_neg c]
    have : (e.id == id && e.kd == 2) = false := by
      cases hz : (e.id == id && e.kd == 2) with
      | false => rfl
      | true => simp at hz; exact absurd hz c
    simp [this]
/-- One board, of the tick that is kept, where the state is 1, 2 or 3. -/
structure Bt (l : List Ev) : Prop where
  a : ∀ id, (jOf l id = none ∧ boards l id = []) ∨ ∃ j, jOf l id = some j ∧ 0 ≤ j.st ∧ j.st ≤ 4 ∧ boards l id = if 1 ≤ j.st ∧ j.st ≤ 3 then [j.bd] else []
theorem Bt.nil (l : List Ev) : Bt (l.take 0) := ⟨fun id => Or.inl ⟨by simp [jOf], by simp [boards]⟩⟩
theorem Bt.next {h : Hs} {l : List Ev} {i : Nat} {e : Ev} (he : l[i]? = some e) (t : Bt (l.take i)) (jt : Jt (l.take i)) (k : Hs.codeI h l i = 0) : Bt (l.take (i + 1)) := by
  unfold Hs.codeI at k
  rw [he] at k
  dsimp only at k
  have kk : 1 ≤ e.kd ∧ e.kd ≤ 5 ∧ nextC (callOf (l.take i) e.id) (stOf (l.take i) e.id) e = 0 := by
    split at k
    · rename_i c
      have q := evC_kd c
      split at k
      · cases k
      · exact ⟨q.1, q.2.1, k⟩
    · rename_i c; exact absurd k c
  obtain ⟨d1, d2, hn⟩ := kk
  refine ⟨fun id => ?_⟩
  rw [jOf_snoc he, boards_snoc he]
  by_cases hid : id = e.id
  · subst hid
    rw [if_pos rfl]
    right
    refine ⟨_, rfl, ?_⟩
    by_cases c1 : e.kd = 1
    · have hc : callOf (l.take i) e.id = none := by
        unfold nextC at hn
        rw [if_pos c1] at hn
        cases hcc : callOf (l.take i) e.id with
        | none => rfl
        | some c => rw [hcc] at hn; cases hn
      have hb : boards (l.take i) e.id = [] := by
        rcases jt.a e.id with ⟨j1, _⟩ | ⟨j, _, j2, _⟩
        · rcases t.a e.id with ⟨_, b⟩ | ⟨j', b, _⟩
          · exact b
          · rw [j1] at b; cases b
        · rw [hc] at j2; cases j2
      have e0 : stA e.kd = 0 := by unfold stA; rw [c1]; rfl
      refine ⟨by show 0 ≤ stA e.kd; omega, by show stA e.kd ≤ 4; omega, ?_⟩
      show _ = if 1 ≤ stA e.kd ∧ stA e.kd ≤ 3 then _ else _
      rw [hb, if_neg (by omega), e0, if_neg (by omega)]
      rfl
    · obtain ⟨c, hc, hs⟩ : ∃ c, callOf (l.take i) e.id = some c ∧ stOf (l.take i) e.id = (if e.kd = 3 ∨ e.kd = 4 then 1 else 0) := by
        unfold nextC at hn
        rw [if_neg c1] at hn
        cases hcc : callOf (l.take i) e.id with
        | none => rw [hcc] at hn; cases hn
        | some c =>
          rw [hcc] at hn
          refine ⟨c, rfl, ?_⟩
          refine Classical.byContradiction fun hne => ?_
          dsimp only at hn
          rw [if_pos (Or.inl hne)] at hn
          cases hn
      obtain ⟨j, hj, hjs, hjb⟩ : ∃ j, jOf (l.take i) e.id = some j ∧ j.st = stOf (l.take i) e.id ∧ boards (l.take i) e.id = if 1 ≤ j.st ∧ j.st ≤ 3 then [j.bd] else [] := by
        rcases jt.a e.id with ⟨_, j2⟩ | ⟨j, j1, _, j3⟩
        · rw [hc] at j2; cases j2
        · rcases t.a e.id with ⟨b, _⟩ | ⟨j', b, _, _, b4⟩
          · rw [j1] at b; cases b
          · rw [j1] at b
            cases b
            exact ⟨j, j1, j3, b4⟩
      rw [hj, hjb, hjs, hs]
      have hd : (some j).getD zeroJn = j := rfl
      rw [hd]
      rcases (show e.kd = 2 ∨ e.kd = 3 ∨ e.kd = 4 ∨ e.kd = 5 by omega) with q | q | q | q
      · refine ⟨by simp [goneJ, stA, q], by simp [goneJ, stA, q], by simp [goneJ, stA, q]⟩
      · refine ⟨by simp [goneJ, stA, q], by simp [goneJ, stA, q], by simp [goneJ, stA, q]⟩
      · refine ⟨by simp [goneJ, stA, q], by simp [goneJ, stA, q], by simp [goneJ, stA, q]⟩
      · refine ⟨by simp [goneJ, stA, q], by simp [goneJ, stA, q], by simp [goneJ, stA, q]⟩
  · rw [if_neg hid, if_neg (fun q => hid q.1.symm), List.append_nil]
    exact t.a id
theorem bt_of {h : Hs} {l : List Ev} (k : Hs.tr h l = 0) : Bt l ∧ Jt l := by
  obtain ⟨_, _, hc⟩ := tr_codes k
  have go : ∀ i, i ≤ l.length → Bt (l.take i) ∧ Jt (l.take i) := by
    intro i
    induction i with
    | zero => intro _; exact ⟨Bt.nil l, Jt.nil l⟩
    | succ i ih =>
      intro hi
      obtain ⟨a, b⟩ := ih (by omega)
      obtain ⟨e, he⟩ : ∃ e, l[i]? = some e := ⟨_, List.getElem?_eq_getElem (by omega)⟩
      exact ⟨Bt.next he a b (hc i (by omega)), Jt.next he b (hc i (by omega))⟩
  have q := go l.length (Nat.le_refl _)
  rw [List.take_length] at q
  exact q
theorem count_boards (l : List Ev) (id : Int) : (idsP 2 l).count id = (boards l id).length := by
  unfold idsP boards
  rw [List.length_map, List.count_eq_countP, List.countP_map, List.countP_filter, ← List.countP_eq_length_filter]
  refine List.countP_congr fun e _ => ?_
  simp
theorem boards_one {h : Hs} {l : List Ev} (k : Hs.tr h l = 0) (id : Int) : (boards l id).length ≤ 1 := by
  rcases (bt_of k).1.a id with ⟨_, b⟩ | ⟨j, _, _, _, b⟩
  · rw [b]; simp
  · rw [b]; split <;> simp
/-- Those who boarded, in order, are those who called, less those who did not. -/
theorem ids_boarded {h : Hs} {l : List Ev} (k : Hs.tr h l = 0) : idsM 2 l = (idsM 1 l).filter (fun id => !(boards l id).isEmpty) := by
  obtain ⟨bt, jt⟩ := bt_of k
  have h2 := idsM_at (kd := 2) (l := l) l.length (Nat.le_refl _)
  have h1 := idsM_at (kd := 1) (l := l) l.length (Nat.le_refl _)
  rw [List.take_length] at h1 h2
  have n2 : (idsP 2 l).Nodup := List.nodup_iff_count.2 (fun a => by rw [count_boards]; exact boards_one k a)
  have n1 : (idsP 1 l).Nodup := by
    have q := calls_once (h := h) l.length (Nat.le_refl _) (tr_codes k).2.2
    rw [List.take_length] at q
    exact q
  refine sorted_one h2.1 (h1.1.sublist List.filter_sublist) (h2.2.1.trans ?_)
  refine (List.perm_ext_iff_of_nodup n2 ((h1.2.1.nodup_iff.2 n1).sublist List.filter_sublist)).2 fun id => ?_
  rw [List.mem_filter, h1.2.1.mem_iff, call_in]
  have m2 : id ∈ idsP 2 l ↔ boards l id ≠ [] := by
    rw [← List.count_pos_iff, count_boards, List.length_pos_iff]
  rw [m2]
  constructor
  · intro hb
    refine ⟨?_, by simpa using hb⟩
    rcases bt.a id with ⟨_, b⟩ | ⟨j, j1, _⟩
    · exact absurd b hb
    · rcases jt.a id with ⟨q, _⟩ | ⟨j', _, q, _⟩
      · rw [j1] at q; cases q
      · rw [q]; simp
  · rintro ⟨_, hb⟩
    simpa using hb
/-- How long an id waited. -/
def waitsAt (l : List Ev) (id : Int) : List Int := (boards l id).map (fun t => t - ((callOf l id).getD ⟨0, 0, 0, 0, 0⟩).tk)
def waitsL (h : Hs) (l : List Ev) : List Int := if Hs.tr h l = 0 then (idsM 1 l).flatMap (waitsAt l) else []
theorem waits_two {h : Hs} {l : List Ev} (k : Hs.tr h l = 0) : waitsL h l = (idsM 2 l).flatMap (waitsAt l) := by
  unfold waitsL
  rw [if_pos k, ids_boarded k]
  induction idsM 1 l with
  | nil => rfl
  | cons x xs ih =>
    rw [List.flatMap_cons, List.filter_cons, ih]
    by_cases c : boards l x = []
    · have e : waitsAt l x = [] := by unfold waitsAt; rw [c]; rfl
      rw [e]; simp [c]
    · have e : (!(boards l x).isEmpty) = true := by simpa using c
      rw [if_pos e, List.flatMap_cons]
end Go.Proofs.Ytdklllfafafmeaa
