/-
  Journeys and traces, in plain.
-/
import Derived.Test.YtoacnglcneliiaaGreatDoorEvJ
namespace Go.Proofs.YtoacnglcneliiaaGreatDoor.Pl
/-- What events tell of one: the call, when it boarded, its state. -/
structure Jn where
  cl : Ev
  bd : Int
  st : Int
end Go.Proofs.YtoacnglcneliiaaGreatDoor.Pl
namespace Go.Proofs.YtoacnglcneliiaaGreatDoor
open Go.RowKit Pl Go.Maps
set_option linter.unusedSimpArgs false
set_option linter.unusedVariables false

def zeroJn : Jn := ⟨⟨0, 0, 0, 0, 0⟩, 0, 0⟩
def jvs (j : Jn) : List Value := [.int .i64 j.cl.tk, .int .i64 j.cl.kd, .int .i64 j.cl.id, .int .i64 j.cl.fl, .int .i64 j.cl.tw, .int .i64 j.bd, .int .i64 j.st]
def jval (j : Jn) : Value := .agg (jvs j).toArray
def stA (kd : Int) : Int := if kd = 2 then 1 else if kd = 3 then 2 else if kd = 4 then 3 else if kd = 5 then 4 else 0
def goneJ (j : Jn) (e : Ev) : Jn := ⟨if e.kd = 1 then e else j.cl, if e.kd = 2 then e.tk else j.bd, stA e.kd⟩
/-- What events tell of every id. -/
def jOf : List Ev → Int → Option Jn
  | [], _ => none
  | l, id => l.foldl (fun f e => fun i => if i = e.id then some (goneJ ((f i).getD zeroJn) e) else f i) (fun _ => none) id
theorem jOf_eq (l : List Ev) (id : Int) : jOf l id = l.foldl (fun f e => fun i => if i = e.id then some (goneJ ((f i).getD zeroJn) e) else f i) (fun _ => (none : Option Jn)) id := by cases l <;> rfl
theorem jOf_snoc {l : List Ev} {i : Nat} {e : Ev} (h : l[i]? = some e) (id : Int) : jOf (l.take (i + 1)) id = if id = e.id then some (goneJ ((jOf (l.take i) id).getD zeroJn) e) else jOf (l.take i) id := by
  have hi : i < l.length := (List.getElem?_eq_some_iff.1 h).1
  have q : l[i] = e := (List.getElem?_eq_some_iff.1 h).2
  rw [jOf_eq, jOf_eq, List.take_succ_eq_append_getElem hi, List.foldl_append, q]
  rfl
/-- The call of an id; its state behind the events. -/
def callOf (l : List Ev) (id : Int) : Option Ev := l.find? (fun e => e.id == id && e.kd == 1)
def stOf (l : List Ev) (id : Int) : Int := l.foldl (fun s e => if (e.id == id && e.kd != 1) = true then e.kd - 1 else s) 0
theorem stOf_snoc {l : List Ev} {i : Nat} {e : Ev} (h : l[i]? = some e) (id : Int) : stOf (l.take (i + 1)) id = if (e.id == id && e.kd != 1) = true then e.kd - 1 else stOf (l.take i) id := by
  have hi : i < l.length := (List.getElem?_eq_some_iff.1 h).1
  have q : l[i] = e := (List.getElem?_eq_some_iff.1 h).2
  unfold stOf
  rw [List.take_succ_eq_append_getElem hi, List.foldl_append, q]
  rfl
theorem callOf_snoc {l : List Ev} {i : Nat} {e : Ev} (h : l[i]? = some e) (id : Int) : callOf (l.take (i + 1)) id = (callOf (l.take i) id).or (if (e.id == id && e.kd == 1) = true then some e else none) := by
  have hi : i < l.length := (List.getElem?_eq_some_iff.1 h).1
  have q : l[i] = e := (List.getElem?_eq_some_iff.1 h).2
  unfold callOf
  rw [List.take_succ_eq_append_getElem hi, List.find?_append, q]
  congr 1
  cases z : (e.id == id && e.kd == 1) <;> simp [z]
/-- What is asked of the next event, with what those ahead tell. -/
def nextC (c : Option Ev) (st : Int) (e : Ev) : Int :=
  if e.kd = 1 then (match c with | some _ => 6 | none => 0)
  else match c with
    | none => 4
    | some c => if st ≠ (if e.kd = 3 ∨ e.kd = 4 then 1 else 0) ∨ (e.kd = 2 ∧ e.fl ≠ c.fl) ∨ (e.kd = 3 ∧ e.fl ≠ c.tw) then 1 else 0
def lastT (l : List Ev) : Nat → Int
  | 0 => 0
  | i + 1 => match l[i]? with | some q => q.tk | none => 0
def Hs.codeI (h : Hs) (l : List Ev) (i : Nat) : Int := match l[i]? with
  | some e => if Hs.evC h e = 0 then (if e.tk < lastT l i then 1 else nextC (callOf (l.take i) e.id) (stOf (l.take i) e.id) e) else Hs.evC h e
  | none => 0
/-- The first that is not 0, of the first n. -/
def trG (c : Nat → Int) : Nat → Int
  | 0 => 0
  | n + 1 => if trG c n = 0 then c n else trG c n
theorem trG_next {c : Nat → Int} {i : Nat} (h : trG c i = 0) (k : c i = 0) : trG c (i + 1) = 0 := by show (if trG c i = 0 then c i else trG c i) = 0; rw [if_pos h, k]
theorem trG_stop {c : Nat → Int} {i n : Nat} (h : trG c i = 0) (k : c i ≠ 0) (hn : i < n) : trG c n = c i := by
  induction n with
  | zero => omega
  | succ n ih =>
    show (if trG c n = 0 then c n else trG c n) = c i
    by_cases e : i = n
    · subst e; rw [if_pos h]
    · rw [ih (by omega), if_neg k]
def Hs.trC (h : Hs) (l : List Ev) : Int := if 200 < l.length then 2 else trG (Hs.codeI h l) l.length
def Hs.tr (h : Hs) (l : List Ev) : Int := if h.fault = 0 then Hs.trC h l else h.fault
/-- What the map tells is what the events tell. -/
structure Jt (l : List Ev) : Prop where
  a : ∀ id, (jOf l id = none ∧ callOf l id = none) ∨ ∃ j, jOf l id = some j ∧ callOf l id = some j.cl ∧ j.st = stOf l id
theorem evC_kd {h : Hs} {e : Ev} (k : Hs.evC h e = 0) : 1 ≤ e.kd ∧ e.kd ≤ 5 ∧ 0 ≤ e.tk ∧ 1 ≤ e.id := by
  unfold Hs.evC at k
  split at k
  · rename_i a
    simp only [Bool.and_eq_true] at a
    split at k
    · rename_i b
      exact ⟨(inB_iff.1 b).1, (inB_iff.1 b).2, (inB_iff.1 a.1).1, (inB_iff.1 a.2).1⟩
    · omega
  · omega
theorem Jt.nil (l : List Ev) : Jt (l.take 0) := ⟨fun id => Or.inl ⟨by simp [jOf], by simp [callOf]⟩⟩
theorem Jt.next {h : Hs} {l : List Ev} {i : Nat} {e : Ev} (he : l[i]? = some e) (t : Jt (l.take i)) (k : Hs.codeI h l i = 0) : Jt (l.take (i + 1)) := by
  unfold Hs.codeI at k
  rw [he] at k
  dsimp only at k
  by_cases c1 : Hs.evC h e = 0
  case neg => rw [if_neg c1] at k; exact absurd k c1
  rw [if_pos c1] at k
  obtain ⟨k1, k2, _, _⟩ := evC_kd c1
  split at k
  case isTrue => omega
  refine ⟨fun id => ?_⟩
  rw [jOf_snoc he, callOf_snoc he, stOf_snoc he]
  by_cases ei : id = e.id
  · subst ei
    rw [if_pos rfl]
    unfold nextC at k
    rcases t.a e.id with ⟨a1, a2⟩ | ⟨j, a1, a2, a3⟩
    · rw [a2] at k ⊢
      by_cases e1 : e.kd = 1
      · right
        have b1 : (e.kd == 1) = true := by simpa using e1
        refine ⟨_, rfl, ?_, ?_⟩
        · simp [goneJ, e1]
        · have s0 : stOf (l.take i) e.id = 0 := by
            have key : ∀ m : List Ev, (∀ x ∈ m, x.id ≠ e.id) → stOf m e.id = 0 := by
              intro m
              unfold stOf
              induction m with
              | nil => intro _; rfl
              | cons x m ih =>
                intro hx
                have : (x.id == e.id && x.kd != 1) = false := by
                  have := hx x (by simp)
                  simp [this]
                show m.foldl _ (if (x.id == e.id && x.kd != 1) = true then x.kd - 1 else 0) = 0
                rw [this]
                exact ih (fun y hy => hx y (by simp [hy]))
            refine key _ (fun x hx hxe => ?_)
            have hj : jOf (l.take i) x.id ≠ none := by
              have gen : ∀ (m : List Ev) (f : Int → Option Jn), (f x.id ≠ none ∨ x ∈ m) → m.foldl (fun f e => fun i => if i = e.id then some (goneJ ((f i).getD zeroJn) e) else f i) f x.id ≠ none := by
                intro m
                induction m with
                | nil => intro f hf; rcases hf with hf | hf; exact hf; simp at hf
                | cons y m ih =>
                  intro f hf
                  refine ih _ ?_
                  rcases hf with hf | hf
                  · left
                    dsimp only
                    split
                    · simp
                    · exact hf
                  · rcases List.mem_cons.1 hf with rfl | hf
                    · left; simp
                    · right; exact hf
              rw [jOf_eq]
              exact gen _ _ (Or.inr hx)
            rw [hxe] at hj
            exact hj a1
          simp [goneJ, e1, stA, s0]
      · rw [if_neg e1] at k
        dsimp only at k
        omega
    · rw [a2] at k ⊢
      right
      by_cases e1 : e.kd = 1
      · rw [if_pos e1] at k; dsimp only at k; omega
      · refine ⟨_, rfl, ?_, ?_⟩
        · simp [goneJ, e1, a1]
        · have b1 : (e.kd != 1) = true := by simpa using e1
          simp only [beq_self_eq_true, Bool.true_and, b1, if_true]
          unfold goneJ stA
          dsimp only
          (repeat' split) <;> omega
  · have b0 : (e.id == id) = false := by simpa using fun z => ei z.symm
    rw [if_neg ei]
    simp only [b0, Bool.false_and, Bool.false_eq_true, if_false, Option.or_none]
    exact t.a id
end Go.Proofs.YtoacnglcneliiaaGreatDoor
