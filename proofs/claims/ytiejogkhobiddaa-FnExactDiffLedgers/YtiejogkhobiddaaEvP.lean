/-
  What happened between two ledgers, in plain.
-/
import Derived.Test.YtiejogkhobiddaaEvB
namespace Go.Proofs.Ytiejogkhobiddaa
open Go.RowKit Pl
set_option linter.unusedSimpArgs false
set_option linter.unusedVariables false

/-- An event of that kind. -/
def evOf (tk kd : Int) (p : Pe) : Ev := ⟨tk, kd, p.id, if kd = 1 ∨ kd = 2 then p.fr else if kd = 3 ∨ kd = 4 then p.pl else 0, if kd = 1 then p.tw else 0⟩
def kdT (f t : Int) : Int × Bool := if f = 0 then (if t = 4 then (5, true) else (2, true)) else if f = 1 then (if t = 2 then (3, true) else if t = 3 then (4, true) else (0, false)) else (0, false)
def stB (kd : Int) : Int := if kd = 2 then 1 else if kd = 3 then 2 else if kd = 4 then 3 else if kd = 5 then 4 else 0
/-- What somebody did who was in the state s. -/
def stepsP (tk s : Int) (p : Pe) : Option (List Ev) :=
  if s = p.st then some []
  else if s = 0 then (if p.st = 4 then some [evOf tk 5 p] else if p.st = 1 then some [evOf tk 2 p] else if p.st = 2 then some [evOf tk 2 p, evOf tk 3 p] else if p.st = 3 then some [evOf tk 2 p, evOf tk 4 p] else none)
  else if s = 1 then (if p.st = 2 then some [evOf tk 3 p] else if p.st = 3 then some [evOf tk 4 p] else none)
  else none
theorem steps_len {tk s : Int} {p : Pe} {l : List Ev} (h : stepsP tk s p = some l) : l.length ≤ 2 := by
  unfold stepsP at h
  (repeat' split at h) <;> first | (cases h; simp) | cases h
theorem steps_no {tk s : Int} {p : Pe} (h : ¬ s = p.st) (k : (kdT s p.st).2 = false) : stepsP tk s p = none := by
  unfold kdT at k
  unfold stepsP
  rw [if_neg h]
  by_cases a : s = 0
  · rw [if_pos a] at k; split at k <;> cases k
  · rw [if_neg a] at k ⊢
    by_cases b : s = 1
    · rw [if_pos b] at k ⊢
      (repeat' split at k) <;> first | cases k | skip
      rename_i c d
      rw [if_neg c, if_neg d]
    · rw [if_neg b]
/-- How far it is to the end. -/
def farS (s : Int) : Nat := if s = 0 then 2 else if s = 1 then 1 else 0
theorem steps_yes {tk s : Int} {p : Pe} (h : ¬ s = p.st) (k : (kdT s p.st).2 = true) : stepsP tk s p = (stepsP tk (stB (kdT s p.st).1) p).map ([evOf tk (kdT s p.st).1 p] ++ ·) ∧ farS (stB (kdT s p.st).1) < farS s ∧ ((kdT s p.st).1 = 2 ∨ (kdT s p.st).1 = 3 ∨ (kdT s p.st).1 = 4 ∨ (kdT s p.st).1 = 5) := by
  have hs : s = 0 ∨ s = 1 := by
    unfold kdT at k
    by_cases a : s = 0
    · exact Or.inl a
    · rw [if_neg a] at k
      by_cases b : s = 1
      · exact Or.inr b
      · rw [if_neg b] at k; cases k
  rcases hs with rfl | rfl
  · by_cases c : p.st = 4
    · simp [kdT, stB, stepsP, farS, c]
    · by_cases d1 : p.st = 1
      · simp [kdT, stB, stepsP, farS, d1]
      · by_cases d2 : p.st = 2
        · simp [kdT, stB, stepsP, farS, d2]
        · by_cases d3 : p.st = 3
          · simp [kdT, stB, stepsP, farS, d3]
          · have e0 : ¬ (0 : Int) = p.st := h
            have e1 : ¬ (1 : Int) = p.st := fun z => d1 z.symm
            simp [kdT, stB, stepsP, farS, c, d1, d2, d3, e0, e1]
  · by_cases d2 : p.st = 2
    · simp [kdT, stB, stepsP, farS, d2]
    · by_cases d3 : p.st = 3
      · simp [kdT, stB, stepsP, farS, d3]
      · simp [kdT, d2, d3] at k
def stK (tk : Int) (b p : Pe) : Option (List Ev) := if b.fr = p.fr ∧ b.tw = p.tw then stepsP tk b.st p else none
def fnd (id : Int) (l : List Pe) : Option Pe := l.find? (fun q => q.id == id)
theorem fnd_at {id : Int} {l : List Pe} {i : Nat} {q : Pe} (hq : l[i]? = some q) (e : q.id = id) (no : ∀ j r, j < i → l[j]? = some r → ¬ r.id = id) : fnd id l = some q := by
  unfold fnd
  induction l generalizing i with
  | nil => simp at hq
  | cons r l ih =>
    cases i with
    | zero =>
      simp at hq
      subst hq
      simp [e]
    | succ i =>
      have n0 := no 0 r (by omega) (by simp)
      rw [List.find?_cons_of_neg (by simpa using n0)]
      exact ih (by simpa using hq) (fun j s hj hs => no (j + 1) s (by omega) (by simpa using hs))
theorem fnd_no {id : Int} {l : List Pe} (no : ∀ j r, j < l.length → l[j]? = some r → ¬ r.id = id) : fnd id l = none := by
  unfold fnd
  rw [List.find?_eq_none]
  intro r hr
  obtain ⟨j, hj, e⟩ := List.mem_iff_getElem.1 hr
  have := no j r hj (by rw [List.getElem?_eq_getElem hj, e])
  simpa using this
/-- What became of one of them. -/
def oneP (tk : Int) (old : List Pe) (p : Pe) : Option (List Ev) := match fnd p.id old with | some q => stK tk q p | none => (stepsP tk 0 p).map (fun l => evOf tk 1 p :: l)
theorem one_len {tk : Int} {old : List Pe} {p : Pe} {l : List Ev} (h : oneP tk old p = some l) : l.length ≤ 3 := by
  unfold oneP at h
  split at h
  · unfold stK at h
    split at h
    · have := steps_len h; omega
    · cases h
  · obtain ⟨m, hm, e⟩ := Option.map_eq_some_iff.1 h
    subst e
    have := steps_len hm
    simp; omega
def diffL (tk : Int) (old l : List Pe) : Option (List Ev) := l.foldl (fun acc p => acc.bind fun a => (oneP tk old p).map (a ++ ·)) (some [])
theorem diff_nil (tk : Int) (old l : List Pe) : diffL tk old (l.take 0) = some [] := by simp [diffL]
theorem diff_snoc {tk : Int} {old l : List Pe} {i : Nat} {p : Pe} (h : l[i]? = some p) : diffL tk old (l.take (i + 1)) = (diffL tk old (l.take i)).bind fun a => (oneP tk old p).map (a ++ ·) := by
  have hi : i < l.length := (List.getElem?_eq_some_iff.1 h).1
  have e : l[i] = p := (List.getElem?_eq_some_iff.1 h).2
  unfold diffL
  rw [List.take_succ_eq_append_getElem hi, List.foldl_append, e]
  rfl
theorem diff_none {tk : Int} {old l : List Pe} {i : Nat} (h : diffL tk old (l.take i) = none) : diffL tk old l = none := by
  have stay : ∀ m : List Pe, m.foldl (fun acc p => acc.bind fun a => (oneP tk old p).map (a ++ ·)) (none : Option (List Ev)) = none := by
    intro m
    induction m with
    | nil => rfl
    | cons p m ih => exact ih
  unfold diffL at h ⊢
  rw [← List.take_append_drop i l, List.foldl_append, h, stay]
theorem diff_stop {tk : Int} {old l : List Pe} {i : Nat} {p : Pe} (h : l[i]? = some p) (k : oneP tk old p = none) : diffL tk old l = none := by
  refine diff_none (i := i + 1) ?_
  rw [diff_snoc h, k]
  cases diffL tk old (l.take i) <;> rfl
theorem diff_go {tk : Int} {old l : List Pe} {i : Nat} {p : Pe} {a b : List Ev} (h : l[i]? = some p) (ha : diffL tk old (l.take i) = some a) (k : oneP tk old p = some b) : diffL tk old (l.take (i + 1)) = some (a ++ b) := by
  rw [diff_snoc h, ha, k]
  rfl
def Hs.dfK (h : Hs) (tk : Int) (old now : Lg) : Int :=
  if Hs.led h old = 0 then (if Hs.led h now = 0 then (if inB tk 0 1000000000000000 = true then (if (diffL tk old.ps now.ps).isSome = true then 0 else 1) else 3) else Hs.led h now) else Hs.led h old
def Hs.dfV (h : Hs) (tk : Int) (old now : Lg) : List Ev := if Hs.dfK h tk old now = 0 then (diffL tk old.ps now.ps).getD [] else []
theorem OwnE.base {w : World} {B C : Nat} {v : Value} {l : List Ev} (h : OwnE w B v l) (hC : C ≤ B) : OwnE w C v l := by
  refine ⟨h.1, ?_⟩
  rcases h.2 with hn | ⟨g, cap, cur, e, hB, rest⟩
  · exact Or.inl hn
  · exact Or.inr ⟨g, cap, cur, e, Nat.le_trans hC hB, rest⟩
theorem OwnE.nil (w : World) (B : Nat) : OwnE w B (.slice none 0 0) [] := World.ownsRow_nil w B 63 5
theorem vin_new (w : World) (e : Ev) : VIn (w.alloc (.cells #[.int .i64 e.tk, .int .i64 e.kd, .int .i64 e.id, .int .i64 e.fl, .int .i64 e.tw] 63)) (.slice (some ⟨w.heap.size, 0, none⟩) 1 1) [e] := by
  refine Or.inr ⟨_, _, rfl, fun _ => ⟨w.heap.size, 0, rfl, fun i p hp => ?_⟩⟩
  cases i with
  | zero =>
    simp at hp
    subst hp
    constructor <;> simp
  | succ i => simp at hp
theorem belG {B C : Nat} {w0 w w' : World} {v : Value} {l : List Ev} (hb : Below B w0 w) (ho : OwnE w C v l) (hC : B ≤ C) (hs : B ≤ w.heap.size) (hg : w.grownBy w' v.ownBlock) : Below B w0 w' :=
  hb.trans ⟨hg.os, hg.tape, hg.output, hg.size, fun k hk => hg.block k (Nat.lt_of_lt_of_le hk hs) (fun e => by have := (ho.lt k e.symm).1; omega)⟩
/-- What is answered: a code, and events in a row of their own. -/
def isEvs (w : World) (k : Int) (l : List Ev) (e : Ending) (w' : World) : Prop := ∃ v, e = .returned (.agg #[.int .i64 k, .int .i64 0, v]) ∧ OwnE w' w.heap.size v l ∧ Below w.heap.size w w'
/-- A slice of events and whether there are any. -/
def isOp (w : World) (o : Option (List Ev)) (e : Ending) (w' : World) : Prop := (∃ v, e = .returned (.tuple #[v, .bool o.isSome]) ∧ ∀ l, o = some l → OwnE w' w.heap.size v l) ∧ Below w.heap.size w w'
end Go.Proofs.Ytiejogkhobiddaa
