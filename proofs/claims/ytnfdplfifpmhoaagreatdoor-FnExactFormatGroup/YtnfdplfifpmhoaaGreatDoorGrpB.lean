/-
  Decks in a row of their own.
-/
import Derived.Test.YtnfdplfifpmhoaaGreatDoorGrp
import Derived.OwnWalk
import Derived.Laws.OwnMore
namespace Go.Proofs.YtnfdplfifpmhoaaGreatDoor
open Go.RowKit Pl
set_option linter.unusedSimpArgs false
set_option linter.unusedVariables false

def cellsD (p : Dk) : List Value := [.int .i64 p.sh.lo.pos, .int .i64 p.sh.lo.vel, .int .i64 p.sh.lo.door, .int .i64 p.sh.up.pos, .int .i64 p.sh.up.vel, .int .i64 p.sh.up.door, .int .i64 p.sp.l.lo, .int .i64 p.sp.l.hi, .int .i64 p.sp.u.lo, .int .i64 p.sp.u.hi, .int .i64 p.pl, .int .i64 p.pu, .bool p.hd]
def flatD (l : List Dk) : List Value := l.flatMap cellsD
theorem flatD_nil : flatD [] = [] := rfl
theorem flatD_cons (p : Dk) (l : List Dk) : flatD (p :: l) = cellsD p ++ flatD l := rfl
theorem flatD_append (l m : List Dk) : flatD (l ++ m) = flatD l ++ flatD m := by simp [flatD]
theorem flatD_length (l : List Dk) : (flatD l).length = l.length * 13 := by
  induction l with
  | nil => rfl
  | cons p l ih => rw [flatD_cons, List.length_append, ih, List.length_cons]; simp [cellsD]; omega
theorem flatD_get {l : List Dk} {i : Nat} {p : Dk} (h : l[i]? = some p) {k : Nat} (hk : k < 13) : (flatD l)[i * 13 + k]? = (cellsD p)[k]? := by
  induction l generalizing i with
  | nil => simp at h
  | cons q l ih =>
    rw [flatD_cons]
    cases i with
    | zero =>
      simp at h
      subst h
      rw [List.getElem?_append_left (by simp [cellsD]; omega)]
      simp
    | succ i =>
      rw [List.getElem?_append_right (by simp [cellsD]; omega)]
      rw [show (i + 1) * 13 + k - (cellsD q).length = i * 13 + k by simp [cellsD]; omega]
      exact ih (by simpa using h)
theorem flatD_one (l : List Dk) : ∀ u ∈ flatD l, u.oneCell' = true := by
  intro u hu
  obtain ⟨p, _, hp⟩ := List.mem_flatMap.1 hu
  simp [cellsD] at hp
  rcases hp with rfl | rfl | rfl | rfl | rfl | rfl | rfl | rfl | rfl | rfl | rfl | rfl | rfl <;> rfl
theorem flatD_set (l : List Dk) (i k : Nat) (p q : Dk) (u : Value) (h : l[i]? = some p) (hk : k < 13) (e : (cellsD p).set k u = cellsD q) : (flatD l).set (i * 13 + k) u = flatD (l.set i q) := by
  induction l generalizing i with
  | nil => simp at h
  | cons r l ih =>
    cases i with
    | zero =>
      simp at h
      subst h
      rw [List.set_cons_zero, flatD_cons, flatD_cons, List.set_append_left _ _ (by simp [cellsD]; omega)]
      simp [e]
    | succ i =>
      rw [List.set_cons_succ, flatD_cons, flatD_cons, List.set_append_right _ _ (by simp [cellsD]; omega)]
      rw [show (i + 1) * 13 + k - (cellsD r).length = i * 13 + k by simp [cellsD]; omega]
      rw [ih i (by simpa using h)]

/-- The people l lie in a row of their own, from the block B on: the slice v. -/
def OwnD (w : World) (B : Nat) (v : Value) (l : List Dk) : Prop := w.ownsRow B 55 13 v l.length (flatD l)
theorem OwnD.below {W w : World} {B C : Nat} {v : Value} {l : List Dk} (h : OwnD W B v l) (hb : Below C W w) (hC : ∀ k, v.ownBlock = some k → k < C) : OwnD w B v l := by
  refine ⟨h.1, ?_⟩
  rcases h.2 with hn | ⟨g, cap, cur, rfl, hB, hg, rest⟩
  · exact Or.inl hn
  · exact Or.inr ⟨g, cap, cur, rfl, hB, (hb.block g (hC g rfl)).trans hg, rest⟩
theorem OwnD.lt {w : World} {B : Nat} {v : Value} {l : List Dk} (h : OwnD w B v l) : ∀ k, v.ownBlock = some k → B ≤ k ∧ k < w.heap.size := World.ownsRow.lt h
theorem OwnD.alloc {w : World} {B : Nat} {v : Value} {l : List Dk} (h : OwnD w B v l) (o : Obj) : OwnD (w.alloc o) B v l := World.ownsRow.alloc h o
theorem OwnD.drew {w : World} {B : Nat} {v : Value} {l : List Dk} (h : OwnD w B v l) : OwnD w.drew B v l := h
theorem OwnD.kept {w w' : World} {B : Nat} {v : Value} {l : List Dk} {row : Option Nat} (h : OwnD w B v l) (hg : w.grownBy w' row) (hne : v.ownBlock = none ∨ v.ownBlock ≠ row) : OwnD w' B v l := World.ownsRow.kept h hg hne
/-- What such a slice is. -/
theorem OwnD.cases {w : World} {B : Nat} {v : Value} {l : List Dk} (h : OwnD w B v l) :
    (v = .slice none 0 0 ∧ l = []) ∨ ∃ g cap, v = .slice (some ⟨g, 0, none⟩) l.length cap ∧ B ≤ g ∧ g < w.heap.size ∧ l.length ≤ cap ∧ cap ≤ maxLen := by
  rcases h.2 with ⟨e, hn⟩ | ⟨g, cap, cur, e, hB, hg, hc, hm, _⟩
  · exact Or.inl ⟨e, List.eq_nil_of_length_eq_zero hn⟩
  · exact Or.inr ⟨g, cap, e, hB, (Array.getElem?_eq_some_iff.1 hg).1, hc, hm⟩
/-- .. at the head of the block g: n of them, room for cap. -/
def OwD (w : World) (B g n cap : Nat) (l : List Dk) : Prop := l.length = n ∧ w.ownsRow B 55 13 (.slice (some ⟨g, 0, none⟩) n cap) n (flatD l)
theorem OwD.own {w : World} {B g n cap : Nat} {l : List Dk} (h : OwD w B g n cap l) : OwnD w B (.slice (some ⟨g, 0, none⟩) n cap) l := by
  obtain ⟨rfl, h⟩ := h
  exact h
theorem OwnD.ow {w : World} {B g cap : Nat} {l : List Dk} (h : OwnD w B (.slice (some ⟨g, 0, none⟩) l.length cap) l) : OwD w B g l.length cap l := ⟨rfl, h⟩
theorem OwD.bl {w : World} {B g n cap : Nat} {l : List Dk} (h : OwD w B g n cap l) : B ≤ g ∧ g < w.heap.size := World.ownsRow.lt h.2 g rfl
theorem OwD.base {w : World} {B C g n cap : Nat} {l : List Dk} (h : OwD w B g n cap l) (hC : C ≤ B) : OwD w C g n cap l := by
  obtain ⟨e, h⟩ := h
  refine ⟨e, h.1, ?_⟩
  rcases h.2 with hn | ⟨g', cap', cur, e', hB, rest⟩
  · exact Or.inl hn
  · exact Or.inr ⟨g', cap', cur, e', Nat.le_trans hC hB, rest⟩
theorem OwD.pin {w : World} {B g n cap C : Nat} {l : List Dk} (h : OwD w B g n cap l) (hC : g < C) : DIn w C (some ⟨g, 0, none⟩) l := by
  refine Or.inr ⟨g, 0, rfl, hC, fun i p hp => ?_⟩
  have hi : i < l.length := (List.getElem?_eq_some_iff.1 hp).1
  have c : ∀ k, k < 13 → w.cell? ⟨g, i * 13 + k, none⟩ = (cellsD p)[k]? := fun k hk => (World.ownsRow.cellAt h.2 (i * 13 + k) (by have := h.1; omega)).trans (flatD_get hp hk)
  rw [Nat.zero_add]
  exact ⟨c 0 (by omega), c 1 (by omega), c 2 (by omega), c 3 (by omega), c 4 (by omega), c 5 (by omega), c 6 (by omega), c 7 (by omega), c 8 (by omega), c 9 (by omega), c 10 (by omega), c 11 (by omega), c 12 (by omega)⟩
theorem OwD.d13 {w : World} {B g n cap : Nat} {l : List Dk} (h : OwD w B g n cap l) {i : Nat} {p : Dk} (hp : l[i]? = some p) : D13 w g (i * 13) p := by
  have hi : i < l.length := (List.getElem?_eq_some_iff.1 hp).1
  have c : ∀ k, k < 13 → w.cell? ⟨g, i * 13 + k, none⟩ = (cellsD p)[k]? := fun k hk => (World.ownsRow.cellAt h.2 (i * 13 + k) (by have := h.1; omega)).trans (flatD_get hp hk)
  exact ⟨c 0 (by omega), c 1 (by omega), c 2 (by omega), c 3 (by omega), c 4 (by omega), c 5 (by omega), c 6 (by omega), c 7 (by omega), c 8 (by omega), c 9 (by omega), c 10 (by omega), c 11 (by omega), c 12 (by omega)⟩
theorem OwD.fz {w : World} {B g n cap : Nat} {l : List Dk} (h : OwD w B g n cap l) (k : Nat) : w.frozen? ⟨g, k, none⟩ = false := World.ownsRow.frozenAt h.2 k
theorem OwD.kept {w w' : World} {B g n cap : Nat} {l : List Dk} {row : Option Nat} (h : OwD w B g n cap l) (hg : w.grownBy w' row) (hne : some g ≠ row) : OwD w' B g n cap l := ⟨h.1, World.ownsRow.kept h.2 hg (Or.inr hne)⟩
theorem OwD.below {W w : World} {B C g n cap : Nat} {l : List Dk} (h : OwD W B g n cap l) (hb : Below C W w) (hC : g < C) : OwD w B g n cap l := by
  obtain ⟨e, h⟩ := h
  refine ⟨e, h.1, ?_⟩
  rcases h.2 with hn | ⟨g', cap', cur, e', hB, hg, rest⟩
  · exact Or.inl hn
  · refine Or.inr ⟨g', cap', cur, e', hB, (hb.block g' ?_).trans hg, rest⟩
    simp at e'
    omega
theorem OwD.alloc {w : World} {B g n cap : Nat} {l : List Dk} (h : OwD w B g n cap l) (o : Obj) : OwD (w.alloc o) B g n cap l := ⟨h.1, World.ownsRow.alloc h.2 o⟩
theorem OwD.drew {w : World} {B g n cap : Nat} {l : List Dk} (h : OwD w B g n cap l) : OwD w.drew B g n cap l := h
theorem OwD.other {w : World} {B g n cap : Nat} {l : List Dk} (h : OwD w B g n cap l) {p : Addr} (hne : g ≠ p.block) (u : Value) : OwD (w.setCell p u) B g n cap l := by
  refine h.kept (row := some p.block) ⟨rfl, rfl, rfl, by simp [World.setCell], fun i _ hne => ?_⟩ (by simpa using hne)
  exact Below.heap_setCell _ _ _ _ (fun e => hne (by rw [e]))
/-- A field of one of them is written. -/
theorem OwD.set {w : World} {B g n cap : Nat} {l : List Dk} (h : OwD w B g n cap l) {i k : Nat} {p q : Dk} {u : Value} (hp : l[i]? = some p) (hk : k < 13) (e : (cellsD p).set k u = cellsD q) :
    OwD (w.setCell ⟨g, i * 13 + k, none⟩ u) B g n cap (l.set i q) := by
  have a := (World.ownsRow.stored h.2 (i * 13 + k) u).1
  rw [flatD_set l i k p q u hp hk e] at a
  exact ⟨by rw [List.length_set]; exact h.1, a⟩
theorem get_setD {l : List Dk} {i : Nat} {p q : Dk} (h : l[i]? = some p) : (l.set i q)[i]? = some q := by
  have hi : i < l.length := (List.getElem?_eq_some_iff.1 h).1
  rw [List.getElem?_set_self hi]
/-- One of them is written whole. -/
def putD (W : World) (g o : Nat) (p : Dk) : World := (((((((((((((W.setCell ⟨g, o, none⟩ (.int .i64 p.sh.lo.pos)).setCell ⟨g, o + 1, none⟩ (.int .i64 p.sh.lo.vel)).setCell ⟨g, o + 2, none⟩ (.int .i64 p.sh.lo.door)).setCell ⟨g, o + 3, none⟩ (.int .i64 p.sh.up.pos)).setCell ⟨g, o + 4, none⟩ (.int .i64 p.sh.up.vel)).setCell ⟨g, o + 5, none⟩ (.int .i64 p.sh.up.door)).setCell ⟨g, o + 6, none⟩ (.int .i64 p.sp.l.lo)).setCell ⟨g, o + 7, none⟩ (.int .i64 p.sp.l.hi)).setCell ⟨g, o + 8, none⟩ (.int .i64 p.sp.u.lo)).setCell ⟨g, o + 9, none⟩ (.int .i64 p.sp.u.hi)).setCell ⟨g, o + 10, none⟩ (.int .i64 p.pl)).setCell ⟨g, o + 11, none⟩ (.int .i64 p.pu)).setCell ⟨g, o + 12, none⟩ (.bool p.hd))
theorem OwD.put {w : World} {B g n cap : Nat} {l : List Dk} (h : OwD w B g n cap l) {i : Nat} {p : Dk} (q : Dk) (hp : l[i]? = some p) : OwD (putD w g (i * 13) q) B g n cap (l.set i q) := by
  have s0 := h.set (k := 0) (u := .int .i64 q.sh.lo.pos) (q := ⟨⟨⟨q.sh.lo.pos, p.sh.lo.vel, p.sh.lo.door⟩, ⟨p.sh.up.pos, p.sh.up.vel, p.sh.up.door⟩⟩, ⟨⟨p.sp.l.lo, p.sp.l.hi⟩, ⟨p.sp.u.lo, p.sp.u.hi⟩⟩, p.pl, p.pu, p.hd⟩) hp (by omega) rfl
  have s1 := s0.set (k := 1) (u := .int .i64 q.sh.lo.vel) (q := ⟨⟨⟨q.sh.lo.pos, q.sh.lo.vel, p.sh.lo.door⟩, ⟨p.sh.up.pos, p.sh.up.vel, p.sh.up.door⟩⟩, ⟨⟨p.sp.l.lo, p.sp.l.hi⟩, ⟨p.sp.u.lo, p.sp.u.hi⟩⟩, p.pl, p.pu, p.hd⟩) (get_setD hp) (by omega) rfl
  have s2 := s1.set (k := 2) (u := .int .i64 q.sh.lo.door) (q := ⟨⟨⟨q.sh.lo.pos, q.sh.lo.vel, q.sh.lo.door⟩, ⟨p.sh.up.pos, p.sh.up.vel, p.sh.up.door⟩⟩, ⟨⟨p.sp.l.lo, p.sp.l.hi⟩, ⟨p.sp.u.lo, p.sp.u.hi⟩⟩, p.pl, p.pu, p.hd⟩) (get_setD (get_setD hp)) (by omega) rfl
  have s3 := s2.set (k := 3) (u := .int .i64 q.sh.up.pos) (q := ⟨⟨⟨q.sh.lo.pos, q.sh.lo.vel, q.sh.lo.door⟩, ⟨q.sh.up.pos, p.sh.up.vel, p.sh.up.door⟩⟩, ⟨⟨p.sp.l.lo, p.sp.l.hi⟩, ⟨p.sp.u.lo, p.sp.u.hi⟩⟩, p.pl, p.pu, p.hd⟩) (get_setD (get_setD (get_setD hp))) (by omega) rfl
  have s4 := s3.set (k := 4) (u := .int .i64 q.sh.up.vel) (q := ⟨⟨⟨q.sh.lo.pos, q.sh.lo.vel, q.sh.lo.door⟩, ⟨q.sh.up.pos, q.sh.up.vel, p.sh.up.door⟩⟩, ⟨⟨p.sp.l.lo, p.sp.l.hi⟩, ⟨p.sp.u.lo, p.sp.u.hi⟩⟩, p.pl, p.pu, p.hd⟩) (get_setD (get_setD (get_setD (get_setD hp)))) (by omega) rfl
  have s5 := s4.set (k := 5) (u := .int .i64 q.sh.up.door) (q := ⟨⟨⟨q.sh.lo.pos, q.sh.lo.vel, q.sh.lo.door⟩, ⟨q.sh.up.pos, q.sh.up.vel, q.sh.up.door⟩⟩, ⟨⟨p.sp.l.lo, p.sp.l.hi⟩, ⟨p.sp.u.lo, p.sp.u.hi⟩⟩, p.pl, p.pu, p.hd⟩) (get_setD (get_setD (get_setD (get_setD (get_setD hp))))) (by omega) rfl
  have s6 := s5.set (k := 6) (u := .int .i64 q.sp.l.lo) (q := ⟨⟨⟨q.sh.lo.pos, q.sh.lo.vel, q.sh.lo.door⟩, ⟨q.sh.up.pos, q.sh.up.vel, q.sh.up.door⟩⟩, ⟨⟨q.sp.l.lo, p.sp.l.hi⟩, ⟨p.sp.u.lo, p.sp.u.hi⟩⟩, p.pl, p.pu, p.hd⟩) (get_setD (get_setD (get_setD (get_setD (get_setD (get_setD hp)))))) (by omega) rfl
  have s7 := s6.set (k := 7) (u := .int .i64 q.sp.l.hi) (q := ⟨⟨⟨q.sh.lo.pos, q.sh.lo.vel, q.sh.lo.door⟩, ⟨q.sh.up.pos, q.sh.up.vel, q.sh.up.door⟩⟩, ⟨⟨q.sp.l.lo, q.sp.l.hi⟩, ⟨p.sp.u.lo, p.sp.u.hi⟩⟩, p.pl, p.pu, p.hd⟩) (get_setD (get_setD (get_setD (get_setD (get_setD (get_setD (get_setD hp))))))) (by omega) rfl
  have s8 := s7.set (k := 8) (u := .int .i64 q.sp.u.lo) (q := ⟨⟨⟨q.sh.lo.pos, q.sh.lo.vel, q.sh.lo.door⟩, ⟨q.sh.up.pos, q.sh.up.vel, q.sh.up.door⟩⟩, ⟨⟨q.sp.l.lo, q.sp.l.hi⟩, ⟨q.sp.u.lo, p.sp.u.hi⟩⟩, p.pl, p.pu, p.hd⟩) (get_setD (get_setD (get_setD (get_setD (get_setD (get_setD (get_setD (get_setD hp)))))))) (by omega) rfl
  have s9 := s8.set (k := 9) (u := .int .i64 q.sp.u.hi) (q := ⟨⟨⟨q.sh.lo.pos, q.sh.lo.vel, q.sh.lo.door⟩, ⟨q.sh.up.pos, q.sh.up.vel, q.sh.up.door⟩⟩, ⟨⟨q.sp.l.lo, q.sp.l.hi⟩, ⟨q.sp.u.lo, q.sp.u.hi⟩⟩, p.pl, p.pu, p.hd⟩) (get_setD (get_setD (get_setD (get_setD (get_setD (get_setD (get_setD (get_setD (get_setD hp))))))))) (by omega) rfl
  have s10 := s9.set (k := 10) (u := .int .i64 q.pl) (q := ⟨⟨⟨q.sh.lo.pos, q.sh.lo.vel, q.sh.lo.door⟩, ⟨q.sh.up.pos, q.sh.up.vel, q.sh.up.door⟩⟩, ⟨⟨q.sp.l.lo, q.sp.l.hi⟩, ⟨q.sp.u.lo, q.sp.u.hi⟩⟩, q.pl, p.pu, p.hd⟩) (get_setD (get_setD (get_setD (get_setD (get_setD (get_setD (get_setD (get_setD (get_setD (get_setD hp)))))))))) (by omega) rfl
  have s11 := s10.set (k := 11) (u := .int .i64 q.pu) (q := ⟨⟨⟨q.sh.lo.pos, q.sh.lo.vel, q.sh.lo.door⟩, ⟨q.sh.up.pos, q.sh.up.vel, q.sh.up.door⟩⟩, ⟨⟨q.sp.l.lo, q.sp.l.hi⟩, ⟨q.sp.u.lo, q.sp.u.hi⟩⟩, q.pl, q.pu, p.hd⟩) (get_setD (get_setD (get_setD (get_setD (get_setD (get_setD (get_setD (get_setD (get_setD (get_setD (get_setD hp))))))))))) (by omega) rfl
  have s12 := s11.set (k := 12) (u := .bool q.hd) (q := q) (get_setD (get_setD (get_setD (get_setD (get_setD (get_setD (get_setD (get_setD (get_setD (get_setD (get_setD (get_setD hp)))))))))))) (by omega) rfl
  simp only [List.set_set] at s12
  exact s12
theorem below_putD {B : Nat} {w W : World} (h : Below B w W) {g : Nat} (hg : B ≤ g) (o : Nat) (p : Dk) : Below B w (putD W g o p) := (((((((((((((h.setCell hg _).setCell hg _).setCell hg _).setCell hg _).setCell hg _).setCell hg _).setCell hg _).setCell hg _).setCell hg _).setCell hg _).setCell hg _).setCell hg _).setCell hg _)
theorem OwnD.pin {w : World} {B : Nat} {v : Value} {l : List Dk} (h : OwnD w B v l) : ∃ a cap, v = .slice a l.length cap ∧ DIn w w.heap.size a l := by
  rcases h.cases with ⟨e, hl⟩ | ⟨g, cap, e, hB, hg, _⟩
  · subst hl
    exact ⟨none, 0, e, Or.inl rfl⟩
  · subst e
    refine ⟨_, cap, rfl, Or.inr ⟨g, 0, rfl, hg, fun i p hp => ?_⟩⟩
    rw [Nat.zero_add]
    exact h.ow.d13 hp
theorem OwnD.other {w : World} {B : Nat} {v : Value} {l : List Dk} (h : OwnD w B v l) {p : Addr} (hne : v.ownBlock ≠ some p.block) (u : Value) : OwnD (w.setCell p u) B v l := by
  refine h.kept (row := some p.block) ⟨rfl, rfl, rfl, by simp [World.setCell], fun i _ hne => ?_⟩ (Or.inr hne)
  exact Below.heap_setCell _ _ _ _ (fun e => hne (by rw [e]))
def zeroD : Dk := ⟨⟨⟨0, 0, 0⟩, ⟨0, 0, 0⟩⟩, ⟨⟨0, 0⟩, ⟨0, 0⟩⟩, 0, 0, false⟩
theorem made_flatD (n : Nat) : (madeCells (cellsD zeroD).toArray (n * 13)).toList = flatD (List.replicate n zeroD) := by
  apply List.ext_getElem?
  intro j
  by_cases hj : j < n * 13
  · have e : j = j / 13 * 13 + j % 13 := by omega
    have h1 : (List.replicate n zeroD)[j / 13]? = some zeroD := by rw [List.getElem?_replicate, if_pos (by omega)]
    have h2 := flatD_get h1 (k := j % 13) (Nat.mod_lt _ (by omega))
    rw [← e] at h2
    rw [h2]
    have h3 : j % 13 < 13 := Nat.mod_lt _ (by omega)
    simp [madeCells, hj, cellsD]
    have : j % 13 = 0 ∨ j % 13 = 1 ∨ j % 13 = 2 ∨ j % 13 = 3 ∨ j % 13 = 4 ∨ j % 13 = 5 ∨ j % 13 = 6 ∨ j % 13 = 7 ∨ j % 13 = 8 ∨ j % 13 = 9 ∨ j % 13 = 10 ∨ j % 13 = 11 ∨ j % 13 = 12 := by omega
    rcases this with q | q | q | q | q | q | q | q | q | q | q | q | q <;> simp [q]
  · have h1 : (flatD (List.replicate n zeroD)).length ≤ j := by rw [flatD_length, List.length_replicate]; omega
    rw [List.getElem?_eq_none h1]
    simp [madeCells, hj]
theorem OwnD.base {w : World} {B C : Nat} {v : Value} {l : List Dk} (h : OwnD w B v l) (hC : C ≤ B) : OwnD w C v l := by
  refine ⟨h.1, ?_⟩
  rcases h.2 with hn | ⟨g, cap, cur, e, hB, rest⟩
  · exact Or.inl hn
  · exact Or.inr ⟨g, cap, cur, e, Nat.le_trans hC hB, rest⟩
/-- A group's decks and people in rows of their own. -/
structure GO (w : World) (B gd gp : Nat) (ds : List Dk) (ps : List Pe) : Prop where
  d : OwD w B gd ds.length ds.length ds
  p : Ow w B gp ps.length ps.length ps
  ne : gd ≠ gp
theorem GO.lt {w : World} {B gd gp : Nat} {ds : List Dk} {ps : List Pe} (h : GO w B gd gp ds ps) : max gd gp < w.heap.size := by
  have a := h.d.bl.2; have b := h.p.bl.2; omega
theorem GO.ge {w : World} {B gd gp : Nat} {ds : List Dk} {ps : List Pe} (h : GO w B gd gp ds ps) : B ≤ gd ∧ B ≤ gp := ⟨h.d.bl.1, h.p.bl.1⟩
theorem GO.below {W w : World} {B C gd gp : Nat} {ds : List Dk} {ps : List Pe} (h : GO W B gd gp ds ps) (hb : Below C W w) (hC : max gd gp < C) : GO w B gd gp ds ps := ⟨h.d.below hb (by omega), h.p.below hb (by omega), h.ne⟩
theorem GO.alloc {w : World} {B gd gp : Nat} {ds : List Dk} {ps : List Pe} (h : GO w B gd gp ds ps) (o : Obj) : GO (w.alloc o) B gd gp ds ps := ⟨h.d.alloc o, h.p.alloc o, h.ne⟩
theorem GO.base {w : World} {B C gd gp : Nat} {ds : List Dk} {ps : List Pe} (h : GO w B gd gp ds ps) (hC : C ≤ B) : GO w C gd gp ds ps := ⟨h.d.base hC, h.p.base hC, h.ne⟩
theorem GO.din {w : World} {B gd gp : Nat} {ds : List Dk} {ps : List Pe} (h : GO w B gd gp ds ps) : DIn w w.heap.size (some ⟨gd, 0, none⟩) ds := h.d.pin h.d.bl.2
theorem GO.pin {w : World} {B gd gp : Nat} {ds : List Dk} {ps : List Pe} (h : GO w B gd gp ds ps) : PIn w w.heap.size (some ⟨gp, 0, none⟩) ps := h.p.pin h.p.bl.2
end Go.Proofs.YtnfdplfifpmhoaaGreatDoor
