/-
  People in a row of their own.
-/
import Derived.Test.YtehdgifinanbbaaPers
import Derived.OwnWalk
import Derived.Laws.OwnMore
namespace Go.Proofs.Ytehdgifinanbbaa
open Go.RowKit Pl
set_option linter.unusedSimpArgs false
set_option linter.unusedVariables false

def cells7 (p : Pe) : List Value := [.int .i64 p.id, .int .i64 p.fr, .int .i64 p.tw, .int .i64 p.sh, .int .i64 p.ca, .int .i64 p.st, .int .i64 p.pl]
def flat (l : List Pe) : List Value := l.flatMap cells7
theorem flat_nil : flat [] = [] := rfl
theorem flat_cons (p : Pe) (l : List Pe) : flat (p :: l) = cells7 p ++ flat l := rfl
theorem flat_append (l m : List Pe) : flat (l ++ m) = flat l ++ flat m := by simp [flat]
theorem flat_length (l : List Pe) : (flat l).length = l.length * 7 := by
  induction l with
  | nil => rfl
  | cons p l ih => rw [flat_cons, List.length_append, ih, List.length_cons]; simp [cells7]; omega
theorem flat_get {l : List Pe} {i : Nat} {p : Pe} (h : l[i]? = some p) {k : Nat} (hk : k < 7) : (flat l)[i * 7 + k]? = (cells7 p)[k]? := by
  induction l generalizing i with
  | nil => simp at h
  | cons q l ih =>
    rw [flat_cons]
    cases i with
    | zero =>
      simp at h
      subst h
      rw [List.getElem?_append_left (by simp [cells7]; omega)]
      simp
    | succ i =>
      rw [List.getElem?_append_right (by simp [cells7]; omega)]
      rw [show (i + 1) * 7 + k - (cells7 q).length = i * 7 + k by simp [cells7]; omega]
      exact ih (by simpa using h)
theorem flat_one (l : List Pe) : ∀ u ∈ flat l, u.oneCell' = true := by
  intro u hu
  obtain ⟨p, _, hp⟩ := List.mem_flatMap.1 hu
  simp [cells7] at hp
  rcases hp with rfl | rfl | rfl | rfl | rfl | rfl | rfl <;> rfl
theorem flat_set (l : List Pe) (i k : Nat) (p q : Pe) (u : Value) (h : l[i]? = some p) (hk : k < 7) (e : (cells7 p).set k u = cells7 q) : (flat l).set (i * 7 + k) u = flat (l.set i q) := by
  induction l generalizing i with
  | nil => simp at h
  | cons r l ih =>
    cases i with
    | zero =>
      simp at h
      subst h
      rw [List.set_cons_zero, flat_cons, flat_cons, List.set_append_left _ _ (by simp [cells7]; omega)]
      simp [e]
    | succ i =>
      rw [List.set_cons_succ, flat_cons, flat_cons, List.set_append_right _ _ (by simp [cells7]; omega)]
      rw [show (i + 1) * 7 + k - (cells7 r).length = i * 7 + k by simp [cells7]; omega]
      rw [ih i (by simpa using h)]

/-- The people l lie in a row of their own, from the block B on: the slice v. -/
def Own (w : World) (B : Nat) (v : Value) (l : List Pe) : Prop := w.ownsRow B 78 7 v l.length (flat l)
theorem Own.below {W w : World} {B C : Nat} {v : Value} {l : List Pe} (h : Own W B v l) (hb : Below C W w) (hC : ∀ k, v.ownBlock = some k → k < C) : Own w B v l := by
  refine ⟨h.1, ?_⟩
  rcases h.2 with hn | ⟨g, cap, cur, rfl, hB, hg, rest⟩
  · exact Or.inl hn
  · exact Or.inr ⟨g, cap, cur, rfl, hB, (hb.block g (hC g rfl)).trans hg, rest⟩
theorem Own.lt {w : World} {B : Nat} {v : Value} {l : List Pe} (h : Own w B v l) : ∀ k, v.ownBlock = some k → B ≤ k ∧ k < w.heap.size := World.ownsRow.lt h
theorem Own.alloc {w : World} {B : Nat} {v : Value} {l : List Pe} (h : Own w B v l) (o : Obj) : Own (w.alloc o) B v l := World.ownsRow.alloc h o
theorem Own.drew {w : World} {B : Nat} {v : Value} {l : List Pe} (h : Own w B v l) : Own w.drew B v l := h
theorem Own.kept {w w' : World} {B : Nat} {v : Value} {l : List Pe} {row : Option Nat} (h : Own w B v l) (hg : w.grownBy w' row) (hne : v.ownBlock = none ∨ v.ownBlock ≠ row) : Own w' B v l := World.ownsRow.kept h hg hne
/-- What such a slice is. -/
theorem Own.cases {w : World} {B : Nat} {v : Value} {l : List Pe} (h : Own w B v l) :
    (v = .slice none 0 0 ∧ l = []) ∨ ∃ g cap, v = .slice (some ⟨g, 0, none⟩) l.length cap ∧ B ≤ g ∧ g < w.heap.size ∧ l.length ≤ cap ∧ cap ≤ maxLen := by
  rcases h.2 with ⟨e, hn⟩ | ⟨g, cap, cur, e, hB, hg, hc, hm, _⟩
  · exact Or.inl ⟨e, List.eq_nil_of_length_eq_zero hn⟩
  · exact Or.inr ⟨g, cap, e, hB, (Array.getElem?_eq_some_iff.1 hg).1, hc, hm⟩
/-- .. at the head of the block g: n of them, room for cap. -/
def Ow (w : World) (B g n cap : Nat) (l : List Pe) : Prop := l.length = n ∧ w.ownsRow B 78 7 (.slice (some ⟨g, 0, none⟩) n cap) n (flat l)
theorem Ow.own {w : World} {B g n cap : Nat} {l : List Pe} (h : Ow w B g n cap l) : Own w B (.slice (some ⟨g, 0, none⟩) n cap) l := by
  obtain ⟨rfl, h⟩ := h
  exact h
theorem Own.ow {w : World} {B g cap : Nat} {l : List Pe} (h : Own w B (.slice (some ⟨g, 0, none⟩) l.length cap) l) : Ow w B g l.length cap l := ⟨rfl, h⟩
theorem Ow.bl {w : World} {B g n cap : Nat} {l : List Pe} (h : Ow w B g n cap l) : B ≤ g ∧ g < w.heap.size := World.ownsRow.lt h.2 g rfl
theorem Ow.base {w : World} {B C g n cap : Nat} {l : List Pe} (h : Ow w B g n cap l) (hC : C ≤ B) : Ow w C g n cap l := by
  obtain ⟨e, h⟩ := h
  refine ⟨e, h.1, ?_⟩
  rcases h.2 with hn | ⟨g', cap', cur, e', hB, rest⟩
  · exact Or.inl hn
  · exact Or.inr ⟨g', cap', cur, e', Nat.le_trans hC hB, rest⟩
theorem Ow.pin {w : World} {B g n cap C : Nat} {l : List Pe} (h : Ow w B g n cap l) (hC : g < C) : PIn w C (some ⟨g, 0, none⟩) l := by
  refine Or.inr ⟨g, 0, rfl, hC, fun i p hp => ?_⟩
  have hi : i < l.length := (List.getElem?_eq_some_iff.1 hp).1
  have c : ∀ k, k < 7 → w.cell? ⟨g, i * 7 + k, none⟩ = (cells7 p)[k]? := fun k hk => (World.ownsRow.cellAt h.2 (i * 7 + k) (by have := h.1; omega)).trans (flat_get hp hk)
  rw [Nat.zero_add]
  exact ⟨c 0 (by omega), c 1 (by omega), c 2 (by omega), c 3 (by omega), c 4 (by omega), c 5 (by omega), c 6 (by omega)⟩
theorem PIn.mono {w : World} {B C : Nat} {a : Option Addr} {l : List Pe} (h : PIn w B a l) (hC : B ≤ C) : PIn w C a l := by
  rcases h with h | ⟨b, o, e, hl, h⟩
  · exact Or.inl h
  · exact Or.inr ⟨b, o, e, by omega, h⟩
/-- A ledger lies in the block b, and may be written. -/
structure LW (w : World) (b : Nat) (nx : Int) (v : Value) : Prop where
  c0 : w.cell? ⟨b, 0, none⟩ = some (.int .i64 nx)
  c1 : w.cell? ⟨b, 1, none⟩ = some v
  f0 : w.frozen? ⟨b, 0, none⟩ = false
  f1 : w.frozen? ⟨b, 1, none⟩ = false
theorem LW.lt {w : World} {b : Nat} {nx : Int} {v : Value} (h : LW w b nx v) : b < w.heap.size := World.block_lt_of_cell? w _ h.c0
theorem LW.at_ (w : World) (nx : Int) (v : Value) (T : TypeId) (b : Nat) (hb : b = w.heap.size) : LW (w.alloc (.cells #[.int .i64 nx, v] T)) b nx v := by
  subst hb
  constructor <;> simp
theorem LW.of {W w : World} {b : Nat} {nx : Int} {v : Value} (a : LW W b nx v) (hc : ∀ o, w.cell? ⟨b, o, none⟩ = W.cell? ⟨b, o, none⟩) (hf : ∀ o, w.frozen? ⟨b, o, none⟩ = W.frozen? ⟨b, o, none⟩) : LW w b nx v :=
  ⟨(hc 0).trans a.c0, (hc 1).trans a.c1, (hf 0).trans a.f0, (hf 1).trans a.f1⟩
theorem LW.below {W w : World} {b B : Nat} {nx : Int} {v : Value} (a : LW W b nx v) (hb : Below B W w) (hB : b < B) : LW w b nx v :=
  a.of (fun o => hb.cell (p := ⟨b, o, none⟩) hB) (fun o => hb.frozen (p := ⟨b, o, none⟩) hB)
theorem LW.alloc {W : World} {b : Nat} {nx : Int} {v : Value} (a : LW W b nx v) (o : Obj) : LW (W.alloc o) b nx v := a.below ((Below.refl _ _).alloc (Nat.le_refl _) o) a.lt
theorem LW.drew {W : World} {b : Nat} {nx : Int} {v : Value} (a : LW W b nx v) : LW W.drew b nx v := a.below (Below.refl W.heap.size W).drew a.lt
theorem LW.other {W : World} {b k o : Nat} {u : Value} {nx : Int} {v : Value} (a : LW W b nx v) (hne : b ≠ k) : LW (W.setCell ⟨k, o, none⟩ u) b nx v :=
  a.of (fun _ => World.cell?_setCell_other _ _ _ _ (fun e => hne (congrArg Addr.block e).symm)) (fun _ => World.frozen?_setCell _ _ _ _)
theorem LW.set0 {W : World} {b : Nat} {nx : Int} {v : Value} (a : LW W b nx v) (y : Int) : LW (W.setCell ⟨b, 0, none⟩ (.int .i64 y)) b y v :=
  ⟨World.cell?_setCell_same _ _ _ a.c0, (World.cell?_setCell_other _ _ _ _ (by simp)).trans a.c1, (World.frozen?_setCell _ _ _ _).trans a.f0, (World.frozen?_setCell _ _ _ _).trans a.f1⟩
theorem LW.set1 {W : World} {b : Nat} {nx : Int} {v : Value} (a : LW W b nx v) (u : Value) : LW (W.setCell ⟨b, 1, none⟩ u) b nx u :=
  ⟨(World.cell?_setCell_other _ _ _ _ (by simp)).trans a.c0, World.cell?_setCell_same _ _ _ a.c1, (World.frozen?_setCell _ _ _ _).trans a.f0, (World.frozen?_setCell _ _ _ _).trans a.f1⟩
theorem LW.lat {w : World} {b : Nat} {nx : Int} {a : Option Addr} {len cap : Nat} (h : LW w b nx (.slice a len cap)) : LAt w b nx a len cap := ⟨h.c0, h.c1⟩
theorem Ow.p7 {w : World} {B g n cap : Nat} {l : List Pe} (h : Ow w B g n cap l) {i : Nat} {p : Pe} (hp : l[i]? = some p) : P7 w g (i * 7) p := by
  have hi : i < l.length := (List.getElem?_eq_some_iff.1 hp).1
  have c : ∀ k, k < 7 → w.cell? ⟨g, i * 7 + k, none⟩ = (cells7 p)[k]? := fun k hk => (World.ownsRow.cellAt h.2 (i * 7 + k) (by have := h.1; omega)).trans (flat_get hp hk)
  exact ⟨c 0 (by omega), c 1 (by omega), c 2 (by omega), c 3 (by omega), c 4 (by omega), c 5 (by omega), c 6 (by omega)⟩
theorem Ow.fz {w : World} {B g n cap : Nat} {l : List Pe} (h : Ow w B g n cap l) (k : Nat) : w.frozen? ⟨g, k, none⟩ = false := World.ownsRow.frozenAt h.2 k
theorem Ow.kept {w w' : World} {B g n cap : Nat} {l : List Pe} {row : Option Nat} (h : Ow w B g n cap l) (hg : w.grownBy w' row) (hne : some g ≠ row) : Ow w' B g n cap l := ⟨h.1, World.ownsRow.kept h.2 hg (Or.inr hne)⟩
theorem Ow.below {W w : World} {B C g n cap : Nat} {l : List Pe} (h : Ow W B g n cap l) (hb : Below C W w) (hC : g < C) : Ow w B g n cap l := by
  obtain ⟨e, h⟩ := h
  refine ⟨e, h.1, ?_⟩
  rcases h.2 with hn | ⟨g', cap', cur, e', hB, hg, rest⟩
  · exact Or.inl hn
  · refine Or.inr ⟨g', cap', cur, e', hB, (hb.block g' ?_).trans hg, rest⟩
    simp at e'
    omega
theorem Ow.alloc {w : World} {B g n cap : Nat} {l : List Pe} (h : Ow w B g n cap l) (o : Obj) : Ow (w.alloc o) B g n cap l := ⟨h.1, World.ownsRow.alloc h.2 o⟩
theorem Ow.drew {w : World} {B g n cap : Nat} {l : List Pe} (h : Ow w B g n cap l) : Ow w.drew B g n cap l := h
theorem Ow.other {w : World} {B g n cap : Nat} {l : List Pe} (h : Ow w B g n cap l) {p : Addr} (hne : g ≠ p.block) (u : Value) : Ow (w.setCell p u) B g n cap l := by
  refine h.kept (row := some p.block) ⟨rfl, rfl, rfl, by simp [World.setCell], fun i _ hne => ?_⟩ (by simpa using hne)
  exact Below.heap_setCell _ _ _ _ (fun e => hne (by rw [e]))
/-- A field of one of them is written. -/
theorem Ow.set {w : World} {B g n cap : Nat} {l : List Pe} (h : Ow w B g n cap l) {i k : Nat} {p q : Pe} {u : Value} (hp : l[i]? = some p) (hk : k < 7) (e : (cells7 p).set k u = cells7 q) :
    Ow (w.setCell ⟨g, i * 7 + k, none⟩ u) B g n cap (l.set i q) := by
  have a := (World.ownsRow.stored h.2 (i * 7 + k) u).1
  rw [flat_set l i k p q u hp hk e] at a
  exact ⟨by rw [List.length_set]; exact h.1, a⟩
theorem get_set {l : List Pe} {i : Nat} {p q : Pe} (h : l[i]? = some p) : (l.set i q)[i]? = some q := by
  have hi : i < l.length := (List.getElem?_eq_some_iff.1 h).1
  rw [List.getElem?_set_self hi]
/-- One of them is written whole. -/
def putP (W : World) (g o : Nat) (p : Pe) : World := ((((((W.setCell ⟨g, o, none⟩ (.int .i64 p.id)).setCell ⟨g, o + 1, none⟩ (.int .i64 p.fr)).setCell ⟨g, o + 2, none⟩ (.int .i64 p.tw)).setCell ⟨g, o + 3, none⟩ (.int .i64 p.sh)).setCell ⟨g, o + 4, none⟩ (.int .i64 p.ca)).setCell ⟨g, o + 5, none⟩ (.int .i64 p.st)).setCell ⟨g, o + 6, none⟩ (.int .i64 p.pl)
theorem Ow.put {w : World} {B g n cap : Nat} {l : List Pe} (h : Ow w B g n cap l) {i : Nat} {p : Pe} (q : Pe) (hp : l[i]? = some p) : Ow (putP w g (i * 7) q) B g n cap (l.set i q) := by
  have s0 := h.set (k := 0) (u := .int .i64 q.id) (q := ⟨q.id, p.fr, p.tw, p.sh, p.ca, p.st, p.pl⟩) hp (by omega) rfl
  have s1 := s0.set (k := 1) (u := .int .i64 q.fr) (q := ⟨q.id, q.fr, p.tw, p.sh, p.ca, p.st, p.pl⟩) (get_set hp) (by omega) rfl
  have s2 := s1.set (k := 2) (u := .int .i64 q.tw) (q := ⟨q.id, q.fr, q.tw, p.sh, p.ca, p.st, p.pl⟩) (get_set (get_set hp)) (by omega) rfl
  have s3 := s2.set (k := 3) (u := .int .i64 q.sh) (q := ⟨q.id, q.fr, q.tw, q.sh, p.ca, p.st, p.pl⟩) (get_set (get_set (get_set hp))) (by omega) rfl
  have s4 := s3.set (k := 4) (u := .int .i64 q.ca) (q := ⟨q.id, q.fr, q.tw, q.sh, q.ca, p.st, p.pl⟩) (get_set (get_set (get_set (get_set hp)))) (by omega) rfl
  have s5 := s4.set (k := 5) (u := .int .i64 q.st) (q := ⟨q.id, q.fr, q.tw, q.sh, q.ca, q.st, p.pl⟩) (get_set (get_set (get_set (get_set (get_set hp))))) (by omega) rfl
  have s6 := s5.set (k := 6) (u := .int .i64 q.pl) (q := q) (get_set (get_set (get_set (get_set (get_set (get_set hp)))))) (by omega) rfl
  simp only [List.set_set] at s6
  exact s6
theorem below_putP {B : Nat} {w W : World} (h : Below B w W) {g : Nat} (hg : B ≤ g) (o : Nat) (p : Pe) : Below B w (putP W g o p) := ((((((h.setCell hg _).setCell hg _).setCell hg _).setCell hg _).setCell hg _).setCell hg _).setCell hg _
theorem Own.pin {w : World} {B : Nat} {v : Value} {l : List Pe} (h : Own w B v l) : ∃ a cap, v = .slice a l.length cap ∧ PIn w w.heap.size a l := by
  rcases h.cases with ⟨e, hl⟩ | ⟨g, cap, e, hB, hg, _⟩
  · subst hl
    exact ⟨none, 0, e, Or.inl rfl⟩
  · subst e
    refine ⟨_, cap, rfl, Or.inr ⟨g, 0, rfl, hg, fun i p hp => ?_⟩⟩
    rw [Nat.zero_add]
    exact h.ow.p7 hp
theorem Own.other {w : World} {B : Nat} {v : Value} {l : List Pe} (h : Own w B v l) {p : Addr} (hne : v.ownBlock ≠ some p.block) (u : Value) : Own (w.setCell p u) B v l := by
  refine h.kept (row := some p.block) ⟨rfl, rfl, rfl, by simp [World.setCell], fun i _ hne => ?_⟩ (Or.inr hne)
  exact Below.heap_setCell _ _ _ _ (fun e => hne (by rw [e]))
def zeroP : Pe := ⟨0, 0, 0, 0, 0, 0, 0⟩
theorem made_flat (n : Nat) : (madeCells (cells7 zeroP).toArray (n * 7)).toList = flat (List.replicate n zeroP) := by
  apply List.ext_getElem?
  intro j
  by_cases hj : j < n * 7
  · have e : j = j / 7 * 7 + j % 7 := by omega
    have h1 : (List.replicate n zeroP)[j / 7]? = some zeroP := by rw [List.getElem?_replicate, if_pos (by omega)]
    have h2 := flat_get h1 (k := j % 7) (Nat.mod_lt _ (by omega))
    rw [← e] at h2
    rw [h2]
    have h3 : j % 7 < 7 := Nat.mod_lt _ (by omega)
    simp [madeCells, hj, cells7]
    have : j % 7 = 0 ∨ j % 7 = 1 ∨ j % 7 = 2 ∨ j % 7 = 3 ∨ j % 7 = 4 ∨ j % 7 = 5 ∨ j % 7 = 6 := by omega
    rcases this with q | q | q | q | q | q | q <;> simp [q]
  · have h1 : (flat (List.replicate n zeroP)).length ≤ j := by rw [flat_length, List.length_replicate]; omega
    rw [List.getElem?_eq_none h1]
    simp [madeCells, hj]
end Go.Proofs.Ytehdgifinanbbaa
