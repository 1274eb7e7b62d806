/-
  Events in a row of their own.
-/
import Derived.Test.YtoacnglcneliiaaGreatDoorEvt
import Derived.Test.YtoacnglcneliiaaGreatDoorFnd
import Derived.Laws.AppendOwnNone
namespace Go.Proofs.YtoacnglcneliiaaGreatDoor
open Go.RowKit Pl
set_option linter.unusedSimpArgs false
set_option linter.unusedVariables false

/-- An event lies from the cell o of the block b on. -/
structure E5 (w : World) (b o : Nat) (p : Ev) : Prop where
  c0 : w.cell? ⟨b, o, none⟩ = some (.int .i64 p.tk)
  c1 : w.cell? ⟨b, o + 1, none⟩ = some (.int .i64 p.kd)
  c2 : w.cell? ⟨b, o + 2, none⟩ = some (.int .i64 p.id)
  c3 : w.cell? ⟨b, o + 3, none⟩ = some (.int .i64 p.fl)
  c4 : w.cell? ⟨b, o + 4, none⟩ = some (.int .i64 p.tw)
theorem E5.lt {w : World} {b o : Nat} {p : Ev} (a : E5 w b o p) : b < w.heap.size := World.block_lt_of_cell? w _ a.c0
theorem E5.of {W w : World} {b o : Nat} {p : Ev} (a : E5 W b o p) (hc : ∀ k, w.cell? ⟨b, k, none⟩ = W.cell? ⟨b, k, none⟩) : E5 w b o p :=
  ⟨(hc _).trans a.c0, (hc _).trans a.c1, (hc _).trans a.c2, (hc _).trans a.c3, (hc _).trans a.c4⟩
theorem E5.below {W w : World} {b o B : Nat} {p : Ev} (a : E5 W b o p) (hb : Below B W w) (hB : b < B) : E5 w b o p := a.of (fun k => hb.cell (p := ⟨b, k, none⟩) hB)
theorem E5.alloc {W : World} {b o : Nat} {p : Ev} (a : E5 W b o p) (ob : Obj) : E5 (W.alloc ob) b o p := a.below ((Below.refl _ _).alloc (Nat.le_refl _) ob) a.lt
theorem E5.drew {W : World} {b o : Nat} {p : Ev} (a : E5 W b o p) : E5 W.drew b o p := a.below (Below.refl W.heap.size W).drew a.lt
/-- The events l lie in a slice that begins at a. -/
def EIn (w : World) (B : Nat) (a : Option Addr) (l : List Ev) : Prop := l = [] ∨ ∃ b o, a = some ⟨b, o, none⟩ ∧ b < B ∧ ∀ i p, l[i]? = some p → E5 w b (o + i * 5) p
theorem EIn.below {W w : World} {B C : Nat} {a : Option Addr} {l : List Ev} (h : EIn W B a l) (hb : Below C W w) (hB : B ≤ C) : EIn w B a l := by
  rcases h with h | ⟨b, o, e, hl, h⟩
  · exact Or.inl h
  · exact Or.inr ⟨b, o, e, hl, fun i p hp => (h i p hp).below hb (by omega)⟩
def cellsE (p : Ev) : List Value := [.int .i64 p.tk, .int .i64 p.kd, .int .i64 p.id, .int .i64 p.fl, .int .i64 p.tw]
def flatE (l : List Ev) : List Value := l.flatMap cellsE
theorem flatE_nil : flatE [] = [] := rfl
theorem flatE_cons (p : Ev) (l : List Ev) : flatE (p :: l) = cellsE p ++ flatE l := rfl
theorem flatE_append (l m : List Ev) : flatE (l ++ m) = flatE l ++ flatE m := by simp [flatE]
theorem flatE_length (l : List Ev) : (flatE l).length = l.length * 5 := by
  induction l with
  | nil => rfl
  | cons p l ih => rw [flatE_cons, List.length_append, ih, List.length_cons]; simp [cellsE]; omega
theorem flatE_get {l : List Ev} {i : Nat} {p : Ev} (h : l[i]? = some p) {k : Nat} (hk : k < 5) : (flatE l)[i * 5 + k]? = (cellsE p)[k]? := by
  induction l generalizing i with
  | nil => simp at h
  | cons q l ih =>
    rw [flatE_cons]
    cases i with
    | zero =>
      simp at h
      subst h
      rw [List.getElem?_append_left (by simp [cellsE]; omega)]
      simp
    | succ i =>
      rw [List.getElem?_append_right (by simp [cellsE]; omega)]
      rw [show (i + 1) * 5 + k - (cellsE q).length = i * 5 + k by simp [cellsE]; omega]
      exact ih (by simpa using h)
theorem flatE_one (l : List Ev) : ∀ u ∈ flatE l, u.oneCell' = true := by
  intro u hu
  obtain ⟨p, _, hp⟩ := List.mem_flatMap.1 hu
  simp [cellsE] at hp
  rcases hp with rfl | rfl | rfl | rfl | rfl <;> rfl
theorem flatE_set (l : List Ev) (i k : Nat) (p q : Ev) (u : Value) (h : l[i]? = some p) (hk : k < 5) (e : (cellsE p).set k u = cellsE q) : (flatE l).set (i * 5 + k) u = flatE (l.set i q) := by
  induction l generalizing i with
  | nil => simp at h
  | cons r l ih =>
    cases i with
    | zero =>
      simp at h
      subst h
      rw [List.set_cons_zero, flatE_cons, flatE_cons, List.set_append_left _ _ (by simp [cellsE]; omega)]
      simp [e]
    | succ i =>
      rw [List.set_cons_succ, flatE_cons, flatE_cons, List.set_append_right _ _ (by simp [cellsE]; omega)]
      rw [show (i + 1) * 5 + k - (cellsE r).length = i * 5 + k by simp [cellsE]; omega]
      rw [ih i (by simpa using h)]

/-- The people l lie in a row of their own, from the block B on: the slice v. -/
def OwnE (w : World) (B : Nat) (v : Value) (l : List Ev) : Prop := w.ownsRow B 34 5 v l.length (flatE l)
theorem OwnE.below {W w : World} {B C : Nat} {v : Value} {l : List Ev} (h : OwnE W B v l) (hb : Below C W w) (hC : ∀ k, v.ownBlock = some k → k < C) : OwnE w B v l := by
  refine ⟨h.1, ?_⟩
  rcases h.2 with hn | ⟨g, cap, cur, rfl, hB, hg, rest⟩
  · exact Or.inl hn
  · exact Or.inr ⟨g, cap, cur, rfl, hB, (hb.block g (hC g rfl)).trans hg, rest⟩
theorem OwnE.lt {w : World} {B : Nat} {v : Value} {l : List Ev} (h : OwnE w B v l) : ∀ k, v.ownBlock = some k → B ≤ k ∧ k < w.heap.size := World.ownsRow.lt h
theorem OwnE.alloc {w : World} {B : Nat} {v : Value} {l : List Ev} (h : OwnE w B v l) (o : Obj) : OwnE (w.alloc o) B v l := World.ownsRow.alloc h o
theorem OwnE.drew {w : World} {B : Nat} {v : Value} {l : List Ev} (h : OwnE w B v l) : OwnE w.drew B v l := h
theorem OwnE.kept {w w' : World} {B : Nat} {v : Value} {l : List Ev} {row : Option Nat} (h : OwnE w B v l) (hg : w.grownBy w' row) (hne : v.ownBlock = none ∨ v.ownBlock ≠ row) : OwnE w' B v l := World.ownsRow.kept h hg hne
/-- What such a slice is. -/
theorem OwnE.cases {w : World} {B : Nat} {v : Value} {l : List Ev} (h : OwnE w B v l) :
    (v = .slice none 0 0 ∧ l = []) ∨ ∃ g cap, v = .slice (some ⟨g, 0, none⟩) l.length cap ∧ B ≤ g ∧ g < w.heap.size ∧ l.length ≤ cap ∧ cap ≤ maxLen := by
  rcases h.2 with ⟨e, hn⟩ | ⟨g, cap, cur, e, hB, hg, hc, hm, _⟩
  · exact Or.inl ⟨e, List.eq_nil_of_length_eq_zero hn⟩
  · exact Or.inr ⟨g, cap, e, hB, (Array.getElem?_eq_some_iff.1 hg).1, hc, hm⟩
/-- .. at the head of the block g: n of them, room for cap. -/
def OwE (w : World) (B g n cap : Nat) (l : List Ev) : Prop := l.length = n ∧ w.ownsRow B 34 5 (.slice (some ⟨g, 0, none⟩) n cap) n (flatE l)
theorem OwE.own {w : World} {B g n cap : Nat} {l : List Ev} (h : OwE w B g n cap l) : OwnE w B (.slice (some ⟨g, 0, none⟩) n cap) l := by
  obtain ⟨rfl, h⟩ := h
  exact h
theorem OwnE.ow {w : World} {B g cap : Nat} {l : List Ev} (h : OwnE w B (.slice (some ⟨g, 0, none⟩) l.length cap) l) : OwE w B g l.length cap l := ⟨rfl, h⟩
theorem OwE.bl {w : World} {B g n cap : Nat} {l : List Ev} (h : OwE w B g n cap l) : B ≤ g ∧ g < w.heap.size := World.ownsRow.lt h.2 g rfl
theorem OwE.base {w : World} {B C g n cap : Nat} {l : List Ev} (h : OwE w B g n cap l) (hC : C ≤ B) : OwE w C g n cap l := by
  obtain ⟨e, h⟩ := h
  refine ⟨e, h.1, ?_⟩
  rcases h.2 with hn | ⟨g', cap', cur, e', hB, rest⟩
  · exact Or.inl hn
  · exact Or.inr ⟨g', cap', cur, e', Nat.le_trans hC hB, rest⟩
theorem OwE.pin {w : World} {B g n cap C : Nat} {l : List Ev} (h : OwE w B g n cap l) (hC : g < C) : EIn w C (some ⟨g, 0, none⟩) l := by
  refine Or.inr ⟨g, 0, rfl, hC, fun i p hp => ?_⟩
  have hi : i < l.length := (List.getElem?_eq_some_iff.1 hp).1
  have c : ∀ k, k < 5 → w.cell? ⟨g, i * 5 + k, none⟩ = (cellsE p)[k]? := fun k hk => (World.ownsRow.cellAt h.2 (i * 5 + k) (by have := h.1; omega)).trans (flatE_get hp hk)
  rw [Nat.zero_add]
  exact ⟨c 0 (by omega), c 1 (by omega), c 2 (by omega), c 3 (by omega), c 4 (by omega)⟩
theorem EIn.mono {w : World} {B C : Nat} {a : Option Addr} {l : List Ev} (h : EIn w B a l) (hC : B ≤ C) : EIn w C a l := by
  rcases h with h | ⟨b, o, e, hl, h⟩
  · exact Or.inl h
  · exact Or.inr ⟨b, o, e, by omega, h⟩
theorem OwE.e5 {w : World} {B g n cap : Nat} {l : List Ev} (h : OwE w B g n cap l) {i : Nat} {p : Ev} (hp : l[i]? = some p) : E5 w g (i * 5) p := by
  have hi : i < l.length := (List.getElem?_eq_some_iff.1 hp).1
  have c : ∀ k, k < 5 → w.cell? ⟨g, i * 5 + k, none⟩ = (cellsE p)[k]? := fun k hk => (World.ownsRow.cellAt h.2 (i * 5 + k) (by have := h.1; omega)).trans (flatE_get hp hk)
  exact ⟨c 0 (by omega), c 1 (by omega), c 2 (by omega), c 3 (by omega), c 4 (by omega)⟩
theorem OwE.fz {w : World} {B g n cap : Nat} {l : List Ev} (h : OwE w B g n cap l) (k : Nat) : w.frozen? ⟨g, k, none⟩ = false := World.ownsRow.frozenAt h.2 k
theorem OwE.kept {w w' : World} {B g n cap : Nat} {l : List Ev} {row : Option Nat} (h : OwE w B g n cap l) (hg : w.grownBy w' row) (hne : some g ≠ row) : OwE w' B g n cap l := ⟨h.1, World.ownsRow.kept h.2 hg (Or.inr hne)⟩
theorem OwE.below {W w : World} {B C g n cap : Nat} {l : List Ev} (h : OwE W B g n cap l) (hb : Below C W w) (hC : g < C) : OwE w B g n cap l := by
  obtain ⟨e, h⟩ := h
  refine ⟨e, h.1, ?_⟩
  rcases h.2 with hn | ⟨g', cap', cur, e', hB, hg, rest⟩
  · exact Or.inl hn
  · refine Or.inr ⟨g', cap', cur, e', hB, (hb.block g' ?_).trans hg, rest⟩
    simp at e'
    omega
theorem OwE.alloc {w : World} {B g n cap : Nat} {l : List Ev} (h : OwE w B g n cap l) (o : Obj) : OwE (w.alloc o) B g n cap l := ⟨h.1, World.ownsRow.alloc h.2 o⟩
theorem OwE.drew {w : World} {B g n cap : Nat} {l : List Ev} (h : OwE w B g n cap l) : OwE w.drew B g n cap l := h
theorem OwE.other {w : World} {B g n cap : Nat} {l : List Ev} (h : OwE w B g n cap l) {p : Addr} (hne : g ≠ p.block) (u : Value) : OwE (w.setCell p u) B g n cap l := by
  refine h.kept (row := some p.block) ⟨rfl, rfl, rfl, by simp [World.setCell], fun i _ hne => ?_⟩ (by simpa using hne)
  exact Below.heap_setCell _ _ _ _ (fun e => hne (by rw [e]))
/-- A field of one of them is written. -/
theorem OwE.set {w : World} {B g n cap : Nat} {l : List Ev} (h : OwE w B g n cap l) {i k : Nat} {p q : Ev} {u : Value} (hp : l[i]? = some p) (hk : k < 5) (e : (cellsE p).set k u = cellsE q) :
    OwE (w.setCell ⟨g, i * 5 + k, none⟩ u) B g n cap (l.set i q) := by
  have a := (World.ownsRow.stored h.2 (i * 5 + k) u).1
  rw [flatE_set l i k p q u hp hk e] at a
  exact ⟨by rw [List.length_set]; exact h.1, a⟩
theorem OwnE.pin {w : World} {B : Nat} {v : Value} {l : List Ev} (h : OwnE w B v l) : ∃ a cap, v = .slice a l.length cap ∧ EIn w w.heap.size a l := by
  rcases h.cases with ⟨e, hl⟩ | ⟨g, cap, e, hB, hg, _⟩
  · subst hl
    exact ⟨none, 0, e, Or.inl rfl⟩
  · subst e
    refine ⟨_, cap, rfl, Or.inr ⟨g, 0, rfl, hg, fun i p hp => ?_⟩⟩
    rw [Nat.zero_add]
    exact h.ow.e5 hp
theorem OwnE.other {w : World} {B : Nat} {v : Value} {l : List Ev} (h : OwnE w B v l) {p : Addr} (hne : v.ownBlock ≠ some p.block) (u : Value) : OwnE (w.setCell p u) B v l := by
  refine h.kept (row := some p.block) ⟨rfl, rfl, rfl, by simp [World.setCell], fun i _ hne => ?_⟩ (Or.inr hne)
  exact Below.heap_setCell _ _ _ _ (fun e => hne (by rw [e]))
def zeroE : Ev := ⟨0, 0, 0, 0, 0⟩
theorem made_flatE (n : Nat) : (madeCells (cellsE zeroE).toArray (n * 5)).toList = flatE (List.replicate n zeroE) := by
  apply List.ext_getElem?
  intro j
  by_cases hj : j < n * 5
  · have e : j = j / 5 * 5 + j % 5 := by omega
    have h1 : (List.replicate n zeroE)[j / 5]? = some zeroE := by rw [List.getElem?_replicate, if_pos (by omega)]
    have h2 := flatE_get h1 (k := j % 5) (Nat.mod_lt _ (by omega))
    rw [← e] at h2
    rw [h2]
    have h3 : j % 5 < 5 := Nat.mod_lt _ (by omega)
    simp [madeCells, hj, cellsE]
    have : j % 5 = 0 ∨ j % 5 = 1 ∨ j % 5 = 2 ∨ j % 5 = 3 ∨ j % 5 = 4 := by omega
    rcases this with q | q | q | q | q <;> simp [q]
  · have h1 : (flatE (List.replicate n zeroE)).length ≤ j := by rw [flatE_length, List.length_replicate]; omega
    rw [List.getElem?_eq_none h1]
    simp [madeCells, hj]
theorem infoEV : (Tryz.prog.info? 34).map (fun i => (i.zero, i.size, i.bytes)) = some (some (.agg (cellsE zeroE).toArray), 5, 40) := by kernel_rfl
theorem undEVS : Tryz.prog.underlying 26 = some (.slice 34) := by kernel_rfl
theorem newsE_at {w : World} {b o : Nat} {m : List Ev} (h : ∀ i p, m[i]? = some p → E5 w b (o + i * 5) p) : ∀ j u, (flatE m)[j]? = some u → w.cell? ((⟨b, o, none⟩ : Addr).add j) = some u := by
  intro j u hu
  have hj : j < m.length * 5 := by rw [← flatE_length]; exact (List.getElem?_eq_some_iff.1 hu).1
  obtain ⟨p, hp⟩ : ∃ p, m[j / 5]? = some p := ⟨_, List.getElem?_eq_getElem (by omega)⟩
  have e : j = j / 5 * 5 + j % 5 := by omega
  have h5 := h _ p hp
  have hm : j % 5 < 5 := Nat.mod_lt _ (by omega)
  rw [e, flatE_get hp hm] at hu
  have ad : (⟨b, o, none⟩ : Addr).add j = ⟨b, o + j / 5 * 5 + j % 5, none⟩ := by
    unfold Addr.add
    by_cases z : j = 0
    · subst z; simp
    · simp [z]; omega
  rw [ad]
  have hc : j % 5 = 0 ∨ j % 5 = 1 ∨ j % 5 = 2 ∨ j % 5 = 3 ∨ j % 5 = 4 := by omega
  rcases hc with q | q | q | q | q <;> rw [q] at hu ⊢ <;> simp [cellsE] at hu <;> subst hu
  · exact h5.c0
  · exact h5.c1
  · exact h5.c2
  · exact h5.c3
  · exact h5.c4
/-- A slice of events that can be read: nil, or at a place. -/
def VIn (w : World) (v : Value) (m : List Ev) : Prop := (v = .slice none 0 0 ∧ m = []) ∨ ∃ ad c, v = .slice (some ad) m.length c ∧ (0 < m.length → ∃ b o, ad = ⟨b, o, none⟩ ∧ ∀ i p, m[i]? = some p → E5 w b (o + i * 5) p)
theorem OwnE.vin {w : World} {B : Nat} {v : Value} {l : List Ev} (h : OwnE w B v l) : VIn w v l := by
  rcases h.cases with ⟨e, hl⟩ | ⟨g, cap, e, _⟩
  · exact Or.inl ⟨e, hl⟩
  · subst e
    exact Or.inr ⟨_, _, rfl, fun _ => ⟨g, 0, rfl, fun i p hp => by rw [Nat.zero_add]; exact h.ow.e5 hp⟩⟩
/-- 'append' of events to a row of one's own. -/
theorem wpList_append_ev {ops : Array Oper} {rest : List Oper} {o : Oper} {w : World} {a : Act} {Q : Exit → Act → World → Prop} (s x : Operand) (B : Nat) (v vx : Value) (l m : List Ev)
    (hown : OwnE w B v l) (hvx : VIn w vx m) (hlen : l.length + m.length ≤ 1000) (hB : B ≤ w.heap.size)
    (hgd : o.guard = none) (ho : o.op = .call { callee := .builtin .append, args := #[s, x], argTypes := #[26, 26] }) (hs : a.eval s = v) (hx : a.eval x = vx)
    (h : ∀ v' w', OwnE w' B v' (l ++ m) → w.grownBy w' v.ownBlock → wpList Tryz.prog ops Q rest (a.put o.dst v') w') :
    wpList Tryz.prog ops Q (o :: rest) a w := by
  obtain ⟨i, hi, hz, hsz, hby⟩ := info_parts infoEV
  rcases hvx with ⟨rfl, rfl⟩ | ⟨ad, c, rfl, hm⟩
  · refine wpList_append_own_none (P := Tryz.prog) hgd s x 26 ho B 34 i 5 undEVS hi v l.length (flatE l) hs hown hx ?_
    exact h v w (by rw [List.append_nil]; exact hown) (World.grownBy.refl _ _)
  · have hnews : ∀ j u, (flatE m)[j]? = some u → w.cell? (ad.add j) = some u := by
      by_cases h0 : 0 < m.length
      · obtain ⟨b, o, rfl, h7⟩ := hm h0
        exact newsE_at h7
      · have e : m = [] := List.eq_nil_of_length_eq_zero (by omega)
        subst e
        intro j u hu
        simp [flatE] at hu
    refine wpList_append_own (P := Tryz.prog) (w := w) hgd s x 26 ho B 34 i (.agg (cellsE zeroE).toArray) 5 40 undEVS hi hz hsz hby rfl (by omega) v l.length (flatE l) hs hown ad m.length c (flatE m) hx (flatE_length m) hnews (flatE_one m) (by unfold maxLen; omega) (by omega) hB ?_
    intro v' w' ho' hg hn
    exact h v' w' (by unfold OwnE; rw [List.length_append, flatE_append]; exact ho') hg
/-- What such an 'append' leaves as it was. -/
theorem belE {w0 w w' : World} {v : Value} {l : List Ev} (hb : Below w0.heap.size w0 w) (ho : OwnE w w0.heap.size v l) (hg : w.grownBy w' v.ownBlock) : Below w0.heap.size w0 w' :=
  hb.trans ⟨hg.os, hg.tape, hg.output, hg.size, fun k hk => hg.block k (Nat.lt_of_lt_of_le hk hb.size) (fun e => by have := (ho.lt k e.symm).1; omega)⟩
end Go.Proofs.YtoacnglcneliiaaGreatDoor
