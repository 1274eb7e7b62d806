/-
  People and ledgers, in plain and in cells.
-/
import Derived.Test.YtehdgifinanbbaaCellsP
namespace Go.Proofs.Ytehdgifinanbbaa.Pl
/-- A person; a ledger. -/
structure Pe where
  id : Int
  fr : Int
  tw : Int
  sh : Int
  ca : Int
  st : Int
  pl : Int
structure Lg where
  nx : Int
  ps : List Pe
end Go.Proofs.Ytehdgifinanbbaa.Pl
namespace Go.Proofs.Ytehdgifinanbbaa
open Go.RowKit Pl
set_option linter.unusedSimpArgs false
set_option linter.unusedVariables false

/-- A person lies from the cell o of the block b on. -/
structure P7 (w : World) (b o : Nat) (p : Pe) : Prop where
  c0 : w.cell? ⟨b, o, none⟩ = some (.int .i64 p.id)
  c1 : w.cell? ⟨b, o + 1, none⟩ = some (.int .i64 p.fr)
  c2 : w.cell? ⟨b, o + 2, none⟩ = some (.int .i64 p.tw)
  c3 : w.cell? ⟨b, o + 3, none⟩ = some (.int .i64 p.sh)
  c4 : w.cell? ⟨b, o + 4, none⟩ = some (.int .i64 p.ca)
  c5 : w.cell? ⟨b, o + 5, none⟩ = some (.int .i64 p.st)
  c6 : w.cell? ⟨b, o + 6, none⟩ = some (.int .i64 p.pl)
theorem P7.lt {w : World} {b o : Nat} {p : Pe} (a : P7 w b o p) : b < w.heap.size := World.block_lt_of_cell? w _ a.c0
theorem P7.of {W w : World} {b o : Nat} {p : Pe} (a : P7 W b o p) (hc : ∀ k, w.cell? ⟨b, k, none⟩ = W.cell? ⟨b, k, none⟩) : P7 w b o p :=
  ⟨(hc _).trans a.c0, (hc _).trans a.c1, (hc _).trans a.c2, (hc _).trans a.c3, (hc _).trans a.c4, (hc _).trans a.c5, (hc _).trans a.c6⟩
theorem P7.at_ (w : World) (p : Pe) (T : TypeId) (b : Nat) (hb : b = w.heap.size) : P7 (w.alloc (.cells #[.int .i64 p.id, .int .i64 p.fr, .int .i64 p.tw, .int .i64 p.sh, .int .i64 p.ca, .int .i64 p.st, .int .i64 p.pl] T)) b 0 p := by
  subst hb
  constructor <;> simp
theorem P7.below {W w : World} {b o B : Nat} {p : Pe} (a : P7 W b o p) (hb : Below B W w) (hB : b < B) : P7 w b o p := a.of (fun k => hb.cell (p := ⟨b, k, none⟩) hB)
theorem P7.alloc {W : World} {b o : Nat} {p : Pe} (a : P7 W b o p) (ob : Obj) : P7 (W.alloc ob) b o p := a.below ((Below.refl _ _).alloc (Nat.le_refl _) ob) a.lt
theorem P7.drew {W : World} {b o : Nat} {p : Pe} (a : P7 W b o p) : P7 W.drew b o p := a.below (Below.refl W.heap.size W).drew a.lt
/-- The people l lie in a slice that begins at a. -/
def PIn (w : World) (B : Nat) (a : Option Addr) (l : List Pe) : Prop := l = [] ∨ ∃ b o, a = some ⟨b, o, none⟩ ∧ b < B ∧ ∀ i p, l[i]? = some p → P7 w b (o + i * 7) p
theorem PIn.below {W w : World} {B C : Nat} {a : Option Addr} {l : List Pe} (h : PIn W B a l) (hb : Below C W w) (hB : B ≤ C) : PIn w B a l := by
  rcases h with h | ⟨b, o, e, hl, h⟩
  · exact Or.inl h
  · exact Or.inr ⟨b, o, e, hl, fun i p hp => (h i p hp).below hb (by omega)⟩
/-- A ledger lies in the block b. -/
structure LAt (w : World) (b : Nat) (nx : Int) (a : Option Addr) (len cap : Nat) : Prop where
  c0 : w.cell? ⟨b, 0, none⟩ = some (.int .i64 nx)
  c1 : w.cell? ⟨b, 1, none⟩ = some (.slice a len cap)
theorem LAt.lt {w : World} {b : Nat} {nx : Int} {a : Option Addr} {len cap : Nat} (h : LAt w b nx a len cap) : b < w.heap.size := World.block_lt_of_cell? w _ h.c0
theorem LAt.below {W w : World} {b B : Nat} {nx : Int} {a : Option Addr} {len cap : Nat} (h : LAt W b nx a len cap) (hb : Below B W w) (hB : b < B) : LAt w b nx a len cap :=
  ⟨(hb.cell (p := ⟨b, 0, none⟩) hB).trans h.c0, (hb.cell (p := ⟨b, 1, none⟩) hB).trans h.c1⟩
/-- Is a person in a state, in a car (in any, if sh is below 0)? -/
def isIn (st sh ca : Int) (p : Pe) : Bool := p.st == st && (decide (sh < 0) || (p.sh == sh && p.ca == ca))
def cnt (st sh ca : Int) (l : List Pe) : Nat := l.countP (isIn st sh ca)
theorem countP_take {f : Pe → Bool} {l : List Pe} {i : Nat} {p : Pe} (h : l[i]? = some p) : (l.take (i + 1)).countP f = (l.take i).countP f + (if f p = true then 1 else 0) := by
  have hi : i < l.length := (List.getElem?_eq_some_iff.1 h).1
  have e : l[i] = p := (List.getElem?_eq_some_iff.1 h).2
  rw [List.take_succ_eq_append_getElem hi, List.countP_append, e]
  simp [List.countP_cons]
end Go.Proofs.Ytehdgifinanbbaa
