/-
  Decks and groups, in plain and in cells.
-/
import Derived.Test.YtnfdplfifpmhoaaGreatDoorSpan
import Derived.Test.YtnfdplfifpmhoaaGreatDoorFnd
namespace Go.Proofs.YtnfdplfifpmhoaaGreatDoor.Pl
/-- A deck: its shaft and spans, the phases of its cars, whether it is held. A group. -/
structure Dk where
  sh : Sh
  sp : Ss
  pl : Int
  pu : Int
  hd : Bool
structure Gr where
  h : Hs
  ds : List Dk
  led : Lg
  tk : Int
  rc : Bool
end Go.Proofs.YtnfdplfifpmhoaaGreatDoor.Pl
namespace Go.Proofs.YtnfdplfifpmhoaaGreatDoor
open Go.RowKit Pl
set_option linter.unusedSimpArgs false
set_option linter.unusedVariables false

/-- What is wrong with a deck, with decks, with a group. -/
def phB (d : Dk) : Bool := (d.sh.lo.door != 0 && d.pl == 0) || (d.sh.up.door != 0 && d.pu == 0)
def Hs.deck (h : Hs) (d : Dk) : Int := if h.shaft d.sh = 0 then (if Hs.spans h d.sp = 0 then (if inB d.pl 0 2 = true ∧ inB d.pu 0 2 = true then (if phB d = true then 1 else 0) else 3) else Hs.spans h d.sp) else h.shaft d.sh
def Hs.decks (h : Hs) : List Dk → Int
  | [] => 0
  | d :: l => if Hs.deck h d = 0 then Hs.decks h l else Hs.deck h d
def awayB (n : Nat) (l : List Pe) : Bool := l.any fun p => decide ((n : Int) ≤ p.sh)
def Gr.faultC (g : Gr) : Int := if inB (g.ds.length : Int) 1 3 = true then (if Hs.decks g.h g.ds = 0 then (if Hs.led g.h g.led = 0 then (if awayB g.ds.length g.led.ps = true then 1 else if inB g.tk 0 1000000000000000 = true then 0 else 3) else Hs.led g.h g.led) else Hs.decks g.h g.ds) else 2
def Gr.fault (g : Gr) : Int := if g.h.fault = 0 then Gr.faultC g else g.h.fault
theorem decks_step {h : Hs} {l : List Dk} {i : Nat} {d : Dk} (hd : l[i]? = some d) (ok : ∀ j e, j < i → l[j]? = some e → Hs.deck h e = 0) : Hs.decks h l = (if Hs.deck h d = 0 then Hs.decks h (l.drop (i + 1)) else Hs.deck h d) := by
  induction l generalizing i with
  | nil => simp at hd
  | cons q l ih =>
    cases i with
    | zero =>
      simp at hd
      subst hd
      simp [Hs.decks]
    | succ i =>
      have h0 := ok 0 q (by omega) (by simp)
      show (if Hs.deck h q = 0 then Hs.decks h l else _) = _
      rw [if_pos h0, ih (by simpa using hd) (fun j e hj he => ok (j + 1) e (by omega) (by simpa using he))]
      simp
theorem decks_all {h : Hs} {l : List Dk} (ok : ∀ (j : Nat) e, l[j]? = some e → Hs.deck h e = 0) : Hs.decks h l = 0 := by
  induction l with
  | nil => rfl
  | cons q l ih =>
    show (if Hs.deck h q = 0 then Hs.decks h l else _) = _
    rw [if_pos (ok 0 q (by simp))]
    exact ih (fun j e he => ok (j + 1) e (by simpa using he))
theorem decks_zero {h : Hs} {l : List Dk} (e : Hs.decks h l = 0) : ∀ (j : Nat) d, l[j]? = some d → Hs.deck h d = 0 := by
  induction l with
  | nil => intro j d hd; simp at hd
  | cons q l ih =>
    have e' : (if Hs.deck h q = 0 then Hs.decks h l else Hs.deck h q) = 0 := e
    intro j d hd
    split at e'
    case isFalse c => exact absurd e' c
    case isTrue c =>
      cases j with
      | zero => simp at hd; subst hd; exact c
      | succ j => exact ih e' j d (by simpa using hd)
/-- A deck lies from the cell o of the block b on. -/
structure D13 (w : World) (b o : Nat) (d : Dk) : Prop where
  c0 : w.cell? ⟨b, o, none⟩ = some (.int .i64 d.sh.lo.pos)
  c1 : w.cell? ⟨b, o + 1, none⟩ = some (.int .i64 d.sh.lo.vel)
  c2 : w.cell? ⟨b, o + 2, none⟩ = some (.int .i64 d.sh.lo.door)
  c3 : w.cell? ⟨b, o + 3, none⟩ = some (.int .i64 d.sh.up.pos)
  c4 : w.cell? ⟨b, o + 4, none⟩ = some (.int .i64 d.sh.up.vel)
  c5 : w.cell? ⟨b, o + 5, none⟩ = some (.int .i64 d.sh.up.door)
  c6 : w.cell? ⟨b, o + 6, none⟩ = some (.int .i64 d.sp.l.lo)
  c7 : w.cell? ⟨b, o + 7, none⟩ = some (.int .i64 d.sp.l.hi)
  c8 : w.cell? ⟨b, o + 8, none⟩ = some (.int .i64 d.sp.u.lo)
  c9 : w.cell? ⟨b, o + 9, none⟩ = some (.int .i64 d.sp.u.hi)
  c10 : w.cell? ⟨b, o + 10, none⟩ = some (.int .i64 d.pl)
  c11 : w.cell? ⟨b, o + 11, none⟩ = some (.int .i64 d.pu)
  c12 : w.cell? ⟨b, o + 12, none⟩ = some (.bool d.hd)
theorem D13.lt {w : World} {b o : Nat} {d : Dk} (a : D13 w b o d) : b < w.heap.size := World.block_lt_of_cell? w _ a.c0
theorem D13.of {W w : World} {b o : Nat} {d : Dk} (a : D13 W b o d) (hc : ∀ k, w.cell? ⟨b, k, none⟩ = W.cell? ⟨b, k, none⟩) : D13 w b o d :=
  ⟨(hc _).trans a.c0, (hc _).trans a.c1, (hc _).trans a.c2, (hc _).trans a.c3, (hc _).trans a.c4, (hc _).trans a.c5, (hc _).trans a.c6, (hc _).trans a.c7, (hc _).trans a.c8, (hc _).trans a.c9, (hc _).trans a.c10, (hc _).trans a.c11, (hc _).trans a.c12⟩
theorem D13.below {W w : World} {b o : Nat} {B : Nat} {d : Dk} (a : D13 W b o d) (hb : Below B W w) (hB : b < B) : D13 w b o d := a.of (fun k => hb.cell (p := ⟨b, k, none⟩) hB)
theorem D13.alloc {W : World} {b o : Nat} {d : Dk} (a : D13 W b o d) (ob : Obj) : D13 (W.alloc ob) b o d := a.below ((Below.refl _ _).alloc (Nat.le_refl _) ob) a.lt
theorem D13.drew {W : World} {b o : Nat} {d : Dk} (a : D13 W b o d) : D13 W.drew b o d := a.below (Below.refl W.heap.size W).drew a.lt
theorem D13.other {W : World} {b o : Nat} {k q : Nat} {u : Value} {d : Dk} (a : D13 W b o d) (hne : b ≠ k) : D13 (W.setCell ⟨k, q, none⟩ u) b o d := a.of (fun _ => World.cell?_setCell_other _ _ _ _ (fun e => hne (congrArg Addr.block e).symm))
theorem D13.grown {W w : World} {b o : Nat} {d : Dk} {row : Option Nat} (a : D13 W b o d) (hg : W.grownBy w row) (hne : some b ≠ row) : D13 w b o d := a.of (fun o => World.cell?_of_block (w := W) (hg.block b a.lt hne))
theorem D13.at_ (w : World) (d : Dk) (T : TypeId) (b : Nat) (hb : b = w.heap.size) : D13 (w.alloc (.cells #[.int .i64 d.sh.lo.pos, .int .i64 d.sh.lo.vel, .int .i64 d.sh.lo.door, .int .i64 d.sh.up.pos, .int .i64 d.sh.up.vel, .int .i64 d.sh.up.door, .int .i64 d.sp.l.lo, .int .i64 d.sp.l.hi, .int .i64 d.sp.u.lo, .int .i64 d.sp.u.hi, .int .i64 d.pl, .int .i64 d.pu, .bool d.hd] T)) b 0 d := by
  subst hb
  constructor <;> simp
/-- The decks l lie in a slice that begins at a. -/
def DIn (w : World) (B : Nat) (a : Option Addr) (l : List Dk) : Prop := l = [] ∨ ∃ b o, a = some ⟨b, o, none⟩ ∧ b < B ∧ ∀ i d, l[i]? = some d → D13 w b (o + i * 13) d
theorem DIn.below {W w : World} {B C : Nat} {a : Option Addr} {l : List Dk} (h : DIn W B a l) (hb : Below C W w) (hB : B ≤ C) : DIn w B a l := by
  rcases h with h | ⟨b, o, e, hl, h⟩
  · exact Or.inl h
  · exact Or.inr ⟨b, o, e, hl, fun i d hd => (h i d hd).below hb (by omega)⟩
theorem DIn.mono {w : World} {B C : Nat} {a : Option Addr} {l : List Dk} (h : DIn w B a l) (hC : B ≤ C) : DIn w C a l := by
  rcases h with h | ⟨b, o, e, hl, h⟩
  · exact Or.inl h
  · exact Or.inr ⟨b, o, e, by omega, h⟩
/-- A group, a deck, a group's result in a block of its own. -/
abbrev gvs (h : Hs) (dv : Value) (nx : Int) (pv : Value) (tk : Int) (rc : Bool) : List Value := [.int .i64 h.fl, .int .i64 h.gp, .int .i64 h.ln, .int .i64 h.rf, .int .i64 h.sp, .int .i64 h.pu, .int .i64 h.br, .int .i64 h.dr, .int .i64 h.lv, .int .i64 h.dO, .int .i64 h.ld, .int .i64 h.qu, dv, .int .i64 nx, pv, .int .i64 tk, .bool rc]
def zeroH : Hs := ⟨0, 0, 0, 0, 0, 0, 0, 0, 0, 0, 0, 0⟩
end Go.Proofs.YtnfdplfifpmhoaaGreatDoor
