/-
  What stores of whole structs leave.
-/
import Derived.Test.YtngdfckknkgdgaaCarY
namespace Go.Proofs.Ytngdfckknkgdgaa
open Go.RowKit Pl
set_option linter.unusedSimpArgs false
set_option linter.unusedVariables false

theorem HAt.put_h {W : World} {b k : Nat} {h : Hs} (a : HAt W b h) (hne : b ≠ k) (g : Hs) : HAt (putH W k g) b h := ((((((((((((a.other hne).other hne).other hne).other hne).other hne).other hne).other hne).other hne).other hne).other hne).other hne).other hne)
theorem HAt.putX_other {W : World} {b k : Nat} {h : Hs} (a : HAt W b h) (hne : b ≠ k) (g : Cm) : HAt (putX W k g) b h := (((a.other hne).other hne).other hne)
theorem CW.put_h {W : World} {b k : Nat} {c : Cs} (a : CW W b c) (hne : b ≠ k) (g : Hs) : CW (putH W k g) b c := ((((((((((((a.other hne).other hne).other hne).other hne).other hne).other hne).other hne).other hne).other hne).other hne).other hne).other hne)
theorem CW.putX_other {W : World} {b k : Nat} {c : Cs} (a : CW W b c) (hne : b ≠ k) (g : Cm) : CW (putX W k g) b c := (((a.other hne).other hne).other hne)
theorem XW.put_h {W : World} {b k : Nat} {x : Cm} (a : XW W b x) (hne : b ≠ k) (g : Hs) : XW (putH W k g) b x := ((((((((((((a.other hne).other hne).other hne).other hne).other hne).other hne).other hne).other hne).other hne).other hne).other hne).other hne)
theorem XW.putX_other {W : World} {b k : Nat} {x : Cm} (a : XW W b x) (hne : b ≠ k) (g : Cm) : XW (putX W k g) b x := (((a.other hne).other hne).other hne)
theorem XW.put3_other {W : World} {b k : Nat} {x : Cm} (a : XW W b x) (hne : b ≠ k) (g : Cs) : XW (put3 W k g) b x := (((a.other hne).other hne).other hne)
theorem below_put3 {B : Nat} {w W : World} (h : Below B w W) {b : Nat} (hb : B ≤ b) (c : Cs) : Below B w (put3 W b c) := (((h.setCell hb _).setCell hb _).setCell hb _)
theorem below_putX {B : Nat} {w W : World} (h : Below B w W) {b : Nat} (hb : B ≤ b) (c : Cm) : Below B w (putX W b c) := (((h.setCell hb _).setCell hb _).setCell hb _)
theorem below_putH {B : Nat} {w W : World} (h : Below B w W) {b : Nat} (hb : B ≤ b) (g : Hs) : Below B w (putH W b g) := ((((((((((((h.setCell hb _).setCell hb _).setCell hb _).setCell hb _).setCell hb _).setCell hb _).setCell hb _).setCell hb _).setCell hb _).setCell hb _).setCell hb _).setCell hb _)
theorem R3.put_h {W : World} {b : Nat} (a : R3 W (b + 1)) (g : Hs) : R3 (putH W b g) (b + 1) := ((((((((((((a.other (by omega)).other (by omega)).other (by omega)).other (by omega)).other (by omega)).other (by omega)).other (by omega)).other (by omega)).other (by omega)).other (by omega)).other (by omega)).other (by omega))
theorem HW.hat {W : World} {b : Nat} {h : Hs} (a : HW W b h) : HAt W b h := ⟨a.c0, a.c1, a.c2, a.c3, a.c4, a.c5, a.c6, a.c7, a.c8, a.c9, a.c10, a.c11⟩
theorem CodeIn.up {w : World} {B C : Nat} {a : Option Addr} {len : Nat} (h : CodeIn w B a len) (hB : B ≤ C) : CodeIn w C a len := by
  obtain ⟨h1, h2⟩ := h
  refine ⟨h1, ?_⟩
  rcases h2 with h2 | ⟨b, off, h3, h4, h5⟩
  · exact Or.inl h2
  · exact Or.inr ⟨b, off, h3, by omega, h5⟩
end Go.Proofs.Ytngdfckknkgdgaa
