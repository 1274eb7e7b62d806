/-
  The command that the bytes draw: some command, and nothing that was there has turned.
-/
import Derived.Test.YtngdfckknkgdgaaDrawT
import Derived.Deep.CutBlock
namespace Go.Proofs.Ytngdfckknkgdgaa
open Go.RowKit Pl
set_option linter.unusedSimpArgs false
set_option linter.unusedVariables false

/-- A command, stored whole. -/
def putX (W : World) (b : Nat) (x : Cm) : World := ((W.setCell ⟨b, 0, none⟩ (.int .i64 x.push)).setCell ⟨b, 1, none⟩ (.bool x.brk)).setCell ⟨b, 2, none⟩ (.bool x.opn)
theorem XW.put {W : World} {b : Nat} {c : Cm} (a : XW W b c) (g : Cm) : XW (putX W b g) b g := ((a.set_push g.push).set_brk g.brk).set_opn g.opn
theorem SrcT.putX {w : World} {sb B : Nat} {a : Option Addr} {len cap T : Nat} (h : SrcT w sb B a len cap T) (b : Nat) (g : Cm) (hb : b ≠ sb) (hB : B ≤ b) : SrcT (putX w b g) sb B a len cap T := ((h.other b _ _ hb hB).other b _ _ hb hB).other b _ _ hb hB
theorem Keeps.putX {sb b : Nat} {a w : World} (h : Keeps sb a w) (hb : a.heap.size ≤ b) (g : Cm) : Keeps sb a (putX w b g) := ((h.own hb _ _).own hb _ _).own hb _ _

end Go.Proofs.Ytngdfckknkgdgaa
