/-
  Pairs of floors that no zone has, in plain numbers.
-/
import Derived.Test.YtnpnlckdggakmaaZonV
import Derived.Test.YtnpnlckdggakmaaZonQ
namespace Go.Proofs.Ytnpnlckdggakmaa.Pl
open Go.RowKit
set_option linter.unusedSimpArgs false
set_option linter.unusedVariables false

/-- The pairs over the floor a that no zone has: the first k of them; all of the first floors. -/
def Hs.lostP (h : Hs) (l : List Int) (a b : Nat) : List Int := if (h.svL l (a : Int) (b : Int)).length = 0 then [(a : Int) * 12 + (b : Int)] else []
def Hs.lostIn (h : Hs) (l : List Int) (a : Nat) : Nat → List Int
  | 0 => []
  | k + 1 => Hs.lostIn h l a k ++ Hs.lostP h l a (a + 1 + k)
def Hs.lostTo (h : Hs) (l : List Int) (F : Nat) : Nat → List Int
  | 0 => []
  | a + 1 => Hs.lostTo h l F a ++ Hs.lostIn h l a (F - (a + 1))
theorem lostIn_len (h : Hs) (l : List Int) (a : Nat) : ∀ k, (Hs.lostIn h l a k).length ≤ k
  | 0 => by simp [Hs.lostIn]
  | k + 1 => by
    have := lostIn_len h l a k
    rw [Hs.lostIn, List.length_append]
    unfold Hs.lostP
    split <;> simp <;> omega
theorem lostTo_len (h : Hs) (l : List Int) (F : Nat) (hF : F ≤ 12) : ∀ a, (Hs.lostTo h l F a).length ≤ 12 * a
  | 0 => by simp [Hs.lostTo]
  | a + 1 => by
    have := lostTo_len h l F hF a
    have := lostIn_len h l a (F - (a + 1))
    rw [Hs.lostTo, List.length_append]; omega
def Hs.plL (h : Hs) (l : List Int) : List Int := if h.znK l = 0 then Hs.lostTo h l h.fl.toNat h.fl.toNat else []
theorem plL_len (h : Hs) (l : List Int) : (h.plL l).length ≤ 1048576 := by
  unfold Hs.plL
  split
  · rename_i e
    have o := fl_of (znK_zero e).1
    have := lostTo_len h l h.fl.toNat (by omega) h.fl.toNat
    omega
  · simp
end Go.Proofs.Ytnpnlckdggakmaa.Pl
