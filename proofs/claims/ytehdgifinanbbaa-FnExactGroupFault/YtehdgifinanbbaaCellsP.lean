/-
  Results that are stored whole into a block of their own.
-/
import Derived.Test.YtehdgifinanbbaaCells
import Derived.Deep.DeepCutAuto
namespace Go.Proofs.Ytehdgifinanbbaa
open Go.RowKit Pl

theorem cellS {W : World} {b k o p : Nat} {v : Value} (hne : b ≠ k) : (W.setCell ⟨k, o, none⟩ v).cell? ⟨b, p, none⟩ = W.cell? ⟨b, p, none⟩ := World.cell?_setCell_other _ _ _ _ (fun e => hne (congrArg Addr.block e).symm)
def put2 (W : World) (b : Nat) (k v : Int) : World := ((W.setCell ⟨b, 0, none⟩ (.int .i64 k)).setCell ⟨b, 1, none⟩ (.int .i64 v))
theorem R2.put {W : World} {b : Nat} (a : R2 W b) (k v : Int) : VAt (put2 W b k v) b k v :=
  ⟨((World.cell?_setCell_other _ _ _ _ (by simp)).trans ((World.cell?_setCell_same _ _ _ (a.c0)))), (World.cell?_setCell_same _ _ _ (((World.cell?_setCell_other _ _ _ _ (by simp)).trans (a.c1))))⟩
theorem below_put2 {B : Nat} {w W : World} (h : Below B w W) {b : Nat} (hb : B ≤ b) (k v : Int) : Below B w (put2 W b k v) := ((h.setCell hb _).setCell hb _)
def put4 (W : World) (b : Nat) (k : Int) (c : Cs) : World := ((((W.setCell ⟨b, 0, none⟩ (.int .i64 k)).setCell ⟨b, 1, none⟩ (.int .i64 c.pos)).setCell ⟨b, 2, none⟩ (.int .i64 c.vel)).setCell ⟨b, 3, none⟩ (.int .i64 c.door))
theorem R4.put {W : World} {b : Nat} (a : R4 W b) (k : Int) (c : Cs) : V4 (put4 W b k c) b k c :=
  ⟨((World.cell?_setCell_other _ _ _ _ (by simp)).trans (((World.cell?_setCell_other _ _ _ _ (by simp)).trans (((World.cell?_setCell_other _ _ _ _ (by simp)).trans ((World.cell?_setCell_same _ _ _ (a.c0)))))))), ((World.cell?_setCell_other _ _ _ _ (by simp)).trans (((World.cell?_setCell_other _ _ _ _ (by simp)).trans ((World.cell?_setCell_same _ _ _ (((World.cell?_setCell_other _ _ _ _ (by simp)).trans (a.c1)))))))), ((World.cell?_setCell_other _ _ _ _ (by simp)).trans ((World.cell?_setCell_same _ _ _ (((World.cell?_setCell_other _ _ _ _ (by simp)).trans (((World.cell?_setCell_other _ _ _ _ (by simp)).trans (a.c2)))))))), (World.cell?_setCell_same _ _ _ (((World.cell?_setCell_other _ _ _ _ (by simp)).trans (((World.cell?_setCell_other _ _ _ _ (by simp)).trans (((World.cell?_setCell_other _ _ _ _ (by simp)).trans (a.c3))))))))⟩
theorem below_put4 {B : Nat} {w W : World} (h : Below B w W) {b : Nat} (hb : B ≤ b) (k : Int) (c : Cs) : Below B w (put4 W b k c) := ((((h.setCell hb _).setCell hb _).setCell hb _).setCell hb _)
end Go.Proofs.Ytehdgifinanbbaa
