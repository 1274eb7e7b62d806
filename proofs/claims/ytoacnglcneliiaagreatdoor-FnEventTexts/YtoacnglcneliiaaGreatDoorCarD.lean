/-
  The place in the shaft and the car that the bytes draw.
-/
import Derived.Test.YtoacnglcneliiaaGreatDoorHouseD
import Derived.Test.YtoacnglcneliiaaGreatDoorHouseP
import Derived.Test.YtoacnglcneliiaaGreatDoorHouseN
import Derived.Test.YtoacnglcneliiaaGreatDoorFnd
namespace Go.Proofs.YtoacnglcneliiaaGreatDoor
open Go.RowKit Pl
set_option linter.unusedSimpArgs false

theorem HAt.keeps {W w : World} {b sb : Nat} {h : Hs} (a : HAt W b h) (hk : Keeps sb W w) (hne : b ≠ sb) : HAt w b h :=
  ⟨(hk.cell (p := ⟨b, 0, none⟩) a.lt hne).trans a.c0, (hk.cell (p := ⟨b, 1, none⟩) a.lt hne).trans a.c1, (hk.cell (p := ⟨b, 2, none⟩) a.lt hne).trans a.c2, (hk.cell (p := ⟨b, 3, none⟩) a.lt hne).trans a.c3, (hk.cell (p := ⟨b, 4, none⟩) a.lt hne).trans a.c4, (hk.cell (p := ⟨b, 5, none⟩) a.lt hne).trans a.c5, (hk.cell (p := ⟨b, 6, none⟩) a.lt hne).trans a.c6, (hk.cell (p := ⟨b, 7, none⟩) a.lt hne).trans a.c7, (hk.cell (p := ⟨b, 8, none⟩) a.lt hne).trans a.c8, (hk.cell (p := ⟨b, 9, none⟩) a.lt hne).trans a.c9, (hk.cell (p := ⟨b, 10, none⟩) a.lt hne).trans a.c10, (hk.cell (p := ⟨b, 11, none⟩) a.lt hne).trans a.c11⟩
theorem CW.keeps {W w : World} {b sb : Nat} {c : Cs} (a : CW W b c) (hk : Keeps sb W w) (hne : b ≠ sb) : CW w b c :=
  a.of (fun o => hk.cell (p := ⟨b, o, none⟩) a.lt hne) (fun o => World.frozen?_of_block (w := W) (a := ⟨b, o, none⟩) (hk.block b a.lt hne))
theorem R3.keeps {W w : World} {b sb : Nat} (a : R3 W b) (hk : Keeps sb W w) (hne : b ≠ sb) : R3 w b :=
  a.of (fun o => hk.cell (p := ⟨b, o, none⟩) a.lt hne) (fun o => World.frozen?_of_block (w := W) (a := ⟨b, o, none⟩) (hk.block b a.lt hne))
theorem XW.keeps {W w : World} {b sb : Nat} {x : Cm} (a : XW W b x) (hk : Keeps sb W w) (hne : b ≠ sb) : XW w b x :=
  a.of (fun o => hk.cell (p := ⟨b, o, none⟩) a.lt hne) (fun o => World.frozen?_of_block (w := W) (a := ⟨b, o, none⟩) (hk.block b a.lt hne))

end Go.Proofs.YtoacnglcneliiaaGreatDoor
