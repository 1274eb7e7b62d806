/-
  An event, in plain and in a block of its own.
-/
import Derived.Test.YtoacnglcneliiaaGreatDoorFnd
namespace Go.Proofs.YtoacnglcneliiaaGreatDoor.Pl
/-- An event: its tick, its kind, whose, where, where to. -/
structure Ev where
  tk : Int
  kd : Int
  id : Int
  fl : Int
  tw : Int
end Go.Proofs.YtoacnglcneliiaaGreatDoor.Pl
namespace Go.Proofs.YtoacnglcneliiaaGreatDoor
open Go.RowKit Pl
set_option linter.unusedSimpArgs false
set_option linter.unusedVariables false

/-- An event's cells, in a block of their own. -/
structure EvW (w : World) (b : Nat) (x : Ev) : Prop where
  c0 : w.cell? ⟨b, 0, none⟩ = some (.int .i64 x.tk)
  c1 : w.cell? ⟨b, 1, none⟩ = some (.int .i64 x.kd)
  c2 : w.cell? ⟨b, 2, none⟩ = some (.int .i64 x.id)
  c3 : w.cell? ⟨b, 3, none⟩ = some (.int .i64 x.fl)
  c4 : w.cell? ⟨b, 4, none⟩ = some (.int .i64 x.tw)
  f0 : w.frozen? ⟨b, 0, none⟩ = false
  f1 : w.frozen? ⟨b, 1, none⟩ = false
  f2 : w.frozen? ⟨b, 2, none⟩ = false
  f3 : w.frozen? ⟨b, 3, none⟩ = false
  f4 : w.frozen? ⟨b, 4, none⟩ = false
theorem EvW.lt {w : World} {b : Nat} {x : Ev} (a : EvW w b x) : b < w.heap.size := World.block_lt_of_cell? w _ a.c0
theorem EvW.at_ (w : World) (x : Ev) (T : TypeId) (b : Nat) (hb : b = w.heap.size) : EvW (w.alloc (.cells #[.int .i64 x.tk, .int .i64 x.kd, .int .i64 x.id, .int .i64 x.fl, .int .i64 x.tw] T)) b x := by
  subst hb
  constructor <;> simp
theorem EvW.of {W w : World} {b : Nat} {x : Ev} (a : EvW W b x) (hc : ∀ o, w.cell? ⟨b, o, none⟩ = W.cell? ⟨b, o, none⟩) (hf : ∀ o, w.frozen? ⟨b, o, none⟩ = W.frozen? ⟨b, o, none⟩) : EvW w b x :=
  ⟨(hc 0).trans a.c0, (hc 1).trans a.c1, (hc 2).trans a.c2, (hc 3).trans a.c3, (hc 4).trans a.c4, (hf 0).trans a.f0, (hf 1).trans a.f1, (hf 2).trans a.f2, (hf 3).trans a.f3, (hf 4).trans a.f4⟩
theorem EvW.below {W w : World} {b B : Nat} {x : Ev} (a : EvW W b x) (hb : Below B W w) (hB : b < B) : EvW w b x :=
  a.of (fun o => hb.cell (p := ⟨b, o, none⟩) hB) (fun o => hb.frozen (p := ⟨b, o, none⟩) hB)
theorem EvW.alloc {W : World} {b : Nat} {x : Ev} (a : EvW W b x) (o : Obj) : EvW (W.alloc o) b x := a.below ((Below.refl _ _).alloc (Nat.le_refl _) o) a.lt
theorem EvW.drew {W : World} {b : Nat} {x : Ev} (a : EvW W b x) : EvW W.drew b x := a.below (Below.refl W.heap.size W).drew a.lt
theorem list5 {l : List Int} (h : l.length = 5) : ∃ a b c d e : Int, l = [a, b, c, d, e] := by
  match l, h with
  | [a, b, c, d, e], _ => exact ⟨a, b, c, d, e, rfl⟩
/-- What is asked of an event, in a house without a fault. -/
def Hs.evC (h : Hs) (e : Ev) : Int :=
  if (inB e.tk 0 1000000000000000 && inB e.id 1 1000000000000000) = true then
    (if inB e.kd 1 5 = true then
      (if inB e.fl 0 (h.fl - 1) = true then
        (if (e.kd == 1) = true then Hs.callC h e.fl e.tw else if (e.tw != 0 || (e.kd == 5 && e.fl != 0)) = true then 1 else 0)
      else 3)
    else 5)
  else 3
def Hs.ev (h : Hs) (e : Ev) : Int := if h.fault = 0 then Hs.evC h e else h.fault
end Go.Proofs.YtoacnglcneliiaaGreatDoor
