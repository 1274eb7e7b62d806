/-
  A ledger is drawn.
-/
import Derived.Test.YtoekhkolakielaaDrawN
import Derived.Deep.RegionHeld3
import Derived.BigGuardPart
import Derived.WalkMore
namespace Go.Proofs.Ytoekhkolakielaa
open Go.RowKit Pl
set_option linter.unusedSimpArgs false
set_option linter.unusedVariables false

theorem Lg1.lt {w : World} {lb : Nat} {nx : Int} {v : Value} {l : List Pe} (h : Lg1 w lb nx v l) : lb < w.heap.size := h.f.lt
theorem Lg1.keeps {W w : World} {lb sb : Nat} {nx : Int} {v : Value} {l : List Pe} (h : Lg1 W lb nx v l) (hk : Keeps sb W w) (hne : sb < lb) : Lg1 w lb nx v l := ⟨h.f.keeps hk (by omega), h.o.keeps hk (by omega), h.n, h.a, h.b⟩
theorem Lg1.alloc {W : World} {lb : Nat} {nx : Int} {v : Value} {l : List Pe} (h : Lg1 W lb nx v l) (ob : Obj) : Lg1 (W.alloc ob) lb nx v l := ⟨h.f.alloc _, h.o.alloc _, h.n, h.a, h.b⟩
theorem Lg1.below {W w : World} {lb : Nat} {nx : Int} {v : Value} {l : List Pe} (h : Lg1 W lb nx v l) (hb : Below W.heap.size W w) : Lg1 w lb nx v l := ⟨h.f.below hb h.f.lt, h.o.below hb (fun k hk => (h.o.lt k hk).2), h.n, h.a, h.b⟩
theorem Lg1.drew {W : World} {lb : Nat} {nx : Int} {v : Value} {l : List Pe} (h : Lg1 W lb nx v l) : Lg1 W.drew lb nx v l := h.below (Below.refl _ _).drew
theorem Lg1.lg {w : World} {lb : Nat} {nx : Int} {v : Value} {l : List Pe} (h : Lg1 w lb nx v l) : LG w lb := ⟨nx, v, l, h⟩
/-- A person not filled yet. -/
structure PWz (w : World) (b : Nat) : Prop where
  c0 : w.cell? ⟨b, 0, none⟩ = some (.int .i64 0)
  c1 : w.cell? ⟨b, 1, none⟩ = some (.int .i64 0)
  c2 : w.cell? ⟨b, 2, none⟩ = some (.int .i64 0)
  c3 : w.cell? ⟨b, 3, none⟩ = some (.int .i64 0)
  c4 : w.cell? ⟨b, 4, none⟩ = some (.int .i64 0)
  c5 : w.cell? ⟨b, 5, none⟩ = some (.int .i64 0)
  c6 : w.cell? ⟨b, 6, none⟩ = some (.int .i64 0)
  f0 : w.frozen? ⟨b, 0, none⟩ = false
  f1 : w.frozen? ⟨b, 1, none⟩ = false
  f2 : w.frozen? ⟨b, 2, none⟩ = false
  f3 : w.frozen? ⟨b, 3, none⟩ = false
  f4 : w.frozen? ⟨b, 4, none⟩ = false
  f5 : w.frozen? ⟨b, 5, none⟩ = false
  f6 : w.frozen? ⟨b, 6, none⟩ = false
theorem PWz.lt {w : World} {b : Nat} (a : PWz w b) : b < w.heap.size := World.block_lt_of_cell? w _ a.c0
theorem PWz.of {W w : World} {b : Nat} (a : PWz W b) (hc : ∀ o, w.cell? ⟨b, o, none⟩ = W.cell? ⟨b, o, none⟩) (hf : ∀ o, w.frozen? ⟨b, o, none⟩ = W.frozen? ⟨b, o, none⟩) : PWz w b :=
  ⟨(hc 0).trans a.c0, (hc 1).trans a.c1, (hc 2).trans a.c2, (hc 3).trans a.c3, (hc 4).trans a.c4, (hc 5).trans a.c5, (hc 6).trans a.c6, (hf 0).trans a.f0, (hf 1).trans a.f1, (hf 2).trans a.f2, (hf 3).trans a.f3, (hf 4).trans a.f4, (hf 5).trans a.f5, (hf 6).trans a.f6⟩
theorem PWz.below {W w : World} {b B : Nat} (a : PWz W b) (hb : Below B W w) (hB : b < B) : PWz w b := a.of (fun o => hb.cell (p := ⟨b, o, none⟩) hB) (fun o => hb.frozen (p := ⟨b, o, none⟩) hB)
theorem PWz.alloc {W : World} {b : Nat} (a : PWz W b) (o : Obj) : PWz (W.alloc o) b := a.below ((Below.refl _ _).alloc (Nat.le_refl _) o) a.lt
theorem PWz.keeps {W w : World} {b sb : Nat} (a : PWz W b) (hk : Keeps sb W w) (hne : b ≠ sb) : PWz w b := a.of (fun _ => World.cell?_of_block (w := W) (hk.block b a.lt hne)) (fun _ => World.frozen?_of_block (w := W) (hk.block b a.lt hne))
theorem PWz.at_ (w : World) (b : Nat) (hb : b = w.heap.size) : PWz (w.alloc (.cells #[.int .i64 0, .int .i64 0, .int .i64 0, .int .i64 0, .int .i64 0, .int .i64 0, .int .i64 0] 42)) b := by
  subst hb
  constructor <;> simp
theorem cell_same {w : World} {p : Addr} {u v : Value} (h : w.cell? p = some u) : (w.setCell p v).cell? p = some v := World.cell?_setCell_same _ _ _ h
theorem cell_oth {w : World} {b o k : Nat} {u v : Value} (hne : o ≠ k) (h : w.cell? ⟨b, o, none⟩ = some u) : (w.setCell ⟨b, k, none⟩ v).cell? ⟨b, o, none⟩ = some u := (World.cell?_setCell_other _ _ _ _ (fun e => hne (congrArg Addr.off e).symm)).trans h
theorem PWz.put {w : World} {b : Nat} (a : PWz w b) (p : Pe) : P7 (putP w b 0 p) b 0 p := by
  unfold putP
  refine ⟨?_, ?_, ?_, ?_, ?_, ?_, ?_⟩
  · exact cell_oth (by omega) (cell_oth (by omega) (cell_oth (by omega) (cell_oth (by omega) (cell_oth (by omega) (cell_oth (by omega) (cell_same a.c0))))))
  · exact cell_oth (by omega) (cell_oth (by omega) (cell_oth (by omega) (cell_oth (by omega) (cell_oth (by omega) (cell_same (cell_oth (by omega) a.c1))))))
  · exact cell_oth (by omega) (cell_oth (by omega) (cell_oth (by omega) (cell_oth (by omega) (cell_same (cell_oth (by omega) (cell_oth (by omega) a.c2))))))
  · exact cell_oth (by omega) (cell_oth (by omega) (cell_oth (by omega) (cell_same (cell_oth (by omega) (cell_oth (by omega) (cell_oth (by omega) a.c3))))))
  · exact cell_oth (by omega) (cell_oth (by omega) (cell_same (cell_oth (by omega) (cell_oth (by omega) (cell_oth (by omega) (cell_oth (by omega) a.c4))))))
  · exact cell_oth (by omega) (cell_same (cell_oth (by omega) (cell_oth (by omega) (cell_oth (by omega) (cell_oth (by omega) (cell_oth (by omega) a.c5))))))
  · exact cell_same (cell_oth (by omega) (cell_oth (by omega) (cell_oth (by omega) (cell_oth (by omega) (cell_oth (by omega) (cell_oth (by omega) a.c6))))))
theorem Own.putP_o {w : World} {B b : Nat} {u : Value} {l : List Pe} (h : Own w B u l) (hne : u.ownBlock ≠ some b) (o : Nat) (p : Pe) : Own (putP w b o p) B u l :=
  ((((((h.other (p := ⟨b, o, none⟩) hne _).other (p := ⟨b, o + 1, none⟩) hne _).other (p := ⟨b, o + 2, none⟩) hne _).other (p := ⟨b, o + 3, none⟩) hne _).other (p := ⟨b, o + 4, none⟩) hne _).other (p := ⟨b, o + 5, none⟩) hne _).other (p := ⟨b, o + 6, none⟩) hne _
theorem Lg1.put7 {w : World} {lb pb g n cp : Nat} {nx : Int} {l : List Pe} (h : Lg1 w lb nx (.slice (some ⟨g, 0, none⟩) n cp) l) (h1 : lb ≠ pb) (h2 : g ≠ pb) (p : Pe) : Lg1 (putP w pb 0 p) lb nx (.slice (some ⟨g, 0, none⟩) n cp) l :=
  ⟨((((((h.f.other h1).other h1).other h1).other h1).other h1).other h1).other h1, h.o.putP_o (fun e => h2 (Option.some.inj e)) _ _, h.n, h.a, h.b⟩
end Go.Proofs.Ytoekhkolakielaa
