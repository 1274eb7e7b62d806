/-
  FormatGroup: the group's words, at tied tables
-/
import Derived.Test.YtnfdplfifpmhoaaGreatDoorRows
import Derived.WalkKit
import Derived.ProofKit
import Derived.OpenShut
import Derived.ChangeOld
import Derived.Below
import Derived.LaidMore
import Derived.MakeChecks
import Derived.Stop.Joined
import Derived.Stop.LaidErr
import Derived.Lib.LaidTab
import Derived.Lib.AppendIntMem
import Derived.SevenTiedAt
import Derived.Test.YtnfdplfifpmhoaaGreatDoorCards
import Derived.Test.YtnfdplfifpmhoaaGreatDoorTie
import Derived.Test.YtnfdplfifpmhoaaGreatDoorFmgI
import Derived.Test.YtnfdplfifpmhoaaGreatDoorFmgS
import Derived.Test.YtnfdplfifpmhoaaGreatDoorFnd
import Derived.Test.YtnfdplfifpmhoaaGreatDoorGrp
import Derived.Test.YtnfdplfifpmhoaaGreatDoorGrpB
import Derived.ChangeArms
import Derived.Deep.Slices
namespace Go.Proofs.YtnfdplfifpmhoaaGreatDoor
open Go.ChangeShapes Go.WideShapes Go.ChangeAt Go.RowKit Go.Joins Pl
set_option linter.unusedSimpArgs false
set_option linter.unusedVariables false

/-- Every number of a person is a number of int64. -/
def wfP (p : Pe) : Prop := ∀ x ∈ [p.id, p.fr, p.tw, p.sh, p.ca, p.st, p.pl], (Lit.int .i64 x).wf = true
def wfL (l : List Pe) : Prop := ∀ p ∈ l, wfP p

theorem list7 {l : List Int} (h : l.length = 7) : ∃ a b c d e f g : Int, l = [a, b, c, d, e, f, g] := by
  match l, h with
  | [a, b, c, d, e, f, g], _ => exact ⟨a, b, c, d, e, f, g, rfl⟩

theorem add_at (b o n : Nat) : (⟨b, o, none⟩ : Addr).add n = ⟨b, o + n, none⟩ := by
  unfold Addr.add
  by_cases h : n = 0 <;> simp [h]

theorem open_led {H : Type} {enc : TypeId × Value → H} {P : Program} {w : World} {base : Nat} {spare : Nat → Bool} {held : Bool} {r : Reach} {b0 : Nat} {t ts te k : TypeId} {fs gs : Array Field} {f0 f1 : Field} {v : Value} {d : DataW H} {p : List MemPlace}
    (hs : P.underlying t = some (.struct fs)) (hsl : P.underlying ts = some (.slice te)) (hg : P.underlying te = some (.struct gs)) (hk : P.underlying k = some (.int .i64)) (hck : P.cellsOf k = 1) (hcs : P.cellsOf ts = 1) (hf : plainFields gs k 7 = true) (hC : P.cellsOf te = 7) (hCC : P.cellsOf t = 2)
    (h0 : fs[0]? = some f0) (t0 : f0.type = k) (o0 : f0.offset = 0) (h1 : fs[1]? = some f1) (t1 : f1.type = ts) (o1 : f1.offset = 1)
    (hv : Value.okWide P w r b0 t v) (h : DataW.Trod enc P w base spare held t v d p) :
    ∃ (x : Lg) (a : Option Addr) (cap : Nat), v = .agg #[.int .i64 x.nx, .slice a x.ps.length cap] ∧ (Lit.int .i64 x.nx).wf = true ∧ wfL x.ps ∧ x.ps.length ≤ maxLen ∧ PIn w w.heap.size a x.ps := by
  obtain ⟨cs, rfl, _⟩ := okWide_struct hs hv
  obtain ⟨fuel, hfu⟩ := h
  obtain ⟨zs, m, _, _, hl, hxl, hall⟩ := DataW.trod_struct hs hfu
  have hl' : cs.toList.length = 2 := by simpa [Value.cells] using hl.trans hCC
  have a0 := hall 0 f0 h0
  have a1 := hall 1 f1 h1
  have z0 : 0 < zs.length := by rw [hxl]; exact (Array.getElem?_eq_some_iff.1 h0).1
  have z1 : 1 < zs.length := by rw [hxl]; exact (Array.getElem?_eq_some_iff.1 h1).1
  rw [List.getElem?_eq_getElem z0, t0, o0, hck] at a0
  rw [List.getElem?_eq_getElem z1, t1, o1, hcs] at a1
  obtain ⟨nx, e0, _, wn⟩ := DataW.trod_int hk a0
  have key : ∀ u : Value, (List.take 1 (List.drop 1 (Value.agg cs).cells.toList)) = [u] → cs = #[.int .i64 nx, u] := by
    intro u hu
    simp only [Value.cells, List.drop_zero] at e0 hu
    have : cs.toList = [.int .i64 nx, u] := by
      match hcl : cs.toList, hl' with
      | [y, z], _ =>
        rw [hcl] at e0 hu
        simp at e0 hu
        rw [e0, hu]
    rw [← this]
  rcases Go.Deep.open_slice hsl a1 with ⟨e1, _⟩ | ⟨a, len, cap, mm, n, D, Pq, e1, hb, hle, hm, hmm, -, hx⟩
  · exact ⟨⟨nx, []⟩, none, 0, by rw [key _ e1]; rfl, wn, fun p hp => absurd hp (List.not_mem_nil), Nat.zero_le _, Or.inl rfl⟩
  · have lm : len ≤ mm := by rw [hmm]; split <;> omega
    have : Inhabited Pe := ⟨⟨0, 0, 0, 0, 0, 0, 0⟩⟩
    obtain ⟨f, hf'⟩ := Go.Deep.choose_lt (α := Pe) (n := len) (p := fun i p => wfP p ∧ ∀ c, c < 7 → w.cell? ((a.add (i * 7)).add c) = [Value.int .i64 p.id, .int .i64 p.fr, .int .i64 p.tw, .int .i64 p.sh, .int .i64 p.ca, .int .i64 p.st, .int .i64 p.pl][c]?) (fun i hi => by
      obtain ⟨cs', g1, g2⟩ := hx i (by omega)
      obtain ⟨xs, x1, x2, x3⟩ := trod_i64s hg hk hck hf hC g2
      obtain ⟨c0, c1, c2, c3, c4, c5, c6, rfl⟩ := list7 x1
      rw [hC] at g1
      obtain ⟨_, _, g3⟩ := World.cells?_some g1
      refine ⟨⟨c0, c1, c2, c3, c4, c5, c6⟩, x3, fun c hc => ?_⟩
      rw [g3 c hc, x2]
      rfl)
    refine ⟨⟨nx, (List.range len).map f⟩, some a, cap, by rw [key _ e1]; simp, wn, ?_, by simp; omega, ?_⟩
    · intro p hp
      obtain ⟨i, hi, rfl⟩ := List.mem_map.1 hp
      exact (hf' i (List.mem_range.1 hi)).1
    · by_cases hz : len = 0
      · left; simp [hz]
      · right
        obtain ⟨b, o, sp⟩ := a
        have hsp : sp = none := by simpa [Addr.add] using World.cell?_spot ((hf' 0 (by omega)).2 0 (by omega))
        subst hsp
        refine ⟨b, o, rfl, ?_, ?_⟩
        · have := (hf' 0 (by omega)).2 0 (by omega)
          simp only [add_at] at this
          exact World.block_lt_of_cell? w _ this
        · intro i p hp
          have hi : i < len := by
            have := (List.getElem?_eq_some_iff.1 hp).1
            simpa using this
          have ep : f i = p := by simpa [hi] using hp
          have hc := (hf' i hi).2
          rw [ep] at hc
          simp only [add_at] at hc
          exact ⟨hc 0 (by omega), hc 1 (by omega), hc 2 (by omega), hc 3 (by omega), hc 4 (by omega), hc 5 (by omega), hc 6 (by omega)⟩
end Go.Proofs.YtnfdplfifpmhoaaGreatDoor

namespace Go.Proofs.YtnfdplfifpmhoaaGreatDoor
open Go.ChangeShapes Go.WideShapes Go.ChangeAt Go.RowKit Go.Joins Pl
set_option linter.unusedSimpArgs false
set_option linter.unusedVariables false

theorem drop_split (cs : List Value) (k n : Nat) : cs.drop k = (cs.drop k).take n ++ cs.drop (k + n) := by
  have : cs.drop (k + n) = (cs.drop k).drop n := by rw [List.drop_drop]
  rw [this, List.take_append_drop]
theorem trod_two {H : Type} {enc : TypeId × Value → H} {P : Program} {w : World} {base : Nat} {spare : Nat → Bool} {held : Bool} {fuel : Nat} {t tc k : TypeId} {fs gs : Array Field} {f0 f1 : Field} {n : Nat} {cs : List Value} {x : DataW H × List MemPlace}
    (hs : P.underlying t = some (.struct fs)) (hg : P.underlying tc = some (.struct gs)) (hk : P.underlying k = some (.int .i64)) (hck : P.cellsOf k = 1) (hf : plainFields gs k n = true) (hC : P.cellsOf tc = n) (hCC : P.cellsOf t = n + n)
    (h0 : fs[0]? = some f0) (t0 : f0.type = tc) (o0 : f0.offset = 0) (h1 : fs[1]? = some f1) (t1 : f1.type = tc) (o1 : f1.offset = n)
    (hfu : DataW.trod enc P w base spare held fuel t cs = some x) :
    ∃ xs ys : List Int, xs.length = n ∧ ys.length = n ∧ cs = (xs ++ ys).map (Value.int .i64) := by
  obtain ⟨zs, m, _, _, hl, hxl, hall⟩ := DataW.trod_struct hs hfu
  have hl' : cs.length = n + n := hl.trans hCC
  have a0 := hall 0 f0 h0
  have a1 := hall 1 f1 h1
  have z0 : 0 < zs.length := by rw [hxl]; exact (Array.getElem?_eq_some_iff.1 h0).1
  have z1 : 1 < zs.length := by rw [hxl]; exact (Array.getElem?_eq_some_iff.1 h1).1
  rw [List.getElem?_eq_getElem z0, t0, o0, hC] at a0
  rw [List.getElem?_eq_getElem z1, t1, o1, hC] at a1
  obtain ⟨xs, x1, x2, _⟩ := trod_i64s hg hk hck hf hC a0
  obtain ⟨ys, y1, y2, _⟩ := trod_i64s hg hk hck hf hC a1
  refine ⟨xs, ys, x1, y1, ?_⟩
  simp only [List.drop_zero] at x2 y2
  rw [List.map_append, ← x2, ← y2]
  have : (cs.drop n).take n = cs.drop n := List.take_of_length_le (by simp; omega)
  rw [this, List.take_append_drop]
theorem list1V {l : List Value} (h : l.length = 1) : ∃ a : Value, l = [a] := by
  match l, h with
  | [a], _ => exact ⟨a, rfl⟩
/-- The shape of a deck's type. -/
structure DeckT (P : Program) (te : TypeId) (tsh tcar tsp tspan k kb : TypeId) (fs fsh gcar fsp gspan : Array Field) (f0 f1 f2 f3 f4 s0 s1 p0 p1 : Field) : Prop where
  hs : P.underlying te = some (.struct fs)
  hsh : P.underlying tsh = some (.struct fsh)
  hcar : P.underlying tcar = some (.struct gcar)
  hsp : P.underlying tsp = some (.struct fsp)
  hspan : P.underlying tspan = some (.struct gspan)
  hk : P.underlying k = some (.int .i64)
  hb : P.underlying kb = some .bool
  ck : P.cellsOf k = 1
  cb : P.cellsOf kb = 1
  pcar : plainFields gcar k 3 = true
  pspan : plainFields gspan k 2 = true
  ccar : P.cellsOf tcar = 3
  cspan : P.cellsOf tspan = 2
  csh : P.cellsOf tsh = 3 + 3
  csp : P.cellsOf tsp = 2 + 2
  cte : P.cellsOf te = 13
  hf0 : fs[0]? = some f0 ∧ f0.type = tsh ∧ f0.offset = 0
  hf1 : fs[1]? = some f1 ∧ f1.type = tsp ∧ f1.offset = 6
  hf2 : fs[2]? = some f2 ∧ f2.type = k ∧ f2.offset = 10
  hf3 : fs[3]? = some f3 ∧ f3.type = k ∧ f3.offset = 11
  hf4 : fs[4]? = some f4 ∧ f4.type = kb ∧ f4.offset = 12
  hs0 : fsh[0]? = some s0 ∧ s0.type = tcar ∧ s0.offset = 0
  hs1 : fsh[1]? = some s1 ∧ s1.type = tcar ∧ s1.offset = 3
  hp0 : fsp[0]? = some p0 ∧ p0.type = tspan ∧ p0.offset = 0
  hp1 : fsp[1]? = some p1 ∧ p1.type = tspan ∧ p1.offset = 2
theorem trod_deck {H : Type} {enc : TypeId × Value → H} {P : Program} {w : World} {base : Nat} {spare : Nat → Bool} {held : Bool} {fuel : Nat} {te tsh tcar tsp tspan k kb : TypeId} {fs fsh gcar fsp gspan : Array Field} {f0 f1 f2 f3 f4 s0 s1 p0 p1 : Field} {cs : List Value} {x : DataW H × List MemPlace}
    (D : DeckT P te tsh tcar tsp tspan k kb fs fsh gcar fsp gspan f0 f1 f2 f3 f4 s0 s1 p0 p1)
    (hfu : DataW.trod enc P w base spare held fuel te cs = some x) : ∃ d : Dk, cs = cellsD d := by
  obtain ⟨zs, m, _, _, hl, hxl, hall⟩ := DataW.trod_struct D.hs hfu
  have hl' : cs.length = 13 := hl.trans D.cte
  have sz : ∀ (i : Nat) (f : Field), fs[i]? = some f → ∃ y, DataW.trod enc P w base spare held m f.type ((cs.drop f.offset).take (P.cellsOf f.type)) = some y := by
    intro i f hf
    have a := hall i f hf
    have z : i < zs.length := by rw [hxl]; exact (Array.getElem?_eq_some_iff.1 hf).1
    rw [List.getElem?_eq_getElem z] at a
    exact ⟨_, a⟩
  obtain ⟨y0, a0⟩ := sz 0 f0 D.hf0.1
  obtain ⟨y1, a1⟩ := sz 1 f1 D.hf1.1
  obtain ⟨y2, a2⟩ := sz 2 f2 D.hf2.1
  obtain ⟨y3, a3⟩ := sz 3 f3 D.hf3.1
  obtain ⟨y4, a4⟩ := sz 4 f4 D.hf4.1
  rw [D.hf0.2.1, D.hf0.2.2, D.csh] at a0
  rw [D.hf1.2.1, D.hf1.2.2, D.csp] at a1
  rw [D.hf2.2.1, D.hf2.2.2, D.ck] at a2
  rw [D.hf3.2.1, D.hf3.2.2, D.ck] at a3
  rw [D.hf4.2.1, D.hf4.2.2, D.cb] at a4
  obtain ⟨xs, ys, x1, y1', e0⟩ := trod_two D.hsh D.hcar D.hk D.ck D.pcar D.ccar D.csh D.hs0.1 D.hs0.2.1 D.hs0.2.2 D.hs1.1 D.hs1.2.1 D.hs1.2.2 a0
  obtain ⟨us, vs, u1, v1, e1⟩ := trod_two D.hsp D.hspan D.hk D.ck D.pspan D.cspan D.csp D.hp0.1 D.hp0.2.1 D.hp0.2.2 D.hp1.1 D.hp1.2.1 D.hp1.2.2 a1
  obtain ⟨pl, e2, _, _⟩ := DataW.trod_int D.hk a2
  obtain ⟨pu, e3, _, _⟩ := DataW.trod_int D.hk a3
  obtain ⟨hd, e4, _⟩ := DataW.trod_bool D.hb a4
  obtain ⟨q0, q1, q2, rfl⟩ := list3 x1
  obtain ⟨q3, q4, q5, rfl⟩ := list3 y1'
  obtain ⟨q6, q7, rfl⟩ := list2 u1
  obtain ⟨q8, q9, rfl⟩ := list2 v1
  refine ⟨⟨⟨⟨q0, q1, q2⟩, ⟨q3, q4, q5⟩⟩, ⟨⟨q6, q7⟩, ⟨q8, q9⟩⟩, pl, pu, hd⟩, ?_⟩
  have s0 := drop_split cs 0 6
  have s1 := drop_split cs 6 4
  have s2 := drop_split cs 10 1
  have s3 := drop_split cs 11 1
  have s4 := drop_split cs 12 1
  have s5 : cs.drop 13 = [] := List.drop_eq_nil_of_le (by omega)
  rw [List.drop_zero] at s0 e0
  rw [s0, e0, s1, e1, s2, e2, s3, e3, s4, e4, s5]
  rfl
theorem open_grp {H : Type} {enc : TypeId × Value → H} {P : Program} {w : World} {base : Nat} {spare : Nat → Bool} {held : Bool} {r : Reach} {b0 : Nat} {t th tds te tl tps tp k kb tsh tcar tsp tspan : TypeId} {gs hs ls ps fs fsh gcar fsp gspan : Array Field} {g0 g1 g2 g3 g4 l0 l1 f0 f1 f2 f3 f4 s0 s1 p0 p1 : Field} {v : Value} {d : DataW H} {p : List MemPlace}
    (D : DeckT P te tsh tcar tsp tspan k kb fs fsh gcar fsp gspan f0 f1 f2 f3 f4 s0 s1 p0 p1)
    (ht : P.underlying t = some (.struct gs)) (hh : P.underlying th = some (.struct hs)) (hds : P.underlying tds = some (.slice te)) (hl : P.underlying tl = some (.struct ls)) (hps : P.underlying tps = some (.slice tp)) (hp : P.underlying tp = some (.struct ps))
    (ph : plainFields hs k 12 = true) (pp : plainFields ps k 7 = true) (ch : P.cellsOf th = 12) (cds : P.cellsOf tds = 1) (cl : P.cellsOf tl = 2) (cps : P.cellsOf tps = 1) (cp : P.cellsOf tp = 7) (ct : P.cellsOf t = 17)
    (hg0 : gs[0]? = some g0 ∧ g0.type = th ∧ g0.offset = 0) (hg1 : gs[1]? = some g1 ∧ g1.type = tds ∧ g1.offset = 12) (hg2 : gs[2]? = some g2 ∧ g2.type = tl ∧ g2.offset = 13) (hg3 : gs[3]? = some g3 ∧ g3.type = k ∧ g3.offset = 15) (hg4 : gs[4]? = some g4 ∧ g4.type = kb ∧ g4.offset = 16)
    (hl0 : ls[0]? = some l0 ∧ l0.type = k ∧ l0.offset = 0) (hl1 : ls[1]? = some l1 ∧ l1.type = tps ∧ l1.offset = 1)
    (hv : Value.okWide P w r b0 t v) (h : DataW.Trod enc P w base spare held t v d p) :
    ∃ (x : Gr) (da : Option Addr) (dc : Nat) (pa : Option Addr) (pc : Nat), v = .agg #[.int .i64 x.h.fl, .int .i64 x.h.gp, .int .i64 x.h.ln, .int .i64 x.h.rf, .int .i64 x.h.sp, .int .i64 x.h.pu, .int .i64 x.h.br, .int .i64 x.h.dr, .int .i64 x.h.lv, .int .i64 x.h.dO, .int .i64 x.h.ld, .int .i64 x.h.qu, .slice da x.ds.length dc, .int .i64 x.led.nx, .slice pa x.led.ps.length pc, .int .i64 x.tk, .bool x.rc] ∧ x.ds.length ≤ maxLen ∧ x.led.ps.length ≤ maxLen ∧ DIn w w.heap.size da x.ds ∧ PIn w w.heap.size pa x.led.ps := by
  obtain ⟨cs, rfl, _⟩ := okWide_struct ht hv
  obtain ⟨fuel, hfu⟩ := h
  obtain ⟨zs, m, _, _, hlen, hxl, hall⟩ := DataW.trod_struct ht hfu
  have hl' : cs.toList.length = 17 := by simpa [Value.cells] using hlen.trans ct
  have sz : ∀ (i : Nat) (f : Field), gs[i]? = some f → ∃ y, DataW.trod enc P w base spare held m f.type ((cs.toList.drop f.offset).take (P.cellsOf f.type)) = some y := by
    intro i f hf
    have a := hall i f hf
    have z : i < zs.length := by rw [hxl]; exact (Array.getElem?_eq_some_iff.1 hf).1
    rw [List.getElem?_eq_getElem z] at a
    exact ⟨_, a⟩
  obtain ⟨y0, a0⟩ := sz 0 g0 hg0.1
  obtain ⟨y1, a1⟩ := sz 1 g1 hg1.1
  obtain ⟨y2, a2⟩ := sz 2 g2 hg2.1
  obtain ⟨y3, a3⟩ := sz 3 g3 hg3.1
  obtain ⟨y4, a4⟩ := sz 4 g4 hg4.1
  rw [hg0.2.1, hg0.2.2, ch] at a0
  rw [hg1.2.1, hg1.2.2, cds] at a1
  rw [hg2.2.1, hg2.2.2, cl] at a2
  rw [hg3.2.1, hg3.2.2, D.ck] at a3
  rw [hg4.2.1, hg4.2.2, D.cb] at a4
  obtain ⟨xs, x1, e0, _⟩ := trod_i64s hh D.hk D.ck ph ch a0
  obtain ⟨tk, e3, _, _⟩ := DataW.trod_int D.hk a3
  obtain ⟨rc, e4, _⟩ := DataW.trod_bool D.hb a4
  obtain ⟨q0, q1, q2, q3, q4, q5, q6, q7, q8, q9, q10, q11, rfl⟩ := list12 x1
  have hD : ∃ (ds : List Dk) (da : Option Addr) (dc : Nat), (cs.toList.drop 12).take 1 = [.slice da ds.length dc] ∧ ds.length ≤ maxLen ∧ DIn w w.heap.size da ds := by
    rcases Go.Deep.open_slice hds a1 with ⟨e1, _⟩ | ⟨a, len, cap, mm, n, D', Pq, e1, hb, hle, hm, hmm, -, hx⟩
    · exact ⟨[], none, 0, e1, Nat.zero_le _, Or.inl rfl⟩
    · have lm : len ≤ mm := by rw [hmm]; split <;> omega
      have : Inhabited Dk := ⟨zeroD⟩
      obtain ⟨f, hf'⟩ := Go.Deep.choose_lt (α := Dk) (n := len) (p := fun i p => ∀ c, c < 13 → w.cell? ((a.add (i * 13)).add c) = (cellsD p)[c]?) (fun i hi => by
        obtain ⟨cs', g1, g2⟩ := hx i (by omega)
        obtain ⟨dd, rfl⟩ := trod_deck D g2
        rw [D.cte] at g1
        obtain ⟨_, _, g3⟩ := World.cells?_some g1
        exact ⟨dd, fun c hc => by rw [g3 c hc]⟩)
      refine ⟨(List.range len).map f, some a, cap, by rw [e1]; simp, by simp; omega, ?_⟩
      by_cases hz : len = 0
      · left; simp [hz]
      · right
        obtain ⟨b, o, sp⟩ := a
        have hsp : sp = none := by simpa [Addr.add] using World.cell?_spot (hf' 0 (by omega) 0 (by omega))
        subst hsp
        have blk : b < w.heap.size := by
          have := hf' 0 (by omega) 0 (by omega)
          simp only [add_at] at this
          exact World.block_lt_of_cell? w _ this
        refine ⟨b, o, rfl, blk, fun i p hp => ?_⟩
        have hi : i < len := by
          have := (List.getElem?_eq_some_iff.1 hp).1
          simpa using this
        have e : p = f i := by simpa [hi] using hp.symm
        subst e
        have c := hf' i hi
        simp only [add_at] at c
        exact ⟨c 0 (by omega), c 1 (by omega), c 2 (by omega), c 3 (by omega), c 4 (by omega), c 5 (by omega), c 6 (by omega), c 7 (by omega), c 8 (by omega), c 9 (by omega), c 10 (by omega), c 11 (by omega), c 12 (by omega)⟩
  have hP : ∃ (nx : Int) (ps : List Pe) (pa : Option Addr) (pc : Nat), (cs.toList.drop 13).take 2 = [.int .i64 nx, .slice pa ps.length pc] ∧ ps.length ≤ maxLen ∧ PIn w w.heap.size pa ps := by
    obtain ⟨zs', m', _, _, hlen', hxl', hall'⟩ := DataW.trod_struct hl a2
    have hl2 : ((cs.toList.drop 13).take 2).length = 2 := hlen'.trans cl
    have b0 := hall' 0 l0 hl0.1
    have b1 := hall' 1 l1 hl1.1
    have z0 : 0 < zs'.length := by rw [hxl']; exact (Array.getElem?_eq_some_iff.1 hl0.1).1
    have z1 : 1 < zs'.length := by rw [hxl']; exact (Array.getElem?_eq_some_iff.1 hl1.1).1
    rw [List.getElem?_eq_getElem z0, hl0.2.1, hl0.2.2, D.ck] at b0
    rw [List.getElem?_eq_getElem z1, hl1.2.1, hl1.2.2, cps] at b1
    obtain ⟨nx, e5, _, _⟩ := DataW.trod_int D.hk b0
    generalize (cs.toList.drop 13).take 2 = c2 at hl2 e5 b1
    have key : ∀ u : Value, List.take 1 (List.drop 1 c2) = [u] → c2 = [.int .i64 nx, u] := by
      intro u hu
      match c2, hl2 with
      | [y, z], _ =>
        simp at e5 hu
        rw [e5, hu]
    rcases Go.Deep.open_slice hps b1 with ⟨e1, _⟩ | ⟨a, len, cap, mm, n, D', Pq, e1, hb, hle, hm, hmm, -, hx⟩
    · exact ⟨nx, [], none, 0, key _ e1, Nat.zero_le _, Or.inl rfl⟩
    · have lm : len ≤ mm := by rw [hmm]; split <;> omega
      have : Inhabited Pe := ⟨⟨0, 0, 0, 0, 0, 0, 0⟩⟩
      obtain ⟨f, hf'⟩ := Go.Deep.choose_lt (α := Pe) (n := len) (p := fun i p => ∀ c, c < 7 → w.cell? ((a.add (i * 7)).add c) = (cells7 p)[c]?) (fun i hi => by
        obtain ⟨cs', g1, g2⟩ := hx i (by omega)
        obtain ⟨xs, x1, x2, x3⟩ := trod_i64s hp D.hk D.ck pp cp g2
        obtain ⟨c0, c1, c2, c3, c4, c5, c6, rfl⟩ := list7 x1
        rw [cp] at g1
        obtain ⟨_, _, g3⟩ := World.cells?_some g1
        refine ⟨⟨c0, c1, c2, c3, c4, c5, c6⟩, fun c hc => ?_⟩
        rw [g3 c hc, x2]
        rfl)
      refine ⟨nx, (List.range len).map f, some a, cap, by rw [key _ e1]; simp, by simp; omega, ?_⟩
      by_cases hz : len = 0
      · left; simp [hz]
      · right
        obtain ⟨b, o, sp⟩ := a
        have hsp : sp = none := by simpa [Addr.add] using World.cell?_spot (hf' 0 (by omega) 0 (by omega))
        subst hsp
        have blk : b < w.heap.size := by
          have := hf' 0 (by omega) 0 (by omega)
          simp only [add_at] at this
          exact World.block_lt_of_cell? w _ this
        refine ⟨b, o, rfl, blk, fun i p hp => ?_⟩
        have hi : i < len := by
          have := (List.getElem?_eq_some_iff.1 hp).1
          simpa using this
        have e : p = f i := by simpa [hi] using hp.symm
        subst e
        have c := hf' i hi
        simp only [add_at] at c
        exact ⟨c 0 (by omega), c 1 (by omega), c 2 (by omega), c 3 (by omega), c 4 (by omega), c 5 (by omega), c 6 (by omega)⟩
  obtain ⟨ds, da, dc, e1, n1, d1⟩ := hD
  obtain ⟨nx, ps', pa, pc, e2, n2, d2⟩ := hP
  refine ⟨⟨⟨q0, q1, q2, q3, q4, q5, q6, q7, q8, q9, q10, q11⟩, ds, ⟨nx, ps'⟩, tk, rc⟩, da, dc, pa, pc, ?_, n1, n2, d1, d2⟩
  have s0 := drop_split cs.toList 0 12
  have s1 := drop_split cs.toList 12 1
  have s2 := drop_split cs.toList 13 2
  have s3 := drop_split cs.toList 15 1
  have s4 := drop_split cs.toList 16 1
  have s5 : cs.toList.drop 17 = [] := List.drop_eq_nil_of_le (by omega)
  rw [List.drop_zero] at s0 e0
  rw [e0, s1, e1, s2, e2, s3, e3, s4, e4, s5] at s0
  have e : cs = (cs.toList).toArray := by simp
  rw [e, s0]
  rfl
end Go.Proofs.YtnfdplfifpmhoaaGreatDoor

namespace Go.Proofs.YtnfdplfifpmhoaaGreatDoor.fnExactFormatGroup
open Go.ChangeShapes Go.WideShapes Go.ChangeAt Go.RowKit
set_option linter.unusedVariables false
set_option linter.unusedSimpArgs false

theorem own : ownKnob Tryz.prog.godebug = none := by kernel_rfl
theorem laidOut : laidOutB Tryz.prog = true := by kernel_rfl

theorem tb_of {W : World} (h : laidMetH Tryz.prog Rows.fnExactFormatGroupRow.laid W) : Tb W := by
  rw [MakeChecks.laidMetH_plain _ _ _ (by kernel_rfl)] at h
  exact Lib.tabBelow_of_tabIs (Lib.tabIs_of_head (g := 0) (t := 137) (e := 98) (n := 20) (by kernel_rfl) (by kernel_rfl) Tryz.underlying137 Tryz.underlying98 (by kernel_rfl) (by kernel_rfl) h.tail.tail)
theorem door_met (os : Os) (args : Array Value) : laidMetH Tryz.prog Rows.fnExactFormatGroupRow.laid ((World.doorLaid Tryz.prog 400 os).forCall (fun _ _ => 0) ⟨#[], args, []⟩).memory :=
  laidMetH_of_parts3 (fuel := 8) (laidMet_of_run' 8 (by kernel_rfl) (by kernel_rfl)) (by kernel_rfl) (by kernel_rfl)

set_option maxRecDepth 20000 in
set_option maxHeartbeats 32000000 in
theorem walk (a0 : Pl.Gr) (d0 : Option Addr) (e0 : Nat) (p0 : Option Addr) (n0 : Nat) (w0 : a0.ds.length ≤ maxLen) (l0 : a0.led.ps.length ≤ maxLen) (w : World) (q0 : DIn w w.heap.size d0 a0.ds) (r0 : PIn w w.heap.size p0 a0.led.ps) (hT : Tb w) :
    Calls Tryz.prog 3 #[.agg #[.int .i64 a0.h.fl, .int .i64 a0.h.gp, .int .i64 a0.h.ln, .int .i64 a0.h.rf, .int .i64 a0.h.sp, .int .i64 a0.h.pu, .int .i64 a0.h.br, .int .i64 a0.h.dr, .int .i64 a0.h.lv, .int .i64 a0.h.dO, .int .i64 a0.h.ld, .int .i64 a0.h.qu, .slice d0 a0.ds.length e0, .int .i64 a0.led.nx, .slice p0 a0.led.ps.length n0, .int .i64 a0.tk, .bool a0.rc]] w fun e w' => e = .returned (.bool true) ∧ Below w.heap.size w w' := by
  obtain ⟨h, ds, ⟨nx, ps⟩, tk, rc⟩ := a0
  dsimp only at q0 r0 w0 l0 ⊢
  have HD : Hid (DIn w w.heap.size d0 ds) := q0
  have HP : Hid (PIn w w.heap.size p0 ps) := r0
  have HTB : Hid (Tb w) := hT
  clear q0 r0 hT
  have F0 : Hid (Blk (w.alloc (.cells #[.int .i64 h.fl, .int .i64 h.gp, .int .i64 h.ln, .int .i64 h.rf, .int .i64 h.sp, .int .i64 h.pu, .int .i64 h.br, .int .i64 h.dr, .int .i64 h.lv, .int .i64 h.dO, .int .i64 h.ld, .int .i64 h.qu, .slice d0 ds.length e0, .int .i64 nx, .slice p0 ps.length n0, .int .i64 tk, .bool rc] 29)) w.heap.size (gvs h (.slice d0 ds.length e0) nx (.slice p0 ps.length n0) tk rc)) := Blk.at_ w #[.int .i64 h.fl, .int .i64 h.gp, .int .i64 h.ln, .int .i64 h.rf, .int .i64 h.sp, .int .i64 h.pu, .int .i64 h.br, .int .i64 h.dr, .int .i64 h.lv, .int .i64 h.dO, .int .i64 h.ld, .int .i64 h.qu, .slice d0 ds.length e0, .int .i64 nx, .slice p0 ps.length n0, .int .i64 tk, .bool rc] _ _ rfl
  have FB : Hid (Below w.heap.size w (w.alloc (.cells #[.int .i64 h.fl, .int .i64 h.gp, .int .i64 h.ln, .int .i64 h.rf, .int .i64 h.sp, .int .i64 h.pu, .int .i64 h.br, .int .i64 h.dr, .int .i64 h.lv, .int .i64 h.dO, .int .i64 h.ld, .int .i64 h.qu, .slice d0 ds.length e0, .int .i64 nx, .slice p0 ps.length n0, .int .i64 tk, .bool rc] 29))) := (Below.refl _ _).alloc (Nat.le_refl _) _
  obtain ⟨W0, hW0⟩ : ∃ W0, W0 = (w.alloc (.cells #[.int .i64 h.fl, .int .i64 h.gp, .int .i64 h.ln, .int .i64 h.rf, .int .i64 h.sp, .int .i64 h.pu, .int .i64 h.br, .int .i64 h.dr, .int .i64 h.lv, .int .i64 h.dO, .int .i64 h.ld, .int .i64 h.qu, .slice d0 ds.length e0, .int .i64 nx, .slice p0 ps.length n0, .int .i64 tk, .bool rc] 29)) := ⟨_, rfl⟩
  rw [← hW0] at F0 FB
  have HW0 : Hid (W0 = (w.alloc (.cells #[.int .i64 h.fl, .int .i64 h.gp, .int .i64 h.ln, .int .i64 h.rf, .int .i64 h.sp, .int .i64 h.pu, .int .i64 h.br, .int .i64 h.dr, .int .i64 h.lv, .int .i64 h.dO, .int .i64 h.ld, .int .i64 h.qu, .slice d0 ds.length e0, .int .i64 nx, .slice p0 ps.length n0, .int .i64 tk, .bool rc] 29))) := hW0
  clear hW0
  by_cases hl : ds.length + ps.length ≤ 1048576
  case neg =>
    have hs : (if (1048576 : Int) < (ds.length : Int) + ps.length then (-1 : Int) else 1048576 - ds.length - ps.length) = -1 := if_pos (by omega)
    go_enter Tryz.func3, Tryz.ntmps3
    go_upto_region 2 with fail
    rw [← HW0.out]
    go_wp2_with (first | (refine load_blk 29 _ Tryz.underlying29 (by kernel_rfl) F0.out rfl rfl rfl ?_) | (go_at_call 4; refine (szGroup_any h d0 ds.length e0 nx p0 ps.length n0 tk rc w0 l0 _).mono ?_; rw [hs]; rintro e w1 ⟨rfl, hb⟩; have FB : Hid (Below w.heap.size w w1) := FB.out.trans (hb.mono FB.out.size); clear hb))
    go_ret
    exact ⟨by simp, FB.out⟩
  have hld : ds.length ≤ 1048576 := by omega
  have hlp : ps.length ≤ 1048576 := by omega
  obtain ⟨r, CS, CI⟩ : ∃ (r : ByteArray), (∀ (gd gp : Nat) (W : World), GO W w.heap.size gd gp ds ps → Calls Tryz.prog 5 #[.agg #[.int .i64 h.fl, .int .i64 h.gp, .int .i64 h.ln, .int .i64 h.rf, .int .i64 h.sp, .int .i64 h.pu, .int .i64 h.br, .int .i64 h.dr, .int .i64 h.lv, .int .i64 h.dO, .int .i64 h.ld, .int .i64 h.qu, .slice (some ⟨gd, 0, none⟩) ds.length ds.length, .int .i64 nx, .slice (some ⟨gp, 0, none⟩) ps.length ps.length, .int .i64 tk, .bool rc]] W (fun e w' => e = .returned (.string r) ∧ Below W.heap.size W w')) ∧ (∀ (gd gp : Nat) (W : World), GO W w.heap.size gd gp ds ps → Tb W → Calls Tryz.prog 7 #[.agg #[.int .i64 h.fl, .int .i64 h.gp, .int .i64 h.ln, .int .i64 h.rf, .int .i64 h.sp, .int .i64 h.pu, .int .i64 h.br, .int .i64 h.dr, .int .i64 h.lv, .int .i64 h.dO, .int .i64 h.ld, .int .i64 h.qu, .slice (some ⟨gd, 0, none⟩) ds.length ds.length, .int .i64 nx, .slice (some ⟨gp, 0, none⟩) ps.length ps.length, .int .i64 tk, .bool rc]] W (fun e w' => e = .returned (.string r) ∧ Below W.heap.size W w')) := ⟨_, fun gd gp W ho => specFormatGroup_any h ds (some ⟨gd, 0, none⟩) ds.length nx ps (some ⟨gp, 0, none⟩) ps.length tk rc hld hlp W ho.din ho.pin, fun gd gp W ho hT => implFormatGroup_any h ds (some ⟨gd, 0, none⟩) ds.length nx ps (some ⟨gp, 0, none⟩) ps.length tk rc hld hlp W ho.din ho.pin hT⟩
  have hs : (if (1048576 : Int) < (ds.length : Int) + ps.length then (-1 : Int) else 1048576 - ds.length - ps.length) = 1048576 - ds.length - ps.length := if_neg (by omega)
  have hs2 : ¬ ((1048576 : Int) - ds.length - ps.length < 0) := by omega
  go_enter Tryz.func3, Tryz.ntmps3
  go_upto_region 2 with fail
  rw [← HW0.out]
  clear HW0
  go_upto_region 5 with (first | (refine load_blk 29 _ Tryz.underlying29 (by kernel_rfl) F0.out rfl rfl rfl ?_) | (go_at_call 4; refine (szGroup_any h d0 ds.length e0 nx p0 ps.length n0 tk rc w0 l0 _).mono ?_; rw [hs]; rintro e w1 ⟨rfl, hb⟩; have F0 : Hid (Blk w1 w.heap.size (gvs h (.slice d0 ds.length e0) nx (.slice p0 ps.length n0) tk rc)) := F0.out.below hb F0.out.lt; have FB : Hid (Below w.heap.size w w1) := FB.out.trans (hb.mono FB.out.size); clear hb))
  clear hs hs2
  go_upto_region 6 with (first | (refine load_blk 29 _ Tryz.underlying29 (by kernel_rfl) F0.out rfl rfl rfl ?_) | (go_at_call 6; refine (toGroup_any h ds d0 e0 nx ps p0 n0 tk rc hld hlp _ ((HD.out.below FB.out (Nat.le_refl _)).mono FB.out.size) ((HP.out.below FB.out (Nat.le_refl _)).mono FB.out.size)).mono ?_; rintro e w2 ⟨gd1, gp1, rfl, ho, hb⟩; have O1 : Hid (GO w2 w.heap.size gd1 gp1 ds ps) := ho.base FB.out.size; have lo1 := ho.ge; clear ho; have F0 : Hid (Blk w2 w.heap.size (gvs h (.slice d0 ds.length e0) nx (.slice p0 ps.length n0) tk rc)) := F0.out.below hb F0.out.lt; have FB : Hid (Below w.heap.size w w2) := FB.out.trans (hb.mono FB.out.size); clear hb) | (go_at_call 5; refine (CS gd1 gp1 _ O1.out).mono ?_; rintro e w3 ⟨rfl, hb⟩; have F0 : Hid (Blk w3 w.heap.size (gvs h (.slice d0 ds.length e0) nx (.slice p0 ps.length n0) tk rc)) := F0.out.below hb F0.out.lt; have FB : Hid (Below w.heap.size w w3) := FB.out.trans (hb.mono FB.out.size); clear hb))
  go_upto_region 7 with (first | (refine load_blk 29 _ Tryz.underlying29 (by kernel_rfl) F0.out rfl rfl rfl ?_) | (go_at_call 6; refine (toGroup_any h ds d0 e0 nx ps p0 n0 tk rc hld hlp _ ((HD.out.below FB.out (Nat.le_refl _)).mono FB.out.size) ((HP.out.below FB.out (Nat.le_refl _)).mono FB.out.size)).mono ?_; rintro e w4 ⟨gd2, gp2, rfl, ho, hb⟩; have O2 : Hid (GO w4 w.heap.size gd2 gp2 ds ps) := ho.base FB.out.size; have lo2 := ho.ge; clear ho; have F0 : Hid (Blk w4 w.heap.size (gvs h (.slice d0 ds.length e0) nx (.slice p0 ps.length n0) tk rc)) := F0.out.below hb F0.out.lt; have FB : Hid (Below w.heap.size w w4) := FB.out.trans (hb.mono FB.out.size); clear hb) | (refine store_new (gvs h (.slice (some ⟨gd2, 0, none⟩) ds.length ds.length) nx (.slice (some ⟨gp2, 0, none⟩) ps.length ps.length) tk rc) 38 _ _ (by kernel_rfl) (by kernel_rfl) (by kernel_rfl) rfl rfl rfl rfl ?_))
  obtain ⟨bx, hbx⟩ : ∃ bx, bx = w4.heap.size := ⟨_, rfl⟩
  obtain ⟨W4, hW4⟩ : ∃ W4, W4 = w4.alloc (.cells (gvs h (.slice (some ⟨gd2, 0, none⟩) ds.length ds.length) nx (.slice (some ⟨gp2, 0, none⟩) ps.length ps.length) tk rc).toArray 38) := ⟨_, rfl⟩
  have lbx : Hid (w.heap.size < bx) := by rw [hbx]; exact F0.out.lt
  have F0 : Hid (Blk W4 w.heap.size (gvs h (.slice d0 ds.length e0) nx (.slice p0 ps.length n0) tk rc)) := by rw [hW4]; exact F0.out.alloc _
  have O2 : Hid (GO W4 w.heap.size gd2 gp2 ds ps) := by rw [hW4]; exact O2.out.alloc _
  have FX : Hid (Blk W4 bx (gvs h (.slice (some ⟨gd2, 0, none⟩) ds.length ds.length) nx (.slice (some ⟨gp2, 0, none⟩) ps.length ps.length) tk rc)) := by rw [hW4]; exact Blk.at_ w4 (gvs h (.slice (some ⟨gd2, 0, none⟩) ds.length ds.length) nx (.slice (some ⟨gp2, 0, none⟩) ps.length ps.length) tk rc).toArray _ _ hbx
  have FB : Hid (Below w.heap.size w W4) := by rw [hW4]; exact FB.out.alloc FB.out.size _
  rw [← hW4, ← hbx]
  clear hW4 hbx
  go_upto_region 10 with (first | (refine load_blk 38 _ Tryz.underlying38 (by kernel_rfl) FX.out rfl rfl rfl ?_) | (go_at_call 7; refine (CI gd2 gp2 _ O2.out (HTB.out.below FB.out (Nat.le_refl _))).mono ?_; rintro e w5 ⟨rfl, hb⟩; have F0 : Hid (Blk w5 w.heap.size (gvs h (.slice d0 ds.length e0) nx (.slice p0 ps.length n0) tk rc)) := F0.out.below hb F0.out.lt; have O2 : Hid (GO w5 w.heap.size gd2 gp2 ds ps) := O2.out.below hb O2.out.lt; have FX : Hid (Blk w5 bx (gvs h (.slice (some ⟨gd2, 0, none⟩) ds.length ds.length) nx (.slice (some ⟨gp2, 0, none⟩) ps.length ps.length) tk rc)) := FX.out.below hb FX.out.lt; have FB : Hid (Below w.heap.size w w5) := FB.out.trans (hb.mono FB.out.size); clear hb))
  have F0 : Hid (Blk w5.drew w.heap.size (gvs h (.slice d0 ds.length e0) nx (.slice p0 ps.length n0) tk rc)) := F0.out.below (Below.refl _ _).drew F0.out.lt
  have O2 : Hid (GO w5.drew w.heap.size gd2 gp2 ds ps) := O2.out.below (Below.refl _ _).drew O2.out.lt
  have FX : Hid (Blk w5.drew bx (gvs h (.slice (some ⟨gd2, 0, none⟩) ds.length ds.length) nx (.slice (some ⟨gp2, 0, none⟩) ps.length ps.length) tk rc)) := FX.out.below (Below.refl _ _).drew FX.out.lt
  have FB : Hid (Below w.heap.size w w5.drew) := FB.out.drew
  have x0 := F0.out.c 0 _ rfl
  have x1 := F0.out.c 1 _ rfl
  have x2 := F0.out.c 2 _ rfl
  have x3 := F0.out.c 3 _ rfl
  have x4 := F0.out.c 4 _ rfl
  have x5 := F0.out.c 5 _ rfl
  have x6 := F0.out.c 6 _ rfl
  have x7 := F0.out.c 7 _ rfl
  have x8 := F0.out.c 8 _ rfl
  have x9 := F0.out.c 9 _ rfl
  have x10 := F0.out.c 10 _ rfl
  have x11 := F0.out.c 11 _ rfl
  have x12 := F0.out.c 12 _ rfl
  have x13 := F0.out.c 13 _ rfl
  have x14 := F0.out.c 14 _ rfl
  have x15 := F0.out.c 15 _ rfl
  have x16 := F0.out.c 16 _ rfl
  have y0 := FX.out.c 0 _ rfl
  have y1 := FX.out.c 1 _ rfl
  have y2 := FX.out.c 2 _ rfl
  have y3 := FX.out.c 3 _ rfl
  have y4 := FX.out.c 4 _ rfl
  have y5 := FX.out.c 5 _ rfl
  have y6 := FX.out.c 6 _ rfl
  have y7 := FX.out.c 7 _ rfl
  have y8 := FX.out.c 8 _ rfl
  have y9 := FX.out.c 9 _ rfl
  have y10 := FX.out.c 10 _ rfl
  have y11 := FX.out.c 11 _ rfl
  have y12 := FX.out.c 12 _ rfl
  have y13 := FX.out.c 13 _ rfl
  have y14 := FX.out.c 14 _ rfl
  have y15 := FX.out.c 15 _ rfl
  have y16 := FX.out.c 16 _ rfl
  refine wp_region_held_drew (S := (fun w'' => w''.cell? ⟨w.heap.size, 0, none⟩ = some (.int .i64 h.fl) ∧ w''.cell? ⟨w.heap.size, 1, none⟩ = some (.int .i64 h.gp) ∧ w''.cell? ⟨w.heap.size, 2, none⟩ = some (.int .i64 h.ln) ∧ w''.cell? ⟨w.heap.size, 3, none⟩ = some (.int .i64 h.rf) ∧ w''.cell? ⟨w.heap.size, 4, none⟩ = some (.int .i64 h.sp) ∧ w''.cell? ⟨w.heap.size, 5, none⟩ = some (.int .i64 h.pu) ∧ w''.cell? ⟨w.heap.size, 6, none⟩ = some (.int .i64 h.br) ∧ w''.cell? ⟨w.heap.size, 7, none⟩ = some (.int .i64 h.dr) ∧ w''.cell? ⟨w.heap.size, 8, none⟩ = some (.int .i64 h.lv) ∧ w''.cell? ⟨w.heap.size, 9, none⟩ = some (.int .i64 h.dO) ∧ w''.cell? ⟨w.heap.size, 10, none⟩ = some (.int .i64 h.ld) ∧ w''.cell? ⟨w.heap.size, 11, none⟩ = some (.int .i64 h.qu) ∧ w''.cell? ⟨w.heap.size, 12, none⟩ = some (.slice d0 ds.length e0) ∧ w''.cell? ⟨w.heap.size, 13, none⟩ = some (.int .i64 nx) ∧ w''.cell? ⟨w.heap.size, 14, none⟩ = some (.slice p0 ps.length n0) ∧ w''.cell? ⟨w.heap.size, 15, none⟩ = some (.int .i64 tk) ∧ w''.cell? ⟨w.heap.size, 16, none⟩ = some (.bool rc) ∧ w''.cell? ⟨bx, 0, none⟩ = some (.int .i64 h.fl) ∧ w''.cell? ⟨bx, 1, none⟩ = some (.int .i64 h.gp) ∧ w''.cell? ⟨bx, 2, none⟩ = some (.int .i64 h.ln) ∧ w''.cell? ⟨bx, 3, none⟩ = some (.int .i64 h.rf) ∧ w''.cell? ⟨bx, 4, none⟩ = some (.int .i64 h.sp) ∧ w''.cell? ⟨bx, 5, none⟩ = some (.int .i64 h.pu) ∧ w''.cell? ⟨bx, 6, none⟩ = some (.int .i64 h.br) ∧ w''.cell? ⟨bx, 7, none⟩ = some (.int .i64 h.dr) ∧ w''.cell? ⟨bx, 8, none⟩ = some (.int .i64 h.lv) ∧ w''.cell? ⟨bx, 9, none⟩ = some (.int .i64 h.dO) ∧ w''.cell? ⟨bx, 10, none⟩ = some (.int .i64 h.ld) ∧ w''.cell? ⟨bx, 11, none⟩ = some (.int .i64 h.qu) ∧ w''.cell? ⟨bx, 12, none⟩ = some (.slice (some ⟨gd2, 0, none⟩) ds.length ds.length) ∧ w''.cell? ⟨bx, 13, none⟩ = some (.int .i64 nx) ∧ w''.cell? ⟨bx, 14, none⟩ = some (.slice (some ⟨gp2, 0, none⟩) ps.length ps.length) ∧ w''.cell? ⟨bx, 15, none⟩ = some (.int .i64 tk) ∧ w''.cell? ⟨bx, 16, none⟩ = some (.bool rc))) (by kernel_rfl) (by (try dsimp only); first | exact ⟨x0, x1, x2, x3, x4, x5, x6, x7, x8, x9, x10, x11, x12, x13, x14, x15, x16, y0, y1, y2, y3, y4, y5, y6, y7, y8, y9, y10, y11, y12, y13, y14, y15, y16⟩ | go_keep) (fun hHeld => ?_)
  obtain ⟨v_1, hw1⟩ : ∃ v_1, v_1 = w5.drew := ⟨_, rfl⟩
  have F0 : Hid (Blk v_1 w.heap.size (gvs h (.slice d0 ds.length e0) nx (.slice p0 ps.length n0) tk rc)) := by rw [hw1]; exact F0.out
  have O2 : Hid (GO v_1 w.heap.size gd2 gp2 ds ps) := by rw [hw1]; exact O2.out
  have FX : Hid (Blk v_1 bx (gvs h (.slice (some ⟨gd2, 0, none⟩) ds.length ds.length) nx (.slice (some ⟨gp2, 0, none⟩) ps.length ps.length) tk rc)) := by rw [hw1]; exact FX.out
  have FB : Hid (Below w.heap.size w v_1) := by rw [hw1]; exact FB.out
  rw [← hw1] at hHeld ⊢
  clear hw1
  have x0 := F0.out.c 0 _ rfl
  have x1 := F0.out.c 1 _ rfl
  have x2 := F0.out.c 2 _ rfl
  have x3 := F0.out.c 3 _ rfl
  have x4 := F0.out.c 4 _ rfl
  have x5 := F0.out.c 5 _ rfl
  have x6 := F0.out.c 6 _ rfl
  have x7 := F0.out.c 7 _ rfl
  have x8 := F0.out.c 8 _ rfl
  have x9 := F0.out.c 9 _ rfl
  have x10 := F0.out.c 10 _ rfl
  have x11 := F0.out.c 11 _ rfl
  have x12 := F0.out.c 12 _ rfl
  have x13 := F0.out.c 13 _ rfl
  have x14 := F0.out.c 14 _ rfl
  have x15 := F0.out.c 15 _ rfl
  have x16 := F0.out.c 16 _ rfl
  have y0 := FX.out.c 0 _ rfl
  have y1 := FX.out.c 1 _ rfl
  have y2 := FX.out.c 2 _ rfl
  have y3 := FX.out.c 3 _ rfl
  have y4 := FX.out.c 4 _ rfl
  have y5 := FX.out.c 5 _ rfl
  have y6 := FX.out.c 6 _ rfl
  have y7 := FX.out.c 7 _ rfl
  have y8 := FX.out.c 8 _ rfl
  have y9 := FX.out.c 9 _ rfl
  have y10 := FX.out.c 10 _ rfl
  have y11 := FX.out.c 11 _ rfl
  have y12 := FX.out.c 12 _ rfl
  have y13 := FX.out.c 13 _ rfl
  have y14 := FX.out.c 14 _ rfl
  have y15 := FX.out.c 15 _ rfl
  have y16 := FX.out.c 16 _ rfl
  refine tkz 0 rfl ?_
  refine tkz 1 rfl ?_
  refine wpAnyH_ready (rs := [2]) (by kernel_rfl) (by simp) ?_
  refine (AllReadyH.cons rfl (fun K hK => ?_) AllReadyH.nil)
  go_simp
  refine (toGroup_any h ds d0 e0 nx ps p0 n0 tk rc hld hlp _ ((HD.out.below FB.out (Nat.le_refl _)).mono FB.out.size) ((HP.out.below FB.out (Nat.le_refl _)).mono FB.out.size)).mono ?_
  rintro e v_2 ⟨gd3, gp3, rfl, ho, hb⟩
  have O3 : Hid (GO v_2 w.heap.size gd3 gp3 ds ps) := ho.base FB.out.size
  have F0 : Hid (Blk v_2 w.heap.size (gvs h (.slice d0 ds.length e0) nx (.slice p0 ps.length n0) tk rc)) := F0.out.below hb F0.out.lt
  have O2 : Hid (GO v_2 w.heap.size gd2 gp2 ds ps) := O2.out.below hb O2.out.lt
  have FX : Hid (Blk v_2 bx (gvs h (.slice (some ⟨gd2, 0, none⟩) ds.length ds.length) nx (.slice (some ⟨gp2, 0, none⟩) ps.length ps.length) tk rc)) := FX.out.below hb FX.out.lt
  have FB : Hid (Below w.heap.size w v_2) := FB.out.trans (hb.mono FB.out.size)
  clear hb
  have x0 := F0.out.c 0 _ rfl
  have x1 := F0.out.c 1 _ rfl
  have x2 := F0.out.c 2 _ rfl
  have x3 := F0.out.c 3 _ rfl
  have x4 := F0.out.c 4 _ rfl
  have x5 := F0.out.c 5 _ rfl
  have x6 := F0.out.c 6 _ rfl
  have x7 := F0.out.c 7 _ rfl
  have x8 := F0.out.c 8 _ rfl
  have x9 := F0.out.c 9 _ rfl
  have x10 := F0.out.c 10 _ rfl
  have x11 := F0.out.c 11 _ rfl
  have x12 := F0.out.c 12 _ rfl
  have x13 := F0.out.c 13 _ rfl
  have x14 := F0.out.c 14 _ rfl
  have x15 := F0.out.c 15 _ rfl
  have x16 := F0.out.c 16 _ rfl
  have y0 := FX.out.c 0 _ rfl
  have y1 := FX.out.c 1 _ rfl
  have y2 := FX.out.c 2 _ rfl
  have y3 := FX.out.c 3 _ rfl
  have y4 := FX.out.c 4 _ rfl
  have y5 := FX.out.c 5 _ rfl
  have y6 := FX.out.c 6 _ rfl
  have y7 := FX.out.c 7 _ rfl
  have y8 := FX.out.c 8 _ rfl
  have y9 := FX.out.c 9 _ rfl
  have y10 := FX.out.c 10 _ rfl
  have y11 := FX.out.c 11 _ rfl
  have y12 := FX.out.c 12 _ rfl
  have y13 := FX.out.c 13 _ rfl
  have y14 := FX.out.c 14 _ rfl
  have y15 := FX.out.c 15 _ rfl
  have y16 := FX.out.c 16 _ rfl
  clear ho
  try dsimp only
  refine hK.out _ _ (by (try dsimp only); first | exact ⟨x0, x1, x2, x3, x4, x5, x6, x7, x8, x9, x10, x11, x12, x13, x14, x15, x16, y0, y1, y2, y3, y4, y5, y6, y7, y8, y9, y10, y11, y12, y13, y14, y15, y16⟩ | go_keep) (fun hHeld => ?_)
  clear hK K
  try simp only [Act.put, List.getElem_toArray, List.getElem_cons_succ, List.getElem_cons_zero, List.setIfInBounds_toArray, List.set_cons_zero, List.set_cons_succ]
  refine wpAnyH_ready (rs := [3]) (by kernel_rfl) (by simp) ?_
  refine (AllReadyH.cons rfl (fun K hK => ?_) AllReadyH.nil)
  go_simp
  refine (eqGroup_same h ds (some ⟨gd2, 0, none⟩) (some ⟨gd3, 0, none⟩) ds.length ds.length nx ps (some ⟨gp2, 0, none⟩) (some ⟨gp3, 0, none⟩) ps.length ps.length tk rc hld hlp _ O2.out.din O3.out.din O2.out.pin O3.out.pin).mono ?_
  rintro e v_3 ⟨rfl, hb⟩
  have F0 : Hid (Blk v_3 w.heap.size (gvs h (.slice d0 ds.length e0) nx (.slice p0 ps.length n0) tk rc)) := F0.out.below hb F0.out.lt
  have O2 : Hid (GO v_3 w.heap.size gd2 gp2 ds ps) := O2.out.below hb O2.out.lt
  have FX : Hid (Blk v_3 bx (gvs h (.slice (some ⟨gd2, 0, none⟩) ds.length ds.length) nx (.slice (some ⟨gp2, 0, none⟩) ps.length ps.length) tk rc)) := FX.out.below hb FX.out.lt
  have FB : Hid (Below w.heap.size w v_3) := FB.out.trans (hb.mono FB.out.size)
  have O3 : Hid (GO v_3 w.heap.size gd3 gp3 ds ps) := O3.out.below hb O3.out.lt
  clear hb
  have x0 := F0.out.c 0 _ rfl
  have x1 := F0.out.c 1 _ rfl
  have x2 := F0.out.c 2 _ rfl
  have x3 := F0.out.c 3 _ rfl
  have x4 := F0.out.c 4 _ rfl
  have x5 := F0.out.c 5 _ rfl
  have x6 := F0.out.c 6 _ rfl
  have x7 := F0.out.c 7 _ rfl
  have x8 := F0.out.c 8 _ rfl
  have x9 := F0.out.c 9 _ rfl
  have x10 := F0.out.c 10 _ rfl
  have x11 := F0.out.c 11 _ rfl
  have x12 := F0.out.c 12 _ rfl
  have x13 := F0.out.c 13 _ rfl
  have x14 := F0.out.c 14 _ rfl
  have x15 := F0.out.c 15 _ rfl
  have x16 := F0.out.c 16 _ rfl
  have y0 := FX.out.c 0 _ rfl
  have y1 := FX.out.c 1 _ rfl
  have y2 := FX.out.c 2 _ rfl
  have y3 := FX.out.c 3 _ rfl
  have y4 := FX.out.c 4 _ rfl
  have y5 := FX.out.c 5 _ rfl
  have y6 := FX.out.c 6 _ rfl
  have y7 := FX.out.c 7 _ rfl
  have y8 := FX.out.c 8 _ rfl
  have y9 := FX.out.c 9 _ rfl
  have y10 := FX.out.c 10 _ rfl
  have y11 := FX.out.c 11 _ rfl
  have y12 := FX.out.c 12 _ rfl
  have y13 := FX.out.c 13 _ rfl
  have y14 := FX.out.c 14 _ rfl
  have y15 := FX.out.c 15 _ rfl
  have y16 := FX.out.c 16 _ rfl
  try dsimp only
  refine hK.out _ _ (by (try dsimp only); first | exact ⟨x0, x1, x2, x3, x4, x5, x6, x7, x8, x9, x10, x11, x12, x13, x14, x15, x16, y0, y1, y2, y3, y4, y5, y6, y7, y8, y9, y10, y11, y12, y13, y14, y15, y16⟩ | go_keep) (fun hHeld => ?_)
  clear hK K
  try simp only [Act.put, List.getElem_toArray, List.getElem_cons_succ, List.getElem_cons_zero, List.setIfInBounds_toArray, List.set_cons_zero, List.set_cons_succ]
  refine tkz 4 rfl ?_
  refine wpAnyH_done (by kernel_rfl) ?_ _
  go_wp2_with fail
  go_ret
  exact ⟨by simp, FB.out⟩

set_option maxRecDepth 100000 in
theorem lifted (os : Os) (started : os.Started) (H : Type) (enc : TypeId × Value → H) :
    ReturnsInHanded {} Tryz.checked os 3 .any (fun w args => (Rows.fnExactFormatGroupSpec.pre enc Tryz.prog Tryz.f3 [] false w args ∧ laidMetH Tryz.prog Rows.fnExactFormatGroupRow.laid w) ∧ sizedMet enc Tryz.prog Tryz.f3 (OpenSpec.ofChange Rows.fnExactFormatGroupSpec) false w args) (Rows.fnExactFormatGroupSpec.post enc Tryz.prog Tryz.f3 false true false false) := by
  refine returnsInHanded_of_change_and (C := Tryz.checked) (X := (fun w _ => laidMetH Tryz.prog Rows.fnExactFormatGroupRow.laid w)) (fun _ _ _ hh h => h.of_heap hh) own started (by kernel_rfl) Tryz.func3
    (ChangeSpec.witness_shaped (enc := enc) (C := Tryz.checked) (os := os) (X := (fun w _ => laidMetH Tryz.prog Rows.fnExactFormatGroupRow.laid w)) false (World.doorLaid Tryz.prog 400 os) #[.agg #[.int .i64 0, .int .i64 0, .int .i64 0, .int .i64 0, .int .i64 0, .int .i64 0, .int .i64 0, .int .i64 0, .int .i64 0, .int .i64 0, .int .i64 0, .int .i64 0, .slice none 0 0, .int .i64 0, .slice none 0 0, .int .i64 0, .bool false]] 8 rfl (World.shaped_of_RefB (by kernel_rfl) (by kernel_rfl)) (by kernel_rfl) (by kernel_rfl) (by kernel_rfl) (door_met os _)) ?_
  intro W base args ds gs before hval0 hW hcnd _ hL _
  have hval : ∀ (j : Nat) t v, Tryz.f3.params[j]? = some t → args[j]? = some v → Value.okWide Tryz.prog W .any base t v := hval0
  have hW' := hW
  obtain ⟨p, q, hA0, hV, rfl, hfz, hnd⟩ := hW
  have hA : DataW.TrodAll enc Tryz.prog W 0 (fun _ => true) true Tryz.f3.params.toList args.toList ds p := hA0
  rw [Tryz.params3] at hA hval
  obtain ⟨v0, vs0, d0, ds0, p0, q0, hargs, rfl, rfl, h0, r0⟩ := trodAll_cons hA
  obtain ⟨rfl, rfl, rfl⟩ := trodAll_nil r0
  obtain rfl : args = #[v0] := by cases args; simp_all
  obtain ⟨rfl, rfl⟩ := trodVars_none hV
  have k0 := h0
  have lt0 : ∀ x ∈ p0, x.block < W.heap.size := by obtain ⟨m, hm⟩ := k0; exact DataW.trod_lt m _ _ _ hm
  obtain ⟨x0, da0, dc0, pa0, pc0, rfl, wl0, ln0, din0, pin0⟩ := open_grp (th := 23) (tds := 24) (tl := 27) (tps := 25) (tp := 103) (⟨Tryz.underlying84, Tryz.underlying79, Tryz.underlying77, Tryz.underlying82, Tryz.underlying80, Tryz.underlying2, Tryz.underlying4, by kernel_rfl, by kernel_rfl, by kernel_rfl, by kernel_rfl, by kernel_rfl, by kernel_rfl, by kernel_rfl, by kernel_rfl, by kernel_rfl, ⟨rfl, rfl, rfl⟩, ⟨rfl, rfl, rfl⟩, ⟨rfl, rfl, rfl⟩, ⟨rfl, rfl, rfl⟩, ⟨rfl, rfl, rfl⟩, ⟨rfl, rfl, rfl⟩, ⟨rfl, rfl, rfl⟩, ⟨rfl, rfl, rfl⟩, ⟨rfl, rfl, rfl⟩⟩ : DeckT Tryz.prog 84 79 77 82 80 2 4 _ _ _ _ _ _ _ _ _ _ _ _ _ _) Tryz.underlying29 Tryz.underlying23 Tryz.underlying24 Tryz.underlying27 Tryz.underlying25 Tryz.underlying103 (by kernel_rfl) (by kernel_rfl) (by kernel_rfl) (by kernel_rfl) (by kernel_rfl) (by kernel_rfl) (by kernel_rfl) (by kernel_rfl) ⟨rfl, rfl, rfl⟩ ⟨rfl, rfl, rfl⟩ ⟨rfl, rfl, rfl⟩ ⟨rfl, rfl, rfl⟩ ⟨rfl, rfl, rfl⟩ ⟨rfl, rfl, rfl⟩ ⟨rfl, rfl, rfl⟩ (hval 0 29 v0 rfl rfl) h0
  clear hA0 hval0
  refine (walk x0 da0 dc0 pa0 pc0 wl0 ln0 W din0 pin0 (tb_of hL)).mono fun e W' ⟨he, bel⟩ => ?_
  subst he
  exact ⟨_, rfl, _, _, _, [], _, [], hW', trodAll_mk1 (shut_bool Tryz.underlying4 _), (trodAll_cons_mk (Below.trod laidOut (by kernel_rfl) (of_decide_eq_true (by kernel_rfl)) k0 bel lt0) trodAll_mk0), rfl, bel.frame _, fun h => by cases h⟩

theorem over : Rows.fnExactFormatGroupRow.holds Tryz.pinned (OpenSpec.ofChange Rows.fnExactFormatGroupSpec) :=
  OpenClaim.holds_of_wide 3 Tryz.f3 rfl rfl rfl rfl rfl rfl rfl ⟨rfl, rfl, rfl, rfl, rfl⟩ rfl rfl rfl rfl rfl (by kernel_rfl) Tryz.func3 (by kernel_rfl)
    (of_decide_eq_true (by kernel_rfl)) (by unfold Func.isWrapper; first | (rw [if_pos (by decide +kernel)]; kernel_rfl) | (rw [if_neg (by decide +kernel)]; exact ⟨rfl, rfl⟩))
    (fun os started H enc _ => lifted os started H enc)

theorem proved : Rows.FnExactFormatGroupSaid := over
end Go.Proofs.YtnfdplfifpmhoaaGreatDoor.fnExactFormatGroup

namespace Go.Proofs.YtnfdplfifpmhoaaGreatDoor
theorem fnExactFormatGroup_holds : Rows.FnExactFormatGroupCardSaid :=
  Claim7.holds_tied_plain_at .later [] [.data, .data, .data] true (true, "03880b4611bc6e612f3634ba77efc27b7ca701a8aa080252c1d4c0231f721957") false
    fnExactFormatGroup.over (fun _ h => by cases h) (by kernel_rfl) (fun _ h => by cases h) fnExactFormatGroup_row_tie rfl ⟨rfl, rfl⟩ (by kernel_rfl) rfl
    (fun f fn hf hfn => by
      obtain rfl : f = 3 := Option.some.inj ((show Tryz.prog.funcNamed "loop.example/g00155/laws.FnExactFormatGroup" = some 3 by kernel_rfl).symm.trans hf) |>.symm
      obtain rfl : fn = Tryz.f3 := (Option.some.inj (Tryz.func3.symm.trans hfn)).symm
      exact ⟨by kernel_rfl, fun j t ht => by
        rw [Tryz.params3] at ht
        have hm : t ∈ [29] := by
          have := Array.mem_of_getElem? ht
          simp at this ⊢
          omega
        have hall : ([29].all fun u => !Tryz.prog.wantsStandIn u) = true := by kernel_rfl
        exact (show Tryz.prog.wantsStandIn t = false by simpa using List.all_eq_true.1 hall t hm)⟩)
    (by kernel_rfl)
#print axioms fnExactFormatGroup_holds
end Go.Proofs.YtnfdplfifpmhoaaGreatDoor
