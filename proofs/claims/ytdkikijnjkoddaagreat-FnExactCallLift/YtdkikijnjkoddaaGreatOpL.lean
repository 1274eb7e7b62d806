/-
  The base of what follows: plain numbers, cells, contracts of the smallest functions.
-/
import Derived.Test.YtdkikijnjkoddaaGreatFnd
import Derived.ChangeArms
import Derived.Deep.Slices
import Derived.Test.YtdkikijnjkoddaaGreatGpB
/-
  A ledger (a number and a slice of people) that came in by value.
-/
namespace Go.Proofs.YtdkikijnjkoddaaGreat
open Go.ChangeShapes Go.WideShapes Go.ChangeAt Go.RowKit Go.Joins Pl
set_option linter.unusedSimpArgs false
set_option linter.unusedVariables false


theorem list7 {l : List Int} (h : l.length = 7) : ∃ a b c d e f g : Int, l = [a, b, c, d, e, f, g] := by
  match l, h with
  | [a, b, c, d, e, f, g], _ => exact ⟨a, b, c, d, e, f, g, rfl⟩

theorem add_at (b o n : Nat) : (⟨b, o, none⟩ : Addr).add n = ⟨b, o + n, none⟩ := by
  unfold Addr.add
  by_cases h : n = 0 <;> simp [h]

end Go.Proofs.YtdkikijnjkoddaaGreat

/-
  A group that came in by value.
-/
namespace Go.Proofs.YtdkikijnjkoddaaGreat
open Go.ChangeShapes Go.WideShapes Go.ChangeAt Go.RowKit Go.Joins Pl
set_option linter.unusedSimpArgs false
set_option linter.unusedVariables false

theorem drop_split (cs : List Value) (k n : Nat) : cs.drop k = (cs.drop k).take n ++ cs.drop (k + n) := by
  have : cs.drop (k + n) = (cs.drop k).drop n := by rw [List.drop_drop]
  rw [this, List.take_append_drop]
theorem trod_two {H : Type} {enc : TypeId × Value → H} {P : Program} {w : World} {base : Nat} {spare : Nat → Bool} {held : Bool} {fuel : Nat} {t tc k : TypeId} {fs gs : Array Field} {f0 f1 : Field} {n : Nat} {cs : List Value} {x : DataW H × List MemPlace}
    (hs : P.underlying t = some (.struct fs)) (hg : P.underlying tc = some (.struct gs)) (hk : P.underlying k = some (.int .i64)) (hck : P.cellsOf k = 1) (hf : plainFields gs k n = true) (hC : P.cellsOf tc = n) (hCC : P.cellsOf t = n + n)
    (h0 : fs[0]? = some f0) (t0 : f0.type = tc) (o0 : f0.offset = 0) (h1 : fs[1]? = some f1) (t1 : f1.type = tc) (o1 : f1.offset = n)
    (hfu : DataW.trod enc P w base spare held fuel t cs = some x) :
    ∃ xs ys : List Int, xs.length = n ∧ ys.length = n ∧ cs = (xs ++ ys).map (Value.int .i64) := by
  obtain ⟨zs, m, _, _, hl, hxl, hall⟩ := DataW.trod_struct hs hfu
  have hl' : cs.length = n + n := hl.trans hCC
  have a0 := hall 0 f0 h0
  have a1 := hall 1 f1 h1
  have z0 : 0 < zs.length := by rw [hxl]; exact (Array.getElem?_eq_some_iff.1 h0).1
  have z1 : 1 < zs.length := by rw [hxl]; exact (Array.getElem?_eq_some_iff.1 h1).1
  rw [List.getElem?_eq_getElem z0, t0, o0, hC] at a0
  rw [List.getElem?_eq_getElem z1, t1, o1, hC] at a1
  obtain ⟨xs, x1, x2, _⟩ := trod_i64s hg hk hck hf hC a0
  obtain ⟨ys, y1, y2, _⟩ := trod_i64s hg hk hck hf hC a1
  refine ⟨xs, ys, x1, y1, ?_⟩
  simp only [List.drop_zero] at x2 y2
  rw [List.map_append, ← x2, ← y2]
  have : (cs.drop n).take n = cs.drop n := List.take_of_length_le (by simp; omega)
  rw [this, List.take_append_drop]
/-- The shape of a deck's type. -/
structure DeckT (P : Program) (te : TypeId) (tsh tcar tsp tspan k kb : TypeId) (fs fsh gcar fsp gspan : Array Field) (f0 f1 f2 f3 f4 s0 s1 p0 p1 : Field) : Prop where
  hs : P.underlying te = some (.struct fs)
  hsh : P.underlying tsh = some (.struct fsh)
  hcar : P.underlying tcar = some (.struct gcar)
  hsp : P.underlying tsp = some (.struct fsp)
  hspan : P.underlying tspan = some (.struct gspan)
  hk : P.underlying k = some (.int .i64)
  hb : P.underlying kb = some .bool
  ck : P.cellsOf k = 1
  cb : P.cellsOf kb = 1
  pcar : plainFields gcar k 3 = true
  pspan : plainFields gspan k 2 = true
  ccar : P.cellsOf tcar = 3
  cspan : P.cellsOf tspan = 2
  csh : P.cellsOf tsh = 3 + 3
  csp : P.cellsOf tsp = 2 + 2
  cte : P.cellsOf te = 13
  hf0 : fs[0]? = some f0 ∧ f0.type = tsh ∧ f0.offset = 0
  hf1 : fs[1]? = some f1 ∧ f1.type = tsp ∧ f1.offset = 6
  hf2 : fs[2]? = some f2 ∧ f2.type = k ∧ f2.offset = 10
  hf3 : fs[3]? = some f3 ∧ f3.type = k ∧ f3.offset = 11
  hf4 : fs[4]? = some f4 ∧ f4.type = kb ∧ f4.offset = 12
  hs0 : fsh[0]? = some s0 ∧ s0.type = tcar ∧ s0.offset = 0
  hs1 : fsh[1]? = some s1 ∧ s1.type = tcar ∧ s1.offset = 3
  hp0 : fsp[0]? = some p0 ∧ p0.type = tspan ∧ p0.offset = 0
  hp1 : fsp[1]? = some p1 ∧ p1.type = tspan ∧ p1.offset = 2
theorem trod_deck {H : Type} {enc : TypeId × Value → H} {P : Program} {w : World} {base : Nat} {spare : Nat → Bool} {held : Bool} {fuel : Nat} {te tsh tcar tsp tspan k kb : TypeId} {fs fsh gcar fsp gspan : Array Field} {f0 f1 f2 f3 f4 s0 s1 p0 p1 : Field} {cs : List Value} {x : DataW H × List MemPlace}
    (D : DeckT P te tsh tcar tsp tspan k kb fs fsh gcar fsp gspan f0 f1 f2 f3 f4 s0 s1 p0 p1)
    (hfu : DataW.trod enc P w base spare held fuel te cs = some x) : ∃ d : Dk, cs = cellsD d := by
  obtain ⟨zs, m, _, _, hl, hxl, hall⟩ := DataW.trod_struct D.hs hfu
  have hl' : cs.length = 13 := hl.trans D.cte
  have sz : ∀ (i : Nat) (f : Field), fs[i]? = some f → ∃ y, DataW.trod enc P w base spare held m f.type ((cs.drop f.offset).take (P.cellsOf f.type)) = some y := by
    intro i f hf
    have a := hall i f hf
    have z : i < zs.length := by rw [hxl]; exact (Array.getElem?_eq_some_iff.1 hf).1
    rw [List.getElem?_eq_getElem z] at a
    exact ⟨_, a⟩
  obtain ⟨y0, a0⟩ := sz 0 f0 D.hf0.1
  obtain ⟨y1, a1⟩ := sz 1 f1 D.hf1.1
  obtain ⟨y2, a2⟩ := sz 2 f2 D.hf2.1
  obtain ⟨y3, a3⟩ := sz 3 f3 D.hf3.1
  obtain ⟨y4, a4⟩ := sz 4 f4 D.hf4.1
  rw [D.hf0.2.1, D.hf0.2.2, D.csh] at a0
  rw [D.hf1.2.1, D.hf1.2.2, D.csp] at a1
  rw [D.hf2.2.1, D.hf2.2.2, D.ck] at a2
  rw [D.hf3.2.1, D.hf3.2.2, D.ck] at a3
  rw [D.hf4.2.1, D.hf4.2.2, D.cb] at a4
  obtain ⟨xs, ys, x1, y1', e0⟩ := trod_two D.hsh D.hcar D.hk D.ck D.pcar D.ccar D.csh D.hs0.1 D.hs0.2.1 D.hs0.2.2 D.hs1.1 D.hs1.2.1 D.hs1.2.2 a0
  obtain ⟨us, vs, u1, v1, e1⟩ := trod_two D.hsp D.hspan D.hk D.ck D.pspan D.cspan D.csp D.hp0.1 D.hp0.2.1 D.hp0.2.2 D.hp1.1 D.hp1.2.1 D.hp1.2.2 a1
  obtain ⟨pl, e2, _, _⟩ := DataW.trod_int D.hk a2
  obtain ⟨pu, e3, _, _⟩ := DataW.trod_int D.hk a3
  obtain ⟨hd, e4, _⟩ := DataW.trod_bool D.hb a4
  obtain ⟨q0, q1, q2, rfl⟩ := list3 x1
  obtain ⟨q3, q4, q5, rfl⟩ := list3 y1'
  obtain ⟨q6, q7, rfl⟩ := list2 u1
  obtain ⟨q8, q9, rfl⟩ := list2 v1
  refine ⟨⟨⟨⟨q0, q1, q2⟩, ⟨q3, q4, q5⟩⟩, ⟨⟨q6, q7⟩, ⟨q8, q9⟩⟩, pl, pu, hd⟩, ?_⟩
  have s0 := drop_split cs 0 6
  have s1 := drop_split cs 6 4
  have s2 := drop_split cs 10 1
  have s3 := drop_split cs 11 1
  have s4 := drop_split cs 12 1
  have s5 : cs.drop 13 = [] := List.drop_eq_nil_of_le (by omega)
  rw [List.drop_zero] at s0 e0
  rw [s0, e0, s1, e1, s2, e2, s3, e3, s4, e4, s5]
  rfl
theorem open_grp {H : Type} {enc : TypeId × Value → H} {P : Program} {w : World} {base : Nat} {spare : Nat → Bool} {held : Bool} {r : Reach} {b0 : Nat} {t th tds te tl tps tp k kb tsh tcar tsp tspan : TypeId} {gs hs ls ps fs fsh gcar fsp gspan : Array Field} {g0 g1 g2 g3 g4 l0 l1 f0 f1 f2 f3 f4 s0 s1 p0 p1 : Field} {v : Value} {d : DataW H} {p : List MemPlace}
    (D : DeckT P te tsh tcar tsp tspan k kb fs fsh gcar fsp gspan f0 f1 f2 f3 f4 s0 s1 p0 p1)
    (ht : P.underlying t = some (.struct gs)) (hh : P.underlying th = some (.struct hs)) (hds : P.underlying tds = some (.slice te)) (hl : P.underlying tl = some (.struct ls)) (hps : P.underlying tps = some (.slice tp)) (hp : P.underlying tp = some (.struct ps))
    (ph : plainFields hs k 12 = true) (pp : plainFields ps k 7 = true) (ch : P.cellsOf th = 12) (cds : P.cellsOf tds = 1) (cl : P.cellsOf tl = 2) (cps : P.cellsOf tps = 1) (cp : P.cellsOf tp = 7) (ct : P.cellsOf t = 17)
    (hg0 : gs[0]? = some g0 ∧ g0.type = th ∧ g0.offset = 0) (hg1 : gs[1]? = some g1 ∧ g1.type = tds ∧ g1.offset = 12) (hg2 : gs[2]? = some g2 ∧ g2.type = tl ∧ g2.offset = 13) (hg3 : gs[3]? = some g3 ∧ g3.type = k ∧ g3.offset = 15) (hg4 : gs[4]? = some g4 ∧ g4.type = kb ∧ g4.offset = 16)
    (hl0 : ls[0]? = some l0 ∧ l0.type = k ∧ l0.offset = 0) (hl1 : ls[1]? = some l1 ∧ l1.type = tps ∧ l1.offset = 1)
    (hv : Value.okWide P w r b0 t v) (h : DataW.Trod enc P w base spare held t v d p) :
    ∃ (x : Gr) (da : Option Addr) (dc : Nat) (pa : Option Addr) (pc : Nat), v = .agg #[.int .i64 x.h.fl, .int .i64 x.h.gp, .int .i64 x.h.ln, .int .i64 x.h.rf, .int .i64 x.h.sp, .int .i64 x.h.pu, .int .i64 x.h.br, .int .i64 x.h.dr, .int .i64 x.h.lv, .int .i64 x.h.dO, .int .i64 x.h.ld, .int .i64 x.h.qu, .slice da x.ds.length dc, .int .i64 x.led.nx, .slice pa x.led.ps.length pc, .int .i64 x.tk, .bool x.rc] ∧ x.ds.length ≤ maxLen ∧ x.led.ps.length ≤ maxLen ∧ DIn w w.heap.size da x.ds ∧ PIn w w.heap.size pa x.led.ps := by
  obtain ⟨cs, rfl, _⟩ := okWide_struct ht hv
  obtain ⟨fuel, hfu⟩ := h
  obtain ⟨zs, m, _, _, hlen, hxl, hall⟩ := DataW.trod_struct ht hfu
  have hl' : cs.toList.length = 17 := by simpa [Value.cells] using hlen.trans ct
  have sz : ∀ (i : Nat) (f : Field), gs[i]? = some f → ∃ y, DataW.trod enc P w base spare held m f.type ((cs.toList.drop f.offset).take (P.cellsOf f.type)) = some y := by
    intro i f hf
    have a := hall i f hf
    have z : i < zs.length := by rw [hxl]; exact (Array.getElem?_eq_some_iff.1 hf).1
    rw [List.getElem?_eq_getElem z] at a
    exact ⟨_, a⟩
  obtain ⟨y0, a0⟩ := sz 0 g0 hg0.1
  obtain ⟨y1, a1⟩ := sz 1 g1 hg1.1
  obtain ⟨y2, a2⟩ := sz 2 g2 hg2.1
  obtain ⟨y3, a3⟩ := sz 3 g3 hg3.1
  obtain ⟨y4, a4⟩ := sz 4 g4 hg4.1
  rw [hg0.2.1, hg0.2.2, ch] at a0
  rw [hg1.2.1, hg1.2.2, cds] at a1
  rw [hg2.2.1, hg2.2.2, cl] at a2
  rw [hg3.2.1, hg3.2.2, D.ck] at a3
  rw [hg4.2.1, hg4.2.2, D.cb] at a4
  obtain ⟨xs, x1, e0, _⟩ := trod_i64s hh D.hk D.ck ph ch a0
  obtain ⟨tk, e3, _, _⟩ := DataW.trod_int D.hk a3
  obtain ⟨rc, e4, _⟩ := DataW.trod_bool D.hb a4
  obtain ⟨q0, q1, q2, q3, q4, q5, q6, q7, q8, q9, q10, q11, rfl⟩ := list12 x1
  have hD : ∃ (ds : List Dk) (da : Option Addr) (dc : Nat), (cs.toList.drop 12).take 1 = [.slice da ds.length dc] ∧ ds.length ≤ maxLen ∧ DIn w w.heap.size da ds := by
    rcases Go.Deep.open_slice hds a1 with ⟨e1, _⟩ | ⟨a, len, cap, mm, n, D', Pq, e1, hb, hle, hm, hmm, -, hx⟩
    · exact ⟨[], none, 0, e1, Nat.zero_le _, Or.inl rfl⟩
    · have lm : len ≤ mm := by rw [hmm]; split <;> omega
      have : Inhabited Dk := ⟨zeroD⟩
      obtain ⟨f, hf'⟩ := Go.Deep.choose_lt (α := Dk) (n := len) (p := fun i p => ∀ c, c < 13 → w.cell? ((a.add (i * 13)).add c) = (cellsD p)[c]?) (fun i hi => by
        obtain ⟨cs', g1, g2⟩ := hx i (by omega)
        obtain ⟨dd, rfl⟩ := trod_deck D g2
        rw [D.cte] at g1
        obtain ⟨_, _, g3⟩ := World.cells?_some g1
        exact ⟨dd, fun c hc => by rw [g3 c hc]⟩)
      refine ⟨(List.range len).map f, some a, cap, by rw [e1]; simp, by simp; omega, ?_⟩
      by_cases hz : len = 0
      · left; simp [hz]
      · right
        obtain ⟨b, o, sp⟩ := a
        have hsp : sp = none := by simpa [Addr.add] using World.cell?_spot (hf' 0 (by omega) 0 (by omega))
        subst hsp
        have blk : b < w.heap.size := by
          have := hf' 0 (by omega) 0 (by omega)
          simp only [add_at] at this
          exact World.block_lt_of_cell? w _ this
        refine ⟨b, o, rfl, blk, fun i p hp => ?_⟩
        have hi : i < len := by
          have := (List.getElem?_eq_some_iff.1 hp).1
          simpa using this
        have e : p = f i := by simpa [hi] using hp.symm
        subst e
        have c := hf' i hi
        simp only [add_at] at c
        exact ⟨c 0 (by omega), c 1 (by omega), c 2 (by omega), c 3 (by omega), c 4 (by omega), c 5 (by omega), c 6 (by omega), c 7 (by omega), c 8 (by omega), c 9 (by omega), c 10 (by omega), c 11 (by omega), c 12 (by omega)⟩
  have hP : ∃ (nx : Int) (ps : List Pe) (pa : Option Addr) (pc : Nat), (cs.toList.drop 13).take 2 = [.int .i64 nx, .slice pa ps.length pc] ∧ ps.length ≤ maxLen ∧ PIn w w.heap.size pa ps := by
    obtain ⟨zs', m', _, _, hlen', hxl', hall'⟩ := DataW.trod_struct hl a2
    have hl2 : ((cs.toList.drop 13).take 2).length = 2 := hlen'.trans cl
    have b0 := hall' 0 l0 hl0.1
    have b1 := hall' 1 l1 hl1.1
    have z0 : 0 < zs'.length := by rw [hxl']; exact (Array.getElem?_eq_some_iff.1 hl0.1).1
    have z1 : 1 < zs'.length := by rw [hxl']; exact (Array.getElem?_eq_some_iff.1 hl1.1).1
    rw [List.getElem?_eq_getElem z0, hl0.2.1, hl0.2.2, D.ck] at b0
    rw [List.getElem?_eq_getElem z1, hl1.2.1, hl1.2.2, cps] at b1
    obtain ⟨nx, e5, _, _⟩ := DataW.trod_int D.hk b0
    generalize (cs.toList.drop 13).take 2 = c2 at hl2 e5 b1
    have key : ∀ u : Value, List.take 1 (List.drop 1 c2) = [u] → c2 = [.int .i64 nx, u] := by
      intro u hu
      match c2, hl2 with
      | [y, z], _ =>
        simp at e5 hu
        rw [e5, hu]
    rcases Go.Deep.open_slice hps b1 with ⟨e1, _⟩ | ⟨a, len, cap, mm, n, D', Pq, e1, hb, hle, hm, hmm, -, hx⟩
    · exact ⟨nx, [], none, 0, key _ e1, Nat.zero_le _, Or.inl rfl⟩
    · have lm : len ≤ mm := by rw [hmm]; split <;> omega
      have : Inhabited Pe := ⟨⟨0, 0, 0, 0, 0, 0, 0⟩⟩
      obtain ⟨f, hf'⟩ := Go.Deep.choose_lt (α := Pe) (n := len) (p := fun i p => ∀ c, c < 7 → w.cell? ((a.add (i * 7)).add c) = (cells7 p)[c]?) (fun i hi => by
        obtain ⟨cs', g1, g2⟩ := hx i (by omega)
        obtain ⟨xs, x1, x2, x3⟩ := trod_i64s hp D.hk D.ck pp cp g2
        obtain ⟨c0, c1, c2, c3, c4, c5, c6, rfl⟩ := list7 x1
        rw [cp] at g1
        obtain ⟨_, _, g3⟩ := World.cells?_some g1
        refine ⟨⟨c0, c1, c2, c3, c4, c5, c6⟩, fun c hc => ?_⟩
        rw [g3 c hc, x2]
        rfl)
      refine ⟨nx, (List.range len).map f, some a, cap, by rw [key _ e1]; simp, by simp; omega, ?_⟩
      by_cases hz : len = 0
      · left; simp [hz]
      · right
        obtain ⟨b, o, sp⟩ := a
        have hsp : sp = none := by simpa [Addr.add] using World.cell?_spot (hf' 0 (by omega) 0 (by omega))
        subst hsp
        have blk : b < w.heap.size := by
          have := hf' 0 (by omega) 0 (by omega)
          simp only [add_at] at this
          exact World.block_lt_of_cell? w _ this
        refine ⟨b, o, rfl, blk, fun i p hp => ?_⟩
        have hi : i < len := by
          have := (List.getElem?_eq_some_iff.1 hp).1
          simpa using this
        have e : p = f i := by simpa [hi] using hp.symm
        subst e
        have c := hf' i hi
        simp only [add_at] at c
        exact ⟨c 0 (by omega), c 1 (by omega), c 2 (by omega), c 3 (by omega), c 4 (by omega), c 5 (by omega), c 6 (by omega)⟩
  obtain ⟨ds, da, dc, e1, n1, d1⟩ := hD
  obtain ⟨nx, ps', pa, pc, e2, n2, d2⟩ := hP
  refine ⟨⟨⟨q0, q1, q2, q3, q4, q5, q6, q7, q8, q9, q10, q11⟩, ds, ⟨nx, ps'⟩, tk, rc⟩, da, dc, pa, pc, ?_, n1, n2, d1, d2⟩
  have s0 := drop_split cs.toList 0 12
  have s1 := drop_split cs.toList 12 1
  have s2 := drop_split cs.toList 13 2
  have s3 := drop_split cs.toList 15 1
  have s4 := drop_split cs.toList 16 1
  have s5 : cs.toList.drop 17 = [] := List.drop_eq_nil_of_le (by omega)
  rw [List.drop_zero] at s0 e0
  rw [e0, s1, e1, s2, e2, s3, e3, s4, e4, s5] at s0
  have e : cs = (cs.toList).toArray := by simp
  rw [e, s0]
  rfl
end Go.Proofs.YtdkikijnjkoddaaGreat
