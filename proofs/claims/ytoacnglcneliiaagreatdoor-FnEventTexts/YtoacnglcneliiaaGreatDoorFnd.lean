/-
  The base of what follows: plain numbers, cells, contracts of the smallest functions.
-/
import Derived.Test.YtoacnglcneliiaaGreatDoorProg
import Derived.WalkKit
import Derived.Deep.RegionHeld3
import Derived.WalkLawsBesides
import Derived.Laws.Bits64
import Derived.Handy
import Derived.Laws.Externs
import Derived.ProofKit
import Derived.OpenShut
import Derived.Lib.SmallJoins
import Derived.ChangeArms
import Derived.Deep.QuietTactic
import Derived.BigQuiet
import Derived.Deep.Draws
import Derived.Deep.DeepCutAuto
import Derived.Below
import Derived.Laws.Tables
import Derived.Laws.Rows
import Derived.Deep.WholeRow
import Derived.OwnWalk
import Derived.Laws.OwnMore
/-
  Plain arithmetic of chapter 1, without the program: the size of a number, a number within its top, a quotient that is rounded up, the halving of a range.
-/
namespace Go.Proofs.YtoacnglcneliiaaGreatDoor.Pl

/-- The size of a number. -/
def sz (n : Int) : Int := if n < 0 then -n else n
/-- The side of a number: 0 up, 1 down. -/
def sd (n : Int) : Int := if n < 0 then 1 else 0
/-- A number within the top. -/
def clip (m v : Int) : Int := if v < -m then -m else if m < v then m else v
/-- A size of two words with its side, within the top. -/
def topped (hi lo side : Int) : Int := if hi ≠ 0 ∨ 1000000000000000 < lo then (if side = 1 then -1000000000000000 else 1000000000000000) else (if side = 1 then -lo else lo)

/-- Is a number within bounds? -/
def inB (n low high : Int) : Bool := decide (low ≤ n ∧ n ≤ high)
theorem inB_yes {n low high : Int} (h1 : low ≤ n) (h2 : n ≤ high) : inB n low high = true := decide_eq_true ⟨h1, h2⟩
theorem inB_no {n low high : Int} (h : n < low ∨ high < n) : inB n low high = false := decide_eq_false (by omega)
theorem inB_iff {n low high : Int} : inB n low high = true ↔ low ≤ n ∧ n ≤ high := by unfold inB; simp

theorem sz_neg {n : Int} (h : n < 0) : sz n = -n := by unfold sz; rw [if_pos h]
theorem sz_pos {n : Int} (h : ¬ n < 0) : sz n = n := by unfold sz; rw [if_neg h]
theorem sd_neg {n : Int} (h : n < 0) : sd n = 1 := by unfold sd; rw [if_pos h]
theorem sd_pos {n : Int} (h : ¬ n < 0) : sd n = 0 := by unfold sd; rw [if_neg h]
theorem sd_01 (n : Int) : sd n = 0 ∨ sd n = 1 := by unfold sd; split <;> omega
theorem sz_nonneg (n : Int) : 0 ≤ sz n := by unfold sz; split <;> omega
theorem sz_le (n : Int) (h1 : -9223372036854775808 ≤ n) (h2 : n ≤ 9223372036854775807) : sz n ≤ 9223372036854775808 := by unfold sz; split <;> omega

end Go.Proofs.YtoacnglcneliiaaGreatDoor.Pl

/-
  An operation of a region that draws its order is taken first, its side conditions paid by the way.
-/
namespace Go.Proofs.YtoacnglcneliiaaGreatDoor
open Go.RowKit
set_option linter.unusedVariables false

/-- Take number i first: it only reads. -/
theorem tkz {P : Program} {ops : Array Oper} {Q : Exit → Act → World → Prop} {md : Region.Mode} {S : World → Prop} (i : Nat) {oi : Oper} {v : Value} {fuel : Nat} {listed l' : Array Bool} {a a' : Act} {w : World} (hi : ops[i]? = some oi)
    (h : wpAnyH P md ops Q S fuel l' a' w)
    (hs : Region.noSelect ops = true := by kernel_rfl) (hf : Region.free md ops listed i = true := by kernel_rfl) (hr : (Region.ready md ops listed).contains i = true := by kernel_rfl)
    (hQ : ∀ c a w, Q (.panic c) (a.put oi.dst v) w → Q (.panic c) a w := by exact fun _ _ _ h => h)
    (hy : YieldsIf P ops S oi v a := by exact Or.inl ⟨by kernel_rfl, by (intro wx hSw; (try dsimp only at hSw); go_simp <;> with_reducible rfl)⟩) (hS : S w := by assumption)
    (hl : listed.setIfInBounds i true = l' := by (first | (simp only [List.setIfInBounds_toArray, List.set_cons_zero, List.set_cons_succ]; exact rfl) | exact rfl))
    (ha : a.put oi.dst v = a' := by (first | (simp only [Act.put, List.getElem_toArray, List.getElem_cons_succ, List.getElem_cons_zero, List.setIfInBounds_toArray, List.set_cons_zero, List.set_cons_succ]; exact rfl) | exact rfl)) : wpAnyH P md ops Q S (fuel + 1) listed a w := by
  subst hl ha
  exact wpAnyH_take hi hs hf hr hQ hy hS h

/-- The same, of one that its guard bars. -/
theorem tbz {P : Program} {ops : Array Oper} {Q : Exit → Act → World → Prop} {md : Region.Mode} {S : World → Prop} (i : Nat) {oi : Oper} {fuel : Nat} {listed l' : Array Bool} {a a' : Act} {w : World} (hi : ops[i]? = some oi)
    (h : wpAnyH P md ops Q S fuel l' a' w)
    (hs : Region.noSelect ops = true := by kernel_rfl) (hf : Region.free md ops listed i = true := by kernel_rfl) (hr : (Region.ready md ops listed).contains i = true := by kernel_rfl)
    (hQ : ∀ c a w, Q (.panic c) (a.put oi.dst undef) w → Q (.panic c) a w := by exact fun _ _ _ h => h)
    (hy : YieldsIf P ops S oi undef a := by exact Or.inr ⟨by kernel_rfl, rfl⟩) (hS : S w := by assumption)
    (hl : listed.setIfInBounds i true = l' := by (first | (simp only [List.setIfInBounds_toArray, List.set_cons_zero, List.set_cons_succ]; exact rfl) | exact rfl))
    (ha : a.put oi.dst undef = a' := by (first | (simp only [Act.put, List.getElem_toArray, List.getElem_cons_succ, List.getElem_cons_zero, List.setIfInBounds_toArray, List.set_cons_zero, List.set_cons_succ]; exact rfl) | exact rfl)) : wpAnyH P md ops Q S (fuel + 1) listed a w := by
  subst hl ha
  exact wpAnyH_take hi hs hf hr hQ hy hS h

end Go.Proofs.YtoacnglcneliiaaGreatDoor

/-
  What the small functions of chapter 1 answer: sizes, sides, numbers within the top. Each answers at every argument that is named, and the world stays as it was.
-/
namespace Go.Proofs.YtoacnglcneliiaaGreatDoor
open Go.RowKit Pl

theorem ret_int {k : IntKind} {a b : Int} (h : a = b) : Ending.returned (.int k a) = .returned (.int k b) := by rw [h]

end Go.Proofs.YtoacnglcneliiaaGreatDoor

/-
  The path of whoever brakes, in plain arithmetic.
-/
namespace Go.Proofs.YtoacnglcneliiaaGreatDoor.Pl

/-- The path to a stop: n whole brakings, n = s / b. -/
def stopP (s b : Int) : Int := s / b * s - b * (s / b * (s / b + 1) / 2)

theorem half (n : Int) : n * (n + 1) = 2 * (n * (n + 1) / 2) := by
  have h : n * (n + 1) % 2 = 0 := by
    rcases Int.emod_two_eq n with h | h
    · rw [Int.mul_emod, h]; simp
    · have : (n + 1) % 2 = 0 := by omega
      rw [Int.mul_emod, this]; simp
  omega
theorem specHalf (b n : Int) : b * n * (n + 1) / 2 = b * (n * (n + 1) / 2) := by
  have h := half n
  have : b * n * (n + 1) = 2 * (b * (n * (n + 1) / 2)) := by rw [Int.mul_assoc, h, Int.mul_left_comm]; congr 2; omega
  omega
theorem quot_bd (s b : Int) (h0 : 0 ≤ s) (hb : 1 ≤ b) : 0 ≤ s / b ∧ s / b ≤ s ∧ b * (s / b) ≤ s ∧ s < b * (s / b) + b := by
  have h1 : 0 ≤ s / b := Int.ediv_nonneg h0 (by omega)
  have h2 := Int.mul_ediv_add_emod s b
  have h3 := Int.emod_nonneg s (b := b) (by omega)
  have h4 := Int.emod_lt_of_pos s (b := b) (by omega)
  have h5 : 1 * (s / b) ≤ b * (s / b) := Int.mul_le_mul_of_nonneg_right hb h1
  exact ⟨h1, by omega, by omega, by omega⟩
theorem mul_bd {x y X Y : Int} (h0 : 0 ≤ x) (h1 : x ≤ X) (h2 : 0 ≤ y) (h3 : y ≤ Y) : 0 ≤ x * y ∧ x * y ≤ X * Y :=
  ⟨Int.mul_nonneg h0 h2, Int.mul_le_mul h1 h3 h2 (by omega)⟩
/-- All numbers on the way are small. -/
theorem stop_bds (s b n : Int) (h0 : 0 ≤ s) (h1 : s ≤ 2000) (hb : 1 ≤ b) (hn : s / b = n) :
    0 ≤ n ∧ n ≤ 2000 ∧ (0 ≤ n * s ∧ n * s ≤ 4000000) ∧ (0 ≤ n * (n + 1) ∧ n * (n + 1) ≤ 4002000) ∧ (0 ≤ b * n ∧ b * n ≤ 2000) ∧ (0 ≤ b * n * (n + 1) ∧ b * n * (n + 1) ≤ 4002000) ∧ (0 ≤ b * (n * (n + 1) / 2) ∧ b * (n * (n + 1) / 2) ≤ 4002000) := by
  have hq := quot_bd s b h0 hb
  rw [hn] at hq
  obtain ⟨q1, q2, q3, q4⟩ := hq
  have m1 := mul_bd (X := 2000) (Y := 2000) q1 (by omega) h0 h1
  have m2 := mul_bd (X := 2000) (Y := 2001) q1 (by omega) (y := n + 1) (by omega) (by omega)
  have m3 : 0 ≤ b * n := Int.mul_nonneg (by omega) q1
  have m4 := mul_bd (X := 2000) (Y := 2001) m3 (by omega) (y := n + 1) (by omega) (by omega)
  have hh := specHalf b n
  exact ⟨q1, by omega, by omega, by omega, by omega, by omega, by omega⟩
/-- One more of speed: as much more path as there are whole brakings. -/
theorem stop_succ (s b : Int) (h0 : 0 ≤ s) (hb : 1 ≤ b) : stopP (s + 1) b = stopP s b + s / b := by
  have q := quot_bd s b h0 hb
  have q' := quot_bd (s + 1) b (by omega) hb
  unfold stopP
  obtain ⟨n, hn⟩ : ∃ n, s / b = n := ⟨_, rfl⟩
  obtain ⟨m, hm⟩ : ∃ m, (s + 1) / b = m := ⟨_, rfl⟩
  rw [hn] at q ⊢; rw [hm] at q' ⊢
  obtain ⟨q1, q2, q3, q4⟩ := q
  obtain ⟨p1, p2, p3, p4⟩ := q'
  have : m = n ∨ m = n + 1 := by
    by_cases h : m ≤ n
    · by_cases h' : m = n
      · exact Or.inl h'
      · have : b * (m + 1) ≤ b * n := Int.mul_le_mul_of_nonneg_left (by omega) (by omega)
        rw [Int.mul_add] at this; omega
    · by_cases h' : m = n + 1
      · exact Or.inr h'
      · have : b * (n + 2) ≤ b * m := Int.mul_le_mul_of_nonneg_left (by omega) (by omega)
        rw [Int.mul_add] at this; omega
  rcases this with rfl | rfl
  · rw [Int.mul_add]; omega
  · have e1 : b * (n + 1) = s + 1 := by
      have : b * (n + 1) = b * n + b := by rw [Int.mul_add]; omega
      omega
    have e2 : (n + 1) * (n + 1 + 1) / 2 = n * (n + 1) / 2 + (n + 1) := by
      have : (n + 1) * (n + 1 + 1) = n * (n + 1) + 2 * (n + 1) := by rw [Int.mul_comm (n + 1) (n + 1 + 1), ← Int.add_mul]; congr 1; omega
      omega
    have e3 : (n + 1) * (s + 1) = n * s + n + s + 1 := by rw [Int.add_mul, Int.mul_add]; omega
    have e4 : b * (n * (n + 1) / 2 + (n + 1)) = b * (n * (n + 1) / 2) + (s + 1) := by rw [Int.mul_add, e1]
    rw [e2, e4, e3]
    omega
theorem stop_mono (s b : Int) (k : Nat) (h0 : 0 ≤ s) (hb : 1 ≤ b) : stopP s b ≤ stopP (s + k) b := by
  induction k with
  | zero => simp
  | succ k ih =>
    have h := stop_succ (s + k) b (by omega) hb
    have hq := quot_bd (s + k) b (by omega) hb
    have e : s + ((k + 1 : Nat) : Int) = s + k + 1 := by omega
    rw [e, h]; omega
theorem stop_le (x y b : Int) (h0 : 0 ≤ x) (h : x ≤ y) (hb : 1 ≤ b) : stopP x b ≤ stopP y b := by
  have := stop_mono x b (y - x).toNat h0 hb
  rwa [show x + ((y - x).toNat : Int) = y by omega] at this
end Go.Proofs.YtoacnglcneliiaaGreatDoor.Pl

/-
  A struct of int64 fields that came in by value: its cells are numbers of int64.
-/
namespace Go.Proofs.YtoacnglcneliiaaGreatDoor
open Go.ChangeShapes Go.WideShapes Go.ChangeAt Go.RowKit Go.Joins

/-- Each of the first n fields is of type k, at the offset of its number. -/
def plainFields (fs : Array Field) (k : TypeId) (n : Nat) : Bool :=
  (List.range n).all fun i => match fs[i]? with
    | some f => f.type == k && f.offset == i
    | none => false

theorem plainFields_at {fs : Array Field} {k : TypeId} {n i : Nat} (h : plainFields fs k n = true) (hi : i < n) : ∃ f, fs[i]? = some f ∧ f.type = k ∧ f.offset = i := by
  unfold plainFields at h
  have := List.all_eq_true.1 h i (List.mem_range.2 hi)
  cases hf : fs[i]? with
  | none => rw [hf] at this; cases this
  | some f => rw [hf] at this; simp at this; exact ⟨f, rfl, this.1, this.2⟩

theorem trod_i64s {H : Type} {enc : TypeId × Value → H} {P : Program} {w : World} {base : Nat} {spare : Nat → Bool} {held : Bool} {fuel : Nat} {t k : TypeId} {fs : Array Field} {n : Nat} {cs : List Value} {x : DataW H × List MemPlace}
    (hs : P.underlying t = some (.struct fs)) (hk : P.underlying k = some (.int .i64)) (hck : P.cellsOf k = 1) (hf : plainFields fs k n = true) (hC : P.cellsOf t = n)
    (hfu : DataW.trod enc P w base spare held fuel t cs = some x) :
    ∃ xs : List Int, xs.length = n ∧ cs = xs.map (Value.int .i64) ∧ ∀ x ∈ xs, (Lit.int .i64 x).wf = true := by
  obtain ⟨xs, m, _, _, hl, hxl, hall⟩ := DataW.trod_struct hs hfu
  have hlen : cs.length = n := hl.trans hC
  have key : ∀ i, i < n → ∃ x : Int, cs[i]? = some (.int .i64 x) ∧ (Lit.int .i64 x).wf = true := by
    intro i hi
    obtain ⟨f, hfi, hft, hfo⟩ := plainFields_at hf hi
    have ht := hall i f hfi
    rw [hft, hfo, hck] at ht
    have hi' : i < xs.length := by
      rw [hxl]
      have := Array.getElem?_eq_some_iff.1 hfi
      exact this.1
    rw [List.getElem?_eq_getElem hi'] at ht
    obtain ⟨a, e0, _, wa⟩ := DataW.trod_int hk ht
    refine ⟨a, ?_, wa⟩
    have hcs : i < cs.length := by omega
    have e1 : (cs.drop i).take 1 = [cs[i]] := by rw [List.drop_eq_getElem_cons hcs]; rfl
    rw [e1] at e0
    rw [List.getElem?_eq_getElem hcs]
    simpa using e0
  refine ⟨cs.map intOf, by simpa using hlen, ?_, ?_⟩
  · apply List.ext_getElem?
    intro i
    by_cases hi : i < n
    · obtain ⟨x, hx, _⟩ := key i hi
      simp only [List.getElem?_map, hx, Option.map_some, intOf]
    · rw [List.getElem?_eq_none (by omega), List.getElem?_eq_none (by simp; omega)]
  · intro x hx
    obtain ⟨c, hc, rfl⟩ := List.mem_map.1 hx
    obtain ⟨i, hi⟩ := List.getElem?_of_mem hc
    have hlt : i < n := by
      by_cases h : i < n
      · exact h
      · rw [List.getElem?_eq_none (by omega)] at hi; cases hi
    obtain ⟨y, hy, wy⟩ := key i hlt
    rw [hy] at hi
    obtain rfl : Value.int .i64 y = c := by simpa using hi
    exact wy

theorem open_i64s {H : Type} {enc : TypeId × Value → H} {P : Program} {w : World} {base : Nat} {spare : Nat → Bool} {held : Bool} {r : Reach} {b0 : Nat} {t k : TypeId} {fs : Array Field} {n : Nat} {v : Value} {d : DataW H} {p : List MemPlace}
    (hs : P.underlying t = some (.struct fs)) (hk : P.underlying k = some (.int .i64)) (hck : P.cellsOf k = 1) (hf : plainFields fs k n = true) (hC : P.cellsOf t = n)
    (hv : Value.okWide P w r b0 t v) (h : DataW.Trod enc P w base spare held t v d p) :
    ∃ xs : List Int, xs.length = n ∧ v = .agg (xs.map (Value.int .i64)).toArray ∧ ∀ x ∈ xs, (Lit.int .i64 x).wf = true := by
  obtain ⟨cs, rfl, _⟩ := okWide_struct hs hv
  obtain ⟨fuel, hfu⟩ := h
  obtain ⟨xs, h1, h2, h3⟩ := trod_i64s hs hk hck hf hC hfu
  refine ⟨xs, h1, ?_, h3⟩
  have e : cs.toList = xs.map (Value.int .i64) := by simpa [Value.cells] using h2
  rw [← e]

/-- A list of twelve, written out. -/
theorem list12 {l : List Int} (h : l.length = 12) : ∃ a b c d e f g i j k m n : Int, l = [a, b, c, d, e, f, g, i, j, k, m, n] := by
  match l, h with
  | [a, b, c, d, e, f, g, i, j, k, m, n], _ => exact ⟨a, b, c, d, e, f, g, i, j, k, m, n, rfl⟩
/-- A list of three, written out. -/
theorem list3 {l : List Int} (h : l.length = 3) : ∃ a b c : Int, l = [a, b, c] := by
  match l, h with
  | [a, b, c], _ => exact ⟨a, b, c, rfl⟩
/-- A list of two, written out. -/
theorem list2 {l : List Int} (h : l.length = 2) : ∃ a b : Int, l = [a, b] := by
  match l, h with
  | [a, b], _ => exact ⟨a, b, rfl⟩
end Go.Proofs.YtoacnglcneliiaaGreatDoor

/-
  The house, in plain numbers.
-/
namespace Go.Proofs.YtoacnglcneliiaaGreatDoor.Pl

/-- A house: its twelve numbers, in the order of the fields. -/
structure Hs where
  fl : Int
  gp : Int
  ln : Int
  rf : Int
  sp : Int
  pu : Int
  br : Int
  dr : Int
  lv : Int
  dO : Int
  ld : Int
  qu : Int

/-- Every number is within its bounds. -/
structure Hs.Ok (h : Hs) : Prop where
  fl1 : 2 ≤ h.fl
  fl2 : h.fl ≤ 12
  gp1 : 1 ≤ h.gp
  gp2 : h.gp ≤ 20000
  rf1 : 1 ≤ h.rf
  rf2 : h.rf ≤ 20000
  ln1 : 1 ≤ h.ln
  ln2 : h.ln ≤ 20000
  sp1 : 1 ≤ h.sp
  sp2 : h.sp ≤ 500
  pu1 : 1 ≤ h.pu
  pu2 : h.pu ≤ h.sp
  br1 : h.pu ≤ h.br
  br2 : h.br ≤ 500
  dr1 : 0 ≤ h.dr
  dr2 : h.dr ≤ h.pu - 1
  lv1 : 0 ≤ h.lv
  lv2 : h.lv ≤ 50
  do1 : 1 ≤ h.dO
  do2 : h.dO ≤ 20
  ld1 : 1 ≤ h.ld
  ld2 : h.ld ≤ 20
  qu1 : 1 ≤ h.qu
  qu2 : h.qu ≤ 40

def Hs.rangeB (h : Hs) : Bool :=
  inB h.fl 2 12 && (inB h.gp 1 20000 && (inB h.rf 1 20000 && (inB h.ln 1 20000 && (inB h.sp 1 500 && (inB h.pu 1 h.sp && (inB h.br h.pu 500 && (inB h.dr 0 (h.pu - 1) && (inB h.lv 0 50 && (inB h.dO 1 20 && (inB h.ld 1 20 && inB h.qu 1 40))))))))))
theorem Hs.ok_of {h : Hs} (e : h.rangeB = true) : h.Ok := by
  unfold Hs.rangeB at e
  simp only [Bool.and_eq_true, inB_iff] at e
  obtain ⟨⟨a1, a2⟩, ⟨b1, b2⟩, ⟨c1, c2⟩, ⟨d1, d2⟩, ⟨e1, e2⟩, ⟨f1, f2⟩, ⟨g1, g2⟩, ⟨i1, i2⟩, ⟨j1, j2⟩, ⟨k1, k2⟩, ⟨l1, l2⟩, m1, m2⟩ := e
  exact ⟨a1, a2, b1, b2, c1, c2, d1, d2, e1, e2, f1, f2, g1, g2, i1, i2, j1, j2, k1, k2, l1, l2, m1, m2⟩
theorem Hs.ok_iff {h : Hs} : h.rangeB = true ↔ h.Ok := by
  refine ⟨Hs.ok_of, fun o => ?_⟩
  unfold Hs.rangeB
  simp only [Bool.and_eq_true, inB_iff]
  exact ⟨⟨o.fl1, o.fl2⟩, ⟨o.gp1, o.gp2⟩, ⟨o.rf1, o.rf2⟩, ⟨o.ln1, o.ln2⟩, ⟨o.sp1, o.sp2⟩, ⟨o.pu1, o.pu2⟩, ⟨o.br1, o.br2⟩, ⟨o.dr1, o.dr2⟩, ⟨o.lv1, o.lv2⟩, ⟨o.do1, o.do2⟩, ⟨o.ld1, o.ld2⟩, o.qu1, o.qu2⟩

/-- How far apart floors must be. -/
def Hs.apart (h : Hs) : Int := h.ln + h.sp + stopP h.sp h.br + 2 * h.lv
/-- The fault of a house. -/
def Hs.fault (h : Hs) : Int := if h.rangeB = true then (if h.gp < h.apart ∨ h.rf < h.apart then 1 else 0) else 3
/-- The place of a floor or a refuge. -/
def Hs.level (h : Hs) (f : Int) : Int := if f < 0 then -h.rf else if h.fl ≤ f then (h.fl - 1) * h.gp + h.rf else f * h.gp
/-- What is free beyond a refuge. -/
def Hs.room (h : Hs) : Int := h.lv + h.sp + stopP h.sp h.br
def Hs.low (h : Hs) : Int := -h.rf - h.room
def Hs.high (h : Hs) : Int := (h.fl - 1) * h.gp + h.rf + h.room
def Hs.run (h : Hs) : Int := (h.high - h.low + h.sp - 1) / h.sp + (4 * h.sp + h.pu - 1) / h.pu + 10
def Hs.serve (h : Hs) : Int := 4 * h.run + 4 * h.dO + 20

theorem stop_small (s b : Int) (h1 : 1 ≤ s) (h2 : s ≤ 500) (h3 : 1 ≤ b) : 0 ≤ stopP s b ∧ stopP s b ≤ 4000000 := by
  obtain ⟨b1, b2, b3, b4, b5, b6, b7⟩ := stop_bds s b _ (by omega) (by omega) h3 rfl
  have hz : stopP 0 b = 0 := by unfold stopP; simp
  have hm := stop_le 0 s b (by omega) (by omega) h3
  rw [hz] at hm
  exact ⟨hm, by unfold stopP; omega⟩
theorem Hs.Ok.stop_bd {h : Hs} (o : h.Ok) : 0 ≤ stopP h.sp h.br ∧ stopP h.sp h.br ≤ 4000000 := by
  have h1 := o.sp1; have h2 := o.sp2; have h3 := o.pu1; have h4 := o.br1
  obtain ⟨b1, b2, b3, b4, b5, b6, b7⟩ := stop_bds h.sp h.br _ (by omega) (by omega) (by omega) rfl
  have hz : stopP 0 h.br = 0 := by unfold stopP; simp
  have hm := stop_le 0 h.sp h.br (by omega) (by omega) (by omega)
  rw [hz] at hm
  exact ⟨hm, by unfold stopP; omega⟩
theorem Hs.Ok.top_bd {h : Hs} (o : h.Ok) : 0 ≤ (h.fl - 1) * h.gp ∧ (h.fl - 1) * h.gp ≤ 220000 := by
  have h1 := o.fl1; have h2 := o.fl2; have h3 := o.gp1; have h4 := o.gp2
  have := mul_bd (X := 11) (Y := 20000) (x := h.fl - 1) (y := h.gp) (by omega) (by omega) (by omega) (by omega)
  omega
theorem Hs.Ok.floor_bd {h : Hs} (o : h.Ok) (f : Int) (f1 : 0 ≤ f) (f2 : f ≤ 12) : 0 ≤ f * h.gp ∧ f * h.gp ≤ 240000 := by
  have h3 := o.gp1; have h4 := o.gp2
  have := mul_bd (X := 12) (Y := 20000) (x := f) (y := h.gp) f1 f2 (by omega) (by omega)
  omega
theorem Hs.Ok.level_bd {h : Hs} (o : h.Ok) (f : Int) (f1 : -1 ≤ f) (f2 : f ≤ 12) : -20000 ≤ h.level f ∧ h.level f ≤ 240000 := by
  have h1 := o.rf1; have h2 := o.rf2
  obtain ⟨t1, t2⟩ := o.top_bd
  unfold Hs.level
  by_cases c1 : f < 0
  · rw [if_pos c1]; omega
  · obtain ⟨u1, u2⟩ := o.floor_bd f (by omega) f2
    rw [if_neg c1]
    by_cases c2 : h.fl ≤ f
    · rw [if_pos c2]; omega
    · rw [if_neg c2]; omega

theorem Hs.Ok.room_bd {h : Hs} (o : h.Ok) : 1 ≤ h.room ∧ h.room ≤ 4001000 := by
  obtain ⟨s1, s2⟩ := o.stop_bd
  have h1 := o.sp1; have h2 := o.sp2; have h8 := o.lv1; have h9 := o.lv2
  unfold Hs.room; omega

theorem Hs.fault_out {h : Hs} (e : h.rangeB = false) : h.fault = 3 := by unfold Hs.fault; rw [e]; simp
theorem Hs.fault_near {h : Hs} (e : h.rangeB = true) (n : h.gp < h.apart ∨ h.rf < h.apart) : h.fault = 1 := by unfold Hs.fault; rw [if_pos e, if_pos n]
theorem Hs.fault_ok {h : Hs} (e : h.rangeB = true) (n : ¬ (h.gp < h.apart ∨ h.rf < h.apart)) : h.fault = 0 := by unfold Hs.fault; rw [if_pos e, if_neg n]
theorem Hs.fault_zero {h : Hs} (e : h.fault = 0) : h.rangeB = true ∧ h.apart ≤ h.gp ∧ h.apart ≤ h.rf := by
  unfold Hs.fault at e
  by_cases hr : h.rangeB = true
  · rw [if_pos hr] at e
    by_cases hn : h.gp < h.apart ∨ h.rf < h.apart
    · rw [if_pos hn] at e; cases e
    · exact ⟨hr, by omega, by omega⟩
  · rw [if_neg hr] at e; cases e

theorem Hs.Ok.span_bd {h : Hs} (o : h.Ok) : 0 ≤ h.high - h.low ∧ h.high - h.low ≤ 9000000 := by
  obtain ⟨t1, t2⟩ := o.top_bd
  obtain ⟨m1, m2⟩ := o.room_bd
  have r1 := o.rf1; have r2 := o.rf2
  unfold Hs.high Hs.low
  omega
theorem up_bd (a b : Int) (h1 : 0 ≤ a) (h2 : 1 ≤ b) : 0 ≤ (a + b - 1) / b ∧ (a + b - 1) / b ≤ a + b - 1 := by
  refine ⟨Int.ediv_nonneg (by omega) (by omega), ?_⟩
  exact Int.ediv_le_self _ (by omega)
theorem Hs.Ok.up1_bd {h : Hs} (o : h.Ok) : 0 ≤ (h.high - h.low + h.sp - 1) / h.sp ∧ (h.high - h.low + h.sp - 1) / h.sp ≤ 9000500 := by
  have s1 := o.sp1; have s2 := o.sp2
  obtain ⟨a, b⟩ := o.span_bd
  have := up_bd (h.high - h.low) h.sp a s1
  omega
theorem Hs.Ok.up2_bd {h : Hs} (o : h.Ok) : 0 ≤ (4 * h.sp + h.pu - 1) / h.pu ∧ (4 * h.sp + h.pu - 1) / h.pu ≤ 2500 := by
  have s1 := o.sp1; have s2 := o.sp2; have p1 := o.pu1; have p2 := o.pu2
  have := up_bd (4 * h.sp) h.pu (by omega) p1
  omega
theorem Hs.Ok.run_bd {h : Hs} (o : h.Ok) : 10 ≤ h.run ∧ h.run ≤ 9003010 := by
  have a := o.up1_bd
  have b := o.up2_bd
  unfold Hs.run
  omega

def absI (a : Int) : Int := if a < 0 then -a else a
/-- How far a place is from a floor or refuge. -/
def Hs.dist (h : Hs) (p f : Int) : Int := absI (p - h.level f)
/-- r is the nearest floor or refuge below n, of two the lower. -/
structure Hs.NearTo (h : Hs) (p n r : Int) : Prop where
  lo : -1 ≤ r
  hi : r < n
  left : ∀ f, -1 ≤ f → f < r → h.dist p r < h.dist p f
  right : ∀ f, r < f → f < n → h.dist p r ≤ h.dist p f
theorem Hs.NearTo.start (h : Hs) (p : Int) : h.NearTo p 0 (-1) := ⟨by omega, by omega, fun f h1 h2 => by omega, fun f h1 h2 => by omega⟩
theorem Hs.NearTo.take {h : Hs} {p n r : Int} (a : h.NearTo p n r) (hn : 0 ≤ n) (hd : h.dist p n < h.dist p r) : h.NearTo p (n + 1) n := by
  refine ⟨by omega, by omega, fun f h1 h2 => ?_, fun f h1 h2 => by omega⟩
  by_cases c : f < r
  · have := a.left f h1 c; omega
  · by_cases e : f = r
    · subst e; exact hd
    · have := a.right f (by omega) h2; omega
theorem Hs.NearTo.stay {h : Hs} {p n r : Int} (a : h.NearTo p n r) (hd : ¬ h.dist p n < h.dist p r) : h.NearTo p (n + 1) r := by
  refine ⟨a.lo, by have := a.hi; omega, a.left, fun f h1 h2 => ?_⟩
  by_cases c : f < n
  · exact a.right f h1 c
  · obtain rfl : f = n := by omega
    omega
theorem Hs.NearTo.one {h : Hs} {p n r s : Int} (a : h.NearTo p n r) (b : h.NearTo p n s) : r = s := by
  by_cases c : r < s
  · have h1 := b.left r a.lo c; have h2 := a.right s c b.hi; omega
  · by_cases d : s < r
    · have h1 := a.left s b.lo d; have h2 := b.right r d a.hi; omega
    · omega
end Go.Proofs.YtoacnglcneliiaaGreatDoor.Pl

/-
  Cars, commands and shafts, in plain numbers.
-/
namespace Go.Proofs.YtoacnglcneliiaaGreatDoor.Pl

/-- A car. -/
structure Cs where
  pos : Int
  vel : Int
  door : Int
/-- A command. -/
structure Cm where
  push : Int
  brk : Bool
  opn : Bool
/-- A shaft: its lower and its upper car. -/
structure Sh where
  lo : Cs
  up : Cs

/-- A car's numbers are within their bounds. -/
def Hs.carR (h : Hs) (c : Cs) : Bool := inB c.pos h.low h.high && (inB c.vel (-h.sp) h.sp && inB c.door 0 h.dO)
/-- What is wrong with a car, in a house that is right. -/
def Hs.carC (h : Hs) (c : Cs) : Int := if h.carR c = true then (if c.door ≠ 0 ∧ c.vel ≠ 0 then 1 else 0) else 3
def Hs.car (h : Hs) (c : Cs) : Int := if h.fault = 0 then h.carC c else h.fault
/-- Do a command's parts bar one another? -/
def Cm.bad (x : Cm) : Bool := ((x.brk || x.opn) && (x.push != 0)) || (x.brk && x.opn)
def Hs.cmdC (h : Hs) (x : Cm) : Int := if inB x.push (-h.pu) h.pu = true then (if x.bad = true then 1 else 0) else 3
def Hs.cmd (h : Hs) (x : Cm) : Int := if h.fault = 0 then h.cmdC x else h.fault
/-- How high, and how low, a car comes if it brakes. -/
def Hs.hi (h : Hs) (p v : Int) : Int := if 0 < v then p + stopP v h.br else p
def Hs.lo (h : Hs) (p v : Int) : Int := if v < 0 then p - stopP (-v) h.br else p
def Hs.shaftC (h : Hs) (s : Sh) : Int :=
  if h.lo s.up.pos s.up.vel - h.hi s.lo.pos s.lo.vel < h.ln then 1
  else if h.high < h.hi s.up.pos s.up.vel ∨ h.lo s.lo.pos s.lo.vel < h.low then 3 else 0
def Hs.shaft (h : Hs) (s : Sh) : Int := if h.car s.lo = 0 then (if h.car s.up = 0 then h.shaftC s else h.car s.up) else h.car s.lo

theorem Hs.car_house {h : Hs} {c : Cs} (hf : h.fault ≠ 0) : h.car c = h.fault := by unfold Hs.car; rw [if_neg hf]
theorem Hs.car_ok {h : Hs} {c : Cs} (hf : h.fault = 0) : h.car c = h.carC c := by unfold Hs.car; rw [if_pos hf]
theorem Hs.cmd_house {h : Hs} {x : Cm} (hf : h.fault ≠ 0) : h.cmd x = h.fault := by unfold Hs.cmd; rw [if_neg hf]
theorem Hs.cmd_ok {h : Hs} {x : Cm} (hf : h.fault = 0) : h.cmd x = h.cmdC x := by unfold Hs.cmd; rw [if_pos hf]
/-- A car without a fault. -/
structure CarOk (h : Hs) (c : Cs) : Prop where
  hf : h.fault = 0
  p1 : h.low ≤ c.pos
  p2 : c.pos ≤ h.high
  v1 : -h.sp ≤ c.vel
  v2 : c.vel ≤ h.sp
  d1 : 0 ≤ c.door
  d2 : c.door ≤ h.dO
  dv : c.door = 0 ∨ c.vel = 0
theorem Hs.car_zero {h : Hs} {c : Cs} (e : h.car c = 0) : CarOk h c := by
  have hf : h.fault = 0 := by
    by_cases hf : h.fault = 0
    · exact hf
    · rw [Hs.car_house hf] at e; exact e
  rw [Hs.car_ok hf] at e
  unfold Hs.carC at e
  by_cases hr : h.carR c = true
  · rw [if_pos hr] at e
    by_cases hn : c.door ≠ 0 ∧ c.vel ≠ 0
    · rw [if_pos hn] at e; cases e
    · unfold Hs.carR at hr
      simp only [Bool.and_eq_true, inB_iff] at hr
      obtain ⟨⟨a1, a2⟩, ⟨b1, b2⟩, d1, d2⟩ := hr
      exact ⟨hf, a1, a2, b1, b2, d1, d2, by omega⟩
  · rw [if_neg hr] at e; cases e
theorem CarOk.ok {h : Hs} {c : Cs} (k : CarOk h c) : h.Ok := Hs.ok_of (Hs.fault_zero k.hf).1
theorem Hs.Ok.ends {h : Hs} (o : h.Ok) : -4100000 ≤ h.low ∧ h.low ≤ h.high ∧ h.high ≤ 4300000 := by
  obtain ⟨t1, t2⟩ := o.top_bd
  obtain ⟨m1, m2⟩ := o.room_bd
  have r1 := o.rf1; have r2 := o.rf2
  unfold Hs.high Hs.low
  omega
end Go.Proofs.YtoacnglcneliiaaGreatDoor.Pl

/-
  A command (a number and two bools) and a shaft (two cars) that came in by value.
-/
namespace Go.Proofs.YtoacnglcneliiaaGreatDoor
open Go.ChangeShapes Go.WideShapes Go.ChangeAt Go.RowKit Go.Joins

/-- Each field is of type ki (true) or kb (false), at the offset of its number. -/
def mixFields (fs : Array Field) (ki kb : TypeId) (ks : List Bool) : Bool :=
  (List.range ks.length).all fun i => match fs[i]?, ks[i]? with
    | some f, some true => f.type == ki && f.offset == i
    | some f, some false => f.type == kb && f.offset == i
    | _, _ => false

theorem trod_mix {H : Type} {enc : TypeId × Value → H} {P : Program} {w : World} {base : Nat} {spare : Nat → Bool} {held : Bool} {fuel : Nat} {t ki kb : TypeId} {fs : Array Field} {ks : List Bool} {cs : List Value} {x : DataW H × List MemPlace}
    (hs : P.underlying t = some (.struct fs)) (hi : P.underlying ki = some (.int .i64)) (hb : P.underlying kb = some .bool) (ci : P.cellsOf ki = 1) (cb : P.cellsOf kb = 1) (hf : mixFields fs ki kb ks = true) (hC : P.cellsOf t = ks.length)
    (hfu : DataW.trod enc P w base spare held fuel t cs = some x) :
    cs.length = ks.length ∧ ∀ i : Nat, (ks[i]? = some true → ∃ a : Int, cs[i]? = some (Value.int .i64 a) ∧ (Lit.int .i64 a).wf = true) ∧ (ks[i]? = some false → ∃ b : Bool, cs[i]? = some (Value.bool b)) := by
  obtain ⟨xs, m, _, _, hl, hxl, hall⟩ := DataW.trod_struct hs hfu
  have hlen : cs.length = ks.length := hl.trans hC
  refine ⟨hlen, fun i => ?_⟩
  have key : ∀ b, ks[i]? = some b → ∃ f : Field, fs[i]? = some f ∧ f.type = (if b then ki else kb) ∧ f.offset = i := by
    intro b hk
    have hi' : i < ks.length := (List.getElem?_eq_some_iff.1 hk).1
    have h := List.all_eq_true.1 hf i (List.mem_range.2 hi')
    rw [hk] at h
    cases hfi : fs[i]? with
    | none => rw [hfi] at h; cases b <;> cases h
    | some f => rw [hfi] at h; cases b <;> (simp at h; exact ⟨f, rfl, by simp [h.1], h.2⟩)
  have cell : ∀ b, ks[i]? = some b → ∃ hcs : i < cs.length, ∃ y, DataW.trod enc P w base spare held m (if b then ki else kb) [cs[i]] = some y := by
    intro b hk
    obtain ⟨f, hfi, hft, hfo⟩ := key b hk
    have hcs : i < cs.length := by rw [hlen]; exact (List.getElem?_eq_some_iff.1 hk).1
    have ht := hall i f hfi
    have hi' : i < xs.length := by
      rw [hxl]
      exact (Array.getElem?_eq_some_iff.1 hfi).1
    have c1 : P.cellsOf f.type = 1 := by rw [hft]; cases b <;> simp [ci, cb]
    rw [hfo, c1, hft] at ht
    rw [List.getElem?_eq_getElem hi'] at ht
    have e1 : (cs.drop i).take 1 = [cs[i]] := by rw [List.drop_eq_getElem_cons hcs]; rfl
    rw [e1] at ht
    exact ⟨hcs, _, ht⟩
  constructor
  · intro hk
    obtain ⟨hcs, y, hy⟩ := cell true hk
    obtain ⟨a, e0, _, wa⟩ := DataW.trod_int hi hy
    exact ⟨a, by rw [List.getElem?_eq_getElem hcs]; simpa using e0, wa⟩
  · intro hk
    obtain ⟨hcs, y, hy⟩ := cell false hk
    obtain ⟨b, e0, _⟩ := DataW.trod_bool hb hy
    exact ⟨b, by rw [List.getElem?_eq_getElem hcs]; simpa using e0⟩

theorem listV3 {l : List Value} (h : l.length = 3) : ∃ a b c : Value, l = [a, b, c] := by
  match l, h with
  | [a, b, c], _ => exact ⟨a, b, c, rfl⟩

theorem open_cmd {H : Type} {enc : TypeId × Value → H} {P : Program} {w : World} {base : Nat} {spare : Nat → Bool} {held : Bool} {r : Reach} {b0 : Nat} {t ki kb : TypeId} {fs : Array Field} {v : Value} {d : DataW H} {p : List MemPlace}
    (hs : P.underlying t = some (.struct fs)) (hi : P.underlying ki = some (.int .i64)) (hb : P.underlying kb = some .bool) (ci : P.cellsOf ki = 1) (cb : P.cellsOf kb = 1) (hf : mixFields fs ki kb [true, false, false] = true) (hC : P.cellsOf t = 3)
    (hv : Value.okWide P w r b0 t v) (h : DataW.Trod enc P w base spare held t v d p) :
    ∃ (a : Int) (b c : Bool), v = .agg #[.int .i64 a, .bool b, .bool c] ∧ (Lit.int .i64 a).wf = true := by
  obtain ⟨cs, rfl, _⟩ := okWide_struct hs hv
  obtain ⟨fuel, hfu⟩ := h
  obtain ⟨hl, hk⟩ := trod_mix hs hi hb ci cb hf (by simpa using hC) hfu
  obtain ⟨a, ha, wa⟩ := (hk 0).1 rfl
  obtain ⟨b, hb'⟩ := (hk 1).2 rfl
  obtain ⟨c, hc⟩ := (hk 2).2 rfl
  refine ⟨a, b, c, ?_, wa⟩
  have e : cs.toList = [.int .i64 a, .bool b, .bool c] := by
    have hl' : cs.toList.length = 3 := by simpa [Value.cells] using hl
    simp only [Value.cells] at ha hb' hc
    obtain ⟨x, y, z, hcs⟩ := listV3 hl'
    rw [hcs] at ha hb' hc
    simp at ha hb' hc
    rw [hcs, ha, hb', hc]
  rw [← e]

theorem open_two {H : Type} {enc : TypeId × Value → H} {P : Program} {w : World} {base : Nat} {spare : Nat → Bool} {held : Bool} {r : Reach} {b0 : Nat} {t tc k : TypeId} {fs gs : Array Field} {f0 f1 : Field} {n : Nat} {v : Value} {d : DataW H} {p : List MemPlace}
    (hs : P.underlying t = some (.struct fs)) (hg : P.underlying tc = some (.struct gs)) (hk : P.underlying k = some (.int .i64)) (hck : P.cellsOf k = 1) (hf : plainFields gs k n = true) (hC : P.cellsOf tc = n) (hCC : P.cellsOf t = n + n)
    (h0 : fs[0]? = some f0) (t0 : f0.type = tc) (o0 : f0.offset = 0) (h1 : fs[1]? = some f1) (t1 : f1.type = tc) (o1 : f1.offset = n)
    (hv : Value.okWide P w r b0 t v) (h : DataW.Trod enc P w base spare held t v d p) :
    ∃ xs ys : List Int, xs.length = n ∧ ys.length = n ∧ v = .agg ((xs ++ ys).map (Value.int .i64)).toArray ∧ (∀ x ∈ xs, (Lit.int .i64 x).wf = true) ∧ ∀ y ∈ ys, (Lit.int .i64 y).wf = true := by
  obtain ⟨cs, rfl, _⟩ := okWide_struct hs hv
  obtain ⟨fuel, hfu⟩ := h
  obtain ⟨zs, m, _, _, hl, hxl, hall⟩ := DataW.trod_struct hs hfu
  have hl' : cs.toList.length = n + n := by simpa [Value.cells] using hl.trans hCC
  have a0 := hall 0 f0 h0
  have a1 := hall 1 f1 h1
  have z0 : 0 < zs.length := by rw [hxl]; exact (Array.getElem?_eq_some_iff.1 h0).1
  have z1 : 1 < zs.length := by rw [hxl]; exact (Array.getElem?_eq_some_iff.1 h1).1
  rw [List.getElem?_eq_getElem z0, t0, o0, hC] at a0
  rw [List.getElem?_eq_getElem z1, t1, o1, hC] at a1
  obtain ⟨xs, x1, x2, x3⟩ := trod_i64s hg hk hck hf hC a0
  obtain ⟨ys, y1, y2, y3⟩ := trod_i64s hg hk hck hf hC a1
  refine ⟨xs, ys, x1, y1, ?_, x3, y3⟩
  have e : cs.toList = (xs ++ ys).map (Value.int .i64) := by
    simp only [Value.cells, List.drop_zero] at x2 y2
    rw [List.map_append, ← x2, ← y2]
    have : (cs.toList.drop n).take n = cs.toList.drop n := List.take_of_length_le (by simp; omega)
    rw [this, List.take_append_drop]
  rw [← e]
end Go.Proofs.YtoacnglcneliiaaGreatDoor

/-
  RoundUp, the program's and the model's, and how two results are held against one another.
-/
namespace Go.Proofs.YtoacnglcneliiaaGreatDoor
open Go.RowKit Pl

theorem isWithin_yes (n low high : Int) (h1 : low ≤ n) (h2 : n ≤ high) (w : World) :
    Calls Tryz.prog 74 #[.int .i64 n, .int .i64 low, .int .i64 high] w fun e w' => e = .returned (.bool true) ∧ w' = w := by
  go_enter Tryz.func74, Tryz.ntmps74
  go_wp2
  go_ret
  exact ⟨rfl, rfl⟩
theorem isWithin_no (n low high : Int) (h : n < low ∨ high < n) (w : World) :
    Calls Tryz.prog 74 #[.int .i64 n, .int .i64 low, .int .i64 high] w fun e w' => e = .returned (.bool false) ∧ w' = w := by
  by_cases h1 : n < low
  · go_enter Tryz.func74, Tryz.ntmps74
    go_wp2
    go_ret
    exact ⟨rfl, rfl⟩
  · have h2 : decide (n ≤ high) = false := decide_eq_false (by omega)
    go_enter Tryz.func74, Tryz.ntmps74
    go_wp2
    go_ret
    exact ⟨rfl, rfl⟩
theorem l1In_yes (n low high : Int) (h1 : low ≤ n) (h2 : n ≤ high) (w : World) :
    Calls Tryz.prog 58 #[.int .i64 n, .int .i64 low, .int .i64 high] w fun e w' => e = .returned (.bool true) ∧ w' = w := by
  go_enter Tryz.func58, Tryz.ntmps58
  go_wp2
  go_ret
  exact ⟨rfl, rfl⟩
theorem l1In_no (n low high : Int) (h : n < low ∨ high < n) (w : World) :
    Calls Tryz.prog 58 #[.int .i64 n, .int .i64 low, .int .i64 high] w fun e w' => e = .returned (.bool false) ∧ w' = w := by
  by_cases h1 : n < low
  · go_enter Tryz.func58, Tryz.ntmps58
    go_wp2
    go_ret
    exact ⟨rfl, rfl⟩
  · have h2 : decide (n ≤ high) = false := decide_eq_false (by omega)
    go_enter Tryz.func58, Tryz.ntmps58
    go_wp2
    go_ret
    exact ⟨rfl, rfl⟩

theorem isWithin_any (n low high : Int) (w : World) :
    Calls Tryz.prog 74 #[.int .i64 n, .int .i64 low, .int .i64 high] w fun e w' => e = .returned (.bool (inB n low high)) ∧ w' = w := by
  by_cases h : low ≤ n ∧ n ≤ high
  · rw [inB_yes h.1 h.2]; exact isWithin_yes n low high h.1 h.2 w
  · rw [inB_no (by omega)]; exact isWithin_no n low high (by omega) w
theorem l1In_any (n low high : Int) (w : World) :
    Calls Tryz.prog 58 #[.int .i64 n, .int .i64 low, .int .i64 high] w fun e w' => e = .returned (.bool (inB n low high)) ∧ w' = w := by
  by_cases h : low ≤ n ∧ n ≤ high
  · rw [inB_yes h.1 h.2]; exact l1In_yes n low high h.1 h.2 w
  · rw [inB_no (by omega)]; exact l1In_no n low high (by omega) w

end Go.Proofs.YtoacnglcneliiaaGreatDoor

/-
  A quotient that is rounded up, the program's and the model's.
-/
namespace Go.Proofs.YtoacnglcneliiaaGreatDoor
open Go.RowKit Pl

end Go.Proofs.YtoacnglcneliiaaGreatDoor

/-
  MoveOn and BrakeOn, the program's and the model's.
-/
namespace Go.Proofs.YtoacnglcneliiaaGreatDoor
open Go.RowKit Pl

/-- A speed that was braked. -/
def brk (v b : Int) : Int := if v < 0 then (if v + b < 0 then v + b else 0) else (if 0 < v - b then v - b else 0)

theorem l1Size_any (n : Int) (h1 : -9223372036854775808 ≤ n) (h2 : n ≤ 9223372036854775807) (w : World) :
    Calls Tryz.prog 61 #[.int .i64 n] w fun e w' => e = .returned (.int .u64 (sz n)) ∧ w' = w := by
  by_cases h : n < 0
  · go_enter Tryz.func61, Tryz.ntmps61
    go_wp2
    go_ret
    exact ⟨ret_int (by rw [sz_neg h]; omega), rfl⟩
  · go_enter Tryz.func61, Tryz.ntmps61
    go_wp2
    go_ret
    exact ⟨ret_int (by rw [sz_pos (by omega)]), rfl⟩

theorem sz_in {n m : Int} (h1 : -m ≤ n) (h2 : n ≤ m) : decide (m < sz n) = false := decide_eq_false (by unfold sz; split <;> omega)
theorem sz_out {n m : Int} (h : n < -m ∨ m < n) : decide (m < sz n) = true := decide_eq_true (by unfold sz; split <;> omega)

theorem brk_bd (v b : Int) (v1 : -2000 ≤ v) (v2 : v ≤ 2000) (b1 : 1 ≤ b) : -2000 ≤ brk v b ∧ brk v b ≤ 2000 := by unfold brk; (repeat' split) <;> omega
theorem topped_brk (v b : Int) (v1 : -2000 ≤ v) (v2 : v ≤ 2000) (b1 : 1 ≤ b) (hm : b < sz v) : topped 0 (sz v - b) (sd v) = brk v b := by
  by_cases h : v < 0
  · rw [sz_neg h] at hm; rw [sz_neg h, sd_neg h]; simp only [topped, brk, if_pos h, if_true]; (repeat' split) <;> omega
  · rw [sz_pos h] at hm; rw [sz_pos h, sd_pos h]; simp only [topped, brk, if_neg h]; (repeat' split) <;> omega
theorem topped_brk0 (v b : Int) (hm : sz v ≤ b) : topped 0 0 (sd v) = brk v b := by
  by_cases h : v < 0
  · rw [sz_neg h] at hm; rw [sd_neg h]; simp only [topped, brk, if_pos h, if_true]; (repeat' split) <;> omega
  · rw [sz_pos h] at hm; rw [sd_pos h]; simp only [topped, brk, if_neg h]; (repeat' split) <;> omega
end Go.Proofs.YtoacnglcneliiaaGreatDoor

/-
  cmp.Or over two numbers: the first that is not 0.
-/
namespace Go.Proofs.YtoacnglcneliiaaGreatDoor
open Go.RowKit Pl

end Go.Proofs.YtoacnglcneliiaaGreatDoor

/-
  StopPath, StopTicks and StopBound, the program's and the model's.
-/
namespace Go.Proofs.YtoacnglcneliiaaGreatDoor
open Go.RowKit Pl

theorem pathToStop_any (s b : Int) (h0 : 0 ≤ s) (h1 : s ≤ 2000) (hb : 1 ≤ b) (hb2 : b ≤ 2000) (w : World) :
    Calls Tryz.prog 85 #[.int .i64 s, .int .i64 b] w fun e w' => e = .returned (.int .i64 (stopP s b)) ∧ w' = w := by
  have hz : (b == 0) = false := by simp; omega
  obtain ⟨n, hn⟩ : ∃ n, s / b = n := ⟨_, rfl⟩
  obtain ⟨b1, b2, b3, b4, b5, b6, b7⟩ := stop_bds s b n h0 h1 hb hn
  have HE : Hid (stopP s b = n * s - b * (n * (n + 1) / 2)) := by unfold stopP; rw [hn]; exact rfl
  go_enter Tryz.func85, Tryz.ntmps85
  go_wp2
  go_ret
  exact ⟨ret_int HE.out.symm, rfl⟩
theorem l1Stop_any (s b : Int) (h0 : 0 ≤ s) (h1 : s ≤ 2000) (hb : 1 ≤ b) (hb2 : b ≤ 2000) (w : World) :
    Calls Tryz.prog 73 #[.int .i64 s, .int .i64 b] w fun e w' => e = .returned (.int .i64 (stopP s b)) ∧ w' = w := by
  have hz : (b == 0) = false := by simp; omega
  obtain ⟨n, hn⟩ : ∃ n, s / b = n := ⟨_, rfl⟩
  obtain ⟨b1, b2, b3, b4, b5, b6, b7⟩ := stop_bds s b n h0 h1 hb hn
  have HE : Hid (stopP s b = n * s - b * n * (n + 1) / 2) := by unfold stopP; rw [hn, specHalf]; exact rfl
  go_enter Tryz.func73, Tryz.ntmps73
  go_wp2
  go_ret
  exact ⟨ret_int HE.out.symm, rfl⟩

/-- May whoever goes at this speed stop with this brake? -/
def stopB (s b : Int) : Bool := inB s 0 2000 && inB b 1 2000
theorem stopB_yes {s b : Int} (h0 : 0 ≤ s) (h1 : s ≤ 2000) (hb : 1 ≤ b) (hb2 : b ≤ 2000) : stopB s b = true := by unfold stopB; rw [inB_yes h0 h1, inB_yes hb hb2]; exact rfl
theorem stopB_no {s b : Int} (h : ¬ (0 ≤ s ∧ s ≤ 2000 ∧ 1 ≤ b ∧ b ≤ 2000)) : stopB s b = false := by
  unfold stopB
  by_cases h1 : 0 ≤ s ∧ s ≤ 2000
  · rw [inB_yes h1.1 h1.2, inB_no (by omega)]; exact rfl
  · rw [inB_no (by omega)]; exact rfl
end Go.Proofs.YtoacnglcneliiaaGreatDoor

/-
  Braking tick by tick: the path, the ticks and the bound, in plain numbers.
-/
namespace Go.Proofs.YtoacnglcneliiaaGreatDoor
open Go.RowKit Pl

/-- How many ticks it takes to brake. -/
def ticks (v b : Int) : Int := (v + b - 1) / b

theorem quot_shift (v b : Int) (hb : 1 ≤ b) : v / b = (v - b) / b + 1 := by
  have h := Int.add_mul_ediv_left (v - b) 1 (show b ≠ 0 by omega)
  rw [show v - b + b * 1 = v by omega] at h
  exact h
theorem stopP_brk (v b : Int) (hv : 0 < v) (hb : 1 ≤ b) : stopP v b = brk v b + stopP (brk v b) b := by
  by_cases h : 0 < v - b
  · have e : brk v b = v - b := by unfold brk; rw [if_neg (by omega), if_pos h]
    rw [e]
    unfold stopP
    have hq := quot_shift v b hb
    obtain ⟨n, hn⟩ : ∃ n, (v - b) / b = n := ⟨_, rfl⟩
    rw [hn] at hq ⊢
    rw [hq]
    have h1 : (n + 1) * v = n * v + v := by rw [Int.add_mul]; omega
    have h2 : n * (v - b) = n * v - b * n := by rw [Int.mul_sub, Int.mul_comm n b]
    have h3 : (n + 1) * (n + 1 + 1) / 2 = n * (n + 1) / 2 + (n + 1) := by
      have : (n + 1) * (n + 1 + 1) = n * (n + 1) + 2 * (n + 1) := by rw [Int.mul_comm (n + 1) (n + 1 + 1), ← Int.add_mul]; congr 1; omega
      omega
    have h4 : b * (n * (n + 1) / 2 + (n + 1)) = b * (n * (n + 1) / 2) + b * n + b := by rw [Int.mul_add, Int.mul_add b n 1]; omega
    rw [h1, h2, h3, h4]; omega
  · have e : brk v b = 0 := by unfold brk; rw [if_neg (by omega), if_neg h]
    rw [e]
    have e0 : stopP 0 b = 0 := by unfold stopP; simp
    rw [e0]
    by_cases hvb : v = b
    · subst hvb
      have h1 : v / v = 1 := Int.ediv_self (by omega)
      unfold stopP; rw [h1]; omega
    · have h1 : v / b = 0 := Int.ediv_eq_zero_of_lt (by omega) (by omega)
      unfold stopP; rw [h1]; simp
theorem ticks_brk (v b : Int) (hv : 0 < v) (hb : 1 ≤ b) : ticks v b = ticks (brk v b) b + 1 := by
  unfold ticks
  have hq := quot_shift (v + b - 1) b hb
  by_cases h : 0 < v - b
  · have e : brk v b = v - b := by unfold brk; rw [if_neg (by omega), if_pos h]
    rw [e, hq]; congr 2; omega
  · have e : brk v b = 0 := by unfold brk; rw [if_neg (by omega), if_neg h]
    rw [e, hq]
    have h1 : (v + b - 1 - b) / b = 0 := Int.ediv_eq_zero_of_lt (by omega) (by omega)
    have h2 : (0 + b - 1) / b = 0 := Int.ediv_eq_zero_of_lt (by omega) (by omega)
    rw [h1, h2]
theorem ticks_zero (b : Int) (hb : 1 ≤ b) : ticks 0 b = 0 := Int.ediv_eq_zero_of_lt (by omega) (by omega)
theorem ticks_bd (v b : Int) (h0 : 0 ≤ v) (h1 : v ≤ 2000) (hb : 1 ≤ b) : 0 ≤ ticks v b ∧ ticks v b ≤ 2000 := by
  unfold ticks
  refine ⟨Int.ediv_nonneg (by omega) (by omega), ?_⟩
  refine Int.ediv_le_of_le_mul (by omega) ?_
  have : 2000 * b = 2000 * (b - 1) + 2000 := by omega
  have : 1 * (b - 1) ≤ 2000 * (b - 1) := Int.mul_le_mul_of_nonneg_right (by omega) (by omega)
  omega
theorem stopP_zero (b : Int) : stopP 0 b = 0 := by unfold stopP; simp
theorem stopP_nonneg (v b : Int) (h0 : 0 ≤ v) (hb : 1 ≤ b) : 0 ≤ stopP v b := by
  have h := stop_le 0 v b (Int.le_refl 0) h0 hb
  rw [stopP_zero] at h
  exact h
/-- The path is within the bound. -/
theorem stop_bound (s b : Int) (h0 : 0 ≤ s) (hb : 1 ≤ b) : stopP s b ≤ (s * s + 2 * b - 1) / (2 * b) := by
  have h : stopP s b * (2 * b) ≤ s * s := by
    unfold stopP
    obtain ⟨n, hn⟩ : ∃ n, s / b = n := ⟨_, rfl⟩
    rw [hn]
    have hh := half n
    obtain ⟨m, hm⟩ : ∃ m, n * (n + 1) / 2 = m := ⟨_, rfl⟩
    rw [hm] at hh ⊢
    have hsq : 0 ≤ (s - b * n) * (s - b * n) := by
      by_cases hs : 0 ≤ s - b * n
      · exact Int.mul_nonneg hs hs
      · have := Int.mul_nonneg (show 0 ≤ -(s - b * n) by omega) (show 0 ≤ -(s - b * n) by omega)
        rwa [Int.neg_mul_neg] at this
    have e1 : (s - b * n) * (s - b * n) = s * s - 2 * (b * n * s) + b * n * (b * n) := by
      rw [Int.sub_mul, Int.mul_sub, Int.mul_sub, Int.mul_comm s (b * n)]; omega
    have e2 : (n * s - b * m) * (2 * b) = 2 * (b * n * s) - b * b * (2 * m) := by
      rw [Int.sub_mul]
      have a1 : n * s * (2 * b) = 2 * (b * n * s) := by
        rw [Int.mul_comm (n * s) (2 * b), Int.mul_assoc 2 b (n * s), Int.mul_assoc b n s]
      have a2 : b * m * (2 * b) = b * b * (2 * m) := by
        rw [Int.mul_assoc b m (2 * b), Int.mul_assoc b b (2 * m)]; congr 1; rw [Int.mul_left_comm m 2 b, Int.mul_left_comm b 2 m, Int.mul_comm m b]
      rw [a1, a2]
    have e3 : b * b * (2 * m) = b * n * (b * n) + b * b * n := by
      rw [← hh, Int.mul_add n n 1, Int.mul_add]
      have : b * b * (n * n) = b * n * (b * n) := by rw [Int.mul_assoc b b, Int.mul_assoc b n, Int.mul_left_comm b n n, Int.mul_left_comm n b n]
      rw [this]; congr 1; rw [Int.mul_one]
    have hn0 : 0 ≤ n := by rw [← hn]; exact Int.ediv_nonneg h0 (by omega)
    have e4 : 0 ≤ b * b * n := Int.mul_nonneg (Int.mul_nonneg (by omega) (by omega)) hn0
    rw [e1] at hsq
    rw [e2, e3]
    omega
  have h2 : stopP s b ≤ s * s / (2 * b) := (Int.le_ediv_iff_mul_le (by omega)).2 h
  have h3 : s * s / (2 * b) ≤ (s * s + 2 * b - 1) / (2 * b) := Int.ediv_le_ediv (by omega) (by omega)
  omega

theorem brk_lt (v b : Int) (hv : 0 < v) (hb : 1 ≤ b) : brk v b < v := by unfold brk; (repeat' split) <;> omega
theorem brk_nonneg (v b : Int) (hv : 0 < v) : 0 ≤ brk v b := by unfold brk; (repeat' split) <;> omega
theorem brk_back (s b : Int) (h : 0 ≤ s) (hb : 1 ≤ b) : brk (-s) b ≤ 0 := by unfold brk; (repeat' split) <;> omega

/-- What holds at each tick of who brakes: the path so far and the path to come are the path that is told; so with the ticks. -/
structure StopInv (s b A V N : Int) : Prop where
  v0 : 0 ≤ V
  v1 : V ≤ s
  a0 : 0 ≤ A
  n0 : 0 ≤ N
  path : A + stopP V b = stopP s b
  tick : N + ticks V b = ticks s b
theorem StopInv.start (s b : Int) (h : 0 ≤ s) : StopInv s b 0 s 0 := ⟨h, Int.le_refl _, Int.le_refl _, Int.le_refl _, by omega, by omega⟩
theorem StopInv.bounds {s b A V N : Int} (h : StopInv s b A V N) (h1 : 0 ≤ s) (h2 : s ≤ 2000) (hb : 1 ≤ b) : 0 ≤ V ∧ V ≤ 2000 ∧ 0 ≤ A ∧ A ≤ 4000000 ∧ 0 ≤ N ∧ N ≤ 2000 := by
  have h3 := stop_bds s b _ h1 h2 hb rfl
  have h4 := stopP_nonneg V b h.v0 hb
  have h5 := ticks_bd s b h1 h2 hb
  have h6 := ticks_bd V b h.v0 (by have := h.v1; omega) hb
  have h7 := h.path
  have h8 := h.tick
  have h9 : stopP s b ≤ 4000000 := by unfold stopP; omega
  exact ⟨h.v0, by have := h.v1; omega, h.a0, by omega, h.n0, by omega⟩
theorem StopInv.next {s b A V N : Int} (h : StopInv s b A V N) (hv : 0 < V) (hb : 1 ≤ b) : StopInv s b (A + brk V b) (brk V b) (N + 1) :=
  ⟨brk_nonneg V b hv, by have := brk_lt V b hv hb; have := h.v1; omega, by have := brk_nonneg V b hv; have := h.a0; omega, by have := h.n0; omega, by have := stopP_brk V b hv hb; have := h.path; omega, by have := ticks_brk V b hv hb; have := h.tick; omega⟩
theorem StopInv.done {s b A V N : Int} (h : StopInv s b A V N) (hv : ¬ 0 < V) (hb : 1 ≤ b) : A = stopP s b ∧ N = (s + b - 1) / b := by
  obtain rfl : V = 0 := by have := h.v0; omega
  have h1 := h.path
  have h2 := h.tick
  rw [stopP_zero] at h1
  rw [ticks_zero b hb] at h2
  unfold ticks at h2
  exact ⟨by omega, by omega⟩
end Go.Proofs.YtoacnglcneliiaaGreatDoor

/-
  The model's house: how far apart floors must be, and its fault.
-/
namespace Go.Proofs.YtoacnglcneliiaaGreatDoor
open Go.RowKit Pl

theorem below_of_drawn {w W w' : World} {k : Nat} (e : w' = W.drewN k) (h : Below w.heap.size w W) : Below w.heap.size w w' := by
  rw [e]; exact ⟨h.os, h.tape, h.output, h.size, h.block⟩

theorem specApart_w (h : Hs) (h1 : 1 ≤ h.sp) (h2 : h.sp ≤ 500) (h3 : 1 ≤ h.br) (h5 : h.br ≤ 500) (h6 : 0 ≤ h.ln) (h7 : h.ln ≤ 20000) (h8 : 0 ≤ h.lv) (h9 : h.lv ≤ 50) (w : World) :
    Calls Tryz.prog 46 #[.agg #[.int .i64 h.fl, .int .i64 h.gp, .int .i64 h.ln, .int .i64 h.rf, .int .i64 h.sp, .int .i64 h.pu, .int .i64 h.br, .int .i64 h.dr, .int .i64 h.lv, .int .i64 h.dO, .int .i64 h.ld, .int .i64 h.qu]] w fun e w' => e = .returned (.int .i64 h.apart) ∧ ∃ k, w' = (w.alloc (.cells #[.int .i64 h.fl, .int .i64 h.gp, .int .i64 h.ln, .int .i64 h.rf, .int .i64 h.sp, .int .i64 h.pu, .int .i64 h.br, .int .i64 h.dr, .int .i64 h.lv, .int .i64 h.dO, .int .i64 h.ld, .int .i64 h.qu] 25)).drewN k := by
  obtain ⟨s1, s2⟩ := stop_small h.sp h.br h1 h2 h3
  have e1 : IntKind.i64.wrap (h.ln + h.sp) = h.ln + h.sp := IntWalk.i64_in _ (by omega)
  have e2 : IntKind.i64.wrap (h.ln + h.sp + stopP h.sp h.br) = h.ln + h.sp + stopP h.sp h.br := IntWalk.i64_in _ (by omega)
  have e3 : IntKind.i64.wrap (2 * h.lv) = 2 * h.lv := IntWalk.i64_in _ (by omega)
  have e4 : IntKind.i64.wrap (h.ln + h.sp + stopP h.sp h.br + 2 * h.lv) = h.ln + h.sp + stopP h.sp h.br + 2 * h.lv := IntWalk.i64_in _ (by omega)
  go_enter Tryz.func46, Tryz.ntmps46
  go_wp2_with fail
  go_quiet ((go_at_call 73; exact Calls.quiet_of_same (l1Stop_any _ _ (by omega) (by omega) (by omega) (by omega) _)))
  go_wp2
  go_ret
  exact ⟨rfl, _, rfl⟩
theorem specApart_any (h : Hs) (o : h.Ok) (w : World) :
    Calls Tryz.prog 46 #[.agg #[.int .i64 h.fl, .int .i64 h.gp, .int .i64 h.ln, .int .i64 h.rf, .int .i64 h.sp, .int .i64 h.pu, .int .i64 h.br, .int .i64 h.dr, .int .i64 h.lv, .int .i64 h.dO, .int .i64 h.ld, .int .i64 h.qu]] w fun e w' => e = .returned (.int .i64 h.apart) ∧ ∃ k, w' = (w.alloc (.cells #[.int .i64 h.fl, .int .i64 h.gp, .int .i64 h.ln, .int .i64 h.rf, .int .i64 h.sp, .int .i64 h.pu, .int .i64 h.br, .int .i64 h.dr, .int .i64 h.lv, .int .i64 h.dO, .int .i64 h.ld, .int .i64 h.qu] 25)).drewN k :=
  specApart_w h o.sp1 o.sp2 (by have := o.pu1; have := o.br1; omega) o.br2 (by have := o.ln1; omega) o.ln2 o.lv1 o.lv2 w
theorem specApart_wb (h : Hs) (h1 : 1 ≤ h.sp) (h2 : h.sp ≤ 500) (h3 : 1 ≤ h.br) (h5 : h.br ≤ 500) (h6 : 0 ≤ h.ln) (h7 : h.ln ≤ 20000) (h8 : 0 ≤ h.lv) (h9 : h.lv ≤ 50) (w : World) :
    Calls Tryz.prog 46 #[.agg #[.int .i64 h.fl, .int .i64 h.gp, .int .i64 h.ln, .int .i64 h.rf, .int .i64 h.sp, .int .i64 h.pu, .int .i64 h.br, .int .i64 h.dr, .int .i64 h.lv, .int .i64 h.dO, .int .i64 h.ld, .int .i64 h.qu]] w fun e w' => e = .returned (.int .i64 h.apart) ∧ Below w.heap.size w w' :=
  (specApart_w h h1 h2 h3 h5 h6 h7 h8 h9 w).mono fun _ _ ⟨he, _, hw⟩ => ⟨he, below_of_drawn hw ((Below.refl _ _).alloc (Nat.le_refl _) _)⟩
theorem apart_small (h : Hs) (h1 : 1 ≤ h.sp) (h2 : h.sp ≤ 500) (h3 : 1 ≤ h.br) (h6 : 0 ≤ h.ln) (h7 : h.ln ≤ 20000) (h8 : 0 ≤ h.lv) (h9 : h.lv ≤ 50) : 1 ≤ h.apart ∧ h.apart ≤ 5000000 := by
  obtain ⟨s1, s2⟩ := stop_small h.sp h.br h1 h2 h3
  unfold Hs.apart
  omega
end Go.Proofs.YtoacnglcneliiaaGreatDoor

/-
  The law's house, turned into the program's: the same twelve numbers.
-/
namespace Go.Proofs.YtoacnglcneliiaaGreatDoor
open Go.RowKit Pl

/-- Below the blocks that were there, all cells read as before. -/
theorem bcell {W w1 : World} (hb : Below W.heap.size W w1) : ∀ b o, b < W.heap.size → w1.cell? ⟨b, o, none⟩ = W.cell? ⟨b, o, none⟩ :=
  fun b o h => hb.cell (p := ⟨b, o, none⟩) h

/-- A house lies in the block b. -/
structure HAt (w : World) (b : Nat) (h : Hs) : Prop where
  c0 : w.cell? ⟨b, 0, none⟩ = some (.int .i64 h.fl)
  c1 : w.cell? ⟨b, 1, none⟩ = some (.int .i64 h.gp)
  c2 : w.cell? ⟨b, 2, none⟩ = some (.int .i64 h.ln)
  c3 : w.cell? ⟨b, 3, none⟩ = some (.int .i64 h.rf)
  c4 : w.cell? ⟨b, 4, none⟩ = some (.int .i64 h.sp)
  c5 : w.cell? ⟨b, 5, none⟩ = some (.int .i64 h.pu)
  c6 : w.cell? ⟨b, 6, none⟩ = some (.int .i64 h.br)
  c7 : w.cell? ⟨b, 7, none⟩ = some (.int .i64 h.dr)
  c8 : w.cell? ⟨b, 8, none⟩ = some (.int .i64 h.lv)
  c9 : w.cell? ⟨b, 9, none⟩ = some (.int .i64 h.dO)
  c10 : w.cell? ⟨b, 10, none⟩ = some (.int .i64 h.ld)
  c11 : w.cell? ⟨b, 11, none⟩ = some (.int .i64 h.qu)
theorem HAt.lt {w : World} {b : Nat} {h : Hs} (a : HAt w b h) : b < w.heap.size := World.block_lt_of_cell? w _ a.c0
theorem HAt.new (w : World) (h : Hs) (T : TypeId) : HAt (w.alloc (.cells #[.int .i64 h.fl, .int .i64 h.gp, .int .i64 h.ln, .int .i64 h.rf, .int .i64 h.sp, .int .i64 h.pu, .int .i64 h.br, .int .i64 h.dr, .int .i64 h.lv, .int .i64 h.dO, .int .i64 h.ld, .int .i64 h.qu] T)) w.heap.size h := by
  constructor <;> simp
theorem HAt.below {W w : World} {b B : Nat} {h : Hs} (a : HAt W b h) (hb : Below B W w) (hB : b < B) : HAt w b h :=
  ⟨(hb.cell (p := ⟨b, 0, none⟩) hB).trans a.c0, (hb.cell (p := ⟨b, 1, none⟩) hB).trans a.c1, (hb.cell (p := ⟨b, 2, none⟩) hB).trans a.c2, (hb.cell (p := ⟨b, 3, none⟩) hB).trans a.c3, (hb.cell (p := ⟨b, 4, none⟩) hB).trans a.c4, (hb.cell (p := ⟨b, 5, none⟩) hB).trans a.c5, (hb.cell (p := ⟨b, 6, none⟩) hB).trans a.c6, (hb.cell (p := ⟨b, 7, none⟩) hB).trans a.c7, (hb.cell (p := ⟨b, 8, none⟩) hB).trans a.c8, (hb.cell (p := ⟨b, 9, none⟩) hB).trans a.c9, (hb.cell (p := ⟨b, 10, none⟩) hB).trans a.c10, (hb.cell (p := ⟨b, 11, none⟩) hB).trans a.c11⟩

theorem HAt.drew {w : World} {b : Nat} {h : Hs} (a : HAt w b h) : HAt w.drew b h := a.below (Below.refl w.heap.size w).drew a.lt

/-- A code and a value lie in the block b. -/
structure VAt (w : World) (b : Nat) (c v : Int) : Prop where
  c0 : w.cell? ⟨b, 0, none⟩ = some (.int .i64 c)
  c1 : w.cell? ⟨b, 1, none⟩ = some (.int .i64 v)
theorem VAt.lt {w : World} {b : Nat} {c v : Int} (a : VAt w b c v) : b < w.heap.size := World.block_lt_of_cell? w _ a.c0
theorem VAt.new (w : World) (c v : Int) (T : TypeId) : VAt (w.alloc (.cells #[.int .i64 c, .int .i64 v] T)) w.heap.size c v := by
  constructor <;> simp
theorem VAt.below {W w : World} {b B : Nat} {c v : Int} (a : VAt W b c v) (hb : Below B W w) (hB : b < B) : VAt w b c v :=
  ⟨(hb.cell (p := ⟨b, 0, none⟩) hB).trans a.c0, (hb.cell (p := ⟨b, 1, none⟩) hB).trans a.c1⟩
/-- What has not turned since a block was laid has not turned since before. -/
theorem below_past {W w : World} {o : Obj} (hb : Below (W.alloc o).heap.size (W.alloc o) w) : Below W.heap.size W w :=
  ((Below.refl _ _).alloc (Nat.le_refl _) o).trans (hb.mono (by simp))
end Go.Proofs.YtoacnglcneliiaaGreatDoor

/-
  Cars, commands and shafts in blocks of their own, which may be written; results that are not filled yet.
-/
namespace Go.Proofs.YtoacnglcneliiaaGreatDoor
open Go.RowKit Pl

theorem HAt.alloc {W : World} {b : Nat} {h : Hs} (a : HAt W b h) (o : Obj) : HAt (W.alloc o) b h := a.below ((Below.refl _ _).alloc (Nat.le_refl _) o) a.lt
theorem HAt.at_ (w : World) (h : Hs) (T : TypeId) (b : Nat) (hb : b = w.heap.size) : HAt (w.alloc (.cells #[.int .i64 h.fl, .int .i64 h.gp, .int .i64 h.ln, .int .i64 h.rf, .int .i64 h.sp, .int .i64 h.pu, .int .i64 h.br, .int .i64 h.dr, .int .i64 h.lv, .int .i64 h.dO, .int .i64 h.ld, .int .i64 h.qu] T)) b h := by
  subst hb; exact HAt.new w h T

/-- The cells of a block, written out. -/
structure CW (w : World) (b : Nat) (c : Cs) : Prop where
  c0 : w.cell? ⟨b, 0, none⟩ = some (.int .i64 c.pos)
  c1 : w.cell? ⟨b, 1, none⟩ = some (.int .i64 c.vel)
  c2 : w.cell? ⟨b, 2, none⟩ = some (.int .i64 c.door)
  f0 : w.frozen? ⟨b, 0, none⟩ = false
  f1 : w.frozen? ⟨b, 1, none⟩ = false
  f2 : w.frozen? ⟨b, 2, none⟩ = false
theorem CW.lt {w : World} {b : Nat} {c : Cs} (a : CW w b c) : b < w.heap.size := World.block_lt_of_cell? w _ a.c0
theorem CW.at_ (w : World) (c : Cs) (T : TypeId) (b : Nat) (hb : b = w.heap.size) : CW (w.alloc (.cells #[.int .i64 c.pos, .int .i64 c.vel, .int .i64 c.door] T)) b c := by
  subst hb
  constructor <;> simp
theorem CW.of {W w : World} {b : Nat} {c : Cs} (a : CW W b c) (hc : ∀ o, w.cell? ⟨b, o, none⟩ = W.cell? ⟨b, o, none⟩) (hf : ∀ o, w.frozen? ⟨b, o, none⟩ = W.frozen? ⟨b, o, none⟩) : CW w b c :=
  ⟨(hc 0).trans a.c0, (hc 1).trans a.c1, (hc 2).trans a.c2, (hf 0).trans a.f0, (hf 1).trans a.f1, (hf 2).trans a.f2⟩
theorem CW.below {W w : World} {b B : Nat} {c : Cs} (a : CW W b c) (hb : Below B W w) (hB : b < B) : CW w b c :=
  a.of (fun o => hb.cell (p := ⟨b, o, none⟩) hB) (fun o => hb.frozen (p := ⟨b, o, none⟩) hB)
theorem CW.alloc {W : World} {b : Nat} {c : Cs} (a : CW W b c) (o : Obj) : CW (W.alloc o) b c := a.below ((Below.refl _ _).alloc (Nat.le_refl _) o) a.lt
theorem CW.drew {W : World} {b : Nat} {c : Cs} (a : CW W b c) : CW W.drew b c := a.below (Below.refl W.heap.size W).drew a.lt
theorem CW.other {W : World} {b k o : Nat} {u : Value} {c : Cs} (a : CW W b c) (hne : b ≠ k) : CW (W.setCell ⟨k, o, none⟩ u) b c :=
  a.of (fun _ => World.cell?_setCell_other _ _ _ _ (fun e => hne (congrArg Addr.block e).symm)) (fun _ => World.frozen?_setCell _ _ _ _)
theorem CW.set_pos {W : World} {b : Nat} {c : Cs} (a : CW W b c) (y : Int) : CW (W.setCell ⟨b, 0, none⟩ (.int .i64 y)) b { c with pos := y } :=
  ⟨World.cell?_setCell_same _ _ _ a.c0, (World.cell?_setCell_other _ _ _ _ (by simp)).trans a.c1, (World.cell?_setCell_other _ _ _ _ (by simp)).trans a.c2, (World.frozen?_setCell _ _ _ _).trans a.f0, (World.frozen?_setCell _ _ _ _).trans a.f1, (World.frozen?_setCell _ _ _ _).trans a.f2⟩
theorem CW.set_vel {W : World} {b : Nat} {c : Cs} (a : CW W b c) (y : Int) : CW (W.setCell ⟨b, 1, none⟩ (.int .i64 y)) b { c with vel := y } :=
  ⟨(World.cell?_setCell_other _ _ _ _ (by simp)).trans a.c0, World.cell?_setCell_same _ _ _ a.c1, (World.cell?_setCell_other _ _ _ _ (by simp)).trans a.c2, (World.frozen?_setCell _ _ _ _).trans a.f0, (World.frozen?_setCell _ _ _ _).trans a.f1, (World.frozen?_setCell _ _ _ _).trans a.f2⟩
theorem CW.set_door {W : World} {b : Nat} {c : Cs} (a : CW W b c) (y : Int) : CW (W.setCell ⟨b, 2, none⟩ (.int .i64 y)) b { c with door := y } :=
  ⟨(World.cell?_setCell_other _ _ _ _ (by simp)).trans a.c0, (World.cell?_setCell_other _ _ _ _ (by simp)).trans a.c1, World.cell?_setCell_same _ _ _ a.c2, (World.frozen?_setCell _ _ _ _).trans a.f0, (World.frozen?_setCell _ _ _ _).trans a.f1, (World.frozen?_setCell _ _ _ _).trans a.f2⟩

/-- The cells of a block, written out. -/
structure XW (w : World) (b : Nat) (x : Cm) : Prop where
  c0 : w.cell? ⟨b, 0, none⟩ = some (.int .i64 x.push)
  c1 : w.cell? ⟨b, 1, none⟩ = some (.bool x.brk)
  c2 : w.cell? ⟨b, 2, none⟩ = some (.bool x.opn)
  f0 : w.frozen? ⟨b, 0, none⟩ = false
  f1 : w.frozen? ⟨b, 1, none⟩ = false
  f2 : w.frozen? ⟨b, 2, none⟩ = false
theorem XW.lt {w : World} {b : Nat} {x : Cm} (a : XW w b x) : b < w.heap.size := World.block_lt_of_cell? w _ a.c0
theorem XW.at_ (w : World) (x : Cm) (T : TypeId) (b : Nat) (hb : b = w.heap.size) : XW (w.alloc (.cells #[.int .i64 x.push, .bool x.brk, .bool x.opn] T)) b x := by
  subst hb
  constructor <;> simp
theorem XW.of {W w : World} {b : Nat} {x : Cm} (a : XW W b x) (hc : ∀ o, w.cell? ⟨b, o, none⟩ = W.cell? ⟨b, o, none⟩) (hf : ∀ o, w.frozen? ⟨b, o, none⟩ = W.frozen? ⟨b, o, none⟩) : XW w b x :=
  ⟨(hc 0).trans a.c0, (hc 1).trans a.c1, (hc 2).trans a.c2, (hf 0).trans a.f0, (hf 1).trans a.f1, (hf 2).trans a.f2⟩
theorem XW.below {W w : World} {b B : Nat} {x : Cm} (a : XW W b x) (hb : Below B W w) (hB : b < B) : XW w b x :=
  a.of (fun o => hb.cell (p := ⟨b, o, none⟩) hB) (fun o => hb.frozen (p := ⟨b, o, none⟩) hB)
theorem XW.alloc {W : World} {b : Nat} {x : Cm} (a : XW W b x) (o : Obj) : XW (W.alloc o) b x := a.below ((Below.refl _ _).alloc (Nat.le_refl _) o) a.lt
theorem XW.drew {W : World} {b : Nat} {x : Cm} (a : XW W b x) : XW W.drew b x := a.below (Below.refl W.heap.size W).drew a.lt
theorem XW.other {W : World} {b k o : Nat} {u : Value} {x : Cm} (a : XW W b x) (hne : b ≠ k) : XW (W.setCell ⟨k, o, none⟩ u) b x :=
  a.of (fun _ => World.cell?_setCell_other _ _ _ _ (fun e => hne (congrArg Addr.block e).symm)) (fun _ => World.frozen?_setCell _ _ _ _)
theorem XW.set_push {W : World} {b : Nat} {x : Cm} (a : XW W b x) (y : Int) : XW (W.setCell ⟨b, 0, none⟩ (.int .i64 y)) b { x with push := y } :=
  ⟨World.cell?_setCell_same _ _ _ a.c0, (World.cell?_setCell_other _ _ _ _ (by simp)).trans a.c1, (World.cell?_setCell_other _ _ _ _ (by simp)).trans a.c2, (World.frozen?_setCell _ _ _ _).trans a.f0, (World.frozen?_setCell _ _ _ _).trans a.f1, (World.frozen?_setCell _ _ _ _).trans a.f2⟩
theorem XW.set_brk {W : World} {b : Nat} {x : Cm} (a : XW W b x) (y : Bool) : XW (W.setCell ⟨b, 1, none⟩ (.bool y)) b { x with brk := y } :=
  ⟨(World.cell?_setCell_other _ _ _ _ (by simp)).trans a.c0, World.cell?_setCell_same _ _ _ a.c1, (World.cell?_setCell_other _ _ _ _ (by simp)).trans a.c2, (World.frozen?_setCell _ _ _ _).trans a.f0, (World.frozen?_setCell _ _ _ _).trans a.f1, (World.frozen?_setCell _ _ _ _).trans a.f2⟩
theorem XW.set_opn {W : World} {b : Nat} {x : Cm} (a : XW W b x) (y : Bool) : XW (W.setCell ⟨b, 2, none⟩ (.bool y)) b { x with opn := y } :=
  ⟨(World.cell?_setCell_other _ _ _ _ (by simp)).trans a.c0, (World.cell?_setCell_other _ _ _ _ (by simp)).trans a.c1, World.cell?_setCell_same _ _ _ a.c2, (World.frozen?_setCell _ _ _ _).trans a.f0, (World.frozen?_setCell _ _ _ _).trans a.f1, (World.frozen?_setCell _ _ _ _).trans a.f2⟩

/-- The cells of a block, written out. -/
structure SW (w : World) (b : Nat) (s : Sh) : Prop where
  c0 : w.cell? ⟨b, 0, none⟩ = some (.int .i64 s.lo.pos)
  c1 : w.cell? ⟨b, 1, none⟩ = some (.int .i64 s.lo.vel)
  c2 : w.cell? ⟨b, 2, none⟩ = some (.int .i64 s.lo.door)
  c3 : w.cell? ⟨b, 3, none⟩ = some (.int .i64 s.up.pos)
  c4 : w.cell? ⟨b, 4, none⟩ = some (.int .i64 s.up.vel)
  c5 : w.cell? ⟨b, 5, none⟩ = some (.int .i64 s.up.door)
  f0 : w.frozen? ⟨b, 0, none⟩ = false
  f1 : w.frozen? ⟨b, 1, none⟩ = false
  f2 : w.frozen? ⟨b, 2, none⟩ = false
  f3 : w.frozen? ⟨b, 3, none⟩ = false
  f4 : w.frozen? ⟨b, 4, none⟩ = false
  f5 : w.frozen? ⟨b, 5, none⟩ = false
theorem SW.lt {w : World} {b : Nat} {s : Sh} (a : SW w b s) : b < w.heap.size := World.block_lt_of_cell? w _ a.c0
theorem SW.at_ (w : World) (s : Sh) (T : TypeId) (b : Nat) (hb : b = w.heap.size) : SW (w.alloc (.cells #[.int .i64 s.lo.pos, .int .i64 s.lo.vel, .int .i64 s.lo.door, .int .i64 s.up.pos, .int .i64 s.up.vel, .int .i64 s.up.door] T)) b s := by
  subst hb
  constructor <;> simp
theorem SW.of {W w : World} {b : Nat} {s : Sh} (a : SW W b s) (hc : ∀ o, w.cell? ⟨b, o, none⟩ = W.cell? ⟨b, o, none⟩) (hf : ∀ o, w.frozen? ⟨b, o, none⟩ = W.frozen? ⟨b, o, none⟩) : SW w b s :=
  ⟨(hc 0).trans a.c0, (hc 1).trans a.c1, (hc 2).trans a.c2, (hc 3).trans a.c3, (hc 4).trans a.c4, (hc 5).trans a.c5, (hf 0).trans a.f0, (hf 1).trans a.f1, (hf 2).trans a.f2, (hf 3).trans a.f3, (hf 4).trans a.f4, (hf 5).trans a.f5⟩
theorem SW.below {W w : World} {b B : Nat} {s : Sh} (a : SW W b s) (hb : Below B W w) (hB : b < B) : SW w b s :=
  a.of (fun o => hb.cell (p := ⟨b, o, none⟩) hB) (fun o => hb.frozen (p := ⟨b, o, none⟩) hB)
theorem SW.alloc {W : World} {b : Nat} {s : Sh} (a : SW W b s) (o : Obj) : SW (W.alloc o) b s := a.below ((Below.refl _ _).alloc (Nat.le_refl _) o) a.lt
theorem SW.drew {W : World} {b : Nat} {s : Sh} (a : SW W b s) : SW W.drew b s := a.below (Below.refl W.heap.size W).drew a.lt
theorem SW.other {W : World} {b k o : Nat} {u : Value} {s : Sh} (a : SW W b s) (hne : b ≠ k) : SW (W.setCell ⟨k, o, none⟩ u) b s :=
  a.of (fun _ => World.cell?_setCell_other _ _ _ _ (fun e => hne (congrArg Addr.block e).symm)) (fun _ => World.frozen?_setCell _ _ _ _)

/-- The cells of a block, written out. -/
structure R2 (w : World) (b : Nat) : Prop where
  c0 : w.cell? ⟨b, 0, none⟩ = some (.int .i64 0)
  c1 : w.cell? ⟨b, 1, none⟩ = some (.int .i64 0)
  f0 : w.frozen? ⟨b, 0, none⟩ = false
  f1 : w.frozen? ⟨b, 1, none⟩ = false
theorem R2.lt {w : World} {b : Nat} (a : R2 w b) : b < w.heap.size := World.block_lt_of_cell? w _ a.c0
theorem R2.at_ (w : World) (T : TypeId) (b : Nat) (hb : b = w.heap.size) : R2 (w.alloc (.cells #[.int .i64 0, .int .i64 0] T)) b := by
  subst hb
  constructor <;> simp
theorem R2.of {W w : World} {b : Nat} (a : R2 W b) (hc : ∀ o, w.cell? ⟨b, o, none⟩ = W.cell? ⟨b, o, none⟩) (hf : ∀ o, w.frozen? ⟨b, o, none⟩ = W.frozen? ⟨b, o, none⟩) : R2 w b :=
  ⟨(hc 0).trans a.c0, (hc 1).trans a.c1, (hf 0).trans a.f0, (hf 1).trans a.f1⟩
theorem R2.below {W w : World} {b B : Nat} (a : R2 W b) (hb : Below B W w) (hB : b < B) : R2 w b :=
  a.of (fun o => hb.cell (p := ⟨b, o, none⟩) hB) (fun o => hb.frozen (p := ⟨b, o, none⟩) hB)
theorem R2.alloc {W : World} {b : Nat} (a : R2 W b) (o : Obj) : R2 (W.alloc o) b := a.below ((Below.refl _ _).alloc (Nat.le_refl _) o) a.lt
theorem R2.drew {W : World} {b : Nat} (a : R2 W b) : R2 W.drew b := a.below (Below.refl W.heap.size W).drew a.lt
theorem R2.other {W : World} {b k o : Nat} {u : Value} (a : R2 W b) (hne : b ≠ k) : R2 (W.setCell ⟨k, o, none⟩ u) b :=
  a.of (fun _ => World.cell?_setCell_other _ _ _ _ (fun e => hne (congrArg Addr.block e).symm)) (fun _ => World.frozen?_setCell _ _ _ _)

/-- The cells of a block, written out. -/
structure R3 (w : World) (b : Nat) : Prop where
  c0 : w.cell? ⟨b, 0, none⟩ = some (.int .i64 0)
  c1 : w.cell? ⟨b, 1, none⟩ = some (.int .i64 0)
  c2 : w.cell? ⟨b, 2, none⟩ = some (.int .i64 0)
  f0 : w.frozen? ⟨b, 0, none⟩ = false
  f1 : w.frozen? ⟨b, 1, none⟩ = false
  f2 : w.frozen? ⟨b, 2, none⟩ = false
theorem R3.lt {w : World} {b : Nat} (a : R3 w b) : b < w.heap.size := World.block_lt_of_cell? w _ a.c0
theorem R3.at_ (w : World) (T : TypeId) (b : Nat) (hb : b = w.heap.size) : R3 (w.alloc (.cells #[.int .i64 0, .int .i64 0, .int .i64 0] T)) b := by
  subst hb
  constructor <;> simp
theorem R3.of {W w : World} {b : Nat} (a : R3 W b) (hc : ∀ o, w.cell? ⟨b, o, none⟩ = W.cell? ⟨b, o, none⟩) (hf : ∀ o, w.frozen? ⟨b, o, none⟩ = W.frozen? ⟨b, o, none⟩) : R3 w b :=
  ⟨(hc 0).trans a.c0, (hc 1).trans a.c1, (hc 2).trans a.c2, (hf 0).trans a.f0, (hf 1).trans a.f1, (hf 2).trans a.f2⟩
theorem R3.below {W w : World} {b B : Nat} (a : R3 W b) (hb : Below B W w) (hB : b < B) : R3 w b :=
  a.of (fun o => hb.cell (p := ⟨b, o, none⟩) hB) (fun o => hb.frozen (p := ⟨b, o, none⟩) hB)
theorem R3.alloc {W : World} {b : Nat} (a : R3 W b) (o : Obj) : R3 (W.alloc o) b := a.below ((Below.refl _ _).alloc (Nat.le_refl _) o) a.lt
theorem R3.drew {W : World} {b : Nat} (a : R3 W b) : R3 W.drew b := a.below (Below.refl W.heap.size W).drew a.lt
theorem R3.other {W : World} {b k o : Nat} {u : Value} (a : R3 W b) (hne : b ≠ k) : R3 (W.setCell ⟨k, o, none⟩ u) b :=
  a.of (fun _ => World.cell?_setCell_other _ _ _ _ (fun e => hne (congrArg Addr.block e).symm)) (fun _ => World.frozen?_setCell _ _ _ _)

/-- The cells of a block, written out. -/
structure R4 (w : World) (b : Nat) : Prop where
  c0 : w.cell? ⟨b, 0, none⟩ = some (.int .i64 0)
  c1 : w.cell? ⟨b, 1, none⟩ = some (.int .i64 0)
  c2 : w.cell? ⟨b, 2, none⟩ = some (.int .i64 0)
  c3 : w.cell? ⟨b, 3, none⟩ = some (.int .i64 0)
  f0 : w.frozen? ⟨b, 0, none⟩ = false
  f1 : w.frozen? ⟨b, 1, none⟩ = false
  f2 : w.frozen? ⟨b, 2, none⟩ = false
  f3 : w.frozen? ⟨b, 3, none⟩ = false
theorem R4.lt {w : World} {b : Nat} (a : R4 w b) : b < w.heap.size := World.block_lt_of_cell? w _ a.c0
theorem R4.at_ (w : World) (T : TypeId) (b : Nat) (hb : b = w.heap.size) : R4 (w.alloc (.cells #[.int .i64 0, .int .i64 0, .int .i64 0, .int .i64 0] T)) b := by
  subst hb
  constructor <;> simp
theorem R4.of {W w : World} {b : Nat} (a : R4 W b) (hc : ∀ o, w.cell? ⟨b, o, none⟩ = W.cell? ⟨b, o, none⟩) (hf : ∀ o, w.frozen? ⟨b, o, none⟩ = W.frozen? ⟨b, o, none⟩) : R4 w b :=
  ⟨(hc 0).trans a.c0, (hc 1).trans a.c1, (hc 2).trans a.c2, (hc 3).trans a.c3, (hf 0).trans a.f0, (hf 1).trans a.f1, (hf 2).trans a.f2, (hf 3).trans a.f3⟩
theorem R4.below {W w : World} {b B : Nat} (a : R4 W b) (hb : Below B W w) (hB : b < B) : R4 w b :=
  a.of (fun o => hb.cell (p := ⟨b, o, none⟩) hB) (fun o => hb.frozen (p := ⟨b, o, none⟩) hB)
theorem R4.alloc {W : World} {b : Nat} (a : R4 W b) (o : Obj) : R4 (W.alloc o) b := a.below ((Below.refl _ _).alloc (Nat.le_refl _) o) a.lt
theorem R4.drew {W : World} {b : Nat} (a : R4 W b) : R4 W.drew b := a.below (Below.refl W.heap.size W).drew a.lt
theorem R4.other {W : World} {b k o : Nat} {u : Value} (a : R4 W b) (hne : b ≠ k) : R4 (W.setCell ⟨k, o, none⟩ u) b :=
  a.of (fun _ => World.cell?_setCell_other _ _ _ _ (fun e => hne (congrArg Addr.block e).symm)) (fun _ => World.frozen?_setCell _ _ _ _)

/-- The cells of a block, written out. -/
structure R6 (w : World) (b : Nat) : Prop where
  c0 : w.cell? ⟨b, 0, none⟩ = some (.int .i64 0)
  c1 : w.cell? ⟨b, 1, none⟩ = some (.int .i64 0)
  c2 : w.cell? ⟨b, 2, none⟩ = some (.int .i64 0)
  c3 : w.cell? ⟨b, 3, none⟩ = some (.int .i64 0)
  c4 : w.cell? ⟨b, 4, none⟩ = some (.int .i64 0)
  c5 : w.cell? ⟨b, 5, none⟩ = some (.int .i64 0)
  f0 : w.frozen? ⟨b, 0, none⟩ = false
  f1 : w.frozen? ⟨b, 1, none⟩ = false
  f2 : w.frozen? ⟨b, 2, none⟩ = false
  f3 : w.frozen? ⟨b, 3, none⟩ = false
  f4 : w.frozen? ⟨b, 4, none⟩ = false
  f5 : w.frozen? ⟨b, 5, none⟩ = false
theorem R6.lt {w : World} {b : Nat} (a : R6 w b) : b < w.heap.size := World.block_lt_of_cell? w _ a.c0
theorem R6.at_ (w : World) (T : TypeId) (b : Nat) (hb : b = w.heap.size) : R6 (w.alloc (.cells #[.int .i64 0, .int .i64 0, .int .i64 0, .int .i64 0, .int .i64 0, .int .i64 0] T)) b := by
  subst hb
  constructor <;> simp
theorem R6.of {W w : World} {b : Nat} (a : R6 W b) (hc : ∀ o, w.cell? ⟨b, o, none⟩ = W.cell? ⟨b, o, none⟩) (hf : ∀ o, w.frozen? ⟨b, o, none⟩ = W.frozen? ⟨b, o, none⟩) : R6 w b :=
  ⟨(hc 0).trans a.c0, (hc 1).trans a.c1, (hc 2).trans a.c2, (hc 3).trans a.c3, (hc 4).trans a.c4, (hc 5).trans a.c5, (hf 0).trans a.f0, (hf 1).trans a.f1, (hf 2).trans a.f2, (hf 3).trans a.f3, (hf 4).trans a.f4, (hf 5).trans a.f5⟩
theorem R6.below {W w : World} {b B : Nat} (a : R6 W b) (hb : Below B W w) (hB : b < B) : R6 w b :=
  a.of (fun o => hb.cell (p := ⟨b, o, none⟩) hB) (fun o => hb.frozen (p := ⟨b, o, none⟩) hB)
theorem R6.alloc {W : World} {b : Nat} (a : R6 W b) (o : Obj) : R6 (W.alloc o) b := a.below ((Below.refl _ _).alloc (Nat.le_refl _) o) a.lt
theorem R6.drew {W : World} {b : Nat} (a : R6 W b) : R6 W.drew b := a.below (Below.refl W.heap.size W).drew a.lt
theorem R6.other {W : World} {b k o : Nat} {u : Value} (a : R6 W b) (hne : b ≠ k) : R6 (W.setCell ⟨k, o, none⟩ u) b :=
  a.of (fun _ => World.cell?_setCell_other _ _ _ _ (fun e => hne (congrArg Addr.block e).symm)) (fun _ => World.frozen?_setCell _ _ _ _)

/-- The cells of a block, written out. -/
structure R7 (w : World) (b : Nat) : Prop where
  c0 : w.cell? ⟨b, 0, none⟩ = some (.int .i64 0)
  c1 : w.cell? ⟨b, 1, none⟩ = some (.int .i64 0)
  c2 : w.cell? ⟨b, 2, none⟩ = some (.int .i64 0)
  c3 : w.cell? ⟨b, 3, none⟩ = some (.int .i64 0)
  c4 : w.cell? ⟨b, 4, none⟩ = some (.int .i64 0)
  c5 : w.cell? ⟨b, 5, none⟩ = some (.int .i64 0)
  c6 : w.cell? ⟨b, 6, none⟩ = some (.int .i64 0)
  f0 : w.frozen? ⟨b, 0, none⟩ = false
  f1 : w.frozen? ⟨b, 1, none⟩ = false
  f2 : w.frozen? ⟨b, 2, none⟩ = false
  f3 : w.frozen? ⟨b, 3, none⟩ = false
  f4 : w.frozen? ⟨b, 4, none⟩ = false
  f5 : w.frozen? ⟨b, 5, none⟩ = false
  f6 : w.frozen? ⟨b, 6, none⟩ = false
theorem R7.lt {w : World} {b : Nat} (a : R7 w b) : b < w.heap.size := World.block_lt_of_cell? w _ a.c0
theorem R7.at_ (w : World) (T : TypeId) (b : Nat) (hb : b = w.heap.size) : R7 (w.alloc (.cells #[.int .i64 0, .int .i64 0, .int .i64 0, .int .i64 0, .int .i64 0, .int .i64 0, .int .i64 0] T)) b := by
  subst hb
  constructor <;> simp
theorem R7.of {W w : World} {b : Nat} (a : R7 W b) (hc : ∀ o, w.cell? ⟨b, o, none⟩ = W.cell? ⟨b, o, none⟩) (hf : ∀ o, w.frozen? ⟨b, o, none⟩ = W.frozen? ⟨b, o, none⟩) : R7 w b :=
  ⟨(hc 0).trans a.c0, (hc 1).trans a.c1, (hc 2).trans a.c2, (hc 3).trans a.c3, (hc 4).trans a.c4, (hc 5).trans a.c5, (hc 6).trans a.c6, (hf 0).trans a.f0, (hf 1).trans a.f1, (hf 2).trans a.f2, (hf 3).trans a.f3, (hf 4).trans a.f4, (hf 5).trans a.f5, (hf 6).trans a.f6⟩
theorem R7.below {W w : World} {b B : Nat} (a : R7 W b) (hb : Below B W w) (hB : b < B) : R7 w b :=
  a.of (fun o => hb.cell (p := ⟨b, o, none⟩) hB) (fun o => hb.frozen (p := ⟨b, o, none⟩) hB)
theorem R7.alloc {W : World} {b : Nat} (a : R7 W b) (o : Obj) : R7 (W.alloc o) b := a.below ((Below.refl _ _).alloc (Nat.le_refl _) o) a.lt
theorem R7.drew {W : World} {b : Nat} (a : R7 W b) : R7 W.drew b := a.below (Below.refl W.heap.size W).drew a.lt
theorem R7.other {W : World} {b k o : Nat} {u : Value} (a : R7 W b) (hne : b ≠ k) : R7 (W.setCell ⟨k, o, none⟩ u) b :=
  a.of (fun _ => World.cell?_setCell_other _ _ _ _ (fun e => hne (congrArg Addr.block e).symm)) (fun _ => World.frozen?_setCell _ _ _ _)

/-- A car, stored as the lower (o = 0) or the upper (o = 3) one of a shaft in the block b. -/
def putLo (W : World) (b : Nat) (c : Cs) : World := ((W.setCell ⟨b, 0, none⟩ (.int .i64 c.pos)).setCell ⟨b, 1, none⟩ (.int .i64 c.vel)).setCell ⟨b, 2, none⟩ (.int .i64 c.door)
def putUp (W : World) (b : Nat) (c : Cs) : World := ((W.setCell ⟨b, 3, none⟩ (.int .i64 c.pos)).setCell ⟨b, 4, none⟩ (.int .i64 c.vel)).setCell ⟨b, 5, none⟩ (.int .i64 c.door)
theorem R6.lo {W : World} {b : Nat} (a : R6 W b) (c : Cs) : SW (putLo W b c) b ⟨c, ⟨0, 0, 0⟩⟩ :=
  ⟨((World.cell?_setCell_other _ _ _ _ (by simp)).trans (((World.cell?_setCell_other _ _ _ _ (by simp)).trans ((World.cell?_setCell_same _ _ _ (a.c0)))))), ((World.cell?_setCell_other _ _ _ _ (by simp)).trans ((World.cell?_setCell_same _ _ _ (((World.cell?_setCell_other _ _ _ _ (by simp)).trans (a.c1)))))), (World.cell?_setCell_same _ _ _ (((World.cell?_setCell_other _ _ _ _ (by simp)).trans (((World.cell?_setCell_other _ _ _ _ (by simp)).trans (a.c2)))))), ((World.cell?_setCell_other _ _ _ _ (by simp)).trans (((World.cell?_setCell_other _ _ _ _ (by simp)).trans (((World.cell?_setCell_other _ _ _ _ (by simp)).trans (a.c3)))))), ((World.cell?_setCell_other _ _ _ _ (by simp)).trans (((World.cell?_setCell_other _ _ _ _ (by simp)).trans (((World.cell?_setCell_other _ _ _ _ (by simp)).trans (a.c4)))))), ((World.cell?_setCell_other _ _ _ _ (by simp)).trans (((World.cell?_setCell_other _ _ _ _ (by simp)).trans (((World.cell?_setCell_other _ _ _ _ (by simp)).trans (a.c5)))))), (World.frozen?_setCell _ _ _ _).trans ((World.frozen?_setCell _ _ _ _).trans ((World.frozen?_setCell _ _ _ _).trans (a.f0))), (World.frozen?_setCell _ _ _ _).trans ((World.frozen?_setCell _ _ _ _).trans ((World.frozen?_setCell _ _ _ _).trans (a.f1))), (World.frozen?_setCell _ _ _ _).trans ((World.frozen?_setCell _ _ _ _).trans ((World.frozen?_setCell _ _ _ _).trans (a.f2))), (World.frozen?_setCell _ _ _ _).trans ((World.frozen?_setCell _ _ _ _).trans ((World.frozen?_setCell _ _ _ _).trans (a.f3))), (World.frozen?_setCell _ _ _ _).trans ((World.frozen?_setCell _ _ _ _).trans ((World.frozen?_setCell _ _ _ _).trans (a.f4))), (World.frozen?_setCell _ _ _ _).trans ((World.frozen?_setCell _ _ _ _).trans ((World.frozen?_setCell _ _ _ _).trans (a.f5)))⟩
theorem SW.up_ {W : World} {b : Nat} {s : Sh} (a : SW W b s) (c : Cs) : SW (putUp W b c) b ⟨s.lo, c⟩ :=
  ⟨((World.cell?_setCell_other _ _ _ _ (by simp)).trans (((World.cell?_setCell_other _ _ _ _ (by simp)).trans (((World.cell?_setCell_other _ _ _ _ (by simp)).trans (a.c0)))))), ((World.cell?_setCell_other _ _ _ _ (by simp)).trans (((World.cell?_setCell_other _ _ _ _ (by simp)).trans (((World.cell?_setCell_other _ _ _ _ (by simp)).trans (a.c1)))))), ((World.cell?_setCell_other _ _ _ _ (by simp)).trans (((World.cell?_setCell_other _ _ _ _ (by simp)).trans (((World.cell?_setCell_other _ _ _ _ (by simp)).trans (a.c2)))))), ((World.cell?_setCell_other _ _ _ _ (by simp)).trans (((World.cell?_setCell_other _ _ _ _ (by simp)).trans ((World.cell?_setCell_same _ _ _ (a.c3)))))), ((World.cell?_setCell_other _ _ _ _ (by simp)).trans ((World.cell?_setCell_same _ _ _ (((World.cell?_setCell_other _ _ _ _ (by simp)).trans (a.c4)))))), (World.cell?_setCell_same _ _ _ (((World.cell?_setCell_other _ _ _ _ (by simp)).trans (((World.cell?_setCell_other _ _ _ _ (by simp)).trans (a.c5)))))), (World.frozen?_setCell _ _ _ _).trans ((World.frozen?_setCell _ _ _ _).trans ((World.frozen?_setCell _ _ _ _).trans (a.f0))), (World.frozen?_setCell _ _ _ _).trans ((World.frozen?_setCell _ _ _ _).trans ((World.frozen?_setCell _ _ _ _).trans (a.f1))), (World.frozen?_setCell _ _ _ _).trans ((World.frozen?_setCell _ _ _ _).trans ((World.frozen?_setCell _ _ _ _).trans (a.f2))), (World.frozen?_setCell _ _ _ _).trans ((World.frozen?_setCell _ _ _ _).trans ((World.frozen?_setCell _ _ _ _).trans (a.f3))), (World.frozen?_setCell _ _ _ _).trans ((World.frozen?_setCell _ _ _ _).trans ((World.frozen?_setCell _ _ _ _).trans (a.f4))), (World.frozen?_setCell _ _ _ _).trans ((World.frozen?_setCell _ _ _ _).trans ((World.frozen?_setCell _ _ _ _).trans (a.f5)))⟩
def put6 (W : World) (b : Nat) (s : Sh) : World := ((((((W.setCell ⟨b, 0, none⟩ (.int .i64 s.lo.pos)).setCell ⟨b, 1, none⟩ (.int .i64 s.lo.vel)).setCell ⟨b, 2, none⟩ (.int .i64 s.lo.door)).setCell ⟨b, 3, none⟩ (.int .i64 s.up.pos)).setCell ⟨b, 4, none⟩ (.int .i64 s.up.vel)).setCell ⟨b, 5, none⟩ (.int .i64 s.up.door))
theorem R6.put {W : World} {b : Nat} (a : R6 W b) (s : Sh) : SW (put6 W b s) b s :=
  ⟨((World.cell?_setCell_other _ _ _ _ (by simp)).trans (((World.cell?_setCell_other _ _ _ _ (by simp)).trans (((World.cell?_setCell_other _ _ _ _ (by simp)).trans (((World.cell?_setCell_other _ _ _ _ (by simp)).trans (((World.cell?_setCell_other _ _ _ _ (by simp)).trans ((World.cell?_setCell_same _ _ _ (a.c0)))))))))))), ((World.cell?_setCell_other _ _ _ _ (by simp)).trans (((World.cell?_setCell_other _ _ _ _ (by simp)).trans (((World.cell?_setCell_other _ _ _ _ (by simp)).trans (((World.cell?_setCell_other _ _ _ _ (by simp)).trans ((World.cell?_setCell_same _ _ _ (((World.cell?_setCell_other _ _ _ _ (by simp)).trans (a.c1)))))))))))), ((World.cell?_setCell_other _ _ _ _ (by simp)).trans (((World.cell?_setCell_other _ _ _ _ (by simp)).trans (((World.cell?_setCell_other _ _ _ _ (by simp)).trans ((World.cell?_setCell_same _ _ _ (((World.cell?_setCell_other _ _ _ _ (by simp)).trans (((World.cell?_setCell_other _ _ _ _ (by simp)).trans (a.c2)))))))))))), ((World.cell?_setCell_other _ _ _ _ (by simp)).trans (((World.cell?_setCell_other _ _ _ _ (by simp)).trans ((World.cell?_setCell_same _ _ _ (((World.cell?_setCell_other _ _ _ _ (by simp)).trans (((World.cell?_setCell_other _ _ _ _ (by simp)).trans (((World.cell?_setCell_other _ _ _ _ (by simp)).trans (a.c3)))))))))))), ((World.cell?_setCell_other _ _ _ _ (by simp)).trans ((World.cell?_setCell_same _ _ _ (((World.cell?_setCell_other _ _ _ _ (by simp)).trans (((World.cell?_setCell_other _ _ _ _ (by simp)).trans (((World.cell?_setCell_other _ _ _ _ (by simp)).trans (((World.cell?_setCell_other _ _ _ _ (by simp)).trans (a.c4)))))))))))), (World.cell?_setCell_same _ _ _ (((World.cell?_setCell_other _ _ _ _ (by simp)).trans (((World.cell?_setCell_other _ _ _ _ (by simp)).trans (((World.cell?_setCell_other _ _ _ _ (by simp)).trans (((World.cell?_setCell_other _ _ _ _ (by simp)).trans (((World.cell?_setCell_other _ _ _ _ (by simp)).trans (a.c5)))))))))))), (World.frozen?_setCell _ _ _ _).trans ((World.frozen?_setCell _ _ _ _).trans ((World.frozen?_setCell _ _ _ _).trans ((World.frozen?_setCell _ _ _ _).trans ((World.frozen?_setCell _ _ _ _).trans ((World.frozen?_setCell _ _ _ _).trans (a.f0)))))), (World.frozen?_setCell _ _ _ _).trans ((World.frozen?_setCell _ _ _ _).trans ((World.frozen?_setCell _ _ _ _).trans ((World.frozen?_setCell _ _ _ _).trans ((World.frozen?_setCell _ _ _ _).trans ((World.frozen?_setCell _ _ _ _).trans (a.f1)))))), (World.frozen?_setCell _ _ _ _).trans ((World.frozen?_setCell _ _ _ _).trans ((World.frozen?_setCell _ _ _ _).trans ((World.frozen?_setCell _ _ _ _).trans ((World.frozen?_setCell _ _ _ _).trans ((World.frozen?_setCell _ _ _ _).trans (a.f2)))))), (World.frozen?_setCell _ _ _ _).trans ((World.frozen?_setCell _ _ _ _).trans ((World.frozen?_setCell _ _ _ _).trans ((World.frozen?_setCell _ _ _ _).trans ((World.frozen?_setCell _ _ _ _).trans ((World.frozen?_setCell _ _ _ _).trans (a.f3)))))), (World.frozen?_setCell _ _ _ _).trans ((World.frozen?_setCell _ _ _ _).trans ((World.frozen?_setCell _ _ _ _).trans ((World.frozen?_setCell _ _ _ _).trans ((World.frozen?_setCell _ _ _ _).trans ((World.frozen?_setCell _ _ _ _).trans (a.f4)))))), (World.frozen?_setCell _ _ _ _).trans ((World.frozen?_setCell _ _ _ _).trans ((World.frozen?_setCell _ _ _ _).trans ((World.frozen?_setCell _ _ _ _).trans ((World.frozen?_setCell _ _ _ _).trans ((World.frozen?_setCell _ _ _ _).trans (a.f5))))))⟩
theorem below_putLo {B : Nat} {w W : World} (h : Below B w W) {b : Nat} (hb : B ≤ b) (c : Cs) : Below B w (putLo W b c) := (((h.setCell hb _).setCell hb _).setCell hb _)
theorem below_putUp {B : Nat} {w W : World} (h : Below B w W) {b : Nat} (hb : B ≤ b) (c : Cs) : Below B w (putUp W b c) := (((h.setCell hb _).setCell hb _).setCell hb _)
theorem below_put6 {B : Nat} {w W : World} (h : Below B w W) {b : Nat} (hb : B ≤ b) (s : Sh) : Below B w (put6 W b s) := ((((((h.setCell hb _).setCell hb _).setCell hb _).setCell hb _).setCell hb _).setCell hb _)
theorem SW.putLo {W : World} {b k : Nat} {s : Sh} (a : SW W b s) (hne : b ≠ k) (c : Cs) : SW (putLo W k c) b s := ((a.other hne).other hne).other hne
theorem SW.putUp {W : World} {b k : Nat} {s : Sh} (a : SW W b s) (hne : b ≠ k) (c : Cs) : SW (putUp W k c) b s := ((a.other hne).other hne).other hne
theorem R6.putLo {W : World} {b k : Nat} (a : R6 W b) (hne : b ≠ k) (c : Cs) : R6 (putLo W k c) b := ((a.other hne).other hne).other hne
theorem R6.putUp {W : World} {b k : Nat} (a : R6 W b) (hne : b ≠ k) (c : Cs) : R6 (putUp W k c) b := ((a.other hne).other hne).other hne

/-- A code and a shaft, stored into the block b. -/
def put7 (W : World) (b : Nat) (k : Int) (s : Sh) : World := (((((((W.setCell ⟨b, 0, none⟩ (.int .i64 k)).setCell ⟨b, 1, none⟩ (.int .i64 s.lo.pos)).setCell ⟨b, 2, none⟩ (.int .i64 s.lo.vel)).setCell ⟨b, 3, none⟩ (.int .i64 s.lo.door)).setCell ⟨b, 4, none⟩ (.int .i64 s.up.pos)).setCell ⟨b, 5, none⟩ (.int .i64 s.up.vel)).setCell ⟨b, 6, none⟩ (.int .i64 s.up.door))
structure V7 (w : World) (b : Nat) (k : Int) (s : Sh) : Prop where
  c0 : w.cell? ⟨b, 0, none⟩ = some (.int .i64 k)
  c1 : w.cell? ⟨b, 1, none⟩ = some (.int .i64 s.lo.pos)
  c2 : w.cell? ⟨b, 2, none⟩ = some (.int .i64 s.lo.vel)
  c3 : w.cell? ⟨b, 3, none⟩ = some (.int .i64 s.lo.door)
  c4 : w.cell? ⟨b, 4, none⟩ = some (.int .i64 s.up.pos)
  c5 : w.cell? ⟨b, 5, none⟩ = some (.int .i64 s.up.vel)
  c6 : w.cell? ⟨b, 6, none⟩ = some (.int .i64 s.up.door)
structure V4 (w : World) (b : Nat) (k : Int) (c : Cs) : Prop where
  c0 : w.cell? ⟨b, 0, none⟩ = some (.int .i64 k)
  c1 : w.cell? ⟨b, 1, none⟩ = some (.int .i64 c.pos)
  c2 : w.cell? ⟨b, 2, none⟩ = some (.int .i64 c.vel)
  c3 : w.cell? ⟨b, 3, none⟩ = some (.int .i64 c.door)
theorem V4.lt {w : World} {b : Nat} {k : Int} {c : Cs} (a : V4 w b k c) : b < w.heap.size := World.block_lt_of_cell? w _ a.c0
theorem V4.new (w : World) (k : Int) (c : Cs) (T : TypeId) : V4 (w.alloc (.cells #[.int .i64 k, .int .i64 c.pos, .int .i64 c.vel, .int .i64 c.door] T)) w.heap.size k c := by
  constructor <;> simp
theorem V4.below {W w : World} {b B : Nat} {k : Int} {c : Cs} (a : V4 W b k c) (hb : Below B W w) (hB : b < B) : V4 w b k c :=
  ⟨(hb.cell (p := ⟨b, 0, none⟩) hB).trans a.c0, (hb.cell (p := ⟨b, 1, none⟩) hB).trans a.c1, (hb.cell (p := ⟨b, 2, none⟩) hB).trans a.c2, (hb.cell (p := ⟨b, 3, none⟩) hB).trans a.c3⟩
theorem V4.alloc {W : World} {b : Nat} {k : Int} {c : Cs} (a : V4 W b k c) (o : Obj) : V4 (W.alloc o) b k c := a.below ((Below.refl _ _).alloc (Nat.le_refl _) o) a.lt
theorem V7.lt {w : World} {b : Nat} {k : Int} {s : Sh} (a : V7 w b k s) : b < w.heap.size := World.block_lt_of_cell? w _ a.c0
theorem V7.new (w : World) (k : Int) (s : Sh) (T : TypeId) : V7 (w.alloc (.cells #[.int .i64 k, .int .i64 s.lo.pos, .int .i64 s.lo.vel, .int .i64 s.lo.door, .int .i64 s.up.pos, .int .i64 s.up.vel, .int .i64 s.up.door] T)) w.heap.size k s := by
  constructor <;> simp
theorem V7.below {W w : World} {b B : Nat} {k : Int} {s : Sh} (a : V7 W b k s) (hb : Below B W w) (hB : b < B) : V7 w b k s :=
  ⟨(hb.cell (p := ⟨b, 0, none⟩) hB).trans a.c0, (hb.cell (p := ⟨b, 1, none⟩) hB).trans a.c1, (hb.cell (p := ⟨b, 2, none⟩) hB).trans a.c2, (hb.cell (p := ⟨b, 3, none⟩) hB).trans a.c3, (hb.cell (p := ⟨b, 4, none⟩) hB).trans a.c4, (hb.cell (p := ⟨b, 5, none⟩) hB).trans a.c5, (hb.cell (p := ⟨b, 6, none⟩) hB).trans a.c6⟩
theorem V7.alloc {W : World} {b : Nat} {k : Int} {s : Sh} (a : V7 W b k s) (o : Obj) : V7 (W.alloc o) b k s := a.below ((Below.refl _ _).alloc (Nat.le_refl _) o) a.lt
theorem VAt.alloc {W : World} {b : Nat} {c v : Int} (a : VAt W b c v) (o : Obj) : VAt (W.alloc o) b c v := a.below ((Below.refl _ _).alloc (Nat.le_refl _) o) a.lt
theorem R7.put {W : World} {b : Nat} (a : R7 W b) (k : Int) (s : Sh) : V7 (put7 W b k s) b k s :=
  ⟨((World.cell?_setCell_other _ _ _ _ (by simp)).trans (((World.cell?_setCell_other _ _ _ _ (by simp)).trans (((World.cell?_setCell_other _ _ _ _ (by simp)).trans (((World.cell?_setCell_other _ _ _ _ (by simp)).trans (((World.cell?_setCell_other _ _ _ _ (by simp)).trans (((World.cell?_setCell_other _ _ _ _ (by simp)).trans ((World.cell?_setCell_same _ _ _ (a.c0)))))))))))))), ((World.cell?_setCell_other _ _ _ _ (by simp)).trans (((World.cell?_setCell_other _ _ _ _ (by simp)).trans (((World.cell?_setCell_other _ _ _ _ (by simp)).trans (((World.cell?_setCell_other _ _ _ _ (by simp)).trans (((World.cell?_setCell_other _ _ _ _ (by simp)).trans ((World.cell?_setCell_same _ _ _ (((World.cell?_setCell_other _ _ _ _ (by simp)).trans (a.c1)))))))))))))), ((World.cell?_setCell_other _ _ _ _ (by simp)).trans (((World.cell?_setCell_other _ _ _ _ (by simp)).trans (((World.cell?_setCell_other _ _ _ _ (by simp)).trans (((World.cell?_setCell_other _ _ _ _ (by simp)).trans ((World.cell?_setCell_same _ _ _ (((World.cell?_setCell_other _ _ _ _ (by simp)).trans (((World.cell?_setCell_other _ _ _ _ (by simp)).trans (a.c2)))))))))))))), ((World.cell?_setCell_other _ _ _ _ (by simp)).trans (((World.cell?_setCell_other _ _ _ _ (by simp)).trans (((World.cell?_setCell_other _ _ _ _ (by simp)).trans ((World.cell?_setCell_same _ _ _ (((World.cell?_setCell_other _ _ _ _ (by simp)).trans (((World.cell?_setCell_other _ _ _ _ (by simp)).trans (((World.cell?_setCell_other _ _ _ _ (by simp)).trans (a.c3)))))))))))))), ((World.cell?_setCell_other _ _ _ _ (by simp)).trans (((World.cell?_setCell_other _ _ _ _ (by simp)).trans ((World.cell?_setCell_same _ _ _ (((World.cell?_setCell_other _ _ _ _ (by simp)).trans (((World.cell?_setCell_other _ _ _ _ (by simp)).trans (((World.cell?_setCell_other _ _ _ _ (by simp)).trans (((World.cell?_setCell_other _ _ _ _ (by simp)).trans (a.c4)))))))))))))), ((World.cell?_setCell_other _ _ _ _ (by simp)).trans ((World.cell?_setCell_same _ _ _ (((World.cell?_setCell_other _ _ _ _ (by simp)).trans (((World.cell?_setCell_other _ _ _ _ (by simp)).trans (((World.cell?_setCell_other _ _ _ _ (by simp)).trans (((World.cell?_setCell_other _ _ _ _ (by simp)).trans (((World.cell?_setCell_other _ _ _ _ (by simp)).trans (a.c5)))))))))))))), (World.cell?_setCell_same _ _ _ (((World.cell?_setCell_other _ _ _ _ (by simp)).trans (((World.cell?_setCell_other _ _ _ _ (by simp)).trans (((World.cell?_setCell_other _ _ _ _ (by simp)).trans (((World.cell?_setCell_other _ _ _ _ (by simp)).trans (((World.cell?_setCell_other _ _ _ _ (by simp)).trans (((World.cell?_setCell_other _ _ _ _ (by simp)).trans (a.c6))))))))))))))⟩
theorem below_put7 {B : Nat} {w W : World} (h : Below B w W) {b : Nat} (hb : B ≤ b) (k : Int) (s : Sh) : Below B w (put7 W b k s) := (((((((h.setCell hb _).setCell hb _).setCell hb _).setCell hb _).setCell hb _).setCell hb _).setCell hb _)
end Go.Proofs.YtoacnglcneliiaaGreatDoor

/-
  Results that are stored whole into a block of their own.
-/
namespace Go.Proofs.YtoacnglcneliiaaGreatDoor
open Go.RowKit Pl

theorem cellS {W : World} {b k o p : Nat} {v : Value} (hne : b ≠ k) : (W.setCell ⟨k, o, none⟩ v).cell? ⟨b, p, none⟩ = W.cell? ⟨b, p, none⟩ := World.cell?_setCell_other _ _ _ _ (fun e => hne (congrArg Addr.block e).symm)
def put2 (W : World) (b : Nat) (k v : Int) : World := ((W.setCell ⟨b, 0, none⟩ (.int .i64 k)).setCell ⟨b, 1, none⟩ (.int .i64 v))
theorem R2.put {W : World} {b : Nat} (a : R2 W b) (k v : Int) : VAt (put2 W b k v) b k v :=
  ⟨((World.cell?_setCell_other _ _ _ _ (by simp)).trans ((World.cell?_setCell_same _ _ _ (a.c0)))), (World.cell?_setCell_same _ _ _ (((World.cell?_setCell_other _ _ _ _ (by simp)).trans (a.c1))))⟩
theorem below_put2 {B : Nat} {w W : World} (h : Below B w W) {b : Nat} (hb : B ≤ b) (k v : Int) : Below B w (put2 W b k v) := ((h.setCell hb _).setCell hb _)
def put4 (W : World) (b : Nat) (k : Int) (c : Cs) : World := ((((W.setCell ⟨b, 0, none⟩ (.int .i64 k)).setCell ⟨b, 1, none⟩ (.int .i64 c.pos)).setCell ⟨b, 2, none⟩ (.int .i64 c.vel)).setCell ⟨b, 3, none⟩ (.int .i64 c.door))
theorem R4.put {W : World} {b : Nat} (a : R4 W b) (k : Int) (c : Cs) : V4 (put4 W b k c) b k c :=
  ⟨((World.cell?_setCell_other _ _ _ _ (by simp)).trans (((World.cell?_setCell_other _ _ _ _ (by simp)).trans (((World.cell?_setCell_other _ _ _ _ (by simp)).trans ((World.cell?_setCell_same _ _ _ (a.c0)))))))), ((World.cell?_setCell_other _ _ _ _ (by simp)).trans (((World.cell?_setCell_other _ _ _ _ (by simp)).trans ((World.cell?_setCell_same _ _ _ (((World.cell?_setCell_other _ _ _ _ (by simp)).trans (a.c1)))))))), ((World.cell?_setCell_other _ _ _ _ (by simp)).trans ((World.cell?_setCell_same _ _ _ (((World.cell?_setCell_other _ _ _ _ (by simp)).trans (((World.cell?_setCell_other _ _ _ _ (by simp)).trans (a.c2)))))))), (World.cell?_setCell_same _ _ _ (((World.cell?_setCell_other _ _ _ _ (by simp)).trans (((World.cell?_setCell_other _ _ _ _ (by simp)).trans (((World.cell?_setCell_other _ _ _ _ (by simp)).trans (a.c3))))))))⟩
theorem below_put4 {B : Nat} {w W : World} (h : Below B w W) {b : Nat} (hb : B ≤ b) (k : Int) (c : Cs) : Below B w (put4 W b k c) := ((((h.setCell hb _).setCell hb _).setCell hb _).setCell hb _)
end Go.Proofs.YtoacnglcneliiaaGreatDoor

/-
  A result of 3 cells: not filled yet, filled, stored whole.
-/
namespace Go.Proofs.YtoacnglcneliiaaGreatDoor
open Go.RowKit Pl

structure RGls (w : World) (b : Nat) : Prop where
  c0 : w.cell? ⟨b, 0, none⟩ = some (.int .i64 0)
  c1 : w.cell? ⟨b, 1, none⟩ = some (.int .i64 0)
  c2 : w.cell? ⟨b, 2, none⟩ = some (.int .i64 0)
  f0 : w.frozen? ⟨b, 0, none⟩ = false
  f1 : w.frozen? ⟨b, 1, none⟩ = false
  f2 : w.frozen? ⟨b, 2, none⟩ = false
theorem RGls.lt {w : World} {b : Nat} (a : RGls w b) : b < w.heap.size := World.block_lt_of_cell? w _ a.c0
theorem RGls.at_ (w : World) (T : TypeId) (b : Nat) (hb : b = w.heap.size) : RGls (w.alloc (.cells #[.int .i64 0, .int .i64 0, .int .i64 0] T)) b := by
  subst hb
  constructor <;> simp
theorem RGls.below {W w : World} {b B : Nat} (a : RGls W b) (hb : Below B W w) (hB : b < B) : RGls w b :=
  ⟨(hb.cell (p := ⟨b, 0, none⟩) hB).trans a.c0, (hb.cell (p := ⟨b, 1, none⟩) hB).trans a.c1, (hb.cell (p := ⟨b, 2, none⟩) hB).trans a.c2, (hb.frozen (p := ⟨b, 0, none⟩) hB).trans a.f0, (hb.frozen (p := ⟨b, 1, none⟩) hB).trans a.f1, (hb.frozen (p := ⟨b, 2, none⟩) hB).trans a.f2⟩
theorem RGls.alloc {W : World} {b : Nat} (a : RGls W b) (o : Obj) : RGls (W.alloc o) b := a.below ((Below.refl _ _).alloc (Nat.le_refl _) o) a.lt
theorem RGls.other {W : World} {b kb o : Nat} {u : Value} (a : RGls W b) (hne : b ≠ kb) : RGls (W.setCell ⟨kb, o, none⟩ u) b :=
  ⟨(cellS hne).trans a.c0, (cellS hne).trans a.c1, (cellS hne).trans a.c2, (World.frozen?_setCell _ _ _ _).trans a.f0, (World.frozen?_setCell _ _ _ _).trans a.f1, (World.frozen?_setCell _ _ _ _).trans a.f2⟩
structure VGls (w : World) (b : Nat) (k p q : Int) : Prop where
  c0 : w.cell? ⟨b, 0, none⟩ = some (.int .i64 k)
  c1 : w.cell? ⟨b, 1, none⟩ = some (.int .i64 p)
  c2 : w.cell? ⟨b, 2, none⟩ = some (.int .i64 q)
theorem VGls.lt {w : World} {b : Nat} {k p q : Int} (a : VGls w b k p q) : b < w.heap.size := World.block_lt_of_cell? w _ a.c0
theorem VGls.at_ (w : World) (k p q : Int) (T : TypeId) (b : Nat) (hb : b = w.heap.size) : VGls (w.alloc (.cells #[.int .i64 k, .int .i64 p, .int .i64 q] T)) b k p q := by
  subst hb
  constructor <;> simp
theorem VGls.below {W w : World} {b B : Nat} {k p q : Int} (a : VGls W b k p q) (hb : Below B W w) (hB : b < B) : VGls w b k p q :=
  ⟨(hb.cell (p := ⟨b, 0, none⟩) hB).trans a.c0, (hb.cell (p := ⟨b, 1, none⟩) hB).trans a.c1, (hb.cell (p := ⟨b, 2, none⟩) hB).trans a.c2⟩
theorem VGls.alloc {W : World} {b : Nat} {k p q : Int} (a : VGls W b k p q) (o : Obj) : VGls (W.alloc o) b k p q := a.below ((Below.refl _ _).alloc (Nat.le_refl _) o) a.lt
theorem VGls.other {W : World} {b kb o : Nat} {u : Value} {k p q : Int} (a : VGls W b k p q) (hne : b ≠ kb) : VGls (W.setCell ⟨kb, o, none⟩ u) b k p q :=
  ⟨(cellS hne).trans a.c0, (cellS hne).trans a.c1, (cellS hne).trans a.c2⟩
def putGls (W : World) (b : Nat) (k p q : Int) : World := (((W.setCell ⟨b, 0, none⟩ (.int .i64 k)).setCell ⟨b, 1, none⟩ (.int .i64 p)).setCell ⟨b, 2, none⟩ (.int .i64 q))
theorem RGls.put {W : World} {b : Nat} (a : RGls W b) (k p q : Int) : VGls (putGls W b k p q) b k p q :=
  ⟨((World.cell?_setCell_other _ _ _ _ (by simp)).trans (((World.cell?_setCell_other _ _ _ _ (by simp)).trans ((World.cell?_setCell_same _ _ _ (a.c0)))))), ((World.cell?_setCell_other _ _ _ _ (by simp)).trans ((World.cell?_setCell_same _ _ _ (((World.cell?_setCell_other _ _ _ _ (by simp)).trans (a.c1)))))), (World.cell?_setCell_same _ _ _ (((World.cell?_setCell_other _ _ _ _ (by simp)).trans (((World.cell?_setCell_other _ _ _ _ (by simp)).trans (a.c2))))))⟩
theorem below_putGls {B : Nat} {w W : World} (h : Below B w W) {b : Nat} (hb : B ≤ b) (k p q : Int) : Below B w (putGls W b k p q) := (((h.setCell hb _).setCell hb _).setCell hb _)
end Go.Proofs.YtoacnglcneliiaaGreatDoor

/-
  Where a car without a fault is, and how far it may come, in plain numbers.
-/
namespace Go.Proofs.YtoacnglcneliiaaGreatDoor
open Pl

theorem car_env {h : Hs} {c : Cs} (k : CarOk h c) : -9000000 ≤ h.lo c.pos c.vel ∧ h.lo c.pos c.vel ≤ c.pos ∧ c.pos ≤ h.hi c.pos c.vel ∧ h.hi c.pos c.vel ≤ 9000000 ∧ -5000000 ≤ c.pos ∧ c.pos ≤ 5000000 ∧ -500 ≤ c.vel ∧ c.vel ≤ 500 := by
  have o := k.ok
  have en := o.ends; have s2 := o.sp2; have b1 := o.pu1; have b2 := o.br1
  have p1 := k.p1; have p2 := k.p2; have v1 := k.v1; have v2 := k.v2
  unfold Hs.lo Hs.hi
  by_cases c1 : 0 < c.vel
  · obtain ⟨s3, s4⟩ := stop_small c.vel h.br (by omega) (by omega) (by omega)
    rw [if_neg (by omega), if_pos c1]; omega
  · by_cases c2 : c.vel < 0
    · obtain ⟨s3, s4⟩ := stop_small (-c.vel) h.br (by omega) (by omega) (by omega)
      rw [if_pos c2, if_neg c1]; omega
    · rw [if_neg c2, if_neg c1]; omega

end Go.Proofs.YtoacnglcneliiaaGreatDoor

/-
  cmp.Or over two numbers, in one contract.
-/
namespace Go.Proofs.YtoacnglcneliiaaGreatDoor
open Go.RowKit Pl

def orI (x y : Int) : Int := if x = 0 then y else x
structure Pr2 (w : World) (b : Nat) (x y : Int) : Prop where
  c0 : w.cell? ⟨b, 0, none⟩ = some (.int .i64 x)
  c1 : w.cell? ⟨b, 1, none⟩ = some (.int .i64 y)
theorem Pr2.lt {w : World} {b : Nat} {x y : Int} (a : Pr2 w b x y) : b < w.heap.size := World.block_lt_of_cell? w _ a.c0
theorem Pr2.below {W w : World} {b B : Nat} {x y : Int} (a : Pr2 W b x y) (hb : Below B W w) (hB : b < B) : Pr2 w b x y := ⟨(hb.cell (p := ⟨b, 0, none⟩) hB).trans a.c0, (hb.cell (p := ⟨b, 1, none⟩) hB).trans a.c1⟩
theorem Pr2.alloc {W : World} {b : Nat} {x y : Int} (a : Pr2 W b x y) (o : Obj) : Pr2 (W.alloc o) b x y := a.below ((Below.refl _ _).alloc (Nat.le_refl _) o) a.lt
theorem Pr2.at_ (w : World) (x y : Int) (T : TypeId) (b : Nat) (hb : b = w.heap.size) : Pr2 (w.alloc (.cells #[.int .i64 x, .int .i64 y] T)) b x y := by
  subst hb
  constructor <;> simp
end Go.Proofs.YtoacnglcneliiaaGreatDoor

/-
  A block of one's own that holds a list of values, and may be written.
-/
namespace Go.Proofs.YtoacnglcneliiaaGreatDoor
open Go.RowKit Pl
set_option linter.unusedSimpArgs false
set_option linter.unusedVariables false

structure Blk (w : World) (b : Nat) (vs : List Value) : Prop where
  o : ∃ T, w.heap[b]? = some (.cells vs.toArray T (0, 0))
theorem Blk.lt {w : World} {b : Nat} {vs : List Value} (a : Blk w b vs) : b < w.heap.size := by
  obtain ⟨T, h⟩ := a.o
  exact (Array.getElem?_eq_some_iff.1 h).1
theorem Blk.c {w : World} {b : Nat} {vs : List Value} (a : Blk w b vs) (k : Nat) (v : Value) (hv : vs[k]? = some v) : w.cell? ⟨b, k, none⟩ = some v := by
  obtain ⟨T, h⟩ := a.o
  simp [World.cell?, h, hv]
theorem Blk.f {w : World} {b : Nat} {vs : List Value} (a : Blk w b vs) (k : Nat) (hk : k < vs.length) : w.frozen? ⟨b, k, none⟩ = false := by
  obtain ⟨T, h⟩ := a.o
  simp [World.frozen?, h]
theorem Blk.of {W w : World} {b : Nat} {vs : List Value} (a : Blk W b vs) (h : w.heap[b]? = W.heap[b]?) : Blk w b vs := by
  obtain ⟨T, hT⟩ := a.o
  exact ⟨T, h.trans hT⟩
theorem Blk.below {W w : World} {b B : Nat} {vs : List Value} (a : Blk W b vs) (hb : Below B W w) (hB : b < B) : Blk w b vs := a.of (hb.block b hB)
theorem Blk.alloc {W : World} {b : Nat} {vs : List Value} (a : Blk W b vs) (o : Obj) : Blk (W.alloc o) b vs := a.of (Below.heap_alloc W o b a.lt)
theorem Blk.drew {W : World} {b : Nat} {vs : List Value} (a : Blk W b vs) : Blk W.drew b vs := a.of rfl
theorem Blk.other {W : World} {b k q : Nat} {u : Value} {vs : List Value} (a : Blk W b vs) (hne : b ≠ k) : Blk (W.setCell ⟨k, q, none⟩ u) b vs := a.of (Below.heap_setCell W _ u b hne)
theorem Blk.grown {W w : World} {b : Nat} {vs : List Value} {row : Option Nat} (a : Blk W b vs) (hg : W.grownBy w row) (hne : some b ≠ row) : Blk w b vs := a.of (hg.block b a.lt hne)
theorem Blk.at_ (w : World) (cs : Array Value) (T : TypeId) (b : Nat) (hb : b = w.heap.size) : Blk (w.alloc (.cells cs T)) b cs.toList := by
  subst hb
  exact ⟨T, by rw [Array.toArray_toList]; exact heap_alloc_new w _⟩
theorem Blk.set {W : World} {b k : Nat} {vs : List Value} (a : Blk W b vs) (u : Value) (_hk : k < vs.length) : Blk (W.setCell ⟨b, k, none⟩ u) b (vs.set k u) := by
  obtain ⟨T, h⟩ := a.o
  refine ⟨T, ?_⟩
  rw [heap_setCell_same W b k _ T u h]
  simp
theorem Blk.row {W : World} {b : Nat} {us : List Value} (a : Blk W b us) (vs : List Value) : Blk (W.setRow b vs.toArray) b vs := by
  obtain ⟨T, h⟩ := a.o
  exact ⟨T, setRow_heap W b _ _ T _ h⟩
theorem Blk.row_other {W : World} {b c : Nat} {us : List Value} (a : Blk W b us) (hne : b ≠ c) (vs : Array Value) : Blk (W.setRow c vs) b us := a.of (setRow_other W c b vs hne)
theorem below_row {B g : Nat} {w0 w : World} (hb : Below B w0 w) (hBg : B ≤ g) (cs : Array Value) : Below B w0 (w.setRow g cs) := hb.trans ⟨rfl, rfl, rfl, by simp, fun k hk => setRow_other w g k cs (by omega)⟩
/-- The whole of such a block is read, or written. -/
theorem load_blk {ops : Array Oper} {rest : List Oper} {o : Oper} {act : Act} {w : World} {Q : Exit → Act → World → Prop} {b : Nat} {vs : List Value} (T : TypeId) (x : Operand) {fs : Array Field} (hu : Tryz.prog.underlying T = some (.struct fs)) (hi : (Tryz.prog.info? T).map (·.size) = some vs.toArray.size) (hB : Blk w b vs)
    (hgd : o.guard = none) (ho : o.op = .load T x) (hx : act.eval x = .pointer (some ⟨b, 0, none⟩)) (h : wpList Tryz.prog ops Q rest (act.put o.dst (.agg vs.toArray)) w) : wpList Tryz.prog ops Q (o :: rest) act w := by
  obtain ⟨T', h'⟩ := hB.o
  exact wpList_load_row hgd T x ho b hx T' vs.toArray (0, 0) (.struct fs) h' hu rfl hi h
theorem store_blk {ops : Array Oper} {rest : List Oper} {o : Oper} {act : Act} {w : World} {Q : Exit → Act → World → Prop} {b : Nat} {us : List Value} (vs : List Value) (T : TypeId) (x y : Operand) (hi : (Tryz.prog.info? T).map (·.size) = some vs.toArray.size) (hl : us.toArray.size = vs.toArray.size) (h1 : vs.toArray.all (·.oneCell') = true) (hB : Blk w b us)
    (hgd : o.guard = none) (ho : o.op = .store T x y) (hx : act.eval x = .pointer (some ⟨b, 0, none⟩)) (hy : act.eval y = .agg vs.toArray) (h : wpList Tryz.prog ops Q rest (act.put o.dst undef) (w.setRow b vs.toArray)) : wpList Tryz.prog ops Q (o :: rest) act w := by
  obtain ⟨T', h'⟩ := hB.o
  exact wpList_store_row hgd T x y ho b vs.toArray hx hy T' us.toArray h' hi hl h1 h
theorem store_new {ops : Array Oper} {rest : List Oper} {o : Oper} {act : Act} {w : World} {Q : Exit → Act → World → Prop} {us : Array Value} {T' : TypeId} (vs : List Value) (T : TypeId) (x y : Operand) (hi : (Tryz.prog.info? T).map (·.size) = some vs.toArray.size) (hl : us.size = vs.toArray.size) (h1 : vs.toArray.all (·.oneCell') = true)
    (hgd : o.guard = none) (ho : o.op = .store T x y) (hx : act.eval x = .pointer (some ⟨w.heap.size, 0, none⟩)) (hy : act.eval y = .agg vs.toArray) (h : wpList Tryz.prog ops Q rest (act.put o.dst undef) (w.alloc (.cells vs.toArray T'))) : wpList Tryz.prog ops Q (o :: rest) act (w.alloc (.cells us T')) := by
  refine wpList_store_row hgd T x y ho w.heap.size vs.toArray hx hy T' us (heap_alloc_last w _) hi hl h1 ?_
  rw [World.setRow_alloc_new]
  exact h
theorem Blk.res {fn : Func} {p : Tmp} {T : TypeId} {b : Nat} {vs : List Value} {w : World} {fs : Array Field} (hB : Blk w b vs) (tmps : Array Value) (h : fn.results = #[.cell p T]) (hu : Tryz.prog.underlying T = some (.struct fs)) (hi : (Tryz.prog.info? T).map (·.size) = some vs.toArray.size) (hp : tmps.getD p undef = .pointer (some ⟨b, 0, none⟩)) :
    (results fn tmps).run Tryz.prog w = .ok (.agg vs.toArray) w := by
  obtain ⟨T', h'⟩ := hB.o
  exact results_cell_row h tmps w b T' vs.toArray (0, 0) (.struct fs) hp h' hu rfl hi
theorem exec_load_blk {o : Oper} {a : Act} {w : World} {b : Nat} {vs : List Value} (T : TypeId) (x : Operand) {fs : Array Field} (hu : Tryz.prog.underlying T = some (.struct fs)) (hi : (Tryz.prog.info? T).map (·.size) = some vs.toArray.size)
    (ho : o.op = .load T x) (hx : a.eval x = .pointer (some ⟨b, 0, none⟩)) (hB : Blk w b vs) : (execOp a.eval o).run Tryz.prog w = .ok (.value (.agg vs.toArray)) w := by
  obtain ⟨T', h'⟩ := hB.o
  unfold execOp
  simp only [ho, hx, Instr.loadAt, Instr.sureAddr, Sem.run_bind, Sem.run_pure, Result.andThen_ok, run_loadVar_row w b T' T vs.toArray (0, 0) (.struct fs) h' hu rfl hi]
/-- The values vs are written into the block b, from the cell k on. -/
def putB (W : World) (b : Nat) : Nat → List Value → World
  | _, [] => W
  | k, v :: vs => putB (W.setCell ⟨b, k, none⟩ v) b (k + 1) vs
def setL : Nat → List Value → List Value → List Value
  | _, [], us => us
  | k, v :: vs, us => setL (k + 1) vs (us.set k v)
theorem setL_len : ∀ (vs us : List Value) (k : Nat), (setL k vs us).length = us.length := by
  intro vs
  induction vs with
  | nil => intro us k; rfl
  | cons v vs ih => intro us k; exact (ih (us.set k v) (k + 1)).trans (List.length_set ..)
theorem setL_get : ∀ (vs us : List Value) (k j : Nat), k + vs.length ≤ us.length → (setL k vs us)[j]? = if j < k then us[j]? else if j < k + vs.length then vs[j - k]? else us[j]? := by
  intro vs
  induction vs with
  | nil =>
    intro us k j _
    show us[j]? = _
    split
    · rfl
    · rw [if_neg (by simp; omega)]
  | cons v vs ih =>
    intro us k j h
    simp only [List.length_cons] at h
    show (setL (k + 1) vs (us.set k v))[j]? = _
    rw [ih (us.set k v) (k + 1) j (by rw [List.length_set]; omega)]
    simp only [List.length_cons]
    by_cases c1 : j < k
    · rw [if_pos (by omega), if_pos c1, List.getElem?_set_ne (by omega)]
    · rw [if_neg c1]
      by_cases c2 : j = k
      · subst c2
        rw [if_pos (by omega), if_pos (by omega), List.getElem?_set_self (by omega), Nat.sub_self]
        rfl
      · rw [if_neg (by omega)]
        by_cases c3 : j < k + 1 + vs.length
        · rw [if_pos c3, if_pos (by omega), show j - k = (j - (k + 1)) + 1 by omega]
          rfl
        · rw [if_neg c3, if_neg (by omega), List.getElem?_set_ne (by omega)]
theorem setL_all (vs us : List Value) (h : vs.length = us.length) : setL 0 vs us = vs := by
  apply List.ext_getElem?
  intro j
  rw [setL_get vs us 0 j (by omega), if_neg (by omega)]
  split
  · rfl
  · rw [List.getElem?_eq_none (by omega), List.getElem?_eq_none (by omega)]
theorem putB_set {b : Nat} : ∀ (vs us : List Value) (k : Nat) (W : World), Blk W b us → k + vs.length ≤ us.length → Blk (putB W b k vs) b (setL k vs us) := by
  intro vs
  induction vs with
  | nil => intro us k W h _; exact h
  | cons v vs ih =>
    intro us k W h hk
    simp only [List.length_cons] at hk
    exact ih (us.set k v) (k + 1) _ (h.set v (by omega)) (by rw [List.length_set]; omega)
theorem Blk.put {W : World} {b : Nat} {us : List Value} (a : Blk W b us) (vs : List Value) (h : vs.length = us.length) : Blk (putB W b 0 vs) b vs := by
  have := putB_set vs us 0 W a (by omega)
  rwa [setL_all vs us h] at this
theorem below_putB {B : Nat} {w W : World} (h : Below B w W) {b : Nat} (hb : B ≤ b) : ∀ (vs : List Value) (k : Nat), Below B w (putB W b k vs) := by
  intro vs
  induction vs generalizing W with
  | nil => intro k; exact h
  | cons v vs ih => intro k; exact ih (h.setCell hb _) (k + 1)
theorem Blk.putB_other {W : World} {b c : Nat} {us : List Value} (hne : b ≠ c) : ∀ (vs : List Value) (k : Nat), Blk W b us → Blk (putB W c k vs) b us := by
  intro vs
  induction vs generalizing W with
  | nil => intro k a; exact a
  | cons v vs ih => intro k a; exact ih (k + 1) (a.other hne)
end Go.Proofs.YtoacnglcneliiaaGreatDoor

/-
  People and ledgers, in plain and in cells.
-/
namespace Go.Proofs.YtoacnglcneliiaaGreatDoor.Pl
/-- A person; a ledger. -/
structure Pe where
  id : Int
  fr : Int
  tw : Int
  sh : Int
  ca : Int
  st : Int
  pl : Int
structure Lg where
  nx : Int
  ps : List Pe
end Go.Proofs.YtoacnglcneliiaaGreatDoor.Pl
namespace Go.Proofs.YtoacnglcneliiaaGreatDoor
open Go.RowKit Pl
set_option linter.unusedSimpArgs false
set_option linter.unusedVariables false

/-- A person lies from the cell o of the block b on. -/
structure P7 (w : World) (b o : Nat) (p : Pe) : Prop where
  c0 : w.cell? ⟨b, o, none⟩ = some (.int .i64 p.id)
  c1 : w.cell? ⟨b, o + 1, none⟩ = some (.int .i64 p.fr)
  c2 : w.cell? ⟨b, o + 2, none⟩ = some (.int .i64 p.tw)
  c3 : w.cell? ⟨b, o + 3, none⟩ = some (.int .i64 p.sh)
  c4 : w.cell? ⟨b, o + 4, none⟩ = some (.int .i64 p.ca)
  c5 : w.cell? ⟨b, o + 5, none⟩ = some (.int .i64 p.st)
  c6 : w.cell? ⟨b, o + 6, none⟩ = some (.int .i64 p.pl)
theorem P7.lt {w : World} {b o : Nat} {p : Pe} (a : P7 w b o p) : b < w.heap.size := World.block_lt_of_cell? w _ a.c0
theorem P7.of {W w : World} {b o : Nat} {p : Pe} (a : P7 W b o p) (hc : ∀ k, w.cell? ⟨b, k, none⟩ = W.cell? ⟨b, k, none⟩) : P7 w b o p :=
  ⟨(hc _).trans a.c0, (hc _).trans a.c1, (hc _).trans a.c2, (hc _).trans a.c3, (hc _).trans a.c4, (hc _).trans a.c5, (hc _).trans a.c6⟩
theorem P7.at_ (w : World) (p : Pe) (T : TypeId) (b : Nat) (hb : b = w.heap.size) : P7 (w.alloc (.cells #[.int .i64 p.id, .int .i64 p.fr, .int .i64 p.tw, .int .i64 p.sh, .int .i64 p.ca, .int .i64 p.st, .int .i64 p.pl] T)) b 0 p := by
  subst hb
  constructor <;> simp
theorem P7.below {W w : World} {b o B : Nat} {p : Pe} (a : P7 W b o p) (hb : Below B W w) (hB : b < B) : P7 w b o p := a.of (fun k => hb.cell (p := ⟨b, k, none⟩) hB)
theorem P7.alloc {W : World} {b o : Nat} {p : Pe} (a : P7 W b o p) (ob : Obj) : P7 (W.alloc ob) b o p := a.below ((Below.refl _ _).alloc (Nat.le_refl _) ob) a.lt
theorem P7.drew {W : World} {b o : Nat} {p : Pe} (a : P7 W b o p) : P7 W.drew b o p := a.below (Below.refl W.heap.size W).drew a.lt
/-- The people l lie in a slice that begins at a. -/
def PIn (w : World) (B : Nat) (a : Option Addr) (l : List Pe) : Prop := l = [] ∨ ∃ b o, a = some ⟨b, o, none⟩ ∧ b < B ∧ ∀ i p, l[i]? = some p → P7 w b (o + i * 7) p
theorem PIn.below {W w : World} {B C : Nat} {a : Option Addr} {l : List Pe} (h : PIn W B a l) (hb : Below C W w) (hB : B ≤ C) : PIn w B a l := by
  rcases h with h | ⟨b, o, e, hl, h⟩
  · exact Or.inl h
  · exact Or.inr ⟨b, o, e, hl, fun i p hp => (h i p hp).below hb (by omega)⟩
/-- A ledger lies in the block b. -/
structure LAt (w : World) (b : Nat) (nx : Int) (a : Option Addr) (len cap : Nat) : Prop where
  c0 : w.cell? ⟨b, 0, none⟩ = some (.int .i64 nx)
  c1 : w.cell? ⟨b, 1, none⟩ = some (.slice a len cap)
theorem LAt.lt {w : World} {b : Nat} {nx : Int} {a : Option Addr} {len cap : Nat} (h : LAt w b nx a len cap) : b < w.heap.size := World.block_lt_of_cell? w _ h.c0
theorem LAt.below {W w : World} {b B : Nat} {nx : Int} {a : Option Addr} {len cap : Nat} (h : LAt W b nx a len cap) (hb : Below B W w) (hB : b < B) : LAt w b nx a len cap :=
  ⟨(hb.cell (p := ⟨b, 0, none⟩) hB).trans h.c0, (hb.cell (p := ⟨b, 1, none⟩) hB).trans h.c1⟩
/-- Is a person in a state, in a car (in any, if sh is below 0)? -/
def isIn (st sh ca : Int) (p : Pe) : Bool := p.st == st && (decide (sh < 0) || (p.sh == sh && p.ca == ca))
def cnt (st sh ca : Int) (l : List Pe) : Nat := l.countP (isIn st sh ca)
theorem countP_take {f : Pe → Bool} {l : List Pe} {i : Nat} {p : Pe} (h : l[i]? = some p) : (l.take (i + 1)).countP f = (l.take i).countP f + (if f p = true then 1 else 0) := by
  have hi : i < l.length := (List.getElem?_eq_some_iff.1 h).1
  have e : l[i] = p := (List.getElem?_eq_some_iff.1 h).2
  rw [List.take_succ_eq_append_getElem hi, List.countP_append, e]
  simp [List.countP_cons]
end Go.Proofs.YtoacnglcneliiaaGreatDoor

/-
  People in a row of their own.
-/
namespace Go.Proofs.YtoacnglcneliiaaGreatDoor
open Go.RowKit Pl
set_option linter.unusedSimpArgs false
set_option linter.unusedVariables false

def cells7 (p : Pe) : List Value := [.int .i64 p.id, .int .i64 p.fr, .int .i64 p.tw, .int .i64 p.sh, .int .i64 p.ca, .int .i64 p.st, .int .i64 p.pl]
def flat (l : List Pe) : List Value := l.flatMap cells7
theorem flat_nil : flat [] = [] := rfl
theorem flat_cons (p : Pe) (l : List Pe) : flat (p :: l) = cells7 p ++ flat l := rfl
theorem flat_append (l m : List Pe) : flat (l ++ m) = flat l ++ flat m := by simp [flat]
theorem flat_length (l : List Pe) : (flat l).length = l.length * 7 := by
  induction l with
  | nil => rfl
  | cons p l ih => rw [flat_cons, List.length_append, ih, List.length_cons]; simp [cells7]; omega
theorem flat_get {l : List Pe} {i : Nat} {p : Pe} (h : l[i]? = some p) {k : Nat} (hk : k < 7) : (flat l)[i * 7 + k]? = (cells7 p)[k]? := by
  induction l generalizing i with
  | nil => simp at h
  | cons q l ih =>
    rw [flat_cons]
    cases i with
    | zero =>
      simp at h
      subst h
      rw [List.getElem?_append_left (by simp [cells7]; omega)]
      simp
    | succ i =>
      rw [List.getElem?_append_right (by simp [cells7]; omega)]
      rw [show (i + 1) * 7 + k - (cells7 q).length = i * 7 + k by simp [cells7]; omega]
      exact ih (by simpa using h)
theorem flat_one (l : List Pe) : ∀ u ∈ flat l, u.oneCell' = true := by
  intro u hu
  obtain ⟨p, _, hp⟩ := List.mem_flatMap.1 hu
  simp [cells7] at hp
  rcases hp with rfl | rfl | rfl | rfl | rfl | rfl | rfl <;> rfl
theorem flat_set (l : List Pe) (i k : Nat) (p q : Pe) (u : Value) (h : l[i]? = some p) (hk : k < 7) (e : (cells7 p).set k u = cells7 q) : (flat l).set (i * 7 + k) u = flat (l.set i q) := by
  induction l generalizing i with
  | nil => simp at h
  | cons r l ih =>
    cases i with
    | zero =>
      simp at h
      subst h
      rw [List.set_cons_zero, flat_cons, flat_cons, List.set_append_left _ _ (by simp [cells7]; omega)]
      simp [e]
    | succ i =>
      rw [List.set_cons_succ, flat_cons, flat_cons, List.set_append_right _ _ (by simp [cells7]; omega)]
      rw [show (i + 1) * 7 + k - (cells7 r).length = i * 7 + k by simp [cells7]; omega]
      rw [ih i (by simpa using h)]

theorem PIn.mono {w : World} {B C : Nat} {a : Option Addr} {l : List Pe} (h : PIn w B a l) (hC : B ≤ C) : PIn w C a l := by
  rcases h with h | ⟨b, o, e, hl, h⟩
  · exact Or.inl h
  · exact Or.inr ⟨b, o, e, by omega, h⟩
/-- A ledger lies in the block b, and may be written. -/
structure LW (w : World) (b : Nat) (nx : Int) (v : Value) : Prop where
  c0 : w.cell? ⟨b, 0, none⟩ = some (.int .i64 nx)
  c1 : w.cell? ⟨b, 1, none⟩ = some v
  f0 : w.frozen? ⟨b, 0, none⟩ = false
  f1 : w.frozen? ⟨b, 1, none⟩ = false
theorem LW.lt {w : World} {b : Nat} {nx : Int} {v : Value} (h : LW w b nx v) : b < w.heap.size := World.block_lt_of_cell? w _ h.c0
theorem LW.at_ (w : World) (nx : Int) (v : Value) (T : TypeId) (b : Nat) (hb : b = w.heap.size) : LW (w.alloc (.cells #[.int .i64 nx, v] T)) b nx v := by
  subst hb
  constructor <;> simp
theorem LW.of {W w : World} {b : Nat} {nx : Int} {v : Value} (a : LW W b nx v) (hc : ∀ o, w.cell? ⟨b, o, none⟩ = W.cell? ⟨b, o, none⟩) (hf : ∀ o, w.frozen? ⟨b, o, none⟩ = W.frozen? ⟨b, o, none⟩) : LW w b nx v :=
  ⟨(hc 0).trans a.c0, (hc 1).trans a.c1, (hf 0).trans a.f0, (hf 1).trans a.f1⟩
theorem LW.below {W w : World} {b B : Nat} {nx : Int} {v : Value} (a : LW W b nx v) (hb : Below B W w) (hB : b < B) : LW w b nx v :=
  a.of (fun o => hb.cell (p := ⟨b, o, none⟩) hB) (fun o => hb.frozen (p := ⟨b, o, none⟩) hB)
theorem LW.alloc {W : World} {b : Nat} {nx : Int} {v : Value} (a : LW W b nx v) (o : Obj) : LW (W.alloc o) b nx v := a.below ((Below.refl _ _).alloc (Nat.le_refl _) o) a.lt
theorem LW.drew {W : World} {b : Nat} {nx : Int} {v : Value} (a : LW W b nx v) : LW W.drew b nx v := a.below (Below.refl W.heap.size W).drew a.lt
theorem LW.other {W : World} {b k o : Nat} {u : Value} {nx : Int} {v : Value} (a : LW W b nx v) (hne : b ≠ k) : LW (W.setCell ⟨k, o, none⟩ u) b nx v :=
  a.of (fun _ => World.cell?_setCell_other _ _ _ _ (fun e => hne (congrArg Addr.block e).symm)) (fun _ => World.frozen?_setCell _ _ _ _)
theorem LW.set0 {W : World} {b : Nat} {nx : Int} {v : Value} (a : LW W b nx v) (y : Int) : LW (W.setCell ⟨b, 0, none⟩ (.int .i64 y)) b y v :=
  ⟨World.cell?_setCell_same _ _ _ a.c0, (World.cell?_setCell_other _ _ _ _ (by simp)).trans a.c1, (World.frozen?_setCell _ _ _ _).trans a.f0, (World.frozen?_setCell _ _ _ _).trans a.f1⟩
theorem LW.set1 {W : World} {b : Nat} {nx : Int} {v : Value} (a : LW W b nx v) (u : Value) : LW (W.setCell ⟨b, 1, none⟩ u) b nx u :=
  ⟨(World.cell?_setCell_other _ _ _ _ (by simp)).trans a.c0, World.cell?_setCell_same _ _ _ a.c1, (World.frozen?_setCell _ _ _ _).trans a.f0, (World.frozen?_setCell _ _ _ _).trans a.f1⟩
theorem LW.lat {w : World} {b : Nat} {nx : Int} {a : Option Addr} {len cap : Nat} (h : LW w b nx (.slice a len cap)) : LAt w b nx a len cap := ⟨h.c0, h.c1⟩
theorem get_set {l : List Pe} {i : Nat} {p q : Pe} (h : l[i]? = some p) : (l.set i q)[i]? = some q := by
  have hi : i < l.length := (List.getElem?_eq_some_iff.1 h).1
  rw [List.getElem?_set_self hi]
/-- One of them is written whole. -/
def putP (W : World) (g o : Nat) (p : Pe) : World := ((((((W.setCell ⟨g, o, none⟩ (.int .i64 p.id)).setCell ⟨g, o + 1, none⟩ (.int .i64 p.fr)).setCell ⟨g, o + 2, none⟩ (.int .i64 p.tw)).setCell ⟨g, o + 3, none⟩ (.int .i64 p.sh)).setCell ⟨g, o + 4, none⟩ (.int .i64 p.ca)).setCell ⟨g, o + 5, none⟩ (.int .i64 p.st)).setCell ⟨g, o + 6, none⟩ (.int .i64 p.pl)
theorem below_putP {B : Nat} {w W : World} (h : Below B w W) {g : Nat} (hg : B ≤ g) (o : Nat) (p : Pe) : Below B w (putP W g o p) := ((((((h.setCell hg _).setCell hg _).setCell hg _).setCell hg _).setCell hg _).setCell hg _).setCell hg _
def zeroP : Pe := ⟨0, 0, 0, 0, 0, 0, 0⟩
theorem made_flat (n : Nat) : (madeCells (cells7 zeroP).toArray (n * 7)).toList = flat (List.replicate n zeroP) := by
  apply List.ext_getElem?
  intro j
  by_cases hj : j < n * 7
  · have e : j = j / 7 * 7 + j % 7 := by omega
    have h1 : (List.replicate n zeroP)[j / 7]? = some zeroP := by rw [List.getElem?_replicate, if_pos (by omega)]
    have h2 := flat_get h1 (k := j % 7) (Nat.mod_lt _ (by omega))
    rw [← e] at h2
    rw [h2]
    have h3 : j % 7 < 7 := Nat.mod_lt _ (by omega)
    simp [madeCells, hj, cells7]
    have : j % 7 = 0 ∨ j % 7 = 1 ∨ j % 7 = 2 ∨ j % 7 = 3 ∨ j % 7 = 4 ∨ j % 7 = 5 ∨ j % 7 = 6 := by omega
    rcases this with q | q | q | q | q | q | q <;> simp [q]
  · have h1 : (flat (List.replicate n zeroP)).length ≤ j := by rw [flat_length, List.length_replicate]; omega
    rw [List.getElem?_eq_none h1]
    simp [madeCells, hj]
end Go.Proofs.YtoacnglcneliiaaGreatDoor

/-
  Ledgers, in plain: what is asked of a call, of a person, of a ledger.
-/
namespace Go.Proofs.YtoacnglcneliiaaGreatDoor
open Go.RowKit Pl
set_option linter.unusedSimpArgs false
set_option linter.unusedVariables false

def Hs.callC (h : Hs) (f t : Int) : Int := if inB f 0 (h.fl - 1) = true ∧ inB t 0 (h.fl - 1) = true then (if f = t then 1 else 0) else 3
def Hs.call (h : Hs) (f t : Int) : Int := if h.fault = 0 then Hs.callC h f t else h.fault
def badAt (p : Pe) : Bool := ((p.pl != 0 && p.st != 2) && p.st != 3) || (p.st == 2 && p.pl != p.tw)
def inP (h : Hs) (p : Pe) : Bool := inB p.sh 0 2 && (inB p.ca 0 1 && (inB p.st 0 4 && inB p.pl 0 (h.fl - 1)))
/-- What is asked of a person, behind one of the id last. -/
def Hs.persC (h : Hs) (p : Pe) : Int := if Hs.callC h p.fr p.tw = 0 then (if inP h p = true then (if badAt p = true then 1 else 0) else 3) else Hs.callC h p.fr p.tw
def Hs.pers (h : Hs) (nx last : Int) (p : Pe) : Int := if inB p.id 1 (nx - 1) = true then (if p.id ≤ last then 1 else Hs.persC h p) else 3
/-- .. of all of them. -/
def Hs.first (h : Hs) (nx : Int) : Int → List Pe → Int
  | _, [] => 0
  | last, p :: l => if Hs.pers h nx last p = 0 then Hs.first h nx p.id l else Hs.pers h nx last p
def Hs.over (h : Hs) (l : List Pe) : Bool := (List.range 6).any fun k => decide (h.ld < cnt 1 ((k / 2 : Nat) : Int) ((k % 2 : Nat) : Int) l)
def Hs.ledC (h : Hs) (x : Lg) : Int :=
  if inB x.nx 1 1000000000000000 = true then
    (if 60 < x.ps.length then 2 else if Hs.first h x.nx 0 x.ps = 0 then (if h.qu < cnt 0 (-1) 0 x.ps then 2 else if Hs.over h x.ps = true then 2 else 0) else Hs.first h x.nx 0 x.ps)
  else 3
def Hs.led (h : Hs) (x : Lg) : Int := if h.fault = 0 then Hs.ledC h x else h.fault
/-- The id ahead of the i-th. -/
def lastId (l : List Pe) : Nat → Int
  | 0 => 0
  | i + 1 => match l[i]? with | some q => q.id | none => 0
theorem first_step {h : Hs} {nx last : Int} {l : List Pe} {i : Nat} {p : Pe} (hp : l[i]? = some p) (ok : ∀ j q, j < i → l[j]? = some q → Hs.pers h nx (if j = 0 then last else lastId l j) q = 0) : Hs.first h nx last l = (if Hs.pers h nx (if i = 0 then last else lastId l i) p = 0 then Hs.first h nx p.id (l.drop (i + 1)) else Hs.pers h nx (if i = 0 then last else lastId l i) p) := by
  induction l generalizing i last with
  | nil => simp at hp
  | cons q l ih =>
    cases i with
    | zero =>
      simp at hp
      subst hp
      simp [Hs.first]
    | succ i =>
      have h0 := ok 0 q (by omega) (by simp)
      rw [if_pos rfl] at h0
      show (if Hs.pers h nx last q = 0 then Hs.first h nx q.id l else _) = _
      rw [if_pos h0]
      have e : ∀ j, (if j = 0 then q.id else lastId l j) = lastId (q :: l) (j + 1) := by
        intro j
        cases j with
        | zero => simp [lastId]
        | succ j => simp [lastId]
      have hp' : l[i]? = some p := by simpa using hp
      rw [ih (last := q.id) hp' (fun j r hj hr => by
        rw [e j]
        have := ok (j + 1) r (by omega) (by simpa using hr)
        rw [if_neg (by omega)] at this
        exact this)]
      have z : (if i + 1 = 0 then last else lastId (q :: l) (i + 1)) = lastId (q :: l) (i + 1) := if_neg (by omega)
      rw [e i, z]
      simp
theorem first_all {h : Hs} {nx last : Int} {l : List Pe} (ok : ∀ j q, j < l.length → l[j]? = some q → Hs.pers h nx (if j = 0 then last else lastId l j) q = 0) : Hs.first h nx last l = 0 := by
  induction l generalizing last with
  | nil => rfl
  | cons q l ih =>
    have h0 := ok 0 q (by simp) (by simp)
    rw [if_pos rfl] at h0
    show (if Hs.pers h nx last q = 0 then Hs.first h nx q.id l else _) = _
    rw [if_pos h0]
    refine ih (fun j r hj hr => ?_)
    have := ok (j + 1) r (by simpa using hj) (by simpa using hr)
    rw [if_neg (by omega)] at this
    have e : (if j = 0 then q.id else lastId l j) = lastId (q :: l) (j + 1) := by
      cases j with
      | zero => simp [lastId]
      | succ j => simp [lastId]
    rw [e]
    exact this
end Go.Proofs.YtoacnglcneliiaaGreatDoor
