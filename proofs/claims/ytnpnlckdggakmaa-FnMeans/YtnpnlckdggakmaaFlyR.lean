/-
  Trips and means, in plain numbers.
-/
import Derived.Test.YtnpnlckdggakmaaFlyQ
namespace Go.Proofs.Ytnpnlckdggakmaa
open Go.RowKit Pl
set_option linter.unusedVariables false

def lg (l : List Int) (i : Nat) : Int := l.getD i 0
theorem lg_of {l : List Int} {i : Nat} {x : Int} (h : l[i]? = some x) : lg l i = x := by unfold lg; rw [List.getD_eq_getElem?_getD, h]; rfl
/-- The first k flights of a trip: are all done; how long each takes; how long all take. -/
def legB (h : Hs) (l : List Int) : Nat → Bool
  | 0 => true
  | k + 1 => legB h l k && Hs.fltB h (lg l k) (lg l (k + 1))
def legL (h : Hs) (l : List Int) : Nat → List Int
  | 0 => []
  | k + 1 => legL h l k ++ [Hs.fltN h (lg l k) (lg l (k + 1))]
def legS (h : Hs) (l : List Int) : Nat → Int
  | 0 => 0
  | k + 1 => legS h l k + Hs.fltN h (lg l k) (lg l (k + 1))
theorem legL_len (h : Hs) (l : List Int) : ∀ k, (legL h l k).length = k
  | 0 => rfl
  | k + 1 => by rw [legL, List.length_append, legL_len h l k]; rfl
theorem legS_bd (h : Hs) (l : List Int) : ∀ k : Nat, 0 ≤ legS h l k ∧ legS h l k ≤ 3000 * (k : Int)
  | 0 => by simp [legS]
  | k + 1 => by have a := legS_bd h l k; have b := fltN_bd h (lg l k) (lg l (k + 1)); rw [legS]; omega
theorem legB_down {h : Hs} {l : List Int} {k m : Nat} (hk : legB h l k = false) (hm : k ≤ m) : legB h l m = false := by
  induction m with
  | zero => rw [show k = 0 by omega] at hk; exact hk
  | succ m ih =>
    by_cases e : k = m + 1
    · rw [← e]; exact hk
    · rw [legB, ih (by omega)]; rfl
/-- The sum of the first k numbers of a list. -/
def sumF (l : List Int) : Nat → Int
  | 0 => 0
  | k + 1 => sumF l k + lg l k
theorem sumF_bd {l : List Int} {M : Int} (hM : 0 ≤ M) (h : ∀ x ∈ l, 0 ≤ x ∧ x ≤ M) : ∀ k : Nat, 0 ≤ sumF l k ∧ sumF l k ≤ M * (k : Int)
  | 0 => by simp [sumF]
  | k + 1 => by
    have a := sumF_bd hM h k
    have b : 0 ≤ lg l k ∧ lg l k ≤ M := by
      cases e : l[k]? with
      | none => unfold lg; rw [List.getD_eq_getElem?_getD, e]; exact ⟨Int.le_refl _, hM⟩
      | some x => rw [lg_of e]; exact h x (List.mem_of_getElem? e)
    have e : M * ((k + 1 : Nat) : Int) = M * (k : Int) + M := by rw [Int.natCast_add, Int.mul_add]; simp
    rw [sumF, e]; omega
theorem lg_app {l m : List Int} {i : Nat} (h : i < l.length) : lg (l ++ m) i = lg l i := by
  unfold lg; rw [List.getD_eq_getElem?_getD, List.getD_eq_getElem?_getD, List.getElem?_append_left h]
theorem sumF_app {l m : List Int} : ∀ {k : Nat}, k ≤ l.length → sumF (l ++ m) k = sumF l k
  | 0, _ => rfl
  | k + 1, hk => by rw [sumF, sumF, sumF_app (by omega), lg_app (by omega)]
theorem sum_legs (h : Hs) (l : List Int) : ∀ k, sumF (legL h l k) k = legS h l k
  | 0 => rfl
  | k + 1 => by
    have e := legL_len h l k
    rw [legL, sumF, legS, sumF_app (by omega), sum_legs h l k]
    congr 1
    exact lg_of (by rw [List.getElem?_append_right (by omega), e]; simp)
theorem legs_bd (h : Hs) (l : List Int) : ∀ k, ∀ x ∈ legL h l k, 0 ≤ x ∧ x ≤ 3000
  | 0, x, hx => by simp [legL] at hx
  | k + 1, x, hx => by
    rw [legL, List.mem_append] at hx
    rcases hx with hx | hx
    · exact legs_bd h l k x hx
    · rw [List.mem_singleton.1 hx]; exact fltN_bd h _ _
def Hs.trpB (h : Hs) (l : List Int) : Bool := legB h l (l.length - 1)
def Hs.trpT (h : Hs) (l : List Int) : Int := 2 * h.dO * (l.length : Int) + legS h l (l.length - 1)
def Hs.trpK (h : Hs) (l : List Int) : Int := if Hs.trpB h l = true then 0 else 2
def Hs.trpV (h : Hs) (l : List Int) : Int := if Hs.trpB h l = true then Hs.trpT h l else 0
def Hs.trpL (h : Hs) (l : List Int) : List Int := if Hs.trpB h l = true then legL h l (l.length - 1) else []
def flsA (h : Hs) (l : List Int) : Bool := l.all (fun x => inB x 0 (h.fl - 1))
theorem flsA_get {h : Hs} {l : List Int} (e : flsA h l = true) {i : Nat} {x : Int} (hx : l[i]? = some x) : inB x 0 (h.fl - 1) = true := List.all_eq_true.1 e x (List.mem_of_getElem? hx)
theorem flsA_no {h : Hs} {l : List Int} {i : Nat} {x : Int} (hx : l[i]? = some x) (c : inB x 0 (h.fl - 1) = false) : flsA h l = false := by
  cases e : flsA h l with
  | false => rfl
  | true => rw [flsA_get e hx] at c; cases c
theorem flsA_all {h : Hs} {l : List Int} (c : ∀ (i : Nat) (x : Int), l[i]? = some x → inB x 0 (h.fl - 1) = true) : flsA h l = true := by
  refine List.all_eq_true.2 fun x hx => ?_
  obtain ⟨i, hi⟩ := List.getElem?_of_mem hx
  exact c i x hi
theorem alls_step {l : List Int} {i : Nat} {x : Int} {P : Int → Prop} (ha : ∀ (j : Nat) (z : Int), j < i → l[j]? = some z → P z) (hx : l[i]? = some x) (hp : P x) : ∀ (j : Nat) (z : Int), j < i + 1 → l[j]? = some z → P z := by
  intro j z hj hz
  by_cases e : j = i
  · subst e
    rw [hx] at hz
    rw [← Option.some.inj hz]
    exact hp
  · exact ha j z (by omega) hz
def Hs.tpK (h : Hs) (l : List Int) : Int := if h.fault = 0 then (if l.length ≤ 30 then (if flsA h l = true then Hs.trpK h l else 3) else 2) else h.fault
def Hs.tpV (h : Hs) (l : List Int) : Int := if h.fault = 0 then (if l.length ≤ 30 then (if flsA h l = true then Hs.trpV h l else 0) else 0) else 0
theorem trp_yes {h : Hs} {l : List Int} (e : Hs.trpB h l = true) : Hs.trpK h l = 0 ∧ Hs.trpV h l = Hs.trpT h l ∧ Hs.trpL h l = legL h l (l.length - 1) := by
  unfold Hs.trpK Hs.trpV Hs.trpL; rw [if_pos e, if_pos e, if_pos e]; exact ⟨rfl, rfl, rfl⟩
theorem trp_no {h : Hs} {l : List Int} (e : Hs.trpB h l = false) : Hs.trpK h l = 2 ∧ Hs.trpV h l = 0 ∧ Hs.trpL h l = [] := by
  unfold Hs.trpK Hs.trpV Hs.trpL; rw [e]; exact ⟨rfl, rfl, rfl⟩
theorem mul_small {a b : Int} (a1 : 0 ≤ a) (a2 : a ≤ 20) (b1 : 0 ≤ b) (b2 : b ≤ 30) : 0 ≤ 2 * a * b ∧ 2 * a * b ≤ 1200 := by
  have := mul_bd (x := 2 * a) (X := 40) (y := b) (Y := 30) (by omega) (by omega) b1 b2
  omega
theorem trp_bd {h : Hs} (o : h.Ok) {l : List Int} (hl : l.length ≤ 30) : 0 ≤ Hs.trpT h l ∧ Hs.trpT h l ≤ 100000 := by
  have a := mul_small (a := h.dO) (b := (l.length : Int)) (by have := o.do1; omega) o.do2 (by omega) (by omega)
  have b := legS_bd h l (l.length - 1)
  unfold Hs.trpT; omega
/-- Two neighbours in a list. -/
structure PairF (w : World) (g i : Nat) (x y : Int) : Prop where
  c0 : w.cell? ⟨g, i, none⟩ = some (.int .i64 x)
  c1 : w.cell? ⟨g, i + 1, none⟩ = some (.int .i64 y)
  lt' : g < w.heap.size
theorem PairF.lt {w : World} {g i : Nat} {x y : Int} (a : PairF w g i x y) : g < w.heap.size := a.lt'
theorem PairF.below {W w : World} {g i B : Nat} {x y : Int} (a : PairF W g i x y) (hb : Below B W w) (hB : g < B) : PairF w g i x y := ⟨(hb.cell (p := ⟨g, i, none⟩) hB).trans a.c0, (hb.cell (p := ⟨g, i + 1, none⟩) hB).trans a.c1, Nat.lt_of_lt_of_le a.lt' hb.size⟩
theorem PairF.alloc {W : World} {g i : Nat} {x y : Int} (a : PairF W g i x y) (o : Obj) : PairF (W.alloc o) g i x y := a.below ((Below.refl W.heap.size W).alloc (Nat.le_refl _) o) a.lt
theorem PairF.putB {g i b : Nat} {x y : Int} (hne : g < b) : ∀ (vs : List Value) (k : Nat) {W : World}, PairF W g i x y → PairF (putB W b k vs) g i x y
  | [], _, _, a => a
  | v :: vs, k, W, a => PairF.putB hne vs (k + 1) (a.below ((Below.refl b W).setCell (Nat.le_refl _) v) hne)
end Go.Proofs.Ytnpnlckdggakmaa
