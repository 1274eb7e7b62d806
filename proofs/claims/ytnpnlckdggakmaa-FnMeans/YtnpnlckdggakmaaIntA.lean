/-
  An argument of numbers, and the law's copies of it.
-/
import Derived.Test.YtnpnlckdggakmaaInts
import Derived.Test.YtnpnlckdggakmaaFnd
import Derived.ChangeSlices
import Derived.Deep.Slices
namespace Go.Proofs.Ytnpnlckdggakmaa
open Go.ChangeShapes Go.WideShapes Go.ChangeAt Go.RowKit Pl
set_option linter.unusedSimpArgs false
set_option linter.unusedVariables false

/-- Numbers that came in. -/
def AIn (w : World) (B : Nat) (a : Option Addr) (l : List Int) : Prop := l = [] ∨ ∃ b o, a = some ⟨b, o, none⟩ ∧ b < B ∧ ∀ i x, l[i]? = some x → w.cell? ⟨b, o + i, none⟩ = some (.int .i64 x)
theorem AIn.below {W w : World} {B C : Nat} {a : Option Addr} {l : List Int} (h : AIn W B a l) (hb : Below C W w) (hB : B ≤ C) : AIn w B a l := by
  rcases h with h | ⟨b, o, e, hl, h⟩
  · exact Or.inl h
  · exact Or.inr ⟨b, o, e, hl, fun i p hp => (hb.cell (p := ⟨b, o + i, none⟩) (show b < C by omega)).trans (h i p hp)⟩
theorem AIn.mono {w : World} {B C : Nat} {a : Option Addr} {l : List Int} (h : AIn w B a l) (hB : B ≤ C) : AIn w C a l := by
  rcases h with h | ⟨b, o, e, hl, h⟩
  · exact Or.inl h
  · exact Or.inr ⟨b, o, e, by omega, h⟩
theorem made_ints (n : Nat) : (madeCells #[.int .i64 0] (n * 1)).toList = intsV (List.replicate n 0) := by
  apply List.ext_getElem?
  intro j
  by_cases hj : j < n
  · simp [madeCells, intsV, hj, Nat.mod_one]
  · simp [madeCells, intsV, hj]
theorem make_ints (n : Nat) (hn : n ≤ 1048576) (w : World) : (Instr.makeSlice 28 (.int .i64 (n : Int)) (.int .i64 (n : Int))).run Try.prog w = .ok (.slice (some ⟨w.heap.size, 0, none⟩) n n) (w.alloc (.cells (madeCells #[.int .i64 0] (n * 1)) 2)) := by
  obtain ⟨i, hi, hz, hs, hb⟩ := info_parts info64
  have r := run_make (P := Try.prog) w 28 2 i (.int .i64 0) undI64S hi hz .i64 .i64 n n (by omega) (Int.le_refl _) (by rw [hb]; omega) (by omega)
  rw [hs] at r
  have e : (Value.int .i64 0).cells = #[.int .i64 0] := rfl
  rw [e] at r
  simpa using r
theorem own_made (n : Nat) (hn : n ≤ 1048576) (w : World) (B : Nat) (hB : B ≤ w.heap.size) : OwI (w.alloc (.cells (madeCells #[.int .i64 0] (n * 1)) 2)) B (.slice (some ⟨w.heap.size, 0, none⟩) n n) (List.replicate n 0) := by
  have a := World.ownsRow_lit (base := B) (e := 2) (size := 1) w (madeCells #[.int .i64 0] (n * 1)) n hB (by unfold maxLen; omega) (size_madeCells _ _)
  rw [made_ints] at a
  unfold OwI
  rw [List.length_replicate]
  exact a
theorem OwI.setAt {w : World} {B g n cap : Nat} {l : List Int} (h : OwI w B (.slice (some ⟨g, 0, none⟩) n cap) l) (i : Nat) (x : Int) : OwI (w.setCell ⟨g, i, none⟩ (.int .i64 x)) B (.slice (some ⟨g, 0, none⟩) n cap) (l.set i x) := by
  have hn : n = l.length := by
    obtain ⟨a', c', e⟩ := h.sl
    simp at e
    exact e.2.1
  subst hn
  exact OwI.set h i x
theorem add_atI (b o i : Nat) : (⟨b, o, none⟩ : Addr).add i = ⟨b, o + i, none⟩ := by simp [Addr.add]
theorem take_rep0 {l : List Int} {i : Nat} {p : Int} (h : l[i]? = some p) : (l.take i ++ List.replicate (l.length - i) 0).set i p = l.take (i + 1) ++ List.replicate (l.length - (i + 1)) 0 := by
  have hi : i < l.length := (List.getElem?_eq_some_iff.1 h).1
  have e : l[i] = p := (List.getElem?_eq_some_iff.1 h).2
  rw [List.set_append_right _ _ (by rw [List.length_take]; omega), List.length_take, Nat.min_eq_left (by omega), Nat.sub_self]
  rw [show l.length - i = (l.length - (i + 1)) + 1 by omega, List.replicate_succ, List.set_cons_zero, List.take_succ_eq_append_getElem hi, e]
  simp
theorem take_repL {l : List Int} {i : Nat} (h : i ≤ l.length) : (l.take i ++ List.replicate (l.length - i) 0).length = l.length := by
  rw [List.length_append, List.length_take, List.length_replicate, Nat.min_eq_left h]
  omega
set_option maxRecDepth 20000 in
set_option maxHeartbeats 16000000 in
theorem toInt64S_any (a0 : Option Addr) (cap : Nat) (l : List Int) (hl : l.length ≤ 1048576) (w : World) (hP : AIn w w.heap.size a0 l) :
    Calls Try.prog 24 #[.slice a0 l.length cap] w fun e w' => ∃ g, e = .returned (.slice (some ⟨g, 0, none⟩) l.length l.length) ∧ OwI w' w.heap.size (.slice (some ⟨g, 0, none⟩) l.length l.length) l ∧ Below w.heap.size w w' := by
  have hmk := make_ints l.length hl
  have HP : Hid (AIn w w.heap.size a0 l) := hP
  have HO : Hid (OwI (w.alloc (.cells (madeCells #[.int .i64 0] (l.length * 1)) 2)) w.heap.size (.slice (some ⟨w.heap.size, 0, none⟩) l.length l.length) (List.replicate l.length 0)) := own_made l.length hl w w.heap.size (Nat.le_refl _)
  clear hP
  go_enter Try.func24, Try.ntmps24
  go_wp2_with fail
  clear hmk
  go_loopw [4] (fun ii wr => ∃ i : Nat, ii = .int .i64 i ∧ i ≤ l.length ∧ OwI wr w.heap.size (.slice (some ⟨w.heap.size, 0, none⟩) l.length l.length) (l.take i ++ List.replicate (l.length - i) 0) ∧ Below w.heap.size w wr) (fun ii _ => l.length - (intOf ii).toNat)
  case atStart => exact ⟨0, rfl, by omega, by simpa using HO.out, (Below.refl _ _).alloc (Nat.le_refl _) _⟩
  case round =>
    obtain ⟨i, rfl, hi, ho, hb⟩ := hrel
    clear HO
    have FB : Hid (Below w.heap.size w wr) := hb
    have FO : Hid (OwI wr w.heap.size (.slice (some ⟨w.heap.size, 0, none⟩) l.length l.length) (l.take i ++ List.replicate (l.length - i) 0)) := ho
    by_cases hlt : i < l.length
    · obtain ⟨p, hp⟩ : ∃ p, l[i]? = some p := ⟨_, List.getElem?_eq_getElem hlt⟩
      rcases HP.out with h0 | ⟨b, o, rfl, hbl, h7⟩
      · rw [h0] at hlt; simp at hlt
      have c0 := (hb.cell (p := ⟨b, o + i, none⟩) hbl).trans (h7 i p hp)
      have hz : (l.take i ++ List.replicate (l.length - i) 0)[i]? = some 0 := by
        rw [List.getElem?_append_right (by rw [List.length_take]; omega), List.length_take, Nat.min_eq_left (by omega), Nat.sub_self, List.getElem?_replicate, if_pos (by omega)]
      have d0 := ho.cell hz
      have d1 := ho.fz i
      have hbs : b ≠ w.heap.size := by omega
      have NO : Hid (OwI (wr.setCell ⟨w.heap.size, i, none⟩ (.int .i64 p)) w.heap.size (.slice (some ⟨w.heap.size, 0, none⟩) l.length l.length) (l.take (i + 1) ++ List.replicate (l.length - (i + 1)) 0)) := by
        have q2 := ho.setAt i p
        rw [take_rep0 hp] at q2
        exact q2
      clear hp hz hb ho h7
      go_wp2_with fail
      go_roundw
      case rel => exact ⟨i + 1, by simp, by omega, NO.out, FB.out.setCell (Nat.le_refl _) _⟩
      case measure => simp [intOf]; omega
    · have ei : i = l.length := by omega
      subst ei
      have HO : Hid (OwI wr w.heap.size (.slice (some ⟨w.heap.size, 0, none⟩) l.length l.length) l) := by
        have q := FO.out
        rw [List.take_length, Nat.sub_self, List.replicate_zero, List.append_nil] at q
        exact q
      clear hb ho FO
      go_wp2_with fail
      go_ret
      exact ⟨_, rfl, HO.out, FB.out⟩
theorem open_nums {H : Type} {enc : TypeId × Value → H} {P : Program} {w : World} {base : Nat} {spare : Nat → Bool} {held : Bool} {r : Reach} {b0 : Nat} {ts k : TypeId} {v : Value} {d : DataW H} {p : List MemPlace}
    (hsl : P.underlying ts = some (.slice k)) (hk : P.underlying k = some (.int .i64)) (hck : P.cellsOf k = 1)
    (hv : Value.okWide P w r b0 ts v) (h : DataW.Trod enc P w base spare held ts v d p) :
    ∃ (l : List Int) (a : Option Addr) (cap : Nat), v = .slice a l.length cap ∧ (∀ x ∈ l, (Lit.int .i64 x).wf = true) ∧ l.length ≤ maxLen ∧ AIn w w.heap.size a l := by
  obtain ⟨fuel, hfu⟩ := h
  have e1' : ∀ u : Value, v.cells.toList = [u] → (∀ cs, v ≠ .agg cs) → v = u := by
    intro u hu hn
    cases v <;> first | (simp [Value.cells] at hu; exact hu) | exact absurd rfl (hn _)
  have nag : ∀ cs, v ≠ .agg cs := by
    intro cs e
    subst e
    simp [Value.okWide, hsl, Cell.okWide, Cell.ok] at hv
  rcases open_ints hsl hk hck hfu with ⟨e1, _⟩ | ⟨a, len, cap, zs, e1, hb, hle, hm, hz, -, hx, hwf⟩
  · exact ⟨[], none, 0, e1' _ e1 nag, (fun x hx => by cases hx), Nat.zero_le _, Or.inl rfl⟩
  · have lm : len ≤ zs.length := by rw [hz]; split <;> omega
    have ll : (zs.take len).length = len := by rw [List.length_take, Nat.min_eq_left lm]
    refine ⟨zs.take len, some a, cap, by rw [e1' _ e1 nag, ll], fun x hx => hwf x (List.mem_of_mem_take hx), by rw [ll]; omega, ?_⟩
    by_cases h0 : len = 0
    · left; simp [h0]
    · right
      obtain ⟨b, o, sp⟩ := a
      have q := hx 0 (by omega)
      have hsp : sp = none := by simpa [Addr.add] using World.cell?_spot q
      subst hsp
      refine ⟨b, o, rfl, ?_, ?_⟩
      · simp only [add_atI] at q
        exact World.block_lt_of_cell? w _ q
      · intro i x hi
        have hil : i < len := by
          have := (List.getElem?_eq_some_iff.1 hi).1
          rw [ll] at this
          exact this
        have q2 := hx i (by omega)
        simp only [add_atI] at q2
        rw [q2]
        rw [List.getElem?_take, if_pos hil] at hi
        rw [List.getD_eq_getElem?_getD, hi]
        rfl
end Go.Proofs.Ytnpnlckdggakmaa
