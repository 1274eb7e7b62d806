/-
  What DiffLedgers answers, for the law.
-/
import Derived.Test.YtiejogkhobiddaaEvL
import Derived.Test.YtiejogkhobiddaaPersT
import Derived.Test.YtiejogkhobiddaaEvI
import Derived.Test.YtiejogkhobiddaaEvM
import Derived.Test.YtiejogkhobiddaaFnd
namespace Go.Proofs.Ytiejogkhobiddaa
open Go.RowKit Pl
set_option linter.unusedSimpArgs false
set_option linter.unusedVariables false

theorem diff_len {tk : Int} {old l : List Pe} : ∀ (i : Nat) (a : List Ev), diffL tk old (l.take i) = some a → a.length ≤ 3 * i := by
  intro i
  induction i with
  | zero => intro a h; rw [diff_nil] at h; cases h; simp
  | succ i ih =>
    intro a h
    by_cases hi : i < l.length
    · obtain ⟨p, hp⟩ : ∃ p, l[i]? = some p := ⟨_, List.getElem?_eq_getElem hi⟩
      rw [diff_snoc hp] at h
      cases c : diffL tk old (l.take i) with
      | none => rw [c] at h; cases h
      | some b =>
        rw [c] at h
        cases d : oneP tk old p with
        | none => rw [d] at h; cases h
        | some m =>
          rw [d] at h
          have e : b ++ m = a := Option.some.inj h
          have h1 := ih b c
          have h2 := one_len d
          rw [← e, List.length_append]
          omega
    · rw [List.take_of_length_le (by omega)] at h
      have := ih a (by rw [List.take_of_length_le (by omega)]; exact h)
      omega
theorem dfV_len (h : Hs) (tk : Int) (x y : Lg) (hy : y.ps.length ≤ 1048576) : (Hs.dfV h tk x y).length ≤ 1048576 := by
  unfold Hs.dfV
  split
  · rename_i k
    have hy0 : Hs.led h y = 0 := by
      unfold Hs.dfK at k
      by_cases a : Hs.led h x = 0
      · rw [if_pos a] at k
        by_cases b : Hs.led h y = 0
        · exact b
        · rw [if_neg b] at k; exact absurd k b
      · rw [if_neg a] at k; exact absurd k a
    have := led_len hy0
    cases c : diffL tk x.ps y.ps with
    | none => simp
    | some m =>
      have z := diff_len (tk := tk) (old := x.ps) (l := y.ps) y.ps.length m (by rw [List.take_of_length_le (Nat.le_refl _)]; exact c)
      show m.length ≤ _
      omega
  · simp
def isEvsS (w : World) (k : Int) (l : List Ev) (e : Ending) (w' : World) : Prop := ∃ s c, e = .returned (.agg #[.int .i64 k, .int .i64 0, .slice s l.length c]) ∧ OwnE w' w.heap.size (.slice s l.length c) l ∧ Below w.heap.size w w'
theorem isEvs.s {w : World} {k : Int} {l : List Ev} {e : Ending} {w' : World} (h : isEvs w k l e w') : isEvsS w k l e w' := by
  obtain ⟨v, he, ho, hb⟩ := h
  rcases ho.cases with ⟨rfl, rfl⟩ | ⟨g, cap, rfl, _⟩
  · exact ⟨none, 0, he, ho, hb⟩
  · exact ⟨_, _, he, ho, hb⟩
theorem load_blkk {ops : Array Oper} {rest : List Oper} {o : Oper} {act : Act} {w : World} {Q : Exit → Act → World → Prop} {b : Nat} {vs : List Value} (T : TypeId) (x : Operand) {fs : Array Field} (hu : Try.prog.underlying T = some (.struct fs)) (hi : (Try.prog.info? T).map (·.size) = some vs.toArray.size) (hB : Blk w b vs)
    (hw : Region.wanted o (yielded ops act.tmps) = true) (ho : o.op = .load T x) (hx : act.eval x = .pointer (some ⟨b, 0, none⟩)) (h : wpList Try.prog ops Q rest (act.put o.dst (.agg vs.toArray)) w) : wpList Try.prog ops Q (o :: rest) act w := by
  obtain ⟨T', h'⟩ := hB.o
  exact wpList_step fun K hK => by simp only [hw, if_true]; exact wp_load_row T x ho b hx T' vs.toArray (0, 0) (.struct fs) h' hu rfl hi (hK _ _ h)
theorem ne_rowE {b g n c : Nat} (h : b ≠ g) : some b ≠ (Value.slice (some ⟨g, 0, none⟩) n c).ownBlock := fun e => h (Option.some.inj e)
end Go.Proofs.Ytiejogkhobiddaa
