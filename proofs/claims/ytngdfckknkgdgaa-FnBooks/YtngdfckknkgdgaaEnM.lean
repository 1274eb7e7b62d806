/-
  Books: what a run tells, where it tells no code (plain).
-/
import Derived.Test.YtngdfckknkgdgaaEnR
import Derived.Test.YtngdfckknkgdgaaFnd
namespace Go.Proofs.Ytngdfckknkgdgaa
open Go.RowKit Pl
set_option linter.unusedSimpArgs false
set_option linter.unusedVariables false

/-- What a run tells, where it tells no code. -/
theorem bkR_ok {h : Hs} {f r : Int} (r1 : 0 ≤ r) (r2 : r ≤ h.ld) : ∀ (k : Nat) (c : Cs) (s : Bk), CarOk h c → c.door = 0 → (Hs.bkR h f r k c s).k = 0 →
    CarOk h (Hs.bkR h f r k c s).c ∧ (Hs.bkR h f r k c s).b.i - (Hs.bkR h f r k c s).b.o - (Hs.bkR h f r k c s).b.l = s.i - s.o - s.l + (enE h (Hs.bkR h f r k c s).c r - enE h c r) ∧ (s.i ≤ (Hs.bkR h f r k c s).b.i ∧ (Hs.bkR h f r k c s).b.i ≤ s.i + k * 1000000000000) ∧ (s.o ≤ (Hs.bkR h f r k c s).b.o ∧ (Hs.bkR h f r k c s).b.o ≤ s.o + k * 1000000000000) ∧ (s.l ≤ (Hs.bkR h f r k c s).b.l ∧ (Hs.bkR h f r k c s).b.l ≤ s.l + k * 1000000000000) := by
  intro k
  induction k with
  | zero =>
    intro c s hc hd hz
    show CarOk h c ∧ s.i - s.o - s.l = _ + (enE h c r - enE h c r) ∧ (s.i ≤ s.i ∧ s.i ≤ _) ∧ (s.o ≤ s.o ∧ s.o ≤ _) ∧ (s.l ≤ s.l ∧ s.l ≤ _)
    exact ⟨hc, by omega, ⟨by omega, by omega⟩, ⟨by omega, by omega⟩, ⟨by omega, by omega⟩⟩
  | succ k ih =>
    intro c s hc hd hz
    cases hr : Hs.reachB h c f with
    | true =>
      rw [bkR_stop hr]
      show CarOk h c ∧ s.i - s.o - s.l = _ + (enE h c r - enE h c r) ∧ (s.i ≤ s.i ∧ s.i ≤ _) ∧ (s.o ≤ s.o ∧ s.o ≤ _) ∧ (s.l ≤ s.l ∧ s.l ≤ _)
      exact ⟨hc, by omega, ⟨by omega, by omega⟩, ⟨by omega, by omega⟩, ⟨by omega, by omega⟩⟩
    | false =>
      by_cases hg : h.carC (stepC h c (Hs.forC h c f) 0) = 0
      · rw [bkR_go hr hg] at hz ⊢
        have hok : CarOk h (stepC h c (Hs.forC h c f) 0) := Hs.car_zero (by rw [Hs.car_ok hc.hf]; exact hg)
        have hdz := step_door (h := h) (f := f) hd
        obtain ⟨q1, q2, q3, q4, q5⟩ := ih _ _ hok hdz hz
        have bb := bkS_bd (x := Hs.forC h c f) (d := 0) hc r1 r2
        have bs : (Hs.bkS h c (Hs.forC h c f) 0 r).i - (Hs.bkS h c (Hs.forC h c f) 0 r).o - (Hs.bkS h c (Hs.forC h c f) 0 r).l = enE h (stepC h c (Hs.forC h c f) 0) r - enE h c r := one_sum
        have a1 : (s.add (Hs.bkS h c (Hs.forC h c f) 0 r)).i = s.i + (Hs.bkS h c (Hs.forC h c f) 0 r).i := rfl
        have a2 : (s.add (Hs.bkS h c (Hs.forC h c f) 0 r)).o = s.o + (Hs.bkS h c (Hs.forC h c f) 0 r).o := rfl
        have a3 : (s.add (Hs.bkS h c (Hs.forC h c f) 0 r)).l = s.l + (Hs.bkS h c (Hs.forC h c f) 0 r).l := rfl
        rw [a1, a2, a3] at q2
        rw [a1] at q3
        rw [a2] at q4
        rw [a3] at q5
        refine ⟨q1, by omega, ?_, ?_, ?_⟩
        · constructor <;> omega
        · constructor <;> omega
        · constructor <;> omega
      · rw [bkR_bad hr hg] at hz
        exact absurd hz (by decide)
structure BkOk (h : Hs) (c g : Cs) (r i o l : Int) : Prop where
  a : Hs.askK h c r = 0
  b : Hs.askK h g r = 0
  m : Hs.massK h r = 0
  r1 : 0 ≤ r
  r2 : r ≤ 20
  s : i - o - l = enE h g r - enE h c r
  i1 : 0 ≤ i
  i2 : i ≤ 4000000000000000
  o1 : 0 ≤ o
  o2 : o ≤ 4000000000000000
  l1 : 0 ≤ l
  l2 : l ≤ 4000000000000000
  ok : h.Ok
  nc : Nr h c
  ng : Nr h g
theorem bkV_ok {h : Hs} {c : Cs} {f r t : Int} {i o l : Int} {g : Cs} (e : Hs.bkV h c f r t = ⟨0, ⟨i, o, l⟩, g⟩) : BkOk h c g r i o l := by
  unfold Hs.bkV at e
  by_cases ha : Hs.askK h c r = 0
  · rw [if_pos ha] at e
    by_cases hf : inB f (-1) h.fl = true ∧ inB t 0 3000 = true
    · rw [if_pos hf] at e
      by_cases dz : c.door = 0
      · rw [if_pos dz] at e
        have az := Hs.ask_zero ha
        have k := Hs.car_zero az.1
        have tb := inB_iff.1 hf.2
        have l2 := k.ok.ld2
        obtain ⟨q1, q2, q3, q4, q5⟩ := bkR_ok (f := f) az.2.1 az.2.2 t.toNat c Bk.no k dz (by rw [e])
        rw [e] at q1 q2 q3 q4 q5
        dsimp only [Bk.no] at q1 q2 q3 q4 q5
        have hi : inB r 0 h.ld = true := inB_yes az.2.1 az.2.2
        have hcg : h.car g = 0 := by
          rw [Hs.car_ok k.hf]
          unfold Hs.carC Hs.carR
          rw [inB_yes q1.p1 q1.p2, inB_yes q1.v1 q1.v2, inB_yes q1.d1 q1.d2]
          have := q1.dv
          simp only [Bool.and_self, if_true]
          rw [if_neg (by omega)]
        refine ⟨ha, Hs.ask_in hcg hi, ?_, az.2.1, by omega, by omega, by omega, by omega, by omega, by omega, by omega, by omega, k.ok, nr_of k, nr_of q1⟩
        unfold Hs.massK
        rw [if_pos k.hf, if_pos hi]
      · rw [if_neg dz] at e; cases e
    · rw [if_neg hf] at e; cases e
  · rw [if_neg ha] at e
    exact absurd (congrArg Bks.k e) ha
theorem fieldB0 (k a b c d e f : Int) (w : World) : (Instr.field 40 (.agg #[.int .i64 k, .int .i64 a, .int .i64 b, .int .i64 c, .int .i64 d, .int .i64 e, .int .i64 f]) 0).run Try.prog w = .ok (.int .i64 k) w := by kernel_rfl
theorem fieldR1 (k a : Int) (w : World) : (Instr.field 25 (.agg #[.int .i64 k, .int .i64 a]) 1).run Try.prog w = .ok (.int .i64 a) w := by kernel_rfl
end Go.Proofs.Ytngdfckknkgdgaa
