/-
  The law's copies of events; an argument of events.
-/
import Derived.Test.YtbapfdoijjiomaaDoorEvM
import Derived.Test.YtbapfdoijjiomaaDoorEvT
import Derived.Test.YtbapfdoijjiomaaDoorOpenL
namespace Go.Proofs.YtbapfdoijjiomaaDoor
open Go.ChangeShapes Go.WideShapes Go.ChangeAt Go.RowKit Go.Joins Pl
set_option linter.unusedSimpArgs false
set_option linter.unusedVariables false

theorem below_putE {B : Nat} {w W : World} (h : Below B w W) {g : Nat} (hg : B ≤ g) (o : Nat) (p : Ev) : Below B w (putE W g o p) := ((((h.setCell hg _).setCell hg _).setCell hg _).setCell hg _).setCell hg _
set_option maxHeartbeats 1000000 in
theorem szEventS_any (a : Option Addr) (len cap : Nat) (left : Int) (h1 : 0 ≤ left) (h2 : left ≤ 1048576) (hl : len ≤ maxLen) (w : World) :
    Calls Tryd.prog 4 #[.slice a len cap, .int .i64 left] w fun e w' => e = .returned (.int .i64 (if left < len then -1 else left - len)) ∧ w' = w := by
  unfold maxLen at hl
  have ew : IntKind.i64.wrap (left - len) = left - len := IntWalk.i64_in _ (by omega)
  by_cases c : left < len
  · rw [if_pos c]
    have d : decide (left - len < 0) = true := decide_eq_true (by omega)
    go_enter Tryd.func4, Tryd.ntmps4
    go_wp2
    go_ret
    exact ⟨rfl, rfl⟩
  · rw [if_neg c]
    have d : decide (left - len < 0) = false := decide_eq_false (by omega)
    go_enter Tryd.func4, Tryd.ntmps4
    go_wp2
    go_ret
    exact ⟨rfl, rfl⟩
theorem make_events (n : Nat) (hn : n ≤ 1048576) (w : World) : (Instr.makeSlice 29 (.int .i64 (n : Int)) (.int .i64 (n : Int))).run Tryd.prog w = .ok (.slice (some ⟨w.heap.size, 0, none⟩) n n) (w.alloc (.cells (madeCells (cellsE zeroE).toArray (n * 5)) 36)) := by
  obtain ⟨i, hi, hz, hs, hb⟩ := info_parts infoEV
  have r := run_make (P := Tryd.prog) w 29 36 i (.agg (cellsE zeroE).toArray) undEVS hi hz .i64 .i64 n n (by omega) (Int.le_refl _) (by rw [hb]; omega) (by omega)
  rw [hs] at r
  have e : (Value.agg (cellsE zeroE).toArray).cells = (cellsE zeroE).toArray := rfl
  rw [e] at r
  simpa using r
theorem ownE_made (n : Nat) (hn : n ≤ 1048576) (w : World) (B : Nat) (hB : B ≤ w.heap.size) : OwE (w.alloc (.cells (madeCells (cellsE zeroE).toArray (n * 5)) 36)) B w.heap.size n n (List.replicate n zeroE) := by
  have a := World.ownsRow_lit (base := B) (e := 36) (size := 5) w (madeCells (cellsE zeroE).toArray (n * 5)) n hB (by unfold maxLen; omega) (size_madeCells _ _)
  rw [made_flatE] at a
  exact ⟨List.length_replicate .., a⟩
theorem take_repE {l : List Ev} {i : Nat} {p : Ev} (h : l[i]? = some p) : (l.take i ++ List.replicate (l.length - i) zeroE).set i p = l.take (i + 1) ++ List.replicate (l.length - (i + 1)) zeroE := by
  have hi : i < l.length := (List.getElem?_eq_some_iff.1 h).1
  have e : l[i] = p := (List.getElem?_eq_some_iff.1 h).2
  rw [List.set_append_right _ _ (by rw [List.length_take]; omega), List.length_take, Nat.min_eq_left (by omega), Nat.sub_self]
  rw [show l.length - i = (l.length - (i + 1)) + 1 by omega, List.replicate_succ, List.set_cons_zero, List.take_succ_eq_append_getElem hi, e]
  simp
set_option maxRecDepth 20000 in
set_option maxHeartbeats 16000000 in
theorem toEventS_any (a0 : Option Addr) (cap : Nat) (l : List Ev) (hl : l.length ≤ 1048576) (w : World) (hP : EIn w w.heap.size a0 l) :
    Calls Tryd.prog 7 #[.slice a0 l.length cap] w fun e w' => ∃ g, e = .returned (.slice (some ⟨g, 0, none⟩) l.length l.length) ∧ OwE w' w.heap.size g l.length l.length l ∧ Below w.heap.size w w' := by
  have hmk := make_events l.length hl
  have HP : Hid (EIn w w.heap.size a0 l) := hP
  have HO : Hid (OwE (w.alloc (.cells (madeCells (cellsE zeroE).toArray (l.length * 5)) 36)) w.heap.size w.heap.size l.length l.length (List.replicate l.length zeroE)) := ownE_made l.length hl w w.heap.size (Nat.le_refl _)
  clear hP
  go_enter Tryd.func7, Tryd.ntmps7
  go_wp2_with fail
  clear hmk
  go_loopw [4] (fun ii wr => ∃ i : Nat, ii = .int .i64 i ∧ i ≤ l.length ∧ OwE wr w.heap.size w.heap.size l.length l.length (l.take i ++ List.replicate (l.length - i) zeroE) ∧ Below w.heap.size w wr) (fun ii _ => l.length - (intOf ii).toNat)
  case atStart => exact ⟨0, rfl, by omega, by simpa using HO.out, (Below.refl _ _).alloc (Nat.le_refl _) _⟩
  case round =>
    obtain ⟨i, rfl, hi, ho, hb⟩ := hrel
    clear HO
    have FB : Hid (Below w.heap.size w wr) := hb
    have FO : Hid (OwE wr w.heap.size w.heap.size l.length l.length (l.take i ++ List.replicate (l.length - i) zeroE)) := ho
    by_cases hlt : i < l.length
    · obtain ⟨p, hp⟩ : ∃ p, l[i]? = some p := ⟨_, List.getElem?_eq_getElem hlt⟩
      rcases HP.out with h0 | ⟨b, o, rfl, hbl, h7⟩
      · rw [h0] at hlt; simp at hlt
      obtain ⟨c0, c1, c2, c3, c4⟩ := (h7 i p hp).below hb hbl
      have hz : (l.take i ++ List.replicate (l.length - i) zeroE)[i]? = some zeroE := by
        rw [List.getElem?_append_right (by rw [List.length_take]; omega), List.length_take, Nat.min_eq_left (by omega), Nat.sub_self, List.getElem?_replicate, if_pos (by omega)]
      have HZ : Hid ((l.take i ++ List.replicate (l.length - i) zeroE)[i]? = some zeroE) := hz
      have HE : Hid ((l.take i ++ List.replicate (l.length - i) zeroE).set i p = l.take (i + 1) ++ List.replicate (l.length - (i + 1)) zeroE) := take_repE hp
      clear hp hz hb ho h7
      go_wp2_with (go_at_call 12; refine (toEvent_any p _).mono ?_; rintro e w1 ⟨rfl, hb⟩; have FO : Hid (OwE w1 w.heap.size w.heap.size l.length l.length (l.take i ++ List.replicate (l.length - i) zeroE)) := FO.out.below hb FO.out.bl.2; have FB : Hid (Below w.heap.size w w1) := FB.out.trans (hb.mono FB.out.size); clear hb; obtain ⟨d0, d1, d2, d3, d4⟩ := FO.out.e5 HZ.out; have f0 := FO.out.fz (i * 5); have f1 := FO.out.fz (i * 5 + 1); have f2 := FO.out.fz (i * 5 + 2); have f3 := FO.out.fz (i * 5 + 3); have f4 := FO.out.fz (i * 5 + 4))
      go_roundw
      case rel => exact ⟨i + 1, by simp, by omega, HE.out ▸ FO.out.put p HZ.out, below_putE FB.out (Nat.le_refl _) _ _⟩
      case measure => simp [intOf]; omega
    · have ei : i = l.length := by omega
      subst ei
      have HO : Hid (OwE wr w.heap.size w.heap.size l.length l.length l) := by
        have q := FO.out
        rw [List.take_length, Nat.sub_self, List.replicate_zero, List.append_nil] at q
        exact q
      clear hb ho FO
      go_wp2_with fail
      go_ret
      exact ⟨_, rfl, HO.out, FB.out⟩
theorem open_evs {H : Type} {enc : TypeId × Value → H} {P : Program} {w : World} {base : Nat} {spare : Nat → Bool} {held : Bool} {r : Reach} {b0 : Nat} {ts te k : TypeId} {gs : Array Field} {v : Value} {d : DataW H} {p : List MemPlace}
    (hsl : P.underlying ts = some (.slice te)) (hg : P.underlying te = some (.struct gs)) (hk : P.underlying k = some (.int .i64)) (hck : P.cellsOf k = 1) (hf : plainFields gs k 5 = true) (hC : P.cellsOf te = 5)
    (hv : Value.okWide P w r b0 ts v) (h : DataW.Trod enc P w base spare held ts v d p) :
    ∃ (l : List Ev) (a : Option Addr) (cap : Nat), v = .slice a l.length cap ∧ l.length ≤ maxLen ∧ EIn w w.heap.size a l := by
  obtain ⟨fuel, hfu⟩ := h
  have e1' : ∀ u : Value, v.cells.toList = [u] → (∀ cs, v ≠ .agg cs) → v = u := by
    intro u hu hn
    cases v <;> first | (simp [Value.cells] at hu; exact hu) | exact absurd rfl (hn _)
  have nag : ∀ cs, v ≠ .agg cs := by
    intro cs e
    subst e
    simp [Value.okWide, hsl, Cell.okWide, Cell.ok] at hv
  rcases Go.Deep.open_slice hsl hfu with ⟨e1, _⟩ | ⟨a, len, cap, mm, n, D, Pq, e1, hb, hle, hm, hmm, -, hx⟩
  · exact ⟨[], none, 0, e1' _ e1 nag, Nat.zero_le _, Or.inl rfl⟩
  · have lm : len ≤ mm := by rw [hmm]; split <;> omega
    have : Inhabited Ev := ⟨⟨0, 0, 0, 0, 0⟩⟩
    obtain ⟨f, hf'⟩ := Go.Deep.choose_lt (α := Ev) (n := len) (p := fun i p => ∀ c, c < 5 → w.cell? ((a.add (i * 5)).add c) = [Value.int .i64 p.tk, .int .i64 p.kd, .int .i64 p.id, .int .i64 p.fl, .int .i64 p.tw][c]?) (fun i hi => by
      obtain ⟨cs', g1, g2⟩ := hx i (by omega)
      obtain ⟨xs, x1, x2, x3⟩ := trod_i64s hg hk hck hf hC g2
      obtain ⟨c0, c1, c2, c3, c4, rfl⟩ := list5 x1
      rw [hC] at g1
      obtain ⟨_, _, g3⟩ := World.cells?_some g1
      refine ⟨⟨c0, c1, c2, c3, c4⟩, fun c hc => ?_⟩
      rw [g3 c hc, x2]
      rfl)
    refine ⟨(List.range len).map f, some a, cap, by rw [e1' _ e1 nag]; simp, by simp; omega, ?_⟩
    by_cases hz : len = 0
    · left; simp [hz]
    · right
      obtain ⟨b, o, sp⟩ := a
      have hsp : sp = none := by simpa [Addr.add] using World.cell?_spot (hf' 0 (by omega) 0 (by omega))
      subst hsp
      refine ⟨b, o, rfl, ?_, ?_⟩
      · have := hf' 0 (by omega) 0 (by omega)
        simp only [add_at] at this
        exact World.block_lt_of_cell? w _ this
      · intro i p hp
        have hi : i < len := by
          have := (List.getElem?_eq_some_iff.1 hp).1
          simpa using this
        have ep : f i = p := by
          rw [List.getElem?_map, List.getElem?_range hi] at hp
          exact Option.some.inj hp
        subst ep
        have q := hf' i hi
        simp only [add_at] at q
        exact ⟨q 0 (by omega), q 1 (by omega), q 2 (by omega), q 3 (by omega), q 4 (by omega)⟩
end Go.Proofs.YtbapfdoijjiomaaDoor
