/-
  What a flight between two places tells, in plain numbers.
-/
import Derived.Test.YtnpnlckdggakmaaFlyP
import Derived.Test.YtnpnlckdggakmaaFnd
import Derived.Deep.MidRow
namespace Go.Proofs.Ytnpnlckdggakmaa
open Go.RowKit Pl
set_option linter.unusedVariables false

def Hs.fltB (h : Hs) (a b : Int) : Bool := flB h 3000 (absI (h.level b - h.level a)) 0
def Hs.fltK (h : Hs) (a b : Int) : Int := if Hs.fltB h a b = true then 0 else 2
def Hs.fltN (h : Hs) (a b : Int) : Int := if Hs.fltB h a b = true then flN h 3000 (absI (h.level b - h.level a)) 0 else 0
theorem fltN_bd (h : Hs) (a b : Int) : 0 ≤ Hs.fltN h a b ∧ Hs.fltN h a b ≤ 3000 := by
  have := flN_bd h 3000 (absI (h.level b - h.level a)) 0
  unfold Hs.fltN
  split <;> omega
def Hs.ftK (h : Hs) (a b : Int) : Int := if h.fault = 0 then (if inB a (-1) h.fl = true ∧ inB b (-1) h.fl = true then Hs.fltK h a b else 3) else h.fault
def Hs.ftV (h : Hs) (a b : Int) : Int := if h.fault = 0 then (if inB a (-1) h.fl = true ∧ inB b (-1) h.fl = true then Hs.fltN h a b else 0) else 0
theorem flt_there {h : Hs} {a b : Int} {n : Int} (hB : Hs.fltB h a b = true) (hN : flN h 3000 (absI (h.level b - h.level a)) 0 = n) : Hs.fltK h a b = 0 ∧ Hs.fltN h a b = n := by
  unfold Hs.fltK Hs.fltN
  rw [if_pos hB, if_pos hB]
  exact ⟨rfl, hN⟩
theorem flt_not {h : Hs} {a b : Int} (hB : Hs.fltB h a b = false) : Hs.fltK h a b = 2 ∧ Hs.fltN h a b = 0 := by
  unfold Hs.fltK Hs.fltN
  rw [hB]
  exact ⟨rfl, rfl⟩
theorem flt_start {h : Hs} (hf : h.fault = 0) {a b : Int} (a1 : -1 ≤ a) (a2 : a ≤ h.fl) : Fl h b ⟨h.level a, 0, 0⟩ (absI (h.level b - h.level a)) 0 := by
  have o : h.Ok := Hs.ok_of (Hs.fault_zero hf).1
  have l := level_in o a1 a2
  exact fl_start o l.1 l.2
theorem fl_carOk {h : Hs} (hf : h.fault = 0) {f : Int} {c : Cs} {d v : Int} (f1 : -1 ≤ f) (f2 : f ≤ h.fl) (F : Fl h f c d v) : CarOk h c :=
  Hs.car_zero (by rw [Hs.car_ok hf]; exact F.car hf f1 f2)
theorem car_far {h : Hs} {c : Cs} (k : CarOk h c) : -100000000 ≤ c.pos ∧ c.pos ≤ 100000000 ∧ -500 ≤ c.vel ∧ c.vel ≤ 500 := by
  have e := k.ok.ends; have a := k.p1; have b := k.p2; have d := k.v1; have g := k.v2; have s := k.ok.sp2
  omega
/-- The program's flight: a run with all the ticks that there are. -/
theorem flt_run {h : Hs} (hf : h.fault = 0) {a b : Int} (a1 : -1 ≤ a) (a2 : a ≤ h.fl) (b1 : -1 ≤ b) (b2 : b ≤ h.fl) : ∃ c', Hs.runK h b 3000 (3000 : Int).toNat ⟨h.level a, 0, 0⟩ 0 = (0, flN h 3000 (absI (h.level b - h.level a)) 0, c') ∧ CarOk h c' ∧ ((c'.vel == 0) && Hs.near h c' b) = Hs.fltB h a b := by
  obtain ⟨c', d', v', e1, e2, e3⟩ := run_fl hf b1 b2 3000 3000 _ 0 _ _ (flt_start hf (b := b) a1 a2) rfl
  rw [Int.zero_add] at e1
  exact ⟨c', e1, fl_carOk hf b1 b2 e2, e3⟩
theorem ret_twoF {a b c d : Int} (h : a = b) (k : c = d) : Ending.returned (.agg #[.int .i64 a, .int .i64 c]) = .returned (.agg #[.int .i64 b, .int .i64 d]) := by rw [h, k]
theorem load_blkF {ops : Array Oper} {rest : List Oper} {o : Oper} {act : Act} {w : World} {Q : Exit → Act → World → Prop} {b : Nat} {vs : List Value} (T : TypeId) (x : Operand) {fs : Array Field} (hu : Try.prog.underlying T = some (.struct fs)) (hi : (Try.prog.info? T).map (·.size) = some vs.toArray.size) (hB : Blk w b vs)
    (hgd : Region.wanted o (yielded ops act.tmps) = true) (ho : o.op = .load T x) (hx : act.eval x = .pointer (some ⟨b, 0, none⟩)) (h : wpList Try.prog ops Q rest (act.put o.dst (.agg vs.toArray)) w) : wpList Try.prog ops Q (o :: rest) act w := by
  obtain ⟨T', h'⟩ := hB.o
  exact wpList_step fun K hK => by simp only [hgd, if_true]; exact wp_load_row T x ho b hx T' vs.toArray (0, 0) (.struct fs) h' hu rfl hi (hK _ _ h)
theorem Blk.midF {w : World} {b : Nat} {vs : List Value} (hB : Blk w b vs) (o : Nat) (cs : List Value) (h : (vs.drop o).take cs.length = cs) : w.rangeAt b o cs := by
  intro j v hv
  have e : (vs.drop o)[j]? = some v := by
    rw [← h] at hv
    rw [List.getElem?_take] at hv
    split at hv
    · exact hv
    · cases hv
  rw [List.getElem?_drop] at e
  exact hB.c (o + j) v e
theorem load_midF {ops : Array Oper} {rest : List Oper} {op : Oper} {a : Act} {w : World} {Q : Exit → Act → World → Prop} {b : Nat} {vs : List Value} (T : TypeId) (x : Operand) (o : Nat) (cs : List Value) {fs : Array Field} (hu : Try.prog.underlying T = some (.struct fs)) (hi : (Try.prog.info? T).map (·.size) = some cs.length) (hB : Blk w b vs) (hc : (vs.drop o).take cs.length = cs)
    (hgd : op.guard = none) (ho : op.op = .load T x) (hx : a.eval x = .pointer (some ⟨b, o, none⟩)) (h : wpList Try.prog ops Q rest (a.put op.dst (.agg cs.toArray)) w) : wpList Try.prog ops Q (op :: rest) a w :=
  wpList_load_mid hgd T x ho b o hx cs (.struct fs) (hB.midF o cs hc) hu rfl hi h
end Go.Proofs.Ytnpnlckdggakmaa
