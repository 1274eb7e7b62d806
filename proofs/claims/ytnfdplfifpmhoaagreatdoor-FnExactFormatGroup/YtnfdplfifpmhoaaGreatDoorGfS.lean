/-
  The model's group: what is asked of it.
-/
import Derived.Test.YtnfdplfifpmhoaaGreatDoorGrpD
import Derived.Test.YtnfdplfifpmhoaaGreatDoorCarU
import Derived.Test.YtnfdplfifpmhoaaGreatDoorPersF
import Derived.Test.YtnfdplfifpmhoaaGreatDoorLedP
import Derived.BigGuardPart
import Derived.Test.YtnfdplfifpmhoaaGreatDoorCellsN
import Derived.Test.YtnfdplfifpmhoaaGreatDoorCellsS
import Derived.Test.YtnfdplfifpmhoaaGreatDoorFnd
import Derived.Test.YtnfdplfifpmhoaaGreatDoorFmtP
import Derived.Test.YtnfdplfifpmhoaaGreatDoorSw
import Derived.Test.YtnfdplfifpmhoaaGreatDoorQuP
import Derived.Deep.MidRow
namespace Go.Proofs.YtnfdplfifpmhoaaGreatDoor
open Go.RowKit Pl
set_option linter.unusedSimpArgs false
set_option linter.unusedVariables false

abbrev wTick : ByteArray := ⟨#[116, 105, 99, 107]⟩
abbrev wLow : ByteArray := ⟨#[108, 111, 119, 101, 114]⟩
abbrev wUp : ByteArray := ⟨#[117, 112, 112, 101, 114]⟩
abbrev wPer : ByteArray := ⟨#[112, 101, 114, 115, 111, 110]⟩
/-- A car's line, a deck's two, a person's; the whole. -/
def carNs (c : Cs) (x : Sp) : List Int := [c.pos, c.vel, c.door, x.lo, x.hi]
def carLn (n : ByteArray) (c : Cs) (x : Sp) : ByteArray := phr n (carNs c x) ++ ⟨#[10]⟩
def perLn (p : Pe) : ByteArray := ((phr wPer [p.id, p.fr, p.tw] ++ ⟨#[32]⟩) ++ swd p.st) ++ ⟨#[10]⟩
def headLn (tk : Int) (rc : Bool) : ByteArray := phr wTick [tk, if rc = true then 1 else 0] ++ ⟨#[10]⟩
def dksTx (t : ByteArray) (l : List Dk) : ByteArray := l.foldl (fun a d => (a ++ carLn wLow d.sh.lo d.sp.l) ++ carLn wUp d.sh.up d.sp.u) t
def pesTx (t : ByteArray) (l : List Pe) : ByteArray := l.foldl (fun a p => a ++ perLn p) t
def grTx (g : Gr) : ByteArray := pesTx (dksTx (headLn g.tk g.rc) g.ds) g.led.ps
def Gr.fmt (g : Gr) : ByteArray := if Gr.fault g = 0 then grTx g else ⟨#[]⟩
structure DkI (d : Dk) : Prop where
  lo : ∀ n ∈ carNs d.sh.lo d.sp.l, i64N n
  up : ∀ n ∈ carNs d.sh.up d.sp.u, i64N n
structure PeI (p : Pe) : Prop where
  ns : ∀ n ∈ [p.id, p.fr, p.tw], i64N n
  st : 0 ≤ p.st ∧ p.st ≤ 4
theorem car_i64 {h : Hs} {c : Cs} {x : Sp} (k : h.car c = 0) (a : -1 ≤ x.lo) (b : x.lo ≤ 100) (d : -1 ≤ x.hi) (e : x.hi ≤ 100) : ∀ n ∈ carNs c x, i64N n := by
  have q := Hs.car_zero k
  have oo := q.ok
  have en := oo.ends
  obtain ⟨-, p1, p2, v1, v2, d1, d2, -⟩ := q
  have s2 := oo.sp2
  have o2 := oo.do2
  intro n hn
  unfold carNs at hn
  simp only [List.mem_cons, List.not_mem_nil, or_false] at hn
  rcases hn with rfl | rfl | rfl | rfl | rfl
  all_goals exact ⟨by omega, by omega⟩
theorem shaft_cars {h : Hs} {s : Sh} (e : h.shaft s = 0) : h.car s.lo = 0 ∧ h.car s.up = 0 := by
  unfold Hs.shaft at e
  by_cases k1 : h.car s.lo = 0
  · rw [if_pos k1] at e
    by_cases k2 : h.car s.up = 0
    · exact ⟨k1, k2⟩
    · rw [if_neg k2] at e; exact absurd e k2
  · rw [if_neg k1] at e; exact absurd e k1
theorem spans_bds {h : Hs} {x : Ss} (e : Hs.spans h x = 0) : (-1 ≤ x.l.lo ∧ x.l.lo ≤ 100 ∧ -1 ≤ x.l.hi ∧ x.l.hi ≤ 100) ∧ -1 ≤ x.u.lo ∧ x.u.lo ≤ 100 ∧ -1 ≤ x.u.hi ∧ x.u.hi ≤ 100 := by
  unfold Hs.spans at e
  split at e
  case isFalse c => exact absurd e c
  case isTrue c =>
    have f2 := (Hs.ok_of (Hs.fault_zero c).1).fl2
    unfold Hs.spanC at e
    split at e
    case isFalse => omega
    case isTrue c2 =>
      unfold Hs.spanR at c2
      simp only [Bool.and_eq_true, inB_iff] at c2
      omega
theorem deck_i64 {h : Hs} {d : Dk} (k : Hs.deck h d = 0) : DkI d := by
  unfold Hs.deck at k
  split at k
  case isFalse c => exact absurd k c
  case isTrue c =>
    split at k
    case isFalse c2 => exact absurd k c2
    case isTrue c2 =>
      obtain ⟨k1, k2⟩ := shaft_cars c
      obtain ⟨⟨a1, a2, a3, a4⟩, b1, b2, b3, b4⟩ := spans_bds c2
      exact ⟨car_i64 k1 a1 a2 a3 a4, car_i64 k2 b1 b2 b3 b4⟩
theorem pers_i64 {h : Hs} {x : Lg} (k : Hs.led h x = 0) : x.ps.length ≤ 60 ∧ ∀ p ∈ x.ps, PeI p := by
  have q := led_zero_iff.1 k
  refine ⟨q.len, fun p hp => ?_⟩
  obtain ⟨j, hj, e⟩ := List.getElem_of_mem hp
  have e2 : x.ps[j]? = some p := by rw [List.getElem?_eq_getElem hj, e]
  have r := pers_iff.1 (q.ps j p e2)
  have r1 := inB_iff.1 r.1
  have r2 := persC_iff.1 r.2.2
  have f2 := (Hs.ok_of (Hs.fault_zero q.hf).1).fl2
  have n2 := q.n2
  have rc := r2.1
  unfold Hs.callC at rc
  split at rc
  case isFalse => omega
  case isTrue c =>
    have c1 := inB_iff.1 c.1
    have c2 := inB_iff.1 c.2
    have ri := r2.2.1
    unfold inP at ri
    simp only [Bool.and_eq_true] at ri
    refine ⟨fun n hn => ?_, inB_iff.1 ri.2.2.1⟩
    simp only [List.mem_cons, List.not_mem_nil, or_false] at hn
    rcases hn with rfl | rfl | rfl
    all_goals exact ⟨by omega, by omega⟩
theorem carLn_size {n : ByteArray} {c : Cs} {x : Sp} (hn : n.size ≤ 10) (h : ∀ m ∈ carNs c x, i64N m) : (phr n (carNs c x)).size ≤ 120 ∧ (carLn n c x).size ≤ 121 := by
  have a := phr_size (carNs c x) h n
  have b : (carNs c x).length = 5 := rfl
  rw [b] at a
  unfold carLn
  rw [ByteArray.size_append]
  have e : (⟨#[10]⟩ : ByteArray).size = 1 := rfl
  omega
theorem swd_size (n : Int) : (swd n).size ≤ 5 := by
  unfold swd
  repeat' split
  all_goals decide
theorem perLn_size {p : Pe} (h : PeI p) : (phr wPer [p.id, p.fr, p.tw]).size ≤ 72 ∧ (perLn p).size ≤ 80 := by
  have a := phr_size _ h.ns wPer
  simp only [List.length_cons, List.length_nil] at a
  have b := swd_size p.st
  have e : wPer.size = 6 := rfl
  unfold perLn
  rw [ByteArray.size_append, ByteArray.size_append, ByteArray.size_append]
  have e1 : (⟨#[10]⟩ : ByteArray).size = 1 := rfl
  have e2 : (⟨#[32]⟩ : ByteArray).size = 1 := rfl
  omega
theorem headLn_size {tk : Int} {rc : Bool} (h : 0 ≤ tk ∧ tk ≤ 1000000000000000) : (∀ n ∈ [tk, if rc = true then (1 : Int) else 0], i64N n) ∧ (phr wTick [tk, if rc = true then 1 else 0]).size ≤ 50 ∧ (headLn tk rc).size ≤ 51 := by
  have z : ∀ n ∈ [tk, if rc = true then (1 : Int) else 0], i64N n := by
    intro n hn
    simp only [List.mem_cons, List.not_mem_nil, or_false] at hn
    rcases hn with rfl | rfl
    · exact ⟨by omega, by omega⟩
    · split <;> exact ⟨by omega, by omega⟩
  have a := phr_size _ z wTick
  simp only [List.length_cons, List.length_nil] at a
  have e : wTick.size = 4 := rfl
  have e1 : (⟨#[10]⟩ : ByteArray).size = 1 := rfl
  refine ⟨z, by omega, ?_⟩
  unfold headLn
  rw [ByteArray.size_append]
  omega
theorem dksTx_snoc {l : List Dk} {k : Nat} {d : Dk} (h : l[k]? = some d) (t : ByteArray) : dksTx t (l.take (k + 1)) = (dksTx t (l.take k) ++ carLn wLow d.sh.lo d.sp.l) ++ carLn wUp d.sh.up d.sp.u := by
  unfold dksTx
  rw [List.take_add_one, h, List.foldl_append]
  rfl
theorem pesTx_snoc {l : List Pe} {k : Nat} {p : Pe} (h : l[k]? = some p) (t : ByteArray) : pesTx t (l.take (k + 1)) = pesTx t (l.take k) ++ perLn p := by
  unfold pesTx
  rw [List.take_add_one, h, List.foldl_append]
  rfl
theorem dksTx_size (l : List Dk) (h : ∀ d ∈ l, DkI d) : ∀ t, (dksTx t l).size ≤ t.size + 242 * l.length := by
  induction l with
  | nil => intro t; exact Nat.le_refl _
  | cons d l ih =>
    intro t
    have k := h d (List.mem_cons_self ..)
    have a := (carLn_size (n := wLow) (by decide) k.lo).2
    have b := (carLn_size (n := wUp) (by decide) k.up).2
    have c := ih (fun m hm => h m (List.mem_cons_of_mem _ hm)) ((t ++ carLn wLow d.sh.lo d.sp.l) ++ carLn wUp d.sh.up d.sp.u)
    rw [ByteArray.size_append, ByteArray.size_append] at c
    show (dksTx (_ ++ _) l).size ≤ _
    simp only [List.length_cons]
    omega
theorem pesTx_size (l : List Pe) (h : ∀ p ∈ l, PeI p) : ∀ t, (pesTx t l).size ≤ t.size + 80 * l.length := by
  induction l with
  | nil => intro t; exact Nat.le_refl _
  | cons p l ih =>
    intro t
    have a := (perLn_size (h p (List.mem_cons_self ..))).2
    have c := ih (fun m hm => h m (List.mem_cons_of_mem _ hm)) (t ++ perLn p)
    rw [ByteArray.size_append] at c
    show (pesTx (_ ++ _) l).size ≤ _
    simp only [List.length_cons]
    omega
/-- What a group without a fault gives. -/
structure GrI (h : Hs) (ds : List Dk) (ps : List Pe) (tk : Int) (rc : Bool) : Prop where
  nd : ds.length ≤ 3
  np : ps.length ≤ 60
  d : ∀ d ∈ ds, DkI d
  p : ∀ p ∈ ps, PeI p
  t : 0 ≤ tk ∧ tk ≤ 1000000000000000
theorem grI_of {h : Hs} {ds : List Dk} {nx : Int} {ps : List Pe} {tk : Int} {rc : Bool} (k : Gr.fault ⟨h, ds, ⟨nx, ps⟩, tk, rc⟩ = 0) : GrI h ds ps tk rc := by
  obtain ⟨-, hn, hd, hl, -, t1, t2⟩ := Gr.fault_parts k
  have q := pers_i64 hl
  refine ⟨by dsimp only at hn; omega, q.1, fun d hd2 => ?_, q.2, t1, t2⟩
  obtain ⟨j, hj, e⟩ := List.getElem_of_mem hd2
  exact deck_i64 (decks_zero hd j d (by rw [List.getElem?_eq_getElem hj, e]))
theorem GrI.dsz {h : Hs} {ds : List Dk} {ps : List Pe} {tk : Int} {rc : Bool} (g : GrI h ds ps tk rc) (k : Nat) : (dksTx (headLn tk rc) (ds.take k)).size ≤ 1000 := by
  have a := dksTx_size (ds.take k) (fun d hd => g.d d (List.mem_of_mem_take hd)) (headLn tk rc)
  have b := (headLn_size (rc := rc) g.t).2.2
  have c : (ds.take k).length ≤ ds.length := by rw [List.length_take]; omega
  have d := g.nd
  omega
theorem GrI.psz {h : Hs} {ds : List Dk} {ps : List Pe} {tk : Int} {rc : Bool} (g : GrI h ds ps tk rc) (k : Nat) : (pesTx (dksTx (headLn tk rc) ds) (ps.take k)).size ≤ 6000 := by
  have a := pesTx_size (ps.take k) (fun d hd => g.p d (List.mem_of_mem_take hd)) (dksTx (headLn tk rc) ds)
  have b := g.dsz ds.length
  rw [List.take_length] at b
  have c : (ps.take k).length ≤ ps.length := by rw [List.length_take]; omega
  have d := g.np
  omega
theorem Blk.mid {w : World} {b : Nat} {vs : List Value} (hB : Blk w b vs) (o : Nat) (cs : List Value) (h : (vs.drop o).take cs.length = cs) : w.rangeAt b o cs := by
  intro j v hv
  have e : (vs.drop o)[j]? = some v := by
    rw [← h] at hv
    rw [List.getElem?_take] at hv
    split at hv
    · exact hv
    · cases hv
  rw [List.getElem?_drop] at e
  exact hB.c (o + j) v e
theorem load_mid {ops : Array Oper} {rest : List Oper} {op : Oper} {a : Act} {w : World} {Q : Exit → Act → World → Prop} {b : Nat} {vs : List Value} (T : TypeId) (x : Operand) (o : Nat) (cs : List Value) {fs : Array Field} (hu : Tryz.prog.underlying T = some (.struct fs)) (hi : (Tryz.prog.info? T).map (·.size) = some cs.length) (hB : Blk w b vs) (hc : (vs.drop o).take cs.length = cs)
    (hgd : op.guard = none) (ho : op.op = .load T x) (hx : a.eval x = .pointer (some ⟨b, o, none⟩)) (h : wpList Tryz.prog ops Q rest (a.put op.dst (.agg cs.toArray)) w) : wpList Tryz.prog ops Q (op :: rest) a w :=
  wpList_load_mid hgd T x ho b o hx cs (.struct fs) (hB.mid o cs hc) hu rfl hi h
theorem exec_load_mid {op : Oper} {a : Act} {w : World} {b : Nat} {vs : List Value} (T : TypeId) (x : Operand) (o : Nat) (cs : List Value) {fs : Array Field} (hu : Tryz.prog.underlying T = some (.struct fs)) (hi : (Tryz.prog.info? T).map (·.size) = some cs.length) (hc : (vs.drop o).take cs.length = cs)
    (ho : op.op = .load T x) (hx : a.eval x = .pointer (some ⟨b, o, none⟩)) (hB : Blk w b vs) : (execOp a.eval op).run Tryz.prog w = .ok (.value (.agg cs.toArray)) w := by
  unfold execOp
  simp only [ho, hx, Instr.loadAt, Instr.sureAddr, Sem.run_bind, Sem.run_pure, Result.andThen_ok, run_loadVar_mid w b o T cs (.struct fs) (hB.mid o cs hc) hu rfl hi]
end Go.Proofs.YtnfdplfifpmhoaaGreatDoor

namespace Go.Proofs.YtnfdplfifpmhoaaGreatDoor
open Go.RowKit Pl
set_option linter.unusedSimpArgs false
set_option linter.unusedVariables false

set_option maxRecDepth 20000 in
set_option maxHeartbeats 8000000 in
theorem specSpansFault_any (h : Hs) (x : Ss) (w : World) :
    Calls Tryz.prog 30 #[.agg #[.int .i64 h.fl, .int .i64 h.gp, .int .i64 h.ln, .int .i64 h.rf, .int .i64 h.sp, .int .i64 h.pu, .int .i64 h.br, .int .i64 h.dr, .int .i64 h.lv, .int .i64 h.dO, .int .i64 h.ld, .int .i64 h.qu], .agg #[.int .i64 x.l.lo, .int .i64 x.l.hi, .int .i64 x.u.lo, .int .i64 x.u.hi]] w fun e w' => e = .returned (.int .i64 (Hs.spans h x)) ∧ Below w.heap.size w w' := by
  unfold Hs.spans
  have F0 : Hid (HAt ((w.alloc (.cells #[.int .i64 h.fl, .int .i64 h.gp, .int .i64 h.ln, .int .i64 h.rf, .int .i64 h.sp, .int .i64 h.pu, .int .i64 h.br, .int .i64 h.dr, .int .i64 h.lv, .int .i64 h.dO, .int .i64 h.ld, .int .i64 h.qu] 32)).alloc (.cells #[.int .i64 x.l.lo, .int .i64 x.l.hi, .int .i64 x.u.lo, .int .i64 x.u.hi] 53)) w.heap.size h) := (HAt.at_ w h _ _ (by simp)).alloc _
  have F1 : Hid (NW ((w.alloc (.cells #[.int .i64 h.fl, .int .i64 h.gp, .int .i64 h.ln, .int .i64 h.rf, .int .i64 h.sp, .int .i64 h.pu, .int .i64 h.br, .int .i64 h.dr, .int .i64 h.lv, .int .i64 h.dO, .int .i64 h.ld, .int .i64 h.qu] 32)).alloc (.cells #[.int .i64 x.l.lo, .int .i64 x.l.hi, .int .i64 x.u.lo, .int .i64 x.u.hi] 53)) (w.heap.size + 1) x) := NW.at_ (w.alloc (.cells #[.int .i64 h.fl, .int .i64 h.gp, .int .i64 h.ln, .int .i64 h.rf, .int .i64 h.sp, .int .i64 h.pu, .int .i64 h.br, .int .i64 h.dr, .int .i64 h.lv, .int .i64 h.dO, .int .i64 h.ld, .int .i64 h.qu] 32)) x _ _ (by simp)
  have FB : Hid (Below w.heap.size w ((w.alloc (.cells #[.int .i64 h.fl, .int .i64 h.gp, .int .i64 h.ln, .int .i64 h.rf, .int .i64 h.sp, .int .i64 h.pu, .int .i64 h.br, .int .i64 h.dr, .int .i64 h.lv, .int .i64 h.dO, .int .i64 h.ld, .int .i64 h.qu] 32)).alloc (.cells #[.int .i64 x.l.lo, .int .i64 x.l.hi, .int .i64 x.u.lo, .int .i64 x.u.hi] 53))) := (((Below.refl _ _).alloc (Nat.le_refl _) _).alloc (by simp <;> omega) _)
  by_cases hf : h.fault = 0
  · rw [if_pos hf]
    cases i4 : inB x.u.hi (-1) h.fl
    all_goals
      go_enter Tryz.func30, Tryz.ntmps30
      go_wp2_with (first | (go_at_call 28; refine (specFault_any h _).mono ?_; rw [hf]; rintro e w1 ⟨rfl, hb⟩; have F0 : Hid (HAt w1 w.heap.size h) := F0.out.below hb F0.out.lt; have F1 : Hid (NW w1 (w.heap.size + 1) x) := F1.out.below hb F1.out.lt; have FB : Hid (Below w.heap.size w w1) := FB.out.trans (hb.mono FB.out.size); obtain ⟨x0_0, x0_1, x0_2, x0_3, x0_4, x0_5, x0_6, x0_7, x0_8, x0_9, x0_10, x0_11⟩ := F0.out; obtain ⟨x1_0, x1_1, x1_2, x1_3, y1_0, y1_1, y1_2, y1_3⟩ := F1.out; clear hb) | (go_at_call 31; refine (l1In_any _ _ _ _).mono ?_; rintro e w' ⟨rfl, hw⟩; obtain rfl := hw.symm; clear hw))
      all_goals
        go_ret
        exact ⟨ret_int (by simp [Hs.spanC, Hs.spanR, spanB, *]), FB.out⟩
  · rw [if_neg hf]
    have hn : (h.fault != 0) = true := by simpa using hf
    clear hf
    go_enter Tryz.func30, Tryz.ntmps30
    go_wp2_with (go_at_call 28; refine (specFault_any h _).mono ?_; rintro e w1 ⟨rfl, hb⟩; have F0 : Hid (HAt w1 w.heap.size h) := F0.out.below hb F0.out.lt; have F1 : Hid (NW w1 (w.heap.size + 1) x) := F1.out.below hb F1.out.lt; have FB : Hid (Below w.heap.size w w1) := FB.out.trans (hb.mono FB.out.size); obtain ⟨x0_0, x0_1, x0_2, x0_3, x0_4, x0_5, x0_6, x0_7, x0_8, x0_9, x0_10, x0_11⟩ := F0.out; obtain ⟨x1_0, x1_1, x1_2, x1_3, y1_0, y1_1, y1_2, y1_3⟩ := F1.out; clear hb)
    go_ret
    exact ⟨rfl, FB.out⟩
end Go.Proofs.YtnfdplfifpmhoaaGreatDoor

namespace Go.Proofs.YtnfdplfifpmhoaaGreatDoor
open Go.RowKit Pl
set_option linter.unusedSimpArgs false
set_option linter.unusedVariables false

theorem phB_iff {d : Dk} : phB d = (decide ((if d.sh.lo.door ≠ 0 ∧ d.pl = 0 then (1 : Int) else 0) ≠ 0) || decide ((if d.sh.up.door ≠ 0 ∧ d.pu = 0 then (1 : Int) else 0) ≠ 0)) := by
  unfold phB
  by_cases a : d.sh.lo.door = 0 <;> by_cases b : d.pl = 0 <;> by_cases c : d.sh.up.door = 0 <;> by_cases e : d.pu = 0 <;> simp [a, b, c, e]
theorem away_step {n : Nat} {l : List Pe} {i : Nat} {p : Pe} (hp : l[i]? = some p) (h : (n : Int) ≤ p.sh) : awayB n l = true := by
  unfold awayB
  rw [List.any_eq_true]
  exact ⟨p, List.mem_of_getElem? hp, decide_eq_true h⟩
theorem away_none {n : Nat} {l : List Pe} (h : ∀ (j : Nat) q, j < l.length → l[j]? = some q → q.sh < (n : Int)) : awayB n l = false := by
  unfold awayB
  rw [List.any_eq_false]
  intro p hp
  obtain ⟨j, hj⟩ := List.getElem?_of_mem hp
  have := h j p (List.getElem?_eq_some_iff.1 hj).1 hj
  simp
  omega
set_option maxRecDepth 20000 in
set_option maxHeartbeats 8000000 in
theorem l8Phase_any (c : Cs) (p : Int) (hp : inB p 0 2 = true) (w : World) :
    Calls Tryz.prog 32 #[.agg #[.int .i64 c.pos, .int .i64 c.vel, .int .i64 c.door], .int .i64 p] w fun e w' => e = .returned (.int .i64 (if c.door ≠ 0 ∧ p = 0 then 1 else 0)) ∧ Below w.heap.size w w' := by
  have HB : Hid (Below w.heap.size w (w.alloc (.cells #[.int .i64 c.pos, .int .i64 c.vel, .int .i64 c.door] 47))) := (Below.refl _ _).alloc (Nat.le_refl _) _
  by_cases d : c.door = 0
  · rw [if_neg (fun q => q.1 d)]
    have hd : (c.door != 0) = false := by simpa using d
    clear d
    go_enter Tryz.func32, Tryz.ntmps32
    go_wp2_with (go_at_call 31; refine (l1In_any _ _ _ _).mono ?_; rintro e w' ⟨rfl, hw⟩; obtain rfl := hw.symm; clear hw)
    go_ret
    exact ⟨rfl, HB.out⟩
  · have hd : (c.door != 0) = true := by simpa using d
    by_cases q : p = 0
    · subst q
      rw [if_pos ⟨d, rfl⟩]
      clear d
      go_enter Tryz.func32, Tryz.ntmps32
      go_wp2_with (go_at_call 31; refine (l1In_any _ _ _ _).mono ?_; rintro e w' ⟨rfl, hw⟩; obtain rfl := hw.symm; clear hw)
      go_ret
      exact ⟨rfl, HB.out⟩
    · rw [if_neg (fun z => q z.2)]
      have hq : (p == 0) = false := by simpa using q
      clear q d
      go_enter Tryz.func32, Tryz.ntmps32
      go_wp2_with (go_at_call 31; refine (l1In_any _ _ _ _).mono ?_; rintro e w' ⟨rfl, hw⟩; obtain rfl := hw.symm; clear hw)
      go_ret
      exact ⟨rfl, HB.out⟩
set_option maxRecDepth 20000 in
set_option maxHeartbeats 32000000 in
theorem specGroupFault_any (h : Hs) (ds : List Dk) (da : Option Addr) (dc : Nat) (nx : Int) (ps : List Pe) (pa : Option Addr) (pc : Nat) (tk : Int) (rc : Bool) (hld : ds.length ≤ 1048576) (hlp : ps.length ≤ 1048576) (w : World) (hD : DIn w w.heap.size da ds) (hP : PIn w w.heap.size pa ps) :
    Calls Tryz.prog 11 #[.agg #[.int .i64 h.fl, .int .i64 h.gp, .int .i64 h.ln, .int .i64 h.rf, .int .i64 h.sp, .int .i64 h.pu, .int .i64 h.br, .int .i64 h.dr, .int .i64 h.lv, .int .i64 h.dO, .int .i64 h.ld, .int .i64 h.qu, .slice da ds.length dc, .int .i64 nx, .slice pa ps.length pc, .int .i64 tk, .bool rc]] w fun e w' => e = .returned (.int .i64 (Gr.fault ⟨h, ds, ⟨nx, ps⟩, tk, rc⟩)) ∧ Below w.heap.size w w' := by
  have HD : Hid (DIn w w.heap.size da ds) := hD
  have HP : Hid (PIn w w.heap.size pa ps) := hP
  have F0 : Hid (Blk (w.alloc (.cells #[.int .i64 h.fl, .int .i64 h.gp, .int .i64 h.ln, .int .i64 h.rf, .int .i64 h.sp, .int .i64 h.pu, .int .i64 h.br, .int .i64 h.dr, .int .i64 h.lv, .int .i64 h.dO, .int .i64 h.ld, .int .i64 h.qu, .slice da ds.length dc, .int .i64 nx, .slice pa ps.length pc, .int .i64 tk, .bool rc] 38)) w.heap.size (gvs h (.slice da ds.length dc) nx (.slice pa ps.length pc) tk rc)) := Blk.at_ w #[.int .i64 h.fl, .int .i64 h.gp, .int .i64 h.ln, .int .i64 h.rf, .int .i64 h.sp, .int .i64 h.pu, .int .i64 h.br, .int .i64 h.dr, .int .i64 h.lv, .int .i64 h.dO, .int .i64 h.ld, .int .i64 h.qu, .slice da ds.length dc, .int .i64 nx, .slice pa ps.length pc, .int .i64 tk, .bool rc] _ _ rfl
  have FB : Hid (Below w.heap.size w (w.alloc (.cells #[.int .i64 h.fl, .int .i64 h.gp, .int .i64 h.ln, .int .i64 h.rf, .int .i64 h.sp, .int .i64 h.pu, .int .i64 h.br, .int .i64 h.dr, .int .i64 h.lv, .int .i64 h.dO, .int .i64 h.ld, .int .i64 h.qu, .slice da ds.length dc, .int .i64 nx, .slice pa ps.length pc, .int .i64 tk, .bool rc] 38))) := (Below.refl _ _).alloc (Nat.le_refl _) _
  obtain ⟨W0, hW0⟩ : ∃ W0, W0 = (w.alloc (.cells #[.int .i64 h.fl, .int .i64 h.gp, .int .i64 h.ln, .int .i64 h.rf, .int .i64 h.sp, .int .i64 h.pu, .int .i64 h.br, .int .i64 h.dr, .int .i64 h.lv, .int .i64 h.dO, .int .i64 h.ld, .int .i64 h.qu, .slice da ds.length dc, .int .i64 nx, .slice pa ps.length pc, .int .i64 tk, .bool rc] 38)) := ⟨_, rfl⟩
  rw [← hW0] at F0 FB
  have HW0 : Hid (W0 = (w.alloc (.cells #[.int .i64 h.fl, .int .i64 h.gp, .int .i64 h.ln, .int .i64 h.rf, .int .i64 h.sp, .int .i64 h.pu, .int .i64 h.br, .int .i64 h.dr, .int .i64 h.lv, .int .i64 h.dO, .int .i64 h.ld, .int .i64 h.qu, .slice da ds.length dc, .int .i64 nx, .slice pa ps.length pc, .int .i64 tk, .bool rc] 38))) := hW0
  clear hW0 hD hP
  unfold Gr.fault
  dsimp only
  by_cases hf : h.fault = 0
  case neg =>
    rw [if_neg hf]
    have hn : (h.fault != 0) = true := by simpa using hf
    clear hf
    go_enter Tryz.func11, Tryz.ntmps11
    go_upto_region 1 with fail
    rw [← HW0.out]
    have x0 := F0.out.c 0 _ rfl
    have x1 := F0.out.c 1 _ rfl
    have x2 := F0.out.c 2 _ rfl
    have x3 := F0.out.c 3 _ rfl
    have x4 := F0.out.c 4 _ rfl
    have x5 := F0.out.c 5 _ rfl
    have x6 := F0.out.c 6 _ rfl
    have x7 := F0.out.c 7 _ rfl
    have x8 := F0.out.c 8 _ rfl
    have x9 := F0.out.c 9 _ rfl
    have x10 := F0.out.c 10 _ rfl
    have x11 := F0.out.c 11 _ rfl
    have x12 := F0.out.c 12 _ rfl
    have x13 := F0.out.c 13 _ rfl
    have x14 := F0.out.c 14 _ rfl
    have x15 := F0.out.c 15 _ rfl
    have x16 := F0.out.c 16 _ rfl
    go_wp2_with (go_at_call 28; refine (specFault_any h _).mono ?_; rintro e w1 ⟨rfl, hb⟩; have F0 : Hid (Blk w1 w.heap.size (gvs h (.slice da ds.length dc) nx (.slice pa ps.length pc) tk rc)) := F0.out.below hb F0.out.lt; have FB : Hid (Below w.heap.size w w1) := FB.out.trans (hb.mono FB.out.size); clear hb; have x0 := F0.out.c 0 _ rfl; have x1 := F0.out.c 1 _ rfl; have x2 := F0.out.c 2 _ rfl; have x3 := F0.out.c 3 _ rfl; have x4 := F0.out.c 4 _ rfl; have x5 := F0.out.c 5 _ rfl; have x6 := F0.out.c 6 _ rfl; have x7 := F0.out.c 7 _ rfl; have x8 := F0.out.c 8 _ rfl; have x9 := F0.out.c 9 _ rfl; have x10 := F0.out.c 10 _ rfl; have x11 := F0.out.c 11 _ rfl; have x12 := F0.out.c 12 _ rfl; have x13 := F0.out.c 13 _ rfl; have x14 := F0.out.c 14 _ rfl; have x15 := F0.out.c 15 _ rfl; have x16 := F0.out.c 16 _ rfl)
    go_ret
    exact ⟨rfl, FB.out⟩
  rw [if_pos hf]
  obtain ⟨r, hr⟩ : ∃ r, Gr.faultC ⟨h, ds, ⟨nx, ps⟩, tk, rc⟩ = r := ⟨_, rfl⟩
  rw [hr]
  have HR : Hid (Gr.faultC ⟨h, ds, ⟨nx, ps⟩, tk, rc⟩ = r) := hr
  clear hr
  unfold Gr.faultC at HR
  dsimp only at HR
  go_enter Tryz.func11, Tryz.ntmps11
  go_upto_region 1 with fail
  rw [← HW0.out]
  have x0 := F0.out.c 0 _ rfl
  have x1 := F0.out.c 1 _ rfl
  have x2 := F0.out.c 2 _ rfl
  have x3 := F0.out.c 3 _ rfl
  have x4 := F0.out.c 4 _ rfl
  have x5 := F0.out.c 5 _ rfl
  have x6 := F0.out.c 6 _ rfl
  have x7 := F0.out.c 7 _ rfl
  have x8 := F0.out.c 8 _ rfl
  have x9 := F0.out.c 9 _ rfl
  have x10 := F0.out.c 10 _ rfl
  have x11 := F0.out.c 11 _ rfl
  have x12 := F0.out.c 12 _ rfl
  have x13 := F0.out.c 13 _ rfl
  have x14 := F0.out.c 14 _ rfl
  have x15 := F0.out.c 15 _ rfl
  have x16 := F0.out.c 16 _ rfl
  go_upto_region 4 with (go_at_call 28; refine (specFault_any h _).mono ?_; rw [hf]; rintro e w1 ⟨rfl, hb⟩; have F0 : Hid (Blk w1 w.heap.size (gvs h (.slice da ds.length dc) nx (.slice pa ps.length pc) tk rc)) := F0.out.below hb F0.out.lt; have FB : Hid (Below w.heap.size w w1) := FB.out.trans (hb.mono FB.out.size); clear hb; have x0 := F0.out.c 0 _ rfl; have x1 := F0.out.c 1 _ rfl; have x2 := F0.out.c 2 _ rfl; have x3 := F0.out.c 3 _ rfl; have x4 := F0.out.c 4 _ rfl; have x5 := F0.out.c 5 _ rfl; have x6 := F0.out.c 6 _ rfl; have x7 := F0.out.c 7 _ rfl; have x8 := F0.out.c 8 _ rfl; have x9 := F0.out.c 9 _ rfl; have x10 := F0.out.c 10 _ rfl; have x11 := F0.out.c 11 _ rfl; have x12 := F0.out.c 12 _ rfl; have x13 := F0.out.c 13 _ rfl; have x14 := F0.out.c 14 _ rfl; have x15 := F0.out.c 15 _ rfl; have x16 := F0.out.c 16 _ rfl)
  by_cases n1 : (ds.length : Int) < 1
  case pos =>
    have HR : Hid ((2 : Int) = r) := by
      have q := HR.out
      rw [if_neg (by rw [inB_iff]; omega)] at q
      exact q
    have b1 : decide ((ds.length : Int) < 1) = true := decide_eq_true n1
    clear n1
    go_wp2_with fail
    go_ret
    exact ⟨ret_int HR.out, FB.out⟩
  by_cases n3 : 3 < (ds.length : Int)
  case pos =>
    have HR : Hid ((2 : Int) = r) := by
      have q := HR.out
      rw [if_neg (by rw [inB_iff]; omega)] at q
      exact q
    have b1 : decide ((ds.length : Int) < 1) = false := decide_eq_false n1
    have b3 : decide (3 < (ds.length : Int)) = true := decide_eq_true n3
    clear n1 n3
    go_wp2_with fail
    go_ret
    exact ⟨ret_int HR.out, FB.out⟩
  have HR : Hid ((if Hs.decks h ds = 0 then (if Hs.led h ⟨nx, ps⟩ = 0 then (if awayB ds.length ps = true then 1 else if inB tk 0 1000000000000000 = true then 0 else 3) else Hs.led h ⟨nx, ps⟩) else Hs.decks h ds) = r) := by
    have q := HR.out
    rw [if_pos (by rw [inB_iff]; omega)] at q
    exact q
  have b1 : decide ((ds.length : Int) < 1) = false := decide_eq_false n1
  have b3 : decide (3 < (ds.length : Int)) = false := decide_eq_false n3
  go_wp2_with fail
  clear x0 x1 x2 x3 x4 x5 x6 x7 x8 x9 x10 x11 x12 x13 x14 x15 x16
  go_loopw [4] (fun ii wr => ∃ i : Nat, ii = .int .i64 i ∧ i ≤ ds.length ∧ (∀ (j : Nat) e, j < i → ds[j]? = some e → Hs.deck h e = 0) ∧ Blk wr w.heap.size (gvs h (.slice da ds.length dc) nx (.slice pa ps.length pc) tk rc) ∧ Below w.heap.size w wr) (fun ii _ => ds.length - (intOf ii).toNat)
  case atStart => exact ⟨0, rfl, by omega, fun j q hj => absurd hj (by omega), F0.out, FB.out⟩
  case round =>
    obtain ⟨i, rfl, hi, hok, h0, h1⟩ := hrel
    have HOK : Hid (∀ (j : Nat) e, j < i → ds[j]? = some e → Hs.deck h e = 0) := hok
    have F0 : Hid (Blk wr w.heap.size (gvs h (.slice da ds.length dc) nx (.slice pa ps.length pc) tk rc)) := h0
    have FB : Hid (Below w.heap.size w wr) := h1
    clear hok h0 h1
    by_cases hlt : i < ds.length
    · obtain ⟨d, hd⟩ : ∃ d, ds[i]? = some d := ⟨_, List.getElem?_eq_getElem hlt⟩
      have FS : Hid (Hs.decks h ds = if Hs.deck h d = 0 then Hs.decks h (ds.drop (i + 1)) else Hs.deck h d) := decks_step hd HOK.out
      have HOK' : Hid (Hs.deck h d = 0 → ∀ (j : Nat) e, j < i + 1 → ds[j]? = some e → Hs.deck h e = 0) := by
        intro z j e hj he
        by_cases ej : j = i
        · subst ej
          rw [hd] at he
          cases he
          exact z
        · exact HOK.out j e (by omega) he
      have HBAD : Hid (∀ c, c ≠ 0 → Hs.deck h d = c → c = r) := by
        intro c cz hc
        have q := FS.out
        rw [hc, if_neg cz] at q
        have z := HR.out
        rw [q, if_neg cz] at z
        exact z
      rcases HD.out with hz | ⟨b, o, ha, hbl, h13⟩
      · rw [hz] at hlt; simp at hlt
      subst ha
      obtain ⟨c0, c1, c2, c3, c4, c5, c6, c7, c8, c9, c10, c11, c12⟩ := (h13 i d hd).below FB.out hbl
      clear h13 hd HOK FS
      have x0 := F0.out.c 0 _ rfl
      have x1 := F0.out.c 1 _ rfl
      have x2 := F0.out.c 2 _ rfl
      have x3 := F0.out.c 3 _ rfl
      have x4 := F0.out.c 4 _ rfl
      have x5 := F0.out.c 5 _ rfl
      have x6 := F0.out.c 6 _ rfl
      have x7 := F0.out.c 7 _ rfl
      have x8 := F0.out.c 8 _ rfl
      have x9 := F0.out.c 9 _ rfl
      have x10 := F0.out.c 10 _ rfl
      have x11 := F0.out.c 11 _ rfl
      have x12 := F0.out.c 12 _ rfl
      have x13 := F0.out.c 13 _ rfl
      have x14 := F0.out.c 14 _ rfl
      have x15 := F0.out.c 15 _ rfl
      have x16 := F0.out.c 16 _ rfl
      go_upto_region 10 with fail
      obtain ⟨db, hdb⟩ : ∃ db, db = wr.heap.size := ⟨_, rfl⟩
      obtain ⟨W1, hW1⟩ : ∃ W1, W1 = wr.alloc (.cells #[.int .i64 d.sh.lo.pos, .int .i64 d.sh.lo.vel, .int .i64 d.sh.lo.door, .int .i64 d.sh.up.pos, .int .i64 d.sh.up.vel, .int .i64 d.sh.up.door, .int .i64 d.sp.l.lo, .int .i64 d.sp.l.hi, .int .i64 d.sp.u.lo, .int .i64 d.sp.u.hi, .int .i64 d.pl, .int .i64 d.pu, .bool d.hd] 55) := ⟨_, rfl⟩
      have F0 : Hid (Blk W1 w.heap.size (gvs h (.slice (some ⟨b, o, none⟩) ds.length dc) nx (.slice pa ps.length pc) tk rc)) := by rw [hW1]; exact F0.out.alloc _
      have FD : Hid (Blk W1 db (cellsD d)) := by rw [hW1]; exact Blk.at_ wr #[.int .i64 d.sh.lo.pos, .int .i64 d.sh.lo.vel, .int .i64 d.sh.lo.door, .int .i64 d.sh.up.pos, .int .i64 d.sh.up.vel, .int .i64 d.sh.up.door, .int .i64 d.sp.l.lo, .int .i64 d.sp.l.hi, .int .i64 d.sp.u.lo, .int .i64 d.sp.u.hi, .int .i64 d.pl, .int .i64 d.pu, .bool d.hd] _ _ hdb
      have FB : Hid (Below w.heap.size w W1) := by rw [hW1]; exact FB.out.alloc FB.out.size _
      rw [← hW1, ← hdb]
      clear hW1 hdb c0 c1 c2 c3 c4 c5 c6 c7 c8 c9 c10 c11 c12
      have x0 := F0.out.c 0 _ rfl
      have x1 := F0.out.c 1 _ rfl
      have x2 := F0.out.c 2 _ rfl
      have x3 := F0.out.c 3 _ rfl
      have x4 := F0.out.c 4 _ rfl
      have x5 := F0.out.c 5 _ rfl
      have x6 := F0.out.c 6 _ rfl
      have x7 := F0.out.c 7 _ rfl
      have x8 := F0.out.c 8 _ rfl
      have x9 := F0.out.c 9 _ rfl
      have x10 := F0.out.c 10 _ rfl
      have x11 := F0.out.c 11 _ rfl
      have x12 := F0.out.c 12 _ rfl
      have x13 := F0.out.c 13 _ rfl
      have x14 := F0.out.c 14 _ rfl
      have x15 := F0.out.c 15 _ rfl
      have x16 := F0.out.c 16 _ rfl
      have y0 := FD.out.c 0 _ rfl
      have y1 := FD.out.c 1 _ rfl
      have y2 := FD.out.c 2 _ rfl
      have y3 := FD.out.c 3 _ rfl
      have y4 := FD.out.c 4 _ rfl
      have y5 := FD.out.c 5 _ rfl
      have y6 := FD.out.c 6 _ rfl
      have y7 := FD.out.c 7 _ rfl
      have y8 := FD.out.c 8 _ rfl
      have y9 := FD.out.c 9 _ rfl
      have y10 := FD.out.c 10 _ rfl
      have y11 := FD.out.c 11 _ rfl
      have y12 := FD.out.c 12 _ rfl
      go_upto_region 11 with (go_at_call 29; refine (specShaftFault_any h d.sh _).mono ?_; rintro e w2 ⟨rfl, hb⟩; have F0 : Hid (Blk w2 w.heap.size (gvs h (.slice (some ⟨b, o, none⟩) ds.length dc) nx (.slice pa ps.length pc) tk rc)) := F0.out.below hb F0.out.lt; have FD : Hid (Blk w2 db (cellsD d)) := FD.out.below hb FD.out.lt; have FB : Hid (Below w.heap.size w w2) := FB.out.trans (hb.mono FB.out.size); clear hb; have x0 := F0.out.c 0 _ rfl; have x1 := F0.out.c 1 _ rfl; have x2 := F0.out.c 2 _ rfl; have x3 := F0.out.c 3 _ rfl; have x4 := F0.out.c 4 _ rfl; have x5 := F0.out.c 5 _ rfl; have x6 := F0.out.c 6 _ rfl; have x7 := F0.out.c 7 _ rfl; have x8 := F0.out.c 8 _ rfl; have x9 := F0.out.c 9 _ rfl; have x10 := F0.out.c 10 _ rfl; have x11 := F0.out.c 11 _ rfl; have x12 := F0.out.c 12 _ rfl; have x13 := F0.out.c 13 _ rfl; have x14 := F0.out.c 14 _ rfl; have x15 := F0.out.c 15 _ rfl; have x16 := F0.out.c 16 _ rfl; have y0 := FD.out.c 0 _ rfl; have y1 := FD.out.c 1 _ rfl; have y2 := FD.out.c 2 _ rfl; have y3 := FD.out.c 3 _ rfl; have y4 := FD.out.c 4 _ rfl; have y5 := FD.out.c 5 _ rfl; have y6 := FD.out.c 6 _ rfl; have y7 := FD.out.c 7 _ rfl; have y8 := FD.out.c 8 _ rfl; have y9 := FD.out.c 9 _ rfl; have y10 := FD.out.c 10 _ rfl; have y11 := FD.out.c 11 _ rfl; have y12 := FD.out.c 12 _ rfl)
      by_cases k1 : h.shaft d.sh = 0
      case neg =>
        have hn : (h.shaft d.sh != 0) = true := by simpa using k1
        have z : Hs.deck h d = h.shaft d.sh := by unfold Hs.deck; rw [if_neg k1]
        have HZ : Hid (h.shaft d.sh = r) := HBAD.out _ k1 z
        clear k1 z
        go_wp2_with fail
        go_ret
        exact ⟨ret_int HZ.out, FB.out⟩
      have hn1 : (h.shaft d.sh != 0) = false := by simpa using k1
      go_upto_region 14 with (go_at_call 30; refine (specSpansFault_any h d.sp _).mono ?_; rintro e w2 ⟨rfl, hb⟩; have F0 : Hid (Blk w2 w.heap.size (gvs h (.slice (some ⟨b, o, none⟩) ds.length dc) nx (.slice pa ps.length pc) tk rc)) := F0.out.below hb F0.out.lt; have FD : Hid (Blk w2 db (cellsD d)) := FD.out.below hb FD.out.lt; have FB : Hid (Below w.heap.size w w2) := FB.out.trans (hb.mono FB.out.size); clear hb; have x0 := F0.out.c 0 _ rfl; have x1 := F0.out.c 1 _ rfl; have x2 := F0.out.c 2 _ rfl; have x3 := F0.out.c 3 _ rfl; have x4 := F0.out.c 4 _ rfl; have x5 := F0.out.c 5 _ rfl; have x6 := F0.out.c 6 _ rfl; have x7 := F0.out.c 7 _ rfl; have x8 := F0.out.c 8 _ rfl; have x9 := F0.out.c 9 _ rfl; have x10 := F0.out.c 10 _ rfl; have x11 := F0.out.c 11 _ rfl; have x12 := F0.out.c 12 _ rfl; have x13 := F0.out.c 13 _ rfl; have x14 := F0.out.c 14 _ rfl; have x15 := F0.out.c 15 _ rfl; have x16 := F0.out.c 16 _ rfl; have y0 := FD.out.c 0 _ rfl; have y1 := FD.out.c 1 _ rfl; have y2 := FD.out.c 2 _ rfl; have y3 := FD.out.c 3 _ rfl; have y4 := FD.out.c 4 _ rfl; have y5 := FD.out.c 5 _ rfl; have y6 := FD.out.c 6 _ rfl; have y7 := FD.out.c 7 _ rfl; have y8 := FD.out.c 8 _ rfl; have y9 := FD.out.c 9 _ rfl; have y10 := FD.out.c 10 _ rfl; have y11 := FD.out.c 11 _ rfl; have y12 := FD.out.c 12 _ rfl)
      by_cases k2 : Hs.spans h d.sp = 0
      case neg =>
        have hn : (Hs.spans h d.sp != 0) = true := by simpa using k2
        have z : Hs.deck h d = Hs.spans h d.sp := by unfold Hs.deck; rw [if_pos k1, if_neg k2]
        have HZ : Hid (Hs.spans h d.sp = r) := HBAD.out _ k2 z
        clear k1 k2 z
        go_wp2_with fail
        go_ret
        exact ⟨ret_int HZ.out, FB.out⟩
      have hn2 : (Hs.spans h d.sp != 0) = false := by simpa using k2
      have kd : Hs.deck h d = (if inB d.pl 0 2 = true ∧ inB d.pu 0 2 = true then (if phB d = true then 1 else 0) else 3) := by unfold Hs.deck; rw [if_pos k1, if_pos k2]
      have KD : Hid (Hs.deck h d = (if inB d.pl 0 2 = true ∧ inB d.pu 0 2 = true then (if phB d = true then 1 else 0) else 3)) := kd
      clear k1 k2 kd
      go_upto_region 16 with fail
      cases p1 : inB d.pl 0 2
      · have HZ : Hid ((3 : Int) = r) := HBAD.out 3 (by omega) (by rw [KD.out, if_neg (by rw [p1]; simp)])
        go_wp2_with (go_at_call 31; refine (l1In_any _ _ _ _).mono ?_; rintro e w' ⟨rfl, hw⟩; obtain rfl := hw.symm; clear hw)
        go_ret
        exact ⟨ret_int HZ.out, FB.out⟩
      cases p2 : inB d.pu 0 2
      · have HZ : Hid ((3 : Int) = r) := HBAD.out 3 (by omega) (by rw [KD.out, if_neg (by rw [p2]; simp)])
        go_wp2_with (go_at_call 31; refine (l1In_any _ _ _ _).mono ?_; rintro e w' ⟨rfl, hw⟩; obtain rfl := hw.symm; clear hw)
        go_ret
        exact ⟨ret_int HZ.out, FB.out⟩
      have KD : Hid (Hs.deck h d = (if phB d = true then 1 else 0)) := by
        have q := KD.out
        rw [if_pos ⟨p1, p2⟩] at q
        exact q
      obtain ⟨r1, hr1⟩ : ∃ r1 : Int, (if d.sh.lo.door ≠ 0 ∧ d.pl = 0 then (1 : Int) else 0) = r1 := ⟨_, rfl⟩
      obtain ⟨r2, hr2⟩ : ∃ r2 : Int, (if d.sh.up.door ≠ 0 ∧ d.pu = 0 then (1 : Int) else 0) = r2 := ⟨_, rfl⟩
      have H1 : Hid ((if d.sh.lo.door ≠ 0 ∧ d.pl = 0 then (1 : Int) else 0) = r1) := hr1
      have H2 : Hid ((if d.sh.up.door ≠ 0 ∧ d.pu = 0 then (1 : Int) else 0) = r2) := hr2
      have KP : Hid (phB d = (decide (r1 ≠ 0) || decide (r2 ≠ 0))) := by
        have q := phB_iff (d := d)
        rw [hr1, hr2] at q
        exact q
      clear hr1 hr2
      go_upto_region 18 with (go_at_call 31; refine (l1In_any _ _ _ _).mono ?_; rintro e w' ⟨rfl, hw⟩; obtain rfl := hw.symm; clear hw)
      by_cases q1 : r1 = 0
      case neg =>
        have hq : (r1 != 0) = true := by simpa using q1
        have HZ : Hid ((1 : Int) = r) := HBAD.out 1 (by omega) (by rw [KD.out, KP.out]; simp [q1])
        clear q1
        go_wp2_with (go_at_call 32; refine (l8Phase_any _ _ (by assumption) _).mono ?_; (first | rw [H1.out] | rw [H2.out]); rintro e w2 ⟨rfl, hb⟩; have F0 : Hid (Blk w2 w.heap.size (gvs h (.slice (some ⟨b, o, none⟩) ds.length dc) nx (.slice pa ps.length pc) tk rc)) := F0.out.below hb F0.out.lt; have FD : Hid (Blk w2 db (cellsD d)) := FD.out.below hb FD.out.lt; have FB : Hid (Below w.heap.size w w2) := FB.out.trans (hb.mono FB.out.size); clear hb; have x0 := F0.out.c 0 _ rfl; have x1 := F0.out.c 1 _ rfl; have x2 := F0.out.c 2 _ rfl; have x3 := F0.out.c 3 _ rfl; have x4 := F0.out.c 4 _ rfl; have x5 := F0.out.c 5 _ rfl; have x6 := F0.out.c 6 _ rfl; have x7 := F0.out.c 7 _ rfl; have x8 := F0.out.c 8 _ rfl; have x9 := F0.out.c 9 _ rfl; have x10 := F0.out.c 10 _ rfl; have x11 := F0.out.c 11 _ rfl; have x12 := F0.out.c 12 _ rfl; have x13 := F0.out.c 13 _ rfl; have x14 := F0.out.c 14 _ rfl; have x15 := F0.out.c 15 _ rfl; have x16 := F0.out.c 16 _ rfl; have y0 := FD.out.c 0 _ rfl; have y1 := FD.out.c 1 _ rfl; have y2 := FD.out.c 2 _ rfl; have y3 := FD.out.c 3 _ rfl; have y4 := FD.out.c 4 _ rfl; have y5 := FD.out.c 5 _ rfl; have y6 := FD.out.c 6 _ rfl; have y7 := FD.out.c 7 _ rfl; have y8 := FD.out.c 8 _ rfl; have y9 := FD.out.c 9 _ rfl; have y10 := FD.out.c 10 _ rfl; have y11 := FD.out.c 11 _ rfl; have y12 := FD.out.c 12 _ rfl)
        go_ret
        exact ⟨ret_int HZ.out, FB.out⟩
      have hq1 : (r1 != 0) = false := by simpa using q1
      by_cases q2 : r2 = 0
      case neg =>
        have hq : (r2 != 0) = true := by simpa using q2
        have HZ : Hid ((1 : Int) = r) := HBAD.out 1 (by omega) (by rw [KD.out, KP.out]; simp [q2])
        clear q1 q2
        go_wp2_with (go_at_call 32; refine (l8Phase_any _ _ (by assumption) _).mono ?_; (first | rw [H1.out] | rw [H2.out]); rintro e w2 ⟨rfl, hb⟩; have F0 : Hid (Blk w2 w.heap.size (gvs h (.slice (some ⟨b, o, none⟩) ds.length dc) nx (.slice pa ps.length pc) tk rc)) := F0.out.below hb F0.out.lt; have FD : Hid (Blk w2 db (cellsD d)) := FD.out.below hb FD.out.lt; have FB : Hid (Below w.heap.size w w2) := FB.out.trans (hb.mono FB.out.size); clear hb; have x0 := F0.out.c 0 _ rfl; have x1 := F0.out.c 1 _ rfl; have x2 := F0.out.c 2 _ rfl; have x3 := F0.out.c 3 _ rfl; have x4 := F0.out.c 4 _ rfl; have x5 := F0.out.c 5 _ rfl; have x6 := F0.out.c 6 _ rfl; have x7 := F0.out.c 7 _ rfl; have x8 := F0.out.c 8 _ rfl; have x9 := F0.out.c 9 _ rfl; have x10 := F0.out.c 10 _ rfl; have x11 := F0.out.c 11 _ rfl; have x12 := F0.out.c 12 _ rfl; have x13 := F0.out.c 13 _ rfl; have x14 := F0.out.c 14 _ rfl; have x15 := F0.out.c 15 _ rfl; have x16 := F0.out.c 16 _ rfl; have y0 := FD.out.c 0 _ rfl; have y1 := FD.out.c 1 _ rfl; have y2 := FD.out.c 2 _ rfl; have y3 := FD.out.c 3 _ rfl; have y4 := FD.out.c 4 _ rfl; have y5 := FD.out.c 5 _ rfl; have y6 := FD.out.c 6 _ rfl; have y7 := FD.out.c 7 _ rfl; have y8 := FD.out.c 8 _ rfl; have y9 := FD.out.c 9 _ rfl; have y10 := FD.out.c 10 _ rfl; have y11 := FD.out.c 11 _ rfl; have y12 := FD.out.c 12 _ rfl)
        go_ret
        exact ⟨ret_int HZ.out, FB.out⟩
      have hq2 : (r2 != 0) = false := by simpa using q2
      have HN : Hid (∀ (j : Nat) e, j < i + 1 → ds[j]? = some e → Hs.deck h e = 0) := HOK'.out (by rw [KD.out, KP.out]; simp [q1, q2])
      clear q1 q2
      go_wp2_with (go_at_call 32; refine (l8Phase_any _ _ (by assumption) _).mono ?_; (first | rw [H1.out] | rw [H2.out]); rintro e w2 ⟨rfl, hb⟩; have F0 : Hid (Blk w2 w.heap.size (gvs h (.slice (some ⟨b, o, none⟩) ds.length dc) nx (.slice pa ps.length pc) tk rc)) := F0.out.below hb F0.out.lt; have FD : Hid (Blk w2 db (cellsD d)) := FD.out.below hb FD.out.lt; have FB : Hid (Below w.heap.size w w2) := FB.out.trans (hb.mono FB.out.size); clear hb; have x0 := F0.out.c 0 _ rfl; have x1 := F0.out.c 1 _ rfl; have x2 := F0.out.c 2 _ rfl; have x3 := F0.out.c 3 _ rfl; have x4 := F0.out.c 4 _ rfl; have x5 := F0.out.c 5 _ rfl; have x6 := F0.out.c 6 _ rfl; have x7 := F0.out.c 7 _ rfl; have x8 := F0.out.c 8 _ rfl; have x9 := F0.out.c 9 _ rfl; have x10 := F0.out.c 10 _ rfl; have x11 := F0.out.c 11 _ rfl; have x12 := F0.out.c 12 _ rfl; have x13 := F0.out.c 13 _ rfl; have x14 := F0.out.c 14 _ rfl; have x15 := F0.out.c 15 _ rfl; have x16 := F0.out.c 16 _ rfl; have y0 := FD.out.c 0 _ rfl; have y1 := FD.out.c 1 _ rfl; have y2 := FD.out.c 2 _ rfl; have y3 := FD.out.c 3 _ rfl; have y4 := FD.out.c 4 _ rfl; have y5 := FD.out.c 5 _ rfl; have y6 := FD.out.c 6 _ rfl; have y7 := FD.out.c 7 _ rfl; have y8 := FD.out.c 8 _ rfl; have y9 := FD.out.c 9 _ rfl; have y10 := FD.out.c 10 _ rfl; have y11 := FD.out.c 11 _ rfl; have y12 := FD.out.c 12 _ rfl)
      go_roundw
      case rel => exact ⟨i + 1, by simp, by omega, HN.out, F0.out, FB.out⟩
      case measure => simp [intOf]; omega
    · have ei : i = ds.length := by omega
      subst ei
      have hz : Hs.decks h ds = 0 := decks_all (fun j e he => HOK.out j e (List.getElem?_eq_some_iff.1 he).1 he)
      have HR : Hid ((if Hs.led h ⟨nx, ps⟩ = 0 then (if awayB ds.length ps = true then 1 else if inB tk 0 1000000000000000 = true then 0 else 3) else Hs.led h ⟨nx, ps⟩) = r) := by
        have q := HR.out
        rw [if_pos hz] at q
        exact q
      clear hz HOK hlt hi n1 n3
      have x0 := F0.out.c 0 _ rfl
      have x1 := F0.out.c 1 _ rfl
      have x2 := F0.out.c 2 _ rfl
      have x3 := F0.out.c 3 _ rfl
      have x4 := F0.out.c 4 _ rfl
      have x5 := F0.out.c 5 _ rfl
      have x6 := F0.out.c 6 _ rfl
      have x7 := F0.out.c 7 _ rfl
      have x8 := F0.out.c 8 _ rfl
      have x9 := F0.out.c 9 _ rfl
      have x10 := F0.out.c 10 _ rfl
      have x11 := F0.out.c 11 _ rfl
      have x12 := F0.out.c 12 _ rfl
      have x13 := F0.out.c 13 _ rfl
      have x14 := F0.out.c 14 _ rfl
      have x15 := F0.out.c 15 _ rfl
      have x16 := F0.out.c 16 _ rfl
      go_upto_region 21 with (go_at_call 33; refine (specLedgerFault_any h ⟨nx, ps⟩ pa pc hlp _ ((HP.out.below FB.out (Nat.le_refl _)).mono FB.out.size)).mono ?_; rintro e w2 ⟨rfl, hb⟩; have F0 : Hid (Blk w2 w.heap.size (gvs h (.slice da ds.length dc) nx (.slice pa ps.length pc) tk rc)) := F0.out.below hb F0.out.lt; have FB : Hid (Below w.heap.size w w2) := FB.out.trans (hb.mono FB.out.size); clear hb; have x0 := F0.out.c 0 _ rfl; have x1 := F0.out.c 1 _ rfl; have x2 := F0.out.c 2 _ rfl; have x3 := F0.out.c 3 _ rfl; have x4 := F0.out.c 4 _ rfl; have x5 := F0.out.c 5 _ rfl; have x6 := F0.out.c 6 _ rfl; have x7 := F0.out.c 7 _ rfl; have x8 := F0.out.c 8 _ rfl; have x9 := F0.out.c 9 _ rfl; have x10 := F0.out.c 10 _ rfl; have x11 := F0.out.c 11 _ rfl; have x12 := F0.out.c 12 _ rfl; have x13 := F0.out.c 13 _ rfl; have x14 := F0.out.c 14 _ rfl; have x15 := F0.out.c 15 _ rfl; have x16 := F0.out.c 16 _ rfl)
      by_cases k3 : Hs.led h ⟨nx, ps⟩ = 0
      case neg =>
        have hn : (Hs.led h ⟨nx, ps⟩ != 0) = true := by simpa using k3
        have HR : Hid (Hs.led h ⟨nx, ps⟩ = r) := by
          have q := HR.out
          rw [if_neg k3] at q
          exact q
        clear k3
        go_wp2_with fail
        go_ret
        exact ⟨ret_int HR.out, FB.out⟩
      have hn3 : (Hs.led h ⟨nx, ps⟩ != 0) = false := by simpa using k3
      have HR : Hid ((if awayB ds.length ps = true then 1 else if inB tk 0 1000000000000000 = true then 0 else 3) = r) := by
        have q := HR.out
        rw [if_pos k3] at q
        exact q
      clear k3
      go_wp2_with fail
      clear x0 x1 x2 x3 x4 x5 x6 x7 x8 x9 x10 x11 x12 x13 x14 x15 x16
      go_loopw [9] (fun ii wr => ∃ i : Nat, ii = .int .i64 i ∧ i ≤ ps.length ∧ (∀ (j : Nat) q, j < i → ps[j]? = some q → q.sh < (ds.length : Int)) ∧ Blk wr w.heap.size (gvs h (.slice da ds.length dc) nx (.slice pa ps.length pc) tk rc) ∧ Below w.heap.size w wr) (fun ii _ => ps.length - (intOf ii).toNat)
      case atStart => exact ⟨0, rfl, by omega, fun j q hj => absurd hj (by omega), F0.out, FB.out⟩
      case round =>
        obtain ⟨i, rfl, hi, hok, h0, h1⟩ := hrel
        have HOK : Hid (∀ (j : Nat) q, j < i → ps[j]? = some q → q.sh < (ds.length : Int)) := hok
        have F0 : Hid (Blk wr w.heap.size (gvs h (.slice da ds.length dc) nx (.slice pa ps.length pc) tk rc)) := h0
        have FB : Hid (Below w.heap.size w wr) := h1
        clear hok h0 h1
        have x0 := F0.out.c 0 _ rfl
        have x1 := F0.out.c 1 _ rfl
        have x2 := F0.out.c 2 _ rfl
        have x3 := F0.out.c 3 _ rfl
        have x4 := F0.out.c 4 _ rfl
        have x5 := F0.out.c 5 _ rfl
        have x6 := F0.out.c 6 _ rfl
        have x7 := F0.out.c 7 _ rfl
        have x8 := F0.out.c 8 _ rfl
        have x9 := F0.out.c 9 _ rfl
        have x10 := F0.out.c 10 _ rfl
        have x11 := F0.out.c 11 _ rfl
        have x12 := F0.out.c 12 _ rfl
        have x13 := F0.out.c 13 _ rfl
        have x14 := F0.out.c 14 _ rfl
        have x15 := F0.out.c 15 _ rfl
        have x16 := F0.out.c 16 _ rfl
        by_cases hlt : i < ps.length
        · obtain ⟨p, hp⟩ : ∃ p, ps[i]? = some p := ⟨_, List.getElem?_eq_getElem hlt⟩
          rcases HP.out with hz | ⟨b, o, ha, hbl, h7⟩
          · rw [hz] at hlt; simp at hlt
          subst ha
          have FQ : Hid (P7 wr b (o + i * 7) p) := (h7 i p hp).below FB.out hbl
          by_cases kc : (ds.length : Int) ≤ p.sh
          · have hc : decide ((ds.length : Int) ≤ p.sh) = true := decide_eq_true kc
            have HR : Hid ((1 : Int) = r) := by
              have q := HR.out
              rw [away_step hp kc, if_pos rfl] at q
              exact q
            clear h7 hp kc
            go_wp2_with fail
            have F0 : Hid (Blk wr.drew w.heap.size (gvs h (.slice da ds.length dc) nx (.slice (some ⟨b, o, none⟩) ps.length pc) tk rc)) := F0.out.below (Below.refl _ _).drew F0.out.lt
            have FB : Hid (Below w.heap.size w wr.drew) := FB.out.drew
            have FQ : Hid (P7 wr.drew b (o + i * 7) p) := FQ.out.below (Below.refl _ _).drew FQ.out.lt
            have m0 := F0.out.c 12 _ rfl
            have m1 := F0.out.c 14 _ rfl
            have m2 := FQ.out.c3
            refine wp_region_held_drew (S := (fun w'' => w''.cell? ⟨w.heap.size, 12, none⟩ = some (.slice da ds.length dc) ∧ w''.cell? ⟨w.heap.size, 14, none⟩ = some (.slice (some ⟨b, o, none⟩) ps.length pc) ∧ w''.cell? ⟨b, o + i * 7 + 3, none⟩ = some (.int .i64 p.sh))) (by kernel_rfl) (by (try dsimp only); first | exact ⟨m0, m1, m2⟩ | go_keep) (fun hHeld => ?_)
            obtain ⟨v_1, hw1⟩ : ∃ v_1, v_1 = wr.drew := ⟨_, rfl⟩
            have F0 : Hid (Blk v_1 w.heap.size (gvs h (.slice da ds.length dc) nx (.slice (some ⟨b, o, none⟩) ps.length pc) tk rc)) := by rw [hw1]; exact F0.out
            have FB : Hid (Below w.heap.size w v_1) := by rw [hw1]; exact FB.out
            have FQ : Hid (P7 v_1 b (o + i * 7) p) := by rw [hw1]; exact FQ.out
            rw [← hw1] at hHeld ⊢
            clear hw1
            have m0 := F0.out.c 12 _ rfl
            have m1 := F0.out.c 14 _ rfl
            have m2 := FQ.out.c3
            refine tkz 0 rfl ?_
            refine tkz 1 rfl ?_
            refine tkz 2 rfl ?_
            refine tkz 3 rfl ?_
            refine tkz 4 rfl ?_
            refine tkz 5 rfl ?_
            refine tkz 6 rfl ?_
            refine tkz 7 rfl ?_
            refine tkz 8 rfl ?_
            refine wpAnyH_ready (rs := [9]) (by kernel_rfl) (by simp) ?_
            refine (AllReadyH.cons rfl (fun K hK => ?_) AllReadyH.nil)
            go_simp
            refine hK.out _ _ (by (try dsimp only); first | exact ⟨m0, m1, m2⟩ | go_keep) (fun hHeld => ?_)
            clear hK K
            try simp only [Act.put, List.getElem_toArray, List.getElem_cons_succ, List.getElem_cons_zero, List.setIfInBounds_toArray, List.set_cons_zero, List.set_cons_succ]
            refine tkz 10 rfl ?_
            refine wpAnyH_done (by kernel_rfl) ?_ _
            go_wp2_with fail
            go_ret
            exact ⟨ret_int HR.out, FB.out⟩
          · have hc : decide ((ds.length : Int) ≤ p.sh) = false := decide_eq_false kc
            have HN : Hid (∀ (j : Nat) q, j < i + 1 → ps[j]? = some q → q.sh < (ds.length : Int)) := by
              intro j q hj hq
              by_cases ej : j = i
              · subst ej
                rw [hp] at hq
                cases hq
                omega
              · exact HOK.out j q (by omega) hq
            clear h7 hp kc
            go_wp2_with fail
            have F0 : Hid (Blk wr.drew w.heap.size (gvs h (.slice da ds.length dc) nx (.slice (some ⟨b, o, none⟩) ps.length pc) tk rc)) := F0.out.below (Below.refl _ _).drew F0.out.lt
            have FB : Hid (Below w.heap.size w wr.drew) := FB.out.drew
            have FQ : Hid (P7 wr.drew b (o + i * 7) p) := FQ.out.below (Below.refl _ _).drew FQ.out.lt
            have m0 := F0.out.c 12 _ rfl
            have m1 := F0.out.c 14 _ rfl
            have m2 := FQ.out.c3
            refine wp_region_held_drew (S := (fun w'' => w''.cell? ⟨w.heap.size, 12, none⟩ = some (.slice da ds.length dc) ∧ w''.cell? ⟨w.heap.size, 14, none⟩ = some (.slice (some ⟨b, o, none⟩) ps.length pc) ∧ w''.cell? ⟨b, o + i * 7 + 3, none⟩ = some (.int .i64 p.sh))) (by kernel_rfl) (by (try dsimp only); first | exact ⟨m0, m1, m2⟩ | go_keep) (fun hHeld => ?_)
            obtain ⟨v_2, hw1⟩ : ∃ v_2, v_2 = wr.drew := ⟨_, rfl⟩
            have F0 : Hid (Blk v_2 w.heap.size (gvs h (.slice da ds.length dc) nx (.slice (some ⟨b, o, none⟩) ps.length pc) tk rc)) := by rw [hw1]; exact F0.out
            have FB : Hid (Below w.heap.size w v_2) := by rw [hw1]; exact FB.out
            have FQ : Hid (P7 v_2 b (o + i * 7) p) := by rw [hw1]; exact FQ.out
            rw [← hw1] at hHeld ⊢
            clear hw1
            have m0 := F0.out.c 12 _ rfl
            have m1 := F0.out.c 14 _ rfl
            have m2 := FQ.out.c3
            refine tkz 0 rfl ?_
            refine tkz 1 rfl ?_
            refine tkz 2 rfl ?_
            refine tkz 3 rfl ?_
            refine tkz 4 rfl ?_
            refine tkz 5 rfl ?_
            refine tkz 6 rfl ?_
            refine tkz 7 rfl ?_
            refine tkz 8 rfl ?_
            refine wpAnyH_ready (rs := [9]) (by kernel_rfl) (by simp) ?_
            refine (AllReadyH.cons rfl (fun K hK => ?_) AllReadyH.nil)
            go_simp
            refine hK.out _ _ (by (try dsimp only); first | exact ⟨m0, m1, m2⟩ | go_keep) (fun hHeld => ?_)
            clear hK K
            try simp only [Act.put, List.getElem_toArray, List.getElem_cons_succ, List.getElem_cons_zero, List.setIfInBounds_toArray, List.set_cons_zero, List.set_cons_succ]
            refine tkz 10 rfl ?_
            refine wpAnyH_done (by kernel_rfl) ?_ _
            go_wp2_with fail
            go_roundw
            case rel => exact ⟨i + 1, by simp, by omega, HN.out, F0.out, FB.out⟩
            case measure => simp [intOf]; omega
        · have ei : i = ps.length := by omega
          subst ei
          have hz : awayB ds.length ps = false := away_none HOK.out
          have HR : Hid ((if inB tk 0 1000000000000000 = true then (0 : Int) else 3) = r) := by
            have q := HR.out
            rw [hz, if_neg (by simp)] at q
            exact q
          clear hz HOK hlt hi
          cases k5 : inB tk 0 1000000000000000
          · have HR : Hid ((3 : Int) = r) := by
              have q := HR.out
              rw [k5, if_neg (by simp)] at q
              exact q
            go_wp2_with (go_at_call 31; refine (l1In_any _ _ _ _).mono ?_; rintro e w' ⟨rfl, hw⟩; obtain rfl := hw.symm; clear hw)
            go_ret
            exact ⟨ret_int HR.out, FB.out⟩
          · have HR : Hid ((0 : Int) = r) := by
              have q := HR.out
              rw [k5, if_pos rfl] at q
              exact q
            go_wp2_with (go_at_call 31; refine (l1In_any _ _ _ _).mono ?_; rintro e w' ⟨rfl, hw⟩; obtain rfl := hw.symm; clear hw)
            go_ret
            exact ⟨ret_int HR.out, FB.out⟩
end Go.Proofs.YtnfdplfifpmhoaaGreatDoor
