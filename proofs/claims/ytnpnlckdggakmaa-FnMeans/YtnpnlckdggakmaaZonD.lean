/-
  Zones: the floors of a set, one after the other: an iterator (the program).
-/
import Derived.Test.YtnpnlckdggakmaaZonC
import Derived.RangeFuncNested
import Derived.RangeFuncBound
import Derived.RangeFuncCalls
import Derived.RangeFuncLeaves
import Derived.Shelf.Abstract
import Derived.Shelf.AbstractIn
import Derived.Shelf.RegionOpen
import Derived.WalkKit
import Derived.OwnWalkIn
import Derived.TacticsInMore
import Derived.LoopNIn
import Derived.LoopIn
import Derived.Maps.AppendAt
import Derived.Sort.QuietThIn
import Derived.Sort.QuietTacIn
namespace Go.Proofs.Ytnpnlckdggakmaa
open Go.RowKit Go.Shelf Pl
set_option linter.unusedSimpArgs false
set_option linter.unusedVariables false
attribute [local go_sem] Oper.semAt_some

/-- The floors of a set below k, rising. -/
def upF (m : Nat) : Nat → List (Fin 12)
  | 0 => []
  | k + 1 => if h : k < 12 ∧ m.testBit k = true then upF m k ++ [⟨k, h.1⟩] else upF m k
theorem upF_yes {m k : Nat} (h : k < 12) (hb : m.testBit k = true) : upF m (k + 1) = upF m k ++ [⟨k, h⟩] := dif_pos ⟨h, hb⟩
theorem upF_no {m k : Nat} (hb : m.testBit k = false) : upF m (k + 1) = upF m k := dif_neg (fun c => by rw [hb] at c; exact absurd c.2 (by decide))
theorem upF_len (m k : Nat) : (upF m k).length ≤ k := by
  induction k with
  | zero => exact Nat.le_refl _
  | succ k ih =>
    unfold upF
    split
    · rw [List.length_append]; simp; exact ih
    · omega
theorem upF_pre (m k : Nat) : ∀ d, upF m k <+: upF m (k + d)
  | 0 => List.prefix_rfl
  | d + 1 => by
    refine (upF_pre m k d).trans ?_
    show upF m (k + d) <+: upF m (k + d + 1)
    rw [upF.eq_2]
    split
    · exact List.prefix_append _ _
    · exact List.prefix_rfl
def numF (l : List (Fin 12)) : List Int := l.map (fun x => (x.1 : Int))
theorem numF_up (m : Nat) : ∀ k, k ≤ 12 → numF (upF m k) = fls k m
  | 0, _ => rfl
  | k + 1, h => by
    have ih := numF_up m k (by omega)
    have e : fls (k + 1) m = fls k m ++ (if m.testBit k = true then [(k : Int)] else []) := by
      unfold fls
      rw [flsN_succ]
      split <;> simp
    rw [e]
    cases hb : m.testBit k with
    | true => rw [upF_yes (by omega) hb]; unfold numF at *; rw [List.map_append, ih]; rfl
    | false => rw [upF_no hb, ih]; simp
/-- A block lies as it lay. -/
def KeepB (b : Nat) (W W' : World) : Prop := W'.heap[b]? = W.heap[b]?
theorem keepB_t {b : Nat} {A B C : World} (h : KeepB b A B) (k : KeepB b B C) : KeepB b A C := Eq.trans k h
theorem keepB_b {b : Nat} {w : World} (hb : b < w.heap.size) (W : World) (l : Nat) (o o' : Obj) (hl : w.heap.size ≤ l) (_ : W.heap[l]? = some o) (_ : o.isCells = false) (_ : o.isWalk = false) : KeepB b W (W.putObj l o') := World.putObj_heap_other (by omega)
theorem grown_of {w w' : World} (h : Below w.heap.size w w') : w.grownBy w' none := ⟨h.os, h.tape, h.output, h.size, fun k hk _ => h.block k hk⟩
theorem Blk.kept {W W' : World} {b : Nat} {vs : List Value} {row : Option Nat} (a : Blk W b vs) (hg : W.grownBy W' row) (hr : ∀ r, row = some r → ∃ o : Obj, W.heap[r]? = some o ∧ o.isCells = false) : Blk W' b vs := by
  refine a.grown hg ?_
  intro e
  obtain ⟨o, ho, hc⟩ := hr b e.symm
  obtain ⟨T, h⟩ := a.o
  rw [h] at ho
  cases ho
  cases hc
theorem load_arrIn {F : Fence} {n : Nat} {ops : Array Oper} {rest : List Oper} {o : Oper} {act : Act} {w : World} {Q : Exit → Act → World → Prop} {b : Nat} {vs : List Value} (T : TypeId) (x : Operand) {k : Nat} {e : TypeId} (hu : Try.prog.underlying T = some (.array k e)) (hi : (Try.prog.info? T).map (·.size) = some vs.toArray.size) (hB : Blk w b vs)
    (hgd : o.guard = none) (ho : o.op = .load T x) (hx : act.eval x = .pointer (some ⟨b, 0, none⟩)) (h : wpListIn F n Try.prog ops Q rest (act.put o.dst (.agg vs.toArray)) w) : wpListIn F n Try.prog ops Q (o :: rest) act w := by
  obtain ⟨T', h'⟩ := hB.o
  refine wpListIn_plain hgd fun K hK' => ?_
  unfold Oper.wpIn
  refine ⟨by simp [Oper.about, ho], ?_⟩
  rw [Oper.semAt_plain F _ _ (by rw [ho]; intro c hc'; cases hc')]
  unfold execOp
  simp only [ho, hx, Instr.loadAt, Instr.sureAddr, Sem.run_bind, Sem.run_pure, Result.andThen_ok, run_loadVar_row w b T' T vs.toArray (0, 0) (.array k e) h' hu rfl hi]
  exact hK' _ _ h
/-- In a round of a loop over an iterator an operation that is no defer is carried out as anywhere. -/
theorem any_round {F : Fence} {n : Nat} {P : Program} {md : Region.Mode} {ops : Array Oper} {Q : Exit → Act → World → Prop} (l : Nat) (hro : F.round = none) (hd : ∀ (i : Nat) (o : Oper), ops[i]? = some o → ∀ c, o.op ≠ .defer c) :
    ∀ (fuel : Nat) (listed : Array Bool) (a : Act) (w : World), wpAnyIn F n P md ops Q fuel listed a w → wpAnyIn (F.inRound l) n P md ops Q fuel listed a w := by
  intro fuel
  induction fuel with
  | zero => intro listed a w h; exact h
  | succ fuel ih =>
    intro listed a w h
    refine ⟨h.1, fun i hi => ?_⟩
    have q := h.2 i hi
    unfold wpOpIn at q ⊢
    cases ho : ops[i]? with
    | none => rw [ho] at q; exact ih _ _ _ q
    | some o =>
      rw [ho] at q
      dsimp only at q ⊢
      by_cases hw : Region.wanted o (yielded ops a.tmps) = true
      · rw [if_pos hw] at q ⊢
        have q2 := Oper.wpIn_mono (F := F) (fun a w hh => ih (listed.setIfInBounds i true) a w hh) q
        unfold Oper.wpIn at q2 ⊢
        refine ⟨q2.1, ?_⟩
        have e1 : o.semAt F.round a.eval = execOp a.eval o := Oper.semAt_plain F _ _ (hd i o ho)
        have e2 : o.semAt (F.inRound l).round a.eval = execOp a.eval o := Oper.semAt_plain (F.inRound l) _ _ (hd i o ho)
        rw [e1] at q2
        rw [e2]
        exact q2.2
      · rw [if_neg hw] at q ⊢
        exact ⟨q.1, ih _ _ _ q.2⟩
def noDefer (ops : List Oper) : Bool := ops.all (fun o => match o.op with | .defer _ => false | _ => true)
theorem noDefer_spec {ops : List Oper} (h : noDefer ops = true) : ∀ (i : Nat) (o : Oper), ops.toArray[i]? = some o → ∀ c, o.op ≠ .defer c := by
  intro i o ho c e
  have hm : o ∈ ops := by
    rw [List.getElem?_toArray] at ho
    exact List.mem_of_getElem? ho
  have := List.all_eq_true.1 h o hm
  rw [e] at this
  cases this
theorem quiet_round {n : Nat} {P : Program} {id : Nat} {Q : Exit → Act → World → Prop} {a : Act} {w : World} {l : List Oper} {r : Nat} (hm : P.follows .mixedOrders = true) (hB : Region.lexB .any l.toArray = true) (hd : noDefer l = true)
    (h : wpQuietIn Fence.wide n P l.toArray (fun w' => ∃ n, w' = w.drewN n) (fun a' => ∀ w', (∃ n, w' = w.drewN n) → Q .normal a' w') l a) : (Code.region id l.toArray true).wpIn (Fence.wide.inRound r) n P Q a w := by
  simp only [Region.lexB, Bool.and_eq_true] at hB
  refine wpIn_region_any hm (any_round r rfl (noDefer_spec hd) _ _ _ _ (wpAnyIn_of_quiet (C := fun w' => ∃ n, w' = w.drewN n) (Q := fun a' => ∀ w', (∃ n, w' = w.drewN n) → Q .normal a' w') rfl (fun _ w' hw' h => h w' hw') _ _ _ _ ⟨1, rfl⟩ ?_))
  have := wpAnyQIn_lex (F := Fence.wide) (n := n) (C := fun w' => ∃ n, w' = w.drewN n) (md := .any) hB.1 l.toArray.toList 0 (Array.replicate l.toArray.size false) a (by simp) (by simpa using hB.2) (by simpa using h)
  simpa using this
set_option maxRecDepth 100000 in
set_option maxHeartbeats 4000000 in
theorem floors_stops (n b m : Nat) (w : World) (hB : Blk w b (bvs m)) :
    SeqStopsK Fence.wide n Try.prog 79 #[.pointer (some ⟨b, 0, none⟩)] (fun x : Fin 12 => #[Value.int .i64 (x.1 : Int)]) (KeepB b) (fun ys => ys = upF m 12) (fun pre => pre <+: upF m 12) 12 w := fun l J Jx W hW hJ hJx hY h0 => by
  refine callsIn_of_wp Try.func79 rfl trivial ?_ rfl
  simp only [Try.ntmps79, List.size_toArray, List.length_cons, List.length_nil, Nat.reduceAdd, Nat.reduceSub, Array.replicate_succ, Array.replicate_zero, List.push_toArray, List.append_toArray, List.nil_append, List.cons_append]
  gi_wp2
  gi_loopw [4] (fun i wr => ∃ k : Nat, k ≤ 12 ∧ i = .int .i64 k ∧ J (upF m k) wr ∧ Blk wr b (bvs m))
    (fun i _ => 12 - (intOf i).toNat)
  case atStart => exact ⟨0, Nat.zero_le _, rfl, h0, hB.below hW hB.lt⟩
  case round =>
    obtain ⟨k, hk, rfl, hJs, hB1⟩ := hrel
    by_cases hlt : k < 12
    · cases hbit : m.testBit k
      · gi_wp2_with (first | (refine load_arrIn 61 _ undFS (bvs_info m) hB1 rfl rfl rfl ?_) | (refine ⟨trivial, (fun h => by cases h), ?_⟩; refine (callsIn_wide.2 (has_any m k hlt _)).mono ?_; rw [hbit]; rintro e w1 ⟨rfl, hb⟩; have hJ1 := hJ _ _ _ none hJs (grown_of hb) (fun r e => by cases e); have hB2 := hB1.below hb hB1.lt))
        refine ⟨fun _ h => (by cases h), ?_⟩
        gi_wp2
        go_roundw
        case rel => exact ⟨k + 1, by omega, by simp, by rw [upF_no hbit]; exact hJ1, hB2⟩
        case measure => simp [intOf]; omega
      · gi_wp2_with (first | (refine load_arrIn 61 _ undFS (bvs_info m) hB1 rfl rfl rfl ?_) | (refine ⟨trivial, (fun h => by cases h), ?_⟩; refine (callsIn_wide.2 (has_any m k hlt _)).mono ?_; rw [hbit]; rintro e w1 ⟨rfl, hb⟩; have hJ1 := hJ _ _ _ none hJs (grown_of hb) (fun r e => by cases e); have hB2 := hB1.below hb hB1.lt; obtain ⟨fn, tmps, assign, body, hy, hR⟩ := hY _ ⟨k, hlt⟩ w1 hJ1 (Nat.lt_of_le_of_lt (upF_len m k) hlt); dsimp only at hy))
        refine ⟨(fun h => by cases h), ?_⟩
        refine hR.mono ?_
        rintro e W3 (⟨rfl, hJ3, hk3⟩ | ⟨rfl, hJx3⟩)
        · have hB3 := hB2.of hk3
          gi_wp2
          go_roundw
          case rel => exact ⟨k + 1, by omega, by simp, by rw [upF_yes hlt hbit]; exact hJ3, hB3⟩
          case measure => simp [intOf]; omega
        · gi_wp2
          refine bodyPost_ret (results_none rfl _ _ _) rfl ?_
          refine ⟨⟨_, rfl⟩, .inr ⟨_, ?_, hJx3⟩⟩
          rw [← upF_yes hlt hbit]
          have q := upF_pre m (k + 1) (12 - (k + 1))
          rw [show k + 1 + (12 - (k + 1)) = 12 by omega] at q
          exact q
    · obtain rfl : k = 12 := by omega
      gi_wp2
      go_end0
      exact ⟨⟨_, rfl⟩, .inl ⟨_, rfl, hJs⟩⟩
end Go.Proofs.Ytnpnlckdggakmaa
