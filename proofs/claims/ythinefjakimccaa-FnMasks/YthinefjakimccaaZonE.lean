/-
  Zones: the floors of a set, collected; the nearest, the middle one (the program).
-/
import Derived.Test.YthinefjakimccaaZonD
import Derived.Test.YthinefjakimccaaInts
import Derived.Test.YthinefjakimccaaFnd
import Derived.Sort.QuietIn
namespace Go.Proofs.Ythinefjakimccaa
open Go.RowKit Go.Shelf Pl
set_option linter.unusedSimpArgs false
set_option linter.unusedVariables false
attribute [local go_sem] Oper.semAt_some

theorem numF_snoc (pre : List (Fin 12)) (x : Fin 12) : numF (pre ++ [x]) = numF pre ++ [(x.1 : Int)] := by simp [numF]
theorem below_putObj {B D : Nat} {w W : World} (h : Below B w W) {o o' : Obj} (hD : B ≤ D) (hB : B ≤ W.heap.size) (hK : W.heap[D]? = some o) : Below B w (W.putObj D o') :=
  h.trans ((Below.refl B W).grown (grownBy_putObj' W D o') hB (fun k e => by cases e; exact hD))
set_option maxRecDepth 100000 in
set_option maxHeartbeats 4000000 in
theorem appendSeq_any (b m : Nat) (w : World) (hB : Blk w b (bvs m)) :
    Calls Try.prog 68 #[.slice none 0 0, .func (.func 69) #[] #[.pointer (some ⟨b, 0, none⟩)]] w fun e w' => ∃ v, e = .returned v ∧ OwI w' w.heap.size v (fls 12 m) ∧ Below w.heap.size w w' := by
  refine (callsIn_wide (n := 5)).1 ?_
  obtain ⟨i0, hi, hz0, hz1, hz2⟩ := info_parts info64
  refine callsIn_of_wp_marks Try.func68 rfl trivial ?_ rfl
  simp only [Try.ntmps68, List.size_toArray, List.length_cons, List.length_nil, Nat.reduceAdd, Nat.reduceSub, Array.replicate_succ, Array.replicate_zero, List.push_toArray, List.append_toArray, List.nil_append, List.cons_append]
  gi_wp2
  have bO := Boxed.new w 24 (.slice none 0 0)
  have hB0 : Below w.heap.size w (w.alloc (.cells #[.slice none 0 0] 24)) := (Below.refl _ w).alloc (Nat.le_refl _) _
  have hlt := hB.lt
  refine wpIn_rangeFunc_ownG rfl (by omega) (gf := 69) (lb := #[.pointer (some ⟨b, 0, none⟩)]) rfl trivial (enters_of Try.func69 (by kernel_rfl) rfl)
    (floors_stops _ b m _ (hB.alloc _)) keepB_t (keepB_b (by simp; omega)) (Below.refl _ _) (fun _ => rfl)
    (fun pre W => (∃ v, Boxed W w.heap.size 24 v ∧ W.ownsRow w.heap.size 2 1 v (numF pre).length ((numF pre).map (Value.int .i64)) ∧ True) ∧ Below w.heap.size w W)
    (fun _ _ _ => False)
    (OwnFrom.and (Own.from (holdsRow_own w.heap.size w.heap.size 24 2 1 (fun pre => (numF pre).length) (fun pre => (numF pre).map (Value.int .i64)) (fun pre v => True)) _) (ownFrom_below (Nat.le_refl _) (by simp)))
    (fun _ _ _ _ _ hs _ _ => hs)
    ⟨⟨_, bO, World.ownsRow_nil _ _ _ _, trivial⟩, hB0⟩
    (fun x => { tmps := #[.slice none 0 0, .func (.func 69) #[] #[.pointer (some ⟨b, 0, none⟩)], .pointer (some ⟨w.heap.size, 0, none⟩), undef, .slice none 0 0, .int .i64 (x.1 : Int), .func (.func 69) #[] #[.pointer (some ⟨b, 0, none⟩)], .int .i64 (x.1 : Int), undef, undef, undef, undef, undef], defers := [] }) ?assign ?body ?done ?stop
  case assign =>
    intro l x W K hK
    gi_wp2
    exact hK
  case body =>
    rintro l pre x W ⟨⟨v, hv, hrow, -⟩, hBW⟩ hlen
    have hc := hv.cell
    have hpl : (numF pre).length < 12 := by unfold numF; rw [List.length_map]; exact hlen
    clear hlen
    gi_wp2_with (gi_at_builtin; refine wpListIn_append_own _ rfl _ _ 24 rfl w.heap.size 2 i0 (.int .i64 0) 1 8 undI64S hi hz0 hz1 hz2 rfl (by decide) _ _ _ rfl (hrow.alloc _) ⟨W.heap.size, 0, none⟩ 1 1 [.int .i64 (x.1 : Int)] rfl rfl (cell_one_new _ _ _) (by simp [Value.oneCell']) (by unfold maxLen; omega) (by omega) (by have := hBW.size; simp; omega) ?_; intro v' w1 hown' hgrow _; obtain ⟨g', cap', rfl⟩ := ownsRow_succ hown'; obtain ⟨hv1, hv2, hr2, hk2, hb2⟩ := hv.appended (by decide) hrow hBW.size (Nat.le_refl _) hown' hgrow; have hc1 := hv1.cell; have hf1 := hv1.frozen)
    exact ⟨hk2.from _, hb2.block b hlt, ⟨_, hv2, by rw [numF_snoc]; simpa using hr2, trivial⟩, hBW.trans hb2⟩
  case done =>
    rintro D ys W hD rfl ⟨⟨v, hv, hrow, -⟩, hBW⟩ hK
    have hc := hv.cell
    gi_wp2
    refine ⟨by simp, .inl ⟨_, _, rfl, run_takeDeferred hK, ?_⟩⟩
    refine ⟨_, results_tmp rfl _ _ _, v, rfl, ?_, below_putObj hBW (by simp at hD; omega) hBW.size hK⟩
    have q := ownsRow_putObj hrow (.deferred none) hK rfl
    rw [numF_up m 12 (Nat.le_refl _)] at q
    exact q
  case stop =>
    rintro D c pre W _ _ h _
    exact h.elim
set_option maxHeartbeats 4000000 in
theorem collect_any (b m : Nat) (w : World) (hB : Blk w b (bvs m)) :
    Calls Try.prog 40 #[.func (.func 69) #[] #[.pointer (some ⟨b, 0, none⟩)]] w fun e w' => ∃ v, e = .returned v ∧ OwI w' w.heap.size v (fls 12 m) ∧ Below w.heap.size w w' := by
  go_enter Try.func40, Try.ntmps40
  go_wp2_with (go_at_call 68; refine (appendSeq_any b m _ hB).mono ?_; rintro e w1 ⟨v, rfl, ho, hb⟩)
  go_ret
  exact ⟨v, rfl, ho, hb⟩
theorem sz_i64 {x : Int} (h1 : -100 ≤ x) (h2 : x ≤ 100) : sz x = (x.natAbs : Int) := by unfold sz; split <;> omega
theorem near_bd (pre : List (Fin 12)) (f : Int) : -12 ≤ nearL (numF pre) f (-12) ∧ nearL (numF pre) f (-12) ≤ 11 := by
  rcases nearL_mem (numF pre) f (-12) with e | e
  · rw [e]; omega
  · unfold numF at e
    obtain ⟨x, _, hx⟩ := List.mem_map.1 e
    have := x.2
    unfold numF
    omega
theorem blk_own {β : Type} (B b : Nat) (f : β → List Value) : OwnFrom B (fun s W => Blk W b (f s)) := fun s A C row h hg hr => h.kept hg (fun r e => (hr r e).2)
set_option maxRecDepth 100000 in
set_option maxHeartbeats 8000000 in
theorem nearest_any (m : Nat) (f : Int) (f1 : 0 ≤ f) (f2 : f ≤ 11) (w : World) :
    Calls Try.prog 47 #[.agg (bvs m).toArray, .int .i64 f] w fun e w' => e = .returned (.int .i64 (nearL (fls 12 m) f (-12))) ∧ Below w.heap.size w w' := by
  refine (callsIn_wide (n := 5)).1 ?_
  have F0 : Blk (((w.alloc (.cells (bvs m).toArray 53)).alloc (.cells #[.int .i64 f] 2)).alloc (.cells #[.int .i64 (-12)] 2)) w.heap.size (bvs m) := ((Blk.at_ w (bvs m).toArray _ _ rfl).alloc _).alloc _
  refine callsIn_of_wp_marks Try.func47 rfl trivial ?_ rfl
  simp only [Try.ntmps47, List.size_toArray, List.length_cons, List.length_nil, Nat.reduceAdd, Nat.reduceSub, Array.replicate_succ, Array.replicate_zero, List.push_toArray, List.append_toArray, List.nil_append, List.cons_append]
  gi_wp2_with (first | (refine load_arrIn 53 _ undFS (bvs_info m) F0 rfl rfl rfl ?_) | (refine ⟨trivial, ?_⟩; refine (callsIn_wide.2 (floors_any m _)).mono ?_; rintro e w1 ⟨rfl, hw0⟩; have hw : Hid (w1 = (((w.alloc (.cells (bvs m).toArray 53)).alloc (.cells #[.int .i64 f] 2)).alloc (.cells #[.int .i64 (-12)] 2)).alloc (.cells (bvs m).toArray 53)) := hw0; clear hw0))
  obtain ⟨b0, hb0⟩ : ∃ b0, b0 = w.heap.size := ⟨_, rfl⟩
  obtain ⟨b1, hb1⟩ : ∃ b1, b1 = b0 + 1 := ⟨_, rfl⟩
  obtain ⟨b2, hb2⟩ : ∃ b2, b2 = b0 + 1 + 1 := ⟨_, rfl⟩
  obtain ⟨b3, hb3⟩ : ∃ b3, b3 = b0 + 1 + 1 + 1 := ⟨_, rfl⟩
  have F1 : Blk w1 b1 [.int .i64 f] := by rw [hw.out]; exact ((Blk.at_ _ #[.int .i64 f] _ _ (by simp; omega)).alloc _).alloc _
  have F2 : Blk w1 b2 [.int .i64 (-12)] := by rw [hw.out]; exact (Blk.at_ _ #[.int .i64 (-12)] _ _ (by simp; omega)).alloc _
  have F3 : Blk w1 b3 (bvs m) := by rw [hw.out]; exact Blk.at_ _ (bvs m).toArray _ _ (by simp; omega)
  have FB : Below w.heap.size w w1 := by rw [hw.out]; exact ((((Below.refl _ _).alloc (Nat.le_refl _) _).alloc (by simp) _).alloc (by simp; omega) _).alloc (by simp; omega) _
  have l2 : w.heap.size ≤ b2 := by omega
  have n12 : b1 ≠ b2 := by omega
  have n32 : b3 ≠ b2 := by omega
  rw [← hb0, ← hb3, ← hb2, ← hb1]
  clear hw F0 hb0 hb1 hb2 hb3
  refine wpIn_rangeFunc_ownG rfl (by omega) (gf := 69) (lb := #[.pointer (some ⟨b3, 0, none⟩)]) rfl trivial (enters_of Try.func69 (by kernel_rfl) rfl)
    (floors_stops _ b3 m _ F3) keepB_t (keepB_b F3.lt) (Below.refl _ _) (fun _ => rfl)
    (fun pre W => (Blk W b1 [.int .i64 f] ∧ Blk W b2 [.int .i64 (nearL (numF pre) f (-12))]) ∧ Below w.heap.size w W)
    (fun _ _ _ => False)
    (OwnFrom.and (OwnFrom.and (blk_own _ b1 (fun _ => [.int .i64 f])) (blk_own _ b2 (fun pre => [.int .i64 (nearL (numF pre) f (-12))]))) (ownFrom_below (Nat.le_refl _) FB.size))
    (fun _ _ _ _ _ hs _ _ => hs)
    ⟨⟨F1, F2⟩, FB⟩
    (fun x => { tmps := #[.agg (bvs m).toArray, .int .i64 f, .pointer (some ⟨b0, 0, none⟩), .pointer (some ⟨b1, 0, none⟩), .int .i64 0, .pointer (some ⟨b2, 0, none⟩), .int .i64 (x.1 : Int), .agg (bvs m).toArray, Value.func (.func 69) #[] #[.pointer (some ⟨b3, 0, none⟩)], .int .i64 (x.1 : Int), undef, undef, undef, undef, undef, undef, undef, undef, undef, undef, undef], defers := [] }) ?assign ?body ?done ?stop
  case assign =>
    intro l x W K hK
    gi_wp2
    exact hK
  case body =>
    rintro l pre x W ⟨⟨h1, h2⟩, hBW⟩ hlen
    have c1 := h1.c 0 _ rfl
    have c2 := h2.c 0 _ rfl
    have fz2 := h2.f 0 (by simp)
    have nb := near_bd pre f
    have hx := x.2
    obtain ⟨q, hq⟩ : ∃ q, nearL (numF pre) f (-12) = q := ⟨_, rfl⟩
    rw [hq] at nb c2
    have e1 : IntKind.i64.wrap ((x.1 : Int) - f) = (x.1 : Int) - f := IntWalk.i64_in _ (by omega)
    have e2 : IntKind.i64.wrap (q - f) = q - f := IntWalk.i64_in _ (by omega)
    gi_wp2_with fail
    refine quiet_round (by kernel_rfl) (by kernel_rfl) (by kernel_rfl) ?_
    repeat (refine wpQuietIn_step (by intro _ _ _ _; exact trivial) (fun K hK => ?_); go_simp; first | (refine hK _ ?_; clear hK K) | (apply Exists.intro; refine ⟨fun _ => ?_, hK _ ?_⟩; (exact CallsIn.quiet_of_same (callsIn_wide.2 (sizeOf_any _ (by omega) (by omega) _))); clear hK K))
    refine wpQuietIn_nil ?_
    intro _ hw'
    obtain ⟨nq, hw''⟩ := hw'
    subst hw''
    obtain ⟨W2, hW2⟩ : ∃ W2, W2 = W.drewN nq := ⟨_, rfl⟩
    have e0 : W2.heap = W.heap := by rw [hW2]; rfl
    have g1 : Blk W2 b1 [.int .i64 f] := h1.of (by rw [e0])
    have g2 : Blk W2 b2 [.int .i64 (nearL (numF pre) f (-12))] := h2.of (by rw [e0])
    have gb : Below w.heap.size w W2 := by rw [hW2]; exact ⟨hBW.os, hBW.tape, hBW.output, hBW.size, hBW.block⟩
    have gk : KeepsOthers W W2 := ⟨by rw [e0]; exact Nat.le_refl _, fun k o h _ => by rw [e0]; exact h⟩
    have gf := g2.f 0 (by simp)
    have gc := g2.c 0 _ rfl
    have hs := nearL_snoc (numF pre) (x.1 : Int) f (-12)
    rw [hq] at hs gc
    rw [← hW2]
    rw [sz_i64 (by omega) (by omega), sz_i64 (by omega) (by omega)]
    have HS : Hid (nearL (numF (pre ++ [x])) f (-12) = if ((x.1 : Int) - f).natAbs < (q - f).natAbs then (x.1 : Int) else q) := by rw [numF_snoc]; exact hs
    have HQ : Hid (nearL (numF pre) f (-12) = q) := hq
    clear hW2 c1 c2 fz2 nb hs hq
    by_cases d : ((x.1 : Int) - f).natAbs < (q - f).natAbs
    · have dd : decide (((((x.1 : Int) - f).natAbs : Nat) : Int) < (((q - f).natAbs : Nat) : Int)) = true := decide_eq_true (by omega)
      have HE : Hid (nearL (numF (pre ++ [x])) f (-12) = (x.1 : Int)) := by show _ = _; rw [HS.out, if_pos d]
      rw [dd]
      clear d dd HS
      gi_wp2
      exact ⟨(gk.trans (KeepsOthers.setCell _ _ _)).from _, (Below.heap_setCell W2 ⟨b2, 0, none⟩ _ b3 n32).trans (by rw [e0]), ⟨g1.other n12, by rw [HE.out]; exact g2.set _ (by simp)⟩, gb.setCell l2 _⟩
    · have dd : decide (((((x.1 : Int) - f).natAbs : Nat) : Int) < (((q - f).natAbs : Nat) : Int)) = false := decide_eq_false (by omega)
      have HE : Hid (nearL (numF (pre ++ [x])) f (-12) = nearL (numF pre) f (-12)) := by show _ = _; rw [HS.out, if_neg d, HQ.out]
      rw [dd]
      clear d dd HS
      gi_wp2
      exact ⟨gk.from _, by show W2.heap[b3]? = W.heap[b3]?; rw [e0], ⟨g1, by rw [HE.out]; exact g2⟩, gb⟩
  case done =>
    rintro D ys W hD rfl ⟨⟨h1, h2⟩, hBW⟩ hK
    have c2 := h2.c 0 _ rfl
    gi_wp2
    refine ⟨by simp, .inl ⟨_, _, rfl, run_takeDeferred hK, ?_⟩⟩
    refine ⟨_, results_tmp rfl _ _ _, ?_, below_putObj hBW (by have := FB.size; omega) hBW.size hK⟩
    rw [numF_up m 12 (Nat.le_refl _)]
    rfl
  case stop =>
    rintro D c pre W _ _ h _
    exact h.elim
end Go.Proofs.Ythinefjakimccaa
