/-
  Zones: the floors of a set, collected; the nearest, the middle one (the program).
-/
import Derived.Test.YtnpnlckdggakmaaZonD
import Derived.Test.YtnpnlckdggakmaaInts
import Derived.Test.YtnpnlckdggakmaaFnd
import Derived.Sort.QuietIn
namespace Go.Proofs.Ytnpnlckdggakmaa
open Go.RowKit Go.Shelf Pl
set_option linter.unusedSimpArgs false
set_option linter.unusedVariables false
attribute [local go_sem] Oper.semAt_some

theorem numF_snoc (pre : List (Fin 12)) (x : Fin 12) : numF (pre ++ [x]) = numF pre ++ [(x.1 : Int)] := by simp [numF]
theorem below_putObj {B D : Nat} {w W : World} (h : Below B w W) {o o' : Obj} (hD : B ≤ D) (hB : B ≤ W.heap.size) (hK : W.heap[D]? = some o) : Below B w (W.putObj D o') :=
  h.trans ((Below.refl B W).grown (grownBy_putObj' W D o') hB (fun k e => by cases e; exact hD))
set_option maxRecDepth 100000 in
set_option maxHeartbeats 4000000 in
theorem appendSeq_any (b m : Nat) (w : World) (hB : Blk w b (bvs m)) :
    Calls Try.prog 85 #[.slice none 0 0, .func (.func 79) #[] #[.pointer (some ⟨b, 0, none⟩)]] w fun e w' => ∃ v, e = .returned v ∧ OwI w' w.heap.size v (fls 12 m) ∧ Below w.heap.size w w' := by
  refine (callsIn_wide (n := 5)).1 ?_
  obtain ⟨i0, hi, hz0, hz1, hz2⟩ := info_parts info64
  refine callsIn_of_wp_marks Try.func85 rfl trivial ?_ rfl
  simp only [Try.ntmps85, List.size_toArray, List.length_cons, List.length_nil, Nat.reduceAdd, Nat.reduceSub, Array.replicate_succ, Array.replicate_zero, List.push_toArray, List.append_toArray, List.nil_append, List.cons_append]
  gi_wp2
  have bO := Boxed.new w 28 (.slice none 0 0)
  have hB0 : Below w.heap.size w (w.alloc (.cells #[.slice none 0 0] 28)) := (Below.refl _ w).alloc (Nat.le_refl _) _
  have hlt := hB.lt
  refine wpIn_rangeFunc_ownG rfl (by omega) (gf := 79) (lb := #[.pointer (some ⟨b, 0, none⟩)]) rfl trivial (enters_of Try.func79 (by kernel_rfl) rfl)
    (floors_stops _ b m _ (hB.alloc _)) keepB_t (keepB_b (by simp; omega)) (Below.refl _ _) (fun _ => rfl)
    (fun pre W => (∃ v, Boxed W w.heap.size 28 v ∧ W.ownsRow w.heap.size 2 1 v (numF pre).length ((numF pre).map (Value.int .i64)) ∧ True) ∧ Below w.heap.size w W)
    (fun _ _ _ => False)
    (OwnFrom.and (Own.from (holdsRow_own w.heap.size w.heap.size 28 2 1 (fun pre => (numF pre).length) (fun pre => (numF pre).map (Value.int .i64)) (fun pre v => True)) _) (ownFrom_below (Nat.le_refl _) (by simp)))
    (fun _ _ _ _ _ hs _ _ => hs)
    ⟨⟨_, bO, World.ownsRow_nil _ _ _ _, trivial⟩, hB0⟩
    (fun x => { tmps := #[.slice none 0 0, .func (.func 79) #[] #[.pointer (some ⟨b, 0, none⟩)], .pointer (some ⟨w.heap.size, 0, none⟩), undef, .slice none 0 0, .int .i64 (x.1 : Int), .func (.func 79) #[] #[.pointer (some ⟨b, 0, none⟩)], .int .i64 (x.1 : Int), undef, undef, undef, undef, undef], defers := [] }) ?assign ?body ?done ?stop
  case assign =>
    intro l x W K hK
    gi_wp2
    exact hK
  case body =>
    rintro l pre x W ⟨⟨v, hv, hrow, -⟩, hBW⟩ hlen
    have hc := hv.cell
    have hpl : (numF pre).length < 12 := by unfold numF; rw [List.length_map]; exact hlen
    clear hlen
    gi_wp2_with (gi_at_builtin; refine wpListIn_append_own _ rfl _ _ 28 rfl w.heap.size 2 i0 (.int .i64 0) 1 8 undI64S hi hz0 hz1 hz2 rfl (by decide) _ _ _ rfl (hrow.alloc _) ⟨W.heap.size, 0, none⟩ 1 1 [.int .i64 (x.1 : Int)] rfl rfl (cell_one_new _ _ _) (by simp [Value.oneCell']) (by unfold maxLen; omega) (by omega) (by have := hBW.size; simp; omega) ?_; intro v' w1 hown' hgrow _; obtain ⟨g', cap', rfl⟩ := ownsRow_succ hown'; obtain ⟨hv1, hv2, hr2, hk2, hb2⟩ := hv.appended (by decide) hrow hBW.size (Nat.le_refl _) hown' hgrow; have hc1 := hv1.cell; have hf1 := hv1.frozen)
    exact ⟨hk2.from _, hb2.block b hlt, ⟨_, hv2, by rw [numF_snoc]; simpa using hr2, trivial⟩, hBW.trans hb2⟩
  case done =>
    rintro D ys W hD rfl ⟨⟨v, hv, hrow, -⟩, hBW⟩ hK
    have hc := hv.cell
    gi_wp2
    refine ⟨by simp, .inl ⟨_, _, rfl, run_takeDeferred hK, ?_⟩⟩
    refine ⟨_, results_tmp rfl _ _ _, v, rfl, ?_, below_putObj hBW (by simp at hD; omega) hBW.size hK⟩
    have q := ownsRow_putObj hrow (.deferred none) hK rfl
    rw [numF_up m 12 (Nat.le_refl _)] at q
    exact q
  case stop =>
    rintro D c pre W _ _ h _
    exact h.elim
set_option maxHeartbeats 4000000 in
theorem collect_any (b m : Nat) (w : World) (hB : Blk w b (bvs m)) :
    Calls Try.prog 80 #[.func (.func 79) #[] #[.pointer (some ⟨b, 0, none⟩)]] w fun e w' => ∃ v, e = .returned v ∧ OwI w' w.heap.size v (fls 12 m) ∧ Below w.heap.size w w' := by
  go_enter Try.func80, Try.ntmps80
  go_wp2_with (go_at_call 85; refine (appendSeq_any b m _ hB).mono ?_; rintro e w1 ⟨v, rfl, ho, hb⟩)
  go_ret
  exact ⟨v, rfl, ho, hb⟩
theorem sz_i64 {x : Int} (h1 : -100 ≤ x) (h2 : x ≤ 100) : sz x = (x.natAbs : Int) := by unfold sz; split <;> omega
theorem near_bd (pre : List (Fin 12)) (f : Int) : -12 ≤ nearL (numF pre) f (-12) ∧ nearL (numF pre) f (-12) ≤ 11 := by
  rcases nearL_mem (numF pre) f (-12) with e | e
  · rw [e]; omega
  · unfold numF at e
    obtain ⟨x, _, hx⟩ := List.mem_map.1 e
    have := x.2
    unfold numF
    omega
theorem blk_own {β : Type} (B b : Nat) (f : β → List Value) : OwnFrom B (fun s W => Blk W b (f s)) := fun s A C row h hg hr => h.kept hg (fun r e => (hr r e).2)
end Go.Proofs.Ytnpnlckdggakmaa
