/-
  People copied and cleared; the program's copied.
-/
import Derived.Test.YtoekhkolakielaaPersG
import Derived.Laws.CopyRow
import Derived.Laws.IdiomCopy
import Derived.OwnWalk
namespace Go.Proofs.Ytoekhkolakielaa
open Go.RowKit Pl
set_option linter.unusedSimpArgs false
set_option linter.unusedVariables false

theorem run_copy_rows {P : Program} (w : World) (dT sT ty elem : TypeId) (size g o dLen dCap : Nat) (a : Addr) (sLen sCap : Nat) (cur : Array Value) (t : TypeId) (cs : List Value)
    (hu : P.underlying dT = some (.slice elem)) (hs : (P.info? elem).map (·.size) = some size)
    (hg : w.heap[g]? = some (.cells cur t (0, 0))) (hn : cs.length = Nat.min sLen dLen * size)
    (hsrc : ∀ j v, cs[j]? = some v → w.cell? (a.add j) = some v) (hfit : o + cs.length ≤ cur.size) (h1 : ∀ v ∈ cs, v.oneCell' = true) :
    (Builtin.copy_ #[dT, sT] ty #[.slice (some ⟨g, o, none⟩) dLen dCap, .slice (some a) sLen sCap]).run P w =
      .ok (goInt (Nat.min sLen dLen)) (w.setRow g (cur.toList.take o ++ cs ++ cur.toList.drop (o + cs.length)).toArray) := by
  have hl := run_loadCells_list (P := P) w a cs hsrc
  have hst := run_storeCells_at P g o t cs 0 cur w hg (by simpa using hfit) h1
  rw [hn] at hl
  cases hq : P.info? elem with
  | none => simp [hq] at hs
  | some i =>
    have hi : i.size = size := by simpa [hq] using hs
    simp [Builtin.copy_, run_underlying hu, Builtin.lenOf, Builtin.firstCells, sizeOf, typeInfo, hq, hi, hl, hst]
theorem run_copy_zero {P : Program} (w : World) (dT sT ty elem : TypeId) (size : Nat) (d a : Option Addr) (dLen dCap sLen sCap : Nat) (hu : P.underlying dT = some (.slice elem)) (hs : (P.info? elem).map (·.size) = some size) (hn : Nat.min sLen dLen = 0) :
    (Builtin.copy_ #[dT, sT] ty #[.slice d dLen dCap, .slice a sLen sCap]).run P w = .ok (goInt 0) w := by
  cases hq : P.info? elem with
  | none => simp [hq] at hs
  | some i =>
    have hl : ∀ (x : Addr), (loadCells x 0).run P w = .ok #[] w := fun x => by simpa using run_loadCells_list (P := P) w x [] (by simp)
    cases d <;> cases a <;> simp [Builtin.copy_, run_underlying hu, Builtin.lenOf, Builtin.firstCells, sizeOf, typeInfo, hq, hn, storeCells, hl]
theorem grown_row {w : World} {g : Nat} (cs : Array Value) : w.grownBy (w.setRow g cs) (some g) :=
  ⟨rfl, rfl, rfl, by simp [World.setRow], fun i _ hne => setRow_other w g i cs (fun e => hne (by rw [e]))⟩
theorem flat_take {l : List Pe} {k : Nat} (hk : k ≤ l.length) : (flat l).take (k * 7) = flat (l.take k) := by
  have q : flat l = flat (l.take k) ++ flat (l.drop k) := by rw [← flat_append, List.take_append_drop]
  have z : (flat (l.take k)).length = k * 7 := by rw [flat_length, List.length_take]; omega
  rw [q]
  exact List.take_left' z
theorem flat_drop {l : List Pe} {k : Nat} (hk : k ≤ l.length) : (flat l).drop (k * 7) = flat (l.drop k) := by
  have q : flat l = flat (l.take k) ++ flat (l.drop k) := by rw [← flat_append, List.take_append_drop]
  have z : (flat (l.take k)).length = k * 7 := by rw [flat_length, List.length_take]; omega
  rw [q]
  exact List.drop_left' z
theorem splice_take (c : List Value) (a N : Nat) (m : List Value) (h : a + m.length ≤ N) (hN : N ≤ c.length) : (c.take a ++ m ++ c.drop (a + m.length)).take N = (c.take N).take a ++ (m ++ (c.take N).drop (a + m.length)) := by
  have e1 : c.drop (a + m.length) = (c.take N).drop (a + m.length) ++ c.drop N := by
    conv => lhs; rw [← List.take_append_drop N c]
    rw [List.drop_append_of_le_length (by rw [List.length_take]; omega)]
  have e2 : c.take a = (c.take N).take a := by rw [List.take_take, Nat.min_eq_left (by omega)]
  rw [e1, e2, ← List.append_assoc]
  rw [List.take_left' (by simp only [List.length_append, List.length_take, List.length_drop]; omega)]
  rw [List.append_assoc]
/-- A row, of which a part is laid anew. -/
theorem Ow.spliced {w : World} {B g n cap : Nat} {l : List Pe} (h : Ow w B g n cap l) (k : Nat) (m : List Pe) (hf : k + m.length ≤ n) :
    ∃ cur : Array Value, w.heap[g]? = some (.cells cur 42 (0, 0)) ∧ k * 7 + (flat m).length ≤ cur.size ∧ Ow (w.setRow g (cur.toList.take (k * 7) ++ flat m ++ cur.toList.drop (k * 7 + (flat m).length)).toArray) B g n cap (l.take k ++ (m ++ l.drop (k + m.length))) := by
  obtain ⟨hln, hx, hr⟩ := h
  rcases hr with ⟨e, _⟩ | ⟨g', cap', cur, e, hB, hg, hnc, hcm, hsz, htk⟩
  · cases e
  · cases e
    have hfm := flat_length m
    refine ⟨cur, hg, by rw [hfm, hsz]; omega, ?_, ?_⟩
    · simp only [List.length_append, List.length_take, List.length_drop]
      omega
    · refine ⟨?_, Or.inr ⟨g, cap, _, rfl, hB, setRow_heap w g cur _ 42 _ hg, hnc, hcm, ?_, ?_⟩⟩
      · rw [flat_length]
        simp only [List.length_append, List.length_take, List.length_drop]
        omega
      · simp only [List.size_toArray, List.length_append, List.length_take, List.length_drop, Array.length_toList, hfm]
        omega
      · have hcl : cur.toList.length = cap * 7 := by rw [Array.length_toList]; exact hsz
        have hfl : flat (l.take k) = (flat l).take (k * 7) := (flat_take (by omega)).symm
        have hfd : flat (l.drop (k + m.length)) = (flat l).drop (k * 7 + (flat m).length) := by
          rw [hfm, ← Nat.add_mul]
          exact (flat_drop (by omega)).symm
        show (cur.toList.take (k * 7) ++ flat m ++ cur.toList.drop (k * 7 + (flat m).length)).take (n * 7) = _
        rw [flat_append, flat_append, hfl, hfd, ← htk]
        exact splice_take _ _ _ _ (by omega) (by rw [hcl]; omega)
theorem infoPE7 : (Try.prog.info? 42).map (·.size) = some 7 := by kernel_rfl
/-- 'copy' into a row of people of one's own, at its k-th place. -/
theorem wpList_copy_ow {w : World} {ops : Array Oper} {rest : List Oper} {a : Act} {Q : Exit → Act → World → Prop} {d s : Operand} {dst : Option Tmp} {ty : TypeId} {ps : String} {af : Array Edge}
    (B g n cap : Nat) (l : List Pe) (hO : Ow w B g n cap l) (k : Nat) (m : List Pe) (dp sp : Option Addr) (dLen dCap sLen sCap : Nat) (hd : a.eval d = .slice dp dLen dCap) (hs : a.eval s = .slice sp sLen sCap) (hm : m.length = Nat.min sLen dLen)
    (hpos : 0 < m.length → dp = some ⟨g, k * 7, none⟩ ∧ ∃ b f, sp = some ⟨b, f, none⟩ ∧ ∀ i p, m[i]? = some p → P7 w b (f + i * 7) p) (hfit : k + m.length ≤ n)
    (h : ∀ w', Ow w' B g n cap (l.take k ++ (m ++ l.drop (k + m.length))) → w.grownBy w' (some g) → wpList Try.prog ops Q rest (a.put dst (goInt m.length)) w') : wpList Try.prog ops Q ({ dst := dst, op := .call { callee := .builtin .copy, args := #[d, s], argTypes := #[26, 26] }, type := ty, pos := ps, after := af, guard := none } :: rest) a w := by
  refine wpList_plain rfl fun K hK => ?_
  by_cases h0 : m.length = 0
  · have hrun := run_copy_zero (P := Try.prog) w 26 26 ty 42 7 dp sp dLen dCap sLen sCap undPS infoPE7 (by omega)
    have e : m = [] := List.eq_nil_of_length_eq_zero h0
    subst e
    have q := h w (by simpa using hO) (World.grownBy.refl w _)
    unfold Oper.wp
    simp [execOp, resolve, invoke, builtin, hd, hs, hrun, Result.andThen]
    exact hK _ _ q
  · obtain ⟨rfl, b, f, rfl, h7⟩ := hpos (by omega)
    obtain ⟨cur, hg, hfi, hO'⟩ := hO.spliced k m hfit
    have hrun := run_copy_rows (P := Try.prog) w 26 26 ty 42 7 g (k * 7) dLen dCap ⟨b, f, none⟩ sLen sCap cur 42 (flat m) undPS infoPE7 hg (by rw [flat_length, hm]) (news_at h7) hfi (flat_one m)
    rw [← hm] at hrun
    have q := h _ hO' (grown_row _)
    unfold Oper.wp
    simp [execOp, resolve, invoke, builtin, hd, hs, hrun, Result.andThen]
    exact hK _ _ (by simpa using q)
theorem zeroPE (w : World) : (zeroValue 42).run Try.prog w = .ok (.agg (cells7 zeroP).toArray) w := by kernel_rfl
/-- 'clear' of the k-th of a row of people of one's own. -/
theorem wpList_clear_ow {w : World} {ops : Array Oper} {rest : List Oper} {a : Act} {Q : Exit → Act → World → Prop} {s : Operand} {dst : Option Tmp} {ty : TypeId} {ps : String} {af : Array Edge}
    (B g n cap : Nat) (l : List Pe) (hO : Ow w B g n cap l) (k c : Nat) (hs : a.eval s = .slice (some ⟨g, k * 7, none⟩) 1 c) (hk : k < n)
    (h : ∀ w', Ow w' B g n cap (l.take k ++ ([zeroP] ++ l.drop (k + 1))) → w.grownBy w' (some g) → wpList Try.prog ops Q rest (a.put dst (.tuple #[])) w') : wpList Try.prog ops Q ({ dst := dst, op := .call { callee := .builtin .clear, args := #[s], argTypes := #[26] }, type := ty, pos := ps, after := af, guard := none } :: rest) a w := by
  refine wpList_plain rfl fun K hK => ?_
  obtain ⟨cur, hg, hfi, hO'⟩ := hO.spliced k [zeroP] (by simp; omega)
  have hst := run_storeCells_at Try.prog g (k * 7) 42 (flat [zeroP]) 0 cur w hg (by simpa using hfi) (flat_one _)
  have hz : (Builtin.zeroCells (Value.agg (cells7 zeroP).toArray).cells 1).toList = flat [zeroP] := by kernel_rfl
  obtain ⟨z, hzz⟩ : ∃ z, Value.agg (cells7 zeroP).toArray = z := ⟨_, rfl⟩
  have zp : ∀ w, (zeroValue 42).run Try.prog w = .ok z w := fun w => by rw [← hzz]; exact zeroPE w
  rw [hzz] at hz
  have hrun : (Builtin.clear_ #[26] ty #[.slice (some ⟨g, k * 7, none⟩) 1 c]).run Try.prog w = .ok (.tuple #[]) (w.setRow g (cur.toList.take (k * 7) ++ flat [zeroP] ++ cur.toList.drop (k * 7 + (flat [zeroP]).length)).toArray) := by
    simp only [Nat.add_zero] at hst
    simp [Builtin.clear_, run_underlying undPS, zp, hz, hst]
  have q := h _ hO' (grown_row _)
  unfold Oper.wp
  simp [execOp, resolve, invoke, builtin, hs, hrun, Result.andThen]
  exact hK _ _ (by simpa using q)
theorem pin_some {w : World} {B : Nat} {a : Option Addr} {l : List Pe} (h : PIn w B a l) (hpos : 0 < l.length) : ∃ b f, a = some ⟨b, f, none⟩ ∧ ∀ i p, l[i]? = some p → P7 w b (f + i * 7) p := by
  rcases h with h0 | ⟨b, o, e, hbl, h7⟩
  · rw [h0] at hpos; simp at hpos
  · exact ⟨b, o, e, h7⟩
set_option maxRecDepth 20000 in
set_option maxHeartbeats 16000000 in
theorem copied_any (l : List Pe) (a : Option Addr) (cap : Nat) (n : Nat) (hl : n ≤ 1048576) (hn : l.length ≤ n) (w : World) (hP : PIn w w.heap.size a l) :
    Calls Try.prog 37 #[.slice a l.length cap, .int .i64 n] w fun e w' => ∃ g, e = .returned (.slice (some ⟨g, 0, none⟩) n n) ∧ Ow w' w.heap.size g n n (l ++ List.replicate (n - l.length) zeroP) ∧ Below w.heap.size w w' := by
  have HP : Hid (PIn w w.heap.size a l) := hP
  have hmk := make_people n hl
  obtain ⟨g, hg⟩ : ∃ g, g = w.heap.size := ⟨_, rfl⟩
  obtain ⟨W0, hW0⟩ : ∃ W0, W0 = w.alloc (.cells (madeCells (cells7 zeroP).toArray (n * 7)) 42) := ⟨_, rfl⟩
  have FO : Hid (Ow W0 w.heap.size g n n (List.replicate n zeroP)) := by rw [hW0, hg]; exact own_made n hl w _ (Nat.le_refl _)
  have FB : Hid (Below w.heap.size w W0) := by rw [hW0]; exact (Below.refl _ _).alloc (Nat.le_refl _) _
  have HP0 : Hid (PIn W0 w.heap.size a l) := hP.below FB.out (Nat.le_refl _)
  have HW : Hid (W0 = w.alloc (.cells (madeCells (cells7 zeroP).toArray (n * 7)) 42) ∧ g = w.heap.size) := ⟨hW0, hg⟩
  clear hP hW0 hg
  go_enter Try.func37, Try.ntmps37
  go_upto_region 2 with fail
  rw [← HW.out.1, ← HW.out.2]
  go_wp2_with (refine wpList_copy_ow w.heap.size g n n _ FO.out 0 l (some ⟨g, 0, none⟩) a n n l.length cap rfl rfl (by simp [Nat.min_eq_left hn]) (fun hpos => ⟨by simp, (pin_some HP0.out hpos)⟩) (by omega) ?_; intro w1 ho hg; have FO1 : Hid (Ow w1 w.heap.size g n n (l ++ List.replicate (n - l.length) zeroP)) := (by have q := ho; rw [List.take_zero, List.nil_append, Nat.zero_add, List.drop_replicate] at q; exact q); have FB1 : Hid (Below w.heap.size w w1) := FB.out.grown hg FB.out.size (fun j hj => by have e : g = j := Option.some.inj hj; have := FO.out.bl.1; omega); clear ho hg)
  go_ret
  exact ⟨g, rfl, FO1.out, FB1.out⟩
end Go.Proofs.Ytoekhkolakielaa
